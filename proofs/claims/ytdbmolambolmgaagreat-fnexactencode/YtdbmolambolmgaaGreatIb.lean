import Derived.Test.YtdbmolambolmgaaGreatHk
import Derived.Deep.Slices
import Derived.ProofKit
import Derived.OpenShut
import Derived.Test.YtdbmolambolmgaaGreatHj
set_option linter.all false
set_option maxHeartbeats 16000000
set_option maxRecDepth 100000
namespace Go.Proofs.YtdbmolambolmgaaGreat
open Go.RowKit Go.ChangeShapes Go.WideShapes Go.ChangeAt
set_option maxRecDepth 100000
theorem big {n:Nat} (h:n≤maxLen):n≤9223372036854775807:=by unfold maxLen at h;omega
theorem ko2:Tryz.prog.cellsOf 2=1:=by kernel_rfl
theorem ko4:Tryz.prog.cellsOf 4=1:=by kernel_rfl
theorem ko5:Tryz.prog.cellsOf 5=1:=by kernel_rfl
theorem ko9:Tryz.prog.cellsOf 9=1:=by kernel_rfl
theorem kou:Tryz.prog.cellsOf 133=1:=by kernel_rfl
theorem koi:Tryz.prog.cellsOf 24=1:=by kernel_rfl
theorem kob:Tryz.prog.cellsOf 50=1:=by kernel_rfl
theorem ko_Limits:Tryz.prog.cellsOf 162=3:=by kernel_rfl
theorem kl_Limits:Tryz.prog.cellsOf 25=1:=by kernel_rfl
theorem ko_GType:Tryz.prog.cellsOf 163=2:=by kernel_rfl
theorem ko_FType:Tryz.prog.cellsOf 160=2:=by kernel_rfl
theorem kl_FType:Tryz.prog.cellsOf 22=1:=by kernel_rfl
theorem ko_In:Tryz.prog.cellsOf 289=5:=by kernel_rfl
theorem kl_In:Tryz.prog.cellsOf 167=1:=by kernel_rfl
theorem ko_Imp:Tryz.prog.cellsOf 165=9:=by kernel_rfl
theorem kl_Imp:Tryz.prog.cellsOf 23=1:=by kernel_rfl
theorem ko_Glob:Tryz.prog.cellsOf 169=3:=by kernel_rfl
theorem kl_Glob:Tryz.prog.cellsOf 26=1:=by kernel_rfl
theorem ko_Exp:Tryz.prog.cellsOf 171=3:=by kernel_rfl
theorem kl_Exp:Tryz.prog.cellsOf 27=1:=by kernel_rfl
theorem ko_Ele:Tryz.prog.cellsOf 174=2:=by kernel_rfl
theorem kl_Ele:Tryz.prog.cellsOf 28=1:=by kernel_rfl
theorem ko_Grp:Tryz.prog.cellsOf 292=2:=by kernel_rfl
theorem kl_Grp:Tryz.prog.cellsOf 176=1:=by kernel_rfl
theorem ko_Cod:Tryz.prog.cellsOf 178=2:=by kernel_rfl
theorem kl_Cod:Tryz.prog.cellsOf 29=1:=by kernel_rfl
theorem ko_Dat:Tryz.prog.cellsOf 181=2:=by kernel_rfl
theorem kl_Dat:Tryz.prog.cellsOf 30=1:=by kernel_rfl
theorem ko_Cus:Tryz.prog.cellsOf 183=3:=by kernel_rfl
theorem kl_Cus:Tryz.prog.cellsOf 31=1:=by kernel_rfl
theorem ko_Mod:Tryz.prog.cellsOf 33=13:=by kernel_rfl
theorem hi_take {k:IntKind} {W:World} {a:Addr} {len:Nat} {zs:List Int} (hl:len≤zs.length) (hc:∀ i,i<zs.length→W.cell? (a.add i)=some (.int k (zs.getD i 0))):HI k 0 W (some a) (zs.take len):=by
 by_cases h0:len=0
 · subst h0;exact .inl (by simp)
 · obtain ⟨b,off,spot⟩:=a
   have h1:=hc 0 (by omega)
   have hspot:spot=none:=by simpa [Addr.add] using World.cell?_spot h1
   subst hspot
   refine .inr ⟨b,off,rfl,Nat.zero_le _,fun i hi=>?_⟩
   have hi':i<len:=by simp at hi;omega
   have h2:=hc i (by omega)
   have e:(zs.take len).getD i 0=zs.getD i 0:=by simp [List.getD,hi']
   rw [e]
   rwa [Addr.add_lit] at h2
theorem val_ints {H:Type} {enc:TypeId × Value→H} {W:World} {n:Nat} {v:Value} {y:DataW H × List MemPlace} (g:DataW.trod enc Tryz.prog W 0 (fun _=>true) true n 24 [v]=some y) :
    ∃ (a:Option Addr) (c:Nat) (l:List Int),v=.slice a l.length c∧l.length≤maxLen∧HI .i64 0 W a l:=by
 rcases open_ints Tryz.underlying24 Tryz.underlying2 ko2 g with ⟨hcs,_⟩ | ⟨x,len,cap,zs,hcs,_,hl,hm,hz,_,hc,_⟩
 · simp at hcs
   subst hcs
   exact ⟨none,0,[],rfl,Nat.zero_le _,.inl rfl⟩
 · simp at hcs hz
   subst hcs
   exact ⟨some x,cap,zs.take len,by simp;omega,by simp;omega,hi_take (by omega) hc⟩
theorem open_list {R H:Type} {enc:TypeId × Value→H} {W:World} (z:R) (At:Nat→Nat→R→Prop) (Pr:R→Prop) {t te:TypeId} {sz n:Nat} {v:Value} {y:DataW H × List MemPlace} (hu:Tryz.prog.underlying t=some (.slice te)) (hc:Tryz.prog.cellsOf te=sz)
    (each:∀ (ad:Addr) (cs':List Value) (n:Nat) (y:DataW H × List MemPlace),W.cells? 0 ad sz=some cs'→DataW.trod enc Tryz.prog W 0 (fun _=>true) true n te cs'=some y→∃ r:R,ad.spot=none∧At ad.block ad.off r∧Pr r)
    (h:DataW.trod enc Tryz.prog W 0 (fun _=>true) true n t [v]=some y) :
    ∃ (a:Option Addr) (c:Nat) (xs:List R),v=.slice a xs.length c∧xs.length≤maxLen∧(xs=[]∨∃ b off,a=some ⟨b,off,none⟩∧0≤b∧∀ i,i<xs.length→At b (off+i*sz) (xs.getD i z))∧∀ i,i<xs.length→Pr (xs.getD i z):=by
 rcases Go.Deep.open_slice hu h with ⟨hcs,_⟩ | ⟨ad,len,cap,m,n',D,Pl,hcs,_,hl,hm,hmm,_,hx⟩
 · simp at hcs
   subst hcs
   exact ⟨none,0,[],rfl,Nat.zero_le _,.inl rfl,fun i hi=>by simp at hi⟩
 · simp at hcs
   subst hcs
   simp only [if_true] at hmm
   subst hmm
   have ea:∀ i,i<len→∃ r:R,(ad.add (i*sz)).spot=none∧At (ad.add (i*sz)).block (ad.add (i*sz)).off r∧Pr r:=by
    intro i hi
    obtain ⟨cs',h1,h2⟩:=hx i (by omega)
    rw [hc] at h1
    exact each _ _ _ _ h1 h2
   obtain ⟨q,hq⟩:∃ q:Nat→R,∀ i,i<len→(ad.add (i*sz)).spot=none∧At (ad.add (i*sz)).block (ad.add (i*sz)).off (q i)∧Pr (q i) :=
    ⟨fun i=>if h:i<len then Classical.choose (ea i h) else z,fun i hi=>by simp only [hi,dif_pos];exact Classical.choose_spec (ea i hi)⟩
   have at_i:∀ i,i<len→((List.range len).map q).getD i z=q i:=fun i hi=>by simp [List.getD,hi]
   refine ⟨some ad,m,(List.range len).map q,by simp,by simp;omega,?_,fun i hi=>?_⟩
   · by_cases h0:len=0
     · subst h0;exact .inl (by simp)
     · obtain ⟨b,off,spot⟩:=ad
       have hspot:spot=none:=by simpa [Addr.add] using (hq 0 (by omega)).1
       subst hspot
       refine .inr ⟨b,off,rfl,Nat.zero_le _,fun i hi=>?_⟩
       have hi':i<len:=by simpa using hi
       rw [at_i i hi']
       have:=(hq i hi').2.1
       rwa [Addr.add_lit] at this
   · have hi':i<len:=by simpa using hi
     rw [at_i i hi'];exact (hq i hi').2.2
theorem pos_of {xs:List In} (h:∀ i,i<xs.length→0≤(xs.getD i I0).v):InsPos xs:=by
 intro i
 by_cases hi:i<xs.length
 · exact h i hi
 · have:xs.getD i I0=I0:=by simp [List.getD,List.getElem?_eq_none (Nat.le_of_not_lt hi)]
   rw [this];simp [I0]
open Go.RowKit Go.ChangeShapes Go.WideShapes Go.ChangeAt
theorem top_of {xs:List In} (h:∀ i,i<xs.length→(xs.getD i I0).v≤18446744073709551615):InsTop xs:=by
 intro i
 by_cases hi:i<xs.length
 · exact h i hi
 · have:xs.getD i I0=I0:=by simp [List.getD,List.getElem?_eq_none (Nat.le_of_not_lt hi)]
   rw [this];simp [I0]
theorem bounds_u8 {n:Int} (h:(Lit.int .u8 n).wf=true):0≤n∧n≤255:=by
 simp [Lit.wf,IntKind.min,IntKind.max,IntKind.signed,IntKind.bits] at h
 omega
theorem vl2_bytes {H:Type} {enc:TypeId × Value→H} {W:World} {n:Nat} {v:Value} {y:DataW H × List MemPlace} (g:DataW.trod enc Tryz.prog W 0 (fun _=>true) true n 50 [v]=some y) :
    ∃ (a:Option Addr) (c:Nat) (l:List Int),v=.slice a l.length c∧l.length≤maxLen∧HI .u8 0 W a l∧∀ b ∈ l,0≤b∧b≤255:=by
 rcases open_ints Tryz.underlying50 Tryz.underlying5 ko5 g with ⟨hcs,_⟩ | ⟨x,len,cap,zs,hcs,_,hl,hm,hz,_,hc,hw⟩
 · simp at hcs
   subst hcs
   exact ⟨none,0,[],rfl,Nat.zero_le _,.inl rfl,fun b hb=>by cases hb⟩
 · simp at hcs hz
   subst hcs
   exact ⟨some x,cap,zs.take len,by simp;omega,by simp;omega,hi_take (by omega) hc,fun b hb=>bounds_u8 (hw b (List.mem_of_mem_take hb))⟩
theorem vl2_Limits {H:Type} {enc:TypeId × Value→H} {W:World} {n:Nat} {cs:List Value} {y:DataW H × List MemPlace} (h:DataW.trod enc Tryz.prog W 0 (fun _=>true) true n 162 cs=some y) :
    ∃ (r:Limits),cs=[.int .i64 r.min,.int .i64 r.max,.bool r.has]∧Limits.Is 0 W r ∧Limits.LB 9223372036854775807 r∧(True):=by
 obtain ⟨xs,k,hk,hxy,hcl,hxl,hf⟩:=DataW.trod_struct Tryz.underlying162 h
 rw [ko_Limits] at hcl
 match xs,hxl,cs,hcl with
 | [y0,y1,y2],_,[v0,v1,v2],_ =>
  have g0:=hf 0 _ rfl
  have g1:=hf 1 _ rfl
  have g2:=hf 2 _ rfl
  simp [ko2,ko4,ko5,ko9,kou,koi,kob,ko_Limits,kl_Limits,ko_GType,ko_FType,kl_FType,ko_In,kl_In,ko_Imp,kl_Imp,ko_Glob,kl_Glob,ko_Exp,kl_Exp,ko_Ele,kl_Ele,ko_Grp,kl_Grp,ko_Cod,kl_Cod,ko_Dat,kl_Dat,ko_Cus,kl_Cus,ko_Mod] at g0 g1 g2
  obtain ⟨n0,e0,_,_⟩:=DataW.trod_int Tryz.underlying2 g0
  simp at e0
  subst e0
  obtain ⟨n1,e1,_,_⟩:=DataW.trod_int Tryz.underlying2 g1
  simp at e1
  subst e1
  obtain ⟨n2,e2,_⟩:=DataW.trod_bool Tryz.underlying4 g2
  simp at e2
  subst e2
  exact ⟨⟨n0,n1,n2⟩,rfl,trivial,trivial,trivial⟩
theorem ea2_Limits {H:Type} {enc:TypeId × Value→H} {W:World} (ad:Addr) (cs':List Value) (n:Nat) (y:DataW H × List MemPlace) (h1:W.cells? 0 ad 3=some cs') (h2:DataW.trod enc Tryz.prog W 0 (fun _=>true) true n 162 cs'=some y) :
    ∃ r:Limits,ad.spot=none∧Limits.At 0 W ad.block ad.off r∧Limits.LB 9223372036854775807 r∧(True):=by
 obtain ⟨_,hlen,hcell⟩:=World.cells?_some h1
 obtain ⟨r,e,hi,hl,hp⟩:=vl2_Limits h2
 subst e
 obtain ⟨b,off,spot⟩:=ad
 have q0:=hcell 0 (by omega)
 have hspot:spot=none:=by simpa [Addr.add] using World.cell?_spot (a:=Addr.add ⟨b,off,spot⟩ 0) q0
 subst hspot
 have q1:=hcell 1 (by omega)
 have q2:=hcell 2 (by omega)
 simp only [Addr.add_lit] at q0 q1 q2
 exact ⟨r,rfl,⟨⟨by simpa using q0,by simpa using q1,by simpa using q2⟩,hi⟩,hl,hp⟩
theorem vl2_GType {H:Type} {enc:TypeId × Value→H} {W:World} {n:Nat} {cs:List Value} {y:DataW H × List MemPlace} (h:DataW.trod enc Tryz.prog W 0 (fun _=>true) true n 163 cs=some y) :
    ∃ (r:GType),cs=[.int .i64 r.ty,.bool r.mu]∧GType.Is 0 W r ∧GType.LB 9223372036854775807 r∧(True):=by
 obtain ⟨xs,k,hk,hxy,hcl,hxl,hf⟩:=DataW.trod_struct Tryz.underlying163 h
 rw [ko_GType] at hcl
 match xs,hxl,cs,hcl with
 | [y0,y1],_,[v0,v1],_ =>
  have g0:=hf 0 _ rfl
  have g1:=hf 1 _ rfl
  simp [ko2,ko4,ko5,ko9,kou,koi,kob,ko_Limits,kl_Limits,ko_GType,ko_FType,kl_FType,ko_In,kl_In,ko_Imp,kl_Imp,ko_Glob,kl_Glob,ko_Exp,kl_Exp,ko_Ele,kl_Ele,ko_Grp,kl_Grp,ko_Cod,kl_Cod,ko_Dat,kl_Dat,ko_Cus,kl_Cus,ko_Mod] at g0 g1
  obtain ⟨n0,e0,_,_⟩:=DataW.trod_int Tryz.underlying2 g0
  simp at e0
  subst e0
  obtain ⟨n1,e1,_⟩:=DataW.trod_bool Tryz.underlying4 g1
  simp at e1
  subst e1
  exact ⟨⟨n0,n1⟩,rfl,trivial,trivial,trivial⟩
theorem vl2_FType {H:Type} {enc:TypeId × Value→H} {W:World} {n:Nat} {cs:List Value} {y:DataW H × List MemPlace} (h:DataW.trod enc Tryz.prog W 0 (fun _=>true) true n 160 cs=some y) :
    ∃ (r:FType) (a1:Option Addr) (c1:Nat) (a2:Option Addr) (c2:Nat),cs=[.slice a1 r.ps.length c1,.slice a2 r.rs.length c2]∧FType.Is 0 W r a1 a2∧FType.LB 9223372036854775807 r∧(True):=by
 obtain ⟨xs,k,hk,hxy,hcl,hxl,hf⟩:=DataW.trod_struct Tryz.underlying160 h
 rw [ko_FType] at hcl
 match xs,hxl,cs,hcl with
 | [y0,y1],_,[v0,v1],_ =>
  have g0:=hf 0 _ rfl
  have g1:=hf 1 _ rfl
  simp [ko2,ko4,ko5,ko9,kou,koi,kob,ko_Limits,kl_Limits,ko_GType,ko_FType,kl_FType,ko_In,kl_In,ko_Imp,kl_Imp,ko_Glob,kl_Glob,ko_Exp,kl_Exp,ko_Ele,kl_Ele,ko_Grp,kl_Grp,ko_Cod,kl_Cod,ko_Dat,kl_Dat,ko_Cus,kl_Cus,ko_Mod] at g0 g1
  obtain ⟨p0,d0,n0,e0,l0,h0⟩:=val_ints g0
  subst e0
  obtain ⟨p1,d1,n1,e1,l1,h1⟩:=val_ints g1
  subst e1
  exact ⟨⟨n0,n1⟩,p0,d0,p1,d1,rfl,⟨h0,h1⟩,⟨big l0,big l1⟩,trivial⟩
theorem ea2_FType {H:Type} {enc:TypeId × Value→H} {W:World} (ad:Addr) (cs':List Value) (n:Nat) (y:DataW H × List MemPlace) (h1:W.cells? 0 ad 2=some cs') (h2:DataW.trod enc Tryz.prog W 0 (fun _=>true) true n 160 cs'=some y) :
    ∃ r:FType,ad.spot=none∧FType.At 0 W ad.block ad.off r∧FType.LB 9223372036854775807 r∧(True):=by
 obtain ⟨_,hlen,hcell⟩:=World.cells?_some h1
 obtain ⟨r,a1,c1,a2,c2,e,hi,hl,hp⟩:=vl2_FType h2
 subst e
 obtain ⟨b,off,spot⟩:=ad
 have q0:=hcell 0 (by omega)
 have hspot:spot=none:=by simpa [Addr.add] using World.cell?_spot (a:=Addr.add ⟨b,off,spot⟩ 0) q0
 subst hspot
 have q1:=hcell 1 (by omega)
 simp only [Addr.add_lit] at q0 q1
 exact ⟨r,rfl,⟨a1,c1,a2,c2,⟨by simpa using q0,by simpa using q1⟩,hi⟩,hl,hp⟩
theorem vl2_In {H:Type} {enc:TypeId × Value→H} {W:World} {n:Nat} {cs:List Value} {y:DataW H × List MemPlace} (h:DataW.trod enc Tryz.prog W 0 (fun _=>true) true n 289 cs=some y) :
    ∃ (r:In) (a1:Option Addr) (c1:Nat),cs=[.int .i64 r.op,.int .i64 r.a,.int .i64 r.b,.int .u64 r.v,.slice a1 r.l.length c1]∧In.Is 0 W r a1∧In.LB 9223372036854775807 r∧(0≤r.v∧r.v≤18446744073709551615):=by
 obtain ⟨xs,k,hk,hxy,hcl,hxl,hf⟩:=DataW.trod_struct Tryz.underlying289 h
 rw [ko_In] at hcl
 match xs,hxl,cs,hcl with
 | [y0,y1,y2,y3,y4],_,[v0,v1,v2,v3,v4],_ =>
  have g0:=hf 0 _ rfl
  have g1:=hf 1 _ rfl
  have g2:=hf 2 _ rfl
  have g3:=hf 3 _ rfl
  have g4:=hf 4 _ rfl
  simp [ko2,ko4,ko5,ko9,kou,koi,kob,ko_Limits,kl_Limits,ko_GType,ko_FType,kl_FType,ko_In,kl_In,ko_Imp,kl_Imp,ko_Glob,kl_Glob,ko_Exp,kl_Exp,ko_Ele,kl_Ele,ko_Grp,kl_Grp,ko_Cod,kl_Cod,ko_Dat,kl_Dat,ko_Cus,kl_Cus,ko_Mod] at g0 g1 g2 g3 g4
  obtain ⟨n0,e0,_,_⟩:=DataW.trod_int Tryz.underlying2 g0
  simp at e0
  subst e0
  obtain ⟨n1,e1,_,_⟩:=DataW.trod_int Tryz.underlying2 g1
  simp at e1
  subst e1
  obtain ⟨n2,e2,_,_⟩:=DataW.trod_int Tryz.underlying2 g2
  simp at e2
  subst e2
  obtain ⟨n3,e3,_,w3⟩:=DataW.trod_int Tryz.underlying133 g3
  simp at e3
  subst e3
  have hq:=bounds_u64 w3
  obtain ⟨p4,d4,n4,e4,l4,h4⟩:=val_ints g4
  subst e4
  exact ⟨⟨n0,n1,n2,n3,n4⟩,p4,d4,rfl,h4,big l4,hq⟩
theorem ea2_In {H:Type} {enc:TypeId × Value→H} {W:World} (ad:Addr) (cs':List Value) (n:Nat) (y:DataW H × List MemPlace) (h1:W.cells? 0 ad 5=some cs') (h2:DataW.trod enc Tryz.prog W 0 (fun _=>true) true n 289 cs'=some y) :
    ∃ r:In,ad.spot=none∧In.At 0 W ad.block ad.off r∧In.LB 9223372036854775807 r∧(0≤r.v∧r.v≤18446744073709551615):=by
 obtain ⟨_,hlen,hcell⟩:=World.cells?_some h1
 obtain ⟨r,a1,c1,e,hi,hl,hp⟩:=vl2_In h2
 subst e
 obtain ⟨b,off,spot⟩:=ad
 have q0:=hcell 0 (by omega)
 have hspot:spot=none:=by simpa [Addr.add] using World.cell?_spot (a:=Addr.add ⟨b,off,spot⟩ 0) q0
 subst hspot
 have q1:=hcell 1 (by omega)
 have q2:=hcell 2 (by omega)
 have q3:=hcell 3 (by omega)
 have q4:=hcell 4 (by omega)
 simp only [Addr.add_lit] at q0 q1 q2 q3 q4
 exact ⟨r,rfl,⟨a1,c1,⟨by simpa using q0,by simpa using q1,by simpa using q2,by simpa using q3,by simpa using q4⟩,hi⟩,hl,hp⟩
theorem vl2_Imp {H:Type} {enc:TypeId × Value→H} {W:World} {n:Nat} {cs:List Value} {y:DataW H × List MemPlace} (h:DataW.trod enc Tryz.prog W 0 (fun _=>true) true n 165 cs=some y) :
    ∃ (r:Imp),cs=[.string r.mod,.string r.nm,.int .i64 r.kind,.int .i64 r.ty,.int .i64 r.lim.min,.int .i64 r.lim.max,.bool r.lim.has,.int .i64 r.gl.ty,.bool r.gl.mu]∧Imp.Is 0 W r ∧Imp.LB 9223372036854775807 r∧(True):=by
 obtain ⟨xs,k,hk,hxy,hcl,hxl,hf⟩:=DataW.trod_struct Tryz.underlying165 h
 rw [ko_Imp] at hcl
 match xs,hxl,cs,hcl with
 | [y0,y1,y2,y3,y4,y5],_,[v0,v1,v2,v3,v4,v5,v6,v7,v8],_ =>
  have g0:=hf 0 _ rfl
  have g1:=hf 1 _ rfl
  have g2:=hf 2 _ rfl
  have g3:=hf 3 _ rfl
  have g4:=hf 4 _ rfl
  have g5:=hf 5 _ rfl
  simp [ko2,ko4,ko5,ko9,kou,koi,kob,ko_Limits,kl_Limits,ko_GType,ko_FType,kl_FType,ko_In,kl_In,ko_Imp,kl_Imp,ko_Glob,kl_Glob,ko_Exp,kl_Exp,ko_Ele,kl_Ele,ko_Grp,kl_Grp,ko_Cod,kl_Cod,ko_Dat,kl_Dat,ko_Cus,kl_Cus,ko_Mod] at g0 g1 g2 g3 g4 g5
  obtain ⟨n0,e0,_,s0⟩:=DataW.trod_string Tryz.underlying9 g0
  simp at e0
  subst e0
  obtain ⟨n1,e1,_,s1⟩:=DataW.trod_string Tryz.underlying9 g1
  simp at e1
  subst e1
  obtain ⟨n2,e2,_,_⟩:=DataW.trod_int Tryz.underlying2 g2
  simp at e2
  subst e2
  obtain ⟨n3,e3,_,_⟩:=DataW.trod_int Tryz.underlying2 g3
  simp at e3
  subst e3
  obtain ⟨n4,e4,_,_,_⟩:=vl2_Limits g4
  simp at e4
  obtain ⟨rfl,rfl,rfl⟩:=e4
  obtain ⟨n5,e5,_,_,_⟩:=vl2_GType g5
  simp at e5
  obtain ⟨rfl,rfl⟩:=e5
  exact ⟨⟨n0,n1,n2,n3,n4,n5⟩,rfl,trivial,⟨big s0,big s1⟩,trivial⟩
theorem ea2_Imp {H:Type} {enc:TypeId × Value→H} {W:World} (ad:Addr) (cs':List Value) (n:Nat) (y:DataW H × List MemPlace) (h1:W.cells? 0 ad 9=some cs') (h2:DataW.trod enc Tryz.prog W 0 (fun _=>true) true n 165 cs'=some y) :
    ∃ r:Imp,ad.spot=none∧Imp.At 0 W ad.block ad.off r∧Imp.LB 9223372036854775807 r∧(True):=by
 obtain ⟨_,hlen,hcell⟩:=World.cells?_some h1
 obtain ⟨r,e,hi,hl,hp⟩:=vl2_Imp h2
 subst e
 obtain ⟨b,off,spot⟩:=ad
 have q0:=hcell 0 (by omega)
 have hspot:spot=none:=by simpa [Addr.add] using World.cell?_spot (a:=Addr.add ⟨b,off,spot⟩ 0) q0
 subst hspot
 have q1:=hcell 1 (by omega)
 have q2:=hcell 2 (by omega)
 have q3:=hcell 3 (by omega)
 have q4:=hcell 4 (by omega)
 have q5:=hcell 5 (by omega)
 have q6:=hcell 6 (by omega)
 have q7:=hcell 7 (by omega)
 have q8:=hcell 8 (by omega)
 simp only [Addr.add_lit] at q0 q1 q2 q3 q4 q5 q6 q7 q8
 exact ⟨r,rfl,⟨⟨by simpa using q0,by simpa using q1,by simpa using q2,by simpa using q3,by simpa using q4,by simpa using q5,by simpa using q6,by simpa using q7,by simpa using q8⟩,hi⟩,hl,hp⟩
theorem vl2_Glob {H:Type} {enc:TypeId × Value→H} {W:World} {n:Nat} {cs:List Value} {y:DataW H × List MemPlace} (h:DataW.trod enc Tryz.prog W 0 (fun _=>true) true n 169 cs=some y) :
    ∃ (r:Glob) (a1:Option Addr) (c1:Nat),cs=[.int .i64 r.ty.ty,.bool r.ty.mu,.slice a1 r.ini.length c1]∧Glob.Is 0 W r a1∧Glob.LB 9223372036854775807 r∧(InsPos r.ini∧InsTop r.ini):=by
 obtain ⟨xs,k,hk,hxy,hcl,hxl,hf⟩:=DataW.trod_struct Tryz.underlying169 h
 rw [ko_Glob] at hcl
 match xs,hxl,cs,hcl with
 | [y0,y1],_,[v0,v1,v2],_ =>
  have g0:=hf 0 _ rfl
  have g1:=hf 1 _ rfl
  simp [ko2,ko4,ko5,ko9,kou,koi,kob,ko_Limits,kl_Limits,ko_GType,ko_FType,kl_FType,ko_In,kl_In,ko_Imp,kl_Imp,ko_Glob,kl_Glob,ko_Exp,kl_Exp,ko_Ele,kl_Ele,ko_Grp,kl_Grp,ko_Cod,kl_Cod,ko_Dat,kl_Dat,ko_Cus,kl_Cus,ko_Mod] at g0 g1
  obtain ⟨n0,e0,_,_,_⟩:=vl2_GType g0
  simp at e0
  obtain ⟨rfl,rfl⟩:=e0
  obtain ⟨p1,d1,n1,e1,l1,h1,z1⟩:=open_list I0 (fun b o x=>In.At 0 W b o x) (fun x=>In.LB 9223372036854775807 x∧(0≤x.v∧x.v≤18446744073709551615)) Tryz.underlying167 ko_In (fun ad cs' n y h1 h2=>ea2_In ad cs' n y h1 h2) g1
  subst e1
  exact ⟨⟨n0,n1⟩,p1,d1,rfl,h1,⟨big l1,fun i hi=>(z1 i hi).1⟩,⟨pos_of fun i hi=>(z1 i hi).2.1,top_of fun i hi=>(z1 i hi).2.2⟩⟩
theorem ea2_Glob {H:Type} {enc:TypeId × Value→H} {W:World} (ad:Addr) (cs':List Value) (n:Nat) (y:DataW H × List MemPlace) (h1:W.cells? 0 ad 3=some cs') (h2:DataW.trod enc Tryz.prog W 0 (fun _=>true) true n 169 cs'=some y) :
    ∃ r:Glob,ad.spot=none∧Glob.At 0 W ad.block ad.off r∧Glob.LB 9223372036854775807 r∧(InsPos r.ini∧InsTop r.ini):=by
 obtain ⟨_,hlen,hcell⟩:=World.cells?_some h1
 obtain ⟨r,a1,c1,e,hi,hl,hp⟩:=vl2_Glob h2
 subst e
 obtain ⟨b,off,spot⟩:=ad
 have q0:=hcell 0 (by omega)
 have hspot:spot=none:=by simpa [Addr.add] using World.cell?_spot (a:=Addr.add ⟨b,off,spot⟩ 0) q0
 subst hspot
 have q1:=hcell 1 (by omega)
 have q2:=hcell 2 (by omega)
 simp only [Addr.add_lit] at q0 q1 q2
 exact ⟨r,rfl,⟨a1,c1,⟨by simpa using q0,by simpa using q1,by simpa using q2⟩,hi⟩,hl,hp⟩
theorem vl2_Exp {H:Type} {enc:TypeId × Value→H} {W:World} {n:Nat} {cs:List Value} {y:DataW H × List MemPlace} (h:DataW.trod enc Tryz.prog W 0 (fun _=>true) true n 171 cs=some y) :
    ∃ (r:Exp),cs=[.string r.nm,.int .i64 r.kind,.int .i64 r.ix]∧Exp.Is 0 W r ∧Exp.LB 9223372036854775807 r∧(True):=by
 obtain ⟨xs,k,hk,hxy,hcl,hxl,hf⟩:=DataW.trod_struct Tryz.underlying171 h
 rw [ko_Exp] at hcl
 match xs,hxl,cs,hcl with
 | [y0,y1,y2],_,[v0,v1,v2],_ =>
  have g0:=hf 0 _ rfl
  have g1:=hf 1 _ rfl
  have g2:=hf 2 _ rfl
  simp [ko2,ko4,ko5,ko9,kou,koi,kob,ko_Limits,kl_Limits,ko_GType,ko_FType,kl_FType,ko_In,kl_In,ko_Imp,kl_Imp,ko_Glob,kl_Glob,ko_Exp,kl_Exp,ko_Ele,kl_Ele,ko_Grp,kl_Grp,ko_Cod,kl_Cod,ko_Dat,kl_Dat,ko_Cus,kl_Cus,ko_Mod] at g0 g1 g2
  obtain ⟨n0,e0,_,s0⟩:=DataW.trod_string Tryz.underlying9 g0
  simp at e0
  subst e0
  obtain ⟨n1,e1,_,_⟩:=DataW.trod_int Tryz.underlying2 g1
  simp at e1
  subst e1
  obtain ⟨n2,e2,_,_⟩:=DataW.trod_int Tryz.underlying2 g2
  simp at e2
  subst e2
  exact ⟨⟨n0,n1,n2⟩,rfl,trivial,big s0,trivial⟩
theorem ea2_Exp {H:Type} {enc:TypeId × Value→H} {W:World} (ad:Addr) (cs':List Value) (n:Nat) (y:DataW H × List MemPlace) (h1:W.cells? 0 ad 3=some cs') (h2:DataW.trod enc Tryz.prog W 0 (fun _=>true) true n 171 cs'=some y) :
    ∃ r:Exp,ad.spot=none∧Exp.At 0 W ad.block ad.off r∧Exp.LB 9223372036854775807 r∧(True):=by
 obtain ⟨_,hlen,hcell⟩:=World.cells?_some h1
 obtain ⟨r,e,hi,hl,hp⟩:=vl2_Exp h2
 subst e
 obtain ⟨b,off,spot⟩:=ad
 have q0:=hcell 0 (by omega)
 have hspot:spot=none:=by simpa [Addr.add] using World.cell?_spot (a:=Addr.add ⟨b,off,spot⟩ 0) q0
 subst hspot
 have q1:=hcell 1 (by omega)
 have q2:=hcell 2 (by omega)
 simp only [Addr.add_lit] at q0 q1 q2
 exact ⟨r,rfl,⟨⟨by simpa using q0,by simpa using q1,by simpa using q2⟩,hi⟩,hl,hp⟩
theorem vl2_Ele {H:Type} {enc:TypeId × Value→H} {W:World} {n:Nat} {cs:List Value} {y:DataW H × List MemPlace} (h:DataW.trod enc Tryz.prog W 0 (fun _=>true) true n 174 cs=some y) :
    ∃ (r:Ele) (a1:Option Addr) (c1:Nat) (a2:Option Addr) (c2:Nat),cs=[.slice a1 r.off.length c1,.slice a2 r.fs.length c2]∧Ele.Is 0 W r a1 a2∧Ele.LB 9223372036854775807 r∧(InsPos r.off∧InsTop r.off):=by
 obtain ⟨xs,k,hk,hxy,hcl,hxl,hf⟩:=DataW.trod_struct Tryz.underlying174 h
 rw [ko_Ele] at hcl
 match xs,hxl,cs,hcl with
 | [y0,y1],_,[v0,v1],_ =>
  have g0:=hf 0 _ rfl
  have g1:=hf 1 _ rfl
  simp [ko2,ko4,ko5,ko9,kou,koi,kob,ko_Limits,kl_Limits,ko_GType,ko_FType,kl_FType,ko_In,kl_In,ko_Imp,kl_Imp,ko_Glob,kl_Glob,ko_Exp,kl_Exp,ko_Ele,kl_Ele,ko_Grp,kl_Grp,ko_Cod,kl_Cod,ko_Dat,kl_Dat,ko_Cus,kl_Cus,ko_Mod] at g0 g1
  obtain ⟨p0,d0,n0,e0,l0,h0,z0⟩:=open_list I0 (fun b o x=>In.At 0 W b o x) (fun x=>In.LB 9223372036854775807 x∧(0≤x.v∧x.v≤18446744073709551615)) Tryz.underlying167 ko_In (fun ad cs' n y h1 h2=>ea2_In ad cs' n y h1 h2) g0
  subst e0
  obtain ⟨p1,d1,n1,e1,l1,h1⟩:=val_ints g1
  subst e1
  exact ⟨⟨n0,n1⟩,p0,d0,p1,d1,rfl,⟨h0,h1⟩,⟨⟨big l0,fun i hi=>(z0 i hi).1⟩,big l1⟩,⟨pos_of fun i hi=>(z0 i hi).2.1,top_of fun i hi=>(z0 i hi).2.2⟩⟩
theorem ea2_Ele {H:Type} {enc:TypeId × Value→H} {W:World} (ad:Addr) (cs':List Value) (n:Nat) (y:DataW H × List MemPlace) (h1:W.cells? 0 ad 2=some cs') (h2:DataW.trod enc Tryz.prog W 0 (fun _=>true) true n 174 cs'=some y) :
    ∃ r:Ele,ad.spot=none∧Ele.At 0 W ad.block ad.off r∧Ele.LB 9223372036854775807 r∧(InsPos r.off∧InsTop r.off):=by
 obtain ⟨_,hlen,hcell⟩:=World.cells?_some h1
 obtain ⟨r,a1,c1,a2,c2,e,hi,hl,hp⟩:=vl2_Ele h2
 subst e
 obtain ⟨b,off,spot⟩:=ad
 have q0:=hcell 0 (by omega)
 have hspot:spot=none:=by simpa [Addr.add] using World.cell?_spot (a:=Addr.add ⟨b,off,spot⟩ 0) q0
 subst hspot
 have q1:=hcell 1 (by omega)
 simp only [Addr.add_lit] at q0 q1
 exact ⟨r,rfl,⟨a1,c1,a2,c2,⟨by simpa using q0,by simpa using q1⟩,hi⟩,hl,hp⟩
theorem vl2_Grp {H:Type} {enc:TypeId × Value→H} {W:World} {n:Nat} {cs:List Value} {y:DataW H × List MemPlace} (h:DataW.trod enc Tryz.prog W 0 (fun _=>true) true n 292 cs=some y) :
    ∃ (r:Grp),cs=[.int .i64 r.n,.int .i64 r.ty]∧Grp.Is 0 W r ∧Grp.LB 9223372036854775807 r∧(True):=by
 obtain ⟨xs,k,hk,hxy,hcl,hxl,hf⟩:=DataW.trod_struct Tryz.underlying292 h
 rw [ko_Grp] at hcl
 match xs,hxl,cs,hcl with
 | [y0,y1],_,[v0,v1],_ =>
  have g0:=hf 0 _ rfl
  have g1:=hf 1 _ rfl
  simp [ko2,ko4,ko5,ko9,kou,koi,kob,ko_Limits,kl_Limits,ko_GType,ko_FType,kl_FType,ko_In,kl_In,ko_Imp,kl_Imp,ko_Glob,kl_Glob,ko_Exp,kl_Exp,ko_Ele,kl_Ele,ko_Grp,kl_Grp,ko_Cod,kl_Cod,ko_Dat,kl_Dat,ko_Cus,kl_Cus,ko_Mod] at g0 g1
  obtain ⟨n0,e0,_,_⟩:=DataW.trod_int Tryz.underlying2 g0
  simp at e0
  subst e0
  obtain ⟨n1,e1,_,_⟩:=DataW.trod_int Tryz.underlying2 g1
  simp at e1
  subst e1
  exact ⟨⟨n0,n1⟩,rfl,trivial,trivial,trivial⟩
theorem ea2_Grp {H:Type} {enc:TypeId × Value→H} {W:World} (ad:Addr) (cs':List Value) (n:Nat) (y:DataW H × List MemPlace) (h1:W.cells? 0 ad 2=some cs') (h2:DataW.trod enc Tryz.prog W 0 (fun _=>true) true n 292 cs'=some y) :
    ∃ r:Grp,ad.spot=none∧Grp.At 0 W ad.block ad.off r∧Grp.LB 9223372036854775807 r∧(True):=by
 obtain ⟨_,hlen,hcell⟩:=World.cells?_some h1
 obtain ⟨r,e,hi,hl,hp⟩:=vl2_Grp h2
 subst e
 obtain ⟨b,off,spot⟩:=ad
 have q0:=hcell 0 (by omega)
 have hspot:spot=none:=by simpa [Addr.add] using World.cell?_spot (a:=Addr.add ⟨b,off,spot⟩ 0) q0
 subst hspot
 have q1:=hcell 1 (by omega)
 simp only [Addr.add_lit] at q0 q1
 exact ⟨r,rfl,⟨⟨by simpa using q0,by simpa using q1⟩,hi⟩,hl,hp⟩
theorem vl2_Cod {H:Type} {enc:TypeId × Value→H} {W:World} {n:Nat} {cs:List Value} {y:DataW H × List MemPlace} (h:DataW.trod enc Tryz.prog W 0 (fun _=>true) true n 178 cs=some y) :
    ∃ (r:Cod) (a1:Option Addr) (c1:Nat) (a2:Option Addr) (c2:Nat),cs=[.slice a1 r.locs.length c1,.slice a2 r.body.length c2]∧Cod.Is 0 W r a1 a2∧Cod.LB 9223372036854775807 r∧(InsPos r.body∧InsTop r.body):=by
 obtain ⟨xs,k,hk,hxy,hcl,hxl,hf⟩:=DataW.trod_struct Tryz.underlying178 h
 rw [ko_Cod] at hcl
 match xs,hxl,cs,hcl with
 | [y0,y1],_,[v0,v1],_ =>
  have g0:=hf 0 _ rfl
  have g1:=hf 1 _ rfl
  simp [ko2,ko4,ko5,ko9,kou,koi,kob,ko_Limits,kl_Limits,ko_GType,ko_FType,kl_FType,ko_In,kl_In,ko_Imp,kl_Imp,ko_Glob,kl_Glob,ko_Exp,kl_Exp,ko_Ele,kl_Ele,ko_Grp,kl_Grp,ko_Cod,kl_Cod,ko_Dat,kl_Dat,ko_Cus,kl_Cus,ko_Mod] at g0 g1
  obtain ⟨p0,d0,n0,e0,l0,h0,z0⟩:=open_list Grp.z (fun b o x=>Grp.At 0 W b o x) (fun x=>Grp.LB 9223372036854775807 x∧(True)) Tryz.underlying176 ko_Grp (fun ad cs' n y h1 h2=>ea2_Grp ad cs' n y h1 h2) g0
  subst e0
  obtain ⟨p1,d1,n1,e1,l1,h1,z1⟩:=open_list I0 (fun b o x=>In.At 0 W b o x) (fun x=>In.LB 9223372036854775807 x∧(0≤x.v∧x.v≤18446744073709551615)) Tryz.underlying167 ko_In (fun ad cs' n y h1 h2=>ea2_In ad cs' n y h1 h2) g1
  subst e1
  exact ⟨⟨n0,n1⟩,p0,d0,p1,d1,rfl,⟨h0,h1⟩,⟨⟨big l0,fun i hi=>(z0 i hi).1⟩,⟨big l1,fun i hi=>(z1 i hi).1⟩⟩,⟨pos_of fun i hi=>(z1 i hi).2.1,top_of fun i hi=>(z1 i hi).2.2⟩⟩
theorem ea2_Cod {H:Type} {enc:TypeId × Value→H} {W:World} (ad:Addr) (cs':List Value) (n:Nat) (y:DataW H × List MemPlace) (h1:W.cells? 0 ad 2=some cs') (h2:DataW.trod enc Tryz.prog W 0 (fun _=>true) true n 178 cs'=some y) :
    ∃ r:Cod,ad.spot=none∧Cod.At 0 W ad.block ad.off r∧Cod.LB 9223372036854775807 r∧(InsPos r.body∧InsTop r.body):=by
 obtain ⟨_,hlen,hcell⟩:=World.cells?_some h1
 obtain ⟨r,a1,c1,a2,c2,e,hi,hl,hp⟩:=vl2_Cod h2
 subst e
 obtain ⟨b,off,spot⟩:=ad
 have q0:=hcell 0 (by omega)
 have hspot:spot=none:=by simpa [Addr.add] using World.cell?_spot (a:=Addr.add ⟨b,off,spot⟩ 0) q0
 subst hspot
 have q1:=hcell 1 (by omega)
 simp only [Addr.add_lit] at q0 q1
 exact ⟨r,rfl,⟨a1,c1,a2,c2,⟨by simpa using q0,by simpa using q1⟩,hi⟩,hl,hp⟩
theorem vl2_Dat {H:Type} {enc:TypeId × Value→H} {W:World} {n:Nat} {cs:List Value} {y:DataW H × List MemPlace} (h:DataW.trod enc Tryz.prog W 0 (fun _=>true) true n 181 cs=some y) :
    ∃ (r:Dat) (a1:Option Addr) (c1:Nat) (a2:Option Addr) (c2:Nat),cs=[.slice a1 r.off.length c1,.slice a2 r.bs.length c2]∧Dat.Is 0 W r a1 a2∧Dat.LB 9223372036854775807 r∧((InsPos r.off∧InsTop r.off)∧∀ b ∈ r.bs,0≤b∧b≤255):=by
 obtain ⟨xs,k,hk,hxy,hcl,hxl,hf⟩:=DataW.trod_struct Tryz.underlying181 h
 rw [ko_Dat] at hcl
 match xs,hxl,cs,hcl with
 | [y0,y1],_,[v0,v1],_ =>
  have g0:=hf 0 _ rfl
  have g1:=hf 1 _ rfl
  simp [ko2,ko4,ko5,ko9,kou,koi,kob,ko_Limits,kl_Limits,ko_GType,ko_FType,kl_FType,ko_In,kl_In,ko_Imp,kl_Imp,ko_Glob,kl_Glob,ko_Exp,kl_Exp,ko_Ele,kl_Ele,ko_Grp,kl_Grp,ko_Cod,kl_Cod,ko_Dat,kl_Dat,ko_Cus,kl_Cus,ko_Mod] at g0 g1
  obtain ⟨p0,d0,n0,e0,l0,h0,z0⟩:=open_list I0 (fun b o x=>In.At 0 W b o x) (fun x=>In.LB 9223372036854775807 x∧(0≤x.v∧x.v≤18446744073709551615)) Tryz.underlying167 ko_In (fun ad cs' n y h1 h2=>ea2_In ad cs' n y h1 h2) g0
  subst e0
  obtain ⟨p1,d1,n1,e1,l1,h1,t1⟩:=vl2_bytes g1
  subst e1
  exact ⟨⟨n0,n1⟩,p0,d0,p1,d1,rfl,⟨h0,h1⟩,⟨⟨big l0,fun i hi=>(z0 i hi).1⟩,big l1⟩,⟨⟨pos_of fun i hi=>(z0 i hi).2.1,top_of fun i hi=>(z0 i hi).2.2⟩,t1⟩⟩
theorem ea2_Dat {H:Type} {enc:TypeId × Value→H} {W:World} (ad:Addr) (cs':List Value) (n:Nat) (y:DataW H × List MemPlace) (h1:W.cells? 0 ad 2=some cs') (h2:DataW.trod enc Tryz.prog W 0 (fun _=>true) true n 181 cs'=some y) :
    ∃ r:Dat,ad.spot=none∧Dat.At 0 W ad.block ad.off r∧Dat.LB 9223372036854775807 r∧((InsPos r.off∧InsTop r.off)∧∀ b ∈ r.bs,0≤b∧b≤255):=by
 obtain ⟨_,hlen,hcell⟩:=World.cells?_some h1
 obtain ⟨r,a1,c1,a2,c2,e,hi,hl,hp⟩:=vl2_Dat h2
 subst e
 obtain ⟨b,off,spot⟩:=ad
 have q0:=hcell 0 (by omega)
 have hspot:spot=none:=by simpa [Addr.add] using World.cell?_spot (a:=Addr.add ⟨b,off,spot⟩ 0) q0
 subst hspot
 have q1:=hcell 1 (by omega)
 simp only [Addr.add_lit] at q0 q1
 exact ⟨r,rfl,⟨a1,c1,a2,c2,⟨by simpa using q0,by simpa using q1⟩,hi⟩,hl,hp⟩
theorem vl2_Cus {H:Type} {enc:TypeId × Value→H} {W:World} {n:Nat} {cs:List Value} {y:DataW H × List MemPlace} (h:DataW.trod enc Tryz.prog W 0 (fun _=>true) true n 183 cs=some y) :
    ∃ (r:Cus) (a1:Option Addr) (c1:Nat),cs=[.int .i64 r.aft,.string r.nm,.slice a1 r.bs.length c1]∧Cus.Is 0 W r a1∧Cus.LB 9223372036854775807 r∧(True):=by
 obtain ⟨xs,k,hk,hxy,hcl,hxl,hf⟩:=DataW.trod_struct Tryz.underlying183 h
 rw [ko_Cus] at hcl
 match xs,hxl,cs,hcl with
 | [y0,y1,y2],_,[v0,v1,v2],_ =>
  have g0:=hf 0 _ rfl
  have g1:=hf 1 _ rfl
  have g2:=hf 2 _ rfl
  simp [ko2,ko4,ko5,ko9,kou,koi,kob,ko_Limits,kl_Limits,ko_GType,ko_FType,kl_FType,ko_In,kl_In,ko_Imp,kl_Imp,ko_Glob,kl_Glob,ko_Exp,kl_Exp,ko_Ele,kl_Ele,ko_Grp,kl_Grp,ko_Cod,kl_Cod,ko_Dat,kl_Dat,ko_Cus,kl_Cus,ko_Mod] at g0 g1 g2
  obtain ⟨n0,e0,_,_⟩:=DataW.trod_int Tryz.underlying2 g0
  simp at e0
  subst e0
  obtain ⟨n1,e1,_,s1⟩:=DataW.trod_string Tryz.underlying9 g1
  simp at e1
  subst e1
  obtain ⟨p2,d2,n2,e2,l2,h2,t2⟩:=vl2_bytes g2
  subst e2
  exact ⟨⟨n0,n1,n2⟩,p2,d2,rfl,h2,⟨big s1,big l2⟩,trivial⟩
theorem ea2_Cus {H:Type} {enc:TypeId × Value→H} {W:World} (ad:Addr) (cs':List Value) (n:Nat) (y:DataW H × List MemPlace) (h1:W.cells? 0 ad 3=some cs') (h2:DataW.trod enc Tryz.prog W 0 (fun _=>true) true n 183 cs'=some y) :
    ∃ r:Cus,ad.spot=none∧Cus.At 0 W ad.block ad.off r∧Cus.LB 9223372036854775807 r∧(True):=by
 obtain ⟨_,hlen,hcell⟩:=World.cells?_some h1
 obtain ⟨r,a1,c1,e,hi,hl,hp⟩:=vl2_Cus h2
 subst e
 obtain ⟨b,off,spot⟩:=ad
 have q0:=hcell 0 (by omega)
 have hspot:spot=none:=by simpa [Addr.add] using World.cell?_spot (a:=Addr.add ⟨b,off,spot⟩ 0) q0
 subst hspot
 have q1:=hcell 1 (by omega)
 have q2:=hcell 2 (by omega)
 simp only [Addr.add_lit] at q0 q1 q2
 exact ⟨r,rfl,⟨a1,c1,⟨by simpa using q0,by simpa using q1,by simpa using q2⟩,hi⟩,hl,hp⟩
theorem vl2_Mod {H:Type} {enc:TypeId × Value→H} {W:World} {n:Nat} {cs:List Value} {y:DataW H × List MemPlace} (h:DataW.trod enc Tryz.prog W 0 (fun _=>true) true n 33 cs=some y) :
    ∃ (r:Mod) (a1:Option Addr) (c1:Nat) (a2:Option Addr) (c2:Nat) (a3:Option Addr) (c3:Nat) (a4:Option Addr) (c4:Nat) (a5:Option Addr) (c5:Nat) (a6:Option Addr) (c6:Nat) (a7:Option Addr) (c7:Nat) (a8:Option Addr) (c8:Nat) (a9:Option Addr) (c9:Nat) (a10:Option Addr) (c10:Nat) (a11:Option Addr) (c11:Nat),cs=[.slice a1 r.types.length c1,.slice a2 r.imps.length c2,.slice a3 r.funcs.length c3,.slice a4 r.tabs.length c4,.slice a5 r.mems.length c5,.slice a6 r.globs.length c6,.slice a7 r.exps.length c7,.bool r.hasS,.int .i64 r.start,.slice a8 r.elems.length c8,.slice a9 r.codes.length c9,.slice a10 r.datas.length c10,.slice a11 r.customs.length c11]∧Mod.Is 0 W r a1 a2 a3 a4 a5 a6 a7 a8 a9 a10 a11∧Mod.LB 9223372036854775807 r∧(r.Pos∧r.Top∧r.Byt):=by
 obtain ⟨xs,k,hk,hxy,hcl,hxl,hf⟩:=DataW.trod_struct Tryz.underlying33 h
 rw [ko_Mod] at hcl
 match xs,hxl,cs,hcl with
 | [y0,y1,y2,y3,y4,y5,y6,y7,y8,y9,y10,y11,y12],_,[v0,v1,v2,v3,v4,v5,v6,v7,v8,v9,v10,v11,v12],_ =>
  have g0:=hf 0 _ rfl
  have g1:=hf 1 _ rfl
  have g2:=hf 2 _ rfl
  have g3:=hf 3 _ rfl
  have g4:=hf 4 _ rfl
  have g5:=hf 5 _ rfl
  have g6:=hf 6 _ rfl
  have g7:=hf 7 _ rfl
  have g8:=hf 8 _ rfl
  have g9:=hf 9 _ rfl
  have g10:=hf 10 _ rfl
  have g11:=hf 11 _ rfl
  have g12:=hf 12 _ rfl
  simp [ko2,ko4,ko5,ko9,kou,koi,kob,ko_Limits,kl_Limits,ko_GType,ko_FType,kl_FType,ko_In,kl_In,ko_Imp,kl_Imp,ko_Glob,kl_Glob,ko_Exp,kl_Exp,ko_Ele,kl_Ele,ko_Grp,kl_Grp,ko_Cod,kl_Cod,ko_Dat,kl_Dat,ko_Cus,kl_Cus,ko_Mod] at g0 g1 g2 g3 g4 g5 g6 g7 g8 g9 g10 g11 g12
  obtain ⟨p0,d0,n0,e0,l0,h0,z0⟩:=open_list FType.z (fun b o x=>FType.At 0 W b o x) (fun x=>FType.LB 9223372036854775807 x∧(True)) Tryz.underlying22 ko_FType (fun ad cs' n y h1 h2=>ea2_FType ad cs' n y h1 h2) g0
  subst e0
  obtain ⟨p1,d1,n1,e1,l1,h1,z1⟩:=open_list Imp.z (fun b o x=>Imp.At 0 W b o x) (fun x=>Imp.LB 9223372036854775807 x∧(True)) Tryz.underlying23 ko_Imp (fun ad cs' n y h1 h2=>ea2_Imp ad cs' n y h1 h2) g1
  subst e1
  obtain ⟨p2,d2,n2,e2,l2,h2⟩:=val_ints g2
  subst e2
  obtain ⟨p3,d3,n3,e3,l3,h3,z3⟩:=open_list Limits.z (fun b o x=>Limits.At 0 W b o x) (fun x=>Limits.LB 9223372036854775807 x∧(True)) Tryz.underlying25 ko_Limits (fun ad cs' n y h1 h2=>ea2_Limits ad cs' n y h1 h2) g3
  subst e3
  obtain ⟨p4,d4,n4,e4,l4,h4,z4⟩:=open_list Limits.z (fun b o x=>Limits.At 0 W b o x) (fun x=>Limits.LB 9223372036854775807 x∧(True)) Tryz.underlying25 ko_Limits (fun ad cs' n y h1 h2=>ea2_Limits ad cs' n y h1 h2) g4
  subst e4
  obtain ⟨p5,d5,n5,e5,l5,h5,z5⟩:=open_list Glob.z (fun b o x=>Glob.At 0 W b o x) (fun x=>Glob.LB 9223372036854775807 x∧(InsPos x.ini∧InsTop x.ini)) Tryz.underlying26 ko_Glob (fun ad cs' n y h1 h2=>ea2_Glob ad cs' n y h1 h2) g5
  subst e5
  obtain ⟨p6,d6,n6,e6,l6,h6,z6⟩:=open_list Exp.z (fun b o x=>Exp.At 0 W b o x) (fun x=>Exp.LB 9223372036854775807 x∧(True)) Tryz.underlying27 ko_Exp (fun ad cs' n y h1 h2=>ea2_Exp ad cs' n y h1 h2) g6
  subst e6
  obtain ⟨n7,e7,_⟩:=DataW.trod_bool Tryz.underlying4 g7
  simp at e7
  subst e7
  obtain ⟨n8,e8,_,_⟩:=DataW.trod_int Tryz.underlying2 g8
  simp at e8
  subst e8
  obtain ⟨p9,d9,n9,e9,l9,h9,z9⟩:=open_list Ele.z (fun b o x=>Ele.At 0 W b o x) (fun x=>Ele.LB 9223372036854775807 x∧(InsPos x.off∧InsTop x.off)) Tryz.underlying28 ko_Ele (fun ad cs' n y h1 h2=>ea2_Ele ad cs' n y h1 h2) g9
  subst e9
  obtain ⟨p10,d10,n10,e10,l10,h10,z10⟩:=open_list Cod.z (fun b o x=>Cod.At 0 W b o x) (fun x=>Cod.LB 9223372036854775807 x∧(InsPos x.body∧InsTop x.body)) Tryz.underlying29 ko_Cod (fun ad cs' n y h1 h2=>ea2_Cod ad cs' n y h1 h2) g10
  subst e10
  obtain ⟨p11,d11,n11,e11,l11,h11,z11⟩:=open_list Dat.z (fun b o x=>Dat.At 0 W b o x) (fun x=>Dat.LB 9223372036854775807 x∧((InsPos x.off∧InsTop x.off)∧∀ b ∈ x.bs,0≤b∧b≤255)) Tryz.underlying30 ko_Dat (fun ad cs' n y h1 h2=>ea2_Dat ad cs' n y h1 h2) g11
  subst e11
  obtain ⟨p12,d12,n12,e12,l12,h12,z12⟩:=open_list Cus.z (fun b o x=>Cus.At 0 W b o x) (fun x=>Cus.LB 9223372036854775807 x∧(True)) Tryz.underlying31 ko_Cus (fun ad cs' n y h1 h2=>ea2_Cus ad cs' n y h1 h2) g12
  subst e12
  exact ⟨⟨n0,n1,n2,n3,n4,n5,n6,n7,n8,n9,n10,n11,n12⟩,p0,d0,p1,d1,p2,d2,p3,d3,p4,d4,p5,d5,p6,d6,p9,d9,p10,d10,p11,d11,p12,d12,rfl,⟨h0,h1,h2,h3,h4,h5,h6,h9,h10,h11,h12⟩,⟨⟨big l0,fun i hi=>(z0 i hi).1⟩,⟨big l1,fun i hi=>(z1 i hi).1⟩,big l2,⟨big l3,fun i hi=>(z3 i hi).1⟩,⟨big l4,fun i hi=>(z4 i hi).1⟩,⟨big l5,fun i hi=>(z5 i hi).1⟩,⟨big l6,fun i hi=>(z6 i hi).1⟩,⟨big l9,fun i hi=>(z9 i hi).1⟩,⟨big l10,fun i hi=>(z10 i hi).1⟩,⟨big l11,fun i hi=>(z11 i hi).1⟩,⟨big l12,fun i hi=>(z12 i hi).1⟩⟩,⟨⟨fun i hi=>(z5 i hi).2.1,fun i hi=>(z9 i hi).2.1,fun i hi=>(z10 i hi).2.1,fun i hi=>(z11 i hi).2.1.1⟩,⟨fun i hi=>(z5 i hi).2.2,fun i hi=>(z9 i hi).2.2,fun i hi=>(z10 i hi).2.2,fun i hi=>(z11 i hi).2.1.2⟩,fun i hi=>(z11 i hi).2.2⟩⟩
end Go.Proofs.YtdbmolambolmgaaGreat
