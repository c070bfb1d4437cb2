import Derived.Test.YtipfjdogokanbaaGreatDoorGaa
import Derived.Test.YtipfjdogokanbaaGreatDoorGaq
import Derived.Laws.OwnMore
import Derived.Deep.RegionWith
import Derived.Deep.RegionLaw
set_option linter.all false
set_option maxHeartbeats 400000000
set_option maxRecDepth 100000
set_option linter.all false
namespace Go.Proofs.YtipfjdogokanbaaGreatDoor.An
open Go.RowKit Go.Sort
theorem QX {P:Program}{w:World}{ops:Array Oper}{o:Oper}{a:Act}{K:Act->World->Prop}{Q:Exit->Act->World->Prop}{E:Prop}(hgd:o.guard=none)(s x:Operand)(t:TypeId)
    (ho:o.op=.call { callee:=.builtin .append,args:=#[s,x],argTypes:=#[t,t] })
    (base:Nat) (e:TypeId) (i:TypeInfo) (z:Value) (size bytes:Nat) (ht:P.underlying t=some (.slice e)) (hi:P.info? e=some i) (hz:i.zero=some z)
    (hsize:i.size=size) (hby:i.bytes=bytes) (hzs:z.cells.size=size) (hsz:0<size)
    (v:Value) (n:Nat) (xs:List Value) (hs:a.eval s=v) (hown:w.ownsRow base e size v n xs)
    (ad:Addr) (m c:Nat) (news:List Value) (hx:a.eval x=.slice (some ad) m c) (hl:news.length=m*size) (hn:∀ j u,news[j]?=some u->w.cell? (ad.add j)=some u) (h1:∀ u ∈ news,u.oneCell'=true)
    (h63:n+m<=maxLen) (hbytes:(n+m)*bytes<=140737488355328) (hbase:base<=w.heap.size)
    (h:∀ v' w',w'.ownsRow base e size v' (n+m) (xs++news)->w.grownBy w' v.ownBlock->(v'.ownBlock=v.ownBlock\/v'.ownBlock=some w.heap.size)->K (a.put o.dst v') w') :
    if Region.wanted o (yielded ops a.tmps)=true then Oper.wp P o a w K Q else E:=by
 have hw:Region.wanted o (yielded ops a.tmps)=true:=by simp [Region.wanted,hgd]
 rw [if_pos hw];obtain ⟨v',w',hr,h2,h3,h4,h5⟩:=run_append_own_at (P:=P) w base t o.type e i z size bytes ht hi hz hsize hby hzs hsz v n xs hown ad m c news hl hn h1 h63 hbytes hbase;unfold Oper.wp execOp
 simp only [ho,resolve,invoke,builtin,Sem.run_bind,Sem.run_pure,Result.andThen_ok,List.map_toArray,List.map_cons,List.map_nil,hs,hx,hr]
 exact h v' w' h2 h3 h5
theorem own_pre {w:World}{B e sz g cap n m:Nat}{L:List Value}(h:w.ownsRow B e sz (.slice (some ⟨g,0,none⟩) n cap) n L)(hm:m<=n):w.ownsRow B e sz (.slice (some ⟨g,0,none⟩) m cap) m (L.take (m*sz)):=by
 have hl:=h.1;have hms:m*sz<=n*sz:=Nat.mul_le_mul_right _ hm
 refine ⟨by rw [List.length_take,hl];omega,?_⟩
 rcases h.2 with ⟨h0,_⟩|⟨g',cap',cur,hv,hB,hh,h1,h2,h3,h4⟩
 . cases h0
 . injection hv with hv1 hv2 hv3
   injection hv1 with hv1
   injection hv1 with hv1
   subst hv1 hv3
   refine .inr ⟨g,cap,cur,rfl,hB,hh,by omega,h2,h3,?_⟩
   rw [<- h4,List.take_take,Nat.min_eq_left hms]
def IB (x:In):Prop:=0<=x.v/\x.v<=18446744073709551615/\x.l.length<=4
structure Sp (w:World)(g r vc:Nat)(a:Option Addr)(cap:Nat)(xs:List Int)(x0 x1:In)(l0 l1:Value)(W:World):Prop where
 row:W.ownsRow w.heap.size 26 5 (.slice (some ⟨r,0,none⟩) 2 vc) 2 (cI x0 l0++cI x1 l1)
 a0:LV W (λk=>k=r\/k<w.heap.size) l0 x0.l
 a1:LV W (λk=>k=r\/k<w.heap.size) l1 x1.l
 c:L3.Cur W g a cap xs
 gr:w.grownBy W (some g)
 hg:g<w.heap.size
 hr:w.heap.size<=r
 i0:IB x0
 i1:IB x1
theorem Sp.step {w:World}{g r vc:Nat}{a:Option Addr}{cap:Nat}{xs:List Int}{x0 x1:In}{l0 l1:Value}{W W':World}(h:Sp w g r vc a cap xs x0 x1 l0 l1 W)(hc:L3.Cur W' g a cap xs)(hg:W.grownBy W' (some g)):Sp w g r vc a cap xs x0 x1 l0 l1 W':=by
 have h1:=h.hg
 refine ⟨Js h.row (λk hk=>hg.block k (h.row.lt k hk).2 (λe=>?_)),h.a0.keep hg.size (λb hb hs=>⟨hg.block b hs (λe=>?_),hb⟩),h.a1.keep hg.size (λb hb hs=>⟨hg.block b hs (λe=>?_),hb⟩),hc,L3.Qa h.gr hg,h.hg,h.hr,h.i0,h.i1⟩
 . have:=(h.row.lt k hk).1
   injection e with e
   omega
 . injection e with e;exact hb (.inr (by omega))
 . injection e with e;exact hb (.inr (by omega))
theorem Sp.below {w:World}{g r vc:Nat}{a:Option Addr}{cap:Nat}{xs:List Int}{x0 x1:In}{l0 l1:Value}{W W':World}(h:Sp w g r vc a cap xs x0 x1 l0 l1 W)(hb:Below W.heap.size W W'):Sp w g r vc a cap xs x0 x1 l0 l1 W':=by
 have h1:=h.hg;have h2:=h.gr.size
 exact h.step (h.c.below hb (by omega)) ⟨hb.os,hb.tape,hb.output,hb.size,λk hk _=>hb.block k hk⟩
theorem Sp.put {w:World}{g r vc:Nat}{a:Option Addr}{cap:Nat}{xs:List Int}{x0 x1 y0 y1:In}{l0 l1:Value}{W:World}(h:Sp w g r vc a cap xs x0 x1 l0 l1 W)(j:Nat)(u:Value)(he:(cI x0 l0++cI x1 l1).set j u=cI y0 l0++cI y1 l1)(e0:y0.l=x0.l)(e1:y1.l=x1.l)(i0:IB y0)(i1:IB y1):Sp w g r vc a cap xs y0 y1 l0 l1 (W.setCell ⟨r,j,none⟩ u):=by
 have h1:=h.hg;have h2:=h.hr;obtain ⟨s1,s2⟩:=h.row.stored j u;rw [he] at s1;have hk:∀ b,b≠r->(W.setCell ⟨r,j,none⟩ u).heap[b]?=W.heap[b]?:=λb hb=>Below.heap_setCell _ _ _ _ hb
 refine ⟨s1,by rw [e0];exact h.a0.keep s2.size (λb hb hs=>⟨hk b (λe=>hb (.inl e)),hb⟩),by rw [e1];exact h.a1.keep s2.size (λb hb hs=>⟨hk b (λe=>hb (.inl e)),hb⟩),h.c.below ((Below.refl w.heap.size W).setCell (by show _<=r;omega) u) h1,Q6 h.gr h2 j u,h.hg,h.hr,i0,i1⟩
def SpP (w:World)(g:Nat)(a:Option Addr)(cap:Nat)(xs:List Int)(e:Ending)(w':World):Prop:=∃ (x:In) (lv:Value) (b n c:Nat),e=.returned (.slice (some ⟨b,0,none⟩) n c)/\1<=n/\(∀ j,j<5->w'.cell? ⟨b,j,none⟩=(cI x lv)[j]?)/\IB x/\LV w' (λk=>k<w.heap.size) lv x.l/\L3.Cur w' g a cap xs/\w.grownBy w' (some g)
theorem Sp.fin {w:World}{g r vc:Nat}{a:Option Addr}{cap:Nat}{xs:List Int}{x0 x1:In}{l0 l1:Value}{W:World}(h:Sp w g r vc a cap xs x0 x1 l0 l1 W):SpP w g a cap xs (.returned (.slice (some ⟨r,0,none⟩) 2 vc)) W:=by
 refine ⟨x0,l0,r,2,vc,rfl,by omega,λj hj=>?_,h.i0,h.a0.keep (Nat.le_refl _) (λb hb hs=>⟨rfl,λe=>hb (.inr (by have:=h.hg;omega))⟩),h.c,h.gr⟩
 rw [h.row.cellAt j (by omega),List.getElem?_append_left (by simp [cI];omega)]
theorem fin_row {w W w3:World}{B g r vc n:Nat}{a:Option Addr}{cap:Nat}{xs:List Int}{x0 x1 x:In}{l0 l1 lv v3:Value}{L:List Value}{o:Option Nat}(h:Sp w g r vc a cap xs x0 x1 l0 l1 W)(hg:W.grownBy w3 o)(ho:∀ q,o=some q->w.heap.size<=q)(hn:1<=n)(how:w3.ownsRow B 26 5 v3 n (cI x lv++L))(hx:IB x)(hl:LV w3 (λk=>k<w.heap.size) lv x.l):SpP w g a cap xs (.returned v3) w3:=by
 have h1:=h.hg
 rcases how.2 with ⟨_,h0⟩|⟨b,c,cur,rfl,_⟩
 . omega
 refine ⟨x,lv,b,n,c,rfl,hn,λj hj=>?_,hx,hl,h.c.below (B:=w.heap.size) ⟨hg.os,hg.tape,hg.output,hg.size,λk hk=>hg.block k (by have:=h.gr.size;omega) (λe=>by have:=ho k e.symm;omega)⟩ h1,⟨hg.os.trans h.gr.os,hg.tape.trans h.gr.tape,hg.output.trans h.gr.output,Nat.le_trans h.gr.size hg.size,λk hk hne=>(hg.block k (by have:=h.gr.size;omega) (λe=>by have:=ho k e.symm;omega)).trans (h.gr.block k hk hne)⟩⟩
 rw [how.cellAt j (by omega),List.getElem?_append_left (by simp [cI];omega)]
theorem fin_below {w W w3:World}{B g r vc n:Nat}{a:Option Addr}{cap:Nat}{xs:List Int}{x0 x1 x:In}{l0 l1 lv v3:Value}{L:List Value}(h:Sp w g r vc a cap xs x0 x1 l0 l1 W)(hb:Below W.heap.size W w3)(hn:1<=n)(how:w3.ownsRow B 26 5 v3 n (cI x lv++L))(hx:IB x)(hl:LV W (λk=>k=r\/k<w.heap.size) lv x.l):SpP w g a cap xs (.returned v3) w3 :=
 fin_row (o:=none) h ⟨hb.os,hb.tape,hb.output,hb.size,λk hk _=>hb.block k hk⟩ (λq hq=>by cases hq) hn how hx (hl.keep hb.size (λb hb1 hs=>⟨hb.block b hs,λe=>hb1 (.inr (by have:=h.hg;omega))⟩))
theorem bel_grown {V U W:World}{q:Nat}(h:Below V.heap.size V U)(hg:U.grownBy W (some q))(hq:V.heap.size<=q):Below V.heap.size V W :=
 ⟨hg.os.trans h.os,hg.tape.trans h.tape,hg.output.trans h.output,Nat.le_trans h.size hg.size,λk hk=>(hg.block k (Nat.lt_of_lt_of_le hk h.size) (λe=>by injection e with e;omega)).trans (h.block k hk)⟩
theorem Jq {V U W:World}{o:Option Nat}(h:Below V.heap.size V U)(hg:U.grownBy W o)(hq:∀ q,o=some q->V.heap.size<=q):Below V.heap.size V W :=
 ⟨hg.os.trans h.os,hg.tape.trans h.tape,hg.output.trans h.output,Nat.le_trans h.size hg.size,λk hk=>(hg.block k (Nat.lt_of_lt_of_le hk h.size) (λe=>by have:=hq k e.symm;omega)).trans (h.block k hk)⟩
theorem Q9 {w W:World}{B g cap n o m:Nat}{L:List Value}(h:w.ownsRow B 26 5 (.slice (some ⟨g,0,none⟩) n cap) n L)(hb:W.heap[g]?=w.heap[g]?)(ho:o+m<=n*5):∀ j u,((L.drop o).take m)[j]?=some u->W.cell? ((⟨g,o,none⟩:Addr).add j)=some u:=by
 intro j u hu
 rw [show (⟨g,o,none⟩:Addr).add j=⟨g,o+j,none⟩ by unfold Addr.add;split<;>simp_all]
 have hj:j<m:=by
  have:=(List.getElem?_eq_some_iff.1 hu).1
  simp only [List.length_take] at this
  omega
 rw [World.cell?_of_block (a:=⟨g,o+j,none⟩) hb,h.cellAt (o+j) (by omega),<- hu,List.getElem?_take,if_pos hj,List.getElem?_drop]
def Pk (V:World)(ob y:Nat)(S:Nat->Prop)(x:In)(la:Option Addr)(lc:Nat):Prop:=(∀ j,j<5->V.cell? ⟨ob,y*5+j,none⟩=(cI x (.slice la x.l.length lc))[j]?)/\IB x/\LV V S (.slice la x.l.length lc) x.l
theorem sp_start {w w1:World}{g:Nat}{a:Option Addr}{cap:Nat}{xs:List Int}{x0 x1:In}{m0 m1 v:Value}{qs:List (In × Value)}(hC:L3.Cur w g a cap xs)(hq:qs.length=2)(h:L9I w [(x0,m0),(x1,m1)] qs v w1)(i0:IB x0)(i1:IB x1):∃ r vc l0 l1,v=.slice (some ⟨r,0,none⟩) 2 vc/\Sp w g r vc a cap xs x0 x1 l0 l1 w1:=by
 obtain ⟨h1,h2,h3,h4,h5⟩:=h
 match qs,hq with
|[(y0,l0),(y1,l1)],_ =>
  simp only [List.map_cons,List.map_nil,List.length_cons,List.length_nil,List.take,List.cons.injEq,and_true] at h2
  obtain ⟨rfl,rfl⟩:=h2;have hg:=L3.Cur.lt hC
  rcases h3.2 with ⟨_,h0⟩|⟨r,vc,cur,rfl,hB,_⟩
  . simp at h0
  . have q0:=h4 (y0,l0) (by simp);have q1:=h4 (y1,l1) (by simp)
    have hk:∀ b,¬ ((Value.slice (some ⟨r,0,none⟩) 2 vc).ownBlock=some b\/b<w.heap.size)->¬ (b=r\/b<w.heap.size):=fun b hb e=>hb (by
     rcases e with e|e
     . exact .inl (by rw [e];rfl)
     . exact .inr e)
    exact ⟨r,vc,l0,l1,rfl,⟨by simpa [ceI] using h3,q0.keep (Nat.le_refl _) (λb hb _=>⟨rfl,hk b hb⟩),q1.keep (Nat.le_refl _) (λb hb _=>⟨rfl,hk b hb⟩),hC.below h5 hg,⟨h5.os,h5.tape,h5.output,h5.size,λk hk _=>h5.block k hk⟩,hg,hB,i0,i1⟩⟩
end Go.Proofs.YtipfjdogokanbaaGreatDoor.An
set_option linter.all false
namespace Go.Proofs.YtipfjdogokanbaaGreatDoor.An
open Go.RowKit Go.Sort
theorem spoil_c (g b c:Nat)(a:Option Addr)(cap:Nat)(xs:List Int)(x0 x1:In)(m0 m1:Value)(w:World)(hl:xs.length<=1099511627776)(hB:L3.Qt xs)(hC:L3.Cur w g a cap xs)(h0:C5 w b 0 (.int .i64 x0.op) (.int .i64 x0.a) (.int .i64 x0.b) (.int .u64 x0.v) m0)(h1:C5 w b 5 (.int .i64 x1.op) (.int .i64 x1.a) (.int .i64 x1.b) (.int .u64 x1.v) m1)(k0:LV w (λ_=>False) m0 x0.l)(k1:LV w (λ_=>False) m1 x1.l)(i0:IB x0)(i1:IB x1) :
    Calls Tryz.prog 47 #[.pointer (some ⟨g,0,none⟩),.slice (some ⟨b,0,none⟩) 2 c] w (SpP w g a cap xs):=by
 obtain ⟨f0,hi,hz0,hz1,hz2⟩:=info_parts infoI
 have K9:=Hm (l9_c b c 2 [(x0,m0),(x1,m1)] w rfl (fun i hi=>by
  have hi':i<2:=hi
  match i,hi' with
 |0,_=>exact h0
 |1,_=>exact h1) (λp hp=>by
  simp only [List.mem_cons,List.not_mem_nil,or_false] at hp
  rcases hp with rfl|rfl
  . exact k0
  . exact k1) (by omega) (λp hp=>by
  simp only [List.mem_cons,List.not_mem_nil,or_false] at hp
  rcases hp with rfl|rfl
  . exact i0.2.2
  . exact i1.2.2))
 have KB:=Hm (λ(n:Int) (h1:1<=n) (h2:n<=256) W (hC:L3.Cur W g a cap xs)=>L3.JX g a cap xs n W hl hB hC h1 h2);have HST:=Hm (λw1 v qs (hq:qs.length=2) (h:L9I w [(x0,m0),(x1,m1)] qs v w1)=>sp_start hC hq h i0 i1);clear h0 h1 k0 k1 i0 i1 hC hB
 go_enter Tryz.func47,Tryz.ntmps47
 go_wp2_with fail
 refine K9.o.mono ?_
 rintro e w1 ⟨v,qs,rfl,hq,hI⟩;obtain ⟨r,vc,l0,l1,rfl,hS⟩:=HST.o w1 v qs hq hI;have HS:=Hm hS;clear hq hI hS HST K9
 go_wp2_with fail
 refine (KB.o 2 (by decide) (by decide) _ HS.o.c).mono ?_
 rintro e w2 ⟨at_,rfl,ha0,ha1,hc,hg⟩;have HS:=Hm (HS.o.step hc hg);clear hc hg
 go_wp2_with fail
 refine (KB.o 6 (by decide) (by decide) _ HS.o.c).mono ?_
 rintro e w3 ⟨k,rfl,hk0,hk1,hc,hg⟩;have HS:=Hm (HS.o.step hc hg);clear hc hg;obtain ⟨la0,lc0,e0,-⟩:=HS.o.a0.slice;obtain ⟨la1,lc1,e1,-⟩:=HS.o.a1.slice;subst e0 e1;have hr:=HS.o.hr;have hgl:=HS.o.hg
 have hvc:2<=vc:=by
  rcases HS.o.row.2 with ⟨h,_⟩|⟨g',cap',cur,hv,_,_,h1,_⟩
  . cases h
  . injection hv with _ _ hv;omega
 have hk:k=0\/k=1\/k=2\/k=3\/k=4\/k=5:=by omega
 have ha:at_=0\/at_=1:=by omega
 clear ha0 ha1 hk0 hk1
 rcases hk with rfl|rfl|rfl|rfl|rfl|rfl
 . rcases ha with rfl|rfl
   . go_wp2_with fail
     refine (KB.o 194 (by decide) (by decide) _ HS.o.c).mono ?_
     rintro e w4 ⟨y,rfl,hy0,hy1,hc,hg⟩;have HS:=Hm (HS.o.step hc hg);clear hc hg;have q:=(HS.o.row.cellAt 0 (by omega)).trans (show _=some (.int .i64 x0.op) from rfl);have z:=HS.o.row.frozenAt 0;have HF:=Hm (λ(z:Int)=>(HS.o.put (y0:=⟨z,x0.a,x0.b,x0.v,x0.l⟩) (y1:=⟨x1.op,x1.a,x1.b,x1.v,x1.l⟩) 0 (.int .i64 z) rfl rfl rfl HS.o.i0 HS.o.i1).fin);clear KB HS
     go_wp2
     go_ret
     exact HF.o _
   . go_wp2_with fail
     refine (KB.o 194 (by decide) (by decide) _ HS.o.c).mono ?_
     rintro e w4 ⟨y,rfl,hy0,hy1,hc,hg⟩;have HS:=Hm (HS.o.step hc hg);clear hc hg;have q:=(HS.o.row.cellAt 5 (by omega)).trans (show _=some (.int .i64 x1.op) from rfl);have z:=HS.o.row.frozenAt 5;have HF:=Hm (λ(z:Int)=>(HS.o.put (y0:=⟨x0.op,x0.a,x0.b,x0.v,x0.l⟩) (y1:=⟨z,x1.a,x1.b,x1.v,x1.l⟩) 5 (.int .i64 z) rfl rfl rfl HS.o.i0 HS.o.i1).fin);clear KB HS
     go_wp2
     go_ret
     exact HF.o _
 . rcases ha with rfl|rfl
   . have q:=(HS.o.row.cellAt 1 (by omega)).trans (show _=some (.int .i64 x0.a) from rfl);have z:=HS.o.row.frozenAt 1;have HF:=Hm (λ(z:Int)=>(HS.o.put (y0:=⟨x0.op,z,x0.b,x0.v,x0.l⟩) (y1:=⟨x1.op,x1.a,x1.b,x1.v,x1.l⟩) 1 (.int .i64 z) rfl rfl rfl HS.o.i0 HS.o.i1).fin);clear KB HS
     go_wp2
     go_ret
     exact HF.o _
   . have q:=(HS.o.row.cellAt 6 (by omega)).trans (show _=some (.int .i64 x1.a) from rfl);have z:=HS.o.row.frozenAt 6;have HF:=Hm (λ(z:Int)=>(HS.o.put (y0:=⟨x0.op,x0.a,x0.b,x0.v,x0.l⟩) (y1:=⟨x1.op,z,x1.b,x1.v,x1.l⟩) 6 (.int .i64 z) rfl rfl rfl HS.o.i0 HS.o.i1).fin);clear KB HS
     go_wp2
     go_ret
     exact HF.o _
 . rcases ha with rfl|rfl
   . have hv1:¬ vc=1:=by omega
     have hv3:(1:Int)<=(vc:Int):=by omega
     have hw1:IntKind.i64.wrap 1=1:=by decide
     have hw2:IntKind.i64.wrap 2=2:=by decide
     have hv4:(1:Int)<=(vc:Int):=by omega
     have OW:=Hm (own_pre (m:=0) HS.o.row (by omega))
     have HN:Hid (∀ j u,(cI x1 (.slice la1 x1.l.length lc1))[j]?=some u->w3.cell? ((⟨r,5,none⟩:Addr).add j)=some u):=by
      intro j u hu
      have hj:j<5:=by
       have:=(List.getElem?_eq_some_iff.1 hu).1
       simpa [cI] using this
      rw [show (⟨r,5,none⟩:Addr).add j=⟨r,5+j,none⟩ by unfold Addr.add;split<;>simp_all];rw [HS.o.row.cellAt (5+j) (by omega),List.getElem?_append_right (by simp [cI]),<- hu]
      simp [cI]
     have HF:Hid (∀ (W2:World) W3 v3,W2=w3.drew->W2.grownBy W3 (some r)->W3.ownsRow w.heap.size 26 5 v3 1 (cI x1 (.slice la1 x1.l.length lc1))->SpP w g a cap xs (.returned v3) W3/\∃ a c,v3=.slice a 1 c):=by
      intro W2 W3 v3 e k1 k2
      subst e;have k1':w3.grownBy W3 (some r):=⟨k1.os,k1.tape,k1.output,k1.size,k1.block⟩;have k2':W3.ownsRow w.heap.size 26 5 v3 1 (cI x1 (.slice la1 x1.l.length lc1)++[]):=by rw [List.append_nil];exact k2
      exact ⟨fin_row (n:=1) HS.o k1' (λq hq=>by injection hq with hq;omega) (by omega) k2' HS.o.i1 (HS.o.a1.keep k1'.size (λb hb hs=>⟨k1'.block b hs (λe=>hb (.inl (by injection e))),λe=>hb (.inr (by omega))⟩)),Ql k2⟩
     have hws:w.heap.size<=w3.heap.size:=HS.o.gr.size;clear KB HS
     go_upto_region 10 with fail
     go_region_law (refine QX rfl (.tmp 44) (.tmp 48) 36 rfl w.heap.size 26 f0 (.agg #[.int .i64 0,.int .i64 0,.int .i64 0,.int .u64 0,.slice none 0 0]) 5 56 Tryz.underlying36 hi hz0 hz1 hz2 rfl (by decide) (.slice (some ⟨r,0,none⟩) 0 vc) 0 ([]) (by simp [Act.eval,Act.put]) (show World.ownsRow _ _ _ _ _ _ _ from OW.o) ⟨r,5,none⟩ 1 (vc-1) (cI x1 (.slice la1 x1.l.length lc1)) (by simp [Act.eval,Act.put,hv1]) rfl ?hcl (by simp [cI,Value.oneCell']) (by simp [maxLen]) (by omega) (by simp;omega) ?_;(case hcl=>exact HN.o);intro v3 W3 own2 gr2 hloc;have hh:=HF.o _ W3 v3 rfl gr2 own2;have HR:=Hm hh.1;obtain ⟨v3a,v3c,rfl⟩:=hh.2;clear own2 gr2 hloc hh HF)
     all_goals
      go_simp
      go_wp2
      go_ret
      exact HR.o
   . by_cases hv1:vc=2
     . subst hv1;have hv3:(2:Int)<=((2:Nat):Int):=by omega
       have hw1:IntKind.i64.wrap 1=1:=by decide
       have hw2:IntKind.i64.wrap 2=2:=by decide
       have hv4:(1:Int)<=((2:Nat):Int):=by omega
       have OW:=Hm (own_pre (m:=1) HS.o.row (by omega))
       have HF:Hid (∀ (W2:World) W3 v3,W2=w3.drew->W2.grownBy W3 (some r)->W3.ownsRow w.heap.size 26 5 v3 1 (cI x0 (.slice la0 x0.l.length lc0))->SpP w g a cap xs (.returned v3) W3/\∃ a c,v3=.slice a 1 c):=by
        intro W2 W3 v3 e k1 k2
        subst e;have k1':w3.grownBy W3 (some r):=⟨k1.os,k1.tape,k1.output,k1.size,k1.block⟩;have k2':W3.ownsRow w.heap.size 26 5 v3 1 (cI x0 (.slice la0 x0.l.length lc0)++[]):=by rw [List.append_nil];exact k2
        exact ⟨fin_row (n:=1) HS.o k1' (λq hq=>by injection hq with hq;omega) (by omega) k2' HS.o.i0 (HS.o.a0.keep k1'.size (λb hb hs=>⟨k1'.block b hs (λe=>hb (.inl (by injection e))),λe=>hb (.inr (by omega))⟩)),Ql k2⟩
       have hws:w.heap.size<=w3.heap.size:=HS.o.gr.size;clear KB HS
       go_upto_region 10 with fail
       go_region_law (refine QX rfl (.tmp 44) (.tmp 48) 36 rfl w.heap.size 26 f0 (.agg #[.int .i64 0,.int .i64 0,.int .i64 0,.int .u64 0,.slice none 0 0]) 5 56 Tryz.underlying36 hi hz0 hz1 hz2 rfl (by decide) (.slice (some ⟨r,0,none⟩) 1 2) 1 (cI x0 (.slice la0 x0.l.length lc0)) (by simp [Act.eval,Act.put]) (show World.ownsRow _ _ _ _ _ _ _ from OW.o) ⟨r,0,none⟩ 0 0 ([]) (by simp [Act.eval,Act.put,]) rfl ?hcl (by simp [cI,Value.oneCell']) (by simp [maxLen]) (by omega) (by simp;omega) ?_;(case hcl=>(intro j u hu;simp at hu));intro v3 W3 own2 gr2 hloc;have hh:=HF.o _ W3 v3 rfl gr2 own2;have HR:=Hm hh.1;obtain ⟨v3a,v3c,rfl⟩:=hh.2;clear own2 gr2 hloc hh HF)
       all_goals
        go_simp
        go_wp2
        go_ret
        exact HR.o
     . skip
       have hv3:(2:Int)<=(vc:Int):=by omega
       have hw1:IntKind.i64.wrap 1=1:=by decide
       have hw2:IntKind.i64.wrap 2=2:=by decide
       have hv4:(1:Int)<=(vc:Int):=by omega
       have OW:=Hm (own_pre (m:=1) HS.o.row (by omega))
       have HF:Hid (∀ (W2:World) W3 v3,W2=w3.drew->W2.grownBy W3 (some r)->W3.ownsRow w.heap.size 26 5 v3 1 (cI x0 (.slice la0 x0.l.length lc0))->SpP w g a cap xs (.returned v3) W3/\∃ a c,v3=.slice a 1 c):=by
        intro W2 W3 v3 e k1 k2
        subst e;have k1':w3.grownBy W3 (some r):=⟨k1.os,k1.tape,k1.output,k1.size,k1.block⟩;have k2':W3.ownsRow w.heap.size 26 5 v3 1 (cI x0 (.slice la0 x0.l.length lc0)++[]):=by rw [List.append_nil];exact k2
        exact ⟨fin_row (n:=1) HS.o k1' (λq hq=>by injection hq with hq;omega) (by omega) k2' HS.o.i0 (HS.o.a0.keep k1'.size (λb hb hs=>⟨k1'.block b hs (λe=>hb (.inl (by injection e))),λe=>hb (.inr (by omega))⟩)),Ql k2⟩
       have hws:w.heap.size<=w3.heap.size:=HS.o.gr.size;clear KB HS
       go_upto_region 10 with fail
       go_region_law (refine QX rfl (.tmp 44) (.tmp 48) 36 rfl w.heap.size 26 f0 (.agg #[.int .i64 0,.int .i64 0,.int .i64 0,.int .u64 0,.slice none 0 0]) 5 56 Tryz.underlying36 hi hz0 hz1 hz2 rfl (by decide) (.slice (some ⟨r,0,none⟩) 1 vc) 1 (cI x0 (.slice la0 x0.l.length lc0)) (by simp [Act.eval,Act.put]) (show World.ownsRow _ _ _ _ _ _ _ from OW.o) ⟨r,10,none⟩ 0 (vc-2) ([]) (by simp [Act.eval,Act.put,hv1]) rfl ?hcl (by simp [cI,Value.oneCell']) (by simp [maxLen]) (by omega) (by simp;omega) ?_;(case hcl=>(intro j u hu;simp at hu));intro v3 W3 own2 gr2 hloc;have hh:=HF.o _ W3 v3 rfl gr2 own2;have HR:=Hm hh.1;obtain ⟨v3a,v3c,rfl⟩:=hh.2;clear own2 gr2 hloc hh HF)
       all_goals
        go_simp
        go_wp2
        go_ret
        exact HR.o
 . have hws:w.heap.size<=w3.heap.size:=HS.o.gr.size;have HR0:=Hm HS.o
   go_wp2_with fail
   refine (l4Op_c 26 _).mono ?_
   rintro e u1 ⟨rfl,hb1⟩;have HS:=Hm (HS.o.below hb1)
   go_wp2_with fail
   refine (l4Op_c 5 _).mono ?_
   rintro e u2 ⟨rfl,hb2⟩;have HS:=Hm (HS.o.below hb2)
   go_wp2_with fail
   refine (l4Op_c 11 _).mono ?_
   rintro e u3 ⟨rfl,hb3⟩;have HS:=Hm (HS.o.below hb3)
   go_wp2_with fail
   refine (l4A_c 32 3 _).mono ?_
   rintro e u4 ⟨rfl,hb4⟩;have HS:=Hm (by first|exact HS.o.below hb4|exact (HS.o.below ((Below.refl _ _).alloc (Nat.le_refl _) _)).below hb4)
   go_wp2_with fail
   refine (l4A_c 12 1 _).mono ?_
   rintro e u5 ⟨rfl,hb5⟩;have HS:=Hm (by first|exact HS.o.below hb5|exact (HS.o.below ((Below.refl _ _).alloc (Nat.le_refl _) _)).below hb5)
   go_wp2_with fail
   refine (l4Op_c 106 _).mono ?_
   rintro e u6 ⟨rfl,hb6⟩;have HS:=Hm (HS.o.below hb6)
   go_wp2_with fail
   refine (l4A_c 3 64 _).mono ?_
   rintro e u7 ⟨rfl,hb7⟩;have HS:=Hm (by first|exact HS.o.below hb7|exact (HS.o.below ((Below.refl _ _).alloc (Nat.le_refl _) _)).below hb7)
   go_wp2_with fail
   refine (l4A_c 36 2 _).mono ?_
   rintro e u8 ⟨rfl,hb8⟩;have HS:=Hm (by first|exact HS.o.below hb8|exact (HS.o.below ((Below.refl _ _).alloc (Nat.le_refl _) _)).below hb8)
   go_wp2_with fail
   refine (l4A_c 17 3 _).mono ?_
   rintro e u9 ⟨rfl,hb9⟩;have HS:=Hm (by first|exact HS.o.below hb9|exact (HS.o.below ((Below.refl _ _).alloc (Nat.le_refl _) _)).below hb9)
   go_wp2_with fail
   refine (l4A_c 16 9 _).mono ?_
   rintro e u10 ⟨rfl,hb10⟩;have HS:=Hm (by first|exact HS.o.below hb10|exact (HS.o.below ((Below.refl _ _).alloc (Nat.le_refl _) _)).below hb10);obtain ⟨lb,hlb⟩:∃ lb,lb=u8.heap.size:=⟨_,rfl⟩;obtain ⟨ob,hob⟩:∃ ob,ob=u10.heap.size:=⟨_,rfl⟩
   have hLB:u10.cell? ⟨lb,0,none⟩=some (.int .i64 0)/\lb<u10.heap.size/\w3.heap.size<=lb:=by
    have s1:lb<(u8.alloc (.cells #[.int .i64 0] 2)).heap.size:=by rw [hlb];simp
    have c1:(u8.alloc (.cells #[.int .i64 0] 2)).cell? ⟨lb,0,none⟩=some (.int .i64 0):=Qi hlb rfl;have c2:=(hb9.cell (p:=⟨lb,0,none⟩) s1).trans c1;have s2:=hb9.size;have c3:=(hb10.cell (p:=⟨lb,0,none⟩) (by show lb<_;omega)).trans c2;have s3:=hb10.size
    refine ⟨c3,by omega,?_⟩
    have:=hb1.size
    have:=hb2.size
    have:=hb3.size
    have:=hb4.size
    have:=hb5.size
    have:=hb6.size
    have:=hb7.size
    have:=hb8.size
    omega
   have HP:Hid (∀ t,(λV=>Sp w g r vc a cap xs x0 x1 (.slice la0 x0.l.length lc0) (.slice la1 x1.l.length lc1) V/\(∀ y:Nat,y<13->∃ x la lc,Pk V ob y (λk=>k=r\/k<w.heap.size) x la lc)/\ob<V.heap.size/\w3.heap.size<=ob) (u10.alloc (.cells #[.int .i64 26,.int .i64 0,.int .i64 0,.int .u64 0,.slice none 0 0,.int .i64 5,.int .i64 0,.int .i64 0,.int .u64 0,.slice none 0 0,.int .i64 11,.int .i64 0,.int .i64 0,.int .u64 0,.slice none 0 0,.int .i64 32,.int .i64 3,.int .i64 0,.int .u64 0,.slice none 0 0,.int .i64 12,.int .i64 1,.int .i64 0,.int .u64 0,.slice none 0 0,.int .i64 106,.int .i64 0,.int .i64 0,.int .u64 0,.slice none 0 0,.int .i64 65,.int .i64 0,.int .i64 0,.int .u64 7,.slice none 0 0,.int .i64 3,.int .i64 64,.int .i64 0,.int .u64 0,.slice none 0 0,.int .i64 36,.int .i64 2,.int .i64 0,.int .u64 0,.slice none 0 0,.int .i64 40,.int .i64 3,.int .i64 0,.int .u64 0,.slice none 0 0,.int .i64 14,.int .i64 1,.int .i64 0,.int .u64 0,.slice (some ⟨lb,0,none⟩) 1 1,.int .i64 17,.int .i64 3,.int .i64 0,.int .u64 0,.slice none 0 0,.int .i64 16,.int .i64 9,.int .i64 0,.int .u64 0,.slice none 0 0] t))):=by
    intro t
    have bk:Bk (u10.alloc (.cells [.int .i64 26,.int .i64 0,.int .i64 0,.int .u64 0,.slice none 0 0,.int .i64 5,.int .i64 0,.int .i64 0,.int .u64 0,.slice none 0 0,.int .i64 11,.int .i64 0,.int .i64 0,.int .u64 0,.slice none 0 0,.int .i64 32,.int .i64 3,.int .i64 0,.int .u64 0,.slice none 0 0,.int .i64 12,.int .i64 1,.int .i64 0,.int .u64 0,.slice none 0 0,.int .i64 106,.int .i64 0,.int .i64 0,.int .u64 0,.slice none 0 0,.int .i64 65,.int .i64 0,.int .i64 0,.int .u64 7,.slice none 0 0,.int .i64 3,.int .i64 64,.int .i64 0,.int .u64 0,.slice none 0 0,.int .i64 36,.int .i64 2,.int .i64 0,.int .u64 0,.slice none 0 0,.int .i64 40,.int .i64 3,.int .i64 0,.int .u64 0,.slice none 0 0,.int .i64 14,.int .i64 1,.int .i64 0,.int .u64 0,.slice (some ⟨lb,0,none⟩) 1 1,.int .i64 17,.int .i64 3,.int .i64 0,.int .u64 0,.slice none 0 0,.int .i64 16,.int .i64 9,.int .i64 0,.int .u64 0,.slice none 0 0].toArray t)) ob [.int .i64 26,.int .i64 0,.int .i64 0,.int .u64 0,.slice none 0 0,.int .i64 5,.int .i64 0,.int .i64 0,.int .u64 0,.slice none 0 0,.int .i64 11,.int .i64 0,.int .i64 0,.int .u64 0,.slice none 0 0,.int .i64 32,.int .i64 3,.int .i64 0,.int .u64 0,.slice none 0 0,.int .i64 12,.int .i64 1,.int .i64 0,.int .u64 0,.slice none 0 0,.int .i64 106,.int .i64 0,.int .i64 0,.int .u64 0,.slice none 0 0,.int .i64 65,.int .i64 0,.int .i64 0,.int .u64 7,.slice none 0 0,.int .i64 3,.int .i64 64,.int .i64 0,.int .u64 0,.slice none 0 0,.int .i64 36,.int .i64 2,.int .i64 0,.int .u64 0,.slice none 0 0,.int .i64 40,.int .i64 3,.int .i64 0,.int .u64 0,.slice none 0 0,.int .i64 14,.int .i64 1,.int .i64 0,.int .u64 0,.slice (some ⟨lb,0,none⟩) 1 1,.int .i64 17,.int .i64 3,.int .i64 0,.int .u64 0,.slice none 0 0,.int .i64 16,.int .i64 9,.int .i64 0,.int .u64 0,.slice none 0 0]:=by rw [hob];exact Bk.new
    have hsz:w3.heap.size<=u10.heap.size:=by omega
    have hl2:LV (u10.alloc (.cells [.int .i64 26,.int .i64 0,.int .i64 0,.int .u64 0,.slice none 0 0,.int .i64 5,.int .i64 0,.int .i64 0,.int .u64 0,.slice none 0 0,.int .i64 11,.int .i64 0,.int .i64 0,.int .u64 0,.slice none 0 0,.int .i64 32,.int .i64 3,.int .i64 0,.int .u64 0,.slice none 0 0,.int .i64 12,.int .i64 1,.int .i64 0,.int .u64 0,.slice none 0 0,.int .i64 106,.int .i64 0,.int .i64 0,.int .u64 0,.slice none 0 0,.int .i64 65,.int .i64 0,.int .i64 0,.int .u64 7,.slice none 0 0,.int .i64 3,.int .i64 64,.int .i64 0,.int .u64 0,.slice none 0 0,.int .i64 36,.int .i64 2,.int .i64 0,.int .u64 0,.slice none 0 0,.int .i64 40,.int .i64 3,.int .i64 0,.int .u64 0,.slice none 0 0,.int .i64 14,.int .i64 1,.int .i64 0,.int .u64 0,.slice (some ⟨lb,0,none⟩) 1 1,.int .i64 17,.int .i64 3,.int .i64 0,.int .u64 0,.slice none 0 0,.int .i64 16,.int .i64 9,.int .i64 0,.int .u64 0,.slice none 0 0].toArray t)) (λk=>k=r\/k<w.heap.size) (.slice (some ⟨lb,0,none⟩) ([0]:List Int).length 1) [0]:=by
     refine .inr ⟨lb,0,1,rfl,λe=>?_,by simp;omega,λi hi=>?_⟩
     . have hrl:=(HR0.o.row.lt r rfl).2
       omega
     . have e:i=0:=by simp at hi;omega
       subst e
       exact (((Below.refl _ _).alloc (Nat.le_refl _) _).cell (p:=⟨lb,0,none⟩) hLB.2.1).trans hLB.1
    refine ⟨HS.o.below ((Below.refl _ _).alloc (Nat.le_refl _) _),λy hy=>?_,bk.1,by omega⟩
    rcases (by omega:y=0\/y=1\/y=2\/y=3\/y=4\/y=5\/y=6\/y=7\/y=8\/y=9\/y=10\/y=11\/y=12) with rfl|rfl|rfl|rfl|rfl|rfl|rfl|rfl|rfl|rfl|rfl|rfl|rfl
    . refine ⟨⟨26,0,0,0,[]⟩,none,0,λj hj=>?_,⟨by decide,by decide,by decide⟩,.inl ⟨rfl,rfl⟩⟩
      rcases (by omega:j=0\/j=1\/j=2\/j=3\/j=4) with rfl|rfl|rfl|rfl|rfl
      . exact bk.2.1 0 _ rfl
      . exact bk.2.1 1 _ rfl
      . exact bk.2.1 2 _ rfl
      . exact bk.2.1 3 _ rfl
      . exact bk.2.1 4 _ rfl
    . refine ⟨⟨5,0,0,0,[]⟩,none,0,λj hj=>?_,⟨by decide,by decide,by decide⟩,.inl ⟨rfl,rfl⟩⟩
      rcases (by omega:j=0\/j=1\/j=2\/j=3\/j=4) with rfl|rfl|rfl|rfl|rfl
      . exact bk.2.1 5 _ rfl
      . exact bk.2.1 6 _ rfl
      . exact bk.2.1 7 _ rfl
      . exact bk.2.1 8 _ rfl
      . exact bk.2.1 9 _ rfl
    . refine ⟨⟨11,0,0,0,[]⟩,none,0,λj hj=>?_,⟨by decide,by decide,by decide⟩,.inl ⟨rfl,rfl⟩⟩
      rcases (by omega:j=0\/j=1\/j=2\/j=3\/j=4) with rfl|rfl|rfl|rfl|rfl
      . exact bk.2.1 10 _ rfl
      . exact bk.2.1 11 _ rfl
      . exact bk.2.1 12 _ rfl
      . exact bk.2.1 13 _ rfl
      . exact bk.2.1 14 _ rfl
    . refine ⟨⟨32,3,0,0,[]⟩,none,0,λj hj=>?_,⟨by decide,by decide,by decide⟩,.inl ⟨rfl,rfl⟩⟩
      rcases (by omega:j=0\/j=1\/j=2\/j=3\/j=4) with rfl|rfl|rfl|rfl|rfl
      . exact bk.2.1 15 _ rfl
      . exact bk.2.1 16 _ rfl
      . exact bk.2.1 17 _ rfl
      . exact bk.2.1 18 _ rfl
      . exact bk.2.1 19 _ rfl
    . refine ⟨⟨12,1,0,0,[]⟩,none,0,λj hj=>?_,⟨by decide,by decide,by decide⟩,.inl ⟨rfl,rfl⟩⟩
      rcases (by omega:j=0\/j=1\/j=2\/j=3\/j=4) with rfl|rfl|rfl|rfl|rfl
      . exact bk.2.1 20 _ rfl
      . exact bk.2.1 21 _ rfl
      . exact bk.2.1 22 _ rfl
      . exact bk.2.1 23 _ rfl
      . exact bk.2.1 24 _ rfl
    . refine ⟨⟨106,0,0,0,[]⟩,none,0,λj hj=>?_,⟨by decide,by decide,by decide⟩,.inl ⟨rfl,rfl⟩⟩
      rcases (by omega:j=0\/j=1\/j=2\/j=3\/j=4) with rfl|rfl|rfl|rfl|rfl
      . exact bk.2.1 25 _ rfl
      . exact bk.2.1 26 _ rfl
      . exact bk.2.1 27 _ rfl
      . exact bk.2.1 28 _ rfl
      . exact bk.2.1 29 _ rfl
    . refine ⟨⟨65,0,0,7,[]⟩,none,0,λj hj=>?_,⟨by decide,by decide,by decide⟩,.inl ⟨rfl,rfl⟩⟩
      rcases (by omega:j=0\/j=1\/j=2\/j=3\/j=4) with rfl|rfl|rfl|rfl|rfl
      . exact bk.2.1 30 _ rfl
      . exact bk.2.1 31 _ rfl
      . exact bk.2.1 32 _ rfl
      . exact bk.2.1 33 _ rfl
      . exact bk.2.1 34 _ rfl
    . refine ⟨⟨3,64,0,0,[]⟩,none,0,λj hj=>?_,⟨by decide,by decide,by decide⟩,.inl ⟨rfl,rfl⟩⟩
      rcases (by omega:j=0\/j=1\/j=2\/j=3\/j=4) with rfl|rfl|rfl|rfl|rfl
      . exact bk.2.1 35 _ rfl
      . exact bk.2.1 36 _ rfl
      . exact bk.2.1 37 _ rfl
      . exact bk.2.1 38 _ rfl
      . exact bk.2.1 39 _ rfl
    . refine ⟨⟨36,2,0,0,[]⟩,none,0,λj hj=>?_,⟨by decide,by decide,by decide⟩,.inl ⟨rfl,rfl⟩⟩
      rcases (by omega:j=0\/j=1\/j=2\/j=3\/j=4) with rfl|rfl|rfl|rfl|rfl
      . exact bk.2.1 40 _ rfl
      . exact bk.2.1 41 _ rfl
      . exact bk.2.1 42 _ rfl
      . exact bk.2.1 43 _ rfl
      . exact bk.2.1 44 _ rfl
    . refine ⟨⟨40,3,0,0,[]⟩,none,0,λj hj=>?_,⟨by decide,by decide,by decide⟩,.inl ⟨rfl,rfl⟩⟩
      rcases (by omega:j=0\/j=1\/j=2\/j=3\/j=4) with rfl|rfl|rfl|rfl|rfl
      . exact bk.2.1 45 _ rfl
      . exact bk.2.1 46 _ rfl
      . exact bk.2.1 47 _ rfl
      . exact bk.2.1 48 _ rfl
      . exact bk.2.1 49 _ rfl
    . refine ⟨⟨14,1,0,0,[0]⟩,(some ⟨lb,0,none⟩),1,λj hj=>?_,⟨by decide,by decide,by decide⟩,hl2⟩
      rcases (by omega:j=0\/j=1\/j=2\/j=3\/j=4) with rfl|rfl|rfl|rfl|rfl
      . exact bk.2.1 50 _ rfl
      . exact bk.2.1 51 _ rfl
      . exact bk.2.1 52 _ rfl
      . exact bk.2.1 53 _ rfl
      . exact bk.2.1 54 _ rfl
    . refine ⟨⟨17,3,0,0,[]⟩,none,0,λj hj=>?_,⟨by decide,by decide,by decide⟩,.inl ⟨rfl,rfl⟩⟩
      rcases (by omega:j=0\/j=1\/j=2\/j=3\/j=4) with rfl|rfl|rfl|rfl|rfl
      . exact bk.2.1 55 _ rfl
      . exact bk.2.1 56 _ rfl
      . exact bk.2.1 57 _ rfl
      . exact bk.2.1 58 _ rfl
      . exact bk.2.1 59 _ rfl
    . refine ⟨⟨16,9,0,0,[]⟩,none,0,λj hj=>?_,⟨by decide,by decide,by decide⟩,.inl ⟨rfl,rfl⟩⟩
      rcases (by omega:j=0\/j=1\/j=2\/j=3\/j=4) with rfl|rfl|rfl|rfl|rfl
      . exact bk.2.1 60 _ rfl
      . exact bk.2.1 61 _ rfl
      . exact bk.2.1 62 _ rfl
      . exact bk.2.1 63 _ rfl
      . exact bk.2.1 64 _ rfl
   clear hb1 hb2 hb3 hb4 hb5 hb6 hb7 hb8 hb9 hb10 hLB
   go_upto_region 13 with fail
   rw [<- hob,<- hlb]
   refine Qj (λV=>Sp w g r vc a cap xs x0 x1 (.slice la0 x0.l.length lc0) (.slice la1 x1.l.length lc1) V/\(∀ y:Nat,y<13->∃ x la lc,Pk V ob y (λk=>k=r\/k<w.heap.size) x la lc)/\ob<V.heap.size/\w3.heap.size<=ob) (HP.o _) ?_
   rintro V0 ⟨hS,hPk,hobl,hobw⟩;have HS:=Hm hS;have HPK:=Hm hPk;clear hS hPk HP hob hlb
   go_wp2_with fail
   refine (KB.o 13 (by decide) (by decide) _ HS.o.c).mono ?_
   rintro e V1 ⟨y,rfl,hy0,hy1,hc,hg⟩;have HS:=Hm (HS.o.step hc hg);obtain ⟨yn,rfl⟩:∃ yn:Nat,y=(yn:Int):=⟨y.toNat,by omega⟩;have hyn:yn<13:=by omega
   obtain ⟨x,la,lc,hk1,hx,hlx⟩:=HPK.o yn hyn;have hobg:V1.heap[ob]?=V0.heap[ob]?:=hg.block ob hobl (λe=>by injection e with e;omega);have hL:LV V1 (λk=>k=r\/k<w.heap.size) (.slice la x.l.length lc) x.l:=hlx.keep hg.size (λb hb hs=>⟨hg.block b hs (λe=>hb (.inr (by injection e with e;omega))),hb⟩);have k0:=(World.cell?_of_block (a:=⟨ob,yn*5+0,none⟩) hobg).trans ((hk1 0 (by omega)).trans (show _=some (.int .i64 x.op) from rfl));rw [Nat.add_zero] at k0;have k1:=(World.cell?_of_block (a:=⟨ob,yn*5+1,none⟩) hobg).trans ((hk1 1 (by omega)).trans (show _=some (.int .i64 x.a) from rfl));have k2:=(World.cell?_of_block (a:=⟨ob,yn*5+2,none⟩) hobg).trans ((hk1 2 (by omega)).trans (show _=some (.int .i64 x.b) from rfl));have k3:=(World.cell?_of_block (a:=⟨ob,yn*5+3,none⟩) hobg).trans ((hk1 3 (by omega)).trans (show _=some (.int .u64 x.v) from rfl));have k4:=(World.cell?_of_block (a:=⟨ob,yn*5+4,none⟩) hobg).trans ((hk1 4 (by omega)).trans (show _=some (.slice la x.l.length lc) from rfl));have hyi:(yn:Int)<13:=by omega
   have HX:=Hm (And.intro hx hL);clear hc hg hk1 hx hlx hL hobg HPK KB hy0 hy1;obtain ⟨bx,hbx⟩:∃ bx,bx=V1.heap.size:=⟨_,rfl⟩
   have HBX:Hid (∀ t,(λV=>Sp w g r vc a cap xs x0 x1 (.slice la0 x0.l.length lc0) (.slice la1 x1.l.length lc1) V/\Bk V bx [.int .i64 x.op,.int .i64 x.a,.int .i64 x.b,.int .u64 x.v,.slice la x.l.length lc]/\IB x/\LV V (λk=>k=r\/k<w.heap.size) (.slice la x.l.length lc) x.l) (V1.alloc (.cells #[.int .i64 x.op,.int .i64 x.a,.int .i64 x.b,.int .u64 x.v,.slice la x.l.length lc] t))):=by
    intro t
    have hb:Below V1.heap.size V1 (V1.alloc (.cells #[.int .i64 x.op,.int .i64 x.a,.int .i64 x.b,.int .u64 x.v,.slice la x.l.length lc] t)):=(Below.refl _ _).alloc (Nat.le_refl _) _
    exact ⟨HS.o.below hb,by rw [hbx];exact Bk.new,HX.o.1,HX.o.2.keep hb.size (λb h1 h2=>⟨hb.block b h2,h1⟩)⟩
   go_upto_region 14 with fail
   rw [<- hbx]
   refine Qj (λV=>Sp w g r vc a cap xs x0 x1 (.slice la0 x0.l.length lc0) (.slice la1 x1.l.length lc1) V/\Bk V bx [.int .i64 x.op,.int .i64 x.a,.int .i64 x.b,.int .u64 x.v,.slice la x.l.length lc]/\IB x/\LV V (λk=>k=r\/k<w.heap.size) (.slice la x.l.length lc) x.l) (HBX.o _) ?_
   rintro V2 ⟨hS,hBx,hx,hL⟩;have b0:=hBx.2.1 0 _ rfl;have b1:=hBx.2.1 1 _ rfl;have b2:=hBx.2.1 2 _ rfl;have b3:=hBx.2.1 3 _ rfl;have b4:=hBx.2.1 4 _ rfl;have HS:=Hm hS;have HX:=Hm (And.intro hx hL);clear hS hBx hx hL HBX hbx k0 k1 k2 k3 k4
   rcases ha with rfl|rfl
   . have hv1:¬ vc=0:=by omega
     have hv4:(1:Int)<=(vc:Int):=by omega
     have hrl:r<V2.heap.size:=(HS.o.row.lt r rfl).2;have HC1:Hid (∀ (W:World),W.heap[r]?=V2.heap[r]?->∀ j u,(cI x0 (.slice la0 x0.l.length lc0)++cI x1 (.slice la1 x1.l.length lc1))[j]?=some u->W.cell? ((⟨r,0,none⟩:Addr).add j)=some u):=λW hW=>Q9 (o:=0) (m:=10) HS.o.row hW (by omega);have HC2:Hid (∀ (W:World),W.heap[r]?=V2.heap[r]?->∀ j u,([]:List Value)[j]?=some u->W.cell? ((⟨r,0,none⟩:Addr).add j)=some u):=λW hW=>Q9 (o:=0) (m:=0) HS.o.row hW (by omega);have HFN:Hid (∀ (W6:World) (v6:Value) (B:Nat),Below V2.heap.size V2 W6->W6.ownsRow B 26 5 v6 3 (cI x (.slice la x.l.length lc)++(cI x0 (.slice la0 x0.l.length lc0)++cI x1 (.slice la1 x1.l.length lc1)))->SpP w g a cap xs (.returned v6) W6/\∃ a c,v6=.slice a 3 c):=λW6 v6 B k1 k2=>⟨fin_below HS.o k1 (by omega) k2 HX.o.1 HX.o.2,Ql k2⟩;clear HS HX
     go_region_law (refine QX rfl (.tmp 75) (.tmp 78) 36 rfl V2.heap.size 26 f0 (.agg #[.int .i64 0,.int .i64 0,.int .i64 0,.int .u64 0,.slice none 0 0]) 5 56 Tryz.underlying36 hi hz0 hz1 hz2 rfl (by decide) (.slice (some ⟨V2.heap.size,0,none⟩) 1 1) 1 (cI x (.slice la x.l.length lc)) (by simp [Act.eval,Act.put]) (show World.ownsRow _ _ _ _ _ _ _ from World.ownsRow_lit V2 #[.int .i64 x.op,.int .i64 x.a,.int .i64 x.b,.int .u64 x.v,.slice la x.l.length lc] 1 (Nat.le_refl _) (by decide) rfl) ⟨r,0,none⟩ 2 vc (cI x0 (.slice la0 x0.l.length lc0)++cI x1 (.slice la1 x1.l.length lc1)) (by simp [Act.eval,Act.put,hv1]) rfl ?hcl (by simp [cI,Value.oneCell']) (by simp [maxLen]) (by omega) (by simp) ?_;(case hcl=>exact HC1.o _ (QC _ _ _ hrl));intro v3 W3 own2 gr2 hloc;have hb3:Below V2.heap.size V2 W3:=bel_grown (V:=V2) (by first|exact ((Below.refl _ _).alloc (Nat.le_refl _) _).drew|exact (Below.refl _ _).alloc (Nat.le_refl _) _) gr2 (Nat.le_refl _);have HB3:=Hm hb3;have HO3:=Hm own2;clear own2 gr2 hloc hb3)
     all_goals
      obtain ⟨b4,c4,rfl,hb4⟩:∃ b4 c4,v3=.slice (some ⟨b4,0,none⟩) 3 c4/\b4<W3.heap.size:=by
       rcases HO3.o.2 with ⟨_,h⟩|⟨g4,c4,cur,e,_⟩
       . omega
       . subst e;exact ⟨g4,c4,rfl,(HO3.o.lt g4 rfl).2⟩
      go_simp
      go_upto_region 15 with fail
      refine Qj (λV=>Below V2.heap.size V2 V/\V.ownsRow V2.heap.size 26 5 (.slice (some ⟨b4,0,none⟩) 3 c4) 3 (cI x (.slice la x.l.length lc)++(cI x0 (.slice la0 x0.l.length lc0)++cI x1 (.slice la1 x1.l.length lc1)))/\b4<V.heap.size) (by first|exact ⟨HB3.o,HO3.o,hb4⟩|exact ⟨HB3.o.drew,HO3.o,hb4⟩) ?_
      rintro V3 ⟨h3,o3,hb4⟩;have hs3:=h3.size;have HCC:Hid (∀ (W:World),W.heap[b4]?=V3.heap[b4]?->∀ j u,(cI x (.slice la x.l.length lc)++(cI x0 (.slice la0 x0.l.length lc0)++cI x1 (.slice la1 x1.l.length lc1)))[j]?=some u->W.cell? ((⟨b4,0,none⟩:Addr).add j)=some u):=λW hW=>Q9 (o:=0) (m:=15) o3 hW (by omega);have HR3:Hid (V3.heap[r]?=V2.heap[r]?):=h3.block r hrl;have HB:=Hm h3;have hr3:r<V3.heap.size:=by omega
      clear h3 o3 HB3 HO3 HC1
      go_wp2_with (first
      |(at_builtin;refine wpList_append_own_at _ rfl (.tmp 80) (.tmp 83) 36 rfl V3.heap.size 26 f0 (.agg #[.int .i64 0,.int .i64 0,.int .i64 0,.int .u64 0,.slice none 0 0]) 5 56 Tryz.underlying36 hi hz0 hz1 hz2 rfl (by decide) (.slice (some ⟨V3.heap.size,0,none⟩) 0 0) 0 [] rfl (World.ownsRow_lit V3 #[] 0 (Nat.le_refl _) (Nat.zero_le _) rfl) ⟨r,0,none⟩ 0 vc ([]) rfl rfl (HC2.o _ ((QC _ _ _ hr3).trans HR3.o)) (by simp [cI,Value.oneCell']) (by simp [maxLen]) (by omega) (by simp) ?_;intro v5 W5 o5 g5 hn5 hat5;have HB5:=Hm (Jq (V:=V3) ((Below.refl _ _).alloc (Nat.le_refl _) _) g5 (λq hq=>by have e:V3.heap.size=q:=(by simpa [Value.ownBlock] using hq);omega));have HO5:=Hm o5;have HK5:Hid (W5.heap[b4]?=V3.heap[b4]?):=HB5.o.block b4 hb4;obtain ⟨v5a,v5c,rfl⟩:=Ql o5;have s5:=HB5.o.size;clear o5 g5 hn5 hat5)
       | (at_builtin;refine wpList_append_own_at _ rfl (.tmp 84) (.tmp 85) 36 rfl V3.heap.size 26 f0 (.agg #[.int .i64 0,.int .i64 0,.int .i64 0,.int .u64 0,.slice none 0 0]) 5 56 Tryz.underlying36 hi hz0 hz1 hz2 rfl (by decide) (.slice v5a (0+0) v5c) (0+0) ([]++[]) rfl HO5.o ⟨b4,0,none⟩ 3 c4 (cI x (.slice la x.l.length lc)++(cI x0 (.slice la0 x0.l.length lc0)++cI x1 (.slice la1 x1.l.length lc1))) rfl rfl (HCC.o _ HK5.o) (by simp [cI,Value.oneCell']) (by simp [maxLen]) (by omega) (by omega) ?_;intro v6 W6 o6 g6 hn6 hat6;have hh:=HFN.o W6 v6 _ (HB.o.trans ((Jq HB5.o g6 (fun q hq=>(HO5.o.lt q hq).1)).mono HB.o.size)) o6;have HE:=Hm hh.1;obtain ⟨v6a,v6c,rfl⟩:=hh.2;clear o6 g6 hn6 hat6 hh))
      go_simp
      go_wp2
      go_ret
      exact HE.o
   . have hv1:¬ vc=1:=by omega
     have hv4:(1:Int)<=(vc:Int):=by omega
     have hrl:r<V2.heap.size:=(HS.o.row.lt r rfl).2;have HC1:Hid (∀ (W:World),W.heap[r]?=V2.heap[r]?->∀ j u,(cI x1 (.slice la1 x1.l.length lc1))[j]?=some u->W.cell? ((⟨r,5,none⟩:Addr).add j)=some u):=λW hW=>Q9 (o:=5) (m:=5) HS.o.row hW (by omega);have HC2:Hid (∀ (W:World),W.heap[r]?=V2.heap[r]?->∀ j u,(cI x0 (.slice la0 x0.l.length lc0):List Value)[j]?=some u->W.cell? ((⟨r,0,none⟩:Addr).add j)=some u):=λW hW=>Q9 (o:=0) (m:=5) HS.o.row hW (by omega);have HFN:Hid (∀ (W6:World) (v6:Value) (B:Nat),Below V2.heap.size V2 W6->W6.ownsRow B 26 5 v6 3 (cI x0 (.slice la0 x0.l.length lc0)++(cI x (.slice la x.l.length lc)++cI x1 (.slice la1 x1.l.length lc1)))->SpP w g a cap xs (.returned v6) W6/\∃ a c,v6=.slice a 3 c):=λW6 v6 B k1 k2=>⟨fin_below HS.o k1 (by omega) k2 HS.o.i0 HS.o.a0,Ql k2⟩;clear HS HX
     go_region_law (refine QX rfl (.tmp 75) (.tmp 78) 36 rfl V2.heap.size 26 f0 (.agg #[.int .i64 0,.int .i64 0,.int .i64 0,.int .u64 0,.slice none 0 0]) 5 56 Tryz.underlying36 hi hz0 hz1 hz2 rfl (by decide) (.slice (some ⟨V2.heap.size,0,none⟩) 1 1) 1 (cI x (.slice la x.l.length lc)) (by simp [Act.eval,Act.put]) (show World.ownsRow _ _ _ _ _ _ _ from World.ownsRow_lit V2 #[.int .i64 x.op,.int .i64 x.a,.int .i64 x.b,.int .u64 x.v,.slice la x.l.length lc] 1 (Nat.le_refl _) (by decide) rfl) ⟨r,5,none⟩ 1 (vc-1) (cI x1 (.slice la1 x1.l.length lc1)) (by simp [Act.eval,Act.put,hv1]) rfl ?hcl (by simp [cI,Value.oneCell']) (by simp [maxLen]) (by omega) (by simp) ?_;(case hcl=>exact HC1.o _ (QC _ _ _ hrl));intro v3 W3 own2 gr2 hloc;have hb3:Below V2.heap.size V2 W3:=bel_grown (V:=V2) (by first|exact ((Below.refl _ _).alloc (Nat.le_refl _) _).drew|exact (Below.refl _ _).alloc (Nat.le_refl _) _) gr2 (Nat.le_refl _);have HB3:=Hm hb3;have HO3:=Hm own2;clear own2 gr2 hloc hb3)
     all_goals
      obtain ⟨b4,c4,rfl,hb4⟩:∃ b4 c4,v3=.slice (some ⟨b4,0,none⟩) 2 c4/\b4<W3.heap.size:=by
       rcases HO3.o.2 with ⟨_,h⟩|⟨g4,c4,cur,e,_⟩
       . omega
       . subst e;exact ⟨g4,c4,rfl,(HO3.o.lt g4 rfl).2⟩
      go_simp
      go_upto_region 15 with fail
      refine Qj (λV=>Below V2.heap.size V2 V/\V.ownsRow V2.heap.size 26 5 (.slice (some ⟨b4,0,none⟩) 2 c4) 2 (cI x (.slice la x.l.length lc)++(cI x1 (.slice la1 x1.l.length lc1)))/\b4<V.heap.size) (by first|exact ⟨HB3.o,HO3.o,hb4⟩|exact ⟨HB3.o.drew,HO3.o,hb4⟩) ?_
      rintro V3 ⟨h3,o3,hb4⟩;have hs3:=h3.size;have HCC:Hid (∀ (W:World),W.heap[b4]?=V3.heap[b4]?->∀ j u,(cI x (.slice la x.l.length lc)++(cI x1 (.slice la1 x1.l.length lc1)))[j]?=some u->W.cell? ((⟨b4,0,none⟩:Addr).add j)=some u):=λW hW=>Q9 (o:=0) (m:=10) o3 hW (by omega);have HR3:Hid (V3.heap[r]?=V2.heap[r]?):=h3.block r hrl;have HB:=Hm h3;have hr3:r<V3.heap.size:=by omega
      clear h3 o3 HB3 HO3 HC1
      go_wp2_with (first
      |(at_builtin;refine wpList_append_own_at _ rfl (.tmp 80) (.tmp 83) 36 rfl V3.heap.size 26 f0 (.agg #[.int .i64 0,.int .i64 0,.int .i64 0,.int .u64 0,.slice none 0 0]) 5 56 Tryz.underlying36 hi hz0 hz1 hz2 rfl (by decide) (.slice (some ⟨V3.heap.size,0,none⟩) 0 0) 0 [] rfl (World.ownsRow_lit V3 #[] 0 (Nat.le_refl _) (Nat.zero_le _) rfl) ⟨r,0,none⟩ 1 vc (cI x0 (.slice la0 x0.l.length lc0)) rfl rfl (HC2.o _ ((QC _ _ _ hr3).trans HR3.o)) (by simp [cI,Value.oneCell']) (by simp [maxLen]) (by omega) (by simp) ?_;intro v5 W5 o5 g5 hn5 hat5;have HB5:=Hm (Jq (V:=V3) ((Below.refl _ _).alloc (Nat.le_refl _) _) g5 (λq hq=>by have e:V3.heap.size=q:=(by simpa [Value.ownBlock] using hq);omega));have HO5:=Hm o5;have HK5:Hid (W5.heap[b4]?=V3.heap[b4]?):=HB5.o.block b4 hb4;obtain ⟨v5a,v5c,rfl⟩:=Ql o5;have s5:=HB5.o.size;clear o5 g5 hn5 hat5)
       | (at_builtin;refine wpList_append_own_at _ rfl (.tmp 84) (.tmp 85) 36 rfl V3.heap.size 26 f0 (.agg #[.int .i64 0,.int .i64 0,.int .i64 0,.int .u64 0,.slice none 0 0]) 5 56 Tryz.underlying36 hi hz0 hz1 hz2 rfl (by decide) (.slice v5a (0+1) v5c) (0+1) ([]++cI x0 (.slice la0 x0.l.length lc0)) rfl HO5.o ⟨b4,0,none⟩ 2 c4 (cI x (.slice la x.l.length lc)++(cI x1 (.slice la1 x1.l.length lc1))) rfl rfl (HCC.o _ HK5.o) (by simp [cI,Value.oneCell']) (by simp [maxLen]) (by omega) (by omega) ?_;intro v6 W6 o6 g6 hn6 hat6;have hh:=HFN.o W6 v6 _ (HB.o.trans ((Jq HB5.o g6 (fun q hq=>(HO5.o.lt q hq).1)).mono HB.o.size)) o6;have HE:=Hm hh.1;obtain ⟨v6a,v6c,rfl⟩:=hh.2;clear o6 g6 hn6 hat6 hh))
      go_simp
      go_wp2
      go_ret
      exact HE.o
 . rcases ha with rfl|rfl
   . have q:=(HS.o.row.cellAt 3 (by omega)).trans (show _=some (.int .u64 x0.v) from rfl);have z:=HS.o.row.frozenAt 3;have HF:=Hm (λ(z:Int) (h0:0<=z) (h1:z<=18446744073709551615)=>(HS.o.put (y0:=⟨x0.op,x0.a,x0.b,z,x0.l⟩) (y1:=⟨x1.op,x1.a,x1.b,x1.v,x1.l⟩) 3 (.int .u64 z) rfl rfl rfl ⟨h0,h1,HS.o.i0.2.2⟩ HS.o.i1).fin);have hv:=HS.o.i0.1;clear KB HS
     go_wp2
     go_ret
     exact HF.o _ (by first|omega|(rw [IntKind.wrap_u64];omega)) (by first|omega|(rw [IntKind.wrap_u64];omega))
   . have q:=(HS.o.row.cellAt 8 (by omega)).trans (show _=some (.int .u64 x1.v) from rfl);have z:=HS.o.row.frozenAt 8;have HF:=Hm (λ(z:Int) (h0:0<=z) (h1:z<=18446744073709551615)=>(HS.o.put (y0:=⟨x0.op,x0.a,x0.b,x0.v,x0.l⟩) (y1:=⟨x1.op,x1.a,x1.b,z,x1.l⟩) 8 (.int .u64 z) rfl rfl rfl HS.o.i0 ⟨h0,h1,HS.o.i1.2.2⟩).fin);have hv:=HS.o.i1.1;clear KB HS
     go_wp2
     go_ret
     exact HF.o _ (by first|omega|(rw [IntKind.wrap_u64];omega)) (by first|omega|(rw [IntKind.wrap_u64];omega))
 . rcases ha with rfl|rfl
   . have q:=(HS.o.row.cellAt 2 (by omega)).trans (show _=some (.int .i64 x0.b) from rfl);have z:=HS.o.row.frozenAt 2;have HF:=Hm (λ(z:Int)=>(HS.o.put (y0:=⟨x0.op,x0.a,z,x0.v,x0.l⟩) (y1:=⟨x1.op,x1.a,x1.b,x1.v,x1.l⟩) 2 (.int .i64 z) rfl rfl rfl HS.o.i0 HS.o.i1).fin);clear KB HS
     go_wp2
     go_ret
     exact HF.o _
   . have q:=(HS.o.row.cellAt 7 (by omega)).trans (show _=some (.int .i64 x1.b) from rfl);have z:=HS.o.row.frozenAt 7;have HF:=Hm (λ(z:Int)=>(HS.o.put (y0:=⟨x0.op,x0.a,x0.b,x0.v,x0.l⟩) (y1:=⟨x1.op,x1.a,z,x1.v,x1.l⟩) 7 (.int .i64 z) rfl rfl rfl HS.o.i0 HS.o.i1).fin);clear KB HS
     go_wp2
     go_ret
     exact HF.o _
end Go.Proofs.YtipfjdogokanbaaGreatDoor.An
