import Derived.Test.YtedcmcdbejjgcaaGreatGan
import Derived.Test.YtedcmcdbejjgcaaGreatGai
import Derived.Defers
import Derived.Recover
import Derived.Laws.Pointers
import Derived.Test.YtedcmcdbejjgcaaGreatGao
import Derived.Test.YtedcmcdbejjgcaaGreatGaq
import Derived.Test.YtedcmcdbejjgcaaGreatGaa
set_option linter.all false
set_option maxHeartbeats 400000000
set_option maxRecDepth 100000
namespace Go.Proofs.YtedcmcdbejjgcaaGreat
open Go.RowKit Go.Sort
theorem rins_c (q ba bc bs p)(a:Int)(w)(c:0<=QM (Qr a))(h:Rd w q ba bc bs p)(b:Qm bs)(hl:bs.length<=1099511627776) :
    Calls Tryz.prog 321 #[.pointer (some ⟨q,0,none⟩),.int .i64 a] w (RiP (JQ (QM (Qr a)) a bs p) w q ba bc bs):=by
 rcases form_range a with e|e|e|e|e|e|e|e|e|e|e|e
 . omega
 . rw [e];exact rins_0 q ba bc bs p a w e h b hl
 . rw [e];exact rins_1 q ba bc bs p a w e h b hl
 . rw [e];exact rins_2 q ba bc bs p a w e h b hl
 . rw [e];exact rins_3 q ba bc bs p a w e h b hl
 . rw [e];exact rins_4 q ba bc bs p a w e h b hl
 . rw [e];exact rins_5 q ba bc bs p a w e h b hl
 . rw [e];exact rins_6 q ba bc bs p a w e h b hl
 . rw [e];exact rins_7 q ba bc bs p a w e h b hl
 . rw [e];exact rins_8 q ba bc bs p a w e h b hl
 . rw [e];exact rins_9 q ba bc bs p a w e h b hl
 . rw [e];exact rins_10 q ba bc bs p a w e h b hl
def opM (bs:List Int)(p:Nat):Rs Int:=(Qx bs p).bind λx p1=>if QM (Qr x)<0 then .bad 10 p1 else .ok x p1
theorem opc_c (q ba bc bs p w)(h:Rd w q ba bc bs p)(u:Qm bs)(hl:bs.length<=1099511627776) :
    Calls Tryz.prog 319 #[.pointer (some ⟨q,0,none⟩)] w (RdP (opM bs p) (λv=>.int .i64 v) w q ba bc bs):=by
 have K:=Hm (take_c q ba bc bs p w h hl);have c:=λv p1=>Xn (p:=p) (p1:=p1) (v:=v) u;unfold opM;generalize Qx bs p=M at *
 cases M with
 |bad er at_ =>
  clear c h
  go_enter Tryz.func319,Tryz.ntmps319
  go_wp2_with fail
  refine (K.o).mono ?_
  rintro e n ⟨b,rfl⟩
  exact ⟨rfl,b,rfl⟩
 |ok v p1 =>
  obtain ⟨v0,v1⟩:=c v p1 rfl;have t:=Hm (GJ v)
  show Calls _ _ _ _ (RdP (if QM (Qr v)<0 then .bad 10 p1 else .ok v p1) _ _ _ _ _ _)
  generalize QM (Qr v)=f at *;clear c h
  by_cases s:f<0
  . rw [if_pos s]
    go_enter Tryz.func319,Tryz.ntmps319
    go_wp2_with fail
    refine (K.o).mono ?_
    rintro e n ⟨b,rfl,g⟩;have l:=Hm b;have k:=Hm g;clear b g K
    go_wp2_with fail
    refine (t.o _).mono ?_
    rintro e m ⟨rfl,a⟩;have y:=Hm (JE q 10 p1 m (k.o.keep a).c1);have d:=Hm (Qa l.o (Qi (r:=some q) a));clear a
    go_wp2_with fail
    refine (y.o).mono ?_
    rintro e z ⟨rfl,rfl⟩
    exact ⟨rfl,d.o,rfl⟩
  . rw [if_neg s]
    go_enter Tryz.func319,Tryz.ntmps319
    go_wp2_with fail
    refine (K.o).mono ?_
    rintro e n ⟨b,rfl,g⟩;have l:=Hm b;have k:=Hm g;clear b g K
    go_wp2_with fail
    refine (t.o _).mono ?_
    rintro e m ⟨rfl,a⟩;have d:=Hm (Qa l.o (Qi (r:=some q) a));have j:=Hm (k.o.keep a);clear a
    go_wp2_with fail
    go_ret
    exact ⟨d.o,rfl,j.o⟩
theorem opM_form {bs:List Int}{p p1:Nat}{v:Int}(h:opM bs p=.ok v p1):0<=QM (Qr v):=by
 unfold opM at h;generalize Qx bs p=M at h
 cases M with
 |bad er at_=>cases h
 |ok x p2 =>
  simp only [Rs.bind] at h
  split at h
  · cases h
  . cases h;omega
end Go.Proofs.YtedcmcdbejjgcaaGreat
namespace Go.Proofs.YtedcmcdbejjgcaaGreat
open Go.RowKit Go.Sort
abbrev fltR (er at_:Int):PanicEntry:={ v:=.iface 60 (.agg #[.int .i64 er,.int .i64 at_,.nilIface]),recovered:=true }
theorem catch_p (F:Nat)(er at_:Int)(a b c:Value)(w:World)(c0:w.cell? ⟨F,0,none⟩=some a)(c1:w.cell? ⟨F,1,none⟩=some b)(c2:w.cell? ⟨F,2,none⟩=some c)(j:w.frozen? ⟨F,0,none⟩=false)(g:w.frozen? ⟨F,1,none⟩=false)(f:w.frozen? ⟨F,2,none⟩=false) :
    CallsD Tryz.prog 76 #[.pointer (some ⟨F,0,none⟩)] (.panicking [flt er at_]) w λe u' w' =>
     e=.returned (.tuple #[])/\u'=.panicking [fltR er at_]/\w'=((w.setCell ⟨F,0,none⟩ (.int .i64 er)).setCell ⟨F,1,none⟩ (.int .i64 at_)).setCell ⟨F,2,none⟩ .nilIface:=by
 have d:∀ w:World,(Instr.typeAssert (.iface 60 (.agg #[.int .i64 er,.int .i64 at_,.nilIface])) 20 60 false).run Tryz.prog w=.ok (.agg #[.int .i64 er,.int .i64 at_,.nilIface]) w:=λw=>by kernel_rfl
 refine callsD_of_wpS Tryz.func76 rfl λc₀ cs hu=>?_
 apply wpS_seq
 apply wpS_region
 simp [wpOpsS,go_sem,recoverD,hu,Tryz.ntmps76,Exit.thenS]
 apply wpS_seq
 apply wpS_region
 simp [wpOpsS,go_sem,Exit.thenS,Array.replicate]
 refine wpS_cond (t:=true) (by simp [Act.eval,Array.replicate]) ?_
 simp only [if_true]
 apply wpS_region
 simp [wpOpsS,go_sem,d,c0,c1,c2,j,g,f,bodyPostS,results,Tryz.results76,Array.replicate]
theorem catch_i (F:Nat)(w:World) :
    CallsD Tryz.prog 76 #[.pointer (some ⟨F,0,none⟩)] .returning w λe u' w'=>e=.returned (.tuple #[])/\u'=.returning/\w'=w:=by
 refine callsD_of_wpS Tryz.func76 rfl λc₀ cs hu=>?_
 apply wpS_seq
 apply wpS_region
 simp [wpOpsS,go_sem,recoverD,hu,Tryz.ntmps76,Exit.thenS]
 apply wpS_seq
 apply wpS_region
 simp [wpOpsS,go_sem,Exit.thenS,Array.replicate]
 refine wpS_cond (t:=false) (by simp [Act.eval,Array.replicate]) ?_
 simp only [Bool.false_eq_true,if_false]
 refine wpS_of_wp (wp_skip ?_)
 cases c₀
 simp_all [bodyPostS,results,Tryz.results76]
end Go.Proofs.YtedcmcdbejjgcaaGreat
namespace Go.Proofs.YtedcmcdbejjgcaaGreat
open Go.RowKit Go.Sort
def Rs.nz {α:Type}(r:Rs α):Prop:=∀ er a,r=.bad er a->er≠0
theorem Qk {α β:Type}{r:Rs α}{k:α->Nat->Rs β}(h:r.nz)(b:∀ v p,(k v p).nz):(r.bind k).nz:=by
 cases r with
 |bad er a=>intro c d e;simp only [Rs.bind] at e;cases e;exact h _ _ rfl
 |ok v p=>exact b v p
theorem XZ {α:Type}(v:α)(p:Nat):(Rs.ok v p).nz:=λer a e=>by cases e
theorem Xg (bs:List Int)(p:Nat):(Qx bs p).nz:=by
 intro er a e
 unfold Qx at e
 split at e
 · cases e;decide
 . cases e
theorem Q9 (s:Bool)(B:Int)(bs:List Int)(p:Nat):(Qy s B bs p).nz:=by
 intro er a e
 unfold Qy at e
 split at e
 · cases e;decide
 . split at e
   · cases e
   . cases e;decide
theorem nz_fix (bs:List Int)(p n:Nat):(XC bs p n).nz:=by
 intro er a e
 unfold XC at e
 split at e
 · cases e
 . cases e;decide
theorem nz_if {α:Type}{c:Prop}[Decidable c]{x y:Rs α}(h1:x.nz)(a:y.nz):(if c then x else y).nz:=by split<;>assumption
theorem nz_bad {α:Type}(er a:Int)(h:er≠0):(Rs.bad er a:Rs α).nz:=λ_ _ e=>by cases e;exact h
theorem nz_only (bs:List Int)(p:Nat):(onlyM bs p).nz:=Qk (Xg _ _) λv p1=>nz_if (XZ _ _) (nz_bad _ _ (by decide))
theorem nz_mark (bs:List Int)(p:Nat):(Xp bs p).nz:=Qk (Xg _ _) λv p1=>nz_if (XZ _ _) (nz_bad _ _ (by decide))
theorem nz_rep (bs:List Int):∀ (n:Nat) (a:List Int) (p:Nat),(GP bs n a p).nz:=by
 intro n
 induction n with
 |zero=>intro a p;exact XZ _ _
 |succ n ih=>intro a p;exact Qk (Q9 _ _ _ _) λv p1=>ih _ _
theorem nz_vec (bs:List Int)(p:Nat):(vecM bs p).nz:=Qk (Q9 _ _ _ _) λv p1=>nz_rep _ _ _ _
theorem nz_dec (f a:Int)(bs:List Int)(p:Nat):(JQ f a bs p).nz:=by
 unfold JQ
 repeat' refine nz_if ?_ ?_
 . exact Qk (nz_only _ _) λ_ _=>XZ _ _
 . exact Qk (Q9 _ _ _ _) λ_ _=>XZ _ _
 . exact Qk (nz_vec _ _) λ_ _=>Qk (Q9 _ _ _ _) λ_ _=>XZ _ _
 . exact Qk (Q9 _ _ _ _) λ_ _=>Qk (nz_mark _ _) λ_ _=>XZ _ _
 . exact Qk (Q9 _ _ _ _) λ_ _=>Qk (Q9 _ _ _ _) λ_ _=>XZ _ _
 . exact Qk (nz_mark _ _) λ_ _=>XZ _ _
 . exact Qk (Q9 _ _ _ _) λ_ _=>XZ _ _
 . exact Qk (Q9 _ _ _ _) λ_ _=>XZ _ _
 . exact Qk (nz_fix _ _ _) λ_ _=>XZ _ _
 . exact Qk (nz_fix _ _ _) λ_ _=>XZ _ _
 . exact XZ _ _
def Qz (f:Int->Bool)(bs:List Int)(p:Nat):Rs Int:=(Qx bs p).bind λx p1=>if f x then .ok x p1 else .bad 8 p1
def Gs (k:Int)(bs:List Int)(p:Nat):Rs Unit:=(Qx bs p).bind λx p1=>if x=k then .ok () p1 else .bad 8 p1
def flB (x:Int):Bool:=decide (x=0) || decide (x=1)
def flagM (bs:List Int)(p:Nat):Rs Bool:=(Qz flB bs p).bind λx p1=>.ok (decide (x=1)) p1
def Q7 {α:Type}(rd:Nat->Rs α):Nat->List α->Nat->Rs (List α)
 |0,acc,p=>.ok acc p
 |n+1,acc,p=>(rd p).bind λv p1=>Q7 rd n (acc++[v]) p1
def Jj {α:Type}(rd:Nat->Rs α)(bs:List Int)(p:Nat):Rs (List α):=(Qy false 32 bs p).bind λn p1=>Q7 rd n.toNat [] p1
def QK (bs:List Int)(p:Nat):Rs Int:=Qy false 32 bs p
def Jl (bs:List Int)(E:Int)(p:Nat):Rs Int:=(QK bs p).bind λn p1=>if E-p1<n then .bad 6 p1 else .ok n p1
def JF (bs:List Int)(n p:Nat):Rs (List Int):=if p+n<=bs.length then .ok ((bs.drop p).take n) (p+n) else .bad 2 bs.length
def Jn (bs:List Int):Nat->Nat->Nat->Rs Unit
 |0,w,p=>if w<p then .bad 9 p else .ok () p
 |n+1,w,p=>(Qx bs p).bind λ_ p1=>if uf 0 0 0 0 ((bs.drop w).take (p1-w))=-1 then Jn bs n p1 p1 else if uf 0 0 0 0 ((bs.drop w).take (p1-w))=((p1:Int)-w) then Jn bs n w p1 else .bad 9 p1
def Xa (bs:List Int)(E:Int)(p:Nat):Rs ByteArray:=(Jl bs E p).bind λn p1=>(Jn bs n.toNat p1 p1).bind λ_ p2=>.ok (strOfNums ((bs.drop p1).take (p2-p1))) p2
def XR (bs:List Int)(p:Nat):Rs Qq:=(flagM bs p).bind λh p1=>(QK bs p1).bind λmn p2=>if h then (QK bs p2).bind λmx p3=>.ok ⟨mn,mx,true⟩ p3 else .ok ⟨mn,0,false⟩ p2
def GC (bs:List Int)(p:Nat):Rs Qq:=(Gs 112 bs p).bind λ_ p1=>XR bs p1
def gtyM (bs:List Int)(p:Nat):Rs JX:=(Qz tyB bs p).bind λt p1=>(flagM bs p1).bind λm p2=>.ok ⟨t,m⟩ p2
def ftM (bs:List Int)(p:Nat):Rs Q1:=(Gs 96 bs p).bind λ_ p1=>(Jj (Qz tyB bs) bs p1).bind λps p2=>(QK bs p2).bind λn p3=>if 1<n then .bad 8 p3 else (Q7 (Qz tyB bs) n.toNat [] p3).bind λrs p4=>.ok ⟨ps,rs⟩ p4
def XK (bs:List Int)(E:Int)(p:Nat):Rs Imp:=(Xa bs E p).bind λa p1=>(Xa bs E p1).bind λb p2=>(Qz GU bs p2).bind λk p3 =>
 if k=0 then (QK bs p3).bind λt p4=>.ok ⟨a,b,k,t,Qq.z,JX.z⟩ p4
 else if k=1 then (GC bs p3).bind λl p4=>.ok ⟨a,b,k,0,l,JX.z⟩ p4
 else if k=2 then (XR bs p3).bind λl p4=>.ok ⟨a,b,k,0,l,JX.z⟩ p4
 else (gtyM bs p3).bind λg p4=>.ok ⟨a,b,k,0,Qq.z,g⟩ p4
def Xl (bs:List Int):Nat->List Bool->List In->Nat->Rs (List In)
 |0,n,acc,p=>.bad 2 bs.length
 |f+1,n,acc,p=>if n=[] then .ok acc p else (opM bs p).bind λop p1=>match Jf n op with
  |none=>.bad 10 p1
  |some n'=>(JQ (QM (Qr op)) op bs p1).bind λx p2=>Xl bs f n' (acc++[x]) p2
def Jx (bs:List Int)(p:Nat):Rs (List In):=Xl bs (bs.length+1) [false] [] p
def XH (bs:List Int)(p:Nat):Rs Jv:=(gtyM bs p).bind λt p1=>(Jx bs p1).bind λl p2=>.ok ⟨t,l⟩ p2
def expM (bs:List Int)(E:Int)(p:Nat):Rs Exp:=(Xa bs E p).bind λa p1=>(Qz GU bs p1).bind λk p2=>(QK bs p2).bind λi p3=>.ok ⟨a,k,i⟩ p3
def segM (bs:List Int)(p:Nat):Rs (List In):=(Gs 0 bs p).bind λ_ p1=>Jx bs p1
def Xk (bs:List Int)(p:Nat):Rs Ele:=(segM bs p).bind λl p1=>(Jj (QK bs) bs p1).bind λfs p2=>.ok ⟨l,fs⟩ p2
def XY (bs:List Int):Nat->Int->List Grp->Nat->Rs (List Grp)
 |0,s,acc,p=>.ok acc p
 |k+1,s,acc,p=>(QK bs p).bind λn p1=>if 4294967295<s+n then .bad 12 p1 else (Qz tyB bs p1).bind λt p2=>XY bs k (s+n) (acc++[⟨n,t⟩]) p2
def X4 (bs:List Int)(p:Nat):Rs (List Grp):=(QK bs p).bind λn p1=>XY bs n.toNat 0 [] p1
def QU {α:Type}(rd:List Int->Int->Nat->Rs α)(bs:List Int)(E:Int)(p:Nat):Rs α:=(Jl bs E p).bind λn p1 =>
 match rd (bs.take (p1+n.toNat)) (p1+n) p1 with
 |.bad e a=>if e=2 then (if p1+n.toNat<bs.length then .bad 6 ((p1:Int)+n+1) else .bad 2 bs.length) else .bad e a
 |.ok v p2=>if p2<p1+n.toNat then (if bs.length<=p2 then .bad 2 bs.length else .bad 6 ((p2:Int)+1)) else .ok v p2
def bodM (bs:List Int)(E:Int)(p:Nat):Rs Cod:=(X4 bs p).bind λg p1=>(Jx bs p1).bind λl p2=>.ok ⟨g,l⟩ p2
def Xw (bs:List Int)(E:Int)(p:Nat):Rs Cod:=QU bodM bs E p
def Xq (bs:List Int)(E:Int)(p:Nat):Rs Dat:=(segM bs p).bind λl p1=>(Jl bs E p1).bind λn p2=>(JF bs n.toNat p2).bind λb p3=>.ok ⟨l,b⟩ p3
def Gy (aft:Int)(bs:List Int)(E:Int)(p:Nat):Rs Cus:=(Xa bs E p).bind λa p1=>(JF bs (E-p1).toNat p1).bind λb p2=>.ok ⟨aft,a,b⟩ p2
def Jk (k aft:Int)(m:Mod)(bs:List Int)(E:Int)(p:Nat):Rs Mod :=
 if k=0 then (Gy aft bs E p).bind λc p1=>.ok { m with customs:=m.customs++[c] } p1
 else if k=1 then (Jj (ftM bs) bs p).bind λl p1=>.ok { m with types:=m.types++l } p1
 else if k=2 then (Jj (XK bs E) bs p).bind λl p1=>.ok { m with imps:=m.imps++l } p1
 else if k=3 then (Jj (QK bs) bs p).bind λl p1=>.ok { m with funcs:=m.funcs++l } p1
 else if k=4 then (Jj (GC bs) bs p).bind λl p1=>.ok { m with tabs:=m.tabs++l } p1
 else if k=5 then (Jj (XR bs) bs p).bind λl p1=>.ok { m with mems:=m.mems++l } p1
 else if k=6 then (Jj (XH bs) bs p).bind λl p1=>.ok { m with globs:=m.globs++l } p1
 else if k=7 then (Jj (expM bs E) bs p).bind λl p1=>.ok { m with exps:=m.exps++l } p1
 else if k=8 then (QK bs p).bind λx p1=>.ok { m with hasS:=true,start:=x } p1
 else if k=9 then (Jj (Xk bs) bs p).bind λl p1=>.ok { m with elems:=l } p1
 else if k=10 then (QK bs p).bind λn p1=>if n=(m.funcs.length:Int) then (Q7 (Xw bs E) n.toNat [] p1).bind λl p2=>.ok { m with codes:=l } p2 else .bad 11 p1
 else (Jj (Xq bs E) bs p).bind λl p1=>.ok { m with datas:=l } p1
def noM (last:Int)(bs:List Int)(p:Nat):Rs Int:=(Qx bs p).bind λx p1=>if 11<x then .bad 4 p1 else if x≠0/\x<=last then .bad 5 p1 else .ok x p1
def JH:Int:=9223372036854775807
def Gq (bs:List Int):Nat->Mod->Int->Int->Nat->Rs Mod
 |0,m,last,aft,p=>.bad 2 bs.length
 |f+1,m,last,aft,p=>if p<bs.length then (noM last bs p).bind λk p1=>(QU (Jk k aft m) bs JH p1).bind λm' p2 =>
     Gq bs f m' (if k=0 then last else k) (if k≠0/\Gi m' k then k else aft) p2
  else if m.codes.length≠m.funcs.length then .bad 11 p else .ok m p
def headB:List Int:=[0,97,115,109,1,0,0,0]
def hdG (bs:List Int):Nat->Nat->Rs Unit
 |0,p=>.ok () p
 |n+1,p=>(Qx bs p).bind λx p1=>if x=headB.getD p 0 then hdG bs n p1 else .bad 3 p1
def JM (bs:List Int):Rs Mod:=(hdG bs 8 0).bind λ_ p=>Gq bs (bs.length+1) Mod.z 0 0 p
structure DRes where
 err:Int
 at_:Int
 m:Mod
def XG (bs:List Int):DRes:=if 65536<bs.length then ⟨1,0,Mod.z⟩ else match JM bs with
 |.bad e a=>⟨e,a,Mod.z⟩
 |.ok m _=>⟨0,0,m⟩
theorem iflag_c (x:Int)(w:World):Calls Tryz.prog 318 #[.int .i64 x] w λe w'=>e=.returned (.bool (flB x))/\w=w':=by
 unfold flB
 by_cases h:x=0
 . subst h
   go_enter Tryz.func318,Tryz.ntmps318
   go_wp2
   go_ret
   exact ⟨rfl,rfl⟩
 . have f:(x==(0:Int))=false:=by simpa using h
   by_cases a:x=1
   . subst a
     go_enter Tryz.func318,Tryz.ntmps318
     go_wp2
     go_ret
     exact ⟨rfl,rfl⟩
   . have b:(x==(1:Int))=false:=by simpa using a
     go_enter Tryz.func318,Tryz.ntmps318
     go_wp2
     go_ret
     exact ⟨by simp [h,a],rfl⟩
theorem only_x:(∀ (q:Nat) (a:Option Addr) (bc:Bf) (bs:List Int) (p:Nat) (w:World) (h:Rd w q a bc bs p) (g:Qm bs) (hl:bs.length<=1099511627776),Calls Tryz.prog 285 #[.pointer (some ⟨q,0,none⟩),.func (.func 128) #[] #[]] w (RdP (Qz tyB bs p) (λv=>.int .i64 v) w q a bc bs))/\(∀ (q:Nat) (a:Option Addr) (bc:Bf) (bs:List Int) (p:Nat) (w:World) (h:Rd w q a bc bs p) (g:Qm bs) (hl:bs.length<=1099511627776),Calls Tryz.prog 285 #[.pointer (some ⟨q,0,none⟩),.func (.func 318) #[] #[]] w (RdP (Qz flB bs p) (λv=>.int .i64 v) w q a bc bs))/\(∀ (q:Nat) (a:Option Addr) (bc:Bf) (bs:List Int) (p:Nat) (w:World) (h:Rd w q a bc bs p) (g:Qm bs) (hl:bs.length<=1099511627776),Calls Tryz.prog 285 #[.pointer (some ⟨q,0,none⟩),.func (.func 132) #[] #[]] w (RdP (Qz GU bs p) (λv=>.int .i64 v) w q a bc bs)):=by
 refine ⟨?c0,?c1,?c2⟩
 case' c0=>have d:=0
 case' c1=>have c:=0
 case' c2=>have u:=0
 all_goals
  intro q a bc bs p w h g hl
  have K:=Hm (take_c q a bc bs p w h hl);have b:=λv p1=>Xn (p:=p) (p1:=p1) (v:=v) g;unfold Qz;generalize Qx bs p=M at *
  cases M with
  |bad er at_ =>
   clear b h
   go_enter Tryz.func285,Tryz.ntmps285
   go_wp2_with fail
   refine (K.o).mono ?_
   rintro e l ⟨f,rfl⟩
   exact ⟨rfl,f,rfl⟩
  |ok v p1 =>
   obtain ⟨v0,v1⟩:=b v p1 rfl
   first|(replace d:=d;have j:=Hm (ity_c v))|(replace c:=c;have j:=Hm (iflag_c v))|(have j:=Hm (ikind_c v))
   first|(replace d:=d;show Calls _ _ _ _ (RdP (if tyB v then .ok v p1 else .bad 8 p1) _ _ _ _ _ _))|(replace c:=c;show Calls _ _ _ _ (RdP (if flB v then .ok v p1 else .bad 8 p1) _ _ _ _ _ _))|(show Calls _ _ _ _ (RdP (if GU v then .ok v p1 else .bad 8 p1) _ _ _ _ _ _))
   first|(replace d:=d;generalize tyB v=z at *)|(replace c:=c;generalize flB v=z at *)|(generalize GU v=z at *)
   clear b h
   go_enter Tryz.func285,Tryz.ntmps285
   go_wp2_with fail
   refine (K.o).mono ?_
   rintro e l ⟨f,rfl,k⟩;have m:=Hm f;have s:=Hm k;have r:=Hm (JE q 8 p1 l k.c1);clear f k K
   cases z
   . go_wp2_with (refine (j.o _).mono ?_;rintro e n ⟨rfl,rfl⟩)
     refine (r.o).mono ?_
     rintro e t ⟨rfl,rfl⟩
     exact ⟨rfl,m.o,rfl⟩
   . go_wp2_with (refine (j.o _).mono ?_;rintro e n ⟨rfl,rfl⟩)
     go_ret
     exact ⟨m.o,rfl,s.o⟩
def onlyT_c:=only_x.1
def onlyF_c:=only_x.2.1
def onlyK_c:=only_x.2.2
theorem mark_x:(∀ (q:Nat) (a:Option Addr) (bc:Bf) (bs:List Int) (p:Nat) (w:World) (h:Rd w q a bc bs p) (l:Qm bs) (hl:bs.length<=1099511627776),Calls Tryz.prog 281 #[.pointer (some ⟨q,0,none⟩),.int .u8 0] w (RdP (Gs 0 bs p) (λ_=>.tuple #[]) w q a bc bs))/\(∀ (q:Nat) (a:Option Addr) (bc:Bf) (bs:List Int) (p:Nat) (w:World) (h:Rd w q a bc bs p) (l:Qm bs) (hl:bs.length<=1099511627776),Calls Tryz.prog 281 #[.pointer (some ⟨q,0,none⟩),.int .u8 96] w (RdP (Gs 96 bs p) (λ_=>.tuple #[]) w q a bc bs))/\(∀ (q:Nat) (a:Option Addr) (bc:Bf) (bs:List Int) (p:Nat) (w:World) (h:Rd w q a bc bs p) (l:Qm bs) (hl:bs.length<=1099511627776),Calls Tryz.prog 281 #[.pointer (some ⟨q,0,none⟩),.int .u8 112] w (RdP (Gs 112 bs p) (λ_=>.tuple #[]) w q a bc bs)):=by
 refine ⟨?c0,?c1,?c2⟩
 case' c0=>have f:=0
 case' c1=>have d:=0
 case' c2=>have t:=0
 all_goals
  intro q a bc bs p w h l hl
  have K:=Hm (take_c q a bc bs p w h hl);unfold Gs;generalize Qx bs p=M at *
  cases M with
  |bad er at_ =>
   clear h
   go_enter Tryz.func281,Tryz.ntmps281
   go_wp2_with fail
   refine (K.o).mono ?_
   rintro e k ⟨c,rfl⟩
   exact ⟨rfl,c,rfl⟩
  |ok v p1 =>
   first|(replace f:=f;show Calls _ _ _ _ (RdP (if v=0 then .ok () p1 else .bad 8 p1) _ _ _ _ _ _))|(replace d:=d;show Calls _ _ _ _ (RdP (if v=96 then .ok () p1 else .bad 8 p1) _ _ _ _ _ _))|(show Calls _ _ _ _ (RdP (if v=112 then .ok () p1 else .bad 8 p1) _ _ _ _ _ _))
   clear h
   first|(replace f:=f;by_cases b:v=0)|(replace d:=d;by_cases b:v=96)|(by_cases b:v=112)
   . subst b
     go_enter Tryz.func281,Tryz.ntmps281
     go_wp2_with fail
     refine (K.o).mono ?_
     rintro e k ⟨c,rfl,j⟩;have m:=Hm c;have r:=Hm j;clear c j K
     go_wp2_with fail
     go_end0
     exact ⟨m.o,rfl,r.o⟩
   . first|(replace f:=f;have g:(v != 0)=true:=by simpa using b)|(replace d:=d;have g:(v != 96)=true:=by simpa using b)|(have g:(v != 112)=true:=by simpa using b)
     rw [if_neg b]
     go_enter Tryz.func281,Tryz.ntmps281
     go_wp2_with fail
     refine (K.o).mono ?_
     rintro e k ⟨c,rfl,j⟩;have m:=Hm c;have n:=Hm (JE q 8 p1 k j.c1);clear c j K
     go_wp2_with fail
     refine (n.o).mono ?_
     rintro e s ⟨rfl,rfl⟩
     exact ⟨rfl,m.o,rfl⟩
def mark0_c:=mark_x.1
def mark96_c:=mark_x.2.1
def mark112_c:=mark_x.2.2
theorem vty_c (q ba bc bs p w)(h:Rd w q ba bc bs p)(f:Qm bs)(hl:bs.length<=1099511627776) :
    Calls Tryz.prog 283 #[.pointer (some ⟨q,0,none⟩)] w (RdP (Qz tyB bs p) (λv=>.int .i64 v) w q ba bc bs):=by
 have K:=Hm (onlyT_c q ba bc bs p w h f hl);clear h
 go_enter Tryz.func283,Tryz.ntmps283
 go_wp2_with fail
 refine (K.o).mono ?_
 rintro e k ⟨c,a⟩;have d:=Hm c;clear c K
 rcases hM:Qz tyB bs p with ⟨er,at_⟩|⟨v,l⟩
 . rw [hM] at a;subst a
   refine ⟨rfl,d.o,?_⟩
   rw [hM]
 rw [hM] at a;obtain ⟨rfl,b⟩:=a;have g:=Hm b;have j:=Hm hM;clear b hM
 go_wp2_with fail
 go_ret
 refine ⟨d.o,?_⟩
 rw [j.o]
 exact ⟨rfl,g.o⟩
theorem flag_c (q ba bc bs p w)(h:Rd w q ba bc bs p)(l:Qm bs)(hl:bs.length<=1099511627776) :
    Calls Tryz.prog 289 #[.pointer (some ⟨q,0,none⟩)] w (RdP (flagM bs p) (λv=>.bool v) w q ba bc bs):=by
 have K:=Hm (onlyF_c q ba bc bs p w h l hl);clear h;unfold flagM
 go_enter Tryz.func289,Tryz.ntmps289
 go_wp2_with fail
 refine (K.o).mono ?_
 rintro e m ⟨f,a⟩;have c:=Hm f;clear f K
 rcases hM:Qz flB bs p with ⟨er,at_⟩|⟨v,n⟩
 . rw [hM] at a;subst a
   refine ⟨rfl,c.o,?_⟩
   simp only [hM,Rs.bind]
 rw [hM] at a;obtain ⟨rfl,d⟩:=a;have g:=Hm d;have j:=Hm hM;clear d hM
 by_cases b:v=1
 . subst b
   go_wp2_with fail
   go_ret
   refine ⟨c.o,?_⟩
   simp only [j.o,Rs.bind]
   exact ⟨rfl,g.o⟩
 . have k:(v==1)=false:=by simpa using b
   go_wp2_with fail
   go_ret
   refine ⟨c.o,?_⟩
   simp only [j.o,Rs.bind]
   exact ⟨by simp [b],g.o⟩
theorem size_c (q ba bc bs p w)(h:Rd w q ba bc bs p)(j:Qm bs)(hl:bs.length<=1099511627776)(B:bc.E<=9223372036854775807) :
    Calls Tryz.prog 162 #[.pointer (some ⟨q,0,none⟩)] w (RdP (Jl bs bc.E p) (λv=>.int .i64 v) w q ba bc bs):=by
 have K:=Hm (JR q ba bc bs p w h j hl);have c:=λv p1=>Jq (p:=p) (p1:=p1) (v:=v) j;have t:=h.e0;clear h;unfold Jl QK
 go_enter Tryz.func162,Tryz.ntmps162
 go_wp2_with fail
 refine (K.o).mono ?_
 rintro e m ⟨g,d⟩;have f:=Hm g;clear g K
 rcases hM:Qy false 32 bs p with ⟨er,at_⟩|⟨v,p1⟩
 . rw [hM] at d;subst d
   refine ⟨rfl,f.o,?_⟩
   simp only [hM,Rs.bind]
 rw [hM] at d;obtain ⟨rfl,a⟩:=d;obtain ⟨v0,v1⟩:=c v p1 hM;have k:=Hm a;have l:=Hm hM;have C:=a.c1;have e2:=a.c2;have r:(p1:Int)<=1099511627776:=by have:=a.le;omega
 have A:IntKind.i64.wrap (bc.E-p1)=bc.E-p1:=by rw [IntKind.wrap_i64];omega
 clear a c hM
 by_cases b:bc.E-(p1:Int)<v
 . have u:=Hm (λn=>JE q 6 p1 (m.drewN n) (k.o.drewN n).c1)
   go_wp2_with fail
   go_quiet (fail)
   go_wp2_with fail
   refine (u.o _).mono ?_
   rintro e z ⟨rfl,rfl⟩
   refine ⟨rfl,Q2 f.o _,?_⟩
   simp only [l.o,Rs.bind,if_pos b]
   rfl
 . have y:=Hm b;have s:v<=bc.E-(p1:Int):=by omega
   go_wp2_with fail
   go_quiet (fail)
   go_wp2_with fail
   go_ret
   refine ⟨Q2 f.o _,?_⟩
   simp only [l.o,Rs.bind,if_neg (show ¬ bc.E-(p1:Int)<v by have:=y.o;omega)]
   exact ⟨rfl,k.o.drewN _⟩
structure EV where
 cs:List Value
 rs:List Qc
def LR {α:Type}(Rep:α->List Value->List Qc->Prop)(xs:List α)(c:List Value)(k:List Qc):Prop :=
 ∃ es:List EV,es.length=xs.length/\(∀ (i:Nat) (x:α) (ev:EV),xs[i]?=some x->es[i]?=some ev->Rep x ev.cs ev.rs)/\c=es.flatMap (·.cs)/\k=es.flatMap (·.rs)
theorem LR.nil {α:Type}(a:α->List Value->List Qc->Prop):LR a [] [] []:=⟨[],rfl,λi x ev h=>by simp at h,rfl,rfl⟩
theorem LR.snoc {α:Type}{a:α->List Value->List Qc->Prop}{xs:List α}{c k}(h:LR a xs c k){x:α}{cs:List Value}{rs:List Qc}(f:a x cs rs):LR a (xs++[x]) (c++cs) (k++rs):=by
 obtain ⟨l,d,j,rfl,rfl⟩:=h
 refine ⟨l++[⟨cs,rs⟩],by simp [d],λi y ev hy he=>?_,by simp,by simp⟩
 by_cases g:i<xs.length
 . rw [List.getElem?_append_left g] at hy;rw [List.getElem?_append_left (by omega)] at he
   exact j i y ev hy he
 . rw [List.getElem?_append_right (by omega)] at hy he
   have b:i-xs.length=0:=by
    by_cases h0:i-xs.length=0
    . exact h0
    . rw [List.getElem?_eq_none (by simp;omega)] at hy;cases hy
   rw [b] at hy;rw [d,b] at he
   simp at hy he
   subst hy he
   exact f
def nR (v:Value)(l:List Int):Qc:=⟨2,1,l.length,v,I l⟩
def bR (v:Value)(l:List Int):Qc:=⟨5,1,l.length,v,U l⟩
def RInt (x:Int)(c:List Value)(r:List Qc):Prop:=c=[.int .i64 x]/\r=[]
def RIn (x:In)(c:List Value)(r:List Qc):Prop:=∃ v,c=[.int .i64 x.op,.int .i64 x.a,.int .i64 x.b,.int .u64 x.v,v]/\r=[nR v x.l]
def Gz (x:Qq)(c:List Value)(r:List Qc):Prop:=c=[.int .i64 x.min,.int .i64 x.max,.bool x.has]/\r=[]
def RGrp (x:Grp)(c:List Value)(r:List Qc):Prop:=c=[.int .i64 x.n,.int .i64 x.ty]/\r=[]
def RExp (x:Exp)(c:List Value)(r:List Qc):Prop:=c=[.string x.nm,.int .i64 x.kind,.int .i64 x.ix]/\r=[]
def RImp (x:Imp)(c:List Value)(r:List Qc):Prop:=c=[.string x.mod,.string x.nm,.int .i64 x.kind,.int .i64 x.ty,.int .i64 x.lim.min,.int .i64 x.lim.max,.bool x.lim.has,.int .i64 x.gl.ty,.bool x.gl.mu]/\r=[]
def RFT (x:Q1)(c:List Value)(r:List Qc):Prop:=∃ vp vr,c=[vp,vr]/\r=[nR vp x.ps,nR vr x.rs]
def LI' (xs:List In)(v:Value)(r:List Qc):Prop:=∃ c k,LR RIn xs c k/\r=⟨170,5,xs.length,v,c⟩::k
def X5 (x:Jv)(c:List Value)(r:List Qc):Prop:=∃ v,c=[.int .i64 x.ty.ty,.bool x.ty.mu,v]/\LI' x.ini v r
def REle (x:Ele)(c:List Value)(r:List Qc):Prop:=∃ v vf r1,c=[v,vf]/\LI' x.off v r1/\r=r1++[nR vf x.fs]
def Oq (x:Cod)(c:List Value)(r:List Qc):Prop:=∃ vl cl vb r1,c=[vl,vb]/\LR RGrp x.locs cl []/\LI' x.body vb r1/\r=⟨173,2,x.locs.length,vl,cl⟩::r1
def RDat (x:Dat)(c:List Value)(r:List Qc):Prop:=∃ v vb r1,c=[v,vb]/\LI' x.off v r1/\r=r1++[bR vb x.bs]
def RCus (x:Cus)(c:List Value)(r:List Qc):Prop:=∃ vb,c=[.int .i64 x.aft,.string x.nm,vb]/\r=[bR vb x.bs]
def ReP {α:Type}(M:Rs α)(Rep:α->List Value->List Qc->Prop)(kv:List Value->Value)(w:World)(q:Nat)(ba:Option Addr)(bc:Bf)(bs:List Int)(e:Ending)(w':World):Prop :=
 w.grownBy w' (some q)/\(match M with
  |.bad er at_=>e=.panicked [bc.flt er at_]
  | .ok x p'=>∃ c r,e=.returned (kv c)/\Rep x c r/\Own w.heap.size w' r/\Rd w' q ba bc bs p')
def agV (c:List Value):Value:=.agg c.toArray
def oneV' (c:List Value):Value:=c.getD 0 undef
def RlP {α:Type}(M:Rs (List α))(Rep:α->List Value->List Qc->Prop)(e sz:Nat)(w:World)(q:Nat)(ba:Option Addr)(bc:Bf)(bs:List Int)(en:Ending)(w':World):Prop :=
 w.grownBy w' (some q)/\(match M with
  |.bad er at_=>en=.panicked [bc.flt er at_]
  | .ok xs p'=>∃ v c k,en=.returned v/\LR Rep xs c k/\Own w.heap.size w' (⟨e,sz,xs.length,v,c⟩::k)/\Rd w' q ba bc bs p'/\xs.length<=p')
theorem Qc.Ok.slice {B:Nat}{W:World}{r:Qc}(h:r.Ok B W):∃ a c,r.v=.slice a r.n c:=by
 rcases h.2 with ⟨h0,d⟩|⟨g,j,f,b,_⟩
 . exact ⟨none,0,by rw [h0,d]⟩
 . exact ⟨_,_,b⟩
theorem lr_ints {xs c k}(h:LR RInt xs c k):c=I xs/\k=[]:=by
 obtain ⟨d,b,f,rfl,rfl⟩:=h
 induction xs generalizing d with
 |nil=>cases d with
  |nil=>exact ⟨rfl,rfl⟩
  |cons a l=>simp at b
 |cons x xs ih=>cases d with
  |nil=>simp at b
  |cons a l =>
   obtain ⟨j,g⟩:=ih l (by simpa using b) (λi y ev hy he=>f (i+1) y ev (by simpa using hy) (by simpa using he));obtain ⟨n,m⟩:=f 0 x a rfl rfl
   simp only [List.flatMap_cons,n,m,j,g]
   exact ⟨rfl,rfl⟩
end Go.Proofs.YtedcmcdbejjgcaaGreat
