import Derived.Test.YtdbmolambolmgaaGreatGl
set_option linter.all false
set_option maxHeartbeats 16000000
set_option maxRecDepth 100000
namespace Go.Proofs.YtdbmolambolmgaaGreat
open Go.RowKit Go.Sort
set_option maxRecDepth 100000
def Up (B:Nat) (w w':World):Prop:=∀ k,B≤k→k<w.heap.size→w'.heap[k]?=w.heap[k]?
theorem Up.cell {B b o:Nat} {w w':World} {v:Value} (u:Up B w w') (hb:B≤b) (h:w.cell? ⟨b,o,none⟩=some v):w'.cell? ⟨b,o,none⟩=some v :=
 (World.cell?_of_block (u b hb (World.block_lt_of_cell? w _ h))).trans h
theorem up_below {B:Nat} {w w':World} (h:Below w.heap.size w w'):Up B w w':=fun k _ hk=>h.block k hk
theorem up_set {B g o:Nat} {w:World} {v:Value} (h:g<B):Up B w (w.setCell ⟨g,o,none⟩ v):=fun k hk _=>Below.heap_setCell _ _ _ _ (fun e=>by simp at e;omega)
theorem Up.size_trans {B:Nat} {w w' w'':World} (h:Up B w w') (k:Up B w' w'') (hs:w.heap.size≤w'.heap.size):Up B w w'':=fun j hj hl=>(k j hj (by omega)).trans (h j hj hl)
def HI (k:IntKind) (B:Nat) (w:World) (a:Option Addr) (xs:List Int):Prop :=
 xs=[]∨∃ b off,a=some ⟨b,off,none⟩∧B≤b∧∀ i,i<xs.length→w.cell? ⟨b,off+i,none⟩=some (.int k (xs.getD i 0))
theorem HI.up {k:IntKind} {B:Nat} {w w':World} {a:Option Addr} {xs:List Int} (h:HI k B w a xs) (u:Up B w w'):HI k B w' a xs:=by
 rcases h with h | ⟨b,o,e,hb,hc⟩
 · exact .inl h
 · exact .inr ⟨b,o,e,hb,fun i hi=>u.cell hb (hc i hi)⟩
theorem HI.mono {k:IntKind} {B B':Nat} {w:World} {a:Option Addr} {xs:List Int} (h:HI k B w a xs) (hB:B'≤B):HI k B' w a xs:=by
 rcases h with h | ⟨b,o,e,hb,hc⟩
 · exact .inl h
 · exact .inr ⟨b,o,e,by omega,hc⟩
theorem HI.has {B:Nat} {w:World} {a:Option Addr} {xs:List Int} (h:HI .i64 B w a xs):Has w a xs:=by
 rcases h with h | ⟨b,o,e,hb,hc⟩
 · exact .inl h
 · exact .inr ⟨b,o,e,hc⟩
structure Limits where
 min:Int
 max:Int
 has:Bool
def Limits.z:Limits:=⟨0,0,false⟩
def Limits.Is (B:Nat) (w:World) (x:Limits):Prop:=True
def Limits.At (B:Nat) (w:World) (b o:Nat) (x:Limits):Prop:=(w.cell? ⟨b,o,none⟩=some (.int .i64 x.min)∧w.cell? ⟨b,o+1,none⟩=some (.int .i64 x.max)∧w.cell? ⟨b,o+2,none⟩=some (.bool x.has))∧Limits.Is B w x
def Limits.Ls (B:Nat) (w:World) (a:Option Addr) (xs:List Limits):Prop:=xs=[]∨∃ b off,a=some ⟨b,off,none⟩∧B≤b∧∀ i,i<xs.length→Limits.At B w b (off+i*3) (xs.getD i Limits.z)
theorem Limits.Is.up {B:Nat} {w w':World} {x:Limits} (h:Limits.Is B w x) (u:Up B w w'):Limits.Is B w' x:=h
theorem Limits.Is.mono {B B':Nat} {w:World} {x:Limits} (h:Limits.Is B w x) (hB:B'≤B):Limits.Is B' w x:=h
theorem Limits.At.up {B b o:Nat} {w w':World} {x:Limits} (h:Limits.At B w b o x) (u:Up B w w') (hb:B≤b):Limits.At B w' b o x:=by
 obtain ⟨⟨q0,q1,q2⟩,hi⟩:=h
 exact ⟨⟨u.cell hb q0,u.cell hb q1,u.cell hb q2⟩,hi.up u⟩
theorem Limits.At.mono {B B' b o:Nat} {w:World} {x:Limits} (h:Limits.At B w b o x) (hB:B'≤B):Limits.At B' w b o x:=by
 obtain ⟨qs,hi⟩:=h
 exact ⟨qs,hi.mono hB⟩
theorem Limits.Ls.up {B:Nat} {w w':World} {a:Option Addr} {xs:List Limits} (h:Limits.Ls B w a xs) (u:Up B w w'):Limits.Ls B w' a xs:=by
 rcases h with h | ⟨b,o,e,hb,hc⟩
 · exact .inl h
 · exact .inr ⟨b,o,e,hb,fun i hi=>(hc i hi).up u hb⟩
theorem Limits.Ls.mono {B B':Nat} {w:World} {a:Option Addr} {xs:List Limits} (h:Limits.Ls B w a xs) (hB:B'≤B):Limits.Ls B' w a xs:=by
 rcases h with h | ⟨b,o,e,hb,hc⟩
 · exact .inl h
 · exact .inr ⟨b,o,e,by omega,fun i hi=>(hc i hi).mono hB⟩
def Limits.LB (N:Nat) (x:Limits):Prop:=True
structure GType where
 ty:Int
 mu:Bool
def GType.z:GType:=⟨0,false⟩
def GType.Is (B:Nat) (w:World) (x:GType):Prop:=True
def GType.LB (N:Nat) (x:GType):Prop:=True
structure FType where
 ps:List Int
 rs:List Int
def FType.z:FType:=⟨[],[]⟩
def FType.Is (B:Nat) (w:World) (x:FType) (a1:Option Addr) (a2:Option Addr):Prop:=HI .i64 B w a1 x.ps∧HI .i64 B w a2 x.rs
def FType.At (B:Nat) (w:World) (b o:Nat) (x:FType):Prop:=∃ a1 c1 a2 c2,(w.cell? ⟨b,o,none⟩=some (.slice a1 x.ps.length c1)∧w.cell? ⟨b,o+1,none⟩=some (.slice a2 x.rs.length c2))∧FType.Is B w x a1 a2
def FType.Ls (B:Nat) (w:World) (a:Option Addr) (xs:List FType):Prop:=xs=[]∨∃ b off,a=some ⟨b,off,none⟩∧B≤b∧∀ i,i<xs.length→FType.At B w b (off+i*2) (xs.getD i FType.z)
theorem FType.Is.up {B:Nat} {w w':World} {x:FType} {a1:Option Addr} {a2:Option Addr} (h:FType.Is B w x a1 a2) (u:Up B w w'):FType.Is B w' x a1 a2:=by
 obtain ⟨h1,h2⟩:=h
 exact ⟨h1.up u,h2.up u⟩
theorem FType.Is.mono {B B':Nat} {w:World} {x:FType} {a1:Option Addr} {a2:Option Addr} (h:FType.Is B w x a1 a2) (hB:B'≤B):FType.Is B' w x a1 a2:=by
 obtain ⟨h1,h2⟩:=h
 exact ⟨h1.mono hB,h2.mono hB⟩
theorem FType.At.up {B b o:Nat} {w w':World} {x:FType} (h:FType.At B w b o x) (u:Up B w w') (hb:B≤b):FType.At B w' b o x:=by
 obtain ⟨a1,c1,a2,c2,⟨q0,q1⟩,hi⟩:=h
 exact ⟨a1,c1,a2,c2,⟨u.cell hb q0,u.cell hb q1⟩,hi.up u⟩
theorem FType.At.mono {B B' b o:Nat} {w:World} {x:FType} (h:FType.At B w b o x) (hB:B'≤B):FType.At B' w b o x:=by
 obtain ⟨a1,c1,a2,c2,qs,hi⟩:=h
 exact ⟨a1,c1,a2,c2,qs,hi.mono hB⟩
theorem FType.Ls.up {B:Nat} {w w':World} {a:Option Addr} {xs:List FType} (h:FType.Ls B w a xs) (u:Up B w w'):FType.Ls B w' a xs:=by
 rcases h with h | ⟨b,o,e,hb,hc⟩
 · exact .inl h
 · exact .inr ⟨b,o,e,hb,fun i hi=>(hc i hi).up u hb⟩
theorem FType.Ls.mono {B B':Nat} {w:World} {a:Option Addr} {xs:List FType} (h:FType.Ls B w a xs) (hB:B'≤B):FType.Ls B' w a xs:=by
 rcases h with h | ⟨b,o,e,hb,hc⟩
 · exact .inl h
 · exact .inr ⟨b,o,e,by omega,fun i hi=>(hc i hi).mono hB⟩
def FType.LB (N:Nat) (x:FType):Prop:=x.ps.length≤N∧x.rs.length≤N
def In.Is (B:Nat) (w:World) (x:In) (a1:Option Addr):Prop:=HI .i64 B w a1 x.l
def In.At (B:Nat) (w:World) (b o:Nat) (x:In):Prop:=∃ a1 c1,(w.cell? ⟨b,o,none⟩=some (.int .i64 x.op)∧w.cell? ⟨b,o+1,none⟩=some (.int .i64 x.a)∧w.cell? ⟨b,o+2,none⟩=some (.int .i64 x.b)∧w.cell? ⟨b,o+3,none⟩=some (.int .u64 x.v)∧w.cell? ⟨b,o+4,none⟩=some (.slice a1 x.l.length c1))∧In.Is B w x a1
def In.Ls (B:Nat) (w:World) (a:Option Addr) (xs:List In):Prop:=xs=[]∨∃ b off,a=some ⟨b,off,none⟩∧B≤b∧∀ i,i<xs.length→In.At B w b (off+i*5) (xs.getD i I0)
theorem In.Is.up {B:Nat} {w w':World} {x:In} {a1:Option Addr} (h:In.Is B w x a1) (u:Up B w w'):In.Is B w' x a1:=by
 have h1:=h
 exact HI.up h1 u
theorem In.Is.mono {B B':Nat} {w:World} {x:In} {a1:Option Addr} (h:In.Is B w x a1) (hB:B'≤B):In.Is B' w x a1:=by
 have h1:=h
 exact HI.mono h1 hB
theorem In.At.up {B b o:Nat} {w w':World} {x:In} (h:In.At B w b o x) (u:Up B w w') (hb:B≤b):In.At B w' b o x:=by
 obtain ⟨a1,c1,⟨q0,q1,q2,q3,q4⟩,hi⟩:=h
 exact ⟨a1,c1,⟨u.cell hb q0,u.cell hb q1,u.cell hb q2,u.cell hb q3,u.cell hb q4⟩,hi.up u⟩
theorem In.At.mono {B B' b o:Nat} {w:World} {x:In} (h:In.At B w b o x) (hB:B'≤B):In.At B' w b o x:=by
 obtain ⟨a1,c1,qs,hi⟩:=h
 exact ⟨a1,c1,qs,hi.mono hB⟩
theorem In.Ls.up {B:Nat} {w w':World} {a:Option Addr} {xs:List In} (h:In.Ls B w a xs) (u:Up B w w'):In.Ls B w' a xs:=by
 rcases h with h | ⟨b,o,e,hb,hc⟩
 · exact .inl h
 · exact .inr ⟨b,o,e,hb,fun i hi=>(hc i hi).up u hb⟩
theorem In.Ls.mono {B B':Nat} {w:World} {a:Option Addr} {xs:List In} (h:In.Ls B w a xs) (hB:B'≤B):In.Ls B' w a xs:=by
 rcases h with h | ⟨b,o,e,hb,hc⟩
 · exact .inl h
 · exact .inr ⟨b,o,e,by omega,fun i hi=>(hc i hi).mono hB⟩
def In.LB (N:Nat) (x:In):Prop:=x.l.length≤N
structure Imp where
 mod:ByteArray
 nm:ByteArray
 kind:Int
 ty:Int
 lim:Limits
 gl:GType
def Imp.z:Imp:=⟨⟨#[]⟩,⟨#[]⟩,0,0,Limits.z,GType.z⟩
def Imp.Is (B:Nat) (w:World) (x:Imp):Prop:=True
def Imp.At (B:Nat) (w:World) (b o:Nat) (x:Imp):Prop:=(w.cell? ⟨b,o,none⟩=some (.string x.mod)∧w.cell? ⟨b,o+1,none⟩=some (.string x.nm)∧w.cell? ⟨b,o+2,none⟩=some (.int .i64 x.kind)∧w.cell? ⟨b,o+3,none⟩=some (.int .i64 x.ty)∧w.cell? ⟨b,o+4,none⟩=some (.int .i64 x.lim.min)∧w.cell? ⟨b,o+5,none⟩=some (.int .i64 x.lim.max)∧w.cell? ⟨b,o+6,none⟩=some (.bool x.lim.has)∧w.cell? ⟨b,o+7,none⟩=some (.int .i64 x.gl.ty)∧w.cell? ⟨b,o+8,none⟩=some (.bool x.gl.mu))∧Imp.Is B w x
def Imp.Ls (B:Nat) (w:World) (a:Option Addr) (xs:List Imp):Prop:=xs=[]∨∃ b off,a=some ⟨b,off,none⟩∧B≤b∧∀ i,i<xs.length→Imp.At B w b (off+i*9) (xs.getD i Imp.z)
theorem Imp.Is.up {B:Nat} {w w':World} {x:Imp} (h:Imp.Is B w x) (u:Up B w w'):Imp.Is B w' x:=h
theorem Imp.Is.mono {B B':Nat} {w:World} {x:Imp} (h:Imp.Is B w x) (hB:B'≤B):Imp.Is B' w x:=h
theorem Imp.At.up {B b o:Nat} {w w':World} {x:Imp} (h:Imp.At B w b o x) (u:Up B w w') (hb:B≤b):Imp.At B w' b o x:=by
 obtain ⟨⟨q0,q1,q2,q3,q4,q5,q6,q7,q8⟩,hi⟩:=h
 exact ⟨⟨u.cell hb q0,u.cell hb q1,u.cell hb q2,u.cell hb q3,u.cell hb q4,u.cell hb q5,u.cell hb q6,u.cell hb q7,u.cell hb q8⟩,hi.up u⟩
theorem Imp.At.mono {B B' b o:Nat} {w:World} {x:Imp} (h:Imp.At B w b o x) (hB:B'≤B):Imp.At B' w b o x:=by
 obtain ⟨qs,hi⟩:=h
 exact ⟨qs,hi.mono hB⟩
theorem Imp.Ls.up {B:Nat} {w w':World} {a:Option Addr} {xs:List Imp} (h:Imp.Ls B w a xs) (u:Up B w w'):Imp.Ls B w' a xs:=by
 rcases h with h | ⟨b,o,e,hb,hc⟩
 · exact .inl h
 · exact .inr ⟨b,o,e,hb,fun i hi=>(hc i hi).up u hb⟩
theorem Imp.Ls.mono {B B':Nat} {w:World} {a:Option Addr} {xs:List Imp} (h:Imp.Ls B w a xs) (hB:B'≤B):Imp.Ls B' w a xs:=by
 rcases h with h | ⟨b,o,e,hb,hc⟩
 · exact .inl h
 · exact .inr ⟨b,o,e,by omega,fun i hi=>(hc i hi).mono hB⟩
def Imp.LB (N:Nat) (x:Imp):Prop:=x.mod.size≤N∧x.nm.size≤N
structure Glob where
 ty:GType
 ini:List In
def Glob.z:Glob:=⟨GType.z,[]⟩
def Glob.Is (B:Nat) (w:World) (x:Glob) (a1:Option Addr):Prop:=In.Ls B w a1 x.ini
def Glob.At (B:Nat) (w:World) (b o:Nat) (x:Glob):Prop:=∃ a1 c1,(w.cell? ⟨b,o,none⟩=some (.int .i64 x.ty.ty)∧w.cell? ⟨b,o+1,none⟩=some (.bool x.ty.mu)∧w.cell? ⟨b,o+2,none⟩=some (.slice a1 x.ini.length c1))∧Glob.Is B w x a1
def Glob.Ls (B:Nat) (w:World) (a:Option Addr) (xs:List Glob):Prop:=xs=[]∨∃ b off,a=some ⟨b,off,none⟩∧B≤b∧∀ i,i<xs.length→Glob.At B w b (off+i*3) (xs.getD i Glob.z)
theorem Glob.Is.up {B:Nat} {w w':World} {x:Glob} {a1:Option Addr} (h:Glob.Is B w x a1) (u:Up B w w'):Glob.Is B w' x a1:=by
 have h1:=h
 exact In.Ls.up h1 u
theorem Glob.Is.mono {B B':Nat} {w:World} {x:Glob} {a1:Option Addr} (h:Glob.Is B w x a1) (hB:B'≤B):Glob.Is B' w x a1:=by
 have h1:=h
 exact In.Ls.mono h1 hB
theorem Glob.At.up {B b o:Nat} {w w':World} {x:Glob} (h:Glob.At B w b o x) (u:Up B w w') (hb:B≤b):Glob.At B w' b o x:=by
 obtain ⟨a1,c1,⟨q0,q1,q2⟩,hi⟩:=h
 exact ⟨a1,c1,⟨u.cell hb q0,u.cell hb q1,u.cell hb q2⟩,hi.up u⟩
theorem Glob.At.mono {B B' b o:Nat} {w:World} {x:Glob} (h:Glob.At B w b o x) (hB:B'≤B):Glob.At B' w b o x:=by
 obtain ⟨a1,c1,qs,hi⟩:=h
 exact ⟨a1,c1,qs,hi.mono hB⟩
theorem Glob.Ls.up {B:Nat} {w w':World} {a:Option Addr} {xs:List Glob} (h:Glob.Ls B w a xs) (u:Up B w w'):Glob.Ls B w' a xs:=by
 rcases h with h | ⟨b,o,e,hb,hc⟩
 · exact .inl h
 · exact .inr ⟨b,o,e,hb,fun i hi=>(hc i hi).up u hb⟩
theorem Glob.Ls.mono {B B':Nat} {w:World} {a:Option Addr} {xs:List Glob} (h:Glob.Ls B w a xs) (hB:B'≤B):Glob.Ls B' w a xs:=by
 rcases h with h | ⟨b,o,e,hb,hc⟩
 · exact .inl h
 · exact .inr ⟨b,o,e,by omega,fun i hi=>(hc i hi).mono hB⟩
def Glob.LB (N:Nat) (x:Glob):Prop:=(x.ini.length≤N∧∀ i,i<x.ini.length→In.LB N (x.ini.getD i I0))
structure Exp where
 nm:ByteArray
 kind:Int
 ix:Int
def Exp.z:Exp:=⟨⟨#[]⟩,0,0⟩
def Exp.Is (B:Nat) (w:World) (x:Exp):Prop:=True
def Exp.At (B:Nat) (w:World) (b o:Nat) (x:Exp):Prop:=(w.cell? ⟨b,o,none⟩=some (.string x.nm)∧w.cell? ⟨b,o+1,none⟩=some (.int .i64 x.kind)∧w.cell? ⟨b,o+2,none⟩=some (.int .i64 x.ix))∧Exp.Is B w x
def Exp.Ls (B:Nat) (w:World) (a:Option Addr) (xs:List Exp):Prop:=xs=[]∨∃ b off,a=some ⟨b,off,none⟩∧B≤b∧∀ i,i<xs.length→Exp.At B w b (off+i*3) (xs.getD i Exp.z)
theorem Exp.Is.up {B:Nat} {w w':World} {x:Exp} (h:Exp.Is B w x) (u:Up B w w'):Exp.Is B w' x:=h
theorem Exp.Is.mono {B B':Nat} {w:World} {x:Exp} (h:Exp.Is B w x) (hB:B'≤B):Exp.Is B' w x:=h
theorem Exp.At.up {B b o:Nat} {w w':World} {x:Exp} (h:Exp.At B w b o x) (u:Up B w w') (hb:B≤b):Exp.At B w' b o x:=by
 obtain ⟨⟨q0,q1,q2⟩,hi⟩:=h
 exact ⟨⟨u.cell hb q0,u.cell hb q1,u.cell hb q2⟩,hi.up u⟩
theorem Exp.At.mono {B B' b o:Nat} {w:World} {x:Exp} (h:Exp.At B w b o x) (hB:B'≤B):Exp.At B' w b o x:=by
 obtain ⟨qs,hi⟩:=h
 exact ⟨qs,hi.mono hB⟩
theorem Exp.Ls.up {B:Nat} {w w':World} {a:Option Addr} {xs:List Exp} (h:Exp.Ls B w a xs) (u:Up B w w'):Exp.Ls B w' a xs:=by
 rcases h with h | ⟨b,o,e,hb,hc⟩
 · exact .inl h
 · exact .inr ⟨b,o,e,hb,fun i hi=>(hc i hi).up u hb⟩
theorem Exp.Ls.mono {B B':Nat} {w:World} {a:Option Addr} {xs:List Exp} (h:Exp.Ls B w a xs) (hB:B'≤B):Exp.Ls B' w a xs:=by
 rcases h with h | ⟨b,o,e,hb,hc⟩
 · exact .inl h
 · exact .inr ⟨b,o,e,by omega,fun i hi=>(hc i hi).mono hB⟩
def Exp.LB (N:Nat) (x:Exp):Prop:=x.nm.size≤N
structure Ele where
 off:List In
 fs:List Int
def Ele.z:Ele:=⟨[],[]⟩
def Ele.Is (B:Nat) (w:World) (x:Ele) (a1:Option Addr) (a2:Option Addr):Prop:=In.Ls B w a1 x.off∧HI .i64 B w a2 x.fs
def Ele.At (B:Nat) (w:World) (b o:Nat) (x:Ele):Prop:=∃ a1 c1 a2 c2,(w.cell? ⟨b,o,none⟩=some (.slice a1 x.off.length c1)∧w.cell? ⟨b,o+1,none⟩=some (.slice a2 x.fs.length c2))∧Ele.Is B w x a1 a2
def Ele.Ls (B:Nat) (w:World) (a:Option Addr) (xs:List Ele):Prop:=xs=[]∨∃ b off,a=some ⟨b,off,none⟩∧B≤b∧∀ i,i<xs.length→Ele.At B w b (off+i*2) (xs.getD i Ele.z)
theorem Ele.Is.up {B:Nat} {w w':World} {x:Ele} {a1:Option Addr} {a2:Option Addr} (h:Ele.Is B w x a1 a2) (u:Up B w w'):Ele.Is B w' x a1 a2:=by
 obtain ⟨h1,h2⟩:=h
 exact ⟨h1.up u,h2.up u⟩
theorem Ele.Is.mono {B B':Nat} {w:World} {x:Ele} {a1:Option Addr} {a2:Option Addr} (h:Ele.Is B w x a1 a2) (hB:B'≤B):Ele.Is B' w x a1 a2:=by
 obtain ⟨h1,h2⟩:=h
 exact ⟨h1.mono hB,h2.mono hB⟩
theorem Ele.At.up {B b o:Nat} {w w':World} {x:Ele} (h:Ele.At B w b o x) (u:Up B w w') (hb:B≤b):Ele.At B w' b o x:=by
 obtain ⟨a1,c1,a2,c2,⟨q0,q1⟩,hi⟩:=h
 exact ⟨a1,c1,a2,c2,⟨u.cell hb q0,u.cell hb q1⟩,hi.up u⟩
theorem Ele.At.mono {B B' b o:Nat} {w:World} {x:Ele} (h:Ele.At B w b o x) (hB:B'≤B):Ele.At B' w b o x:=by
 obtain ⟨a1,c1,a2,c2,qs,hi⟩:=h
 exact ⟨a1,c1,a2,c2,qs,hi.mono hB⟩
theorem Ele.Ls.up {B:Nat} {w w':World} {a:Option Addr} {xs:List Ele} (h:Ele.Ls B w a xs) (u:Up B w w'):Ele.Ls B w' a xs:=by
 rcases h with h | ⟨b,o,e,hb,hc⟩
 · exact .inl h
 · exact .inr ⟨b,o,e,hb,fun i hi=>(hc i hi).up u hb⟩
theorem Ele.Ls.mono {B B':Nat} {w:World} {a:Option Addr} {xs:List Ele} (h:Ele.Ls B w a xs) (hB:B'≤B):Ele.Ls B' w a xs:=by
 rcases h with h | ⟨b,o,e,hb,hc⟩
 · exact .inl h
 · exact .inr ⟨b,o,e,by omega,fun i hi=>(hc i hi).mono hB⟩
def Ele.LB (N:Nat) (x:Ele):Prop:=(x.off.length≤N∧∀ i,i<x.off.length→In.LB N (x.off.getD i I0))∧x.fs.length≤N
structure Grp where
 n:Int
 ty:Int
def Grp.z:Grp:=⟨0,0⟩
def Grp.Is (B:Nat) (w:World) (x:Grp):Prop:=True
def Grp.At (B:Nat) (w:World) (b o:Nat) (x:Grp):Prop:=(w.cell? ⟨b,o,none⟩=some (.int .i64 x.n)∧w.cell? ⟨b,o+1,none⟩=some (.int .i64 x.ty))∧Grp.Is B w x
def Grp.Ls (B:Nat) (w:World) (a:Option Addr) (xs:List Grp):Prop:=xs=[]∨∃ b off,a=some ⟨b,off,none⟩∧B≤b∧∀ i,i<xs.length→Grp.At B w b (off+i*2) (xs.getD i Grp.z)
theorem Grp.Is.up {B:Nat} {w w':World} {x:Grp} (h:Grp.Is B w x) (u:Up B w w'):Grp.Is B w' x:=h
theorem Grp.Is.mono {B B':Nat} {w:World} {x:Grp} (h:Grp.Is B w x) (hB:B'≤B):Grp.Is B' w x:=h
theorem Grp.At.up {B b o:Nat} {w w':World} {x:Grp} (h:Grp.At B w b o x) (u:Up B w w') (hb:B≤b):Grp.At B w' b o x:=by
 obtain ⟨⟨q0,q1⟩,hi⟩:=h
 exact ⟨⟨u.cell hb q0,u.cell hb q1⟩,hi.up u⟩
theorem Grp.At.mono {B B' b o:Nat} {w:World} {x:Grp} (h:Grp.At B w b o x) (hB:B'≤B):Grp.At B' w b o x:=by
 obtain ⟨qs,hi⟩:=h
 exact ⟨qs,hi.mono hB⟩
theorem Grp.Ls.up {B:Nat} {w w':World} {a:Option Addr} {xs:List Grp} (h:Grp.Ls B w a xs) (u:Up B w w'):Grp.Ls B w' a xs:=by
 rcases h with h | ⟨b,o,e,hb,hc⟩
 · exact .inl h
 · exact .inr ⟨b,o,e,hb,fun i hi=>(hc i hi).up u hb⟩
theorem Grp.Ls.mono {B B':Nat} {w:World} {a:Option Addr} {xs:List Grp} (h:Grp.Ls B w a xs) (hB:B'≤B):Grp.Ls B' w a xs:=by
 rcases h with h | ⟨b,o,e,hb,hc⟩
 · exact .inl h
 · exact .inr ⟨b,o,e,by omega,fun i hi=>(hc i hi).mono hB⟩
def Grp.LB (N:Nat) (x:Grp):Prop:=True
structure Cod where
 locs:List Grp
 body:List In
def Cod.z:Cod:=⟨[],[]⟩
def Cod.Is (B:Nat) (w:World) (x:Cod) (a1:Option Addr) (a2:Option Addr):Prop:=Grp.Ls B w a1 x.locs∧In.Ls B w a2 x.body
def Cod.At (B:Nat) (w:World) (b o:Nat) (x:Cod):Prop:=∃ a1 c1 a2 c2,(w.cell? ⟨b,o,none⟩=some (.slice a1 x.locs.length c1)∧w.cell? ⟨b,o+1,none⟩=some (.slice a2 x.body.length c2))∧Cod.Is B w x a1 a2
def Cod.Ls (B:Nat) (w:World) (a:Option Addr) (xs:List Cod):Prop:=xs=[]∨∃ b off,a=some ⟨b,off,none⟩∧B≤b∧∀ i,i<xs.length→Cod.At B w b (off+i*2) (xs.getD i Cod.z)
theorem Cod.Is.up {B:Nat} {w w':World} {x:Cod} {a1:Option Addr} {a2:Option Addr} (h:Cod.Is B w x a1 a2) (u:Up B w w'):Cod.Is B w' x a1 a2:=by
 obtain ⟨h1,h2⟩:=h
 exact ⟨h1.up u,h2.up u⟩
theorem Cod.Is.mono {B B':Nat} {w:World} {x:Cod} {a1:Option Addr} {a2:Option Addr} (h:Cod.Is B w x a1 a2) (hB:B'≤B):Cod.Is B' w x a1 a2:=by
 obtain ⟨h1,h2⟩:=h
 exact ⟨h1.mono hB,h2.mono hB⟩
theorem Cod.At.up {B b o:Nat} {w w':World} {x:Cod} (h:Cod.At B w b o x) (u:Up B w w') (hb:B≤b):Cod.At B w' b o x:=by
 obtain ⟨a1,c1,a2,c2,⟨q0,q1⟩,hi⟩:=h
 exact ⟨a1,c1,a2,c2,⟨u.cell hb q0,u.cell hb q1⟩,hi.up u⟩
theorem Cod.At.mono {B B' b o:Nat} {w:World} {x:Cod} (h:Cod.At B w b o x) (hB:B'≤B):Cod.At B' w b o x:=by
 obtain ⟨a1,c1,a2,c2,qs,hi⟩:=h
 exact ⟨a1,c1,a2,c2,qs,hi.mono hB⟩
theorem Cod.Ls.up {B:Nat} {w w':World} {a:Option Addr} {xs:List Cod} (h:Cod.Ls B w a xs) (u:Up B w w'):Cod.Ls B w' a xs:=by
 rcases h with h | ⟨b,o,e,hb,hc⟩
 · exact .inl h
 · exact .inr ⟨b,o,e,hb,fun i hi=>(hc i hi).up u hb⟩
theorem Cod.Ls.mono {B B':Nat} {w:World} {a:Option Addr} {xs:List Cod} (h:Cod.Ls B w a xs) (hB:B'≤B):Cod.Ls B' w a xs:=by
 rcases h with h | ⟨b,o,e,hb,hc⟩
 · exact .inl h
 · exact .inr ⟨b,o,e,by omega,fun i hi=>(hc i hi).mono hB⟩
def Cod.LB (N:Nat) (x:Cod):Prop:=(x.locs.length≤N∧∀ i,i<x.locs.length→Grp.LB N (x.locs.getD i Grp.z))∧(x.body.length≤N∧∀ i,i<x.body.length→In.LB N (x.body.getD i I0))
structure Dat where
 off:List In
 bs:List Int
def Dat.z:Dat:=⟨[],[]⟩
def Dat.Is (B:Nat) (w:World) (x:Dat) (a1:Option Addr) (a2:Option Addr):Prop:=In.Ls B w a1 x.off∧HI .u8 B w a2 x.bs
def Dat.At (B:Nat) (w:World) (b o:Nat) (x:Dat):Prop:=∃ a1 c1 a2 c2,(w.cell? ⟨b,o,none⟩=some (.slice a1 x.off.length c1)∧w.cell? ⟨b,o+1,none⟩=some (.slice a2 x.bs.length c2))∧Dat.Is B w x a1 a2
def Dat.Ls (B:Nat) (w:World) (a:Option Addr) (xs:List Dat):Prop:=xs=[]∨∃ b off,a=some ⟨b,off,none⟩∧B≤b∧∀ i,i<xs.length→Dat.At B w b (off+i*2) (xs.getD i Dat.z)
theorem Dat.Is.up {B:Nat} {w w':World} {x:Dat} {a1:Option Addr} {a2:Option Addr} (h:Dat.Is B w x a1 a2) (u:Up B w w'):Dat.Is B w' x a1 a2:=by
 obtain ⟨h1,h2⟩:=h
 exact ⟨h1.up u,h2.up u⟩
theorem Dat.Is.mono {B B':Nat} {w:World} {x:Dat} {a1:Option Addr} {a2:Option Addr} (h:Dat.Is B w x a1 a2) (hB:B'≤B):Dat.Is B' w x a1 a2:=by
 obtain ⟨h1,h2⟩:=h
 exact ⟨h1.mono hB,h2.mono hB⟩
theorem Dat.At.up {B b o:Nat} {w w':World} {x:Dat} (h:Dat.At B w b o x) (u:Up B w w') (hb:B≤b):Dat.At B w' b o x:=by
 obtain ⟨a1,c1,a2,c2,⟨q0,q1⟩,hi⟩:=h
 exact ⟨a1,c1,a2,c2,⟨u.cell hb q0,u.cell hb q1⟩,hi.up u⟩
theorem Dat.At.mono {B B' b o:Nat} {w:World} {x:Dat} (h:Dat.At B w b o x) (hB:B'≤B):Dat.At B' w b o x:=by
 obtain ⟨a1,c1,a2,c2,qs,hi⟩:=h
 exact ⟨a1,c1,a2,c2,qs,hi.mono hB⟩
theorem Dat.Ls.up {B:Nat} {w w':World} {a:Option Addr} {xs:List Dat} (h:Dat.Ls B w a xs) (u:Up B w w'):Dat.Ls B w' a xs:=by
 rcases h with h | ⟨b,o,e,hb,hc⟩
 · exact .inl h
 · exact .inr ⟨b,o,e,hb,fun i hi=>(hc i hi).up u hb⟩
theorem Dat.Ls.mono {B B':Nat} {w:World} {a:Option Addr} {xs:List Dat} (h:Dat.Ls B w a xs) (hB:B'≤B):Dat.Ls B' w a xs:=by
 rcases h with h | ⟨b,o,e,hb,hc⟩
 · exact .inl h
 · exact .inr ⟨b,o,e,by omega,fun i hi=>(hc i hi).mono hB⟩
def Dat.LB (N:Nat) (x:Dat):Prop:=(x.off.length≤N∧∀ i,i<x.off.length→In.LB N (x.off.getD i I0))∧x.bs.length≤N
structure Cus where
 aft:Int
 nm:ByteArray
 bs:List Int
def Cus.z:Cus:=⟨0,⟨#[]⟩,[]⟩
def Cus.Is (B:Nat) (w:World) (x:Cus) (a1:Option Addr):Prop:=HI .u8 B w a1 x.bs
def Cus.At (B:Nat) (w:World) (b o:Nat) (x:Cus):Prop:=∃ a1 c1,(w.cell? ⟨b,o,none⟩=some (.int .i64 x.aft)∧w.cell? ⟨b,o+1,none⟩=some (.string x.nm)∧w.cell? ⟨b,o+2,none⟩=some (.slice a1 x.bs.length c1))∧Cus.Is B w x a1
def Cus.Ls (B:Nat) (w:World) (a:Option Addr) (xs:List Cus):Prop:=xs=[]∨∃ b off,a=some ⟨b,off,none⟩∧B≤b∧∀ i,i<xs.length→Cus.At B w b (off+i*3) (xs.getD i Cus.z)
theorem Cus.Is.up {B:Nat} {w w':World} {x:Cus} {a1:Option Addr} (h:Cus.Is B w x a1) (u:Up B w w'):Cus.Is B w' x a1:=by
 have h1:=h
 exact HI.up h1 u
theorem Cus.Is.mono {B B':Nat} {w:World} {x:Cus} {a1:Option Addr} (h:Cus.Is B w x a1) (hB:B'≤B):Cus.Is B' w x a1:=by
 have h1:=h
 exact HI.mono h1 hB
theorem Cus.At.up {B b o:Nat} {w w':World} {x:Cus} (h:Cus.At B w b o x) (u:Up B w w') (hb:B≤b):Cus.At B w' b o x:=by
 obtain ⟨a1,c1,⟨q0,q1,q2⟩,hi⟩:=h
 exact ⟨a1,c1,⟨u.cell hb q0,u.cell hb q1,u.cell hb q2⟩,hi.up u⟩
theorem Cus.At.mono {B B' b o:Nat} {w:World} {x:Cus} (h:Cus.At B w b o x) (hB:B'≤B):Cus.At B' w b o x:=by
 obtain ⟨a1,c1,qs,hi⟩:=h
 exact ⟨a1,c1,qs,hi.mono hB⟩
theorem Cus.Ls.up {B:Nat} {w w':World} {a:Option Addr} {xs:List Cus} (h:Cus.Ls B w a xs) (u:Up B w w'):Cus.Ls B w' a xs:=by
 rcases h with h | ⟨b,o,e,hb,hc⟩
 · exact .inl h
 · exact .inr ⟨b,o,e,hb,fun i hi=>(hc i hi).up u hb⟩
theorem Cus.Ls.mono {B B':Nat} {w:World} {a:Option Addr} {xs:List Cus} (h:Cus.Ls B w a xs) (hB:B'≤B):Cus.Ls B' w a xs:=by
 rcases h with h | ⟨b,o,e,hb,hc⟩
 · exact .inl h
 · exact .inr ⟨b,o,e,by omega,fun i hi=>(hc i hi).mono hB⟩
def Cus.LB (N:Nat) (x:Cus):Prop:=x.nm.size≤N∧x.bs.length≤N
structure Mod where
 types:List FType
 imps:List Imp
 funcs:List Int
 tabs:List Limits
 mems:List Limits
 globs:List Glob
 exps:List Exp
 hasS:Bool
 start:Int
 elems:List Ele
 codes:List Cod
 datas:List Dat
 customs:List Cus
def Mod.Is (B:Nat) (w:World) (x:Mod) (a1:Option Addr) (a2:Option Addr) (a3:Option Addr) (a4:Option Addr) (a5:Option Addr) (a6:Option Addr) (a7:Option Addr) (a8:Option Addr) (a9:Option Addr) (a10:Option Addr) (a11:Option Addr):Prop:=FType.Ls B w a1 x.types∧Imp.Ls B w a2 x.imps∧HI .i64 B w a3 x.funcs∧Limits.Ls B w a4 x.tabs∧Limits.Ls B w a5 x.mems∧Glob.Ls B w a6 x.globs∧Exp.Ls B w a7 x.exps∧Ele.Ls B w a8 x.elems∧Cod.Ls B w a9 x.codes∧Dat.Ls B w a10 x.datas∧Cus.Ls B w a11 x.customs
theorem Mod.Is.up {B:Nat} {w w':World} {x:Mod} {a1:Option Addr} {a2:Option Addr} {a3:Option Addr} {a4:Option Addr} {a5:Option Addr} {a6:Option Addr} {a7:Option Addr} {a8:Option Addr} {a9:Option Addr} {a10:Option Addr} {a11:Option Addr} (h:Mod.Is B w x a1 a2 a3 a4 a5 a6 a7 a8 a9 a10 a11) (u:Up B w w'):Mod.Is B w' x a1 a2 a3 a4 a5 a6 a7 a8 a9 a10 a11:=by
 obtain ⟨h1,h2,h3,h4,h5,h6,h7,h8,h9,h10,h11⟩:=h
 exact ⟨h1.up u,h2.up u,h3.up u,h4.up u,h5.up u,h6.up u,h7.up u,h8.up u,h9.up u,h10.up u,h11.up u⟩
theorem Mod.Is.mono {B B':Nat} {w:World} {x:Mod} {a1:Option Addr} {a2:Option Addr} {a3:Option Addr} {a4:Option Addr} {a5:Option Addr} {a6:Option Addr} {a7:Option Addr} {a8:Option Addr} {a9:Option Addr} {a10:Option Addr} {a11:Option Addr} (h:Mod.Is B w x a1 a2 a3 a4 a5 a6 a7 a8 a9 a10 a11) (hB:B'≤B):Mod.Is B' w x a1 a2 a3 a4 a5 a6 a7 a8 a9 a10 a11:=by
 obtain ⟨h1,h2,h3,h4,h5,h6,h7,h8,h9,h10,h11⟩:=h
 exact ⟨h1.mono hB,h2.mono hB,h3.mono hB,h4.mono hB,h5.mono hB,h6.mono hB,h7.mono hB,h8.mono hB,h9.mono hB,h10.mono hB,h11.mono hB⟩
def Mod.LB (N:Nat) (x:Mod):Prop:=(x.types.length≤N∧∀ i,i<x.types.length→FType.LB N (x.types.getD i FType.z))∧(x.imps.length≤N∧∀ i,i<x.imps.length→Imp.LB N (x.imps.getD i Imp.z))∧x.funcs.length≤N∧(x.tabs.length≤N∧∀ i,i<x.tabs.length→Limits.LB N (x.tabs.getD i Limits.z))∧(x.mems.length≤N∧∀ i,i<x.mems.length→Limits.LB N (x.mems.getD i Limits.z))∧(x.globs.length≤N∧∀ i,i<x.globs.length→Glob.LB N (x.globs.getD i Glob.z))∧(x.exps.length≤N∧∀ i,i<x.exps.length→Exp.LB N (x.exps.getD i Exp.z))∧(x.elems.length≤N∧∀ i,i<x.elems.length→Ele.LB N (x.elems.getD i Ele.z))∧(x.codes.length≤N∧∀ i,i<x.codes.length→Cod.LB N (x.codes.getD i Cod.z))∧(x.datas.length≤N∧∀ i,i<x.datas.length→Dat.LB N (x.datas.getD i Dat.z))∧(x.customs.length≤N∧∀ i,i<x.customs.length→Cus.LB N (x.customs.getD i Cus.z))
theorem In.Ls.lst {B:Nat} {w:World} {a:Option Addr} {xs:List In} (h:In.Ls B w a xs):Lst w a xs:=by
 rcases h with h | ⟨b,o,e,hb,hc⟩
 · exact .inl h
 · refine .inr ⟨b,o,e,fun i hi=>?_⟩
   obtain ⟨a1,c1,⟨q0,q1,q2,q3,q4⟩,hi⟩:=hc i hi
   exact ⟨a1,c1,q0,q1,q2,q3,q4,HI.has hi⟩
open Go.RowKit Go.Sort
abbrev U8 (xs:List Int):List Value:=xs.map fun x=>Value.int .u8 x
theorem Tryz.info5:(Tryz.prog.info? 5).map (fun i=>(i.zero,i.size,i.bytes))=some (some (.int .u8 0),1,1):=by kernel_rfl
theorem copyB_step (k:Nat) (xs:List Int) (h:k<xs.length):(U8 (xs.take k++(List.replicate xs.length 0).drop k)).set k (.int .u8 (xs.getD k 0))=U8 (xs.take (k+1)++(List.replicate xs.length 0).drop (k+1)):=by
 have hd:(List.replicate xs.length (0:Int)).drop k=0::(List.replicate xs.length (0:Int)).drop (k+1):=by
  rw [List.drop_eq_getElem_cons (by simpa using h)];simp
 have ht:xs.take (k+1)=xs.take k++[xs.getD k 0]:=by
  rw [List.take_succ_eq_append_getElem h];simp [List.getD,h]
 rw [hd,ht]
 simp only [U8,List.map_append,List.map_cons,List.append_assoc,List.cons_append,List.nil_append,List.map_nil]
 rw [List.set_append_right _ _ (by simp;omega)]
 simp [Nat.min_eq_left (Nat.le_of_lt h)]
theorem toB_c (a:Option Addr) (c:Nat) (xs:List Int) (w:World) (hn:xs.length≤1048576) (hH:HI .u8 0 w a xs) :
    Calls Tryz.prog 174 #[.slice a xs.length c] w fun e w'=>e=.returned (.slice (some ⟨w.heap.size,0,none⟩) xs.length xs.length)∧w'.ownsRow w.heap.size 5 1 (.slice (some ⟨w.heap.size,0,none⟩) xs.length xs.length) xs.length (U8 xs)∧Below w.heap.size w w':=by
 have hmk:=run_make_row' (P:=Tryz.prog) 50 5 (.int .u8 0) 1 Tryz.underlying50 Tryz.info5 rfl .i64 .i64 xs.length (by omega) (by omega)
 have HH:=Hm hH
 clear hH
 have hst:(w.alloc (.cells (madeCells #[.int .u8 0] xs.length) 5)).ownsRow w.heap.size 5 1 (.slice (some ⟨w.heap.size,0,none⟩) xs.length xs.length) xs.length (U8 (xs.take 0++(List.replicate xs.length 0).drop 0)):=by
  have:=World.ownsRow_lit (base:=w.heap.size) (e:=5) (size:=1) w (madeCells #[.int .u8 0] xs.length) xs.length (Nat.le_refl _) (by unfold maxLen;omega) (by simp [madeCells])
  have e:(madeCells #[.int .u8 0] xs.length).toList=U8 (xs.take 0++(List.replicate xs.length 0).drop 0):=by
   apply List.ext_getElem?
   intro i
   by_cases hi:i<xs.length
   · simp [madeCells,hi,Nat.mod_one]
   · simp [madeCells,hi]
  rw [e] at this
  exact this
 have HS:=Hm hst
 clear hst
 go_enter Tryz.func174,Tryz.ntmps174
 go_wp2
 go_loopw [4] (fun i wr=>∃ k:Nat,k≤xs.length∧i=.int .i64 k∧wr.ownsRow w.heap.size 5 1 (.slice (some ⟨w.heap.size,0,none⟩) xs.length xs.length) xs.length (U8 (xs.take k++(List.replicate xs.length 0).drop k))∧Below w.heap.size w wr) (fun i _=>xs.length-(intOf i).toNat)
 case atStart=>exact ⟨0,Nat.zero_le _,rfl,HS.out,(Below.refl _ _).alloc (Nat.le_refl _) _⟩
 case round =>
  obtain ⟨k,hk,rfl,ho,hb⟩:=hrel
  clear HS hmk
  by_cases hlt:k<xs.length
  · have hki:(k:Int)<(xs.length:Int):=by omega
    rcases HH.out with hx | ⟨b,o,ea,_,hc⟩
    · subst hx;simp at hlt
    have d:wr.cell? ⟨b,o+k,none⟩=some (.int .u8 (xs.getD k 0)):=(hb.cell (p:=⟨b,o+k,none⟩) (World.block_lt_of_cell? w _ (hc k hlt))).trans (hc k hlt)
    subst ea
    have hcell:∃ u,wr.cell? ⟨w.heap.size,k,none⟩=some u:=by
     rw [ho.cellAt k (by omega)]
     exact ⟨_,List.getElem?_eq_getElem (by simp;omega)⟩
    obtain ⟨u,hu⟩:=hcell
    have hfz:=ho.frozenAt k
    obtain ⟨x,hx⟩:∃ x,x=xs.getD k 0:=⟨_,rfl⟩
    obtain ⟨s1,s2⟩:=ho.stored k (.int .u8 x)
    rw [hx,copyB_step k xs hlt,← hx] at s1
    rw [← hx] at d
    have R:=And.intro s1 (hb.setCell (p:=⟨w.heap.size,k,none⟩) (Nat.le_refl _) (.int .u8 x))
    clear s1 s2 ho hb hc hx HH
    go_wp2
    go_roundw
    case rel=>exact ⟨k+1,by omega,by go_num,R.1,R.2⟩
    case measure=>simp [intOf];omega
  · have e:k=xs.length:=by omega
    subst e
    rw [List.take_length,List.drop_of_length_le (by simp),List.append_nil] at ho
    go_wp2
    go_ret
    exact ⟨rfl,ho,hb⟩
theorem rtInts_c (a:Option Addr) (c:Nat) (xs:List Int) (w:World) (hn:xs.length≤1048576) (hH:HI .i64 0 w a xs) :
    Calls Tryz.prog 39 #[.slice a xs.length c] w fun e w'=>e=.returned (.slice (some ⟨w.heap.size,0,none⟩) xs.length xs.length)∧HI .i64 w.heap.size w' (some ⟨w.heap.size,0,none⟩) xs∧Below w.heap.size w w' :=
 (toI_c a c xs w hn hH.has).mono fun e w' ⟨h1,h2,h3⟩=>⟨h1,.inr ⟨_,_,rfl,Nat.le_refl _,fun i hi=>by rw [Nat.zero_add,h2.cellAt i (by omega)];simp [List.getD,hi]⟩,h3⟩
theorem rtBytes_c (a:Option Addr) (c:Nat) (xs:List Int) (w:World) (hn:xs.length≤1048576) (hH:HI .u8 0 w a xs) :
    Calls Tryz.prog 174 #[.slice a xs.length c] w fun e w'=>e=.returned (.slice (some ⟨w.heap.size,0,none⟩) xs.length xs.length)∧HI .u8 w.heap.size w' (some ⟨w.heap.size,0,none⟩) xs∧Below w.heap.size w w' :=
 (toB_c a c xs w hn hH).mono fun e w' ⟨h1,h2,h3⟩=>⟨h1,.inr ⟨_,_,rfl,Nat.le_refl _,fun i hi=>by rw [Nat.zero_add,h2.cellAt i (by omega)];simp [List.getD,hi]⟩,h3⟩
def Bk (W:World) (g:Nat) (cs:List Value):Prop:=g<W.heap.size∧(∀ j v,cs[j]?=some v→W.cell? ⟨g,j,none⟩=some v)∧∀ j,W.frozen? ⟨g,j,none⟩=false
theorem Bk.keep {W W':World} {g:Nat} {cs:List Value} (h:Bk W g cs) (hb:Below W.heap.size W W'):Bk W' g cs :=
 ⟨Nat.lt_of_lt_of_le h.1 hb.size,fun j v hj=>(hb.cell (p:=⟨g,j,none⟩) h.1).trans (h.2.1 j v hj),fun j=>(hb.frozen (p:=⟨g,j,none⟩) h.1).trans (h.2.2 j)⟩
theorem Bk.new {w:World} {cs:List Value} {t:TypeId}:Bk (w.alloc (.cells cs.toArray t)) w.heap.size cs :=
 ⟨by simp,fun j v hj=>cell_new rfl (by simpa using hj),fun j=>World.frozen?_alloc_new _ _ _ _⟩
theorem Bk.past {w:World} {g:Nat} {cs:List Value} {o:Obj} (h:Bk w g cs):Bk (w.alloc o) g cs:=h.keep ((Below.refl _ _).alloc (Nat.le_refl _) _)
theorem Bk.other {W:World} {g g' o:Nat} {v:Value} {cs:List Value} (h:Bk W g cs) (hne:g'≠g):Bk (W.setCell ⟨g',o,none⟩ v) g cs :=
 ⟨by simpa using h.1,fun j u hj=>by rw [World.cell?_setCell_other _ _ _ _ (fun e=>hne (congrArg Addr.block e))];exact h.2.1 j u hj,fun j=>by rw [World.frozen?_setCell];exact h.2.2 j⟩
theorem Bk.set {W:World} {g j:Nat} {v:Value} {cs:List Value} (h:Bk W g cs):Bk (W.setCell ⟨g,j,none⟩ v) g (cs.set j v):=by
 refine ⟨by simpa using h.1,fun i u hi=>?_,fun i=>by rw [World.frozen?_setCell];exact h.2.2 i⟩
 by_cases e:j=i
 · subst e
   have hj:j<cs.length:=by
    rcases Nat.lt_or_ge j cs.length with h' | h'
    · exact h'
    · rw [List.getElem?_eq_none (by simpa using h')] at hi;cases hi
   rw [List.getElem?_set_self hj] at hi
   cases hi
   exact set_same (h.2.1 j _ (List.getElem?_eq_getElem hj))
 · rw [List.getElem?_set_ne e] at hi
   exact set_off (h.2.1 i u hi) e
theorem three (w:World) (b z z':List Value) (t t' t'':TypeId):Bk (((w.alloc (.cells b.toArray t)).alloc (.cells z.toArray t')).alloc (.cells z'.toArray t'')) w.heap.size b∧Bk (((w.alloc (.cells b.toArray t)).alloc (.cells z.toArray t')).alloc (.cells z'.toArray t'')) (w.heap.size+1) z∧Bk (((w.alloc (.cells b.toArray t)).alloc (.cells z.toArray t')).alloc (.cells z'.toArray t'')) (w.heap.size+2) z'∧Below w.heap.size w (((w.alloc (.cells b.toArray t)).alloc (.cells z.toArray t')).alloc (.cells z'.toArray t'')):=by
 refine ⟨Bk.new.past.past,?_,?_,(((Below.refl _ _).alloc (Nat.le_refl _) _).alloc (by simp) _).alloc (by simp;omega) _⟩
 · have:=(Bk.new (w:=w.alloc (.cells b.toArray t)) (cs:=z) (t:=t')).past (o:=.cells z'.toArray t'')
   simpa using this
 · have:=(Bk.new (w:=(w.alloc (.cells b.toArray t)).alloc (.cells z.toArray t')) (cs:=z') (t:=t''))
   simpa using this
end Go.Proofs.YtdbmolambolmgaaGreat
