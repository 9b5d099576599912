import Derived.WalkKit
import Derived.Test.YthmjjhfjkgaocaaGreatDoorChecked
import Derived.WalkSpells
import Derived.WalkLawsBesides
set_option linter.unusedSimpArgs false
set_option linter.unusedVariables false
set_option maxHeartbeats 1000000
namespace Go.Proofs.YthmjjhfjkgaocaaGreatDoor
open Go.RowKit
theorem hide {p:Prop}(h:p):Hid p:=h
theorem unhide {p:Prop}(h:Hid p):p:=h
theorem bcell {W w1:World}(hb:Below W.heap.size W w1):(∀ b o,b<W.heap.size→w1.cell? ⟨b,o,none⟩=W.cell? ⟨b,o,none⟩)∧(∀ b o,b<W.heap.size→w1.frozen? ⟨b,o,none⟩=W.frozen? ⟨b,o,none⟩):=
 ⟨fun b o h=>hb.cell (p:=⟨b,o,none⟩) h,fun b o h=>hb.frozen (p:=⟨b,o,none⟩) h⟩
structure NodeD where
 kind:Int
 line:Int
 op:Int
 num:Int
 flt:Nat
 str:ByteArray
 refs:List Int
 kids:List Int
structure FnD where
 name:ByteArray
 line:Int
 params:Int
 rest:Bool
 vars:List ByteArray
 ups:List (Bool×Int)
 nodes:List NodeD
def NodeD.z:NodeD:=⟨0,0,0,0,0,ByteArray.empty,[],[]⟩
def FnD.z:FnD:=⟨ByteArray.empty,0,0,false,[],[],[]⟩
def IntsAt (w:World)(S:Nat→Prop)(a:Option Addr)(l:List Int):Prop:=
 l.length≤9223372036854775807∧(0<l.length→∃ b off,a=some ⟨b,off,none⟩∧S b∧∀ j,j<l.length→w.cell? ⟨b,off+j,none⟩=some (.int .i64 (l[j]?.getD 0)))
def StrsAt (w:World)(S:Nat→Prop)(a:Option Addr)(l:List ByteArray):Prop:=
 l.length≤9223372036854775807∧(0<l.length→∃ b off,a=some ⟨b,off,none⟩∧S b∧∀ j,j<l.length→(l[j]?.getD ByteArray.empty).size≤9223372036854775807∧w.cell? ⟨b,off+j,none⟩=some (.string (l[j]?.getD ByteArray.empty)))
def UpsAt (w:World)(S:Nat→Prop)(a:Option Addr)(l:List (Bool×Int)):Prop:=
 l.length≤9223372036854775807∧(0<l.length→∃ b off,a=some ⟨b,off,none⟩∧S b∧∀ j,j<l.length →
  w.cell? ⟨b,off+j * 2,none⟩=some (.bool (l[j]?.getD (false,0)).1)∧w.cell? ⟨b,off+j * 2+1,none⟩=some (.int .i64 (l[j]?.getD (false,0)).2))
structure NodeCells (w:World)(S:Nat→Prop)(b o:Nat)(n:NodeD):Prop where
 kind:w.cell? ⟨b,o,none⟩=some (.int .i64 n.kind)
 line:w.cell? ⟨b,o+1,none⟩=some (.int .i64 n.line)
 op:w.cell? ⟨b,o+2,none⟩=some (.int .i64 n.op)
 num:w.cell? ⟨b,o+3,none⟩=some (.int .i64 n.num)
 flt:w.cell? ⟨b,o+4,none⟩=some (.float .f64 n.flt)
 strs:n.str.size≤9223372036854775807
 str:w.cell? ⟨b,o+5,none⟩=some (.string n.str)
 refs:∃ a c,w.cell? ⟨b,o+6,none⟩=some (.slice a n.refs.length c)∧IntsAt w S a n.refs
 kids:∃ a c,w.cell? ⟨b,o+7,none⟩=some (.slice a n.kids.length c)∧IntsAt w S a n.kids
 kcap:∃ a c,w.cell? ⟨b,o+7,none⟩=some (.slice a n.kids.length c)∧n.kids.length≤c
def NodesAt (w:World)(S:Nat→Prop)(a:Option Addr)(l:List NodeD):Prop:=
 l.length≤9223372036854775807∧(0<l.length→∃ b off,a=some ⟨b,off,none⟩∧S b∧∀ j,j<l.length→NodeCells w S b (off+j * 8) (l[j]?.getD NodeD.z))
structure FnCells (w:World)(S:Nat→Prop)(b o:Nat)(n:FnD):Prop where
 names:n.name.size≤9223372036854775807
 name:w.cell? ⟨b,o,none⟩=some (.string n.name)
 line:w.cell? ⟨b,o+1,none⟩=some (.int .i64 n.line)
 params:w.cell? ⟨b,o+2,none⟩=some (.int .i64 n.params)
 rest:w.cell? ⟨b,o+3,none⟩=some (.bool n.rest)
 vars:∃ a c,w.cell? ⟨b,o+4,none⟩=some (.slice a n.vars.length c)∧StrsAt w S a n.vars
 ups:∃ a c,w.cell? ⟨b,o+5,none⟩=some (.slice a n.ups.length c)∧UpsAt w S a n.ups
 nodes:∃ a c,w.cell? ⟨b,o+6,none⟩=some (.slice a n.nodes.length c)∧NodesAt w S a n.nodes
def FnsAt (w:World)(S:Nat→Prop)(a:Option Addr)(l:List FnD):Prop:=
 l.length≤9223372036854775807∧(0<l.length→∃ b off,a=some ⟨b,off,none⟩∧S b∧∀ j,j<l.length→FnCells w S b (off+j * 7) (l[j]?.getD FnD.z))
def New (G:Nat)(w:World)(b:Nat):Prop:=G≤b∧b<w.heap.size
def Same (S:Nat→Prop)(w w':World):Prop:=∀ b,S b→w'.heap[b]? = w.heap[b]?
section
variable {w w':World} {S S':Nat→Prop}
theorem Same.cell (h:Same S w w'){b:Nat}(hb:S b)(o:Nat):w'.cell? ⟨b,o,none⟩=w.cell? ⟨b,o,none⟩:=World.cell?_of_block (a:=⟨b,o,none⟩) (h b hb)
theorem Same.of_below {B:Nat}(h:Below B w w')(hS:∀ b,S b→b<B):Same S w w':=fun b hb=>h.block b (hS b hb)
theorem Same.trans {w2:World}(h:Same S w w')(k:Same S w' w2):Same S w w2:=fun b hb=>(k b hb).trans (h b hb)
theorem Same.mono (h:Same S' w w')(hS:∀ b,S b→S' b):Same S w w':=fun b hb=>h b (hS b hb)
theorem Same.refl:Same S w w:=fun _ _=>rfl
theorem Same.setCell (h:Same S w w'){a:Addr}(ha:¬S a.block)(v:Value):Same S w (w'.setCell a v):=fun b hb=>(Below.heap_setCell w' a v b (fun e=>ha (e ▸ hb))).trans (h b hb)
theorem Same.alloc (h:Same S w w')(hS:∀ b,S b→b<w'.heap.size)(o:Obj):Same S w (w'.alloc o):=fun b hb=>(Below.heap_alloc w' o b (hS b hb)).trans (h b hb)
theorem Same.below {w2:World}{B:Nat}(h:Same S w w')(hb:Below B w' w2)(hS:∀ b,S b→b<B):Same S w w2:=h.trans (.of_below hb hS)
theorem IntsAt.same {a:Option Addr}{l:List Int}(h:IntsAt w S a l)(hb:Same S w w'):IntsAt w' S a l:=
 ⟨h.1,fun hl=>by
  obtain⟨b,off,e,hs,hc⟩:=h.2 hl
  exact⟨b,off,e,hs,fun j hj=>(hb.cell hs _).trans (hc j hj)⟩⟩
theorem StrsAt.same {a:Option Addr}{l:List ByteArray}(h:StrsAt w S a l)(hb:Same S w w'):StrsAt w' S a l:=
 ⟨h.1,fun hl=>by
  obtain⟨b,off,e,hs,hc⟩:=h.2 hl
  exact⟨b,off,e,hs,fun j hj=>⟨(hc j hj).1,(hb.cell hs _).trans (hc j hj).2⟩⟩⟩
theorem UpsAt.same {a:Option Addr}{l:List (Bool×Int)}(h:UpsAt w S a l)(hb:Same S w w'):UpsAt w' S a l:=
 ⟨h.1,fun hl=>by
  obtain⟨b,off,e,hs,hc⟩:=h.2 hl
  exact⟨b,off,e,hs,fun j hj=>⟨(hb.cell hs _).trans (hc j hj).1,(hb.cell hs _).trans (hc j hj).2⟩⟩⟩
theorem NodeCells.same {b o:Nat}{n:NodeD}(h:NodeCells w S b o n)(hb:Same S w w')(hs:S b):NodeCells w' S b o n where
 kind:=(hb.cell hs _).trans h.kind
 line:=(hb.cell hs _).trans h.line
 op:=(hb.cell hs _).trans h.op
 num:=(hb.cell hs _).trans h.num
 flt:=(hb.cell hs _).trans h.flt
 strs:=h.strs
 str:=(hb.cell hs _).trans h.str
 refs:=by obtain⟨a,c,e,k⟩:=h.refs;exact⟨a,c,(hb.cell hs _).trans e,k.same hb⟩
 kids:=by obtain⟨a,c,e,k⟩:=h.kids;exact⟨a,c,(hb.cell hs _).trans e,k.same hb⟩
 kcap:=by obtain⟨a,c,e,k⟩:=h.kcap;exact⟨a,c,(hb.cell hs _).trans e,k⟩
theorem NodesAt.same {a:Option Addr}{l:List NodeD}(h:NodesAt w S a l)(hb:Same S w w'):NodesAt w' S a l:=
 ⟨h.1,fun hl=>by
  obtain⟨b,off,e,hs,hc⟩:=h.2 hl
  exact⟨b,off,e,hs,fun j hj=>(hc j hj).same hb hs⟩⟩
theorem FnCells.same {b o:Nat}{n:FnD}(h:FnCells w S b o n)(hb:Same S w w')(hs:S b):FnCells w' S b o n where
 names:=h.names
 name:=(hb.cell hs _).trans h.name
 line:=(hb.cell hs _).trans h.line
 params:=(hb.cell hs _).trans h.params
 rest:=(hb.cell hs _).trans h.rest
 vars:=by obtain⟨a,c,e,k⟩:=h.vars;exact⟨a,c,(hb.cell hs _).trans e,k.same hb⟩
 ups:=by obtain⟨a,c,e,k⟩:=h.ups;exact⟨a,c,(hb.cell hs _).trans e,k.same hb⟩
 nodes:=by obtain⟨a,c,e,k⟩:=h.nodes;exact⟨a,c,(hb.cell hs _).trans e,k.same hb⟩
theorem FnsAt.same {a:Option Addr}{l:List FnD}(h:FnsAt w S a l)(hb:Same S w w'):FnsAt w' S a l:=
 ⟨h.1,fun hl=>by
  obtain⟨b,off,e,hs,hc⟩:=h.2 hl
  exact⟨b,off,e,hs,fun j hj=>(hc j hj).same hb hs⟩⟩
theorem IntsAt.keep {a:Option Addr}{l:List Int}{B:Nat}(h:IntsAt w S a l)(hb:Below B w w')(hS:∀ b,S b→b<B):IntsAt w' S a l:=h.same (.of_below hb hS)
theorem StrsAt.keep {a:Option Addr}{l:List ByteArray}{B:Nat}(h:StrsAt w S a l)(hb:Below B w w')(hS:∀ b,S b→b<B):StrsAt w' S a l:=h.same (.of_below hb hS)
theorem UpsAt.keep {a:Option Addr}{l:List (Bool×Int)}{B:Nat}(h:UpsAt w S a l)(hb:Below B w w')(hS:∀ b,S b→b<B):UpsAt w' S a l:=h.same (.of_below hb hS)
theorem NodesAt.keep {a:Option Addr}{l:List NodeD}{B:Nat}(h:NodesAt w S a l)(hb:Below B w w')(hS:∀ b,S b→b<B):NodesAt w' S a l:=h.same (.of_below hb hS)
theorem FnsAt.keep {a:Option Addr}{l:List FnD}{B:Nat}(h:FnsAt w S a l)(hb:Below B w w')(hS:∀ b,S b→b<B):FnsAt w' S a l:=h.same (.of_below hb hS)
theorem IntsAt.mono {a:Option Addr}{l:List Int}(h:IntsAt w S a l)(hS:∀ b,S b→S' b):IntsAt w S' a l:=
 ⟨h.1,fun hl=>by obtain⟨b,off,e,hs,hc⟩:=h.2 hl;exact⟨b,off,e,hS b hs,hc⟩⟩
theorem StrsAt.mono {a:Option Addr}{l:List ByteArray}(h:StrsAt w S a l)(hS:∀ b,S b→S' b):StrsAt w S' a l:=
 ⟨h.1,fun hl=>by obtain⟨b,off,e,hs,hc⟩:=h.2 hl;exact⟨b,off,e,hS b hs,hc⟩⟩
theorem UpsAt.mono {a:Option Addr}{l:List (Bool×Int)}(h:UpsAt w S a l)(hS:∀ b,S b→S' b):UpsAt w S' a l:=
 ⟨h.1,fun hl=>by obtain⟨b,off,e,hs,hc⟩:=h.2 hl;exact⟨b,off,e,hS b hs,hc⟩⟩
theorem NodeCells.mono {b o:Nat}{n:NodeD}(h:NodeCells w S b o n)(hS:∀ b,S b→S' b):NodeCells w S' b o n:=
 {kind:=h.kind,line:=h.line,op:=h.op,num:=h.num,flt:=h.flt,strs:=h.strs,str:=h.str,refs:=by obtain⟨a,c,e,k⟩:=h.refs;exact⟨a,c,e,k.mono hS⟩
  kids:=by obtain⟨a,c,e,k⟩:=h.kids;exact⟨a,c,e,k.mono hS⟩
  kcap:=h.kcap }
theorem NodesAt.mono {a:Option Addr}{l:List NodeD}(h:NodesAt w S a l)(hS:∀ b,S b→S' b):NodesAt w S' a l:=
 ⟨h.1,fun hl=>by obtain⟨b,off,e,hs,hc⟩:=h.2 hl;exact⟨b,off,e,hS b hs,fun j hj=>(hc j hj).mono hS⟩⟩
theorem FnCells.mono {b o:Nat}{n:FnD}(h:FnCells w S b o n)(hS:∀ b,S b→S' b):FnCells w S' b o n:=
 {names:=h.names,name:=h.name,line:=h.line,params:=h.params,rest:=h.rest,vars:=by obtain⟨a,c,e,k⟩:=h.vars;exact⟨a,c,e,k.mono hS⟩
  ups:=by obtain⟨a,c,e,k⟩:=h.ups;exact⟨a,c,e,k.mono hS⟩
  nodes:=by obtain⟨a,c,e,k⟩:=h.nodes;exact⟨a,c,e,k.mono hS⟩ }
theorem FnsAt.mono {a:Option Addr}{l:List FnD}(h:FnsAt w S a l)(hS:∀ b,S b→S' b):FnsAt w S' a l:=
 ⟨h.1,fun hl=>by obtain⟨b,off,e,hs,hc⟩:=h.2 hl;exact⟨b,off,e,hS b hs,fun j hj=>(hc j hj).mono hS⟩⟩
end
structure ValD where
 kind:Int
 num:Int
 flt:Nat
 str:ByteArray
 ref:Int
def ValD.z:ValD:=⟨0,0,0,ByteArray.empty,0⟩
structure ValCells (w:World)(b o:Nat)(n:ValD):Prop where
 kind:w.cell? ⟨b,o,none⟩=some (.int .i64 n.kind)
 num:w.cell? ⟨b,o+1,none⟩=some (.int .i64 n.num)
 flt:w.cell? ⟨b,o+2,none⟩=some (.float .f64 n.flt)
 str:w.cell? ⟨b,o+3,none⟩=some (.string n.str)
 strs:n.str.size≤9223372036854775807
 ref:w.cell? ⟨b,o+4,none⟩=some (.int .i64 n.ref)
def ValsAt (w:World)(S:Nat→Prop)(a:Option Addr)(l:List ValD):Prop:=
 l.length≤9223372036854775807∧(0<l.length→∃ b off,a=some ⟨b,off,none⟩∧S b∧∀ j,j<l.length→ValCells w b (off+j * 5) (l[j]?.getD ValD.z))
theorem ValCells.same {w w':World}{S:Nat→Prop}{b o:Nat}{n:ValD}(h:ValCells w b o n)(hb:Same S w w')(hs:S b):ValCells w' b o n:=
 {kind:=(hb.cell hs _).trans h.kind,num:=(hb.cell hs _).trans h.num,flt:=(hb.cell hs _).trans h.flt,str:=(hb.cell hs _).trans h.str,strs:=h.strs,ref:=(hb.cell hs _).trans h.ref }
theorem ValsAt.same {w w':World}{S:Nat→Prop}{a:Option Addr}{l:List ValD}(h:ValsAt w S a l)(hb:Same S w w'):ValsAt w' S a l:=
 ⟨h.1,fun hl=>by
  obtain⟨b,off,e,hs,hc⟩:=h.2 hl
  exact⟨b,off,e,hs,fun j hj=>(hc j hj).same hb hs⟩⟩
theorem ValsAt.keep {w w':World}{S:Nat→Prop}{a:Option Addr}{l:List ValD}{B:Nat}(h:ValsAt w S a l)(hb:Below B w w')(hS:∀ b,S b→b<B):ValsAt w' S a l:=h.same (.of_below hb hS)
theorem ValsAt.mono {w:World}{S S':Nat→Prop}{a:Option Addr}{l:List ValD}(h:ValsAt w S a l)(hS:∀ b,S b→S' b):ValsAt w S' a l:=
 ⟨h.1,fun hl=>by obtain⟨b,off,e,hs,hc⟩:=h.2 hl;exact⟨b,off,e,hS b hs,hc⟩⟩
structure InsD where
 op:Int
 fa:Int
 fb:Int
 fc:Int
 fd:Int
def InsD.z:InsD:=⟨0,0,0,0,0⟩
structure InsCells (w:World)(b o:Nat)(n:InsD):Prop where
 op:w.cell? ⟨b,o,none⟩=some (.int .i64 n.op)
 fa:w.cell? ⟨b,o+1,none⟩=some (.int .i64 n.fa)
 fb:w.cell? ⟨b,o+2,none⟩=some (.int .i64 n.fb)
 fc:w.cell? ⟨b,o+3,none⟩=some (.int .i64 n.fc)
 fd:w.cell? ⟨b,o+4,none⟩=some (.int .i64 n.fd)
def InssAt (w:World)(S:Nat→Prop)(a:Option Addr)(l:List InsD):Prop:=
 l.length≤9223372036854775807∧(0<l.length→∃ b off,a=some ⟨b,off,none⟩∧S b∧∀ j,j<l.length→InsCells w b (off+j * 5) (l[j]?.getD InsD.z))
theorem InsCells.same {w w':World}{S:Nat→Prop}{b o:Nat}{n:InsD}(h:InsCells w b o n)(hb:Same S w w')(hs:S b):InsCells w' b o n:=
 {op:=(hb.cell hs _).trans h.op,fa:=(hb.cell hs _).trans h.fa,fb:=(hb.cell hs _).trans h.fb,fc:=(hb.cell hs _).trans h.fc,fd:=(hb.cell hs _).trans h.fd }
theorem InssAt.same {w w':World}{S:Nat→Prop}{a:Option Addr}{l:List InsD}(h:InssAt w S a l)(hb:Same S w w'):InssAt w' S a l:=
 ⟨h.1,fun hl=>by
  obtain⟨b,off,e,hs,hc⟩:=h.2 hl
  exact⟨b,off,e,hs,fun j hj=>(hc j hj).same hb hs⟩⟩
theorem InssAt.keep {w w':World}{S:Nat→Prop}{a:Option Addr}{l:List InsD}{B:Nat}(h:InssAt w S a l)(hb:Below B w w')(hS:∀ b,S b→b<B):InssAt w' S a l:=h.same (.of_below hb hS)
theorem InssAt.mono {w:World}{S S':Nat→Prop}{a:Option Addr}{l:List InsD}(h:InssAt w S a l)(hS:∀ b,S b→S' b):InssAt w S' a l:=
 ⟨h.1,fun hl=>by obtain⟨b,off,e,hs,hc⟩:=h.2 hl;exact⟨b,off,e,hS b hs,hc⟩⟩
structure NamD where
 name:ByteArray
 reg:Int
 fro:Int
 til:Int
def NamD.z:NamD:=⟨ByteArray.empty,0,0,0⟩
structure NamCells (w:World)(b o:Nat)(n:NamD):Prop where
 name:w.cell? ⟨b,o,none⟩=some (.string n.name)
 names:n.name.size≤9223372036854775807
 reg:w.cell? ⟨b,o+1,none⟩=some (.int .i64 n.reg)
 fro:w.cell? ⟨b,o+2,none⟩=some (.int .i64 n.fro)
 til:w.cell? ⟨b,o+3,none⟩=some (.int .i64 n.til)
def NamsAt (w:World)(S:Nat→Prop)(a:Option Addr)(l:List NamD):Prop:=
 l.length≤9223372036854775807∧(0<l.length→∃ b off,a=some ⟨b,off,none⟩∧S b∧∀ j,j<l.length→NamCells w b (off+j * 4) (l[j]?.getD NamD.z))
theorem NamCells.same {w w':World}{S:Nat→Prop}{b o:Nat}{n:NamD}(h:NamCells w b o n)(hb:Same S w w')(hs:S b):NamCells w' b o n:=
 {name:=(hb.cell hs _).trans h.name,names:=h.names,reg:=(hb.cell hs _).trans h.reg,fro:=(hb.cell hs _).trans h.fro,til:=(hb.cell hs _).trans h.til }
theorem NamsAt.same {w w':World}{S:Nat→Prop}{a:Option Addr}{l:List NamD}(h:NamsAt w S a l)(hb:Same S w w'):NamsAt w' S a l:=
 ⟨h.1,fun hl=>by
  obtain⟨b,off,e,hs,hc⟩:=h.2 hl
  exact⟨b,off,e,hs,fun j hj=>(hc j hj).same hb hs⟩⟩
theorem NamsAt.keep {w w':World}{S:Nat→Prop}{a:Option Addr}{l:List NamD}{B:Nat}(h:NamsAt w S a l)(hb:Below B w w')(hS:∀ b,S b→b<B):NamsAt w' S a l:=h.same (.of_below hb hS)
theorem NamsAt.mono {w:World}{S S':Nat→Prop}{a:Option Addr}{l:List NamD}(h:NamsAt w S a l)(hS:∀ b,S b→S' b):NamsAt w S' a l:=
 ⟨h.1,fun hl=>by obtain⟨b,off,e,hs,hc⟩:=h.2 hl;exact⟨b,off,e,hS b hs,hc⟩⟩
structure ProtoD where
 name:ByteArray
 line:Int
 params:Int
 rest:Bool
 regs:Int
 ups:List (Bool×Int)
 consts:List ValD
 ins:List InsD
 named:List NamD
def ProtoD.z:ProtoD:=⟨ByteArray.empty,0,0,false,0,[],[],[],[]⟩
structure ProtoCells (w:World)(S:Nat→Prop)(b o:Nat)(n:ProtoD):Prop where
 names:n.name.size≤9223372036854775807
 name:w.cell? ⟨b,o,none⟩=some (.string n.name)
 line:w.cell? ⟨b,o+1,none⟩=some (.int .i64 n.line)
 params:w.cell? ⟨b,o+2,none⟩=some (.int .i64 n.params)
 rest:w.cell? ⟨b,o+3,none⟩=some (.bool n.rest)
 regs:w.cell? ⟨b,o+4,none⟩=some (.int .i64 n.regs)
 ups:∃ a c,w.cell? ⟨b,o+5,none⟩=some (.slice a n.ups.length c)∧UpsAt w S a n.ups
 consts:∃ a c,w.cell? ⟨b,o+6,none⟩=some (.slice a n.consts.length c)∧ValsAt w S a n.consts
 ins:∃ a c,w.cell? ⟨b,o+7,none⟩=some (.slice a n.ins.length c)∧InssAt w S a n.ins
 named:∃ a c,w.cell? ⟨b,o+8,none⟩=some (.slice a n.named.length c)∧NamsAt w S a n.named
def ProtosAt (w:World)(S:Nat→Prop)(a:Option Addr)(l:List ProtoD):Prop:=
 l.length≤9223372036854775807∧(0<l.length→∃ b off,a=some ⟨b,off,none⟩∧S b∧∀ j,j<l.length→ProtoCells w S b (off+j * 9) (l[j]?.getD ProtoD.z))
theorem ProtoCells.same {w w':World}{S:Nat→Prop}{b o:Nat}{n:ProtoD}(h:ProtoCells w S b o n)(hb:Same S w w')(hs:S b):ProtoCells w' S b o n where
 names:=h.names
 name:=(hb.cell hs _).trans h.name
 line:=(hb.cell hs _).trans h.line
 params:=(hb.cell hs _).trans h.params
 rest:=(hb.cell hs _).trans h.rest
 regs:=(hb.cell hs _).trans h.regs
 ups:=by obtain⟨a,c,e,k⟩:=h.ups;exact⟨a,c,(hb.cell hs _).trans e,k.same hb⟩
 consts:=by obtain⟨a,c,e,k⟩:=h.consts;exact⟨a,c,(hb.cell hs _).trans e,k.same hb⟩
 ins:=by obtain⟨a,c,e,k⟩:=h.ins;exact⟨a,c,(hb.cell hs _).trans e,k.same hb⟩
 named:=by obtain⟨a,c,e,k⟩:=h.named;exact⟨a,c,(hb.cell hs _).trans e,k.same hb⟩
theorem ProtosAt.same {w w':World}{S:Nat→Prop}{a:Option Addr}{l:List ProtoD}(h:ProtosAt w S a l)(hb:Same S w w'):ProtosAt w' S a l:=
 ⟨h.1,fun hl=>by
  obtain⟨b,off,e,hs,hc⟩:=h.2 hl
  exact⟨b,off,e,hs,fun j hj=>(hc j hj).same hb hs⟩⟩
theorem ProtosAt.keep {w w':World}{S:Nat→Prop}{a:Option Addr}{l:List ProtoD}{B:Nat}(h:ProtosAt w S a l)(hb:Below B w w')(hS:∀ b,S b→b<B):ProtosAt w' S a l:=h.same (.of_below hb hS)
theorem ProtoCells.mono {w:World}{S S':Nat→Prop}{b o:Nat}{n:ProtoD}(h:ProtoCells w S b o n)(hS:∀ b,S b→S' b):ProtoCells w S' b o n:=
 {names:=h.names,name:=h.name,line:=h.line,params:=h.params,rest:=h.rest,regs:=h.regs,ups:=by obtain⟨a,c,e,k⟩:=h.ups;exact⟨a,c,e,k.mono hS⟩,consts:=by obtain⟨a,c,e,k⟩:=h.consts;exact⟨a,c,e,k.mono hS⟩,ins:=by obtain⟨a,c,e,k⟩:=h.ins;exact⟨a,c,e,k.mono hS⟩,named:=by obtain⟨a,c,e,k⟩:=h.named;exact⟨a,c,e,k.mono hS⟩ }
theorem ProtosAt.mono {w:World}{S S':Nat→Prop}{a:Option Addr}{l:List ProtoD}(h:ProtosAt w S a l)(hS:∀ b,S b→S' b):ProtosAt w S' a l:=
 ⟨h.1,fun hl=>by obtain⟨b,off,e,hs,hc⟩:=h.2 hl;exact⟨b,off,e,hS b hs,fun j hj=>(hc j hj).mono hS⟩⟩
def sumTo {α:Type}(f:α→Nat)(l:List α)(k:Nat):Nat:=((l.take k).map f).sum
def sumAll {α:Type}(f:α→Nat)(l:List α):Nat:=(l.map f).sum
theorem sumTo_zero {α:Type}(f:α→Nat)(l:List α):sumTo f l 0=0:=by simp[sumTo]
theorem sumTo_succ {α:Type}(f:α→Nat)(l:List α)(k:Nat)(d:α)(h:k<l.length):sumTo f l (k+1)=sumTo f l k+f (l[k]?.getD d):=by
 unfold sumTo
 rw[List.take_succ_eq_append_getElem h,List.map_append,List.sum_append,List.getElem?_eq_getElem h]
 simp only[List.map_cons,List.map_nil,List.sum_cons,List.sum_nil,Nat.add_zero,Option.getD_some]
theorem sumTo_len {α:Type}(f:α→Nat)(l:List α):sumTo f l l.length=sumAll f l:=by simp[sumTo,sumAll]
theorem sumTo_le {α:Type}(f:α→Nat)(l:List α)(k:Nat):sumTo f l k≤sumAll f l:=by
 unfold sumTo sumAll
 conv=>rhs;rw[←List.take_append_drop k l]
 rw[List.map_append,List.sum_append]
 exact Nat.le_add_right _ _
def bud (left:Int)(t:Nat):Int:=if left<t then -1 else left-t
theorem bud_no {left:Int}{t:Nat}(h:left<t):bud left t=-1:=by simp[bud,h]
theorem bud_yes {left:Int}{t:Nat}(h:(t:Int)≤left):bud left t=left-t:=by unfold bud;rw[if_neg (by omega)]
def tVal (n:ValD):Nat:=n.str.size
def tVals (l:List ValD):Nat:=l.length+sumAll tVal l
def tNam (n:NamD):Nat:=n.name.size
def tNams (l:List NamD):Nat:=l.length+sumAll tNam l
def tProto (p:ProtoD):Nat:=p.name.size+p.ups.length+tVals p.consts+p.ins.length+tNams p.named
def tProtos (l:List ProtoD):Nat:=l.length+sumAll tProto l
theorem ret_int {k:IntKind}{a b:Int}(h:a=b):Ending.returned (.int k a)=.returned (.int k b):=by rw[h]
theorem szUpS_any (a:Option Addr)(n c:Nat)(left:Int)(w:World)(hn:n≤9223372036854775807)(hl:0≤left)(hl2:left≤1048576) :
  Calls Tryz.prog 56 #[.slice a n c,.int .i64 left] w fun e w'=>e=.returned (.int .i64 (bud left n))∧w'=w:=by
 by_cases h:left<n
 ·go_enter Tryz.func56,Tryz.ntmps56
  go_wp2
  go_ret
  exact⟨ret_int (bud_no h).symm,rfl⟩
 ·go_enter Tryz.func56,Tryz.ntmps56
  go_wp2
  go_ret
  exact⟨ret_int (bud_yes (by omega)).symm,rfl⟩
theorem szInsS_any (a:Option Addr)(n c:Nat)(left:Int)(w:World)(hn:n≤9223372036854775807)(hl:0≤left)(hl2:left≤1048576) :
  Calls Tryz.prog 58 #[.slice a n c,.int .i64 left] w fun e w'=>e=.returned (.int .i64 (bud left n))∧w'=w:=by
 by_cases h:left<n
 ·go_enter Tryz.func58,Tryz.ntmps58
  go_wp2
  go_ret
  exact⟨ret_int (bud_no h).symm,rfl⟩
 ·go_enter Tryz.func58,Tryz.ntmps58
  go_wp2
  go_ret
  exact⟨ret_int (bud_yes (by omega)).symm,rfl⟩
theorem szValue_any (kind num:Int)(flt:Nat)(s:ByteArray)(ref:Int)(left:Int)(w:World)(hs:s.size≤9223372036854775807)(hl:0≤left)(hl2:left≤1048576) :
  Calls Tryz.prog 95 #[.agg #[.int .i64 kind,.int .i64 num,.float .f64 flt,.string s,.int .i64 ref],.int .i64 left] w fun e w'=>e=.returned (.int .i64 (bud left s.size))∧Below w.heap.size w w':=by
 by_cases q1:left<s.size
 ·go_enter Tryz.func95,Tryz.ntmps95
  go_wp2_with fail
  go_ret
  exact⟨ret_int (bud_no (by omega)).symm,(Below.refl _ _).alloc (Nat.le_refl _) _⟩
 ·go_enter Tryz.func95,Tryz.ntmps95
  go_wp2_with fail
  go_ret
  exact⟨ret_int (by rw[bud_yes (by omega)]),(Below.refl _ _).alloc (Nat.le_refl _) _⟩
theorem szValueS_any (a:Option Addr)(l:List ValD)(c:Nat)(S:Nat→Prop)(left:Int)(w:World)(hs:ValsAt w S a l)(hB:∀ b,S b→b<w.heap.size)(hl:0≤left)(hl2:left≤1048576) :
  Calls Tryz.prog 57 #[.slice a l.length c,.int .i64 left] w fun e w'=>e=.returned (.int .i64 (bud left (tVals l)))∧Below w.heap.size w w':=by
 have hn:=hs.1
 by_cases h:left<l.length
 ·go_enter Tryz.func57,Tryz.ntmps57
  go_wp2_with fail
  go_ret
  exact⟨ret_int (bud_no (by unfold tVals;omega)).symm,Below.refl _ _⟩
 ·have hle:(l.length:Int)≤left:=by omega
  clear h
  go_enter Tryz.func57,Tryz.ntmps57
  go_wp2_with fail
  go_loopw [1,5] (fun t i wr=>∃(k:Nat) (x:Int),k≤l.length∧i=.int .i64 k∧t=.int .i64 x∧0≤x∧x≤1048576∧Hid (x=left-l.length-sumTo tVal l k)∧Below w.heap.size w wr) (fun _ i _=>l.length-(intOf i).toNat)
  case atStart=>exact⟨0,_,Nat.zero_le _,rfl,rfl,by omega,by omega,show _=_ by rw[sumTo_zero];omega,Below.refl _ _⟩
  case round=>
   obtain⟨k,x,hk,rfl,rfl,hx,hx2,hxe,hbw⟩:=hrel
   by_cases hlt:k<l.length
   ·obtain⟨b,off,rfl,hb,hcc⟩:=(hs.keep hbw hB).2 (by omega)
    have N:=hcc k hlt
    have HS:Hid (sumTo tVal l (k+1)=sumTo tVal l k+tVal (l[k]?.getD ValD.z)∧sumTo tVal l (k+1)≤sumAll tVal l):=⟨sumTo_succ tVal l k ValD.z hlt,sumTo_le tVal l (k+1)⟩
    clear hcc
    generalize l[k]?.getD ValD.z=nd at *
    have c0:=N.kind;have c1:=N.num;have c2:=N.flt;have c3:=N.str;have c4:=N.ref
    by_cases hq:x<tVal nd
    ·have B1:Hid (bud x nd.str.size=-1):=bud_no (by unfold tVal at hq;omega)
     go_wp2_with fail
     refine(szValue_any _ _ _ _ _ _ _ N.strs (by omega) (by omega)).mono ?_
     rintro e w' ⟨rfl,hb'⟩
     rw[B1.out]
     go_wp2_with fail
     go_ret
     have h1:=HS.out;have h2:=hxe.out
     exact⟨ret_int (bud_no (by unfold tVals;omega)).symm,hbw.trans (hb'.mono hbw.size)⟩
    ·have B1:Hid (bud x nd.str.size=x-tVal nd):=by show _=_;rw[bud_yes (by unfold tVal at hq;omega)];rfl
     generalize tVal nd=tn at *
     go_wp2_with fail
     refine(szValue_any _ _ _ _ _ _ _ N.strs (by omega) (by omega)).mono ?_
     rintro e w' ⟨rfl,hb'⟩
     rw[B1.out]
     go_wp2_with fail
     go_roundw
     case rel=>
      have h1:=HS.out;have h2:=hxe.out
      exact⟨k+1,x-tn,by omega,by go_num,by go_num,by omega,by omega,show _=_ by omega,hbw.trans (hb'.mono hbw.size)⟩
     case measure=>simp[intOf];omega
   ·have HK:Hid (k=l.length):=by show _=_;omega
    go_wp2_with fail
    go_ret
    have h1:=sumTo_len tVal l;have h2:=hxe.out;have h3:=HK.out
    rw[h3,h1]at h2
    exact⟨ret_int (by rw[bud_yes (by unfold tVals;omega)];unfold tVals;omega),hbw⟩
theorem szNamed_any (s:ByteArray)(reg fro til:Int)(left:Int)(w:World)(hs:s.size≤9223372036854775807)(hl:0≤left)(hl2:left≤1048576) :
  Calls Tryz.prog 96 #[.agg #[.string s,.int .i64 reg,.int .i64 fro,.int .i64 til],.int .i64 left] w fun e w'=>e=.returned (.int .i64 (bud left s.size))∧Below w.heap.size w w':=by
 by_cases q1:left<s.size
 ·go_enter Tryz.func96,Tryz.ntmps96
  go_wp2_with fail
  go_ret
  exact⟨ret_int (bud_no (by omega)).symm,(Below.refl _ _).alloc (Nat.le_refl _) _⟩
 ·go_enter Tryz.func96,Tryz.ntmps96
  go_wp2_with fail
  go_ret
  exact⟨ret_int (by rw[bud_yes (by omega)]),(Below.refl _ _).alloc (Nat.le_refl _) _⟩
theorem szNamedS_any (a:Option Addr)(l:List NamD)(c:Nat)(S:Nat→Prop)(left:Int)(w:World)(hs:NamsAt w S a l)(hB:∀ b,S b→b<w.heap.size)(hl:0≤left)(hl2:left≤1048576) :
  Calls Tryz.prog 59 #[.slice a l.length c,.int .i64 left] w fun e w'=>e=.returned (.int .i64 (bud left (tNams l)))∧Below w.heap.size w w':=by
 have hn:=hs.1
 by_cases h:left<l.length
 ·go_enter Tryz.func59,Tryz.ntmps59
  go_wp2_with fail
  go_ret
  exact⟨ret_int (bud_no (by unfold tNams;omega)).symm,Below.refl _ _⟩
 ·have hle:(l.length:Int)≤left:=by omega
  clear h
  go_enter Tryz.func59,Tryz.ntmps59
  go_wp2_with fail
  go_loopw [1,5] (fun t i wr=>∃(k:Nat) (x:Int),k≤l.length∧i=.int .i64 k∧t=.int .i64 x∧0≤x∧x≤1048576∧Hid (x=left-l.length-sumTo tNam l k)∧Below w.heap.size w wr) (fun _ i _=>l.length-(intOf i).toNat)
  case atStart=>exact⟨0,_,Nat.zero_le _,rfl,rfl,by omega,by omega,show _=_ by rw[sumTo_zero];omega,Below.refl _ _⟩
  case round=>
   obtain⟨k,x,hk,rfl,rfl,hx,hx2,hxe,hbw⟩:=hrel
   by_cases hlt:k<l.length
   ·obtain⟨b,off,rfl,hb,hcc⟩:=(hs.keep hbw hB).2 (by omega)
    have N:=hcc k hlt
    have HS:Hid (sumTo tNam l (k+1)=sumTo tNam l k+tNam (l[k]?.getD NamD.z)∧sumTo tNam l (k+1)≤sumAll tNam l):=⟨sumTo_succ tNam l k NamD.z hlt,sumTo_le tNam l (k+1)⟩
    clear hcc
    generalize l[k]?.getD NamD.z=nd at *
    have c0:=N.name;have c1:=N.reg;have c2:=N.fro;have c3:=N.til
    by_cases hq:x<tNam nd
    ·have B1:Hid (bud x nd.name.size=-1):=bud_no (by unfold tNam at hq;omega)
     go_wp2_with fail
     refine(szNamed_any _ _ _ _ _ _ N.names (by omega) (by omega)).mono ?_
     rintro e w' ⟨rfl,hb'⟩
     rw[B1.out]
     go_wp2_with fail
     go_ret
     have h1:=HS.out;have h2:=hxe.out
     exact⟨ret_int (bud_no (by unfold tNams;omega)).symm,hbw.trans (hb'.mono hbw.size)⟩
    ·have B1:Hid (bud x nd.name.size=x-tNam nd):=by show _=_;rw[bud_yes (by unfold tNam at hq;omega)];rfl
     generalize tNam nd=tn at *
     go_wp2_with fail
     refine(szNamed_any _ _ _ _ _ _ N.names (by omega) (by omega)).mono ?_
     rintro e w' ⟨rfl,hb'⟩
     rw[B1.out]
     go_wp2_with fail
     go_roundw
     case rel=>
      have h1:=HS.out;have h2:=hxe.out
      exact⟨k+1,x-tn,by omega,by go_num,by go_num,by omega,by omega,show _=_ by omega,hbw.trans (hb'.mono hbw.size)⟩
     case measure=>simp[intOf];omega
   ·have HK:Hid (k=l.length):=by show _=_;omega
    go_wp2_with fail
    go_ret
    have h1:=sumTo_len tNam l;have h2:=hxe.out;have h3:=HK.out
    rw[h3,h1]at h2
    exact⟨ret_int (by rw[bud_yes (by unfold tNams;omega)];unfold tNams;omega),hbw⟩
theorem szProto_any (nm:ByteArray)(ln pr:Int)(rs:Bool)(rg:Int)(us:List (Bool×Int))(cs:List ValD)(is:List InsD)(ns:List NamD)(a5 a6 a7 a8:Option Addr)(c5 c6 c7 c8:Nat)(S:Nat→Prop)(left:Int)(w:World)
  (hnm:nm.size≤9223372036854775807)(h5:UpsAt w S a5 us)(h6:ValsAt w S a6 cs)(h7:InssAt w S a7 is)(h8:NamsAt w S a8 ns)(hB:∀ b,S b→b<w.heap.size)(hl:0≤left)(hl2:left≤1048576) :
  Calls Tryz.prog 28 #[.agg #[.string nm,.int .i64 ln,.int .i64 pr,.bool rs,.int .i64 rg,.slice a5 us.length c5,.slice a6 cs.length c6,.slice a7 is.length c7,.slice a8 ns.length c8],.int .i64 left] w fun e w'=>
   e=.returned (.int .i64 (bud left (nm.size+us.length+tVals cs+is.length+tNams ns)))∧Below w.heap.size w w':=by
 have hbA:∀ o,Below w.heap.size w (w.alloc o):=fun o=>(Below.refl _ _).alloc (Nat.le_refl _) o
 have WS:∀ W:World,Below w.heap.size w W→∀ b,S b→b<W.heap.size:=fun W hW b h=>Nat.lt_of_lt_of_le (hB b h) hW.size
 have K6:Hid (∀ W,Below w.heap.size w W→ValsAt W S a6 cs):=fun W hW=>h6.keep hW hB
 have K8:Hid (∀ W,Below w.heap.size w W→NamsAt W S a8 ns):=fun W hW=>h8.keep hW hB
 have HA:=hide hbA
 have HWS:=hide WS
 have H5:=h5.1
 have H7:=h7.1
 clear h6 h8 hbA WS hB
 by_cases q0:left<nm.size
 ·go_enter Tryz.func28,Tryz.ntmps28
  go_wp2_with fail
  go_ret
  exact⟨ret_int (bud_no (by omega)).symm,unhide HA _⟩
 by_cases q1:left-nm.size<us.length
 ·have B1:Hid (bud (left-nm.size) (us.length)=-1):=bud_no q1
  go_enter Tryz.func28,Tryz.ntmps28
  go_wp2_with fail
  refine(szUpS_any _ _ _ _ _ H5 (by omega) (by omega)).mono ?_
  rintro e w' ⟨rfl,rfl⟩
  rw[B1.out]
  go_wp2_with fail
  go_ret
  exact⟨ret_int (bud_no (by omega)).symm,unhide HA _⟩
 have B1:Hid (bud (left-nm.size) (us.length)=left-nm.size-us.length):=bud_yes (by omega)
 by_cases q2:left-nm.size-us.length<tVals cs
 ·have B2:Hid (bud (left-nm.size-us.length) (tVals cs)=-1):=bud_no q2
  go_enter Tryz.func28,Tryz.ntmps28
  go_wp2_with fail
  refine(szUpS_any _ _ _ _ _ H5 (by omega) (by omega)).mono ?_
  rintro e w' ⟨rfl,rfl⟩
  rw[B1.out]
  go_wp2_with fail
  refine(szValueS_any _ _ _ S _ _ (unhide K6 _ (unhide HA _)) (unhide HWS _ (unhide HA _)) (by omega) (by omega)).mono ?_
  rintro e w1 ⟨rfl,hb1⟩
  obtain⟨hc1,hf1⟩:=bcell hb1
  have hsz1:w.heap.size+1≤w1.heap.size:=by have:=hb1.size;simpa using this
  have hz1:w.heap.size<w1.heap.size:=by omega
  have HB1:Hid (Below w.heap.size w w1):=(unhide HA _).trans (hb1.mono (by simp))
  clear hb1
  rw[B2.out]
  go_wp2_with fail
  go_ret
  exact⟨ret_int (bud_no (by omega)).symm,unhide HB1⟩
 have B2:Hid (bud (left-nm.size-us.length) (tVals cs)=left-nm.size-us.length-tVals cs):=bud_yes (by omega)
 by_cases q3:left-nm.size-us.length-tVals cs<is.length
 ·have B3:Hid (bud (left-nm.size-us.length-tVals cs) (is.length)=-1):=bud_no q3
  go_enter Tryz.func28,Tryz.ntmps28
  go_wp2_with fail
  refine(szUpS_any _ _ _ _ _ H5 (by omega) (by omega)).mono ?_
  rintro e w' ⟨rfl,rfl⟩
  rw[B1.out]
  go_wp2_with fail
  refine(szValueS_any _ _ _ S _ _ (unhide K6 _ (unhide HA _)) (unhide HWS _ (unhide HA _)) (by omega) (by omega)).mono ?_
  rintro e w1 ⟨rfl,hb1⟩
  obtain⟨hc1,hf1⟩:=bcell hb1
  have hsz1:w.heap.size+1≤w1.heap.size:=by have:=hb1.size;simpa using this
  have hz1:w.heap.size<w1.heap.size:=by omega
  have HB1:Hid (Below w.heap.size w w1):=(unhide HA _).trans (hb1.mono (by simp))
  clear hb1
  rw[B2.out]
  go_wp2_with fail
  refine(szInsS_any _ _ _ _ _ H7 (by omega) (by omega)).mono ?_
  rintro e w' ⟨rfl,rfl⟩
  rw[B3.out]
  go_wp2_with fail
  go_ret
  exact⟨ret_int (bud_no (by omega)).symm,unhide HB1⟩
 have B3:Hid (bud (left-nm.size-us.length-tVals cs) (is.length)=left-nm.size-us.length-tVals cs-is.length):=bud_yes (by omega)
 by_cases q4:left-nm.size-us.length-tVals cs-is.length<tNams ns
 ·have B4:Hid (bud (left-nm.size-us.length-tVals cs-is.length) (tNams ns)=-1):=bud_no q4
  go_enter Tryz.func28,Tryz.ntmps28
  go_wp2_with fail
  refine(szUpS_any _ _ _ _ _ H5 (by omega) (by omega)).mono ?_
  rintro e w' ⟨rfl,rfl⟩
  rw[B1.out]
  go_wp2_with fail
  refine(szValueS_any _ _ _ S _ _ (unhide K6 _ (unhide HA _)) (unhide HWS _ (unhide HA _)) (by omega) (by omega)).mono ?_
  rintro e w1 ⟨rfl,hb1⟩
  obtain⟨hc1,hf1⟩:=bcell hb1
  have hsz1:w.heap.size+1≤w1.heap.size:=by have:=hb1.size;simpa using this
  have hz1:w.heap.size<w1.heap.size:=by omega
  have HB1:Hid (Below w.heap.size w w1):=(unhide HA _).trans (hb1.mono (by simp))
  clear hb1
  rw[B2.out]
  go_wp2_with fail
  refine(szInsS_any _ _ _ _ _ H7 (by omega) (by omega)).mono ?_
  rintro e w' ⟨rfl,rfl⟩
  rw[B3.out]
  go_wp2_with fail
  refine(szNamedS_any _ _ _ S _ _ (unhide K8 _ (unhide HB1)) (unhide HWS _ (unhide HB1)) (by omega) (by omega)).mono ?_
  rintro e w2 ⟨rfl,hb2⟩
  have HB2:Hid (Below w.heap.size w w2):=(unhide HB1).trans (hb2.mono (unhide HB1).size)
  clear hb2
  rw[B4.out]
  go_wp2_with fail
  go_ret
  exact⟨ret_int (bud_no (by omega)).symm,unhide HB2⟩
 have B4:Hid (bud (left-nm.size-us.length-tVals cs-is.length) (tNams ns)=left-nm.size-us.length-tVals cs-is.length-tNams ns):=bud_yes (by omega)
 go_enter Tryz.func28,Tryz.ntmps28
 go_wp2_with fail
 refine(szUpS_any _ _ _ _ _ H5 (by omega) (by omega)).mono ?_
 rintro e w' ⟨rfl,rfl⟩
 rw[B1.out]
 go_wp2_with fail
 refine(szValueS_any _ _ _ S _ _ (unhide K6 _ (unhide HA _)) (unhide HWS _ (unhide HA _)) (by omega) (by omega)).mono ?_
 rintro e w1 ⟨rfl,hb1⟩
 obtain⟨hc1,hf1⟩:=bcell hb1
 have hsz1:w.heap.size+1≤w1.heap.size:=by have:=hb1.size;simpa using this
 have hz1:w.heap.size<w1.heap.size:=by omega
 have HB1:Hid (Below w.heap.size w w1):=(unhide HA _).trans (hb1.mono (by simp))
 clear hb1
 rw[B2.out]
 go_wp2_with fail
 refine(szInsS_any _ _ _ _ _ H7 (by omega) (by omega)).mono ?_
 rintro e w' ⟨rfl,rfl⟩
 rw[B3.out]
 go_wp2_with fail
 refine(szNamedS_any _ _ _ S _ _ (unhide K8 _ (unhide HB1)) (unhide HWS _ (unhide HB1)) (by omega) (by omega)).mono ?_
 rintro e w2 ⟨rfl,hb2⟩
 have HB2:Hid (Below w.heap.size w w2):=(unhide HB1).trans (hb2.mono (unhide HB1).size)
 clear hb2
 rw[B4.out]
 go_wp2_with fail
 go_ret
 exact⟨ret_int (by rw[bud_yes (by omega)];omega),unhide HB2⟩
end Go.Proofs.YthmjjhfjkgaocaaGreatDoor
