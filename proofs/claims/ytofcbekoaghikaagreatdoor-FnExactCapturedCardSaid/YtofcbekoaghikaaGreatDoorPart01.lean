import Derived.WalkKit
set_option linter.unusedSimpArgs false
set_option linter.unusedVariables false
namespace Go.Proofs.YtofcbekoaghikaaGreatDoor
open Go.RowKit
theorem hide {p:Prop}(h:p):Hid p:=h
theorem unhide {p:Prop}(h:Hid p):p:=h
theorem bcell {W w1:World}(hb:Below W.heap.size W w1):(∀ b o,b<W.heap.size->w1.cell? ⟨b,o,none⟩=W.cell? ⟨b,o,none⟩)/\(∀ b o,b<W.heap.size->w1.frozen? ⟨b,o,none⟩=W.frozen? ⟨b,o,none⟩):=
 ⟨fun b o h=>hb.cell (p:=⟨b,o,none⟩) h,fun b o h=>hb.frozen (p:=⟨b,o,none⟩) h⟩
structure NodeD where
 kind:Int
 line:Int
 op:Int
 num:Int
 flt:Nat
 str:ByteArray
 refs:List Int
 kids:List Int
structure FnD where
 name:ByteArray
 line:Int
 params:Int
 rest:Bool
 vars:List ByteArray
 ups:List (Bool×Int)
 nodes:List NodeD
def NodeD.z:NodeD:=⟨0,0,0,0,0,ByteArray.empty,[],[]⟩
def FnD.z:FnD:=⟨ByteArray.empty,0,0,false,[],[],[]⟩
def IntsAt (w:World)(S:Nat->Prop)(a:Option Addr)(l:List Int):Prop:=
 l.length<=9223372036854775807/\(0<l.length->∃ b off,a=some ⟨b,off,none⟩/\S b/\∀ j,j<l.length->w.cell? ⟨b,off+j,none⟩=some (.int .i64 (l[j]?.getD 0)))
def StrsAt (w:World)(S:Nat->Prop)(a:Option Addr)(l:List ByteArray):Prop:=
 l.length<=9223372036854775807/\(0<l.length->∃ b off,a=some ⟨b,off,none⟩/\S b/\∀ j,j<l.length->(l[j]?.getD ByteArray.empty).size<=9223372036854775807/\w.cell? ⟨b,off+j,none⟩=some (.string (l[j]?.getD ByteArray.empty)))
def UpsAt (w:World)(S:Nat->Prop)(a:Option Addr)(l:List (Bool×Int)):Prop:=
 l.length<=9223372036854775807/\(0<l.length->∃ b off,a=some ⟨b,off,none⟩/\S b/\∀ j,j<l.length ->
  w.cell? ⟨b,off+j * 2,none⟩=some (.bool (l[j]?.getD (false,0)).1)/\w.cell? ⟨b,off+j * 2+1,none⟩=some (.int .i64 (l[j]?.getD (false,0)).2))
structure NodeCells (w:World)(S:Nat->Prop)(b o:Nat)(n:NodeD):Prop where
 kind:w.cell? ⟨b,o,none⟩=some (.int .i64 n.kind)
 line:w.cell? ⟨b,o+1,none⟩=some (.int .i64 n.line)
 op:w.cell? ⟨b,o+2,none⟩=some (.int .i64 n.op)
 num:w.cell? ⟨b,o+3,none⟩=some (.int .i64 n.num)
 flt:w.cell? ⟨b,o+4,none⟩=some (.float .f64 n.flt)
 strs:n.str.size<=9223372036854775807
 str:w.cell? ⟨b,o+5,none⟩=some (.string n.str)
 refs:∃ a c,w.cell? ⟨b,o+6,none⟩=some (.slice a n.refs.length c)/\IntsAt w S a n.refs
 kids:∃ a c,w.cell? ⟨b,o+7,none⟩=some (.slice a n.kids.length c)/\IntsAt w S a n.kids
 kcap:∃ a c,w.cell? ⟨b,o+7,none⟩=some (.slice a n.kids.length c)/\n.kids.length<=c
def NodesAt (w:World)(S:Nat->Prop)(a:Option Addr)(l:List NodeD):Prop:=
 l.length<=9223372036854775807/\(0<l.length->∃ b off,a=some ⟨b,off,none⟩/\S b/\∀ j,j<l.length->NodeCells w S b (off+j * 8) (l[j]?.getD NodeD.z))
structure FnCells (w:World)(S:Nat->Prop)(b o:Nat)(n:FnD):Prop where
 names:n.name.size<=9223372036854775807
 name:w.cell? ⟨b,o,none⟩=some (.string n.name)
 line:w.cell? ⟨b,o+1,none⟩=some (.int .i64 n.line)
 params:w.cell? ⟨b,o+2,none⟩=some (.int .i64 n.params)
 rest:w.cell? ⟨b,o+3,none⟩=some (.bool n.rest)
 vars:∃ a c,w.cell? ⟨b,o+4,none⟩=some (.slice a n.vars.length c)/\StrsAt w S a n.vars
 ups:∃ a c,w.cell? ⟨b,o+5,none⟩=some (.slice a n.ups.length c)/\UpsAt w S a n.ups
 nodes:∃ a c,w.cell? ⟨b,o+6,none⟩=some (.slice a n.nodes.length c)/\NodesAt w S a n.nodes
def FnsAt (w:World)(S:Nat->Prop)(a:Option Addr)(l:List FnD):Prop:=
 l.length<=9223372036854775807/\(0<l.length->∃ b off,a=some ⟨b,off,none⟩/\S b/\∀ j,j<l.length->FnCells w S b (off+j * 7) (l[j]?.getD FnD.z))
def New (G:Nat)(w:World)(b:Nat):Prop:=G<=b/\b<w.heap.size
def Same (S:Nat->Prop)(w w':World):Prop:=∀ b,S b->w'.heap[b]? = w.heap[b]?
section
variable {w w':World} {S S':Nat->Prop}
theorem Same.cell (h:Same S w w'){b:Nat}(hb:S b)(o:Nat):w'.cell? ⟨b,o,none⟩=w.cell? ⟨b,o,none⟩:=World.cell?_of_block (a:=⟨b,o,none⟩) (h b hb)
theorem Same.of_below {B:Nat}(h:Below B w w')(hS:∀ b,S b->b<B):Same S w w':=fun b hb=>h.block b (hS b hb)
theorem Same.trans {w2:World}(h:Same S w w')(k:Same S w' w2):Same S w w2:=fun b hb=>(k b hb).trans (h b hb)
theorem Same.mono (h:Same S' w w')(hS:∀ b,S b->S' b):Same S w w':=fun b hb=>h b (hS b hb)
theorem Same.refl:Same S w w:=fun _ _=>rfl
theorem Same.setCell (h:Same S w w'){a:Addr}(ha:¬S a.block)(v:Value):Same S w (w'.setCell a v):=fun b hb=>(Below.heap_setCell w' a v b (fun e=>ha (e ▸ hb))).trans (h b hb)
theorem Same.alloc (h:Same S w w')(hS:∀ b,S b->b<w'.heap.size)(o:Obj):Same S w (w'.alloc o):=fun b hb=>(Below.heap_alloc w' o b (hS b hb)).trans (h b hb)
theorem Same.below {w2:World}{B:Nat}(h:Same S w w')(hb:Below B w' w2)(hS:∀ b,S b->b<B):Same S w w2:=h.trans (.of_below hb hS)
theorem IntsAt.same {a:Option Addr}{l:List Int}(h:IntsAt w S a l)(hb:Same S w w'):IntsAt w' S a l:=
 ⟨h.1,fun hl=>by
  obtain⟨b,off,e,hs,hc⟩:=h.2 hl;exact⟨b,off,e,hs,fun j hj=>(hb.cell hs _).trans (hc j hj)⟩⟩
theorem StrsAt.same {a:Option Addr}{l:List ByteArray}(h:StrsAt w S a l)(hb:Same S w w'):StrsAt w' S a l:=
 ⟨h.1,fun hl=>by
  obtain⟨b,off,e,hs,hc⟩:=h.2 hl;exact⟨b,off,e,hs,fun j hj=>⟨(hc j hj).1,(hb.cell hs _).trans (hc j hj).2⟩⟩⟩
theorem UpsAt.same {a:Option Addr}{l:List (Bool×Int)}(h:UpsAt w S a l)(hb:Same S w w'):UpsAt w' S a l:=
 ⟨h.1,fun hl=>by
  obtain⟨b,off,e,hs,hc⟩:=h.2 hl;exact⟨b,off,e,hs,fun j hj=>⟨(hb.cell hs _).trans (hc j hj).1,(hb.cell hs _).trans (hc j hj).2⟩⟩⟩
theorem NodeCells.same {b o:Nat}{n:NodeD}(h:NodeCells w S b o n)(hb:Same S w w')(hs:S b):NodeCells w' S b o n where
 kind:=(hb.cell hs _).trans h.kind
 line:=(hb.cell hs _).trans h.line
 op:=(hb.cell hs _).trans h.op
 num:=(hb.cell hs _).trans h.num
 flt:=(hb.cell hs _).trans h.flt
 strs:=h.strs
 str:=(hb.cell hs _).trans h.str
 refs:=by obtain⟨a,c,e,k⟩:=h.refs;exact⟨a,c,(hb.cell hs _).trans e,k.same hb⟩
 kids:=by obtain⟨a,c,e,k⟩:=h.kids;exact⟨a,c,(hb.cell hs _).trans e,k.same hb⟩
 kcap:=by obtain⟨a,c,e,k⟩:=h.kcap;exact⟨a,c,(hb.cell hs _).trans e,k⟩
theorem NodesAt.same {a:Option Addr}{l:List NodeD}(h:NodesAt w S a l)(hb:Same S w w'):NodesAt w' S a l:=
 ⟨h.1,fun hl=>by
  obtain⟨b,off,e,hs,hc⟩:=h.2 hl;exact⟨b,off,e,hs,fun j hj=>(hc j hj).same hb hs⟩⟩
theorem FnCells.same {b o:Nat}{n:FnD}(h:FnCells w S b o n)(hb:Same S w w')(hs:S b):FnCells w' S b o n where
 names:=h.names
 name:=(hb.cell hs _).trans h.name
 line:=(hb.cell hs _).trans h.line
 params:=(hb.cell hs _).trans h.params
 rest:=(hb.cell hs _).trans h.rest
 vars:=by obtain⟨a,c,e,k⟩:=h.vars;exact⟨a,c,(hb.cell hs _).trans e,k.same hb⟩
 ups:=by obtain⟨a,c,e,k⟩:=h.ups;exact⟨a,c,(hb.cell hs _).trans e,k.same hb⟩
 nodes:=by obtain⟨a,c,e,k⟩:=h.nodes;exact⟨a,c,(hb.cell hs _).trans e,k.same hb⟩
theorem FnsAt.same {a:Option Addr}{l:List FnD}(h:FnsAt w S a l)(hb:Same S w w'):FnsAt w' S a l:=
 ⟨h.1,fun hl=>by
  obtain⟨b,off,e,hs,hc⟩:=h.2 hl;exact⟨b,off,e,hs,fun j hj=>(hc j hj).same hb hs⟩⟩
theorem IntsAt.keep {a:Option Addr}{l:List Int}{B:Nat}(h:IntsAt w S a l)(hb:Below B w w')(hS:∀ b,S b->b<B):IntsAt w' S a l:=h.same (.of_below hb hS)
theorem StrsAt.keep {a:Option Addr}{l:List ByteArray}{B:Nat}(h:StrsAt w S a l)(hb:Below B w w')(hS:∀ b,S b->b<B):StrsAt w' S a l:=h.same (.of_below hb hS)
theorem UpsAt.keep {a:Option Addr}{l:List (Bool×Int)}{B:Nat}(h:UpsAt w S a l)(hb:Below B w w')(hS:∀ b,S b->b<B):UpsAt w' S a l:=h.same (.of_below hb hS)
theorem NodesAt.keep {a:Option Addr}{l:List NodeD}{B:Nat}(h:NodesAt w S a l)(hb:Below B w w')(hS:∀ b,S b->b<B):NodesAt w' S a l:=h.same (.of_below hb hS)
theorem FnsAt.keep {a:Option Addr}{l:List FnD}{B:Nat}(h:FnsAt w S a l)(hb:Below B w w')(hS:∀ b,S b->b<B):FnsAt w' S a l:=h.same (.of_below hb hS)
theorem IntsAt.mono {a:Option Addr}{l:List Int}(h:IntsAt w S a l)(hS:∀ b,S b->S' b):IntsAt w S' a l:=
 ⟨h.1,fun hl=>by obtain⟨b,off,e,hs,hc⟩:=h.2 hl;exact⟨b,off,e,hS b hs,hc⟩⟩
theorem StrsAt.mono {a:Option Addr}{l:List ByteArray}(h:StrsAt w S a l)(hS:∀ b,S b->S' b):StrsAt w S' a l:=
 ⟨h.1,fun hl=>by obtain⟨b,off,e,hs,hc⟩:=h.2 hl;exact⟨b,off,e,hS b hs,hc⟩⟩
theorem UpsAt.mono {a:Option Addr}{l:List (Bool×Int)}(h:UpsAt w S a l)(hS:∀ b,S b->S' b):UpsAt w S' a l:=
 ⟨h.1,fun hl=>by obtain⟨b,off,e,hs,hc⟩:=h.2 hl;exact⟨b,off,e,hS b hs,hc⟩⟩
theorem NodeCells.mono {b o:Nat}{n:NodeD}(h:NodeCells w S b o n)(hS:∀ b,S b->S' b):NodeCells w S' b o n:=
 {kind:=h.kind,line:=h.line,op:=h.op,num:=h.num,flt:=h.flt,strs:=h.strs,str:=h.str,refs:=by obtain⟨a,c,e,k⟩:=h.refs;exact⟨a,c,e,k.mono hS⟩
  kids:=by obtain⟨a,c,e,k⟩:=h.kids;exact⟨a,c,e,k.mono hS⟩
  kcap:=h.kcap }
theorem NodesAt.mono {a:Option Addr}{l:List NodeD}(h:NodesAt w S a l)(hS:∀ b,S b->S' b):NodesAt w S' a l:=
 ⟨h.1,fun hl=>by obtain⟨b,off,e,hs,hc⟩:=h.2 hl;exact⟨b,off,e,hS b hs,fun j hj=>(hc j hj).mono hS⟩⟩
theorem FnCells.mono {b o:Nat}{n:FnD}(h:FnCells w S b o n)(hS:∀ b,S b->S' b):FnCells w S' b o n:=
 {names:=h.names,name:=h.name,line:=h.line,params:=h.params,rest:=h.rest,vars:=by obtain⟨a,c,e,k⟩:=h.vars;exact⟨a,c,e,k.mono hS⟩
  ups:=by obtain⟨a,c,e,k⟩:=h.ups;exact⟨a,c,e,k.mono hS⟩
  nodes:=by obtain⟨a,c,e,k⟩:=h.nodes;exact⟨a,c,e,k.mono hS⟩ }
theorem FnsAt.mono {a:Option Addr}{l:List FnD}(h:FnsAt w S a l)(hS:∀ b,S b->S' b):FnsAt w S' a l:=
 ⟨h.1,fun hl=>by obtain⟨b,off,e,hs,hc⟩:=h.2 hl;exact⟨b,off,e,hS b hs,fun j hj=>(hc j hj).mono hS⟩⟩
end
end Go.Proofs.YtofcbekoaghikaaGreatDoor
