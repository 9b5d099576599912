import Derived.Test.YtcjfjflljdojlaaGreatDoorProg
import Derived.WalkKit
import Derived.Test.YtcjfjflljdojlaaGreatDoorChecked
import Derived.WalkSpells
import Derived.WalkLawsBesides
set_option linter.unusedSimpArgs false
set_option linter.unusedVariables false
set_option maxHeartbeats 1000000
namespace Go.Proofs.YtcjfjflljdojlaaGreatDoor
open Go.RowKit
abbrev i_(x:Int):Value:=Value.int IntKind.i64 x
abbrev a_(b o:Nat):Addr:=Addr.mk b o none
abbrev b_(w W:World):Prop:=Below w.heap.size w W
theorem r_{B:Nat}{w:World}:Below B w w:=Below.refl _ _
theorem n_{n:Nat}:n<=n:=Nat.le_refl _
abbrev c_:=Calls Tryz.prog
abbrev o_:=Option Addr
theorem l_{a b c:Nat}(h:a<b)(k:b<=c):a<c:=Nat.lt_of_lt_of_le h k
theorem g_{α:Type}{l:List α}{i:Nat}(h:i<l.length):l[i]?=some l[i]:=List.getElem?_eq_getElem h
theorem af {p:Prop}(h:p):Hid p:=h
theorem aa {p:Prop}(h:Hid p):p:=h
theorem cz {W w1:World}(hb:Below W.heap.size W w1):(∀ b o,b<W.heap.size->w1.cell? ⟨b,o,none⟩=W.cell? ⟨b,o,none⟩)/\(∀ b o,b<W.heap.size->w1.frozen? ⟨b,o,none⟩=W.frozen? ⟨b,o,none⟩):=
 ⟨fun b o h=>hb.cell (p:=⟨b,o,none⟩) h,fun b o h=>hb.frozen (p:=⟨b,o,none⟩) h⟩
structure mW where
 kind:Int
 line:Int
 op:Int
 num:Int
 flt:Nat
 str:ByteArray
 refs:List Int
 kids:List Int
structure LL where
 name:ByteArray
 line:Int
 params:Int
 rest:Bool
 vars:List ByteArray
 ups:List (Bool×Int)
 nodes:List mW
def mW.z:mW:=⟨0,0,0,0,0,ByteArray.empty,[],[]⟩
def LL.z:LL:=⟨ByteArray.empty,0,0,false,[],[],[]⟩
def aR (w:World)(S:Nat->Prop)(a:Option Addr)(l:List Int):Prop:=
 l.length<=9223372036854775807/\(0<l.length->∃ b off,a=some ⟨b,off,none⟩/\S b/\∀ j,j<l.length->w.cell? ⟨b,off+j,none⟩=some (.int .i64 (l[j]?.getD 0)))
def kM (w:World)(S:Nat->Prop)(a:Option Addr)(l:List ByteArray):Prop:=
 l.length<=9223372036854775807/\(0<l.length->∃ b off,a=some ⟨b,off,none⟩/\S b/\∀ j,j<l.length->(l[j]?.getD ByteArray.empty).size<=9223372036854775807/\w.cell? ⟨b,off+j,none⟩=some (.string (l[j]?.getD ByteArray.empty)))
def dH (w:World)(S:Nat->Prop)(a:Option Addr)(l:List (Bool×Int)):Prop:=
 l.length<=9223372036854775807/\(0<l.length->∃ b off,a=some ⟨b,off,none⟩/\S b/\∀ j,j<l.length ->
  w.cell? ⟨b,off+j * 2,none⟩=some (.bool (l[j]?.getD (false,0)).1)/\w.cell? ⟨b,off+j * 2+1,none⟩=some (.int .i64 (l[j]?.getD (false,0)).2))
structure iZ (w:World)(S:Nat->Prop)(b o:Nat)(n:mW):Prop where
 kind:w.cell? ⟨b,o,none⟩=some (.int .i64 n.kind)
 line:w.cell? ⟨b,o+1,none⟩=some (.int .i64 n.line)
 op:w.cell? ⟨b,o+2,none⟩=some (.int .i64 n.op)
 num:w.cell? ⟨b,o+3,none⟩=some (.int .i64 n.num)
 flt:w.cell? ⟨b,o+4,none⟩=some (.float .f64 n.flt)
 strs:n.str.size<=9223372036854775807
 str:w.cell? ⟨b,o+5,none⟩=some (.string n.str)
 refs:∃ a c,w.cell? ⟨b,o+6,none⟩=some (.slice a n.refs.length c)/\aR w S a n.refs
 kids:∃ a c,w.cell? ⟨b,o+7,none⟩=some (.slice a n.kids.length c)/\aR w S a n.kids
 kcap:∃ a c,w.cell? ⟨b,o+7,none⟩=some (.slice a n.kids.length c)/\n.kids.length<=c
def jj (w:World)(S:Nat->Prop)(a:Option Addr)(l:List mW):Prop:=
 l.length<=9223372036854775807/\(0<l.length->∃ b off,a=some ⟨b,off,none⟩/\S b/\∀ j,j<l.length->iZ w S b (off+j * 8) (l[j]?.getD mW.z))
structure lJ (w:World)(S:Nat->Prop)(b o:Nat)(n:LL):Prop where
 names:n.name.size<=9223372036854775807
 name:w.cell? ⟨b,o,none⟩=some (.string n.name)
 line:w.cell? ⟨b,o+1,none⟩=some (.int .i64 n.line)
 params:w.cell? ⟨b,o+2,none⟩=some (.int .i64 n.params)
 rest:w.cell? ⟨b,o+3,none⟩=some (.bool n.rest)
 vars:∃ a c,w.cell? ⟨b,o+4,none⟩=some (.slice a n.vars.length c)/\kM w S a n.vars
 ups:∃ a c,w.cell? ⟨b,o+5,none⟩=some (.slice a n.ups.length c)/\dH w S a n.ups
 nodes:∃ a c,w.cell? ⟨b,o+6,none⟩=some (.slice a n.nodes.length c)/\jj w S a n.nodes
def pG (w:World)(S:Nat->Prop)(a:Option Addr)(l:List LL):Prop:=
 l.length<=9223372036854775807/\(0<l.length->∃ b off,a=some ⟨b,off,none⟩/\S b/\∀ j,j<l.length->lJ w S b (off+j * 7) (l[j]?.getD LL.z))
def jk (G:Nat)(w:World)(b:Nat):Prop:=G<=b/\b<w.heap.size
def cI (S:Nat->Prop)(w w':World):Prop:=∀ b,S b->w'.heap[b]? = w.heap[b]?
section
variable {w w':World} {S S':Nat->Prop}
theorem cI.cell (h:cI S w w'){b:Nat}(hb:S b)(o:Nat):w'.cell? ⟨b,o,none⟩=w.cell? ⟨b,o,none⟩:=World.cell?_of_block (a:=⟨b,o,none⟩) (h b hb)
theorem cI.of_below {B:Nat}(h:Below B w w')(hS:∀ b,S b->b<B):cI S w w':=fun b hb=>h.block b (hS b hb)
theorem cI.trans {w2:World}(h:cI S w w')(k:cI S w' w2):cI S w w2:=fun b hb=>(k b hb).trans (h b hb)
theorem cI.mono (h:cI S' w w')(hS:∀ b,S b->S' b):cI S w w':=fun b hb=>h b (hS b hb)
theorem cI.refl:cI S w w:=fun _ _=>rfl
theorem cI.setCell (h:cI S w w'){a:Addr}(ha:¬S a.block)(v:Value):cI S w (w'.setCell a v):=fun b hb=>(Below.heap_setCell w' a v b (fun e=>ha (e ▸ hb))).trans (h b hb)
theorem cI.alloc (h:cI S w w')(hS:∀ b,S b->b<w'.heap.size)(o:Obj):cI S w (w'.alloc o):=fun b hb=>(Below.heap_alloc w' o b (hS b hb)).trans (h b hb)
theorem cI.below {w2:World}{B:Nat}(h:cI S w w')(hb:Below B w' w2)(hS:∀ b,S b->b<B):cI S w w2:=h.trans (.of_below hb hS)
theorem aR.same {a:Option Addr}{l:List Int}(h:aR w S a l)(hb:cI S w w'):aR w' S a l:=
 ⟨h.1,fun hl=>by
  obtain⟨b,off,e,hs,hc⟩:=h.2 hl;exact⟨b,off,e,hs,fun j hj=>(hb.cell hs _).trans (hc j hj)⟩⟩
theorem kM.same {a:Option Addr}{l:List ByteArray}(h:kM w S a l)(hb:cI S w w'):kM w' S a l:=
 ⟨h.1,fun hl=>by
  obtain⟨b,off,e,hs,hc⟩:=h.2 hl;exact⟨b,off,e,hs,fun j hj=>⟨(hc j hj).1,(hb.cell hs _).trans (hc j hj).2⟩⟩⟩
theorem dH.same {a:Option Addr}{l:List (Bool×Int)}(h:dH w S a l)(hb:cI S w w'):dH w' S a l:=
 ⟨h.1,fun hl=>by
  obtain⟨b,off,e,hs,hc⟩:=h.2 hl;exact⟨b,off,e,hs,fun j hj=>⟨(hb.cell hs _).trans (hc j hj).1,(hb.cell hs _).trans (hc j hj).2⟩⟩⟩
theorem iZ.same {b o:Nat}{n:mW}(h:iZ w S b o n)(hb:cI S w w')(hs:S b):iZ w' S b o n where
 kind:=(hb.cell hs _).trans h.kind
 line:=(hb.cell hs _).trans h.line
 op:=(hb.cell hs _).trans h.op
 num:=(hb.cell hs _).trans h.num
 flt:=(hb.cell hs _).trans h.flt
 strs:=h.strs
 str:=(hb.cell hs _).trans h.str
 refs:=by obtain⟨a,c,e,k⟩:=h.refs;exact⟨a,c,(hb.cell hs _).trans e,k.same hb⟩
 kids:=by obtain⟨a,c,e,k⟩:=h.kids;exact⟨a,c,(hb.cell hs _).trans e,k.same hb⟩
 kcap:=by obtain⟨a,c,e,k⟩:=h.kcap;exact⟨a,c,(hb.cell hs _).trans e,k⟩
theorem jj.same {a:Option Addr}{l:List mW}(h:jj w S a l)(hb:cI S w w'):jj w' S a l:=
 ⟨h.1,fun hl=>by
  obtain⟨b,off,e,hs,hc⟩:=h.2 hl;exact⟨b,off,e,hs,fun j hj=>(hc j hj).same hb hs⟩⟩
theorem lJ.same {b o:Nat}{n:LL}(h:lJ w S b o n)(hb:cI S w w')(hs:S b):lJ w' S b o n where
 names:=h.names
 name:=(hb.cell hs _).trans h.name
 line:=(hb.cell hs _).trans h.line
 params:=(hb.cell hs _).trans h.params
 rest:=(hb.cell hs _).trans h.rest
 vars:=by obtain⟨a,c,e,k⟩:=h.vars;exact⟨a,c,(hb.cell hs _).trans e,k.same hb⟩
 ups:=by obtain⟨a,c,e,k⟩:=h.ups;exact⟨a,c,(hb.cell hs _).trans e,k.same hb⟩
 nodes:=by obtain⟨a,c,e,k⟩:=h.nodes;exact⟨a,c,(hb.cell hs _).trans e,k.same hb⟩
theorem pG.same {a:Option Addr}{l:List LL}(h:pG w S a l)(hb:cI S w w'):pG w' S a l:=
 ⟨h.1,fun hl=>by
  obtain⟨b,off,e,hs,hc⟩:=h.2 hl;exact⟨b,off,e,hs,fun j hj=>(hc j hj).same hb hs⟩⟩
theorem aR.keep {a:Option Addr}{l:List Int}{B:Nat}(h:aR w S a l)(hb:Below B w w')(hS:∀ b,S b->b<B):aR w' S a l:=h.same (.of_below hb hS)
theorem kM.keep {a:Option Addr}{l:List ByteArray}{B:Nat}(h:kM w S a l)(hb:Below B w w')(hS:∀ b,S b->b<B):kM w' S a l:=h.same (.of_below hb hS)
theorem dH.keep {a:Option Addr}{l:List (Bool×Int)}{B:Nat}(h:dH w S a l)(hb:Below B w w')(hS:∀ b,S b->b<B):dH w' S a l:=h.same (.of_below hb hS)
theorem jj.keep {a:Option Addr}{l:List mW}{B:Nat}(h:jj w S a l)(hb:Below B w w')(hS:∀ b,S b->b<B):jj w' S a l:=h.same (.of_below hb hS)
theorem pG.keep {a:Option Addr}{l:List LL}{B:Nat}(h:pG w S a l)(hb:Below B w w')(hS:∀ b,S b->b<B):pG w' S a l:=h.same (.of_below hb hS)
theorem aR.mono {a:Option Addr}{l:List Int}(h:aR w S a l)(hS:∀ b,S b->S' b):aR w S' a l:=
 ⟨h.1,fun hl=>by obtain⟨b,off,e,hs,hc⟩:=h.2 hl;exact⟨b,off,e,hS b hs,hc⟩⟩
theorem kM.mono {a:Option Addr}{l:List ByteArray}(h:kM w S a l)(hS:∀ b,S b->S' b):kM w S' a l:=
 ⟨h.1,fun hl=>by obtain⟨b,off,e,hs,hc⟩:=h.2 hl;exact⟨b,off,e,hS b hs,hc⟩⟩
theorem dH.mono {a:Option Addr}{l:List (Bool×Int)}(h:dH w S a l)(hS:∀ b,S b->S' b):dH w S' a l:=
 ⟨h.1,fun hl=>by obtain⟨b,off,e,hs,hc⟩:=h.2 hl;exact⟨b,off,e,hS b hs,hc⟩⟩
theorem iZ.mono {b o:Nat}{n:mW}(h:iZ w S b o n)(hS:∀ b,S b->S' b):iZ w S' b o n:=
 {kind:=h.kind,line:=h.line,op:=h.op,num:=h.num,flt:=h.flt,strs:=h.strs,str:=h.str,refs:=by obtain⟨a,c,e,k⟩:=h.refs;exact⟨a,c,e,k.mono hS⟩
  kids:=by obtain⟨a,c,e,k⟩:=h.kids;exact⟨a,c,e,k.mono hS⟩
  kcap:=h.kcap }
theorem jj.mono {a:Option Addr}{l:List mW}(h:jj w S a l)(hS:∀ b,S b->S' b):jj w S' a l:=
 ⟨h.1,fun hl=>by obtain⟨b,off,e,hs,hc⟩:=h.2 hl;exact⟨b,off,e,hS b hs,fun j hj=>(hc j hj).mono hS⟩⟩
theorem lJ.mono {b o:Nat}{n:LL}(h:lJ w S b o n)(hS:∀ b,S b->S' b):lJ w S' b o n:=
 {names:=h.names,name:=h.name,line:=h.line,params:=h.params,rest:=h.rest,vars:=by obtain⟨a,c,e,k⟩:=h.vars;exact⟨a,c,e,k.mono hS⟩
  ups:=by obtain⟨a,c,e,k⟩:=h.ups;exact⟨a,c,e,k.mono hS⟩
  nodes:=by obtain⟨a,c,e,k⟩:=h.nodes;exact⟨a,c,e,k.mono hS⟩ }
theorem pG.mono {a:Option Addr}{l:List LL}(h:pG w S a l)(hS:∀ b,S b->S' b):pG w S' a l:=
 ⟨h.1,fun hl=>by obtain⟨b,off,e,hs,hc⟩:=h.2 hl;exact⟨b,off,e,hS b hs,fun j hj=>(hc j hj).mono hS⟩⟩
end
structure cS where
 kind:Int
 num:Int
 flt:Nat
 str:ByteArray
 ref:Int
def cS.z:cS:=⟨0,0,0,ByteArray.empty,0⟩
structure kU (w:World)(b o:Nat)(n:cS):Prop where
 kind:w.cell? (a_ b o)=some (i_ n.kind)
 num:w.cell? (a_ b (o+1))=some (i_ n.num)
 flt:w.cell? (a_ b (o+2))=some (.float .f64 n.flt)
 str:w.cell? (a_ b (o+3))=some (.string n.str)
 strs:n.str.size<=9223372036854775807
 ref:w.cell? (a_ b (o+4))=some (i_ n.ref)
def cQ (w:World)(S:Nat->Prop)(a:o_)(l:List cS):Prop:=
 l.length<=9223372036854775807/\(0<l.length->∃ b off,a=some (a_ b off)/\S b/\∀ j,j<l.length->kU w b (off+j * 5) (l[j]?.getD cS.z))
theorem kU.same {w w':World}{S:Nat->Prop}{b o:Nat}{n:cS}(h:kU w b o n)(hb:cI S w w')(hs:S b):kU w' b o n:=
 {kind:=(hb.cell hs _).trans h.kind,num:=(hb.cell hs _).trans h.num,flt:=(hb.cell hs _).trans h.flt,str:=(hb.cell hs _).trans h.str,strs:=h.strs,ref:=(hb.cell hs _).trans h.ref }
theorem cQ.same {w w':World}{S:Nat->Prop}{a:o_}{l:List cS}(h:cQ w S a l)(hb:cI S w w'):cQ w' S a l:=
 ⟨h.1,fun hl=>by
  obtain⟨b,off,e,hs,hc⟩:=h.2 hl;exact⟨b,off,e,hs,fun j hj=>(hc j hj).same hb hs⟩⟩
theorem cQ.keep {w w':World}{S:Nat->Prop}{a:o_}{l:List cS}{B:Nat}(h:cQ w S a l)(hb:Below B w w')(hS:∀ b,S b->b<B):cQ w' S a l:=h.same (.of_below hb hS)
theorem cQ.mono {w:World}{S S':Nat->Prop}{a:o_}{l:List cS}(h:cQ w S a l)(hS:∀ b,S b->S' b):cQ w S' a l:=
 ⟨h.1,fun hl=>by obtain⟨b,off,e,hs,hc⟩:=h.2 hl;exact⟨b,off,e,hS b hs,hc⟩⟩
structure aA where
 op:Int
 fa:Int
 fb:Int
 fc:Int
 fd:Int
def aA.z:aA:=⟨0,0,0,0,0⟩
structure aL (w:World)(b o:Nat)(n:aA):Prop where
 op:w.cell? (a_ b o)=some (i_ n.op)
 fa:w.cell? (a_ b (o+1))=some (i_ n.fa)
 fb:w.cell? (a_ b (o+2))=some (i_ n.fb)
 fc:w.cell? (a_ b (o+3))=some (i_ n.fc)
 fd:w.cell? (a_ b (o+4))=some (i_ n.fd)
def bQ (w:World)(S:Nat->Prop)(a:o_)(l:List aA):Prop:=
 l.length<=9223372036854775807/\(0<l.length->∃ b off,a=some (a_ b off)/\S b/\∀ j,j<l.length->aL w b (off+j * 5) (l[j]?.getD aA.z))
theorem aL.same {w w':World}{S:Nat->Prop}{b o:Nat}{n:aA}(h:aL w b o n)(hb:cI S w w')(hs:S b):aL w' b o n:=
 {op:=(hb.cell hs _).trans h.op,fa:=(hb.cell hs _).trans h.fa,fb:=(hb.cell hs _).trans h.fb,fc:=(hb.cell hs _).trans h.fc,fd:=(hb.cell hs _).trans h.fd }
theorem bQ.same {w w':World}{S:Nat->Prop}{a:o_}{l:List aA}(h:bQ w S a l)(hb:cI S w w'):bQ w' S a l:=
 ⟨h.1,fun hl=>by
  obtain⟨b,off,e,hs,hc⟩:=h.2 hl;exact⟨b,off,e,hs,fun j hj=>(hc j hj).same hb hs⟩⟩
theorem bQ.keep {w w':World}{S:Nat->Prop}{a:o_}{l:List aA}{B:Nat}(h:bQ w S a l)(hb:Below B w w')(hS:∀ b,S b->b<B):bQ w' S a l:=h.same (.of_below hb hS)
theorem bQ.mono {w:World}{S S':Nat->Prop}{a:o_}{l:List aA}(h:bQ w S a l)(hS:∀ b,S b->S' b):bQ w S' a l:=
 ⟨h.1,fun hl=>by obtain⟨b,off,e,hs,hc⟩:=h.2 hl;exact⟨b,off,e,hS b hs,hc⟩⟩
structure bE where
 name:ByteArray
 reg:Int
 fro:Int
 til:Int
def bE.z:bE:=⟨ByteArray.empty,0,0,0⟩
structure lj (w:World)(b o:Nat)(n:bE):Prop where
 name:w.cell? (a_ b o)=some (.string n.name)
 names:n.name.size<=9223372036854775807
 reg:w.cell? (a_ b (o+1))=some (i_ n.reg)
 fro:w.cell? (a_ b (o+2))=some (i_ n.fro)
 til:w.cell? (a_ b (o+3))=some (i_ n.til)
def dc (w:World)(S:Nat->Prop)(a:o_)(l:List bE):Prop:=
 l.length<=9223372036854775807/\(0<l.length->∃ b off,a=some (a_ b off)/\S b/\∀ j,j<l.length->lj w b (off+j * 4) (l[j]?.getD bE.z))
theorem lj.same {w w':World}{S:Nat->Prop}{b o:Nat}{n:bE}(h:lj w b o n)(hb:cI S w w')(hs:S b):lj w' b o n:=
 {name:=(hb.cell hs _).trans h.name,names:=h.names,reg:=(hb.cell hs _).trans h.reg,fro:=(hb.cell hs _).trans h.fro,til:=(hb.cell hs _).trans h.til }
theorem dc.same {w w':World}{S:Nat->Prop}{a:o_}{l:List bE}(h:dc w S a l)(hb:cI S w w'):dc w' S a l:=
 ⟨h.1,fun hl=>by
  obtain⟨b,off,e,hs,hc⟩:=h.2 hl;exact⟨b,off,e,hs,fun j hj=>(hc j hj).same hb hs⟩⟩
theorem dc.keep {w w':World}{S:Nat->Prop}{a:o_}{l:List bE}{B:Nat}(h:dc w S a l)(hb:Below B w w')(hS:∀ b,S b->b<B):dc w' S a l:=h.same (.of_below hb hS)
theorem dc.mono {w:World}{S S':Nat->Prop}{a:o_}{l:List bE}(h:dc w S a l)(hS:∀ b,S b->S' b):dc w S' a l:=
 ⟨h.1,fun hl=>by obtain⟨b,off,e,hs,hc⟩:=h.2 hl;exact⟨b,off,e,hS b hs,hc⟩⟩
structure ak where
 name:ByteArray
 line:Int
 params:Int
 rest:Bool
 regs:Int
 ups:List (Bool×Int)
 consts:List cS
 ins:List aA
 named:List bE
def ak.z:ak:=⟨ByteArray.empty,0,0,false,0,[],[],[],[]⟩
structure aU (w:World)(S:Nat->Prop)(b o:Nat)(n:ak):Prop where
 names:n.name.size<=9223372036854775807
 name:w.cell? (a_ b o)=some (.string n.name)
 line:w.cell? (a_ b (o+1))=some (i_ n.line)
 params:w.cell? (a_ b (o+2))=some (i_ n.params)
 rest:w.cell? (a_ b (o+3))=some (.bool n.rest)
 regs:w.cell? (a_ b (o+4))=some (i_ n.regs)
 ups:∃ a c,w.cell? (a_ b (o+5))=some (.slice a n.ups.length c)/\dH w S a n.ups
 consts:∃ a c,w.cell? (a_ b (o+6))=some (.slice a n.consts.length c)/\cQ w S a n.consts
 ins:∃ a c,w.cell? (a_ b (o+7))=some (.slice a n.ins.length c)/\bQ w S a n.ins
 named:∃ a c,w.cell? (a_ b (o+8))=some (.slice a n.named.length c)/\dc w S a n.named
def ao (w:World)(S:Nat->Prop)(a:o_)(l:List ak):Prop:=
 l.length<=9223372036854775807/\(0<l.length->∃ b off,a=some (a_ b off)/\S b/\∀ j,j<l.length->aU w S b (off+j * 9) (l[j]?.getD ak.z))
theorem aU.same {w w':World}{S:Nat->Prop}{b o:Nat}{n:ak}(h:aU w S b o n)(hb:cI S w w')(hs:S b):aU w' S b o n where
 names:=h.names
 name:=(hb.cell hs _).trans h.name
 line:=(hb.cell hs _).trans h.line
 params:=(hb.cell hs _).trans h.params
 rest:=(hb.cell hs _).trans h.rest
 regs:=(hb.cell hs _).trans h.regs
 ups:=by obtain⟨a,c,e,k⟩:=h.ups;exact⟨a,c,(hb.cell hs _).trans e,k.same hb⟩
 consts:=by obtain⟨a,c,e,k⟩:=h.consts;exact⟨a,c,(hb.cell hs _).trans e,k.same hb⟩
 ins:=by obtain⟨a,c,e,k⟩:=h.ins;exact⟨a,c,(hb.cell hs _).trans e,k.same hb⟩
 named:=by obtain⟨a,c,e,k⟩:=h.named;exact⟨a,c,(hb.cell hs _).trans e,k.same hb⟩
theorem ao.same {w w':World}{S:Nat->Prop}{a:o_}{l:List ak}(h:ao w S a l)(hb:cI S w w'):ao w' S a l:=
 ⟨h.1,fun hl=>by
  obtain⟨b,off,e,hs,hc⟩:=h.2 hl;exact⟨b,off,e,hs,fun j hj=>(hc j hj).same hb hs⟩⟩
theorem ao.keep {w w':World}{S:Nat->Prop}{a:o_}{l:List ak}{B:Nat}(h:ao w S a l)(hb:Below B w w')(hS:∀ b,S b->b<B):ao w' S a l:=h.same (.of_below hb hS)
theorem aU.mono {w:World}{S S':Nat->Prop}{b o:Nat}{n:ak}(h:aU w S b o n)(hS:∀ b,S b->S' b):aU w S' b o n:=
 {names:=h.names,name:=h.name,line:=h.line,params:=h.params,rest:=h.rest,regs:=h.regs,ups:=by obtain⟨a,c,e,k⟩:=h.ups;exact⟨a,c,e,k.mono hS⟩,consts:=by obtain⟨a,c,e,k⟩:=h.consts;exact⟨a,c,e,k.mono hS⟩,ins:=by obtain⟨a,c,e,k⟩:=h.ins;exact⟨a,c,e,k.mono hS⟩,named:=by obtain⟨a,c,e,k⟩:=h.named;exact⟨a,c,e,k.mono hS⟩ }
theorem ao.mono {w:World}{S S':Nat->Prop}{a:o_}{l:List ak}(h:ao w S a l)(hS:∀ b,S b->S' b):ao w S' a l:=
 ⟨h.1,fun hl=>by obtain⟨b,off,e,hs,hc⟩:=h.2 hl;exact⟨b,off,e,hS b hs,fun j hj=>(hc j hj).mono hS⟩⟩
def bw {α:Type}(f:α->Nat)(l:List α)(k:Nat):Nat:=((l.take k).map f).sum
def aS {α:Type}(f:α->Nat)(l:List α):Nat:=(l.map f).sum
theorem fi {α:Type}(f:α->Nat)(l:List α):bw f l 0=0:=by simp[bw]
theorem dJ {α:Type}(f:α->Nat)(l:List α)(k:Nat)(d:α)(h:k<l.length):bw f l (k+1)=bw f l k+f (l[k]?.getD d):=by
 unfold bw;rw[List.take_succ_eq_append_getElem h,List.map_append,List.sum_append,g_ h];simp only[List.map_cons,List.map_nil,List.sum_cons,List.sum_nil,Nat.add_zero,Option.getD_some]
theorem fI {α:Type}(f:α->Nat)(l:List α):bw f l l.length=aS f l:=by simp[bw,aS]
theorem gw {α:Type}(f:α->Nat)(l:List α)(k:Nat):bw f l k<=aS f l:=by
 unfold bw aS
 conv=>rhs;rw[<-List.take_append_drop k l]
 rw[List.map_append,List.sum_append];exact Nat.le_add_right _ _
def oM (bB:Int)(t:Nat):Int:=if bB<t then -1 else bB-t
theorem er {bB:Int}{t:Nat}(h:bB<t):oM bB t=-1:=by simp[oM,h]
theorem eV {bB:Int}{t:Nat}(h:(t:Int)<=bB):oM bB t=bB-t:=by unfold oM;rw[if_neg (by omega)]
def mE (n:cS):Nat:=n.str.size
def fq (l:List cS):Nat:=l.length+aS mE l
def mB (n:bE):Nat:=n.name.size
def iq (l:List bE):Nat:=l.length+aS mB l
def dx (p:ak):Nat:=p.name.size+p.ups.length+fq p.consts+p.ins.length+iq p.named
def aI (l:List ak):Nat:=l.length+aS dx l
theorem dG {k:IntKind}{a b:Int}(h:a=b):Ending.returned (.int k a)=.returned (.int k b):=by rw[h]
theorem kT (a:o_)(n c:Nat)(bB:Int)(w:World)(hn:n<=9223372036854775807)(hl:0<=bB)(wg:bB<=1048576) :
  c_ 49 #[.slice a n c,i_ bB] w fun e w'=>e=.returned (i_ (oM bB n))/\w'=w:=by
 by_cases h:bB<n
 ·go_enter Tryz.func49,Tryz.ntmps49
  go_wp2
  go_ret;exact⟨dG (er h).symm,rfl⟩
 ·go_enter Tryz.func49,Tryz.ntmps49
  go_wp2
  go_ret;exact⟨dG (eV (by omega)).symm,rfl⟩
theorem oN (a:o_)(n c:Nat)(bB:Int)(w:World)(hn:n<=9223372036854775807)(hl:0<=bB)(wg:bB<=1048576) :
  c_ 51 #[.slice a n c,i_ bB] w fun e w'=>e=.returned (i_ (oM bB n))/\w'=w:=by
 by_cases h:bB<n
 ·go_enter Tryz.func51,Tryz.ntmps51
  go_wp2
  go_ret;exact⟨dG (er h).symm,rfl⟩
 ·go_enter Tryz.func51,Tryz.ntmps51
  go_wp2
  go_ret;exact⟨dG (eV (by omega)).symm,rfl⟩
theorem sh (kind num:Int)(flt:Nat)(s:ByteArray)(ref:Int)(bB:Int)(w:World)(hs:s.size<=9223372036854775807)(hl:0<=bB)(wg:bB<=1048576) :
  c_ 95 #[.agg #[i_ kind,i_ num,.float .f64 flt,.string s,i_ ref],i_ bB] w fun e w'=>e=.returned (i_ (oM bB s.size))/\b_ w w':=by
 by_cases q1:bB<s.size
 ·go_enter Tryz.func95,Tryz.ntmps95;go_wp2_with fail
  go_ret;exact⟨dG (er (by omega)).symm,r_.alloc n_ _⟩
 ·go_enter Tryz.func95,Tryz.ntmps95;go_wp2_with fail
  go_ret;exact⟨dG (by rw[eV (by omega)]),r_.alloc n_ _⟩
theorem jJ (a:o_)(l:List cS)(c:Nat)(S:Nat->Prop)(bB:Int)(w:World)(hs:cQ w S a l)(hB:∀ b,S b->b<w.heap.size)(hl:0<=bB)(wg:bB<=1048576) :
  c_ 50 #[.slice a l.length c,i_ bB] w fun e w'=>e=.returned (i_ (oM bB (fq l)))/\b_ w w':=by
 have hn:=hs.1;by_cases h:bB<l.length
 ·go_enter Tryz.func50,Tryz.ntmps50;go_wp2_with fail
  go_ret;exact⟨dG (er (by unfold fq;omega)).symm,r_⟩
 ·have pw:(l.length:Int)<=bB:=by omega
  clear h;go_enter Tryz.func50,Tryz.ntmps50;go_wp2_with fail
  go_loopw [1,5] (fun t i wr=>∃(k:Nat) (x:Int),k<=l.length/\i=i_ k/\t=i_ x/\0<=x/\x<=1048576/\Hid (x=bB-l.length-bw mE l k)/\b_ w wr) (fun _ i _=>l.length-(intOf i).toNat)
  case atStart=>exact⟨0,_,Nat.zero_le _,rfl,rfl,by omega,by omega,show _=_ by rw[fi];omega,r_⟩
  case round=>
   obtain⟨k,x,hk,rfl,rfl,hx,aO,mi,eo⟩:=hrel;by_cases ax:k<l.length
   ·obtain⟨b,off,rfl,hb,aE⟩:=(hs.keep eo hB).2 (by omega);have N:=aE k ax;have HS:Hid (bw mE l (k+1)=bw mE l k+mE (l[k]?.getD cS.z)/\bw mE l (k+1)<=aS mE l):=⟨dJ mE l k cS.z ax,gw mE l (k+1)⟩;clear aE;generalize l[k]?.getD cS.z=nd at *;have c0:=N.kind;have c1:=N.num;have c2:=N.flt;have c3:=N.str;have c4:=N.ref;by_cases hq:x<mE nd
    ·have B1:Hid (oM x nd.str.size=-1):=er (by unfold mE at hq;omega);go_wp2_with fail
     refine(sh _ _ _ _ _ _ _ N.strs (by omega) (by omega)).mono ?_;rintro e w' ⟨rfl,dW⟩;rw[B1.out];go_wp2_with fail
     go_ret;have h1:=HS.out;have h2:=mi.out;exact⟨dG (er (by unfold fq;omega)).symm,eo.trans (dW.mono eo.size)⟩
    ·have B1:Hid (oM x nd.str.size=x-mE nd):=by show _=_;rw[eV (by unfold mE at hq;omega)];rfl
     generalize mE nd=tn at *;go_wp2_with fail
     refine(sh _ _ _ _ _ _ _ N.strs (by omega) (by omega)).mono ?_;rintro e w' ⟨rfl,dW⟩;rw[B1.out];go_wp2_with fail
     go_roundw
     case rel=>
      have h1:=HS.out;have h2:=mi.out;exact⟨k+1,x-tn,by omega,by go_num,by go_num,by omega,by omega,show _=_ by omega,eo.trans (dW.mono eo.size)⟩
     case measure=>simp[intOf];omega
   ·have HK:Hid (k=l.length):=by show _=_;omega
    go_wp2_with fail
    go_ret;have h1:=fI mE l;have h2:=mi.out;have h3:=HK.out;rw[h3,h1]at h2;exact⟨dG (by rw[eV (by unfold fq;omega)];unfold fq;omega),eo⟩
theorem rW (s:ByteArray)(reg fro til:Int)(bB:Int)(w:World)(hs:s.size<=9223372036854775807)(hl:0<=bB)(wg:bB<=1048576) :
  c_ 96 #[.agg #[.string s,i_ reg,i_ fro,i_ til],i_ bB] w fun e w'=>e=.returned (i_ (oM bB s.size))/\b_ w w':=by
 by_cases q1:bB<s.size
 ·go_enter Tryz.func96,Tryz.ntmps96;go_wp2_with fail
  go_ret;exact⟨dG (er (by omega)).symm,r_.alloc n_ _⟩
 ·go_enter Tryz.func96,Tryz.ntmps96;go_wp2_with fail
  go_ret;exact⟨dG (by rw[eV (by omega)]),r_.alloc n_ _⟩
theorem pJ (a:o_)(l:List bE)(c:Nat)(S:Nat->Prop)(bB:Int)(w:World)(hs:dc w S a l)(hB:∀ b,S b->b<w.heap.size)(hl:0<=bB)(wg:bB<=1048576) :
  c_ 52 #[.slice a l.length c,i_ bB] w fun e w'=>e=.returned (i_ (oM bB (iq l)))/\b_ w w':=by
 have hn:=hs.1;by_cases h:bB<l.length
 ·go_enter Tryz.func52,Tryz.ntmps52;go_wp2_with fail
  go_ret;exact⟨dG (er (by unfold iq;omega)).symm,r_⟩
 ·have pw:(l.length:Int)<=bB:=by omega
  clear h;go_enter Tryz.func52,Tryz.ntmps52;go_wp2_with fail
  go_loopw [1,5] (fun t i wr=>∃(k:Nat) (x:Int),k<=l.length/\i=i_ k/\t=i_ x/\0<=x/\x<=1048576/\Hid (x=bB-l.length-bw mB l k)/\b_ w wr) (fun _ i _=>l.length-(intOf i).toNat)
  case atStart=>exact⟨0,_,Nat.zero_le _,rfl,rfl,by omega,by omega,show _=_ by rw[fi];omega,r_⟩
  case round=>
   obtain⟨k,x,hk,rfl,rfl,hx,aO,mi,eo⟩:=hrel;by_cases ax:k<l.length
   ·obtain⟨b,off,rfl,hb,aE⟩:=(hs.keep eo hB).2 (by omega);have N:=aE k ax;have HS:Hid (bw mB l (k+1)=bw mB l k+mB (l[k]?.getD bE.z)/\bw mB l (k+1)<=aS mB l):=⟨dJ mB l k bE.z ax,gw mB l (k+1)⟩;clear aE;generalize l[k]?.getD bE.z=nd at *;have c0:=N.name;have c1:=N.reg;have c2:=N.fro;have c3:=N.til;by_cases hq:x<mB nd
    ·have B1:Hid (oM x nd.name.size=-1):=er (by unfold mB at hq;omega);go_wp2_with fail
     refine(rW _ _ _ _ _ _ N.names (by omega) (by omega)).mono ?_;rintro e w' ⟨rfl,dW⟩;rw[B1.out];go_wp2_with fail
     go_ret;have h1:=HS.out;have h2:=mi.out;exact⟨dG (er (by unfold iq;omega)).symm,eo.trans (dW.mono eo.size)⟩
    ·have B1:Hid (oM x nd.name.size=x-mB nd):=by show _=_;rw[eV (by unfold mB at hq;omega)];rfl
     generalize mB nd=tn at *;go_wp2_with fail
     refine(rW _ _ _ _ _ _ N.names (by omega) (by omega)).mono ?_;rintro e w' ⟨rfl,dW⟩;rw[B1.out];go_wp2_with fail
     go_roundw
     case rel=>
      have h1:=HS.out;have h2:=mi.out;exact⟨k+1,x-tn,by omega,by go_num,by go_num,by omega,by omega,show _=_ by omega,eo.trans (dW.mono eo.size)⟩
     case measure=>simp[intOf];omega
   ·have HK:Hid (k=l.length):=by show _=_;omega
    go_wp2_with fail
    go_ret;have h1:=fI mB l;have h2:=mi.out;have h3:=HK.out;rw[h3,h1]at h2;exact⟨dG (by rw[eV (by unfold iq;omega)];unfold iq;omega),eo⟩
theorem rV (nm:ByteArray)(ln pr:Int)(rs:Bool)(rg:Int)(us:List (Bool×Int))(cs:List cS)(is:List aA)(ns:List bE)(a5 a6 a7 a8:o_)(c5 c6 c7 c8:Nat)(S:Nat->Prop)(bB:Int)(w:World)
  (Nw:nm.size<=9223372036854775807)(h5:dH w S a5 us)(h6:cQ w S a6 cs)(h7:bQ w S a7 is)(h8:dc w S a8 ns)(hB:∀ b,S b->b<w.heap.size)(hl:0<=bB)(wg:bB<=1048576) :
  c_ 20 #[.agg #[.string nm,i_ ln,i_ pr,.bool rs,i_ rg,.slice a5 us.length c5,.slice a6 cs.length c6,.slice a7 is.length c7,.slice a8 ns.length c8],i_ bB] w fun e w'=>
   e=.returned (i_ (oM bB (nm.size+us.length+fq cs+is.length+iq ns)))/\b_ w w':=by
 have dF:∀ o,b_ w (w.alloc o):=fun o=>r_.alloc n_ o;have WS:∀ W:World,b_ w W->∀ b,S b->b<W.heap.size:=fun W hW b h=>l_ (hB b h) hW.size;have K6:Hid (∀ W,b_ w W->cQ W S a6 cs):=fun W hW=>h6.keep hW hB;have K8:Hid (∀ W,b_ w W->dc W S a8 ns):=fun W hW=>h8.keep hW hB;have HA:=af dF;have BR:=af WS;have H5:=h5.1;have H7:=h7.1;clear h6 h8 dF WS hB;by_cases q0:bB<nm.size
 ·go_enter Tryz.func20,Tryz.ntmps20;go_wp2_with fail
  go_ret;exact⟨dG (er (by omega)).symm,aa HA _⟩
 by_cases q1:bB-nm.size<us.length
 ·have B1:Hid (oM (bB-nm.size) (us.length)=-1):=er q1;go_enter Tryz.func20,Tryz.ntmps20;go_wp2_with fail
  refine(kT _ _ _ _ _ H5 (by omega) (by omega)).mono ?_;rintro e w' ⟨rfl,rfl⟩;rw[B1.out];go_wp2_with fail
  go_ret;exact⟨dG (er (by omega)).symm,aa HA _⟩
 have B1:Hid (oM (bB-nm.size) (us.length)=bB-nm.size-us.length):=eV (by omega);by_cases q2:bB-nm.size-us.length<fq cs
 ·have B2:Hid (oM (bB-nm.size-us.length) (fq cs)=-1):=er q2;go_enter Tryz.func20,Tryz.ntmps20;go_wp2_with fail
  refine(kT _ _ _ _ _ H5 (by omega) (by omega)).mono ?_;rintro e w' ⟨rfl,rfl⟩;rw[B1.out];go_wp2_with fail
  refine(jJ _ _ _ S _ _ (aa K6 _ (aa HA _)) (aa BR _ (aa HA _)) (by omega) (by omega)).mono ?_;rintro e w1 ⟨rfl,au⟩;obtain⟨cU,fJ⟩:=cz au;have Hk:w.heap.size+1<=w1.heap.size:=by have:=au.size;simpa using this
  have cT:w.heap.size<w1.heap.size:=by omega
  have dM:Hid (b_ w w1):=(aa HA _).trans (au.mono (by simp));clear au;rw[B2.out];go_wp2_with fail
  go_ret;exact⟨dG (er (by omega)).symm,aa dM⟩
 have B2:Hid (oM (bB-nm.size-us.length) (fq cs)=bB-nm.size-us.length-fq cs):=eV (by omega);by_cases q3:bB-nm.size-us.length-fq cs<is.length
 ·have B3:Hid (oM (bB-nm.size-us.length-fq cs) (is.length)=-1):=er q3;go_enter Tryz.func20,Tryz.ntmps20;go_wp2_with fail
  refine(kT _ _ _ _ _ H5 (by omega) (by omega)).mono ?_;rintro e w' ⟨rfl,rfl⟩;rw[B1.out];go_wp2_with fail
  refine(jJ _ _ _ S _ _ (aa K6 _ (aa HA _)) (aa BR _ (aa HA _)) (by omega) (by omega)).mono ?_;rintro e w1 ⟨rfl,au⟩;obtain⟨cU,fJ⟩:=cz au;have Hk:w.heap.size+1<=w1.heap.size:=by have:=au.size;simpa using this
  have cT:w.heap.size<w1.heap.size:=by omega
  have dM:Hid (b_ w w1):=(aa HA _).trans (au.mono (by simp));clear au;rw[B2.out];go_wp2_with fail
  refine(oN _ _ _ _ _ H7 (by omega) (by omega)).mono ?_;rintro e w' ⟨rfl,rfl⟩;rw[B3.out];go_wp2_with fail
  go_ret;exact⟨dG (er (by omega)).symm,aa dM⟩
 have B3:Hid (oM (bB-nm.size-us.length-fq cs) (is.length)=bB-nm.size-us.length-fq cs-is.length):=eV (by omega);by_cases q4:bB-nm.size-us.length-fq cs-is.length<iq ns
 ·have B4:Hid (oM (bB-nm.size-us.length-fq cs-is.length) (iq ns)=-1):=er q4;go_enter Tryz.func20,Tryz.ntmps20;go_wp2_with fail
  refine(kT _ _ _ _ _ H5 (by omega) (by omega)).mono ?_;rintro e w' ⟨rfl,rfl⟩;rw[B1.out];go_wp2_with fail
  refine(jJ _ _ _ S _ _ (aa K6 _ (aa HA _)) (aa BR _ (aa HA _)) (by omega) (by omega)).mono ?_;rintro e w1 ⟨rfl,au⟩;obtain⟨cU,fJ⟩:=cz au;have Hk:w.heap.size+1<=w1.heap.size:=by have:=au.size;simpa using this
  have cT:w.heap.size<w1.heap.size:=by omega
  have dM:Hid (b_ w w1):=(aa HA _).trans (au.mono (by simp));clear au;rw[B2.out];go_wp2_with fail
  refine(oN _ _ _ _ _ H7 (by omega) (by omega)).mono ?_;rintro e w' ⟨rfl,rfl⟩;rw[B3.out];go_wp2_with fail
  refine(pJ _ _ _ S _ _ (aa K8 _ (aa dM)) (aa BR _ (aa dM)) (by omega) (by omega)).mono ?_;rintro e w2 ⟨rfl,bo⟩;have fN:Hid (b_ w w2):=(aa dM).trans (bo.mono (aa dM).size);clear bo;rw[B4.out];go_wp2_with fail
  go_ret;exact⟨dG (er (by omega)).symm,aa fN⟩
 have B4:Hid (oM (bB-nm.size-us.length-fq cs-is.length) (iq ns)=bB-nm.size-us.length-fq cs-is.length-iq ns):=eV (by omega);go_enter Tryz.func20,Tryz.ntmps20;go_wp2_with fail
 refine(kT _ _ _ _ _ H5 (by omega) (by omega)).mono ?_;rintro e w' ⟨rfl,rfl⟩;rw[B1.out];go_wp2_with fail
 refine(jJ _ _ _ S _ _ (aa K6 _ (aa HA _)) (aa BR _ (aa HA _)) (by omega) (by omega)).mono ?_;rintro e w1 ⟨rfl,au⟩;obtain⟨cU,fJ⟩:=cz au;have Hk:w.heap.size+1<=w1.heap.size:=by have:=au.size;simpa using this
 have cT:w.heap.size<w1.heap.size:=by omega
 have dM:Hid (b_ w w1):=(aa HA _).trans (au.mono (by simp));clear au;rw[B2.out];go_wp2_with fail
 refine(oN _ _ _ _ _ H7 (by omega) (by omega)).mono ?_;rintro e w' ⟨rfl,rfl⟩;rw[B3.out];go_wp2_with fail
 refine(pJ _ _ _ S _ _ (aa K8 _ (aa dM)) (aa BR _ (aa dM)) (by omega) (by omega)).mono ?_;rintro e w2 ⟨rfl,bo⟩;have fN:Hid (b_ w w2):=(aa dM).trans (bo.mono (aa dM).size);clear bo;rw[B4.out];go_wp2_with fail
 go_ret;exact⟨dG (by rw[eV (by omega)];omega),aa fN⟩
end Go.Proofs.YtcjfjflljdojlaaGreatDoor
