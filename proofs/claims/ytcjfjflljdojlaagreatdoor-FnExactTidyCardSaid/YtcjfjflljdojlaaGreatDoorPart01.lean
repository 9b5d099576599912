import Derived.Test.YtcjfjflljdojlaaGreatDoorChecked
import Derived.WalkSpells
import Derived.WalkLawsBesides
set_option linter.all false
set_option maxHeartbeats 1000000
namespace Go.Proofs.YtcjfjflljdojlaaGreatDoor
open Go.RowKit
def H_(p:Prop):Prop:=p
theorem H_.o{p:Prop}(h:H_ p):p:=h
abbrev w_:=World
abbrev s_(b o n c:Nat):Value:=Value.slice (some (Addr.mk b o none)) n c
abbrev bW:=@Nat.not_lt_zero
abbrev iV:=@Int.eq_ofNat_of_zero_le
abbrev nZ:=@List.mem_singleton
abbrev zaa:=@List.mem_append
abbrev zab:=@List.getElem_mem
abbrev zac:=@List.eq_nil_of_length_eq_zero
abbrev zad:=@List.length_append
abbrev zae:=@List.getElem?_map
abbrev zaf:=@List.getElem_of_mem
abbrev zag:=@beq_eq_false_iff_ne
abbrev zah:=@Nat.le_trans
abbrev zba:=@decide_eq_false
abbrev zbb:=@decide_eq_true
abbrev zbc:=@Array.getElem?_eq_some_iff
abbrev zbd:=@World.block_lt_of_cell?
abbrev zbe:=@World.cell?_of_block
abbrev zbf:=@World.frozen?_of_block
abbrev zbg:=@heap_setCell_other
abbrev zbh:=@World.ownsRow_nil
abbrev zca:=@if_pos
abbrev zcb:=@if_neg
abbrev zcc:=@absurd
abbrev zcd:=@bodyPost_ret
abbrev zce:=@wpList_append_own
abbrev i_(x:Int):Value:=Value.int IntKind.i64 x
abbrev a_(b o:Nat):Addr:=Addr.mk b o none
abbrev b_(w W:World):Prop:=Below w.heap.size w W
theorem r_{B:Nat}{w:World}:Below B w w:=Below.refl _ _
theorem n_{n:Nat}:n<=n:=Nat.le_refl _
abbrev c_:=Calls Tryz.prog
abbrev o_:=Option Addr
theorem l_{a b c:Nat}(h:a<b)(k:b<=c):a<c:=Nat.lt_of_lt_of_le h k
theorem g_{α:Type}{l:List α}{i:Nat}(h:i<l.length):l[i]?=some l[i]:=List.getElem?_eq_getElem h
theorem af {p:Prop}(h:p):H_ p:=h
theorem aa {p:Prop}(h:H_ p):p:=h
theorem cz {W w1:World}(hb:Below W.heap.size W w1):(∀ b o,b<W.heap.size->w1.cell? ⟨b,o,none⟩=W.cell? ⟨b,o,none⟩)/\(∀ b o,b<W.heap.size->w1.frozen? ⟨b,o,none⟩=W.frozen? ⟨b,o,none⟩):=
 ⟨fun b o h=>hb.cell (p:=⟨b,o,none⟩) h,fun b o h=>hb.frozen (p:=⟨b,o,none⟩) h⟩
structure mQ where
 kind:Int
 f:Int
 op:Int
 num:Int
 flt:Nat
 str:ByteArray
 refs:List Int
 kids:List Int
structure LJ where
 name:ByteArray
 f:Int
 l:Int
 e:Bool
 vars:List ByteArray
 s:List (Bool×Int)
 nodes:List mQ
def mQ.z:mQ:=⟨0,0,0,0,0,ByteArray.empty,[],[]⟩
def LJ.z:LJ:=⟨ByteArray.empty,0,0,false,[],[],[]⟩
def aQ (w:World)(S:Nat->Prop)(a:Option Addr)(l:List Int):Prop:=
 l.length<=9223372036854775807/\(0<l.length->∃ b off,a=some ⟨b,off,none⟩/\S b/\∀ j,j<l.length->w.cell? ⟨b,off+j,none⟩=some (.int .i64 (l[j]?.getD 0)))
def kK (w:World)(S:Nat->Prop)(a:Option Addr)(l:List ByteArray):Prop:=
 l.length<=9223372036854775807/\(0<l.length->∃ b off,a=some ⟨b,off,none⟩/\S b/\∀ j,j<l.length->(l[j]?.getD ByteArray.empty).size<=9223372036854775807/\w.cell? ⟨b,off+j,none⟩=some (.string (l[j]?.getD ByteArray.empty)))
def dG (w:World)(S:Nat->Prop)(a:Option Addr)(l:List (Bool×Int)):Prop:=
 l.length<=9223372036854775807/\(0<l.length->∃ b off,a=some ⟨b,off,none⟩/\S b/\∀ j,j<l.length ->
  w.cell? ⟨b,off+j * 2,none⟩=some (.bool (l[j]?.getD (false,0)).1)/\w.cell? ⟨b,off+j * 2+1,none⟩=some (.int .i64 (l[j]?.getD (false,0)).2))
structure iU (w:World)(S:Nat->Prop)(b o:Nat)(n:mQ):Prop where
 kind:w.cell? ⟨b,o,none⟩=some (.int .i64 n.kind)
 f:w.cell? ⟨b,o+1,none⟩=some (.int .i64 n.f)
 op:w.cell? ⟨b,o+2,none⟩=some (.int .i64 n.op)
 num:w.cell? ⟨b,o+3,none⟩=some (.int .i64 n.num)
 flt:w.cell? ⟨b,o+4,none⟩=some (.float .f64 n.flt)
 strs:n.str.size<=9223372036854775807
 str:w.cell? ⟨b,o+5,none⟩=some (.string n.str)
 refs:∃ a c,w.cell? ⟨b,o+6,none⟩=some (.slice a n.refs.length c)/\aQ w S a n.refs
 kids:∃ a c,w.cell? ⟨b,o+7,none⟩=some (.slice a n.kids.length c)/\aQ w S a n.kids
 kcap:∃ a c,w.cell? ⟨b,o+7,none⟩=some (.slice a n.kids.length c)/\n.kids.length<=c
def jk (w:World)(S:Nat->Prop)(a:Option Addr)(l:List mQ):Prop:=
 l.length<=9223372036854775807/\(0<l.length->∃ b off,a=some ⟨b,off,none⟩/\S b/\∀ j,j<l.length->iU w S b (off+j * 8) (l[j]?.getD mQ.z))
structure lH (w:World)(S:Nat->Prop)(b o:Nat)(n:LJ):Prop where
 names:n.name.size<=9223372036854775807
 name:w.cell? ⟨b,o,none⟩=some (.string n.name)
 f:w.cell? ⟨b,o+1,none⟩=some (.int .i64 n.f)
 l:w.cell? ⟨b,o+2,none⟩=some (.int .i64 n.l)
 e:w.cell? ⟨b,o+3,none⟩=some (.bool n.e)
 vars:∃ a c,w.cell? ⟨b,o+4,none⟩=some (.slice a n.vars.length c)/\kK w S a n.vars
 s:∃ a c,w.cell? ⟨b,o+5,none⟩=some (.slice a n.s.length c)/\dG w S a n.s
 nodes:∃ a c,w.cell? ⟨b,o+6,none⟩=some (.slice a n.nodes.length c)/\jk w S a n.nodes
def qi (w:World)(S:Nat->Prop)(a:Option Addr)(l:List LJ):Prop:=
 l.length<=9223372036854775807/\(0<l.length->∃ b off,a=some ⟨b,off,none⟩/\S b/\∀ j,j<l.length->lH w S b (off+j * 7) (l[j]?.getD LJ.z))
def ji (G:Nat)(w:World)(b:Nat):Prop:=G<=b/\b<w.heap.size
def cH (S:Nat->Prop)(w w':World):Prop:=∀ b,S b->w'.heap[b]? = w.heap[b]?
section
variable {w w':World} {S S':Nat->Prop}
theorem cH.cell (h:cH S w w'){b:Nat}(hb:S b)(o:Nat):w'.cell? ⟨b,o,none⟩=w.cell? ⟨b,o,none⟩:=World.cell?_of_block (a:=⟨b,o,none⟩) (h b hb)
theorem cH.of_below {B:Nat}(h:Below B w w')(hS:∀ b,S b->b<B):cH S w w':=fun b hb=>h.block b (hS b hb)
theorem cH.trans {w2:World}(h:cH S w w')(k:cH S w' w2):cH S w w2:=fun b hb=>(k b hb).trans (h b hb)
theorem cH.mono (h:cH S' w w')(hS:∀ b,S b->S' b):cH S w w':=fun b hb=>h b (hS b hb)
theorem cH.refl:cH S w w:=fun _ _=>rfl
theorem cH.setCell (h:cH S w w'){a:Addr}(ha:¬S a.block)(v:Value):cH S w (w'.setCell a v):=fun b hb=>(Below.heap_setCell w' a v b (fun e=>ha (e ▸ hb))).trans (h b hb)
theorem cH.alloc (h:cH S w w')(hS:∀ b,S b->b<w'.heap.size)(o:Obj):cH S w (w'.alloc o):=fun b hb=>(Below.heap_alloc w' o b (hS b hb)).trans (h b hb)
theorem cH.below {w2:World}{B:Nat}(h:cH S w w')(hb:Below B w' w2)(hS:∀ b,S b->b<B):cH S w w2:=h.trans (.of_below hb hS)
theorem aQ.same {a:Option Addr}{l:List Int}(h:aQ w S a l)(hb:cH S w w'):aQ w' S a l:=
 ⟨h.1,fun hl=>by
  obtain⟨b,off,e,hs,hc⟩:=h.2 hl;exact⟨b,off,e,hs,fun j hj=>(hb.cell hs _).trans (hc j hj)⟩⟩
theorem kK.same {a:Option Addr}{l:List ByteArray}(h:kK w S a l)(hb:cH S w w'):kK w' S a l:=
 ⟨h.1,fun hl=>by
  obtain⟨b,off,e,hs,hc⟩:=h.2 hl;exact⟨b,off,e,hs,fun j hj=>⟨(hc j hj).1,(hb.cell hs _).trans (hc j hj).2⟩⟩⟩
theorem dG.same {a:Option Addr}{l:List (Bool×Int)}(h:dG w S a l)(hb:cH S w w'):dG w' S a l:=
 ⟨h.1,fun hl=>by
  obtain⟨b,off,e,hs,hc⟩:=h.2 hl;exact⟨b,off,e,hs,fun j hj=>⟨(hb.cell hs _).trans (hc j hj).1,(hb.cell hs _).trans (hc j hj).2⟩⟩⟩
theorem iU.same {b o:Nat}{n:mQ}(h:iU w S b o n)(hb:cH S w w')(hs:S b):iU w' S b o n where
 kind:=(hb.cell hs _).trans h.kind
 f:=(hb.cell hs _).trans h.f
 op:=(hb.cell hs _).trans h.op
 num:=(hb.cell hs _).trans h.num
 flt:=(hb.cell hs _).trans h.flt
 strs:=h.strs
 str:=(hb.cell hs _).trans h.str
 refs:=by obtain⟨a,c,e,k⟩:=h.refs;exact⟨a,c,(hb.cell hs _).trans e,k.same hb⟩
 kids:=by obtain⟨a,c,e,k⟩:=h.kids;exact⟨a,c,(hb.cell hs _).trans e,k.same hb⟩
 kcap:=by obtain⟨a,c,e,k⟩:=h.kcap;exact⟨a,c,(hb.cell hs _).trans e,k⟩
theorem jk.same {a:Option Addr}{l:List mQ}(h:jk w S a l)(hb:cH S w w'):jk w' S a l:=
 ⟨h.1,fun hl=>by
  obtain⟨b,off,e,hs,hc⟩:=h.2 hl;exact⟨b,off,e,hs,fun j hj=>(hc j hj).same hb hs⟩⟩
theorem lH.same {b o:Nat}{n:LJ}(h:lH w S b o n)(hb:cH S w w')(hs:S b):lH w' S b o n where
 names:=h.names
 name:=(hb.cell hs _).trans h.name
 f:=(hb.cell hs _).trans h.f
 l:=(hb.cell hs _).trans h.l
 e:=(hb.cell hs _).trans h.e
 vars:=by obtain⟨a,c,e,k⟩:=h.vars;exact⟨a,c,(hb.cell hs _).trans e,k.same hb⟩
 s:=by obtain⟨a,c,e,k⟩:=h.s;exact⟨a,c,(hb.cell hs _).trans e,k.same hb⟩
 nodes:=by obtain⟨a,c,e,k⟩:=h.nodes;exact⟨a,c,(hb.cell hs _).trans e,k.same hb⟩
theorem qi.same {a:Option Addr}{l:List LJ}(h:qi w S a l)(hb:cH S w w'):qi w' S a l:=
 ⟨h.1,fun hl=>by
  obtain⟨b,off,e,hs,hc⟩:=h.2 hl;exact⟨b,off,e,hs,fun j hj=>(hc j hj).same hb hs⟩⟩
theorem aQ.keep {a:Option Addr}{l:List Int}{B:Nat}(h:aQ w S a l)(hb:Below B w w')(hS:∀ b,S b->b<B):aQ w' S a l:=h.same (.of_below hb hS)
theorem kK.keep {a:Option Addr}{l:List ByteArray}{B:Nat}(h:kK w S a l)(hb:Below B w w')(hS:∀ b,S b->b<B):kK w' S a l:=h.same (.of_below hb hS)
theorem dG.keep {a:Option Addr}{l:List (Bool×Int)}{B:Nat}(h:dG w S a l)(hb:Below B w w')(hS:∀ b,S b->b<B):dG w' S a l:=h.same (.of_below hb hS)
theorem jk.keep {a:Option Addr}{l:List mQ}{B:Nat}(h:jk w S a l)(hb:Below B w w')(hS:∀ b,S b->b<B):jk w' S a l:=h.same (.of_below hb hS)
theorem qi.keep {a:Option Addr}{l:List LJ}{B:Nat}(h:qi w S a l)(hb:Below B w w')(hS:∀ b,S b->b<B):qi w' S a l:=h.same (.of_below hb hS)
theorem aQ.mono {a:Option Addr}{l:List Int}(h:aQ w S a l)(hS:∀ b,S b->S' b):aQ w S' a l:=
 ⟨h.1,fun hl=>by obtain⟨b,off,e,hs,hc⟩:=h.2 hl;exact⟨b,off,e,hS b hs,hc⟩⟩
theorem kK.mono {a:Option Addr}{l:List ByteArray}(h:kK w S a l)(hS:∀ b,S b->S' b):kK w S' a l:=
 ⟨h.1,fun hl=>by obtain⟨b,off,e,hs,hc⟩:=h.2 hl;exact⟨b,off,e,hS b hs,hc⟩⟩
theorem dG.mono {a:Option Addr}{l:List (Bool×Int)}(h:dG w S a l)(hS:∀ b,S b->S' b):dG w S' a l:=
 ⟨h.1,fun hl=>by obtain⟨b,off,e,hs,hc⟩:=h.2 hl;exact⟨b,off,e,hS b hs,hc⟩⟩
theorem iU.mono {b o:Nat}{n:mQ}(h:iU w S b o n)(hS:∀ b,S b->S' b):iU w S' b o n:=
 {kind:=h.kind,f:=h.f,op:=h.op,num:=h.num,flt:=h.flt,strs:=h.strs,str:=h.str,refs:=by obtain⟨a,c,e,k⟩:=h.refs;exact⟨a,c,e,k.mono hS⟩
  kids:=by obtain⟨a,c,e,k⟩:=h.kids;exact⟨a,c,e,k.mono hS⟩
  kcap:=h.kcap }
theorem jk.mono {a:Option Addr}{l:List mQ}(h:jk w S a l)(hS:∀ b,S b->S' b):jk w S' a l:=
 ⟨h.1,fun hl=>by obtain⟨b,off,e,hs,hc⟩:=h.2 hl;exact⟨b,off,e,hS b hs,fun j hj=>(hc j hj).mono hS⟩⟩
theorem lH.mono {b o:Nat}{n:LJ}(h:lH w S b o n)(hS:∀ b,S b->S' b):lH w S' b o n:=
 {names:=h.names,name:=h.name,f:=h.f,l:=h.l,e:=h.e,vars:=by obtain⟨a,c,e,k⟩:=h.vars;exact⟨a,c,e,k.mono hS⟩
  s:=by obtain⟨a,c,e,k⟩:=h.s;exact⟨a,c,e,k.mono hS⟩
  nodes:=by obtain⟨a,c,e,k⟩:=h.nodes;exact⟨a,c,e,k.mono hS⟩ }
theorem qi.mono {a:Option Addr}{l:List LJ}(h:qi w S a l)(hS:∀ b,S b->S' b):qi w S' a l:=
 ⟨h.1,fun hl=>by obtain⟨b,off,e,hs,hc⟩:=h.2 hl;exact⟨b,off,e,hS b hs,fun j hj=>(hc j hj).mono hS⟩⟩
end
structure cN where
 kind:Int
 num:Int
 flt:Nat
 str:ByteArray
 ref:Int
def cN.z:cN:=⟨0,0,0,ByteArray.empty,0⟩
structure kT (w:w_)(b o:Nat)(n:cN):Prop where
 kind:w.cell? (a_ b o)=some (i_ n.kind)
 num:w.cell? (a_ b (o+1))=some (i_ n.num)
 flt:w.cell? (a_ b (o+2))=some (.float .f64 n.flt)
 str:w.cell? (a_ b (o+3))=some (.string n.str)
 strs:n.str.size<=9223372036854775807
 ref:w.cell? (a_ b (o+4))=some (i_ n.ref)
def cQ (w:w_)(S:Nat->Prop)(a:o_)(l:List cN):Prop:=
 l.length<=9223372036854775807/\(0<l.length->∃ b off,a=some (a_ b off)/\S b/\∀ j,j<l.length->kT w b (off+j * 5) (l[j]?.getD cN.z))
theorem kT.same {w w':w_}{S:Nat->Prop}{b o:Nat}{n:cN}(h:kT w b o n)(hb:cH S w w')(hs:S b):kT w' b o n:=
 {kind:=(hb.cell hs _).trans h.kind,num:=(hb.cell hs _).trans h.num,flt:=(hb.cell hs _).trans h.flt,str:=(hb.cell hs _).trans h.str,strs:=h.strs,ref:=(hb.cell hs _).trans h.ref }
theorem cQ.same {w w':w_}{S:Nat->Prop}{a:o_}{l:List cN}(h:cQ w S a l)(hb:cH S w w'):cQ w' S a l:=
 ⟨h.1,fun hl=>by
  obtain⟨b,off,e,hs,hc⟩:=h.2 hl;exact⟨b,off,e,hs,fun j hj=>(hc j hj).same hb hs⟩⟩
theorem cQ.keep {w w':w_}{S:Nat->Prop}{a:o_}{l:List cN}{B:Nat}(h:cQ w S a l)(hb:Below B w w')(hS:∀ b,S b->b<B):cQ w' S a l:=h.same (.of_below hb hS)
theorem cQ.mono {w:w_}{S S':Nat->Prop}{a:o_}{l:List cN}(h:cQ w S a l)(hS:∀ b,S b->S' b):cQ w S' a l:=
 ⟨h.1,fun hl=>by obtain⟨b,off,e,hs,hc⟩:=h.2 hl;exact⟨b,off,e,hS b hs,hc⟩⟩
structure az where
 op:Int
 fa:Int
 fb:Int
 fc:Int
 fd:Int
def az.z:az:=⟨0,0,0,0,0⟩
structure aK (w:w_)(b o:Nat)(n:az):Prop where
 op:w.cell? (a_ b o)=some (i_ n.op)
 fa:w.cell? (a_ b (o+1))=some (i_ n.fa)
 fb:w.cell? (a_ b (o+2))=some (i_ n.fb)
 fc:w.cell? (a_ b (o+3))=some (i_ n.fc)
 fd:w.cell? (a_ b (o+4))=some (i_ n.fd)
def bN (w:w_)(S:Nat->Prop)(a:o_)(l:List az):Prop:=
 l.length<=9223372036854775807/\(0<l.length->∃ b off,a=some (a_ b off)/\S b/\∀ j,j<l.length->aK w b (off+j * 5) (l[j]?.getD az.z))
theorem aK.same {w w':w_}{S:Nat->Prop}{b o:Nat}{n:az}(h:aK w b o n)(hb:cH S w w')(hs:S b):aK w' b o n:=
 {op:=(hb.cell hs _).trans h.op,fa:=(hb.cell hs _).trans h.fa,fb:=(hb.cell hs _).trans h.fb,fc:=(hb.cell hs _).trans h.fc,fd:=(hb.cell hs _).trans h.fd }
theorem bN.same {w w':w_}{S:Nat->Prop}{a:o_}{l:List az}(h:bN w S a l)(hb:cH S w w'):bN w' S a l:=
 ⟨h.1,fun hl=>by
  obtain⟨b,off,e,hs,hc⟩:=h.2 hl;exact⟨b,off,e,hs,fun j hj=>(hc j hj).same hb hs⟩⟩
theorem bN.keep {w w':w_}{S:Nat->Prop}{a:o_}{l:List az}{B:Nat}(h:bN w S a l)(hb:Below B w w')(hS:∀ b,S b->b<B):bN w' S a l:=h.same (.of_below hb hS)
theorem bN.mono {w:w_}{S S':Nat->Prop}{a:o_}{l:List az}(h:bN w S a l)(hS:∀ b,S b->S' b):bN w S' a l:=
 ⟨h.1,fun hl=>by obtain⟨b,off,e,hs,hc⟩:=h.2 hl;exact⟨b,off,e,hS b hs,hc⟩⟩
structure bB where
 name:ByteArray
 reg:Int
 fro:Int
 til:Int
def bB.z:bB:=⟨ByteArray.empty,0,0,0⟩
structure lm (w:w_)(b o:Nat)(n:bB):Prop where
 name:w.cell? (a_ b o)=some (.string n.name)
 names:n.name.size<=9223372036854775807
 reg:w.cell? (a_ b (o+1))=some (i_ n.reg)
 fro:w.cell? (a_ b (o+2))=some (i_ n.fro)
 til:w.cell? (a_ b (o+3))=some (i_ n.til)
def da (w:w_)(S:Nat->Prop)(a:o_)(l:List bB):Prop:=
 l.length<=9223372036854775807/\(0<l.length->∃ b off,a=some (a_ b off)/\S b/\∀ j,j<l.length->lm w b (off+j * 4) (l[j]?.getD bB.z))
theorem lm.same {w w':w_}{S:Nat->Prop}{b o:Nat}{n:bB}(h:lm w b o n)(hb:cH S w w')(hs:S b):lm w' b o n:=
 {name:=(hb.cell hs _).trans h.name,names:=h.names,reg:=(hb.cell hs _).trans h.reg,fro:=(hb.cell hs _).trans h.fro,til:=(hb.cell hs _).trans h.til }
theorem da.same {w w':w_}{S:Nat->Prop}{a:o_}{l:List bB}(h:da w S a l)(hb:cH S w w'):da w' S a l:=
 ⟨h.1,fun hl=>by
  obtain⟨b,off,e,hs,hc⟩:=h.2 hl;exact⟨b,off,e,hs,fun j hj=>(hc j hj).same hb hs⟩⟩
theorem da.keep {w w':w_}{S:Nat->Prop}{a:o_}{l:List bB}{B:Nat}(h:da w S a l)(hb:Below B w w')(hS:∀ b,S b->b<B):da w' S a l:=h.same (.of_below hb hS)
theorem da.mono {w:w_}{S S':Nat->Prop}{a:o_}{l:List bB}(h:da w S a l)(hS:∀ b,S b->S' b):da w S' a l:=
 ⟨h.1,fun hl=>by obtain⟨b,off,e,hs,hc⟩:=h.2 hl;exact⟨b,off,e,hS b hs,hc⟩⟩
structure aj where
 name:ByteArray
 f:Int
 l:Int
 e:Bool
 m:Int
 s:List (Bool×Int)
 k:List cN
 u:List az
 g:List bB
def aj.z:aj:=⟨ByteArray.empty,0,0,false,0,[],[],[],[]⟩
structure aT (w:w_)(S:Nat->Prop)(b o:Nat)(n:aj):Prop where
 names:n.name.size<=9223372036854775807
 name:w.cell? (a_ b o)=some (.string n.name)
 f:w.cell? (a_ b (o+1))=some (i_ n.f)
 l:w.cell? (a_ b (o+2))=some (i_ n.l)
 e:w.cell? (a_ b (o+3))=some (.bool n.e)
 m:w.cell? (a_ b (o+4))=some (i_ n.m)
 s:∃ a c,w.cell? (a_ b (o+5))=some (.slice a n.s.length c)/\dG w S a n.s
 k:∃ a c,w.cell? (a_ b (o+6))=some (.slice a n.k.length c)/\cQ w S a n.k
 u:∃ a c,w.cell? (a_ b (o+7))=some (.slice a n.u.length c)/\bN w S a n.u
 g:∃ a c,w.cell? (a_ b (o+8))=some (.slice a n.g.length c)/\da w S a n.g
def am (w:w_)(S:Nat->Prop)(a:o_)(l:List aj):Prop:=
 l.length<=9223372036854775807/\(0<l.length->∃ b off,a=some (a_ b off)/\S b/\∀ j,j<l.length->aT w S b (off+j * 9) (l[j]?.getD aj.z))
theorem aT.same {w w':w_}{S:Nat->Prop}{b o:Nat}{n:aj}(h:aT w S b o n)(hb:cH S w w')(hs:S b):aT w' S b o n where
 names:=h.names
 name:=(hb.cell hs _).trans h.name
 f:=(hb.cell hs _).trans h.f
 l:=(hb.cell hs _).trans h.l
 e:=(hb.cell hs _).trans h.e
 m:=(hb.cell hs _).trans h.m
 s:=by obtain⟨a,c,e,k⟩:=h.s;exact⟨a,c,(hb.cell hs _).trans e,k.same hb⟩
 k:=by obtain⟨a,c,e,k⟩:=h.k;exact⟨a,c,(hb.cell hs _).trans e,k.same hb⟩
 u:=by obtain⟨a,c,e,k⟩:=h.u;exact⟨a,c,(hb.cell hs _).trans e,k.same hb⟩
 g:=by obtain⟨a,c,e,k⟩:=h.g;exact⟨a,c,(hb.cell hs _).trans e,k.same hb⟩
theorem am.same {w w':w_}{S:Nat->Prop}{a:o_}{l:List aj}(h:am w S a l)(hb:cH S w w'):am w' S a l:=
 ⟨h.1,fun hl=>by
  obtain⟨b,off,e,hs,hc⟩:=h.2 hl;exact⟨b,off,e,hs,fun j hj=>(hc j hj).same hb hs⟩⟩
theorem am.keep {w w':w_}{S:Nat->Prop}{a:o_}{l:List aj}{B:Nat}(h:am w S a l)(hb:Below B w w')(hS:∀ b,S b->b<B):am w' S a l:=h.same (.of_below hb hS)
theorem aT.mono {w:w_}{S S':Nat->Prop}{b o:Nat}{n:aj}(h:aT w S b o n)(hS:∀ b,S b->S' b):aT w S' b o n:=
 {names:=h.names,name:=h.name,f:=h.f,l:=h.l,e:=h.e,m:=h.m,s:=by obtain⟨a,c,e,k⟩:=h.s;exact⟨a,c,e,k.mono hS⟩,k:=by obtain⟨a,c,e,k⟩:=h.k;exact⟨a,c,e,k.mono hS⟩,u:=by obtain⟨a,c,e,k⟩:=h.u;exact⟨a,c,e,k.mono hS⟩,g:=by obtain⟨a,c,e,k⟩:=h.g;exact⟨a,c,e,k.mono hS⟩ }
theorem am.mono {w:w_}{S S':Nat->Prop}{a:o_}{l:List aj}(h:am w S a l)(hS:∀ b,S b->S' b):am w S' a l:=
 ⟨h.1,fun hl=>by obtain⟨b,off,e,hs,hc⟩:=h.2 hl;exact⟨b,off,e,hS b hs,fun j hj=>(hc j hj).mono hS⟩⟩
def bo {α:Type}(f:α->Nat)(l:List α)(k:Nat):Nat:=((l.take k).map f).sum
def aS {α:Type}(f:α->Nat)(l:List α):Nat:=(l.map f).sum
theorem fe {α:Type}(f:α->Nat)(l:List α):bo f l 0=0:=by simp[bo]
theorem dI {α:Type}(f:α->Nat)(l:List α)(k:Nat)(d:α)(h:k<l.length):bo f l (k+1)=bo f l k+f (l[k]?.getD d):=by
 unfold bo;rw[List.take_succ_eq_append_getElem h,List.map_append,List.sum_append,g_ h];simp only[List.map_cons,List.map_nil,List.sum_cons,List.sum_nil,Nat.add_zero,Option.getD_some]
theorem fD {α:Type}(f:α->Nat)(l:List α):bo f l l.length=aS f l:=by simp[bo,aS]
theorem gw {α:Type}(f:α->Nat)(l:List α)(k:Nat):bo f l k<=aS f l:=by
 unfold bo aS
 conv=>rhs;rw[<-List.take_append_drop k l]
 rw[List.map_append,List.sum_append];exact Nat.le_add_right _ _
def pd (bz:Int)(t:Nat):Int:=if bz<t then -1 else bz-t
theorem eo {bz:Int}{t:Nat}(h:bz<t):pd bz t=-1:=by simp[pd,h]
theorem eP {bz:Int}{t:Nat}(h:(t:Int)<=bz):pd bz t=bz-t:=by unfold pd;rw[zcb (by omega)]
def mB (n:cN):Nat:=n.str.size
def fo (l:List cN):Nat:=l.length+aS mB l
def mC (n:bB):Nat:=n.name.size
def im (l:List bB):Nat:=l.length+aS mC l
def du (p:aj):Nat:=p.name.size+p.s.length+fo p.k+p.u.length+im p.g
def aH (l:List aj):Nat:=l.length+aS du l
theorem dF {k:IntKind}{a b:Int}(h:a=b):Ending.returned (.int k a)=.returned (.int k b):=by rw[h]
theorem kZ (a:o_)(n c:Nat)(bz:Int)(w:w_)(hn:n<=9223372036854775807)(hl:0<=bz)(wm:bz<=1048576) :
  c_ 49 #[.slice a n c,i_ bz] w fun e w'=>e=.returned (i_ (pd bz n))/\w'=w:=by
 by_cases h:bz<n;{go_enter Tryz.func49,Tryz.ntmps49;go_wp2;go_ret;exact⟨dF (eo h).symm,rfl⟩};{go_enter Tryz.func49,Tryz.ntmps49;go_wp2;go_ret;exact⟨dF (eP (by omega)).symm,rfl⟩}
theorem oM (a:o_)(n c:Nat)(bz:Int)(w:w_)(hn:n<=9223372036854775807)(hl:0<=bz)(wm:bz<=1048576) :
  c_ 51 #[.slice a n c,i_ bz] w fun e w'=>e=.returned (i_ (pd bz n))/\w'=w:=by
 by_cases h:bz<n;{go_enter Tryz.func51,Tryz.ntmps51;go_wp2;go_ret;exact⟨dF (eo h).symm,rfl⟩};{go_enter Tryz.func51,Tryz.ntmps51;go_wp2;go_ret;exact⟨dF (eP (by omega)).symm,rfl⟩}
theorem rR (kind num:Int)(flt:Nat)(s:ByteArray)(ref:Int)(bz:Int)(w:w_)(hs:s.size<=9223372036854775807)(hl:0<=bz)(wm:bz<=1048576) :
  c_ 95 #[.agg #[i_ kind,i_ num,.float .f64 flt,.string s,i_ ref],i_ bz] w fun e w'=>e=.returned (i_ (pd bz s.size))/\b_ w w':=by
 by_cases q1:bz<s.size;{go_enter Tryz.func95,Tryz.ntmps95;go_wp2;go_ret;exact⟨dF (eo (by omega)).symm,r_.alloc n_ _⟩};{go_enter Tryz.func95,Tryz.ntmps95;go_wp2;go_ret;exact⟨dF (by rw[eP (by omega)]),r_.alloc n_ _⟩}
theorem jH (a:o_)(l:List cN)(c:Nat)(S:Nat->Prop)(bz:Int)(w:w_)(hs:cQ w S a l)(hB:∀ b,S b->b<w.heap.size)(hl:0<=bz)(wm:bz<=1048576) :
  c_ 50 #[.slice a l.length c,i_ bz] w fun e w'=>e=.returned (i_ (pd bz (fo l)))/\b_ w w':=by
 have hn:=hs.1;by_cases h:bz<l.length;{go_enter Tryz.func50,Tryz.ntmps50;go_wp2;go_ret;exact⟨dF (eo (by unfold fo;omega)).symm,r_⟩}
 ·have px:(l.length:Int)<=bz:=by omega
  clear h;go_enter Tryz.func50,Tryz.ntmps50;go_wp2
  go_loopw [1,5] (fun t i wr=>∃(k:Nat) (x:Int),k<=l.length/\i=i_ k/\t=i_ x/\0<=x/\x<=1048576/\H_ (x=bz-l.length-bo mB l k)/\b_ w wr) (fun _ i _=>l.length-(intOf i).toNat);(case atStart=>exact⟨0,_,Nat.zero_le _,rfl,rfl,by omega,by omega,show _=_ by rw[fe];omega,r_⟩);case round=>obtain⟨k,x,hk,rfl,rfl,hx,aN,mn,ei⟩:=hrel;by_cases au:k<l.length;{obtain⟨b,off,rfl,hb,aC⟩:=(hs.keep ei hB).2 (by omega);have N:=aC k au;have HS:H_ (bo mB l (k+1)=bo mB l k+mB (l[k]?.getD cN.z)/\bo mB l (k+1)<=aS mB l):=⟨dI mB l k cN.z au,gw mB l (k+1)⟩;clear aC;generalize l[k]?.getD cN.z=nd at *;have c0:=N.kind;have c1:=N.num;have c2:=N.flt;have c3:=N.str;have c4:=N.ref;by_cases hq:x<mB nd;{have B1:H_ (pd x nd.str.size=-1):=eo (by unfold mB at hq;omega);go_wp2_with fail;refine(rR _ _ _ _ _ _ _ N.strs (by omega) (by omega)).mono ?_;rintro e w' ⟨rfl,dV⟩;rw[B1.o];go_wp2;go_ret;have h1:=HS.o;have h2:=mn.o;exact⟨dF (eo (by unfold fo;omega)).symm,ei.trans (dV.mono ei.size)⟩};{have B1:H_ (pd x nd.str.size=x-mB nd):=by{show _=_;rw[eP (by unfold mB at hq;omega)];rfl};generalize mB nd=tn at *;go_wp2_with fail;refine(rR _ _ _ _ _ _ _ N.strs (by omega) (by omega)).mono ?_;rintro e w' ⟨rfl,dV⟩;rw[B1.o];go_wp2;go_roundw;(case rel=>have h1:=HS.o;have h2:=mn.o;exact⟨k+1,x-tn,by omega,by go_num,by go_num,by omega,by omega,show _=_ by omega,ei.trans (dV.mono ei.size)⟩);case measure=>simp[intOf];omega}};{have HK:H_ (k=l.length):=by{show _=_;omega};go_wp2;go_ret;have h1:=fD mB l;have h2:=mn.o;have h3:=HK.o;rw[h3,h1]at h2;exact⟨dF (by rw[eP (by unfold fo;omega)];unfold fo;omega),ei⟩}
theorem rZ (s:ByteArray)(reg fro til:Int)(bz:Int)(w:w_)(hs:s.size<=9223372036854775807)(hl:0<=bz)(wm:bz<=1048576) :
  c_ 96 #[.agg #[.string s,i_ reg,i_ fro,i_ til],i_ bz] w fun e w'=>e=.returned (i_ (pd bz s.size))/\b_ w w':=by
 by_cases q1:bz<s.size;{go_enter Tryz.func96,Tryz.ntmps96;go_wp2;go_ret;exact⟨dF (eo (by omega)).symm,r_.alloc n_ _⟩};{go_enter Tryz.func96,Tryz.ntmps96;go_wp2;go_ret;exact⟨dF (by rw[eP (by omega)]),r_.alloc n_ _⟩}
theorem pP (a:o_)(l:List bB)(c:Nat)(S:Nat->Prop)(bz:Int)(w:w_)(hs:da w S a l)(hB:∀ b,S b->b<w.heap.size)(hl:0<=bz)(wm:bz<=1048576) :
  c_ 52 #[.slice a l.length c,i_ bz] w fun e w'=>e=.returned (i_ (pd bz (im l)))/\b_ w w':=by
 have hn:=hs.1;by_cases h:bz<l.length;{go_enter Tryz.func52,Tryz.ntmps52;go_wp2;go_ret;exact⟨dF (eo (by unfold im;omega)).symm,r_⟩}
 ·have px:(l.length:Int)<=bz:=by omega
  clear h;go_enter Tryz.func52,Tryz.ntmps52;go_wp2
  go_loopw [1,5] (fun t i wr=>∃(k:Nat) (x:Int),k<=l.length/\i=i_ k/\t=i_ x/\0<=x/\x<=1048576/\H_ (x=bz-l.length-bo mC l k)/\b_ w wr) (fun _ i _=>l.length-(intOf i).toNat);(case atStart=>exact⟨0,_,Nat.zero_le _,rfl,rfl,by omega,by omega,show _=_ by rw[fe];omega,r_⟩);case round=>obtain⟨k,x,hk,rfl,rfl,hx,aN,mn,ei⟩:=hrel;by_cases au:k<l.length;{obtain⟨b,off,rfl,hb,aC⟩:=(hs.keep ei hB).2 (by omega);have N:=aC k au;have HS:H_ (bo mC l (k+1)=bo mC l k+mC (l[k]?.getD bB.z)/\bo mC l (k+1)<=aS mC l):=⟨dI mC l k bB.z au,gw mC l (k+1)⟩;clear aC;generalize l[k]?.getD bB.z=nd at *;have c0:=N.name;have c1:=N.reg;have c2:=N.fro;have c3:=N.til;by_cases hq:x<mC nd;{have B1:H_ (pd x nd.name.size=-1):=eo (by unfold mC at hq;omega);go_wp2_with fail;refine(rZ _ _ _ _ _ _ N.names (by omega) (by omega)).mono ?_;rintro e w' ⟨rfl,dV⟩;rw[B1.o];go_wp2;go_ret;have h1:=HS.o;have h2:=mn.o;exact⟨dF (eo (by unfold im;omega)).symm,ei.trans (dV.mono ei.size)⟩};{have B1:H_ (pd x nd.name.size=x-mC nd):=by{show _=_;rw[eP (by unfold mC at hq;omega)];rfl};generalize mC nd=tn at *;go_wp2_with fail;refine(rZ _ _ _ _ _ _ N.names (by omega) (by omega)).mono ?_;rintro e w' ⟨rfl,dV⟩;rw[B1.o];go_wp2;go_roundw;(case rel=>have h1:=HS.o;have h2:=mn.o;exact⟨k+1,x-tn,by omega,by go_num,by go_num,by omega,by omega,show _=_ by omega,ei.trans (dV.mono ei.size)⟩);case measure=>simp[intOf];omega}};{have HK:H_ (k=l.length):=by{show _=_;omega};go_wp2;go_ret;have h1:=fD mC l;have h2:=mn.o;have h3:=HK.o;rw[h3,h1]at h2;exact⟨dF (by rw[eP (by unfold im;omega)];unfold im;omega),ei⟩}
theorem rJ (nm:ByteArray)(ln pr:Int)(rs:Bool)(rg:Int)(us:List (Bool×Int))(cs:List cN)(is:List az)(ns:List bB)(a5 a6 a7 a8:o_)(c5 c6 c7 c8:Nat)(S:Nat->Prop)(bz:Int)(w:w_)
  (Oa:nm.size<=9223372036854775807)(h5:dG w S a5 us)(h6:cQ w S a6 cs)(h7:bN w S a7 is)(h8:da w S a8 ns)(hB:∀ b,S b->b<w.heap.size)(hl:0<=bz)(wm:bz<=1048576) :
  c_ 20 #[.agg #[.string nm,i_ ln,i_ pr,.bool rs,i_ rg,.slice a5 us.length c5,.slice a6 cs.length c6,.slice a7 is.length c7,.slice a8 ns.length c8],i_ bz] w fun e w'=>
   e=.returned (i_ (pd bz (nm.size+us.length+fo cs+is.length+im ns)))/\b_ w w':=by
 have dD:∀ o,b_ w (w.alloc o):=fun o=>r_.alloc n_ o;have WS:∀ W:w_,b_ w W->∀ b,S b->b<W.heap.size:=fun W hW b h=>l_ (hB b h) hW.size;have K6:H_ (∀ W,b_ w W->cQ W S a6 cs):=fun W hW=>h6.keep hW hB;have K8:H_ (∀ W,b_ w W->da W S a8 ns):=fun W hW=>h8.keep hW hB;have HA:=af dD;have BG:=af WS;have H5:=h5.1;have H7:=h7.1;clear h6 h8 dD WS hB;by_cases q0:bz<nm.size
 {go_enter Tryz.func20,Tryz.ntmps20;go_wp2;go_ret;exact⟨dF (eo (by omega)).symm,aa HA _⟩};by_cases q1:bz-nm.size<us.length
 ·have B1:H_ (pd (bz-nm.size) (us.length)=-1):=eo q1;go_enter Tryz.func20,Tryz.ntmps20;go_wp2_with fail
  refine(kZ _ _ _ _ _ H5 (by omega) (by omega)).mono ?_;rintro e w' ⟨rfl,rfl⟩;rw[B1.o];go_wp2;go_ret;exact⟨dF (eo (by omega)).symm,aa HA _⟩
 have B1:H_ (pd (bz-nm.size) (us.length)=bz-nm.size-us.length):=eP (by omega);by_cases q2:bz-nm.size-us.length<fo cs
 ·have B2:H_ (pd (bz-nm.size-us.length) (fo cs)=-1):=eo q2;go_enter Tryz.func20,Tryz.ntmps20;go_wp2_with fail
  refine(kZ _ _ _ _ _ H5 (by omega) (by omega)).mono ?_;rintro e w' ⟨rfl,rfl⟩;rw[B1.o];go_wp2_with fail;refine(jH _ _ _ S _ _ (aa K6 _ (aa HA _)) (aa BG _ (aa HA _)) (by omega) (by omega)).mono ?_;rintro e w1 ⟨rfl,ar⟩;obtain⟨cT,fI⟩:=cz ar;have Id:w.heap.size+1<=w1.heap.size:=by{have:=ar.size;simpa using this};have cS:w.heap.size<w1.heap.size:=by{omega};have dL:H_ (b_ w w1):=(aa HA _).trans (ar.mono (by simp));clear ar;rw[B2.o];go_wp2;go_ret;exact⟨dF (eo (by omega)).symm,aa dL⟩
 have B2:H_ (pd (bz-nm.size-us.length) (fo cs)=bz-nm.size-us.length-fo cs):=eP (by omega);by_cases q3:bz-nm.size-us.length-fo cs<is.length
 ·have B3:H_ (pd (bz-nm.size-us.length-fo cs) (is.length)=-1):=eo q3;go_enter Tryz.func20,Tryz.ntmps20;go_wp2_with fail
  refine(kZ _ _ _ _ _ H5 (by omega) (by omega)).mono ?_;rintro e w' ⟨rfl,rfl⟩;rw[B1.o];go_wp2_with fail;refine(jH _ _ _ S _ _ (aa K6 _ (aa HA _)) (aa BG _ (aa HA _)) (by omega) (by omega)).mono ?_;rintro e w1 ⟨rfl,ar⟩;obtain⟨cT,fI⟩:=cz ar;have Id:w.heap.size+1<=w1.heap.size:=by{have:=ar.size;simpa using this};have cS:w.heap.size<w1.heap.size:=by{omega};have dL:H_ (b_ w w1):=(aa HA _).trans (ar.mono (by simp));clear ar;rw[B2.o];go_wp2_with fail;refine(oM _ _ _ _ _ H7 (by omega) (by omega)).mono ?_;rintro e w' ⟨rfl,rfl⟩;rw[B3.o];go_wp2;go_ret;exact⟨dF (eo (by omega)).symm,aa dL⟩
 have B3:H_ (pd (bz-nm.size-us.length-fo cs) (is.length)=bz-nm.size-us.length-fo cs-is.length):=eP (by omega);by_cases q4:bz-nm.size-us.length-fo cs-is.length<im ns
 ·have B4:H_ (pd (bz-nm.size-us.length-fo cs-is.length) (im ns)=-1):=eo q4;go_enter Tryz.func20,Tryz.ntmps20;go_wp2_with fail
  refine(kZ _ _ _ _ _ H5 (by omega) (by omega)).mono ?_;rintro e w' ⟨rfl,rfl⟩;rw[B1.o];go_wp2_with fail;refine(jH _ _ _ S _ _ (aa K6 _ (aa HA _)) (aa BG _ (aa HA _)) (by omega) (by omega)).mono ?_;rintro e w1 ⟨rfl,ar⟩;obtain⟨cT,fI⟩:=cz ar;have Id:w.heap.size+1<=w1.heap.size:=by{have:=ar.size;simpa using this};have cS:w.heap.size<w1.heap.size:=by{omega};have dL:H_ (b_ w w1):=(aa HA _).trans (ar.mono (by simp));clear ar;rw[B2.o];go_wp2_with fail;refine(oM _ _ _ _ _ H7 (by omega) (by omega)).mono ?_;rintro e w' ⟨rfl,rfl⟩;rw[B3.o];go_wp2_with fail;refine(pP _ _ _ S _ _ (aa K8 _ (aa dL)) (aa BG _ (aa dL)) (by omega) (by omega)).mono ?_;rintro e w2 ⟨rfl,bj⟩;have fM:H_ (b_ w w2):=(aa dL).trans (bj.mono (aa dL).size);clear bj;rw[B4.o];go_wp2;go_ret;exact⟨dF (eo (by omega)).symm,aa fM⟩
 have B4:H_ (pd (bz-nm.size-us.length-fo cs-is.length) (im ns)=bz-nm.size-us.length-fo cs-is.length-im ns):=eP (by omega);go_enter Tryz.func20,Tryz.ntmps20;go_wp2_with fail
 refine(kZ _ _ _ _ _ H5 (by omega) (by omega)).mono ?_;rintro e w' ⟨rfl,rfl⟩;rw[B1.o];go_wp2_with fail;refine(jH _ _ _ S _ _ (aa K6 _ (aa HA _)) (aa BG _ (aa HA _)) (by omega) (by omega)).mono ?_;rintro e w1 ⟨rfl,ar⟩;obtain⟨cT,fI⟩:=cz ar;have Id:w.heap.size+1<=w1.heap.size:=by{have:=ar.size;simpa using this};have cS:w.heap.size<w1.heap.size:=by{omega};have dL:H_ (b_ w w1):=(aa HA _).trans (ar.mono (by simp));clear ar;rw[B2.o];go_wp2_with fail;refine(oM _ _ _ _ _ H7 (by omega) (by omega)).mono ?_;rintro e w' ⟨rfl,rfl⟩;rw[B3.o];go_wp2_with fail;refine(pP _ _ _ S _ _ (aa K8 _ (aa dL)) (aa BG _ (aa dL)) (by omega) (by omega)).mono ?_;rintro e w2 ⟨rfl,bj⟩;have fM:H_ (b_ w w2):=(aa dL).trans (bj.mono (aa dL).size);clear bj;rw[B4.o];go_wp2;go_ret;exact⟨dF (by rw[eP (by omega)];omega),aa fM⟩
end Go.Proofs.YtcjfjflljdojlaaGreatDoor
