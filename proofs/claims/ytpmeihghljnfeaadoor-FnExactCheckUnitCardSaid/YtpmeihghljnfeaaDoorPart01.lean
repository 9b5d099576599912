import Derived.WalkKit
import Derived.Test.YtpmeihghljnfeaaDoorRows
import Derived.WalkSpells
import Derived.WalkLawsBesides
set_option linter.unusedSimpArgs false
set_option linter.unusedVariables false
set_option maxHeartbeats 400000
namespace Go.Proofs.YtpmeihghljnfeaaDoor
open Go.RowKit
theorem hide {p:Prop}(h:p):Hid p:=h
theorem unhide {p:Prop}(h:Hid p):p:=h
theorem bcell {W w1:World}(hb:Below W.heap.size W w1):(∀ b o,b<W.heap.size->w1.cell? ⟨b,o,none⟩=W.cell? ⟨b,o,none⟩)/\(∀ b o,b<W.heap.size->w1.frozen? ⟨b,o,none⟩=W.frozen? ⟨b,o,none⟩):=
 ⟨fun b o h=>hb.cell (p:=⟨b,o,none⟩) h,fun b o h=>hb.frozen (p:=⟨b,o,none⟩) h⟩
structure NodeD where
 kind:Int
 line:Int
 op:Int
 num:Int
 flt:Nat
 str:ByteArray
 refs:List Int
 kids:List Int
structure FnD where
 name:ByteArray
 line:Int
 params:Int
 rest:Bool
 vars:List ByteArray
 ups:List (Bool×Int)
 nodes:List NodeD
def NodeD.z:NodeD:=⟨0,0,0,0,0,ByteArray.empty,[],[]⟩
def FnD.z:FnD:=⟨ByteArray.empty,0,0,false,[],[],[]⟩
def IntsAt (w:World)(S:Nat->Prop)(a:Option Addr)(l:List Int):Prop:=
 l.length<=9223372036854775807/\(0<l.length->∃ b off,a=some ⟨b,off,none⟩/\S b/\∀ j,j<l.length->w.cell? ⟨b,off+j,none⟩=some (.int .i64 (l[j]?.getD 0)))
def StrsAt (w:World)(S:Nat->Prop)(a:Option Addr)(l:List ByteArray):Prop:=
 l.length<=9223372036854775807/\(0<l.length->∃ b off,a=some ⟨b,off,none⟩/\S b/\∀ j,j<l.length->(l[j]?.getD ByteArray.empty).size<=9223372036854775807/\w.cell? ⟨b,off+j,none⟩=some (.string (l[j]?.getD ByteArray.empty)))
def UpsAt (w:World)(S:Nat->Prop)(a:Option Addr)(l:List (Bool×Int)):Prop:=
 l.length<=9223372036854775807/\(0<l.length->∃ b off,a=some ⟨b,off,none⟩/\S b/\∀ j,j<l.length ->
  w.cell? ⟨b,off+j * 2,none⟩=some (.bool (l[j]?.getD (false,0)).1)/\w.cell? ⟨b,off+j * 2+1,none⟩=some (.int .i64 (l[j]?.getD (false,0)).2))
structure NodeCells (w:World)(S:Nat->Prop)(b o:Nat)(n:NodeD):Prop where
 kind:w.cell? ⟨b,o,none⟩=some (.int .i64 n.kind)
 line:w.cell? ⟨b,o+1,none⟩=some (.int .i64 n.line)
 op:w.cell? ⟨b,o+2,none⟩=some (.int .i64 n.op)
 num:w.cell? ⟨b,o+3,none⟩=some (.int .i64 n.num)
 flt:w.cell? ⟨b,o+4,none⟩=some (.float .f64 n.flt)
 strs:n.str.size<=9223372036854775807
 str:w.cell? ⟨b,o+5,none⟩=some (.string n.str)
 refs:∃ a c,w.cell? ⟨b,o+6,none⟩=some (.slice a n.refs.length c)/\IntsAt w S a n.refs
 kids:∃ a c,w.cell? ⟨b,o+7,none⟩=some (.slice a n.kids.length c)/\IntsAt w S a n.kids
 kcap:∃ a c,w.cell? ⟨b,o+7,none⟩=some (.slice a n.kids.length c)/\n.kids.length<=c
def NodesAt (w:World)(S:Nat->Prop)(a:Option Addr)(l:List NodeD):Prop:=
 l.length<=9223372036854775807/\(0<l.length->∃ b off,a=some ⟨b,off,none⟩/\S b/\∀ j,j<l.length->NodeCells w S b (off+j * 8) (l[j]?.getD NodeD.z))
structure FnCells (w:World)(S:Nat->Prop)(b o:Nat)(n:FnD):Prop where
 names:n.name.size<=9223372036854775807
 name:w.cell? ⟨b,o,none⟩=some (.string n.name)
 line:w.cell? ⟨b,o+1,none⟩=some (.int .i64 n.line)
 params:w.cell? ⟨b,o+2,none⟩=some (.int .i64 n.params)
 rest:w.cell? ⟨b,o+3,none⟩=some (.bool n.rest)
 vars:∃ a c,w.cell? ⟨b,o+4,none⟩=some (.slice a n.vars.length c)/\StrsAt w S a n.vars
 ups:∃ a c,w.cell? ⟨b,o+5,none⟩=some (.slice a n.ups.length c)/\UpsAt w S a n.ups
 nodes:∃ a c,w.cell? ⟨b,o+6,none⟩=some (.slice a n.nodes.length c)/\NodesAt w S a n.nodes
def FnsAt (w:World)(S:Nat->Prop)(a:Option Addr)(l:List FnD):Prop:=
 l.length<=9223372036854775807/\(0<l.length->∃ b off,a=some ⟨b,off,none⟩/\S b/\∀ j,j<l.length->FnCells w S b (off+j * 7) (l[j]?.getD FnD.z))
def New (G:Nat)(w:World)(b:Nat):Prop:=G<=b/\b<w.heap.size
def Same (S:Nat->Prop)(w w':World):Prop:=∀ b,S b->w'.heap[b]? = w.heap[b]?
section
variable {w w':World} {S S':Nat->Prop}
theorem Same.cell (h:Same S w w'){b:Nat}(hb:S b)(o:Nat):w'.cell? ⟨b,o,none⟩=w.cell? ⟨b,o,none⟩:=World.cell?_of_block (a:=⟨b,o,none⟩) (h b hb)
theorem Same.of_below {B:Nat}(h:Below B w w')(hS:∀ b,S b->b<B):Same S w w':=fun b hb=>h.block b (hS b hb)
theorem Same.trans {w2:World}(h:Same S w w')(k:Same S w' w2):Same S w w2:=fun b hb=>(k b hb).trans (h b hb)
theorem Same.mono (h:Same S' w w')(hS:∀ b,S b->S' b):Same S w w':=fun b hb=>h b (hS b hb)
theorem Same.refl:Same S w w:=fun _ _=>rfl
theorem Same.setCell (h:Same S w w'){a:Addr}(ha:¬S a.block)(v:Value):Same S w (w'.setCell a v):=fun b hb=>(Below.heap_setCell w' a v b (fun e=>ha (e ▸ hb))).trans (h b hb)
theorem Same.alloc (h:Same S w w')(hS:∀ b,S b->b<w'.heap.size)(o:Obj):Same S w (w'.alloc o):=fun b hb=>(Below.heap_alloc w' o b (hS b hb)).trans (h b hb)
theorem Same.below {w2:World}{B:Nat}(h:Same S w w')(hb:Below B w' w2)(hS:∀ b,S b->b<B):Same S w w2:=h.trans (.of_below hb hS)
theorem IntsAt.same {a:Option Addr}{l:List Int}(h:IntsAt w S a l)(hb:Same S w w'):IntsAt w' S a l:=
 ⟨h.1,fun hl=>by
  obtain⟨b,off,e,hs,hc⟩:=h.2 hl;exact⟨b,off,e,hs,fun j hj=>(hb.cell hs _).trans (hc j hj)⟩⟩
theorem StrsAt.same {a:Option Addr}{l:List ByteArray}(h:StrsAt w S a l)(hb:Same S w w'):StrsAt w' S a l:=
 ⟨h.1,fun hl=>by
  obtain⟨b,off,e,hs,hc⟩:=h.2 hl;exact⟨b,off,e,hs,fun j hj=>⟨(hc j hj).1,(hb.cell hs _).trans (hc j hj).2⟩⟩⟩
theorem UpsAt.same {a:Option Addr}{l:List (Bool×Int)}(h:UpsAt w S a l)(hb:Same S w w'):UpsAt w' S a l:=
 ⟨h.1,fun hl=>by
  obtain⟨b,off,e,hs,hc⟩:=h.2 hl;exact⟨b,off,e,hs,fun j hj=>⟨(hb.cell hs _).trans (hc j hj).1,(hb.cell hs _).trans (hc j hj).2⟩⟩⟩
theorem NodeCells.same {b o:Nat}{n:NodeD}(h:NodeCells w S b o n)(hb:Same S w w')(hs:S b):NodeCells w' S b o n where
 kind:=(hb.cell hs _).trans h.kind
 line:=(hb.cell hs _).trans h.line
 op:=(hb.cell hs _).trans h.op
 num:=(hb.cell hs _).trans h.num
 flt:=(hb.cell hs _).trans h.flt
 strs:=h.strs
 str:=(hb.cell hs _).trans h.str
 refs:=by obtain⟨a,c,e,k⟩:=h.refs;exact⟨a,c,(hb.cell hs _).trans e,k.same hb⟩
 kids:=by obtain⟨a,c,e,k⟩:=h.kids;exact⟨a,c,(hb.cell hs _).trans e,k.same hb⟩
 kcap:=by obtain⟨a,c,e,k⟩:=h.kcap;exact⟨a,c,(hb.cell hs _).trans e,k⟩
theorem NodesAt.same {a:Option Addr}{l:List NodeD}(h:NodesAt w S a l)(hb:Same S w w'):NodesAt w' S a l:=
 ⟨h.1,fun hl=>by
  obtain⟨b,off,e,hs,hc⟩:=h.2 hl;exact⟨b,off,e,hs,fun j hj=>(hc j hj).same hb hs⟩⟩
theorem FnCells.same {b o:Nat}{n:FnD}(h:FnCells w S b o n)(hb:Same S w w')(hs:S b):FnCells w' S b o n where
 names:=h.names
 name:=(hb.cell hs _).trans h.name
 line:=(hb.cell hs _).trans h.line
 params:=(hb.cell hs _).trans h.params
 rest:=(hb.cell hs _).trans h.rest
 vars:=by obtain⟨a,c,e,k⟩:=h.vars;exact⟨a,c,(hb.cell hs _).trans e,k.same hb⟩
 ups:=by obtain⟨a,c,e,k⟩:=h.ups;exact⟨a,c,(hb.cell hs _).trans e,k.same hb⟩
 nodes:=by obtain⟨a,c,e,k⟩:=h.nodes;exact⟨a,c,(hb.cell hs _).trans e,k.same hb⟩
theorem FnsAt.same {a:Option Addr}{l:List FnD}(h:FnsAt w S a l)(hb:Same S w w'):FnsAt w' S a l:=
 ⟨h.1,fun hl=>by
  obtain⟨b,off,e,hs,hc⟩:=h.2 hl;exact⟨b,off,e,hs,fun j hj=>(hc j hj).same hb hs⟩⟩
theorem IntsAt.keep {a:Option Addr}{l:List Int}{B:Nat}(h:IntsAt w S a l)(hb:Below B w w')(hS:∀ b,S b->b<B):IntsAt w' S a l:=h.same (.of_below hb hS)
theorem StrsAt.keep {a:Option Addr}{l:List ByteArray}{B:Nat}(h:StrsAt w S a l)(hb:Below B w w')(hS:∀ b,S b->b<B):StrsAt w' S a l:=h.same (.of_below hb hS)
theorem UpsAt.keep {a:Option Addr}{l:List (Bool×Int)}{B:Nat}(h:UpsAt w S a l)(hb:Below B w w')(hS:∀ b,S b->b<B):UpsAt w' S a l:=h.same (.of_below hb hS)
theorem NodesAt.keep {a:Option Addr}{l:List NodeD}{B:Nat}(h:NodesAt w S a l)(hb:Below B w w')(hS:∀ b,S b->b<B):NodesAt w' S a l:=h.same (.of_below hb hS)
theorem FnsAt.keep {a:Option Addr}{l:List FnD}{B:Nat}(h:FnsAt w S a l)(hb:Below B w w')(hS:∀ b,S b->b<B):FnsAt w' S a l:=h.same (.of_below hb hS)
theorem IntsAt.mono {a:Option Addr}{l:List Int}(h:IntsAt w S a l)(hS:∀ b,S b->S' b):IntsAt w S' a l:=
 ⟨h.1,fun hl=>by obtain⟨b,off,e,hs,hc⟩:=h.2 hl;exact⟨b,off,e,hS b hs,hc⟩⟩
theorem StrsAt.mono {a:Option Addr}{l:List ByteArray}(h:StrsAt w S a l)(hS:∀ b,S b->S' b):StrsAt w S' a l:=
 ⟨h.1,fun hl=>by obtain⟨b,off,e,hs,hc⟩:=h.2 hl;exact⟨b,off,e,hS b hs,hc⟩⟩
theorem UpsAt.mono {a:Option Addr}{l:List (Bool×Int)}(h:UpsAt w S a l)(hS:∀ b,S b->S' b):UpsAt w S' a l:=
 ⟨h.1,fun hl=>by obtain⟨b,off,e,hs,hc⟩:=h.2 hl;exact⟨b,off,e,hS b hs,hc⟩⟩
theorem NodeCells.mono {b o:Nat}{n:NodeD}(h:NodeCells w S b o n)(hS:∀ b,S b->S' b):NodeCells w S' b o n:=
 {kind:=h.kind,line:=h.line,op:=h.op,num:=h.num,flt:=h.flt,strs:=h.strs,str:=h.str,refs:=by obtain⟨a,c,e,k⟩:=h.refs;exact⟨a,c,e,k.mono hS⟩
  kids:=by obtain⟨a,c,e,k⟩:=h.kids;exact⟨a,c,e,k.mono hS⟩
  kcap:=h.kcap }
theorem NodesAt.mono {a:Option Addr}{l:List NodeD}(h:NodesAt w S a l)(hS:∀ b,S b->S' b):NodesAt w S' a l:=
 ⟨h.1,fun hl=>by obtain⟨b,off,e,hs,hc⟩:=h.2 hl;exact⟨b,off,e,hS b hs,fun j hj=>(hc j hj).mono hS⟩⟩
theorem FnCells.mono {b o:Nat}{n:FnD}(h:FnCells w S b o n)(hS:∀ b,S b->S' b):FnCells w S' b o n:=
 {names:=h.names,name:=h.name,line:=h.line,params:=h.params,rest:=h.rest,vars:=by obtain⟨a,c,e,k⟩:=h.vars;exact⟨a,c,e,k.mono hS⟩
  ups:=by obtain⟨a,c,e,k⟩:=h.ups;exact⟨a,c,e,k.mono hS⟩
  nodes:=by obtain⟨a,c,e,k⟩:=h.nodes;exact⟨a,c,e,k.mono hS⟩ }
theorem FnsAt.mono {a:Option Addr}{l:List FnD}(h:FnsAt w S a l)(hS:∀ b,S b->S' b):FnsAt w S' a l:=
 ⟨h.1,fun hl=>by obtain⟨b,off,e,hs,hc⟩:=h.2 hl;exact⟨b,off,e,hS b hs,fun j hj=>(hc j hj).mono hS⟩⟩
end
def sumTo {α:Type}(f:α->Nat)(l:List α)(k:Nat):Nat:=((l.take k).map f).sum
def sumAll {α:Type}(f:α->Nat)(l:List α):Nat:=(l.map f).sum
theorem sumTo_zero {α:Type}(f:α->Nat)(l:List α):sumTo f l 0=0:=by simp[sumTo]
theorem sumTo_succ {α:Type}(f:α->Nat)(l:List α)(k:Nat)(d:α)(h:k<l.length):sumTo f l (k+1)=sumTo f l k+f (l[k]?.getD d):=by
 unfold sumTo;rw[List.take_succ_eq_append_getElem h,List.map_append,List.sum_append,List.getElem?_eq_getElem h];simp only[List.map_cons,List.map_nil,List.sum_cons,List.sum_nil,Nat.add_zero,Option.getD_some]
theorem sumTo_len {α:Type}(f:α->Nat)(l:List α):sumTo f l l.length=sumAll f l:=by simp[sumTo,sumAll]
theorem sumTo_le {α:Type}(f:α->Nat)(l:List α)(k:Nat):sumTo f l k<=sumAll f l:=by
 unfold sumTo sumAll
 conv=>rhs;rw[<-List.take_append_drop k l]
 rw[List.map_append,List.sum_append];exact Nat.le_add_right _ _
def bud (left:Int)(t:Nat):Int:=if left<t then -1 else left-t
theorem bud_no {left:Int}{t:Nat}(h:left<t):bud left t=-1:=by simp[bud,h]
theorem bud_yes {left:Int}{t:Nat}(h:(t:Int)<=left):bud left t=left-t:=by unfold bud;rw[if_neg (by omega)]
def tStrs (l:List ByteArray):Nat:=l.length+sumAll ByteArray.size l
def tNode (n:NodeD):Nat:=n.str.size+n.refs.length+n.kids.length
def tNodes (l:List NodeD):Nat:=l.length+sumAll tNode l
def tFn (f:FnD):Nat:=f.name.size+tStrs f.vars+f.ups.length+tNodes f.nodes
def tFns (l:List FnD):Nat:=l.length+sumAll tFn l
theorem ret_int {k:IntKind}{a b:Int}(h:a=b):Ending.returned (.int k a)=.returned (.int k b):=by rw[h]
theorem szIntS_any (a:Option Addr)(n c:Nat)(left:Int)(w:World)(hn:n<=9223372036854775807)(hl:0<=left)(hl2:left<=1048576) :
  Calls Tryd.prog 92 #[.slice a n c,.int .i64 left] w fun e w'=>e=.returned (.int .i64 (bud left n))/\w'=w:=by
 by_cases h:left<n
 ·go_enter Tryd.func92,Tryd.ntmps92
  go_wp2
  go_ret;exact⟨ret_int (bud_no h).symm,rfl⟩
 ·go_enter Tryd.func92,Tryd.ntmps92
  go_wp2
  go_ret;exact⟨ret_int (bud_yes (by omega)).symm,rfl⟩
theorem szUpS_any (a:Option Addr)(n c:Nat)(left:Int)(w:World)(hn:n<=9223372036854775807)(hl:0<=left)(hl2:left<=1048576) :
  Calls Tryd.prog 42 #[.slice a n c,.int .i64 left] w fun e w'=>e=.returned (.int .i64 (bud left n))/\w'=w:=by
 by_cases h:left<n
 ·go_enter Tryd.func42,Tryd.ntmps42
  go_wp2
  go_ret;exact⟨ret_int (bud_no h).symm,rfl⟩
 ·go_enter Tryd.func42,Tryd.ntmps42
  go_wp2
  go_ret;exact⟨ret_int (bud_yes (by omega)).symm,rfl⟩
theorem szStringS_any (a:Option Addr)(l:List ByteArray)(c:Nat)(S:Nat->Prop)(left:Int)(w:World)(hs:StrsAt w S a l)(hl:0<=left)(hl2:left<=1048576) :
  Calls Tryd.prog 41 #[.slice a l.length c,.int .i64 left] w fun e w'=>e=.returned (.int .i64 (bud left (tStrs l)))/\w'=w:=by
 obtain⟨hn,hc⟩:=hs;by_cases h:left<l.length
 ·go_enter Tryd.func41,Tryd.ntmps41
  go_wp2
  go_ret;exact⟨ret_int (bud_no (by unfold tStrs;omega)).symm,rfl⟩
 ·have hle:(l.length:Int)<=left:=by omega
  clear h;have hbig:=hn;go_enter Tryd.func41,Tryd.ntmps41
  go_wp2
  go_loop [1,5] (fun t i=>∃(k:Nat) (x:Int),k<=l.length/\i=.int .i64 k/\t=.int .i64 x/\0<=x/\x<=1048576/\Hid (x=left-l.length-sumTo ByteArray.size l k)) (fun _ i=>l.length-(intOf i).toNat)
  case atStart=>exact⟨0,_,Nat.zero_le _,rfl,rfl,by omega,by omega,show _=_ by rw[sumTo_zero];omega⟩
  case round=>
   obtain⟨k,x,hk,rfl,rfl,hx,hx2,hxe⟩:=hrel;by_cases hlt:k<l.length
   ·obtain⟨b,off,rfl,hb,hcc⟩:=hc (by omega);obtain⟨hsz,hcell⟩:=hcc k hlt;have hsucc:=sumTo_succ ByteArray.size l k ByteArray.empty hlt;have hle2:=sumTo_le ByteArray.size l (k+1);have HS:Hid (sumTo ByteArray.size l (k+1)=sumTo ByteArray.size l k+(l[k]?.getD ByteArray.empty).size/\sumTo ByteArray.size l (k+1)<=sumAll ByteArray.size l):=⟨hsucc,hle2⟩;clear hsucc hle2 hcc;generalize l[k]?.getD ByteArray.empty=s at *;by_cases hq:x<s.size
    ·go_wp2
     go_ret;have h1:=HS.out;have h2:=hxe.out;exact⟨ret_int (bud_no (by unfold tStrs;omega)).symm,rfl⟩
    ·go_wp2
     go_round
     case rel=>
      have h1:=HS.out;have h2:=hxe.out;exact⟨k+1,x-s.size,by omega,by go_num,by go_num,by omega,by omega,show _=_ by omega⟩
     case measure=>simp[intOf];omega
   ·have hkk:k=l.length:=by omega
    have HK:Hid (k=l.length):=hkk;clear hkk
    go_wp2
    go_ret;have h1:=sumTo_len ByteArray.size l;have h2:=hxe.out;have h3:=HK.out;rw[h3,h1]at h2;exact⟨ret_int (by rw[bud_yes (by unfold tStrs;omega)];unfold tStrs;omega),rfl⟩
theorem szNode_any (k ln op nm:Int)(fl:Nat)(s:ByteArray)(a1 a2:Option Addr)(n1 c1 n2 c2:Nat)(left:Int)(w:World)(hs:s.size<=9223372036854775807)(h1:n1<=9223372036854775807)(h2:n2<=9223372036854775807)(hl:0<=left)(hl2:left<=1048576) :
  Calls Tryd.prog 70 #[.agg #[.int .i64 k,.int .i64 ln,.int .i64 op,.int .i64 nm,.float .f64 fl,.string s,.slice a1 n1 c1,.slice a2 n2 c2],.int .i64 left] w fun e w'=>
   e=.returned (.int .i64 (bud left (s.size+n1+n2)))/\Below w.heap.size w w':=by
 by_cases q1:left<s.size
 ·go_enter Tryd.func70,Tryd.ntmps70;go_wp2_with fail
  go_ret;exact⟨ret_int (bud_no (by omega)).symm,(Below.refl _ _).alloc (Nat.le_refl _) _⟩
 by_cases q2:left-s.size<n1
 ·have B1:Hid (bud (left-s.size) n1=-1):=bud_no q2;go_enter Tryd.func70,Tryd.ntmps70;go_wp2_with fail
  refine(szIntS_any _ _ _ _ _ h1 (by omega) (by omega)).mono ?_;rintro e w' ⟨rfl,rfl⟩;rw[B1.out];go_wp2_with fail
  go_ret;exact⟨ret_int (bud_no (by omega)).symm,(Below.refl _ _).alloc (Nat.le_refl _) _⟩
 have B1:Hid (bud (left-s.size) n1=left-s.size-n1):=bud_yes (by omega);by_cases q3:left-s.size-n1<n2
 ·have B2:Hid (bud (left-s.size-n1) n2=-1):=bud_no q3;go_enter Tryd.func70,Tryd.ntmps70;go_wp2_with fail
  refine(szIntS_any _ _ _ _ _ h1 (by omega) (by omega)).mono ?_;rintro e w' ⟨rfl,rfl⟩;rw[B1.out];go_wp2_with fail
  refine(szIntS_any _ _ _ _ _ h2 (by omega) (by omega)).mono ?_;rintro e w' ⟨rfl,rfl⟩;rw[B2.out];go_wp2_with fail
  go_ret;exact⟨ret_int (bud_no (by omega)).symm,(Below.refl _ _).alloc (Nat.le_refl _) _⟩
 ·have B2:Hid (bud (left-s.size-n1) n2=left-s.size-n1-n2):=bud_yes (by omega);go_enter Tryd.func70,Tryd.ntmps70;go_wp2_with fail
  refine(szIntS_any _ _ _ _ _ h1 (by omega) (by omega)).mono ?_;rintro e w' ⟨rfl,rfl⟩;rw[B1.out];go_wp2_with fail
  refine(szIntS_any _ _ _ _ _ h2 (by omega) (by omega)).mono ?_;rintro e w' ⟨rfl,rfl⟩;rw[B2.out];go_wp2_with fail
  go_ret;exact⟨ret_int (by rw[bud_yes (by omega)];omega),(Below.refl _ _).alloc (Nat.le_refl _) _⟩
theorem szNodeS_any (a:Option Addr)(l:List NodeD)(c:Nat)(S:Nat->Prop)(left:Int)(w:World)(hs:NodesAt w S a l)(hB:∀ b,S b->b<w.heap.size)(hl:0<=left)(hl2:left<=1048576) :
  Calls Tryd.prog 43 #[.slice a l.length c,.int .i64 left] w fun e w'=>e=.returned (.int .i64 (bud left (tNodes l)))/\Below w.heap.size w w':=by
 have hn:=hs.1;by_cases h:left<l.length
 ·go_enter Tryd.func43,Tryd.ntmps43;go_wp2_with fail
  go_ret;exact⟨ret_int (bud_no (by unfold tNodes;omega)).symm,Below.refl _ _⟩
 ·have hle:(l.length:Int)<=left:=by omega
  clear h;go_enter Tryd.func43,Tryd.ntmps43;go_wp2_with fail
  go_loopw [1,5] (fun t i wr=>∃(k:Nat) (x:Int),k<=l.length/\i=.int .i64 k/\t=.int .i64 x/\0<=x/\x<=1048576/\Hid (x=left-l.length-sumTo tNode l k)/\Below w.heap.size w wr) (fun _ i _=>l.length-(intOf i).toNat)
  case atStart=>exact⟨0,_,Nat.zero_le _,rfl,rfl,by omega,by omega,show _=_ by rw[sumTo_zero];omega,Below.refl _ _⟩
  case round=>
   obtain⟨k,x,hk,rfl,rfl,hx,hx2,hxe,hbw⟩:=hrel;by_cases hlt:k<l.length
   ·obtain⟨b,off,rfl,hb,hcc⟩:=(hs.keep hbw hB).2 (by omega);have N:=hcc k hlt;have HS:Hid (sumTo tNode l (k+1)=sumTo tNode l k+tNode (l[k]?.getD NodeD.z)/\sumTo tNode l (k+1)<=sumAll tNode l):=⟨sumTo_succ tNode l k NodeD.z hlt,sumTo_le tNode l (k+1)⟩;clear hcc;generalize l[k]?.getD NodeD.z=nd at *;obtain⟨ra,rc,hr,hrI⟩:=N.refs;obtain⟨ka,kc,hkk,hkI⟩:=N.kids;have c0:=N.kind;have c1:=N.line;have c2:=N.op;have c3:=N.num;have c4:=N.flt;have c5:=N.str;by_cases hq:x<tNode nd
    ·have B1:Hid (bud x (nd.str.size+nd.refs.length+nd.kids.length)=-1):=bud_no (by unfold tNode at hq;omega);go_wp2_with fail
     refine(szNode_any _ _ _ _ _ _ _ _ _ _ _ _ _ _ N.strs hrI.1 hkI.1 (by omega) (by omega)).mono ?_;rintro e w' ⟨rfl,hb'⟩;rw[B1.out];go_wp2_with fail
     go_ret;have h1:=HS.out;have h2:=hxe.out;exact⟨ret_int (bud_no (by unfold tNodes;omega)).symm,hbw.trans (hb'.mono hbw.size)⟩
    ·have B1:Hid (bud x (nd.str.size+nd.refs.length+nd.kids.length)=x-tNode nd):=by show _=_;rw[bud_yes (by unfold tNode at hq;omega)];unfold tNode;omega
     generalize tNode nd=tn at *;go_wp2_with fail
     refine(szNode_any _ _ _ _ _ _ _ _ _ _ _ _ _ _ N.strs hrI.1 hkI.1 (by omega) (by omega)).mono ?_;rintro e w' ⟨rfl,hb'⟩;rw[B1.out];go_wp2_with fail
     go_roundw
     case rel=>
      have h1:=HS.out;have h2:=hxe.out;exact⟨k+1,x-tn,by omega,by go_num,by go_num,by omega,by omega,show _=_ by omega,hbw.trans (hb'.mono hbw.size)⟩
     case measure=>simp[intOf];omega
   ·have HK:Hid (k=l.length):=by show _=_;omega
    go_wp2_with fail
    go_ret;have h1:=sumTo_len tNode l;have h2:=hxe.out;have h3:=HK.out;rw[h3,h1]at h2;exact⟨ret_int (by rw[bud_yes (by unfold tNodes;omega)];unfold tNodes;omega),hbw⟩
theorem szFn_any (nm:ByteArray)(ln pr:Int)(rs:Bool)(vs:List ByteArray)(us:List (Bool×Int))(ns:List NodeD)(a4 a5 a6:Option Addr)(c4 c5 c6:Nat)(S:Nat->Prop)(left:Int)(w:World)
  (hnm:nm.size<=9223372036854775807)(h4:StrsAt w S a4 vs)(h5:UpsAt w S a5 us)(h6:NodesAt w S a6 ns)(hB:∀ b,S b->b<w.heap.size)(hl:0<=left)(hl2:left<=1048576) :
  Calls Tryd.prog 22 #[.agg #[.string nm,.int .i64 ln,.int .i64 pr,.bool rs,.slice a4 vs.length c4,.slice a5 us.length c5,.slice a6 ns.length c6],.int .i64 left] w fun e w'=>
   e=.returned (.int .i64 (bud left (nm.size+tStrs vs+us.length+tNodes ns)))/\Below w.heap.size w w':=by
 have hbA:∀ o,Below w.heap.size w (w.alloc o):=fun o=>(Below.refl _ _).alloc (Nat.le_refl _) o;have hBA:∀ o:Obj,∀ b,S b->b<(w.alloc o).heap.size:=fun o b h=>Nat.lt_of_lt_of_le (hB b h) (hbA o).size;have K4:Hid (∀ o,StrsAt (w.alloc o) S a4 vs):=fun o=>h4.keep (hbA o) hB;have K5:Hid (∀ o,UpsAt (w.alloc o) S a5 us):=fun o=>h5.keep (hbA o) hB;have K6:Hid (∀ o,NodesAt (w.alloc o) S a6 ns):=fun o=>h6.keep (hbA o) hB;have H5:=h5.1;by_cases q1:left<nm.size
 ·go_enter Tryd.func22,Tryd.ntmps22;go_wp2_with fail
  go_ret;exact⟨ret_int (bud_no (by omega)).symm,hbA _⟩
 by_cases q2:left-nm.size<tStrs vs
 ·have B1:Hid (bud (left-nm.size) (tStrs vs)=-1):=bud_no q2;go_enter Tryd.func22,Tryd.ntmps22;go_wp2_with fail
  refine(szStringS_any _ _ _ S _ _ (K4.out _) (by omega) (by omega)).mono ?_;rintro e w' ⟨rfl,rfl⟩;rw[B1.out];go_wp2_with fail
  go_ret;exact⟨ret_int (bud_no (by omega)).symm,hbA _⟩
 have B1:Hid (bud (left-nm.size) (tStrs vs)=left-nm.size-tStrs vs):=bud_yes (by omega);by_cases q3:left-nm.size-tStrs vs<us.length
 ·have B2:Hid (bud (left-nm.size-tStrs vs) us.length=-1):=bud_no q3;go_enter Tryd.func22,Tryd.ntmps22;go_wp2_with fail
  refine(szStringS_any _ _ _ S _ _ (K4.out _) (by omega) (by omega)).mono ?_;rintro e w' ⟨rfl,rfl⟩;rw[B1.out];go_wp2_with fail
  refine(szUpS_any _ _ _ _ _ H5 (by omega) (by omega)).mono ?_;rintro e w' ⟨rfl,rfl⟩;rw[B2.out];go_wp2_with fail
  go_ret;exact⟨ret_int (bud_no (by omega)).symm,hbA _⟩
 have B2:Hid (bud (left-nm.size-tStrs vs) us.length=left-nm.size-tStrs vs-us.length):=bud_yes (by omega);by_cases q4:left-nm.size-tStrs vs-us.length<tNodes ns
 ·have B3:Hid (bud (left-nm.size-tStrs vs-us.length) (tNodes ns)=-1):=bud_no q4;go_enter Tryd.func22,Tryd.ntmps22;go_wp2_with fail
  refine(szStringS_any _ _ _ S _ _ (K4.out _) (by omega) (by omega)).mono ?_;rintro e w' ⟨rfl,rfl⟩;rw[B1.out];go_wp2_with fail
  refine(szUpS_any _ _ _ _ _ H5 (by omega) (by omega)).mono ?_;rintro e w' ⟨rfl,rfl⟩;rw[B2.out];go_wp2_with fail
  refine(szNodeS_any _ _ _ S _ _ (K6.out _) (hBA _) (by omega) (by omega)).mono ?_;rintro e w' ⟨rfl,hb'⟩;rw[B3.out];go_wp2_with fail
  go_ret;exact⟨ret_int (bud_no (by omega)).symm,(hbA _).trans (hb'.mono (by simp))⟩
 ·have B3:Hid (bud (left-nm.size-tStrs vs-us.length) (tNodes ns)=left-nm.size-tStrs vs-us.length-tNodes ns):=bud_yes (by omega);go_enter Tryd.func22,Tryd.ntmps22;go_wp2_with fail
  refine(szStringS_any _ _ _ S _ _ (K4.out _) (by omega) (by omega)).mono ?_;rintro e w' ⟨rfl,rfl⟩;rw[B1.out];go_wp2_with fail
  refine(szUpS_any _ _ _ _ _ H5 (by omega) (by omega)).mono ?_;rintro e w' ⟨rfl,rfl⟩;rw[B2.out];go_wp2_with fail
  refine(szNodeS_any _ _ _ S _ _ (K6.out _) (hBA _) (by omega) (by omega)).mono ?_;rintro e w' ⟨rfl,hb'⟩;rw[B3.out];go_wp2_with fail
  go_ret;exact⟨ret_int (by rw[bud_yes (by omega)];omega),(hbA _).trans (hb'.mono (by simp))⟩
theorem szFnS_any (a:Option Addr)(l:List FnD)(c:Nat)(S:Nat->Prop)(left:Int)(w:World)(hs:FnsAt w S a l)(hB:∀ b,S b->b<w.heap.size)(hl:0<=left)(hl2:left<=1048576) :
  Calls Tryd.prog 10 #[.slice a l.length c,.int .i64 left] w fun e w'=>e=.returned (.int .i64 (bud left (tFns l)))/\Below w.heap.size w w':=by
 have hn:=hs.1;by_cases h:left<l.length
 ·go_enter Tryd.func10,Tryd.ntmps10;go_wp2_with fail
  go_ret;exact⟨ret_int (bud_no (by unfold tFns;omega)).symm,Below.refl _ _⟩
 ·have hle:(l.length:Int)<=left:=by omega
  clear h;go_enter Tryd.func10,Tryd.ntmps10;go_wp2_with fail
  go_loopw [1,5] (fun t i wr=>∃(k:Nat) (x:Int),k<=l.length/\i=.int .i64 k/\t=.int .i64 x/\0<=x/\x<=1048576/\Hid (x=left-l.length-sumTo tFn l k)/\Below w.heap.size w wr) (fun _ i _=>l.length-(intOf i).toNat)
  case atStart=>exact⟨0,_,Nat.zero_le _,rfl,rfl,by omega,by omega,show _=_ by rw[sumTo_zero];omega,Below.refl _ _⟩
  case round=>
   obtain⟨k,x,hk,rfl,rfl,hx,hx2,hxe,hbw⟩:=hrel;have hBr:∀ b,S b->b<wr.heap.size:=fun b h=>Nat.lt_of_lt_of_le (hB b h) hbw.size;by_cases hlt:k<l.length
   ·obtain⟨b,off,rfl,hb,hcc⟩:=(hs.keep hbw hB).2 (by omega);have N:=hcc k hlt;have HS:Hid (sumTo tFn l (k+1)=sumTo tFn l k+tFn (l[k]?.getD FnD.z)/\sumTo tFn l (k+1)<=sumAll tFn l):=⟨sumTo_succ tFn l k FnD.z hlt,sumTo_le tFn l (k+1)⟩;clear hcc;generalize l[k]?.getD FnD.z=fd at *;obtain⟨a4,c4,h4,H4⟩:=N.vars;obtain⟨a5,c5,h5,H5⟩:=N.ups;obtain⟨a6,c6,h6,H6⟩:=N.nodes;have c0:=N.name;have c1:=N.line;have c2:=N.params;have c3:=N.rest;by_cases hq:x<tFn fd
    ·have B1:Hid (bud x (fd.name.size+tStrs fd.vars+fd.ups.length+tNodes fd.nodes)=-1):=bud_no (by unfold tFn at hq;omega);go_wp2_with fail
     refine(szFn_any _ _ _ _ _ _ _ _ _ _ _ _ _ S _ _ N.names H4 H5 H6 hBr (by omega) (by omega)).mono ?_;rintro e w' ⟨rfl,hb'⟩;rw[B1.out];go_wp2_with fail
     go_ret;have h1:=HS.out;have h2:=hxe.out;exact⟨ret_int (bud_no (by unfold tFns;omega)).symm,hbw.trans (hb'.mono hbw.size)⟩
    ·have B1:Hid (bud x (fd.name.size+tStrs fd.vars+fd.ups.length+tNodes fd.nodes)=x-tFn fd):=by show _=_;rw[bud_yes (by unfold tFn at hq;omega)];unfold tFn;omega
     generalize tFn fd=tn at *;go_wp2_with fail
     refine(szFn_any _ _ _ _ _ _ _ _ _ _ _ _ _ S _ _ N.names H4 H5 H6 hBr (by omega) (by omega)).mono ?_;rintro e w' ⟨rfl,hb'⟩;rw[B1.out];go_wp2_with fail
     go_roundw
     case rel=>
      have h1:=HS.out;have h2:=hxe.out;exact⟨k+1,x-tn,by omega,by go_num,by go_num,by omega,by omega,show _=_ by omega,hbw.trans (hb'.mono hbw.size)⟩
     case measure=>simp[intOf];omega
   ·have HK:Hid (k=l.length):=by show _=_;omega
    go_wp2_with fail
    go_ret;have h1:=sumTo_len tFn l;have h2:=hxe.out;have h3:=HK.out;rw[h3,h1]at h2;exact⟨ret_int (by rw[bud_yes (by unfold tFns;omega)];unfold tFns;omega),hbw⟩
theorem szUnit_any (a:Option Addr)(l:List FnD)(c:Nat)(S:Nat->Prop)(w:World)(hs:FnsAt w S a l)(hB:∀ b,S b->b<w.heap.size) :
  Calls Tryd.prog 4 #[.agg #[.slice a l.length c],.int .i64 1048576] w fun e w'=>e=.returned (.int .i64 (bud 1048576 (tFns l)))/\Below w.heap.size w w':=by
 have hbA:∀ o,Below w.heap.size w (w.alloc o):=fun o=>(Below.refl _ _).alloc (Nat.le_refl _) o;have hBA:∀ o:Obj,∀ b,S b->b<(w.alloc o).heap.size:=fun o b h=>Nat.lt_of_lt_of_le (hB b h) (hbA o).size;have K:Hid (∀ o,FnsAt (w.alloc o) S a l):=fun o=>hs.keep (hbA o) hB;by_cases q:(1048576:Int)<tFns l
 ·have B1:Hid (bud 1048576 (tFns l)=-1):=bud_no q;go_enter Tryd.func4,Tryd.ntmps4;go_wp2_with fail
  refine(szFnS_any _ _ _ S _ _ (K.out _) (hBA _) (by omega) (by omega)).mono ?_;rintro e w' ⟨rfl,hb'⟩;rw[B1.out];go_wp2_with fail
  go_ret;exact⟨ret_int B1.out.symm,(hbA _).trans (hb'.mono (by simp))⟩
 ·have B1:Hid (bud 1048576 (tFns l)=1048576-tFns l):=bud_yes (by omega);go_enter Tryd.func4,Tryd.ntmps4;go_wp2_with fail
  refine(szFnS_any _ _ _ S _ _ (K.out _) (hBA _) (by omega) (by omega)).mono ?_;rintro e w' ⟨rfl,hb'⟩;rw[B1.out];go_wp2_with fail
  go_ret;exact⟨ret_int B1.out.symm,(hbA _).trans (hb'.mono (by simp))⟩
end Go.Proofs.YtpmeihghljnfeaaDoor
