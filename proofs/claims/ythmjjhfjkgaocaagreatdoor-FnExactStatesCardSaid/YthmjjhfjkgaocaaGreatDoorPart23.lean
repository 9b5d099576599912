import Derived.Test.YthmjjhfjkgaocaaGreatDoorPart01
import Derived.Test.YthmjjhfjkgaocaaGreatDoorChecked
import Derived.Deep.Slices
import Derived.KernelRfl
import Derived.Test.YthmjjhfjkgaocaaGreatDoorPart13
import Derived.WalkKit
import Derived.Deep.LoopGhost
set_option linter.unusedSimpArgs false
set_option linter.unusedVariables false
set_option maxHeartbeats 4000000
set_option maxRecDepth 100000
namespace Go.Proofs.YthmjjhfjkgaocaaGreatDoor
open Go.RowKit Go.WideShapes
theorem list_of {α:Type}(d:α){n:Nat}{p:Nat→α→Prop}(h:∀ i,i<n→∃ x,p i x):∃ l:List α,l.length=n∧∀ i,i<n→p i (l[i]?.getD d):=by
 obtain⟨f,hf⟩:=@Go.Deep.choose_lt α ⟨d⟩ n p h
 refine⟨(List.range n).map f,by simp,fun i hi=>?_⟩
 have e:((List.range n).map f)[i]?.getD d=f i:=by
  rw[List.getElem?_map,List.getElem?_range hi];rfl
 rw[e];exact hf i hi
theorem maxLen_eq:maxLen=9223372036854775807:=rfl
theorem take_one {cs:List Value}{k:Nat}{v:Value}(h:(cs.drop k).take 1=[v]):cs[k]? = some v:=by
 have h1:((cs.drop k).take 1)[0]? = some v:=by rw[h];rfl
 rw[List.getElem?_take]at h1
 simpa using h1
section
variable {H:Type} {enc:TypeId×Value→H} {P:Program} {w:World} {base:Nat} {spare:Nat→Bool} {held:Bool}
theorem trod_float {t:TypeId}{k:FloatKind}{fuel:Nat}{cs:List Value}{x:DataW H×List MemPlace}(ht:P.underlying t=some (.float k))(h:DataW.trod enc P w base spare held fuel t cs=some x):∃ b,cs=[.float k b]:=by
 cases fuel with
 | zero=>simp[DataW.trod]at h
 | succ n=>
  unfold DataW.trod at h
  simp only[ht]at h
  split at h<;>simp_all
theorem slice_at {t e:TypeId}{sz:Nat}{fuel:Nat}{cs:List Value}{x:DataW H×List MemPlace}(ht:P.underlying t=some (.slice e))(he:P.cellsOf e=sz)(hz:0<sz)(h:DataW.trod enc P w base spare held fuel t cs=some x) :
  ∃(a:Option Addr) (len cap:Nat),cs=[.slice a len cap]∧len≤cap∧len≤9223372036854775807∧(0<len→∃ b off,a=some ⟨b,off,none⟩∧b<w.heap.size ∧
   ∀ i,i<len→∃(n:Nat) (cs':List Value) (y:DataW H×List MemPlace),DataW.trod enc P w base spare held n e cs'=some y∧cs'.length=sz∧∀ j,j<sz→w.cell? ⟨b,off+i * sz+j,none⟩=cs'[j]?):=by
 rcases Go.Deep.open_slice ht h with⟨rfl,_⟩ | ⟨a,len,cap,m,n,D,Pl,rfl,_,hl,hm,hmm,_,hx⟩
 ·exact⟨none,0,0,rfl,Nat.le_refl _,by omega,fun h=>absurd h (Nat.lt_irrefl _)⟩
 ·rw[maxLen_eq]at hm
  refine⟨some a,len,cap,rfl,hl,by omega,fun h0=>?_⟩
  have hlm:len≤m:=by rw[hmm];split<;>omega
  rw[he]at hx
  obtain⟨c0,h1,_⟩:=hx 0 (by omega)
  obtain⟨_,hlen,hcell⟩:=World.cells?_some h1
  obtain⟨b,off,spot⟩:=a
  have hc0:=hcell 0 hz
  have e0:c0[0]? = some c0[0]:=List.getElem?_eq_getElem (by omega)
  rw[e0]at hc0
  have hspot:spot=none:=by simpa[Addr.add]using World.cell?_spot hc0
  subst hspot
  refine⟨b,off,rfl,?_,fun i hi=>?_⟩
  ·have:=World.block_lt_of_cell? _ _ hc0
   simpa[Addr.add]using this
  ·obtain⟨cs',g1,g2⟩:=hx i (by omega)
   obtain⟨_,glen,gcell⟩:=World.cells?_some g1
   refine⟨n,cs',_,g2,glen,fun j hj=>?_⟩
   rw[←gcell j hj,add_plain,add_plain]
theorem field_at {t:TypeId}{fs:Array Field}{fuel:Nat}{cs:List Value}{x:DataW H×List MemPlace}(ht:P.underlying t=some (.struct fs))(h:DataW.trod enc P w base spare held fuel t cs=some x)(i:Nat){k ty:Nat}(hf:(fs[i]?).map (fun f=>(f.offset,f.type))=some (k,ty))(hc:P.cellsOf ty=1) :
  ∃ n y,DataW.trod enc P w base spare held n ty ((cs.drop k).take 1)=some y:=by
 obtain⟨xs,n,_,_,_,hlen,hx⟩:=DataW.trod_struct ht h
 cases e:fs[i]? with
 | none=>rw[e]at hf;cases hf
 | some f=>
  rw[e]at hf
  obtain⟨rfl,rfl⟩:f.offset=k∧f.type=ty:=by simpa using hf
  have hi:i<fs.size:=(Array.getElem?_eq_some_iff.1 e).1
  refine⟨n,xs[i]'(by omega),?_⟩
  have h1:=hx i f e
  rw[hc]at h1
  rw[h1]
  exact List.getElem?_eq_getElem (by omega)
end
section
variable {H:Type} {enc:TypeId×Value→H} {w:World} {base:Nat} {spare:Nat→Bool} {held:Bool} {fuel:Nat} {cs:List Value} {x:DataW H×List MemPlace}
def Old (w:World)(b:Nat):Prop:=b<w.heap.size
theorem c_int:Tryz.prog.cellsOf 3=1:=by kernel_rfl
theorem c_int64:Tryz.prog.cellsOf 2=1:=by kernel_rfl
theorem c_bool:Tryz.prog.cellsOf 4=1:=by kernel_rfl
theorem c_string:Tryz.prog.cellsOf 9=1:=by kernel_rfl
theorem c_float:Tryz.prog.cellsOf 149=1:=by kernel_rfl
theorem c_ups:Tryz.prog.cellsOf 68=1:=by kernel_rfl
theorem c_up:Tryz.prog.cellsOf 161=2:=by kernel_rfl
theorem c_value:Tryz.prog.cellsOf 155=5:=by kernel_rfl
theorem c_values:Tryz.prog.cellsOf 69=1:=by kernel_rfl
theorem c_ins:Tryz.prog.cellsOf 164=5:=by kernel_rfl
theorem c_inss:Tryz.prog.cellsOf 70=1:=by kernel_rfl
theorem c_named:Tryz.prog.cellsOf 157=4:=by kernel_rfl
theorem c_nameds:Tryz.prog.cellsOf 71=1:=by kernel_rfl
theorem c_proto:Tryz.prog.cellsOf 73=9:=by kernel_rfl
theorem c_protos:Tryz.prog.cellsOf 22=1:=by kernel_rfl
theorem ups_of (h:DataW.trod enc Tryz.prog w base spare held fuel 68 cs=some x):∃(a:Option Addr)(l:List (Bool×Int))(c:Nat),cs=[.slice a l.length c]∧UpsAt w (Old w) a l:=by
 obtain⟨a,len,cap,rfl,h1,h2,h3⟩:=slice_at Tryz.underlying68 c_up (by decide) h
 by_cases h0:0<len
 ·obtain⟨b,off,rfl,hb,hx⟩:=h3 h0
  obtain⟨l,hl,hp⟩:=list_of ((false,0):Bool×Int) (n:=len) (p:=fun i z=>w.cell? ⟨b,off+i * 2,none⟩=some (.bool z.1)∧w.cell? ⟨b,off+i * 2+1,none⟩=some (.int .i64 z.2)) (fun i hi=>by
   obtain⟨n,cs',y,g1,g2,g3⟩:=hx i hi
   obtain⟨n0,y0,f0⟩:=field_at Tryz.underlying161 g1 0 rfl c_bool
   obtain⟨n1,y1,f1⟩:=field_at Tryz.underlying161 g1 1 rfl c_int
   obtain⟨z0,e0,_⟩:=DataW.trod_bool Tryz.underlying4 f0
   obtain⟨z1,e1,_⟩:=DataW.trod_int Tryz.underlying3 f1
   exact⟨(z0,z1),(g3 0 (by decide)).trans (take_one e0),(g3 1 (by decide)).trans (take_one e1)⟩)
  subst hl
  exact⟨_,l,cap,rfl,h2,fun _=>⟨b,off,rfl,hb,hp⟩⟩
 ·obtain rfl:len=0:=by omega
  exact⟨a,[],cap,rfl,by simp,fun h=>absurd h (by simp)⟩
theorem value_of (h:DataW.trod enc Tryz.prog w base spare held fuel 155 cs=some x){b o:Nat}(hc:∀ j,j<5→w.cell? ⟨b,o+j,none⟩=cs[j]?):∃ n:ValD,ValCells w b o n:=by
 obtain⟨_,_,f0⟩:=field_at Tryz.underlying155 h 0 rfl c_int
 obtain⟨_,_,f1⟩:=field_at Tryz.underlying155 h 1 rfl c_int64
 obtain⟨_,_,f2⟩:=field_at Tryz.underlying155 h 2 rfl c_float
 obtain⟨_,_,f3⟩:=field_at Tryz.underlying155 h 3 rfl c_string
 obtain⟨_,_,f4⟩:=field_at Tryz.underlying155 h 4 rfl c_int
 obtain⟨kind,e0,_⟩:=DataW.trod_int Tryz.underlying3 f0
 obtain⟨num,e1,_⟩:=DataW.trod_int Tryz.underlying2 f1
 obtain⟨flt,e2⟩:=trod_float Tryz.underlying149 f2
 obtain⟨str,e3,_,hs⟩:=DataW.trod_string Tryz.underlying9 f3
 obtain⟨ref,e4,_⟩:=DataW.trod_int Tryz.underlying3 f4
 exact⟨⟨kind,num,flt,str,ref⟩,
  {kind:=(hc 0 (by decide)).trans (take_one e0),num:=(hc 1 (by decide)).trans (take_one e1),flt:=(hc 2 (by decide)).trans (take_one e2),strs:=hs,str:=(hc 3 (by decide)).trans (take_one e3),ref:=(hc 4 (by decide)).trans (take_one e4) }⟩
theorem values_of (h:DataW.trod enc Tryz.prog w base spare held fuel 69 cs=some x):∃(a:Option Addr)(l:List ValD)(c:Nat),cs=[.slice a l.length c]∧ValsAt w (Old w) a l:=by
 obtain⟨a,len,cap,rfl,h1,h2,h3⟩:=slice_at Tryz.underlying69 c_value (by decide) h
 by_cases h0:0<len
 ·obtain⟨b,off,rfl,hb,hx⟩:=h3 h0
  obtain⟨l,hl,hp⟩:=list_of ValD.z (n:=len) (p:=fun i z=>ValCells w b (off+i * 5) z) (fun i hi=>by
   obtain⟨n,cs',y,g1,g2,g3⟩:=hx i hi
   exact value_of g1 g3)
  subst hl
  exact⟨_,l,cap,rfl,h2,fun _=>⟨b,off,rfl,hb,hp⟩⟩
 ·obtain rfl:len=0:=by omega
  exact⟨a,[],cap,rfl,by simp,fun h=>absurd h (by simp)⟩
theorem ins_of (h:DataW.trod enc Tryz.prog w base spare held fuel 164 cs=some x){b o:Nat}(hc:∀ j,j<5→w.cell? ⟨b,o+j,none⟩=cs[j]?):∃ n:InsD,InsCells w b o n:=by
 obtain⟨_,_,f0⟩:=field_at Tryz.underlying164 h 0 rfl c_int
 obtain⟨_,_,f1⟩:=field_at Tryz.underlying164 h 1 rfl c_int
 obtain⟨_,_,f2⟩:=field_at Tryz.underlying164 h 2 rfl c_int
 obtain⟨_,_,f3⟩:=field_at Tryz.underlying164 h 3 rfl c_int
 obtain⟨_,_,f4⟩:=field_at Tryz.underlying164 h 4 rfl c_int
 obtain⟨op,e0,_⟩:=DataW.trod_int Tryz.underlying3 f0
 obtain⟨fa,e1,_⟩:=DataW.trod_int Tryz.underlying3 f1
 obtain⟨fb,e2,_⟩:=DataW.trod_int Tryz.underlying3 f2
 obtain⟨fc,e3,_⟩:=DataW.trod_int Tryz.underlying3 f3
 obtain⟨fd,e4,_⟩:=DataW.trod_int Tryz.underlying3 f4
 exact⟨⟨op,fa,fb,fc,fd⟩,
  {op:=(hc 0 (by decide)).trans (take_one e0),fa:=(hc 1 (by decide)).trans (take_one e1),fb:=(hc 2 (by decide)).trans (take_one e2),fc:=(hc 3 (by decide)).trans (take_one e3),fd:=(hc 4 (by decide)).trans (take_one e4) }⟩
theorem inss_of (h:DataW.trod enc Tryz.prog w base spare held fuel 70 cs=some x):∃(a:Option Addr)(l:List InsD)(c:Nat),cs=[.slice a l.length c]∧InssAt w (Old w) a l:=by
 obtain⟨a,len,cap,rfl,h1,h2,h3⟩:=slice_at Tryz.underlying70 c_ins (by decide) h
 by_cases h0:0<len
 ·obtain⟨b,off,rfl,hb,hx⟩:=h3 h0
  obtain⟨l,hl,hp⟩:=list_of InsD.z (n:=len) (p:=fun i z=>InsCells w b (off+i * 5) z) (fun i hi=>by
   obtain⟨n,cs',y,g1,g2,g3⟩:=hx i hi
   exact ins_of g1 g3)
  subst hl
  exact⟨_,l,cap,rfl,h2,fun _=>⟨b,off,rfl,hb,hp⟩⟩
 ·obtain rfl:len=0:=by omega
  exact⟨a,[],cap,rfl,by simp,fun h=>absurd h (by simp)⟩
theorem named_of (h:DataW.trod enc Tryz.prog w base spare held fuel 157 cs=some x){b o:Nat}(hc:∀ j,j<4→w.cell? ⟨b,o+j,none⟩=cs[j]?):∃ n:NamD,NamCells w b o n:=by
 obtain⟨_,_,f0⟩:=field_at Tryz.underlying157 h 0 rfl c_string
 obtain⟨_,_,f1⟩:=field_at Tryz.underlying157 h 1 rfl c_int
 obtain⟨_,_,f2⟩:=field_at Tryz.underlying157 h 2 rfl c_int
 obtain⟨_,_,f3⟩:=field_at Tryz.underlying157 h 3 rfl c_int
 obtain⟨name,e0,_,hs⟩:=DataW.trod_string Tryz.underlying9 f0
 obtain⟨reg,e1,_⟩:=DataW.trod_int Tryz.underlying3 f1
 obtain⟨fro,e2,_⟩:=DataW.trod_int Tryz.underlying3 f2
 obtain⟨til,e3,_⟩:=DataW.trod_int Tryz.underlying3 f3
 exact⟨⟨name,reg,fro,til⟩,
  {names:=hs,name:=(hc 0 (by decide)).trans (take_one e0),reg:=(hc 1 (by decide)).trans (take_one e1),fro:=(hc 2 (by decide)).trans (take_one e2),til:=(hc 3 (by decide)).trans (take_one e3) }⟩
theorem nameds_of (h:DataW.trod enc Tryz.prog w base spare held fuel 71 cs=some x):∃(a:Option Addr)(l:List NamD)(c:Nat),cs=[.slice a l.length c]∧NamsAt w (Old w) a l:=by
 obtain⟨a,len,cap,rfl,h1,h2,h3⟩:=slice_at Tryz.underlying71 c_named (by decide) h
 by_cases h0:0<len
 ·obtain⟨b,off,rfl,hb,hx⟩:=h3 h0
  obtain⟨l,hl,hp⟩:=list_of NamD.z (n:=len) (p:=fun i z=>NamCells w b (off+i * 4) z) (fun i hi=>by
   obtain⟨n,cs',y,g1,g2,g3⟩:=hx i hi
   exact named_of g1 g3)
  subst hl
  exact⟨_,l,cap,rfl,h2,fun _=>⟨b,off,rfl,hb,hp⟩⟩
 ·obtain rfl:len=0:=by omega
  exact⟨a,[],cap,rfl,by simp,fun h=>absurd h (by simp)⟩
theorem proto_of (h:DataW.trod enc Tryz.prog w base spare held fuel 73 cs=some x){b o:Nat}(hc:∀ j,j<9→w.cell? ⟨b,o+j,none⟩=cs[j]?):∃ n:ProtoD,ProtoCells w (Old w) b o n:=by
 obtain⟨_,_,f0⟩:=field_at Tryz.underlying73 h 0 rfl c_string
 obtain⟨_,_,f1⟩:=field_at Tryz.underlying73 h 1 rfl c_int
 obtain⟨_,_,f2⟩:=field_at Tryz.underlying73 h 2 rfl c_int
 obtain⟨_,_,f3⟩:=field_at Tryz.underlying73 h 3 rfl c_bool
 obtain⟨_,_,f4⟩:=field_at Tryz.underlying73 h 4 rfl c_int
 obtain⟨_,_,f5⟩:=field_at Tryz.underlying73 h 5 rfl c_ups
 obtain⟨_,_,f6⟩:=field_at Tryz.underlying73 h 6 rfl c_values
 obtain⟨_,_,f7⟩:=field_at Tryz.underlying73 h 7 rfl c_inss
 obtain⟨_,_,f8⟩:=field_at Tryz.underlying73 h 8 rfl c_nameds
 obtain⟨name,e0,_,hs⟩:=DataW.trod_string Tryz.underlying9 f0
 obtain⟨line,e1,_⟩:=DataW.trod_int Tryz.underlying3 f1
 obtain⟨params,e2,_⟩:=DataW.trod_int Tryz.underlying3 f2
 obtain⟨rest,e3,_⟩:=DataW.trod_bool Tryz.underlying4 f3
 obtain⟨regs,e4,_⟩:=DataW.trod_int Tryz.underlying3 f4
 obtain⟨a5,ups,c5,e5,h5⟩:=ups_of f5
 obtain⟨a6,consts,c6,e6,h6⟩:=values_of f6
 obtain⟨a7,ins,c7,e7,h7⟩:=inss_of f7
 obtain⟨a8,named,c8,e8,h8⟩:=nameds_of f8
 exact⟨⟨name,line,params,rest,regs,ups,consts,ins,named⟩,
  {names:=hs,name:=(hc 0 (by decide)).trans (take_one e0),line:=(hc 1 (by decide)).trans (take_one e1),params:=(hc 2 (by decide)).trans (take_one e2),rest:=(hc 3 (by decide)).trans (take_one e3),regs:=(hc 4 (by decide)).trans (take_one e4),ups:=⟨a5,c5,(hc 5 (by decide)).trans (take_one e5),h5⟩,consts:=⟨a6,c6,(hc 6 (by decide)).trans (take_one e6),h6⟩,ins:=⟨a7,c7,(hc 7 (by decide)).trans (take_one e7),h7⟩,named:=⟨a8,c8,(hc 8 (by decide)).trans (take_one e8),h8⟩ }⟩
theorem protos_of (h:DataW.trod enc Tryz.prog w base spare held fuel 22 cs=some x):∃(a:Option Addr)(l:List ProtoD)(c:Nat),cs=[.slice a l.length c]∧ProtosAt w (Old w) a l:=by
 obtain⟨a,len,cap,rfl,h1,h2,h3⟩:=slice_at Tryz.underlying22 c_proto (by decide) h
 by_cases h0:0<len
 ·obtain⟨b,off,rfl,hb,hx⟩:=h3 h0
  obtain⟨l,hl,hp⟩:=list_of ProtoD.z (n:=len) (p:=fun i z=>ProtoCells w (Old w) b (off+i * 9) z) (fun i hi=>by
   obtain⟨n,cs',y,g1,g2,g3⟩:=hx i hi
   exact proto_of g1 g3)
  subst hl
  exact⟨_,l,cap,rfl,h2,fun _=>⟨b,off,rfl,hb,hp⟩⟩
 ·obtain rfl:len=0:=by omega
  exact⟨a,[],cap,rfl,by simp,fun h=>absurd h (by simp)⟩
end
end Go.Proofs.YthmjjhfjkgaocaaGreatDoor
namespace Go.Proofs.YthmjjhfjkgaocaaGreatDoor
open Go.RowKit
theorem info_of {T:Nat}{z:Value}{s b:Nat}(h:(Tryz.prog.info? T).map (fun i=>(i.zero,i.size,i.bytes))=some (some z,s,b)):∃ i0,Tryz.prog.info? T=some i0∧i0.zero=some z∧i0.size=s∧i0.bytes=b:=by
 cases e:Tryz.prog.info? T with
 | none=>rw[e]at h;cases h
 | some i=>
  rw[e]at h
  simp only[Option.map_some,Option.some.injEq,Prod.mk.injEq]at h
  exact⟨i,rfl,h.1,h.2.1,h.2.2⟩
theorem info_i:(Tryz.prog.info? 3).map (fun i=>(i.zero,i.size,i.bytes))=some (some (.int .i64 0),1,8):=by kernel_rfl
theorem info_gu:(Tryz.prog.info? 108).map (fun i=>(i.zero,i.size,i.bytes))=some (some (.agg #[.bool false,.int .i64 0,.int .i64 0]),3,24):=by kernel_rfl
def OwnI (w:World)(base:Nat)(v:Value)(t:List Int):Prop:=w.ownsRow base 3 1 v t.length (t.map (Value.int .i64))
theorem OwnI.push {w:World}{base:Nat}{v:Value}{t:List Int}{x:Int}(h:w.ownsRow base 3 1 v (t.length+1) (t.map (Value.int .i64)++[.int .i64 x])):OwnI w base v (t++[x]):=by
 unfold OwnI
 rw[List.length_append,List.map_append]
 exact h
theorem take_next {α:Type}(l:List α)(k:Nat)(d:α)(h:k<l.length):l.take (k+1)=l.take k++[l[k]?.getD d]:=by
 rw[List.take_succ_eq_append_getElem h,List.getElem?_eq_getElem h];rfl
structure GuCells (w:World)(b o:Nat)(n:GuD):Prop where
 tr:w.cell? ⟨b,o,none⟩=some (.bool n.tr)
 keep:w.cell? ⟨b,o+1,none⟩=some (.int .i64 n.keep)
 hand:w.cell? ⟨b,o+2,none⟩=some (.int .i64 n.hand)
def GusAt (w:World)(S:Nat→Prop)(a:Option Addr)(l:List GuD):Prop:=
 l.length≤9223372036854775807∧(0<l.length→∃ b off,a=some ⟨b,off,none⟩∧S b∧∀ j,j<l.length→GuCells w b (off+j * 3) (l[j]?.getD GuD.z))
theorem GuCells.same {w w':World}{S:Nat→Prop}{b o:Nat}{n:GuD}(h:GuCells w b o n)(hb:Same S w w')(hs:S b):GuCells w' b o n:=
 ⟨(hb.cell hs _).trans h.tr,(hb.cell hs _).trans h.keep,(hb.cell hs _).trans h.hand⟩
theorem GusAt.same {w w':World}{S:Nat→Prop}{a:Option Addr}{l:List GuD}(h:GusAt w S a l)(hb:Same S w w'):GusAt w' S a l:=
 ⟨h.1,fun h0=>by
  obtain⟨b,off,e,hs,hc⟩:=h.2 h0
  exact⟨b,off,e,hs,fun j hj=>(hc j hj).same hb hs⟩⟩
theorem GusAt.keep {w w':World}{S:Nat→Prop}{a:Option Addr}{l:List GuD}{B:Nat}(h:GusAt w S a l)(hb:Below B w w')(hS:∀ b,S b→b<B):GusAt w' S a l:=h.same (.of_below hb hS)
def guV (g:GuD):List Value:=[.bool g.tr,.int .i64 g.keep,.int .i64 g.hand]
def OwnG (w:World)(base:Nat)(v:Value)(t:List GuD):Prop:=w.ownsRow base 108 3 v t.length (t.flatMap guV)
theorem OwnG.push {w:World}{base:Nat}{v:Value}{t:List GuD}{x:GuD}(h:w.ownsRow base 108 3 v (t.length+1) (t.flatMap guV++guV x)):OwnG w base v (t++[x]):=by
 unfold OwnG
 rw[List.length_append,List.flatMap_append]
 simpa using h
theorem l6copy_any (a:Option Addr)(l:List Int)(c:Nat)(S:Nat→Prop)(w:World)(hs:IntsAt w S a l)(hB:∀ b,S b→b<w.heap.size)(hl:l.length≤1048576) :
  Calls Tryz.prog 32 #[.slice a l.length c] w fun e w'=>∃ v,e=.returned v∧OwnI w' w.heap.size v l∧Below w.heap.size w w':=by
 have hn:=hs.1
 obtain⟨i0,hi,hz0,hz1,hz2⟩:=info_of info_i
 go_enter Tryz.func32,Tryz.ntmps32
 go_wp2_with fail
 go_loopg [3,8] l.length (fun g v i wr=>∃(k:Nat),k+g=l.length∧i=.int .i64 k∧OwnI wr w.heap.size v (l.take k)∧Below w.heap.size w wr)
 case atStart=>exact⟨0,by omega,rfl,World.ownsRow_nil _ _ _ _,Below.refl _ _⟩
 case round=>
  obtain⟨k,hk,rfl,hown,hb⟩:=hrel
  by_cases hlt:k<l.length
  ·obtain⟨b,off,rfl,hbS,hcc⟩:=(hs.keep hb hB).2 (by omega)
   have hc:=hcc k hlt
   have HTN:=hide (take_next l k 0 hlt)
   have HLEN:Hid ((l.take k).length≤1048576):=by show _≤_;simp;omega
   clear hcc
   generalize l[k]?.getD 0=x at *
   generalize l.take k=t at *
   have HOWN:=hide hown
   have HB:=hide hb
   have hbs:=hb.size
   clear hown hb
   go_wp2_with (first
    | (at_builtin;refine wpList_append_own _ rfl _ _ 54 rfl w.heap.size 3 i0 (.int .i64 0) 1 8 Tryz.underlying54 hi hz0 hz1 hz2 rfl (by decide) _ _ _ rfl ((unhide HOWN).alloc _) ⟨wr.heap.size,0,none⟩ 1 1 [.int .i64 x] rfl rfl ?c1 ?c2 ?c3 ?c4 ?c5 ?_)
    | go_in)
   case c1=>
    intro j u hj
    match j,hj with
    | 0,hj=>simp at hj;subst hj;simp[Addr.add]
   case c2=>intro u hu;simp at hu;subst hu;rfl
   case c3=>have:=HLEN.out;unfold maxLen;omega
   case c4=>have:=HLEN.out;omega
   case c5=>simp;omega
   intro v' w1 hown' hgrow _
   have R1:Hid (OwnI w1 w.heap.size v' (l.take (k+1))):=by
    show OwnI _ _ _ _
    rw[HTN.out]
    exact OwnI.push hown'
   have R2:Hid (Below w.heap.size w w1):=((unhide HB).alloc hbs _).grown hgrow (by simp;omega) (fun j hj=>((unhide HOWN).lt j hj).1)
   clear hown' hgrow
   go_wp2_with fail
   go_roundg (l.length-(k+1))
   case measure=>omega
   case rel=>exact⟨k+1,by omega,by go_num,unhide R1,unhide R2⟩
  ·have hkl:l.take k=l:=List.take_of_length_le (by omega)
   rw[hkl]at hown
   go_wp2_with fail
   go_ret
   exact⟨_,rfl,hown,hb⟩
theorem l6guards_any (a:Option Addr)(l:List GuD)(c:Nat)(S:Nat→Prop)(w:World)(hs:GusAt w S a l)(hB:∀ b,S b→b<w.heap.size)(hl:l.length≤1048576) :
  Calls Tryz.prog 38 #[.slice a l.length c] w fun e w'=>∃ v,e=.returned v∧OwnG w' w.heap.size v l∧Below w.heap.size w w':=by
 have hn:=hs.1
 obtain⟨i0,hi,hz0,hz1,hz2⟩:=info_of info_gu
 go_enter Tryz.func38,Tryz.ntmps38
 go_wp2_with fail
 go_loopg [3,8] l.length (fun g v i wr=>∃(k:Nat),k+g=l.length∧i=.int .i64 k∧OwnG wr w.heap.size v (l.take k)∧Below w.heap.size w wr)
 case atStart=>exact⟨0,by omega,rfl,World.ownsRow_nil _ _ _ _,Below.refl _ _⟩
 case round=>
  obtain⟨k,hk,rfl,hown,hb⟩:=hrel
  by_cases hlt:k<l.length
  ·obtain⟨b,off,rfl,hbS,hcc⟩:=(hs.keep hb hB).2 (by omega)
   have hc:=hcc k hlt
   have HTN:=hide (take_next l k GuD.z hlt)
   have HLEN:Hid ((l.take k).length≤1048576):=by show _≤_;simp;omega
   clear hcc
   generalize l[k]?.getD GuD.z=x at *
   generalize l.take k=t at *
   have HOWN:=hide hown
   have HB:=hide hb
   have hbs:=hb.size
   clear hown hb
   have d0:=hc.tr;have d1:=hc.keep;have d2:=hc.hand
   clear hc
   obtain⟨xt,xk,xh⟩:=x
   simp only at *
   go_wp2_with (first
    | (at_builtin;refine wpList_append_own _ rfl _ _ 60 rfl w.heap.size 108 i0 (.agg #[.bool false,.int .i64 0,.int .i64 0]) 3 24 Tryz.underlying60 hi hz0 hz1 hz2 rfl (by decide) _ _ _ rfl (((unhide HOWN).alloc _).alloc _) ⟨wr.heap.size+1,0,none⟩ 1 1 [.bool xt,.int .i64 xk,.int .i64 xh] rfl rfl ?c1 ?c2 ?c3 ?c4 ?c5 ?_)
    | go_in)
   case c1=>
    intro j u hj
    match j,hj with
    | 0,hj=>simp at hj;subst hj;simp[Addr.add,go_sem]
    | 1,hj=>simp at hj;subst hj;simp[Addr.add,go_sem]
    | 2,hj=>simp at hj;subst hj;simp[Addr.add,go_sem]
    | n+3,hj=>simp at hj
   case c2=>intro u hu;simp at hu;rcases hu with rfl | rfl | rfl<;>rfl
   case c3=>have:=HLEN.out;unfold maxLen;omega
   case c4=>have:=HLEN.out;omega
   case c5=>simp;omega
   intro v' w1 hown' hgrow _
   have R1:Hid (OwnG w1 w.heap.size v' (l.take (k+1))):=by
    show OwnG _ _ _ _
    rw[HTN.out]
    exact OwnG.push hown'
   have R2:Hid (Below w.heap.size w w1):=(((unhide HB).alloc hbs _).alloc (by simp;omega) _).grown hgrow (by simp;omega) (fun j hj=>((unhide HOWN).lt j hj).1)
   clear hown' hgrow
   go_wp2_with fail
   go_roundg (l.length-(k+1))
   case measure=>omega
   case rel=>exact⟨k+1,by omega,by go_num,unhide R1,unhide R2⟩
  ·have hkl:l.take k=l:=List.take_of_length_le (by omega)
   rw[hkl]at hown
   go_wp2_with fail
   go_ret
   exact⟨_,rfl,hown,hb⟩
end Go.Proofs.YthmjjhfjkgaocaaGreatDoor
