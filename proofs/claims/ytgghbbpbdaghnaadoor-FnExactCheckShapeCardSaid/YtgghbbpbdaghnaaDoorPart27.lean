import Derived.Test.YtgghbbpbdaghnaaDoorPart01
import Derived.Test.YtgghbbpbdaghnaaDoorChecked
import Derived.Deep.Slices
import Derived.KernelRfl
set_option linter.unusedSimpArgs false
set_option linter.unusedVariables false
namespace Go.Proofs.YtgghbbpbdaghnaaDoor
open Go.RowKit Go.WideShapes
theorem list_of {α:Type}(d:α){n:Nat}{p:Nat->α->Prop}(h:∀ i,i<n->∃ x,p i x):∃ l:List α,l.length=n/\∀ i,i<n->p i (l[i]?.getD d):=by
 obtain⟨f,hf⟩:=@Go.Deep.choose_lt α ⟨d⟩ n p h;refine⟨(List.range n).map f,by simp,fun i hi=>?_⟩;have e:((List.range n).map f)[i]?.getD d=f i:=by
  rw[List.getElem?_map,List.getElem?_range hi];rfl
 rw[e];exact hf i hi
theorem maxLen_eq:maxLen=9223372036854775807:=rfl
theorem take_one {cs:List Value}{k:Nat}{v:Value}(h:(cs.drop k).take 1=[v]):cs[k]? = some v:=by
 have h1:((cs.drop k).take 1)[0]? = some v:=by rw[h];rfl
 rw[List.getElem?_take]at h1;simpa using h1
section
variable {H:Type} {enc:TypeId×Value->H} {P:Program} {w:World} {base:Nat} {spare:Nat->Bool} {held:Bool}
theorem trod_float {t:TypeId}{k:FloatKind}{fuel:Nat}{cs:List Value}{x:DataW H×List MemPlace}(ht:P.underlying t=some (.float k))(h:DataW.trod enc P w base spare held fuel t cs=some x):∃ b,cs=[.float k b]:=by
 cases fuel with
 | zero=>simp[DataW.trod]at h
 | succ n=>
  unfold DataW.trod at h;simp only[ht]at h;split at h<;>simp_all
theorem slice_at {t e:TypeId}{sz:Nat}{fuel:Nat}{cs:List Value}{x:DataW H×List MemPlace}(ht:P.underlying t=some (.slice e))(he:P.cellsOf e=sz)(hz:0<sz)(h:DataW.trod enc P w base spare held fuel t cs=some x) :
  ∃(a:Option Addr) (len cap:Nat),cs=[.slice a len cap]/\len<=cap/\len<=9223372036854775807/\(0<len->∃ b off,a=some ⟨b,off,none⟩/\b<w.heap.size /\
   ∀ i,i<len->∃(n:Nat) (cs':List Value) (y:DataW H×List MemPlace),DataW.trod enc P w base spare held n e cs'=some y/\cs'.length=sz/\∀ j,j<sz->w.cell? ⟨b,off+i * sz+j,none⟩=cs'[j]?):=by
 rcases Go.Deep.open_slice ht h with⟨rfl,_⟩ | ⟨a,len,cap,m,n,D,Pl,rfl,_,hl,hm,hmm,_,hx⟩
 ·exact⟨none,0,0,rfl,Nat.le_refl _,by omega,fun h=>absurd h (Nat.lt_irrefl _)⟩
 ·rw[maxLen_eq]at hm;refine⟨some a,len,cap,rfl,hl,by omega,fun h0=>?_⟩;have hlm:len<=m:=by rw[hmm];split<;>omega
  rw[he]at hx;obtain⟨c0,h1,_⟩:=hx 0 (by omega);obtain⟨_,hlen,hcell⟩:=World.cells?_some h1;obtain⟨b,off,spot⟩:=a;have hc0:=hcell 0 hz;have e0:c0[0]? = some c0[0]:=List.getElem?_eq_getElem (by omega);rw[e0]at hc0;have hspot:spot=none:=by simpa[Addr.add]using World.cell?_spot hc0
  subst hspot;refine⟨b,off,rfl,?_,fun i hi=>?_⟩
  ·have:=World.block_lt_of_cell? _ _ hc0;simpa[Addr.add]using this
  ·obtain⟨cs',g1,g2⟩:=hx i (by omega);obtain⟨_,glen,gcell⟩:=World.cells?_some g1;refine⟨n,cs',_,g2,glen,fun j hj=>?_⟩;rw[<-gcell j hj,add_plain,add_plain]
theorem field_at {t:TypeId}{fs:Array Field}{fuel:Nat}{cs:List Value}{x:DataW H×List MemPlace}(ht:P.underlying t=some (.struct fs))(h:DataW.trod enc P w base spare held fuel t cs=some x)(i:Nat){k ty:Nat}(hf:(fs[i]?).map (fun f=>(f.offset,f.type))=some (k,ty))(hc:P.cellsOf ty=1) :
  ∃ n y,DataW.trod enc P w base spare held n ty ((cs.drop k).take 1)=some y:=by
 obtain⟨xs,n,_,_,_,hlen,hx⟩:=DataW.trod_struct ht h;cases e:fs[i]? with
 | none=>rw[e]at hf;cases hf
 | some f=>
  rw[e]at hf;obtain⟨rfl,rfl⟩:f.offset=k/\f.type=ty:=by simpa using hf
  have hi:i<fs.size:=(Array.getElem?_eq_some_iff.1 e).1;refine⟨n,xs[i]'(by omega),?_⟩;have h1:=hx i f e;rw[hc]at h1;rw[h1];exact List.getElem?_eq_getElem (by omega)
end
section
variable {H:Type} {enc:TypeId×Value->H} {w:World} {base:Nat} {spare:Nat->Bool} {held:Bool} {fuel:Nat} {cs:List Value} {x:DataW H×List MemPlace}
def Old (w:World)(b:Nat):Prop:=b<w.heap.size
theorem c_int:Tryd.prog.cellsOf 3=1:=by kernel_rfl
theorem c_int64:Tryd.prog.cellsOf 2=1:=by kernel_rfl
theorem c_bool:Tryd.prog.cellsOf 4=1:=by kernel_rfl
theorem c_string:Tryd.prog.cellsOf 9=1:=by kernel_rfl
theorem c_float:Tryd.prog.cellsOf 59=1:=by kernel_rfl
theorem c_ups:Tryd.prog.cellsOf 52=1:=by kernel_rfl
theorem c_up:Tryd.prog.cellsOf 104=2:=by kernel_rfl
theorem c_value:Tryd.prog.cellsOf 99=5:=by kernel_rfl
theorem c_values:Tryd.prog.cellsOf 53=1:=by kernel_rfl
theorem c_ins:Tryd.prog.cellsOf 107=5:=by kernel_rfl
theorem c_inss:Tryd.prog.cellsOf 54=1:=by kernel_rfl
theorem c_named:Tryd.prog.cellsOf 101=4:=by kernel_rfl
theorem c_nameds:Tryd.prog.cellsOf 55=1:=by kernel_rfl
theorem c_proto:Tryd.prog.cellsOf 57=9:=by kernel_rfl
theorem c_protos:Tryd.prog.cellsOf 22=1:=by kernel_rfl
theorem ups_of (h:DataW.trod enc Tryd.prog w base spare held fuel 52 cs=some x):∃(a:Option Addr)(l:List (Bool×Int))(c:Nat),cs=[.slice a l.length c]/\UpsAt w (Old w) a l:=by
 obtain⟨a,len,cap,rfl,h1,h2,h3⟩:=slice_at Tryd.underlying52 c_up (by decide) h;by_cases h0:0<len
 ·obtain⟨b,off,rfl,hb,hx⟩:=h3 h0;obtain⟨l,hl,hp⟩:=list_of ((false,0):Bool×Int) (n:=len) (p:=fun i z=>w.cell? ⟨b,off+i * 2,none⟩=some (.bool z.1)/\w.cell? ⟨b,off+i * 2+1,none⟩=some (.int .i64 z.2)) (fun i hi=>by
   obtain⟨n,cs',y,g1,g2,g3⟩:=hx i hi;obtain⟨n0,y0,f0⟩:=field_at Tryd.underlying104 g1 0 rfl c_bool;obtain⟨n1,y1,f1⟩:=field_at Tryd.underlying104 g1 1 rfl c_int;obtain⟨z0,e0,_⟩:=DataW.trod_bool Tryd.underlying4 f0;obtain⟨z1,e1,_⟩:=DataW.trod_int Tryd.underlying3 f1;exact⟨(z0,z1),(g3 0 (by decide)).trans (take_one e0),(g3 1 (by decide)).trans (take_one e1)⟩)
  subst hl;exact⟨_,l,cap,rfl,h2,fun _=>⟨b,off,rfl,hb,hp⟩⟩
 ·obtain rfl:len=0:=by omega
  exact⟨a,[],cap,rfl,by simp,fun h=>absurd h (by simp)⟩
theorem value_of (h:DataW.trod enc Tryd.prog w base spare held fuel 99 cs=some x){b o:Nat}(hc:∀ j,j<5->w.cell? ⟨b,o+j,none⟩=cs[j]?):∃ n:ValD,ValCells w b o n:=by
 obtain⟨_,_,f0⟩:=field_at Tryd.underlying99 h 0 rfl c_int;obtain⟨_,_,f1⟩:=field_at Tryd.underlying99 h 1 rfl c_int64;obtain⟨_,_,f2⟩:=field_at Tryd.underlying99 h 2 rfl c_float;obtain⟨_,_,f3⟩:=field_at Tryd.underlying99 h 3 rfl c_string;obtain⟨_,_,f4⟩:=field_at Tryd.underlying99 h 4 rfl c_int;obtain⟨kind,e0,_⟩:=DataW.trod_int Tryd.underlying3 f0;obtain⟨num,e1,_⟩:=DataW.trod_int Tryd.underlying2 f1;obtain⟨flt,e2⟩:=trod_float Tryd.underlying59 f2;obtain⟨str,e3,_,hs⟩:=DataW.trod_string Tryd.underlying9 f3;obtain⟨ref,e4,_⟩:=DataW.trod_int Tryd.underlying3 f4;exact⟨⟨kind,num,flt,str,ref⟩,
  {kind:=(hc 0 (by decide)).trans (take_one e0),num:=(hc 1 (by decide)).trans (take_one e1),flt:=(hc 2 (by decide)).trans (take_one e2),strs:=hs,str:=(hc 3 (by decide)).trans (take_one e3),ref:=(hc 4 (by decide)).trans (take_one e4) }⟩
theorem values_of (h:DataW.trod enc Tryd.prog w base spare held fuel 53 cs=some x):∃(a:Option Addr)(l:List ValD)(c:Nat),cs=[.slice a l.length c]/\ValsAt w (Old w) a l:=by
 obtain⟨a,len,cap,rfl,h1,h2,h3⟩:=slice_at Tryd.underlying53 c_value (by decide) h;by_cases h0:0<len
 ·obtain⟨b,off,rfl,hb,hx⟩:=h3 h0;obtain⟨l,hl,hp⟩:=list_of ValD.z (n:=len) (p:=fun i z=>ValCells w b (off+i * 5) z) (fun i hi=>by
   obtain⟨n,cs',y,g1,g2,g3⟩:=hx i hi;exact value_of g1 g3)
  subst hl;exact⟨_,l,cap,rfl,h2,fun _=>⟨b,off,rfl,hb,hp⟩⟩
 ·obtain rfl:len=0:=by omega
  exact⟨a,[],cap,rfl,by simp,fun h=>absurd h (by simp)⟩
theorem ins_of (h:DataW.trod enc Tryd.prog w base spare held fuel 107 cs=some x){b o:Nat}(hc:∀ j,j<5->w.cell? ⟨b,o+j,none⟩=cs[j]?):∃ n:InsD,InsCells w b o n:=by
 obtain⟨_,_,f0⟩:=field_at Tryd.underlying107 h 0 rfl c_int;obtain⟨_,_,f1⟩:=field_at Tryd.underlying107 h 1 rfl c_int;obtain⟨_,_,f2⟩:=field_at Tryd.underlying107 h 2 rfl c_int;obtain⟨_,_,f3⟩:=field_at Tryd.underlying107 h 3 rfl c_int;obtain⟨_,_,f4⟩:=field_at Tryd.underlying107 h 4 rfl c_int;obtain⟨op,e0,_⟩:=DataW.trod_int Tryd.underlying3 f0;obtain⟨fa,e1,_⟩:=DataW.trod_int Tryd.underlying3 f1;obtain⟨fb,e2,_⟩:=DataW.trod_int Tryd.underlying3 f2;obtain⟨fc,e3,_⟩:=DataW.trod_int Tryd.underlying3 f3;obtain⟨fd,e4,_⟩:=DataW.trod_int Tryd.underlying3 f4;exact⟨⟨op,fa,fb,fc,fd⟩,
  {op:=(hc 0 (by decide)).trans (take_one e0),fa:=(hc 1 (by decide)).trans (take_one e1),fb:=(hc 2 (by decide)).trans (take_one e2),fc:=(hc 3 (by decide)).trans (take_one e3),fd:=(hc 4 (by decide)).trans (take_one e4) }⟩
theorem inss_of (h:DataW.trod enc Tryd.prog w base spare held fuel 54 cs=some x):∃(a:Option Addr)(l:List InsD)(c:Nat),cs=[.slice a l.length c]/\InssAt w (Old w) a l:=by
 obtain⟨a,len,cap,rfl,h1,h2,h3⟩:=slice_at Tryd.underlying54 c_ins (by decide) h;by_cases h0:0<len
 ·obtain⟨b,off,rfl,hb,hx⟩:=h3 h0;obtain⟨l,hl,hp⟩:=list_of InsD.z (n:=len) (p:=fun i z=>InsCells w b (off+i * 5) z) (fun i hi=>by
   obtain⟨n,cs',y,g1,g2,g3⟩:=hx i hi;exact ins_of g1 g3)
  subst hl;exact⟨_,l,cap,rfl,h2,fun _=>⟨b,off,rfl,hb,hp⟩⟩
 ·obtain rfl:len=0:=by omega
  exact⟨a,[],cap,rfl,by simp,fun h=>absurd h (by simp)⟩
theorem named_of (h:DataW.trod enc Tryd.prog w base spare held fuel 101 cs=some x){b o:Nat}(hc:∀ j,j<4->w.cell? ⟨b,o+j,none⟩=cs[j]?):∃ n:NamD,NamCells w b o n:=by
 obtain⟨_,_,f0⟩:=field_at Tryd.underlying101 h 0 rfl c_string;obtain⟨_,_,f1⟩:=field_at Tryd.underlying101 h 1 rfl c_int;obtain⟨_,_,f2⟩:=field_at Tryd.underlying101 h 2 rfl c_int;obtain⟨_,_,f3⟩:=field_at Tryd.underlying101 h 3 rfl c_int;obtain⟨name,e0,_,hs⟩:=DataW.trod_string Tryd.underlying9 f0;obtain⟨reg,e1,_⟩:=DataW.trod_int Tryd.underlying3 f1;obtain⟨fro,e2,_⟩:=DataW.trod_int Tryd.underlying3 f2;obtain⟨til,e3,_⟩:=DataW.trod_int Tryd.underlying3 f3;exact⟨⟨name,reg,fro,til⟩,
  {names:=hs,name:=(hc 0 (by decide)).trans (take_one e0),reg:=(hc 1 (by decide)).trans (take_one e1),fro:=(hc 2 (by decide)).trans (take_one e2),til:=(hc 3 (by decide)).trans (take_one e3) }⟩
theorem nameds_of (h:DataW.trod enc Tryd.prog w base spare held fuel 55 cs=some x):∃(a:Option Addr)(l:List NamD)(c:Nat),cs=[.slice a l.length c]/\NamsAt w (Old w) a l:=by
 obtain⟨a,len,cap,rfl,h1,h2,h3⟩:=slice_at Tryd.underlying55 c_named (by decide) h;by_cases h0:0<len
 ·obtain⟨b,off,rfl,hb,hx⟩:=h3 h0;obtain⟨l,hl,hp⟩:=list_of NamD.z (n:=len) (p:=fun i z=>NamCells w b (off+i * 4) z) (fun i hi=>by
   obtain⟨n,cs',y,g1,g2,g3⟩:=hx i hi;exact named_of g1 g3)
  subst hl;exact⟨_,l,cap,rfl,h2,fun _=>⟨b,off,rfl,hb,hp⟩⟩
 ·obtain rfl:len=0:=by omega
  exact⟨a,[],cap,rfl,by simp,fun h=>absurd h (by simp)⟩
theorem proto_of (h:DataW.trod enc Tryd.prog w base spare held fuel 57 cs=some x){b o:Nat}(hc:∀ j,j<9->w.cell? ⟨b,o+j,none⟩=cs[j]?):∃ n:ProtoD,ProtoCells w (Old w) b o n:=by
 obtain⟨_,_,f0⟩:=field_at Tryd.underlying57 h 0 rfl c_string;obtain⟨_,_,f1⟩:=field_at Tryd.underlying57 h 1 rfl c_int;obtain⟨_,_,f2⟩:=field_at Tryd.underlying57 h 2 rfl c_int;obtain⟨_,_,f3⟩:=field_at Tryd.underlying57 h 3 rfl c_bool;obtain⟨_,_,f4⟩:=field_at Tryd.underlying57 h 4 rfl c_int;obtain⟨_,_,f5⟩:=field_at Tryd.underlying57 h 5 rfl c_ups;obtain⟨_,_,f6⟩:=field_at Tryd.underlying57 h 6 rfl c_values;obtain⟨_,_,f7⟩:=field_at Tryd.underlying57 h 7 rfl c_inss;obtain⟨_,_,f8⟩:=field_at Tryd.underlying57 h 8 rfl c_nameds;obtain⟨name,e0,_,hs⟩:=DataW.trod_string Tryd.underlying9 f0;obtain⟨line,e1,_⟩:=DataW.trod_int Tryd.underlying3 f1;obtain⟨params,e2,_⟩:=DataW.trod_int Tryd.underlying3 f2;obtain⟨rest,e3,_⟩:=DataW.trod_bool Tryd.underlying4 f3;obtain⟨regs,e4,_⟩:=DataW.trod_int Tryd.underlying3 f4;obtain⟨a5,ups,c5,e5,h5⟩:=ups_of f5;obtain⟨a6,consts,c6,e6,h6⟩:=values_of f6;obtain⟨a7,ins,c7,e7,h7⟩:=inss_of f7;obtain⟨a8,named,c8,e8,h8⟩:=nameds_of f8;exact⟨⟨name,line,params,rest,regs,ups,consts,ins,named⟩,
  {names:=hs,name:=(hc 0 (by decide)).trans (take_one e0),line:=(hc 1 (by decide)).trans (take_one e1),params:=(hc 2 (by decide)).trans (take_one e2),rest:=(hc 3 (by decide)).trans (take_one e3),regs:=(hc 4 (by decide)).trans (take_one e4),ups:=⟨a5,c5,(hc 5 (by decide)).trans (take_one e5),h5⟩,consts:=⟨a6,c6,(hc 6 (by decide)).trans (take_one e6),h6⟩,ins:=⟨a7,c7,(hc 7 (by decide)).trans (take_one e7),h7⟩,named:=⟨a8,c8,(hc 8 (by decide)).trans (take_one e8),h8⟩ }⟩
theorem protos_of (h:DataW.trod enc Tryd.prog w base spare held fuel 22 cs=some x):∃(a:Option Addr)(l:List ProtoD)(c:Nat),cs=[.slice a l.length c]/\ProtosAt w (Old w) a l:=by
 obtain⟨a,len,cap,rfl,h1,h2,h3⟩:=slice_at Tryd.underlying22 c_proto (by decide) h;by_cases h0:0<len
 ·obtain⟨b,off,rfl,hb,hx⟩:=h3 h0;obtain⟨l,hl,hp⟩:=list_of ProtoD.z (n:=len) (p:=fun i z=>ProtoCells w (Old w) b (off+i * 9) z) (fun i hi=>by
   obtain⟨n,cs',y,g1,g2,g3⟩:=hx i hi;exact proto_of g1 g3)
  subst hl;exact⟨_,l,cap,rfl,h2,fun _=>⟨b,off,rfl,hb,hp⟩⟩
 ·obtain rfl:len=0:=by omega
  exact⟨a,[],cap,rfl,by simp,fun h=>absurd h (by simp)⟩
end
end Go.Proofs.YtgghbbpbdaghnaaDoor
