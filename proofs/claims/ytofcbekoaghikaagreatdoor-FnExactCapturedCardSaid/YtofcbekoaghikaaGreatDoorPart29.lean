import Derived.Test.YtofcbekoaghikaaGreatDoorPart01
import Derived.Test.YtofcbekoaghikaaGreatDoorChecked
import Derived.Deep.Slices
import Derived.KernelRfl
set_option linter.unusedSimpArgs false
set_option linter.unusedVariables false
namespace Go.Proofs.YtofcbekoaghikaaGreatDoor
open Go.RowKit Go.WideShapes
theorem list_of {α:Type}(d:α){n:Nat}{p:Nat->α->Prop}(h:∀ i,i<n->∃ x,p i x):∃ l:List α,l.length=n/\∀ i,i<n->p i (l[i]?.getD d):=by
 obtain⟨f,hf⟩:=@Go.Deep.choose_lt α ⟨d⟩ n p h;refine⟨(List.range n).map f,by simp,fun i hi=>?_⟩;have e:((List.range n).map f)[i]?.getD d=f i:=by
  rw[List.getElem?_map,List.getElem?_range hi];rfl
 rw[e];exact hf i hi
theorem maxLen_eq:maxLen=9223372036854775807:=rfl
theorem take_one {cs:List Value}{k:Nat}{v:Value}(h:(cs.drop k).take 1=[v]):cs[k]? = some v:=by
 have h1:((cs.drop k).take 1)[0]? = some v:=by rw[h];rfl
 rw[List.getElem?_take]at h1;simpa using h1
section
variable {H:Type} {enc:TypeId×Value->H} {P:Program} {w:World} {base:Nat} {spare:Nat->Bool} {held:Bool}
theorem trod_float {t:TypeId}{k:FloatKind}{fuel:Nat}{cs:List Value}{x:DataW H×List MemPlace}(ht:P.underlying t=some (.float k))(h:DataW.trod enc P w base spare held fuel t cs=some x):∃ b,cs=[.float k b]:=by
 cases fuel with
 | zero=>simp[DataW.trod]at h
 | succ n=>
  unfold DataW.trod at h;simp only[ht]at h;split at h<;>simp_all
theorem slice_at {t e:TypeId}{sz:Nat}{fuel:Nat}{cs:List Value}{x:DataW H×List MemPlace}(ht:P.underlying t=some (.slice e))(he:P.cellsOf e=sz)(hz:0<sz)(h:DataW.trod enc P w base spare held fuel t cs=some x) :
  ∃(a:Option Addr) (len cap:Nat),cs=[.slice a len cap]/\len<=cap/\len<=9223372036854775807/\(0<len->∃ b off,a=some ⟨b,off,none⟩/\b<w.heap.size /\
   ∀ i,i<len->∃(n:Nat) (cs':List Value) (y:DataW H×List MemPlace),DataW.trod enc P w base spare held n e cs'=some y/\cs'.length=sz/\∀ j,j<sz->w.cell? ⟨b,off+i * sz+j,none⟩=cs'[j]?):=by
 rcases Go.Deep.open_slice ht h with⟨rfl,_⟩ | ⟨a,len,cap,m,n,D,Pl,rfl,_,hl,hm,hmm,_,hx⟩
 ·exact⟨none,0,0,rfl,Nat.le_refl _,by omega,fun h=>absurd h (Nat.lt_irrefl _)⟩
 ·rw[maxLen_eq]at hm;refine⟨some a,len,cap,rfl,hl,by omega,fun h0=>?_⟩;have hlm:len<=m:=by rw[hmm];split<;>omega
  rw[he]at hx;obtain⟨c0,h1,_⟩:=hx 0 (by omega);obtain⟨_,hlen,hcell⟩:=World.cells?_some h1;obtain⟨b,off,spot⟩:=a;have hc0:=hcell 0 hz;have e0:c0[0]? = some c0[0]:=List.getElem?_eq_getElem (by omega);rw[e0]at hc0;have hspot:spot=none:=by simpa[Addr.add]using World.cell?_spot hc0
  subst hspot;refine⟨b,off,rfl,?_,fun i hi=>?_⟩
  ·have:=World.block_lt_of_cell? _ _ hc0;simpa[Addr.add]using this
  ·obtain⟨cs',g1,g2⟩:=hx i (by omega);obtain⟨_,glen,gcell⟩:=World.cells?_some g1;refine⟨n,cs',_,g2,glen,fun j hj=>?_⟩;rw[<-gcell j hj,add_plain,add_plain]
theorem field_at {t:TypeId}{fs:Array Field}{fuel:Nat}{cs:List Value}{x:DataW H×List MemPlace}(ht:P.underlying t=some (.struct fs))(h:DataW.trod enc P w base spare held fuel t cs=some x)(i:Nat){k ty:Nat}(hf:(fs[i]?).map (fun f=>(f.offset,f.type))=some (k,ty))(hc:P.cellsOf ty=1) :
  ∃ n y,DataW.trod enc P w base spare held n ty ((cs.drop k).take 1)=some y:=by
 obtain⟨xs,n,_,_,_,hlen,hx⟩:=DataW.trod_struct ht h;cases e:fs[i]? with
 | none=>rw[e]at hf;cases hf
 | some f=>
  rw[e]at hf;obtain⟨rfl,rfl⟩:f.offset=k/\f.type=ty:=by simpa using hf
  have hi:i<fs.size:=(Array.getElem?_eq_some_iff.1 e).1;refine⟨n,xs[i]'(by omega),?_⟩;have h1:=hx i f e;rw[hc]at h1;rw[h1];exact List.getElem?_eq_getElem (by omega)
end
section
variable {H:Type} {enc:TypeId×Value->H} {w:World} {base:Nat} {spare:Nat->Bool} {held:Bool} {fuel:Nat} {cs:List Value} {x:DataW H×List MemPlace}
def Old (w:World)(b:Nat):Prop:=b<w.heap.size
theorem c_int:Tryz.prog.cellsOf 3=1:=by kernel_rfl
theorem c_int64:Tryz.prog.cellsOf 2=1:=by kernel_rfl
theorem c_bool:Tryz.prog.cellsOf 4=1:=by kernel_rfl
theorem c_string:Tryz.prog.cellsOf 9=1:=by kernel_rfl
theorem c_float:Tryz.prog.cellsOf 55=1:=by kernel_rfl
theorem c_ints:Tryz.prog.cellsOf 56=1:=by kernel_rfl
theorem c_strs:Tryz.prog.cellsOf 46=1:=by kernel_rfl
theorem c_ups:Tryz.prog.cellsOf 47=1:=by kernel_rfl
theorem c_nodes:Tryz.prog.cellsOf 48=1:=by kernel_rfl
theorem c_fns:Tryz.prog.cellsOf 22=1:=by kernel_rfl
theorem c_up:Tryz.prog.cellsOf 100=2:=by kernel_rfl
theorem c_node:Tryz.prog.cellsOf 95=8:=by kernel_rfl
theorem c_fn:Tryz.prog.cellsOf 50=7:=by kernel_rfl
theorem ints_of (h:DataW.trod enc Tryz.prog w base spare held fuel 56 cs=some x):∃(a:Option Addr)(l:List Int)(c:Nat),cs=[.slice a l.length c]/\l.length<=c/\IntsAt w (Old w) a l:=by
 obtain⟨a,len,cap,rfl,h1,h2,h3⟩:=slice_at Tryz.underlying56 c_int (by decide) h;by_cases h0:0<len
 ·obtain⟨b,off,rfl,hb,hx⟩:=h3 h0;obtain⟨l,hl,hp⟩:=list_of (0:Int) (n:=len) (p:=fun i z=>w.cell? ⟨b,off+i,none⟩=some (.int .i64 z)) (fun i hi=>by
   obtain⟨n,cs',y,g1,g2,g3⟩:=hx i hi;obtain⟨z,rfl,_⟩:=DataW.trod_int Tryz.underlying3 g1;have:=g3 0 (by decide);rw[Nat.mul_one,Nat.add_zero]at this;exact⟨z,this⟩)
  subst hl;exact⟨_,l,cap,rfl,h1,h2,fun _=>⟨b,off,rfl,hb,hp⟩⟩
 ·obtain rfl:len=0:=by omega
  exact⟨a,[],cap,rfl,h1,by simp,fun h=>absurd h (by simp)⟩
theorem strs_of (h:DataW.trod enc Tryz.prog w base spare held fuel 46 cs=some x):∃(a:Option Addr)(l:List ByteArray)(c:Nat),cs=[.slice a l.length c]/\StrsAt w (Old w) a l:=by
 obtain⟨a,len,cap,rfl,h1,h2,h3⟩:=slice_at Tryz.underlying46 c_string (by decide) h;by_cases h0:0<len
 ·obtain⟨b,off,rfl,hb,hx⟩:=h3 h0;obtain⟨l,hl,hp⟩:=list_of ByteArray.empty (n:=len) (p:=fun i z=>z.size<=9223372036854775807/\w.cell? ⟨b,off+i,none⟩=some (.string z)) (fun i hi=>by
   obtain⟨n,cs',y,g1,g2,g3⟩:=hx i hi;obtain⟨z,rfl,_,hz⟩:=DataW.trod_string Tryz.underlying9 g1;have:=g3 0 (by decide);rw[Nat.mul_one,Nat.add_zero]at this;exact⟨z,hz,this⟩)
  subst hl;exact⟨_,l,cap,rfl,h2,fun _=>⟨b,off,rfl,hb,hp⟩⟩
 ·obtain rfl:len=0:=by omega
  exact⟨a,[],cap,rfl,by simp,fun h=>absurd h (by simp)⟩
theorem ups_of (h:DataW.trod enc Tryz.prog w base spare held fuel 47 cs=some x):∃(a:Option Addr)(l:List (Bool×Int))(c:Nat),cs=[.slice a l.length c]/\UpsAt w (Old w) a l:=by
 obtain⟨a,len,cap,rfl,h1,h2,h3⟩:=slice_at Tryz.underlying47 c_up (by decide) h;by_cases h0:0<len
 ·obtain⟨b,off,rfl,hb,hx⟩:=h3 h0;obtain⟨l,hl,hp⟩:=list_of ((false,0):Bool×Int) (n:=len) (p:=fun i z=>w.cell? ⟨b,off+i * 2,none⟩=some (.bool z.1)/\w.cell? ⟨b,off+i * 2+1,none⟩=some (.int .i64 z.2)) (fun i hi=>by
   obtain⟨n,cs',y,g1,g2,g3⟩:=hx i hi;obtain⟨n0,y0,f0⟩:=field_at Tryz.underlying100 g1 0 rfl c_bool;obtain⟨n1,y1,f1⟩:=field_at Tryz.underlying100 g1 1 rfl c_int;obtain⟨z0,e0,_⟩:=DataW.trod_bool Tryz.underlying4 f0;obtain⟨z1,e1,_⟩:=DataW.trod_int Tryz.underlying3 f1;exact⟨(z0,z1),(g3 0 (by decide)).trans (take_one e0),(g3 1 (by decide)).trans (take_one e1)⟩)
  subst hl;exact⟨_,l,cap,rfl,h2,fun _=>⟨b,off,rfl,hb,hp⟩⟩
 ·obtain rfl:len=0:=by omega
  exact⟨a,[],cap,rfl,by simp,fun h=>absurd h (by simp)⟩
theorem node_of (h:DataW.trod enc Tryz.prog w base spare held fuel 95 cs=some x){b o:Nat}(hc:∀ j,j<8->w.cell? ⟨b,o+j,none⟩=cs[j]?):∃ n:NodeD,NodeCells w (Old w) b o n:=by
 obtain⟨_,_,f0⟩:=field_at Tryz.underlying95 h 0 rfl c_int;obtain⟨_,_,f1⟩:=field_at Tryz.underlying95 h 1 rfl c_int;obtain⟨_,_,f2⟩:=field_at Tryz.underlying95 h 2 rfl c_int;obtain⟨_,_,f3⟩:=field_at Tryz.underlying95 h 3 rfl c_int64;obtain⟨_,_,f4⟩:=field_at Tryz.underlying95 h 4 rfl c_float;obtain⟨_,_,f5⟩:=field_at Tryz.underlying95 h 5 rfl c_string;obtain⟨_,_,f6⟩:=field_at Tryz.underlying95 h 6 rfl c_ints;obtain⟨_,_,f7⟩:=field_at Tryz.underlying95 h 7 rfl c_ints;obtain⟨kind,e0,_⟩:=DataW.trod_int Tryz.underlying3 f0;obtain⟨line,e1,_⟩:=DataW.trod_int Tryz.underlying3 f1;obtain⟨op,e2,_⟩:=DataW.trod_int Tryz.underlying3 f2;obtain⟨num,e3,_⟩:=DataW.trod_int Tryz.underlying2 f3;obtain⟨flt,e4⟩:=trod_float Tryz.underlying55 f4;obtain⟨str,e5,_,hs⟩:=DataW.trod_string Tryz.underlying9 f5;obtain⟨ra,refs,rc,e6,_,hr⟩:=ints_of f6;obtain⟨ka,kids,kc,e7,hkc,hk⟩:=ints_of f7;exact⟨⟨kind,line,op,num,flt,str,refs,kids⟩,
  {kind:=(hc 0 (by decide)).trans (take_one e0),line:=(hc 1 (by decide)).trans (take_one e1),op:=(hc 2 (by decide)).trans (take_one e2),num:=(hc 3 (by decide)).trans (take_one e3),flt:=(hc 4 (by decide)).trans (take_one e4),strs:=hs,str:=(hc 5 (by decide)).trans (take_one e5),refs:=⟨ra,rc,(hc 6 (by decide)).trans (take_one e6),hr⟩,kids:=⟨ka,kc,(hc 7 (by decide)).trans (take_one e7),hk⟩,kcap:=⟨ka,kc,(hc 7 (by decide)).trans (take_one e7),hkc⟩ }⟩
theorem nodes_of (h:DataW.trod enc Tryz.prog w base spare held fuel 48 cs=some x):∃(a:Option Addr)(l:List NodeD)(c:Nat),cs=[.slice a l.length c]/\NodesAt w (Old w) a l:=by
 obtain⟨a,len,cap,rfl,h1,h2,h3⟩:=slice_at Tryz.underlying48 c_node (by decide) h;by_cases h0:0<len
 ·obtain⟨b,off,rfl,hb,hx⟩:=h3 h0;obtain⟨l,hl,hp⟩:=list_of NodeD.z (n:=len) (p:=fun i z=>NodeCells w (Old w) b (off+i * 8) z) (fun i hi=>by
   obtain⟨n,cs',y,g1,g2,g3⟩:=hx i hi;exact node_of g1 g3)
  subst hl;exact⟨_,l,cap,rfl,h2,fun _=>⟨b,off,rfl,hb,hp⟩⟩
 ·obtain rfl:len=0:=by omega
  exact⟨a,[],cap,rfl,by simp,fun h=>absurd h (by simp)⟩
theorem fn_of (h:DataW.trod enc Tryz.prog w base spare held fuel 50 cs=some x){b o:Nat}(hc:∀ j,j<7->w.cell? ⟨b,o+j,none⟩=cs[j]?):∃ n:FnD,FnCells w (Old w) b o n:=by
 obtain⟨_,_,f0⟩:=field_at Tryz.underlying50 h 0 rfl c_string;obtain⟨_,_,f1⟩:=field_at Tryz.underlying50 h 1 rfl c_int;obtain⟨_,_,f2⟩:=field_at Tryz.underlying50 h 2 rfl c_int;obtain⟨_,_,f3⟩:=field_at Tryz.underlying50 h 3 rfl c_bool;obtain⟨_,_,f4⟩:=field_at Tryz.underlying50 h 4 rfl c_strs;obtain⟨_,_,f5⟩:=field_at Tryz.underlying50 h 5 rfl c_ups;obtain⟨_,_,f6⟩:=field_at Tryz.underlying50 h 6 rfl c_nodes;obtain⟨name,e0,_,hs⟩:=DataW.trod_string Tryz.underlying9 f0;obtain⟨line,e1,_⟩:=DataW.trod_int Tryz.underlying3 f1;obtain⟨params,e2,_⟩:=DataW.trod_int Tryz.underlying3 f2;obtain⟨rest,e3,_⟩:=DataW.trod_bool Tryz.underlying4 f3;obtain⟨va,vars,vc,e4,hv⟩:=strs_of f4;obtain⟨ua,ups,uc,e5,hu⟩:=ups_of f5;obtain⟨na,nodes,nc,e6,hn⟩:=nodes_of f6;exact⟨⟨name,line,params,rest,vars,ups,nodes⟩,
  {names:=hs,name:=(hc 0 (by decide)).trans (take_one e0),line:=(hc 1 (by decide)).trans (take_one e1),params:=(hc 2 (by decide)).trans (take_one e2),rest:=(hc 3 (by decide)).trans (take_one e3),vars:=⟨va,vc,(hc 4 (by decide)).trans (take_one e4),hv⟩,ups:=⟨ua,uc,(hc 5 (by decide)).trans (take_one e5),hu⟩,nodes:=⟨na,nc,(hc 6 (by decide)).trans (take_one e6),hn⟩ }⟩
theorem fns_of (h:DataW.trod enc Tryz.prog w base spare held fuel 22 cs=some x):∃(a:Option Addr)(l:List FnD)(c:Nat),cs=[.slice a l.length c]/\FnsAt w (Old w) a l:=by
 obtain⟨a,len,cap,rfl,h1,h2,h3⟩:=slice_at Tryz.underlying22 c_fn (by decide) h;by_cases h0:0<len
 ·obtain⟨b,off,rfl,hb,hx⟩:=h3 h0;obtain⟨l,hl,hp⟩:=list_of FnD.z (n:=len) (p:=fun i z=>FnCells w (Old w) b (off+i * 7) z) (fun i hi=>by
   obtain⟨n,cs',y,g1,g2,g3⟩:=hx i hi;exact fn_of g1 g3)
  subst hl;exact⟨_,l,cap,rfl,h2,fun _=>⟨b,off,rfl,hb,hp⟩⟩
 ·obtain rfl:len=0:=by omega
  exact⟨a,[],cap,rfl,by simp,fun h=>absurd h (by simp)⟩
end
end Go.Proofs.YtofcbekoaghikaaGreatDoor
