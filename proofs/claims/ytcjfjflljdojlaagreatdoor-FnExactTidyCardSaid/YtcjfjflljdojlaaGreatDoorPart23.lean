import Derived.Test.YtcjfjflljdojlaaGreatDoorPart01
import Derived.Test.YtcjfjflljdojlaaGreatDoorChecked
import Derived.Deep.Slices
import Derived.KernelRfl
import Derived.Test.YtcjfjflljdojlaaGreatDoorPart13
import Derived.WalkKit
import Derived.Deep.LoopGhost
set_option linter.unusedSimpArgs false
set_option linter.unusedVariables false
set_option maxHeartbeats 4000000
set_option maxRecDepth 100000
namespace Go.Proofs.YtcjfjflljdojlaaGreatDoor
open Go.RowKit Go.WideShapes
theorem pN {α:Type}(d:α){n:Nat}{p:Nat->α->Prop}(h:∀ i,i<n->∃ x,p i x):∃ l:List α,l.length=n/\∀ i,i<n->p i (l[i]?.getD d):=by
 obtain⟨f,hf⟩:=@Go.Deep.choose_lt α ⟨d⟩ n p h;refine⟨(List.range n).map f,by simp,fun i hi=>?_⟩;have e:((List.range n).map f)[i]?.getD d=f i:=by
  rw[List.getElem?_map,List.getElem?_range hi];rfl
 rw[e];exact hf i hi
theorem Hf:maxLen=9223372036854775807:=rfl
theorem cW {cs:List Value}{k:Nat}{v:Value}(h:(cs.drop k).take 1=[v]):cs[k]? = some v:=by
 have h1:((cs.drop k).take 1)[0]? = some v:=by rw[h];rfl
 rw[List.getElem?_take]at h1;simpa using h1
section
variable {H:Type} {enc:TypeId×Value->H} {P:Program} {w:World} {base:Nat} {spare:Nat->Bool} {held:Bool}
theorem Cs {t:TypeId}{k:FloatKind}{fuel:Nat}{cs:List Value}{x:DataW H×List MemPlace}(ht:P.underlying t=some (.float k))(h:DataW.trod enc P w base spare held fuel t cs=some x):∃ b,cs=[.float k b]:=by
 cases fuel with
 | zero=>simp[DataW.trod]at h
 | succ n=>
  unfold DataW.trod at h;simp only[ht]at h;split at h<;>simp_all
theorem nD {t e:TypeId}{sz:Nat}{fuel:Nat}{cs:List Value}{x:DataW H×List MemPlace}(ht:P.underlying t=some (.slice e))(he:P.cellsOf e=sz)(hz:0<sz)(h:DataW.trod enc P w base spare held fuel t cs=some x) :
  ∃(a:o_) (len cap:Nat),cs=[.slice a len cap]/\len<=cap/\len<=9223372036854775807/\(0<len->∃ b off,a=some (a_ b off)/\b<w.heap.size /\
   ∀ i,i<len->∃(n:Nat) (LP:List Value) (y:DataW H×List MemPlace),DataW.trod enc P w base spare held n e LP=some y/\LP.length=sz/\∀ j,j<sz->w.cell? (a_ b (off+i * sz+j))=LP[j]?):=by
 rcases Go.Deep.open_slice ht h with⟨rfl,_⟩ | ⟨a,len,cap,m,n,D,Pl,rfl,_,hl,hm,Tm,_,hx⟩
 ·exact⟨none,0,0,rfl,n_,by omega,fun h=>absurd h (Nat.lt_irrefl _)⟩
 ·rw[Hf]at hm;refine⟨some a,len,cap,rfl,hl,by omega,fun h0=>?_⟩;have hlm:len<=m:=by rw[Tm];split<;>omega
  rw[he]at hx;obtain⟨c0,h1,_⟩:=hx 0 (by omega);obtain⟨_,aP,lv⟩:=World.cells?_some h1;obtain⟨b,off,Zp⟩:=a;have iw:=lv 0 hz;have e0:c0[0]? = some c0[0]:=g_ (by omega);rw[e0]at iw;have WW:Zp=none:=by simpa[Addr.add]using World.cell?_spot iw
  aj WW
  refine⟨b,off,rfl,?_,fun i hi=>?_⟩
  ·have:=World.block_lt_of_cell? _ _ iw;simpa[Addr.add]using this
  ·obtain⟨LP,g1,g2⟩:=hx i (by omega);obtain⟨_,ab3,Xt⟩:=World.cells?_some g1;refine⟨n,LP,_,g2,ab3,fun j hj=>?_⟩;rw[<-Xt j hj,add_plain,add_plain]
theorem cY {t:TypeId}{fs:Array Field}{fuel:Nat}{cs:List Value}{x:DataW H×List MemPlace}(ht:P.underlying t=some (.struct fs))(h:DataW.trod enc P w base spare held fuel t cs=some x)(i:Nat){k ty:Nat}(hf:(fs[i]?).map (fun f=>(f.offset,f.type))=some (k,ty))(hc:P.cellsOf ty=1) :
  ∃ n y,DataW.trod enc P w base spare held n ty ((cs.drop k).take 1)=some y:=by
 obtain⟨xs,n,_,_,_,aP,hx⟩:=DataW.trod_struct ht h;cases e:fs[i]? with
 | none=>rw[e]at hf;cases hf
 | some f=>
  rw[e]at hf;obtain⟨rfl,rfl⟩:f.offset=k/\f.type=ty:=by simpa using hf
  have hi:i<fs.size:=(Array.getElem?_eq_some_iff.1 e).1;refine⟨n,xs[i]'(by omega),?_⟩;have h1:=hx i f e;rw[hc]at h1;rw[h1];exact g_ (by omega)
end
section
variable {H:Type} {enc:TypeId×Value->H} {w:World} {base:Nat} {spare:Nat->Bool} {held:Bool} {fuel:Nat} {cs:List Value} {x:DataW H×List MemPlace}
def MC (w:World)(b:Nat):Prop:=b<w.heap.size
theorem kE:Tryz.prog.cellsOf 3=1:=by kernel_rfl
theorem Mt:Tryz.prog.cellsOf 2=1:=by kernel_rfl
theorem JJ:Tryz.prog.cellsOf 4=1:=by kernel_rfl
theorem tD:Tryz.prog.cellsOf 9=1:=by kernel_rfl
theorem MW:Tryz.prog.cellsOf 47=1:=by kernel_rfl
theorem UG:Tryz.prog.cellsOf 58=1:=by kernel_rfl
theorem YX:Tryz.prog.cellsOf 157=2:=by kernel_rfl
theorem Mi:Tryz.prog.cellsOf 143=5:=by kernel_rfl
theorem Kf:Tryz.prog.cellsOf 59=1:=by kernel_rfl
theorem Uq:Tryz.prog.cellsOf 160=5:=by kernel_rfl
theorem Qh:Tryz.prog.cellsOf 60=1:=by kernel_rfl
theorem Mw:Tryz.prog.cellsOf 145=4:=by kernel_rfl
theorem J7:Tryz.prog.cellsOf 61=1:=by kernel_rfl
theorem Mm:Tryz.prog.cellsOf 63=9:=by kernel_rfl
theorem Jk:Tryz.prog.cellsOf 22=1:=by kernel_rfl
theorem Qm (h:DataW.trod enc Tryz.prog w base spare held fuel 58 cs=some x):∃(a:o_)(l:List (Bool×Int))(c:Nat),cs=[.slice a l.length c]/\dH w (MC w) a l:=by
 obtain⟨a,len,cap,rfl,h1,h2,h3⟩:=nD Tryz.underlying58 YX (by decide) h;by_cases h0:0<len
 ·obtain⟨b,off,rfl,hb,hx⟩:=h3 h0;obtain⟨l,hl,hp⟩:=pN ((false,0):Bool×Int) (n:=len) (p:=fun i z=>w.cell? (a_ b (off+i * 2))=some (.bool z.1)/\w.cell? (a_ b (off+i * 2+1))=some (i_ z.2)) (fun i hi=>by
   obtain⟨n,LP,y,g1,g2,g3⟩:=hx i hi;obtain⟨n0,y0,f0⟩:=cY Tryz.underlying157 g1 0 rfl JJ;obtain⟨n1,y1,f1⟩:=cY Tryz.underlying157 g1 1 rfl kE;obtain⟨z0,e0,_⟩:=DataW.trod_bool Tryz.underlying4 f0;obtain⟨z1,e1,_⟩:=DataW.trod_int Tryz.underlying3 f1;exact⟨(z0,z1),(g3 0 (by decide)).trans (cW e0),(g3 1 (by decide)).trans (cW e1)⟩)
  aj hl
  exact⟨_,l,cap,rfl,h2,fun _=>⟨b,off,rfl,hb,hp⟩⟩
 ·obtain rfl:len=0:=by omega
  exact⟨a,[],cap,rfl,by simp,fun h=>absurd h (by simp)⟩
theorem II (h:DataW.trod enc Tryz.prog w base spare held fuel 143 cs=some x){b o:Nat}(hc:∀ j,j<5->w.cell? (a_ b (o+j))=cs[j]?):∃ n:cS,kU w b o n:=by
 obtain⟨_,_,f0⟩:=cY Tryz.underlying143 h 0 rfl kE;obtain⟨_,_,f1⟩:=cY Tryz.underlying143 h 1 rfl Mt;obtain⟨_,_,f2⟩:=cY Tryz.underlying143 h 2 rfl MW;obtain⟨_,_,f3⟩:=cY Tryz.underlying143 h 3 rfl tD;obtain⟨_,_,f4⟩:=cY Tryz.underlying143 h 4 rfl kE;obtain⟨kind,e0,_⟩:=DataW.trod_int Tryz.underlying3 f0;obtain⟨num,e1,_⟩:=DataW.trod_int Tryz.underlying2 f1;obtain⟨flt,e2⟩:=Cs Tryz.underlying47 f2;obtain⟨str,e3,_,hs⟩:=DataW.trod_string Tryz.underlying9 f3;obtain⟨ref,e4,_⟩:=DataW.trod_int Tryz.underlying3 f4;exact⟨⟨kind,num,flt,str,ref⟩,
  {kind:=(hc 0 (by decide)).trans (cW e0),num:=(hc 1 (by decide)).trans (cW e1),flt:=(hc 2 (by decide)).trans (cW e2),strs:=hs,str:=(hc 3 (by decide)).trans (cW e3),ref:=(hc 4 (by decide)).trans (cW e4) }⟩
theorem Hg (h:DataW.trod enc Tryz.prog w base spare held fuel 59 cs=some x):∃(a:o_)(l:List cS)(c:Nat),cs=[.slice a l.length c]/\cQ w (MC w) a l:=by
 obtain⟨a,len,cap,rfl,h1,h2,h3⟩:=nD Tryz.underlying59 Mi (by decide) h;by_cases h0:0<len
 ·obtain⟨b,off,rfl,hb,hx⟩:=h3 h0;obtain⟨l,hl,hp⟩:=pN cS.z (n:=len) (p:=fun i z=>kU w b (off+i * 5) z) (fun i hi=>by
   obtain⟨n,LP,y,g1,g2,g3⟩:=hx i hi;exact II g1 g3)
  aj hl
  exact⟨_,l,cap,rfl,h2,fun _=>⟨b,off,rfl,hb,hp⟩⟩
 ·obtain rfl:len=0:=by omega
  exact⟨a,[],cap,rfl,by simp,fun h=>absurd h (by simp)⟩
theorem Qn (h:DataW.trod enc Tryz.prog w base spare held fuel 160 cs=some x){b o:Nat}(hc:∀ j,j<5->w.cell? (a_ b (o+j))=cs[j]?):∃ n:aA,aL w b o n:=by
 obtain⟨_,_,f0⟩:=cY Tryz.underlying160 h 0 rfl kE;obtain⟨_,_,f1⟩:=cY Tryz.underlying160 h 1 rfl kE;obtain⟨_,_,f2⟩:=cY Tryz.underlying160 h 2 rfl kE;obtain⟨_,_,f3⟩:=cY Tryz.underlying160 h 3 rfl kE;obtain⟨_,_,f4⟩:=cY Tryz.underlying160 h 4 rfl kE;obtain⟨op,e0,_⟩:=DataW.trod_int Tryz.underlying3 f0;obtain⟨fa,e1,_⟩:=DataW.trod_int Tryz.underlying3 f1;obtain⟨fb,e2,_⟩:=DataW.trod_int Tryz.underlying3 f2;obtain⟨fc,e3,_⟩:=DataW.trod_int Tryz.underlying3 f3;obtain⟨fd,e4,_⟩:=DataW.trod_int Tryz.underlying3 f4;exact⟨⟨op,fa,fb,fc,fd⟩,
  {op:=(hc 0 (by decide)).trans (cW e0),fa:=(hc 1 (by decide)).trans (cW e1),fb:=(hc 2 (by decide)).trans (cW e2),fc:=(hc 3 (by decide)).trans (cW e3),fd:=(hc 4 (by decide)).trans (cW e4) }⟩
theorem Mu (h:DataW.trod enc Tryz.prog w base spare held fuel 60 cs=some x):∃(a:o_)(l:List aA)(c:Nat),cs=[.slice a l.length c]/\bQ w (MC w) a l:=by
 obtain⟨a,len,cap,rfl,h1,h2,h3⟩:=nD Tryz.underlying60 Uq (by decide) h;by_cases h0:0<len
 ·obtain⟨b,off,rfl,hb,hx⟩:=h3 h0;obtain⟨l,hl,hp⟩:=pN aA.z (n:=len) (p:=fun i z=>aL w b (off+i * 5) z) (fun i hi=>by
   obtain⟨n,LP,y,g1,g2,g3⟩:=hx i hi;exact Qn g1 g3)
  aj hl
  exact⟨_,l,cap,rfl,h2,fun _=>⟨b,off,rfl,hb,hp⟩⟩
 ·obtain rfl:len=0:=by omega
  exact⟨a,[],cap,rfl,by simp,fun h=>absurd h (by simp)⟩
theorem JV (h:DataW.trod enc Tryz.prog w base spare held fuel 145 cs=some x){b o:Nat}(hc:∀ j,j<4->w.cell? (a_ b (o+j))=cs[j]?):∃ n:bE,lj w b o n:=by
 obtain⟨_,_,f0⟩:=cY Tryz.underlying145 h 0 rfl tD;obtain⟨_,_,f1⟩:=cY Tryz.underlying145 h 1 rfl kE;obtain⟨_,_,f2⟩:=cY Tryz.underlying145 h 2 rfl kE;obtain⟨_,_,f3⟩:=cY Tryz.underlying145 h 3 rfl kE;obtain⟨name,e0,_,hs⟩:=DataW.trod_string Tryz.underlying9 f0;obtain⟨reg,e1,_⟩:=DataW.trod_int Tryz.underlying3 f1;obtain⟨fro,e2,_⟩:=DataW.trod_int Tryz.underlying3 f2;obtain⟨til,e3,_⟩:=DataW.trod_int Tryz.underlying3 f3;exact⟨⟨name,reg,fro,til⟩,
  {names:=hs,name:=(hc 0 (by decide)).trans (cW e0),reg:=(hc 1 (by decide)).trans (cW e1),fro:=(hc 2 (by decide)).trans (cW e2),til:=(hc 3 (by decide)).trans (cW e3) }⟩
theorem G4 (h:DataW.trod enc Tryz.prog w base spare held fuel 61 cs=some x):∃(a:o_)(l:List bE)(c:Nat),cs=[.slice a l.length c]/\dc w (MC w) a l:=by
 obtain⟨a,len,cap,rfl,h1,h2,h3⟩:=nD Tryz.underlying61 Mw (by decide) h;by_cases h0:0<len
 ·obtain⟨b,off,rfl,hb,hx⟩:=h3 h0;obtain⟨l,hl,hp⟩:=pN bE.z (n:=len) (p:=fun i z=>lj w b (off+i * 4) z) (fun i hi=>by
   obtain⟨n,LP,y,g1,g2,g3⟩:=hx i hi;exact JV g1 g3)
  aj hl
  exact⟨_,l,cap,rfl,h2,fun _=>⟨b,off,rfl,hb,hp⟩⟩
 ·obtain rfl:len=0:=by omega
  exact⟨a,[],cap,rfl,by simp,fun h=>absurd h (by simp)⟩
theorem J6 (h:DataW.trod enc Tryz.prog w base spare held fuel 63 cs=some x){b o:Nat}(hc:∀ j,j<9->w.cell? (a_ b (o+j))=cs[j]?):∃ n:ak,aU w (MC w) b o n:=by
 obtain⟨_,_,f0⟩:=cY Tryz.underlying63 h 0 rfl tD;obtain⟨_,_,f1⟩:=cY Tryz.underlying63 h 1 rfl kE;obtain⟨_,_,f2⟩:=cY Tryz.underlying63 h 2 rfl kE;obtain⟨_,_,f3⟩:=cY Tryz.underlying63 h 3 rfl JJ;obtain⟨_,_,f4⟩:=cY Tryz.underlying63 h 4 rfl kE;obtain⟨_,_,f5⟩:=cY Tryz.underlying63 h 5 rfl UG;obtain⟨_,_,f6⟩:=cY Tryz.underlying63 h 6 rfl Kf;obtain⟨_,_,f7⟩:=cY Tryz.underlying63 h 7 rfl Qh;obtain⟨_,_,f8⟩:=cY Tryz.underlying63 h 8 rfl J7;obtain⟨name,e0,_,hs⟩:=DataW.trod_string Tryz.underlying9 f0;obtain⟨line,e1,_⟩:=DataW.trod_int Tryz.underlying3 f1;obtain⟨params,e2,_⟩:=DataW.trod_int Tryz.underlying3 f2;obtain⟨rest,e3,_⟩:=DataW.trod_bool Tryz.underlying4 f3;obtain⟨regs,e4,_⟩:=DataW.trod_int Tryz.underlying3 f4;obtain⟨a5,ups,c5,e5,h5⟩:=Qm f5;obtain⟨a6,consts,c6,e6,h6⟩:=Hg f6;obtain⟨a7,ins,c7,e7,h7⟩:=Mu f7;obtain⟨a8,named,c8,e8,h8⟩:=G4 f8;exact⟨⟨name,line,params,rest,regs,ups,consts,ins,named⟩,
  {names:=hs,name:=(hc 0 (by decide)).trans (cW e0),line:=(hc 1 (by decide)).trans (cW e1),params:=(hc 2 (by decide)).trans (cW e2),rest:=(hc 3 (by decide)).trans (cW e3),regs:=(hc 4 (by decide)).trans (cW e4),ups:=⟨a5,c5,(hc 5 (by decide)).trans (cW e5),h5⟩,consts:=⟨a6,c6,(hc 6 (by decide)).trans (cW e6),h6⟩,ins:=⟨a7,c7,(hc 7 (by decide)).trans (cW e7),h7⟩,named:=⟨a8,c8,(hc 8 (by decide)).trans (cW e8),h8⟩ }⟩
theorem GD (h:DataW.trod enc Tryz.prog w base spare held fuel 22 cs=some x):∃(a:o_)(l:List ak)(c:Nat),cs=[.slice a l.length c]/\ao w (MC w) a l:=by
 obtain⟨a,len,cap,rfl,h1,h2,h3⟩:=nD Tryz.underlying22 Mm (by decide) h;by_cases h0:0<len
 ·obtain⟨b,off,rfl,hb,hx⟩:=h3 h0;obtain⟨l,hl,hp⟩:=pN ak.z (n:=len) (p:=fun i z=>aU w (MC w) b (off+i * 9) z) (fun i hi=>by
   obtain⟨n,LP,y,g1,g2,g3⟩:=hx i hi;exact J6 g1 g3)
  aj hl
  exact⟨_,l,cap,rfl,h2,fun _=>⟨b,off,rfl,hb,hp⟩⟩
 ·obtain rfl:len=0:=by omega
  exact⟨a,[],cap,rfl,by simp,fun h=>absurd h (by simp)⟩
end
end Go.Proofs.YtcjfjflljdojlaaGreatDoor
namespace Go.Proofs.YtcjfjflljdojlaaGreatDoor
open Go.RowKit
theorem aN {T:Nat}{z:Value}{s b:Nat}(h:(Tryz.prog.info? T).map (fun i=>(i.zero,i.size,i.bytes))=some (some z,s,b)):∃ i0,Tryz.prog.info? T=some i0/\i0.zero=some z/\i0.size=s/\i0.bytes=b:=by
 cases e:Tryz.prog.info? T with
 | none=>rw[e]at h;cases h
 | some i=>
  rw[e]at h;simp only[Option.map_some,Option.some.injEq,Prod.mk.injEq]at h;exact⟨i,rfl,h.1,h.2.1,h.2.2⟩
theorem dT:(Tryz.prog.info? 3).map (fun i=>(i.zero,i.size,i.bytes))=some (some (i_ 0),1,8):=by kernel_rfl
theorem fA:(Tryz.prog.info? 154).map (fun i=>(i.zero,i.size,i.bytes))=some (some (.agg #[.bool false,i_ 0,i_ 0]),3,24):=by kernel_rfl
def ar (w:World)(base:Nat)(v:Value)(t:List Int):Prop:=w.ownsRow base 3 1 v t.length (t.map (Value.int .i64))
theorem ar.push {w:World}{base:Nat}{v:Value}{t:List Int}{x:Int}(h:w.ownsRow base 3 1 v (t.length+1) (t.map (Value.int .i64)++[i_ x])):ar w base v (t++[x]):=by
 unfold ar;rw[List.length_append,List.map_append];exact h
theorem qT {α:Type}(l:List α)(k:Nat)(d:α)(h:k<l.length):l.take (k+1)=l.take k++[l[k]?.getD d]:=by
 rw[List.take_succ_eq_append_getElem h,g_ h];rfl
structure n7 (w:World)(b o:Nat)(n:bg):Prop where
 tr:w.cell? (a_ b o)=some (.bool n.tr)
 keep:w.cell? (a_ b (o+1))=some (i_ n.keep)
 hand:w.cell? (a_ b (o+2))=some (i_ n.hand)
def bx (w:World)(S:Nat->Prop)(a:o_)(l:List bg):Prop:=
 l.length<=9223372036854775807/\(0<l.length->∃ b off,a=some (a_ b off)/\S b/\∀ j,j<l.length->n7 w b (off+j * 3) (l[j]?.getD bg.z))
theorem n7.same {w w':World}{S:Nat->Prop}{b o:Nat}{n:bg}(h:n7 w b o n)(hb:cI S w w')(hs:S b):n7 w' b o n:=
 ⟨(hb.cell hs _).trans h.tr,(hb.cell hs _).trans h.keep,(hb.cell hs _).trans h.hand⟩
theorem bx.same {w w':World}{S:Nat->Prop}{a:o_}{l:List bg}(h:bx w S a l)(hb:cI S w w'):bx w' S a l:=
 ⟨h.1,fun h0=>by
  obtain⟨b,off,e,hs,hc⟩:=h.2 h0;exact⟨b,off,e,hs,fun j hj=>(hc j hj).same hb hs⟩⟩
theorem bx.keep {w w':World}{S:Nat->Prop}{a:o_}{l:List bg}{B:Nat}(h:bx w S a l)(hb:Below B w w')(hS:∀ b,S b->b<B):bx w' S a l:=h.same (.of_below hb hS)
def qg (g:bg):List Value:=[.bool g.tr,i_ g.keep,i_ g.hand]
def cn (w:World)(base:Nat)(v:Value)(t:List bg):Prop:=w.ownsRow base 154 3 v t.length (t.flatMap qg)
theorem cn.push {w:World}{base:Nat}{v:Value}{t:List bg}{x:bg}(h:w.ownsRow base 154 3 v (t.length+1) (t.flatMap qg++qg x)):cn w base v (t++[x]):=by
 unfold cn;rw[List.length_append,List.flatMap_append];simpa using h
theorem mg (a:o_)(l:List Int)(c:Nat)(S:Nat->Prop)(w:World)(hs:aR w S a l)(hB:∀ b,S b->b<w.heap.size)(hl:l.length<=1048576) :
  c_ 57 #[.slice a l.length c] w fun e w'=>∃ v,e=.returned v/\ar w' w.heap.size v l/\b_ w w':=by
 have hn:=hs.1;obtain⟨i0,hi,dE,cT,dB⟩:=aN dT;go_enter Tryz.func57,Tryz.ntmps57;go_wp2_with fail
 go_loopg [3,8] l.length (fun g v i wr=>∃(k:Nat),k+g=l.length/\i=i_ k/\ar wr w.heap.size v (l.take k)/\b_ w wr)
 case atStart=>exact⟨0,by omega,rfl,World.ownsRow_nil _ _ _ _,r_⟩
 case round=>
  obtain⟨k,hk,rfl,bc,hb⟩:=hrel;by_cases ax:k<l.length
  ·obtain⟨b,off,rfl,jF,aE⟩:=(hs.keep hb hB).2 (by omega);have hc:=aE k ax;have Th:=af (qT l k 0 ax);have Lr:Hid ((l.take k).length<=1048576):=by show _<=_;simp;omega
   clear aE;generalize l[k]?.getD 0=x at *;generalize l.take k=t at *;have mF:=af bc;have HB:=af hb;have kO:=hb.size;clear bc hb;go_wp2_with (first
    | (at_builtin;refine wpList_append_own _ rfl _ _ 70 rfl w.heap.size 3 i0 (i_ 0) 1 8 Tryz.underlying70 hi dE cT dB rfl (by decide) _ _ _ rfl ((aa mF).alloc _) (a_ wr.heap.size 0) 1 1 [i_ x] rfl rfl ?c1 ?c2 ?c3 ?c4 ?c5 ?_)
    | go_in)
   case c1=>
    intro j u hj
    match j,hj with
    | 0,hj=>simp at hj;aj hj;simp[Addr.add]
   case c2=>intro u hu;simp at hu;aj hu;rfl
   case c3=>have:=Lr.out;unfold maxLen;omega
   case c4=>have:=Lr.out;omega
   case c5=>simp;omega
   intro v' w1 dj hgrow _;have R1:Hid (ar w1 w.heap.size v' (l.take (k+1))):=by
    show ar _ _ _ _;rw[Th.out];exact ar.push dj
   have R2:Hid (b_ w w1):=((aa HB).alloc kO _).grown hgrow (by simp;omega) (fun j hj=>((aa mF).lt j hj).1);clear dj hgrow;go_wp2_with fail
   go_roundg (l.length-(k+1))
   case measure=>omega
   case rel=>exact⟨k+1,by omega,by go_num,aa R1,aa R2⟩
  ·have iK:l.take k=l:=List.take_of_length_le (by omega);rw[iK]at bc;go_wp2_with fail
   go_ret;exact⟨_,rfl,bc,hb⟩
theorem eQ (a:o_)(l:List bg)(c:Nat)(S:Nat->Prop)(w:World)(hs:bx w S a l)(hB:∀ b,S b->b<w.heap.size)(hl:l.length<=1048576) :
  c_ 63 #[.slice a l.length c] w fun e w'=>∃ v,e=.returned v/\cn w' w.heap.size v l/\b_ w w':=by
 have hn:=hs.1;obtain⟨i0,hi,dE,cT,dB⟩:=aN fA;go_enter Tryz.func63,Tryz.ntmps63;go_wp2_with fail
 go_loopg [3,8] l.length (fun g v i wr=>∃(k:Nat),k+g=l.length/\i=i_ k/\cn wr w.heap.size v (l.take k)/\b_ w wr)
 case atStart=>exact⟨0,by omega,rfl,World.ownsRow_nil _ _ _ _,r_⟩
 case round=>
  obtain⟨k,hk,rfl,bc,hb⟩:=hrel;by_cases ax:k<l.length
  ·obtain⟨b,off,rfl,jF,aE⟩:=(hs.keep hb hB).2 (by omega);have hc:=aE k ax;have Th:=af (qT l k bg.z ax);have Lr:Hid ((l.take k).length<=1048576):=by show _<=_;simp;omega
   clear aE;generalize l[k]?.getD bg.z=x at *;generalize l.take k=t at *;have mF:=af bc;have HB:=af hb;have kO:=hb.size;clear bc hb;have d0:=hc.tr;have d1:=hc.keep;have d2:=hc.hand;clear hc;obtain⟨xt,xk,xh⟩:=x;simp only at *;go_wp2_with (first
    | (at_builtin;refine wpList_append_own _ rfl _ _ 95 rfl w.heap.size 154 i0 (.agg #[.bool false,i_ 0,i_ 0]) 3 24 Tryz.underlying95 hi dE cT dB rfl (by decide) _ _ _ rfl (((aa mF).alloc _).alloc _) (a_ (wr.heap.size+1) 0) 1 1 [.bool xt,i_ xk,i_ xh] rfl rfl ?c1 ?c2 ?c3 ?c4 ?c5 ?_)
    | go_in)
   case c1=>
    intro j u hj
    match j,hj with
    | 0,hj=>simp at hj;aj hj;simp[Addr.add,go_sem]
    | 1,hj=>simp at hj;aj hj;simp[Addr.add,go_sem]
    | 2,hj=>simp at hj;aj hj;simp[Addr.add,go_sem]
    | n+3,hj=>simp at hj
   case c2=>intro u hu;simp at hu;rcases hu with rfl | rfl | rfl<;>rfl
   case c3=>have:=Lr.out;unfold maxLen;omega
   case c4=>have:=Lr.out;omega
   case c5=>simp;omega
   intro v' w1 dj hgrow _;have R1:Hid (cn w1 w.heap.size v' (l.take (k+1))):=by
    show cn _ _ _ _;rw[Th.out];exact cn.push dj
   have R2:Hid (b_ w w1):=(((aa HB).alloc kO _).alloc (by simp;omega) _).grown hgrow (by simp;omega) (fun j hj=>((aa mF).lt j hj).1);clear dj hgrow;go_wp2_with fail
   go_roundg (l.length-(k+1))
   case measure=>omega
   case rel=>exact⟨k+1,by omega,by go_num,aa R1,aa R2⟩
  ·have iK:l.take k=l:=List.take_of_length_le (by omega);rw[iK]at bc;go_wp2_with fail
   go_ret;exact⟨_,rfl,bc,hb⟩
end Go.Proofs.YtcjfjflljdojlaaGreatDoor
