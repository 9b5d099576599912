import Derived.Test.YtcjfjflljdojlaaGreatDoorPart45
import Derived.Test.YtcjfjflljdojlaaGreatDoorPart37
import Derived.BigRegion
import Derived.Test.YtcjfjflljdojlaaGreatDoorPart32
set_option linter.unusedSimpArgs false
set_option linter.unusedVariables false
set_option maxHeartbeats 8000000
set_option maxRecDepth 1000000
namespace Go.Proofs.YtcjfjflljdojlaaGreatDoor
open Go.RowKit
structure GK (B1 B2 bR bC bL bO:Nat):Prop where
 r1:B1<=bR/\bR<B2
 c1:B1<=bC/\bC<B2
 l1:B1<=bL/\bL<B2
 o1:B1<=bO/\bO<B2
 rc:bR≠bC
 rl:bR≠bL
 ro:bR≠bO
 cl:bC≠bL
 co:bC≠bO
 lo:bL≠bO
def Bw (bC bL bO:Nat)(steps:Value)(N cnt lst:Nat)(fnd:Bool)(pv:Value)(j:Nat):Value:=
 if j=7 then .bool fnd else if j=6 then i_ (lst:Int)else if j=5 then i_ (cnt:Int)else if j=4 then .slice (some (a_ bO 0)) N N else if j=3 then pv else if j=2 then .slice (some (a_ bL 0)) N N else if j=1 then .slice (some (a_ bC 0)) N N else steps
structure iJ (w0:World)(B1 B2 bR bC bL bO:Nat)(steps:Value)(N:Nat)(cm lw:Nat->Nat)(op:Nat->Bool)(path:List Nat)(cnt lst:Nat)(fnd:Bool)(pv:Value)(wr:World):Prop where
 old:Below B1 w0 wr
 size:B2<=wr.heap.size
 box:wr.rowIs bR 182 8 (Bw bC bL bO steps N cnt lst fnd pv)
 came:wr.rowIs bC 3 N (fun j=>i_ (cm j:Int))
 low:wr.rowIs bL 3 N (fun j=>i_ (lw j:Int))
 opn:wr.rowIs bO 4 N (fun j=>.bool (op j))
 pth:ar wr B2 pv (aH path)
section
variable {w0:World} {B1 B2 bR bC bL bO:Nat} {steps:Value} {N:Nat} {cm lw:Nat->Nat} {op:Nat->Bool} {path:List Nat} {cnt lst:Nat} {fnd:Bool} {pv:Value} {wr w2:World}
theorem iJ.below (h:iJ w0 B1 B2 bR bC bL bO steps N cm lw op path cnt lst fnd pv wr)(hb:b_ wr w2)(h1:B1<=B2):iJ w0 B1 B2 bR bC bL bO steps N cm lw op path cnt lst fnd pv w2 where
 old:=h.old.trans (hb.mono (Nat.le_trans h1 h.size))
 size:=Nat.le_trans h.size hb.size
 box:=h.box.of_block (hb.block _ h.box.lt)
 came:=h.came.of_block (hb.block _ h.came.lt)
 low:=h.low.of_block (hb.block _ h.low.lt)
 opn:=h.opn.of_block (hb.block _ h.opn.lt)
 pth:=h.pth.below hb
theorem iJ.cells (h:iJ w0 B1 B2 bR bC bL bO steps N cm lw op path cnt lst fnd pv wr):(wr.cell? (a_ bR 0)=some steps/\wr.cell? (a_ bR 1)=some (.slice (some (a_ bC 0)) N N)/\wr.cell? (a_ bR 2)=some (.slice (some (a_ bL 0)) N N)/\wr.cell? (a_ bR 3)=some pv/\wr.cell? (a_ bR 4)=some (.slice (some (a_ bO 0)) N N)/\wr.cell? (a_ bR 5)=some (i_ (cnt:Int))/\wr.cell? (a_ bR 6)=some (i_ (lst:Int))/\wr.cell? (a_ bR 7)=some (.bool fnd))/\bR<wr.heap.size/\bC<wr.heap.size/\bL<wr.heap.size/\bO<wr.heap.size:=
 ⟨⟨h.box.cell (i:=0) (by omega),h.box.cell (i:=1) (by omega),h.box.cell (i:=2) (by omega),h.box.cell (i:=3) (by omega),h.box.cell (i:=4) (by omega),h.box.cell (i:=5) (by omega),h.box.cell (i:=6) (by omega),h.box.cell (i:=7) (by omega)⟩,h.box.lt,h.came.lt,h.low.lt,h.opn.lt⟩
theorem iJ.setCame (h:iJ w0 B1 B2 bR bC bL bO steps N cm lw op path cnt lst fnd pv wr)(hB:GK B1 B2 bR bC bL bO)(i v:Nat):iJ w0 B1 B2 bR bC bL bO steps N (bZ cm i v) lw op path cnt lst fnd pv (wr.setCell (a_ bC i) (i_ (v:Int))):=by
 have hk:∀ k,k≠bC->(wr.setCell (a_ bC i) (i_ (v:Int))).heap[k]? = wr.heap[k]?:=fun k hk=>heap_setCell_other wr (a_ bC i) k _ hk;exact {
  old:=h.old.setCell hB.c1.1 _
  size:=by have:=h.size;simpa using this
  box:=h.box.of_block (hk bR hB.rc)
  came:=(h.came.set i _).congr (fun j hj=>by show(if j=i then _ else _)=_;unfold bZ;split<;>rfl)
  low:=h.low.of_block (hk bL (fun e=>hB.cl e.symm))
  opn:=h.opn.of_block (hk bO (fun e=>hB.co e.symm))
  pth:=h.pth.setOther hB.c1.2 }
theorem iJ.setLow (h:iJ w0 B1 B2 bR bC bL bO steps N cm lw op path cnt lst fnd pv wr)(hB:GK B1 B2 bR bC bL bO)(i v:Nat):iJ w0 B1 B2 bR bC bL bO steps N cm (bZ lw i v) op path cnt lst fnd pv (wr.setCell (a_ bL i) (i_ (v:Int))):=by
 have hk:∀ k,k≠bL->(wr.setCell (a_ bL i) (i_ (v:Int))).heap[k]? = wr.heap[k]?:=fun k hk=>heap_setCell_other wr (a_ bL i) k _ hk;exact {
  old:=h.old.setCell hB.l1.1 _
  size:=by have:=h.size;simpa using this
  box:=h.box.of_block (hk bR hB.rl)
  came:=h.came.of_block (hk bC hB.cl)
  low:=(h.low.set i _).congr (fun j hj=>by show(if j=i then _ else _)=_;unfold bZ;split<;>rfl)
  opn:=h.opn.of_block (hk bO (fun e=>hB.lo e.symm))
  pth:=h.pth.setOther hB.l1.2 }
theorem iJ.setOpen (h:iJ w0 B1 B2 bR bC bL bO steps N cm lw op path cnt lst fnd pv wr)(hB:GK B1 B2 bR bC bL bO)(i:Nat)(v:Bool):iJ w0 B1 B2 bR bC bL bO steps N cm lw (bZ op i v) path cnt lst fnd pv (wr.setCell (a_ bO i) (.bool v)):=by
 have hk:∀ k,k≠bO->(wr.setCell (a_ bO i) (.bool v)).heap[k]? = wr.heap[k]?:=fun k hk=>heap_setCell_other wr (a_ bO i) k _ hk;exact {
  old:=h.old.setCell hB.o1.1 _
  size:=by have:=h.size;simpa using this
  box:=h.box.of_block (hk bR hB.ro)
  came:=h.came.of_block (hk bC hB.co)
  low:=h.low.of_block (hk bL hB.lo)
  opn:=(h.opn.set i _).congr (fun j hj=>by show(if j=i then _ else _)=_;unfold bZ;split<;>rfl)
  pth:=h.pth.setOther hB.o1.2 }
theorem iJ.setCount (h:iJ w0 B1 B2 bR bC bL bO steps N cm lw op path cnt lst fnd pv wr)(hB:GK B1 B2 bR bC bL bO)(v:Nat):iJ w0 B1 B2 bR bC bL bO steps N cm lw op path (v) lst fnd pv (wr.setCell (a_ bR 5) (i_ (v:Int))):=by
 have hk:∀ k,k≠bR->(wr.setCell (a_ bR 5) (i_ (v:Int))).heap[k]? = wr.heap[k]?:=fun k hk=>heap_setCell_other wr (a_ bR 5) k _ hk;exact {
  old:=h.old.setCell hB.r1.1 _
  size:=by have:=h.size;simpa using this
  box:=(h.box.set 5 _).congr (fun j hj=>by show(if j=5 then _ else Bw _ _ _ _ _ _ _ _ _ j)=Bw _ _ _ _ _ _ _ _ _ j;unfold Bw;by_cases e:j=5<;>simp[e])
  came:=h.came.of_block (hk bC (fun e=>hB.rc e.symm))
  low:=h.low.of_block (hk bL (fun e=>hB.rl e.symm))
  opn:=h.opn.of_block (hk bO (fun e=>hB.ro e.symm))
  pth:=h.pth.setOther hB.r1.2 }
theorem iJ.setLeast (h:iJ w0 B1 B2 bR bC bL bO steps N cm lw op path cnt lst fnd pv wr)(hB:GK B1 B2 bR bC bL bO)(v:Nat):iJ w0 B1 B2 bR bC bL bO steps N cm lw op path cnt (v) fnd pv (wr.setCell (a_ bR 6) (i_ (v:Int))):=by
 have hk:∀ k,k≠bR->(wr.setCell (a_ bR 6) (i_ (v:Int))).heap[k]? = wr.heap[k]?:=fun k hk=>heap_setCell_other wr (a_ bR 6) k _ hk;exact {
  old:=h.old.setCell hB.r1.1 _
  size:=by have:=h.size;simpa using this
  box:=(h.box.set 6 _).congr (fun j hj=>by show(if j=6 then _ else Bw _ _ _ _ _ _ _ _ _ j)=Bw _ _ _ _ _ _ _ _ _ j;unfold Bw;by_cases e:j=6<;>simp[e])
  came:=h.came.of_block (hk bC (fun e=>hB.rc e.symm))
  low:=h.low.of_block (hk bL (fun e=>hB.rl e.symm))
  opn:=h.opn.of_block (hk bO (fun e=>hB.ro e.symm))
  pth:=h.pth.setOther hB.r1.2 }
theorem iJ.setFound (h:iJ w0 B1 B2 bR bC bL bO steps N cm lw op path cnt lst fnd pv wr)(hB:GK B1 B2 bR bC bL bO)(v:Bool):iJ w0 B1 B2 bR bC bL bO steps N cm lw op path cnt lst (v) pv (wr.setCell (a_ bR 7) (.bool v)):=by
 have hk:∀ k,k≠bR->(wr.setCell (a_ bR 7) (.bool v)).heap[k]? = wr.heap[k]?:=fun k hk=>heap_setCell_other wr (a_ bR 7) k _ hk;exact {
  old:=h.old.setCell hB.r1.1 _
  size:=by have:=h.size;simpa using this
  box:=(h.box.set 7 _).congr (fun j hj=>by show(if j=7 then _ else Bw _ _ _ _ _ _ _ _ _ j)=Bw _ _ _ _ _ _ _ _ _ j;unfold Bw;by_cases e:j=7<;>simp[e])
  came:=h.came.of_block (hk bC (fun e=>hB.rc e.symm))
  low:=h.low.of_block (hk bL (fun e=>hB.rl e.symm))
  opn:=h.opn.of_block (hk bO (fun e=>hB.ro e.symm))
  pth:=h.pth.setOther hB.r1.2 }
theorem iJ.push (h:iJ w0 B1 B2 bR bC bL bO steps N cm lw op path cnt lst fnd pv wr)(hB:GK B1 B2 bR bC bL bO){w1:World}{iP:Value}{path':List Nat}{o:Obj}(hg:(wr.alloc o).grownBy w1 pv.ownBlock)(ho:ar w1 B2 iP (aH path')):iJ w0 B1 B2 bR bC bL bO steps N cm lw op (path') cnt lst fnd (iP) (w1.setCell (a_ bR 3) iP):=by
 have hz:=h.size;have kq:(wr.alloc o).heap.size=wr.heap.size+1:=by simp
 have hpv:∀ k,pv.ownBlock=some k->B2<=k/\k<wr.heap.size:=h.pth.lt';obtain⟨r1,c1,l1,o1,_,_,_,_,_,_⟩:=hB;have hb:∀ k,k<B2->w1.heap[k]? = wr.heap[k]?:=fun k hk=>(hg.block k (by omega) (fun e=>by have:=hpv k e.symm;omega)).trans (Below.heap_alloc wr _ k (by omega));have hk:∀ k,k≠bR->(w1.setCell (a_ bR 3) iP).heap[k]? = w1.heap[k]?:=fun k hk=>heap_setCell_other w1 (a_ bR 3) k _ hk;have hA:Below B1 wr (wr.alloc o):=r_.alloc (by omega) _;exact {
  old:=(h.old.trans (hA.trans (kx hg (fun k e=>by have:=hpv k e;omega) (by omega)))).setCell r1.1 _
  size:=by have:=hg.size;simp;omega
  box:=((h.box.of_block (hb bR r1.2)).set 3 _).congr (fun j hj=>by show(if j=3 then _ else Bw _ _ _ _ _ _ _ _ _ j)=Bw _ _ _ _ _ _ _ _ _ j;unfold Bw;by_cases e:j=3<;>simp[e])
  came:=h.came.of_block ((hk bC (by omega)).trans (hb bC c1.2))
  low:=h.low.of_block ((hk bL (by omega)).trans (hb bL l1.2))
  opn:=h.opn.of_block ((hk bO (by omega)).trans (hb bO o1.2))
  pth:=ho.setOther r1.2 }
theorem iJ.cut {g n cap:Nat}(h:iJ w0 B1 B2 bR bC bL bO steps N cm lw op path cnt lst fnd (.slice (some (a_ g 0)) n cap) wr)(hB:GK B1 B2 bR bC bL bO)(P:Nat)(hP:P<=path.length):iJ w0 B1 B2 bR bC bL bO steps N cm lw op (path.take P) cnt lst fnd (.slice (some (a_ g 0)) P cap) (wr.setCell (a_ bR 3) (.slice (some (a_ g 0)) P cap)):=by
 have hk:∀ k,k≠bR->(wr.setCell (a_ bR 3) (.slice (some (a_ g 0)) P cap)).heap[k]? = wr.heap[k]?:=fun k hk=>heap_setCell_other wr (a_ bR 3) k _ hk;exact {
  old:=h.old.setCell hB.r1.1 _
  size:=by have:=h.size;simpa using this
  box:=(h.box.set 3 _).congr (fun j hj=>by show(if j=3 then _ else Bw _ _ _ _ _ _ _ _ _ j)=Bw _ _ _ _ _ _ _ _ _ j;unfold Bw;by_cases e:j=3<;>simp[e])
  came:=h.came.of_block (hk bC (fun e=>hB.rc e.symm))
  low:=h.low.of_block (hk bL (fun e=>hB.rl e.symm))
  opn:=h.opn.of_block (hk bO (fun e=>hB.ro e.symm))
  pth:=by
   have ho:=h.pth.setOther (D:=bR) (j:=3) (u:=.slice (some (a_ g 0)) P cap) hB.r1.2;have Bp:(aH path).length=path.length:=by simp[aH]
   rcases ho.2 with⟨e,_⟩ | ⟨g',c',gi,e,h1,h2,h3,h4,h5,h6⟩
   ·cases e
   ·injection e with e1 e2 e3;injection e1 with e1;injection e1 with e1
    aj e1;aj e3
    have wg:(aH (path.take P)).length=P:=by simp[aH];omega
    refine⟨by simp,.inr ⟨g,cap,gi,by rw[wg],h1,h2,by omega,h4,h5,?_⟩⟩;rw[Nat.mul_one]at h6 ⊢;rw[wg];have:(aH (path.take P)).map (Value.int .i64)=((aH path).map (Value.int .i64)).take P:=by simp[aH,List.map_take]
    rw[this,<-h6,List.take_take]
    congr 1
    omega }
end
structure mJ (bR bC bL bO:Nat)(pv iP:Value)(wr w':World):Prop where
 same:∀ k,k<wr.heap.size->k≠bR->k≠bC->k≠bL->k≠bO->pv.ownBlock≠some k->w'.heap[k]? = wr.heap[k]?
 new:∀ k,iP.ownBlock=some k->pv.ownBlock=some k\/wr.heap.size<=k
 size:wr.heap.size<=w'.heap.size
section
variable {bR bC bL bO:Nat} {pv iP yW:Value} {wr w' w2:World}
theorem mJ.refl (bR bC bL bO:Nat)(pv:Value)(wr:World):mJ bR bC bL bO pv pv wr wr:=⟨fun _ _ _ _ _ _ _=>rfl,fun _ h=>.inl h,n_⟩
theorem mJ.trans (h:mJ bR bC bL bO pv iP wr w')(h2:mJ bR bC bL bO iP yW w' w2):mJ bR bC bL bO pv yW wr w2:=
 ⟨fun k hk n1 n2 n3 n4 n5=>(h2.same k (l_ hk h.size) n1 n2 n3 n4 (fun e=>(h.new k e).elim n5 (fun h=>by omega))).trans (h.same k hk n1 n2 n3 n4 n5),fun k e=>(h2.new k e).elim (fun e=>h.new k e) (fun hh=>.inr (Nat.le_trans h.size hh)),Nat.le_trans h.size h2.size⟩
theorem mJ.set (h:mJ bR bC bL bO pv iP wr w')(D o:Nat)(v:Value)(hD:D=bR\/D=bC\/D=bL\/D=bO):mJ bR bC bL bO pv iP wr (w'.setCell (a_ D o) v):=
 ⟨fun k hk n1 n2 n3 n4 n5=>(heap_setCell_other w' (a_ D o) k v (by show k≠D;omega)).trans (h.same k hk n1 n2 n3 n4 n5),h.new,by have:=h.size;simpa using this⟩
theorem mJ.below (h:mJ bR bC bL bO pv iP wr w')(hb:b_ w' w2):mJ bR bC bL bO pv iP wr w2:=
 ⟨fun k hk n1 n2 n3 n4 n5=>(hb.block k (l_ hk h.size)).trans (h.same k hk n1 n2 n3 n4 n5),h.new,Nat.le_trans h.size hb.size⟩
theorem mJ.of_below (hb:b_ wr w2):mJ bR bC bL bO pv pv wr w2:=(mJ.refl bR bC bL bO pv wr).below hb
theorem mJ.push {o:Obj}(hg:(wr.alloc o).grownBy w2 pv.ownBlock)(hn:∀ k,iP.ownBlock=some k->pv.ownBlock=some k\/wr.heap.size<=k):mJ bR bC bL bO pv iP wr w2:=by
 have kq:(wr.alloc o).heap.size=wr.heap.size+1:=by simp
 exact⟨fun k hk _ _ _ _ n5=>(hg.block k (by omega) (fun e=>n5 e.symm)).trans (Below.heap_alloc wr _ k hk),hn,by have:=hg.size;omega⟩
end
def za (w0:World)(B1 B2 bR bC bL bO:Nat)(steps:Value)(N:Nat)(T:Rg)(pv:Value)(wr:World):Prop:=iJ w0 B1 B2 bR bC bL bO steps N T.came T.low (fun j=>decide (j∈T.path)) T.path T.count T.least T.found pv wr
theorem iJ.opCongr {w0:World}{B1 B2 bR bC bL bO:Nat}{steps:Value}{N:Nat}{cm lw:Nat->Nat}{op Ob:Nat->Bool}{path:List Nat}{cnt lst:Nat}{fnd:Bool}{pv:Value}{wr:World}(h:iJ w0 B1 B2 bR bC bL bO steps N cm lw op path cnt lst fnd pv wr)(he:∀ j,op j=Ob j):iJ w0 B1 B2 bR bC bL bO steps N cm lw Ob path cnt lst fnd pv wr:=by
 rwa [show Ob=op from funext fun j=>(he j).symm]
theorem MJ (w:World)(g n c k:Nat)(hk:k<n)(hc:n<=c):(Instr.slice 70 (.slice (some (a_ g 0)) n c) (some (i_ (k:Int))) none none).run Tryz.prog w=.ok (.slice (some (a_ g k)) (n-k) (c-k)) w:=by
 obtain⟨i0,hi,dE,cT,dB⟩:=aN dT;have ht:Tryz.prog.underlying 70=some (.slice (Tryz.prog.elem 70)):=by rw[nO];exact Tryz.underlying70
 rw[run_slice_l w 70 (some (a_ g 0)) n c ht .i64 k (by omega) (by omega),nO];have e2:(sizeOf 3).run Tryz.prog w=.ok 1 w:=by simp[sizeOf,hi,cT];try rfl
 rw[e2];have ei:¬c=k:=by omega
 simp[Result.andThen,sliced,ei,Addr.add_lit]
theorem iJ.pathCell {w0:World}{B1 B2 bR bC bL bO:Nat}{steps:Value}{N:Nat}{cm lw:Nat->Nat}{op:Nat->Bool}{path:List Nat}{cnt lst:Nat}{fnd:Bool}{g n cap:Nat}{wr:World}(h:iJ w0 B1 B2 bR bC bL bO steps N cm lw op path cnt lst fnd (.slice (some (a_ g 0)) n cap) wr){j:Nat}(hj:j<path.length):wr.cell? (a_ g j)=some (i_ ((path[j]?.getD 0:Nat):Int)):=by
 have hl:(aH path).length=path.length:=by simp[aH]
 obtain⟨g',iM,e,_,_,hc⟩:=h.pth.at (by omega);injection e with e1;injection e1 with e1;injection e1 with e1
 aj e1
 rw[hc j (by omega),gS]
def mN (op:Nat->Bool)(g:List Nat)(k:Nat)(j:Nat):Bool:=if j∈g.take k then false else op j
theorem AM (op:Nat->Bool)(g:List Nat)(k:Nat)(h:k<g.length):bZ (mN op g k) (g[k]?.getD 0) false=mN op g (k+1):=by
 funext j
 unfold bZ mN;rw[List.take_succ_eq_append_getElem h,g_ h];simp only[List.mem_append,List.mem_singleton,Option.getD_some];by_cases e:j=g[k]
 ·rw[if_pos e,if_pos (.inr e)]
 ·rw[if_neg e];by_cases e2:j∈g.take k
  ·rw[if_pos e2,if_pos (.inl e2)]
  ·rw[if_neg e2,if_neg (fun h=>h.elim e2 e)]
def yF (w0:World)(B1 B2 bR bC bL bO:Nat)(steps:Value)(N:Nat)(T:Rg)(A g:List Nat)(self:Bool)(pv:Value)(wr:World)(e:Ending)(w':World):Prop:=
 e=.returned (.tuple #[])/\∃ m iP,m∈g/\(∀ x,x∈g->m<=x)/\za w0 B1 B2 bR bC bL bO steps N (T.close A (fG T g self m).1 (fG T g self m).2) iP w'/\mJ bR bC bL bO pv iP wr w'
theorem Gf (w0:World)(B1 B2 bR bC bL bO:Nat)(steps:Value)(N:Nat)(T:Rg)(A X:List Nat)(i:Nat)(self:Bool)(pv:Value)(wr:World)(h:za w0 B1 B2 bR bC bL bO steps N T pv wr)(hB:GK B1 B2 bR bC bL bO)(hp:T.path=A++i::X)(Bo:T.path.Nodup)(hN:∀ x,x∈T.path->x<N)(Iu:N<=6000)(aP:T.path.length<=N) :
  c_ 149 #[.pointer (some (a_ bR 0)),i_ (i:Int),.bool self] wr (yF w0 B1 B2 bR bC bL bO steps N T A (i::X) self pv wr):=by
 have Bp:(aH T.path).length=T.path.length:=by simp[aH]
 have rE:T.path.length=A.length+X.length+1:=by rw[hp];simp;omega
 obtain⟨g,cap,rfl,xg,wq,Ps⟩:=h.pth.at (by omega);have jP:=h.pth.cap;rw[Bp]at h Ps jP ⊢;have AT0:T.path[A.length]?.getD 0=i:=by rw[hp];simp
 have NE:Hid (∀ j,A.length<j->j<T.path.length->((T.path[j]?.getD 0:Nat):Int)≠(i:Int)):=fun j h1 h2 e=>by
  have hj:T.path[j]?.getD 0=T.path[j]:=by rw[g_ h2];rfl
  have hi:T.path[A.length]'(by omega)=i:=by simp[hp]
  have e':T.path[j]=T.path[A.length]'(by omega):=by rw[<-hj,hi];omega
  have:=(List.getElem_inj Bo).1 e';omega
 have GRP:Hid (∀ q,q<X.length+1->T.path[A.length+q]?.getD 0=(i::X)[q]?.getD 0):=fun q hq=>by
  rw[hp,List.getElem?_append_right (by omega),Nat.add_sub_cancel_left]
 have GN:Hid (∀ q,q<X.length+1->(i::X)[q]?.getD 0<N):=fun q hq=>by
  rw[<-GRP.out q hq,g_ (by omega)];exact hN _ (List.getElem_mem _)
 have Z3:Hid (∀ j,mN (fun j=>decide (j∈T.path)) (i::X) (X.length+1) j=decide (j∈A)):=fun j=>by
  have e:(i::X).take (X.length+1)=i::X:=List.take_of_length_le (by simp);unfold mN;rw[e,hp];rw[hp,List.nodup_append]at Bo;by_cases c:j∈i::X
  ·rw[if_pos c,eq_comm,decide_eq_false_iff_not];exact fun hA=>Bo.2.2 j hA j c rfl
  ·rw[if_neg c,decide_eq_decide,List.mem_append];exact⟨fun h=>h.resolve_right c,.inl⟩
 have aaF:Hid (T.path.take A.length=A):=by show _=_;rw[hp];simp
 have HB:=af hB;have hnA:A.length+X.length+1<=6000:=by omega
 have YF:=fun w=>MJ w g T.path.length cap A.length (by omega) jP;have SHH:=fun w=>nU w (some (a_ g 0)) T.path.length cap A.length (by omega);rw[rE]at h jP YF SHH ⊢;have VU:A.length+X.length+1-A.length=X.length+1:=by omega
 rw[VU]at YF;have We:=af h;obtain⟨⟨k0,k1,k2,k3,k4,k5,k6,k7⟩,lR,lC,lL,lO⟩:=iJ.cells h;have Vc:Hid (∀ j,j<A.length+X.length+1->wr.cell? (a_ g j)=some (i_ ((T.path[j]?.getD 0:Nat):Int))):=fun j hj=>iJ.pathCell h (by omega);have aa5:=af AT0;have OV:=af rE;clear h hB Ps hp Bo hN aP Bp k0 k1 k2 k5 AT0 rE VU;go_enter Tryz.func149,Tryz.ntmps149;go_wp2_with fail
 go_loopg [6] X.length (fun gg pl wx=>∃ q:Nat,q=A.length+gg/\gg<=X.length/\pl=i_ (q:Int)/\wx=wr)
 case atStart=>exact⟨A.length+X.length,rfl,n_,by first | rfl | (congr 1;omega),rfl⟩
 case round=>
  obtain⟨q,hq,hgX,rfl,rfl⟩:=hrel;have qc:=aa Vc q (by omega);have Rs:(q:Int)<A.length+X.length+1:=by omega
  have HQ:=af hq;have hqX:q<=A.length+X.length:=by omega
  have hqA:A.length<=q:=by omega
  clear hq hgX;by_cases hgt:A.length<q
  ·have ei:=aa NE q hgt (by rw[OV.out];omega);generalize ((T.path[q]?.getD 0:Nat):Int)=y at *;go_wp2_with fail
   go_roundg (q-1-A.length)
   case measure=>have:=HQ.out;omega
   case rel=>exact⟨q-1,by omega,by omega,by first | rfl | (congr 1;omega),rfl⟩
  ·have mz:q=A.length:=by omega
   aj mz
   clear HQ hqX hqA hgt;rw[aa5.out]at qc;go_wp2_with fail
   clear k3 k4 k6 k7 lR lC lL lO qc Rs;go_loopg [36] (X.length+1) (fun gg kk wx=>∃ q:Nat,q+gg=X.length+1/\kk=i_ (q:Int)/\Hid (iJ w0 B1 B2 bR bC bL bO steps N T.came T.low (mN (fun j=>decide (j∈T.path)) (i::X) q) T.path T.count T.least T.found (.slice (some (a_ g 0)) (A.length+X.length+1) cap) wx)/\Hid (mJ bR bC bL bO (.slice (some (a_ g 0)) (A.length+X.length+1) cap) (.slice (some (a_ g 0)) (A.length+X.length+1) cap) wr wx))
   case atStart=>exact⟨0,by omega,rfl,iJ.opCongr We.out (fun j=>by unfold mN;simp),mJ.refl _ _ _ _ _ _⟩
   case round=>
    obtain⟨q,hq,rfl,HM,Yl⟩:=hrel;obtain⟨⟨k0,k1,k2,k3,k4,k5,k6,k7⟩,lR,lC,lL,lO⟩:=HM.out.cells;clear k0 k1 k2 k5;by_cases ax:q<X.length+1
    ·have Rs:(q:Int)<X.length+1:=by omega
     have pc:=HM.out.pathCell (j:=A.length+q) (by rw[OV.out];omega);rw[GRP.out q ax]at pc;have hy:=GN.out q ax;have Yb:=af (AM (fun j=>decide (j∈T.path)) (i::X) q (by simp;omega));have fm:g<wr.heap.size:=World.block_lt_of_cell? _ _ pc;generalize (i::X)[q]?.getD 0=y at *;have oc:=HM.out.opn.cell (i:=y) hy;have oz:=HM.out.opn.frozen y;have ZH:(y:Int)<N:=by omega
     have HMN:=af (HM.out.setOpen HB.out y false);generalize mN (fun j=>decide (j∈T.path)) (i::X) q y=ob at *;go_wp2_with fail
     go_roundg (X.length+1-(q+1))
     case measure=>omega
     case rel=>exact⟨q+1,by omega,by go_num,by rw[<-Yb.out];exact HMN,Yl.out.set bO y _ (.inr (.inr (.inr rfl)))⟩
    ·have mz:q=X.length+1:=by omega
     aj mz
     have LR:=af (iJ.opCongr HM.out Z3.out);have Bp:(aH (i::X)).length=X.length+1:=by simp[aH]
     have MI:Hid (c_ 158 #[.slice (some (a_ g A.length)) (X.length+1) (cap-A.length)] wr (C8 (aH (i::X)) wr)):=by
      have key:=MV (some (a_ g A.length)) (aH (i::X)) (cap-A.length) (fun _=>True) wr ⟨by omega,fun _=>⟨g,A.length,rfl,trivial,fun j hj=>by
       have pc:=HM.out.pathCell (j:=A.length+j) (by rw[OV.out];omega);rw[GRP.out j (by omega)]at pc;rw[pc,gS]⟩⟩ (by omega) (by omega)
      rw[Bp]at key;exact key
     clear hq Bp ax HM;go_wp2_with fail
     refine(aa MI).mono ?_;rintro e w4 ⟨y,rfl,hy,Hm,rfl⟩;obtain⟨m,hm,rfl⟩:∃ m,m∈i::X/\y=(m:Int):=by
      unfold aH at hy;rw[List.mem_map]at hy;obtain⟨m,h1,h2⟩:=hy;exact⟨m,h1,h2.symm⟩
     have NM:Hid (m∈i::X/\∀ x,x∈i::X->m<=x):=⟨hm,fun x hx=>by
      have:=Hm (x:Int) (by unfold aH;rw[List.mem_map];exact⟨x,hx,rfl⟩);omega⟩
     have zR3:=LR.out.box.frozen 3;have zR6:=LR.out.box.frozen 6;have zR7:=LR.out.box.frozen 7;have Sj:=af (LR.out.cut HB.out A.length (by rw[OV.out];omega));have QV:=af (((LR.out.setLeast HB.out m).setFound HB.out true).cut HB.out A.length (by rw[OV.out];omega));rw[aaF.out]at Sj QV;have SH:Hid (∀ k,(Value.slice (some (a_ g 0)) A.length cap).ownBlock=some k->(Value.slice (some (a_ g 0)) (A.length+X.length+1) cap).ownBlock=some k):=fun k hk=>hk;have FR1:Hid (mJ bR bC bL bO (.slice (some (a_ g 0)) (A.length+X.length+1) cap) (.slice (some (a_ g 0)) A.length cap) wr (w4.setCell (a_ bR 3) (.slice (some (a_ g 0)) A.length cap))):=by
      have hh:=Yl.out.set bR 3 (.slice (some (a_ g 0)) A.length cap) (.inl rfl);exact⟨hh.same,fun k e=>.inl e,hh.size⟩
     have FR2:Hid (mJ bR bC bL bO (.slice (some (a_ g 0)) (A.length+X.length+1) cap) (.slice (some (a_ g 0)) A.length cap) wr (((w4.setCell (a_ bR 6) (i_ (m:Int))).setCell (a_ bR 7) (.bool true)).setCell (a_ bR 3) (.slice (some (a_ g 0)) A.length cap))):=by
      have hh:=((Yl.out.set bR 6 (i_ (m:Int)) (.inl rfl)).set bR 7 (.bool true) (.inl rfl)).set bR 3 (.slice (some (a_ g 0)) A.length cap) (.inl rfl);exact⟨hh.same,fun k e=>.inl e,hh.size⟩
     have FF:Hid (fG T (i::X) self m=(T.found,T.least)->yF w0 B1 B2 bR bC bL bO steps N T A (i::X) self (.slice (some (a_ g 0)) (A.length+X.length+1) cap) wr (.returned (.tuple #[])) (w4.setCell (a_ bR 3) (.slice (some (a_ g 0)) A.length cap))):=fun e=>⟨rfl,m,_,NM.out.1,NM.out.2,by rw[e];exact Sj.out,FR1.out⟩;have FT:Hid (fG T (i::X) self m=(true,m)->yF w0 B1 B2 bR bC bL bO steps N T A (i::X) self (.slice (some (a_ g 0)) (A.length+X.length+1) cap) wr (.returned (.tuple #[])) (((w4.setCell (a_ bR 6) (i_ (m:Int))).setCell (a_ bR 7) (.bool true)).setCell (a_ bR 3) (.slice (some (a_ g 0)) A.length cap))):=fun e=>⟨rfl,m,_,NM.out.1,NM.out.2,by rw[e];exact QV.out,FR2.out⟩;have CF:Hid (fG T (i::X) self m=if(decide (1<X.length+1)||self)&&(!T.found||decide (m<T.least))then(true,m)else(T.found,T.least)):=rfl;clear hy Hm hm Sj QV MI LR Yl FR1 FR2 SH;generalize fG T (i::X) self m=CFV at *;by_cases c1:1<X.length+1
     ·have c1I:(1:Int)<X.length+1:=by omega
      have d1:decide (1<X.length+1)=true:=decide_eq_true c1;rw[d1,Bool.true_or,Bool.true_and]at CF;cases hf:T.found with
      | false=>
       rw[hf]at k7 FF CF;have RT:=af (FT.out CF.out);clear d1 CF FF FT;go_wp2_with fail
       go_end0
       exact RT.out
      | true=>
       rw[hf]at k7 FF CF;by_cases c4:m<T.least
       ·have c4I:(m:Int)<T.least:=by omega
        rw[decide_eq_true c4]at CF;have RT:=af (FT.out CF.out);clear d1 CF FF FT;go_wp2_with fail
        go_end0
        exact RT.out
       ·have c4I:¬((m:Int)<T.least):=by omega
        rw[decide_eq_false c4]at CF;have RT:=af (FF.out CF.out);clear d1 CF FF FT;go_wp2_with fail
        go_end0
        exact RT.out
     ·have c1I:¬((1:Int)<X.length+1):=by omega
      have d1:decide (1<X.length+1)=false:=decide_eq_false c1;rw[d1,Bool.false_or]at CF;cases self with
      | false=>
       have RT:=af (FF.out CF.out);clear d1 CF FF FT;go_wp2_with fail
       go_end0
       exact RT.out
      | true=>
       rw[Bool.true_and]at CF;cases hf:T.found with
       | false=>
        rw[hf]at k7 FF CF;have RT:=af (FT.out CF.out);clear d1 CF FF FT;go_wp2_with fail
        go_end0
        exact RT.out
       | true=>
        rw[hf]at k7 FF CF;by_cases c4:m<T.least
        ·have c4I:(m:Int)<T.least:=by omega
         rw[decide_eq_true c4]at CF;have RT:=af (FT.out CF.out);clear d1 CF FF FT;go_wp2_with fail
         go_end0
         exact RT.out
        ·have c4I:¬((m:Int)<T.least):=by omega
         rw[decide_eq_false c4]at CF;have RT:=af (FF.out CF.out);clear d1 CF FF FT;go_wp2_with fail
         go_end0
         exact RT.out
theorem E5 {f:Nat->Nat}{c:Nat}:∀(l:List Nat)(b:Nat),l.Pairwise (fun x y=>f x<f y)->(∀ x,x∈l->b<f x)->(∀ x,x∈l->f x<=c)->b<=c->l.length+b<=c
 | [],b,_,_,_,h=>by simpa using h
 | x::l,b,hp,h1,h2,h=>by
  have hx:=h1 x (List.mem_cons_self ..);have:=E5 l (f x) (List.pairwise_cons.1 hp).2 (fun y hy=>(List.pairwise_cons.1 hp).1 y hy) (fun y hy=>h2 y (List.mem_cons_of_mem _ hy)) (h2 x (List.mem_cons_self ..));simp only[List.length_cons];omega
structure xA (P:Nat->Prop)(N:Nat)(T:Rg):Prop where
 lt:∀ x,T.came x≠0->x<N
 inn:∀ x,T.came x≠0->P x
 cnt:T.count+vQ T.came N=N
theorem xA.push {P:Nat->Prop}{N:Nat}{T:Rg}(h:xA P N T){i:Nat}(hi:i<N)(hp:P i)(h0:T.came i=0):xA P N (T.push i):=by
 refine⟨fun x hx=>?_,fun x hx=>?_,?_⟩
 ·change bZ T.came i (T.count+1) x≠0 at hx;unfold bZ at hx;split at hx
  ·omega
  ·exact h.lt x hx
 ·change bZ T.came i (T.count+1) x≠0 at hx;unfold bZ at hx;split at hx
  ·rename_i e;rw[e];exact hp
  ·exact h.inn x hx
 ·have:=qm (c:=T.came) (v:=T.count+1) h0 (by omega) N hi;have h2:=h.cnt;show T.count+1+vQ (bZ T.came i (T.count+1)) N=N;omega
theorem DT {E:Nat->List Nat}{T:Rg}{G:List Nat}(h:ks E T G):T.path.Nodup:=h.nodup.imp (fun tu e=>by aj e;omega)
theorem As {E:Nat->List Nat}{T:Rg}{G:List Nat}{P:Nat->Prop}{N:Nat}(h:ks E T G)(hi:xA P N T):T.path.length<=N:=by
 have:=E5 (c:=T.count) T.path 0 h.nodup (fun x hx=>by have:=h.vis x hx;omega) (fun x _=>h.cnt x) (Nat.zero_le _);have:=hi.cnt;omega
theorem iJ.grownBlk {w0:World}{B1 B2 bR bC bL bO:Nat}{steps:Value}{N:Nat}{cm lw:Nat->Nat}{op:Nat->Bool}{path:List Nat}{cnt lst:Nat}{fnd:Bool}{pv:Value}{wr w1:World}(h:iJ w0 B1 B2 bR bC bL bO steps N cm lw op path cnt lst fnd pv wr){o:Obj}(hg:(wr.alloc o).grownBy w1 pv.ownBlock):∀ k,k<B2->w1.heap[k]? = wr.heap[k]?:=fun k hk=>by
 have hz:=h.size;have kq:(wr.alloc o).heap.size=wr.heap.size+1:=by simp
 exact(hg.block k (by omega) (fun e=>by have:=h.pth.lt' k e.symm;omega)).trans (Below.heap_alloc wr _ k (by omega))
def dU (bV:Nat):Value:=.func (.func 126) #[.pointer (some (a_ bV 0))] #[]
def mL (P:Nat->Prop)(E:Nat->List Nat)(w0:World)(B1 B2 bR bC bL bO bV N:Nat)(T:Rg)(G:List Nat)(i:Nat)(pv:Value)(wr:World)(e:Ending)(w':World):Prop:=
 e=.returned (.tuple #[])/\∃ T' iP,za w0 B1 B2 bR bC bL bO (dU bV) N T' iP w'/\wJ E T G i T'/\xA P N T'/\mJ bR bC bL bO pv iP wr w'
def ED (E:Nat->List Nat)(w0:World)(B1 bV N:Nat):Prop:=∀ W,Below B1 w0 W->∀ x:Nat,x<N->c_ 126 #[.pointer (some (a_ bV 0)),i_ (x:Int)] W (kf (aH (E x)) W)
def zw (P:Nat->Prop)(E:Nat->List Nat)(w0:World)(B1 B2 bR bC bL bO bV N:Nat)(T:Rg)(G:List Nat)(i:Nat)(pv0:Value)(wr0:World)(sa:o_)(sc:Nat)(gg:Nat)(s4 kk:Value)(wx:World):Prop:=
 ∃(q:Nat) (T':Rg) (iP:Value),q+gg=(E i).length/\kk=i_ (q:Int)/\s4=.bool (decide (i∈(E i).take q))/\Hid (za w0 B1 B2 bR bC bL bO (dU bV) N T' iP wx)/\Hid (lU E T G i q T')/\Hid (xA P N T')/\Hid (mJ bR bC bL bO pv0 iP wr0 wx)/\Hid (ar wx B2 (.slice sa (aH (E i)).length sc) (aH (E i)))/\Hid (qR (.slice sa (aH (E i)).length sc) iP)
theorem M7 (P:Nat->Prop)(E:Nat->List Nat)(w0:World)(B1 B2 bR bC bL bO bV N:Nat)(T:Rg)(G:List Nat)(i:Nat)(pv0:Value)(wr0:World)(sa:o_)(sc:Nat)
  (HB:Hid (GK B1 B2 bR bC bL bO))(sP:B1<=B2)(Iu:N<=6000)(HE:Hid (∀ x,x<N->P x->∀ y,y∈E x->y<N/\P y))(HI:Hid (ks E T G))(HJ:Hid (xA P N T))(KO:Hid (T.came i=0))(hi:i<N)(Tx:Hid (P i))(Ii:Hid ((aH (E i)).length=(E i).length))(Oa:(aH (E i)).length<=2)
  (k2 k3 k5 k7 k8 k9 tm Kp Wz k13 k14 k15 k16 k17 k18 k19 k20 k21 k22 k23 k24 k25 k26 k27 k28 k29 k30 k31 k32 k33 k34 k35 k36 k37 k38 k39 k40 k41 k42 k43 k44 k45 k46 k47 k48 k49 k50 k51 k52 k53 k54 k128 k129 k130 k131 k132 k133 k134 k135 k136 k137 k138 k139 k140 k141 k142 k143 k144 k145 k146:Value)(u6 u57 u58 u59 u60 u61 u62 u63 u64 u65 u66 u67 u68 u69 u70 u71 u72 u73 u74 u75 u76 u77 u78 u79 u80 u81 u82 u83 u84 u85 u86 u87 u88 u89 u90 u91 u92 u93 u94 u95 u96 u97 u98 u99 u100 u101 u102 u103 u104 u105 u106 u107 u108 u109 u110 u111 u112 u113 u114 u115 u116 u117 u118 u119 u120 u121 u122 u123 u124 u125 u126 u127:Value)(T':Rg)(iP:Value)(wr:World)(HW:Hid (za w0 B1 B2 bR bC bL bO (dU bV) N T' iP wr))(zg:Hid (lU E T G i (E i).length T'))(Ex:Hid (xA P N T'))(Ug:Hid (mJ bR bC bL bO pv0 iP wr0 wr))(sf:Bool)(hsf:Hid (sf=true↔i∈E i))(KK:Act->World->Prop)(hKK:∀(a':Act)(w':World),Code.wp Tryz.prog (wL [1,1,1,1,1,1,1] (Tryz.f127.body.getD .skip)) (bodyPost Tryz.prog Tryz.f127 (mL P E w0 B1 B2 bR bC bL bO bV N T G i pv0 wr0)) a' w'->KK a' w') :
  Code.wp Tryz.prog (wL [1,1,1,1,1,1,0] (Tryz.f127.body.getD .skip)) (Exit.then KK (bodyPost Tryz.prog Tryz.f127 (mL P E w0 B1 B2 bR bC bL bO bV N T G i pv0 wr0))) ⟨List.toArray (.pointer (some (a_ bR 0)) :: i_ (i:Int)::k2::k3 :: .bool sf::k5::u6::k7::k8::k9::tm::Kp::Wz::k13::k14::k15::k16::k17::k18::k19::k20::k21::k22::k23::k24::k25::k26::k27::k28::k29::k30::k31::k32::k33::k34::k35::k36::k37::k38::k39::k40::k41::k42::k43::k44::k45::k46::k47::k48::k49::k50::k51::k52::k53::k54 :: .slice sa (aH (E i)).length sc :: i_ ((aH (E i)).length:Int)::u57::u58::u59::u60::u61::u62::u63::u64::u65::u66::u67::u68::u69::u70::u71::u72::u73::u74::u75::u76::u77::u78::u79::u80::u81::u82::u83::u84::u85::u86::u87::u88::u89::u90::u91::u92::u93::u94::u95::u96::u97::u98::u99::u100::u101::u102::u103::u104::u105::u106::u107::u108::u109::u110::u111::u112::u113::u114::u115::u116::u117::u118::u119::u120::u121::u122::u123::u124::u125::u126::u127::k128::k129::k130::k131::k132::k133::k134::k135::k136::k137::k138::k139::k140::k141::k142::k143::k144::k145::k146::[]),[]⟩ wr:=by
 conv=>arg 2;whnf
 conv at hKK=>enter [a1,w2,1,2];whnf
 obtain⟨⟨WP,k1',k2',UT,Ym,Vq,Wp,UL⟩,lR,lC,lL,lO⟩:=iJ.cells HW.out;clear WP UT Ym Vq Wp UL;have cC:=HW.out.came.cell (i:=i) hi;have cL:=HW.out.low.cell (i:=i) hi;have hiN:(i:Int)<N:=by omega
 have HWd:Hid (za w0 B1 B2 bR bC bL bO (dU bV) N T' iP wr.drew):=iJ.below HW.out (r_.drew) sP;have HFd:Hid (mJ bR bC bL bO pv0 iP wr0 wr.drew):=Ug.out.below (r_.drew);by_cases he:T'.low i=T'.came i
 ·obtain⟨X,hX,_,_⟩:=zg.out.ext;have CL:Hid (c_ 149 #[.pointer (some (a_ bR 0)),i_ (i:Int),.bool sf] wr.drew (yF w0 B1 B2 bR bC bL bO (dU bV) N T' T.path (i::X) sf iP wr.drew)):=
   Gf w0 B1 B2 bR bC bL bO (dU bV) N T' T.path X i sf iP wr.drew HWd.out HB.out hX (DT zg.out.inv) (fun x hx=>Ex.out.lt x (zg.out.inv.vis x hx)) Iu (As zg.out.inv Ex.out)
  have HX:=af hX;have HHE:=af he;rw[he]at cL;clear hX he;have eM:Hid (∀ m yW w',m∈i::X->(∀ x,x∈i::X->m<=x)->za w0 B1 B2 bR bC bL bO (dU bV) N (T'.close T.path (fG T' (i::X) sf m).1 (fG T' (i::X) sf m).2) yW w'->mJ bR bC bL bO iP yW wr.drew w'->mL P E w0 B1 B2 bR bC bL bO bV N T G i pv0 wr0 (.returned (.tuple #[])) w'):=fun m yW w' h1 h2 h3 h4=>
   ⟨rfl,_,yW,h3,JH KO.out HI.out zg.out HHE.out HX.out h1 h2 hsf.out,⟨Ex.out.lt,Ex.out.inn,Ex.out.cnt⟩,HFd.out.trans h4⟩
  go_region
  all_goals (go_wp2_with fail)
  all_goals
   refine(aa CL).mono ?_;rintro e w2 ⟨rfl,m,yW,h1,h2,h3,h4⟩;have FF:=af (eM.out m yW w2 h1 h2 h3 h4);clear h1 h2 h3 h4;go_wp2_with fail
   go_end0
   exact FF.out
 ·have ei:(((T'.low i:Nat):Int)==((T'.came i:Nat):Int))=false:=by simp;omega
  have vl:Hid (wJ E T G i T'):=Kg KO.out zg.out he;clear he
  go_region
  all_goals (go_wp2_with fail)
  all_goals go_end0
  all_goals exact⟨rfl,T',iP,HWd.out,vl.out,Ex.out,HFd.out⟩
end Go.Proofs.YtcjfjflljdojlaaGreatDoor
