import Derived.Test.YtmjcpapdncfkpaaGreatDoorPart45
import Derived.Test.YtmjcpapdncfkpaaGreatDoorPart37
import Derived.BigRegion
import Derived.Test.YtmjcpapdncfkpaaGreatDoorPart32
set_option linter.unusedSimpArgs false
set_option linter.unusedVariables false
set_option maxHeartbeats 8000000
set_option maxRecDepth 1000000
namespace Go.Proofs.YtmjcpapdncfkpaaGreatDoor
open Go.RowKit
structure RgB (B1 B2 bR bC bL bO:Nat):Prop where
 r1:B1≤bR∧bR<B2
 c1:B1≤bC∧bC<B2
 l1:B1≤bL∧bL<B2
 o1:B1≤bO∧bO<B2
 rc:bR≠bC
 rl:bR≠bL
 ro:bR≠bO
 cl:bC≠bL
 co:bC≠bO
 lo:bL≠bO
def rgV (bC bL bO:Nat)(steps:Value)(N cnt lst:Nat)(fnd:Bool)(pv:Value)(j:Nat):Value:=
 if j=7 then .bool fnd else if j=6 then .int .i64 (lst:Int)else if j=5 then .int .i64 (cnt:Int)else if j=4 then .slice (some ⟨bO,0,none⟩) N N else if j=3 then pv else if j=2 then .slice (some ⟨bL,0,none⟩) N N else if j=1 then .slice (some ⟨bC,0,none⟩) N N else steps
structure RgM (w0:World)(B1 B2 bR bC bL bO:Nat)(steps:Value)(N:Nat)(cm lw:Nat→Nat)(op:Nat→Bool)(path:List Nat)(cnt lst:Nat)(fnd:Bool)(pv:Value)(wr:World):Prop where
 old:Below B1 w0 wr
 size:B2≤wr.heap.size
 box:wr.rowIs bR 142 8 (rgV bC bL bO steps N cnt lst fnd pv)
 came:wr.rowIs bC 3 N (fun j=>.int .i64 (cm j:Int))
 low:wr.rowIs bL 3 N (fun j=>.int .i64 (lw j:Int))
 opn:wr.rowIs bO 4 N (fun j=>.bool (op j))
 pth:OwnI wr B2 pv (natI path)
section
variable {w0:World} {B1 B2 bR bC bL bO:Nat} {steps:Value} {N:Nat} {cm lw:Nat→Nat} {op:Nat→Bool} {path:List Nat} {cnt lst:Nat} {fnd:Bool} {pv:Value} {wr w2:World}
theorem RgM.below (h:RgM w0 B1 B2 bR bC bL bO steps N cm lw op path cnt lst fnd pv wr)(hb:Below wr.heap.size wr w2)(h1:B1≤B2):RgM w0 B1 B2 bR bC bL bO steps N cm lw op path cnt lst fnd pv w2 where
 old:=h.old.trans (hb.mono (Nat.le_trans h1 h.size))
 size:=Nat.le_trans h.size hb.size
 box:=h.box.of_block (hb.block _ h.box.lt)
 came:=h.came.of_block (hb.block _ h.came.lt)
 low:=h.low.of_block (hb.block _ h.low.lt)
 opn:=h.opn.of_block (hb.block _ h.opn.lt)
 pth:=h.pth.below hb
theorem RgM.cells (h:RgM w0 B1 B2 bR bC bL bO steps N cm lw op path cnt lst fnd pv wr):(wr.cell? ⟨bR,0,none⟩=some steps∧wr.cell? ⟨bR,1,none⟩=some (.slice (some ⟨bC,0,none⟩) N N)∧wr.cell? ⟨bR,2,none⟩=some (.slice (some ⟨bL,0,none⟩) N N)∧wr.cell? ⟨bR,3,none⟩=some pv∧wr.cell? ⟨bR,4,none⟩=some (.slice (some ⟨bO,0,none⟩) N N)∧wr.cell? ⟨bR,5,none⟩=some (.int .i64 (cnt:Int))∧wr.cell? ⟨bR,6,none⟩=some (.int .i64 (lst:Int))∧wr.cell? ⟨bR,7,none⟩=some (.bool fnd))∧bR<wr.heap.size∧bC<wr.heap.size∧bL<wr.heap.size∧bO<wr.heap.size:=
 ⟨⟨h.box.cell (i:=0) (by omega),h.box.cell (i:=1) (by omega),h.box.cell (i:=2) (by omega),h.box.cell (i:=3) (by omega),h.box.cell (i:=4) (by omega),h.box.cell (i:=5) (by omega),h.box.cell (i:=6) (by omega),h.box.cell (i:=7) (by omega)⟩,h.box.lt,h.came.lt,h.low.lt,h.opn.lt⟩
theorem RgM.setCame (h:RgM w0 B1 B2 bR bC bL bO steps N cm lw op path cnt lst fnd pv wr)(hB:RgB B1 B2 bR bC bL bO)(i v:Nat):RgM w0 B1 B2 bR bC bL bO steps N (upd cm i v) lw op path cnt lst fnd pv (wr.setCell ⟨bC,i,none⟩ (.int .i64 (v:Int))):=by
 have hk:∀ k,k≠bC→(wr.setCell ⟨bC,i,none⟩ (.int .i64 (v:Int))).heap[k]? = wr.heap[k]?:=fun k hk=>heap_setCell_other wr ⟨bC,i,none⟩ k _ hk
 exact {
  old:=h.old.setCell hB.c1.1 _
  size:=by have:=h.size;simpa using this
  box:=h.box.of_block (hk bR hB.rc)
  came:=(h.came.set i _).congr (fun j hj=>by show(if j=i then _ else _)=_;unfold upd;split<;>rfl)
  low:=h.low.of_block (hk bL (fun e=>hB.cl e.symm))
  opn:=h.opn.of_block (hk bO (fun e=>hB.co e.symm))
  pth:=h.pth.setOther hB.c1.2 }
theorem RgM.setLow (h:RgM w0 B1 B2 bR bC bL bO steps N cm lw op path cnt lst fnd pv wr)(hB:RgB B1 B2 bR bC bL bO)(i v:Nat):RgM w0 B1 B2 bR bC bL bO steps N cm (upd lw i v) op path cnt lst fnd pv (wr.setCell ⟨bL,i,none⟩ (.int .i64 (v:Int))):=by
 have hk:∀ k,k≠bL→(wr.setCell ⟨bL,i,none⟩ (.int .i64 (v:Int))).heap[k]? = wr.heap[k]?:=fun k hk=>heap_setCell_other wr ⟨bL,i,none⟩ k _ hk
 exact {
  old:=h.old.setCell hB.l1.1 _
  size:=by have:=h.size;simpa using this
  box:=h.box.of_block (hk bR hB.rl)
  came:=h.came.of_block (hk bC hB.cl)
  low:=(h.low.set i _).congr (fun j hj=>by show(if j=i then _ else _)=_;unfold upd;split<;>rfl)
  opn:=h.opn.of_block (hk bO (fun e=>hB.lo e.symm))
  pth:=h.pth.setOther hB.l1.2 }
theorem RgM.setOpen (h:RgM w0 B1 B2 bR bC bL bO steps N cm lw op path cnt lst fnd pv wr)(hB:RgB B1 B2 bR bC bL bO)(i:Nat)(v:Bool):RgM w0 B1 B2 bR bC bL bO steps N cm lw (upd op i v) path cnt lst fnd pv (wr.setCell ⟨bO,i,none⟩ (.bool v)):=by
 have hk:∀ k,k≠bO→(wr.setCell ⟨bO,i,none⟩ (.bool v)).heap[k]? = wr.heap[k]?:=fun k hk=>heap_setCell_other wr ⟨bO,i,none⟩ k _ hk
 exact {
  old:=h.old.setCell hB.o1.1 _
  size:=by have:=h.size;simpa using this
  box:=h.box.of_block (hk bR hB.ro)
  came:=h.came.of_block (hk bC hB.co)
  low:=h.low.of_block (hk bL hB.lo)
  opn:=(h.opn.set i _).congr (fun j hj=>by show(if j=i then _ else _)=_;unfold upd;split<;>rfl)
  pth:=h.pth.setOther hB.o1.2 }
theorem RgM.setCount (h:RgM w0 B1 B2 bR bC bL bO steps N cm lw op path cnt lst fnd pv wr)(hB:RgB B1 B2 bR bC bL bO)(v:Nat):RgM w0 B1 B2 bR bC bL bO steps N cm lw op path (v) lst fnd pv (wr.setCell ⟨bR,5,none⟩ (.int .i64 (v:Int))):=by
 have hk:∀ k,k≠bR→(wr.setCell ⟨bR,5,none⟩ (.int .i64 (v:Int))).heap[k]? = wr.heap[k]?:=fun k hk=>heap_setCell_other wr ⟨bR,5,none⟩ k _ hk
 exact {
  old:=h.old.setCell hB.r1.1 _
  size:=by have:=h.size;simpa using this
  box:=(h.box.set 5 _).congr (fun j hj=>by show(if j=5 then _ else rgV _ _ _ _ _ _ _ _ _ j)=rgV _ _ _ _ _ _ _ _ _ j;unfold rgV;by_cases e:j=5<;>simp[e])
  came:=h.came.of_block (hk bC (fun e=>hB.rc e.symm))
  low:=h.low.of_block (hk bL (fun e=>hB.rl e.symm))
  opn:=h.opn.of_block (hk bO (fun e=>hB.ro e.symm))
  pth:=h.pth.setOther hB.r1.2 }
theorem RgM.setLeast (h:RgM w0 B1 B2 bR bC bL bO steps N cm lw op path cnt lst fnd pv wr)(hB:RgB B1 B2 bR bC bL bO)(v:Nat):RgM w0 B1 B2 bR bC bL bO steps N cm lw op path cnt (v) fnd pv (wr.setCell ⟨bR,6,none⟩ (.int .i64 (v:Int))):=by
 have hk:∀ k,k≠bR→(wr.setCell ⟨bR,6,none⟩ (.int .i64 (v:Int))).heap[k]? = wr.heap[k]?:=fun k hk=>heap_setCell_other wr ⟨bR,6,none⟩ k _ hk
 exact {
  old:=h.old.setCell hB.r1.1 _
  size:=by have:=h.size;simpa using this
  box:=(h.box.set 6 _).congr (fun j hj=>by show(if j=6 then _ else rgV _ _ _ _ _ _ _ _ _ j)=rgV _ _ _ _ _ _ _ _ _ j;unfold rgV;by_cases e:j=6<;>simp[e])
  came:=h.came.of_block (hk bC (fun e=>hB.rc e.symm))
  low:=h.low.of_block (hk bL (fun e=>hB.rl e.symm))
  opn:=h.opn.of_block (hk bO (fun e=>hB.ro e.symm))
  pth:=h.pth.setOther hB.r1.2 }
theorem RgM.setFound (h:RgM w0 B1 B2 bR bC bL bO steps N cm lw op path cnt lst fnd pv wr)(hB:RgB B1 B2 bR bC bL bO)(v:Bool):RgM w0 B1 B2 bR bC bL bO steps N cm lw op path cnt lst (v) pv (wr.setCell ⟨bR,7,none⟩ (.bool v)):=by
 have hk:∀ k,k≠bR→(wr.setCell ⟨bR,7,none⟩ (.bool v)).heap[k]? = wr.heap[k]?:=fun k hk=>heap_setCell_other wr ⟨bR,7,none⟩ k _ hk
 exact {
  old:=h.old.setCell hB.r1.1 _
  size:=by have:=h.size;simpa using this
  box:=(h.box.set 7 _).congr (fun j hj=>by show(if j=7 then _ else rgV _ _ _ _ _ _ _ _ _ j)=rgV _ _ _ _ _ _ _ _ _ j;unfold rgV;by_cases e:j=7<;>simp[e])
  came:=h.came.of_block (hk bC (fun e=>hB.rc e.symm))
  low:=h.low.of_block (hk bL (fun e=>hB.rl e.symm))
  opn:=h.opn.of_block (hk bO (fun e=>hB.ro e.symm))
  pth:=h.pth.setOther hB.r1.2 }
theorem RgM.push (h:RgM w0 B1 B2 bR bC bL bO steps N cm lw op path cnt lst fnd pv wr)(hB:RgB B1 B2 bR bC bL bO){w1:World}{pv':Value}{path':List Nat}{o:Obj}(hg:(wr.alloc o).grownBy w1 pv.ownBlock)(ho:OwnI w1 B2 pv' (natI path')):RgM w0 B1 B2 bR bC bL bO steps N cm lw op (path') cnt lst fnd (pv') (w1.setCell ⟨bR,3,none⟩ pv'):=by
 have hz:=h.size
 have hsz:(wr.alloc o).heap.size=wr.heap.size+1:=by simp
 have hpv:∀ k,pv.ownBlock=some k→B2≤k∧k<wr.heap.size:=h.pth.lt'
 obtain⟨r1,c1,l1,o1,_,_,_,_,_,_⟩:=hB
 have hb:∀ k,k<B2→w1.heap[k]? = wr.heap[k]?:=fun k hk=>(hg.block k (by omega) (fun e=>by have:=hpv k e.symm;omega)).trans (Below.heap_alloc wr _ k (by omega))
 have hk:∀ k,k≠bR→(w1.setCell ⟨bR,3,none⟩ pv').heap[k]? = w1.heap[k]?:=fun k hk=>heap_setCell_other w1 ⟨bR,3,none⟩ k _ hk
 have hA:Below B1 wr (wr.alloc o):=(Below.refl _ _).alloc (by omega) _
 exact {
  old:=(h.old.trans (hA.trans (below_grown hg (fun k e=>by have:=hpv k e;omega) (by omega)))).setCell r1.1 _
  size:=by have:=hg.size;simp;omega
  box:=((h.box.of_block (hb bR r1.2)).set 3 _).congr (fun j hj=>by show(if j=3 then _ else rgV _ _ _ _ _ _ _ _ _ j)=rgV _ _ _ _ _ _ _ _ _ j;unfold rgV;by_cases e:j=3<;>simp[e])
  came:=h.came.of_block ((hk bC (by omega)).trans (hb bC c1.2))
  low:=h.low.of_block ((hk bL (by omega)).trans (hb bL l1.2))
  opn:=h.opn.of_block ((hk bO (by omega)).trans (hb bO o1.2))
  pth:=ho.setOther r1.2 }
theorem RgM.cut {g n cap:Nat}(h:RgM w0 B1 B2 bR bC bL bO steps N cm lw op path cnt lst fnd (.slice (some ⟨g,0,none⟩) n cap) wr)(hB:RgB B1 B2 bR bC bL bO)(P:Nat)(hP:P≤path.length):RgM w0 B1 B2 bR bC bL bO steps N cm lw op (path.take P) cnt lst fnd (.slice (some ⟨g,0,none⟩) P cap) (wr.setCell ⟨bR,3,none⟩ (.slice (some ⟨g,0,none⟩) P cap)):=by
 have hk:∀ k,k≠bR→(wr.setCell ⟨bR,3,none⟩ (.slice (some ⟨g,0,none⟩) P cap)).heap[k]? = wr.heap[k]?:=fun k hk=>heap_setCell_other wr ⟨bR,3,none⟩ k _ hk
 exact {
  old:=h.old.setCell hB.r1.1 _
  size:=by have:=h.size;simpa using this
  box:=(h.box.set 3 _).congr (fun j hj=>by show(if j=3 then _ else rgV _ _ _ _ _ _ _ _ _ j)=rgV _ _ _ _ _ _ _ _ _ j;unfold rgV;by_cases e:j=3<;>simp[e])
  came:=h.came.of_block (hk bC (fun e=>hB.rc e.symm))
  low:=h.low.of_block (hk bL (fun e=>hB.rl e.symm))
  opn:=h.opn.of_block (hk bO (fun e=>hB.ro e.symm))
  pth:=by
   have ho:=h.pth.setOther (D:=bR) (j:=3) (u:=.slice (some ⟨g,0,none⟩) P cap) hB.r1.2
   have hnl:(natI path).length=path.length:=by simp[natI]
   rcases ho.2 with⟨e,_⟩ | ⟨g',c',cur,e,h1,h2,h3,h4,h5,h6⟩
   ·cases e
   ·injection e with e1 e2 e3
    injection e1 with e1;injection e1 with e1
    subst e1;subst e3
    have hl2:(natI (path.take P)).length=P:=by simp[natI];omega
    refine⟨by simp,.inr ⟨g,cap,cur,by rw[hl2],h1,h2,by omega,h4,h5,?_⟩⟩
    rw[Nat.mul_one]at h6 ⊢
    rw[hl2]
    have:(natI (path.take P)).map (Value.int .i64)=((natI path).map (Value.int .i64)).take P:=by simp[natI,List.map_take]
    rw[this,←h6,List.take_take]
    congr 1
    omega }
end
structure RgF (bR bC bL bO:Nat)(pv pv':Value)(wr w':World):Prop where
 same:∀ k,k<wr.heap.size→k≠bR→k≠bC→k≠bL→k≠bO→pv.ownBlock≠some k→w'.heap[k]? = wr.heap[k]?
 new:∀ k,pv'.ownBlock=some k→pv.ownBlock=some k∨wr.heap.size≤k
 size:wr.heap.size≤w'.heap.size
section
variable {bR bC bL bO:Nat} {pv pv' pv2:Value} {wr w' w2:World}
theorem RgF.refl (bR bC bL bO:Nat)(pv:Value)(wr:World):RgF bR bC bL bO pv pv wr wr:=⟨fun _ _ _ _ _ _ _=>rfl,fun _ h=>.inl h,Nat.le_refl _⟩
theorem RgF.trans (h:RgF bR bC bL bO pv pv' wr w')(h2:RgF bR bC bL bO pv' pv2 w' w2):RgF bR bC bL bO pv pv2 wr w2:=
 ⟨fun k hk n1 n2 n3 n4 n5=>(h2.same k (Nat.lt_of_lt_of_le hk h.size) n1 n2 n3 n4 (fun e=>(h.new k e).elim n5 (fun h=>by omega))).trans (h.same k hk n1 n2 n3 n4 n5),fun k e=>(h2.new k e).elim (fun e=>h.new k e) (fun hh=>.inr (Nat.le_trans h.size hh)),Nat.le_trans h.size h2.size⟩
theorem RgF.set (h:RgF bR bC bL bO pv pv' wr w')(D o:Nat)(v:Value)(hD:D=bR∨D=bC∨D=bL∨D=bO):RgF bR bC bL bO pv pv' wr (w'.setCell ⟨D,o,none⟩ v):=
 ⟨fun k hk n1 n2 n3 n4 n5=>(heap_setCell_other w' ⟨D,o,none⟩ k v (by show k≠D;omega)).trans (h.same k hk n1 n2 n3 n4 n5),h.new,by have:=h.size;simpa using this⟩
theorem RgF.below (h:RgF bR bC bL bO pv pv' wr w')(hb:Below w'.heap.size w' w2):RgF bR bC bL bO pv pv' wr w2:=
 ⟨fun k hk n1 n2 n3 n4 n5=>(hb.block k (Nat.lt_of_lt_of_le hk h.size)).trans (h.same k hk n1 n2 n3 n4 n5),h.new,Nat.le_trans h.size hb.size⟩
theorem RgF.of_below (hb:Below wr.heap.size wr w2):RgF bR bC bL bO pv pv wr w2:=(RgF.refl bR bC bL bO pv wr).below hb
theorem RgF.push {o:Obj}(hg:(wr.alloc o).grownBy w2 pv.ownBlock)(hn:∀ k,pv'.ownBlock=some k→pv.ownBlock=some k∨wr.heap.size≤k):RgF bR bC bL bO pv pv' wr w2:=by
 have hsz:(wr.alloc o).heap.size=wr.heap.size+1:=by simp
 exact⟨fun k hk _ _ _ _ n5=>(hg.block k (by omega) (fun e=>n5 e.symm)).trans (Below.heap_alloc wr _ k hk),hn,by have:=hg.size;omega⟩
end
def RgW (w0:World)(B1 B2 bR bC bL bO:Nat)(steps:Value)(N:Nat)(T:Rg)(pv:Value)(wr:World):Prop:=RgM w0 B1 B2 bR bC bL bO steps N T.came T.low (fun j=>decide (j∈T.path)) T.path T.count T.least T.found pv wr
theorem RgM.opCongr {w0:World}{B1 B2 bR bC bL bO:Nat}{steps:Value}{N:Nat}{cm lw:Nat→Nat}{op op':Nat→Bool}{path:List Nat}{cnt lst:Nat}{fnd:Bool}{pv:Value}{wr:World}(h:RgM w0 B1 B2 bR bC bL bO steps N cm lw op path cnt lst fnd pv wr)(he:∀ j,op j=op' j):RgM w0 B1 B2 bR bC bL bO steps N cm lw op' path cnt lst fnd pv wr:=by
 rwa [show op'=op from funext fun j=>(he j).symm]
theorem slice_l (w:World)(g n c k:Nat)(hk:k<n)(hc:n≤c):(Instr.slice 63 (.slice (some ⟨g,0,none⟩) n c) (some (.int .i64 (k:Int))) none none).run Tryz.prog w=.ok (.slice (some ⟨g,k,none⟩) (n-k) (c-k)) w:=by
 obtain⟨i0,hi,hz0,hz1,hz2⟩:=info_of info_i
 have ht:Tryz.prog.underlying 63=some (.slice (Tryz.prog.elem 63)):=by rw[elem_ints];exact Tryz.underlying63
 rw[run_slice_l w 63 (some ⟨g,0,none⟩) n c ht .i64 k (by omega) (by omega),elem_ints]
 have e2:(sizeOf 3).run Tryz.prog w=.ok 1 w:=by simp[sizeOf,hi,hz1];try rfl
 rw[e2]
 have hne:¬c=k:=by omega
 simp[Result.andThen,sliced,hne,Addr.add_lit]
theorem RgM.pathCell {w0:World}{B1 B2 bR bC bL bO:Nat}{steps:Value}{N:Nat}{cm lw:Nat→Nat}{op:Nat→Bool}{path:List Nat}{cnt lst:Nat}{fnd:Bool}{g n cap:Nat}{wr:World}(h:RgM w0 B1 B2 bR bC bL bO steps N cm lw op path cnt lst fnd (.slice (some ⟨g,0,none⟩) n cap) wr){j:Nat}(hj:j<path.length):wr.cell? ⟨g,j,none⟩=some (.int .i64 ((path[j]?.getD 0:Nat):Int)):=by
 have hl:(natI path).length=path.length:=by simp[natI]
 obtain⟨g',cap',e,_,_,hc⟩:=h.pth.at (by omega)
 injection e with e1;injection e1 with e1;injection e1 with e1
 subst e1
 rw[hc j (by omega),natI_get]
def shutTo (op:Nat→Bool)(g:List Nat)(k:Nat)(j:Nat):Bool:=if j∈g.take k then false else op j
theorem shutTo_step (op:Nat→Bool)(g:List Nat)(k:Nat)(h:k<g.length):upd (shutTo op g k) (g[k]?.getD 0) false=shutTo op g (k+1):=by
 funext j
 unfold upd shutTo
 rw[List.take_succ_eq_append_getElem h,List.getElem?_eq_getElem h]
 simp only[List.mem_append,List.mem_singleton,Option.getD_some]
 by_cases e:j=g[k]
 ·rw[if_pos e,if_pos (.inr e)]
 ·rw[if_neg e]
  by_cases e2:j∈g.take k
  ·rw[if_pos e2,if_pos (.inl e2)]
  ·rw[if_neg e2,if_neg (fun h=>h.elim e2 e)]
def ClPost (w0:World)(B1 B2 bR bC bL bO:Nat)(steps:Value)(N:Nat)(T:Rg)(A g:List Nat)(self:Bool)(pv:Value)(wr:World)(e:Ending)(w':World):Prop:=
 e=.returned (.tuple #[])∧∃ m pv',m∈g∧(∀ x,x∈g→m≤x)∧RgW w0 B1 B2 bR bC bL bO steps N (T.close A (closeF T g self m).1 (closeF T g self m).2) pv' w'∧RgF bR bC bL bO pv pv' wr w'
theorem close_any (w0:World)(B1 B2 bR bC bL bO:Nat)(steps:Value)(N:Nat)(T:Rg)(A X:List Nat)(i:Nat)(self:Bool)(pv:Value)(wr:World)(h:RgW w0 B1 B2 bR bC bL bO steps N T pv wr)(hB:RgB B1 B2 bR bC bL bO)(hp:T.path=A++i::X)(hnd:T.path.Nodup)(hN:∀ x,x∈T.path→x<N)(hN6:N≤6000)(hlen:T.path.length≤N) :
  Calls Tryz.prog 108 #[.pointer (some ⟨bR,0,none⟩),.int .i64 (i:Int),.bool self] wr (ClPost w0 B1 B2 bR bC bL bO steps N T A (i::X) self pv wr):=by
 have hnl:(natI T.path).length=T.path.length:=by simp[natI]
 have hpl:T.path.length=A.length+X.length+1:=by rw[hp];simp;omega
 obtain⟨g,cap,rfl,hg1,hg2,hgc⟩:=h.pth.at (by omega)
 have hcap:=h.pth.cap
 rw[hnl]at h hgc hcap ⊢
 have AT0:T.path[A.length]?.getD 0=i:=by rw[hp];simp
 have NE:Hid (∀ j,A.length<j→j<T.path.length→((T.path[j]?.getD 0:Nat):Int)≠(i:Int)):=fun j h1 h2 e=>by
  have hj:T.path[j]?.getD 0=T.path[j]:=by rw[List.getElem?_eq_getElem h2];rfl
  have hi:T.path[A.length]'(by omega)=i:=by simp[hp]
  have e':T.path[j]=T.path[A.length]'(by omega):=by rw[←hj,hi];omega
  have:=(List.getElem_inj hnd).1 e'
  omega
 have GRP:Hid (∀ q,q<X.length+1→T.path[A.length+q]?.getD 0=(i::X)[q]?.getD 0):=fun q hq=>by
  rw[hp,List.getElem?_append_right (by omega),Nat.add_sub_cancel_left]
 have GN:Hid (∀ q,q<X.length+1→(i::X)[q]?.getD 0<N):=fun q hq=>by
  rw[←GRP.out q hq,List.getElem?_eq_getElem (by omega)]
  exact hN _ (List.getElem_mem _)
 have AEND:Hid (∀ j,shutTo (fun j=>decide (j∈T.path)) (i::X) (X.length+1) j=decide (j∈A)):=fun j=>by
  have e:(i::X).take (X.length+1)=i::X:=List.take_of_length_le (by simp)
  unfold shutTo
  rw[e,hp]
  rw[hp,List.nodup_append]at hnd
  by_cases c:j∈i::X
  ·rw[if_pos c,eq_comm,decide_eq_false_iff_not]
   exact fun hA=>hnd.2.2 j hA j c rfl
  ·rw[if_neg c,decide_eq_decide,List.mem_append]
   exact⟨fun h=>h.resolve_right c,.inl⟩
 have TAKE:Hid (T.path.take A.length=A):=by show _=_;rw[hp];simp
 have HB:=hide hB
 have hnA:A.length+X.length+1≤6000:=by omega
 have SLL:=fun w=>slice_l w g T.path.length cap A.length (by omega) hcap
 have SHH:=fun w=>slice_h w (some ⟨g,0,none⟩) T.path.length cap A.length (by omega)
 rw[hpl]at h hcap SLL SHH ⊢
 have hsub:A.length+X.length+1-A.length=X.length+1:=by omega
 rw[hsub]at SLL
 have HM0:=hide h
 obtain⟨⟨k0,k1,k2,k3,k4,k5,k6,k7⟩,lR,lC,lL,lO⟩:=RgM.cells h
 have HPC:Hid (∀ j,j<A.length+X.length+1→wr.cell? ⟨g,j,none⟩=some (.int .i64 ((T.path[j]?.getD 0:Nat):Int))):=fun j hj=>RgM.pathCell h (by omega)
 have HAT0:=hide AT0
 have HPL:=hide hpl
 clear h hB hgc hp hnd hN hlen hnl k0 k1 k2 k5 AT0 hpl hsub
 go_enter Tryz.func108,Tryz.ntmps108
 go_wp2_with fail
 go_loopg [6] X.length (fun gg pl wx=>∃ q:Nat,q=A.length+gg∧gg≤X.length∧pl=.int .i64 (q:Int)∧wx=wr)
 case atStart=>exact⟨A.length+X.length,rfl,Nat.le_refl _,by first | rfl | (congr 1;omega),rfl⟩
 case round=>
  obtain⟨q,hq,hgX,rfl,rfl⟩:=hrel
  have qc:=unhide HPC q (by omega)
  have hqI:(q:Int)<A.length+X.length+1:=by omega
  have HQ:=hide hq
  have hqX:q≤A.length+X.length:=by omega
  have hqA:A.length≤q:=by omega
  clear hq hgX
  by_cases hgt:A.length<q
  ·have hne:=unhide NE q hgt (by rw[HPL.out];omega)
   generalize ((T.path[q]?.getD 0:Nat):Int)=y at *
   go_wp2_with fail
   go_roundg (q-1-A.length)
   case measure=>have:=HQ.out;omega
   case rel=>exact⟨q-1,by omega,by omega,by first | rfl | (congr 1;omega),rfl⟩
  ·have hqe:q=A.length:=by omega
   subst hqe
   clear HQ hqX hqA hgt
   rw[HAT0.out]at qc
   go_wp2_with fail
   clear k3 k4 k6 k7 lR lC lL lO qc hqI
   go_loopg [36] (X.length+1) (fun gg kk wx=>∃ q:Nat,q+gg=X.length+1∧kk=.int .i64 (q:Int)∧Hid (RgM w0 B1 B2 bR bC bL bO steps N T.came T.low (shutTo (fun j=>decide (j∈T.path)) (i::X) q) T.path T.count T.least T.found (.slice (some ⟨g,0,none⟩) (A.length+X.length+1) cap) wx)∧Hid (RgF bR bC bL bO (.slice (some ⟨g,0,none⟩) (A.length+X.length+1) cap) (.slice (some ⟨g,0,none⟩) (A.length+X.length+1) cap) wr wx))
   case atStart=>exact⟨0,by omega,rfl,RgM.opCongr HM0.out (fun j=>by unfold shutTo;simp),RgF.refl _ _ _ _ _ _⟩
   case round=>
    obtain⟨q,hq,rfl,HM,HFR⟩:=hrel
    obtain⟨⟨k0,k1,k2,k3,k4,k5,k6,k7⟩,lR,lC,lL,lO⟩:=HM.out.cells
    clear k0 k1 k2 k5
    by_cases hlt:q<X.length+1
    ·have hqI:(q:Int)<X.length+1:=by omega
     have pc:=HM.out.pathCell (j:=A.length+q) (by rw[HPL.out];omega)
     rw[GRP.out q hlt]at pc
     have hy:=GN.out q hlt
     have STP:=hide (shutTo_step (fun j=>decide (j∈T.path)) (i::X) q (by simp;omega))
     have hgl:g<wr.heap.size:=World.block_lt_of_cell? _ _ pc
     generalize (i::X)[q]?.getD 0=y at *
     have oc:=HM.out.opn.cell (i:=y) hy
     have oz:=HM.out.opn.frozen y
     have hyI:(y:Int)<N:=by omega
     have HMN:=hide (HM.out.setOpen HB.out y false)
     generalize shutTo (fun j=>decide (j∈T.path)) (i::X) q y=ob at *
     go_wp2_with fail
     go_roundg (X.length+1-(q+1))
     case measure=>omega
     case rel=>exact⟨q+1,by omega,by go_num,by rw[←STP.out];exact HMN,HFR.out.set bO y _ (.inr (.inr (.inr rfl)))⟩
    ·have hqe:q=X.length+1:=by omega
     subst hqe
     have HM2:=hide (RgM.opCongr HM.out AEND.out)
     have hnl:(natI (i::X)).length=X.length+1:=by simp[natI]
     have MI:Hid (Calls Tryz.prog 120 #[.slice (some ⟨g,A.length,none⟩) (X.length+1) (cap-A.length)] wr (MiPost (natI (i::X)) wr)):=by
      have key:=min_any (some ⟨g,A.length,none⟩) (natI (i::X)) (cap-A.length) (fun _=>True) wr ⟨by omega,fun _=>⟨g,A.length,rfl,trivial,fun j hj=>by
       have pc:=HM.out.pathCell (j:=A.length+j) (by rw[HPL.out];omega)
       rw[GRP.out j (by omega)]at pc
       rw[pc,natI_get]⟩⟩ (by omega) (by omega)
      rw[hnl]at key
      exact key
     clear hq hnl hlt HM
     go_wp2_with fail
     refine(unhide MI).mono ?_
     rintro e w4 ⟨y,rfl,hy,hmin,rfl⟩
     obtain⟨m,hm,rfl⟩:∃ m,m∈i::X∧y=(m:Int):=by
      unfold natI at hy
      rw[List.mem_map]at hy
      obtain⟨m,h1,h2⟩:=hy
      exact⟨m,h1,h2.symm⟩
     have HMIN:Hid (m∈i::X∧∀ x,x∈i::X→m≤x):=⟨hm,fun x hx=>by
      have:=hmin (x:Int) (by unfold natI;rw[List.mem_map];exact⟨x,hx,rfl⟩)
      omega⟩
     have zR3:=HM2.out.box.frozen 3;have zR6:=HM2.out.box.frozen 6;have zR7:=HM2.out.box.frozen 7
     have CUT1:=hide (HM2.out.cut HB.out A.length (by rw[HPL.out];omega))
     have CUT2:=hide (((HM2.out.setLeast HB.out m).setFound HB.out true).cut HB.out A.length (by rw[HPL.out];omega))
     rw[TAKE.out]at CUT1 CUT2
     have SH:Hid (∀ k,(Value.slice (some ⟨g,0,none⟩) A.length cap).ownBlock=some k→(Value.slice (some ⟨g,0,none⟩) (A.length+X.length+1) cap).ownBlock=some k):=fun k hk=>hk
     have FR1:Hid (RgF bR bC bL bO (.slice (some ⟨g,0,none⟩) (A.length+X.length+1) cap) (.slice (some ⟨g,0,none⟩) A.length cap) wr (w4.setCell ⟨bR,3,none⟩ (.slice (some ⟨g,0,none⟩) A.length cap))):=by
      have hh:=HFR.out.set bR 3 (.slice (some ⟨g,0,none⟩) A.length cap) (.inl rfl)
      exact⟨hh.same,fun k e=>.inl e,hh.size⟩
     have FR2:Hid (RgF bR bC bL bO (.slice (some ⟨g,0,none⟩) (A.length+X.length+1) cap) (.slice (some ⟨g,0,none⟩) A.length cap) wr (((w4.setCell ⟨bR,6,none⟩ (.int .i64 (m:Int))).setCell ⟨bR,7,none⟩ (.bool true)).setCell ⟨bR,3,none⟩ (.slice (some ⟨g,0,none⟩) A.length cap))):=by
      have hh:=((HFR.out.set bR 6 (.int .i64 (m:Int)) (.inl rfl)).set bR 7 (.bool true) (.inl rfl)).set bR 3 (.slice (some ⟨g,0,none⟩) A.length cap) (.inl rfl)
      exact⟨hh.same,fun k e=>.inl e,hh.size⟩
     have FF:Hid (closeF T (i::X) self m=(T.found,T.least)→ClPost w0 B1 B2 bR bC bL bO steps N T A (i::X) self (.slice (some ⟨g,0,none⟩) (A.length+X.length+1) cap) wr (.returned (.tuple #[])) (w4.setCell ⟨bR,3,none⟩ (.slice (some ⟨g,0,none⟩) A.length cap))):=fun e=>⟨rfl,m,_,HMIN.out.1,HMIN.out.2,by rw[e];exact CUT1.out,FR1.out⟩
     have FT:Hid (closeF T (i::X) self m=(true,m)→ClPost w0 B1 B2 bR bC bL bO steps N T A (i::X) self (.slice (some ⟨g,0,none⟩) (A.length+X.length+1) cap) wr (.returned (.tuple #[])) (((w4.setCell ⟨bR,6,none⟩ (.int .i64 (m:Int))).setCell ⟨bR,7,none⟩ (.bool true)).setCell ⟨bR,3,none⟩ (.slice (some ⟨g,0,none⟩) A.length cap))):=fun e=>⟨rfl,m,_,HMIN.out.1,HMIN.out.2,by rw[e];exact CUT2.out,FR2.out⟩
     have CF:Hid (closeF T (i::X) self m=if(decide (1<X.length+1)||self)&&(!T.found||decide (m<T.least))then(true,m)else(T.found,T.least)):=rfl
     clear hy hmin hm CUT1 CUT2 MI HM2 HFR FR1 FR2 SH
     generalize closeF T (i::X) self m=CFV at *
     by_cases c1:1<X.length+1
     ·have c1I:(1:Int)<X.length+1:=by omega
      have d1:decide (1<X.length+1)=true:=decide_eq_true c1
      rw[d1,Bool.true_or,Bool.true_and]at CF
      cases hf:T.found with
      | false=>
       rw[hf]at k7 FF CF
       have RT:=hide (FT.out CF.out)
       clear d1 CF FF FT
       go_wp2_with fail
       go_end0
       exact RT.out
      | true=>
       rw[hf]at k7 FF CF
       by_cases c4:m<T.least
       ·have c4I:(m:Int)<T.least:=by omega
        rw[decide_eq_true c4]at CF
        have RT:=hide (FT.out CF.out)
        clear d1 CF FF FT
        go_wp2_with fail
        go_end0
        exact RT.out
       ·have c4I:¬((m:Int)<T.least):=by omega
        rw[decide_eq_false c4]at CF
        have RT:=hide (FF.out CF.out)
        clear d1 CF FF FT
        go_wp2_with fail
        go_end0
        exact RT.out
     ·have c1I:¬((1:Int)<X.length+1):=by omega
      have d1:decide (1<X.length+1)=false:=decide_eq_false c1
      rw[d1,Bool.false_or]at CF
      cases self with
      | false=>
       have RT:=hide (FF.out CF.out)
       clear d1 CF FF FT
       go_wp2_with fail
       go_end0
       exact RT.out
      | true=>
       rw[Bool.true_and]at CF
       cases hf:T.found with
       | false=>
        rw[hf]at k7 FF CF
        have RT:=hide (FT.out CF.out)
        clear d1 CF FF FT
        go_wp2_with fail
        go_end0
        exact RT.out
       | true=>
        rw[hf]at k7 FF CF
        by_cases c4:m<T.least
        ·have c4I:(m:Int)<T.least:=by omega
         rw[decide_eq_true c4]at CF
         have RT:=hide (FT.out CF.out)
         clear d1 CF FF FT
         go_wp2_with fail
         go_end0
         exact RT.out
        ·have c4I:¬((m:Int)<T.least):=by omega
         rw[decide_eq_false c4]at CF
         have RT:=hide (FF.out CF.out)
         clear d1 CF FF FT
         go_wp2_with fail
         go_end0
         exact RT.out
theorem inc_len {f:Nat→Nat}{c:Nat}:∀(l:List Nat)(b:Nat),l.Pairwise (fun x y=>f x<f y)→(∀ x,x∈l→b<f x)→(∀ x,x∈l→f x≤c)→b≤c→l.length+b≤c
 | [],b,_,_,_,h=>by simpa using h
 | x::l,b,hp,h1,h2,h=>by
  have hx:=h1 x (List.mem_cons_self ..)
  have:=inc_len l (f x) (List.pairwise_cons.1 hp).2 (fun y hy=>(List.pairwise_cons.1 hp).1 y hy) (fun y hy=>h2 y (List.mem_cons_of_mem _ hy)) (h2 x (List.mem_cons_self ..))
  simp only[List.length_cons]
  omega
structure RgI (P:Nat→Prop)(N:Nat)(T:Rg):Prop where
 lt:∀ x,T.came x≠0→x<N
 inn:∀ x,T.came x≠0→P x
 cnt:T.count+unv T.came N=N
theorem RgI.push {P:Nat→Prop}{N:Nat}{T:Rg}(h:RgI P N T){i:Nat}(hi:i<N)(hp:P i)(h0:T.came i=0):RgI P N (T.push i):=by
 refine⟨fun x hx=>?_,fun x hx=>?_,?_⟩
 ·change upd T.came i (T.count+1) x≠0 at hx
  unfold upd at hx
  split at hx
  ·omega
  ·exact h.lt x hx
 ·change upd T.came i (T.count+1) x≠0 at hx
  unfold upd at hx
  split at hx
  ·rename_i e;rw[e];exact hp
  ·exact h.inn x hx
 ·have:=unv_push (c:=T.came) (v:=T.count+1) h0 (by omega) N hi
  have h2:=h.cnt
  show T.count+1+unv (upd T.came i (T.count+1)) N=N
  omega
theorem path_nodup {E:Nat→List Nat}{T:Rg}{G:List Nat}(h:RInv E T G):T.path.Nodup:=h.nodup.imp (fun hab e=>by subst e;omega)
theorem path_len {E:Nat→List Nat}{T:Rg}{G:List Nat}{P:Nat→Prop}{N:Nat}(h:RInv E T G)(hi:RgI P N T):T.path.length≤N:=by
 have:=inc_len (c:=T.count) T.path 0 h.nodup (fun x hx=>by have:=h.vis x hx;omega) (fun x _=>h.cnt x) (Nat.zero_le _)
 have:=hi.cnt
 omega
theorem RgM.grownBlk {w0:World}{B1 B2 bR bC bL bO:Nat}{steps:Value}{N:Nat}{cm lw:Nat→Nat}{op:Nat→Bool}{path:List Nat}{cnt lst:Nat}{fnd:Bool}{pv:Value}{wr w1:World}(h:RgM w0 B1 B2 bR bC bL bO steps N cm lw op path cnt lst fnd pv wr){o:Obj}(hg:(wr.alloc o).grownBy w1 pv.ownBlock):∀ k,k<B2→w1.heap[k]? = wr.heap[k]?:=fun k hk=>by
 have hz:=h.size
 have hsz:(wr.alloc o).heap.size=wr.heap.size+1:=by simp
 exact(hg.block k (by omega) (fun e=>by have:=h.pth.lt' k e.symm;omega)).trans (Below.heap_alloc wr _ k (by omega))
def stepsV (bV:Nat):Value:=.func (.func 80) #[.pointer (some ⟨bV,0,none⟩)] #[]
def WlPost (P:Nat→Prop)(E:Nat→List Nat)(w0:World)(B1 B2 bR bC bL bO bV N:Nat)(T:Rg)(G:List Nat)(i:Nat)(pv:Value)(wr:World)(e:Ending)(w':World):Prop:=
 e=.returned (.tuple #[])∧∃ T' pv',RgW w0 B1 B2 bR bC bL bO (stepsV bV) N T' pv' w'∧RPost E T G i T'∧RgI P N T'∧RgF bR bC bL bO pv pv' wr w'
def StepsOk (E:Nat→List Nat)(w0:World)(B1 bV N:Nat):Prop:=∀ W,Below B1 w0 W→∀ x:Nat,x<N→Calls Tryz.prog 80 #[.pointer (some ⟨bV,0,none⟩),.int .i64 (x:Int)] W (OwnRet (natI (E x)) W)
def WlRel (P:Nat→Prop)(E:Nat→List Nat)(w0:World)(B1 B2 bR bC bL bO bV N:Nat)(T:Rg)(G:List Nat)(i:Nat)(pv0:Value)(wr0:World)(sa:Option Addr)(sc:Nat)(gg:Nat)(s4 kk:Value)(wx:World):Prop:=
 ∃(q:Nat) (T':Rg) (pv':Value),q+gg=(E i).length∧kk=.int .i64 (q:Int)∧s4=.bool (decide (i∈(E i).take q))∧Hid (RgW w0 B1 B2 bR bC bL bO (stepsV bV) N T' pv' wx)∧Hid (RMid E T G i q T')∧Hid (RgI P N T')∧Hid (RgF bR bC bL bO pv0 pv' wr0 wx)∧Hid (OwnI wx B2 (.slice sa (natI (E i)).length sc) (natI (E i)))∧Hid (Dis (.slice sa (natI (E i)).length sc) pv')
theorem wl_tail (P:Nat→Prop)(E:Nat→List Nat)(w0:World)(B1 B2 bR bC bL bO bV N:Nat)(T:Rg)(G:List Nat)(i:Nat)(pv0:Value)(wr0:World)(sa:Option Addr)(sc:Nat)
  (HB:Hid (RgB B1 B2 bR bC bL bO))(h12:B1≤B2)(hN6:N≤6000)(HE:Hid (∀ x,x<N→P x→∀ y,y∈E x→y<N∧P y))(HI:Hid (RInv E T G))(HJ:Hid (RgI P N T))(HH0:Hid (T.came i=0))(hi:i<N)(hPi:Hid (P i))(HLE:Hid ((natI (E i)).length=(E i).length))(hle2:(natI (E i)).length≤2)
  (k2 k3 k5 k7 k8 k9 k10 k11 k12 k13 k14 k15 k16 k17 k18 k19 k20 k21 k22 k23 k24 k25 k26 k27 k28 k29 k30 k31 k32 k33 k34 k35 k36 k37 k38 k39 k40 k41 k42 k43 k44 k45 k46 k47 k48 k49 k50 k51 k52 k53 k54 k128 k129 k130 k131 k132 k133 k134 k135 k136 k137 k138 k139 k140 k141 k142 k143 k144 k145 k146:Value)(u6 u57 u58 u59 u60 u61 u62 u63 u64 u65 u66 u67 u68 u69 u70 u71 u72 u73 u74 u75 u76 u77 u78 u79 u80 u81 u82 u83 u84 u85 u86 u87 u88 u89 u90 u91 u92 u93 u94 u95 u96 u97 u98 u99 u100 u101 u102 u103 u104 u105 u106 u107 u108 u109 u110 u111 u112 u113 u114 u115 u116 u117 u118 u119 u120 u121 u122 u123 u124 u125 u126 u127:Value)(T':Rg)(pv':Value)(wr:World)(HW:Hid (RgW w0 B1 B2 bR bC bL bO (stepsV bV) N T' pv' wr))(HMD:Hid (RMid E T G i (E i).length T'))(HIJ:Hid (RgI P N T'))(HFF:Hid (RgF bR bC bL bO pv0 pv' wr0 wr))(sf:Bool)(hsf:Hid (sf=true↔i∈E i))(KK:Act→World→Prop)(hKK:∀(a':Act)(w':World),Code.wp Tryz.prog (cAt [1,1,1,1,1,1,1] (Tryz.f81.body.getD .skip)) (bodyPost Tryz.prog Tryz.f81 (WlPost P E w0 B1 B2 bR bC bL bO bV N T G i pv0 wr0)) a' w'→KK a' w') :
  Code.wp Tryz.prog (cAt [1,1,1,1,1,1,0] (Tryz.f81.body.getD .skip)) (Exit.then KK (bodyPost Tryz.prog Tryz.f81 (WlPost P E w0 B1 B2 bR bC bL bO bV N T G i pv0 wr0))) ⟨List.toArray (.pointer (some ⟨bR,0,none⟩) :: .int .i64 (i:Int)::k2::k3 :: .bool sf::k5::u6::k7::k8::k9::k10::k11::k12::k13::k14::k15::k16::k17::k18::k19::k20::k21::k22::k23::k24::k25::k26::k27::k28::k29::k30::k31::k32::k33::k34::k35::k36::k37::k38::k39::k40::k41::k42::k43::k44::k45::k46::k47::k48::k49::k50::k51::k52::k53::k54 :: .slice sa (natI (E i)).length sc :: .int .i64 ((natI (E i)).length:Int)::u57::u58::u59::u60::u61::u62::u63::u64::u65::u66::u67::u68::u69::u70::u71::u72::u73::u74::u75::u76::u77::u78::u79::u80::u81::u82::u83::u84::u85::u86::u87::u88::u89::u90::u91::u92::u93::u94::u95::u96::u97::u98::u99::u100::u101::u102::u103::u104::u105::u106::u107::u108::u109::u110::u111::u112::u113::u114::u115::u116::u117::u118::u119::u120::u121::u122::u123::u124::u125::u126::u127::k128::k129::k130::k131::k132::k133::k134::k135::k136::k137::k138::k139::k140::k141::k142::k143::k144::k145::k146::[]),[]⟩ wr:=by
 conv=>arg 2;whnf
 conv at hKK=>enter [a1,w2,1,2];whnf
 obtain⟨⟨k0',k1',k2',k3',k4',k5',k6',k7'⟩,lR,lC,lL,lO⟩:=RgM.cells HW.out
 clear k0' k3' k4' k5' k6' k7'
 have cC:=HW.out.came.cell (i:=i) hi
 have cL:=HW.out.low.cell (i:=i) hi
 have hiN:(i:Int)<N:=by omega
 have HWd:Hid (RgW w0 B1 B2 bR bC bL bO (stepsV bV) N T' pv' wr.drew):=RgM.below HW.out ((Below.refl _ _).drew) h12
 have HFd:Hid (RgF bR bC bL bO pv0 pv' wr0 wr.drew):=HFF.out.below ((Below.refl _ _).drew)
 by_cases he:T'.low i=T'.came i
 ·obtain⟨X,hX,_,_⟩:=HMD.out.ext
  have CL:Hid (Calls Tryz.prog 108 #[.pointer (some ⟨bR,0,none⟩),.int .i64 (i:Int),.bool sf] wr.drew (ClPost w0 B1 B2 bR bC bL bO (stepsV bV) N T' T.path (i::X) sf pv' wr.drew)):=
   close_any w0 B1 B2 bR bC bL bO (stepsV bV) N T' T.path X i sf pv' wr.drew HWd.out HB.out hX (path_nodup HMD.out.inv) (fun x hx=>HIJ.out.lt x (HMD.out.inv.vis x hx)) hN6 (path_len HMD.out.inv HIJ.out)
  have HX:=hide hX
  have HHE:=hide he
  rw[he]at cL
  clear hX he
  have FIN:Hid (∀ m pv2 w',m∈i::X→(∀ x,x∈i::X→m≤x)→RgW w0 B1 B2 bR bC bL bO (stepsV bV) N (T'.close T.path (closeF T' (i::X) sf m).1 (closeF T' (i::X) sf m).2) pv2 w'→RgF bR bC bL bO pv' pv2 wr.drew w'→WlPost P E w0 B1 B2 bR bC bL bO bV N T G i pv0 wr0 (.returned (.tuple #[])) w'):=fun m pv2 w' h1 h2 h3 h4=>
   ⟨rfl,_,pv2,h3,end_shut HH0.out HI.out HMD.out HHE.out HX.out h1 h2 hsf.out,⟨HIJ.out.lt,HIJ.out.inn,HIJ.out.cnt⟩,HFd.out.trans h4⟩
  go_region
  all_goals (go_wp2_with fail)
  all_goals
   refine(unhide CL).mono ?_
   rintro e w2 ⟨rfl,m,pv2,h1,h2,h3,h4⟩
   have FF:=hide (FIN.out m pv2 w2 h1 h2 h3 h4)
   clear h1 h2 h3 h4
   go_wp2_with fail
   go_end0
   exact FF.out
 ·have hne:(((T'.low i:Nat):Int)==((T'.came i:Nat):Int))=false:=by simp;omega
  have RES:Hid (RPost E T G i T'):=end_keep HH0.out HMD.out he
  clear he
  go_region
  all_goals (go_wp2_with fail)
  all_goals go_end0
  all_goals exact⟨rfl,T',pv',HWd.out,RES.out,HIJ.out,HFd.out⟩
end Go.Proofs.YtmjcpapdncfkpaaGreatDoor
