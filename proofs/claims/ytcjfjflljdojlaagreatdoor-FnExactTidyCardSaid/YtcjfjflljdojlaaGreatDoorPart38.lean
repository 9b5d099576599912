import Derived.Test.YtcjfjflljdojlaaGreatDoorPart37
set_option linter.all false
set_option maxHeartbeats 8000000
set_option maxRecDepth 1000000
namespace Go.Proofs.YtcjfjflljdojlaaGreatDoor
open Go.RowKit
structure F6 (B1 B2 bR bC bL bO:Nat):Prop where
 r1:B1<=bR/\bR<B2
 c1:B1<=bC/\bC<B2
 l1:B1<=bL/\bL<B2
 o1:B1<=bO/\bO<B2
 rc:bR≠bC
 rl:bR≠bL
 ro:bR≠bO
 cl:bC≠bL
 co:bC≠bO
 lo:bL≠bO
def Bx (bC bL bO:Nat)(steps:Value)(N cnt lst:Nat)(fnd:Bool)(pv:Value)(j:Nat):Value:=
 if j=7 then .bool fnd else if j=6 then i_ (lst:Int)else if j=5 then i_ (cnt:Int)else if j=4 then s_ bO 0 N N else if j=3 then pv else if j=2 then s_ bL 0 N N else if j=1 then s_ bC 0 N N else steps
structure iI (w0:w_)(B1 B2 bR bC bL bO:Nat)(steps:Value)(N:Nat)(cm lw:Nat->Nat)(op:Nat->Bool)(path:List Nat)(cnt lst:Nat)(fnd:Bool)(pv:Value)(wr:w_):Prop where
 old:Below B1 w0 wr
 size:B2<=wr.heap.size
 box:wr.rowIs bR 182 8 (Bx bC bL bO steps N cnt lst fnd pv)
 q:wr.rowIs bC 3 N (fun j=>i_ (cm j:Int))
 low:wr.rowIs bL 3 N (fun j=>i_ (lw j:Int))
 opn:wr.rowIs bO 4 N (fun j=>.bool (op j))
 pth:ao wr B2 pv (aG path)
section
variable {w0:w_} {B1 B2 bR bC bL bO:Nat} {steps:Value} {N:Nat} {cm lw:Nat->Nat} {op:Nat->Bool} {path:List Nat} {cnt lst:Nat} {fnd:Bool} {pv:Value} {wr w2:w_}
theorem iI.below (h:iI w0 B1 B2 bR bC bL bO steps N cm lw op path cnt lst fnd pv wr)(hb:b_ wr w2)(h1:B1<=B2):iI w0 B1 B2 bR bC bL bO steps N cm lw op path cnt lst fnd pv w2 where
 old:=h.old.trans (hb.mono (zah h1 h.size))
 size:=zah h.size hb.size
 box:=h.box.of_block (hb.block _ h.box.lt)
 q:=h.q.of_block (hb.block _ h.q.lt)
 low:=h.low.of_block (hb.block _ h.low.lt)
 opn:=h.opn.of_block (hb.block _ h.opn.lt)
 pth:=h.pth.below hb
theorem iI.cells (h:iI w0 B1 B2 bR bC bL bO steps N cm lw op path cnt lst fnd pv wr):(wr.cell? (a_ bR 0)=some steps/\wr.cell? (a_ bR 1)=some (s_ bC 0 N N)/\wr.cell? (a_ bR 2)=some (s_ bL 0 N N)/\wr.cell? (a_ bR 3)=some pv/\wr.cell? (a_ bR 4)=some (s_ bO 0 N N)/\wr.cell? (a_ bR 5)=some (i_ (cnt:Int))/\wr.cell? (a_ bR 6)=some (i_ (lst:Int))/\wr.cell? (a_ bR 7)=some (.bool fnd))/\bR<wr.heap.size/\bC<wr.heap.size/\bL<wr.heap.size/\bO<wr.heap.size:=
 ⟨⟨h.box.cell (i:=0) (by omega),h.box.cell (i:=1) (by omega),h.box.cell (i:=2) (by omega),h.box.cell (i:=3) (by omega),h.box.cell (i:=4) (by omega),h.box.cell (i:=5) (by omega),h.box.cell (i:=6) (by omega),h.box.cell (i:=7) (by omega)⟩,h.box.lt,h.q.lt,h.low.lt,h.opn.lt⟩
theorem iI.setCame (h:iI w0 B1 B2 bR bC bL bO steps N cm lw op path cnt lst fnd pv wr)(hB:F6 B1 B2 bR bC bL bO)(i v:Nat):iI w0 B1 B2 bR bC bL bO steps N (bY cm i v) lw op path cnt lst fnd pv (wr.setCell (a_ bC i) (i_ (v:Int))):=by
 have hk:∀ k,k≠bC->(wr.setCell (a_ bC i) (i_ (v:Int))).heap[k]? = wr.heap[k]?:=fun k hk=>zbg wr (a_ bC i) k _ hk;exact {
  old:=h.old.setCell hB.c1.1 _
  size:=by have:=h.size;simpa using this
  box:=h.box.of_block (hk bR hB.rc)
  q:=(h.q.set i _).congr (fun j hj=>by show(if j=i then _ else _)=_;unfold bY;split<;>rfl)
  low:=h.low.of_block (hk bL (fun e=>hB.cl e.symm))
  opn:=h.opn.of_block (hk bO (fun e=>hB.co e.symm))
  pth:=h.pth.setOther hB.c1.2 }
theorem iI.setLow (h:iI w0 B1 B2 bR bC bL bO steps N cm lw op path cnt lst fnd pv wr)(hB:F6 B1 B2 bR bC bL bO)(i v:Nat):iI w0 B1 B2 bR bC bL bO steps N cm (bY lw i v) op path cnt lst fnd pv (wr.setCell (a_ bL i) (i_ (v:Int))):=by
 have hk:∀ k,k≠bL->(wr.setCell (a_ bL i) (i_ (v:Int))).heap[k]? = wr.heap[k]?:=fun k hk=>zbg wr (a_ bL i) k _ hk;exact {
  old:=h.old.setCell hB.l1.1 _
  size:=by have:=h.size;simpa using this
  box:=h.box.of_block (hk bR hB.rl)
  q:=h.q.of_block (hk bC hB.cl)
  low:=(h.low.set i _).congr (fun j hj=>by show(if j=i then _ else _)=_;unfold bY;split<;>rfl)
  opn:=h.opn.of_block (hk bO (fun e=>hB.lo e.symm))
  pth:=h.pth.setOther hB.l1.2 }
theorem iI.setOpen (h:iI w0 B1 B2 bR bC bL bO steps N cm lw op path cnt lst fnd pv wr)(hB:F6 B1 B2 bR bC bL bO)(i:Nat)(v:Bool):iI w0 B1 B2 bR bC bL bO steps N cm lw (bY op i v) path cnt lst fnd pv (wr.setCell (a_ bO i) (.bool v)):=by
 have hk:∀ k,k≠bO->(wr.setCell (a_ bO i) (.bool v)).heap[k]? = wr.heap[k]?:=fun k hk=>zbg wr (a_ bO i) k _ hk;exact {
  old:=h.old.setCell hB.o1.1 _
  size:=by have:=h.size;simpa using this
  box:=h.box.of_block (hk bR hB.ro)
  q:=h.q.of_block (hk bC hB.co)
  low:=h.low.of_block (hk bL hB.lo)
  opn:=(h.opn.set i _).congr (fun j hj=>by show(if j=i then _ else _)=_;unfold bY;split<;>rfl)
  pth:=h.pth.setOther hB.o1.2 }
theorem iI.setCount (h:iI w0 B1 B2 bR bC bL bO steps N cm lw op path cnt lst fnd pv wr)(hB:F6 B1 B2 bR bC bL bO)(v:Nat):iI w0 B1 B2 bR bC bL bO steps N cm lw op path (v) lst fnd pv (wr.setCell (a_ bR 5) (i_ (v:Int))):=by
 have hk:∀ k,k≠bR->(wr.setCell (a_ bR 5) (i_ (v:Int))).heap[k]? = wr.heap[k]?:=fun k hk=>zbg wr (a_ bR 5) k _ hk;exact {
  old:=h.old.setCell hB.r1.1 _
  size:=by have:=h.size;simpa using this
  box:=(h.box.set 5 _).congr (fun j hj=>by show(if j=5 then _ else Bx _ _ _ _ _ _ _ _ _ j)=Bx _ _ _ _ _ _ _ _ _ j;unfold Bx;by_cases e:j=5<;>simp[e])
  q:=h.q.of_block (hk bC (fun e=>hB.rc e.symm))
  low:=h.low.of_block (hk bL (fun e=>hB.rl e.symm))
  opn:=h.opn.of_block (hk bO (fun e=>hB.ro e.symm))
  pth:=h.pth.setOther hB.r1.2 }
theorem iI.setLeast (h:iI w0 B1 B2 bR bC bL bO steps N cm lw op path cnt lst fnd pv wr)(hB:F6 B1 B2 bR bC bL bO)(v:Nat):iI w0 B1 B2 bR bC bL bO steps N cm lw op path cnt (v) fnd pv (wr.setCell (a_ bR 6) (i_ (v:Int))):=by
 have hk:∀ k,k≠bR->(wr.setCell (a_ bR 6) (i_ (v:Int))).heap[k]? = wr.heap[k]?:=fun k hk=>zbg wr (a_ bR 6) k _ hk;exact {
  old:=h.old.setCell hB.r1.1 _
  size:=by have:=h.size;simpa using this
  box:=(h.box.set 6 _).congr (fun j hj=>by show(if j=6 then _ else Bx _ _ _ _ _ _ _ _ _ j)=Bx _ _ _ _ _ _ _ _ _ j;unfold Bx;by_cases e:j=6<;>simp[e])
  q:=h.q.of_block (hk bC (fun e=>hB.rc e.symm))
  low:=h.low.of_block (hk bL (fun e=>hB.rl e.symm))
  opn:=h.opn.of_block (hk bO (fun e=>hB.ro e.symm))
  pth:=h.pth.setOther hB.r1.2 }
theorem iI.setFound (h:iI w0 B1 B2 bR bC bL bO steps N cm lw op path cnt lst fnd pv wr)(hB:F6 B1 B2 bR bC bL bO)(v:Bool):iI w0 B1 B2 bR bC bL bO steps N cm lw op path cnt lst (v) pv (wr.setCell (a_ bR 7) (.bool v)):=by
 have hk:∀ k,k≠bR->(wr.setCell (a_ bR 7) (.bool v)).heap[k]? = wr.heap[k]?:=fun k hk=>zbg wr (a_ bR 7) k _ hk;exact {
  old:=h.old.setCell hB.r1.1 _
  size:=by have:=h.size;simpa using this
  box:=(h.box.set 7 _).congr (fun j hj=>by show(if j=7 then _ else Bx _ _ _ _ _ _ _ _ _ j)=Bx _ _ _ _ _ _ _ _ _ j;unfold Bx;by_cases e:j=7<;>simp[e])
  q:=h.q.of_block (hk bC (fun e=>hB.rc e.symm))
  low:=h.low.of_block (hk bL (fun e=>hB.rl e.symm))
  opn:=h.opn.of_block (hk bO (fun e=>hB.ro e.symm))
  pth:=h.pth.setOther hB.r1.2 }
theorem iI.push (h:iI w0 B1 B2 bR bC bL bO steps N cm lw op path cnt lst fnd pv wr)(hB:F6 B1 B2 bR bC bL bO){w1:w_}{iO:Value}{path':List Nat}{o:Obj}(hg:(wr.alloc o).grownBy w1 pv.ownBlock)(ho:ao w1 B2 iO (aG path')):iI w0 B1 B2 bR bC bL bO steps N cm lw op (path') cnt lst fnd (iO) (w1.setCell (a_ bR 3) iO):=by
 have hz:=h.size;have km:(wr.alloc o).heap.size=wr.heap.size+1:=by simp
 have hpv:∀ k,pv.ownBlock=some k->B2<=k/\k<wr.heap.size:=h.pth.lt';obtain⟨r1,c1,l1,o1,_,_,_,_,_,_⟩:=hB;have hb:∀ k,k<B2->w1.heap[k]? = wr.heap[k]?:=fun k hk=>(hg.block k (by omega) (fun e=>by have:=hpv k e.symm;omega)).trans (Below.heap_alloc wr _ k (by omega));have hk:∀ k,k≠bR->(w1.setCell (a_ bR 3) iO).heap[k]? = w1.heap[k]?:=fun k hk=>zbg w1 (a_ bR 3) k _ hk;have hA:Below B1 wr (wr.alloc o):=r_.alloc (by omega) _;exact {
  old:=(h.old.trans (hA.trans (kC hg (fun k e=>by have:=hpv k e;omega) (by omega)))).setCell r1.1 _
  size:=by have:=hg.size;simp;omega
  box:=((h.box.of_block (hb bR r1.2)).set 3 _).congr (fun j hj=>by show(if j=3 then _ else Bx _ _ _ _ _ _ _ _ _ j)=Bx _ _ _ _ _ _ _ _ _ j;unfold Bx;by_cases e:j=3<;>simp[e])
  q:=h.q.of_block ((hk bC (by omega)).trans (hb bC c1.2))
  low:=h.low.of_block ((hk bL (by omega)).trans (hb bL l1.2))
  opn:=h.opn.of_block ((hk bO (by omega)).trans (hb bO o1.2))
  pth:=ho.setOther r1.2 }
theorem iI.cut {g n cap:Nat}(h:iI w0 B1 B2 bR bC bL bO steps N cm lw op path cnt lst fnd (s_ g 0 n cap) wr)(hB:F6 B1 B2 bR bC bL bO)(P:Nat)(hP:P<=path.length):iI w0 B1 B2 bR bC bL bO steps N cm lw op (path.take P) cnt lst fnd (s_ g 0 P cap) (wr.setCell (a_ bR 3) (s_ g 0 P cap)):=by
 have hk:∀ k,k≠bR->(wr.setCell (a_ bR 3) (s_ g 0 P cap)).heap[k]? = wr.heap[k]?:=fun k hk=>zbg wr (a_ bR 3) k _ hk;exact {
  old:=h.old.setCell hB.r1.1 _
  size:=by have:=h.size;simpa using this
  box:=(h.box.set 3 _).congr (fun j hj=>by show(if j=3 then _ else Bx _ _ _ _ _ _ _ _ _ j)=Bx _ _ _ _ _ _ _ _ _ j;unfold Bx;by_cases e:j=3<;>simp[e])
  q:=h.q.of_block (hk bC (fun e=>hB.rc e.symm))
  low:=h.low.of_block (hk bL (fun e=>hB.rl e.symm))
  opn:=h.opn.of_block (hk bO (fun e=>hB.ro e.symm))
  pth:=by
   have ho:=h.pth.setOther (D:=bR) (j:=3) (u:=s_ g 0 P cap) hB.r1.2;have Bc:(aG path).length=path.length:=by simp[aG]
   rcases ho.2 with⟨e,_⟩ | ⟨g',c',gh,e,h1,h2,h3,h4,h5,h6⟩
   ·cases e
   ·injection e with e1 e2 e3;injection e1 with e1;injection e1 with e1;subst e1;subst e3;have wm:(aG (path.take P)).length=P:=by simp[aG];omega
    refine⟨by simp,.inr ⟨g,cap,gh,by rw[wm],h1,h2,by omega,h4,h5,?_⟩⟩;rw[Nat.mul_one]at h6 ⊢;rw[wm];have:(aG (path.take P)).map (Value.int .i64)=((aG path).map (Value.int .i64)).take P:=by simp[aG,List.map_take]
    rw[this,<-h6,List.take_take]
    congr 1
    omega }
end
structure mJ (bR bC bL bO:Nat)(pv iO:Value)(wr w':w_):Prop where
 same:∀ k,k<wr.heap.size->k≠bR->k≠bC->k≠bL->k≠bO->pv.ownBlock≠some k->w'.heap[k]? = wr.heap[k]?
 new:∀ k,iO.ownBlock=some k->pv.ownBlock=some k\/wr.heap.size<=k
 size:wr.heap.size<=w'.heap.size
section
variable {bR bC bL bO:Nat} {pv iO yX:Value} {wr w' w2:w_}
theorem mJ.refl (bR bC bL bO:Nat)(pv:Value)(wr:w_):mJ bR bC bL bO pv pv wr wr:=⟨fun _ _ _ _ _ _ _=>rfl,fun _ h=>.inl h,n_⟩
theorem mJ.trans (h:mJ bR bC bL bO pv iO wr w')(h2:mJ bR bC bL bO iO yX w' w2):mJ bR bC bL bO pv yX wr w2:=
 ⟨fun k hk n1 n2 n3 n4 n5=>(h2.same k (l_ hk h.size) n1 n2 n3 n4 (fun e=>(h.new k e).elim n5 (fun h=>by omega))).trans (h.same k hk n1 n2 n3 n4 n5),fun k e=>(h2.new k e).elim (fun e=>h.new k e) (fun hh=>.inr (zah h.size hh)),zah h.size h2.size⟩
theorem mJ.set (h:mJ bR bC bL bO pv iO wr w')(D o:Nat)(v:Value)(hD:D=bR\/D=bC\/D=bL\/D=bO):mJ bR bC bL bO pv iO wr (w'.setCell (a_ D o) v):=
 ⟨fun k hk n1 n2 n3 n4 n5=>(zbg w' (a_ D o) k v (by show k≠D;omega)).trans (h.same k hk n1 n2 n3 n4 n5),h.new,by have:=h.size;simpa using this⟩
theorem mJ.below (h:mJ bR bC bL bO pv iO wr w')(hb:b_ w' w2):mJ bR bC bL bO pv iO wr w2:=
 ⟨fun k hk n1 n2 n3 n4 n5=>(hb.block k (l_ hk h.size)).trans (h.same k hk n1 n2 n3 n4 n5),h.new,zah h.size hb.size⟩
theorem mJ.of_below (hb:b_ wr w2):mJ bR bC bL bO pv pv wr w2:=(mJ.refl bR bC bL bO pv wr).below hb
theorem mJ.push {o:Obj}(hg:(wr.alloc o).grownBy w2 pv.ownBlock)(hn:∀ k,iO.ownBlock=some k->pv.ownBlock=some k\/wr.heap.size<=k):mJ bR bC bL bO pv iO wr w2:=by
 have km:(wr.alloc o).heap.size=wr.heap.size+1:=by{simp};exact⟨fun k hk _ _ _ _ n5=>(hg.block k (by omega) (fun e=>n5 e.symm)).trans (Below.heap_alloc wr _ k hk),hn,by have:=hg.size;omega⟩
end
def y7 (w0:w_)(B1 B2 bR bC bL bO:Nat)(steps:Value)(N:Nat)(T:Rg)(pv:Value)(wr:w_):Prop:=iI w0 B1 B2 bR bC bL bO steps N T.q T.low (fun j=>decide (j∈T.w)) T.w T.count T.least T.found pv wr
theorem iI.opCongr {w0:w_}{B1 B2 bR bC bL bO:Nat}{steps:Value}{N:Nat}{cm lw:Nat->Nat}{op NT:Nat->Bool}{path:List Nat}{cnt lst:Nat}{fnd:Bool}{pv:Value}{wr:w_}(h:iI w0 B1 B2 bR bC bL bO steps N cm lw op path cnt lst fnd pv wr)(he:∀ j,op j=NT j):iI w0 B1 B2 bR bC bL bO steps N cm lw NT path cnt lst fnd pv wr:=by
 rwa [show NT=op from funext fun j=>(he j).symm]
theorem Md (w:w_)(g n c k:Nat)(hk:k<n)(hc:n<=c):(Instr.slice 70 (s_ g 0 n c) (some (i_ (k:Int))) none none).run Tryz.prog w=.ok (s_ g k (n-k) (c-k)) w:=by
 obtain⟨i0,hi,dE,cS,dA⟩:=aM dR;have ht:Tryz.prog.underlying 70=some (.slice (Tryz.prog.elem 70)):=by{rw[nM];exact Tryz.underlying70};rw[run_slice_l w 70 (some (a_ g 0)) n c ht .i64 k (by omega) (by omega),nM];have e2:(sizeOf 3).run Tryz.prog w=.ok 1 w:=by{simp[sizeOf,hi,cS];try rfl};rw[e2];have eh:¬c=k:=by{omega};simp[Result.andThen,sliced,eh,Addr.add_lit]
theorem iI.pathCell {w0:w_}{B1 B2 bR bC bL bO:Nat}{steps:Value}{N:Nat}{cm lw:Nat->Nat}{op:Nat->Bool}{path:List Nat}{cnt lst:Nat}{fnd:Bool}{g n cap:Nat}{wr:w_}(h:iI w0 B1 B2 bR bC bL bO steps N cm lw op path cnt lst fnd (s_ g 0 n cap) wr){j:Nat}(hj:j<path.length):wr.cell? (a_ g j)=some (i_ ((path[j]?.getD 0:Nat):Int)):=by
 have hl:(aG path).length=path.length:=by{simp[aG]};obtain⟨g',iL,e,_,_,hc⟩:=h.pth.at (by omega);injection e with e1;injection e1 with e1;injection e1 with e1;subst e1;rw[hc j (by omega),gT]
def nD (op:Nat->Bool)(g:List Nat)(k:Nat)(j:Nat):Bool:=if j∈g.take k then false else op j
theorem Am (op:Nat->Bool)(g:List Nat)(k:Nat)(h:k<g.length):bY (nD op g k) (g[k]?.getD 0) false=nD op g (k+1):=by
 funext j;unfold bY nD;rw[List.take_succ_eq_append_getElem h,g_ h];simp only[zaa,nZ,Option.getD_some];by_cases e:j=g[k];{rw[zca e,zca (.inr e)]};{rw[zcb e];by_cases e2:j∈g.take k;{rw[zca e2,zca (.inl e2)]};{rw[zcb e2,zcb (fun h=>h.elim e2 e)]}}
def ye (w0:w_)(B1 B2 bR bC bL bO:Nat)(steps:Value)(N:Nat)(T:Rg)(A g:List Nat)(self:Bool)(pv:Value)(wr:w_)(e:Ending)(w':w_):Prop:=
 e=.returned (.tuple #[])/\∃ m iO,m∈g/\(∀ x,x∈g->m<=x)/\y7 w0 B1 B2 bR bC bL bO steps N (T.close A (fE T g self m).1 (fE T g self m).2) iO w'/\mJ bR bC bL bO pv iO wr w'
theorem Gs (w0:w_)(B1 B2 bR bC bL bO:Nat)(steps:Value)(N:Nat)(T:Rg)(A X:List Nat)(i:Nat)(self:Bool)(pv:Value)(wr:w_)(h:y7 w0 B1 B2 bR bC bL bO steps N T pv wr)(hB:F6 B1 B2 bR bC bL bO)(hp:T.w=A++i::X)(Bf:T.w.Nodup)(hN:∀ x,x∈T.w->x<N)(Ip:N<=6000)(aO:T.w.length<=N) :
  c_ 149 #[.pointer (some (a_ bR 0)),i_ (i:Int),.bool self] wr (ye w0 B1 B2 bR bC bL bO steps N T A (i::X) self pv wr):=by
 have Bc:(aG T.w).length=T.w.length:=by{simp[aG]};have ry:T.w.length=A.length+X.length+1:=by{rw[hp];simp;omega};obtain⟨g,cap,rfl,xi,wq,Pv⟩:=h.pth.at (by omega);have jL:=h.pth.cap;rw[Bc]at h Pv jL ⊢;have AT0:T.w[A.length]?.getD 0=i:=by{rw[hp];simp};have NE:H_ (∀ j,A.length<j->j<T.w.length->((T.w[j]?.getD 0:Nat):Int)≠(i:Int)):=fun j h1 h2 e=>by{have hj:T.w[j]?.getD 0=T.w[j]:=by{rw[g_ h2];rfl};have hi:T.w[A.length]'(by omega)=i:=by{simp[hp]};have e':T.w[j]=T.w[A.length]'(by omega):=by{rw[<-hj,hi];omega};have:=(List.getElem_inj Bf).1 e';omega};have GRP:H_ (∀ q,q<X.length+1->T.w[A.length+q]?.getD 0=(i::X)[q]?.getD 0):=fun q hq=>by{rw[hp,List.getElem?_append_right (by omega),Nat.add_sub_cancel_left]};have GN:H_ (∀ q,q<X.length+1->(i::X)[q]?.getD 0<N):=fun q hq=>by{rw[<-GRP.o q hq,g_ (by omega)];exact hN _ (zab _)};have aaL:H_ (∀ j,nD (fun j=>decide (j∈T.w)) (i::X) (X.length+1) j=decide (j∈A)):=fun j=>by{have e:(i::X).take (X.length+1)=i::X:=List.take_of_length_le (by simp);unfold nD;rw[e,hp];rw[hp,List.nodup_append]at Bf;by_cases c:j∈i::X;{rw[zca c,eq_comm,decide_eq_false_iff_not];exact fun hA=>Bf.2.2 j hA j c rfl};{rw[zcb c,decide_eq_decide,zaa];exact⟨fun h=>h.resolve_right c,.inl⟩}};have aaj:H_ (T.w.take A.length=A):=by{show _=_;rw[hp];simp};have HB:=af hB;have hnA:A.length+X.length+1<=6000:=by{omega};have YI:=fun w=>Md w g T.w.length cap A.length (by omega) jL;have SHH:=fun w=>n7 w (some (a_ g 0)) T.w.length cap A.length (by omega);rw[ry]at h jL YI SHH ⊢;have Xj:A.length+X.length+1-A.length=X.length+1:=by omega
 rw[Xj]at YI;have Vv:=af h;obtain⟨⟨k0,k1,k2,k3,k4,k5,k6,k7⟩,lR,lC,lL,lO⟩:=iI.cells h;have WV:H_ (∀ j,j<A.length+X.length+1->wr.cell? (a_ g j)=some (i_ ((T.w[j]?.getD 0:Nat):Int))):=fun j hj=>iI.pathCell h (by omega);have Z6:=af AT0;have NH:=af ry;clear h hB Pv hp Bf hN aO Bc k0 k1 k2 k5 AT0 ry Xj;go_enter Tryz.func149,Tryz.ntmps149;go_wp2
 go_loopg [6] X.length (fun gg pl wx=>∃ q:Nat,q=A.length+gg/\gg<=X.length/\pl=i_ (q:Int)/\wx=wr);(case atStart=>exact⟨A.length+X.length,rfl,n_,by first | rfl | (congr 1;omega),rfl⟩);case round=>
  obtain⟨q,hq,hgX,rfl,rfl⟩:=hrel;have qc:=aa WV q (by omega);have Rz:(q:Int)<A.length+X.length+1:=by{omega};have HQ:=af hq;have hqX:q<=A.length+X.length:=by{omega};have hqA:A.length<=q:=by{omega};clear hq hgX;by_cases hgt:A.length<q;{have eh:=aa NE q hgt (by rw[NH.o];omega);generalize ((T.w[q]?.getD 0:Nat):Int)=y at *;go_wp2;go_roundg (q-1-A.length);(case measure=>have:=HQ.o;omega);case rel=>exact⟨q-1,by omega,by omega,by first | rfl | (congr 1;omega),rfl⟩}
  ·have mx:q=A.length:=by{omega};subst mx;clear HQ hqX hqA hgt;rw[Z6.o]at qc;go_wp2_with fail;clear k3 k4 k6 k7 lR lC lL lO qc Rz;go_loopg [36] (X.length+1) (fun gg kk wx=>∃ q:Nat,q+gg=X.length+1/\kk=i_ (q:Int)/\H_ (iI w0 B1 B2 bR bC bL bO steps N T.q T.low (nD (fun j=>decide (j∈T.w)) (i::X) q) T.w T.count T.least T.found (s_ g 0 (A.length+X.length+1) cap) wx)/\H_ (mJ bR bC bL bO (s_ g 0 (A.length+X.length+1) cap) (s_ g 0 (A.length+X.length+1) cap) wr wx));(case atStart=>exact⟨0,by omega,rfl,iI.opCongr Vv.o (fun j=>by unfold nD;simp),mJ.refl _ _ _ _ _ _⟩);case round=>
    obtain⟨q,hq,rfl,HM,YL⟩:=hrel;obtain⟨⟨k0,k1,k2,k3,k4,k5,k6,k7⟩,lR,lC,lL,lO⟩:=HM.o.cells;clear k0 k1 k2 k5;by_cases au:q<X.length+1;{have Rz:(q:Int)<X.length+1:=by{omega};have pc:=HM.o.pathCell (j:=A.length+q) (by rw[NH.o];omega);rw[GRP.o q au]at pc;have hy:=GN.o q au;have XI:=af (Am (fun j=>decide (j∈T.w)) (i::X) q (by simp;omega));have fl:g<wr.heap.size:=zbd _ _ pc;generalize (i::X)[q]?.getD 0=y at *;have oc:=HM.o.opn.cell (i:=y) hy;have oz:=HM.o.opn.frozen y;have hyI:(y:Int)<N:=by{omega};have HMN:=af (HM.o.setOpen HB.o y false);generalize nD (fun j=>decide (j∈T.w)) (i::X) q y=ob at *;go_wp2;go_roundg (X.length+1-(q+1));(case measure=>omega);case rel=>exact⟨q+1,by omega,by go_num,by rw[<-XI.o];exact HMN,YL.o.set bO y _ (.inr (.inr (.inr rfl)))⟩}
    ·have mx:q=X.length+1:=by{omega};subst mx;have LU:=af (iI.opCongr HM.o aaL.o);have Bc:(aG (i::X)).length=X.length+1:=by{simp[aG]};have MI:H_ (c_ 158 #[s_ g A.length (X.length+1) (cap-A.length)] wr (DG (aG (i::X)) wr)):=by
      have key:=Mt (some (a_ g A.length)) (aG (i::X)) (cap-A.length) (fun _=>True) wr ⟨by omega,fun _=>⟨g,A.length,rfl,trivial,fun j hj=>by
       have pc:=HM.o.pathCell (j:=A.length+j) (by rw[NH.o];omega);rw[GRP.o j (by omega)]at pc;rw[pc,gT]⟩⟩ (by omega) (by omega)
      rw[Bc]at key;exact key
     clear hq Bc au HM;go_wp2_with fail
     refine(aa MI).mono ?_;rintro e w4 ⟨y,rfl,hy,Ic,rfl⟩;obtain⟨m,hm,rfl⟩:∃ m,m∈i::X/\y=(m:Int):=by
      unfold aG at hy;rw[List.mem_map]at hy;obtain⟨m,h1,h2⟩:=hy;exact⟨m,h1,h2.symm⟩
     have Nw:H_ (m∈i::X/\∀ x,x∈i::X->m<=x):=⟨hm,fun x hx=>by
      have:=Ic (x:Int) (by unfold aG;rw[List.mem_map];exact⟨x,hx,rfl⟩);omega⟩
     have zR3:=LU.o.box.frozen 3;have zR6:=LU.o.box.frozen 6;have zR7:=LU.o.box.frozen 7;have QV:=af (LU.o.cut HB.o A.length (by rw[NH.o];omega));have Sg:=af (((LU.o.setLeast HB.o m).setFound HB.o true).cut HB.o A.length (by rw[NH.o];omega));rw[aaj.o]at QV Sg;have SH:H_ (∀ k,(Value.slice (some (a_ g 0)) A.length cap).ownBlock=some k->(Value.slice (some (a_ g 0)) (A.length+X.length+1) cap).ownBlock=some k):=fun k hk=>hk;have FR1:H_ (mJ bR bC bL bO (s_ g 0 (A.length+X.length+1) cap) (s_ g 0 A.length cap) wr (w4.setCell (a_ bR 3) (s_ g 0 A.length cap))):=by{have hh:=YL.o.set bR 3 (s_ g 0 A.length cap) (.inl rfl);exact⟨hh.same,fun k e=>.inl e,hh.size⟩};have FR2:H_ (mJ bR bC bL bO (s_ g 0 (A.length+X.length+1) cap) (s_ g 0 A.length cap) wr (((w4.setCell (a_ bR 6) (i_ (m:Int))).setCell (a_ bR 7) (.bool true)).setCell (a_ bR 3) (s_ g 0 A.length cap))):=by{have hh:=((YL.o.set bR 6 (i_ (m:Int)) (.inl rfl)).set bR 7 (.bool true) (.inl rfl)).set bR 3 (s_ g 0 A.length cap) (.inl rfl);exact⟨hh.same,fun k e=>.inl e,hh.size⟩};have FF:H_ (fE T (i::X) self m=(T.found,T.least)->ye w0 B1 B2 bR bC bL bO steps N T A (i::X) self (s_ g 0 (A.length+X.length+1) cap) wr (.returned (.tuple #[])) (w4.setCell (a_ bR 3) (s_ g 0 A.length cap))):=fun e=>⟨rfl,m,_,Nw.o.1,Nw.o.2,by rw[e];exact QV.o,FR1.o⟩;have FT:H_ (fE T (i::X) self m=(true,m)->ye w0 B1 B2 bR bC bL bO steps N T A (i::X) self (s_ g 0 (A.length+X.length+1) cap) wr (.returned (.tuple #[])) (((w4.setCell (a_ bR 6) (i_ (m:Int))).setCell (a_ bR 7) (.bool true)).setCell (a_ bR 3) (s_ g 0 A.length cap))):=fun e=>⟨rfl,m,_,Nw.o.1,Nw.o.2,by rw[e];exact Sg.o,FR2.o⟩;have CF:H_ (fE T (i::X) self m=if(decide (1<X.length+1)||self)&&(!T.found||decide (m<T.least))then(true,m)else(T.found,T.least)):=rfl;clear hy Ic hm QV Sg MI LU YL FR1 FR2 SH;generalize fE T (i::X) self m=CFV at *;by_cases c1:1<X.length+1
     ·have c1I:(1:Int)<X.length+1:=by{omega};have d1:decide (1<X.length+1)=true:=zbb c1;rw[d1,Bool.true_or,Bool.true_and]at CF;cases hf:T.found with
      | false=>
       rw[hf]at k7 FF CF;have RT:=af (FT.o CF.o);clear d1 CF FF FT;go_wp2;go_end0;exact RT.o
      | true=>
       rw[hf]at k7 FF CF;by_cases c4:m<T.least;{have ZT:(m:Int)<T.least:=by{omega};rw[zbb c4]at CF;have RT:=af (FT.o CF.o);clear d1 CF FF FT;go_wp2;go_end0;exact RT.o};{have ZT:¬((m:Int)<T.least):=by{omega};rw[zba c4]at CF;have RT:=af (FF.o CF.o);clear d1 CF FF FT;go_wp2;go_end0;exact RT.o}
     ·have c1I:¬((1:Int)<X.length+1):=by{omega};have d1:decide (1<X.length+1)=false:=zba c1;rw[d1,Bool.false_or]at CF;cases self with
      | false=>
       have RT:=af (FF.o CF.o);clear d1 CF FF FT;go_wp2;go_end0;exact RT.o
      | true=>
       rw[Bool.true_and]at CF;cases hf:T.found with
       | false=>
        rw[hf]at k7 FF CF;have RT:=af (FT.o CF.o);clear d1 CF FF FT;go_wp2;go_end0;exact RT.o
       | true=>
        rw[hf]at k7 FF CF;by_cases c4:m<T.least;{have ZT:(m:Int)<T.least:=by{omega};rw[zbb c4]at CF;have RT:=af (FT.o CF.o);clear d1 CF FF FT;go_wp2;go_end0;exact RT.o};{have ZT:¬((m:Int)<T.least):=by{omega};rw[zba c4]at CF;have RT:=af (FF.o CF.o);clear d1 CF FF FT;go_wp2;go_end0;exact RT.o}
theorem Fa {f:Nat->Nat}{c:Nat}:∀(l:List Nat)(b:Nat),l.Pairwise (fun x y=>f x<f y)->(∀ x,x∈l->b<f x)->(∀ x,x∈l->f x<=c)->b<=c->l.length+b<=c
 | [],b,_,_,_,h=>by simpa using h
 | x::l,b,hp,h1,h2,h=>by
  have hx:=h1 x (List.mem_cons_self ..);have:=Fa l (f x) (List.pairwise_cons.1 hp).2 (fun y hy=>(List.pairwise_cons.1 hp).1 y hy) (fun y hy=>h2 y (List.mem_cons_of_mem _ hy)) (h2 x (List.mem_cons_self ..));simp only[List.length_cons];omega
structure xU (P:Nat->Prop)(N:Nat)(T:Rg):Prop where
 lt:∀ x,T.q x≠0->x<N
 inn:∀ x,T.q x≠0->P x
 cnt:T.count+vt T.q N=N
theorem xU.push {P:Nat->Prop}{N:Nat}{T:Rg}(h:xU P N T){i:Nat}(hi:i<N)(hp:P i)(h0:T.q i=0):xU P N (T.push i):=by
 refine⟨fun x hx=>?_,fun x hx=>?_,?_⟩;{change bY T.q i (T.count+1) x≠0 at hx;unfold bY at hx;split at hx;{omega};{exact h.lt x hx}};{change bY T.q i (T.count+1) x≠0 at hx;unfold bY at hx;split at hx;{rename_i e;rw[e];exact hp};{exact h.inn x hx}};{have:=pH (c:=T.q) (v:=T.count+1) h0 (by omega) N hi;have h2:=h.cnt;show T.count+1+vt (bY T.q i (T.count+1)) N=N;omega}
theorem C7 {E:Nat->List Nat}{T:Rg}{G:List Nat}(h:kq E T G):T.w.Nodup:=h.nodup.imp (fun tj e=>by subst e;omega)
theorem Ab {E:Nat->List Nat}{T:Rg}{G:List Nat}{P:Nat->Prop}{N:Nat}(h:kq E T G)(hi:xU P N T):T.w.length<=N:=by
 have:=Fa (c:=T.count) T.w 0 h.nodup (fun x hx=>by have:=h.vis x hx;omega) (fun x _=>h.cnt x) (Nat.zero_le _);have:=hi.cnt;omega
theorem iI.grownBlk {w0:w_}{B1 B2 bR bC bL bO:Nat}{steps:Value}{N:Nat}{cm lw:Nat->Nat}{op:Nat->Bool}{path:List Nat}{cnt lst:Nat}{fnd:Bool}{pv:Value}{wr w1:w_}(h:iI w0 B1 B2 bR bC bL bO steps N cm lw op path cnt lst fnd pv wr){o:Obj}(hg:(wr.alloc o).grownBy w1 pv.ownBlock):∀ k,k<B2->w1.heap[k]? = wr.heap[k]?:=fun k hk=>by
 have hz:=h.size;have km:(wr.alloc o).heap.size=wr.heap.size+1:=by simp
 exact(hg.block k (by omega) (fun e=>by have:=h.pth.lt' k e.symm;omega)).trans (Below.heap_alloc wr _ k (by omega))
def dT (bV:Nat):Value:=.func (.func 126) #[.pointer (some (a_ bV 0))] #[]
def nE (P:Nat->Prop)(E:Nat->List Nat)(w0:w_)(B1 B2 bR bC bL bO bV N:Nat)(T:Rg)(G:List Nat)(i:Nat)(pv:Value)(wr:w_)(e:Ending)(w':w_):Prop:=
 e=.returned (.tuple #[])/\∃ T' iO,y7 w0 B1 B2 bR bC bL bO (dT bV) N T' iO w'/\wL E T G i T'/\xU P N T'/\mJ bR bC bL bO pv iO wr w'
def ER (E:Nat->List Nat)(w0:w_)(B1 bV N:Nat):Prop:=∀ W,Below B1 w0 W->∀ x:Nat,x<N->c_ 126 #[.pointer (some (a_ bV 0)),i_ (x:Int)] W (jU (aG (E x)) W)
def zm (P:Nat->Prop)(E:Nat->List Nat)(w0:w_)(B1 B2 bR bC bL bO bV N:Nat)(T:Rg)(G:List Nat)(i:Nat)(pv0:Value)(wr0:w_)(sa:o_)(sc:Nat)(gg:Nat)(s4 kk:Value)(wx:w_):Prop:=
 ∃(q:Nat) (T':Rg) (iO:Value),q+gg=(E i).length/\kk=i_ (q:Int)/\s4=.bool (decide (i∈(E i).take q))/\H_ (y7 w0 B1 B2 bR bC bL bO (dT bV) N T' iO wx)/\H_ (me E T G i q T')/\H_ (xU P N T')/\H_ (mJ bR bC bL bO pv0 iO wr0 wx)/\H_ (ao wx B2 (.slice sa (aG (E i)).length sc) (aG (E i)))/\H_ (rh (.slice sa (aG (E i)).length sc) iO)
theorem Mf (P:Nat->Prop)(E:Nat->List Nat)(w0:w_)(B1 B2 bR bC bL bO bV N:Nat)(T:Rg)(G:List Nat)(i:Nat)(pv0:Value)(wr0:w_)(sa:o_)(sc:Nat)
  (HB:H_ (F6 B1 B2 bR bC bL bO))(sU:B1<=B2)(Ip:N<=6000)(HE:H_ (∀ x,x<N->P x->∀ y,y∈E x->y<N/\P y))(HI:H_ (kq E T G))(HJ:H_ (xU P N T))(KN:H_ (T.q i=0))(hi:i<N)(Uj:H_ (P i))(Il:H_ ((aG (E i)).length=(E i).length))(Ot:(aG (E i)).length<=2)
  (k2 k3 k5 k7 k8 k9 tq Lh U1 k13 k14 k15 k16 k17 k18 k19 k20 k21 k22 k23 k24 k25 k26 k27 k28 k29 k30 k31 k32 k33 k34 k35 k36 k37 k38 k39 k40 k41 k42 k43 k44 k45 k46 k47 k48 k49 k50 k51 k52 k53 k54 k128 k129 k130 k131 k132 k133 k134 k135 k136 k137 k138 k139 k140 k141 k142 k143 k144 k145 k146:Value)(u6 u57 u58 u59 u60 u61 u62 u63 u64 u65 u66 u67 u68 u69 u70 u71 u72 u73 u74 u75 u76 u77 u78 u79 u80 u81 u82 u83 u84 u85 u86 u87 u88 u89 u90 u91 u92 u93 u94 u95 u96 u97 u98 u99 u100 u101 u102 u103 u104 u105 u106 u107 u108 u109 u110 u111 u112 u113 u114 u115 u116 u117 u118 u119 u120 u121 u122 u123 u124 u125 u126 u127:Value)(T':Rg)(iO:Value)(wr:w_)(HW:H_ (y7 w0 B1 B2 bR bC bL bO (dT bV) N T' iO wr))(zc:H_ (me E T G i (E i).length T'))(Em:H_ (xU P N T'))(Tv:H_ (mJ bR bC bL bO pv0 iO wr0 wr))(sf:Bool)(hsf:H_ (sf=true↔i∈E i))(KK:Act->w_->Prop)(hKK:∀(a':Act)(w':w_),Code.wp Tryz.prog (wB [1,1,1,1,1,1,1] (Tryz.f127.body.getD .skip)) (bodyPost Tryz.prog Tryz.f127 (nE P E w0 B1 B2 bR bC bL bO bV N T G i pv0 wr0)) a' w'->KK a' w') :
  Code.wp Tryz.prog (wB [1,1,1,1,1,1,0] (Tryz.f127.body.getD .skip)) (Exit.then KK (bodyPost Tryz.prog Tryz.f127 (nE P E w0 B1 B2 bR bC bL bO bV N T G i pv0 wr0))) ⟨List.toArray (.pointer (some (a_ bR 0)) :: i_ (i:Int)::k2::k3 :: .bool sf::k5::u6::k7::k8::k9::tq::Lh::U1::k13::k14::k15::k16::k17::k18::k19::k20::k21::k22::k23::k24::k25::k26::k27::k28::k29::k30::k31::k32::k33::k34::k35::k36::k37::k38::k39::k40::k41::k42::k43::k44::k45::k46::k47::k48::k49::k50::k51::k52::k53::k54 :: .slice sa (aG (E i)).length sc :: i_ ((aG (E i)).length:Int)::u57::u58::u59::u60::u61::u62::u63::u64::u65::u66::u67::u68::u69::u70::u71::u72::u73::u74::u75::u76::u77::u78::u79::u80::u81::u82::u83::u84::u85::u86::u87::u88::u89::u90::u91::u92::u93::u94::u95::u96::u97::u98::u99::u100::u101::u102::u103::u104::u105::u106::u107::u108::u109::u110::u111::u112::u113::u114::u115::u116::u117::u118::u119::u120::u121::u122::u123::u124::u125::u126::u127::k128::k129::k130::k131::k132::k133::k134::k135::k136::k137::k138::k139::k140::k141::k142::k143::k144::k145::k146::[]),[]⟩ wr:=by
 conv=>arg 2;whnf
 conv at hKK=>enter [a1,w2,1,2];whnf
 obtain⟨⟨Wi,k1',k2',V9,Yf,Wj,V8,V0⟩,lR,lC,lL,lO⟩:=iI.cells HW.o;clear Wi V9 Yf Wj V8 V0;have cC:=HW.o.q.cell (i:=i) hi;have cL:=HW.o.low.cell (i:=i) hi;have hiN:(i:Int)<N:=by{omega};have HWd:H_ (y7 w0 B1 B2 bR bC bL bO (dT bV) N T' iO wr.drew):=iI.below HW.o (r_.drew) sU;have HFd:H_ (mJ bR bC bL bO pv0 iO wr0 wr.drew):=Tv.o.below (r_.drew);by_cases he:T'.low i=T'.q i
 ·obtain⟨X,hX,_,_⟩:=zc.o.ext;have CL:H_ (c_ 149 #[.pointer (some (a_ bR 0)),i_ (i:Int),.bool sf] wr.drew (ye w0 B1 B2 bR bC bL bO (dT bV) N T' T.w (i::X) sf iO wr.drew)):=
   Gs w0 B1 B2 bR bC bL bO (dT bV) N T' T.w X i sf iO wr.drew HWd.o HB.o hX (C7 zc.o.inv) (fun x hx=>Em.o.lt x (zc.o.inv.vis x hx)) Ip (Ab zc.o.inv Em.o)
  have HX:=af hX;have HHE:=af he;rw[he]at cL;clear hX he;have eL:H_ (∀ m yX w',m∈i::X->(∀ x,x∈i::X->m<=x)->y7 w0 B1 B2 bR bC bL bO (dT bV) N (T'.close T.w (fE T' (i::X) sf m).1 (fE T' (i::X) sf m).2) yX w'->mJ bR bC bL bO iO yX wr.drew w'->nE P E w0 B1 B2 bR bC bL bO bV N T G i pv0 wr0 (.returned (.tuple #[])) w'):=fun m yX w' h1 h2 h3 h4=>
   ⟨rfl,_,yX,h3,Kk KN.o HI.o zc.o HHE.o HX.o h1 h2 hsf.o,⟨Em.o.lt,Em.o.inn,Em.o.cnt⟩,HFd.o.trans h4⟩
  go_region;(all_goals (go_wp2_with fail));all_goals refine(aa CL).mono ?_;rintro e w2 ⟨rfl,m,yX,h1,h2,h3,h4⟩;have FF:=af (eL.o m yX w2 h1 h2 h3 h4);clear h1 h2 h3 h4;go_wp2;go_end0;exact FF.o
 {have eh:(((T'.low i:Nat):Int)==((T'.q i:Nat):Int))=false:=by{simp;omega};have vj:H_ (wL E T G i T'):=Jp KN.o zc.o he;clear he;go_region;(all_goals (go_wp2_with fail));(all_goals go_end0);all_goals exact⟨rfl,T',iO,HWd.o,vj.o,Em.o,HFd.o⟩}
end Go.Proofs.YtcjfjflljdojlaaGreatDoor
