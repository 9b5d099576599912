import Derived.WalkKit
import Derived.Maps.OwnOps
set_option linter.unusedSimpArgs false
set_option linter.unusedVariables false
namespace Go.Proofs.YtofcbekoaghikaaGreatDoor
open Go.RowKit Go.MapKept Go.Maps
def MapK (P:Program)(kt:Nat)(w:World)(b:Nat)(m:Value->Option Value):Prop:=
 ∃ es clock,w.heap[b]? = some (.map es clock)/\(∀ e∈es.toList,∃ l,keyOf P kt e.key=some l) /\
  (∀(i j:Nat)(e e':MapEntry),es.toList[i]? = some e->es.toList[j]? = some e'->e.key=e'.key->i=j) /\
  ∀ k v,m k=some v↔∃ e∈es.toList,e.key=k/\e.val=v
section
variable {P:Program} {kt:Nat} {w:World} {b:Nat} {m:Value->Option Value}
theorem MapK.made (P:Program)(kt:Nat)(w:World):MapK P kt (w.alloc (.map #[] 0)) w.heap.size (fun _=>none):=
 ⟨#[],0,(heap_alloc w _).1,by simp,by simp,by simp⟩
theorem MapK.block {w':World}(h:MapK P kt w b m)(hb:w'.heap[b]? = w.heap[b]?):MapK P kt w' b m:=by
 obtain⟨es,clock,h1,h2⟩:=h;exact⟨es,clock,hb.trans h1,h2⟩
theorem MapK.lt (h:MapK P kt w b m):b<w.heap.size:=by
 obtain⟨es,clock,hb,_⟩:=h;exact(Array.getElem?_eq_some_iff.1 hb).1
theorem MapK.keep {w':World}{B:Nat}(h:MapK P kt w b m)(hb:Below B w w')(hB:b<B):MapK P kt w' b m:=h.block (hb.block b hB)
theorem MapK.congr {m':Value->Option Value}(h:MapK P kt w b m)(e:∀ k,m' k=m k):MapK P kt w b m':=by
 obtain⟨es,clock,h1,h2,h3,h4⟩:=h;exact⟨es,clock,h1,h2,h3,fun k v=>by rw[e k];exact h4 k v⟩
theorem MapK.some_pos (h:MapK P kt w b m){k v:Value}(hk:m k=some v):∃ es clock,w.heap[b]? = some (.map es clock)/\0<es.size:=by
 obtain⟨es,clock,h1,_,_,h4⟩:=h;obtain⟨e,he,_⟩:=(h4 k v).1 hk;exact⟨es,clock,h1,by simpa using List.length_pos_of_mem he⟩
theorem MapK.none_of (h:MapK P kt w b m){k:Value}{es:Array MapEntry}{clock:Nat}(hb:w.heap[b]? = some (.map es clock))(hn:∀ e∈es.toList,e.key≠k):m k=none:=by
 obtain⟨es',clock',h1,_,_,h4⟩:=h;rw[hb]at h1;cases h1;cases e:m k with
 | none=>rfl
 | some v=>obtain⟨x,hx,h5,_⟩:=(h4 k v).1 e;exact absurd h5 (hn x hx)
theorem MapK.look (K:Keyed P kt){t et:Nat}(h:MapK P kt w b m)(ht:P.underlying t=some (.map kt et)){z:Value}(hz:(zeroValue et).run P w=.ok z w){k:Value}{lk:Lit}(hk:keyOf P kt k=some lk)(c:Bool) :
  (Instr.lookup t (.map (some b)) k c).run P w=.ok (if c then .tuple #[(m k).getD z,.bool (m k).isSome]else(m k).getD z) w:=by
 obtain⟨es,clock,h1,h2,h3,h4⟩:=h;rcases K.find w hk es.toList h2 with⟨hf,hn⟩ | ⟨j,e,hf,hj,he⟩
 ·have hm:m k=none:=MapK.none_of ⟨es,clock,h1,h2,h3,h4⟩ h1 hn;simp[Instr.lookup,run_underlying ht,MapKept.run_getObj_map h1,K.check w _ hk,hf,hm,hz,Result.andThen]
 ·have hm:m k=some e.val:=(h4 k e.val).2 ⟨e,List.mem_of_getElem? hj,he,rfl⟩;simp[Instr.lookup,run_underlying ht,MapKept.run_getObj_map h1,K.check w _ hk,hf,hm,Result.andThen]
open Classical in
theorem MapK.put (K:Keyed P kt){t et:Nat}(h:MapK P kt w b m)(ht:P.underlying t=some (.map kt et)){k:Value}{lk:Lit}(hk:keyOf P kt k=some lk)(v:Value) :
  ∃ w',(Instr.mapUpdate t (.map (some b)) k v).run P w=.ok () w'/\MapK P kt w' b (fun j=>if j=k then some v else m j)/\w.grownBy w' (some b):=by
 obtain⟨es,clock,h1,h2,h3,h4⟩:=h;rcases K.find w hk es.toList h2 with⟨hf,hn⟩ | ⟨j,e,hf,hj,he⟩
 ·have hm:m k=none:=MapK.none_of ⟨es,clock,h1,h2,h3,h4⟩ h1 hn;refine⟨{ w with heap:=w.heap.setIfInBounds b (.map (es.push { key:=k,val:=v,born:=clock }) (clock+1)) },by simp[Instr.mapUpdate,run_underlying ht,MapKept.run_getObj_map h1,K.check w _ hk,hf,run_setObj_map _ h1,Result.andThen],⟨_,_,(heap_set h1).1,?_,?_,fun x y=>?_⟩,⟨rfl,rfl,rfl,by simp,fun i _ hi=>(heap_set h1).2 i (fun e=>hi (by rw[e]))⟩⟩
  ·intro x hx;rw[Array.toList_push,List.mem_append,List.mem_singleton]at hx;rcases hx with hx | rfl
   ·exact h2 x hx
   ·exact⟨lk,hk⟩
  ·intro i j x y hi hj hxy;rw[Array.toList_push]at hi hj;rw[List.getElem?_append]at hi hj;split at hi<;>split at hj
   ·exact h3 i j x y hi hj hxy
   ·have:y.key=k:=by
     have:=List.mem_of_getElem? hj;rw[List.mem_singleton]at this;rw[this]
    exact absurd (hxy.trans this) (hn x (List.mem_of_getElem? hi))
   ·have:x.key=k:=by
     have:=List.mem_of_getElem? hi;rw[List.mem_singleton]at this;rw[this]
    exact absurd (hxy.symm.trans this) (hn y (List.mem_of_getElem? hj))
   ·have a1:=(List.getElem?_eq_some_iff.1 hi).1;have a2:=(List.getElem?_eq_some_iff.1 hj).1;have e1:es.toList.length=es.size:=Array.length_toList;simp at a1 a2;omega
  ·dsimp only;rw[Array.toList_push];by_cases exk:x=k
   ·subst exk;rw[if_pos rfl];constructor
    ·intro h;cases h;exact⟨{ key:=x,val:=v,born:=clock },by simp,rfl,rfl⟩
    ·rintro⟨e,he,h5,rfl⟩;rw[List.mem_append,List.mem_singleton]at he;rcases he with he | rfl
     ·exact absurd h5 (hn e he)
     ·rfl
   ·rw[if_neg exk,h4 x y];constructor
    ·rintro⟨e,he,h5,h6⟩;exact⟨e,by simp[he],h5,h6⟩
    ·rintro⟨e,he,h5,h6⟩;rw[List.mem_append,List.mem_singleton]at he;rcases he with he | rfl
     ·exact⟨e,he,h5,h6⟩
     ·exact absurd h5.symm exk
 ·have hje:es[j]? = some e:=by simpa using hj
  have hstay:=K.stays w hk;refine⟨{ w with heap:=w.heap.setIfInBounds b (.map (es.modify j fun e=>{ e with key:=k,val:=v }) clock) },by simp[Instr.mapUpdate,run_underlying ht,MapKept.run_getObj_map h1,K.check w _ hk,hf,hje,he,hstay,run_setObj_map _ h1,Result.andThen],⟨_,_,(heap_set h1).1,?_,?_,fun x y=>?_⟩,⟨rfl,rfl,rfl,by simp,fun i _ hi=>(heap_set h1).2 i (fun e=>hi (by rw[e]))⟩⟩
  ·intro x hx;obtain⟨i,hi⟩:=List.getElem?_of_mem hx;rw[Array.getElem?_toList,Array.getElem?_modify]at hi;split at hi
   ·rename_i eij;subst eij;rw[hje]at hi;cases hi;exact⟨lk,hk⟩
   ·exact h2 x (List.mem_of_getElem? (by simpa using hi))
  ·have key:∀(i:Nat) (x:MapEntry),(es.modify j fun e=>{ e with key:=k,val:=v }).toList[i]? = some x->∃ x':MapEntry,es.toList[i]? = some x'/\x'.key=x.key:=fun i x hi=>by
    rw[Array.getElem?_toList,Array.getElem?_modify]at hi;split at hi
    ·rename_i eij;subst eij;rw[hje]at hi;cases hi;exact⟨e,hj,he⟩
    ·exact⟨x,by simpa using hi,rfl⟩
   intro i i' x y hi hi' hxy;obtain⟨x',g1,g2⟩:=key i x hi;obtain⟨y',g3,g4⟩:=key i' y hi';exact h3 i i' x' y' g1 g3 (g2.trans (hxy.trans g4.symm))
  ·dsimp only;by_cases exk:x=k
   ·subst exk;rw[if_pos rfl];constructor
    ·intro h;cases h;refine⟨{ e with key:=x,val:=v },List.mem_of_getElem? (i:=j) ?_,rfl,rfl⟩;rw[Array.getElem?_toList,Array.getElem?_modify,if_pos rfl,hje];rfl
    ·rintro⟨y',hy,h5,rfl⟩;obtain⟨i,hi⟩:=List.getElem?_of_mem hy;rw[Array.getElem?_toList,Array.getElem?_modify]at hi;split at hi
     ·rename_i eij;subst eij;rw[hje]at hi;cases hi;rfl
     ·rename_i eij;exact absurd (h3 j i e y' hj (by simpa using hi) (he.trans h5.symm)) eij
   ·rw[if_neg exk,h4 x y];constructor
    ·rintro⟨y',hy,h5,h6⟩;obtain⟨i,hi⟩:=List.getElem?_of_mem hy;have hne:¬j=i:=fun eij=>by subst eij;rw[hj]at hi;cases hi;exact exk (h5.symm.trans he)
     refine⟨y',List.mem_of_getElem? (i:=i) ?_,h5,h6⟩;rw[Array.getElem?_toList,Array.getElem?_modify,if_neg hne];simpa using hi
    ·rintro⟨y',hy,h5,h6⟩;obtain⟨i,hi⟩:=List.getElem?_of_mem hy;rw[Array.getElem?_toList,Array.getElem?_modify]at hi;split at hi
     ·rename_i eij;subst eij;rw[hje]at hi;cases hi;exact absurd h5.symm exk
     ·exact⟨y',List.mem_of_getElem? (i:=i) (by simpa using hi),h5,h6⟩
open Classical in
theorem wpList_putK (K:Keyed P kt)(w:World){ops:Array Oper}{rest:List Oper}{o:Oper}{a:Act}{Q:Exit->Act->World->Prop}
  (hg:o.guard=none)(mo x v:Operand)(t et:Nat)(hop:o.op=Op.mapUpdate t mo x v)(ht:P.underlying t=some (.map kt et))
  (b:Nat)(m:Value->Option Value)(h:MapK P kt w b m)(hm:a.eval mo=.map (some b))(k:Value)(hx:a.eval x=k){lk:Lit}(hk:keyOf P kt k=some lk)(val:Value)(hv:a.eval v=val)
  (hK:∀ w',MapK P kt w' b (fun j=>if j=k then some val else m j)->w.grownBy w' (some b)->wpList P ops Q rest (a.put o.dst undef) w') :
  wpList P ops Q (o::rest) a w:=by
 refine wpList_plain hg fun K' hK'=>?_;obtain⟨w',hrun,r1,r2⟩:=h.put K ht hk val;unfold Oper.wp;simp[execOp,hop,hm,hx,hv,hrun,Result.andThen];exact hK' _ _ (hK w' r1 r2)
end
end Go.Proofs.YtofcbekoaghikaaGreatDoor
