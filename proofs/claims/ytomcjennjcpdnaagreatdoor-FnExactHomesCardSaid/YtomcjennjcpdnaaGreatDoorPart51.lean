import Derived.Test.YtomcjennjcpdnaaGreatDoorPart01
import Derived.OrdersHeld
import Derived.Test.YtomcjennjcpdnaaGreatDoorPart50
import Derived.Test.YtomcjennjcpdnaaGreatDoorPart20
import Derived.Test.YtomcjennjcpdnaaGreatDoorPart17
import Derived.Deep.RegionHeld3
set_option linter.unusedSimpArgs false
set_option linter.unusedVariables false
namespace Go.Proofs.YtomcjennjcpdnaaGreatDoor
set_option maxRecDepth 100000
set_option maxHeartbeats 4000000
open Go.RowKit
section
variable {P:Program} {md:Region.Mode} {ops:Array Oper} {Q:Exit->Act->World->Prop} {S:World->Prop} {k:Nat}
def wpAnyK (P:Program)(md:Region.Mode)(ops:Array Oper)(Q:Exit->Act->World->Prop)(S:World->Prop)(k:Nat):Nat->Array Bool->Act->World->Prop
 | 0,ls,a,w=>Region.ready md ops ls=[]/\Q .normal a w
 | fu+1,ls,a,w=>(Region.ready md ops ls=[]->Q .normal a w)/\∀ i,i∈Region.ready md ops ls->wpOp P ops Q i (fun a' w'=>if i=k then wpAny P md ops Q fu (ls.setIfInBounds i true) a' w' else S w'/\wpAnyK P md ops Q S k fu (ls.setIfInBounds i true) a' w') a w
theorem any_of_K:∀ fu ls a w,wpAnyK P md ops Q S k fu ls a w->wpAny P md ops Q fu ls a w
 | 0,_,_,_,h=>h
 | fu+1,ls,a,w,h=>⟨h.1,fun i hi=>wpOp_mono (fun a' w' q=>by
   split at q
   ·exact q
   ·exact any_of_K fu _ a' w' q.2) (h.2 i hi)⟩
def waits (md:Region.Mode)(ops:Array Oper)(k i:Nat):Bool:=((ops[k]?).map (fun o=>o.after.any (fun e=>Region.binds md e&&e.on==i))).getD false
theorem waits_no {i:Nat}{ls:Array Bool}(h:waits md ops k i=true)(hi:i∈Region.ready md ops ls):k ∉ Region.ready md ops ls:=fun hk=>by
 obtain⟨_,o,ho,hall⟩:=mem_ready.1 hk;unfold waits at h;rw[ho]at h;obtain⟨e,he,hb⟩:=Array.any_eq_true'.1 h;rw[Bool.and_eq_true,beq_iff_eq]at hb;have h1:=hall e he hb.1;have h0:=(mem_ready.1 hi).1;rw[hb.2]at h1;rcases Nat.lt_or_ge i ls.size with h' | h'
 ·simp[h']at h0 h1;rw[h0]at h1;cases h1
 ·simp[Array.getElem?_eq_none h']at h1
theorem K_take {i:Nat}{oi:Oper}{v:Value}(hi:ops[i]? = some oi)(hs:Region.noSelect ops=true)(hwt:waits md ops k i=true)(hQ:∀ c a w,Q (.panic c) (a.put oi.dst v) w->Q (.panic c) a w) :
  ∀(fu:Nat) (ls:Array Bool) (a:Act) (w:World),(∀ j oj,ops[j]? = some oj->j≠i->ls.getD j true=false->(∀ e∈oj.after,Region.binds md e=true->e.on≠i)->oi.apart ops oj=true)->i∈Region.ready md ops ls->YieldsIf P ops S oi v a->S w ->
   wpAnyK P md ops Q S k fu (ls.setIfInBounds i true) (a.put oi.dst v) w->wpAnyK P md ops Q S k (fu+1) ls a w:=by
 have hsel:=Region.noSelect_spec hs;intro fu
 induction fu with
 | zero=>
  intro ls a w _ hr hy hS H;refine⟨fun h=>(by rw[h]at hr;cases hr),fun j hj=>?_⟩;have hjk:j≠k:=fun e=>waits_no hwt hr (e ▸ hj);by_cases e:j=i
  ·subst e;exact hy.wpOp hi hS (by rw[if_neg hjk];exact⟨hS,H⟩)
  ·have:=ready_mono hj e;rw[H.1]at this;cases this
 | succ fu ih=>
  intro ls a w hfree hr hy hS H;refine⟨fun h=>(by rw[h]at hr;cases hr),fun j hj=>?_⟩;have hjk:j≠k:=fun e=>waits_no hwt hr (e ▸ hj);by_cases e:j=i
  ·subst e;exact hy.wpOp hi hS (by rw[if_neg hjk];exact⟨hS,H⟩)
  ·obtain⟨hun,oj,hoj,hall⟩:=mem_ready.1 hj;have hno:∀ e∈oj.after,Region.binds md e=true->e.on≠i:=fun e he hb eq=>by
    have h1:=hall e he hb;have h0:=(mem_ready.1 hr).1;rw[eq]at h1;rcases Nat.lt_or_ge i ls.size with h' | h'
    ·simp[h']at h0 h1;rw[h0]at h1;cases h1
    ·simp[Array.getElem?_eq_none h']at h1
   refine wpOp_mono (fun a' w' q=>?_) (wpOp_putIf hoj (hfree j oj hoj e hun hno) (fun cs b=>hsel i oi cs b hi) (fun cs b=>hsel j oj cs b hoj) hQ hy (H.2 j (ready_mono hj e)));obtain⟨y,q⟩:=q;rw[if_neg hjk]at q ⊢;refine⟨q.1,ih _ a' w' (fun n on hn hni hun' hno'=>hfree n on hn hni ?_ hno') (ready_mono hr (Ne.symm e)) y q.1 (by rw[Array.setIfInBounds_comm _ _ e];exact q.2)⟩;by_cases en:j=n
   ·subst en;exact hun
   ·rw[getD_set_ne true en]at hun';exact hun'
theorem K_go {i:Nat}{oi:Oper}{fu:Nat}{ls:Array Bool}{a:Act}{w:World}(d:Option Tmp)(v:Value)(hi:ops[i]? = some oi)(hd:oi.dst=d)(hb:(Region.noSelect ops&&waits md ops k i&&Region.free md ops ls i&&(Region.ready md ops ls).contains i)=true)(hw:Region.wanted oi (yielded ops a.tmps)=true)(hQ:∀ c a w,Q (.panic c) (a.put oi.dst v) w->Q (.panic c) a w)(hS:S w)
  (hy:∀ W,S W->(execOp a.eval oi).run P W=.ok (.value v) W)(h:wpAnyK P md ops Q S k fu (ls.setIfInBounds i true) (a.put d v) w):wpAnyK P md ops Q S k (fu+1) ls a w:=by
 subst hd;simp only[Bool.and_eq_true]at hb;exact K_take hi hb.1.1.1 hb.1.1.2 hQ fu ls a w (Region.free_spec hi hb.1.2) (by simpa using hb.2) (.inl ⟨hw,hy⟩) hS h
theorem K_one {i:Nat}{fu:Nat}{ls:Array Bool}{a:Act}{w:World}(hr:Region.ready md ops ls=[i])(hik:i≠k)(h:wpOp P ops Q i (fun a' w'=>S w'/\wpAnyK P md ops Q S k fu (ls.setIfInBounds i true) a' w') a w):wpAnyK P md ops Q S k (fu+1) ls a w:=
 ⟨fun h0=>by rw[hr]at h0;(cases h0),fun j hj=>by
  rw[hr,List.mem_singleton]at hj;subst hj;exact wpOp_mono (fun a' w' q=>by rw[if_neg hik];exact q) h⟩
theorem A_op {i:Nat}{o:Oper}{fu:Nat}{ls:Array Bool}{a:Act}{w w':World}{n:Next}{v:Value}(d:Option Tmp)(hi:ops[i]? = some o)(hd:o.dst=d)(hb:(Region.ready md ops ls==[i])=true)(hw:Region.wanted o (yielded ops a.tmps)=true)(he:(execOp a.eval o).run P w=.ok n w')(hn:(n=.skip/\v=undef)\/n=.value v)
  (h:wpAny P md ops Q fu (ls.setIfInBounds i true) (a.put d v) w'):wpAny P md ops Q (fu+1) ls a w:=by
 subst hd;refine wpAny_all (beq_iff_eq.1 hb) (by simp) (fun j hj=>?_);rw[List.mem_singleton]at hj;subst hj;unfold wpOp;rcases hn with⟨rfl,rfl⟩ | rfl<;>simp only[hi,hw,if_true,Oper.wp,he,Oper.upon]<;>exact .inl h
theorem K_last {fu:Nat}{ls:Array Bool}{a:Act}{w:World}(hr:Region.ready md ops ls=[k])(h:wpAny P md ops Q (fu+1) ls a w):wpAnyK P md ops Q S k (fu+1) ls a w:=
 ⟨h.1,fun j hj=>wpOp_mono (fun a' w' q=>by
  have hj':=hj;rw[hr,List.mem_singleton]at hj';rw[if_pos hj'];exact q) (h.2 j hj)⟩
theorem K_op {i:Nat}{o:Oper}{fu:Nat}{ls:Array Bool}{a:Act}{w w':World}{n:Next}{v:Value}(d:Option Tmp)(hi:ops[i]? = some o)(hd:o.dst=d)(hb:(Region.ready md ops ls==[i] && !(i==k))=true)(hw:Region.wanted o (yielded ops a.tmps)=true)(he:(execOp a.eval o).run P w=.ok n w')(hn:(n=.skip/\v=undef)\/n=.value v)(hS:S w')
  (h:wpAnyK P md ops Q S k fu (ls.setIfInBounds i true) (a.put d v) w'):wpAnyK P md ops Q S k (fu+1) ls a w:=by
 subst hd;simp only[Bool.and_eq_true,beq_iff_eq,Bool.not_eq_true',beq_eq_false_iff_ne]at hb;refine K_one hb.1 hb.2 ?_;unfold wpOp;rcases hn with⟨rfl,rfl⟩ | rfl<;>simp only[hi,hw,if_true,Oper.wp,he,Oper.upon]<;>exact .inl ⟨hS,h⟩
theorem K_step {i:Nat}{o:Oper}{fu:Nat}{ls:Array Bool}{a:Act}{w:World}(hi:ops[i]? = some o)(hb:(Region.ready md ops ls==[i] && !(i==k))=true)(hw:Region.wanted o (yielded ops a.tmps)=true)
  (h:if Region.wanted o (yielded ops a.tmps)=true then Oper.wp P o a w (fun a' w'=>S w'/\wpAnyK P md ops Q S k fu (ls.setIfInBounds i true) a' w') Q else True):wpAnyK P md ops Q S k (fu+1) ls a w:=by
 simp only[Bool.and_eq_true,beq_iff_eq,Bool.not_eq_true',beq_eq_false_iff_ne]at hb;refine K_one hb.1 hb.2 ?_;rw[if_pos hw]at h;unfold wpOp;simp only[hi,hw,if_true];exact .inl h
theorem wp_region_K {id:Nat}{a:Act}{w:World}(S:World->Prop)(k:Nat)(hm:P.follows .mixedOrders=true)(h:∀ W0,W0=w.drew->wpAnyK P .any ops Q S k ops.size (Array.replicate ops.size false) a W0):(Code.region id ops true).wp P Q a w:=wp_region_any hm (any_of_K _ _ _ _ (h _ rfl))
end
end Go.Proofs.YtomcjennjcpdnaaGreatDoor
namespace Go.Proofs.YtomcjennjcpdnaaGreatDoor
set_option maxRecDepth 100000
set_option maxHeartbeats 4000000
open Go.RowKit
def l8Box (a:Option Addr)(nl c:Nat)(fn:Int)(nv bb hb fb tb:Nat):Obj:=.cells #[.slice a nl c,.int .i64 fn,.string ByteArray.empty,.int .i64 0,.int .i64 0,.bool false,.int .i64 0,.slice none 0 0,.slice none 0 0,.slice none 0 0,.slice none 0 0,.int .i64 0,.slice (some ⟨bb,0,none⟩) nv nv,.slice (some ⟨hb,0,none⟩) nv nv,.slice (some ⟨fb,0,none⟩) nv nv,.slice (some ⟨tb,0,none⟩) nv nv,.slice none 0 0] 52
structure L8W (W:World)(a:Option Addr)(nl c:Nat)(fn:Int)(nv:Nat)(cap:Nat->Bool)(cb bb hb fb tb:Nat)(wc:World):Prop where
 old:Below W.heap.size W wc
 box:wc.heap[cb]? = some (l8Box a nl c fn nv bb hb fb tb)
 bx:wc.rowIs bb 4 nv (fun j=>.bool (cap j))
 hm:wc.heap[hb]? = some (.cells (madeCells #[.int .i64 0] nv) 3)
 fr:wc.heap[fb]? = some (.cells (madeCells #[.int .i64 0] nv) 3)
 tt:wc.heap[tb]? = some (.cells (madeCells #[.int .i64 0] nv) 3)
 ge:W.heap.size<=cb/\W.heap.size<=bb/\W.heap.size<=hb/\W.heap.size<=fb/\W.heap.size<=tb
 ne:hb≠fb/\hb≠tb/\fb≠tb
theorem al_new (w:World)(o:Obj){b:Nat}(h:b=w.heap.size):(w.alloc o).heap[b]? = some o:=by subst h;exact Go.Deep.blk_alloc_new w o
theorem al_old (w:World)(o:Obj){b:Nat}{x:Option Obj}(h:b<w.heap.size)(e:w.heap[b]? = x):(w.alloc o).heap[b]? = x:=(Below.heap_alloc _ _ _ h).trans e
theorem al_drew (w:World){b:Nat}{x:Option Obj}(e:w.heap[b]? = x):w.drew.heap[b]? = x:=e
theorem l8w_mk {W:World}{a:Option Addr}{nl c:Nat}{fn:Int}{nv:Nat}{cap:Nat->Bool}{cb bb hb fb tb:Nat}{wc w2:World}(old:Below W.heap.size W wc)(box:wc.heap[cb]? = some (l8Box a nl c fn nv bb hb fb tb))
  (bx:w2.rowIs bb 4 nv (fun j=>.bool (cap j)))(bk:wc.heap[bb]? = w2.heap[bb]?)(hm:wc.heap[hb]? = some (.cells (madeCells #[.int .i64 0] nv) 3))(fr:wc.heap[fb]? = some (.cells (madeCells #[.int .i64 0] nv) 3))(tt:wc.heap[tb]? = some (.cells (madeCells #[.int .i64 0] nv) 3))
  (g1:W.heap.size<=cb)(g2:W.heap.size<=bb)(g3:W.heap.size<=hb)(g4:W.heap.size<=fb)(g5:W.heap.size<=tb)(n1:hb≠fb)(n2:hb≠tb)(n3:fb≠tb) :
  ∃ cb' bb hb fb tb,Value.pointer (some ⟨cb,0,none⟩)=.pointer (some ⟨cb',0,none⟩)/\L8W W a nl c fn nv cap cb' bb hb fb tb wc:=
 ⟨cb,bb,hb,fb,tb,rfl,old,box,bx.of_block bk,hm,fr,tt,⟨g1,g2,g3,g4,g5⟩,n1,n2,n3⟩
theorem leaf0 {W w2:World}{a:Option Addr}{nl c:Nat}{fn:Int}{nv:Nat}{cap:Nat->Bool}{bb hb fb tb:Nat}(hr2:w2.rowIs bb 4 nv (fun j=>.bool (cap j)))(hg2:(W.drew).heap.size<=bb)(hb2:Below (W.drew).heap.size W.drew w2)(hb3:Below W.heap.size W w2)
  (h1:hb=w2.heap.size\/hb=w2.heap.size+1\/hb=w2.heap.size+1+1)(h2:fb=w2.heap.size\/fb=w2.heap.size+1\/fb=w2.heap.size+1+1)(h3:tb=w2.heap.size\/tb=w2.heap.size+1\/tb=w2.heap.size+1+1)(n1:W.heap.size<=w2.heap.size->hb≠fb)(n2:W.heap.size<=w2.heap.size->hb≠tb)(n3:W.heap.size<=w2.heap.size->fb≠tb) :
  ∃ cb' xb xh xf xt,Value.pointer (some ⟨w2.heap.size+1+1+1,0,none⟩)=.pointer (some ⟨cb',0,none⟩)/\L8W W a nl c fn nv cap cb' xb xh xf xt ((((w2.alloc (.cells (madeCells #[.int .i64 0] nv) 3)).alloc (.cells (madeCells #[.int .i64 0] nv) 3)).alloc (.cells (madeCells #[.int .i64 0] nv) 3)).alloc (.cells #[.slice a nl c,.int .i64 fn,.string ByteArray.empty,.int .i64 0,.int .i64 0,.bool false,.int .i64 0,.slice none 0 0,.slice none 0 0,.slice none 0 0,.slice none 0 0,.int .i64 0,.slice (some ⟨bb,0,none⟩) nv nv,.slice (some ⟨hb,0,none⟩) nv nv,.slice (some ⟨fb,0,none⟩) nv nv,.slice (some ⟨tb,0,none⟩) nv nv,.slice none 0 0] 52)):=by
 have hz:=hb3.size;have hzV:(W.drew).heap.size=W.heap.size:=by first | rfl | (show(World.alloc _ _).heap.size=_;simp)
 have hz2:=hb2.size;rw[hzV]at hg2 hz2;have hbl:=hr2.lt;have n1:=n1 hz2;have n2:=n2 hz2;have n3:=n3 hz2;have rows:∀ x,(x=w2.heap.size\/x=w2.heap.size+1\/x=w2.heap.size+1+1)->((((w2.alloc (.cells (madeCells #[.int .i64 0] nv) 3)).alloc (.cells (madeCells #[.int .i64 0] nv) 3)).alloc (.cells (madeCells #[.int .i64 0] nv) 3)).alloc (.cells #[.slice a nl c,.int .i64 fn,.string ByteArray.empty,.int .i64 0,.int .i64 0,.bool false,.int .i64 0,.slice none 0 0,.slice none 0 0,.slice none 0 0,.slice none 0 0,.int .i64 0,.slice (some ⟨bb,0,none⟩) nv nv,.slice (some ⟨hb,0,none⟩) nv nv,.slice (some ⟨fb,0,none⟩) nv nv,.slice (some ⟨tb,0,none⟩) nv nv,.slice none 0 0] 52)).heap[x]? = some (.cells (madeCells #[.int .i64 0] nv) 3):=fun x hx=>by
  rcases hx with rfl | rfl | rfl
  ·exact al_old _ _ (by first | omega | (simp;done) | (simp;omega)) (al_old _ _ (by first | omega | (simp;done) | (simp;omega)) (al_old _ _ (by first | omega | (simp;done) | (simp;omega)) (al_new _ _ (by simp))))
  ·exact al_old _ _ (by first | omega | (simp;done) | (simp;omega)) (al_old _ _ (by first | omega | (simp;done) | (simp;omega)) (al_new _ _ (by simp)))
  ·exact al_old _ _ (by first | omega | (simp;done) | (simp;omega)) (al_new _ _ (by simp))
 exact l8w_mk (w2:=w2) (cb:=w2.heap.size+1+1+1) (((((hb3).alloc (by first | omega | (simp;done) | (simp;omega)) _).alloc (by first | omega | (simp;done) | (simp;omega)) _).alloc (by first | omega | (simp;done) | (simp;omega)) _).alloc (by first | omega | (simp;done) | (simp;omega)) _) (al_new _ _ (by simp)) hr2 (al_old _ _ (by first | omega | (simp;done) | (simp;omega)) (al_old _ _ (by first | omega | (simp;done) | (simp;omega)) (al_old _ _ (by first | omega | (simp;done) | (simp;omega)) (al_old _ _ (by first | omega | (simp;done) | (simp;omega)) (rfl))))) (rows _ h1) (rows _ h2) (rows _ h3) (by omega) (by omega) (by omega) (by omega) (by omega) n1 n2 n3
theorem leaf1 {W w2:World}{a:Option Addr}{nl c:Nat}{fn:Int}{nv:Nat}{cap:Nat->Bool}{bb hb fb tb:Nat}(hr2:w2.rowIs bb 4 nv (fun j=>.bool (cap j)))(hg2:((W.alloc (.cells (madeCells #[.int .i64 0] nv) 3)).drew).heap.size<=bb)(hb2:Below ((W.alloc (.cells (madeCells #[.int .i64 0] nv) 3)).drew).heap.size (W.alloc (.cells (madeCells #[.int .i64 0] nv) 3)).drew w2)(hb3:Below W.heap.size W w2)
  (h1:hb=W.heap.size\/hb=w2.heap.size\/hb=w2.heap.size+1)(h2:fb=W.heap.size\/fb=w2.heap.size\/fb=w2.heap.size+1)(h3:tb=W.heap.size\/tb=w2.heap.size\/tb=w2.heap.size+1)(n1:W.heap.size+1<=w2.heap.size->hb≠fb)(n2:W.heap.size+1<=w2.heap.size->hb≠tb)(n3:W.heap.size+1<=w2.heap.size->fb≠tb) :
  ∃ cb' xb xh xf xt,Value.pointer (some ⟨w2.heap.size+1+1,0,none⟩)=.pointer (some ⟨cb',0,none⟩)/\L8W W a nl c fn nv cap cb' xb xh xf xt (((w2.alloc (.cells (madeCells #[.int .i64 0] nv) 3)).alloc (.cells (madeCells #[.int .i64 0] nv) 3)).alloc (.cells #[.slice a nl c,.int .i64 fn,.string ByteArray.empty,.int .i64 0,.int .i64 0,.bool false,.int .i64 0,.slice none 0 0,.slice none 0 0,.slice none 0 0,.slice none 0 0,.int .i64 0,.slice (some ⟨bb,0,none⟩) nv nv,.slice (some ⟨hb,0,none⟩) nv nv,.slice (some ⟨fb,0,none⟩) nv nv,.slice (some ⟨tb,0,none⟩) nv nv,.slice none 0 0] 52)):=by
 have hz:=hb3.size;have hzV:((W.alloc (.cells (madeCells #[.int .i64 0] nv) 3)).drew).heap.size=W.heap.size+1:=by first | rfl | (show(World.alloc _ _).heap.size=_;simp)
 have hz2:=hb2.size;rw[hzV]at hg2 hz2;have hbl:=hr2.lt;have n1:=n1 hz2;have n2:=n2 hz2;have n3:=n3 hz2;have rows:∀ x,(x=W.heap.size\/x=w2.heap.size\/x=w2.heap.size+1)->(((w2.alloc (.cells (madeCells #[.int .i64 0] nv) 3)).alloc (.cells (madeCells #[.int .i64 0] nv) 3)).alloc (.cells #[.slice a nl c,.int .i64 fn,.string ByteArray.empty,.int .i64 0,.int .i64 0,.bool false,.int .i64 0,.slice none 0 0,.slice none 0 0,.slice none 0 0,.slice none 0 0,.int .i64 0,.slice (some ⟨bb,0,none⟩) nv nv,.slice (some ⟨hb,0,none⟩) nv nv,.slice (some ⟨fb,0,none⟩) nv nv,.slice (some ⟨tb,0,none⟩) nv nv,.slice none 0 0] 52)).heap[x]? = some (.cells (madeCells #[.int .i64 0] nv) 3):=fun x hx=>by
  rcases hx with rfl | rfl | rfl
  ·exact al_old _ _ (by first | omega | (simp;done) | (simp;omega)) (al_old _ _ (by first | omega | (simp;done) | (simp;omega)) (al_old _ _ (by first | omega | (simp;done) | (simp;omega)) ((hb2.block _ (by rw[hzV];omega)).trans (al_drew _ (al_new _ _ (by simp))))))
  ·exact al_old _ _ (by first | omega | (simp;done) | (simp;omega)) (al_old _ _ (by first | omega | (simp;done) | (simp;omega)) (al_new _ _ (by simp)))
  ·exact al_old _ _ (by first | omega | (simp;done) | (simp;omega)) (al_new _ _ (by simp))
 exact l8w_mk (w2:=w2) (cb:=w2.heap.size+1+1) ((((hb3).alloc (by first | omega | (simp;done) | (simp;omega)) _).alloc (by first | omega | (simp;done) | (simp;omega)) _).alloc (by first | omega | (simp;done) | (simp;omega)) _) (al_new _ _ (by simp)) hr2 (al_old _ _ (by first | omega | (simp;done) | (simp;omega)) (al_old _ _ (by first | omega | (simp;done) | (simp;omega)) (al_old _ _ (by first | omega | (simp;done) | (simp;omega)) (rfl)))) (rows _ h1) (rows _ h2) (rows _ h3) (by omega) (by omega) (by omega) (by omega) (by omega) n1 n2 n3
theorem leaf2 {W w2:World}{a:Option Addr}{nl c:Nat}{fn:Int}{nv:Nat}{cap:Nat->Bool}{bb hb fb tb:Nat}(hr2:w2.rowIs bb 4 nv (fun j=>.bool (cap j)))(hg2:(((W.alloc (.cells (madeCells #[.int .i64 0] nv) 3)).alloc (.cells (madeCells #[.int .i64 0] nv) 3)).drew).heap.size<=bb)(hb2:Below (((W.alloc (.cells (madeCells #[.int .i64 0] nv) 3)).alloc (.cells (madeCells #[.int .i64 0] nv) 3)).drew).heap.size ((W.alloc (.cells (madeCells #[.int .i64 0] nv) 3)).alloc (.cells (madeCells #[.int .i64 0] nv) 3)).drew w2)(hb3:Below W.heap.size W w2)
  (h1:hb=W.heap.size\/hb=W.heap.size+1\/hb=w2.heap.size)(h2:fb=W.heap.size\/fb=W.heap.size+1\/fb=w2.heap.size)(h3:tb=W.heap.size\/tb=W.heap.size+1\/tb=w2.heap.size)(n1:W.heap.size+1+1<=w2.heap.size->hb≠fb)(n2:W.heap.size+1+1<=w2.heap.size->hb≠tb)(n3:W.heap.size+1+1<=w2.heap.size->fb≠tb) :
  ∃ cb' xb xh xf xt,Value.pointer (some ⟨w2.heap.size+1,0,none⟩)=.pointer (some ⟨cb',0,none⟩)/\L8W W a nl c fn nv cap cb' xb xh xf xt ((w2.alloc (.cells (madeCells #[.int .i64 0] nv) 3)).alloc (.cells #[.slice a nl c,.int .i64 fn,.string ByteArray.empty,.int .i64 0,.int .i64 0,.bool false,.int .i64 0,.slice none 0 0,.slice none 0 0,.slice none 0 0,.slice none 0 0,.int .i64 0,.slice (some ⟨bb,0,none⟩) nv nv,.slice (some ⟨hb,0,none⟩) nv nv,.slice (some ⟨fb,0,none⟩) nv nv,.slice (some ⟨tb,0,none⟩) nv nv,.slice none 0 0] 52)):=by
 have hz:=hb3.size;have hzV:(((W.alloc (.cells (madeCells #[.int .i64 0] nv) 3)).alloc (.cells (madeCells #[.int .i64 0] nv) 3)).drew).heap.size=W.heap.size+1+1:=by first | rfl | (show(World.alloc _ _).heap.size=_;simp)
 have hz2:=hb2.size;rw[hzV]at hg2 hz2;have hbl:=hr2.lt;have n1:=n1 hz2;have n2:=n2 hz2;have n3:=n3 hz2;have rows:∀ x,(x=W.heap.size\/x=W.heap.size+1\/x=w2.heap.size)->((w2.alloc (.cells (madeCells #[.int .i64 0] nv) 3)).alloc (.cells #[.slice a nl c,.int .i64 fn,.string ByteArray.empty,.int .i64 0,.int .i64 0,.bool false,.int .i64 0,.slice none 0 0,.slice none 0 0,.slice none 0 0,.slice none 0 0,.int .i64 0,.slice (some ⟨bb,0,none⟩) nv nv,.slice (some ⟨hb,0,none⟩) nv nv,.slice (some ⟨fb,0,none⟩) nv nv,.slice (some ⟨tb,0,none⟩) nv nv,.slice none 0 0] 52)).heap[x]? = some (.cells (madeCells #[.int .i64 0] nv) 3):=fun x hx=>by
  rcases hx with rfl | rfl | rfl
  ·exact al_old _ _ (by first | omega | (simp;done) | (simp;omega)) (al_old _ _ (by first | omega | (simp;done) | (simp;omega)) ((hb2.block _ (by rw[hzV];omega)).trans (al_drew _ (al_old _ _ (by first | omega | (simp;done) | (simp;omega)) (al_new _ _ (by simp))))))
  ·exact al_old _ _ (by first | omega | (simp;done) | (simp;omega)) (al_old _ _ (by first | omega | (simp;done) | (simp;omega)) ((hb2.block _ (by rw[hzV];omega)).trans (al_drew _ (al_new _ _ (by simp)))))
  ·exact al_old _ _ (by first | omega | (simp;done) | (simp;omega)) (al_new _ _ (by simp))
 exact l8w_mk (w2:=w2) (cb:=w2.heap.size+1) (((hb3).alloc (by first | omega | (simp;done) | (simp;omega)) _).alloc (by first | omega | (simp;done) | (simp;omega)) _) (al_new _ _ (by simp)) hr2 (al_old _ _ (by first | omega | (simp;done) | (simp;omega)) (al_old _ _ (by first | omega | (simp;done) | (simp;omega)) (rfl))) (rows _ h1) (rows _ h2) (rows _ h3) (by omega) (by omega) (by omega) (by omega) (by omega) n1 n2 n3
theorem leaf3 {W w2:World}{a:Option Addr}{nl c:Nat}{fn:Int}{nv:Nat}{cap:Nat->Bool}{bb hb fb tb:Nat}(hr2:w2.rowIs bb 4 nv (fun j=>.bool (cap j)))(hg2:((((W.alloc (.cells (madeCells #[.int .i64 0] nv) 3)).alloc (.cells (madeCells #[.int .i64 0] nv) 3)).alloc (.cells (madeCells #[.int .i64 0] nv) 3)).drew).heap.size<=bb)(hb2:Below ((((W.alloc (.cells (madeCells #[.int .i64 0] nv) 3)).alloc (.cells (madeCells #[.int .i64 0] nv) 3)).alloc (.cells (madeCells #[.int .i64 0] nv) 3)).drew).heap.size (((W.alloc (.cells (madeCells #[.int .i64 0] nv) 3)).alloc (.cells (madeCells #[.int .i64 0] nv) 3)).alloc (.cells (madeCells #[.int .i64 0] nv) 3)).drew w2)(hb3:Below W.heap.size W w2)
  (h1:hb=W.heap.size\/hb=W.heap.size+1\/hb=W.heap.size+1+1)(h2:fb=W.heap.size\/fb=W.heap.size+1\/fb=W.heap.size+1+1)(h3:tb=W.heap.size\/tb=W.heap.size+1\/tb=W.heap.size+1+1)(n1:W.heap.size+1+1+1<=w2.heap.size->hb≠fb)(n2:W.heap.size+1+1+1<=w2.heap.size->hb≠tb)(n3:W.heap.size+1+1+1<=w2.heap.size->fb≠tb) :
  ∃ cb' xb xh xf xt,Value.pointer (some ⟨w2.heap.size,0,none⟩)=.pointer (some ⟨cb',0,none⟩)/\L8W W a nl c fn nv cap cb' xb xh xf xt (w2.alloc (.cells #[.slice a nl c,.int .i64 fn,.string ByteArray.empty,.int .i64 0,.int .i64 0,.bool false,.int .i64 0,.slice none 0 0,.slice none 0 0,.slice none 0 0,.slice none 0 0,.int .i64 0,.slice (some ⟨bb,0,none⟩) nv nv,.slice (some ⟨hb,0,none⟩) nv nv,.slice (some ⟨fb,0,none⟩) nv nv,.slice (some ⟨tb,0,none⟩) nv nv,.slice none 0 0] 52)):=by
 have hz:=hb3.size;have hzV:((((W.alloc (.cells (madeCells #[.int .i64 0] nv) 3)).alloc (.cells (madeCells #[.int .i64 0] nv) 3)).alloc (.cells (madeCells #[.int .i64 0] nv) 3)).drew).heap.size=W.heap.size+1+1+1:=by first | rfl | (show(World.alloc _ _).heap.size=_;simp)
 have hz2:=hb2.size;rw[hzV]at hg2 hz2;have hbl:=hr2.lt;have n1:=n1 hz2;have n2:=n2 hz2;have n3:=n3 hz2;have rows:∀ x,(x=W.heap.size\/x=W.heap.size+1\/x=W.heap.size+1+1)->(w2.alloc (.cells #[.slice a nl c,.int .i64 fn,.string ByteArray.empty,.int .i64 0,.int .i64 0,.bool false,.int .i64 0,.slice none 0 0,.slice none 0 0,.slice none 0 0,.slice none 0 0,.int .i64 0,.slice (some ⟨bb,0,none⟩) nv nv,.slice (some ⟨hb,0,none⟩) nv nv,.slice (some ⟨fb,0,none⟩) nv nv,.slice (some ⟨tb,0,none⟩) nv nv,.slice none 0 0] 52)).heap[x]? = some (.cells (madeCells #[.int .i64 0] nv) 3):=fun x hx=>by
  rcases hx with rfl | rfl | rfl
  ·exact al_old _ _ (by first | omega | (simp;done) | (simp;omega)) ((hb2.block _ (by rw[hzV];omega)).trans (al_drew _ (al_old _ _ (by first | omega | (simp;done) | (simp;omega)) (al_old _ _ (by first | omega | (simp;done) | (simp;omega)) (al_new _ _ (by simp))))))
  ·exact al_old _ _ (by first | omega | (simp;done) | (simp;omega)) ((hb2.block _ (by rw[hzV];omega)).trans (al_drew _ (al_old _ _ (by first | omega | (simp;done) | (simp;omega)) (al_new _ _ (by simp)))))
  ·exact al_old _ _ (by first | omega | (simp;done) | (simp;omega)) ((hb2.block _ (by rw[hzV];omega)).trans (al_drew _ (al_new _ _ (by simp))))
 exact l8w_mk (w2:=w2) (cb:=w2.heap.size) ((hb3).alloc (by first | omega | (simp;done) | (simp;omega)) _) (al_new _ _ (by simp)) hr2 (al_old _ _ (by first | omega | (simp;done) | (simp;omega)) (rfl)) (rows _ h1) (rows _ h2) (rows _ h3) (by omega) (by omega) (by omega) (by omega) (by omega) n1 n2 n3
structure BxA (cb q:Nat)(fc:Nat->Value)(t sz B:Nat)(W0:World)(v:Value)(n:Nat)(wr:World):Prop where
 box:wr.rowIs cb 52 17 (fun j=>if j=q then v else fc j)
 own:∃ g,OwnF wr B t sz v n g
 fr:Fr (fun b=>b=cb) (fun b=>b=cb\/v.ownBlock=some b) W0 wr
 hB:cb<B
section
variable {cb q t sz B n g cap:Nat} {fc:Nat->Value} {W0 wr V w3:World} {v:Value}
theorem BxA.below (h:BxA cb q fc t sz B W0 v n wr)(b:Below wr.heap.size wr V):BxA cb q fc t sz B W0 v n V:=by
 obtain⟨g,ho⟩:=h.own;exact⟨h.box.of_block (b.block _ h.box.lt),⟨g,ho.same fun k e=>b.block k (ho.lt k e).2⟩,h.fr.trans (.of_below b),h.hB⟩
theorem BxA.far (h:BxA cb q fc t sz B W0 v n wr):v.ownBlock≠some cb:=fun e=>by
 obtain⟨g,ho⟩:=h.own;have:=(ho.lt cb e).1;have:=h.hB;omega
theorem BxA.cells (h:BxA cb q fc t sz B W0 v n wr)(hq:q<17)(hg:wr.grownBy w3 v.ownBlock):w3.cell? ⟨cb,q,none⟩=some v/\w3.frozen? ⟨cb,q,none⟩=false/\cb<w3.heap.size:=by
 have hb:=h.box.of_block (hg.block cb h.box.lt (fun e=>h.far e.symm));have c:=hb.cell (i:=q) hq;rw[if_pos rfl]at c;exact⟨c,hb.frozen q,hb.lt⟩
theorem BxA.grow (h:BxA cb q fc t sz B W0 v n wr)(hg:wr.grownBy w3 v.ownBlock)(hat:v.ownBlock=some g\/wr.heap.size<=g){f':Nat->Value}(ho:OwnF w3 B t sz (.slice (some ⟨g,0,none⟩) (n+1) cap) (n+1) f') :
  BxA cb q fc t sz B W0 (.slice (some ⟨g,0,none⟩) (n+1) cap) (n+1) (w3.setCell ⟨cb,q,none⟩ (.slice (some ⟨g,0,none⟩) (n+1) cap)) where
 box:=((h.box.of_block (hg.block cb h.box.lt (fun e=>h.far e.symm))).set q _).congr fun j hj=>by by_cases e:j=q<;>simp[e]
 own:=⟨f',ho.same fun k e=>Below.heap_setCell _ _ _ _ (fun e2=>by have:=(ho.lt k e).1;have:=h.hB;simp at e2;omega)⟩
 fr:=by
  have f1:=(h.fr.grown hg (fun k e=>.inr e) hat).set (a:=⟨cb,q,none⟩) (.inl (.inl rfl)) (.slice (some ⟨g,0,none⟩) (n+1) cap);exact⟨f1.os,f1.tape,f1.output,f1.size,f1.block,fun b hb=>f1.new b (hb.elim (fun e=>.inl (.inl e)) (fun e=>.inr (by simp[Value.ownBlock]at e;exact e.symm)))⟩
 hB:=h.hB
end
def CX0 (cb hb fb tb:Nat):CX:={ O:=fun b=>b=cb\/b=hb\/b=fb\/b=tb,top:=0,rg:=0,n:=0,iv:=.slice none 0 0,is:=fun _=>.bool false,nk:=0,kv:=.slice none 0 0,ks:=fun _=>⟨0,0,0,ByteArray.empty,0⟩,ms:=[],mv:=.slice none 0 0,J:=fun _=>.slice none 0 0,L:=fun _=>[],home:=fun _=>0,fr:=fun _=>0,tt:=fun _=>0 }
theorem cc_start {F:CF}{wr:World}(old:Below F.w0.heap.size F.w0 wr)(ok:CFOk F)(b1:F.B1<=wr.heap.size)(box:wr.rowIs F.cb 52 17 (ccV F (CX0 F.cb F.hb F.fb F.tb)))(bx:wr.rowIs F.bb 4 F.nv (fun j=>.bool (F.bx j)))(hm:wr.rowIs F.hb 3 F.nv (fun _=>.int .i64 0))(fr:wr.rowIs F.fb 3 F.nv (fun _=>.int .i64 0))(tt:wr.rowIs F.tb 3 F.nv (fun _=>.int .i64 0)):CC F (CX0 F.cb F.hb F.fb F.tb) wr where
 old:=old
 ok:=ok
 b1:=b1
 box:=box
 bx:=bx
 hm:=hm
 fr:=fr
 tt:=tt
 ins:=.nil
 con:=.nil
 mks:=.nil
 jls i hi:=absurd hi (Nat.not_lt_zero _)
 apart i _ hi:=absurd hi (Nat.not_lt_zero _)
 inL i hi:=absurd hi (Nat.not_lt_zero _)
 own b hb:=by
  rcases hb with e | e | e | e | e | e | e | ⟨_,h,_⟩
  ·exact .inl e
  ·exact .inr (.inl e)
  ·exact .inr (.inr (.inl e))
  ·exact .inr (.inr (.inr e))
  ·cases e
  ·cases e
  ·cases e
  ·exact absurd h (Nat.not_lt_zero _)
 low b hb:=by
  have h1:=ok.cb;have h2:=ok.hb;have h3:=ok.fb;have h4:=ok.tb;rcases hb with e | e | e | e<;>omega
theorem CC.hcongr {F:CF}{X:CX}{w:World}(h:CC F X w){h':Nat->Int}(e:∀ v,v<F.nv->X.home v=h' v):CC F { X with home:=h' } w:={ h with hm:=h.hm.congr fun v hv=>by rw[e v hv] }
theorem MOrd.nil {t:Int}:MOrd [] t:=⟨fun q hq=>absurd hq (Nat.not_lt_zero _),fun q q' _ hq=>absurd hq (Nat.not_lt_zero _)⟩
theorem info_named:(Tryz.prog.info? 76).map (fun i=>(i.zero,i.size,i.bytes))=some (some (.agg #[.string ByteArray.empty,.int .i64 0,.int .i64 0,.int .i64 0]),4,40):=by kernel_rfl
theorem row_made {w:World}{b nv:Nat}(h:w.heap[b]? = some (.cells (madeCells #[.int .i64 0] nv) 3)):w.rowIs b 3 nv (fun _=>.int .i64 0):=by
 have q:=World.rowIs_made w (.int .i64 0) nv 3;obtain⟨cs,hc,hn,hi⟩:=q;have e:=Go.Deep.blk_alloc_new w (.cells (madeCells #[.int .i64 0] nv) 3);rw[e]at hc;injection hc with hc;injection hc with hc;exact⟨cs,by rw[h,hc],hn,hi⟩
def l8F (a:Option Addr)(nl c:Nat)(fn:Int)(nv bb hb fb tb:Nat)(nm:ByteArray)(ln pr:Int)(rs:Bool)(j:Nat):Value:=
 if j=0 then .slice a nl c else if j=1 then .int .i64 fn else if j=2 then .string nm else if j=3 then .int .i64 ln else if j=4 then .int .i64 pr else if j=5 then .bool rs else if j=6 then .int .i64 0 else if j=11 then .int .i64 0
 else if j=12 then .slice (some ⟨bb,0,none⟩) nv nv else if j=13 then .slice (some ⟨hb,0,none⟩) nv nv else if j=14 then .slice (some ⟨fb,0,none⟩) nv nv else if j=15 then .slice (some ⟨tb,0,none⟩) nv nv else .slice none 0 0
theorem lt17 {j:Nat}(h:j<17):j=0\/j=1\/j=2\/j=3\/j=4\/j=5\/j=6\/j=7\/j=8\/j=9\/j=10\/j=11\/j=12\/j=13\/j=14\/j=15\/j=16:=by omega
theorem L8W.row {W:World}{a:Option Addr}{nl c:Nat}{fn:Int}{nv:Nat}{cap:Nat->Bool}{cb bb hb fb tb:Nat}{wc:World}(h:L8W W a nl c fn nv cap cb bb hb fb tb wc):wc.rowIs cb 52 17 (l8F a nl c fn nv bb hb fb tb ByteArray.empty 0 0 false):=
 ⟨_,h.box,rfl,fun j hj=>by rcases lt17 hj with rfl | rfl | rfl | rfl | rfl | rfl | rfl | rfl | rfl | rfl | rfl | rfl | rfl | rfl | rfl | rfl | rfl<;>rfl⟩
theorem proto_row {w:World}{a:Option Addr}{nl c:Nat}{fn:Int}{nv cb bb hb fb tb:Nat}(nm:ByteArray)(ln pr:Int)(rs:Bool)(h:w.rowIs cb 52 17 (l8F a nl c fn nv bb hb fb tb ByteArray.empty 0 0 false)) :
  (((((((((w.setCell ⟨cb,2,none⟩ (.string nm)).setCell ⟨cb,3,none⟩ (.int .i64 ln)).setCell ⟨cb,4,none⟩ (.int .i64 pr)).setCell ⟨cb,5,none⟩ (.bool rs)).setCell ⟨cb,6,none⟩ (.int .i64 0)).setCell ⟨cb,7,none⟩ (.slice none 0 0)).setCell ⟨cb,8,none⟩ (.slice none 0 0)).setCell ⟨cb,9,none⟩ (.slice none 0 0)).setCell ⟨cb,10,none⟩ (.slice none 0 0)).rowIs cb 52 17 (l8F a nl c fn nv bb hb fb tb nm ln pr rs):=
 (((((((((h.set 2 _).set 3 _).set 4 _).set 5 _).set 6 _).set 7 _).set 8 _).set 9 _).set 10 _).congr fun j hj=>by rcases lt17 hj with rfl | rfl | rfl | rfl | rfl | rfl | rfl | rfl | rfl | rfl | rfl | rfl | rfl | rfl | rfl | rfl | rfl<;>rfl
theorem Fr.sets {O:Nat->Prop}{w w':World}{cb:Nat}(h:Fr O O w w')(hO:O cb)(nm:ByteArray)(ln pr:Int)(rs:Bool) :
  Fr O O w (((((((((w'.setCell ⟨cb,2,none⟩ (.string nm)).setCell ⟨cb,3,none⟩ (.int .i64 ln)).setCell ⟨cb,4,none⟩ (.int .i64 pr)).setCell ⟨cb,5,none⟩ (.bool rs)).setCell ⟨cb,6,none⟩ (.int .i64 0)).setCell ⟨cb,7,none⟩ (.slice none 0 0)).setCell ⟨cb,8,none⟩ (.slice none 0 0)).setCell ⟨cb,9,none⟩ (.slice none 0 0)).setCell ⟨cb,10,none⟩ (.slice none 0 0)):=
 ((((((((h.set hO _).set hO _).set hO _).set hO _).set hO _).set hO _).set hO _).set hO _).set hO _
end Go.Proofs.YtomcjennjcpdnaaGreatDoor
