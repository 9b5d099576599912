import Derived.Test.YtcjfjflljdojlaaGreatDoorPart60
import Derived.Test.YtcjfjflljdojlaaGreatDoorPart01
import Derived.OrdersHeld
set_option linter.unusedSimpArgs false
set_option linter.unusedVariables false
set_option maxHeartbeats 8000000
set_option maxRecDepth 100000
namespace Go.Proofs.YtcjfjflljdojlaaGreatDoor
open Go.RowKit Go.Shelf
attribute [local go_sem] Oper.semAt_some
theorem ww (w:World)(v:Value)(t:TypeId):(w.alloc (.cells #[v] t)).rowIs w.heap.size t 1 (fun _=>v):=⟨_,Go.Deep.blk_alloc_new _ _,rfl,fun i hi=>by rw[show i=0 by omega];rfl⟩
def Qc (x:ak)(w:World)(e:Ending)(w':World):Prop:=∃ K,sd x K/\e=.returned (.slice (some (a_ w.heap.size 0)) x.ins.length x.ins.length)/\w'.rowIs w.heap.size 4 x.ins.length (nV K)/\b_ w w'
theorem vD (x:ak)(g c:Nat)(w:World)(hp:Hh x)(hG:gh w)(hr:eC aW 5 w g x.ins.length (aY x)) :
  c_ 34 #[.slice (some (a_ g 0)) x.ins.length c] w (Qc x w):=by
 have hN:=hp.fit.few;have Iy:=hp.fit.some_;have fm:=hr.lt;have El:=hG.pos;have HP:=af hp;have HR:Hid (∀ W,b_ w W->gh W/\eC aW 5 W g x.ins.length (aY x)):=fun W hW=>⟨hG.keep hW hG.pos,hr.keep hW⟩;have kH:=run_make_row' (P:=Tryz.prog) 68 4 (.bool false) 1 Tryz.underlying68 oa rfl .i64 .i64 x.ins.length (by omega) (by omega);have Uh:(madeCells #[.bool false] x.ins.length)[0]? = some (Value.bool false):=by simp[madeCells,Iy]
 clear hp hG hr;refine(callsIn_wide (n:=9)).1 ?_;refine callsIn_of_wp_marks Tryz.func34 rfl trivial ?_ rfl;simp only[Tryz.ntmps34,List.size_toArray,List.length_cons,List.length_nil,Nat.reduceAdd,Nat.reduceSub,Array.replicate_succ,Array.replicate_zero,List.push_toArray,List.append_toArray,List.nil_append,List.cons_append];have kF:Hid (qG w x.ins.length (iL (fun _=>false) 0) [] (.slice none 0 0) [] w.heap.size (((w.alloc (.cells ((madeCells #[.bool false] x.ins.length).setIfInBounds 0 (.bool true)) 4)).alloc (.cells #[.slice (some (a_ w.heap.size 0)) x.ins.length x.ins.length] 68)).alloc (.cells #[.slice none 0 0] 131))):=by
  have e:(w.alloc (.cells (madeCells #[.bool false] x.ins.length) 4)).setCell (a_ w.heap.size 0) (.bool true)=w.alloc (.cells ((madeCells #[.bool false] x.ins.length).setIfInBounds 0 (.bool true)) 4):=World.setCell_alloc_new _ _ _ _;have h1:=((World.rowIs_made w (.bool false) x.ins.length 4).set 0 (.bool true)).congr (g:=nV (iL (fun _=>false) 0)) (fun j _=>by unfold nV iL;split<;>rfl);rw[e]at h1;refine⟨(h1.alloc _).alloc _,?_,?_,⟨none,0,rfl,.inl ⟨rfl,rfl,rfl⟩⟩,List.nodup_nil,fun D hD=>(by cases hD),((r_.alloc n_ _).alloc (by simp) _).alloc (by simp;omega) _⟩
  ·have:=ww (w.alloc (.cells ((madeCells #[.bool false] x.ins.length).setIfInBounds 0 (.bool true)) 4)) (.slice (some (a_ w.heap.size 0)) x.ins.length x.ins.length) 68;rw[World.size_alloc]at this;exact this.alloc _
  ·have:=ww ((w.alloc (.cells ((madeCells #[.bool false] x.ins.length).setIfInBounds 0 (.bool true)) 4)).alloc (.cells #[.slice (some (a_ w.heap.size 0)) x.ins.length x.ins.length] 68)) (.slice none 0 0) 131;rw[World.size_alloc,World.size_alloc]at this;exact this
 gi_wp2_with fail
 clear kH Uh;generalize (((w.alloc (.cells ((madeCells #[.bool false] x.ins.length).setIfInBounds 0 (.bool true)) 4)).alloc (.cells #[.slice (some (a_ w.heap.size 0)) x.ins.length x.ins.length] 68)).alloc (.cells #[.slice none 0 0] 131))=w1 at *;have s1:w.heap.size+3<=w1.heap.size:=kF.out.wb.lt;refine⟨trivial,?_⟩
 gi_at_call 86
 refine(callsIn_wide.2 (AB _ (w.heap.size+3) _ [] 0 w1 kF.out.wb kF.out.qu s1 (by omega) (by decide))).mono ?_;rintro e w2 hq;obtain⟨r,rfl⟩:=hq.1;obtain⟨v2,R2,_,s2,_⟩:=kF.out.qp hq;have H2:=af R2;clear hq R2 kF
 gi_wp2_with fail
 refine sI (fun m a' W=>∃(u12 u13 u14 u15 u16 u17 u18:Value) (K:Nat->Bool) (q:List Nat) (v:Value) (Ds:List Nat) (L:Nat),a'={ tmps:=#[.slice (some (a_ g 0)) x.ins.length c,undef,.slice none 0 0,.pointer (some (a_ (w.heap.size+1) 0)),.pointer (some (a_ (w.heap.size+1+1) 0)),undef,.slice (some (a_ g 0)) x.ins.length c,i_ x.ins.length,.slice (some (a_ w.heap.size 0)) x.ins.length x.ins.length,.slice (some (a_ w.heap.size 0)) x.ins.length x.ins.length,.pointer (some (a_ w.heap.size 0)),r,u12,u13,u14,u15,u16,u17,u18,undef,undef,undef,undef,undef,undef,undef,undef,undef,undef,undef,undef],defers:=Ds.map mkD }/\Qq x K q/\m=jv K x.ins.length+q.length/\m<=x.ins.length/\qG w x.ins.length K q v Ds L W/\L<=W.heap.size) x.ins.length ?start ?round
 case start=>
  have hc:=pI (K:=fun _=>false) (y:=0) rfl x.ins.length Iy;have bN:∀ n,jv (fun _=>false) n=n:=fun n=>by
   induction n with
   | zero=>rfl
   | succ n ih=>unfold jv;rw[ih];rfl
  rw[bN]at hc;refine⟨_,_,_,_,_,_,_,_,[0],v2,[],w.heap.size,rfl,⟨if_pos rfl,fun i hi hK=>?_,fun i hi=>?_,fun i hi hK=>.inl ?_⟩,by simp;omega,n_,H2.out,by omega⟩
  ·unfold iL at hK;split at hK
   ·next e=>rw[e];exact .zero
   ·cases hK
  ·rw[List.mem_singleton.1 hi];exact⟨Iy,if_pos rfl⟩
  ·unfold iL at hK;split at hK
   ·next e=>exact List.mem_singleton.2 e
   ·cases hK
 case round=>
  clear H2 s2 s1;rintro m a' W ⟨u12,u13,u14,u15,u16,u17,u18,K,q,v,Ds,L,rfl,hI,hm,hmn,hW,hL⟩;have Qa:=hW.wb.cell (i:=0) (by omega);have hwl:=hW.wb.lt;obtain⟨va,vc,hv,_⟩:=hW.qu;rw[hv]at Qa;cases q with
  | nil=>
   have KC:Hid (sd x K):=hI.fin HP.out.fit;have BP:=hW.rb.cell (i:=0) (by omega);have wi:=hW.rb.lt;have HW:=af hW;clear hI hm hmn hW
   gi_wp2_with fail
   exact sk (fun W h1 h2=>⟨_,results_tmp rfl _ _ _,K,KC.out,rfl,h1,h2⟩) Ds W HW.out.nd (fun D hD=>⟨(HW.out.mrk D hD).1,(HW.out.mrk D hD).2.2⟩) HW.out.row HW.out.old
  | cons i q=>
   have fw:q.length<=6000:=by rw[List.length_cons]at hm;omega
   have ax:i<x.ins.length:=(hI.qlt i (List.mem_cons_self ..)).1;have TK:=af (He (w.heap.size+1+1) (w.heap.size+3) v i q W hW.wb hW.qu (by omega) (by omega));have HJ:=af hI.j;have HW:=af hW;rw[List.length_cons]at Qa hm;clear hI hW
   gi_wp2_with fail
   refine⟨trivial,?_⟩
   gi_at_call 88
   refine(callsIn_wide.2 (aa TK)).mono ?_;rintro e w3 ⟨rfl,v3,he3,KE,K3,Vx⟩;have R3:=HW.out.tk he3 KE K3;have Iv:W.heap.size<=w3.heap.size:=by rw[he3];simp
   have O3:∀ k,v3.ownBlock=some k->k<w3.heap.size:=fun k e=>by
    obtain⟨_,_,_,_,h⟩:=R3.qu.lt k e;exact(Array.getElem?_eq_some_iff.1 h).1
   have H3:=af R3;clear he3 KE K3 Vx R3 TK HW Qa hwl
   gi_wp2_with fail
   refine⟨trivial,?_⟩
   gi_at_call 87
   refine(callsIn_wide.2 (vB g x.ins.length c i w3)).mono ?_;rintro e w4 ⟨rfl,VB⟩;have lx:b_ w3 w4:=by rw[VB];exact(r_.alloc n_ _).alloc (by simp) _
   have Yx:w3.heap.size+2<=w4.heap.size:=by rw[VB];simp
   have R4:=H3.out.below lx;have FO:Hid (LM x i g c w.heap.size w3.heap.size (w3.heap.size+1) w4):=⟨by rw[VB];simp[go_sem],by rw[VB];simp[go_sem],(HR.out w4 R4.old).2,(HR.out w4 R4.old).1,fm,El⟩;have H4:=af (R4.mono (show L<=w4.heap.size by omega));have hsw:w.heap.size+3<=w3.heap.size:=H3.out.wb.lt;clear VB lx R4 H3
   gi_wp2_with fail
   refine wpIn_rangeFunc_ownG (w:=w4) rfl (by decide) (gf:=129) (lb:=#[.pointer (some (a_ w3.heap.size 0)),.pointer (some (a_ (w3.heap.size+1) 0))]) rfl trivial (enters_of Tryz.func129 (by kernel_rfl) rfl)
    (sG x i g c w.heap.size w3.heap.size (w3.heap.size+1) _ w4 HP.out ax FO.out) (fun h k=>⟨Nat.le_trans h.1 k.1,fun b hb=>(k.2 b hb).trans (h.2 b hb)⟩) (fun V l o o' hl _ _ _=>⟨by simp,fun b hb=>World.putObj_heap_other (by omega)⟩) r_ (fun _=>rfl)
    (fun(pre:List (LE x i)) W'=>∃ K' q' v',qG w x.ins.length K' q' v' Ds w4.heap.size W'/\LI x i (jv K x.ins.length+q.length) K' q' (pre.map (fun t:LE x i=>t.1))/\w4.heap.size<=W'.heap.size/\∀ k,v'.ownBlock=some k->k≠w3.heap.size/\k≠w3.heap.size+1)
    (fun _ _ _=>False) (fun s A B row ⟨K',q',v',h1,h2,h4,h3⟩ hg hr=>⟨K',q',v',h1.kept hg hr (by omega),h2,Nat.le_trans h4 hg.size,h3⟩) (fun _ _ _ _ _ hs _ _=>hs)
    ⟨K,q,v3,H4.out,HJ.out,n_,fun k e=>by have:=O3 k e;omega⟩
    (fun t=>{ tmps:=#[.slice (some (a_ g 0)) x.ins.length c,undef,.slice none 0 0,.pointer (some (a_ (w.heap.size+1) 0)),.pointer (some (a_ (w.heap.size+1+1) 0)),i_ (t.1:Int),.slice (some (a_ g 0)) x.ins.length c,i_ x.ins.length,.slice (some (a_ w.heap.size 0)) x.ins.length x.ins.length,.slice (some (a_ w.heap.size 0)) x.ins.length x.ins.length,.pointer (some (a_ w.heap.size 0)),r,.pointer (some (a_ (w.heap.size+1+1) 0)),.slice va (q.length+1) vc,i_ ((q.length:Int)+1),.bool true,.slice (some (a_ g 0)) x.ins.length c,i_ (i:Int),.func (.func 129) #[] #[.pointer (some (a_ w3.heap.size 0)),.pointer (some (a_ (w3.heap.size+1) 0))],i_ (t.1:Int),undef,undef,undef,undef,undef,undef,undef,undef,undef,undef,undef],defers:=[] }) ?assign ?body ?done ?stop
   case assign=>
    intro l t V K hK
    gi_wp2_with fail
    exact hK
   case stop=>
    rintro D c' pre V _ _ h _;exact h.elim
   case done=>
    rintro D xs V hD hxs ⟨K',q',v',h1,h2,_,h3⟩ hK;have hDl:D<V.heap.size:=(Array.getElem?_eq_some_iff.1 hK).1;have eM:Hid (Qq x K' q'/\jv K' x.ins.length+q'.length<m/\jv K' x.ins.length+q'.length<=x.ins.length/\qG w x.ins.length K' q' v' (D::Ds) (D+1) V/\D+1<=V.heap.size):=by
     have:=h2.cnt;exact⟨h2.out hxs,by omega,by omega,h1.mark hD (Nat.lt_succ_self _) (by omega) hK,hDl⟩
    clear h1 h2 h3 hK HJ O3 FO H4
    gi_wp2_with fail
    exact⟨_,eM.out.2.1,_,_,_,_,_,_,_,K',q',v',D::Ds,D+1,rfl,eM.out.1,rfl,eM.out.2.2.1,eM.out.2.2.2.1,eM.out.2.2.2.2⟩
   case body=>
    rintro l pre ⟨t,ht⟩ V ⟨K',q',v',h1,h2,h4,h3⟩ aP;have El:t<x.ins.length:=tf HP.out.fit ax ht;have htI:(t:Int)<x.ins.length:=by omega
    have BP:=h1.rb.cell (i:=0) (by omega);have wi:=h1.rb.lt;have Yg:V.cell? (a_ w.heap.size t)=some (.bool (K' t)):=h1.row.cell El;have hzr:=h1.row.frozen t;have iK:=h1.row.lt;have H1:=af h1;have H2:=af h2;have H3:=af h3;clear h1 h2 h3 FO H4 HJ;cases hKt:K' t
    ·have R5:=H1.out.set t;have PU:=af (AB (w.heap.size+1+1) (w.heap.size+3) v' q' t _ R5.wb R5.qu (by simp;omega) (by omega) (by have:=H2.out.cnt;omega));have rz:=af R5;have rb5:=R5.rb.cell (i:=0) (by omega);rw[hKt]at Yg;clear R5
     gi_wp2_with fail
     refine⟨trivial,?_⟩
     gi_at_call 86
     refine(CallsIn.inRound l (callsIn_wide.2 (aa PU))).mono ?_;rintro e V2 hq;obtain⟨r2,rfl⟩:=hq.1;obtain⟨v5,R6,ho6,s6,b6⟩:=rz.out.qp hq;rw[World.size_setCell]at ho6 s6 b6;have blk:∀ k,k<V.heap.size->k≠w.heap.size->k≠w.heap.size+1+1->v'.ownBlock≠some k->V2.heap[k]? = V.heap[k]?:=fun k a b c d=>(b6 k a c d).trans (heap_setCell_other V (a_ w.heap.size t) k _ b);have eM:Hid (KeepsFrom w4.heap.size V V2/\YS w.heap.size w3.heap.size (w3.heap.size+1) V V2):=by
      refine⟨⟨s6,fun k o hk ho hc=>(blk k (Array.getElem?_eq_some_iff.1 ho).1 (by omega) (by omega) (fun e=>?_)).trans ho⟩,s6,fun b hb=>blk b (by omega) (by omega) (by omega) (fun e=>?_)⟩
      ·obtain⟨_,_,_,_,k2⟩:=H1.out.qu.lt k e;exact ki k2 ho hc rfl
      ·have a1:=(H1.out.qu.lt b e).1;have a2:=H3.out b e;omega
     have FI2:Hid (qG w x.ins.length (iL K' t) (q'++[t]) v5 Ds w4.heap.size V2/\∀ k,v5.ownBlock=some k->k≠w3.heap.size/\k≠w3.heap.size+1):=⟨R6,fun k e=>(ho6 k e).elim (H3.out k) (fun h=>by omega)⟩;clear blk b6 ho6 R6 hq PU rz rb5
     gi_wp2_with fail
     exact⟨eM.out.1,eM.out.2,_,_,_,FI2.out.1,by rw[List.map_append];exact H2.out.new HP.out.fit ht hKt,Nat.le_trans h4 s6,FI2.out.2⟩
    ·rw[hKt]at Yg
     gi_wp2_with fail
     exact⟨KeepsFrom.refl _ _,⟨n_,fun _ _=>rfl⟩,K',q',v',H1.out,by rw[List.map_append];exact H2.out.old hKt,h4,H3.out⟩
end Go.Proofs.YtcjfjflljdojlaaGreatDoor
namespace Go.Proofs.YtcjfjflljdojlaaGreatDoor
open Go.RowKit
section
variable {P:Program} {md:Region.Mode} {ops:Array Oper} {Q:Exit->Act->World->Prop} {S:World->Prop} {k:Nat}
def ju (P:Program)(md:Region.Mode)(ops:Array Oper)(Q:Exit->Act->World->Prop)(S:World->Prop)(k:Nat):Nat->Array Bool->Act->World->Prop
 | 0,ls,a,w=>Region.ready md ops ls=[]/\Q .normal a w
 | fu+1,ls,a,w=>(Region.ready md ops ls=[]->Q .normal a w)/\∀ i,i∈Region.ready md ops ls->wpOp P ops Q i (fun a' w'=>if i=k then wpAny P md ops Q fu (ls.setIfInBounds i true) a' w' else S w'/\ju P md ops Q S k fu (ls.setIfInBounds i true) a' w') a w
theorem zH:∀ fu ls a w,ju P md ops Q S k fu ls a w->wpAny P md ops Q fu ls a w
 | 0,_,_,_,h=>h
 | fu+1,ls,a,w,h=>⟨h.1,fun i hi=>wpOp_mono (fun a' w' q=>by
   split at q
   ·exact q
   ·exact zH fu _ a' w' q.2) (h.2 i hi)⟩
def wy (md:Region.Mode)(ops:Array Oper)(k i:Nat):Bool:=((ops[k]?).map (fun o=>o.after.any (fun e=>Region.binds md e&&e.on==i))).getD false
theorem Aj {i:Nat}{ls:Array Bool}(h:wy md ops k i=true)(hi:i∈Region.ready md ops ls):k ∉ Region.ready md ops ls:=fun hk=>by
 obtain⟨_,o,ho,bN⟩:=mem_ready.1 hk;unfold wy at h;rw[ho]at h;obtain⟨e,he,hb⟩:=Array.any_eq_true'.1 h;rw[Bool.and_eq_true,beq_iff_eq]at hb;have h1:=bN e he hb.1;have h0:=(mem_ready.1 hi).1;rw[hb.2]at h1;rcases Nat.lt_or_ge i ls.size with h' | h'
 ·simp[h']at h0 h1;rw[h0]at h1;cases h1
 ·simp[Array.getElem?_eq_none h']at h1
theorem Qw {i:Nat}{oi:Oper}{v:Value}(hi:ops[i]? = some oi)(hs:Region.noSelect ops=true)(hwt:wy md ops k i=true)(hQ:∀ c a w,Q (.panic c) (a.put oi.dst v) w->Q (.panic c) a w) :
  ∀(fu:Nat) (ls:Array Bool) (a:Act) (w:World),(∀ j oj,ops[j]? = some oj->j≠i->ls.getD j true=false->(∀ e∈oj.after,Region.binds md e=true->e.on≠i)->oi.apart ops oj=true)->i∈Region.ready md ops ls->YieldsIf P ops S oi v a->S w ->
   ju P md ops Q S k fu (ls.setIfInBounds i true) (a.put oi.dst v) w->ju P md ops Q S k (fu+1) ls a w:=by
 have U5:=Region.noSelect_spec hs;intro fu
 induction fu with
 | zero=>
  intro ls a w _ hr hy hS H;refine⟨fun h=>(by rw[h]at hr;cases hr),fun j hj=>?_⟩;have X5:j≠k:=fun e=>Aj hwt hr (e ▸ hj);by_cases e:j=i
  ·aj e;exact hy.wpOp hi hS (by rw[if_neg X5];exact⟨hS,H⟩)
  ·have:=ready_mono hj e;rw[H.1]at this;cases this
 | succ fu ih=>
  intro ls a w hfree hr hy hS H;refine⟨fun h=>(by rw[h]at hr;cases hr),fun j hj=>?_⟩;have X5:j≠k:=fun e=>Aj hwt hr (e ▸ hj);by_cases e:j=i
  ·aj e;exact hy.wpOp hi hS (by rw[if_neg X5];exact⟨hS,H⟩)
  ·obtain⟨hun,oj,hoj,bN⟩:=mem_ready.1 hj;have Ys:∀ e∈oj.after,Region.binds md e=true->e.on≠i:=fun e he hb eq=>by
    have h1:=bN e he hb;have h0:=(mem_ready.1 hr).1;rw[eq]at h1;rcases Nat.lt_or_ge i ls.size with h' | h'
    ·simp[h']at h0 h1;rw[h0]at h1;cases h1
    ·simp[Array.getElem?_eq_none h']at h1
   refine wpOp_mono (fun a' w' q=>?_) (wpOp_putIf hoj (hfree j oj hoj e hun Ys) (fun cs b=>U5 i oi cs b hi) (fun cs b=>U5 j oj cs b hoj) hQ hy (H.2 j (ready_mono hj e)));obtain⟨y,q⟩:=q;rw[if_neg X5]at q ⊢;refine⟨q.1,ih _ a' w' (fun n on hn kp hun' hno'=>hfree n on hn kp ?_ hno') (ready_mono hr (Ne.symm e)) y q.1 (by rw[Array.setIfInBounds_comm _ _ e];exact q.2)⟩;by_cases en:j=n
   ·aj en;exact hun
   ·rw[getD_set_ne true en]at hun';exact hun'
theorem yz {i:Nat}{oi:Oper}{fu:Nat}{ls:Array Bool}{a:Act}{w:World}(d:Option Tmp)(v:Value)(hi:ops[i]? = some oi)(hd:oi.dst=d)(hb:(Region.noSelect ops&&wy md ops k i&&Region.free md ops ls i&&(Region.ready md ops ls).contains i)=true)(hw:Region.wanted oi (yielded ops a.tmps)=true)(hQ:∀ c a w,Q (.panic c) (a.put oi.dst v) w->Q (.panic c) a w)(hS:S w)
  (hy:∀ W,S W->(execOp a.eval oi).run P W=.ok (.value v) W)(h:ju P md ops Q S k fu (ls.setIfInBounds i true) (a.put d v) w):ju P md ops Q S k (fu+1) ls a w:=by
 aj hd
 simp only[Bool.and_eq_true]at hb;exact Qw hi hb.1.1.1 hb.1.1.2 hQ fu ls a w (Region.free_spec hi hb.1.2) (by simpa using hb.2) (.inl ⟨hw,hy⟩) hS h
theorem UF {i:Nat}{fu:Nat}{ls:Array Bool}{a:Act}{w:World}(hr:Region.ready md ops ls=[i])(hik:i≠k)(h:wpOp P ops Q i (fun a' w'=>S w'/\ju P md ops Q S k fu (ls.setIfInBounds i true) a' w') a w):ju P md ops Q S k (fu+1) ls a w:=
 ⟨fun h0=>by rw[hr]at h0;(cases h0),fun j hj=>by
  rw[hr,List.mem_singleton]at hj
  aj hj
  exact wpOp_mono (fun a' w' q=>by rw[if_neg hik];exact q) h⟩
theorem yI {ι:Type}(val:ι->Value){R:ι->World->Prop}{i:Nat}{o:Oper}{fu:Nat}{ls:Array Bool}{a:Act}{w:World}{f:FuncId}{args:Array Value}(d:Option Tmp)(hi:ops[i]? = some o)(hd:o.dst=d)(hb:(Region.ready md ops ls==[i] && !(i==k))=true)(hw:Region.wanted o (yielded ops a.tmps)=true)(he:(execOp a.eval o).run P w=.ok (.enter f args) w)(hc:Calls P f args w (fun e w'=>∃ x,e=.returned (val x)/\R x w'))
  (hR:∀ x w',R x w'->S w'/\ju P md ops Q S k fu (ls.setIfInBounds i true) (a.put d (val x)) w'):ju P md ops Q S k (fu+1) ls a w:=by
 aj hd
 simp only[Bool.and_eq_true,beq_iff_eq,Bool.not_eq_true',beq_eq_false_iff_ne]at hb;refine UF hb.1 hb.2 ?_;unfold wpOp;simp only[hi,hw,Fq,Oper.wp,he,Oper.upon];refine .inl (hc.mono (fun e w' h=>?_));obtain⟨x,rfl,h2⟩:=h;exact hR x w' h2
theorem BZ {i:Nat}{o:Oper}{fu:Nat}{ls:Array Bool}{a:Act}{w w':World}{n:Next}{v:Value}(d:Option Tmp)(hi:ops[i]? = some o)(hd:o.dst=d)(hb:(Region.ready md ops ls==[i])=true)(hw:Region.wanted o (yielded ops a.tmps)=true)(he:(execOp a.eval o).run P w=.ok n w')(hn:(n=.skip/\v=undef)\/n=.value v)
  (h:wpAny P md ops Q fu (ls.setIfInBounds i true) (a.put d v) w'):wpAny P md ops Q (fu+1) ls a w:=by
 aj hd
 refine wpAny_all (beq_iff_eq.1 hb) (by simp) (fun j hj=>?_);rw[List.mem_singleton]at hj
 aj hj
 unfold wpOp;rcases hn with⟨rfl,rfl⟩ | rfl<;>simp only[hi,hw,Fq,Oper.wp,he,Oper.upon]<;>exact .inl h
theorem Ql {fu:Nat}{ls:Array Bool}{a:Act}{w:World}(hr:Region.ready md ops ls=[k])(h:wpAny P md ops Q (fu+1) ls a w):ju P md ops Q S k (fu+1) ls a w:=
 ⟨h.1,fun j hj=>wpOp_mono (fun a' w' q=>by
  have Ln:=hj;rw[hr,List.mem_singleton]at Ln;rw[if_pos Ln];exact q) (h.2 j hj)⟩
theorem AQ {id:Nat}{a:Act}{w:World}(S:World->Prop)(k:Nat)(hm:P.follows .mixedOrders=true)(h:∀ W0,W0=w.drew->ju P .any ops Q S k ops.size (Array.replicate ops.size false) a W0):(Code.region id ops true).wp P Q a w:=wp_region_any hm (zH _ _ _ _ (h _ rfl))
end
end Go.Proofs.YtcjfjflljdojlaaGreatDoor
