import Derived.Test.YtcjfjflljdojlaaGreatDoorPart59
import Derived.RangeFuncNested
import Derived.RangeFuncBound
import Derived.RangeFuncCalls
import Derived.RangeFuncLeaves
import Derived.Shelf.RegionOpen
import Derived.WalkKit
import Derived.OwnWalkIn
import Derived.TacticsInMore
import Derived.LoopNIn
import Derived.LoopIn
set_option linter.unusedSimpArgs false
set_option linter.unusedVariables false
set_option maxHeartbeats 8000000
set_option maxRecDepth 100000
namespace Go.Proofs.YtcjfjflljdojlaaGreatDoor
open Go.RowKit Go.Shelf
attribute [local go_sem] Oper.semAt_some
theorem Fu (n:aA)(i:Nat):eu n i=(if de n=true then[i+1]else[])++(match cE n with | some t=>[t.toNat] | none=>[]):=by
 unfold eu cE
 congr 1
 split
 ·rfl
 ·split
  ·next h=>rw[if_pos ((eR _).1 h)]
  ·next h=>rw[if_neg (fun k=>h ((eR _).2 k))]
theorem vB (g n c i:Nat)(w:World) :
  c_ 87 #[.slice (some (a_ g 0)) n c,i_ (i:Int)] w fun e w'=>e=.returned (.func (.func 129) #[] #[.pointer (some (a_ w.heap.size 0)),.pointer (some (a_ (w.heap.size+1) 0))])/\w'=(w.alloc (.cells #[.slice (some (a_ g 0)) n c] 40)).alloc (.cells #[i_ (i:Int)] 3):=by
 go_enter Tryz.func87,Tryz.ntmps87;go_wp2_with fail
 go_ret;exact⟨rfl,rfl⟩
abbrev LE (x:ak) (i:Nat):={ t:Nat // t∈eu (aY x i) i }
def YS (base b1 b2:Nat)(W W':World):Prop:=W.heap.size<=W'.heap.size/\∀ b,b<base\/b=b1\/b=b2->W'.heap[b]? = W.heap[b]?
structure LM (x:ak)(i g c base b1 b2:Nat)(W:World):Prop where
 c1:W.cell? (a_ b1 0)=some (.slice (some (a_ g 0)) x.ins.length c)
 c2:W.cell? (a_ b2 0)=some (i_ (i:Int))
 row:eC aW 5 W g x.ins.length (aY x)
 tab:gh W
 lg:g<base
 lt:0<base
theorem LM.kept {x:ak}{i g c base b1 b2:Nat}{W W':World}(h:LM x i g c base b1 b2 W)(zd:YS base b1 b2 W W'):LM x i g c base b1 b2 W' where
 c1:=(World.cell?_of_block (a:=(a_ b1 0)) (zd.2 b1 (.inr (.inl rfl)))).trans h.c1
 c2:=(World.cell?_of_block (a:=(a_ b2 0)) (zd.2 b2 (.inr (.inr rfl)))).trans h.c2
 row:=⟨fun j hj r hr=>(World.cell?_of_block (a:=(a_ g (j * 5+r))) (zd.2 g (.inl h.lg))).trans (h.row.cell j hj r hr),fun o=>(World.frozen?_of_block (a:=(a_ g o)) (zd.2 g (.inl h.lg))).trans (h.row.soft o),l_ h.row.lt zd.1⟩
 tab:=by
  obtain⟨cs,t,fr,h1,h2⟩:=h.tab;exact⟨cs,t,fr,(zd.2 _ (.inl h.lt)).trans h1,h2⟩
 lg:=h.lg
 lt:=h.lt
theorem LM.below {x:ak}{i g c base b1 b2:Nat}{W W':World}(h:LM x i g c base b1 b2 W)(hb:b_ W W'):LM x i g c base b1 b2 W' where
 c1:=(hb.cell (p:=(a_ b1 0)) (World.block_lt_of_cell? _ _ h.c1)).trans h.c1
 c2:=(hb.cell (p:=(a_ b2 0)) (World.block_lt_of_cell? _ _ h.c2)).trans h.c2
 row:=h.row.keep hb
 tab:=h.tab.keep hb h.tab.pos
 lg:=h.lg
 lt:=h.lt
theorem sG (x:ak)(i g c base b1 b2 m:Nat)(w0:World)(hp:Hh x)(hi:i<x.ins.length)(hF:LM x i g c base b1 b2 w0) :
  SeqStopsK Fence.wide m Tryz.prog 129 #[.pointer (some (a_ b1 0)),.pointer (some (a_ b2 0))] (fun t:LE x i=>#[i_ (t.1:Int)]) (YS base b1 b2) (fun xs=>xs.map (·.1)=eu (aY x i) i) (fun _=>True) 2 w0:=by
 intro l J Jx W hW hJ hJx hY h0;have hN:=hp.fit.few;have FW:=hF.below hW;obtain⟨o,ho,Et⟩:=hp.op i hi;rw[<-show(aY x i).op=(aT x i).op from qQ x _]at ho;have hS:=Fu (aY x i) i;have JB:Hid (∀ s W W',J s W->b_ W W'->J s W'):=fun s A B hs hb=>hJ s A B none hs ⟨hb.os,hb.tape,hb.output,hb.size,fun k hk _=>hb.block k hk⟩ (fun r e=>by cases e);have HY:=af hY;have H0:=af h0;have hiI:(i:Int)<x.ins.length:=by omega
 clear hJ hJx hW hF hY h0;have TL:Hid (∀ t,cE (aY x i)=some t->0<=t/\t.toNat<x.ins.length):=fun t=>zm hp.fit hi;have M:Hid (∀ W,LM x i g c base b1 b2 W->aL W g (i * 5) (aY x i)):=fun W h=>h.row.ins hi;have HS:=af hS;clear hS hp;obtain⟨n,hn⟩:∃ n,n=aY x i:=⟨_,rfl⟩;have HN:=af hn;rw[<-hn]at ho TL M HS;clear hn;obtain⟨op,fa,fb,fc,fd⟩:=n;dsimp only at ho
 aj ho
 have MM:=M.out W FW;have c0:=MM.op;have c1:=MM.fa;have c2:=MM.fb;have c3:=MM.fc;have c4:=MM.fd;have p1:=FW.c1;have p2:=FW.c2;have fm:=FW.row.lt;have GO:Hid (c_ 116 #[.agg #[i_ o,i_ fa,i_ fb,i_ fc,i_ fd]] W fun e w'=>e=.returned (.bool (eF o))/\b_ W w'):=me o fa fb fc fd W;have FWH:=af FW;clear MM FW;have SX:Hid (eu (aY x i) i=(if de ⟨o,fa,fb,fc,fd⟩=true then[i+1]else[])++(match cE ⟨o,fa,fb,fc,fd⟩with | some t=>[t.toNat] | none=>[])):=by rw[<-HN.out];exact HS.out
 have Kv:Hid (∀ t,t∈(if de ⟨o,fa,fb,fc,fd⟩=true then[i+1]else[])++(match cE ⟨o,fa,fb,fc,fd⟩with | some t=>[t.toNat] | none=>[])->t∈eu (aY x i) i):=fun t h=>by rw[SX.out];exact h
 have TG:Hid (∀ V,LM x i g c base b1 b2 V->c_ 83 #[.agg #[i_ o,i_ fa,i_ fb,i_ fc,i_ fd]] V (oO ⟨o,fa,fb,fc,fd⟩ V)):=fun V h=>i9 o fa fb fc fd V h.tab Et;obtain⟨go,IB⟩:∃ go,go=eF (o:Int):=⟨_,rfl⟩;have HGO:Hid (de ⟨o,fa,fb,fc,fd⟩=go):=IB.symm;rw[<-IB]at GO;clear IB;have END:Hid (∀(pre:List (LE x i)) V e,pre.map (·.1)=eu (aY x i) i->J pre V->e=Ending.returned (.tuple #[])->(∃ v,e=.returned v)/\((∃ xs:List (LE x i),xs.map (·.1)=eu (aY x i) i/\J xs V)\/(∃ pre,True/\Jx pre V))):=fun pre V e h1 h2 h3=>⟨⟨_,h3⟩,.inl ⟨pre,h1,h2⟩⟩;have Yb:Hid (∀(pre:List (LE x i)) V e,Jx pre V->e=Ending.returned (.tuple #[])->(∃ v,e=.returned v)/\((∃ xs:List (LE x i),xs.map (·.1)=eu (aY x i) i/\J xs V)\/(∃ pre,True/\Jx pre V))):=fun pre V e h2 h3=>⟨⟨_,h3⟩,.inr ⟨pre,trivial,h2⟩⟩;refine callsIn_of_wp Tryz.func129 rfl trivial ?_ rfl;simp only[Tryz.ntmps129,List.size_toArray,List.length_cons,List.length_nil,Nat.reduceAdd,Nat.reduceSub,Array.replicate_succ,Array.replicate_zero,List.push_toArray,List.append_toArray,List.nil_append,List.cons_append]
 gi_wp2_with fail
 refine⟨trivial,(by intro h;cases h),?_⟩
 gi_at_call 116
 refine(callsIn_wide.2 (aa GO)).mono ?_;rintro e w1 ⟨rfl,au⟩;have F1:=(aa FWH).below au;have J1:=af (JB.out [] W w1 H0.out au);clear c0 c1 c2 c3 c4 p1 p2 GO au fm FWH H0;cases go
 case' false=>
  obtain⟨V,rfl⟩:∃ V,V=w1:=⟨_,rfl⟩;obtain⟨pre,D7⟩:∃ pre:List (LE x i),pre=[]:=⟨_,rfl⟩;rw[<-D7]at J1;have UW:Hid (pre.map (·.1)=(if de ⟨o,fa,fb,fc,fd⟩=true then[i+1]else[])/\pre.length<2):=by rw[D7,HGO.out];exact⟨rfl,Nat.succ_pos _⟩
  have FV:=F1;clear D7 F1
  gi_wp2_with fail
  refine⟨fun _ h=>(by cases h),?_⟩
 case' true=>
  have pm:i+1∈eu (aY x i) i:=Kv.out (i+1) (List.mem_append.2 (.inl (by rw[HGO.out,if_pos rfl];simp)));obtain⟨fn,tmps,assign,body,hy,hR⟩:=HY.out [] ⟨i+1,pm⟩ w1 J1.out (Nat.succ_pos _);have q2:=F1.c2
  replace hy:(Instr.yield l #[i_ ((i:Int)+1)]).run Tryz.prog w1=.ok (.round l fn tmps assign body) w1:=hy
  gi_wp2_with fail
  refine⟨(by intro h;cases h),hR.mono ?_⟩;rintro e V (⟨rfl,Tg,vm⟩ | ⟨rfl,aby⟩)
  rotate_left
  ·gi_wp2_with fail
   refine bodyPost_ret (results_none rfl _ _ _) rfl ?_;exact Yb.out _ _ _ aby rfl
  obtain⟨pre,D7⟩:∃ pre:List (LE x i),pre=[]++[⟨i+1,pm⟩]:=⟨_,rfl⟩;have J1:Hid (J pre V):=by rw[D7];exact Tg
  have UW:Hid (pre.map (·.1)=(if de ⟨o,fa,fb,fc,fd⟩=true then[i+1]else[])/\pre.length<2):=by rw[D7,HGO.out];exact⟨rfl,n_⟩
  have FV:=F1.kept vm;clear D7 F1 q2 hy hR Tg vm pm
 all_goals
  have MM:=M.out V FV;have k0:=MM.op;have k1:=MM.fa;have k2:=MM.fb;have k3:=MM.fc;have k4:=MM.fd;have q1:=FV.c1;have q2:=FV.c2;have fm:=FV.row.lt;have TV:=af (TG.out V FV);have HFV:=af FV;clear MM FV TG
  gi_wp2_with fail
  refine⟨trivial,(by intro h;cases h),?_⟩
  gi_at_call 83
  refine(callsIn_wide.2 (aa TV)).mono ?_;rintro e w3 ⟨rfl,bY⟩;have J3:=af (JB.out pre V w3 J1.out bY);clear k0 k1 k2 k3 k4 q1 q2 fm TV bY;rcases ht:cE ⟨o,fa,fb,fc,fd⟩with _ | t
  ·have HE:Hid (pre.map (·.1)=eu (aY x i) i):=by
    show _=_;rw[UW.out.1];exact(SX.out.trans (by rw[ht,List.append_nil])).symm
   dsimp only[Option.getD,Option.isSome]
   gi_wp2_with fail
   go_end0
   exact END.out _ _ _ HE.out J3.out rfl
  ·obtain⟨t0,t1⟩:=TL.out t ht;obtain⟨T,rfl⟩:=Int.eq_ofNat_of_zero_le t0;have hmT:T∈eu (aY x i) i:=Kv.out T (List.mem_append.2 (.inr (by rw[ht];exact List.mem_singleton.2 rfl)));obtain⟨fn,tmps,assign,body,hy,hR⟩:=HY.out pre ⟨T,hmT⟩ w3 J3.out UW.out.2;have HE:Hid ((pre++[(⟨T,hmT⟩:LE x i)]).map (·.1)=eu (aY x i) i):=by
    show _=_;rw[List.map_append,UW.out.1];exact(SX.out.trans (by rw[ht];rfl)).symm
   dsimp only[Option.getD,Option.isSome];dsimp only at hy;clear t0 t1 ht TL
   gi_wp2_with fail
   refine⟨(by intro h;cases h),hR.mono ?_⟩;rintro e w4 (⟨rfl,hJ4,gz⟩ | ⟨rfl,abG⟩)
   ·gi_wp2_with fail
    go_end0
    exact END.out _ _ _ HE.out hJ4 rfl
   ·gi_wp2_with fail
    go_end0
    exact Yb.out _ _ _ abG rfl
structure Qq (x:ak)(K:Nat->Bool)(q:List Nat):Prop where
 zero:K 0=true
 rea:∀ i,i<x.ins.length->K i=true->LH x i
 qlt:∀ i,i∈q->i<x.ins.length/\K i=true
 cls:∀ i,i<x.ins.length->K i=true->i∈q\/∀ j,j∈eu (aY x i) i->K j=true
structure LI (x:ak)(i C:Nat)(K:Nat->Bool)(q pre:List Nat):Prop where
 zero:K 0=true
 rea:∀ i,i<x.ins.length->K i=true->LH x i
 qlt:∀ i,i∈q->i<x.ins.length/\K i=true
 cls:∀ j,j<x.ins.length->K j=true->j∈q\/j=i\/∀ t,t∈eu (aY x j) j->K t=true
 done:∀ t,t∈pre->K t=true
 here:i<x.ins.length/\K i=true
 cnt:jv K x.ins.length+q.length=C
section
variable {x:ak} {i C t:Nat} {K:Nat->Bool} {q pre:List Nat}
theorem Qq.fin (h:Qq x K [])(hf:j8 x):sd x K:=Fc hf h.zero h.rea (fun i hi hK=>(h.cls i hi hK).resolve_left (fun k=>by cases k))
theorem Qq.j (h:Qq x K (i::q)):LI x i (jv K x.ins.length+q.length) K q []:=
 ⟨h.zero,h.rea,fun j hj=>h.qlt j (List.mem_cons_of_mem _ hj),fun j hj hK=>(h.cls j hj hK).elim (fun k=>(List.mem_cons.1 k).elim (fun e=>.inr (.inl e)) .inl) (fun k=>.inr (.inr k)),fun t ht=>(by cases ht),h.qlt i (List.mem_cons_self ..),rfl⟩
theorem LI.out (h:LI x i C K q pre)(e:pre=eu (aY x i) i):Qq x K q:=
 ⟨h.zero,h.rea,h.qlt,fun j hj hK=>(h.cls j hj hK).imp id (fun k=>k.elim (fun e'=>by aj e';rw[<-e];exact h.done) id)⟩
theorem LI.old (h:LI x i C K q pre)(ht:K t=true):LI x i C K q (pre++[t]):=
 ⟨h.zero,h.rea,h.qlt,h.cls,fun s hs=>(List.mem_append.1 hs).elim (h.done s) (fun k=>by rw[List.mem_singleton.1 k];exact ht),h.here,h.cnt⟩
theorem LI.new (h:LI x i C K q pre)(hf:j8 x)(hm:t∈eu (aY x i) i)(ht:K t=false):LI x i C (iL K t) (q++[t]) (pre++[t]):=by
 have hl:=tf hf h.here.1 hm;have hc:=pI ht _ hl;have up:∀ j,K j=true->iL K t j=true:=fun j hj=>by unfold iL;split<;>first | rfl | exact hj
 have ut:iL K t t=true:=if_pos rfl;refine⟨up 0 h.zero,fun j hj hK=>?_,fun j hj=>?_,fun j hj hK=>?_,fun s hs=>?_,⟨h.here.1,up i h.here.2⟩,?_⟩
 ·unfold iL at hK;split at hK
  ·next e=>rw[e];exact .step (h.rea i h.here.1 h.here.2) h.here.1 hm
  ·exact h.rea j hj hK
 ·rcases List.mem_append.1 hj with k | k
  ·exact⟨(h.qlt j k).1,up j (h.qlt j k).2⟩
  ·rw[List.mem_singleton.1 k];exact⟨hl,ut⟩
 ·by_cases e:j=t
  ·exact .inl (List.mem_append.2 (.inr (List.mem_singleton.2 e)))
  ·have N9:K j=true:=by unfold iL at hK;rwa [if_neg e]at hK
   rcases h.cls j hj N9 with k | k | k
   ·exact .inl (List.mem_append.2 (.inl k))
   ·exact .inr (.inl k)
   ·exact .inr (.inr (fun s hs=>up s (k s hs)))
 ·rcases List.mem_append.1 hs with k | k
  ·exact up s (h.done s k)
  ·rw[List.mem_singleton.1 k];exact ut
 ·have:=h.cnt;rw[List.length_append];show _+(q.length+1)=_;omega
end
def mkD (D:Nat):Deferred:={ target:=.collected D,args:=#[] }
structure qG (w:World)(n:Nat)(K:Nat->Bool)(q:List Nat)(v:Value)(Ds:List Nat)(L:Nat)(W:World):Prop where
 row:W.rowIs w.heap.size 4 n (nV K)
 rb:W.rowIs (w.heap.size+1) 68 1 (fun _=>.slice (some (a_ w.heap.size 0)) n n)
 wb:W.rowIs (w.heap.size+1+1) 131 1 (fun _=>v)
 qu:Bu W (w.heap.size+3) v q
 nd:Ds.Nodup
 mrk:∀ D,D∈Ds->w.heap.size<=D/\D<L/\W.heap[D]? = some (.deferred (some []))
 old:b_ w W
section
variable {w W W':World} {n L:Nat} {K:Nat->Bool} {q:List Nat} {v:Value} {Ds:List Nat}
theorem ki {o:Obj}{c:Array Value}{t:TypeId}{f:Nat×Nat}{b r:Nat}(h:W.heap[b]? = some (.cells c t f))(hr:W.heap[r]? = some o)(ho:o.isCells=false):b≠r:=fun e=>by
 aj e
 rw[h]at hr;cases hr;cases ho
theorem qG.kept (h:qG w n K q v Ds L W){row:Option Nat}(hg:W.grownBy W' row)(hr:∀ r,row=some r->L<=r/\∃ o:Obj,W.heap[r]? = some o/\o.isCells=false)(hL:w.heap.size<=L):qG w n K q v Ds L W':=by
 have blk:∀(b:Nat) c t f,W.heap[b]? = some (Obj.cells c t f)->W'.heap[b]? = W.heap[b]?:=fun b c t f hb=>hg.block b (Array.getElem?_eq_some_iff.1 hb).1 (fun e=>by
  obtain⟨_,o,h1,h2⟩:=hr b e.symm;exact ki hb h1 h2 rfl)
 have low:∀ b:Nat,b<L->b<W.heap.size->W'.heap[b]? = W.heap[b]?:=fun b h1 h2=>hg.block b h2 (fun e=>by have:=(hr b e.symm).1;omega);refine⟨?_,?_,?_,h.qu.same (fun k e=>?_),h.nd,fun D hD=>⟨(h.mrk D hD).1,(h.mrk D hD).2.1,(low D (h.mrk D hD).2.1 (Array.getElem?_eq_some_iff.1 (h.mrk D hD).2.2).1).trans (h.mrk D hD).2.2⟩,h.old.trans ⟨hg.os,hg.tape,hg.output,hg.size,fun k hk=>low k (by omega) (l_ hk h.old.size)⟩⟩
 ·obtain⟨c,hb,_⟩:=h.row;exact h.row.of_block (blk _ _ _ _ hb)
 ·obtain⟨c,hb,_⟩:=h.rb;exact h.rb.of_block (blk _ _ _ _ hb)
 ·obtain⟨c,hb,_⟩:=h.wb;exact h.wb.of_block (blk _ _ _ _ hb)
 ·obtain⟨_,c,t,f,hb⟩:=h.qu.lt k e;exact blk _ _ _ _ hb
theorem qG.below (h:qG w n K q v Ds L W)(hb:b_ W W'):qG w n K q v Ds L W':=by
 refine⟨h.row.of_block (hb.block _ h.row.lt),h.rb.of_block (hb.block _ h.rb.lt),h.wb.of_block (hb.block _ h.wb.lt),h.qu.same (fun k e=>hb.block k ?_),h.nd,fun D hD=>⟨(h.mrk D hD).1,(h.mrk D hD).2.1,(hb.block D (Array.getElem?_eq_some_iff.1 (h.mrk D hD).2.2).1).trans (h.mrk D hD).2.2⟩,h.old.trans (hb.mono h.old.size)⟩;obtain⟨_,c,t,f,hb⟩:=h.qu.lt k e;exact(Array.getElem?_eq_some_iff.1 hb).1
theorem qG.mark (h:qG w n K q v Ds L W){D L':Nat}(hD:L<=D)(hD':D<L')(hB:w.heap.size<=D)(hk:W.heap[D]? = some (.deferred (some []))):qG w n K q v (D::Ds) L' W:=
 ⟨h.row,h.rb,h.wb,h.qu,List.nodup_cons.2 ⟨fun k=>by have:=(h.mrk D k).2.1;omega,h.nd⟩,fun E hE=>(List.mem_cons.1 hE).elim (fun e=>by aj e;exact⟨hB,hD',hk⟩) (fun k=>⟨(h.mrk E k).1,by have:=(h.mrk E k).2.1;omega,(h.mrk E k).2.2⟩),h.old⟩
theorem qG.mono (h:qG w n K q v Ds L W){L':Nat}(hL:L<=L'):qG w n K q v Ds L' W:=
 ⟨h.row,h.rb,h.wb,h.qu,h.nd,fun D hD=>⟨(h.mrk D hD).1,by have:=(h.mrk D hD).2.1;omega,(h.mrk D hD).2.2⟩,h.old⟩
theorem qG.qn (h:qG w n K q v Ds L W):∀ k,k<w.heap.size+3->v.ownBlock≠some k:=fun k hk e=>by have:=(h.qu.lt k e).1;omega
theorem qG.set (h:qG w n K q v Ds L W)(t:Nat):qG w n (iL K t) q v Ds L (W.setCell (a_ w.heap.size t) (.bool true)):=by
 have o:∀ k,k≠w.heap.size->(W.setCell (a_ w.heap.size t) (.bool true)).heap[k]? = W.heap[k]?:=fun k hk=>heap_setCell_other W (a_ w.heap.size t) k _ hk;refine⟨(h.row.set t (.bool true)).congr (fun j _=>?_),h.rb.of_block (o _ (by omega)),h.wb.of_block (o _ (by omega)),h.qu.same (fun k e=>o k (fun e2=>h.qn k (by omega) e)),h.nd,fun D hD=>?_,h.old.setCell n_ _⟩
 ·unfold nV iL;split<;>rfl
 ·obtain⟨a,b,c⟩:=h.mrk D hD;obtain⟨_,k,_⟩:=h.row;exact⟨a,b,(o D (ki k c rfl).symm).trans c⟩
theorem qG.qp (h:qG w n K q v Ds L W){q':List Nat}{e:Ending}(hp:Cf (w.heap.size+1+1) (w.heap.size+3) v q' W e W') :
  ∃ v',qG w n K q' v' Ds L W'/\(∀ k,v'.ownBlock=some k->v.ownBlock=some k\/W.heap.size<=k)/\W.heap.size<=W'.heap.size/\∀ k,k<W.heap.size->k≠w.heap.size+1+1->v.ownBlock≠some k->W'.heap[k]? = W.heap[k]?:=by
 obtain⟨_,v',hv,hq,bc,h1,h2,h3,h4,blk⟩:=hp;refine⟨v',⟨h.row.of_block (blk _ h.row.lt (by omega) (h.qn _ (by omega))),h.rb.of_block (blk _ h.rb.lt (by omega) (h.qn _ (by omega))),hv,hq,h.nd,fun D hD=>?_,?_⟩,bc,h4,blk⟩
 ·obtain⟨a,b,c⟩:=h.mrk D hD;refine⟨a,b,(blk D (Array.getElem?_eq_some_iff.1 c).1 ?_ ?_).trans c⟩
  ·obtain⟨_,k,_⟩:=h.wb;exact(ki k c rfl).symm
  ·intro k;obtain⟨_,_,_,_,k⟩:=h.qu.lt D k;exact ki k c rfl rfl
 ·exact h.old.trans ⟨h1.symm,h2.symm,h3.symm,h4,fun k hk=>blk k (l_ hk h.old.size) (by omega) (h.qn _ (by omega))⟩
theorem qG.tk (h:qG w n K q v Ds L W){q':List Nat}{v':Value}(e:W'=W.setCell (a_ (w.heap.size+1+1) 0) v')(hv:W'.rowIs (w.heap.size+1+1) 131 1 (fun _=>v'))(hq:Bu W' (w.heap.size+3) v' q'):qG w n K q' v' Ds L W':=by
 aj e
 have o:∀ k,k≠w.heap.size+1+1->(W.setCell (a_ (w.heap.size+1+1) 0) v').heap[k]? = W.heap[k]?:=fun k hk=>heap_setCell_other W (a_ (w.heap.size+1+1) 0) k _ hk;refine⟨h.row.of_block (o _ (by omega)),h.rb.of_block (o _ (by omega)),hv,hq,h.nd,fun D hD=>?_,h.old.setCell (by show w.heap.size<=w.heap.size+1+1;omega) _⟩;obtain⟨a,b,c⟩:=h.mrk D hD;obtain⟨_,k,_⟩:=h.wb;exact⟨a,b,(o D (ki k c rfl).symm).trans c⟩
theorem sk {F:Fence}{m:Nat}{P:Program}{fn:Func}{tmps:Array Value}{R:Ending->World->Prop}{V:Nat->Value}{kb T:Nat}(fin:∀ W:World,W.rowIs kb T n V->b_ w W->∃ v,(results fn tmps).run P W=.ok v W/\R (.returned v) W) :
  ∀(Ds:List Nat) (W:World),Ds.Nodup->(∀ D,D∈Ds->w.heap.size<=D/\W.heap[D]? = some (.deferred (some [])))->W.rowIs kb T n V->b_ w W->LeavesInM F m P fn tmps R (Ds.map mkD) .returning W
 | [],W,_,_,h1,h2=>fin W h1 h2
 | D::Ds,W,hn,hD,h1,h2=>by
  obtain⟨a,b⟩:=hD D (List.mem_cons_self ..);obtain⟨n1,n2⟩:=List.nodup_cons.1 hn;refine⟨by simp,.inl ⟨D,_,rfl,run_takeDeferred b,sk fin Ds _ n2 (fun E hE=>?_) ?_ ?_⟩⟩
  ·obtain⟨c,d⟩:=hD E (List.mem_cons_of_mem _ hE);exact⟨c,(World.putObj_heap_other (fun e=>n1 (by rw[<-e];exact hE))).trans d⟩
  ·refine h1.of_block (World.putObj_heap_other (fun e=>?_));obtain⟨_,k,_⟩:=h1;exact ki k b rfl e
  ·exact h2.grown (grownBy_putObj' W D (.deferred none)) h2.size (fun k e=>by cases e;exact a)
end
theorem sI {F:Fence}{n:Nat}{P:Program}{Q:Exit->Act->World->Prop}{a:Act}{w:World}{c:Code}(I:Nat->Act->World->Prop)(M:Nat)(h0:I M a w)
  (hr:∀ m a w,I m a w->c.wpIn F n P (Exit.then (fun a' w'=>∃ m',m'<m/\I m' a' w') Q) a w):(Code.loop c).wpIn F n P Q a w:=by
 refine wpIn_loop_rounds (M+1) ?_;have key:∀ k m a w,m<k->I m a w->Code.roundsIn F n P c Q k a w:=fun k=>by
  induction k with
  | zero=>intro m a w h;exact absurd h (Nat.not_lt_zero _)
  | succ k ih=>
   intro m a w hk hi;refine Code.wpIn_mono (fun e a' w' q=>?_) (hr m a w hi);cases e<;>first | exact q | skip;obtain⟨m',h1,h2⟩:=q;exact ih m' a' w' (by omega) h2
 exact key _ M a w (Nat.lt_succ_self _) h0
end Go.Proofs.YtcjfjflljdojlaaGreatDoor
