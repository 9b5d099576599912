import Derived.Test.YtcjfjflljdojlaaGreatDoorPart49
import Derived.RangeFuncNested
import Derived.RangeFuncBound
import Derived.Shelf.RegionOpen
import Derived.OwnWalkIn
import Derived.LoopNIn
import Derived.LoopIn
set_option linter.all false
set_option maxHeartbeats 8000000
set_option maxRecDepth 100000
namespace Go.Proofs.YtcjfjflljdojlaaGreatDoor
open Go.RowKit Go.Shelf
attribute [local go_sem] Oper.semAt_some
theorem FJ (n:az)(i:Nat):eu n i=(if dc n=true then[i+1]else[])++(match cp n with | some t=>[t.toNat] | none=>[]):=by
 unfold eu cp;congr 1;split;{rfl};{split;{next h=>rw[zca ((eR _).1 h)]};{next h=>rw[zcb (fun k=>h ((eR _).2 k))]}}
theorem vQ (g n c i:Nat)(w:w_) :
  c_ 87 #[s_ g 0 n c,i_ (i:Int)] w fun e w'=>e=.returned (.func (.func 129) #[] #[.pointer (some (a_ w.heap.size 0)),.pointer (some (a_ (w.heap.size+1) 0))])/\w'=(w.alloc (.cells #[s_ g 0 n c] 40)).alloc (.cells #[i_ (i:Int)] 3):=by
 go_enter Tryz.func87,Tryz.ntmps87;go_wp2;go_ret;exact⟨rfl,rfl⟩
abbrev LE (x:aj) (i:Nat):={ t:Nat // t∈eu (aX x i) i }
def YZ (base b1 b2:Nat)(W W':w_):Prop:=W.heap.size<=W'.heap.size/\∀ b,b<base\/b=b1\/b=b2->W'.heap[b]? = W.heap[b]?
structure LH (x:aj)(i g c base b1 b2:Nat)(W:w_):Prop where
 c1:W.cell? (a_ b1 0)=some (s_ g 0 x.u.length c)
 c2:W.cell? (a_ b2 0)=some (i_ (i:Int))
 row:eB aV 5 W g x.u.length (aX x)
 tab:gd W
 lg:g<base
 lt:0<base
theorem LH.kept {x:aj}{i g c base b1 b2:Nat}{W W':w_}(h:LH x i g c base b1 b2 W)(zb:YZ base b1 b2 W W'):LH x i g c base b1 b2 W' where
 c1:=(zbe (a:=(a_ b1 0)) (zb.2 b1 (.inr (.inl rfl)))).trans h.c1
 c2:=(zbe (a:=(a_ b2 0)) (zb.2 b2 (.inr (.inr rfl)))).trans h.c2
 row:=⟨fun j hj r hr=>(zbe (a:=(a_ g (j * 5+r))) (zb.2 g (.inl h.lg))).trans (h.row.cell j hj r hr),fun o=>(zbf (a:=(a_ g o)) (zb.2 g (.inl h.lg))).trans (h.row.soft o),l_ h.row.lt zb.1⟩
 tab:=by
  obtain⟨cs,t,fr,h1,h2⟩:=h.tab;exact⟨cs,t,fr,(zb.2 _ (.inl h.lt)).trans h1,h2⟩
 lg:=h.lg
 lt:=h.lt
theorem LH.below {x:aj}{i g c base b1 b2:Nat}{W W':w_}(h:LH x i g c base b1 b2 W)(hb:b_ W W'):LH x i g c base b1 b2 W' where
 c1:=(hb.cell (p:=(a_ b1 0)) (zbd _ _ h.c1)).trans h.c1
 c2:=(hb.cell (p:=(a_ b2 0)) (zbd _ _ h.c2)).trans h.c2
 row:=h.row.keep hb
 tab:=h.tab.keep hb h.tab.pos
 lg:=h.lg
 lt:=h.lt
theorem sw (x:aj)(i g c base b1 b2 m:Nat)(w0:w_)(hp:Hf x)(hi:i<x.u.length)(hF:LH x i g c base b1 b2 w0) :
  SeqStopsK Fence.wide m Tryz.prog 129 #[.pointer (some (a_ b1 0)),.pointer (some (a_ b2 0))] (fun t:LE x i=>#[i_ (t.1:Int)]) (YZ base b1 b2) (fun xs=>xs.map (·.1)=eu (aX x i) i) (fun _=>True) 2 w0:=by
 intro l J Jx W hW hJ hJx hY h0;have hN:=hp.fit.few;have FW:=hF.below hW;obtain⟨o,ho,Ev⟩:=hp.op i hi;rw[<-show(aX x i).op=(aR x i).op from qR x _]at ho;have hS:=FJ (aX x i) i;have JB:H_ (∀ s W W',J s W->b_ W W'->J s W'):=fun s A B hs hb=>hJ s A B none hs ⟨hb.os,hb.tape,hb.output,hb.size,fun k hk _=>hb.block k hk⟩ (fun r e=>by cases e);have HY:=af hY;have H0:=af h0;have hiI:(i:Int)<x.u.length:=by omega
 clear hJ hJx hW hF hY h0;have TL:H_ (∀ t,cp (aX x i)=some t->0<=t/\t.toNat<x.u.length):=fun t=>zB hp.fit hi;have M:H_ (∀ W,LH x i g c base b1 b2 W->aK W g (i * 5) (aX x i)):=fun W h=>h.row.u hi;have HS:=af hS;clear hS hp;obtain⟨n,hn⟩:∃ n,n=aX x i:=⟨_,rfl⟩;have HN:=af hn;rw[<-hn]at ho TL M HS;clear hn;obtain⟨op,fa,fb,fc,fd⟩:=n;dsimp only at ho;subst ho;have MM:=M.o W FW;have c0:=MM.op;have c1:=MM.fa;have c2:=MM.fb;have c3:=MM.fc;have c4:=MM.fd;have p1:=FW.c1;have p2:=FW.c2;have fl:=FW.row.lt;have GO:H_ (c_ 116 #[.agg #[i_ o,i_ fa,i_ fb,i_ fc,i_ fd]] W fun e w'=>e=.returned (.bool (eE o))/\b_ W w'):=lK o fa fb fc fd W;have FWH:=af FW;clear MM FW;have SX:H_ (eu (aX x i) i=(if dc ⟨o,fa,fb,fc,fd⟩=true then[i+1]else[])++(match cp ⟨o,fa,fb,fc,fd⟩with | some t=>[t.toNat] | none=>[])):=by rw[<-HN.o];exact HS.o
 have KQ:H_ (∀ t,t∈(if dc ⟨o,fa,fb,fc,fd⟩=true then[i+1]else[])++(match cp ⟨o,fa,fb,fc,fd⟩with | some t=>[t.toNat] | none=>[])->t∈eu (aX x i) i):=fun t h=>by rw[SX.o];exact h
 have TG:H_ (∀ V,LH x i g c base b1 b2 V->c_ 83 #[.agg #[i_ o,i_ fa,i_ fb,i_ fc,i_ fd]] V (pe ⟨o,fa,fb,fc,fd⟩ V)):=fun V h=>iR o fa fb fc fd V h.tab Ev;obtain⟨go,Ir⟩:∃ go,go=eE (o:Int):=⟨_,rfl⟩;have HGO:H_ (dc ⟨o,fa,fb,fc,fd⟩=go):=Ir.symm;rw[<-Ir]at GO;clear Ir;have END:H_ (∀(pre:List (LE x i)) V e,pre.map (·.1)=eu (aX x i) i->J pre V->e=Ending.returned (.tuple #[])->(∃ v,e=.returned v)/\((∃ xs:List (LE x i),xs.map (·.1)=eu (aX x i) i/\J xs V)\/(∃ pre,True/\Jx pre V))):=fun pre V e h1 h2 h3=>⟨⟨_,h3⟩,.inl ⟨pre,h1,h2⟩⟩;have XI:H_ (∀(pre:List (LE x i)) V e,Jx pre V->e=Ending.returned (.tuple #[])->(∃ v,e=.returned v)/\((∃ xs:List (LE x i),xs.map (·.1)=eu (aX x i) i/\J xs V)\/(∃ pre,True/\Jx pre V))):=fun pre V e h2 h3=>⟨⟨_,h3⟩,.inr ⟨pre,trivial,h2⟩⟩;refine callsIn_of_wp Tryz.func129 rfl trivial ?_ rfl;simp only[Tryz.ntmps129,List.size_toArray,List.length_cons,List.length_nil,Nat.reduceAdd,Nat.reduceSub,Array.replicate_succ,Array.replicate_zero,List.push_toArray,List.append_toArray,List.nil_append,List.cons_append]
 gi_wp2_with fail;refine⟨trivial,(by intro h;cases h),?_⟩;gi_at_call 116;refine(callsIn_wide.2 (aa GO)).mono ?_;rintro e w1 ⟨rfl,ar⟩;have F1:=(aa FWH).below ar;have J1:=af (JB.o [] W w1 H0.o ar);clear c0 c1 c2 c3 c4 p1 p2 GO ar fl FWH H0;cases go;case' false=>
  obtain⟨V,rfl⟩:∃ V,V=w1:=⟨_,rfl⟩;obtain⟨pre,Et⟩:∃ pre:List (LE x i),pre=[]:=⟨_,rfl⟩;rw[<-Et]at J1;have U4:H_ (pre.map (·.1)=(if dc ⟨o,fa,fb,fc,fd⟩=true then[i+1]else[])/\pre.length<2):=by rw[Et,HGO.o];exact⟨rfl,Nat.succ_pos _⟩
  have FV:=F1;clear Et F1;gi_wp2_with fail;refine⟨fun _ h=>(by cases h),?_⟩
 case' true=>
  have pi:i+1∈eu (aX x i) i:=KQ.o (i+1) (zaa.2 (.inl (by rw[HGO.o,zca rfl];simp)));obtain⟨fn,tmps,assign,body,hy,hR⟩:=HY.o [] ⟨i+1,pi⟩ w1 J1.o (Nat.succ_pos _);have q2:=F1.c2;replace hy:(Instr.yield l #[i_ ((i:Int)+1)]).run Tryz.prog w1=.ok (.round l fn tmps assign body) w1:=hy;gi_wp2_with fail;refine⟨(by intro h;cases h),hR.mono ?_⟩;rintro e V (⟨rfl,Um,vi⟩ | ⟨rfl,Zk⟩);rotate_left;{gi_wp2_with fail;refine zcd (results_none rfl _ _ _) rfl ?_;exact XI.o _ _ _ Zk rfl}
  obtain⟨pre,Et⟩:∃ pre:List (LE x i),pre=[]++[⟨i+1,pi⟩]:=⟨_,rfl⟩;have J1:H_ (J pre V):=by rw[Et];exact Um
  have U4:H_ (pre.map (·.1)=(if dc ⟨o,fa,fb,fc,fd⟩=true then[i+1]else[])/\pre.length<2):=by{rw[Et,HGO.o];exact⟨rfl,n_⟩};have FV:=F1.kept vi;clear Et F1 q2 hy hR Um vi pi
 all_goals have MM:=M.o V FV;have k0:=MM.op;have k1:=MM.fa;have k2:=MM.fb;have k3:=MM.fc;have k4:=MM.fd;have q1:=FV.c1;have q2:=FV.c2;have fl:=FV.row.lt;have TV:=af (TG.o V FV);have HFV:=af FV;clear MM FV TG;gi_wp2_with fail;refine⟨trivial,(by intro h;cases h),?_⟩;gi_at_call 83;refine(callsIn_wide.2 (aa TV)).mono ?_;rintro e w3 ⟨rfl,bU⟩;have J3:=af (JB.o pre V w3 J1.o bU);clear k0 k1 k2 k3 k4 q1 q2 fl TV bU;rcases ht:cp ⟨o,fa,fb,fc,fd⟩with _ | t;{have HE:H_ (pre.map (·.1)=eu (aX x i) i):=by{show _=_;rw[U4.o.1];exact(SX.o.trans (by rw[ht,List.append_nil])).symm};dsimp only[Option.getD,Option.isSome];gi_wp2_with fail;go_end0;exact END.o _ _ _ HE.o J3.o rfl};{obtain⟨t0,t1⟩:=TL.o t ht;obtain⟨T,rfl⟩:=iV t0;have hmT:T∈eu (aX x i) i:=KQ.o T (zaa.2 (.inr (by rw[ht];exact nZ.2 rfl)));obtain⟨fn,tmps,assign,body,hy,hR⟩:=HY.o pre ⟨T,hmT⟩ w3 J3.o U4.o.2;have HE:H_ ((pre++[(⟨T,hmT⟩:LE x i)]).map (·.1)=eu (aX x i) i):=by{show _=_;rw[List.map_append,U4.o.1];exact(SX.o.trans (by rw[ht];rfl)).symm};dsimp only[Option.getD,Option.isSome];dsimp only at hy;clear t0 t1 ht TL;gi_wp2_with fail;refine⟨(by intro h;cases h),hR.mono ?_⟩;rintro e w4 (⟨rfl,hJ4,gz⟩ | ⟨rfl,Y9⟩);{gi_wp2_with fail;go_end0;exact END.o _ _ _ HE.o hJ4 rfl};{gi_wp2_with fail;go_end0;exact XI.o _ _ _ Y9 rfl}}
structure Qf (x:aj)(K:Nat->Bool)(q:List Nat):Prop where
 zero:K 0=true
 rea:∀ i,i<x.u.length->K i=true->LB x i
 qlt:∀ i,i∈q->i<x.u.length/\K i=true
 cls:∀ i,i<x.u.length->K i=true->i∈q\/∀ j,j∈eu (aX x i) i->K j=true
structure LC (x:aj)(i C:Nat)(K:Nat->Bool)(q pre:List Nat):Prop where
 zero:K 0=true
 rea:∀ i,i<x.u.length->K i=true->LB x i
 qlt:∀ i,i∈q->i<x.u.length/\K i=true
 cls:∀ j,j<x.u.length->K j=true->j∈q\/j=i\/∀ t,t∈eu (aX x j) j->K t=true
 done:∀ t,t∈pre->K t=true
 here:i<x.u.length/\K i=true
 cnt:jw K x.u.length+q.length=C
section
variable {x:aj} {i C t:Nat} {K:Nat->Bool} {q pre:List Nat}
theorem Qf.fin (h:Qf x K [])(hf:jW x):rT x K:=EZ hf h.zero h.rea (fun i hi hK=>(h.cls i hi hK).resolve_left (fun k=>by cases k))
theorem Qf.j (h:Qf x K (i::q)):LC x i (jw K x.u.length+q.length) K q []:=
 ⟨h.zero,h.rea,fun j hj=>h.qlt j (List.mem_cons_of_mem _ hj),fun j hj hK=>(h.cls j hj hK).elim (fun k=>(List.mem_cons.1 k).elim (fun e=>.inr (.inl e)) .inl) (fun k=>.inr (.inr k)),fun t ht=>(by cases ht),h.qlt i (List.mem_cons_self ..),rfl⟩
theorem LC.o (h:LC x i C K q pre)(e:pre=eu (aX x i) i):Qf x K q:=
 ⟨h.zero,h.rea,h.qlt,fun j hj hK=>(h.cls j hj hK).imp id (fun k=>k.elim (fun e'=>by subst e';rw[<-e];exact h.done) id)⟩
theorem LC.old (h:LC x i C K q pre)(ht:K t=true):LC x i C K q (pre++[t]):=
 ⟨h.zero,h.rea,h.qlt,h.cls,fun s hs=>(zaa.1 hs).elim (h.done s) (fun k=>by rw[nZ.1 k];exact ht),h.here,h.cnt⟩
theorem LC.new (h:LC x i C K q pre)(hf:jW x)(hm:t∈eu (aX x i) i)(ht:K t=false):LC x i C (iK K t) (q++[t]) (pre++[t]):=by
 have hl:=tf hf h.here.1 hm;have hc:=pZ ht _ hl;have up:∀ j,K j=true->iK K t j=true:=fun j hj=>by unfold iK;split<;>first | rfl | exact hj
 have ut:iK K t t=true:=zca rfl;refine⟨up 0 h.zero,fun j hj hK=>?_,fun j hj=>?_,fun j hj hK=>?_,fun s hs=>?_,⟨h.here.1,up i h.here.2⟩,?_⟩;{unfold iK at hK;split at hK;{next e=>rw[e];exact .step (h.rea i h.here.1 h.here.2) h.here.1 hm};{exact h.rea j hj hK}};{rcases zaa.1 hj with k | k;{exact⟨(h.qlt j k).1,up j (h.qlt j k).2⟩};{rw[nZ.1 k];exact⟨hl,ut⟩}};{by_cases e:j=t;{exact .inl (zaa.2 (.inr (nZ.2 e)))};{have Oe:K j=true:=by{unfold iK at hK;rwa [zcb e]at hK};rcases h.cls j hj Oe with k | k | k;{exact .inl (zaa.2 (.inl k))};{exact .inr (.inl k)};{exact .inr (.inr (fun s hs=>up s (k s hs)))}}};{rcases zaa.1 hs with k | k;{exact up s (h.done s k)};{rw[nZ.1 k];exact ut}};{have:=h.cnt;rw[zad];show _+(q.length+1)=_;omega}
end
def mkD (D:Nat):Deferred:={ target:=.collected D,args:=#[] }
structure qF (w:w_)(n:Nat)(K:Nat->Bool)(q:List Nat)(v:Value)(Ds:List Nat)(L:Nat)(W:w_):Prop where
 row:W.rowIs w.heap.size 4 n (nP K)
 rb:W.rowIs (w.heap.size+1) 68 1 (fun _=>s_ w.heap.size 0 n n)
 wb:W.rowIs (w.heap.size+1+1) 131 1 (fun _=>v)
 qu:Bt W (w.heap.size+3) v q
 nd:Ds.Nodup
 mrk:∀ D,D∈Ds->w.heap.size<=D/\D<L/\W.heap[D]? = some (.deferred (some []))
 old:b_ w W
section
variable {w W W':w_} {n L:Nat} {K:Nat->Bool} {q:List Nat} {v:Value} {Ds:List Nat}
theorem jV {o:Obj}{c:Array Value}{t:TypeId}{f:Nat×Nat}{b r:Nat}(h:W.heap[b]? = some (.cells c t f))(hr:W.heap[r]? = some o)(ho:o.isCells=false):b≠r:=fun e=>by
 subst e;rw[h]at hr;cases hr;cases ho
theorem qF.kept (h:qF w n K q v Ds L W){row:Option Nat}(hg:W.grownBy W' row)(hr:∀ r,row=some r->L<=r/\∃ o:Obj,W.heap[r]? = some o/\o.isCells=false)(hL:w.heap.size<=L):qF w n K q v Ds L W':=by
 have blk:∀(b:Nat) c t f,W.heap[b]? = some (Obj.cells c t f)->W'.heap[b]? = W.heap[b]?:=fun b c t f hb=>hg.block b (zbc.1 hb).1 (fun e=>by
  obtain⟨_,o,h1,h2⟩:=hr b e.symm;exact jV hb h1 h2 rfl)
 have low:∀ b:Nat,b<L->b<W.heap.size->W'.heap[b]? = W.heap[b]?:=fun b h1 h2=>hg.block b h2 (fun e=>by have:=(hr b e.symm).1;omega);refine⟨?_,?_,?_,h.qu.same (fun k e=>?_),h.nd,fun D hD=>⟨(h.mrk D hD).1,(h.mrk D hD).2.1,(low D (h.mrk D hD).2.1 (zbc.1 (h.mrk D hD).2.2).1).trans (h.mrk D hD).2.2⟩,h.old.trans ⟨hg.os,hg.tape,hg.output,hg.size,fun k hk=>low k (by omega) (l_ hk h.old.size)⟩⟩
 {obtain⟨c,hb,_⟩:=h.row;exact h.row.of_block (blk _ _ _ _ hb)};{obtain⟨c,hb,_⟩:=h.rb;exact h.rb.of_block (blk _ _ _ _ hb)};{obtain⟨c,hb,_⟩:=h.wb;exact h.wb.of_block (blk _ _ _ _ hb)};{obtain⟨_,c,t,f,hb⟩:=h.qu.lt k e;exact blk _ _ _ _ hb}
theorem qF.below (h:qF w n K q v Ds L W)(hb:b_ W W'):qF w n K q v Ds L W':=by
 refine⟨h.row.of_block (hb.block _ h.row.lt),h.rb.of_block (hb.block _ h.rb.lt),h.wb.of_block (hb.block _ h.wb.lt),h.qu.same (fun k e=>hb.block k ?_),h.nd,fun D hD=>⟨(h.mrk D hD).1,(h.mrk D hD).2.1,(hb.block D (zbc.1 (h.mrk D hD).2.2).1).trans (h.mrk D hD).2.2⟩,h.old.trans (hb.mono h.old.size)⟩;obtain⟨_,c,t,f,hb⟩:=h.qu.lt k e;exact(zbc.1 hb).1
theorem qF.mark (h:qF w n K q v Ds L W){D L':Nat}(hD:L<=D)(hD':D<L')(hB:w.heap.size<=D)(hk:W.heap[D]? = some (.deferred (some []))):qF w n K q v (D::Ds) L' W:=
 ⟨h.row,h.rb,h.wb,h.qu,List.nodup_cons.2 ⟨fun k=>by have:=(h.mrk D k).2.1;omega,h.nd⟩,fun E hE=>(List.mem_cons.1 hE).elim (fun e=>by subst e;exact⟨hB,hD',hk⟩) (fun k=>⟨(h.mrk E k).1,by have:=(h.mrk E k).2.1;omega,(h.mrk E k).2.2⟩),h.old⟩
theorem qF.mono (h:qF w n K q v Ds L W){L':Nat}(hL:L<=L'):qF w n K q v Ds L' W:=
 ⟨h.row,h.rb,h.wb,h.qu,h.nd,fun D hD=>⟨(h.mrk D hD).1,by have:=(h.mrk D hD).2.1;omega,(h.mrk D hD).2.2⟩,h.old⟩
theorem qF.qn (h:qF w n K q v Ds L W):∀ k,k<w.heap.size+3->v.ownBlock≠some k:=fun k hk e=>by have:=(h.qu.lt k e).1;omega
theorem qF.set (h:qF w n K q v Ds L W)(t:Nat):qF w n (iK K t) q v Ds L (W.setCell (a_ w.heap.size t) (.bool true)):=by
 have o:∀ k,k≠w.heap.size->(W.setCell (a_ w.heap.size t) (.bool true)).heap[k]? = W.heap[k]?:=fun k hk=>zbg W (a_ w.heap.size t) k _ hk;refine⟨(h.row.set t (.bool true)).congr (fun j _=>?_),h.rb.of_block (o _ (by omega)),h.wb.of_block (o _ (by omega)),h.qu.same (fun k e=>o k (fun e2=>h.qn k (by omega) e)),h.nd,fun D hD=>?_,h.old.setCell n_ _⟩
 {unfold nP iK;split<;>rfl};{obtain⟨a,b,c⟩:=h.mrk D hD;obtain⟨_,k,_⟩:=h.row;exact⟨a,b,(o D (jV k c rfl).symm).trans c⟩}
theorem qF.qp (h:qF w n K q v Ds L W){q':List Nat}{e:Ending}(hp:Du (w.heap.size+1+1) (w.heap.size+3) v q' W e W') :
  ∃ v',qF w n K q' v' Ds L W'/\(∀ k,v'.ownBlock=some k->v.ownBlock=some k\/W.heap.size<=k)/\W.heap.size<=W'.heap.size/\∀ k,k<W.heap.size->k≠w.heap.size+1+1->v.ownBlock≠some k->W'.heap[k]? = W.heap[k]?:=by
 obtain⟨_,v',hv,hq,bb,h1,h2,h3,h4,blk⟩:=hp;refine⟨v',⟨h.row.of_block (blk _ h.row.lt (by omega) (h.qn _ (by omega))),h.rb.of_block (blk _ h.rb.lt (by omega) (h.qn _ (by omega))),hv,hq,h.nd,fun D hD=>?_,?_⟩,bb,h4,blk⟩;{obtain⟨a,b,c⟩:=h.mrk D hD;refine⟨a,b,(blk D (zbc.1 c).1 ?_ ?_).trans c⟩;{obtain⟨_,k,_⟩:=h.wb;exact(jV k c rfl).symm};{intro k;obtain⟨_,_,_,_,k⟩:=h.qu.lt D k;exact jV k c rfl rfl}};{exact h.old.trans ⟨h1.symm,h2.symm,h3.symm,h4,fun k hk=>blk k (l_ hk h.old.size) (by omega) (h.qn _ (by omega))⟩}
theorem qF.tk (h:qF w n K q v Ds L W){q':List Nat}{v':Value}(e:W'=W.setCell (a_ (w.heap.size+1+1) 0) v')(hv:W'.rowIs (w.heap.size+1+1) 131 1 (fun _=>v'))(hq:Bt W' (w.heap.size+3) v' q'):qF w n K q' v' Ds L W':=by
 subst e;have o:∀ k,k≠w.heap.size+1+1->(W.setCell (a_ (w.heap.size+1+1) 0) v').heap[k]? = W.heap[k]?:=fun k hk=>zbg W (a_ (w.heap.size+1+1) 0) k _ hk;refine⟨h.row.of_block (o _ (by omega)),h.rb.of_block (o _ (by omega)),hv,hq,h.nd,fun D hD=>?_,h.old.setCell (by show w.heap.size<=w.heap.size+1+1;omega) _⟩;obtain⟨a,b,c⟩:=h.mrk D hD;obtain⟨_,k,_⟩:=h.wb;exact⟨a,b,(o D (jV k c rfl).symm).trans c⟩
theorem rP {F:Fence}{m:Nat}{P:Program}{fn:Func}{tmps:Array Value}{R:Ending->w_->Prop}{V:Nat->Value}{kb T:Nat}(fin:∀ W:w_,W.rowIs kb T n V->b_ w W->∃ v,(results fn tmps).run P W=.ok v W/\R (.returned v) W) :
  ∀(Ds:List Nat) (W:w_),Ds.Nodup->(∀ D,D∈Ds->w.heap.size<=D/\W.heap[D]? = some (.deferred (some [])))->W.rowIs kb T n V->b_ w W->LeavesInM F m P fn tmps R (Ds.map mkD) .returning W
 | [],W,_,_,h1,h2=>fin W h1 h2
 | D::Ds,W,hn,hD,h1,h2=>by
  obtain⟨a,b⟩:=hD D (List.mem_cons_self ..);obtain⟨n1,n2⟩:=List.nodup_cons.1 hn;refine⟨by simp,.inl ⟨D,_,rfl,run_takeDeferred b,rP fin Ds _ n2 (fun E hE=>?_) ?_ ?_⟩⟩
  ·obtain⟨c,d⟩:=hD E (List.mem_cons_of_mem _ hE);exact⟨c,(World.putObj_heap_other (fun e=>n1 (by rw[<-e];exact hE))).trans d⟩
  ·refine h1.of_block (World.putObj_heap_other (fun e=>?_));obtain⟨_,k,_⟩:=h1;exact jV k b rfl e
  ·exact h2.grown (grownBy_putObj' W D (.deferred none)) h2.size (fun k e=>by cases e;exact a)
end
theorem sJ {F:Fence}{n:Nat}{P:Program}{Q:Exit->Act->w_->Prop}{a:Act}{w:w_}{c:Code}(I:Nat->Act->w_->Prop)(M:Nat)(h0:I M a w)
  (hr:∀ m a w,I m a w->c.wpIn F n P (Exit.then (fun a' w'=>∃ m',m'<m/\I m' a' w') Q) a w):(Code.loop c).wpIn F n P Q a w:=by
 refine wpIn_loop_rounds (M+1) ?_;have key:∀ k m a w,m<k->I m a w->Code.roundsIn F n P c Q k a w:=fun k=>by
  induction k with
  | zero=>intro m a w h;exact zcc h (bW _)
  | succ k ih=>
   intro m a w hk hi;refine Code.wpIn_mono (fun e a' w' q=>?_) (hr m a w hi);cases e<;>first | exact q | skip;obtain⟨m',h1,h2⟩:=q;exact ih m' a' w' (by omega) h2
 exact key _ M a w (Nat.lt_succ_self _) h0
attribute [local go_sem] Oper.semAt_some
theorem wP (w:w_)(v:Value)(t:TypeId):(w.alloc (.cells #[v] t)).rowIs w.heap.size t 1 (fun _=>v):=⟨_,Go.Deep.blk_alloc_new _ _,rfl,fun i hi=>by rw[show i=0 by omega];rfl⟩
def Qm (x:aj)(w:w_)(e:Ending)(w':w_):Prop:=∃ K,rT x K/\e=.returned (s_ w.heap.size 0 x.u.length x.u.length)/\w'.rowIs w.heap.size 4 x.u.length (nP K)/\b_ w w'
theorem vy (x:aj)(g c:Nat)(w:w_)(hp:Hf x)(hG:gd w)(hr:eB aV 5 w g x.u.length (aX x)) :
  c_ 34 #[s_ g 0 x.u.length c] w (Qm x w):=by
 have hN:=hp.fit.few;have Ih:=hp.fit.some_;have fl:=hr.lt;have Ew:=hG.pos;have HP:=af hp;have HR:H_ (∀ W,b_ w W->gd W/\eB aV 5 W g x.u.length (aX x)):=fun W hW=>⟨hG.keep hW hG.pos,hr.keep hW⟩;have kE:=run_make_row' (P:=Tryz.prog) 68 4 (.bool false) 1 Tryz.underlying68 oe rfl .i64 .i64 x.u.length (by omega) (by omega);have Tc:(madeCells #[.bool false] x.u.length)[0]? = some (Value.bool false):=by{simp[madeCells,Ih]};clear hp hG hr;refine(callsIn_wide (n:=9)).1 ?_;refine callsIn_of_wp_marks Tryz.func34 rfl trivial ?_ rfl;simp only[Tryz.ntmps34,List.size_toArray,List.length_cons,List.length_nil,Nat.reduceAdd,Nat.reduceSub,Array.replicate_succ,Array.replicate_zero,List.push_toArray,List.append_toArray,List.nil_append,List.cons_append];have kG:H_ (qF w x.u.length (iK (fun _=>false) 0) [] (.slice none 0 0) [] w.heap.size (((w.alloc (.cells ((madeCells #[.bool false] x.u.length).setIfInBounds 0 (.bool true)) 4)).alloc (.cells #[s_ w.heap.size 0 x.u.length x.u.length] 68)).alloc (.cells #[.slice none 0 0] 131))):=by{have e:(w.alloc (.cells (madeCells #[.bool false] x.u.length) 4)).setCell (a_ w.heap.size 0) (.bool true)=w.alloc (.cells ((madeCells #[.bool false] x.u.length).setIfInBounds 0 (.bool true)) 4):=World.setCell_alloc_new _ _ _ _;have h1:=((World.rowIs_made w (.bool false) x.u.length 4).set 0 (.bool true)).congr (g:=nP (iK (fun _=>false) 0)) (fun j _=>by unfold nP iK;split<;>rfl);rw[e]at h1;refine⟨(h1.alloc _).alloc _,?_,?_,⟨none,0,rfl,.inl ⟨rfl,rfl,rfl⟩⟩,List.nodup_nil,fun D hD=>(by cases hD),((r_.alloc n_ _).alloc (by simp) _).alloc (by simp;omega) _⟩;{have:=wP (w.alloc (.cells ((madeCells #[.bool false] x.u.length).setIfInBounds 0 (.bool true)) 4)) (s_ w.heap.size 0 x.u.length x.u.length) 68;rw[World.size_alloc]at this;exact this.alloc _};{have:=wP ((w.alloc (.cells ((madeCells #[.bool false] x.u.length).setIfInBounds 0 (.bool true)) 4)).alloc (.cells #[s_ w.heap.size 0 x.u.length x.u.length] 68)) (.slice none 0 0) 131;rw[World.size_alloc,World.size_alloc]at this;exact this}};gi_wp2_with fail;clear kE Tc;generalize (((w.alloc (.cells ((madeCells #[.bool false] x.u.length).setIfInBounds 0 (.bool true)) 4)).alloc (.cells #[s_ w.heap.size 0 x.u.length x.u.length] 68)).alloc (.cells #[.slice none 0 0] 131))=w1 at *;have s1:w.heap.size+3<=w1.heap.size:=kG.o.wb.lt;refine⟨trivial,?_⟩;gi_at_call 86;refine(callsIn_wide.2 (AG _ (w.heap.size+3) _ [] 0 w1 kG.o.wb kG.o.qu s1 (by omega) (by decide))).mono ?_;rintro e w2 hq;obtain⟨r,rfl⟩:=hq.1;obtain⟨v2,R2,_,s2,_⟩:=kG.o.qp hq;have H2:=af R2;clear hq R2 kG;gi_wp2_with fail;refine sJ (fun m a' W=>∃(u12 u13 u14 u15 u16 u17 u18:Value) (K:Nat->Bool) (q:List Nat) (v:Value) (Ds:List Nat) (L:Nat),a'={ tmps:=#[s_ g 0 x.u.length c,undef,.slice none 0 0,.pointer (some (a_ (w.heap.size+1) 0)),.pointer (some (a_ (w.heap.size+1+1) 0)),undef,s_ g 0 x.u.length c,i_ x.u.length,s_ w.heap.size 0 x.u.length x.u.length,s_ w.heap.size 0 x.u.length x.u.length,.pointer (some (a_ w.heap.size 0)),r,u12,u13,u14,u15,u16,u17,u18,undef,undef,undef,undef,undef,undef,undef,undef,undef,undef,undef,undef],defers:=Ds.map mkD }/\Qf x K q/\m=jw K x.u.length+q.length/\m<=x.u.length/\qF w x.u.length K q v Ds L W/\L<=W.heap.size) x.u.length ?start ?round;case start=>
  have hc:=pZ (K:=fun _=>false) (y:=0) rfl x.u.length Ih;have bK:∀ n,jw (fun _=>false) n=n:=fun n=>by
   induction n with
   | zero=>rfl
   | succ n ih=>unfold jw;rw[ih];rfl
  rw[bK]at hc;refine⟨_,_,_,_,_,_,_,_,[0],v2,[],w.heap.size,rfl,⟨zca rfl,fun i hi hK=>?_,fun i hi=>?_,fun i hi hK=>.inl ?_⟩,by simp;omega,n_,H2.o,by omega⟩;{unfold iK at hK;split at hK;{next e=>rw[e];exact .zero};{cases hK}};{rw[nZ.1 hi];exact⟨Ih,zca rfl⟩};{unfold iK at hK;split at hK;{next e=>exact nZ.2 e};{cases hK}}
 case round=>
  clear H2 s2 s1;rintro m a' W ⟨u12,u13,u14,u15,u16,u17,u18,K,q,v,Ds,L,rfl,hI,hm,hmn,hW,hL⟩;have Pw:=hW.wb.cell (i:=0) (by omega);have hwl:=hW.wb.lt;obtain⟨va,vc,hv,_⟩:=hW.qu;rw[hv]at Pw;cases q with
  | nil=>
   have KC:H_ (rT x K):=hI.fin HP.o.fit;have By:=hW.rb.cell (i:=0) (by omega);have we:=hW.rb.lt;have HW:=af hW;clear hI hm hmn hW;gi_wp2_with fail;exact rP (fun W h1 h2=>⟨_,results_tmp rfl _ _ _,K,KC.o,rfl,h1,h2⟩) Ds W HW.o.nd (fun D hD=>⟨(HW.o.mrk D hD).1,(HW.o.mrk D hD).2.2⟩) HW.o.row HW.o.old
  | cons i q=>
   have fq:q.length<=6000:=by{rw[List.length_cons]at hm;omega};have au:i<x.u.length:=(hI.qlt i (List.mem_cons_self ..)).1;have TK:=af (Gf (w.heap.size+1+1) (w.heap.size+3) v i q W hW.wb hW.qu (by omega) (by omega));have HJ:=af hI.j;have HW:=af hW;rw[List.length_cons]at Pw hm;clear hI hW;gi_wp2_with fail;refine⟨trivial,?_⟩;gi_at_call 88;refine(callsIn_wide.2 (aa TK)).mono ?_;rintro e w3 ⟨rfl,v3,Zx,Lx,La,Ve⟩;have R3:=HW.o.tk Zx Lx La;have Im:W.heap.size<=w3.heap.size:=by rw[Zx];simp
   have O3:∀ k,v3.ownBlock=some k->k<w3.heap.size:=fun k e=>by
    obtain⟨_,_,_,_,h⟩:=R3.qu.lt k e;exact(zbc.1 h).1
   have H3:=af R3;clear Zx Lx La Ve R3 TK HW Pw hwl;gi_wp2_with fail;refine⟨trivial,?_⟩;gi_at_call 87;refine(callsIn_wide.2 (vQ g x.u.length c i w3)).mono ?_;rintro e w4 ⟨rfl,VU⟩;have lx:b_ w3 w4:=by{rw[VU];exact(r_.alloc n_ _).alloc (by simp) _};have YE:w3.heap.size+2<=w4.heap.size:=by{rw[VU];simp};have R4:=H3.o.below lx;have FO:H_ (LH x i g c w.heap.size w3.heap.size (w3.heap.size+1) w4):=⟨by rw[VU];simp[go_sem],by rw[VU];simp[go_sem],(HR.o w4 R4.old).2,(HR.o w4 R4.old).1,fl,Ew⟩;have H4:=af (R4.mono (show L<=w4.heap.size by omega));have hsw:w.heap.size+3<=w3.heap.size:=H3.o.wb.lt;clear VU lx R4 H3;gi_wp2_with fail
   refine wpIn_rangeFunc_ownG (w:=w4) rfl (by decide) (gf:=129) (lb:=#[.pointer (some (a_ w3.heap.size 0)),.pointer (some (a_ (w3.heap.size+1) 0))]) rfl trivial (enters_of Tryz.func129 (by kernel_rfl) rfl)
    (sw x i g c w.heap.size w3.heap.size (w3.heap.size+1) _ w4 HP.o au FO.o) (fun h k=>⟨zah h.1 k.1,fun b hb=>(k.2 b hb).trans (h.2 b hb)⟩) (fun V l o o' hl _ _ _=>⟨by simp,fun b hb=>World.putObj_heap_other (by omega)⟩) r_ (fun _=>rfl)
    (fun(pre:List (LE x i)) W'=>∃ K' q' v',qF w x.u.length K' q' v' Ds w4.heap.size W'/\LC x i (jw K x.u.length+q.length) K' q' (pre.map (fun t:LE x i=>t.1))/\w4.heap.size<=W'.heap.size/\∀ k,v'.ownBlock=some k->k≠w3.heap.size/\k≠w3.heap.size+1)
    (fun _ _ _=>False) (fun s A B row ⟨K',q',v',h1,h2,h4,h3⟩ hg hr=>⟨K',q',v',h1.kept hg hr (by omega),h2,zah h4 hg.size,h3⟩) (fun _ _ _ _ _ hs _ _=>hs)
    ⟨K,q,v3,H4.o,HJ.o,n_,fun k e=>by have:=O3 k e;omega⟩
    (fun t=>{ tmps:=#[s_ g 0 x.u.length c,undef,.slice none 0 0,.pointer (some (a_ (w.heap.size+1) 0)),.pointer (some (a_ (w.heap.size+1+1) 0)),i_ (t.1:Int),s_ g 0 x.u.length c,i_ x.u.length,s_ w.heap.size 0 x.u.length x.u.length,s_ w.heap.size 0 x.u.length x.u.length,.pointer (some (a_ w.heap.size 0)),r,.pointer (some (a_ (w.heap.size+1+1) 0)),.slice va (q.length+1) vc,i_ ((q.length:Int)+1),.bool true,s_ g 0 x.u.length c,i_ (i:Int),.func (.func 129) #[] #[.pointer (some (a_ w3.heap.size 0)),.pointer (some (a_ (w3.heap.size+1) 0))],i_ (t.1:Int),undef,undef,undef,undef,undef,undef,undef,undef,undef,undef,undef],defers:=[] }) ?assign ?body ?done ?stop
   (case assign=>intro l t V K hK;gi_wp2_with fail;exact hK);(case stop=>rintro D c' pre V _ _ h _;exact h.elim);(case done=>rintro D xs V hD hxs ⟨K',q',v',h1,h2,_,h3⟩ hK;have hDl:D<V.heap.size:=(zbc.1 hK).1;have eL:H_ (Qf x K' q'/\jw K' x.u.length+q'.length<m/\jw K' x.u.length+q'.length<=x.u.length/\qF w x.u.length K' q' v' (D::Ds) (D+1) V/\D+1<=V.heap.size):=by{have:=h2.cnt;exact⟨h2.o hxs,by omega,by omega,h1.mark hD (Nat.lt_succ_self _) (by omega) hK,hDl⟩};clear h1 h2 h3 hK HJ O3 FO H4;gi_wp2_with fail;exact⟨_,eL.o.2.1,_,_,_,_,_,_,_,K',q',v',D::Ds,D+1,rfl,eL.o.1,rfl,eL.o.2.2.1,eL.o.2.2.2.1,eL.o.2.2.2.2⟩);case body=>
    rintro l pre ⟨t,ht⟩ V ⟨K',q',v',h1,h2,h4,h3⟩ aO;have Ew:t<x.u.length:=tf HP.o.fit au ht;have htI:(t:Int)<x.u.length:=by{omega};have By:=h1.rb.cell (i:=0) (by omega);have we:=h1.rb.lt;have XM:V.cell? (a_ w.heap.size t)=some (.bool (K' t)):=h1.row.cell Ew;have hzr:=h1.row.frozen t;have iJ:=h1.row.lt;have H1:=af h1;have H2:=af h2;have H3:=af h3;clear h1 h2 h3 FO H4 HJ;cases hKt:K' t
    ·have R5:=H1.o.set t;have PU:=af (AG (w.heap.size+1+1) (w.heap.size+3) v' q' t _ R5.wb R5.qu (by simp;omega) (by omega) (by have:=H2.o.cnt;omega));have rF:=af R5;have rb5:=R5.rb.cell (i:=0) (by omega);rw[hKt]at XM;clear R5;gi_wp2_with fail;refine⟨trivial,?_⟩;gi_at_call 86
     refine(CallsIn.inRound l (callsIn_wide.2 (aa PU))).mono ?_;rintro e V2 hq;obtain⟨r2,rfl⟩:=hq.1;obtain⟨v5,R6,Z2,s6,b6⟩:=rF.o.qp hq;rw[World.size_setCell]at Z2 s6 b6;have blk:∀ k,k<V.heap.size->k≠w.heap.size->k≠w.heap.size+1+1->v'.ownBlock≠some k->V2.heap[k]? = V.heap[k]?:=fun k a b c d=>(b6 k a c d).trans (zbg V (a_ w.heap.size t) k _ b);have eL:H_ (KeepsFrom w4.heap.size V V2/\YZ w.heap.size w3.heap.size (w3.heap.size+1) V V2):=by
      refine⟨⟨s6,fun k o hk ho hc=>(blk k (zbc.1 ho).1 (by omega) (by omega) (fun e=>?_)).trans ho⟩,s6,fun b hb=>blk b (by omega) (by omega) (by omega) (fun e=>?_)⟩;{obtain⟨_,_,_,_,k2⟩:=H1.o.qu.lt k e;exact jV k2 ho hc rfl};{have a1:=(H1.o.qu.lt b e).1;have a2:=H3.o b e;omega}
     have FI2:H_ (qF w x.u.length (iK K' t) (q'++[t]) v5 Ds w4.heap.size V2/\∀ k,v5.ownBlock=some k->k≠w3.heap.size/\k≠w3.heap.size+1):=⟨R6,fun k e=>(Z2 k e).elim (H3.o k) (fun h=>by omega)⟩;clear blk b6 Z2 R6 hq PU rF rb5;gi_wp2_with fail;exact⟨eL.o.1,eL.o.2,_,_,_,FI2.o.1,by rw[List.map_append];exact H2.o.new HP.o.fit ht hKt,zah h4 s6,FI2.o.2⟩
    {rw[hKt]at XM;gi_wp2_with fail;exact⟨KeepsFrom.refl _ _,⟨n_,fun _ _=>rfl⟩,K',q',v',H1.o,by rw[List.map_append];exact H2.o.old hKt,h4,H3.o⟩}
end Go.Proofs.YtcjfjflljdojlaaGreatDoor
namespace Go.Proofs.YtcjfjflljdojlaaGreatDoor
open Go.RowKit
section
variable {P:Program} {md:Region.Mode} {ops:Array Oper} {Q:Exit->Act->w_->Prop} {S:w_->Prop} {k:Nat}
def jv (P:Program)(md:Region.Mode)(ops:Array Oper)(Q:Exit->Act->w_->Prop)(S:w_->Prop)(k:Nat):Nat->Array Bool->Act->w_->Prop
 | 0,ls,a,w=>Region.ready md ops ls=[]/\Q .normal a w
 | fu+1,ls,a,w=>(Region.ready md ops ls=[]->Q .normal a w)/\∀ i,i∈Region.ready md ops ls->wpOp P ops Q i (fun a' w'=>if i=k then wpAny P md ops Q fu (ls.setIfInBounds i true) a' w' else S w'/\jv P md ops Q S k fu (ls.setIfInBounds i true) a' w') a w
theorem Ax:∀ fu ls a w,jv P md ops Q S k fu ls a w->wpAny P md ops Q fu ls a w
 | 0,_,_,_,h=>h
 | fu+1,ls,a,w,h=>⟨h.1,fun i hi=>wpOp_mono (fun a' w' q=>by
   split at q
   ·exact q
   ·exact Ax fu _ a' w' q.2) (h.2 i hi)⟩
def wD (md:Region.Mode)(ops:Array Oper)(k i:Nat):Bool:=((ops[k]?).map (fun o=>o.after.any (fun e=>Region.binds md e&&e.on==i))).getD false
theorem zO {i:Nat}{ls:Array Bool}(h:wD md ops k i=true)(hi:i∈Region.ready md ops ls):k ∉ Region.ready md ops ls:=fun hk=>by
 obtain⟨_,o,ho,bK⟩:=mem_ready.1 hk;unfold wD at h;rw[ho]at h;obtain⟨e,he,hb⟩:=Array.any_eq_true'.1 h;rw[Bool.and_eq_true,beq_iff_eq]at hb;have h1:=bK e he hb.1;have h0:=(mem_ready.1 hi).1;rw[hb.2]at h1;rcases Nat.lt_or_ge i ls.size with h' | h'
 ·simp[h']at h0 h1;rw[h0]at h1;cases h1
 ·simp[Array.getElem?_eq_none h']at h1
theorem Qs {i:Nat}{oi:Oper}{v:Value}(hi:ops[i]? = some oi)(hs:Region.noSelect ops=true)(hwt:wD md ops k i=true)(hQ:∀ c a w,Q (.panic c) (a.put oi.dst v) w->Q (.panic c) a w) :
  ∀(fu:Nat) (ls:Array Bool) (a:Act) (w:w_),(∀ j oj,ops[j]? = some oj->j≠i->ls.getD j true=false->(∀ e∈oj.after,Region.binds md e=true->e.on≠i)->oi.apart ops oj=true)->i∈Region.ready md ops ls->YieldsIf P ops S oi v a->S w ->
   jv P md ops Q S k fu (ls.setIfInBounds i true) (a.put oi.dst v) w->jv P md ops Q S k (fu+1) ls a w:=by
 have U8:=Region.noSelect_spec hs;intro fu
 induction fu with
 | zero=>
  intro ls a w _ hr hy hS H;refine⟨fun h=>(by rw[h]at hr;cases hr),fun j hj=>?_⟩;have X8:j≠k:=fun e=>zO hwt hr (e ▸ hj);by_cases e:j=i;{subst e;exact hy.wpOp hi hS (by rw[zcb X8];exact⟨hS,H⟩)};{have:=ready_mono hj e;rw[H.1]at this;cases this}
 | succ fu ih=>
  intro ls a w hfree hr hy hS H;refine⟨fun h=>(by rw[h]at hr;cases hr),fun j hj=>?_⟩;have X8:j≠k:=fun e=>zO hwt hr (e ▸ hj);by_cases e:j=i;{subst e;exact hy.wpOp hi hS (by rw[zcb X8];exact⟨hS,H⟩)}
  ·obtain⟨hun,oj,Y7,bK⟩:=mem_ready.1 hj;have YG:∀ e∈oj.after,Region.binds md e=true->e.on≠i:=fun e he hb eq=>by
    have h1:=bK e he hb;have h0:=(mem_ready.1 hr).1;rw[eq]at h1;rcases Nat.lt_or_ge i ls.size with h' | h';{simp[h']at h0 h1;rw[h0]at h1;cases h1};{simp[Array.getElem?_eq_none h']at h1}
   refine wpOp_mono (fun a' w' q=>?_) (wpOp_putIf Y7 (hfree j oj Y7 e hun YG) (fun cs b=>U8 i oi cs b hi) (fun cs b=>U8 j oj cs b Y7) hQ hy (H.2 j (ready_mono hj e)));obtain⟨y,q⟩:=q;rw[zcb X8]at q ⊢;refine⟨q.1,ih _ a' w' (fun n on hn kn hun' hno'=>hfree n on hn kn ?_ hno') (ready_mono hr (Ne.symm e)) y q.1 (by rw[Array.setIfInBounds_comm _ _ e];exact q.2)⟩;by_cases en:j=n;{subst en;exact hun};{rw[getD_set_ne true en]at hun';exact hun'}
theorem xq {i:Nat}{oi:Oper}{fu:Nat}{ls:Array Bool}{a:Act}{w:w_}(d:Option Tmp)(v:Value)(hi:ops[i]? = some oi)(hd:oi.dst=d)(hb:(Region.noSelect ops&&wD md ops k i&&Region.free md ops ls i&&(Region.ready md ops ls).contains i)=true)(hw:Region.wanted oi (yielded ops a.tmps)=true)(hQ:∀ c a w,Q (.panic c) (a.put oi.dst v) w->Q (.panic c) a w)(hS:S w)
  (hy:∀ W,S W->(execOp a.eval oi).run P W=.ok (.value v) W)(h:jv P md ops Q S k fu (ls.setIfInBounds i true) (a.put d v) w):jv P md ops Q S k (fu+1) ls a w:=by
 subst hd;simp only[Bool.and_eq_true]at hb;exact Qs hi hb.1.1.1 hb.1.1.2 hQ fu ls a w (Region.free_spec hi hb.1.2) (by simpa using hb.2) (.inl ⟨hw,hy⟩) hS h
theorem UE {i:Nat}{fu:Nat}{ls:Array Bool}{a:Act}{w:w_}(hr:Region.ready md ops ls=[i])(hik:i≠k)(h:wpOp P ops Q i (fun a' w'=>S w'/\jv P md ops Q S k fu (ls.setIfInBounds i true) a' w') a w):jv P md ops Q S k (fu+1) ls a w:=
 ⟨fun h0=>by rw[hr]at h0;(cases h0),fun j hj=>by
  rw[hr,nZ]at hj;subst hj;exact wpOp_mono (fun a' w' q=>by rw[zcb hik];exact q) h⟩
theorem yF {ι:Type}(val:ι->Value){R:ι->w_->Prop}{i:Nat}{o:Oper}{fu:Nat}{ls:Array Bool}{a:Act}{w:w_}{f:FuncId}{args:Array Value}(d:Option Tmp)(hi:ops[i]? = some o)(hd:o.dst=d)(hb:(Region.ready md ops ls==[i] && !(i==k))=true)(hw:Region.wanted o (yielded ops a.tmps)=true)(he:(execOp a.eval o).run P w=.ok (.enter f args) w)(hc:Calls P f args w (fun e w'=>∃ x,e=.returned (val x)/\R x w'))
  (hR:∀ x w',R x w'->S w'/\jv P md ops Q S k fu (ls.setIfInBounds i true) (a.put d (val x)) w'):jv P md ops Q S k (fu+1) ls a w:=by
 subst hd;simp only[Bool.and_eq_true,beq_iff_eq,Bool.not_eq_true',zag]at hb;refine UE hb.1 hb.2 ?_;unfold wpOp;simp only[hi,hw,if_true,Oper.wp,he,Oper.upon];refine .inl (hc.mono (fun e w' h=>?_));obtain⟨x,rfl,h2⟩:=h;exact hR x w' h2
theorem D5 {i:Nat}{o:Oper}{fu:Nat}{ls:Array Bool}{a:Act}{w w':w_}{n:Next}{v:Value}(d:Option Tmp)(hi:ops[i]? = some o)(hd:o.dst=d)(hb:(Region.ready md ops ls==[i])=true)(hw:Region.wanted o (yielded ops a.tmps)=true)(he:(execOp a.eval o).run P w=.ok n w')(hn:(n=.skip/\v=undef)\/n=.value v)
  (h:wpAny P md ops Q fu (ls.setIfInBounds i true) (a.put d v) w'):wpAny P md ops Q (fu+1) ls a w:=by
 subst hd;refine wpAny_all (beq_iff_eq.1 hb) (by simp) (fun j hj=>?_);rw[nZ]at hj;subst hj;unfold wpOp;rcases hn with⟨rfl,rfl⟩ | rfl<;>simp only[hi,hw,if_true,Oper.wp,he,Oper.upon]<;>exact .inl h
theorem Qk {fu:Nat}{ls:Array Bool}{a:Act}{w:w_}(hr:Region.ready md ops ls=[k])(h:wpAny P md ops Q (fu+1) ls a w):jv P md ops Q S k (fu+1) ls a w:=
 ⟨h.1,fun j hj=>wpOp_mono (fun a' w' q=>by
  have Lr:=hj;rw[hr,nZ]at Lr;rw[zca Lr];exact q) (h.2 j hj)⟩
theorem z9 {id:Nat}{a:Act}{w:w_}(S:w_->Prop)(k:Nat)(hm:P.follows .mixedOrders=true)(h:∀ W0,W0=w.drew->jv P .any ops Q S k ops.size (Array.replicate ops.size false) a W0):(Code.region id ops true).wp P Q a w:=wp_region_any hm (Ax _ _ _ _ (h _ rfl))
end
end Go.Proofs.YtcjfjflljdojlaaGreatDoor
