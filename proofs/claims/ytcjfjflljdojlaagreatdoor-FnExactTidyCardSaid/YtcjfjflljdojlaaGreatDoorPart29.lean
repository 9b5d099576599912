import Derived.Test.YtcjfjflljdojlaaGreatDoorPart28
import Derived.Test.YtcjfjflljdojlaaGreatDoorPart16
import Derived.Deep.AppendLies
import Derived.Test.YtcjfjflljdojlaaGreatDoorPart13
import Derived.Deep.Cut
set_option linter.unusedSimpArgs false
set_option linter.unusedVariables false
set_option maxHeartbeats 4000000
set_option maxRecDepth 1000000
namespace Go.Proofs.YtcjfjflljdojlaaGreatDoor
open Go.RowKit
theorem gJ {n:ak}{np i:Nat}(h:dr n np i=true):(1<=(aT n i).op/\(aT n i).op<=42)/\(∀ k,k<4->dh n np (dm (aT n i) k) (((bj (aT n i).op).getD [])[k]?.getD 0)=true)/\(i+1=n.ins.length->(aT n i).op=19\/(aT n i).op=29\/(aT n i).op=30):=by
 unfold dr at h;change (match bj (aT n i).op with | none=>false | some r=>_)=true at h;cases e:bj (aT n i).op with
 | none=>rw[e]at h;cases h
 | some r=>
  rw[e]at h;simp only[Bool.and_eq_true]at h;obtain⟨⟨⟨⟨h0,h1⟩,h2⟩,h3⟩,h4⟩:=h;refine⟨?_,?_,?_⟩
  ·by_cases c:1<=(aT n i).op/\(aT n i).op<=42
   ·exact c
   ·rw[ny c]at e;cases e
  ·intro k hk;have hc:k=0\/k=1\/k=2\/k=3:=by omega
   rcases hc with rfl | rfl | rfl | rfl
   ·exact h0
   ·exact h1
   ·exact h2
   ·exact h3
  ·intro hl;rw[decide_eq_true hl]at h4;change ((false||(aT n i).op==19||(aT n i).op==29)||(aT n i).op==30)=true at h4;simp only[Bool.false_or,Bool.or_eq_true,beq_iff_eq]at h4;rcases h4 with(h4 | h4) | h4
   ·exact .inl h4
   ·exact .inr (.inl h4)
   ·exact .inr (.inr h4)
section
variable {n:ak} {np i:Nat}
theorem Jv (h:dr n np i=true)(hr:0<=n.regs):xU (aT n i).op (aT n i).fa (aT n i).fc n.regs.toNat:=by
 obtain⟨_,hf,_⟩:=gJ h;have f0:=hf 0 (by omega);have f2:=hf 2 (by omega);change dh n np (aT n i).fa _=true at f0;change dh n np (aT n i).fc _=true at f2;refine⟨fun e=>?_,fun e=>?_,fun e=>?_,fun e=>?_⟩
 ·rw[e]at f0;have:=aV f0;omega
 ·rw[e]at f0;have:=aV (show dw _ 0 (n.regs-1)=true from f0);omega
 ·rw[e]at f0;have:=aV (show dw _ 0 (n.regs-2)=true from f0);omega
 ·rw[e]at f2;have:=aV (show dw _ 0 (n.regs-1)=true from f2);omega
theorem JC (h:dr n np i=true)(hr:0<=n.regs):JZ (aT n i).op (aT n i).fa (aT n i).fb (aT n i).fc n.regs.toNat:=by
 obtain⟨_,hf,_⟩:=gJ h;have f0:=hf 0 (by omega);have f1:=hf 1 (by omega);have f2:=hf 2 (by omega);change dh n np (aT n i).fa _=true at f0;change dh n np (aT n i).fb _=true at f1;change dh n np (aT n i).fc _=true at f2;refine⟨fun e=>?_,fun e=>?_,fun e=>?_,fun e=>?_⟩
 ·rcases e with e | e<;>(rw[e]at f0;have:=aV (show dw _ 0 ((n.ins.length:Int)-1)=true from f0);omega)
 ·rcases e with e | e | e | e | e | e
  ·rw[e]at f1;have:=aV (show dw _ 0 ((n.ins.length:Int)-1)=true from f1);omega
  ·rw[e]at f1;have:=aV (show dw _ 0 ((n.ins.length:Int)-1)=true from f1);omega
  ·rw[e]at f1;have:=aV (show dw _ 0 ((n.ins.length:Int)-1)=true from f1);omega
  ·rw[e]at f1;have:=aV (show dw _ 0 ((n.ins.length:Int)-1)=true from f1);omega
  ·rw[e]at f1;have:=aV (show dw _ 0 ((n.ins.length:Int)-1)=true from f1);omega
  ·rw[e]at f1;have:=aV (show dw _ 0 (n.regs-2)=true from f1);omega
 ·rw[e]at f2;have:=aV (show dw _ 0 (n.regs-1)=true from f2);omega
 ·rw[e]at f1;have:=aV (show dw _ 0 (n.regs-2)=true from f1);omega
theorem mP (h:dr n np i=true):((aT n i).op=19\/(aT n i).op=31->0<=(aT n i).fa/\(aT n i).fa<n.ins.length)/\((aT n i).op=20\/(aT n i).op=21\/(aT n i).op=38\/(aT n i).op=39\/(aT n i).op=41->0<=(aT n i).fb/\(aT n i).fb<n.ins.length):=by
 obtain⟨_,hf,_⟩:=gJ h;have f0:=hf 0 (by omega);have f1:=hf 1 (by omega);change dh n np (aT n i).fa _=true at f0;change dh n np (aT n i).fb _=true at f1;refine⟨fun e=>?_,fun e=>?_⟩
 ·rcases e with e | e<;>(rw[e]at f0;have:=aV (show dw _ 0 ((n.ins.length:Int)-1)=true from f0);omega)
 ·rcases e with e | e | e | e | e<;>(rw[e]at f1;have:=aV (show dw _ 0 ((n.ins.length:Int)-1)=true from f1);omega)
theorem te {x:Int}(h:0<=x):Int.ofNat x.toNat=x:=Int.toNat_of_nonneg h
theorem pF (h:dr n np i=true)(hi:i<n.ins.length):jK (aT n i) i=aH (ff n i)/\(∀ y,y∈ff n i->y<n.ins.length)/\(ff n i).length<=2:=by
 obtain⟨_,_,hl⟩:=gJ h;obtain⟨ha,hb⟩:=mP h;have WQ:(aT n i).op≠19->(aT n i).op≠29->(aT n i).op≠30->i+1<n.ins.length:=fun h1 h2 h3=>by
  by_cases e:i+1=n.ins.length
  ·rcases hl e with h4 | h4 | h4
   ·exact absurd h4 h1
   ·exact absurd h4 h2
   ·exact absurd h4 h3
  ·omega
 unfold ff jK ep;generalize aT n i=x at *;obtain⟨op,fa,fb,fc,fd⟩:=x;simp only at *;by_cases c1:op=1\/op=3\/op=28\/op=29\/op=30
 ·rw[if_pos c1,if_pos c1];exact⟨rfl,by simp,by simp⟩
 rw[if_neg c1,if_neg c1];have ZG:op≠19->i+1<n.ins.length:=fun h1=>WQ h1 (by omega) (by omega);by_cases c2:op=18/\fb=12
 ·rw[if_pos c2,if_pos c2];exact⟨rfl,by simp,by simp⟩
 rw[if_neg c2,if_neg c2];by_cases c3:op=19
 ·have h1:=ha (.inl c3);rw[if_pos c3,if_pos c3];exact⟨by simp only[aH,List.map_cons,List.map_nil,te h1.1],by intro y hy;simp at hy;omega,by simp⟩
 rw[if_neg c3,if_neg c3];have h2:=ZG c3;by_cases c4:op=41
 ·have h1:=hb (by simp[c4]);rw[if_pos c4,if_pos c4];exact⟨by simp only[aH,List.map_cons,List.map_nil,te h1.1],by intro y hy;simp at hy;omega,by simp⟩
 rw[if_neg c4,if_neg c4];by_cases c5:op=20\/op=21\/op=38\/op=39
 ·have h1:=hb (by omega);rw[if_pos c5,if_pos c5];exact⟨by simp only[aH,List.map_cons,List.map_nil,te h1.1];rfl,by intro y hy;simp at hy;omega,by simp⟩
 rw[if_neg c5,if_neg c5];by_cases c6:op=31
 ·have h1:=ha (.inr c6);rw[if_pos c6,if_pos c6];exact⟨by simp only[aH,List.map_cons,List.map_nil,te h1.1];rfl,by intro y hy;simp at hy;omega,by simp⟩
 rw[if_neg c6,if_neg c6];exact⟨rfl,by intro y hy;simp at hy;omega,by simp⟩
end
structure nY (w:World)(base g nt ct bT b1 b2:Nat)(a:o_)(m c:Nat)(n:aA)(r:List Nat)(s:gX)(tv sv:Value)(wr:World):Prop where
 old:Below base w wr
 size:bT<=wr.heap.size
 code:wr.cell? (a_ w.heap.size 0)=some (.slice a m c)
 ins:aL wr (w.heap.size+1) 0 n
 roles:wr.rowIs b1 3 4 (fun j=>i_ ((r[j]?.getD 0:Nat):Int))
 flds:wr.rowIs b2 3 4 (fun j=>i_ (dm n j))
 types:ar wr base (.slice (some (a_ g 0)) nt ct) s.types
 taken:ar wr bT tv (aH s.taken)
 stay:ar wr bT sv (aH s.stay)
 apart:tv.ownBlock=none\/tv.ownBlock≠sv.ownBlock
structure CQ (w:World)(base g bT b1 b2:Nat):Prop where
 g1:base<=g
 g2:g<w.heap.size
 r1:w.heap.size+2<=b1
 r2:w.heap.size+2<=b2
 t1:b1<bT
 t2:b2<bT
section
variable {w:World} {base g nt ct bT b1 b2:Nat} {a:o_} {m c:Nat} {n:aA} {r:List Nat} {s:gX} {tv sv:Value} {wr w2:World}
theorem nY.other (h:nY w base g nt ct bT b1 b2 a m c n r s tv sv wr)(hB:CQ w base g bT b1 b2)(hb:∀ k,w.heap.size<=k->k<bT->w2.heap[k]? = wr.heap[k]?) :
  w2.cell? (a_ w.heap.size 0)=some (.slice a m c)/\aL w2 (w.heap.size+1) 0 n/\w2.rowIs b1 3 4 (fun j=>i_ ((r[j]?.getD 0:Nat):Int))/\w2.rowIs b2 3 4 (fun j=>i_ (dm n j)):=by
 have:=hB.r1;have:=hB.r2;have:=hB.t1;have:=hB.t2;have e0:∀ o,w2.cell? (a_ w.heap.size o)=wr.cell? (a_ w.heap.size o):=fun o=>World.cell?_of_block (hb _ n_ (by show w.heap.size<bT;omega));have e1:∀ o,w2.cell? (a_ (w.heap.size+1) o)=wr.cell? (a_ (w.heap.size+1) o):=fun o=>World.cell?_of_block (hb _ (by show w.heap.size<=w.heap.size+1;omega) (by show w.heap.size+1<bT;omega));exact⟨(e0 0).trans h.code,⟨(e1 _).trans h.ins.op,(e1 _).trans h.ins.fa,(e1 _).trans h.ins.fb,(e1 _).trans h.ins.fc,(e1 _).trans h.ins.fd⟩,h.roles.of_block (hb _ (by omega) (by omega)),h.flds.of_block (hb _ (by omega) (by omega))⟩
theorem nY.below (h:nY w base g nt ct bT b1 b2 a m c n r s tv sv wr)(hB:CQ w base g bT b1 b2)(hb:b_ wr w2):nY w base g nt ct bT b1 b2 a m c n r s tv sv w2:=by
 have hs:=h.old.size;have hz:=h.size;have:=hB.g1;have:=hB.g2;obtain⟨x1,x2,x3,x4⟩:=h.other hB (w2:=w2) (fun k _ hk=>hb.block k (by omega));exact⟨h.old.trans (hb.mono (by omega)),Nat.le_trans hz hb.size,x1,x2,x3,x4,h.types.below hb,h.taken.below hb,h.stay.below hb,h.apart⟩
theorem nY.put (h:nY w base g nt ct bT b1 b2 a m c n r s tv sv wr)(hB:CQ w base g bT b1 b2)(hn:nt=s.types.length)(j:Nat)(x:Int):nY w base g nt ct bT b1 b2 a m c n r ⟨s.types.set j x,s.taken,s.stay⟩ tv sv (wr.setCell (a_ g j) (i_ x)):=by
 have:=hB.g1;have:=hB.g2;have:=hB.t1;have:=hB.r1;have hk:∀ k,k≠g->(wr.setCell (a_ g j) (i_ x)).heap[k]? = wr.heap[k]?:=fun k hk=>heap_setCell_other wr (a_ g j) k _ (fun e=>hk e);obtain⟨x1,x2,x3,x4⟩:=h.other hB (w2:=wr.setCell (a_ g j) (i_ x)) (fun k h1 _=>hk k (by omega));exact⟨h.old.setCell hB.g1 _,by have:=h.size;simpa using this,x1,x2,x3,x4,h.types.set hn j x,h.taken.setOther (by omega),h.stay.setOther (by omega),h.apart⟩
theorem nY.take (h:nY w base g nt ct bT b1 b2 a m c n r s tv sv wr)(hB:CQ w base g bT b1 b2){o:Obj}{gn cap n3 x:Nat}(hg:(wr.alloc o).grownBy w2 tv.ownBlock)(ho:ar w2 bT (.slice (some (a_ gn 0)) n3 cap) (aH (s.taken++[x])))(fY:tv.ownBlock=some gn\/gn=wr.heap.size+1) :
  nY w base g nt ct bT b1 b2 a m c n r ⟨s.types,s.taken++[x],s.stay⟩ (.slice (some (a_ gn 0)) n3 cap) sv w2:=by
 have hs:=h.old.size;have hz:=h.size;have:=hB.g1;have:=hB.g2;have:=hB.t1;have:=hB.r1;have ax:∀ k,tv.ownBlock=some k->bT<=k:=fun k hk=>(h.taken.lt k hk).1;have cZ:∀ b,b<bT->w2.heap[b]? = wr.heap[b]?:=fun b hb=>by
  rw[hg.block b (by simp;omega) (fun e=>by have:=ax b e.symm;omega)];exact Below.heap_alloc wr o b (by omega)
 obtain⟨x1,x2,x3,x4⟩:=h.other hB (w2:=w2) (fun k _ hk=>cZ k hk);have kq:bT<=w2.heap.size:=by have:=hg.size;simp at this;omega
 have hold:Below base w w2:=(h.old.alloc (by omega) o).grown hg (by simp;omega) (fun k hk=>by have:=ax k hk;omega);have eA:ar w2 base (.slice (some (a_ g 0)) nt ct) s.types:=ar.kept (h.types.alloc o) hg (.inr (fun e=>by have:=ax g e.symm;omega));have lu:ar w2 bT sv (aH s.stay):=ar.kept (h.stay.alloc o) hg (by
  rcases h.apart with e | e
  ·rw[e];cases es:sv.ownBlock with
   | none=>exact .inl rfl
   | some k=>exact .inr (by simp)
  ·exact .inr (fun e'=>e e'.symm))
 refine⟨hold,kq,x1,x2,x3,x4,eA,ho,lu,.inr (fun e=>?_)⟩;have e:some gn=sv.ownBlock:=e;have hl:=(h.stay.lt gn e.symm).2;rcases fY with h1 | h1
 ·rcases h.apart with e2 | e2
  ·rw[e2]at h1;cases h1
  ·exact e2 (h1.trans e)
 ·omega
theorem nY.hold (h:nY w base g nt ct bT b1 b2 a m c n r s tv sv wr)(hB:CQ w base g bT b1 b2){o:Obj}{gn cap n3 x:Nat}(hg:(wr.alloc o).grownBy w2 sv.ownBlock)(ho:ar w2 bT (.slice (some (a_ gn 0)) n3 cap) (aH (s.stay++[x])))(fY:sv.ownBlock=some gn\/gn=wr.heap.size+1) :
  nY w base g nt ct bT b1 b2 a m c n r ⟨s.types,s.taken,s.stay++[x]⟩ tv (.slice (some (a_ gn 0)) n3 cap) w2:=by
 have hs:=h.old.size;have hz:=h.size;have:=hB.g1;have:=hB.g2;have:=hB.t1;have:=hB.r1;have ax:∀ k,sv.ownBlock=some k->bT<=k:=fun k hk=>(h.stay.lt k hk).1;have cZ:∀ b,b<bT->w2.heap[b]? = wr.heap[b]?:=fun b hb=>by
  rw[hg.block b (by simp;omega) (fun e=>by have:=ax b e.symm;omega)];exact Below.heap_alloc wr o b (by omega)
 obtain⟨x1,x2,x3,x4⟩:=h.other hB (w2:=w2) (fun k _ hk=>cZ k hk);have kq:bT<=w2.heap.size:=by have:=hg.size;simp at this;omega
 have hold:Below base w w2:=(h.old.alloc (by omega) o).grown hg (by simp;omega) (fun k hk=>by have:=ax k hk;omega);have eA:ar w2 base (.slice (some (a_ g 0)) nt ct) s.types:=ar.kept (h.types.alloc o) hg (.inr (fun e=>by have:=ax g e.symm;omega));have lu:ar w2 bT tv (aH s.taken):=ar.kept (h.taken.alloc o) hg h.apart;refine⟨hold,kq,x1,x2,x3,x4,eA,lu,ho,?_⟩;cases et:tv.ownBlock with
 | none=>exact .inl rfl
 | some k=>
  refine .inr (fun e=>?_);have e:some k=some gn:=e;have ek:k=gn:=by simpa using e
  have hl:=(h.taken.lt k et).2;rcases fY with h1 | h1
  ·rcases h.apart with e2 | e2
   ·rw[e2]at et;cases et
   ·exact e2 (by rw[et,h1,ek])
  ·omega
end
end Go.Proofs.YtcjfjflljdojlaaGreatDoor
namespace Go.Proofs.YtcjfjflljdojlaaGreatDoor
structure Gk (R:Nat)(s:fL):Prop where
 types:s.types.length=R
 many:s.guards.length<=50
 keep:∀ i,i<s.guards.length->(s.guards[i]?.getD bg.z).keep<=R
structure oV (R N:Nat)(σ:dX):Prop where
 st:∀ i s,σ.st i=some s->i<N/\Gk R s
 due:∀ i,σ.due i=true->i<N/\σ.st i≠none
structure wZ (n:aA)(a R N:Nat):Prop where
 try_:n.op=31->n.fb<=R
 next:de n=true->a+1<N
 jump:n.op=19\/n.op=31->n.fa.toNat<N
 jumpB:n.op=20\/n.op=21\/n.op=38\/n.op=39\/n.op=41->n.fb.toNat<N
 scope:n.op=33\/n.op=34->n.fa<=R
theorem Nd {q:Nat}{x:Int}{s s':gX}(h:gK q x s=some s'):s'.types.length=s.types.length:=by
 unfold gK at h;by_cases c1:(cN q).1=0
 ·rw[if_pos c1]at h;cases h;rfl
 rw[if_neg c1]at h;by_cases c2:bb s.types (eU (cN q).2 x)≠(cN q).1
 ·rw[if_pos c2]at h;cases h
 rw[if_neg c2]at h;by_cases c3:(cN q).2=true/\x<0
 ·rw[if_pos c3]at h;by_cases c4:eU true x∈s.stay
  ·rw[if_pos c4]at h;cases h
  ·rw[if_neg c4]at h;cases h;simp
 rw[if_neg c3]at h;by_cases c5:(cN q).2=true
 ·rw[if_pos c5]at h;cases h;rfl
 rw[if_neg c5]at h;by_cases c6:(q=18\/q=20)/\bb s.types (x.toNat+1)≠1
 ·rw[if_pos c6]at h;cases h
 rw[if_neg c6]at h;by_cases c7:q=18/\bb s.types (x.toNat+2)≠1
 ·rw[if_pos c7]at h;cases h
 rw[if_neg c7]at h;by_cases c8:q=19
 ·rw[if_pos c8]at h;by_cases c9:bb s.types (x.toNat+1)≠0
  ·rw[if_pos c9]at h;cases h
  ·rw[if_neg c9]at h;cases h;rfl
 ·rw[if_neg c8]at h;cases h;rfl
theorem tN {r:List Nat}{n:aA}{s:gX}:∀{k:Nat}{s':gX},aX r n s k=some s'->s'.types.length=s.types.length
 | 0,s',h=>by cases h;rfl
 | k+1,s',h=>by
  change (match aX r n s k with | none=>none | some s'=>gK (r[k]?.getD 0) (dm n k) s')=some s' at h;cases e:aX r n s k with
  | none=>rw[e]at h;cases h
  | some s1=>rw[e]at h;exact(Nd h).trans (tN e)
theorem od {l:List ak}{n:aA}{t:List Int}{r:gX}(h:bI l n t=some r):r.types.length=t.length:=by
 unfold bI at h;cases e:aX ((bj n.op).getD []) n ⟨t,[],[]⟩ 4 with
 | none=>rw[e]at h;cases h
 | some s=>
  rw[e]at h;change (if _ then _ else _)=_ at h;split at h
  ·cases h
  ·cases h;exact tN e
theorem lM (n:aA)(t:List Int):(bh n t).length=t.length:=by
 unfold bh
 repeat' split
 all_goals simp
theorem pf {n:aA}{g g':List bg}{R a N:Nat}(h:aQ n g=some g')(hf:wZ n a R N)(hl:g.length<=50)(hk:∀ i,i<g.length->(g[i]?.getD bg.z).keep<=R) :
  g'.length<=50/\∀ i,i<g'.length->(g'[i]?.getD bg.z).keep<=R:=by
 have app:∀ x:bg,x.keep<=R->g.length<50->(g++[x]).length<=50/\∀ i,i<(g++[x]).length->((g++[x])[i]?.getD bg.z).keep<=R:=fun x hx hg=>by
  refine⟨by simp;omega,fun i hi=>?_⟩;by_cases e:i<g.length
  ·rw[List.getElem?_append_left e];exact hk i e
  ·have:i=g.length:=by simp at hi;omega
   aj this
   simpa using hx
 have tk:(g.take (g.length-1)).length<=50/\∀ i,i<(g.take (g.length-1)).length->((g.take (g.length-1))[i]?.getD bg.z).keep<=R:=by
  refine⟨by simp;omega,fun i hi=>?_⟩;have Il:i<g.length-1:=by simp at hi;omega
  rw[List.getElem?_take,if_pos Il];exact hk i (by omega)
 unfold aQ at h;by_cases c1:n.op=31
 ·rw[if_pos c1]at h;by_cases c:g.length<50/\dS g n.fb=true
  ·rw[if_pos c]at h;cases h;exact app _ (hf.try_ c1) c.1
  ·rw[if_neg c]at h;cases h
 rw[if_neg c1]at h;by_cases c2:n.op=33
 ·rw[if_pos c2]at h;by_cases c:g.length<50/\dS g n.fa=true
  ·rw[if_pos c]at h;cases h;exact app _ (hf.scope (.inl c2)) c.1
  ·rw[if_neg c]at h;cases h
 rw[if_neg c2]at h;by_cases c3:n.op=32
 ·rw[if_pos c3]at h;by_cases c:g.length=0\/(g[g.length-1]?.getD bg.z).tr=false
  ·rw[if_pos c]at h;cases h
  ·rw[if_neg c]at h;cases h;exact tk
 rw[if_neg c3]at h;by_cases c4:n.op=34\/n.op=35\/n.op=36
 ·rw[if_pos c4]at h;by_cases c:g.length=0\/(g[g.length-1]?.getD bg.z).tr=true\/(n.op=34/\dS g n.fa=false)
  ·rw[if_pos c]at h;cases h
  rw[if_neg c]at h;by_cases c5:n.op=34
  ·rw[if_pos c5]at h;cases h;refine⟨by simpa using hl,fun i hi=>?_⟩;have hi:i<g.length:=by simpa using hi
   by_cases e:i=g.length-1
   ·aj e
    rw[List.getElem?_set_self (by omega)];exact hf.scope (.inr c5)
   ·rw[List.getElem?_set_ne (by omega)];exact hk i hi
  rw[if_neg c5]at h;by_cases c6:n.op=36
  ·rw[if_pos c6]at h;cases h;exact tk
  ·rw[if_neg c6]at h;cases h;exact⟨hl,hk⟩
 ·rw[if_neg c4]at h;cases h;exact⟨hl,hk⟩
theorem ri (n:aA)(t:List Int)(h:n.fb.toNat<=t.length):(dI n t).length=t.length:=by
 unfold dI;simp;omega
theorem tY {n:aA}{a R N:Nat}{s:fL}{t:List Int}{g:List bg}(hf:wZ n a R N)(hs:Gk R s)(ht:t.length=R)(hg:g.length<=50/\∀ i,i<g.length->(g[i]?.getD bg.z).keep<=R) :
  ∀ x,x∈bK n a s t g->x.1<N/\Gk R x.2:=by
 intro x hx;unfold bK at hx;rw[List.mem_append]at hx;rcases hx with hx | hx
 ·by_cases c:de n=true
  ·rw[if_pos c]at hx;rw[List.mem_singleton]at hx
   aj hx
   exact⟨hf.next c,ht,hg.1,hg.2⟩
  ·rw[if_neg c]at hx;cases hx
 by_cases c1:n.op=19
 ·rw[if_pos c1,List.mem_singleton]at hx
  aj hx
  exact⟨hf.jump (.inl c1),ht,hg.1,hg.2⟩
 rw[if_neg c1]at hx;by_cases c2:n.op=20\/n.op=21\/n.op=38\/n.op=39
 ·rw[if_pos c2,List.mem_singleton]at hx
  aj hx
  exact⟨hf.jumpB (by omega),ht,hg.1,hg.2⟩
 rw[if_neg c2]at hx;by_cases c3:n.op=41
 ·rw[if_pos c3,List.mem_singleton]at hx
  aj hx
  exact⟨hf.jumpB (by omega),by simpa using ht,hg.1,hg.2⟩
 rw[if_neg c3]at hx;by_cases c4:n.op=31
 ·rw[if_pos c4,List.mem_singleton]at hx
  aj hx
  refine⟨hf.jump (.inr c4),?_,hs.many,hs.keep⟩;rw[show(fL.mk (dI n s.types) s.guards).types=dI n s.types from rfl,ri _ _ (by have:=hf.try_ c4;have:=hs.types;omega)];exact hs.types
 ·rw[if_neg c4]at hx;cases hx
def cnt (p:Nat->Bool):Nat->Nat
 | 0=>0
 | n+1=>cnt p n+(if p n then 1 else 0)
theorem kV {p q:Nat->Bool}:∀ n,(∀ i,i<n->p i=q i)->cnt p n=cnt q n
 | 0,_=>rfl
 | n+1,h=>by show cnt p n+_=cnt q n+_;rw[kV n (fun i hi=>h i (by omega)),h n (by omega)]
theorem yg {p:Nat->Bool}{i:Nat}(hp:p i=true):∀ n,i<n->cnt (bZ p i false) n+1=cnt p n
 | 0,h=>absurd h (Nat.not_lt_zero _)
 | n+1,h=>by
  show cnt (bZ p i false) n+(if bZ p i false n then 1 else 0)+1=cnt p n+(if p n then 1 else 0);by_cases e:i=n
  ·aj e
   rw[kV i (q:=p) (fun j hj=>by simp[bZ];intro e;omega)];simp[bZ,hp]
  ·have e':¬n=i:=fun h=>e h.symm;have:=yg hp n (by omega);simp only[bZ,e',if_false];omega
theorem Kb {p:Nat->Bool}{i:Nat}(hp:p i=false):∀ n,i<n->cnt (bZ p i true) n=cnt p n+1
 | 0,h=>absurd h (Nat.not_lt_zero _)
 | n+1,h=>by
  show cnt (bZ p i true) n+(if bZ p i true n then 1 else 0)=cnt p n+(if p n then 1 else 0)+1;by_cases e:i=n
  ·aj e
   rw[kV i (q:=p) (fun j hj=>by simp[bZ];intro e;omega)];simp[bZ,hp]
  ·have e':¬n=i:=fun h=>e h.symm;have:=Kb hp n (by omega);simp only[bZ,e',if_false];omega
theorem GT {p:Nat->Bool}{i:Nat}(n:Nat)(h:i<n):cnt (bZ p i true) n<=cnt p n+1:=by
 cases hp:p i with
 | false=>rw[Kb hp n h];exact n_
 | true=>
  rw[kV n (q:=p) (fun j hj=>by
   by_cases e:j=i
   ·aj e;simp[bZ,hp]
   ·simp[bZ,e])]
  omega
def mR (σ:dX)(i:Nat):Bool:=(σ.st i).isNone
def bB (N:Nat)(σ:dX):Nat:=2 * cnt (mR σ) N+cnt σ.due N
theorem Gv {N:Nat}{σ σ':dX}{x:Nat×fL}(hx:x.1<N)(h:gO σ x=some σ'):bB N σ'<=bB N σ:=by
 unfold gO at h;cases e:σ.st x.1 with
 | none=>
  rw[e]at h;cases h;have h1:cnt (mR ⟨bZ σ.st x.1 (some x.2),bZ σ.due x.1 true⟩) N+1=cnt (mR σ) N:=by
   rw[kV N (q:=bZ (mR σ) x.1 false) (fun j hj=>by
    by_cases c:j=x.1
    ·aj c;simp[mR,bZ]
    ·simp[mR,bZ,c])]
   exact yg (by simp[mR,e]) N hx
  have h2:cnt (dX.mk (bZ σ.st x.1 (some x.2)) (bZ σ.due x.1 true)).due N<=cnt σ.due N+1:=GT N hx;unfold bB;omega
 | some s=>
  rw[e]at h;change (if mT s x.2=true then some σ else none)=some σ' at h;split at h
  ·cases h;exact n_
  ·cases h
theorem Fa {R N:Nat}{σ σ':dX}{x:Nat×fL}(hx:x.1<N/\Gk R x.2)(hσ:oV R N σ)(h:gO σ x=some σ'):oV R N σ':=by
 unfold gO at h;cases e:σ.st x.1 with
 | none=>
  rw[e]at h;cases h;refine⟨fun i s hi=>?_,fun i hi=>?_⟩
  ·change bZ σ.st x.1 (some x.2) i=some s at hi;unfold bZ at hi;split at hi
   ·rename_i c;aj c;cases hi;exact hx
   ·exact hσ.st i s hi
  ·change bZ σ.due x.1 true i=true at hi;show i<N/\bZ σ.st x.1 (some x.2) i≠none;unfold bZ at hi ⊢;by_cases c:i=x.1
   ·aj c;exact⟨hx.1,by simp⟩
   ·rw[if_neg c]at hi ⊢;exact hσ.due i hi
 | some s=>
  rw[e]at h;change (if mT s x.2=true then some σ else none)=some σ' at h;split at h
  ·cases h;exact hσ
  ·cases h
theorem xI {R N:Nat}:∀{F:List (Nat×fL)}{σ σ':dX},(∀ x,x∈F->x.1<N/\Gk R x.2)->oV R N σ->fk F σ=.inr σ'->oV R N σ'/\bB N σ'<=bB N σ
 | [],σ,σ',_,hσ,h=>by cases h;exact⟨hσ,n_⟩
 | x::F,σ,σ',hF,hσ,h=>by
  change (match gO σ x with | none=>(Sum.inl x.1:Nat ⊕ dX) | some σ'=>fk F σ')=.inr σ' at h;cases e:gO σ x with
  | none=>rw[e]at h;cases h
  | some σ1=>
   rw[e]at h;have hx:=hF x (List.mem_cons_self ..);obtain⟨h1,h2⟩:=xI (fun y hy=>hF y (List.mem_cons_of_mem _ hy)) (Fa hx hσ e) h;exact⟨h1,Nat.le_trans h2 (Gv hx.1 e)⟩
theorem pE (x:ak)(hn:0<x.ins.length)(hr:0<=x.regs):oV x.regs.toNat x.ins.length (jb x):=by
 refine⟨fun i s hi=>?_,fun i hi=>?_⟩
 ·change bZ (fun _=>none) 0 (some (fL.mk (dA x) [])) i=some s at hi;unfold bZ at hi;split at hi
  ·rename_i c;aj c;cases hi;exact⟨hn,by simp[dA],by simp,fun i hi=>by simp at hi⟩
  ·cases hi
 ·change bZ (fun _=>false) 0 true i=true at hi;show i<_/\bZ (fun _=>none) 0 (some (fL.mk (dA x) [])) i≠none;unfold bZ at hi ⊢;split at hi
  ·rename_i c;aj c;exact⟨hn,by simp⟩
  ·cases hi
theorem oV.off {R N a:Nat}{σ:dX}(h:oV R N σ):oV R N ⟨σ.st,bZ σ.due a false⟩:=
 ⟨h.st,fun i hi=>by
  change bZ σ.due a false i=true at hi;unfold bZ at hi;split at hi
  ·cases hi
  ·exact h.due i hi⟩
theorem IW {N a:Nat}{σ:dX}(h:di σ N a):bB N ⟨σ.st,bZ σ.due a false⟩+1=bB N σ:=by
 have:=yg h.2.1 N h.1;show 2 * cnt (mR ⟨σ.st,bZ σ.due a false⟩) N+cnt (bZ σ.due a false) N+1=2 * cnt (mR σ) N+cnt σ.due N;have e:mR ⟨σ.st,bZ σ.due a false⟩=mR σ:=rfl;rw[e];omega
theorem uA {l:List ak}{x:ak}{R a:Nat}{σ σ':dX}(hf:wZ (aT x a) a R x.ins.length)(hσ:oV R x.ins.length σ)(ha:di σ x.ins.length a)(h:fT l x σ a=.inr σ'):oV R x.ins.length σ'/\bB x.ins.length σ'<bB x.ins.length σ:=by
 unfold fT at h;cases e:σ.st a with
 | none=>exact absurd e (hσ.due a ha.2.1).2
 | some s=>
  rw[e]at h;have hs:=(hσ.st a s e).2;change (match bI l (aT x a) s.types with | none=>(Sum.inl (10,a):(Int×Nat) ⊕ dX) | some r=>_)=_ at h;cases e1:bI l (aT x a) s.types with
  | none=>rw[e1]at h;cases h
  | some r=>
   rw[e1]at h;change (match aQ (aT x a) s.guards with | none=>(Sum.inl (11,a):(Int×Nat) ⊕ dX) | some g=>_)=_ at h;cases e2:aQ (aT x a) s.guards with
   | none=>rw[e2]at h;cases h
   | some g=>
    rw[e2]at h;change (if _ then _ else _)=_ at h;split at h
    ·cases e3:fk (bK (aT x a) a s (bh (aT x a) r.types) g) ⟨σ.st,bZ σ.due a false⟩with
     | inl y=>rw[e3]at h;cases h
     | inr σ2=>
      rw[e3]at h;cases h;have ht:(bh (aT x a) r.types).length=R:=by rw[lM,od e1];exact hs.types
      obtain⟨h1,h2⟩:=xI (tY hf hs ht (pf e2 hf hs.many hs.keep)) hσ.off e3;have:=IW ha;exact⟨h1,by omega⟩
    ·cases h
end Go.Proofs.YtcjfjflljdojlaaGreatDoor
namespace Go.Proofs.YtcjfjflljdojlaaGreatDoor
open Go.RowKit
def ja:Code->Option Code
 | .loop c=>some c
 | .seq a b=>match ja a with
  | some c=>some c
  | none=>ja b
 | .block _ c=>ja c
 | .scope c=>ja c
 | .cond _ a b=>match ja a with
  | some c=>some c
  | none=>ja b
 | _=>none
theorem rY {r:List Nat}{n:aA}{s:gX}{k:Nat}(h:aX r n s k=none):∀ d,aX r n s (k+d)=none
 | 0=>h
 | d+1=>by
  have ih:=rY h d;show(match aX r n s (k+d)with | none=>none | some s'=>_)=none;rw[ih]
theorem ey {r:List Nat}{n:aA}{s s':gX}{k:Nat}(h:aX r n s k=some s'):aX r n s (k+1)=gK (r[k]?.getD 0) (dm n k) s':=by
 show(match aX r n s k with | none=>none | some s'=>_)=_;rw[h]
theorem fO {l:List ak}{n:aA}{r:List Nat}{t:List Int}(hr:bj n.op=some r){k:Nat}(h:aX r n ⟨t,[],[]⟩ k=none)(hk:k<=4):bI l n t=none:=by
 unfold bI;have e:(bj n.op).getD []=r:=by rw[hr];rfl
 rw[e];obtain⟨d,hd⟩:∃ d,4=k+d:=⟨4-k,by omega⟩;rw[hd,rY h d]
theorem qs {q:Nat}{x:Int}{s:gX}(h:(cN q).1=0):gK q x s=some s:=by unfold gK;rw[if_pos h]
theorem qi {q:Nat}{x W:Int}{b:Bool}{s:gX}(hw:cN q=(W,b))(h0:W≠0)(h:bb s.types (eU b x)≠W):gK q x s=none:=by
 unfold gK;rw[hw];simp only;rw[if_neg h0,if_pos h]
theorem BT {q:Nat}{x W:Int}{s:gX}(h:q=2/\W=1\/q=3/\W=3):gK q x s=if bb s.types (eU true x)≠W then none else if x<0 then(if eU true x∈s.stay then none else some ⟨s.types.set (eU true x) 0,s.taken++[eU true x],s.stay⟩)else some s:=by
 rcases h with⟨rfl,rfl⟩ | ⟨rfl,rfl⟩
 ·have e:cN 2=(1,true):=rfl;unfold gK;rw[e];simp
 ·have e:cN 3=(3,true):=rfl;unfold gK;rw[e];simp
theorem wH {q:Nat}{x W:Int}{s:gX}(h:q=4/\W=1\/q=5/\W=2\/q=6/\W=3)(ht:bb s.types x.toNat=W):gK q x s=some ⟨s.types,s.taken,s.stay++[x.toNat]⟩:=by
 rcases h with⟨rfl,rfl⟩ | ⟨rfl,rfl⟩ | ⟨rfl,rfl⟩
 ·have e:cN 4=(1,false):=rfl;unfold gK;rw[e];simp[eU,ht]
 ·have e:cN 5=(2,false):=rfl;unfold gK;rw[e];simp[eU,ht]
 ·have e:cN 6=(3,false):=rfl;unfold gK;rw[e];simp[eU,ht]
theorem JI {x:Int}{s:gX}(ht:bb s.types x.toNat=1):gK 18 x s=if bb s.types (x.toNat+1)≠1 then none else if bb s.types (x.toNat+2)≠1 then none else some ⟨s.types,s.taken,s.stay++[x.toNat]⟩:=by
 have e:cN 18=(1,false):=rfl;unfold gK;rw[e];simp[eU,ht]
theorem JT {x:Int}{s:gX}(ht:bb s.types x.toNat=1):gK 20 x s=if bb s.types (x.toNat+1)≠1 then none else some ⟨s.types,s.taken,s.stay++[x.toNat]⟩:=by
 have e:cN 20=(1,false):=rfl;unfold gK;rw[e];simp[eU,ht]
theorem Ji {x:Int}{s:gX}(ht:bb s.types x.toNat=1):gK 19 x s=if bb s.types (x.toNat+1)≠0 then none else some ⟨s.types,s.taken++[x.toNat],s.stay++[x.toNat]⟩:=by
 have e:cN 19=(1,false):=rfl;unfold gK;rw[e];simp[eU,ht]
theorem tB {q more:Nat}{W:Int}{s:gX}{R:Nat}(h:q=18/\W=1/\more=2\/q=20/\W=1/\more=1\/(q=4/\W=1\/q=5/\W=2\/q=6/\W=3)/\more=0)(ht:bb s.types R=W) :
  (∀ d,1<=d->d<=more->bb s.types (R+d)≠1->gK q (R:Int) s=none)/\((∀ d,1<=d->d<=more->bb s.types (R+d)=1)->gK q (R:Int) s=some ⟨s.types,s.taken,s.stay++[R]⟩):=by
 have e:((R:Nat):Int).toNat=R:=rfl;rcases h with⟨rfl,rfl,rfl⟩ | ⟨rfl,rfl,rfl⟩ | ⟨h,rfl⟩
 ·have h1:=JI (x:=(R:Int)) (s:=s) ht;rw[e]at h1;refine⟨fun d d1 d2 hd=>?_,fun hd=>?_⟩
  ·rw[h1];have hc:d=1\/d=2:=by omega
   rcases hc with rfl | rfl
   ·rw[if_pos hd]
   ·by_cases c:bb s.types (R+1)≠1
    ·rw[if_pos c]
    ·rw[if_neg c,if_pos hd]
  ·rw[h1,if_neg (fun c=>c (hd 1 (by omega) (by omega))),if_neg (fun c=>c (hd 2 (by omega) (by omega)))]
 ·have h1:=JT (x:=(R:Int)) (s:=s) ht;rw[e]at h1;refine⟨fun d d1 d2 hd=>?_,fun hd=>?_⟩
  ·obtain rfl:d=1:=by omega
   rw[h1,if_pos hd]
  ·rw[h1,if_neg (fun c=>c (hd 1 (by omega) (by omega)))]
 ·refine⟨fun d d1 d2 hd=>absurd d2 (by omega),fun _=>?_⟩;have:=wH (x:=(R:Int)) (s:=s) h ht;rw[e]at this;exact this
def mX (r:List Nat)(n:aA)(nt:Nat):Prop:=∀ k,k<4->(r[k]?.getD 0=2\/r[k]?.getD 0=3->-(nt:Int)<=dm n k/\dm n k<nt)/\(r[k]?.getD 0=4\/r[k]?.getD 0=5\/r[k]?.getD 0=6->0<=dm n k/\dm n k<nt)/\(r[k]?.getD 0=18->0<=dm n k/\dm n k+2<nt)/\(r[k]?.getD 0=19\/r[k]?.getD 0=20->0<=dm n k/\dm n k+1<nt)
def ye (S:Option gX)(base g nt ct:Nat)(w:World)(e:Ending)(w':World):Prop:=
 ∃(v:Value) (b:Bool),e=.returned (.tuple #[v,.bool b])/\(b=true->∃ s,S=some s/\ar w' base (.slice (some (a_ g 0)) nt ct) s.types/\ar w' w.heap.size v (aH s.taken))/\(b=false->S=none)/\Below base w w'
theorem ui {S:Option gX}{base g nt ct:Nat}{w w':World}{v:Value}(h:S=none)(hb:Below base w w'):ye S base g nt ct w (.returned (.tuple #[v,.bool false])) w':=⟨v,false,rfl,fun h=>Bool.noConfusion h,fun _=>h,hb⟩
def js (nt k:Nat)(s:gX):Prop:=nt=s.types.length/\s.taken.length<=2 * k/\s.stay.length<=k
def OZ (w:World)(base g nt ct bT b1 b2:Nat)(a:o_)(m c:Nat)(n:aA)(r:List Nat)(t:List Int)(gg:Nat)(tv sv i:Value)(wr:World):Prop:=
 ∃(k:Nat) (s:gX),k+gg=4/\i=i_ k/\nY w base g nt ct bT b1 b2 a m c n r s tv sv wr/\Hid (aX r n ⟨t,[],[]⟩ k=some s)/\Hid (js nt k s)
def zb (op fa fb fc fd p:Int)(r:List Nat)(t:List Int)(base g nt ct m c bT b1 b2:Nat)(a:o_)(w:World)(J:Nat->Act->World->Prop):Prop:=
 ∀(k:Nat) (a':Act) (w':World),(∃ u8 u9 u10 u11 u13 u14 u15 u16 u17 u19 u20 u21 u30 u31 u32 u33 u34 u35 u36 u37 u38 u39 u40 u41 u42 u43 u44 u45 u46 u47 u48 u49 u50 u51 u52 u53 u54 u55 u56 u57 u58 u59 u60 u61 u62 u63 u64 u65 u66 u67 u68 u69 u70 u71 u72 u73 u74 u75 u76 u77 u78 u79 u80 u81 u82 u83 u84 u85 u86 u87 u88 u89 u90 u91 u92 u93 u94 u95 u96 u97 u98 u99 u100 u101 u102 u103 u104 u105 u106 u107 u108 u109 u110 u111 u112 u113 u114 u115 u116 u117 u118 u119 u120 u121 u122 u123 u124:Value,OZ w base g nt ct bT b1 b2 a m c ⟨op,fa,fb,fc,fd⟩ r t k u10 u11 u30 w'/\a'=⟨List.toArray (.agg #[.slice a m c] :: i_ p :: .agg #[i_ op,i_ fa,i_ fb,i_ fc,i_ fd] :: .slice (some (a_ g 0)) nt ct :: .pointer (some (a_ w.heap.size 0))::undef :: .pointer (some (a_ (w.heap.size+1) 0))::undef::u8::u9::u10::u11 :: .slice (some (a_ b1 0)) 4 4::u13::u14::u15::u16::u17::undef::u19::u20::u21::undef::undef :: .pointer (some (a_ (w.heap.size+1) 0)) :: i_ op :: .slice (some (a_ b1 0)) 4 4 :: .agg #[i_ op,i_ fa,i_ fb,i_ fc,i_ fd] :: .slice (some (a_ b2 0)) 4 4 :: i_ 4::u30::u31::u32::u33::u34::u35::u36::u37::u38::u39::u40::u41::u42::u43::u44::u45::u46::u47::u48::u49::u50::u51::u52::u53::u54::u55::u56::u57::u58::u59::u60::u61::u62::u63::u64::u65::u66::u67::u68::u69::u70::u71::u72::u73::u74::u75::u76::u77::u78::u79::u80::u81::u82::u83::u84::u85::u86::u87::u88::u89::u90::u91::u92::u93::u94::u95::u96::u97::u98::u99::u100::u101::u102::u103::u104::u105::u106::u107::u108::u109::u110::u111::u112::u113::u114::u115::u116::u117::u118::u119::u120::u121::u122::u123::u124::undef::undef::undef::undef::undef::undef::undef::undef::undef::undef::undef::undef::undef::undef::undef::undef::undef::undef::undef::undef::undef::undef::undef::undef::undef::undef::undef::[]),[]⟩)->J k a' w'
def gd (l:List ak)(op fa fb fc fd p:Int)(t:List Int)(base g nt ct m c b1 b2:Nat)(a:o_)(w:World)(k:Nat)(K K2:Act->World->Prop)(wr:World)(u8 u9 u10 u11 u13 u14 u15 u16 u17 u19 u20 u21 u31 u32 u33 u34 u35 u36 u37 u38 u39 u40 u41 u42 u43 u44 u45 u46 u47 u48 u49 u50 u51 u52 u53 u54 u55 u56 u57 u58 u59 u60 u61 u62 u63 u64 u65 u66 u67 u68 u69 u70 u71 u72 u73 u74 u75 u76 u77 u78 u79 u80 u81 u82 u83 u84 u85 u86 u87 u88 u89 u90 u91 u92 u93 u94 u95 u96 u97 u98 u99 u100 u101 u102 u103 u104 u105 u106 u107 u108 u109 u110 u111 u112 u113 u114 u115 u116 u117 u118 u119 u120 u121 u122 u123 u124:Value):Prop:=
 Code.wp Tryz.prog ((Tryz.f58.body.bind ja).getD .skip) (Exit.then K (Exit.inBlock 0 (Exit.then K2 (bodyPost Tryz.prog Tryz.f58 (ye (bI l ⟨op,fa,fb,fc,fd⟩ t) base g nt ct w))))) ⟨List.toArray (.agg #[.slice a m c] :: i_ p :: .agg #[i_ op,i_ fa,i_ fb,i_ fc,i_ fd] :: .slice (some (a_ g 0)) nt ct :: .pointer (some (a_ w.heap.size 0))::undef :: .pointer (some (a_ (w.heap.size+1) 0))::undef::u8::u9::u10::u11 :: .slice (some (a_ b1 0)) 4 4::u13::u14::u15::u16::u17::undef::u19::u20::u21::undef::undef :: .pointer (some (a_ (w.heap.size+1) 0)) :: i_ op :: .slice (some (a_ b1 0)) 4 4 :: .agg #[i_ op,i_ fa,i_ fb,i_ fc,i_ fd] :: .slice (some (a_ b2 0)) 4 4 :: i_ 4 :: i_ (k:Int)::u31::u32::u33::u34::u35::u36::u37::u38::u39::u40::u41::u42::u43::u44::u45::u46::u47::u48::u49::u50::u51::u52::u53::u54::u55::u56::u57::u58::u59::u60::u61::u62::u63::u64::u65::u66::u67::u68::u69::u70::u71::u72::u73::u74::u75::u76::u77::u78::u79::u80::u81::u82::u83::u84::u85::u86::u87::u88::u89::u90::u91::u92::u93::u94::u95::u96::u97::u98::u99::u100::u101::u102::u103::u104::u105::u106::u107::u108::u109::u110::u111::u112::u113::u114::u115::u116::u117::u118::u119::u120::u121::u122::u123::u124::undef::undef::undef::undef::undef::undef::undef::undef::undef::undef::undef::undef::undef::undef::undef::undef::undef::undef::undef::undef::undef::undef::undef::undef::undef::undef::undef::[]),[]⟩ wr
theorem Mq (l:List ak)(op fa fb fc fd p:Int)(r:List Nat)(t:List Int)(base g nt ct m c bT b1 b2:Nat)(a:o_)(w:World)
  (my:Hid (CQ w base g bT b1 b2))(HR:Hid (bj op=some r))(aP:nt<=250)(gk k:Nat)(s:gX)(wr:World)(u8 u9 u10 u11 u13 u14 u15 u16 u17 u19 u20 u21 u31 u32 u33 u34 u35 u36 u37 u38 u39 u40 u41 u42 u43 u44 u45 u46 u47 u48 u49 u50 u51 u52 u53 u54 u55 u56 u57 u58 u59 u60 u61 u62 u63 u64 u65 u66 u67 u68 u69 u70 u71 u72 u73 u74 u75 u76 u77 u78 u79 u80 u81 u82 u83 u84 u85 u86 u87 u88 u89 u90 u91 u92 u93 u94 u95 u96 u97 u98 u99 u100 u101 u102 u103 u104 u105 u106 u107 u108 u109 u110 u111 u112 u113 u114 u115 u116 u117 u118 u119 u120 u121 u122 u123 u124:Value)(hk:k+gk=4)(gz:k<4)
  (HW:Hid (nY w base g nt ct bT b1 b2 a m c ⟨op,fa,fb,fc,fd⟩ r s u10 u11 wr))(hS:Hid (aX r ⟨op,fa,fb,fc,fd⟩ ⟨t,[],[]⟩ k=some s))(hL:Hid (js nt k s))(q:Nat)(x:Int)(HQ:Hid (r[k]?.getD 0=q))(HX:Hid (dm ⟨op,fa,fb,fc,fd⟩ k=x))
  (hz:(cN q).1=0)
  (J:Nat->Act->World->Prop)(K K2:Act->World->Prop)
  (hJ:zb op fa fb fc fd p r t base g nt ct m c bT b1 b2 a w J)
  (hK:∀(a':Act)(w':World),Handed J gk a' w'->K a' w') :
  gd l op fa fb fc fd p t base g nt ct m c b1 b2 a w k K K2 wr u8 u9 u10 u11 u13 u14 u15 u16 u17 u19 u20 u21 u31 u32 u33 u34 u35 u36 u37 u38 u39 u40 u41 u42 u43 u44 u45 u46 u47 u48 u49 u50 u51 u52 u53 u54 u55 u56 u57 u58 u59 u60 u61 u62 u63 u64 u65 u66 u67 u68 u69 u70 u71 u72 u73 u74 u75 u76 u77 u78 u79 u80 u81 u82 u83 u84 u85 u86 u87 u88 u89 u90 u91 u92 u93 u94 u95 u96 u97 u98 u99 u100 u101 u102 u103 u104 u105 u106 u107 u108 u109 u110 u111 u112 u113 u114 u115 u116 u117 u118 u119 u120 u121 u122 u123 u124:=by
 unfold zb at hJ;unfold gd;have y1:=(aa HW).roles.cell (i:=k) gz;rw[HQ.out]at y1;have y2:=(aa HW).flds.cell (i:=k) gz;rw[HX.out]at y2;have y3:=(aa HW).roles.lt;have y4:=(aa HW).flds.lt;have ml:q<=21:=by rw[<-HQ.out];exact fD HR.out k
 have WA:=af (fun W=>ex q ml W);have eN:Hid (aX r ⟨op,fa,fb,fc,fd⟩ ⟨t,[],[]⟩ (k+1)=gK q x s):=by show _=_;rw[ey hS.out,HQ.out,HX.out]
 have jA:Hid (gK q x s=none->bI l ⟨op,fa,fb,fc,fd⟩ t=none):=fun h=>fO HR.out (by rw[eN.out];exact h) (show k+1<=4 by omega)
 conv=>arg 2;whnf
 have SN:Hid (aX r ⟨op,fa,fb,fc,fd⟩ ⟨t,[],[]⟩ (k+1)=some s):=by show _=_;rw[eN.out,qs hz]
 have LN:Hid (js nt (k+1) s):=⟨hL.out.1,by have:=hL.out.2.1;omega,by have:=hL.out.2.2;omega⟩;rw[hz]at WA;clear eN jA hz;go_wp2_with fail
 refine(aa WA _).mono ?_;rintro e w3 ⟨rfl,rfl⟩;go_wp2_with fail
 go_roundg (4-(k+1))
 case measure=>omega
 case rel=>exact⟨k+1,s,by omega,by go_num,aa HW,SN,LN⟩
theorem rZ (l:List ak)(op fa fb fc fd p:Int)(r:List Nat)(t:List Int)(base g nt ct m c bT b1 b2:Nat)(a:o_)(w:World)
  (my:Hid (CQ w base g bT b1 b2))(HR:Hid (bj op=some r))(aP:nt<=250)(gk k:Nat)(s:gX)(wr:World)(u8 u9 u10 u11 u13 u14 u15 u16 u17 u19 u20 u21 u31 u32 u33 u34 u35 u36 u37 u38 u39 u40 u41 u42 u43 u44 u45 u46 u47 u48 u49 u50 u51 u52 u53 u54 u55 u56 u57 u58 u59 u60 u61 u62 u63 u64 u65 u66 u67 u68 u69 u70 u71 u72 u73 u74 u75 u76 u77 u78 u79 u80 u81 u82 u83 u84 u85 u86 u87 u88 u89 u90 u91 u92 u93 u94 u95 u96 u97 u98 u99 u100 u101 u102 u103 u104 u105 u106 u107 u108 u109 u110 u111 u112 u113 u114 u115 u116 u117 u118 u119 u120 u121 u122 u123 u124:Value)(hk:k+gk=4)(gz:k<4)
  (HW:Hid (nY w base g nt ct bT b1 b2 a m c ⟨op,fa,fb,fc,fd⟩ r s u10 u11 wr))(hS:Hid (aX r ⟨op,fa,fb,fc,fd⟩ ⟨t,[],[]⟩ k=some s))(hL:Hid (js nt k s))(q:Nat)(x:Int)(HQ:Hid (r[k]?.getD 0=q))(HX:Hid (dm ⟨op,fa,fb,fc,fd⟩ k=x))
  (R:Nat)(W:Int)(hw:cN q=(W,true))(hW0:W≠0)(hneg:x<0)(hR:(-1:Int)-x=R)(hRn:R<nt)(eA:bb s.types R≠W)
  (J:Nat->Act->World->Prop)(K K2:Act->World->Prop)
  (hJ:zb op fa fb fc fd p r t base g nt ct m c bT b1 b2 a w J)
  (hK:∀(a':Act)(w':World),Handed J gk a' w'->K a' w') :
  gd l op fa fb fc fd p t base g nt ct m c b1 b2 a w k K K2 wr u8 u9 u10 u11 u13 u14 u15 u16 u17 u19 u20 u21 u31 u32 u33 u34 u35 u36 u37 u38 u39 u40 u41 u42 u43 u44 u45 u46 u47 u48 u49 u50 u51 u52 u53 u54 u55 u56 u57 u58 u59 u60 u61 u62 u63 u64 u65 u66 u67 u68 u69 u70 u71 u72 u73 u74 u75 u76 u77 u78 u79 u80 u81 u82 u83 u84 u85 u86 u87 u88 u89 u90 u91 u92 u93 u94 u95 u96 u97 u98 u99 u100 u101 u102 u103 u104 u105 u106 u107 u108 u109 u110 u111 u112 u113 u114 u115 u116 u117 u118 u119 u120 u121 u122 u123 u124:=by
 unfold zb at hJ;unfold gd;have y1:=(aa HW).roles.cell (i:=k) gz;rw[HQ.out]at y1;have y2:=(aa HW).flds.cell (i:=k) gz;rw[HX.out]at y2;have y3:=(aa HW).roles.lt;have y4:=(aa HW).flds.lt;have ml:q<=21:=by rw[<-HQ.out];exact fD HR.out k
 have WA:=af (fun W=>ex q ml W);have eN:Hid (aX r ⟨op,fa,fb,fc,fd⟩ ⟨t,[],[]⟩ (k+1)=gK q x s):=by show _=_;rw[ey hS.out,HQ.out,HX.out]
 have jA:Hid (gK q x s=none->bI l ⟨op,fa,fb,fc,fd⟩ t=none):=fun h=>fO HR.out (by rw[eN.out];exact h) (show k+1<=4 by omega)
 conv=>arg 2;whnf
 obtain⟨g',iM,jE,_,fm,aE⟩:=(aa HW).types.at (by rw[<-hL.out.1];omega);have gQ:g=g':=by injection jE with h;injection h with h;exact congrArg Addr.block h
 aj gQ
 have cR:=aE R (by have:=hL.out.1;omega);have RR:Hid (bI l ⟨op,fa,fb,fc,fd⟩ t=none):=jA.out (qi hw hW0 (by unfold eU;rw[if_pos ⟨rfl,hneg⟩,show(-1-x).toNat=R by omega];exact eA));have gV:bb s.types R=s.types[R]?.getD 0:=rfl;rw[gV]at eA;clear aE jE gV jA eN;generalize s.types[R]?.getD 0=ty at *;rw[hw]at WA;have abD:(W==0)=false:=by simpa using hW0
 have tb:(ty != W)=true:=by simpa using eA
 have Lx:decide (x<0)=true:=decide_eq_true hneg;clear hW0 eA hw;go_wp2_with fail
 refine(aa WA _).mono ?_;rintro e w3 ⟨rfl,rfl⟩;go_wp2_with fail
 go_ret2
 exact ui RR.out (aa HW).old
theorem fM (l:List ak)(op fa fb fc fd p:Int)(r:List Nat)(t:List Int)(base g nt ct m c bT b1 b2:Nat)(a:o_)(w:World)
  (my:Hid (CQ w base g bT b1 b2))(HR:Hid (bj op=some r))(aP:nt<=250)(gk k:Nat)(s:gX)(wr:World)(u8 u9 u10 u11 u13 u14 u15 u16 u17 u19 u20 u21 u31 u32 u33 u34 u35 u36 u37 u38 u39 u40 u41 u42 u43 u44 u45 u46 u47 u48 u49 u50 u51 u52 u53 u54 u55 u56 u57 u58 u59 u60 u61 u62 u63 u64 u65 u66 u67 u68 u69 u70 u71 u72 u73 u74 u75 u76 u77 u78 u79 u80 u81 u82 u83 u84 u85 u86 u87 u88 u89 u90 u91 u92 u93 u94 u95 u96 u97 u98 u99 u100 u101 u102 u103 u104 u105 u106 u107 u108 u109 u110 u111 u112 u113 u114 u115 u116 u117 u118 u119 u120 u121 u122 u123 u124:Value)(hk:k+gk=4)(gz:k<4)
  (HW:Hid (nY w base g nt ct bT b1 b2 a m c ⟨op,fa,fb,fc,fd⟩ r s u10 u11 wr))(hS:Hid (aX r ⟨op,fa,fb,fc,fd⟩ ⟨t,[],[]⟩ k=some s))(hL:Hid (js nt k s))(q:Nat)(x:Int)(HQ:Hid (r[k]?.getD 0=q))(HX:Hid (dm ⟨op,fa,fb,fc,fd⟩ k=x))
  (R:Nat)(W:Int)(b:Bool)(hw:cN q=(W,b))(hW0:W≠0)(hx:x=R)(hRn:R<nt)(eA:bb s.types R≠W)
  (J:Nat->Act->World->Prop)(K K2:Act->World->Prop)
  (hJ:zb op fa fb fc fd p r t base g nt ct m c bT b1 b2 a w J)
  (hK:∀(a':Act)(w':World),Handed J gk a' w'->K a' w') :
  gd l op fa fb fc fd p t base g nt ct m c b1 b2 a w k K K2 wr u8 u9 u10 u11 u13 u14 u15 u16 u17 u19 u20 u21 u31 u32 u33 u34 u35 u36 u37 u38 u39 u40 u41 u42 u43 u44 u45 u46 u47 u48 u49 u50 u51 u52 u53 u54 u55 u56 u57 u58 u59 u60 u61 u62 u63 u64 u65 u66 u67 u68 u69 u70 u71 u72 u73 u74 u75 u76 u77 u78 u79 u80 u81 u82 u83 u84 u85 u86 u87 u88 u89 u90 u91 u92 u93 u94 u95 u96 u97 u98 u99 u100 u101 u102 u103 u104 u105 u106 u107 u108 u109 u110 u111 u112 u113 u114 u115 u116 u117 u118 u119 u120 u121 u122 u123 u124:=by
 unfold zb at hJ;unfold gd;have y1:=(aa HW).roles.cell (i:=k) gz;rw[HQ.out]at y1;have y2:=(aa HW).flds.cell (i:=k) gz;rw[HX.out]at y2;have y3:=(aa HW).roles.lt;have y4:=(aa HW).flds.lt;have ml:q<=21:=by rw[<-HQ.out];exact fD HR.out k
 have WA:=af (fun W=>ex q ml W);have eN:Hid (aX r ⟨op,fa,fb,fc,fd⟩ ⟨t,[],[]⟩ (k+1)=gK q x s):=by show _=_;rw[ey hS.out,HQ.out,HX.out]
 have jA:Hid (gK q x s=none->bI l ⟨op,fa,fb,fc,fd⟩ t=none):=fun h=>fO HR.out (by rw[eN.out];exact h) (show k+1<=4 by omega)
 conv=>arg 2;whnf
 obtain⟨g',iM,jE,_,fm,aE⟩:=(aa HW).types.at (by rw[<-hL.out.1];omega);have gQ:g=g':=by injection jE with h;injection h with h;exact congrArg Addr.block h
 aj gQ
 have cR:=aE R (by have:=hL.out.1;omega)
 aj hx
 have RR:Hid (bI l ⟨op,fa,fb,fc,fd⟩ t=none):=jA.out (qi hw hW0 (by unfold eU;rw[if_neg (by rintro⟨_,h⟩;omega)];exact eA));have gV:bb s.types R=s.types[R]?.getD 0:=rfl;rw[gV]at eA;clear aE jE gV jA eN;generalize s.types[R]?.getD 0=ty at *;rw[hw]at WA;have abD:(W==0)=false:=by simpa using hW0
 have tb:(ty != W)=true:=by simpa using eA
 clear hW0 eA hw;cases b
 all_goals
  go_wp2_with fail
  refine(aa WA _).mono ?_;rintro e w3 ⟨rfl,rfl⟩;go_wp2_with fail
  go_ret2
  exact ui RR.out (aa HW).old
theorem Ak (l:List ak)(op fa fb fc fd p:Int)(r:List Nat)(t:List Int)(base g nt ct m c bT b1 b2:Nat)(a:o_)(w:World)
  (my:Hid (CQ w base g bT b1 b2))(HR:Hid (bj op=some r))(aP:nt<=250)(gk k:Nat)(s:gX)(wr:World)(u8 u9 u10 u11 u13 u14 u15 u16 u17 u19 u20 u21 u31 u32 u33 u34 u35 u36 u37 u38 u39 u40 u41 u42 u43 u44 u45 u46 u47 u48 u49 u50 u51 u52 u53 u54 u55 u56 u57 u58 u59 u60 u61 u62 u63 u64 u65 u66 u67 u68 u69 u70 u71 u72 u73 u74 u75 u76 u77 u78 u79 u80 u81 u82 u83 u84 u85 u86 u87 u88 u89 u90 u91 u92 u93 u94 u95 u96 u97 u98 u99 u100 u101 u102 u103 u104 u105 u106 u107 u108 u109 u110 u111 u112 u113 u114 u115 u116 u117 u118 u119 u120 u121 u122 u123 u124:Value)(hk:k+gk=4)(gz:k<4)
  (HW:Hid (nY w base g nt ct bT b1 b2 a m c ⟨op,fa,fb,fc,fd⟩ r s u10 u11 wr))(hS:Hid (aX r ⟨op,fa,fb,fc,fd⟩ ⟨t,[],[]⟩ k=some s))(hL:Hid (js nt k s))(q:Nat)(x:Int)(HQ:Hid (r[k]?.getD 0=q))(HX:Hid (dm ⟨op,fa,fb,fc,fd⟩ k=x))
  (R:Nat)(W:Int)(jG:q=2/\W=1\/q=3/\W=3)(hx:x=R)(hRn:R<nt)(eA:bb s.types R=W)
  (J:Nat->Act->World->Prop)(K K2:Act->World->Prop)
  (hJ:zb op fa fb fc fd p r t base g nt ct m c bT b1 b2 a w J)
  (hK:∀(a':Act)(w':World),Handed J gk a' w'->K a' w') :
  gd l op fa fb fc fd p t base g nt ct m c b1 b2 a w k K K2 wr u8 u9 u10 u11 u13 u14 u15 u16 u17 u19 u20 u21 u31 u32 u33 u34 u35 u36 u37 u38 u39 u40 u41 u42 u43 u44 u45 u46 u47 u48 u49 u50 u51 u52 u53 u54 u55 u56 u57 u58 u59 u60 u61 u62 u63 u64 u65 u66 u67 u68 u69 u70 u71 u72 u73 u74 u75 u76 u77 u78 u79 u80 u81 u82 u83 u84 u85 u86 u87 u88 u89 u90 u91 u92 u93 u94 u95 u96 u97 u98 u99 u100 u101 u102 u103 u104 u105 u106 u107 u108 u109 u110 u111 u112 u113 u114 u115 u116 u117 u118 u119 u120 u121 u122 u123 u124:=by
 unfold zb at hJ;unfold gd;have y1:=(aa HW).roles.cell (i:=k) gz;rw[HQ.out]at y1;have y2:=(aa HW).flds.cell (i:=k) gz;rw[HX.out]at y2;have y3:=(aa HW).roles.lt;have y4:=(aa HW).flds.lt;have ml:q<=21:=by rw[<-HQ.out];exact fD HR.out k
 have WA:=af (fun W=>ex q ml W);have eN:Hid (aX r ⟨op,fa,fb,fc,fd⟩ ⟨t,[],[]⟩ (k+1)=gK q x s):=by show _=_;rw[ey hS.out,HQ.out,HX.out]
 have jA:Hid (gK q x s=none->bI l ⟨op,fa,fb,fc,fd⟩ t=none):=fun h=>fO HR.out (by rw[eN.out];exact h) (show k+1<=4 by omega)
 conv=>arg 2;whnf
 obtain⟨g',iM,jE,_,fm,aE⟩:=(aa HW).types.at (by rw[<-hL.out.1];omega);have gQ:g=g':=by injection jE with h;injection h with h;exact congrArg Addr.block h
 aj gQ
 have cR:=aE R (by have:=hL.out.1;omega)
 aj hx
 have SN:Hid (aX r ⟨op,fa,fb,fc,fd⟩ ⟨t,[],[]⟩ (k+1)=some s):=by
  show _=_;have e:eU true ((R:Nat):Int)=R:=by unfold eU;rw[if_neg (by omega)];rfl
  rw[eN.out,BT jG,e,if_neg (fun h=>h eA),if_neg (by omega)]
 have LN:Hid (js nt (k+1) s):=⟨hL.out.1,by have:=hL.out.2.1;omega,by have:=hL.out.2.2;omega⟩;have gV:bb s.types R=s.types[R]?.getD 0:=rfl;rw[gV]at eA;have hw:cN q=(W,true):=by rcases jG with⟨rfl,rfl⟩ | ⟨rfl,rfl⟩<;>rfl
 rw[hw]at WA;have hW0:(W==0)=false:=by rcases jG with⟨_,rfl⟩ | ⟨_,rfl⟩<;>rfl
 have VX:((q:Int)==18)=false:=beq_eq_false_iff_ne.2 (by omega);have P7:((q:Int)==20)=false:=beq_eq_false_iff_ne.2 (by omega);have Ry:((q:Int)==19)=false:=beq_eq_false_iff_ne.2 (by omega);clear aE jE gV jA eN;generalize s.types[R]?.getD 0=ty at *;have tb:(ty != W)=false:=by simpa using eA
 have jm:=HW
 aj eA
 clear hw jG;go_wp2_with fail
 refine(aa WA _).mono ?_;rintro e w3 ⟨rfl,rfl⟩;go_wp2_with fail
 go_loopg [21] 0 (fun gg i wr'=>gg=0/\i=i_ 1/\nY w base g nt ct bT b1 b2 a m c ⟨op,fa,fb,fc,fd⟩ r s u10 u11 wr')
 case atStart=>exact⟨rfl,rfl,aa jm⟩
 case round=>
  clear jm;obtain⟨_,rfl,mG⟩:=hrel;have y1:=mG.roles.cell (i:=k) gz;rw[HQ.out]at y1;have y3:=mG.roles.lt;have jm:=af mG;clear mG;go_wp2_with fail
  go_roundg (4-(k+1))
  case measure=>omega
  case rel=>exact⟨k+1,s,by omega,by go_num,aa jm,SN,LN⟩
theorem zP (l:List ak)(op fa fb fc fd p:Int)(r:List Nat)(t:List Int)(base g nt ct m c bT b1 b2:Nat)(a:o_)(w:World)
  (my:Hid (CQ w base g bT b1 b2))(HR:Hid (bj op=some r))(aP:nt<=250)(gk k:Nat)(s:gX)(wr:World)(u8 u9 u10 u11 u13 u14 u15 u16 u17 u19 u20 u21 u31 u32 u33 u34 u35 u36 u37 u38 u39 u40 u41 u42 u43 u44 u45 u46 u47 u48 u49 u50 u51 u52 u53 u54 u55 u56 u57 u58 u59 u60 u61 u62 u63 u64 u65 u66 u67 u68 u69 u70 u71 u72 u73 u74 u75 u76 u77 u78 u79 u80 u81 u82 u83 u84 u85 u86 u87 u88 u89 u90 u91 u92 u93 u94 u95 u96 u97 u98 u99 u100 u101 u102 u103 u104 u105 u106 u107 u108 u109 u110 u111 u112 u113 u114 u115 u116 u117 u118 u119 u120 u121 u122 u123 u124:Value)(hk:k+gk=4)(gz:k<4)
  (HW:Hid (nY w base g nt ct bT b1 b2 a m c ⟨op,fa,fb,fc,fd⟩ r s u10 u11 wr))(hS:Hid (aX r ⟨op,fa,fb,fc,fd⟩ ⟨t,[],[]⟩ k=some s))(hL:Hid (js nt k s))(q:Nat)(x:Int)(HQ:Hid (r[k]?.getD 0=q))(HX:Hid (dm ⟨op,fa,fb,fc,fd⟩ k=x))
  (R:Nat)(W:Int)(jG:q=2/\W=1\/q=3/\W=3)(hneg:x<0)(hR:(-1:Int)-x=R)(hRn:R<nt)(eA:bb s.types R=W)
  (J:Nat->Act->World->Prop)(K K2:Act->World->Prop)
  (hJ:zb op fa fb fc fd p r t base g nt ct m c bT b1 b2 a w J)
  (hK:∀(a':Act)(w':World),Handed J gk a' w'->K a' w') :
  gd l op fa fb fc fd p t base g nt ct m c b1 b2 a w k K K2 wr u8 u9 u10 u11 u13 u14 u15 u16 u17 u19 u20 u21 u31 u32 u33 u34 u35 u36 u37 u38 u39 u40 u41 u42 u43 u44 u45 u46 u47 u48 u49 u50 u51 u52 u53 u54 u55 u56 u57 u58 u59 u60 u61 u62 u63 u64 u65 u66 u67 u68 u69 u70 u71 u72 u73 u74 u75 u76 u77 u78 u79 u80 u81 u82 u83 u84 u85 u86 u87 u88 u89 u90 u91 u92 u93 u94 u95 u96 u97 u98 u99 u100 u101 u102 u103 u104 u105 u106 u107 u108 u109 u110 u111 u112 u113 u114 u115 u116 u117 u118 u119 u120 u121 u122 u123 u124:=by
 unfold zb at hJ;unfold gd;obtain⟨i0,hi,dE,cT,dB⟩:=aN dT;have y1:=(aa HW).roles.cell (i:=k) gz;rw[HQ.out]at y1;have y2:=(aa HW).flds.cell (i:=k) gz;rw[HX.out]at y2;have y3:=(aa HW).roles.lt;have y4:=(aa HW).flds.lt;have ml:q<=21:=by rw[<-HQ.out];exact fD HR.out k
 have WA:=af (fun W=>ex q ml W);have eN:Hid (aX r ⟨op,fa,fb,fc,fd⟩ ⟨t,[],[]⟩ (k+1)=gK q x s):=by show _=_;rw[ey hS.out,HQ.out,HX.out]
 have jA:Hid (gK q x s=none->bI l ⟨op,fa,fb,fc,fd⟩ t=none):=fun h=>fO HR.out (by rw[eN.out];exact h) (show k+1<=4 by omega)
 conv=>arg 2;whnf
 obtain⟨g',iM,jE,_,fm,aE⟩:=(aa HW).types.at (by rw[<-hL.out.1];omega);have gQ:g=g':=by injection jE with h;injection h with h;exact congrArg Addr.block h
 aj gQ
 have cR:=aE R (by have:=hL.out.1;omega);have zR:=(aa HW).types.frozen hL.out.1 R;have YK:Hid (gK q x s=if R∈s.stay then none else some ⟨s.types.set R 0,s.taken++[R],s.stay⟩):=by
  show _=_;have e:eU true x=R:=by unfold eU;rw[if_pos ⟨rfl,hneg⟩];omega
  rw[BT jG,e,if_neg (fun h=>h eA),if_pos hneg]
 have gV:bb s.types R=s.types[R]?.getD 0:=rfl;rw[gV]at eA;have hw:cN q=(W,true):=by rcases jG with⟨rfl,rfl⟩ | ⟨rfl,rfl⟩<;>rfl
 rw[hw]at WA;have hW0:(W==0)=false:=by rcases jG with⟨_,rfl⟩ | ⟨_,rfl⟩<;>rfl
 have VX:((q:Int)==18)=false:=beq_eq_false_iff_ne.2 (by omega);have P7:((q:Int)==20)=false:=beq_eq_false_iff_ne.2 (by omega);have Ry:((q:Int)==19)=false:=beq_eq_false_iff_ne.2 (by omega);have Lx:decide (x<0)=true:=decide_eq_true hneg;clear aE jE gV;generalize s.types[R]?.getD 0=ty at *;have tb:(ty != W)=false:=by simpa using eA
 obtain⟨asv,csv,RJ⟩:=(aa HW).stay.lenV;rw[ba]at RJ;have wn:=hL.out.2.2
 aj eA
 aj RJ
 clear hw jG;go_wp2_with fail
 refine(aa WA _).mono ?_;rintro e w3 ⟨rfl,rfl⟩;go_wp2_with fail
 go_loopg [66] s.stay.length (fun gg i wr'=>∃ j:Nat,j+gg=s.stay.length/\i=i_ j/\nY w base g nt ct bT b1 b2 a m c ⟨op,fa,fb,fc,fd⟩ r s u10 (.slice asv s.stay.length csv) wr'/\Hid (∀ i,i<j->s.stay[i]?.getD 0≠R))
 case atStart=>exact⟨0,by omega,rfl,aa HW,fun i h=>absurd h (Nat.not_lt_zero _)⟩
 case round=>
  clear HW y1 y2 y3 y4 cR zR fm;obtain⟨j,hj,rfl,hW,bN⟩:=hrel;by_cases qC:j<s.stay.length
  ·obtain⟨gs,abO,hgs,_,hgsl,Ip⟩:=hW.stay.at (by rw[ba];omega);rw[ba]at hgs Ip;have cj:=Ip j qC;rw[gS]at cj;injection hgs with hgs1 hgs2 hgs3
   aj hgs1
   obtain rfl:abO=csv:=hgs3.symm;obtain⟨y,hy⟩:∃ y,s.stay[j]?.getD 0=y:=⟨_,rfl⟩;rw[hy]at cj;have Uc:y∈s.stay:=by
    rw[g_ qC]at hy;have hy:s.stay[j]=y:=hy;rw[<-hy];exact List.getElem_mem qC
   have HW:=af hW;clear Ip hW;by_cases hyR:y=R
   ·have RR:Hid (bI l ⟨op,fa,fb,fc,fd⟩ t=none):=jA.out (by rw[YK.out,if_pos (hyR ▸ Uc)]);have yb:((y:Int)==(R:Int))=true:=by simp;omega
    have ybn:(y==R)=true:=by simpa using hyR
    clear eN YK hyR hy Uc jA;go_wp2_with fail
    go_ret2
    exact ui RR.out (aa HW).old
   ·have NX:Hid (∀ i,i<j+1->s.stay[i]?.getD 0≠R):=fun i hi=>by
     by_cases e:i=j
     ·aj e;rw[hy];exact hyR
     ·exact bN.out i (by omega)
    have yb:((y:Int)==(R:Int))=false:=beq_eq_false_iff_ne.2 (by omega);have ybn:(y==R)=false:=beq_eq_false_iff_ne.2 hyR;clear hyR hy Uc;go_wp2_with fail
    go_roundg (s.stay.length-(j+1))
    case measure=>omega
    case rel=>exact⟨j+1,by omega,by go_num,aa HW,NX⟩
  ·have hRS:R ∉ s.stay:=fun h=>by
    obtain⟨i,hi,e⟩:=List.getElem_of_mem h;have h1:=bN.out i (by omega);rw[g_ hi,e]at h1;exact h1 rfl
   have SN:Hid (aX r ⟨op,fa,fb,fc,fd⟩ ⟨t,[],[]⟩ (k+1)=some ⟨s.types.set R 0,s.taken++[R],s.stay⟩):=by show _=_;rw[eN.out,YK.out,if_neg hRS]
   have LN:Hid (js nt (k+1) ⟨s.types.set R 0,s.taken++[R],s.stay⟩):=⟨by simpa using hL.out.1,by have:=hL.out.2.1;simp;omega,by have:=hL.out.2.2;show s.stay.length<=k+1;omega⟩;have HWP:=af (hW.put (aa my) hL.out.1 R 0);obtain⟨g'',cap'',Vl,_,UY,PN⟩:=hW.types.at (by rw[<-hL.out.1];omega);have WE:g''=g:=by injection Vl with h;injection h with h;exact(congrArg Addr.block h).symm
   have cR:=PN R (by have:=hL.out.1;omega);rw[WE]at cR UY;have zR:=hW.types.frozen hL.out.1 R;have y1:=hW.roles.cell (i:=k) gz;rw[HQ.out]at y1;have y3:=hW.roles.lt;have uY:Hid ((aH s.taken).length<=1048576):=by show _<=_;rw[ba];have:=hL.out.2.1;omega
   have NC:=hW.size;clear Vl PN WE hW bN eN YK hRS jA;go_wp2_with (first
    | (at_builtin;refine wpList_append_lies _ rfl _ _ 70 rfl bT 3 i0 (i_ 0) 1 8 Tryz.underlying70 hi dE cT dB rfl (by decide) _ _ _ rfl ((aa HWP).taken.alloc _) (a_ wr.heap.size 0) 1 1 [i_ (R:Int)] rfl rfl ?c1 ?c2 (by decide) ?c3 ?c4 ?c5 (wr.heap.size+1) (by simp) ?_)
    | go_in)
   all_goals try (case c1=>
    intro j u hj
    match j,hj with
    | 0,hj=>simp at hj;aj hj;simp[Addr.add,go_sem])
   all_goals try (case c2=>first | rfl | (intro u hu;simp at hu;aj hu;rfl))
   all_goals try (case c3=>have:=uY.out;unfold maxLen;omega)
   all_goals try (case c4=>have:=uY.out;omega)
   all_goals try (case c5=>first | omega | (simp;omega))
   intro g3 cap3 w3 hown3 hgrow3 hat3 hlt3;have O3:Hid (ar w3 bT (.slice (some (a_ g3 0)) ((aH s.taken).length+1) cap3) (aH (s.taken++[R]))):=by show ar _ _ _ _;rw[f9];exact ar.push hown3
   have jm:=af ((aa HWP).take (aa my) (x:=R) hgrow3 (aa O3) (by simpa using hat3));have z1:=(aa jm).roles.cell (i:=k) gz;rw[HQ.out]at z1;have z3:=(aa jm).roles.lt;clear hown3 hgrow3 hat3 O3 HWP y1 y3 cR zR;go_wp2_with fail
   go_loopg [21] 0 (fun gg i wr'=>gg=0/\i=i_ 1/\nY w base g nt ct bT b1 b2 a m c ⟨op,fa,fb,fc,fd⟩ r ⟨s.types.set R 0,s.taken++[R],s.stay⟩ (.slice (some (a_ g3 0)) ((aH s.taken).length+1) cap3) (.slice asv s.stay.length csv) wr')
   case atStart=>exact⟨rfl,rfl,aa jm⟩
   case round=>
    clear jm;obtain⟨_,rfl,mG⟩:=hrel;have y1:=mG.roles.cell (i:=k) gz;rw[HQ.out]at y1;have y3:=mG.roles.lt;have jm:=af mG;clear mG;go_wp2_with fail
    go_roundg (4-(k+1))
    case measure=>omega
    case rel=>exact⟨k+1,⟨s.types.set R 0,s.taken++[R],s.stay⟩,by omega,by go_num,aa jm,SN,LN⟩
end Go.Proofs.YtcjfjflljdojlaaGreatDoor
