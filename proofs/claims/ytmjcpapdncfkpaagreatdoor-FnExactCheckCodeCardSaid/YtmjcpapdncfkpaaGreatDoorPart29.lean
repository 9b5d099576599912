import Derived.Test.YtmjcpapdncfkpaaGreatDoorPart28
import Derived.Test.YtmjcpapdncfkpaaGreatDoorPart16
import Derived.Deep.AppendLies
import Derived.Test.YtmjcpapdncfkpaaGreatDoorPart13
import Derived.Deep.Cut
set_option linter.unusedSimpArgs false
set_option linter.unusedVariables false
set_option maxHeartbeats 4000000
set_option maxRecDepth 1000000
namespace Go.Proofs.YtmjcpapdncfkpaaGreatDoor
open Go.RowKit
theorem ins_shape {n:ProtoD}{np i:Nat}(h:sInsOk n np i=true):(1≤(inD n i).op∧(inD n i).op≤42)∧(∀ k,k<4→sFits n np (insF (inD n i) k) (((rolesC (inD n i).op).getD [])[k]?.getD 0)=true)∧(i+1=n.ins.length→(inD n i).op=19∨(inD n i).op=29∨(inD n i).op=30):=by
 unfold sInsOk at h
 change (match rolesC (inD n i).op with | none=>false | some r=>_)=true at h
 cases e:rolesC (inD n i).op with
 | none=>rw[e]at h;cases h
 | some r=>
  rw[e]at h
  simp only[Bool.and_eq_true]at h
  obtain⟨⟨⟨⟨h0,h1⟩,h2⟩,h3⟩,h4⟩:=h
  refine⟨?_,?_,?_⟩
  ·by_cases c:1≤(inD n i).op∧(inD n i).op≤42
   ·exact c
   ·rw[rolesC_none c]at e;cases e
  ·intro k hk
   have hc:k=0∨k=1∨k=2∨k=3:=by omega
   rcases hc with rfl | rfl | rfl | rfl
   ·exact h0
   ·exact h1
   ·exact h2
   ·exact h3
  ·intro hl
   rw[decide_eq_true hl]at h4
   change ((false||(inD n i).op==19||(inD n i).op==29)||(inD n i).op==30)=true at h4
   simp only[Bool.false_or,Bool.or_eq_true,beq_iff_eq]at h4
   rcases h4 with(h4 | h4) | h4
   ·exact .inl h4
   ·exact .inr (.inl h4)
   ·exact .inr (.inr h4)
section
variable {n:ProtoD} {np i:Nat}
theorem shape_wr (h:sInsOk n np i=true)(hr:0≤n.regs):WrFits (inD n i).op (inD n i).fa (inD n i).fc n.regs.toNat:=by
 obtain⟨_,hf,_⟩:=ins_shape h
 have f0:=hf 0 (by omega);have f2:=hf 2 (by omega)
 change sFits n np (inD n i).fa _=true at f0
 change sFits n np (inD n i).fc _=true at f2
 refine⟨fun e=>?_,fun e=>?_,fun e=>?_,fun e=>?_⟩
 ·rw[e]at f0;have:=sIn_true f0;omega
 ·rw[e]at f0;have:=sIn_true (show sIn _ 0 (n.regs-1)=true from f0);omega
 ·rw[e]at f0;have:=sIn_true (show sIn _ 0 (n.regs-2)=true from f0);omega
 ·rw[e]at f2;have:=sIn_true (show sIn _ 0 (n.regs-1)=true from f2);omega
theorem shape_fo (h:sInsOk n np i=true)(hr:0≤n.regs):FoFits (inD n i).op (inD n i).fa (inD n i).fb (inD n i).fc n.regs.toNat:=by
 obtain⟨_,hf,_⟩:=ins_shape h
 have f0:=hf 0 (by omega);have f1:=hf 1 (by omega);have f2:=hf 2 (by omega)
 change sFits n np (inD n i).fa _=true at f0
 change sFits n np (inD n i).fb _=true at f1
 change sFits n np (inD n i).fc _=true at f2
 refine⟨fun e=>?_,fun e=>?_,fun e=>?_,fun e=>?_⟩
 ·rcases e with e | e<;>(rw[e]at f0;have:=sIn_true (show sIn _ 0 ((n.ins.length:Int)-1)=true from f0);omega)
 ·rcases e with e | e | e | e | e | e
  ·rw[e]at f1;have:=sIn_true (show sIn _ 0 ((n.ins.length:Int)-1)=true from f1);omega
  ·rw[e]at f1;have:=sIn_true (show sIn _ 0 ((n.ins.length:Int)-1)=true from f1);omega
  ·rw[e]at f1;have:=sIn_true (show sIn _ 0 ((n.ins.length:Int)-1)=true from f1);omega
  ·rw[e]at f1;have:=sIn_true (show sIn _ 0 ((n.ins.length:Int)-1)=true from f1);omega
  ·rw[e]at f1;have:=sIn_true (show sIn _ 0 ((n.ins.length:Int)-1)=true from f1);omega
  ·rw[e]at f1;have:=sIn_true (show sIn _ 0 (n.regs-2)=true from f1);omega
 ·rw[e]at f2;have:=sIn_true (show sIn _ 0 (n.regs-1)=true from f2);omega
 ·rw[e]at f1;have:=sIn_true (show sIn _ 0 (n.regs-2)=true from f1);omega
theorem shape_at (h:sInsOk n np i=true):((inD n i).op=19∨(inD n i).op=31→0≤(inD n i).fa∧(inD n i).fa<n.ins.length)∧((inD n i).op=20∨(inD n i).op=21∨(inD n i).op=38∨(inD n i).op=39∨(inD n i).op=41→0≤(inD n i).fb∧(inD n i).fb<n.ins.length):=by
 obtain⟨_,hf,_⟩:=ins_shape h
 have f0:=hf 0 (by omega);have f1:=hf 1 (by omega)
 change sFits n np (inD n i).fa _=true at f0
 change sFits n np (inD n i).fb _=true at f1
 refine⟨fun e=>?_,fun e=>?_⟩
 ·rcases e with e | e<;>(rw[e]at f0;have:=sIn_true (show sIn _ 0 ((n.ins.length:Int)-1)=true from f0);omega)
 ·rcases e with e | e | e | e | e<;>(rw[e]at f1;have:=sIn_true (show sIn _ 0 ((n.ins.length:Int)-1)=true from f1);omega)
theorem natCast {x:Int}(h:0≤x):Int.ofNat x.toNat=x:=Int.toNat_of_nonneg h
theorem shape_silent (h:sInsOk n np i=true)(hi:i<n.ins.length):silentI (inD n i) i=natI (ringsE n i)∧(∀ y,y∈ringsE n i→y<n.ins.length)∧(ringsE n i).length≤2:=by
 obtain⟨_,_,hl⟩:=ins_shape h
 obtain⟨ha,hb⟩:=shape_at h
 have hnx:(inD n i).op≠19→(inD n i).op≠29→(inD n i).op≠30→i+1<n.ins.length:=fun h1 h2 h3=>by
  by_cases e:i+1=n.ins.length
  ·rcases hl e with h4 | h4 | h4
   ·exact absurd h4 h1
   ·exact absurd h4 h2
   ·exact absurd h4 h3
  ·omega
 unfold ringsE silentI silentC
 generalize inD n i=x at *
 obtain⟨op,fa,fb,fc,fd⟩:=x
 simp only at *
 by_cases c1:op=1∨op=3∨op=28∨op=29∨op=30
 ·rw[if_pos c1,if_pos c1];exact⟨rfl,by simp,by simp⟩
 rw[if_neg c1,if_neg c1]
 have hnx2:op≠19→i+1<n.ins.length:=fun h1=>hnx h1 (by omega) (by omega)
 by_cases c2:op=18∧fb=12
 ·rw[if_pos c2,if_pos c2];exact⟨rfl,by simp,by simp⟩
 rw[if_neg c2,if_neg c2]
 by_cases c3:op=19
 ·have h1:=ha (.inl c3)
  rw[if_pos c3,if_pos c3]
  exact⟨by simp only[natI,List.map_cons,List.map_nil,natCast h1.1],by intro y hy;simp at hy;omega,by simp⟩
 rw[if_neg c3,if_neg c3]
 have h2:=hnx2 c3
 by_cases c4:op=41
 ·have h1:=hb (by simp[c4])
  rw[if_pos c4,if_pos c4]
  exact⟨by simp only[natI,List.map_cons,List.map_nil,natCast h1.1],by intro y hy;simp at hy;omega,by simp⟩
 rw[if_neg c4,if_neg c4]
 by_cases c5:op=20∨op=21∨op=38∨op=39
 ·have h1:=hb (by omega)
  rw[if_pos c5,if_pos c5]
  exact⟨by simp only[natI,List.map_cons,List.map_nil,natCast h1.1];rfl,by intro y hy;simp at hy;omega,by simp⟩
 rw[if_neg c5,if_neg c5]
 by_cases c6:op=31
 ·have h1:=ha (.inr c6)
  rw[if_pos c6,if_pos c6]
  exact⟨by simp only[natI,List.map_cons,List.map_nil,natCast h1.1];rfl,by intro y hy;simp at hy;omega,by simp⟩
 rw[if_neg c6,if_neg c6]
 exact⟨rfl,by intro y hy;simp at hy;omega,by simp⟩
end
structure RdW (w:World)(base g nt ct bT b1 b2:Nat)(a:Option Addr)(m c:Nat)(n:InsD)(r:List Nat)(s:RdS)(tv sv:Value)(wr:World):Prop where
 old:Below base w wr
 size:bT≤wr.heap.size
 code:wr.cell? ⟨w.heap.size,0,none⟩=some (.slice a m c)
 ins:InsCells wr (w.heap.size+1) 0 n
 roles:wr.rowIs b1 3 4 (fun j=>.int .i64 ((r[j]?.getD 0:Nat):Int))
 flds:wr.rowIs b2 3 4 (fun j=>.int .i64 (insF n j))
 types:OwnI wr base (.slice (some ⟨g,0,none⟩) nt ct) s.types
 taken:OwnI wr bT tv (natI s.taken)
 stay:OwnI wr bT sv (natI s.stay)
 apart:tv.ownBlock=none∨tv.ownBlock≠sv.ownBlock
structure RdB (w:World)(base g bT b1 b2:Nat):Prop where
 g1:base≤g
 g2:g<w.heap.size
 r1:w.heap.size+2≤b1
 r2:w.heap.size+2≤b2
 t1:b1<bT
 t2:b2<bT
section
variable {w:World} {base g nt ct bT b1 b2:Nat} {a:Option Addr} {m c:Nat} {n:InsD} {r:List Nat} {s:RdS} {tv sv:Value} {wr w2:World}
theorem RdW.other (h:RdW w base g nt ct bT b1 b2 a m c n r s tv sv wr)(hB:RdB w base g bT b1 b2)(hb:∀ k,w.heap.size≤k→k<bT→w2.heap[k]? = wr.heap[k]?) :
  w2.cell? ⟨w.heap.size,0,none⟩=some (.slice a m c)∧InsCells w2 (w.heap.size+1) 0 n∧w2.rowIs b1 3 4 (fun j=>.int .i64 ((r[j]?.getD 0:Nat):Int))∧w2.rowIs b2 3 4 (fun j=>.int .i64 (insF n j)):=by
 have:=hB.r1;have:=hB.r2;have:=hB.t1;have:=hB.t2
 have e0:∀ o,w2.cell? ⟨w.heap.size,o,none⟩=wr.cell? ⟨w.heap.size,o,none⟩:=fun o=>World.cell?_of_block (hb _ (Nat.le_refl _) (by show w.heap.size<bT;omega))
 have e1:∀ o,w2.cell? ⟨w.heap.size+1,o,none⟩=wr.cell? ⟨w.heap.size+1,o,none⟩:=fun o=>World.cell?_of_block (hb _ (by show w.heap.size≤w.heap.size+1;omega) (by show w.heap.size+1<bT;omega))
 exact⟨(e0 0).trans h.code,⟨(e1 _).trans h.ins.op,(e1 _).trans h.ins.fa,(e1 _).trans h.ins.fb,(e1 _).trans h.ins.fc,(e1 _).trans h.ins.fd⟩,h.roles.of_block (hb _ (by omega) (by omega)),h.flds.of_block (hb _ (by omega) (by omega))⟩
theorem RdW.below (h:RdW w base g nt ct bT b1 b2 a m c n r s tv sv wr)(hB:RdB w base g bT b1 b2)(hb:Below wr.heap.size wr w2):RdW w base g nt ct bT b1 b2 a m c n r s tv sv w2:=by
 have hs:=h.old.size
 have hz:=h.size
 have:=hB.g1;have:=hB.g2
 obtain⟨x1,x2,x3,x4⟩:=h.other hB (w2:=w2) (fun k _ hk=>hb.block k (by omega))
 exact⟨h.old.trans (hb.mono (by omega)),Nat.le_trans hz hb.size,x1,x2,x3,x4,h.types.below hb,h.taken.below hb,h.stay.below hb,h.apart⟩
theorem RdW.put (h:RdW w base g nt ct bT b1 b2 a m c n r s tv sv wr)(hB:RdB w base g bT b1 b2)(hn:nt=s.types.length)(j:Nat)(x:Int):RdW w base g nt ct bT b1 b2 a m c n r ⟨s.types.set j x,s.taken,s.stay⟩ tv sv (wr.setCell ⟨g,j,none⟩ (.int .i64 x)):=by
 have:=hB.g1;have:=hB.g2;have:=hB.t1;have:=hB.r1
 have hk:∀ k,k≠g→(wr.setCell ⟨g,j,none⟩ (.int .i64 x)).heap[k]? = wr.heap[k]?:=fun k hk=>heap_setCell_other wr ⟨g,j,none⟩ k _ (fun e=>hk e)
 obtain⟨x1,x2,x3,x4⟩:=h.other hB (w2:=wr.setCell ⟨g,j,none⟩ (.int .i64 x)) (fun k h1 _=>hk k (by omega))
 exact⟨h.old.setCell hB.g1 _,by have:=h.size;simpa using this,x1,x2,x3,x4,h.types.set hn j x,h.taken.setOther (by omega),h.stay.setOther (by omega),h.apart⟩
theorem RdW.take (h:RdW w base g nt ct bT b1 b2 a m c n r s tv sv wr)(hB:RdB w base g bT b1 b2){o:Obj}{gn cap n3 x:Nat}(hg:(wr.alloc o).grownBy w2 tv.ownBlock)(ho:OwnI w2 bT (.slice (some ⟨gn,0,none⟩) n3 cap) (natI (s.taken++[x])))(hat:tv.ownBlock=some gn∨gn=wr.heap.size+1) :
  RdW w base g nt ct bT b1 b2 a m c n r ⟨s.types,s.taken++[x],s.stay⟩ (.slice (some ⟨gn,0,none⟩) n3 cap) sv w2:=by
 have hs:=h.old.size
 have hz:=h.size
 have:=hB.g1;have:=hB.g2;have:=hB.t1;have:=hB.r1
 have hlt:∀ k,tv.ownBlock=some k→bT≤k:=fun k hk=>(h.taken.lt k hk).1
 have hbl:∀ b,b<bT→w2.heap[b]? = wr.heap[b]?:=fun b hb=>by
  rw[hg.block b (by simp;omega) (fun e=>by have:=hlt b e.symm;omega)]
  exact Below.heap_alloc wr o b (by omega)
 obtain⟨x1,x2,x3,x4⟩:=h.other hB (w2:=w2) (fun k _ hk=>hbl k hk)
 have hsz:bT≤w2.heap.size:=by have:=hg.size;simp at this;omega
 have hold:Below base w w2:=(h.old.alloc (by omega) o).grown hg (by simp;omega) (fun k hk=>by have:=hlt k hk;omega)
 have hty:OwnI w2 base (.slice (some ⟨g,0,none⟩) nt ct) s.types:=OwnI.kept (h.types.alloc o) hg (.inr (fun e=>by have:=hlt g e.symm;omega))
 have hst:OwnI w2 bT sv (natI s.stay):=OwnI.kept (h.stay.alloc o) hg (by
  rcases h.apart with e | e
  ·rw[e]
   cases es:sv.ownBlock with
   | none=>exact .inl rfl
   | some k=>exact .inr (by simp)
  ·exact .inr (fun e'=>e e'.symm))
 refine⟨hold,hsz,x1,x2,x3,x4,hty,ho,hst,.inr (fun e=>?_)⟩
 have e:some gn=sv.ownBlock:=e
 have hl:=(h.stay.lt gn e.symm).2
 rcases hat with h1 | h1
 ·rcases h.apart with e2 | e2
  ·rw[e2]at h1;cases h1
  ·exact e2 (h1.trans e)
 ·omega
theorem RdW.hold (h:RdW w base g nt ct bT b1 b2 a m c n r s tv sv wr)(hB:RdB w base g bT b1 b2){o:Obj}{gn cap n3 x:Nat}(hg:(wr.alloc o).grownBy w2 sv.ownBlock)(ho:OwnI w2 bT (.slice (some ⟨gn,0,none⟩) n3 cap) (natI (s.stay++[x])))(hat:sv.ownBlock=some gn∨gn=wr.heap.size+1) :
  RdW w base g nt ct bT b1 b2 a m c n r ⟨s.types,s.taken,s.stay++[x]⟩ tv (.slice (some ⟨gn,0,none⟩) n3 cap) w2:=by
 have hs:=h.old.size
 have hz:=h.size
 have:=hB.g1;have:=hB.g2;have:=hB.t1;have:=hB.r1
 have hlt:∀ k,sv.ownBlock=some k→bT≤k:=fun k hk=>(h.stay.lt k hk).1
 have hbl:∀ b,b<bT→w2.heap[b]? = wr.heap[b]?:=fun b hb=>by
  rw[hg.block b (by simp;omega) (fun e=>by have:=hlt b e.symm;omega)]
  exact Below.heap_alloc wr o b (by omega)
 obtain⟨x1,x2,x3,x4⟩:=h.other hB (w2:=w2) (fun k _ hk=>hbl k hk)
 have hsz:bT≤w2.heap.size:=by have:=hg.size;simp at this;omega
 have hold:Below base w w2:=(h.old.alloc (by omega) o).grown hg (by simp;omega) (fun k hk=>by have:=hlt k hk;omega)
 have hty:OwnI w2 base (.slice (some ⟨g,0,none⟩) nt ct) s.types:=OwnI.kept (h.types.alloc o) hg (.inr (fun e=>by have:=hlt g e.symm;omega))
 have hst:OwnI w2 bT tv (natI s.taken):=OwnI.kept (h.taken.alloc o) hg h.apart
 refine⟨hold,hsz,x1,x2,x3,x4,hty,hst,ho,?_⟩
 cases et:tv.ownBlock with
 | none=>exact .inl rfl
 | some k=>
  refine .inr (fun e=>?_)
  have e:some k=some gn:=e
  have ek:k=gn:=by simpa using e
  have hl:=(h.taken.lt k et).2
  rcases hat with h1 | h1
  ·rcases h.apart with e2 | e2
   ·rw[e2]at et;cases et
   ·exact e2 (by rw[et,h1,ek])
  ·omega
end
end Go.Proofs.YtmjcpapdncfkpaaGreatDoor
namespace Go.Proofs.YtmjcpapdncfkpaaGreatDoor
structure StOk (R:Nat)(s:StD):Prop where
 types:s.types.length=R
 many:s.guards.length≤50
 keep:∀ i,i<s.guards.length→(s.guards[i]?.getD GuD.z).keep≤R
structure MOk (R N:Nat)(σ:Mst):Prop where
 st:∀ i s,σ.st i=some s→i<N∧StOk R s
 due:∀ i,σ.due i=true→i<N∧σ.st i≠none
structure InFit (n:InsD)(a R N:Nat):Prop where
 try_:n.op=31→n.fb≤R
 next:goesC n=true→a+1<N
 jump:n.op=19∨n.op=31→n.fa.toNat<N
 jumpB:n.op=20∨n.op=21∨n.op=38∨n.op=39∨n.op=41→n.fb.toNat<N
 scope:n.op=33∨n.op=34→n.fa≤R
theorem rdF_len {q:Nat}{x:Int}{s s':RdS}(h:rdF q x s=some s'):s'.types.length=s.types.length:=by
 unfold rdF at h
 by_cases c1:(wantsC q).1=0
 ·rw[if_pos c1]at h;cases h;rfl
 rw[if_neg c1]at h
 by_cases c2:tyAt s.types (regOf (wantsC q).2 x)≠(wantsC q).1
 ·rw[if_pos c2]at h;cases h
 rw[if_neg c2]at h
 by_cases c3:(wantsC q).2=true∧x<0
 ·rw[if_pos c3]at h
  by_cases c4:regOf true x∈s.stay
  ·rw[if_pos c4]at h;cases h
  ·rw[if_neg c4]at h;cases h;simp
 rw[if_neg c3]at h
 by_cases c5:(wantsC q).2=true
 ·rw[if_pos c5]at h;cases h;rfl
 rw[if_neg c5]at h
 by_cases c6:(q=18∨q=20)∧tyAt s.types (x.toNat+1)≠1
 ·rw[if_pos c6]at h;cases h
 rw[if_neg c6]at h
 by_cases c7:q=18∧tyAt s.types (x.toNat+2)≠1
 ·rw[if_pos c7]at h;cases h
 rw[if_neg c7]at h
 by_cases c8:q=19
 ·rw[if_pos c8]at h
  by_cases c9:tyAt s.types (x.toNat+1)≠0
  ·rw[if_pos c9]at h;cases h
  ·rw[if_neg c9]at h;cases h;rfl
 ·rw[if_neg c8]at h;cases h;rfl
theorem rdUpto_len {r:List Nat}{n:InsD}{s:RdS}:∀{k:Nat}{s':RdS},rdUpto r n s k=some s'→s'.types.length=s.types.length
 | 0,s',h=>by cases h;rfl
 | k+1,s',h=>by
  change (match rdUpto r n s k with | none=>none | some s'=>rdF (r[k]?.getD 0) (insF n k) s')=some s' at h
  cases e:rdUpto r n s k with
  | none=>rw[e]at h;cases h
  | some s1=>rw[e]at h;exact(rdF_len h).trans (rdUpto_len e)
theorem readC_len {l:List ProtoD}{n:InsD}{t:List Int}{r:RdS}(h:readC l n t=some r):r.types.length=t.length:=by
 unfold readC at h
 cases e:rdUpto ((rolesC n.op).getD []) n ⟨t,[],[]⟩ 4 with
 | none=>rw[e]at h;cases h
 | some s=>
  rw[e]at h
  change (if _ then _ else _)=_ at h
  split at h
  ·cases h
  ·cases h;exact rdUpto_len e
theorem writeC_len (n:InsD)(t:List Int):(writeC n t).length=t.length:=by
 unfold writeC
 repeat' split
 all_goals simp
theorem changeC_ok {n:InsD}{g g':List GuD}{R a N:Nat}(h:changeC n g=some g')(hf:InFit n a R N)(hl:g.length≤50)(hk:∀ i,i<g.length→(g[i]?.getD GuD.z).keep≤R) :
  g'.length≤50∧∀ i,i<g'.length→(g'[i]?.getD GuD.z).keep≤R:=by
 have app:∀ x:GuD,x.keep≤R→g.length<50→(g++[x]).length≤50∧∀ i,i<(g++[x]).length→((g++[x])[i]?.getD GuD.z).keep≤R:=fun x hx hg=>by
  refine⟨by simp;omega,fun i hi=>?_⟩
  by_cases e:i<g.length
  ·rw[List.getElem?_append_left e];exact hk i e
  ·have:i=g.length:=by simp at hi;omega
   subst this
   simpa using hx
 have tk:(g.take (g.length-1)).length≤50∧∀ i,i<(g.take (g.length-1)).length→((g.take (g.length-1))[i]?.getD GuD.z).keep≤R:=by
  refine⟨by simp;omega,fun i hi=>?_⟩
  have hi':i<g.length-1:=by simp at hi;omega
  rw[List.getElem?_take,if_pos hi']
  exact hk i (by omega)
 unfold changeC at h
 by_cases c1:n.op=31
 ·rw[if_pos c1]at h
  by_cases c:g.length<50∧aboveC g n.fb=true
  ·rw[if_pos c]at h;cases h
   exact app _ (hf.try_ c1) c.1
  ·rw[if_neg c]at h;cases h
 rw[if_neg c1]at h
 by_cases c2:n.op=33
 ·rw[if_pos c2]at h
  by_cases c:g.length<50∧aboveC g n.fa=true
  ·rw[if_pos c]at h;cases h
   exact app _ (hf.scope (.inl c2)) c.1
  ·rw[if_neg c]at h;cases h
 rw[if_neg c2]at h
 by_cases c3:n.op=32
 ·rw[if_pos c3]at h
  by_cases c:g.length=0∨(g[g.length-1]?.getD GuD.z).tr=false
  ·rw[if_pos c]at h;cases h
  ·rw[if_neg c]at h;cases h;exact tk
 rw[if_neg c3]at h
 by_cases c4:n.op=34∨n.op=35∨n.op=36
 ·rw[if_pos c4]at h
  by_cases c:g.length=0∨(g[g.length-1]?.getD GuD.z).tr=true∨(n.op=34∧aboveC g n.fa=false)
  ·rw[if_pos c]at h;cases h
  rw[if_neg c]at h
  by_cases c5:n.op=34
  ·rw[if_pos c5]at h;cases h
   refine⟨by simpa using hl,fun i hi=>?_⟩
   have hi:i<g.length:=by simpa using hi
   by_cases e:i=g.length-1
   ·subst e
    rw[List.getElem?_set_self (by omega)]
    exact hf.scope (.inr c5)
   ·rw[List.getElem?_set_ne (by omega)];exact hk i hi
  rw[if_neg c5]at h
  by_cases c6:n.op=36
  ·rw[if_pos c6]at h;cases h;exact tk
  ·rw[if_neg c6]at h;cases h;exact⟨hl,hk⟩
 ·rw[if_neg c4]at h;cases h;exact⟨hl,hk⟩
theorem handC_len (n:InsD)(t:List Int)(h:n.fb.toNat≤t.length):(handC n t).length=t.length:=by
 unfold handC
 simp
 omega
theorem followC_ok {n:InsD}{a R N:Nat}{s:StD}{t:List Int}{g:List GuD}(hf:InFit n a R N)(hs:StOk R s)(ht:t.length=R)(hg:g.length≤50∧∀ i,i<g.length→(g[i]?.getD GuD.z).keep≤R) :
  ∀ x,x∈followC n a s t g→x.1<N∧StOk R x.2:=by
 intro x hx
 unfold followC at hx
 rw[List.mem_append]at hx
 rcases hx with hx | hx
 ·by_cases c:goesC n=true
  ·rw[if_pos c]at hx
   rw[List.mem_singleton]at hx
   subst hx
   exact⟨hf.next c,ht,hg.1,hg.2⟩
  ·rw[if_neg c]at hx;cases hx
 by_cases c1:n.op=19
 ·rw[if_pos c1,List.mem_singleton]at hx
  subst hx
  exact⟨hf.jump (.inl c1),ht,hg.1,hg.2⟩
 rw[if_neg c1]at hx
 by_cases c2:n.op=20∨n.op=21∨n.op=38∨n.op=39
 ·rw[if_pos c2,List.mem_singleton]at hx
  subst hx
  exact⟨hf.jumpB (by omega),ht,hg.1,hg.2⟩
 rw[if_neg c2]at hx
 by_cases c3:n.op=41
 ·rw[if_pos c3,List.mem_singleton]at hx
  subst hx
  exact⟨hf.jumpB (by omega),by simpa using ht,hg.1,hg.2⟩
 rw[if_neg c3]at hx
 by_cases c4:n.op=31
 ·rw[if_pos c4,List.mem_singleton]at hx
  subst hx
  refine⟨hf.jump (.inr c4),?_,hs.many,hs.keep⟩
  rw[show(StD.mk (handC n s.types) s.guards).types=handC n s.types from rfl,handC_len _ _ (by have:=hf.try_ c4;have:=hs.types;omega)]
  exact hs.types
 ·rw[if_neg c4]at hx;cases hx
def cnt (p:Nat→Bool):Nat→Nat
 | 0=>0
 | n+1=>cnt p n+(if p n then 1 else 0)
theorem cnt_congr {p q:Nat→Bool}:∀ n,(∀ i,i<n→p i=q i)→cnt p n=cnt q n
 | 0,_=>rfl
 | n+1,h=>by show cnt p n+_=cnt q n+_;rw[cnt_congr n (fun i hi=>h i (by omega)),h n (by omega)]
theorem cnt_set {p:Nat→Bool}{i:Nat}(hp:p i=true):∀ n,i<n→cnt (upd p i false) n+1=cnt p n
 | 0,h=>absurd h (Nat.not_lt_zero _)
 | n+1,h=>by
  show cnt (upd p i false) n+(if upd p i false n then 1 else 0)+1=cnt p n+(if p n then 1 else 0)
  by_cases e:i=n
  ·subst e
   rw[cnt_congr i (q:=p) (fun j hj=>by simp[upd];intro e;omega)]
   simp[upd,hp]
  ·have e':¬n=i:=fun h=>e h.symm
   have:=cnt_set hp n (by omega)
   simp only[upd,e',if_false]
   omega
theorem cnt_on {p:Nat→Bool}{i:Nat}(hp:p i=false):∀ n,i<n→cnt (upd p i true) n=cnt p n+1
 | 0,h=>absurd h (Nat.not_lt_zero _)
 | n+1,h=>by
  show cnt (upd p i true) n+(if upd p i true n then 1 else 0)=cnt p n+(if p n then 1 else 0)+1
  by_cases e:i=n
  ·subst e
   rw[cnt_congr i (q:=p) (fun j hj=>by simp[upd];intro e;omega)]
   simp[upd,hp]
  ·have e':¬n=i:=fun h=>e h.symm
   have:=cnt_on hp n (by omega)
   simp only[upd,e',if_false]
   omega
theorem cnt_on_le {p:Nat→Bool}{i:Nat}(n:Nat)(h:i<n):cnt (upd p i true) n≤cnt p n+1:=by
 cases hp:p i with
 | false=>rw[cnt_on hp n h];exact Nat.le_refl _
 | true=>
  rw[cnt_congr n (q:=p) (fun j hj=>by
   by_cases e:j=i
   ·subst e;simp[upd,hp]
   ·simp[upd,e])]
  omega
def open_ (σ:Mst)(i:Nat):Bool:=(σ.st i).isNone
def left (N:Nat)(σ:Mst):Nat:=2 * cnt (open_ σ) N+cnt σ.due N
theorem oneM_left {N:Nat}{σ σ':Mst}{x:Nat×StD}(hx:x.1<N)(h:oneM σ x=some σ'):left N σ'≤left N σ:=by
 unfold oneM at h
 cases e:σ.st x.1 with
 | none=>
  rw[e]at h
  cases h
  have h1:cnt (open_ ⟨upd σ.st x.1 (some x.2),upd σ.due x.1 true⟩) N+1=cnt (open_ σ) N:=by
   rw[cnt_congr N (q:=upd (open_ σ) x.1 false) (fun j hj=>by
    by_cases c:j=x.1
    ·subst c;simp[open_,upd]
    ·simp[open_,upd,c])]
   exact cnt_set (by simp[open_,e]) N hx
  have h2:cnt (Mst.mk (upd σ.st x.1 (some x.2)) (upd σ.due x.1 true)).due N≤cnt σ.due N+1:=cnt_on_le N hx
  unfold left
  omega
 | some s=>
  rw[e]at h
  change (if sameSt s x.2=true then some σ else none)=some σ' at h
  split at h
  ·cases h;exact Nat.le_refl _
  ·cases h
theorem oneM_ok {R N:Nat}{σ σ':Mst}{x:Nat×StD}(hx:x.1<N∧StOk R x.2)(hσ:MOk R N σ)(h:oneM σ x=some σ'):MOk R N σ':=by
 unfold oneM at h
 cases e:σ.st x.1 with
 | none=>
  rw[e]at h
  cases h
  refine⟨fun i s hi=>?_,fun i hi=>?_⟩
  ·change upd σ.st x.1 (some x.2) i=some s at hi
   unfold upd at hi
   split at hi
   ·rename_i c;subst c;cases hi;exact hx
   ·exact hσ.st i s hi
  ·change upd σ.due x.1 true i=true at hi
   show i<N∧upd σ.st x.1 (some x.2) i≠none
   unfold upd at hi ⊢
   by_cases c:i=x.1
   ·subst c;exact⟨hx.1,by simp⟩
   ·rw[if_neg c]at hi ⊢;exact hσ.due i hi
 | some s=>
  rw[e]at h
  change (if sameSt s x.2=true then some σ else none)=some σ' at h
  split at h
  ·cases h;exact hσ
  ·cases h
theorem allM_ok {R N:Nat}:∀{F:List (Nat×StD)}{σ σ':Mst},(∀ x,x∈F→x.1<N∧StOk R x.2)→MOk R N σ→allM F σ=.inr σ'→MOk R N σ'∧left N σ'≤left N σ
 | [],σ,σ',_,hσ,h=>by cases h;exact⟨hσ,Nat.le_refl _⟩
 | x::F,σ,σ',hF,hσ,h=>by
  change (match oneM σ x with | none=>(Sum.inl x.1:Nat ⊕ Mst) | some σ'=>allM F σ')=.inr σ' at h
  cases e:oneM σ x with
  | none=>rw[e]at h;cases h
  | some σ1=>
   rw[e]at h
   have hx:=hF x (List.mem_cons_self ..)
   obtain⟨h1,h2⟩:=allM_ok (fun y hy=>hF y (List.mem_cons_of_mem _ hy)) (oneM_ok hx hσ e) h
   exact⟨h1,Nat.le_trans h2 (oneM_left hx.1 e)⟩
theorem start_ok (x:ProtoD)(hn:0<x.ins.length)(hr:0≤x.regs):MOk x.regs.toNat x.ins.length (startM x):=by
 refine⟨fun i s hi=>?_,fun i hi=>?_⟩
 ·change upd (fun _=>none) 0 (some (StD.mk (firstTy x) [])) i=some s at hi
  unfold upd at hi
  split at hi
  ·rename_i c;subst c;cases hi
   exact⟨hn,by simp[firstTy],by simp,fun i hi=>by simp at hi⟩
  ·cases hi
 ·change upd (fun _=>false) 0 true i=true at hi
  show i<_∧upd (fun _=>none) 0 (some (StD.mk (firstTy x) [])) i≠none
  unfold upd at hi ⊢
  split at hi
  ·rename_i c;subst c;exact⟨hn,by simp⟩
  ·cases hi
theorem MOk.off {R N a:Nat}{σ:Mst}(h:MOk R N σ):MOk R N ⟨σ.st,upd σ.due a false⟩:=
 ⟨h.st,fun i hi=>by
  change upd σ.due a false i=true at hi
  unfold upd at hi
  split at hi
  ·cases hi
  ·exact h.due i hi⟩
theorem left_off {N a:Nat}{σ:Mst}(h:LeastDue σ N a):left N ⟨σ.st,upd σ.due a false⟩+1=left N σ:=by
 have:=cnt_set h.2.1 N h.1
 show 2 * cnt (open_ ⟨σ.st,upd σ.due a false⟩) N+cnt (upd σ.due a false) N+1=2 * cnt (open_ σ) N+cnt σ.due N
 have e:open_ ⟨σ.st,upd σ.due a false⟩=open_ σ:=rfl
 rw[e]
 omega
theorem stepM_ok {l:List ProtoD}{x:ProtoD}{R a:Nat}{σ σ':Mst}(hf:InFit (inD x a) a R x.ins.length)(hσ:MOk R x.ins.length σ)(ha:LeastDue σ x.ins.length a)(h:stepM l x σ a=.inr σ'):MOk R x.ins.length σ'∧left x.ins.length σ'<left x.ins.length σ:=by
 unfold stepM at h
 cases e:σ.st a with
 | none=>exact absurd e (hσ.due a ha.2.1).2
 | some s=>
  rw[e]at h
  have hs:=(hσ.st a s e).2
  change (match readC l (inD x a) s.types with | none=>(Sum.inl (10,a):(Int×Nat) ⊕ Mst) | some r=>_)=_ at h
  cases e1:readC l (inD x a) s.types with
  | none=>rw[e1]at h;cases h
  | some r=>
   rw[e1]at h
   change (match changeC (inD x a) s.guards with | none=>(Sum.inl (11,a):(Int×Nat) ⊕ Mst) | some g=>_)=_ at h
   cases e2:changeC (inD x a) s.guards with
   | none=>rw[e2]at h;cases h
   | some g=>
    rw[e2]at h
    change (if _ then _ else _)=_ at h
    split at h
    ·cases e3:allM (followC (inD x a) a s (writeC (inD x a) r.types) g) ⟨σ.st,upd σ.due a false⟩with
     | inl y=>rw[e3]at h;cases h
     | inr σ2=>
      rw[e3]at h
      cases h
      have ht:(writeC (inD x a) r.types).length=R:=by rw[writeC_len,readC_len e1];exact hs.types
      obtain⟨h1,h2⟩:=allM_ok (followC_ok hf hs ht (changeC_ok e2 hf hs.many hs.keep)) hσ.off e3
      have:=left_off ha
      exact⟨h1,by omega⟩
    ·cases h
end Go.Proofs.YtmjcpapdncfkpaaGreatDoor
namespace Go.Proofs.YtmjcpapdncfkpaaGreatDoor
open Go.RowKit
def firstLoop:Code→Option Code
 | .loop c=>some c
 | .seq a b=>match firstLoop a with
  | some c=>some c
  | none=>firstLoop b
 | .block _ c=>firstLoop c
 | .scope c=>firstLoop c
 | .cond _ a b=>match firstLoop a with
  | some c=>some c
  | none=>firstLoop b
 | _=>none
theorem rdUpto_none {r:List Nat}{n:InsD}{s:RdS}{k:Nat}(h:rdUpto r n s k=none):∀ d,rdUpto r n s (k+d)=none
 | 0=>h
 | d+1=>by
  have ih:=rdUpto_none h d
  show(match rdUpto r n s (k+d)with | none=>none | some s'=>_)=none
  rw[ih]
theorem rdUpto_next {r:List Nat}{n:InsD}{s s':RdS}{k:Nat}(h:rdUpto r n s k=some s'):rdUpto r n s (k+1)=rdF (r[k]?.getD 0) (insF n k) s':=by
 show(match rdUpto r n s k with | none=>none | some s'=>_)=_
 rw[h]
theorem readC_none {l:List ProtoD}{n:InsD}{r:List Nat}{t:List Int}(hr:rolesC n.op=some r){k:Nat}(h:rdUpto r n ⟨t,[],[]⟩ k=none)(hk:k≤4):readC l n t=none:=by
 unfold readC
 have e:(rolesC n.op).getD []=r:=by rw[hr];rfl
 rw[e]
 obtain⟨d,hd⟩:∃ d,4=k+d:=⟨4-k,by omega⟩
 rw[hd,rdUpto_none h d]
theorem rdF_skip {q:Nat}{x:Int}{s:RdS}(h:(wantsC q).1=0):rdF q x s=some s:=by unfold rdF;rw[if_pos h]
theorem rdF_type {q:Nat}{x W:Int}{b:Bool}{s:RdS}(hw:wantsC q=(W,b))(h0:W≠0)(h:tyAt s.types (regOf b x)≠W):rdF q x s=none:=by
 unfold rdF
 rw[hw]
 simp only
 rw[if_neg h0,if_pos h]
theorem rdF_op {q:Nat}{x W:Int}{s:RdS}(h:q=2∧W=1∨q=3∧W=3):rdF q x s=if tyAt s.types (regOf true x)≠W then none else if x<0 then(if regOf true x∈s.stay then none else some ⟨s.types.set (regOf true x) 0,s.taken++[regOf true x],s.stay⟩)else some s:=by
 rcases h with⟨rfl,rfl⟩ | ⟨rfl,rfl⟩
 ·have e:wantsC 2=(1,true):=rfl
  unfold rdF
  rw[e]
  simp
 ·have e:wantsC 3=(3,true):=rfl
  unfold rdF
  rw[e]
  simp
theorem rdF_place {q:Nat}{x W:Int}{s:RdS}(h:q=4∧W=1∨q=5∧W=2∨q=6∧W=3)(ht:tyAt s.types x.toNat=W):rdF q x s=some ⟨s.types,s.taken,s.stay++[x.toNat]⟩:=by
 rcases h with⟨rfl,rfl⟩ | ⟨rfl,rfl⟩ | ⟨rfl,rfl⟩
 ·have e:wantsC 4=(1,false):=rfl
  unfold rdF
  rw[e]
  simp[regOf,ht]
 ·have e:wantsC 5=(2,false):=rfl
  unfold rdF
  rw[e]
  simp[regOf,ht]
 ·have e:wantsC 6=(3,false):=rfl
  unfold rdF
  rw[e]
  simp[regOf,ht]
theorem rdF_18 {x:Int}{s:RdS}(ht:tyAt s.types x.toNat=1):rdF 18 x s=if tyAt s.types (x.toNat+1)≠1 then none else if tyAt s.types (x.toNat+2)≠1 then none else some ⟨s.types,s.taken,s.stay++[x.toNat]⟩:=by
 have e:wantsC 18=(1,false):=rfl
 unfold rdF
 rw[e]
 simp[regOf,ht]
theorem rdF_20 {x:Int}{s:RdS}(ht:tyAt s.types x.toNat=1):rdF 20 x s=if tyAt s.types (x.toNat+1)≠1 then none else some ⟨s.types,s.taken,s.stay++[x.toNat]⟩:=by
 have e:wantsC 20=(1,false):=rfl
 unfold rdF
 rw[e]
 simp[regOf,ht]
theorem rdF_19 {x:Int}{s:RdS}(ht:tyAt s.types x.toNat=1):rdF 19 x s=if tyAt s.types (x.toNat+1)≠0 then none else some ⟨s.types,s.taken++[x.toNat],s.stay++[x.toNat]⟩:=by
 have e:wantsC 19=(1,false):=rfl
 unfold rdF
 rw[e]
 simp[regOf,ht]
theorem rdF_more {q more:Nat}{W:Int}{s:RdS}{R:Nat}(h:q=18∧W=1∧more=2∨q=20∧W=1∧more=1∨(q=4∧W=1∨q=5∧W=2∨q=6∧W=3)∧more=0)(ht:tyAt s.types R=W) :
  (∀ d,1≤d→d≤more→tyAt s.types (R+d)≠1→rdF q (R:Int) s=none)∧((∀ d,1≤d→d≤more→tyAt s.types (R+d)=1)→rdF q (R:Int) s=some ⟨s.types,s.taken,s.stay++[R]⟩):=by
 have e:((R:Nat):Int).toNat=R:=rfl
 rcases h with⟨rfl,rfl,rfl⟩ | ⟨rfl,rfl,rfl⟩ | ⟨h,rfl⟩
 ·have h1:=rdF_18 (x:=(R:Int)) (s:=s) ht
  rw[e]at h1
  refine⟨fun d d1 d2 hd=>?_,fun hd=>?_⟩
  ·rw[h1]
   have hc:d=1∨d=2:=by omega
   rcases hc with rfl | rfl
   ·rw[if_pos hd]
   ·by_cases c:tyAt s.types (R+1)≠1
    ·rw[if_pos c]
    ·rw[if_neg c,if_pos hd]
  ·rw[h1,if_neg (fun c=>c (hd 1 (by omega) (by omega))),if_neg (fun c=>c (hd 2 (by omega) (by omega)))]
 ·have h1:=rdF_20 (x:=(R:Int)) (s:=s) ht
  rw[e]at h1
  refine⟨fun d d1 d2 hd=>?_,fun hd=>?_⟩
  ·obtain rfl:d=1:=by omega
   rw[h1,if_pos hd]
  ·rw[h1,if_neg (fun c=>c (hd 1 (by omega) (by omega)))]
 ·refine⟨fun d d1 d2 hd=>absurd d2 (by omega),fun _=>?_⟩
  have:=rdF_place (x:=(R:Int)) (s:=s) h ht
  rw[e]at this
  exact this
def RdFits (r:List Nat)(n:InsD)(nt:Nat):Prop:=∀ k,k<4→(r[k]?.getD 0=2∨r[k]?.getD 0=3→-(nt:Int)≤insF n k∧insF n k<nt)∧(r[k]?.getD 0=4∨r[k]?.getD 0=5∨r[k]?.getD 0=6→0≤insF n k∧insF n k<nt)∧(r[k]?.getD 0=18→0≤insF n k∧insF n k+2<nt)∧(r[k]?.getD 0=19∨r[k]?.getD 0=20→0≤insF n k∧insF n k+1<nt)
def RdPost (S:Option RdS)(base g nt ct:Nat)(w:World)(e:Ending)(w':World):Prop:=
 ∃(v:Value) (b:Bool),e=.returned (.tuple #[v,.bool b])∧(b=true→∃ s,S=some s∧OwnI w' base (.slice (some ⟨g,0,none⟩) nt ct) s.types∧OwnI w' w.heap.size v (natI s.taken))∧(b=false→S=none)∧Below base w w'
theorem rd_no {S:Option RdS}{base g nt ct:Nat}{w w':World}{v:Value}(h:S=none)(hb:Below base w w'):RdPost S base g nt ct w (.returned (.tuple #[v,.bool false])) w':=⟨v,false,rfl,fun h=>Bool.noConfusion h,fun _=>h,hb⟩
def RdLen (nt k:Nat)(s:RdS):Prop:=nt=s.types.length∧s.taken.length≤2 * k∧s.stay.length≤k
def RdRel (w:World)(base g nt ct bT b1 b2:Nat)(a:Option Addr)(m c:Nat)(n:InsD)(r:List Nat)(t:List Int)(gg:Nat)(tv sv i:Value)(wr:World):Prop:=
 ∃(k:Nat) (s:RdS),k+gg=4∧i=.int .i64 k∧RdW w base g nt ct bT b1 b2 a m c n r s tv sv wr∧Hid (rdUpto r n ⟨t,[],[]⟩ k=some s)∧Hid (RdLen nt k s)
def RdJ (op fa fb fc fd p:Int)(r:List Nat)(t:List Int)(base g nt ct m c bT b1 b2:Nat)(a:Option Addr)(w:World)(J:Nat→Act→World→Prop):Prop:=
 ∀(k:Nat) (a':Act) (w':World),(∃ u8 u9 u10 u11 u13 u14 u15 u16 u17 u19 u20 u21 u30 u31 u32 u33 u34 u35 u36 u37 u38 u39 u40 u41 u42 u43 u44 u45 u46 u47 u48 u49 u50 u51 u52 u53 u54 u55 u56 u57 u58 u59 u60 u61 u62 u63 u64 u65 u66 u67 u68 u69 u70 u71 u72 u73 u74 u75 u76 u77 u78 u79 u80 u81 u82 u83 u84 u85 u86 u87 u88 u89 u90 u91 u92 u93 u94 u95 u96 u97 u98 u99 u100 u101 u102 u103 u104 u105 u106 u107 u108 u109 u110 u111 u112 u113 u114 u115 u116 u117 u118 u119 u120 u121 u122 u123 u124:Value,RdRel w base g nt ct bT b1 b2 a m c ⟨op,fa,fb,fc,fd⟩ r t k u10 u11 u30 w'∧a'=⟨List.toArray (.agg #[.slice a m c] :: .int .i64 p :: .agg #[.int .i64 op,.int .i64 fa,.int .i64 fb,.int .i64 fc,.int .i64 fd] :: .slice (some ⟨g,0,none⟩) nt ct :: .pointer (some ⟨w.heap.size,0,none⟩)::undef :: .pointer (some ⟨w.heap.size+1,0,none⟩)::undef::u8::u9::u10::u11 :: .slice (some ⟨b1,0,none⟩) 4 4::u13::u14::u15::u16::u17::undef::u19::u20::u21::undef::undef :: .pointer (some ⟨w.heap.size+1,0,none⟩) :: .int .i64 op :: .slice (some ⟨b1,0,none⟩) 4 4 :: .agg #[.int .i64 op,.int .i64 fa,.int .i64 fb,.int .i64 fc,.int .i64 fd] :: .slice (some ⟨b2,0,none⟩) 4 4 :: .int .i64 4::u30::u31::u32::u33::u34::u35::u36::u37::u38::u39::u40::u41::u42::u43::u44::u45::u46::u47::u48::u49::u50::u51::u52::u53::u54::u55::u56::u57::u58::u59::u60::u61::u62::u63::u64::u65::u66::u67::u68::u69::u70::u71::u72::u73::u74::u75::u76::u77::u78::u79::u80::u81::u82::u83::u84::u85::u86::u87::u88::u89::u90::u91::u92::u93::u94::u95::u96::u97::u98::u99::u100::u101::u102::u103::u104::u105::u106::u107::u108::u109::u110::u111::u112::u113::u114::u115::u116::u117::u118::u119::u120::u121::u122::u123::u124::undef::undef::undef::undef::undef::undef::undef::undef::undef::undef::undef::undef::undef::undef::undef::undef::undef::undef::undef::undef::undef::undef::undef::undef::undef::undef::undef::[]),[]⟩)→J k a' w'
def RdGoal (l:List ProtoD)(op fa fb fc fd p:Int)(t:List Int)(base g nt ct m c b1 b2:Nat)(a:Option Addr)(w:World)(k:Nat)(K K2:Act→World→Prop)(wr:World)(u8 u9 u10 u11 u13 u14 u15 u16 u17 u19 u20 u21 u31 u32 u33 u34 u35 u36 u37 u38 u39 u40 u41 u42 u43 u44 u45 u46 u47 u48 u49 u50 u51 u52 u53 u54 u55 u56 u57 u58 u59 u60 u61 u62 u63 u64 u65 u66 u67 u68 u69 u70 u71 u72 u73 u74 u75 u76 u77 u78 u79 u80 u81 u82 u83 u84 u85 u86 u87 u88 u89 u90 u91 u92 u93 u94 u95 u96 u97 u98 u99 u100 u101 u102 u103 u104 u105 u106 u107 u108 u109 u110 u111 u112 u113 u114 u115 u116 u117 u118 u119 u120 u121 u122 u123 u124:Value):Prop:=
 Code.wp Tryz.prog ((Tryz.f24.body.bind firstLoop).getD .skip) (Exit.then K (Exit.inBlock 0 (Exit.then K2 (bodyPost Tryz.prog Tryz.f24 (RdPost (readC l ⟨op,fa,fb,fc,fd⟩ t) base g nt ct w))))) ⟨List.toArray (.agg #[.slice a m c] :: .int .i64 p :: .agg #[.int .i64 op,.int .i64 fa,.int .i64 fb,.int .i64 fc,.int .i64 fd] :: .slice (some ⟨g,0,none⟩) nt ct :: .pointer (some ⟨w.heap.size,0,none⟩)::undef :: .pointer (some ⟨w.heap.size+1,0,none⟩)::undef::u8::u9::u10::u11 :: .slice (some ⟨b1,0,none⟩) 4 4::u13::u14::u15::u16::u17::undef::u19::u20::u21::undef::undef :: .pointer (some ⟨w.heap.size+1,0,none⟩) :: .int .i64 op :: .slice (some ⟨b1,0,none⟩) 4 4 :: .agg #[.int .i64 op,.int .i64 fa,.int .i64 fb,.int .i64 fc,.int .i64 fd] :: .slice (some ⟨b2,0,none⟩) 4 4 :: .int .i64 4 :: .int .i64 (k:Int)::u31::u32::u33::u34::u35::u36::u37::u38::u39::u40::u41::u42::u43::u44::u45::u46::u47::u48::u49::u50::u51::u52::u53::u54::u55::u56::u57::u58::u59::u60::u61::u62::u63::u64::u65::u66::u67::u68::u69::u70::u71::u72::u73::u74::u75::u76::u77::u78::u79::u80::u81::u82::u83::u84::u85::u86::u87::u88::u89::u90::u91::u92::u93::u94::u95::u96::u97::u98::u99::u100::u101::u102::u103::u104::u105::u106::u107::u108::u109::u110::u111::u112::u113::u114::u115::u116::u117::u118::u119::u120::u121::u122::u123::u124::undef::undef::undef::undef::undef::undef::undef::undef::undef::undef::undef::undef::undef::undef::undef::undef::undef::undef::undef::undef::undef::undef::undef::undef::undef::undef::undef::[]),[]⟩ wr
theorem rd_skip (l:List ProtoD)(op fa fb fc fd p:Int)(r:List Nat)(t:List Int)(base g nt ct m c bT b1 b2:Nat)(a:Option Addr)(w:World)
  (BLK:Hid (RdB w base g bT b1 b2))(HR:Hid (rolesC op=some r))(hlen:nt≤250)(gk k:Nat)(s:RdS)(wr:World)(u8 u9 u10 u11 u13 u14 u15 u16 u17 u19 u20 u21 u31 u32 u33 u34 u35 u36 u37 u38 u39 u40 u41 u42 u43 u44 u45 u46 u47 u48 u49 u50 u51 u52 u53 u54 u55 u56 u57 u58 u59 u60 u61 u62 u63 u64 u65 u66 u67 u68 u69 u70 u71 u72 u73 u74 u75 u76 u77 u78 u79 u80 u81 u82 u83 u84 u85 u86 u87 u88 u89 u90 u91 u92 u93 u94 u95 u96 u97 u98 u99 u100 u101 u102 u103 u104 u105 u106 u107 u108 u109 u110 u111 u112 u113 u114 u115 u116 u117 u118 u119 u120 u121 u122 u123 u124:Value)(hk:k+gk=4)(hk4:k<4)
  (HW:Hid (RdW w base g nt ct bT b1 b2 a m c ⟨op,fa,fb,fc,fd⟩ r s u10 u11 wr))(hS:Hid (rdUpto r ⟨op,fa,fb,fc,fd⟩ ⟨t,[],[]⟩ k=some s))(hL:Hid (RdLen nt k s))(q:Nat)(x:Int)(HQ:Hid (r[k]?.getD 0=q))(HX:Hid (insF ⟨op,fa,fb,fc,fd⟩ k=x))
  (hz:(wantsC q).1=0)
  (J:Nat→Act→World→Prop)(K K2:Act→World→Prop)
  (hJ:RdJ op fa fb fc fd p r t base g nt ct m c bT b1 b2 a w J)
  (hK:∀(a':Act)(w':World),Handed J gk a' w'→K a' w') :
  RdGoal l op fa fb fc fd p t base g nt ct m c b1 b2 a w k K K2 wr u8 u9 u10 u11 u13 u14 u15 u16 u17 u19 u20 u21 u31 u32 u33 u34 u35 u36 u37 u38 u39 u40 u41 u42 u43 u44 u45 u46 u47 u48 u49 u50 u51 u52 u53 u54 u55 u56 u57 u58 u59 u60 u61 u62 u63 u64 u65 u66 u67 u68 u69 u70 u71 u72 u73 u74 u75 u76 u77 u78 u79 u80 u81 u82 u83 u84 u85 u86 u87 u88 u89 u90 u91 u92 u93 u94 u95 u96 u97 u98 u99 u100 u101 u102 u103 u104 u105 u106 u107 u108 u109 u110 u111 u112 u113 u114 u115 u116 u117 u118 u119 u120 u121 u122 u123 u124:=by
 unfold RdJ at hJ
 unfold RdGoal
 have y1:=(unhide HW).roles.cell (i:=k) hk4
 rw[HQ.out]at y1
 have y2:=(unhide HW).flds.cell (i:=k) hk4
 rw[HX.out]at y2
 have y3:=(unhide HW).roles.lt
 have y4:=(unhide HW).flds.lt
 have hq21:q≤21:=by rw[←HQ.out];exact rolesC_le HR.out k
 have WA:=hide (fun W=>l6wants_any q hq21 W)
 have STEP:Hid (rdUpto r ⟨op,fa,fb,fc,fd⟩ ⟨t,[],[]⟩ (k+1)=rdF q x s):=by show _=_;rw[rdUpto_next hS.out,HQ.out,HX.out]
 have FAIL:Hid (rdF q x s=none→readC l ⟨op,fa,fb,fc,fd⟩ t=none):=fun h=>readC_none HR.out (by rw[STEP.out];exact h) (show k+1≤4 by omega)
 conv=>arg 2;whnf
 have SN:Hid (rdUpto r ⟨op,fa,fb,fc,fd⟩ ⟨t,[],[]⟩ (k+1)=some s):=by show _=_;rw[STEP.out,rdF_skip hz]
 have LN:Hid (RdLen nt (k+1) s):=⟨hL.out.1,by have:=hL.out.2.1;omega,by have:=hL.out.2.2;omega⟩
 rw[hz]at WA
 clear STEP FAIL hz
 go_wp2_with fail
 refine(unhide WA _).mono ?_
 rintro e w3 ⟨rfl,rfl⟩
 go_wp2_with fail
 go_roundg (4-(k+1))
 case measure=>omega
 case rel=>exact⟨k+1,s,by omega,by go_num,unhide HW,SN,LN⟩
theorem rd_fail_neg (l:List ProtoD)(op fa fb fc fd p:Int)(r:List Nat)(t:List Int)(base g nt ct m c bT b1 b2:Nat)(a:Option Addr)(w:World)
  (BLK:Hid (RdB w base g bT b1 b2))(HR:Hid (rolesC op=some r))(hlen:nt≤250)(gk k:Nat)(s:RdS)(wr:World)(u8 u9 u10 u11 u13 u14 u15 u16 u17 u19 u20 u21 u31 u32 u33 u34 u35 u36 u37 u38 u39 u40 u41 u42 u43 u44 u45 u46 u47 u48 u49 u50 u51 u52 u53 u54 u55 u56 u57 u58 u59 u60 u61 u62 u63 u64 u65 u66 u67 u68 u69 u70 u71 u72 u73 u74 u75 u76 u77 u78 u79 u80 u81 u82 u83 u84 u85 u86 u87 u88 u89 u90 u91 u92 u93 u94 u95 u96 u97 u98 u99 u100 u101 u102 u103 u104 u105 u106 u107 u108 u109 u110 u111 u112 u113 u114 u115 u116 u117 u118 u119 u120 u121 u122 u123 u124:Value)(hk:k+gk=4)(hk4:k<4)
  (HW:Hid (RdW w base g nt ct bT b1 b2 a m c ⟨op,fa,fb,fc,fd⟩ r s u10 u11 wr))(hS:Hid (rdUpto r ⟨op,fa,fb,fc,fd⟩ ⟨t,[],[]⟩ k=some s))(hL:Hid (RdLen nt k s))(q:Nat)(x:Int)(HQ:Hid (r[k]?.getD 0=q))(HX:Hid (insF ⟨op,fa,fb,fc,fd⟩ k=x))
  (R:Nat)(W:Int)(hw:wantsC q=(W,true))(hW0:W≠0)(hneg:x<0)(hR:(-1:Int)-x=R)(hRn:R<nt)(hty:tyAt s.types R≠W)
  (J:Nat→Act→World→Prop)(K K2:Act→World→Prop)
  (hJ:RdJ op fa fb fc fd p r t base g nt ct m c bT b1 b2 a w J)
  (hK:∀(a':Act)(w':World),Handed J gk a' w'→K a' w') :
  RdGoal l op fa fb fc fd p t base g nt ct m c b1 b2 a w k K K2 wr u8 u9 u10 u11 u13 u14 u15 u16 u17 u19 u20 u21 u31 u32 u33 u34 u35 u36 u37 u38 u39 u40 u41 u42 u43 u44 u45 u46 u47 u48 u49 u50 u51 u52 u53 u54 u55 u56 u57 u58 u59 u60 u61 u62 u63 u64 u65 u66 u67 u68 u69 u70 u71 u72 u73 u74 u75 u76 u77 u78 u79 u80 u81 u82 u83 u84 u85 u86 u87 u88 u89 u90 u91 u92 u93 u94 u95 u96 u97 u98 u99 u100 u101 u102 u103 u104 u105 u106 u107 u108 u109 u110 u111 u112 u113 u114 u115 u116 u117 u118 u119 u120 u121 u122 u123 u124:=by
 unfold RdJ at hJ
 unfold RdGoal
 have y1:=(unhide HW).roles.cell (i:=k) hk4
 rw[HQ.out]at y1
 have y2:=(unhide HW).flds.cell (i:=k) hk4
 rw[HX.out]at y2
 have y3:=(unhide HW).roles.lt
 have y4:=(unhide HW).flds.lt
 have hq21:q≤21:=by rw[←HQ.out];exact rolesC_le HR.out k
 have WA:=hide (fun W=>l6wants_any q hq21 W)
 have STEP:Hid (rdUpto r ⟨op,fa,fb,fc,fd⟩ ⟨t,[],[]⟩ (k+1)=rdF q x s):=by show _=_;rw[rdUpto_next hS.out,HQ.out,HX.out]
 have FAIL:Hid (rdF q x s=none→readC l ⟨op,fa,fb,fc,fd⟩ t=none):=fun h=>readC_none HR.out (by rw[STEP.out];exact h) (show k+1≤4 by omega)
 conv=>arg 2;whnf
 obtain⟨g',cap',hv',_,hgl,hcc⟩:=(unhide HW).types.at (by rw[←hL.out.1];omega)
 have hg':g=g':=by injection hv' with h;injection h with h;exact congrArg Addr.block h
 subst hg'
 have cR:=hcc R (by have:=hL.out.1;omega)
 have RR:Hid (readC l ⟨op,fa,fb,fc,fd⟩ t=none):=FAIL.out (rdF_type hw hW0 (by unfold regOf;rw[if_pos ⟨rfl,hneg⟩,show(-1-x).toNat=R by omega];exact hty))
 have HTY:tyAt s.types R=s.types[R]?.getD 0:=rfl
 rw[HTY]at hty
 clear hcc hv' HTY FAIL STEP
 generalize s.types[R]?.getD 0=ty at *
 rw[hw]at WA
 have hW0':(W==0)=false:=by simpa using hW0
 have tb:(ty != W)=true:=by simpa using hty
 have hnb:decide (x<0)=true:=decide_eq_true hneg
 clear hW0 hty hw
 go_wp2_with fail
 refine(unhide WA _).mono ?_
 rintro e w3 ⟨rfl,rfl⟩
 go_wp2_with fail
 go_ret2
 exact rd_no RR.out (unhide HW).old
theorem rd_fail_pos (l:List ProtoD)(op fa fb fc fd p:Int)(r:List Nat)(t:List Int)(base g nt ct m c bT b1 b2:Nat)(a:Option Addr)(w:World)
  (BLK:Hid (RdB w base g bT b1 b2))(HR:Hid (rolesC op=some r))(hlen:nt≤250)(gk k:Nat)(s:RdS)(wr:World)(u8 u9 u10 u11 u13 u14 u15 u16 u17 u19 u20 u21 u31 u32 u33 u34 u35 u36 u37 u38 u39 u40 u41 u42 u43 u44 u45 u46 u47 u48 u49 u50 u51 u52 u53 u54 u55 u56 u57 u58 u59 u60 u61 u62 u63 u64 u65 u66 u67 u68 u69 u70 u71 u72 u73 u74 u75 u76 u77 u78 u79 u80 u81 u82 u83 u84 u85 u86 u87 u88 u89 u90 u91 u92 u93 u94 u95 u96 u97 u98 u99 u100 u101 u102 u103 u104 u105 u106 u107 u108 u109 u110 u111 u112 u113 u114 u115 u116 u117 u118 u119 u120 u121 u122 u123 u124:Value)(hk:k+gk=4)(hk4:k<4)
  (HW:Hid (RdW w base g nt ct bT b1 b2 a m c ⟨op,fa,fb,fc,fd⟩ r s u10 u11 wr))(hS:Hid (rdUpto r ⟨op,fa,fb,fc,fd⟩ ⟨t,[],[]⟩ k=some s))(hL:Hid (RdLen nt k s))(q:Nat)(x:Int)(HQ:Hid (r[k]?.getD 0=q))(HX:Hid (insF ⟨op,fa,fb,fc,fd⟩ k=x))
  (R:Nat)(W:Int)(b:Bool)(hw:wantsC q=(W,b))(hW0:W≠0)(hx:x=R)(hRn:R<nt)(hty:tyAt s.types R≠W)
  (J:Nat→Act→World→Prop)(K K2:Act→World→Prop)
  (hJ:RdJ op fa fb fc fd p r t base g nt ct m c bT b1 b2 a w J)
  (hK:∀(a':Act)(w':World),Handed J gk a' w'→K a' w') :
  RdGoal l op fa fb fc fd p t base g nt ct m c b1 b2 a w k K K2 wr u8 u9 u10 u11 u13 u14 u15 u16 u17 u19 u20 u21 u31 u32 u33 u34 u35 u36 u37 u38 u39 u40 u41 u42 u43 u44 u45 u46 u47 u48 u49 u50 u51 u52 u53 u54 u55 u56 u57 u58 u59 u60 u61 u62 u63 u64 u65 u66 u67 u68 u69 u70 u71 u72 u73 u74 u75 u76 u77 u78 u79 u80 u81 u82 u83 u84 u85 u86 u87 u88 u89 u90 u91 u92 u93 u94 u95 u96 u97 u98 u99 u100 u101 u102 u103 u104 u105 u106 u107 u108 u109 u110 u111 u112 u113 u114 u115 u116 u117 u118 u119 u120 u121 u122 u123 u124:=by
 unfold RdJ at hJ
 unfold RdGoal
 have y1:=(unhide HW).roles.cell (i:=k) hk4
 rw[HQ.out]at y1
 have y2:=(unhide HW).flds.cell (i:=k) hk4
 rw[HX.out]at y2
 have y3:=(unhide HW).roles.lt
 have y4:=(unhide HW).flds.lt
 have hq21:q≤21:=by rw[←HQ.out];exact rolesC_le HR.out k
 have WA:=hide (fun W=>l6wants_any q hq21 W)
 have STEP:Hid (rdUpto r ⟨op,fa,fb,fc,fd⟩ ⟨t,[],[]⟩ (k+1)=rdF q x s):=by show _=_;rw[rdUpto_next hS.out,HQ.out,HX.out]
 have FAIL:Hid (rdF q x s=none→readC l ⟨op,fa,fb,fc,fd⟩ t=none):=fun h=>readC_none HR.out (by rw[STEP.out];exact h) (show k+1≤4 by omega)
 conv=>arg 2;whnf
 obtain⟨g',cap',hv',_,hgl,hcc⟩:=(unhide HW).types.at (by rw[←hL.out.1];omega)
 have hg':g=g':=by injection hv' with h;injection h with h;exact congrArg Addr.block h
 subst hg'
 have cR:=hcc R (by have:=hL.out.1;omega)
 subst hx
 have RR:Hid (readC l ⟨op,fa,fb,fc,fd⟩ t=none):=FAIL.out (rdF_type hw hW0 (by unfold regOf;rw[if_neg (by rintro⟨_,h⟩;omega)];exact hty))
 have HTY:tyAt s.types R=s.types[R]?.getD 0:=rfl
 rw[HTY]at hty
 clear hcc hv' HTY FAIL STEP
 generalize s.types[R]?.getD 0=ty at *
 rw[hw]at WA
 have hW0':(W==0)=false:=by simpa using hW0
 have tb:(ty != W)=true:=by simpa using hty
 clear hW0 hty hw
 cases b
 all_goals
  go_wp2_with fail
  refine(unhide WA _).mono ?_
  rintro e w3 ⟨rfl,rfl⟩
  go_wp2_with fail
  go_ret2
  exact rd_no RR.out (unhide HW).old
theorem rd_plain (l:List ProtoD)(op fa fb fc fd p:Int)(r:List Nat)(t:List Int)(base g nt ct m c bT b1 b2:Nat)(a:Option Addr)(w:World)
  (BLK:Hid (RdB w base g bT b1 b2))(HR:Hid (rolesC op=some r))(hlen:nt≤250)(gk k:Nat)(s:RdS)(wr:World)(u8 u9 u10 u11 u13 u14 u15 u16 u17 u19 u20 u21 u31 u32 u33 u34 u35 u36 u37 u38 u39 u40 u41 u42 u43 u44 u45 u46 u47 u48 u49 u50 u51 u52 u53 u54 u55 u56 u57 u58 u59 u60 u61 u62 u63 u64 u65 u66 u67 u68 u69 u70 u71 u72 u73 u74 u75 u76 u77 u78 u79 u80 u81 u82 u83 u84 u85 u86 u87 u88 u89 u90 u91 u92 u93 u94 u95 u96 u97 u98 u99 u100 u101 u102 u103 u104 u105 u106 u107 u108 u109 u110 u111 u112 u113 u114 u115 u116 u117 u118 u119 u120 u121 u122 u123 u124:Value)(hk:k+gk=4)(hk4:k<4)
  (HW:Hid (RdW w base g nt ct bT b1 b2 a m c ⟨op,fa,fb,fc,fd⟩ r s u10 u11 wr))(hS:Hid (rdUpto r ⟨op,fa,fb,fc,fd⟩ ⟨t,[],[]⟩ k=some s))(hL:Hid (RdLen nt k s))(q:Nat)(x:Int)(HQ:Hid (r[k]?.getD 0=q))(HX:Hid (insF ⟨op,fa,fb,fc,fd⟩ k=x))
  (R:Nat)(W:Int)(hWq:q=2∧W=1∨q=3∧W=3)(hx:x=R)(hRn:R<nt)(hty:tyAt s.types R=W)
  (J:Nat→Act→World→Prop)(K K2:Act→World→Prop)
  (hJ:RdJ op fa fb fc fd p r t base g nt ct m c bT b1 b2 a w J)
  (hK:∀(a':Act)(w':World),Handed J gk a' w'→K a' w') :
  RdGoal l op fa fb fc fd p t base g nt ct m c b1 b2 a w k K K2 wr u8 u9 u10 u11 u13 u14 u15 u16 u17 u19 u20 u21 u31 u32 u33 u34 u35 u36 u37 u38 u39 u40 u41 u42 u43 u44 u45 u46 u47 u48 u49 u50 u51 u52 u53 u54 u55 u56 u57 u58 u59 u60 u61 u62 u63 u64 u65 u66 u67 u68 u69 u70 u71 u72 u73 u74 u75 u76 u77 u78 u79 u80 u81 u82 u83 u84 u85 u86 u87 u88 u89 u90 u91 u92 u93 u94 u95 u96 u97 u98 u99 u100 u101 u102 u103 u104 u105 u106 u107 u108 u109 u110 u111 u112 u113 u114 u115 u116 u117 u118 u119 u120 u121 u122 u123 u124:=by
 unfold RdJ at hJ
 unfold RdGoal
 have y1:=(unhide HW).roles.cell (i:=k) hk4
 rw[HQ.out]at y1
 have y2:=(unhide HW).flds.cell (i:=k) hk4
 rw[HX.out]at y2
 have y3:=(unhide HW).roles.lt
 have y4:=(unhide HW).flds.lt
 have hq21:q≤21:=by rw[←HQ.out];exact rolesC_le HR.out k
 have WA:=hide (fun W=>l6wants_any q hq21 W)
 have STEP:Hid (rdUpto r ⟨op,fa,fb,fc,fd⟩ ⟨t,[],[]⟩ (k+1)=rdF q x s):=by show _=_;rw[rdUpto_next hS.out,HQ.out,HX.out]
 have FAIL:Hid (rdF q x s=none→readC l ⟨op,fa,fb,fc,fd⟩ t=none):=fun h=>readC_none HR.out (by rw[STEP.out];exact h) (show k+1≤4 by omega)
 conv=>arg 2;whnf
 obtain⟨g',cap',hv',_,hgl,hcc⟩:=(unhide HW).types.at (by rw[←hL.out.1];omega)
 have hg':g=g':=by injection hv' with h;injection h with h;exact congrArg Addr.block h
 subst hg'
 have cR:=hcc R (by have:=hL.out.1;omega)
 subst hx
 have SN:Hid (rdUpto r ⟨op,fa,fb,fc,fd⟩ ⟨t,[],[]⟩ (k+1)=some s):=by
  show _=_
  have e:regOf true ((R:Nat):Int)=R:=by unfold regOf;rw[if_neg (by omega)];rfl
  rw[STEP.out,rdF_op hWq,e,if_neg (fun h=>h hty),if_neg (by omega)]
 have LN:Hid (RdLen nt (k+1) s):=⟨hL.out.1,by have:=hL.out.2.1;omega,by have:=hL.out.2.2;omega⟩
 have HTY:tyAt s.types R=s.types[R]?.getD 0:=rfl
 rw[HTY]at hty
 have hw:wantsC q=(W,true):=by rcases hWq with⟨rfl,rfl⟩ | ⟨rfl,rfl⟩<;>rfl
 rw[hw]at WA
 have hW0:(W==0)=false:=by rcases hWq with⟨_,rfl⟩ | ⟨_,rfl⟩<;>rfl
 have q18:((q:Int)==18)=false:=beq_eq_false_iff_ne.2 (by omega)
 have q20:((q:Int)==20)=false:=beq_eq_false_iff_ne.2 (by omega)
 have q19:((q:Int)==19)=false:=beq_eq_false_iff_ne.2 (by omega)
 clear hcc hv' HTY FAIL STEP
 generalize s.types[R]?.getD 0=ty at *
 have tb:(ty != W)=false:=by simpa using hty
 have HWN:=HW
 subst hty
 clear hw hWq
 go_wp2_with fail
 refine(unhide WA _).mono ?_
 rintro e w3 ⟨rfl,rfl⟩
 go_wp2_with fail
 go_loopg [21] 0 (fun gg i wr'=>gg=0∧i=.int .i64 1∧RdW w base g nt ct bT b1 b2 a m c ⟨op,fa,fb,fc,fd⟩ r s u10 u11 wr')
 case atStart=>exact⟨rfl,rfl,unhide HWN⟩
 case round=>
  clear HWN
  obtain⟨_,rfl,hWN⟩:=hrel
  have y1:=hWN.roles.cell (i:=k) hk4
  rw[HQ.out]at y1
  have y3:=hWN.roles.lt
  have HWN:=hide hWN
  clear hWN
  go_wp2_with fail
  go_roundg (4-(k+1))
  case measure=>omega
  case rel=>exact⟨k+1,s,by omega,by go_num,unhide HWN,SN,LN⟩
theorem rd_taken (l:List ProtoD)(op fa fb fc fd p:Int)(r:List Nat)(t:List Int)(base g nt ct m c bT b1 b2:Nat)(a:Option Addr)(w:World)
  (BLK:Hid (RdB w base g bT b1 b2))(HR:Hid (rolesC op=some r))(hlen:nt≤250)(gk k:Nat)(s:RdS)(wr:World)(u8 u9 u10 u11 u13 u14 u15 u16 u17 u19 u20 u21 u31 u32 u33 u34 u35 u36 u37 u38 u39 u40 u41 u42 u43 u44 u45 u46 u47 u48 u49 u50 u51 u52 u53 u54 u55 u56 u57 u58 u59 u60 u61 u62 u63 u64 u65 u66 u67 u68 u69 u70 u71 u72 u73 u74 u75 u76 u77 u78 u79 u80 u81 u82 u83 u84 u85 u86 u87 u88 u89 u90 u91 u92 u93 u94 u95 u96 u97 u98 u99 u100 u101 u102 u103 u104 u105 u106 u107 u108 u109 u110 u111 u112 u113 u114 u115 u116 u117 u118 u119 u120 u121 u122 u123 u124:Value)(hk:k+gk=4)(hk4:k<4)
  (HW:Hid (RdW w base g nt ct bT b1 b2 a m c ⟨op,fa,fb,fc,fd⟩ r s u10 u11 wr))(hS:Hid (rdUpto r ⟨op,fa,fb,fc,fd⟩ ⟨t,[],[]⟩ k=some s))(hL:Hid (RdLen nt k s))(q:Nat)(x:Int)(HQ:Hid (r[k]?.getD 0=q))(HX:Hid (insF ⟨op,fa,fb,fc,fd⟩ k=x))
  (R:Nat)(W:Int)(hWq:q=2∧W=1∨q=3∧W=3)(hneg:x<0)(hR:(-1:Int)-x=R)(hRn:R<nt)(hty:tyAt s.types R=W)
  (J:Nat→Act→World→Prop)(K K2:Act→World→Prop)
  (hJ:RdJ op fa fb fc fd p r t base g nt ct m c bT b1 b2 a w J)
  (hK:∀(a':Act)(w':World),Handed J gk a' w'→K a' w') :
  RdGoal l op fa fb fc fd p t base g nt ct m c b1 b2 a w k K K2 wr u8 u9 u10 u11 u13 u14 u15 u16 u17 u19 u20 u21 u31 u32 u33 u34 u35 u36 u37 u38 u39 u40 u41 u42 u43 u44 u45 u46 u47 u48 u49 u50 u51 u52 u53 u54 u55 u56 u57 u58 u59 u60 u61 u62 u63 u64 u65 u66 u67 u68 u69 u70 u71 u72 u73 u74 u75 u76 u77 u78 u79 u80 u81 u82 u83 u84 u85 u86 u87 u88 u89 u90 u91 u92 u93 u94 u95 u96 u97 u98 u99 u100 u101 u102 u103 u104 u105 u106 u107 u108 u109 u110 u111 u112 u113 u114 u115 u116 u117 u118 u119 u120 u121 u122 u123 u124:=by
 unfold RdJ at hJ
 unfold RdGoal
 obtain⟨i0,hi,hz0,hz1,hz2⟩:=info_of info_i
 have y1:=(unhide HW).roles.cell (i:=k) hk4
 rw[HQ.out]at y1
 have y2:=(unhide HW).flds.cell (i:=k) hk4
 rw[HX.out]at y2
 have y3:=(unhide HW).roles.lt
 have y4:=(unhide HW).flds.lt
 have hq21:q≤21:=by rw[←HQ.out];exact rolesC_le HR.out k
 have WA:=hide (fun W=>l6wants_any q hq21 W)
 have STEP:Hid (rdUpto r ⟨op,fa,fb,fc,fd⟩ ⟨t,[],[]⟩ (k+1)=rdF q x s):=by show _=_;rw[rdUpto_next hS.out,HQ.out,HX.out]
 have FAIL:Hid (rdF q x s=none→readC l ⟨op,fa,fb,fc,fd⟩ t=none):=fun h=>readC_none HR.out (by rw[STEP.out];exact h) (show k+1≤4 by omega)
 conv=>arg 2;whnf
 obtain⟨g',cap',hv',_,hgl,hcc⟩:=(unhide HW).types.at (by rw[←hL.out.1];omega)
 have hg':g=g':=by injection hv' with h;injection h with h;exact congrArg Addr.block h
 subst hg'
 have cR:=hcc R (by have:=hL.out.1;omega)
 have zR:=(unhide HW).types.frozen hL.out.1 R
 have RD2:Hid (rdF q x s=if R∈s.stay then none else some ⟨s.types.set R 0,s.taken++[R],s.stay⟩):=by
  show _=_
  have e:regOf true x=R:=by unfold regOf;rw[if_pos ⟨rfl,hneg⟩];omega
  rw[rdF_op hWq,e,if_neg (fun h=>h hty),if_pos hneg]
 have HTY:tyAt s.types R=s.types[R]?.getD 0:=rfl
 rw[HTY]at hty
 have hw:wantsC q=(W,true):=by rcases hWq with⟨rfl,rfl⟩ | ⟨rfl,rfl⟩<;>rfl
 rw[hw]at WA
 have hW0:(W==0)=false:=by rcases hWq with⟨_,rfl⟩ | ⟨_,rfl⟩<;>rfl
 have q18:((q:Int)==18)=false:=beq_eq_false_iff_ne.2 (by omega)
 have q20:((q:Int)==20)=false:=beq_eq_false_iff_ne.2 (by omega)
 have q19:((q:Int)==19)=false:=beq_eq_false_iff_ne.2 (by omega)
 have hnb:decide (x<0)=true:=decide_eq_true hneg
 clear hcc hv' HTY
 generalize s.types[R]?.getD 0=ty at *
 have tb:(ty != W)=false:=by simpa using hty
 obtain⟨asv,csv,hsv⟩:=(unhide HW).stay.lenV
 rw[natI_len]at hsv
 have hsl:=hL.out.2.2
 subst hty
 subst hsv
 clear hw hWq
 go_wp2_with fail
 refine(unhide WA _).mono ?_
 rintro e w3 ⟨rfl,rfl⟩
 go_wp2_with fail
 go_loopg [66] s.stay.length (fun gg i wr'=>∃ j:Nat,j+gg=s.stay.length∧i=.int .i64 j∧RdW w base g nt ct bT b1 b2 a m c ⟨op,fa,fb,fc,fd⟩ r s u10 (.slice asv s.stay.length csv) wr'∧Hid (∀ i,i<j→s.stay[i]?.getD 0≠R))
 case atStart=>exact⟨0,by omega,rfl,unhide HW,fun i h=>absurd h (Nat.not_lt_zero _)⟩
 case round=>
  clear HW y1 y2 y3 y4 cR zR hgl
  obtain⟨j,hj,rfl,hW,hall⟩:=hrel
  by_cases hjl:j<s.stay.length
  ·obtain⟨gs,caps,hgs,_,hgsl,hcs⟩:=hW.stay.at (by rw[natI_len];omega)
   rw[natI_len]at hgs hcs
   have cj:=hcs j hjl
   rw[natI_get]at cj
   injection hgs with hgs1 hgs2 hgs3
   subst hgs1
   obtain rfl:caps=csv:=hgs3.symm
   obtain⟨y,hy⟩:∃ y,s.stay[j]?.getD 0=y:=⟨_,rfl⟩
   rw[hy]at cj
   have hym:y∈s.stay:=by
    rw[List.getElem?_eq_getElem hjl]at hy
    have hy:s.stay[j]=y:=hy
    rw[←hy];exact List.getElem_mem hjl
   have HW:=hide hW
   clear hcs hW
   by_cases hyR:y=R
   ·have RR:Hid (readC l ⟨op,fa,fb,fc,fd⟩ t=none):=FAIL.out (by rw[RD2.out,if_pos (hyR ▸ hym)])
    have yb:((y:Int)==(R:Int))=true:=by simp;omega
    have ybn:(y==R)=true:=by simpa using hyR
    clear STEP RD2 hyR hy hym FAIL
    go_wp2_with fail
    go_ret2
    exact rd_no RR.out (unhide HW).old
   ·have NX:Hid (∀ i,i<j+1→s.stay[i]?.getD 0≠R):=fun i hi=>by
     by_cases e:i=j
     ·subst e;rw[hy];exact hyR
     ·exact hall.out i (by omega)
    have yb:((y:Int)==(R:Int))=false:=beq_eq_false_iff_ne.2 (by omega)
    have ybn:(y==R)=false:=beq_eq_false_iff_ne.2 hyR
    clear hyR hy hym
    go_wp2_with fail
    go_roundg (s.stay.length-(j+1))
    case measure=>omega
    case rel=>exact⟨j+1,by omega,by go_num,unhide HW,NX⟩
  ·have hRS:R ∉ s.stay:=fun h=>by
    obtain⟨i,hi,e⟩:=List.getElem_of_mem h
    have h1:=hall.out i (by omega)
    rw[List.getElem?_eq_getElem hi,e]at h1
    exact h1 rfl
   have SN:Hid (rdUpto r ⟨op,fa,fb,fc,fd⟩ ⟨t,[],[]⟩ (k+1)=some ⟨s.types.set R 0,s.taken++[R],s.stay⟩):=by show _=_;rw[STEP.out,RD2.out,if_neg hRS]
   have LN:Hid (RdLen nt (k+1) ⟨s.types.set R 0,s.taken++[R],s.stay⟩):=⟨by simpa using hL.out.1,by have:=hL.out.2.1;simp;omega,by have:=hL.out.2.2;show s.stay.length≤k+1;omega⟩
   have HWP:=hide (hW.put (unhide BLK) hL.out.1 R 0)
   obtain⟨g'',cap'',hv'',_,hgl'',hcc''⟩:=hW.types.at (by rw[←hL.out.1];omega)
   have hg'':g''=g:=by injection hv'' with h;injection h with h;exact(congrArg Addr.block h).symm
   have cR:=hcc'' R (by have:=hL.out.1;omega)
   rw[hg'']at cR hgl''
   have zR:=hW.types.frozen hL.out.1 R
   have y1:=hW.roles.cell (i:=k) hk4
   rw[HQ.out]at y1
   have y3:=hW.roles.lt
   have hTL:Hid ((natI s.taken).length≤1048576):=by show _≤_;rw[natI_len];have:=hL.out.2.1;omega
   have hbTs:=hW.size
   clear hv'' hcc'' hg'' hW hall STEP RD2 hRS FAIL
   go_wp2_with (first
    | (at_builtin;refine wpList_append_lies _ rfl _ _ 63 rfl bT 3 i0 (.int .i64 0) 1 8 Tryz.underlying63 hi hz0 hz1 hz2 rfl (by decide) _ _ _ rfl ((unhide HWP).taken.alloc _) ⟨wr.heap.size,0,none⟩ 1 1 [.int .i64 (R:Int)] rfl rfl ?c1 ?c2 (by decide) ?c3 ?c4 ?c5 (wr.heap.size+1) (by simp) ?_)
    | go_in)
   all_goals try (case c1=>
    intro j u hj
    match j,hj with
    | 0,hj=>simp at hj;subst hj;simp[Addr.add,go_sem])
   all_goals try (case c2=>first | rfl | (intro u hu;simp at hu;subst hu;rfl))
   all_goals try (case c3=>have:=hTL.out;unfold maxLen;omega)
   all_goals try (case c4=>have:=hTL.out;omega)
   all_goals try (case c5=>first | omega | (simp;omega))
   intro g3 cap3 w3 hown3 hgrow3 hat3 hlt3
   have O3:Hid (OwnI w3 bT (.slice (some ⟨g3,0,none⟩) ((natI s.taken).length+1) cap3) (natI (s.taken++[R]))):=by show OwnI _ _ _ _;rw[natI_push];exact OwnI.push hown3
   have HWN:=hide ((unhide HWP).take (unhide BLK) (x:=R) hgrow3 (unhide O3) (by simpa using hat3))
   have z1:=(unhide HWN).roles.cell (i:=k) hk4
   rw[HQ.out]at z1
   have z3:=(unhide HWN).roles.lt
   clear hown3 hgrow3 hat3 O3 HWP y1 y3 cR zR
   go_wp2_with fail
   go_loopg [21] 0 (fun gg i wr'=>gg=0∧i=.int .i64 1∧RdW w base g nt ct bT b1 b2 a m c ⟨op,fa,fb,fc,fd⟩ r ⟨s.types.set R 0,s.taken++[R],s.stay⟩ (.slice (some ⟨g3,0,none⟩) ((natI s.taken).length+1) cap3) (.slice asv s.stay.length csv) wr')
   case atStart=>exact⟨rfl,rfl,unhide HWN⟩
   case round=>
    clear HWN
    obtain⟨_,rfl,hWN⟩:=hrel
    have y1:=hWN.roles.cell (i:=k) hk4
    rw[HQ.out]at y1
    have y3:=hWN.roles.lt
    have HWN:=hide hWN
    clear hWN
    go_wp2_with fail
    go_roundg (4-(k+1))
    case measure=>omega
    case rel=>exact⟨k+1,⟨s.types.set R 0,s.taken++[R],s.stay⟩,by omega,by go_num,unhide HWN,SN,LN⟩
end Go.Proofs.YtmjcpapdncfkpaaGreatDoor
