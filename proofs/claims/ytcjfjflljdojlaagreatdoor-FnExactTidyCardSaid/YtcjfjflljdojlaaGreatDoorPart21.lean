import Derived.Test.YtcjfjflljdojlaaGreatDoorPart20
set_option linter.all false
set_option maxHeartbeats 4000000
set_option maxRecDepth 1000000
namespace Go.Proofs.YtcjfjflljdojlaaGreatDoor
open Go.RowKit
theorem gI {n:aj}{np i:Nat}(h:dn n np i=true):(1<=(aR n i).op/\(aR n i).op<=42)/\(∀ k,k<4->dh n np (dj (aR n i) k) (((bh (aR n i).op).getD [])[k]?.getD 0)=true)/\(i+1=n.u.length->(aR n i).op=19\/(aR n i).op=29\/(aR n i).op=30):=by
 unfold dn at h;change (match bh (aR n i).op with | none=>false | some r=>_)=true at h;cases e:bh (aR n i).op with
 | none=>rw[e]at h;cases h
 | some r=>
  rw[e]at h;simp only[Bool.and_eq_true]at h;obtain⟨⟨⟨⟨h0,h1⟩,h2⟩,h3⟩,h4⟩:=h;refine⟨?_,?_,?_⟩;{by_cases c:1<=(aR n i).op/\(aR n i).op<=42;{exact c};{rw[ny c]at e;cases e}};{intro k hk;have hc:k=0\/k=1\/k=2\/k=3:=by{omega};rcases hc with rfl | rfl | rfl | rfl;{exact h0};{exact h1};{exact h2};{exact h3}};{intro hl;rw[zbb hl]at h4;change ((false||(aR n i).op==19||(aR n i).op==29)||(aR n i).op==30)=true at h4;simp only[Bool.false_or,Bool.or_eq_true,beq_iff_eq]at h4;rcases h4 with(h4 | h4) | h4;{exact .inl h4};{exact .inr (.inl h4)};{exact .inr (.inr h4)}}
section
variable {n:aj} {np i:Nat}
theorem JW (h:dn n np i=true)(hr:0<=n.m):xr (aR n i).op (aR n i).fa (aR n i).fc n.m.toNat:=by
 obtain⟨_,hf,_⟩:=gI h;have f0:=hf 0 (by omega);have f2:=hf 2 (by omega);change dh n np (aR n i).fa _=true at f0;change dh n np (aR n i).fc _=true at f2;refine⟨fun e=>?_,fun e=>?_,fun e=>?_,fun e=>?_⟩;{rw[e]at f0;have:=aU f0;omega};{rw[e]at f0;have:=aU (show dw _ 0 (n.m-1)=true from f0);omega};{rw[e]at f0;have:=aU (show dw _ 0 (n.m-2)=true from f0);omega};{rw[e]at f2;have:=aU (show dw _ 0 (n.m-1)=true from f2);omega}
theorem JT (h:dn n np i=true)(hr:0<=n.m):IS (aR n i).op (aR n i).fa (aR n i).fb (aR n i).fc n.m.toNat:=by
 obtain⟨_,hf,_⟩:=gI h;have f0:=hf 0 (by omega);have f1:=hf 1 (by omega);have f2:=hf 2 (by omega);change dh n np (aR n i).fa _=true at f0;change dh n np (aR n i).fb _=true at f1;change dh n np (aR n i).fc _=true at f2;refine⟨fun e=>?_,fun e=>?_,fun e=>?_,fun e=>?_⟩;{rcases e with e | e<;>(rw[e]at f0;have:=aU (show dw _ 0 ((n.u.length:Int)-1)=true from f0);omega)};{rcases e with e | e | e | e | e | e;{rw[e]at f1;have:=aU (show dw _ 0 ((n.u.length:Int)-1)=true from f1);omega};{rw[e]at f1;have:=aU (show dw _ 0 ((n.u.length:Int)-1)=true from f1);omega};{rw[e]at f1;have:=aU (show dw _ 0 ((n.u.length:Int)-1)=true from f1);omega};{rw[e]at f1;have:=aU (show dw _ 0 ((n.u.length:Int)-1)=true from f1);omega};{rw[e]at f1;have:=aU (show dw _ 0 ((n.u.length:Int)-1)=true from f1);omega};{rw[e]at f1;have:=aU (show dw _ 0 (n.m-2)=true from f1);omega}};{rw[e]at f2;have:=aU (show dw _ 0 (n.m-1)=true from f2);omega};{rw[e]at f1;have:=aU (show dw _ 0 (n.m-2)=true from f1);omega}
theorem mX (h:dn n np i=true):((aR n i).op=19\/(aR n i).op=31->0<=(aR n i).fa/\(aR n i).fa<n.u.length)/\((aR n i).op=20\/(aR n i).op=21\/(aR n i).op=38\/(aR n i).op=39\/(aR n i).op=41->0<=(aR n i).fb/\(aR n i).fb<n.u.length):=by
 obtain⟨_,hf,_⟩:=gI h;have f0:=hf 0 (by omega);have f1:=hf 1 (by omega);change dh n np (aR n i).fa _=true at f0;change dh n np (aR n i).fb _=true at f1;refine⟨fun e=>?_,fun e=>?_⟩;{rcases e with e | e<;>(rw[e]at f0;have:=aU (show dw _ 0 ((n.u.length:Int)-1)=true from f0);omega)};{rcases e with e | e | e | e | e<;>(rw[e]at f1;have:=aU (show dw _ 0 ((n.u.length:Int)-1)=true from f1);omega)}
theorem td {x:Int}(h:0<=x):Int.ofNat x.toNat=x:=Int.toNat_of_nonneg h
theorem qg (h:dn n np i=true)(hi:i<n.u.length):jJ (aR n i) i=aG (fh n i)/\(∀ y,y∈fh n i->y<n.u.length)/\(fh n i).length<=2:=by
 obtain⟨_,_,hl⟩:=gI h;obtain⟨ha,hb⟩:=mX h;have U9:(aR n i).op≠19->(aR n i).op≠29->(aR n i).op≠30->i+1<n.u.length:=fun h1 h2 h3=>by{by_cases e:i+1=n.u.length;{rcases hl e with h4 | h4 | h4;{exact zcc h4 h1};{exact zcc h4 h2};{exact zcc h4 h3}};{omega}};unfold fh jJ ep;generalize aR n i=x at *;obtain⟨op,fa,fb,fc,fd⟩:=x;simp only at *;by_cases c1:op=1\/op=3\/op=28\/op=29\/op=30;{rw[zca c1,zca c1];exact⟨rfl,by simp,by simp⟩};rw[zcb c1,zcb c1];have aaZ:op≠19->i+1<n.u.length:=fun h1=>U9 h1 (by omega) (by omega);by_cases c2:op=18/\fb=12;{rw[zca c2,zca c2];exact⟨rfl,by simp,by simp⟩};rw[zcb c2,zcb c2];by_cases c3:op=19;{have h1:=ha (.inl c3);rw[zca c3,zca c3];exact⟨by simp only[aG,List.map_cons,List.map_nil,td h1.1],by intro y hy;simp at hy;omega,by simp⟩};rw[zcb c3,zcb c3];have h2:=aaZ c3;by_cases c4:op=41;{have h1:=hb (by simp[c4]);rw[zca c4,zca c4];exact⟨by simp only[aG,List.map_cons,List.map_nil,td h1.1],by intro y hy;simp at hy;omega,by simp⟩};rw[zcb c4,zcb c4];by_cases c5:op=20\/op=21\/op=38\/op=39;{have h1:=hb (by omega);rw[zca c5,zca c5];exact⟨by simp only[aG,List.map_cons,List.map_nil,td h1.1];rfl,by intro y hy;simp at hy;omega,by simp⟩};rw[zcb c5,zcb c5];by_cases c6:op=31;{have h1:=ha (.inr c6);rw[zca c6,zca c6];exact⟨by simp only[aG,List.map_cons,List.map_nil,td h1.1];rfl,by intro y hy;simp at hy;omega,by simp⟩};rw[zcb c6,zcb c6];exact⟨rfl,by intro y hy;simp at hy;omega,by simp⟩
end
structure n9 (w:w_)(base g nt ct bT b1 b2:Nat)(a:o_)(m c:Nat)(n:az)(r:List Nat)(s:gY)(tv sv:Value)(wr:w_):Prop where
 old:Below base w wr
 size:bT<=wr.heap.size
 code:wr.cell? (a_ w.heap.size 0)=some (.slice a m c)
 u:aK wr (w.heap.size+1) 0 n
 T:wr.rowIs b1 3 4 (fun j=>i_ ((r[j]?.getD 0:Nat):Int))
 flds:wr.rowIs b2 3 4 (fun j=>i_ (dj n j))
 d:ao wr base (s_ g 0 nt ct) s.d
 p:ao wr bT tv (aG s.p)
 x:ao wr bT sv (aG s.x)
 apart:tv.ownBlock=none\/tv.ownBlock≠sv.ownBlock
structure Co (w:w_)(base g bT b1 b2:Nat):Prop where
 g1:base<=g
 g2:g<w.heap.size
 r1:w.heap.size+2<=b1
 r2:w.heap.size+2<=b2
 t1:b1<bT
 t2:b2<bT
section
variable {w:w_} {base g nt ct bT b1 b2:Nat} {a:o_} {m c:Nat} {n:az} {r:List Nat} {s:gY} {tv sv:Value} {wr w2:w_}
theorem n9.other (h:n9 w base g nt ct bT b1 b2 a m c n r s tv sv wr)(hB:Co w base g bT b1 b2)(hb:∀ k,w.heap.size<=k->k<bT->w2.heap[k]? = wr.heap[k]?) :
  w2.cell? (a_ w.heap.size 0)=some (.slice a m c)/\aK w2 (w.heap.size+1) 0 n/\w2.rowIs b1 3 4 (fun j=>i_ ((r[j]?.getD 0:Nat):Int))/\w2.rowIs b2 3 4 (fun j=>i_ (dj n j)):=by
 have:=hB.r1;have:=hB.r2;have:=hB.t1;have:=hB.t2;have e0:∀ o,w2.cell? (a_ w.heap.size o)=wr.cell? (a_ w.heap.size o):=fun o=>zbe (hb _ n_ (by show w.heap.size<bT;omega));have e1:∀ o,w2.cell? (a_ (w.heap.size+1) o)=wr.cell? (a_ (w.heap.size+1) o):=fun o=>zbe (hb _ (by show w.heap.size<=w.heap.size+1;omega) (by show w.heap.size+1<bT;omega));exact⟨(e0 0).trans h.code,⟨(e1 _).trans h.u.op,(e1 _).trans h.u.fa,(e1 _).trans h.u.fb,(e1 _).trans h.u.fc,(e1 _).trans h.u.fd⟩,h.T.of_block (hb _ (by omega) (by omega)),h.flds.of_block (hb _ (by omega) (by omega))⟩
theorem n9.below (h:n9 w base g nt ct bT b1 b2 a m c n r s tv sv wr)(hB:Co w base g bT b1 b2)(hb:b_ wr w2):n9 w base g nt ct bT b1 b2 a m c n r s tv sv w2:=by
 have hs:=h.old.size;have hz:=h.size;have:=hB.g1;have:=hB.g2;obtain⟨x1,x2,x3,x4⟩:=h.other hB (w2:=w2) (fun k _ hk=>hb.block k (by omega));exact⟨h.old.trans (hb.mono (by omega)),zah hz hb.size,x1,x2,x3,x4,h.d.below hb,h.p.below hb,h.x.below hb,h.apart⟩
theorem n9.put (h:n9 w base g nt ct bT b1 b2 a m c n r s tv sv wr)(hB:Co w base g bT b1 b2)(hn:nt=s.d.length)(j:Nat)(x:Int):n9 w base g nt ct bT b1 b2 a m c n r ⟨s.d.set j x,s.p,s.x⟩ tv sv (wr.setCell (a_ g j) (i_ x)):=by
 have:=hB.g1;have:=hB.g2;have:=hB.t1;have:=hB.r1;have hk:∀ k,k≠g->(wr.setCell (a_ g j) (i_ x)).heap[k]? = wr.heap[k]?:=fun k hk=>zbg wr (a_ g j) k _ (fun e=>hk e);obtain⟨x1,x2,x3,x4⟩:=h.other hB (w2:=wr.setCell (a_ g j) (i_ x)) (fun k h1 _=>hk k (by omega));exact⟨h.old.setCell hB.g1 _,by have:=h.size;simpa using this,x1,x2,x3,x4,h.d.set hn j x,h.p.setOther (by omega),h.x.setOther (by omega),h.apart⟩
theorem n9.take (h:n9 w base g nt ct bT b1 b2 a m c n r s tv sv wr)(hB:Co w base g bT b1 b2){o:Obj}{gn cap n3 x:Nat}(hg:(wr.alloc o).grownBy w2 tv.ownBlock)(ho:ao w2 bT (s_ gn 0 n3 cap) (aG (s.p++[x])))(fW:tv.ownBlock=some gn\/gn=wr.heap.size+1) :
  n9 w base g nt ct bT b1 b2 a m c n r ⟨s.d,s.p++[x],s.x⟩ (s_ gn 0 n3 cap) sv w2:=by
 have hs:=h.old.size;have hz:=h.size;have:=hB.g1;have:=hB.g2;have:=hB.t1;have:=hB.r1;have au:∀ k,tv.ownBlock=some k->bT<=k:=fun k hk=>(h.p.lt k hk).1;have cY:∀ b,b<bT->w2.heap[b]? = wr.heap[b]?:=fun b hb=>by
  rw[hg.block b (by simp;omega) (fun e=>by have:=au b e.symm;omega)];exact Below.heap_alloc wr o b (by omega)
 obtain⟨x1,x2,x3,x4⟩:=h.other hB (w2:=w2) (fun k _ hk=>cY k hk);have km:bT<=w2.heap.size:=by have:=hg.size;simp at this;omega
 have hold:Below base w w2:=(h.old.alloc (by omega) o).grown hg (by simp;omega) (fun k hk=>by have:=au k hk;omega);have ey:ao w2 base (s_ g 0 nt ct) s.d:=ao.kept (h.d.alloc o) hg (.inr (fun e=>by have:=au g e.symm;omega));have lu:ao w2 bT sv (aG s.x):=ao.kept (h.x.alloc o) hg (by
  rcases h.apart with e | e
  ·rw[e];cases es:sv.ownBlock with
   | none=>exact .inl rfl
   | some k=>exact .inr (by simp)
  ·exact .inr (fun e'=>e e'.symm))
 refine⟨hold,km,x1,x2,x3,x4,ey,ho,lu,.inr (fun e=>?_)⟩;have e:some gn=sv.ownBlock:=e;have hl:=(h.x.lt gn e.symm).2;rcases fW with h1 | h1;{rcases h.apart with e2 | e2;{rw[e2]at h1;cases h1};{exact e2 (h1.trans e)}};{omega}
theorem n9.hold (h:n9 w base g nt ct bT b1 b2 a m c n r s tv sv wr)(hB:Co w base g bT b1 b2){o:Obj}{gn cap n3 x:Nat}(hg:(wr.alloc o).grownBy w2 sv.ownBlock)(ho:ao w2 bT (s_ gn 0 n3 cap) (aG (s.x++[x])))(fW:sv.ownBlock=some gn\/gn=wr.heap.size+1) :
  n9 w base g nt ct bT b1 b2 a m c n r ⟨s.d,s.p,s.x++[x]⟩ tv (s_ gn 0 n3 cap) w2:=by
 have hs:=h.old.size;have hz:=h.size;have:=hB.g1;have:=hB.g2;have:=hB.t1;have:=hB.r1;have au:∀ k,sv.ownBlock=some k->bT<=k:=fun k hk=>(h.x.lt k hk).1;have cY:∀ b,b<bT->w2.heap[b]? = wr.heap[b]?:=fun b hb=>by
  rw[hg.block b (by simp;omega) (fun e=>by have:=au b e.symm;omega)];exact Below.heap_alloc wr o b (by omega)
 obtain⟨x1,x2,x3,x4⟩:=h.other hB (w2:=w2) (fun k _ hk=>cY k hk);have km:bT<=w2.heap.size:=by{have:=hg.size;simp at this;omega};have hold:Below base w w2:=(h.old.alloc (by omega) o).grown hg (by simp;omega) (fun k hk=>by have:=au k hk;omega);have ey:ao w2 base (s_ g 0 nt ct) s.d:=ao.kept (h.d.alloc o) hg (.inr (fun e=>by have:=au g e.symm;omega));have lu:ao w2 bT tv (aG s.p):=ao.kept (h.p.alloc o) hg h.apart;refine⟨hold,km,x1,x2,x3,x4,ey,lu,ho,?_⟩;cases et:tv.ownBlock with
 | none=>exact .inl rfl
 | some k=>
  refine .inr (fun e=>?_);have e:some k=some gn:=e;have ek:k=gn:=by{simpa using e};have hl:=(h.p.lt k et).2;rcases fW with h1 | h1;{rcases h.apart with e2 | e2;{rw[e2]at et;cases et};{exact e2 (by rw[et,h1,ek])}};{omega}
end
end Go.Proofs.YtcjfjflljdojlaaGreatDoor
namespace Go.Proofs.YtcjfjflljdojlaaGreatDoor
structure FE (R:Nat)(s:fK):Prop where
 d:s.d.length=R
 many:s.r.length<=50
 keep:∀ i,i<s.r.length->(s.r[i]?.getD bc.z).keep<=R
structure oR (R N:Nat)(σ:dW):Prop where
 st:∀ i s,σ.st i=some s->i<N/\FE R s
 b:∀ i,σ.b i=true->i<N/\σ.st i≠none
structure wN (n:az)(a R N:Nat):Prop where
 try_:n.op=31->n.fb<=R
 next:dc n=true->a+1<N
 jump:n.op=19\/n.op=31->n.fa.toNat<N
 jumpB:n.op=20\/n.op=21\/n.op=38\/n.op=39\/n.op=41->n.fb.toNat<N
 scope:n.op=33\/n.op=34->n.fa<=R
theorem Mj {q:Nat}{x:Int}{s s':gY}(h:gJ q x s=some s'):s'.d.length=s.d.length:=by
 unfold gJ at h;by_cases c1:(cM q).1=0;{rw[zca c1]at h;cases h;rfl};rw[zcb c1]at h;by_cases c2:ba s.d (eV (cM q).2 x)≠(cM q).1;{rw[zca c2]at h;cases h};rw[zcb c2]at h;by_cases c3:(cM q).2=true/\x<0;{rw[zca c3]at h;by_cases c4:eV true x∈s.x;{rw[zca c4]at h;cases h};{rw[zcb c4]at h;cases h;simp}};rw[zcb c3]at h;by_cases c5:(cM q).2=true;{rw[zca c5]at h;cases h;rfl};rw[zcb c5]at h;by_cases c6:(q=18\/q=20)/\ba s.d (x.toNat+1)≠1;{rw[zca c6]at h;cases h};rw[zcb c6]at h;by_cases c7:q=18/\ba s.d (x.toNat+2)≠1;{rw[zca c7]at h;cases h};rw[zcb c7]at h;by_cases c8:q=19;{rw[zca c8]at h;by_cases c9:ba s.d (x.toNat+1)≠0;{rw[zca c9]at h;cases h};{rw[zcb c9]at h;cases h;rfl}};{rw[zcb c8]at h;cases h;rfl}
theorem uE {r:List Nat}{n:az}{s:gY}:∀{k:Nat}{s':gY},aW r n s k=some s'->s'.d.length=s.d.length
 | 0,s',h=>by cases h;rfl
 | k+1,s',h=>by
  change (match aW r n s k with | none=>none | some s'=>gJ (r[k]?.getD 0) (dj n k) s')=some s' at h;cases e:aW r n s k with
  | none=>rw[e]at h;cases h
  | some s1=>rw[e]at h;exact(Mj h).trans (uE e)
theorem od {l:List aj}{n:az}{t:List Int}{r:gY}(h:bH l n t=some r):r.d.length=t.length:=by
 unfold bH at h;cases e:aW ((bh n.op).getD []) n ⟨t,[],[]⟩ 4 with
 | none=>rw[e]at h;cases h
 | some s=>
  rw[e]at h;change (if _ then _ else _)=_ at h;split at h;{cases h};{cases h;exact uE e}
theorem mg (n:az)(t:List Int):(bg n t).length=t.length:=by
 unfold bg;(repeat' split);all_goals simp
theorem oJ {n:az}{g g':List bc}{R a N:Nat}(h:aP n g=some g')(hf:wN n a R N)(hl:g.length<=50)(hk:∀ i,i<g.length->(g[i]?.getD bc.z).keep<=R) :
  g'.length<=50/\∀ i,i<g'.length->(g'[i]?.getD bc.z).keep<=R:=by
 have app:∀ x:bc,x.keep<=R->g.length<50->(g++[x]).length<=50/\∀ i,i<(g++[x]).length->((g++[x])[i]?.getD bc.z).keep<=R:=fun x hx hg=>by
  refine⟨by simp;omega,fun i hi=>?_⟩;by_cases e:i<g.length;{rw[List.getElem?_append_left e];exact hk i e};{have:i=g.length:=by{simp at hi;omega};subst this;simpa using hx}
 have tk:(g.take (g.length-1)).length<=50/\∀ i,i<(g.take (g.length-1)).length->((g.take (g.length-1))[i]?.getD bc.z).keep<=R:=by
  refine⟨by simp;omega,fun i hi=>?_⟩;have Ix:i<g.length-1:=by{simp at hi;omega};rw[List.getElem?_take,zca Ix];exact hk i (by omega)
 unfold aP at h;by_cases c1:n.op=31;{rw[zca c1]at h;by_cases c:g.length<50/\dS g n.fb=true;{rw[zca c]at h;cases h;exact app _ (hf.try_ c1) c.1};{rw[zcb c]at h;cases h}};rw[zcb c1]at h;by_cases c2:n.op=33;{rw[zca c2]at h;by_cases c:g.length<50/\dS g n.fa=true;{rw[zca c]at h;cases h;exact app _ (hf.scope (.inl c2)) c.1};{rw[zcb c]at h;cases h}};rw[zcb c2]at h;by_cases c3:n.op=32;{rw[zca c3]at h;by_cases c:g.length=0\/(g[g.length-1]?.getD bc.z).tr=false;{rw[zca c]at h;cases h};{rw[zcb c]at h;cases h;exact tk}};rw[zcb c3]at h;by_cases c4:n.op=34\/n.op=35\/n.op=36;{rw[zca c4]at h;by_cases c:g.length=0\/(g[g.length-1]?.getD bc.z).tr=true\/(n.op=34/\dS g n.fa=false);{rw[zca c]at h;cases h};rw[zcb c]at h;by_cases c5:n.op=34;{rw[zca c5]at h;cases h;refine⟨by simpa using hl,fun i hi=>?_⟩;have hi:i<g.length:=by{simpa using hi};by_cases e:i=g.length-1;{subst e;rw[List.getElem?_set_self (by omega)];exact hf.scope (.inr c5)};{rw[List.getElem?_set_ne (by omega)];exact hk i hi}};rw[zcb c5]at h;by_cases c6:n.op=36;{rw[zca c6]at h;cases h;exact tk};{rw[zcb c6]at h;cases h;exact⟨hl,hk⟩}};{rw[zcb c4]at h;cases h;exact⟨hl,hk⟩}
theorem qL (n:az)(t:List Int)(h:n.fb.toNat<=t.length):(dH n t).length=t.length:=by
 unfold dH;simp;omega
theorem tG {n:az}{a R N:Nat}{s:fK}{t:List Int}{g:List bc}(hf:wN n a R N)(hs:FE R s)(ht:t.length=R)(hg:g.length<=50/\∀ i,i<g.length->(g[i]?.getD bc.z).keep<=R) :
  ∀ x,x∈bI n a s t g->x.1<N/\FE R x.2:=by
 intro x hx;unfold bI at hx;rw[zaa]at hx;rcases hx with hx | hx;{by_cases c:dc n=true;{rw[zca c]at hx;rw[nZ]at hx;subst hx;exact⟨hf.next c,ht,hg.1,hg.2⟩};{rw[zcb c]at hx;cases hx}};by_cases c1:n.op=19;{rw[zca c1,nZ]at hx;subst hx;exact⟨hf.jump (.inl c1),ht,hg.1,hg.2⟩};rw[zcb c1]at hx;by_cases c2:n.op=20\/n.op=21\/n.op=38\/n.op=39;{rw[zca c2,nZ]at hx;subst hx;exact⟨hf.jumpB (by omega),ht,hg.1,hg.2⟩};rw[zcb c2]at hx;by_cases c3:n.op=41;{rw[zca c3,nZ]at hx;subst hx;exact⟨hf.jumpB (by omega),by simpa using ht,hg.1,hg.2⟩};rw[zcb c3]at hx;by_cases c4:n.op=31;{rw[zca c4,nZ]at hx;subst hx;refine⟨hf.jump (.inr c4),?_,hs.many,hs.keep⟩;rw[show(fK.mk (dH n s.d) s.r).d=dH n s.d from rfl,qL _ _ (by have:=hf.try_ c4;have:=hs.d;omega)];exact hs.d};{rw[zcb c4]at hx;cases hx}
def cnt (p:Nat->Bool):Nat->Nat
 | 0=>0
 | n+1=>cnt p n+(if p n then 1 else 0)
theorem kP {p q:Nat->Bool}:∀ n,(∀ i,i<n->p i=q i)->cnt p n=cnt q n
 | 0,_=>rfl
 | n+1,h=>by show cnt p n+_=cnt q n+_;rw[kP n (fun i hi=>h i (by omega)),h n (by omega)]
theorem yo {p:Nat->Bool}{i:Nat}(hp:p i=true):∀ n,i<n->cnt (bY p i false) n+1=cnt p n
 | 0,h=>zcc h (bW _)
 | n+1,h=>by
  show cnt (bY p i false) n+(if bY p i false n then 1 else 0)+1=cnt p n+(if p n then 1 else 0);by_cases e:i=n
  ·subst e;rw[kP i (q:=p) (fun j hj=>by simp[bY];intro e;omega)];simp[bY,hp]
  ·have e':¬n=i:=fun h=>e h.symm;have:=yo hp n (by omega);simp only[bY,e',if_false];omega
theorem J8 {p:Nat->Bool}{i:Nat}(hp:p i=false):∀ n,i<n->cnt (bY p i true) n=cnt p n+1
 | 0,h=>zcc h (bW _)
 | n+1,h=>by
  show cnt (bY p i true) n+(if bY p i true n then 1 else 0)=cnt p n+(if p n then 1 else 0)+1;by_cases e:i=n
  ·subst e;rw[kP i (q:=p) (fun j hj=>by simp[bY];intro e;omega)];simp[bY,hp]
  ·have e':¬n=i:=fun h=>e h.symm;have:=J8 hp n (by omega);simp only[bY,e',if_false];omega
theorem Ga {p:Nat->Bool}{i:Nat}(n:Nat)(h:i<n):cnt (bY p i true) n<=cnt p n+1:=by
 cases hp:p i with
 | false=>rw[J8 hp n h];exact n_
 | true=>
  rw[kP n (q:=p) (fun j hj=>by
   by_cases e:j=i;{subst e;simp[bY,hp]}
   ·simp[bY,e])]
  omega
def mU (σ:dW)(i:Nat):Bool:=(σ.st i).isNone
def bz (N:Nat)(σ:dW):Nat:=2 * cnt (mU σ) N+cnt σ.b N
theorem Gi {N:Nat}{σ σ':dW}{x:Nat×fK}(hx:x.1<N)(h:gO σ x=some σ'):bz N σ'<=bz N σ:=by
 unfold gO at h;cases e:σ.st x.1 with
 | none=>
  rw[e]at h;cases h;have h1:cnt (mU ⟨bY σ.st x.1 (some x.2),bY σ.b x.1 true⟩) N+1=cnt (mU σ) N:=by
   rw[kP N (q:=bY (mU σ) x.1 false) (fun j hj=>by
    by_cases c:j=x.1;{subst c;simp[mU,bY]}
    ·simp[mU,bY,c])]
   exact yo (by simp[mU,e]) N hx
  have h2:cnt (dW.mk (bY σ.st x.1 (some x.2)) (bY σ.b x.1 true)).b N<=cnt σ.b N+1:=Ga N hx;unfold bz;omega
 | some s=>
  rw[e]at h;change (if nh s x.2=true then some σ else none)=some σ' at h;split at h;{cases h;exact n_};{cases h}
theorem EV {R N:Nat}{σ σ':dW}{x:Nat×fK}(hx:x.1<N/\FE R x.2)(hσ:oR R N σ)(h:gO σ x=some σ'):oR R N σ':=by
 unfold gO at h;cases e:σ.st x.1 with
 | none=>
  rw[e]at h;cases h;refine⟨fun i s hi=>?_,fun i hi=>?_⟩;{change bY σ.st x.1 (some x.2) i=some s at hi;unfold bY at hi;split at hi;{rename_i c;subst c;cases hi;exact hx};{exact hσ.st i s hi}};{change bY σ.b x.1 true i=true at hi;show i<N/\bY σ.st x.1 (some x.2) i≠none;unfold bY at hi ⊢;by_cases c:i=x.1;{subst c;exact⟨hx.1,by simp⟩};{rw[zcb c]at hi ⊢;exact hσ.b i hi}}
 | some s=>
  rw[e]at h;change (if nh s x.2=true then some σ else none)=some σ' at h;split at h;{cases h;exact hσ};{cases h}
theorem yk {R N:Nat}:∀{F:List (Nat×fK)}{σ σ':dW},(∀ x,x∈F->x.1<N/\FE R x.2)->oR R N σ->fi F σ=.inr σ'->oR R N σ'/\bz N σ'<=bz N σ
 | [],σ,σ',_,hσ,h=>by cases h;exact⟨hσ,n_⟩
 | x::F,σ,σ',hF,hσ,h=>by
  change (match gO σ x with | none=>(Sum.inl x.1:Nat ⊕ dW) | some σ'=>fi F σ')=.inr σ' at h;cases e:gO σ x with
  | none=>rw[e]at h;cases h
  | some σ1=>
   rw[e]at h;have hx:=hF x (List.mem_cons_self ..);obtain⟨h1,h2⟩:=yk (fun y hy=>hF y (List.mem_cons_of_mem _ hy)) (EV hx hσ e) h;exact⟨h1,zah h2 (Gi hx.1 e)⟩
theorem pS (x:aj)(hn:0<x.u.length)(hr:0<=x.m):oR x.m.toNat x.u.length (iZ x):=by
 refine⟨fun i s hi=>?_,fun i hi=>?_⟩;{change bY (fun _=>none) 0 (some (fK.mk (dy x) [])) i=some s at hi;unfold bY at hi;split at hi;{rename_i c;subst c;cases hi;exact⟨hn,by simp[dy],by simp,fun i hi=>by simp at hi⟩};{cases hi}};{change bY (fun _=>false) 0 true i=true at hi;show i<_/\bY (fun _=>none) 0 (some (fK.mk (dy x) [])) i≠none;unfold bY at hi ⊢;split at hi;{rename_i c;subst c;exact⟨hn,by simp⟩};{cases hi}}
theorem oR.off {R N a:Nat}{σ:dW}(h:oR R N σ):oR R N ⟨σ.st,bY σ.b a false⟩:=
 ⟨h.st,fun i hi=>by
  change bY σ.b a false i=true at hi;unfold bY at hi;split at hi
  ·cases hi
  ·exact h.b i hi⟩
theorem IK {N a:Nat}{σ:dW}(h:dg σ N a):bz N ⟨σ.st,bY σ.b a false⟩+1=bz N σ:=by
 have:=yo h.2.1 N h.1;show 2 * cnt (mU ⟨σ.st,bY σ.b a false⟩) N+cnt (bY σ.b a false) N+1=2 * cnt (mU σ) N+cnt σ.b N;have e:mU ⟨σ.st,bY σ.b a false⟩=mU σ:=rfl;rw[e];omega
theorem tU {l:List aj}{x:aj}{R a:Nat}{σ σ':dW}(hf:wN (aR x a) a R x.u.length)(hσ:oR R x.u.length σ)(ha:dg σ x.u.length a)(h:fV l x σ a=.inr σ'):oR R x.u.length σ'/\bz x.u.length σ'<bz x.u.length σ:=by
 unfold fV at h;cases e:σ.st a with
 | none=>exact zcc e (hσ.b a ha.2.1).2
 | some s=>
  rw[e]at h;have hs:=(hσ.st a s e).2;change (match bH l (aR x a) s.d with | none=>(Sum.inl (10,a):(Int×Nat) ⊕ dW) | some r=>_)=_ at h;cases e1:bH l (aR x a) s.d with
  | none=>rw[e1]at h;cases h
  | some r=>
   rw[e1]at h;change (match aP (aR x a) s.r with | none=>(Sum.inl (11,a):(Int×Nat) ⊕ dW) | some g=>_)=_ at h;cases e2:aP (aR x a) s.r with
   | none=>rw[e2]at h;cases h
   | some g=>
    rw[e2]at h;change (if _ then _ else _)=_ at h;split at h
    ·cases e3:fi (bI (aR x a) a s (bg (aR x a) r.d) g) ⟨σ.st,bY σ.b a false⟩with
     | inl y=>rw[e3]at h;cases h
     | inr σ2=>
      rw[e3]at h;cases h;have ht:(bg (aR x a) r.d).length=R:=by{rw[mg,od e1];exact hs.d};obtain⟨h1,h2⟩:=yk (tG hf hs ht (oJ e2 hf hs.many hs.keep)) hσ.off e3;have:=IK ha;exact⟨h1,by omega⟩
    {cases h}
end Go.Proofs.YtcjfjflljdojlaaGreatDoor
namespace Go.Proofs.YtcjfjflljdojlaaGreatDoor
open Go.RowKit
def jb:Code->Option Code
 | .loop c=>some c
 | .seq a b=>match jb a with
  | some c=>some c
  | none=>jb b
 | .block _ c=>jb c
 | .scope c=>jb c
 | .cond _ a b=>match jb a with
  | some c=>some c
  | none=>jb b
 | _=>none
theorem sh {r:List Nat}{n:az}{s:gY}{k:Nat}(h:aW r n s k=none):∀ d,aW r n s (k+d)=none
 | 0=>h
 | d+1=>by
  have ih:=sh h d;show(match aW r n s (k+d)with | none=>none | some s'=>_)=none;rw[ih]
theorem ew {r:List Nat}{n:az}{s s':gY}{k:Nat}(h:aW r n s k=some s'):aW r n s (k+1)=gJ (r[k]?.getD 0) (dj n k) s':=by
 show(match aW r n s k with | none=>none | some s'=>_)=_;rw[h]
theorem fP {l:List aj}{n:az}{r:List Nat}{t:List Int}(hr:bh n.op=some r){k:Nat}(h:aW r n ⟨t,[],[]⟩ k=none)(hk:k<=4):bH l n t=none:=by
 unfold bH;have e:(bh n.op).getD []=r:=by rw[hr];rfl
 rw[e];obtain⟨d,hd⟩:∃ d,4=k+d:=⟨4-k,by omega⟩;rw[hd,sh h d]
theorem pV {q:Nat}{x:Int}{s:gY}(h:(cM q).1=0):gJ q x s=some s:=by unfold gJ;rw[zca h]
theorem pJ {q:Nat}{x W:Int}{b:Bool}{s:gY}(hw:cM q=(W,b))(h0:W≠0)(h:ba s.d (eV b x)≠W):gJ q x s=none:=by
 unfold gJ;rw[hw];simp only;rw[zcb h0,zca h]
theorem Dk {q:Nat}{x W:Int}{s:gY}(h:q=2/\W=1\/q=3/\W=3):gJ q x s=if ba s.d (eV true x)≠W then none else if x<0 then(if eV true x∈s.x then none else some ⟨s.d.set (eV true x) 0,s.p++[eV true x],s.x⟩)else some s:=by
 rcases h with⟨rfl,rfl⟩ | ⟨rfl,rfl⟩;{have e:cM 2=(1,true):=rfl;unfold gJ;rw[e];simp};{have e:cM 3=(3,true):=rfl;unfold gJ;rw[e];simp}
theorem wM {q:Nat}{x W:Int}{s:gY}(h:q=4/\W=1\/q=5/\W=2\/q=6/\W=3)(ht:ba s.d x.toNat=W):gJ q x s=some ⟨s.d,s.p,s.x++[x.toNat]⟩:=by
 rcases h with⟨rfl,rfl⟩ | ⟨rfl,rfl⟩ | ⟨rfl,rfl⟩;{have e:cM 4=(1,false):=rfl;unfold gJ;rw[e];simp[eV,ht]};{have e:cM 5=(2,false):=rfl;unfold gJ;rw[e];simp[eV,ht]};{have e:cM 6=(3,false):=rfl;unfold gJ;rw[e];simp[eV,ht]}
theorem JE {x:Int}{s:gY}(ht:ba s.d x.toNat=1):gJ 18 x s=if ba s.d (x.toNat+1)≠1 then none else if ba s.d (x.toNat+2)≠1 then none else some ⟨s.d,s.p,s.x++[x.toNat]⟩:=by
 have e:cM 18=(1,false):=rfl;unfold gJ;rw[e];simp[eV,ht]
theorem IX {x:Int}{s:gY}(ht:ba s.d x.toNat=1):gJ 20 x s=if ba s.d (x.toNat+1)≠1 then none else some ⟨s.d,s.p,s.x++[x.toNat]⟩:=by
 have e:cM 20=(1,false):=rfl;unfold gJ;rw[e];simp[eV,ht]
theorem I7 {x:Int}{s:gY}(ht:ba s.d x.toNat=1):gJ 19 x s=if ba s.d (x.toNat+1)≠0 then none else some ⟨s.d,s.p++[x.toNat],s.x++[x.toNat]⟩:=by
 have e:cM 19=(1,false):=rfl;unfold gJ;rw[e];simp[eV,ht]
theorem ud {q more:Nat}{W:Int}{s:gY}{R:Nat}(h:q=18/\W=1/\more=2\/q=20/\W=1/\more=1\/(q=4/\W=1\/q=5/\W=2\/q=6/\W=3)/\more=0)(ht:ba s.d R=W) :
  (∀ d,1<=d->d<=more->ba s.d (R+d)≠1->gJ q (R:Int) s=none)/\((∀ d,1<=d->d<=more->ba s.d (R+d)=1)->gJ q (R:Int) s=some ⟨s.d,s.p,s.x++[R]⟩):=by
 have e:((R:Nat):Int).toNat=R:=rfl;rcases h with⟨rfl,rfl,rfl⟩ | ⟨rfl,rfl,rfl⟩ | ⟨h,rfl⟩;{have h1:=JE (x:=(R:Int)) (s:=s) ht;rw[e]at h1;refine⟨fun d d1 d2 hd=>?_,fun hd=>?_⟩;{rw[h1];have hc:d=1\/d=2:=by{omega};rcases hc with rfl | rfl;{rw[zca hd]};{by_cases c:ba s.d (R+1)≠1;{rw[zca c]};{rw[zcb c,zca hd]}}};{rw[h1,zcb (fun c=>c (hd 1 (by omega) (by omega))),zcb (fun c=>c (hd 2 (by omega) (by omega)))]}};{have h1:=IX (x:=(R:Int)) (s:=s) ht;rw[e]at h1;refine⟨fun d d1 d2 hd=>?_,fun hd=>?_⟩;{obtain rfl:d=1:=by{omega};rw[h1,zca hd]};{rw[h1,zcb (fun c=>c (hd 1 (by omega) (by omega)))]}};{refine⟨fun d d1 d2 hd=>zcc d2 (by omega),fun _=>?_⟩;have:=wM (x:=(R:Int)) (s:=s) h ht;rw[e]at this;exact this}
def mV (r:List Nat)(n:az)(nt:Nat):Prop:=∀ k,k<4->(r[k]?.getD 0=2\/r[k]?.getD 0=3->-(nt:Int)<=dj n k/\dj n k<nt)/\(r[k]?.getD 0=4\/r[k]?.getD 0=5\/r[k]?.getD 0=6->0<=dj n k/\dj n k<nt)/\(r[k]?.getD 0=18->0<=dj n k/\dj n k+2<nt)/\(r[k]?.getD 0=19\/r[k]?.getD 0=20->0<=dj n k/\dj n k+1<nt)
def yp (S:Option gY)(base g nt ct:Nat)(w:w_)(e:Ending)(w':w_):Prop:=
 ∃(v:Value) (b:Bool),e=.returned (.tuple #[v,.bool b])/\(b=true->∃ s,S=some s/\ao w' base (s_ g 0 nt ct) s.d/\ao w' w.heap.size v (aG s.p))/\(b=false->S=none)/\Below base w w'
theorem uF {S:Option gY}{base g nt ct:Nat}{w w':w_}{v:Value}(h:S=none)(hb:Below base w w'):yp S base g nt ct w (.returned (.tuple #[v,.bool false])) w':=⟨v,false,rfl,fun h=>Bool.noConfusion h,fun _=>h,hb⟩
def js (nt k:Nat)(s:gY):Prop:=nt=s.d.length/\s.p.length<=2 * k/\s.x.length<=k
def OY (w:w_)(base g nt ct bT b1 b2:Nat)(a:o_)(m c:Nat)(n:az)(r:List Nat)(t:List Int)(gg:Nat)(tv sv i:Value)(wr:w_):Prop:=
 ∃(k:Nat) (s:gY),k+gg=4/\i=i_ k/\n9 w base g nt ct bT b1 b2 a m c n r s tv sv wr/\H_ (aW r n ⟨t,[],[]⟩ k=some s)/\H_ (js nt k s)
def y6 (op fa fb fc fd p:Int)(r:List Nat)(t:List Int)(base g nt ct m c bT b1 b2:Nat)(a:o_)(w:w_)(J:Nat->Act->w_->Prop):Prop:=
 ∀(k:Nat) (a':Act) (w':w_),(∃ u8 u9 u10 u11 u13 u14 u15 u16 u17 u19 u20 u21 u30 u31 u32 u33 u34 u35 u36 u37 u38 u39 u40 u41 u42 u43 u44 u45 u46 u47 u48 u49 u50 u51 u52 u53 u54 u55 u56 u57 u58 u59 u60 u61 u62 u63 u64 u65 u66 u67 u68 u69 u70 u71 u72 u73 u74 u75 u76 u77 u78 u79 u80 u81 u82 u83 u84 u85 u86 u87 u88 u89 u90 u91 u92 u93 u94 u95 u96 u97 u98 u99 u100 u101 u102 u103 u104 u105 u106 u107 u108 u109 u110 u111 u112 u113 u114 u115 u116 u117 u118 u119 u120 u121 u122 u123 u124:Value,OY w base g nt ct bT b1 b2 a m c ⟨op,fa,fb,fc,fd⟩ r t k u10 u11 u30 w'/\a'=⟨List.toArray (.agg #[.slice a m c] :: i_ p :: .agg #[i_ op,i_ fa,i_ fb,i_ fc,i_ fd] :: s_ g 0 nt ct :: .pointer (some (a_ w.heap.size 0))::undef :: .pointer (some (a_ (w.heap.size+1) 0))::undef::u8::u9::u10::u11 :: s_ b1 0 4 4::u13::u14::u15::u16::u17::undef::u19::u20::u21::undef::undef :: .pointer (some (a_ (w.heap.size+1) 0)) :: i_ op :: s_ b1 0 4 4 :: .agg #[i_ op,i_ fa,i_ fb,i_ fc,i_ fd] :: s_ b2 0 4 4 :: i_ 4::u30::u31::u32::u33::u34::u35::u36::u37::u38::u39::u40::u41::u42::u43::u44::u45::u46::u47::u48::u49::u50::u51::u52::u53::u54::u55::u56::u57::u58::u59::u60::u61::u62::u63::u64::u65::u66::u67::u68::u69::u70::u71::u72::u73::u74::u75::u76::u77::u78::u79::u80::u81::u82::u83::u84::u85::u86::u87::u88::u89::u90::u91::u92::u93::u94::u95::u96::u97::u98::u99::u100::u101::u102::u103::u104::u105::u106::u107::u108::u109::u110::u111::u112::u113::u114::u115::u116::u117::u118::u119::u120::u121::u122::u123::u124::undef::undef::undef::undef::undef::undef::undef::undef::undef::undef::undef::undef::undef::undef::undef::undef::undef::undef::undef::undef::undef::undef::undef::undef::undef::undef::undef::[]),[]⟩)->J k a' w'
def f9 (l:List aj)(op fa fb fc fd p:Int)(t:List Int)(base g nt ct m c b1 b2:Nat)(a:o_)(w:w_)(k:Nat)(K K2:Act->w_->Prop)(wr:w_)(u8 u9 u10 u11 u13 u14 u15 u16 u17 u19 u20 u21 u31 u32 u33 u34 u35 u36 u37 u38 u39 u40 u41 u42 u43 u44 u45 u46 u47 u48 u49 u50 u51 u52 u53 u54 u55 u56 u57 u58 u59 u60 u61 u62 u63 u64 u65 u66 u67 u68 u69 u70 u71 u72 u73 u74 u75 u76 u77 u78 u79 u80 u81 u82 u83 u84 u85 u86 u87 u88 u89 u90 u91 u92 u93 u94 u95 u96 u97 u98 u99 u100 u101 u102 u103 u104 u105 u106 u107 u108 u109 u110 u111 u112 u113 u114 u115 u116 u117 u118 u119 u120 u121 u122 u123 u124:Value):Prop:=
 Code.wp Tryz.prog ((Tryz.f58.body.bind jb).getD .skip) (Exit.then K (Exit.inBlock 0 (Exit.then K2 (bodyPost Tryz.prog Tryz.f58 (yp (bH l ⟨op,fa,fb,fc,fd⟩ t) base g nt ct w))))) ⟨List.toArray (.agg #[.slice a m c] :: i_ p :: .agg #[i_ op,i_ fa,i_ fb,i_ fc,i_ fd] :: s_ g 0 nt ct :: .pointer (some (a_ w.heap.size 0))::undef :: .pointer (some (a_ (w.heap.size+1) 0))::undef::u8::u9::u10::u11 :: s_ b1 0 4 4::u13::u14::u15::u16::u17::undef::u19::u20::u21::undef::undef :: .pointer (some (a_ (w.heap.size+1) 0)) :: i_ op :: s_ b1 0 4 4 :: .agg #[i_ op,i_ fa,i_ fb,i_ fc,i_ fd] :: s_ b2 0 4 4 :: i_ 4 :: i_ (k:Int)::u31::u32::u33::u34::u35::u36::u37::u38::u39::u40::u41::u42::u43::u44::u45::u46::u47::u48::u49::u50::u51::u52::u53::u54::u55::u56::u57::u58::u59::u60::u61::u62::u63::u64::u65::u66::u67::u68::u69::u70::u71::u72::u73::u74::u75::u76::u77::u78::u79::u80::u81::u82::u83::u84::u85::u86::u87::u88::u89::u90::u91::u92::u93::u94::u95::u96::u97::u98::u99::u100::u101::u102::u103::u104::u105::u106::u107::u108::u109::u110::u111::u112::u113::u114::u115::u116::u117::u118::u119::u120::u121::u122::u123::u124::undef::undef::undef::undef::undef::undef::undef::undef::undef::undef::undef::undef::undef::undef::undef::undef::undef::undef::undef::undef::undef::undef::undef::undef::undef::undef::undef::[]),[]⟩ wr
theorem Nk (l:List aj)(op fa fb fc fd p:Int)(r:List Nat)(t:List Int)(base g nt ct m c bT b1 b2:Nat)(a:o_)(w:w_)
  (my:H_ (Co w base g bT b1 b2))(HR:H_ (bh op=some r))(aO:nt<=250)(gk k:Nat)(s:gY)(wr:w_)(u8 u9 u10 u11 u13 u14 u15 u16 u17 u19 u20 u21 u31 u32 u33 u34 u35 u36 u37 u38 u39 u40 u41 u42 u43 u44 u45 u46 u47 u48 u49 u50 u51 u52 u53 u54 u55 u56 u57 u58 u59 u60 u61 u62 u63 u64 u65 u66 u67 u68 u69 u70 u71 u72 u73 u74 u75 u76 u77 u78 u79 u80 u81 u82 u83 u84 u85 u86 u87 u88 u89 u90 u91 u92 u93 u94 u95 u96 u97 u98 u99 u100 u101 u102 u103 u104 u105 u106 u107 u108 u109 u110 u111 u112 u113 u114 u115 u116 u117 u118 u119 u120 u121 u122 u123 u124:Value)(hk:k+gk=4)(gz:k<4)
  (HW:H_ (n9 w base g nt ct bT b1 b2 a m c ⟨op,fa,fb,fc,fd⟩ r s u10 u11 wr))(hS:H_ (aW r ⟨op,fa,fb,fc,fd⟩ ⟨t,[],[]⟩ k=some s))(hL:H_ (js nt k s))(q:Nat)(x:Int)(HQ:H_ (r[k]?.getD 0=q))(HX:H_ (dj ⟨op,fa,fb,fc,fd⟩ k=x))
  (hz:(cM q).1=0)
  (J:Nat->Act->w_->Prop)(K K2:Act->w_->Prop)
  (hJ:y6 op fa fb fc fd p r t base g nt ct m c bT b1 b2 a w J)
  (hK:∀(a':Act)(w':w_),Handed J gk a' w'->K a' w') :
  f9 l op fa fb fc fd p t base g nt ct m c b1 b2 a w k K K2 wr u8 u9 u10 u11 u13 u14 u15 u16 u17 u19 u20 u21 u31 u32 u33 u34 u35 u36 u37 u38 u39 u40 u41 u42 u43 u44 u45 u46 u47 u48 u49 u50 u51 u52 u53 u54 u55 u56 u57 u58 u59 u60 u61 u62 u63 u64 u65 u66 u67 u68 u69 u70 u71 u72 u73 u74 u75 u76 u77 u78 u79 u80 u81 u82 u83 u84 u85 u86 u87 u88 u89 u90 u91 u92 u93 u94 u95 u96 u97 u98 u99 u100 u101 u102 u103 u104 u105 u106 u107 u108 u109 u110 u111 u112 u113 u114 u115 u116 u117 u118 u119 u120 u121 u122 u123 u124:=by
 unfold y6 at hJ;unfold f9;have y1:=(aa HW).T.cell (i:=k) gz;rw[HQ.o]at y1;have y2:=(aa HW).flds.cell (i:=k) gz;rw[HX.o]at y2;have y3:=(aa HW).T.lt;have y4:=(aa HW).flds.lt;have mj:q<=21:=by{rw[<-HQ.o];exact fC HR.o k};have WA:=af (fun W=>er q mj W);have eM:H_ (aW r ⟨op,fa,fb,fc,fd⟩ ⟨t,[],[]⟩ (k+1)=gJ q x s):=by{show _=_;rw[ew hS.o,HQ.o,HX.o]};have jy:H_ (gJ q x s=none->bH l ⟨op,fa,fb,fc,fd⟩ t=none):=fun h=>fP HR.o (by rw[eM.o];exact h) (show k+1<=4 by omega)
 conv=>arg 2;whnf
 have SN:H_ (aW r ⟨op,fa,fb,fc,fd⟩ ⟨t,[],[]⟩ (k+1)=some s):=by{show _=_;rw[eM.o,pV hz]};have LN:H_ (js nt (k+1) s):=⟨hL.o.1,by have:=hL.o.2.1;omega,by have:=hL.o.2.2;omega⟩;rw[hz]at WA;clear eM jy hz;go_wp2_with fail;refine(aa WA _).mono ?_;rintro e w3 ⟨rfl,rfl⟩;go_wp2;go_roundg (4-(k+1));(case measure=>omega);case rel=>exact⟨k+1,s,by omega,by go_num,aa HW,SN,LN⟩
theorem si (l:List aj)(op fa fb fc fd p:Int)(r:List Nat)(t:List Int)(base g nt ct m c bT b1 b2:Nat)(a:o_)(w:w_)
  (my:H_ (Co w base g bT b1 b2))(HR:H_ (bh op=some r))(aO:nt<=250)(gk k:Nat)(s:gY)(wr:w_)(u8 u9 u10 u11 u13 u14 u15 u16 u17 u19 u20 u21 u31 u32 u33 u34 u35 u36 u37 u38 u39 u40 u41 u42 u43 u44 u45 u46 u47 u48 u49 u50 u51 u52 u53 u54 u55 u56 u57 u58 u59 u60 u61 u62 u63 u64 u65 u66 u67 u68 u69 u70 u71 u72 u73 u74 u75 u76 u77 u78 u79 u80 u81 u82 u83 u84 u85 u86 u87 u88 u89 u90 u91 u92 u93 u94 u95 u96 u97 u98 u99 u100 u101 u102 u103 u104 u105 u106 u107 u108 u109 u110 u111 u112 u113 u114 u115 u116 u117 u118 u119 u120 u121 u122 u123 u124:Value)(hk:k+gk=4)(gz:k<4)
  (HW:H_ (n9 w base g nt ct bT b1 b2 a m c ⟨op,fa,fb,fc,fd⟩ r s u10 u11 wr))(hS:H_ (aW r ⟨op,fa,fb,fc,fd⟩ ⟨t,[],[]⟩ k=some s))(hL:H_ (js nt k s))(q:Nat)(x:Int)(HQ:H_ (r[k]?.getD 0=q))(HX:H_ (dj ⟨op,fa,fb,fc,fd⟩ k=x))
  (R:Nat)(W:Int)(hw:cM q=(W,true))(hW0:W≠0)(hneg:x<0)(hR:(-1:Int)-x=R)(hRn:R<nt)(ey:ba s.d R≠W)
  (J:Nat->Act->w_->Prop)(K K2:Act->w_->Prop)
  (hJ:y6 op fa fb fc fd p r t base g nt ct m c bT b1 b2 a w J)
  (hK:∀(a':Act)(w':w_),Handed J gk a' w'->K a' w') :
  f9 l op fa fb fc fd p t base g nt ct m c b1 b2 a w k K K2 wr u8 u9 u10 u11 u13 u14 u15 u16 u17 u19 u20 u21 u31 u32 u33 u34 u35 u36 u37 u38 u39 u40 u41 u42 u43 u44 u45 u46 u47 u48 u49 u50 u51 u52 u53 u54 u55 u56 u57 u58 u59 u60 u61 u62 u63 u64 u65 u66 u67 u68 u69 u70 u71 u72 u73 u74 u75 u76 u77 u78 u79 u80 u81 u82 u83 u84 u85 u86 u87 u88 u89 u90 u91 u92 u93 u94 u95 u96 u97 u98 u99 u100 u101 u102 u103 u104 u105 u106 u107 u108 u109 u110 u111 u112 u113 u114 u115 u116 u117 u118 u119 u120 u121 u122 u123 u124:=by
 unfold y6 at hJ;unfold f9;have y1:=(aa HW).T.cell (i:=k) gz;rw[HQ.o]at y1;have y2:=(aa HW).flds.cell (i:=k) gz;rw[HX.o]at y2;have y3:=(aa HW).T.lt;have y4:=(aa HW).flds.lt;have mj:q<=21:=by{rw[<-HQ.o];exact fC HR.o k};have WA:=af (fun W=>er q mj W);have eM:H_ (aW r ⟨op,fa,fb,fc,fd⟩ ⟨t,[],[]⟩ (k+1)=gJ q x s):=by{show _=_;rw[ew hS.o,HQ.o,HX.o]};have jy:H_ (gJ q x s=none->bH l ⟨op,fa,fb,fc,fd⟩ t=none):=fun h=>fP HR.o (by rw[eM.o];exact h) (show k+1<=4 by omega)
 conv=>arg 2;whnf
 obtain⟨g',iL,jE,_,fl,aC⟩:=(aa HW).d.at (by rw[<-hL.o.1];omega);have gP:g=g':=by{injection jE with h;injection h with h;exact congrArg Addr.block h};subst gP;have cR:=aC R (by have:=hL.o.1;omega);have RR:H_ (bH l ⟨op,fa,fb,fc,fd⟩ t=none):=jy.o (pJ hw hW0 (by unfold eV;rw[zca ⟨rfl,hneg⟩,show(-1-x).toNat=R by omega];exact ey));have gU:ba s.d R=s.d[R]?.getD 0:=rfl;rw[gU]at ey;clear aC jE gU jy eM;generalize s.d[R]?.getD 0=ty at *;rw[hw]at WA;have aad:(W==0)=false:=by{simpa using hW0};have tb:(ty != W)=true:=by{simpa using ey};have KE:decide (x<0)=true:=zbb hneg;clear hW0 ey hw;go_wp2_with fail;refine(aa WA _).mono ?_;rintro e w3 ⟨rfl,rfl⟩;go_wp2;go_ret2;exact uF RR.o (aa HW).old
theorem fL (l:List aj)(op fa fb fc fd p:Int)(r:List Nat)(t:List Int)(base g nt ct m c bT b1 b2:Nat)(a:o_)(w:w_)
  (my:H_ (Co w base g bT b1 b2))(HR:H_ (bh op=some r))(aO:nt<=250)(gk k:Nat)(s:gY)(wr:w_)(u8 u9 u10 u11 u13 u14 u15 u16 u17 u19 u20 u21 u31 u32 u33 u34 u35 u36 u37 u38 u39 u40 u41 u42 u43 u44 u45 u46 u47 u48 u49 u50 u51 u52 u53 u54 u55 u56 u57 u58 u59 u60 u61 u62 u63 u64 u65 u66 u67 u68 u69 u70 u71 u72 u73 u74 u75 u76 u77 u78 u79 u80 u81 u82 u83 u84 u85 u86 u87 u88 u89 u90 u91 u92 u93 u94 u95 u96 u97 u98 u99 u100 u101 u102 u103 u104 u105 u106 u107 u108 u109 u110 u111 u112 u113 u114 u115 u116 u117 u118 u119 u120 u121 u122 u123 u124:Value)(hk:k+gk=4)(gz:k<4)
  (HW:H_ (n9 w base g nt ct bT b1 b2 a m c ⟨op,fa,fb,fc,fd⟩ r s u10 u11 wr))(hS:H_ (aW r ⟨op,fa,fb,fc,fd⟩ ⟨t,[],[]⟩ k=some s))(hL:H_ (js nt k s))(q:Nat)(x:Int)(HQ:H_ (r[k]?.getD 0=q))(HX:H_ (dj ⟨op,fa,fb,fc,fd⟩ k=x))
  (R:Nat)(W:Int)(b:Bool)(hw:cM q=(W,b))(hW0:W≠0)(hx:x=R)(hRn:R<nt)(ey:ba s.d R≠W)
  (J:Nat->Act->w_->Prop)(K K2:Act->w_->Prop)
  (hJ:y6 op fa fb fc fd p r t base g nt ct m c bT b1 b2 a w J)
  (hK:∀(a':Act)(w':w_),Handed J gk a' w'->K a' w') :
  f9 l op fa fb fc fd p t base g nt ct m c b1 b2 a w k K K2 wr u8 u9 u10 u11 u13 u14 u15 u16 u17 u19 u20 u21 u31 u32 u33 u34 u35 u36 u37 u38 u39 u40 u41 u42 u43 u44 u45 u46 u47 u48 u49 u50 u51 u52 u53 u54 u55 u56 u57 u58 u59 u60 u61 u62 u63 u64 u65 u66 u67 u68 u69 u70 u71 u72 u73 u74 u75 u76 u77 u78 u79 u80 u81 u82 u83 u84 u85 u86 u87 u88 u89 u90 u91 u92 u93 u94 u95 u96 u97 u98 u99 u100 u101 u102 u103 u104 u105 u106 u107 u108 u109 u110 u111 u112 u113 u114 u115 u116 u117 u118 u119 u120 u121 u122 u123 u124:=by
 unfold y6 at hJ;unfold f9;have y1:=(aa HW).T.cell (i:=k) gz;rw[HQ.o]at y1;have y2:=(aa HW).flds.cell (i:=k) gz;rw[HX.o]at y2;have y3:=(aa HW).T.lt;have y4:=(aa HW).flds.lt;have mj:q<=21:=by{rw[<-HQ.o];exact fC HR.o k};have WA:=af (fun W=>er q mj W);have eM:H_ (aW r ⟨op,fa,fb,fc,fd⟩ ⟨t,[],[]⟩ (k+1)=gJ q x s):=by{show _=_;rw[ew hS.o,HQ.o,HX.o]};have jy:H_ (gJ q x s=none->bH l ⟨op,fa,fb,fc,fd⟩ t=none):=fun h=>fP HR.o (by rw[eM.o];exact h) (show k+1<=4 by omega)
 conv=>arg 2;whnf
 obtain⟨g',iL,jE,_,fl,aC⟩:=(aa HW).d.at (by rw[<-hL.o.1];omega);have gP:g=g':=by{injection jE with h;injection h with h;exact congrArg Addr.block h};subst gP;have cR:=aC R (by have:=hL.o.1;omega);subst hx;have RR:H_ (bH l ⟨op,fa,fb,fc,fd⟩ t=none):=jy.o (pJ hw hW0 (by unfold eV;rw[zcb (by rintro⟨_,h⟩;omega)];exact ey));have gU:ba s.d R=s.d[R]?.getD 0:=rfl;rw[gU]at ey;clear aC jE gU jy eM;generalize s.d[R]?.getD 0=ty at *;rw[hw]at WA;have aad:(W==0)=false:=by{simpa using hW0};have tb:(ty != W)=true:=by{simpa using ey};clear hW0 ey hw;cases b;all_goals go_wp2_with fail;refine(aa WA _).mono ?_;rintro e w3 ⟨rfl,rfl⟩;go_wp2;go_ret2;exact uF RR.o (aa HW).old
theorem zs (l:List aj)(op fa fb fc fd p:Int)(r:List Nat)(t:List Int)(base g nt ct m c bT b1 b2:Nat)(a:o_)(w:w_)
  (my:H_ (Co w base g bT b1 b2))(HR:H_ (bh op=some r))(aO:nt<=250)(gk k:Nat)(s:gY)(wr:w_)(u8 u9 u10 u11 u13 u14 u15 u16 u17 u19 u20 u21 u31 u32 u33 u34 u35 u36 u37 u38 u39 u40 u41 u42 u43 u44 u45 u46 u47 u48 u49 u50 u51 u52 u53 u54 u55 u56 u57 u58 u59 u60 u61 u62 u63 u64 u65 u66 u67 u68 u69 u70 u71 u72 u73 u74 u75 u76 u77 u78 u79 u80 u81 u82 u83 u84 u85 u86 u87 u88 u89 u90 u91 u92 u93 u94 u95 u96 u97 u98 u99 u100 u101 u102 u103 u104 u105 u106 u107 u108 u109 u110 u111 u112 u113 u114 u115 u116 u117 u118 u119 u120 u121 u122 u123 u124:Value)(hk:k+gk=4)(gz:k<4)
  (HW:H_ (n9 w base g nt ct bT b1 b2 a m c ⟨op,fa,fb,fc,fd⟩ r s u10 u11 wr))(hS:H_ (aW r ⟨op,fa,fb,fc,fd⟩ ⟨t,[],[]⟩ k=some s))(hL:H_ (js nt k s))(q:Nat)(x:Int)(HQ:H_ (r[k]?.getD 0=q))(HX:H_ (dj ⟨op,fa,fb,fc,fd⟩ k=x))
  (R:Nat)(W:Int)(jD:q=2/\W=1\/q=3/\W=3)(hx:x=R)(hRn:R<nt)(ey:ba s.d R=W)
  (J:Nat->Act->w_->Prop)(K K2:Act->w_->Prop)
  (hJ:y6 op fa fb fc fd p r t base g nt ct m c bT b1 b2 a w J)
  (hK:∀(a':Act)(w':w_),Handed J gk a' w'->K a' w') :
  f9 l op fa fb fc fd p t base g nt ct m c b1 b2 a w k K K2 wr u8 u9 u10 u11 u13 u14 u15 u16 u17 u19 u20 u21 u31 u32 u33 u34 u35 u36 u37 u38 u39 u40 u41 u42 u43 u44 u45 u46 u47 u48 u49 u50 u51 u52 u53 u54 u55 u56 u57 u58 u59 u60 u61 u62 u63 u64 u65 u66 u67 u68 u69 u70 u71 u72 u73 u74 u75 u76 u77 u78 u79 u80 u81 u82 u83 u84 u85 u86 u87 u88 u89 u90 u91 u92 u93 u94 u95 u96 u97 u98 u99 u100 u101 u102 u103 u104 u105 u106 u107 u108 u109 u110 u111 u112 u113 u114 u115 u116 u117 u118 u119 u120 u121 u122 u123 u124:=by
 unfold y6 at hJ;unfold f9;have y1:=(aa HW).T.cell (i:=k) gz;rw[HQ.o]at y1;have y2:=(aa HW).flds.cell (i:=k) gz;rw[HX.o]at y2;have y3:=(aa HW).T.lt;have y4:=(aa HW).flds.lt;have mj:q<=21:=by{rw[<-HQ.o];exact fC HR.o k};have WA:=af (fun W=>er q mj W);have eM:H_ (aW r ⟨op,fa,fb,fc,fd⟩ ⟨t,[],[]⟩ (k+1)=gJ q x s):=by{show _=_;rw[ew hS.o,HQ.o,HX.o]};have jy:H_ (gJ q x s=none->bH l ⟨op,fa,fb,fc,fd⟩ t=none):=fun h=>fP HR.o (by rw[eM.o];exact h) (show k+1<=4 by omega)
 conv=>arg 2;whnf
 obtain⟨g',iL,jE,_,fl,aC⟩:=(aa HW).d.at (by rw[<-hL.o.1];omega);have gP:g=g':=by{injection jE with h;injection h with h;exact congrArg Addr.block h};subst gP;have cR:=aC R (by have:=hL.o.1;omega);subst hx;have SN:H_ (aW r ⟨op,fa,fb,fc,fd⟩ ⟨t,[],[]⟩ (k+1)=some s):=by{show _=_;have e:eV true ((R:Nat):Int)=R:=by{unfold eV;rw[zcb (by omega)];rfl};rw[eM.o,Dk jD,e,zcb (fun h=>h ey),zcb (by omega)]};have LN:H_ (js nt (k+1) s):=⟨hL.o.1,by have:=hL.o.2.1;omega,by have:=hL.o.2.2;omega⟩;have gU:ba s.d R=s.d[R]?.getD 0:=rfl;rw[gU]at ey;have hw:cM q=(W,true):=by{rcases jD with⟨rfl,rfl⟩ | ⟨rfl,rfl⟩<;>rfl};rw[hw]at WA;have hW0:(W==0)=false:=by{rcases jD with⟨_,rfl⟩ | ⟨_,rfl⟩<;>rfl};have WP:((q:Int)==18)=false:=zag.2 (by omega);have Pj:((q:Int)==20)=false:=zag.2 (by omega);have Rs:((q:Int)==19)=false:=zag.2 (by omega);clear aC jE gU jy eM;generalize s.d[R]?.getD 0=ty at *;have tb:(ty != W)=false:=by{simpa using ey};have jm:=HW;subst ey;clear hw jD;go_wp2_with fail;refine(aa WA _).mono ?_;rintro e w3 ⟨rfl,rfl⟩;go_wp2;go_loopg [21] 0 (fun gg i wr'=>gg=0/\i=i_ 1/\n9 w base g nt ct bT b1 b2 a m c ⟨op,fa,fb,fc,fd⟩ r s u10 u11 wr');(case atStart=>exact⟨rfl,rfl,aa jm⟩);case round=>clear jm;obtain⟨_,rfl,mF⟩:=hrel;have y1:=mF.T.cell (i:=k) gz;rw[HQ.o]at y1;have y3:=mF.T.lt;have jm:=af mF;clear mF;go_wp2;go_roundg (4-(k+1));(case measure=>omega);case rel=>exact⟨k+1,s,by omega,by go_num,aa jm,SN,LN⟩
theorem Au (l:List aj)(op fa fb fc fd p:Int)(r:List Nat)(t:List Int)(base g nt ct m c bT b1 b2:Nat)(a:o_)(w:w_)
  (my:H_ (Co w base g bT b1 b2))(HR:H_ (bh op=some r))(aO:nt<=250)(gk k:Nat)(s:gY)(wr:w_)(u8 u9 u10 u11 u13 u14 u15 u16 u17 u19 u20 u21 u31 u32 u33 u34 u35 u36 u37 u38 u39 u40 u41 u42 u43 u44 u45 u46 u47 u48 u49 u50 u51 u52 u53 u54 u55 u56 u57 u58 u59 u60 u61 u62 u63 u64 u65 u66 u67 u68 u69 u70 u71 u72 u73 u74 u75 u76 u77 u78 u79 u80 u81 u82 u83 u84 u85 u86 u87 u88 u89 u90 u91 u92 u93 u94 u95 u96 u97 u98 u99 u100 u101 u102 u103 u104 u105 u106 u107 u108 u109 u110 u111 u112 u113 u114 u115 u116 u117 u118 u119 u120 u121 u122 u123 u124:Value)(hk:k+gk=4)(gz:k<4)
  (HW:H_ (n9 w base g nt ct bT b1 b2 a m c ⟨op,fa,fb,fc,fd⟩ r s u10 u11 wr))(hS:H_ (aW r ⟨op,fa,fb,fc,fd⟩ ⟨t,[],[]⟩ k=some s))(hL:H_ (js nt k s))(q:Nat)(x:Int)(HQ:H_ (r[k]?.getD 0=q))(HX:H_ (dj ⟨op,fa,fb,fc,fd⟩ k=x))
  (R:Nat)(W:Int)(jD:q=2/\W=1\/q=3/\W=3)(hneg:x<0)(hR:(-1:Int)-x=R)(hRn:R<nt)(ey:ba s.d R=W)
  (J:Nat->Act->w_->Prop)(K K2:Act->w_->Prop)
  (hJ:y6 op fa fb fc fd p r t base g nt ct m c bT b1 b2 a w J)
  (hK:∀(a':Act)(w':w_),Handed J gk a' w'->K a' w') :
  f9 l op fa fb fc fd p t base g nt ct m c b1 b2 a w k K K2 wr u8 u9 u10 u11 u13 u14 u15 u16 u17 u19 u20 u21 u31 u32 u33 u34 u35 u36 u37 u38 u39 u40 u41 u42 u43 u44 u45 u46 u47 u48 u49 u50 u51 u52 u53 u54 u55 u56 u57 u58 u59 u60 u61 u62 u63 u64 u65 u66 u67 u68 u69 u70 u71 u72 u73 u74 u75 u76 u77 u78 u79 u80 u81 u82 u83 u84 u85 u86 u87 u88 u89 u90 u91 u92 u93 u94 u95 u96 u97 u98 u99 u100 u101 u102 u103 u104 u105 u106 u107 u108 u109 u110 u111 u112 u113 u114 u115 u116 u117 u118 u119 u120 u121 u122 u123 u124:=by
 unfold y6 at hJ;unfold f9;obtain⟨i0,hi,dE,cS,dA⟩:=aM dR;have y1:=(aa HW).T.cell (i:=k) gz;rw[HQ.o]at y1;have y2:=(aa HW).flds.cell (i:=k) gz;rw[HX.o]at y2;have y3:=(aa HW).T.lt;have y4:=(aa HW).flds.lt;have mj:q<=21:=by{rw[<-HQ.o];exact fC HR.o k};have WA:=af (fun W=>er q mj W);have eM:H_ (aW r ⟨op,fa,fb,fc,fd⟩ ⟨t,[],[]⟩ (k+1)=gJ q x s):=by{show _=_;rw[ew hS.o,HQ.o,HX.o]};have jy:H_ (gJ q x s=none->bH l ⟨op,fa,fb,fc,fd⟩ t=none):=fun h=>fP HR.o (by rw[eM.o];exact h) (show k+1<=4 by omega)
 conv=>arg 2;whnf
 obtain⟨g',iL,jE,_,fl,aC⟩:=(aa HW).d.at (by rw[<-hL.o.1];omega);have gP:g=g':=by{injection jE with h;injection h with h;exact congrArg Addr.block h};subst gP;have cR:=aC R (by have:=hL.o.1;omega);have zR:=(aa HW).d.frozen hL.o.1 R;have XS:H_ (gJ q x s=if R∈s.x then none else some ⟨s.d.set R 0,s.p++[R],s.x⟩):=by{show _=_;have e:eV true x=R:=by{unfold eV;rw[zca ⟨rfl,hneg⟩];omega};rw[Dk jD,e,zcb (fun h=>h ey),zca hneg]};have gU:ba s.d R=s.d[R]?.getD 0:=rfl;rw[gU]at ey;have hw:cM q=(W,true):=by{rcases jD with⟨rfl,rfl⟩ | ⟨rfl,rfl⟩<;>rfl};rw[hw]at WA;have hW0:(W==0)=false:=by{rcases jD with⟨_,rfl⟩ | ⟨_,rfl⟩<;>rfl};have WP:((q:Int)==18)=false:=zag.2 (by omega);have Pj:((q:Int)==20)=false:=zag.2 (by omega);have Rs:((q:Int)==19)=false:=zag.2 (by omega);have KE:decide (x<0)=true:=zbb hneg;clear aC jE gU;generalize s.d[R]?.getD 0=ty at *;have tb:(ty != W)=false:=by{simpa using ey};obtain⟨asv,Z9,QH⟩:=(aa HW).x.lenV;rw[aZ]at QH;have wi:=hL.o.2.2;subst ey;subst QH;clear hw jD;go_wp2_with fail;refine(aa WA _).mono ?_;rintro e w3 ⟨rfl,rfl⟩;go_wp2;go_loopg [66] s.x.length (fun gg i wr'=>∃ j:Nat,j+gg=s.x.length/\i=i_ j/\n9 w base g nt ct bT b1 b2 a m c ⟨op,fa,fb,fc,fd⟩ r s u10 (.slice asv s.x.length Z9) wr'/\H_ (∀ i,i<j->s.x[i]?.getD 0≠R));(case atStart=>exact⟨0,by omega,rfl,aa HW,fun i h=>zcc h (bW _)⟩);case round=>
  clear HW y1 y2 y3 y4 cR zR fl;obtain⟨j,hj,rfl,hW,bK⟩:=hrel;by_cases qB:j<s.x.length
  ·obtain⟨gs,ZI,hgs,_,hgsl,Iy⟩:=hW.x.at (by rw[aZ];omega);rw[aZ]at hgs Iy;have cj:=Iy j qB;rw[gT]at cj;injection hgs with hgs1 hgs2 hgs3;subst hgs1;obtain rfl:ZI=Z9:=hgs3.symm;obtain⟨y,hy⟩:∃ y,s.x[j]?.getD 0=y:=⟨_,rfl⟩;rw[hy]at cj;have Tr:y∈s.x:=by
    rw[g_ qB]at hy;have hy:s.x[j]=y:=hy;rw[<-hy];exact zab qB
   have HW:=af hW;clear Iy hW;by_cases hyR:y=R;{have RR:H_ (bH l ⟨op,fa,fb,fc,fd⟩ t=none):=jy.o (by rw[XS.o,zca (hyR ▸ Tr)]);have yb:((y:Int)==(R:Int))=true:=by{simp;omega};have ybn:(y==R)=true:=by{simpa using hyR};clear eM XS hyR hy Tr jy;go_wp2;go_ret2;exact uF RR.o (aa HW).old};{have NX:H_ (∀ i,i<j+1->s.x[i]?.getD 0≠R):=fun i hi=>by{by_cases e:i=j;{subst e;rw[hy];exact hyR};{exact bK.o i (by omega)}};have yb:((y:Int)==(R:Int))=false:=zag.2 (by omega);have ybn:(y==R)=false:=zag.2 hyR;clear hyR hy Tr;go_wp2;go_roundg (s.x.length-(j+1));(case measure=>omega);case rel=>exact⟨j+1,by omega,by go_num,aa HW,NX⟩}
  ·have hRS:R ∉ s.x:=fun h=>by{obtain⟨i,hi,e⟩:=zaf h;have h1:=bK.o i (by omega);rw[g_ hi,e]at h1;exact h1 rfl};have SN:H_ (aW r ⟨op,fa,fb,fc,fd⟩ ⟨t,[],[]⟩ (k+1)=some ⟨s.d.set R 0,s.p++[R],s.x⟩):=by{show _=_;rw[eM.o,XS.o,zcb hRS]};have LN:H_ (js nt (k+1) ⟨s.d.set R 0,s.p++[R],s.x⟩):=⟨by simpa using hL.o.1,by have:=hL.o.2.1;simp;omega,by have:=hL.o.2.2;show s.x.length<=k+1;omega⟩;have HWP:=af (hW.put (aa my) hL.o.1 R 0);obtain⟨g'',cap'',VZ,_,W9,PE⟩:=hW.d.at (by rw[<-hL.o.1];omega);have WL:g''=g:=by{injection VZ with h;injection h with h;exact(congrArg Addr.block h).symm};have cR:=PE R (by have:=hL.o.1;omega);rw[WL]at cR W9;have zR:=hW.d.frozen hL.o.1 R;have y1:=hW.T.cell (i:=k) gz;rw[HQ.o]at y1;have y3:=hW.T.lt;have vd:H_ ((aG s.p).length<=1048576):=by show _<=_;rw[aZ];have:=hL.o.2.1;omega
   have OH:=hW.size;clear VZ PE WL hW bK eM XS hRS jy;go_wp2_with (first
    | (at_builtin;refine wpList_append_lies _ rfl _ _ 70 rfl bT 3 i0 (i_ 0) 1 8 Tryz.underlying70 hi dE cS dA rfl (by decide) _ _ _ rfl ((aa HWP).p.alloc _) (a_ wr.heap.size 0) 1 1 [i_ (R:Int)] rfl rfl ?c1 ?c2 (by decide) ?c3 ?c4 ?c5 (wr.heap.size+1) (by simp) ?_)
    | go_in)
   all_goals try (case c1=>
    intro j u hj
    match j,hj with
    | 0,hj=>simp at hj;subst hj;simp[Addr.add,go_sem])
   (all_goals try (case c2=>first | rfl | (intro u hu;simp at hu;subst hu;rfl)));(all_goals try (case c3=>have:=vd.o;unfold maxLen;omega));(all_goals try (case c4=>have:=vd.o;omega));(all_goals try (case c5=>first | omega | (simp;omega)));intro g3 cap3 w3 hown3 hgrow3 hat3 hlt3;have O3:H_ (ao w3 bT (s_ g3 0 ((aG s.p).length+1) cap3) (aG (s.p++[R]))):=by{show ao _ _ _ _;rw[fZ];exact ao.push hown3};have jm:=af ((aa HWP).take (aa my) (x:=R) hgrow3 (aa O3) (by simpa using hat3));have z1:=(aa jm).T.cell (i:=k) gz;rw[HQ.o]at z1;have z3:=(aa jm).T.lt;clear hown3 hgrow3 hat3 O3 HWP y1 y3 cR zR;go_wp2;go_loopg [21] 0 (fun gg i wr'=>gg=0/\i=i_ 1/\n9 w base g nt ct bT b1 b2 a m c ⟨op,fa,fb,fc,fd⟩ r ⟨s.d.set R 0,s.p++[R],s.x⟩ (s_ g3 0 ((aG s.p).length+1) cap3) (.slice asv s.x.length Z9) wr');(case atStart=>exact⟨rfl,rfl,aa jm⟩);case round=>clear jm;obtain⟨_,rfl,mF⟩:=hrel;have y1:=mF.T.cell (i:=k) gz;rw[HQ.o]at y1;have y3:=mF.T.lt;have jm:=af mF;clear mF;go_wp2;go_roundg (4-(k+1));(case measure=>omega);case rel=>exact⟨k+1,⟨s.d.set R 0,s.p++[R],s.x⟩,by omega,by go_num,aa jm,SN,LN⟩
end Go.Proofs.YtcjfjflljdojlaaGreatDoor
