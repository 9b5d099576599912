import Derived.Test.YtcjfjflljdojlaaGreatDoorPart17
set_option linter.all false
set_option maxHeartbeats 1000000
set_option maxRecDepth 100000
namespace Go.Proofs.YtcjfjflljdojlaaGreatDoor
open Go.RowKit
theorem ao.set {w:w_}{base g n cap:Nat}{t:List Int}(h:ao w base (s_ g 0 n cap) t)(hn:n=t.length)(j:Nat)(x:Int):ao (w.setCell (a_ g j) (i_ x)) base (s_ g 0 n cap) (t.set j x):=by
 subst hn;have h2:=(World.ownsRow.stored h j (i_ x)).1;unfold ao;rw[List.length_set,List.map_set];exact h2
theorem ao.frozen {w:w_}{base g n cap:Nat}{t:List Int}(h:ao w base (s_ g 0 n cap) t)(hn:n=t.length)(j:Nat):w.frozen? (a_ g j)=false:=by
 subst hn;exact World.ownsRow.frozenAt h j
theorem ao.alloc {w:w_}{base:Nat}{v:Value}{t:List Int}(h:ao w base v t)(o:Obj):ao (w.alloc o) base v t:=World.ownsRow.alloc h o
def jt (base:Nat)(v:Value)(t:List Int)(w:w_)(e:Ending)(w':w_):Prop:=e=.returned (.tuple #[])/\ao w' base v t/\Below base w w'/\∀ k,k<w.heap.size->v.ownBlock≠some k->w'.heap[k]? = w.heap[k]?
theorem ld {w w':w_}{e:Ending}{r:List Nat}(h:eJ w w' e r):∃ b,e=.returned (s_ b 0 4 4)/\w.heap.size<=b/\w'.rowIs b 3 4 (fun j=>i_ ((r[j]?.getD 0:Nat):Int))/\b_ w w':=h
theorem FY (fa fb fc fd:Int)(base g n cap:Nat)(t:List Int)(w:w_)(bb:ao w base (s_ g 0 n cap) t)(hn:n=t.length)(aO:n<=250)(hbase:base<=g)(fl:g<w.heap.size)(h0:0<=fa)(h1:fa<n) :
  c_ 60 #[.agg #[i_ 6,i_ fa,i_ fb,i_ fc,i_ fd],s_ g 0 n cap] w (jt base (s_ g 0 n cap) (bg ⟨6,fa,fb,fc,fd⟩ t) w):=by
 obtain⟨A,rfl⟩:=iV h0;have hA:A<n:=by{omega};have E:H_ (bg ⟨6,((A:Nat):Int),fb,fc,fd⟩ t=t.set (A) 2):=rfl;rw[E.o];clear E;obtain⟨g',iL,hv,_,_,aC⟩:=bb.at (by omega);have cA:=aC (A) (by omega);have gP:g'=g:=by{injection hv with h;injection h with h;exact(congrArg Addr.block h).symm};rw[gP]at cA;have zA:=bb.frozen hn (A);have HS:=af (bb.set hn (A) 2);have HO:=af bb;have gV:H_ (Below base w (w.setCell (a_ g A) (i_ 2))):=r_.setCell hbase _;have kN:base<=w.heap.size:=by omega
 clear hv aC bb gP h0 h1;go_enter Tryz.func60,Tryz.ntmps60;go_wp2
 go_end0
 exact⟨rfl,(aa HS).alloc _,(aa gV).alloc (by simp;omega) _,fun k hk eh=>by
  have eh:some g≠some k:=eh;rw[Below.heap_alloc _ _ k (by simp;omega)];exact zbg w (a_ g _) k _ (fun e=>eh (by rw[e]))⟩
theorem DQ (fa fb fc fd:Int)(base g n cap:Nat)(t:List Int)(w:w_)(bb:ao w base (s_ g 0 n cap) t)(hn:n=t.length)(aO:n<=250)(hbase:base<=g)(fl:g<w.heap.size)(h0:0<=fa)(h1:fa<n) :
  c_ 60 #[.agg #[i_ 22,i_ fa,i_ fb,i_ fc,i_ fd],s_ g 0 n cap] w (jt base (s_ g 0 n cap) (bg ⟨22,fa,fb,fc,fd⟩ t) w):=by
 obtain⟨A,rfl⟩:=iV h0;have hA:A<n:=by{omega};have E:H_ (bg ⟨22,((A:Nat):Int),fb,fc,fd⟩ t=t.set (A) 3):=rfl;rw[E.o];clear E;obtain⟨g',iL,hv,_,_,aC⟩:=bb.at (by omega);have cA:=aC (A) (by omega);have gP:g'=g:=by{injection hv with h;injection h with h;exact(congrArg Addr.block h).symm};rw[gP]at cA;have zA:=bb.frozen hn (A);have HS:=af (bb.set hn (A) 3);have HO:=af bb;have gV:H_ (Below base w (w.setCell (a_ g A) (i_ 3))):=r_.setCell hbase _;have kN:base<=w.heap.size:=by omega
 clear hv aC bb gP h0 h1;go_enter Tryz.func60,Tryz.ntmps60;go_wp2
 go_end0
 exact⟨rfl,(aa HS).alloc _,(aa gV).alloc (by simp;omega) _,fun k hk eh=>by
  have eh:some g≠some k:=eh;rw[Below.heap_alloc _ _ k (by simp;omega)];exact zbg w (a_ g _) k _ (fun e=>eh (by rw[e]))⟩
theorem DM (fa fb fc fd:Int)(base g n cap:Nat)(t:List Int)(w:w_)(bb:ao w base (s_ g 0 n cap) t)(hn:n=t.length)(aO:n<=250)(hbase:base<=g)(fl:g<w.heap.size)(h0:0<=fa)(h1:fa<n) :
  c_ 60 #[.agg #[i_ 27,i_ fa,i_ fb,i_ fc,i_ fd],s_ g 0 n cap] w (jt base (s_ g 0 n cap) (bg ⟨27,fa,fb,fc,fd⟩ t) w):=by
 obtain⟨A,rfl⟩:=iV h0;have hA:A<n:=by{omega};have E:H_ (bg ⟨27,((A:Nat):Int),fb,fc,fd⟩ t=t.set (A) 3):=rfl;rw[E.o];clear E;obtain⟨g',iL,hv,_,_,aC⟩:=bb.at (by omega);have cA:=aC (A) (by omega);have gP:g'=g:=by{injection hv with h;injection h with h;exact(congrArg Addr.block h).symm};rw[gP]at cA;have zA:=bb.frozen hn (A);have HS:=af (bb.set hn (A) 3);have HO:=af bb;have gV:H_ (Below base w (w.setCell (a_ g A) (i_ 3))):=r_.setCell hbase _;have kN:base<=w.heap.size:=by omega
 clear hv aC bb gP h0 h1;go_enter Tryz.func60,Tryz.ntmps60;go_wp2
 go_end0
 exact⟨rfl,(aa HS).alloc _,(aa gV).alloc (by simp;omega) _,fun k hk eh=>by
  have eh:some g≠some k:=eh;rw[Below.heap_alloc _ _ k (by simp;omega)];exact zbg w (a_ g _) k _ (fun e=>eh (by rw[e]))⟩
theorem DK (fa fb fc fd:Int)(base g n cap:Nat)(t:List Int)(w:w_)(bb:ao w base (s_ g 0 n cap) t)(hn:n=t.length)(aO:n<=250)(hbase:base<=g)(fl:g<w.heap.size)(h0:0<=fa)(h1:fa<n) :
  c_ 60 #[.agg #[i_ 28,i_ fa,i_ fb,i_ fc,i_ fd],s_ g 0 n cap] w (jt base (s_ g 0 n cap) (bg ⟨28,fa,fb,fc,fd⟩ t) w):=by
 obtain⟨A,rfl⟩:=iV h0;have hA:A<n:=by{omega};have E:H_ (bg ⟨28,((A:Nat):Int),fb,fc,fd⟩ t=t.set (A) 3):=rfl;rw[E.o];clear E;obtain⟨g',iL,hv,_,_,aC⟩:=bb.at (by omega);have cA:=aC (A) (by omega);have gP:g'=g:=by{injection hv with h;injection h with h;exact(congrArg Addr.block h).symm};rw[gP]at cA;have zA:=bb.frozen hn (A);have HS:=af (bb.set hn (A) 3);have HO:=af bb;have gV:H_ (Below base w (w.setCell (a_ g A) (i_ 3))):=r_.setCell hbase _;have kN:base<=w.heap.size:=by omega
 clear hv aC bb gP h0 h1;go_enter Tryz.func60,Tryz.ntmps60;go_wp2
 go_end0
 exact⟨rfl,(aa HS).alloc _,(aa gV).alloc (by simp;omega) _,fun k hk eh=>by
  have eh:some g≠some k:=eh;rw[Below.heap_alloc _ _ k (by simp;omega)];exact zbg w (a_ g _) k _ (fun e=>eh (by rw[e]))⟩
theorem CQ (fa fb fc fd:Int)(base g n cap:Nat)(t:List Int)(w:w_)(bb:ao w base (s_ g 0 n cap) t)(hn:n=t.length)(aO:n<=250)(hbase:base<=g)(fl:g<w.heap.size)(h0:0<=fa)(h1:fa+1<n) :
  c_ 60 #[.agg #[i_ 40,i_ fa,i_ fb,i_ fc,i_ fd],s_ g 0 n cap] w (jt base (s_ g 0 n cap) (bg ⟨40,fa,fb,fc,fd⟩ t) w):=by
 obtain⟨A,rfl⟩:=iV h0;have hA:A+1<n:=by{omega};have E:H_ (bg ⟨40,((A:Nat):Int),fb,fc,fd⟩ t=t.set (A+1) 1):=rfl;rw[E.o];clear E;obtain⟨g',iL,hv,_,_,aC⟩:=bb.at (by omega);have cA:=aC (A+1) (by omega);have gP:g'=g:=by{injection hv with h;injection h with h;exact(congrArg Addr.block h).symm};rw[gP]at cA;have zA:=bb.frozen hn (A+1);have HS:=af (bb.set hn (A+1) 1);have HO:=af bb;have gV:H_ (Below base w (w.setCell (a_ g (A+1)) (i_ 1))):=r_.setCell hbase _;have kN:base<=w.heap.size:=by omega
 clear hv aC bb gP h0 h1;go_enter Tryz.func60,Tryz.ntmps60;go_wp2
 go_end0
 exact⟨rfl,(aa HS).alloc _,(aa gV).alloc (by simp;omega) _,fun k hk eh=>by
  have eh:some g≠some k:=eh;rw[Below.heap_alloc _ _ k (by simp;omega)];exact zbg w (a_ g _) k _ (fun e=>eh (by rw[e]))⟩
theorem Dc (fa fb fc fd:Int)(base g n cap:Nat)(t:List Int)(w:w_)(bb:ao w base (s_ g 0 n cap) t)(hn:n=t.length)(aO:n<=250)(hbase:base<=g)(fl:g<w.heap.size)(h0:0<=fa)(h1:fa<n) :
  c_ 60 #[.agg #[i_ 42,i_ fa,i_ fb,i_ fc,i_ fd],s_ g 0 n cap] w (jt base (s_ g 0 n cap) (bg ⟨42,fa,fb,fc,fd⟩ t) w):=by
 obtain⟨A,rfl⟩:=iV h0;have hA:A<n:=by{omega};have E:H_ (bg ⟨42,((A:Nat):Int),fb,fc,fd⟩ t=t.set (A) 0):=rfl;rw[E.o];clear E;obtain⟨g',iL,hv,_,_,aC⟩:=bb.at (by omega);have cA:=aC (A) (by omega);have gP:g'=g:=by{injection hv with h;injection h with h;exact(congrArg Addr.block h).symm};rw[gP]at cA;have zA:=bb.frozen hn (A);have HS:=af (bb.set hn (A) 0);have HO:=af bb;have gV:H_ (Below base w (w.setCell (a_ g A) (i_ 0))):=r_.setCell hbase _;have kN:base<=w.heap.size:=by omega
 clear hv aC bb gP h0 h1;go_enter Tryz.func60,Tryz.ntmps60;go_wp2
 go_end0
 exact⟨rfl,(aa HS).alloc _,(aa gV).alloc (by simp;omega) _,fun k hk eh=>by
  have eh:some g≠some k:=eh;rw[Below.heap_alloc _ _ k (by simp;omega)];exact zbg w (a_ g _) k _ (fun e=>eh (by rw[e]))⟩
theorem Cb (fa fb fc fd:Int)(base g n cap:Nat)(t:List Int)(w:w_)(bb:ao w base (s_ g 0 n cap) t)(hn:n=t.length)(aO:n<=250)(hbase:base<=g)(fl:g<w.heap.size)(h0:0<=fc)(h1:fc<n) :
  c_ 60 #[.agg #[i_ 41,i_ fa,i_ fb,i_ fc,i_ fd],s_ g 0 n cap] w (jt base (s_ g 0 n cap) (bg ⟨41,fa,fb,fc,fd⟩ t) w):=by
 obtain⟨A,rfl⟩:=iV h0;have hA:A<n:=by{omega};have E:H_ (bg ⟨41,fa,fb,((A:Nat):Int),fd⟩ t=t.set (A) 3):=rfl;rw[E.o];clear E;obtain⟨g',iL,hv,_,_,aC⟩:=bb.at (by omega);have cA:=aC (A) (by omega);have gP:g'=g:=by{injection hv with h;injection h with h;exact(congrArg Addr.block h).symm};rw[gP]at cA;have zA:=bb.frozen hn (A);have HS:=af (bb.set hn (A) 3);have HO:=af bb;have gV:H_ (Below base w (w.setCell (a_ g A) (i_ 3))):=r_.setCell hbase _;have kN:base<=w.heap.size:=by omega
 clear hv aC bb gP h0 h1;go_enter Tryz.func60,Tryz.ntmps60;go_wp2
 go_end0
 exact⟨rfl,(aa HS).alloc _,(aa gV).alloc (by simp;omega) _,fun k hk eh=>by
  have eh:some g≠some k:=eh;rw[Below.heap_alloc _ _ k (by simp;omega)];exact zbg w (a_ g _) k _ (fun e=>eh (by rw[e]))⟩
theorem zH (op:Int)(r:List Nat)(hr:bh op=some r)(qK:r[0]?.getD 0=1)(fm:op≠6/\op≠22/\op≠27/\op≠28/\op≠40/\op≠41/\op≠42)(fa fb fc fd:Int)(base g n cap:Nat)(t:List Int)(w:w_)(bb:ao w base (s_ g 0 n cap) t)(hn:n=t.length)(aO:n<=250)(hbase:base<=g)(fl:g<w.heap.size)(h0:0<=fa)(h1:fa<n) :
  c_ 60 #[.agg #[i_ op,i_ fa,i_ fb,i_ fc,i_ fd],s_ g 0 n cap] w (jt base (s_ g 0 n cap) (bg ⟨op,fa,fb,fc,fd⟩ t) w):=by
 obtain⟨n6,n22,n27,n28,n40,n41,n42⟩:=fm;have RO:=af (fun W=>ij op W);rw[hr]at RO;have b6:(op==6)=false:=by{simpa using n6};have b22:(op==22)=false:=by{simpa using n22};have b27:(op==27)=false:=by{simpa using n27};have b28:(op==28)=false:=by{simpa using n28};have b40:(op==40)=false:=by{simpa using n40};have b41:(op==41)=false:=by{simpa using n41};have b42:(op==42)=false:=by{simpa using n42};obtain⟨A,rfl⟩:=iV h0;have hA:A<n:=by{omega};have hw:bg ⟨op,((A:Nat):Int),fb,fc,fd⟩ t=t.set A 1:=by{unfold bg;rw[zcb n6,zcb (show ¬(op=22\/op=27\/op=28)by omega),zcb n40,zcb n42,zcb n41,hr];exact zca qK};rw[hw];obtain⟨g',iL,hv,_,_,aC⟩:=bb.at (by omega);have cA:=aC A (by omega);have gP:g'=g:=by{injection hv with h;injection h with h;exact(congrArg Addr.block h).symm};rw[gP]at cA;have zA:=bb.frozen hn A;have HO:=af bb;have kN:base<=w.heap.size:=by omega
 clear hv aC bb gP h0 h1 hw;have Lu:=af qK;clear hr qK n6 n22 n27 n28 n40 n41 n42;go_enter Tryz.func60,Tryz.ntmps60;go_wp2_with fail
 refine(aa RO _).mono ?_;rintro e w1 hF;obtain⟨b1,rfl,ar,bx,jN⟩:=ld hF;have f0:=bx.cell (i:=0) (by omega);obtain⟨cT,fI⟩:=cz jN;have je:w.heap.size<w1.heap.size:=by{have:=jN.size;simp at this;omega};have i1:w1.cell? (a_ w.heap.size 1)=some (i_ ((A:Nat):Int)):=by{rw[cT _ _ (by simp)];simp[go_sem]};rw[Lu.o]at f0;have cA1:w1.cell? (a_ g A)=some (i_ (t[A]?.getD 0)):=by{rw[cT _ _ (by simp;omega),Below.cell (B:=w.heap.size) (r_.alloc n_ _) (p:=(a_ g A)) fl];exact cA};have zA1:w1.frozen? (a_ g A)=false:=by{rw[fI _ _ (by simp;omega),Below.frozen (B:=w.heap.size) (r_.alloc n_ _) (p:=(a_ g A)) fl];exact zA};have hgl1:g<w1.heap.size:=by{omega};have O1:=af ((((aa HO).alloc _).below jN).set hn A 1);have B1:H_ (Below base w (w1.setCell (a_ g A) (i_ 1))):=(((r_.alloc kN _).trans (jN.mono (by simp;omega)))).setCell hbase _;have N1:H_ (∀ k,k<w.heap.size->some g≠some k->(w1.setCell (a_ g A) (i_ 1)).heap[k]? = w.heap[k]?):=fun k hk eh=>by{rw[zbg w1 (a_ g A) k _ (fun e=>eh (by rw[e])),jN.block k (by simp;omega)];exact Below.heap_alloc w _ k hk};clear hF bx jN cT fI RO;go_wp2;go_end0;exact⟨rfl,aa O1,aa B1,aa N1⟩
theorem Da (op:Int)(r:List Nat)(hr:bh op=some r)(qK:r[0]?.getD 0≠1)(fm:op≠6/\op≠22/\op≠27/\op≠28/\op≠40/\op≠41/\op≠42)(fa fb fc fd:Int)(base g n cap:Nat)(t:List Int)(w:w_)(bb:ao w base (s_ g 0 n cap) t)(hn:n=t.length)(aO:n<=250)(hbase:base<=g)(fl:g<w.heap.size) :
  c_ 60 #[.agg #[i_ op,i_ fa,i_ fb,i_ fc,i_ fd],s_ g 0 n cap] w (jt base (s_ g 0 n cap) (bg ⟨op,fa,fb,fc,fd⟩ t) w):=by
 obtain⟨n6,n22,n27,n28,n40,n41,n42⟩:=fm;have RO:=af (fun W=>ij op W);rw[hr]at RO;have b6:(op==6)=false:=by{simpa using n6};have b22:(op==22)=false:=by{simpa using n22};have b27:(op==27)=false:=by{simpa using n27};have b28:(op==28)=false:=by{simpa using n28};have b40:(op==40)=false:=by{simpa using n40};have b41:(op==41)=false:=by{simpa using n41};have b42:(op==42)=false:=by{simpa using n42};have hw:bg ⟨op,fa,fb,fc,fd⟩ t=t:=by{unfold bg;rw[zcb n6,zcb (show ¬(op=22\/op=27\/op=28)by omega),zcb n40,zcb n42,zcb n41,hr];exact zcb qK};rw[hw];have HO:=af bb;have kN:base<=w.heap.size:=by omega
 clear bb hw;have Lu:=af qK;clear hr qK n6 n22 n27 n28 n40 n41 n42;go_enter Tryz.func60,Tryz.ntmps60;go_wp2_with fail
 refine(aa RO _).mono ?_;rintro e w1 hF;obtain⟨b1,rfl,ar,bx,jN⟩:=ld hF;have f0:=bx.cell (i:=0) (by omega);obtain⟨cT,fI⟩:=cz jN;have je:w.heap.size<w1.heap.size:=by{have:=jN.size;simp at this;omega};have i1:w1.cell? (a_ w.heap.size 1)=some (i_ fa):=by{rw[cT _ _ (by simp)];simp[go_sem]};have vl:((((r[0]?.getD 0:Nat)):Int)==1)=false:=by{have:=Lu.o;simp;omega};generalize r[0]?.getD 0=q at *;have O1:=af (((aa HO).alloc _).below jN);have B1:H_ (Below base w w1):=(r_.alloc kN _).trans (jN.mono (by simp;omega));have N1:H_ (∀ k,k<w.heap.size->some g≠some k->w1.heap[k]? = w.heap[k]?):=fun k hk eh=>by{rw[jN.block k (by simp;omega)];exact Below.heap_alloc w _ k hk};clear hF bx jN cT fI RO;go_wp2;go_end0;exact⟨rfl,aa O1,aa B1,aa N1⟩
def xr (op fa fc:Int)(n:Nat):Prop:=(((bh op).getD [])[0]?.getD 0=1->0<=fa/\fa<n)/\(op=42->0<=fa/\fa<n)/\(op=40->0<=fa/\fa+1<n)/\(op=41->0<=fc/\fc<n)
theorem AN (op:Int)(fa fb fc fd:Int)(base g n cap:Nat)(t:List Int)(w:w_)(bb:ao w base (s_ g 0 n cap) t)(hn:n=t.length)(aO:n<=250)(hbase:base<=g)(fl:g<w.heap.size)(fm:1<=op/\op<=42)(hf:xr op fa fc n) :
  c_ 60 #[.agg #[i_ op,i_ fa,i_ fb,i_ fc,i_ fd],s_ g 0 n cap] w (jt base (s_ g 0 n cap) (bg ⟨op,fa,fb,fc,fd⟩ t) w):=by
 obtain⟨f1,f2,f3,f4⟩:=hf;by_cases c6:op=6;{subst c6;exact FY fa fb fc fd base g n cap t w bb hn aO hbase fl (f1 (by decide)).1 (f1 (by decide)).2};by_cases c22:op=22;{subst c22;exact DQ fa fb fc fd base g n cap t w bb hn aO hbase fl (f1 (by decide)).1 (f1 (by decide)).2};by_cases c27:op=27;{subst c27;exact DM fa fb fc fd base g n cap t w bb hn aO hbase fl (f1 (by decide)).1 (f1 (by decide)).2};by_cases c28:op=28;{subst c28;exact DK fa fb fc fd base g n cap t w bb hn aO hbase fl (f1 (by decide)).1 (f1 (by decide)).2};by_cases c40:op=40;{subst c40;exact CQ fa fb fc fd base g n cap t w bb hn aO hbase fl (f3 rfl).1 (f3 rfl).2};by_cases c42:op=42;{subst c42;exact Dc fa fb fc fd base g n cap t w bb hn aO hbase fl (f2 rfl).1 (f2 rfl).2};by_cases c41:op=41;{subst c41;exact Cb fa fb fc fd base g n cap t w bb hn aO hbase fl (f4 rfl).1 (f4 rfl).2}
 cases hr:bh op with
 | none=>
  obtain⟨k,rfl⟩:∃ k:Nat,op=k:=⟨op.toNat,by omega⟩;rw[kW k (by omega) (by omega)]at hr;cases hr
 | some r=>
  rw[hr]at f1;by_cases h1:r[0]?.getD 0=1;{exact zH op r hr h1 ⟨c6,c22,c27,c28,c40,c41,c42⟩ fa fb fc fd base g n cap t w bb hn aO hbase fl (f1 h1).1 (f1 h1).2};{exact Da op r hr h1 ⟨c6,c22,c27,c28,c40,c41,c42⟩ fa fb fc fd base g n cap t w bb hn aO hbase fl}
end Go.Proofs.YtcjfjflljdojlaaGreatDoor
