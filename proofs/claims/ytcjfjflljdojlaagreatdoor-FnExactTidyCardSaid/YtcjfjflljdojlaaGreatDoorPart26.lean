import Derived.Test.YtcjfjflljdojlaaGreatDoorPart25
set_option linter.unusedSimpArgs false
set_option linter.unusedVariables false
set_option maxHeartbeats 1000000
set_option maxRecDepth 100000
namespace Go.Proofs.YtcjfjflljdojlaaGreatDoor
open Go.RowKit
theorem ar.set {w:World}{base g n cap:Nat}{t:List Int}(h:ar w base (.slice (some (a_ g 0)) n cap) t)(hn:n=t.length)(j:Nat)(x:Int):ar (w.setCell (a_ g j) (i_ x)) base (.slice (some (a_ g 0)) n cap) (t.set j x):=by
 aj hn
 have h2:=(World.ownsRow.stored h j (i_ x)).1;unfold ar;rw[List.length_set,List.map_set];exact h2
theorem ar.frozen {w:World}{base g n cap:Nat}{t:List Int}(h:ar w base (.slice (some (a_ g 0)) n cap) t)(hn:n=t.length)(j:Nat):w.frozen? (a_ g j)=false:=by
 aj hn
 exact World.ownsRow.frozenAt h j
theorem ar.alloc {w:World}{base:Nat}{v:Value}{t:List Int}(h:ar w base v t)(o:Obj):ar (w.alloc o) base v t:=World.ownsRow.alloc h o
def jy (base:Nat)(v:Value)(t:List Int)(w:World)(e:Ending)(w':World):Prop:=e=.returned (.tuple #[])/\ar w' base v t/\Below base w w'/\∀ k,k<w.heap.size->v.ownBlock≠some k->w'.heap[k]? = w.heap[k]?
theorem lk {w w':World}{e:Ending}{r:List Nat}(h:eK w w' e r):∃ b,e=.returned (.slice (some (a_ b 0)) 4 4)/\w.heap.size<=b/\w'.rowIs b 3 4 (fun j=>i_ ((r[j]?.getD 0:Nat):Int))/\b_ w w':=h
theorem GF (fa fb fc fd:Int)(base g n cap:Nat)(t:List Int)(w:World)(bc:ar w base (.slice (some (a_ g 0)) n cap) t)(hn:n=t.length)(aP:n<=250)(hbase:base<=g)(fm:g<w.heap.size)(h0:0<=fa)(h1:fa<n) :
  c_ 60 #[.agg #[i_ 6,i_ fa,i_ fb,i_ fc,i_ fd],.slice (some (a_ g 0)) n cap] w (jy base (.slice (some (a_ g 0)) n cap) (bh ⟨6,fa,fb,fc,fd⟩ t) w):=by
 obtain⟨A,rfl⟩:=Int.eq_ofNat_of_zero_le h0;have hA:A<n:=by omega
 have E:Hid (bh ⟨6,((A:Nat):Int),fb,fc,fd⟩ t=t.set (A) 2):=rfl;rw[E.out];clear E;obtain⟨g',iM,hv,_,_,aE⟩:=bc.at (by omega);have cA:=aE (A) (by omega);have gQ:g'=g:=by injection hv with h;injection h with h;exact(congrArg Addr.block h).symm
 rw[gQ]at cA;have zA:=bc.frozen hn (A);have HS:=af (bc.set hn (A) 2);have HO:=af bc;have gW:Hid (Below base w (w.setCell (a_ g A) (i_ 2))):=r_.setCell hbase _;have kO:base<=w.heap.size:=by omega
 clear hv aE bc gQ h0 h1;go_enter Tryz.func60,Tryz.ntmps60;go_wp2_with fail
 go_end0
 exact⟨rfl,(aa HS).alloc _,(aa gW).alloc (by simp;omega) _,fun k hk ei=>by
  have ei:some g≠some k:=ei;rw[Below.heap_alloc _ _ k (by simp;omega)];exact heap_setCell_other w (a_ g _) k _ (fun e=>ei (by rw[e]))⟩
theorem Dk (fa fb fc fd:Int)(base g n cap:Nat)(t:List Int)(w:World)(bc:ar w base (.slice (some (a_ g 0)) n cap) t)(hn:n=t.length)(aP:n<=250)(hbase:base<=g)(fm:g<w.heap.size)(h0:0<=fa)(h1:fa<n) :
  c_ 60 #[.agg #[i_ 22,i_ fa,i_ fb,i_ fc,i_ fd],.slice (some (a_ g 0)) n cap] w (jy base (.slice (some (a_ g 0)) n cap) (bh ⟨22,fa,fb,fc,fd⟩ t) w):=by
 obtain⟨A,rfl⟩:=Int.eq_ofNat_of_zero_le h0;have hA:A<n:=by omega
 have E:Hid (bh ⟨22,((A:Nat):Int),fb,fc,fd⟩ t=t.set (A) 3):=rfl;rw[E.out];clear E;obtain⟨g',iM,hv,_,_,aE⟩:=bc.at (by omega);have cA:=aE (A) (by omega);have gQ:g'=g:=by injection hv with h;injection h with h;exact(congrArg Addr.block h).symm
 rw[gQ]at cA;have zA:=bc.frozen hn (A);have HS:=af (bc.set hn (A) 3);have HO:=af bc;have gW:Hid (Below base w (w.setCell (a_ g A) (i_ 3))):=r_.setCell hbase _;have kO:base<=w.heap.size:=by omega
 clear hv aE bc gQ h0 h1;go_enter Tryz.func60,Tryz.ntmps60;go_wp2_with fail
 go_end0
 exact⟨rfl,(aa HS).alloc _,(aa gW).alloc (by simp;omega) _,fun k hk ei=>by
  have ei:some g≠some k:=ei;rw[Below.heap_alloc _ _ k (by simp;omega)];exact heap_setCell_other w (a_ g _) k _ (fun e=>ei (by rw[e]))⟩
theorem Cl (fa fb fc fd:Int)(base g n cap:Nat)(t:List Int)(w:World)(bc:ar w base (.slice (some (a_ g 0)) n cap) t)(hn:n=t.length)(aP:n<=250)(hbase:base<=g)(fm:g<w.heap.size)(h0:0<=fa)(h1:fa<n) :
  c_ 60 #[.agg #[i_ 27,i_ fa,i_ fb,i_ fc,i_ fd],.slice (some (a_ g 0)) n cap] w (jy base (.slice (some (a_ g 0)) n cap) (bh ⟨27,fa,fb,fc,fd⟩ t) w):=by
 obtain⟨A,rfl⟩:=Int.eq_ofNat_of_zero_le h0;have hA:A<n:=by omega
 have E:Hid (bh ⟨27,((A:Nat):Int),fb,fc,fd⟩ t=t.set (A) 3):=rfl;rw[E.out];clear E;obtain⟨g',iM,hv,_,_,aE⟩:=bc.at (by omega);have cA:=aE (A) (by omega);have gQ:g'=g:=by injection hv with h;injection h with h;exact(congrArg Addr.block h).symm
 rw[gQ]at cA;have zA:=bc.frozen hn (A);have HS:=af (bc.set hn (A) 3);have HO:=af bc;have gW:Hid (Below base w (w.setCell (a_ g A) (i_ 3))):=r_.setCell hbase _;have kO:base<=w.heap.size:=by omega
 clear hv aE bc gQ h0 h1;go_enter Tryz.func60,Tryz.ntmps60;go_wp2_with fail
 go_end0
 exact⟨rfl,(aa HS).alloc _,(aa gW).alloc (by simp;omega) _,fun k hk ei=>by
  have ei:some g≠some k:=ei;rw[Below.heap_alloc _ _ k (by simp;omega)];exact heap_setCell_other w (a_ g _) k _ (fun e=>ei (by rw[e]))⟩
theorem BU (fa fb fc fd:Int)(base g n cap:Nat)(t:List Int)(w:World)(bc:ar w base (.slice (some (a_ g 0)) n cap) t)(hn:n=t.length)(aP:n<=250)(hbase:base<=g)(fm:g<w.heap.size)(h0:0<=fa)(h1:fa<n) :
  c_ 60 #[.agg #[i_ 28,i_ fa,i_ fb,i_ fc,i_ fd],.slice (some (a_ g 0)) n cap] w (jy base (.slice (some (a_ g 0)) n cap) (bh ⟨28,fa,fb,fc,fd⟩ t) w):=by
 obtain⟨A,rfl⟩:=Int.eq_ofNat_of_zero_le h0;have hA:A<n:=by omega
 have E:Hid (bh ⟨28,((A:Nat):Int),fb,fc,fd⟩ t=t.set (A) 3):=rfl;rw[E.out];clear E;obtain⟨g',iM,hv,_,_,aE⟩:=bc.at (by omega);have cA:=aE (A) (by omega);have gQ:g'=g:=by injection hv with h;injection h with h;exact(congrArg Addr.block h).symm
 rw[gQ]at cA;have zA:=bc.frozen hn (A);have HS:=af (bc.set hn (A) 3);have HO:=af bc;have gW:Hid (Below base w (w.setCell (a_ g A) (i_ 3))):=r_.setCell hbase _;have kO:base<=w.heap.size:=by omega
 clear hv aE bc gQ h0 h1;go_enter Tryz.func60,Tryz.ntmps60;go_wp2_with fail
 go_end0
 exact⟨rfl,(aa HS).alloc _,(aa gW).alloc (by simp;omega) _,fun k hk ei=>by
  have ei:some g≠some k:=ei;rw[Below.heap_alloc _ _ k (by simp;omega)];exact heap_setCell_other w (a_ g _) k _ (fun e=>ei (by rw[e]))⟩
theorem DJ (fa fb fc fd:Int)(base g n cap:Nat)(t:List Int)(w:World)(bc:ar w base (.slice (some (a_ g 0)) n cap) t)(hn:n=t.length)(aP:n<=250)(hbase:base<=g)(fm:g<w.heap.size)(h0:0<=fa)(h1:fa+1<n) :
  c_ 60 #[.agg #[i_ 40,i_ fa,i_ fb,i_ fc,i_ fd],.slice (some (a_ g 0)) n cap] w (jy base (.slice (some (a_ g 0)) n cap) (bh ⟨40,fa,fb,fc,fd⟩ t) w):=by
 obtain⟨A,rfl⟩:=Int.eq_ofNat_of_zero_le h0;have hA:A+1<n:=by omega
 have E:Hid (bh ⟨40,((A:Nat):Int),fb,fc,fd⟩ t=t.set (A+1) 1):=rfl;rw[E.out];clear E;obtain⟨g',iM,hv,_,_,aE⟩:=bc.at (by omega);have cA:=aE (A+1) (by omega);have gQ:g'=g:=by injection hv with h;injection h with h;exact(congrArg Addr.block h).symm
 rw[gQ]at cA;have zA:=bc.frozen hn (A+1);have HS:=af (bc.set hn (A+1) 1);have HO:=af bc;have gW:Hid (Below base w (w.setCell (a_ g (A+1)) (i_ 1))):=r_.setCell hbase _;have kO:base<=w.heap.size:=by omega
 clear hv aE bc gQ h0 h1;go_enter Tryz.func60,Tryz.ntmps60;go_wp2_with fail
 go_end0
 exact⟨rfl,(aa HS).alloc _,(aa gW).alloc (by simp;omega) _,fun k hk ei=>by
  have ei:some g≠some k:=ei;rw[Below.heap_alloc _ _ k (by simp;omega)];exact heap_setCell_other w (a_ g _) k _ (fun e=>ei (by rw[e]))⟩
theorem Cm (fa fb fc fd:Int)(base g n cap:Nat)(t:List Int)(w:World)(bc:ar w base (.slice (some (a_ g 0)) n cap) t)(hn:n=t.length)(aP:n<=250)(hbase:base<=g)(fm:g<w.heap.size)(h0:0<=fa)(h1:fa<n) :
  c_ 60 #[.agg #[i_ 42,i_ fa,i_ fb,i_ fc,i_ fd],.slice (some (a_ g 0)) n cap] w (jy base (.slice (some (a_ g 0)) n cap) (bh ⟨42,fa,fb,fc,fd⟩ t) w):=by
 obtain⟨A,rfl⟩:=Int.eq_ofNat_of_zero_le h0;have hA:A<n:=by omega
 have E:Hid (bh ⟨42,((A:Nat):Int),fb,fc,fd⟩ t=t.set (A) 0):=rfl;rw[E.out];clear E;obtain⟨g',iM,hv,_,_,aE⟩:=bc.at (by omega);have cA:=aE (A) (by omega);have gQ:g'=g:=by injection hv with h;injection h with h;exact(congrArg Addr.block h).symm
 rw[gQ]at cA;have zA:=bc.frozen hn (A);have HS:=af (bc.set hn (A) 0);have HO:=af bc;have gW:Hid (Below base w (w.setCell (a_ g A) (i_ 0))):=r_.setCell hbase _;have kO:base<=w.heap.size:=by omega
 clear hv aE bc gQ h0 h1;go_enter Tryz.func60,Tryz.ntmps60;go_wp2_with fail
 go_end0
 exact⟨rfl,(aa HS).alloc _,(aa gW).alloc (by simp;omega) _,fun k hk ei=>by
  have ei:some g≠some k:=ei;rw[Below.heap_alloc _ _ k (by simp;omega)];exact heap_setCell_other w (a_ g _) k _ (fun e=>ei (by rw[e]))⟩
theorem Ca (fa fb fc fd:Int)(base g n cap:Nat)(t:List Int)(w:World)(bc:ar w base (.slice (some (a_ g 0)) n cap) t)(hn:n=t.length)(aP:n<=250)(hbase:base<=g)(fm:g<w.heap.size)(h0:0<=fc)(h1:fc<n) :
  c_ 60 #[.agg #[i_ 41,i_ fa,i_ fb,i_ fc,i_ fd],.slice (some (a_ g 0)) n cap] w (jy base (.slice (some (a_ g 0)) n cap) (bh ⟨41,fa,fb,fc,fd⟩ t) w):=by
 obtain⟨A,rfl⟩:=Int.eq_ofNat_of_zero_le h0;have hA:A<n:=by omega
 have E:Hid (bh ⟨41,fa,fb,((A:Nat):Int),fd⟩ t=t.set (A) 3):=rfl;rw[E.out];clear E;obtain⟨g',iM,hv,_,_,aE⟩:=bc.at (by omega);have cA:=aE (A) (by omega);have gQ:g'=g:=by injection hv with h;injection h with h;exact(congrArg Addr.block h).symm
 rw[gQ]at cA;have zA:=bc.frozen hn (A);have HS:=af (bc.set hn (A) 3);have HO:=af bc;have gW:Hid (Below base w (w.setCell (a_ g A) (i_ 3))):=r_.setCell hbase _;have kO:base<=w.heap.size:=by omega
 clear hv aE bc gQ h0 h1;go_enter Tryz.func60,Tryz.ntmps60;go_wp2_with fail
 go_end0
 exact⟨rfl,(aa HS).alloc _,(aa gW).alloc (by simp;omega) _,fun k hk ei=>by
  have ei:some g≠some k:=ei;rw[Below.heap_alloc _ _ k (by simp;omega)];exact heap_setCell_other w (a_ g _) k _ (fun e=>ei (by rw[e]))⟩
theorem AD (op:Int)(r:List Nat)(hr:bj op=some r)(qK:r[0]?.getD 0=1)(fo:op≠6/\op≠22/\op≠27/\op≠28/\op≠40/\op≠41/\op≠42)(fa fb fc fd:Int)(base g n cap:Nat)(t:List Int)(w:World)(bc:ar w base (.slice (some (a_ g 0)) n cap) t)(hn:n=t.length)(aP:n<=250)(hbase:base<=g)(fm:g<w.heap.size)(h0:0<=fa)(h1:fa<n) :
  c_ 60 #[.agg #[i_ op,i_ fa,i_ fb,i_ fc,i_ fd],.slice (some (a_ g 0)) n cap] w (jy base (.slice (some (a_ g 0)) n cap) (bh ⟨op,fa,fb,fc,fd⟩ t) w):=by
 obtain⟨n6,n22,n27,n28,n40,n41,n42⟩:=fo;have RO:=af (fun W=>il op W);rw[hr]at RO;have b6:(op==6)=false:=by simpa using n6
 have b22:(op==22)=false:=by simpa using n22
 have b27:(op==27)=false:=by simpa using n27
 have b28:(op==28)=false:=by simpa using n28
 have b40:(op==40)=false:=by simpa using n40
 have b41:(op==41)=false:=by simpa using n41
 have b42:(op==42)=false:=by simpa using n42
 obtain⟨A,rfl⟩:=Int.eq_ofNat_of_zero_le h0;have hA:A<n:=by omega
 have hw:bh ⟨op,((A:Nat):Int),fb,fc,fd⟩ t=t.set A 1:=by
  unfold bh;rw[if_neg n6,if_neg (show ¬(op=22\/op=27\/op=28)by omega),if_neg n40,if_neg n42,if_neg n41,hr];exact if_pos qK
 rw[hw];obtain⟨g',iM,hv,_,_,aE⟩:=bc.at (by omega);have cA:=aE A (by omega);have gQ:g'=g:=by injection hv with h;injection h with h;exact(congrArg Addr.block h).symm
 rw[gQ]at cA;have zA:=bc.frozen hn A;have HO:=af bc;have kO:base<=w.heap.size:=by omega
 clear hv aE bc gQ h0 h1 hw;have KB:=af qK;clear hr qK n6 n22 n27 n28 n40 n41 n42;go_enter Tryz.func60,Tryz.ntmps60;go_wp2_with fail
 refine(aa RO _).mono ?_;rintro e w1 hF;obtain⟨b1,rfl,au,bz,jN⟩:=lk hF;have f0:=bz.cell (i:=0) (by omega);obtain⟨cU,fJ⟩:=cz jN;have jf:w.heap.size<w1.heap.size:=by have:=jN.size;simp at this;omega
 have i1:w1.cell? (a_ w.heap.size 1)=some (i_ ((A:Nat):Int)):=by rw[cU _ _ (by simp)];simp[go_sem]
 rw[KB.out]at f0;have cA1:w1.cell? (a_ g A)=some (i_ (t[A]?.getD 0)):=by rw[cU _ _ (by simp;omega),Below.cell (B:=w.heap.size) (r_.alloc n_ _) (p:=(a_ g A)) fm];exact cA
 have zA1:w1.frozen? (a_ g A)=false:=by rw[fJ _ _ (by simp;omega),Below.frozen (B:=w.heap.size) (r_.alloc n_ _) (p:=(a_ g A)) fm];exact zA
 have hgl1:g<w1.heap.size:=by omega
 have O1:=af ((((aa HO).alloc _).below jN).set hn A 1);have B1:Hid (Below base w (w1.setCell (a_ g A) (i_ 1))):=(((r_.alloc kO _).trans (jN.mono (by simp;omega)))).setCell hbase _;have N1:Hid (∀ k,k<w.heap.size->some g≠some k->(w1.setCell (a_ g A) (i_ 1)).heap[k]? = w.heap[k]?):=fun k hk ei=>by
  rw[heap_setCell_other w1 (a_ g A) k _ (fun e=>ei (by rw[e])),jN.block k (by simp;omega)];exact Below.heap_alloc w _ k hk
 clear hF bz jN cU fJ RO;go_wp2_with fail
 go_end0
 exact⟨rfl,aa O1,aa B1,aa N1⟩
theorem BY (op:Int)(r:List Nat)(hr:bj op=some r)(qK:r[0]?.getD 0≠1)(fo:op≠6/\op≠22/\op≠27/\op≠28/\op≠40/\op≠41/\op≠42)(fa fb fc fd:Int)(base g n cap:Nat)(t:List Int)(w:World)(bc:ar w base (.slice (some (a_ g 0)) n cap) t)(hn:n=t.length)(aP:n<=250)(hbase:base<=g)(fm:g<w.heap.size) :
  c_ 60 #[.agg #[i_ op,i_ fa,i_ fb,i_ fc,i_ fd],.slice (some (a_ g 0)) n cap] w (jy base (.slice (some (a_ g 0)) n cap) (bh ⟨op,fa,fb,fc,fd⟩ t) w):=by
 obtain⟨n6,n22,n27,n28,n40,n41,n42⟩:=fo;have RO:=af (fun W=>il op W);rw[hr]at RO;have b6:(op==6)=false:=by simpa using n6
 have b22:(op==22)=false:=by simpa using n22
 have b27:(op==27)=false:=by simpa using n27
 have b28:(op==28)=false:=by simpa using n28
 have b40:(op==40)=false:=by simpa using n40
 have b41:(op==41)=false:=by simpa using n41
 have b42:(op==42)=false:=by simpa using n42
 have hw:bh ⟨op,fa,fb,fc,fd⟩ t=t:=by
  unfold bh;rw[if_neg n6,if_neg (show ¬(op=22\/op=27\/op=28)by omega),if_neg n40,if_neg n42,if_neg n41,hr];exact if_neg qK
 rw[hw];have HO:=af bc;have kO:base<=w.heap.size:=by omega
 clear bc hw;have KB:=af qK;clear hr qK n6 n22 n27 n28 n40 n41 n42;go_enter Tryz.func60,Tryz.ntmps60;go_wp2_with fail
 refine(aa RO _).mono ?_;rintro e w1 hF;obtain⟨b1,rfl,au,bz,jN⟩:=lk hF;have f0:=bz.cell (i:=0) (by omega);obtain⟨cU,fJ⟩:=cz jN;have jf:w.heap.size<w1.heap.size:=by have:=jN.size;simp at this;omega
 have i1:w1.cell? (a_ w.heap.size 1)=some (i_ fa):=by rw[cU _ _ (by simp)];simp[go_sem]
 have vj:((((r[0]?.getD 0:Nat)):Int)==1)=false:=by have:=KB.out;simp;omega
 generalize r[0]?.getD 0=q at *;have O1:=af (((aa HO).alloc _).below jN);have B1:Hid (Below base w w1):=(r_.alloc kO _).trans (jN.mono (by simp;omega));have N1:Hid (∀ k,k<w.heap.size->some g≠some k->w1.heap[k]? = w.heap[k]?):=fun k hk ei=>by
  rw[jN.block k (by simp;omega)];exact Below.heap_alloc w _ k hk
 clear hF bz jN cU fJ RO;go_wp2_with fail
 go_end0
 exact⟨rfl,aa O1,aa B1,aa N1⟩
def xU (op fa fc:Int)(n:Nat):Prop:=(((bj op).getD [])[0]?.getD 0=1->0<=fa/\fa<n)/\(op=42->0<=fa/\fa<n)/\(op=40->0<=fa/\fa+1<n)/\(op=41->0<=fc/\fc<n)
theorem Ay (op:Int)(fa fb fc fd:Int)(base g n cap:Nat)(t:List Int)(w:World)(bc:ar w base (.slice (some (a_ g 0)) n cap) t)(hn:n=t.length)(aP:n<=250)(hbase:base<=g)(fm:g<w.heap.size)(fo:1<=op/\op<=42)(hf:xU op fa fc n) :
  c_ 60 #[.agg #[i_ op,i_ fa,i_ fb,i_ fc,i_ fd],.slice (some (a_ g 0)) n cap] w (jy base (.slice (some (a_ g 0)) n cap) (bh ⟨op,fa,fb,fc,fd⟩ t) w):=by
 obtain⟨f1,f2,f3,f4⟩:=hf;by_cases c6:op=6
 ·aj c6;exact GF fa fb fc fd base g n cap t w bc hn aP hbase fm (f1 (by decide)).1 (f1 (by decide)).2
 by_cases c22:op=22
 ·aj c22;exact Dk fa fb fc fd base g n cap t w bc hn aP hbase fm (f1 (by decide)).1 (f1 (by decide)).2
 by_cases c27:op=27
 ·aj c27;exact Cl fa fb fc fd base g n cap t w bc hn aP hbase fm (f1 (by decide)).1 (f1 (by decide)).2
 by_cases c28:op=28
 ·aj c28;exact BU fa fb fc fd base g n cap t w bc hn aP hbase fm (f1 (by decide)).1 (f1 (by decide)).2
 by_cases c40:op=40
 ·aj c40;exact DJ fa fb fc fd base g n cap t w bc hn aP hbase fm (f3 rfl).1 (f3 rfl).2
 by_cases c42:op=42
 ·aj c42;exact Cm fa fb fc fd base g n cap t w bc hn aP hbase fm (f2 rfl).1 (f2 rfl).2
 by_cases c41:op=41
 ·aj c41;exact Ca fa fb fc fd base g n cap t w bc hn aP hbase fm (f4 rfl).1 (f4 rfl).2
 cases hr:bj op with
 | none=>
  obtain⟨k,rfl⟩:∃ k:Nat,op=k:=⟨op.toNat,by omega⟩;rw[kQ k (by omega) (by omega)]at hr;cases hr
 | some r=>
  rw[hr]at f1;by_cases h1:r[0]?.getD 0=1
  ·exact AD op r hr h1 ⟨c6,c22,c27,c28,c40,c41,c42⟩ fa fb fc fd base g n cap t w bc hn aP hbase fm (f1 h1).1 (f1 h1).2
  ·exact BY op r hr h1 ⟨c6,c22,c27,c28,c40,c41,c42⟩ fa fb fc fd base g n cap t w bc hn aP hbase fm
end Go.Proofs.YtcjfjflljdojlaaGreatDoor
