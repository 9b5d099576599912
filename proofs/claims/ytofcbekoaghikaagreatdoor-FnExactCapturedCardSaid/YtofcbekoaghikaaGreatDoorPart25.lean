import Derived.Test.YtofcbekoaghikaaGreatDoorPart24
set_option linter.unusedSimpArgs false
set_option linter.unusedVariables false
namespace Go.Proofs.YtofcbekoaghikaaGreatDoor
theorem occKids_one {ks:List Int}{x:Nat}:∀ m q,q<m->(ks[q]?.getD 0).toNat=x->1<=occKids ks m x
 | 0,_,h,_=>absurd h (Nat.not_lt_zero _)
 | m+1,q,h,e=>by
  unfold occKids;by_cases hq:q=m
  ·subst hq;rw[if_pos e];have:=occKids_bd ks q x;omega
  ·have:=occKids_one m q (by omega) e;split<;>omega
theorem occKids_two {ks:List Int}{x:Nat}:∀ m q q',q<q'->q'<m->(ks[q]?.getD 0).toNat=x->(ks[q']?.getD 0).toNat=x->2<=occKids ks m x
 | 0,_,_,_,h,_,_=>absurd h (Nat.not_lt_zero _)
 | m+1,q,q',h,h',e,e'=>by
  unfold occKids;by_cases hq:q'=m
  ·subst hq;rw[if_pos e'];have:=occKids_one (ks:=ks) q' q h e;omega
  ·have:=occKids_two m q q' h (by omega) e e';split<;>omega
theorem occUpto_nn (ns:List NodeD):∀ i x,0<=occUpto ns i x
 | 0,_=>Int.le_refl _
 | i+1,x=>by
  have:=occUpto_nn ns i x;have:=occKids_bd (nd ns i).kids (nd ns i).kids.length x;unfold occUpto;omega
theorem occUpto_one {ns:List NodeD}{x:Nat}:∀ i j,j<i->occKids (nd ns j).kids (nd ns j).kids.length x<=occUpto ns i x
 | 0,_,h=>absurd h (Nat.not_lt_zero _)
 | i+1,j,h=>by
  unfold occUpto;by_cases hj:j=i
  ·subst hj;have:=occUpto_nn ns j x;omega
  ·have:=occUpto_one (ns:=ns) (x:=x) i j (by omega);have:=occKids_bd (nd ns i).kids (nd ns i).kids.length x;omega
theorem occUpto_two {ns:List NodeD}{x:Nat}:∀ i j j',j<j'->j'<i->occKids (nd ns j).kids (nd ns j).kids.length x+occKids (nd ns j').kids (nd ns j').kids.length x<=occUpto ns i x
 | 0,_,_,_,h=>absurd h (Nat.not_lt_zero _)
 | i+1,j,j',h,h'=>by
  unfold occUpto;by_cases hj:j'=i
  ·subst hj;have:=occUpto_one (ns:=ns) (x:=x) j' j h;omega
  ·have:=occUpto_two (ns:=ns) (x:=x) i j j' h (by omega);have:=occKids_bd (nd ns i).kids (nd ns i).kids.length x;omega
structure TreeOk (ns:List NodeD):Prop where
 len:ns.length<=3000
 pos:1<=ns.length
 kids:∀ p,p<ns.length->kidsIn ns p=true
 nkid:∀ p,p<ns.length->(nd ns p).kids.length<=200
 one:∀ p,p+1<ns.length->occUpto ns ns.length p=1
theorem tree_of {l:List FnD}(hs:Shaped l)(hp:NoBad l (parentBad l)){f:Nat}(hf:f<l.length):TreeOk (fnD l f).nodes where
 len:=hs.len hf
 pos:=hs.pos hf
 kids:=hs.kids hf
 nkid:=hs.nkids hf
 one:=fun p h=>by
  have h1:=hp f p hf (by omega);rw[parentBad_eq hs hf (by omega)]at h1;unfold parBad at h1;rw[if_neg (by omega)]at h1;simpa using h1
theorem TreeOk.kid {ns:List NodeD}(h:TreeOk ns){n i:Nat}(hn:n<ns.length)(hi:i<(nd ns n).kids.length):kidI (nd ns n) i=((kidI (nd ns n) i).toNat:Int)/\(kidI (nd ns n) i).toNat<n:=by
 have:=kidsIn_get (h.kids n hn) i hi;unfold kidI;omega
theorem TreeOk.par {ns:List NodeD}(h:TreeOk ns){n i:Nat}(hn:n<ns.length)(hi:i<(nd ns n).kids.length):sPar ns (kidI (nd ns n) i).toNat=n/\sPlace (nd ns n).kids ((kidI (nd ns n) i).toNat:Nat)=i:=by
 obtain⟨hk1,hk2⟩:=h.kid hn hi;have ho:=h.one (kidI (nd ns n) i).toNat (by omega);have hpo:=parOcc_upto ns ns.length (kidI (nd ns n) i).toNat;have hpar:0<=parUpto ns ns.length (kidI (nd ns n) i).toNat:=by unfold ParOcc at hpo;omega
 obtain⟨j,q,e1,hj,hq,e2⟩:=parUpto_kid _ _ hpar;have hjn:j=n:=by
  have a1:=occKids_one (ks:=(nd ns j).kids) _ q hq e2;have a2:=occKids_one (ks:=(nd ns n).kids) (x:=(kidI (nd ns n) i).toNat) _ i hi rfl;rcases Nat.lt_trichotomy j n with c | c | c
  ·have:=occUpto_two (ns:=ns) (x:=(kidI (nd ns n) i).toNat) _ _ _ c hn;omega
  ·exact c
  ·have:=occUpto_two (ns:=ns) (x:=(kidI (nd ns n) i).toNat) _ _ _ c hj;omega
 refine⟨?_,?_⟩
 ·rw[sPar_at h.kids (by omega),if_neg (by omega),e1,hjn]
 ·have a0:=occUpto_one (ns:=ns) (x:=(kidI (nd ns n) i).toNat) _ n hn;have key:∀ r,r<i->(nd ns n).kids[r]?.getD 0≠((kidI (nd ns n) i).toNat:Int):=fun r hr e=>by
   have:=occKids_two (ks:=(nd ns n).kids) (x:=(kidI (nd ns n) i).toNat) _ r i hr hi (by rw[e];rfl) rfl;omega
  have:=placeFrom_at (x:=((kidI (nd ns n) i).toNat:Int)) (nd ns n).kids 0 i hi hk1 key;unfold sPlace;rw[this];omega
theorem TreeOk.up {ns:List NodeD}(h:TreeOk ns){y:Nat}(hy:y+1<ns.length):∃ n i,n<ns.length/\i<(nd ns n).kids.length/\(kidI (nd ns n) i).toNat=y/\sPar ns y=n/\sPlace (nd ns n).kids (y:Int)=i/\y<n:=by
 have ho:=h.one y hy;have hpo:=parOcc_upto ns ns.length y;have hpar:0<=parUpto ns ns.length y:=by unfold ParOcc at hpo;omega
 obtain⟨j,q,e1,hj,hq,e2⟩:=parUpto_kid _ _ hpar;have e2':(kidI (nd ns j) q).toNat=y:=e2;obtain⟨a,b⟩:=h.par hj hq;have hk:=(h.kid hj hq).2;rw[e2']at a b hk;exact⟨j,q,hj,hq,e2',a,b,hk⟩
theorem TreeOk.root {ns:List NodeD}(h:TreeOk ns){y:Nat}(hy:y+1=ns.length):sPar ns y=-1:=by
 rw[sPar_at h.kids (by omega),if_pos hy]
theorem depDown_still (ns:List NodeD){x:Nat}:∀ t,x+1+t ≥ ns.length->∀ d,depDown ns (t+d) x=depDown ns t x
 | _,_,0=>rfl
 | t,h,d+1=>by
  have:=depDown_still ns t h d;show(if x+2+(t+d)=ns.length/\0<=sPar ns x then depDown ns (t+d) (sPar ns x).toNat+1 else depDown ns (t+d) x)=_;rw[if_neg (by omega),this]
theorem TreeOk.dep {ns:List NodeD}(h:TreeOk ns){n i:Nat}(hn:n<ns.length)(hi:i<(nd ns n).kids.length):sDep ns (kidI (nd ns n) i).toNat=sDep ns n+1:=by
 obtain⟨hk1,hk2⟩:=h.kid hn hi;obtain⟨hp,_⟩:=h.par hn hi;generalize (kidI (nd ns n) i).toNat=y at *;unfold sDep;have e1:ns.length-1=(ns.length-2-y+1)+y:=by omega
 have e2:ns.length-1=(ns.length-2-y)+(y+1):=by omega
 have s1:=depDown_still ns (x:=y) (ns.length-2-y+1) (by omega) y;have s2:=depDown_still ns (x:=n) (ns.length-2-y) (by omega) (y+1);rw[<-e1]at s1;rw[<-e2]at s2;rw[s1,s2];show(if y+2+(ns.length-2-y)=ns.length/\0<=sPar ns y then depDown ns (ns.length-2-y) (sPar ns y).toNat+1 else depDown ns (ns.length-2-y) y)=_;rw[if_pos (by omega),hp];rfl
theorem dep_root {ns:List NodeD}{y:Nat}(hy:y+1=ns.length):sDep ns y=0:=by
 unfold sDep;have s1:=depDown_still ns (x:=y) 0 (by omega) (ns.length-1);rw[Nat.zero_add]at s1;rw[s1];rfl
def upSum (ns:List NodeD)(z:Int)(q:Nat->Nat->Int):Nat->Nat->Int
 | 0,_=>z
 | g+1,y=>if sPar ns y<0 then z else upSum ns z q g (sPar ns y).toNat+q (sPar ns y).toNat y
theorem TreeOk.upSum_more {ns:List NodeD}(h:TreeOk ns)(z:Int)(q:Nat->Nat->Int):∀ g y,y<ns.length->ns.length<=g+y+1->upSum ns z q (g+1) y=upSum ns z q g y
 | 0,y,h1,h2=>by
  have:=h.root (y:=y) (by omega);show(if sPar ns y<0 then z else _)=z;rw[if_pos (by omega)]
 | g+1,y,h1,h2=>by
  show(if sPar ns y<0 then z else upSum ns z q (g+1) (sPar ns y).toNat+q (sPar ns y).toNat y)=(if sPar ns y<0 then z else upSum ns z q g (sPar ns y).toNat+q (sPar ns y).toNat y);by_cases e:y+1=ns.length
  ·rw[if_pos (by have:=h.root e;omega),if_pos (by have:=h.root e;omega)]
  ·obtain⟨n,i,hn,hi,e1,e2,e3,hlt⟩:=h.up (y:=y) (by omega);rw[if_neg (by omega),if_neg (by omega),e2];rw[show((n:Nat):Int).toNat=n from rfl,TreeOk.upSum_more h z q g n hn (by omega)]
theorem TreeOk.upSum_kid {ns:List NodeD}(h:TreeOk ns)(z:Int)(q:Nat->Nat->Int){n i:Nat}(hn:n<ns.length)(hi:i<(nd ns n).kids.length) :
  upSum ns z q ns.length (kidI (nd ns n) i).toNat=upSum ns z q ns.length n+q n (kidI (nd ns n) i).toNat:=by
 obtain⟨hp,_⟩:=h.par hn hi;have hk:=(h.kid hn hi).2;generalize (kidI (nd ns n) i).toNat=y at *;obtain⟨N,hN⟩:∃ N,ns.length=N+1:=⟨ns.length-1,by omega⟩;have m1:=h.upSum_more z q N n hn (by omega);rw[hN,m1];show(if sPar ns y<0 then z else upSum ns z q N (sPar ns y).toNat+q (sPar ns y).toNat y)=_;rw[if_neg (by omega),hp];rfl
theorem upSum_bd {ns:List NodeD}{z:Int}{q:Nat->Nat->Int}{B:Int}(hz:0<=z)(hq:∀ n y,0<=q n y/\q n y<=B):∀ g y,0<=upSum ns z q g y/\upSum ns z q g y<=z+B * g
 | 0,y=>by unfold upSum;constructor<;>omega
 | g+1,y=>by
  have hB:0<=B:=Int.le_trans (hq 0 0).1 (hq 0 0).2;have e:B * ((g+1:Nat):Int)=B * g+B:=by rw[Int.natCast_succ,Int.mul_add,Int.mul_one]
  have hg:0<=B * (g:Int):=Int.mul_nonneg hB (by omega);show 0<=(if sPar ns y<0 then z else _)/\(if sPar ns y<0 then z else _)<=_;rw[e];split
  ·omega
  ·have a:=upSum_bd (ns:=ns) hz hq g (sPar ns y).toNat;have b:=hq (sPar ns y).toNat y;omega
end Go.Proofs.YtofcbekoaghikaaGreatDoor
namespace Go.Proofs.YtofcbekoaghikaaGreatDoor
open Go.RowKit
theorem Shaped.fit {l:List FnD}(h:Shaped l){f p:Nat}(hf:f<l.length)(hp:p<(fnD l f).nodes.length)(hr:(nd (fnD l f).nodes p).refs.length<=9223372036854775807):nodeFits (fnD l f).nodes p=true:=by
 rw[<-shape_eq _ _ hr];exact h.node hf hp
theorem fit_role {ns:List NodeD}{p i:Nat}(h:nodeFits ns p=true)(hi:roleIx 33 (nd ns p).kind=some i) :
  (roleAt i).r0<=(nd ns p).refs.length/\(nd ns p).refs.length<=(roleAt i).r1/\(roleAt i).k0<=(nd ns p).kids.length/\(nd ns p).kids.length<=(roleAt i).k1:=by
 unfold nodeFits at h;rw[hi]at h;simp only[roleFitsD,inR,Bool.and_eq_true,decide_eq_true_eq]at h;omega
theorem mayFit_let {x:NodeD}{i:Nat}(h:x.kind≠1):mayFit x i 2=false:=by
 unfold mayFit;rw[if_neg h]
 repeat' split
 all_goals first | rfl | simp
theorem fit_nolet {ns:List NodeD}{p i:Nat}(h:nodeFits ns p=true)(hk:(nd ns p).kind≠1)(hi:i<(nd ns p).kids.length):(nd ns (kidI (nd ns p) i).toNat).kind≠2:=by
 intro e;unfold nodeFits at h;split at h
 ·cases h
 ·simp only[kidsFits,Bool.and_eq_true]at h;have:=allFrom_get h.2.1 i (Nat.zero_le _) hi;simp only[kidFit,Bool.and_eq_true]at this;rw[e,mayFit_let hk]at this;exact absurd this.2 (by decide)
def scAt (C:VC)(v up below:Nat):Int:=
 if bodyKind (kindN C up)then(if sPlace (nd C.x.nodes up).kids below+1=nkidN C up then cntTo (refsN C up) (refsN C up).length v else 0)
 else letSum C up (sPlace (nd C.x.nodes up).kids below).toNat v
def lpAt (C:VC)(up below:Nat):Int:=
 if bodyKind (kindN C up)/\sPlace (nd C.x.nodes up).kids below+1=nkidN C up/\kindN C up≠12 then 1 else 0
def cxOf (C:VC):Cx where
 cnt:=fun n v=>upSum C.x.nodes (if(v:Int)<C.x.params then 1 else 0) (scAt C v) C.x.nodes.length n
 lps:=fun n=>upSum C.x.nodes 0 (lpAt C) C.x.nodes.length n
 dpt:=fun n=>sDep C.x.nodes n
theorem letSum_nn (C:VC)(v:Nat)(n:Nat):∀ i,0<=letSum C n i v
 | 0=>Int.le_refl _
 | i+1=>by
  have:=letSum_nn C v n i;have h2:0<=letOf C (kidN C n i) v:=by
   unfold letOf;split
   ·exact(cntTo_bd _ _ _).1
   ·exact Int.le_refl _
  unfold letSum;omega
structure FnOk (C:VC):Prop where
 tree:TreeOk C.x.nodes
 fit:∀ p,p<C.x.nodes.length->nodeFits C.x.nodes p=true
 refs:∀ p,(refsN C p).length<=1048576
theorem FnOk.role {C:VC}(h:FnOk C){p i:Nat}(hp:p<C.x.nodes.length)(hi:roleIx 33 (kindN C p)=some i) :
  (roleAt i).r0<=(refsN C p).length/\(refsN C p).length<=(roleAt i).r1/\(roleAt i).k0<=nkidN C p/\nkidN C p<=(roleAt i).k1:=fit_role (h.fit p hp) hi
theorem nd_out {ns:List NodeD}{p:Nat}(h:ns.length<=p):nd ns p=NodeD.z:=by
 unfold nd;rw[List.getElem?_eq_none h];rfl
theorem FnOk.nkid {C:VC}(h:FnOk C)(n:Nat):nkidN C n<=200:=by
 by_cases hn:n<C.x.nodes.length
 ·exact h.tree.nkid n hn
 ·unfold nkidN;rw[nd_out (by omega)];exact Nat.zero_le _
theorem FnOk.letOf_bd {C:VC}(h:FnOk C)(n v:Nat):0<=letOf C n v/\letOf C n v<=1048576:=by
 have h2:=h.refs n;have h3:=cntTo_bd (refsN C n) (refsN C n).length v;unfold letOf;split<;>omega
theorem FnOk.letSum_bd {C:VC}(h:FnOk C)(n v:Nat):∀ i,0<=letSum C n i v/\letSum C n i v<=1048576 * i
 | 0=>⟨Int.le_refl _,Int.le_refl _⟩
 | i+1=>by
  have h1:=FnOk.letSum_bd h n v i;have h2:=h.letOf_bd (kidN C n i) v;unfold letSum;omega
theorem FnOk.scAt_bd {C:VC}(h:FnOk C)(v n y:Nat):0<=scAt C v n y/\scAt C v n y<=209715200:=by
 have h2:=h.refs n;have h3:=cntTo_bd (refsN C n) (refsN C n).length v;have h4:=sPlace_bd (nd C.x.nodes n).kids (y:Int);have h5:=h.nkid n;have h6:=h.letSum_bd n v (sPlace (nd C.x.nodes n).kids (y:Int)).toNat;unfold nkidN at h5;unfold scAt;split
 ·split<;>omega
 ·omega
theorem FnOk.cxOk {C:VC}(h:FnOk C)(hM:∀ n,n<C.x.nodes.length->kindN C n=36->∃ f' n',C.M (ref0 (nd C.x.nodes n))=some (siteV f' n')):CxOk C (cxOf C) where
 len:=h.tree.len
 kid:=fun n i hn hi=>h.tree.kid hn hi
 refs:=fun n _=>h.refs n
 nkid:=fun n _=>h.nkid n
 cnt0:=fun n v hn _=>by
  have b:=upSum_bd (ns:=C.x.nodes) (z:=if(v:Int)<C.x.params then 1 else 0) (q:=scAt C v) (B:=209715200) (by split<;>omega) (h.scAt_bd v) C.x.nodes.length n;have hl:=h.tree.len;have hz:(if(v:Int)<C.x.params then(1:Int)else 0)<=1:=by split<;>omega
  show 0<=upSum _ _ _ _ _/\upSum _ _ _ _ _<=_;omega
 dpt0:=fun n hn=>by
  have b:=depDown_bd C.x.nodes (C.x.nodes.length-1) n;have hl:=h.tree.len;show 0<=sDep _ _/\sDep _ _<=_;unfold sDep;omega
 lps0:=fun n hn=>by
  have b:=upSum_bd (ns:=C.x.nodes) (z:=0) (q:=lpAt C) (B:=1) (by omega) (fun a b=>by unfold lpAt;split<;>omega) C.x.nodes.length n;have hl:=h.tree.len;show 0<=upSum _ _ _ _ _/\upSum _ _ _ _ _<=_;omega
 dk:=fun n i hn hi=>h.tree.dep hn hi
 ck:=fun n i v hn hi hb _=>by
  have e:=h.tree.upSum_kid (if(v:Int)<C.x.params then 1 else 0) (scAt C v) hn hi;show upSum _ _ _ _ (kidI _ _).toNat=upSum _ _ _ _ n+_;rw[e]
  congr 1
  unfold scAt;rw[if_neg (by rw[hb];decide),(h.tree.par hn hi).2];rfl
 lk:=fun n i hn hi hb=>by
  have e:=h.tree.upSum_kid 0 (lpAt C) hn hi;show upSum _ _ _ _ (kidI _ _).toNat=upSum _ _ _ _ n;rw[e];unfold lpAt;rw[if_neg (by rw[hb];simp)];omega
 cb:=fun n i v hn hi hb _=>by
  have hi':i<nkidN C n:=by omega
  have e:=h.tree.upSum_kid (if(v:Int)<C.x.params then 1 else 0) (scAt C v) hn hi';show upSum _ _ _ _ (kidI _ _).toNat=upSum _ _ _ _ n;rw[e];unfold scAt;rw[if_pos hb,(h.tree.par hn hi').2,if_neg (show ¬((i:Int)+1=nkidN C n)by omega)];omega
 lb:=fun n i hn hi hb=>by
  have hi':i<nkidN C n:=by omega
  have e:=h.tree.upSum_kid 0 (lpAt C) hn hi';show upSum _ _ _ _ (kidI _ _).toNat=upSum _ _ _ _ n;rw[e];unfold lpAt;rw[(h.tree.par hn hi').2,if_neg (by omega)];omega
 cl:=fun n i v hn hi hb _=>by
  have hi':i<nkidN C n:=by omega
  have e:=h.tree.upSum_kid (if(v:Int)<C.x.params then 1 else 0) (scAt C v) hn hi';show upSum _ _ _ _ (kidI _ _).toNat=upSum _ _ _ _ n+_;rw[e]
  congr 1
  unfold scAt;rw[if_pos hb,(h.tree.par hn hi').2,if_pos (show((i:Int)+1=nkidN C n)by omega)]
 ll:=fun n i hn hi hb=>by
  have hi':i<nkidN C n:=by omega
  have e:=h.tree.upSum_kid 0 (lpAt C) hn hi';show upSum _ _ _ _ (kidI _ _).toNat=upSum _ _ _ _ n+_;rw[e]
  congr 1
  unfold lpAt;rw[(h.tree.par hn hi').2];by_cases e12:kindN C n=12
  ·rw[if_neg (fun h=>h.2.2 e12),if_pos e12]
  ·rw[if_pos ⟨hb,by omega,e12⟩,if_neg e12]
 nl:=fun n i hn hi hk=>fit_nolet (h.fit n hn) hk hi
 bk:=fun n hn hb=>by
  unfold bodyKind at hb;simp only[Bool.or_eq_true,beq_iff_eq]at hb;rcases hb with((hb | hb) | hb) | hb
  ·have:=h.role (i:=5) hn (by rw[hb];decide);have e:(roleAt 5).k0=2:=rfl;omega
  ·have:=h.role (i:=6) hn (by rw[hb];decide);have e:(roleAt 6).k0=4:=rfl;omega
  ·have:=h.role (i:=7) hn (by rw[hb];decide);have e:(roleAt 7).k0=2:=rfl;omega
  ·have:=h.role (i:=11) hn (by rw[hb];decide);have e:(roleAt 11).k0=2:=rfl;omega
 one:=fun n hn hb=>by
  rcases hb with hb | hb | hb
  ·have:=h.role (i:=20) hn (by rw[hb];decide);have e:(roleAt 20).r0=1:=rfl;omega
  ·have:=h.role (i:=21) hn (by rw[hb];decide);have e:(roleAt 21).r0=1:=rfl;omega
  ·have:=h.role (i:=30) hn (by rw[hb];decide);have e:(roleAt 30).r0=1:=rfl;omega
 leaf:=fun n hn hb=>by
  rcases hb with hb | hb | hb | hb | hb | hb
  ·have:=h.role (i:=8) hn (by rw[hb];decide);have e:(roleAt 8).k1=0:=rfl;omega
  ·have:=h.role (i:=9) hn (by rw[hb];decide);have e:(roleAt 9).k1=0:=rfl;omega
  ·have:=h.role (i:=20) hn (by rw[hb];decide);have e:(roleAt 20).k1=0:=rfl;omega
  ·have:=h.role (i:=21) hn (by rw[hb];decide);have e:(roleAt 21).k1=0:=rfl;omega
  ·have:=h.role (i:=30) hn (by rw[hb];decide);have e:(roleAt 30).k1=0:=rfl;omega
  ·have:=h.role (i:=31) hn (by rw[hb];decide);have e:(roleAt 31).k1=0:=rfl;omega
 made:=hM
theorem SubN.snoc {C:VC}{m i:Nat}(hi:i<nkidN C m):∀(d n:Nat),SubN C d n m->Sub C n (kidN C m i)
 | 0,n,h=>by
  have h:n=m:=h;subst h;exact .kid n i _ hi (.self _)
 | d+1,n,h=>by
  rcases h with rfl | ⟨j,hj,h⟩
  ·exact .kid n i _ hi (.self _)
  ·exact .kid n j _ hj (SubN.snoc hi d _ h)
theorem Sub.snoc {C:VC}{n m i:Nat}(h:Sub C n m)(hi:i<nkidN C m):Sub C n (kidN C m i):=by
 obtain⟨d,hd⟩:=h;exact SubN.snoc hi d n hd
theorem FnOk.sub_all {C:VC}(h:FnOk C):∀(d p:Nat),p+d+1=C.x.nodes.length->Sub C (C.x.nodes.length-1) p:=by
 intro d
 induction d using Nat.strongRecOn with
 | ind d ih=>
  intro p hp;by_cases e:p+1=C.x.nodes.length
  ·have:C.x.nodes.length-1=p:=by omega
   rw[this];exact .self p
  ·obtain⟨n,i,hn,hi,e1,_,_,hlt⟩:=h.tree.up (y:=p) (by omega);have:=(ih (C.x.nodes.length-1-n) (by omega) n (by omega)).snoc (i:=i) hi;unfold kidN at this;rw[e1]at this;exact this
theorem FnOk.subN_lt {C:VC}(h:FnOk C){p:Nat}:∀(d n:Nat),SubN C d n p->n<C.x.nodes.length->p<C.x.nodes.length
 | 0,n,hs,hn=>by
  have hs:n=p:=hs;subst hs;exact hn
 | d+1,n,hs,hn=>by
  rcases hs with rfl | ⟨i,hi,hs⟩
  ·exact hn
  ·exact FnOk.subN_lt h d _ hs (by have:=(h.tree.kid hn hi).2;unfold kidN;omega)
theorem FnOk.sub_lt {C:VC}(h:FnOk C){n p:Nat}(hs:Sub C n p)(hn:n<C.x.nodes.length):p<C.x.nodes.length:=by
 obtain⟨d,hd⟩:=hs;exact h.subN_lt d n hd hn
theorem FnOk.tr_all {C:VC}(h:FnOk C){K:Cx}{c f p:Int}:Tr C K (C.x.nodes.length-1) c f p↔f=C.f/\∃ q:Nat,p=q/\q<C.x.nodes.length/\bad C K c q:=by
 have:=h.tree.pos;constructor
 ·rintro⟨a,q,b,hs,hb⟩;exact⟨a,q,b,h.sub_lt hs (by omega),hb⟩
 ·rintro⟨a,q,b,hs,hb⟩;exact⟨a,q,b,h.sub_all (C.x.nodes.length-1-q) q (by omega),hb⟩
theorem cntTo_pos {refs:List Int}{v:Nat}:∀ k,0<cntTo refs k v↔∃ j,j<k/\refs[j]?.getD 0=(v:Int)
 | 0=>⟨fun h=>absurd h (Int.lt_irrefl 0),fun⟨_,h,_⟩=>absurd h (Nat.not_lt_zero _)⟩
 | k+1=>by
  have ih:=cntTo_pos (refs:=refs) (v:=v) k;have b:=cntTo_bd refs k v;unfold cntTo;constructor
  ·intro h;by_cases e:refs[k]?.getD 0=(v:Int)
   ·exact⟨k,Nat.lt_succ_self _,e⟩
   ·rw[if_neg e]at h;obtain⟨j,hj,e2⟩:=ih.1 (by omega);exact⟨j,by omega,e2⟩
  ·rintro⟨j,hj,e⟩;by_cases e2:j=k
   ·subst e2;rw[if_pos e];omega
   ·have:=ih.2 ⟨j,by omega,e⟩;split<;>omega
theorem sPlace_in {refs:List Int}{v:Int}:0<=sPlace refs v↔∃ j,j<refs.length/\refs[j]?.getD 0=v:=by
 unfold sPlace;constructor
 ·intro h;rcases placeFrom_cases refs 0 (x:=v)with e | ⟨j,hj,_,e⟩
  ·omega
  ·exact⟨j,hj,e⟩
 ·rintro⟨j,hj,e⟩;rcases placeFrom_cases refs 0 (x:=v)with q | ⟨j',_,q,_⟩
  ·exfalso
   have key:∀(r:List Int) (i j:Nat),j<r.length->r[j]?.getD 0=v->placeFrom v r i≠-1:=by
    intro r
    induction r with
    | nil=>intro i j h;exact absurd h (Nat.not_lt_zero _)
    | cons a r ih=>
     intro i j h e;unfold placeFrom;split
     ·omega
     ·rename_i ne;cases j with
      | zero=>exact absurd e ne
      | succ j=>exact ih (i+1) j (by simpa using h) (by simpa using e)
   exact key refs 0 j hj e q
  ·omega
theorem cntTo_place {refs:List Int}{v:Nat}:0<cntTo refs refs.length v↔0<=sPlace refs (v:Int):=by rw[cntTo_pos,sPlace_in]
theorem letSum_pos {C:VC}{n v:Nat}:∀ i,0<letSum C n i v↔∃ j,j<i/\kindN C (kidN C n j)=2/\0<=sPlace (refsN C (kidN C n j)) ((v:Int))
 | 0=>⟨fun h=>absurd h (Int.lt_irrefl 0),fun⟨_,h,_⟩=>absurd h (Nat.not_lt_zero _)⟩
 | i+1=>by
  have ih:=letSum_pos (C:=C) (n:=n) (v:=v) i;have b:=letSum_nn C v n i;have c:=cntTo_bd (refsN C (kidN C n i)) (refsN C (kidN C n i)).length v;unfold letSum letOf;constructor
  ·intro h;by_cases e:kindN C (kidN C n i)=2
   ·rw[if_pos e]at h;by_cases e2:0<cntTo (refsN C (kidN C n i)) (refsN C (kidN C n i)).length v
    ·exact⟨i,Nat.lt_succ_self _,e,cntTo_place.1 e2⟩
    ·obtain⟨j,hj,e3⟩:=ih.1 (by omega);exact⟨j,by omega,e3⟩
   ·rw[if_neg e]at h;obtain⟨j,hj,e3⟩:=ih.1 (by omega);exact⟨j,by omega,e3⟩
  ·rintro⟨j,hj,e,e2⟩;by_cases e3:j=i
   ·subst e3;rw[if_pos e];have:=cntTo_place.2 e2;omega
   ·have:=ih.2 ⟨j,by omega,e,e2⟩;split<;>omega
theorem anyTo_iff {q:Nat->Bool}{n:Int}:anyTo q n=true↔∃ i:Nat,(i:Int)<n/\q i=true:=by
 constructor
 ·intro h;cases hq:anyTo q n with
  | false=>rw[hq]at h;cases h
  | true=>
   apply Classical.byContradiction
   intro hn;rw[anyTo_false (fun i hi=>by
    cases e:q i with
    | false=>rfl
    | true=>exact absurd ⟨i,hi,e⟩ hn)]at hq
   cases hq
 ·rintro⟨i,hi,e⟩;exact anyTo_true hi e
theorem FnOk.scAt_pos {C:VC}(h:FnOk C){n i v:Nat}(hn:n<C.x.nodes.length)(hi:i<nkidN C n):0<scAt C v n (kidN C n i)↔visAt C.x.nodes n (kidN C n i) v=true:=by
 have hp:sPlace (nd C.x.nodes n).kids (kidN C n i:Int)=i:=(h.tree.par hn hi).2;unfold scAt visAt;rw[hp];by_cases hb:bodyKind (kindN C n)=true
 ·rw[if_pos hb];have h1:((nd C.x.nodes n).kind==1)=false:=by
   unfold bodyKind kindN at hb;simp only[Bool.or_eq_true,beq_iff_eq]at hb;rw[beq_eq_false_iff_ne];omega
  rw[h1,Bool.false_and,Bool.false_or];by_cases h6:kindN C n=6
  ·have hr:=h.role (i:=5) hn (by rw[h6];decide);have e:(roleAt 5).r1=0:=rfl;have h7:headKind (nd C.x.nodes n).kind=false:=by unfold kindN at h6;rw[h6];rfl
   rw[h7];have h8:(refsN C n).length=0:=by omega
   rw[h8];simp[cntTo]
  ·have h7:headKind (nd C.x.nodes n).kind=true/\declKind (nd C.x.nodes n).kind=true:=by
    unfold bodyKind at hb;unfold kindN at hb h6;unfold headKind declKind;simp only[Bool.or_eq_true,beq_iff_eq]at hb ⊢;omega
   rw[h7.1,h7.2];by_cases e:(i:Int)+1=nkidN C n
   ·have e':((i:Int)==((nd C.x.nodes n).kids.length:Int)-1)=true:=by
     rw[beq_iff_eq];unfold nkidN at e;omega
    rw[if_pos e,e',cntTo_place];simp[refsN]
   ·have e':((i:Int)==((nd C.x.nodes n).kids.length:Int)-1)=false:=by
     rw[beq_eq_false_iff_ne];unfold nkidN at e;omega
    rw[if_neg e,e'];simp
 ·rw[if_neg hb,show((i:Nat):Int).toNat=i from rfl,letSum_pos];have h7:headKind (nd C.x.nodes n).kind=false:=by
   unfold bodyKind at hb;unfold kindN at hb;unfold headKind;simp only[Bool.or_eq_true,beq_iff_eq]at hb;cases hq:((nd C.x.nodes n).kind==7||(nd C.x.nodes n).kind==8||(nd C.x.nodes n).kind==12)
   ·rfl
   ·simp only[Bool.or_eq_true,beq_iff_eq]at hq;omega
  rw[h7,Bool.false_and,Bool.false_and,Bool.or_false,Bool.and_eq_true,beq_iff_eq,anyTo_iff];constructor
  ·rintro⟨j,hj,e1,e2⟩;refine⟨?_,j,by omega,?_⟩
   ·apply Classical.byContradiction
    intro e3;exact fit_nolet (h.fit n hn) e3 (i:=j) (by unfold nkidN at hi;omega) e1
   ·unfold kindN kidN at e1;unfold refsN kidN at e2;unfold kidI at e1 e2;unfold letAt declKind;rw[e1];simp[e2]
  ·rintro⟨_,j,hj,e⟩;unfold letAt at e;simp only[Bool.and_eq_true,beq_iff_eq,decide_eq_true_eq]at e;exact⟨j,by omega,e.1,e.2.2⟩
theorem FnOk.vis_from {C:VC}(h:FnOk C)(v:Nat):∀ g y,y<C.x.nodes.length->(0<upSum C.x.nodes (if(v:Int)<C.x.params then 1 else 0) (scAt C v) g y↔((v:Int)<C.x.params\/visFrom C.x.nodes v g y=true))
 | 0,y,_=>by
  unfold upSum visFrom;split<;>simp[*]
 | g+1,y,hy=>by
  unfold upSum visFrom;by_cases e:y+1=C.x.nodes.length
  ·have:=h.tree.root e;rw[if_pos (show sPar C.x.nodes y<0 by omega),if_pos (show sPar C.x.nodes y<0 by omega)];by_cases q:(v:Int)<C.x.params
   ·simp[q]
   ·simp[q]
  ·obtain⟨n,i,hn,hi,e1,e2,_,hlt⟩:=h.tree.up (y:=y) (by omega);rw[e2,if_neg (show ¬((n:Int)<0)by omega),if_neg (show ¬((n:Int)<0)by omega),show((n:Nat):Int).toNat=n from rfl];have ih:=FnOk.vis_from h v g n hn;have b:=upSum_bd (ns:=C.x.nodes) (z:=if(v:Int)<C.x.params then 1 else 0) (q:=scAt C v) (B:=209715200) (by split<;>omega) (h.scAt_bd v) g n;have c:=h.scAt_bd v n y;have d:=h.scAt_pos (v:=v) hn (i:=i) hi;unfold kidN at d;rw[e1]at d;rw[Bool.or_eq_true,<-d];constructor
   ·intro q;by_cases q2:0<scAt C v n y
    ·exact .inr (.inl q2)
    ·rcases ih.1 (by omega)with q3 | q3
     ·exact .inl q3
     ·exact .inr (.inr q3)
   ·rintro(q | q | q)
    ·have:=ih.2 (.inl q);omega
    ·omega
    ·have:=ih.2 (.inr q);omega
theorem FnOk.vis {C:VC}(h:FnOk C){p:Nat}(hp:p<C.x.nodes.length)(v:Nat):decide (0<(cxOf C).cnt p v)=sVisible C.x.params C.x.nodes p v:=by
 rw[Bool.eq_iff_iff,decide_eq_true_eq];unfold sVisible;rw[Bool.or_eq_true,decide_eq_true_eq];exact h.vis_from v _ p hp
theorem FnOk.inSc {C:VC}(h:FnOk C){p:Nat}(hp:p<C.x.nodes.length)(r:Int):inSc C ((cxOf C).st p) r=(decide (0<=r)&&decide (r<C.x.vars.length)&&sVisible C.x.params C.x.nodes p r):=by
 unfold _root_.Go.Proofs.YtofcbekoaghikaaGreatDoor.inSc isVar inR;by_cases h0:0<=r
 ·obtain⟨k,rfl⟩:=Int.eq_ofNat_of_zero_le h0;have e:=h.vis hp k;show(decide (0<=(k:Int))&&decide ((k:Int)<=(C.x.vars.length:Int)-1)&&decide (0<(cxOf C).cnt p ((k:Int)).toNat))=_;rw[show((k:Nat):Int).toNat=k from rfl,e,show decide ((k:Int)<=(C.x.vars.length:Int)-1)=decide ((k:Int)<C.x.vars.length)from by rw[decide_eq_decide];omega]
 ·rw[decide_eq_false h0];rfl
theorem FnOk.ups {C:VC}(h:FnOk C){p:Nat}(hp:p<C.x.nodes.length)(us:List (Bool×Int)):upsFits C ((cxOf C).st p) us=sUps C.x p us:=by
 unfold upsFits sUps
 congr 1
 funext i
 generalize us[i]?.getD (false,0)=u;unfold upFits upOk;rw[h.inSc hp];split
 ·rfl
 ·unfold inR
  congr 1
  rw[decide_eq_decide];omega
theorem FnOk.lpAt_pos {C:VC}(h:FnOk C){n i:Nat}(hn:n<C.x.nodes.length)(hi:i<nkidN C n):0<lpAt C n (kidN C n i)↔loopAt C.x.nodes n (kidN C n i)=true:=by
 have hp:sPlace (nd C.x.nodes n).kids (kidN C n i:Int)=i:=(h.tree.par hn hi).2;have hk:=(h.tree.kid hn hi).1;unfold lpAt loopAt;rw[hp,Bool.and_eq_true,beq_iff_eq];have e1:(bodyKind (kindN C n)=true/\kindN C n≠12)↔loopKind (nd C.x.nodes n).kind=true:=by
  unfold bodyKind loopKind kindN;simp only[Bool.or_eq_true,beq_iff_eq];omega
 have e2:(i:Int)+1=nkidN C n↔(nd C.x.nodes n).kids[(nd C.x.nodes n).kids.length-1]?.getD 0=(kidN C n i:Int):=by
  constructor
  ·intro e;have:i=(nd C.x.nodes n).kids.length-1:=by unfold nkidN at e;omega
   rw[<-this];exact hk
  ·intro e;have hl:(nd C.x.nodes n).kids.length-1<(nd C.x.nodes n).kids.length:=by unfold nkidN at hi;omega
   have q:=(h.tree.par hn hl).2;have q1:kidI (nd C.x.nodes n) ((nd C.x.nodes n).kids.length-1)=(kidN C n i:Int):=e;rw[q1,show(((kidN C n i:Nat):Int)).toNat=kidN C n i from rfl,hp]at q;unfold nkidN;unfold nkidN at hi;omega
 constructor
 ·intro q;split at q
  ·rename_i q2;exact⟨e1.1 ⟨q2.1,q2.2.2⟩,e2.1 q2.2.1⟩
  ·exact absurd q (by decide)
 ·rintro⟨q1,q2⟩;rw[if_pos ⟨(e1.2 q1).1,e2.2 q2,(e1.2 q1).2⟩];decide
theorem FnOk.loop_from {C:VC}(h:FnOk C):∀ g y,y<C.x.nodes.length->(0<upSum C.x.nodes 0 (lpAt C) g y↔inloopFrom C.x.nodes g y=true)
 | 0,y,_=>by unfold upSum inloopFrom;simp
 | g+1,y,hy=>by
  unfold upSum inloopFrom;by_cases e:y+1=C.x.nodes.length
  ·have:=h.tree.root e;rw[if_pos (by omega),if_pos (by omega)];simp
  ·obtain⟨n,i,hn,hi,e1,e2,_,hlt⟩:=h.tree.up (y:=y) (by omega);rw[e2,if_neg (show ¬((n:Int)<0)by omega),if_neg (show ¬((n:Int)<0)by omega),show((n:Nat):Int).toNat=n from rfl];have ih:=FnOk.loop_from h g n hn;have bq:∀ a b,0<=lpAt C a b/\lpAt C a b<=1:=fun a b=>by unfold lpAt;split<;>omega
   have b:=upSum_bd (ns:=C.x.nodes) (z:=0) (q:=lpAt C) (B:=1) (by omega) bq g n;have c:=bq n y;have d:=h.lpAt_pos hn (i:=i) hi;unfold kidN at d;rw[e1]at d;rw[Bool.or_eq_true,<-d,<-ih];omega
theorem FnOk.loop {C:VC}(h:FnOk C){p:Nat}(hp:p<C.x.nodes.length):(cxOf C).lps p=0↔sInloop C.x.nodes p=false:=by
 have q:=h.loop_from C.x.nodes.length p hp;have bq:∀ a b,0<=lpAt C a b/\lpAt C a b<=1:=fun a b=>by unfold lpAt;split<;>omega
 have b:=upSum_bd (ns:=C.x.nodes) (z:=0) (q:=lpAt C) (B:=1) (by omega) bq C.x.nodes.length p;show upSum _ _ _ _ _=0↔_;unfold sInloop;cases e:inloopFrom C.x.nodes C.x.nodes.length p
 ·rw[e]at q;have:=mt q.1 (by decide);simp;omega
 ·have:=q.2 e;simp;omega
theorem site_inj {a b c d:Nat}(h:siteV a b=siteV c d):a=c/\b=d:=by unfold siteV at h;simp at h;omega
def mkFn (x:FnD)(f:Nat)(m:Int->Option (Nat×Nat)):Nat->Int->Option (Nat×Nat)
 | 0=>m
 | p+1=>if(nd x.nodes p).kind=36/\mkFn x f m p (ref0 (nd x.nodes p))=none then(fun k=>if k=ref0 (nd x.nodes p)then some (f,p)else mkFn x f m p k)else mkFn x f m p
def mkUpto (l:List FnD):Nat->Int->Option (Nat×Nat)
 | 0=>fun _=>none
 | f+1=>mkFn (fnD l f) f (mkUpto l f) (fnD l f).nodes.length
def mkAt (l:List FnD)(f p:Nat):Int->Option (Nat×Nat):=mkFn (fnD l f) f (mkUpto l f) p
def mkAll (l:List FnD):Int->Option (Nat×Nat):=mkUpto l l.length
theorem mkFn_made {x:FnD}{f:Nat}{m:Int->Option (Nat×Nat)}{q:Nat->Bool}(h:∀ g:Nat,(m g).isSome=q g):∀ p (g:Nat),(mkFn x f m p g).isSome=madeFn x q p g
 | 0,g=>h g
 | p+1,g=>by
  have ih:=mkFn_made (x:=x) (f:=f) h p g;unfold mkFn madeFn;by_cases hk:(nd x.nodes p).kind=36
  ·rw[if_pos hk];by_cases hn:mkFn x f m p (ref0 (nd x.nodes p))=none
   ·rw[if_pos ⟨hk,hn⟩];by_cases e:(g:Int)=ref0 (nd x.nodes p)
    ·rw[if_pos e,decide_eq_true e.symm];simp
    ·rw[if_neg e,ih,decide_eq_false (fun q=>e q.symm)];simp
   ·rw[if_neg (fun q=>hn q.2)];by_cases e:(g:Int)=ref0 (nd x.nodes p)
    ·rw[decide_eq_true e.symm,e];have hn:=Option.isSome_iff_ne_none.2 hn;rw[hn];simp
    ·rw[ih,decide_eq_false (fun q=>e q.symm)];simp
  ·rw[if_neg hk,if_neg (fun q=>hk q.1)];exact ih
theorem mkUpto_made (l:List FnD):∀ f (g:Nat),(mkUpto l f g).isSome=madeUpto l f g
 | 0,_=>rfl
 | f+1,g=>mkFn_made (mkUpto_made l f) _ g
theorem mkAt_made (l:List FnD)(f p g:Nat):(mkAt l f p g).isSome=madeAt l f p g:=mkFn_made (mkUpto_made l f) p g
theorem mkFn_keep {x:FnD}{f:Nat}{m:Int->Option (Nat×Nat)}{k:Int}{s:Nat×Nat}:∀(d p:Nat),mkFn x f m p k=some s->mkFn x f m (p+d) k=some s
 | 0,_,h=>h
 | d+1,p,h=>by
  have ih:=mkFn_keep d p h;show(if _ then _ else _:Int->Option (Nat×Nat)) k=_;split
  ·rename_i q;simp only;rw[if_neg (fun e=>by rw[e]at ih;have q2:some s=none:=ih.symm.trans q.2;cases q2)];exact ih
  ·exact ih
theorem mkUpto_keep {l:List FnD}{k:Int}{s:Nat×Nat}:∀(d f:Nat),mkUpto l f k=some s->mkUpto l (f+d) k=some s
 | 0,_,h=>h
 | d+1,f,h=>by
  have ih:=mkUpto_keep d f h;show mkFn (fnD l (f+d)) (f+d) (mkUpto l (f+d)) _ k=_;have:=mkFn_keep (x:=fnD l (f+d)) (f:=f+d) (m:=mkUpto l (f+d)) (fnD l (f+d)).nodes.length 0 ih;rw[Nat.zero_add]at this;exact this
theorem mkAt_all {l:List FnD}{f p:Nat}{k:Int}{s:Nat×Nat}(hf:f<l.length)(hp:p<=(fnD l f).nodes.length)(h:mkAt l f p k=some s):mkAll l k=some s:=by
 have h1:=mkFn_keep ((fnD l f).nodes.length-p) p h;rw[show p+((fnD l f).nodes.length-p)=(fnD l f).nodes.length by omega]at h1;have h2:mkUpto l (f+1) k=some s:=h1;have h3:=mkUpto_keep (l.length-(f+1)) (f+1) h2;rw[show f+1+(l.length-(f+1))=l.length by omega]at h3;exact h3
theorem mkFn_early {x:FnD}{f:Nat}{m:Int->Option (Nat×Nat)}(hm:∀ k s,m k=some s->s.1<f):∀ p k s,mkFn x f m p k=some s->s.1<f\/s.1=f/\s.2<p
 | 0,k,s,h=>.inl (hm k s h)
 | p+1,k,s,h=>by
  have ih:=mkFn_early (x:=x) hm p k s;unfold mkFn at h;split at h
  ·simp only at h;split at h
   ·cases h;exact .inr ⟨rfl,Nat.lt_succ_self _⟩
   ·rcases ih h with q | q<;>omega
  ·rcases ih h with q | q<;>omega
theorem mkUpto_early {l:List FnD}:∀ f k s,mkUpto l f k=some s->s.1<f
 | 0,_,_,h=>by cases h
 | f+1,k,s,h=>by rcases mkFn_early (mkUpto_early f) _ k s h with q | q<;>omega
theorem mk_of {l:List FnD}{f p:Nat}(hf:f<l.length)(hp:p<(fnD l f).nodes.length)(hk:(nd (fnD l f).nodes p).kind=36) :
  ∃ s,mkAll l (ref0 (nd (fnD l f).nodes p))=some s/\(0<=ref0 (nd (fnD l f).nodes p)->(¬(s.1=f/\s.2=p)↔madeAt l f p (ref0 (nd (fnD l f).nodes p)).toNat=true)):=by
 have hm:=mkAt_made l f p (ref0 (nd (fnD l f).nodes p)).toNat;cases hq:mkAt l f p (ref0 (nd (fnD l f).nodes p))with
 | none=>
  have h1:mkAt l f (p+1) (ref0 (nd (fnD l f).nodes p))=some (f,p):=by
   show(if _ then _ else _:Int->Option (Nat×Nat)) _=_;rw[if_pos ⟨hk,hq⟩];simp
  refine⟨(f,p),mkAt_all hf (by omega) h1,fun h0=>?_⟩;rw[show(((ref0 (nd (fnD l f).nodes p)).toNat:Nat):Int)=ref0 (nd (fnD l f).nodes p)by omega,hq]at hm;rw[<-hm];simp
 | some s=>
  refine⟨s,mkAt_all hf (by omega) hq,fun h0=>?_⟩;rw[show(((ref0 (nd (fnD l f).nodes p)).toNat:Nat):Int)=ref0 (nd (fnD l f).nodes p)by omega,hq]at hm;rw[<-hm];have:=mkFn_early (mkUpto_early f) p _ s hq;simp;omega
def mkV (l:List FnD)(k:Int):Option Value:=(mkAll l k).map fun s=>siteV s.1 s.2
theorem FnOk.noRefs {C:VC}(h:FnOk C){p:Nat}(hp:p<C.x.nodes.length)(hd:declKind (kindN C p)=false)(h1:kindN C p≠26)(h2:kindN C p≠27)(h3:kindN C p≠36):(refsN C p).length=0:=by
 have hfit:=h.fit p hp;unfold nodeFits at hfit;split at hfit
 ·cases hfit
 ·rename_i i hi;have hr:=h.role hp hi;obtain⟨hi33,hk⟩:=roleIx_lt _ _ _ hi;have key:∀ i,i<33->declKind (roleAt i).kind=false->(roleAt i).kind≠26->(roleAt i).kind≠27->(roleAt i).kind≠36->(roleAt i).r1=0:=by decide
  have hk':(roleAt i).kind=kindN C p:=hk;have:=key i hi33 (by rw[hk'];exact hd) (by rw[hk'];exact h1) (by rw[hk'];exact h2) (by rw[hk'];exact h3);omega
def declBad (x:FnD)(p:Nat):Bool:=declKind (nd x.nodes p).kind && !(allFrom (refGood x.vars.length (seenAt x p) (nd x.nodes p).refs) 0 (nd x.nodes p).refs.length)
def DeclFirst (x:FnD)(p:Nat):Prop:=p<x.nodes.length/\declBad x p=true/\∀ q,q<p->declBad x q=false
theorem declFirst_of {x:FnD}:∀ p,p<x.nodes.length->declBad x p=true->∃ q,q<=p/\DeclFirst x q:=by
 intro p
 induction p using Nat.strongRecOn with
 | ind p ih=>
  intro hp hb;by_cases e:∃ q,q<p/\declBad x q=true
  ·obtain⟨q,hq,hb2⟩:=e;obtain⟨r,hr,hd⟩:=ih q hq (by omega) hb2;exact⟨r,by omega,hd⟩
  ·refine⟨p,Nat.le_refl _,hp,hb,fun q hq=>?_⟩;cases h:declBad x q with
   | false=>rfl
   | true=>exact absurd ⟨q,hq,h⟩ e
def FnBad (C:VC)(c:Int)(p:Nat):Prop:=bad C (cxOf C) c p\/(c=6/\DeclFirst C.x p)
theorem declKind_cases {k:Int}(h:declKind k=true):k=2\/k=7\/k=8\/k=12:=by
 unfold declKind at h;simp only[Bool.or_eq_true,beq_iff_eq]at h;omega
theorem fnBad_deep {C:VC}{p:Nat}:FnBad C 5 p↔deepBad C.l C.f p=true:=by
 unfold FnBad bad deepBad;rw[decide_eq_true_eq];constructor
 ·rintro((⟨_,q⟩ | ⟨q,_⟩ | ⟨q,_⟩ | ⟨q,_⟩ | ⟨q,_⟩ | ⟨q,_⟩ | ⟨q,_⟩) | ⟨q,_⟩)
  ·exact q
  all_goals exact absurd q (by decide)
 ·intro q;exact .inl (.inl ⟨rfl,q⟩)
theorem FnOk.breaks {C:VC}(h:FnOk C){p:Nat}(hp:p<C.x.nodes.length):FnBad C 7 p↔breakBad C.l C.f p=true:=by
 unfold FnBad bad breakBad;rw[Bool.and_eq_true,Bool.or_eq_true,beq_iff_eq,beq_iff_eq,Bool.not_eq_true'];constructor
 ·rintro((⟨q,_⟩ | ⟨_,q,q2⟩ | ⟨q,_⟩ | ⟨q,_⟩ | ⟨q,_⟩ | ⟨q,_⟩ | ⟨q,_⟩) | ⟨q,_⟩)
  ·exact absurd q (by decide)
  ·exact⟨q,(h.loop hp).1 q2⟩
  all_goals exact absurd q (by decide)
 ·rintro⟨q,q2⟩;exact .inl (.inr (.inl ⟨rfl,q,(h.loop hp).2 q2⟩))
theorem FnOk.refs6 {C:VC}(h:FnOk C){p:Nat}(hp:p<C.x.nodes.length):FnBad C 6 p->refsBad C.l C.f p=true:=by
 have e26:kindN C p=26->refsBad C.l C.f p=!(decide (0<=ref0 (nd C.x.nodes p))&&decide (ref0 (nd C.x.nodes p)<C.x.vars.length)&&sVisible C.x.params C.x.nodes p (ref0 (nd C.x.nodes p))):=fun e=>by
  unfold refsBad sRefs;have e:(nd (fnD C.l C.f).nodes p).kind=26:=e;simp only[e];rfl
 have e27:kindN C p=27->refsBad C.l C.f p=!(decide (0<=ref0 (nd C.x.nodes p))&&decide (ref0 (nd C.x.nodes p)<C.x.ups.length)):=fun e=>by
  unfold refsBad sRefs;have e:(nd (fnD C.l C.f).nodes p).kind=27:=e;simp only[e];rfl
 have e36:kindN C p=36->refsBad C.l C.f p=!(decide (0<=ref0 (nd C.x.nodes p))&&decide (ref0 (nd C.x.nodes p)<C.l.length)):=fun e=>by
  unfold refsBad sRefs;have e:(nd (fnD C.l C.f).nodes p).kind=36:=e;simp only[e];rfl
 rintro((⟨q,_⟩ | ⟨q,_⟩ | ⟨_,q,q2⟩ | ⟨_,q,q2⟩ | ⟨q,_⟩ | ⟨_,q,q2⟩ | ⟨q,_⟩) | ⟨_,q⟩)
 ·exact absurd q (by decide)
 ·exact absurd q (by decide)
 ·rw[e26 q,<-h.inSc hp,q2];rfl
 ·rw[e27 q];unfold inR at q2;rw[show decide (ref0 (nd C.x.nodes p)<(C.x.ups.length:Int))=decide (ref0 (nd C.x.nodes p)<=(C.x.ups.length:Int)-1)from by rw[decide_eq_decide];omega,q2];rfl
 ·exact absurd q (by decide)
 ·rw[e36 q];unfold inR at q2;rw[show decide (ref0 (nd C.x.nodes p)<(C.l.length:Int))=decide (ref0 (nd C.x.nodes p)<=(C.l.length:Int)-1)from by rw[decide_eq_decide];omega,q2];rfl
 ·exact absurd q (by decide)
 ·have q1:=q.2.1;unfold declBad at q1;rw[Bool.and_eq_true]at q1;have hk:=declKind_cases q1.1;unfold refsBad sRefs;simp only;have q2:=q1.2;unfold VC.x at hk q2;rw[if_neg (by omega),if_neg (by omega),if_neg (by omega)];exact q2
theorem FnOk.refs6' {C:VC}(h:FnOk C){p:Nat}(hp:p<C.x.nodes.length)(hb:refsBad C.l C.f p=true):∃ q,q<=p/\FnBad C 6 q:=by
 unfold refsBad sRefs at hb;simp only at hb;by_cases k27:(nd (fnD C.l C.f).nodes p).kind=27
 ·rw[if_pos k27]at hb;refine⟨p,Nat.le_refl _,.inl (.inr (.inr (.inr (.inl ⟨rfl,k27,?_⟩))))⟩;unfold inR;rw[Bool.not_eq_true']at hb;rw[<-hb]
  congr 1
  rw[decide_eq_decide];show _↔ref0 (nd (fnD C.l C.f).nodes p)<((fnD C.l C.f).ups.length:Int);unfold VC.x;omega
 rw[if_neg k27]at hb;by_cases k36:(nd (fnD C.l C.f).nodes p).kind=36
 ·rw[if_pos k36]at hb;refine⟨p,Nat.le_refl _,.inl (.inr (.inr (.inr (.inr (.inr (.inl ⟨rfl,k36,?_⟩))))))⟩;unfold inR;rw[Bool.not_eq_true']at hb;rw[<-hb]
  congr 1
  rw[decide_eq_decide];unfold VC.x;omega
 rw[if_neg k36]at hb;by_cases k26:(nd (fnD C.l C.f).nodes p).kind=26
 ·rw[if_pos k26]at hb;refine⟨p,Nat.le_refl _,.inl (.inr (.inr (.inl ⟨rfl,k26,?_⟩)))⟩;rw[h.inSc hp];rw[Bool.not_eq_true']at hb;exact hb
 rw[if_neg k26]at hb;by_cases hd:declKind (nd (fnD C.l C.f).nodes p).kind=true
 ·have:declBad C.x p=true:=by unfold declBad;rw[Bool.and_eq_true];exact⟨hd,hb⟩
  obtain⟨q,hq,hf⟩:=declFirst_of p hp this;exact⟨q,hq,.inr ⟨rfl,hf⟩⟩
 ·exfalso
  have hd:declKind (kindN C p)=false:=by
   cases e:declKind (kindN C p)with
   | false=>rfl
   | true=>exact absurd e hd
  have:=h.noRefs hp hd k26 k27 k36;have e:(nd (fnD C.l C.f).nodes p).refs.length=0:=this;rw[e,allFrom_z]at hb;cases hb
theorem FnOk.fns {C:VC}(h:FnOk C){p:Nat}(hp:p<C.x.nodes.length)(hf:C.f<C.l.length)(hM:∀ k,C.M k=mkV C.l k)(hok:refsBad C.l C.f p=false):FnBad C 8 p↔fnBad C.l C.f p=true:=by
 unfold fnBad;rw[Bool.or_eq_true,Bool.and_eq_true,Bool.and_eq_true,beq_iff_eq,beq_iff_eq];constructor
 ·rintro((⟨q,_⟩ | ⟨q,_⟩ | ⟨q,_⟩ | ⟨q,_⟩ | ⟨_,q,q2⟩ | ⟨q,_⟩ | ⟨_,q,q2,f',n',q3,q4⟩) | ⟨q,_⟩)
  ·exact absurd q (by decide)
  ·exact absurd q (by decide)
  ·exact absurd q (by decide)
  ·exact absurd q (by decide)
  ·refine .inl ⟨q,?_⟩;have q2:(fnD C.l C.f).rest=false:=q2;rw[q2];rfl
  ·exact absurd q (by decide)
  ·refine .inr ⟨q,?_⟩;obtain⟨s,hs,hmk⟩:=mk_of hf hp q;unfold inR at q2;rw[Bool.and_eq_true,decide_eq_true_eq,decide_eq_true_eq]at q2;have hmk:=hmk q2.1;rw[hM]at q3;unfold mkV at q3;rw[show ref0 (nd C.x.nodes p)=ref0 (nd (fnD C.l C.f).nodes p)from rfl,hs]at q3;have q3:siteV s.1 s.2=siteV f' n':=by simpa using q3
   have q5:=site_inj q3;rw[Bool.or_eq_true,Bool.or_eq_true,decide_eq_true_eq];rcases q4 with q4 | q4 | q4
   ·exact .inl (.inl q4)
   ·refine .inl (.inr (hmk.1 ?_));rw[q5.1,q5.2];exact q4
   ·refine .inr ?_;rw[h.ups hp]at q4;have q4:sUps (fnD C.l C.f) p (fnD C.l (ref0 (nd (fnD C.l C.f).nodes p)).toNat).ups=false:=q4;rw[q4];rfl
  ·exact absurd q (by decide)
 ·rintro(⟨q,q2⟩ | ⟨q,q2⟩)
  ·refine .inl (.inr (.inr (.inr (.inr (.inl ⟨rfl,q,?_⟩)))));rw[Bool.not_eq_true']at q2;exact q2
  ·refine .inl (.inr (.inr (.inr (.inr (.inr (.inr ⟨rfl,q,?_⟩))))));have hin:inR (ref0 (nd C.x.nodes p)) 0 ((C.l.length:Int)-1)=true:=by
    unfold refsBad sRefs at hok;simp only at hok;rw[if_neg (by omega),if_pos q,Bool.not_eq_false',Bool.and_eq_true,decide_eq_true_eq,decide_eq_true_eq]at hok;unfold inR VC.x;rw[Bool.and_eq_true,decide_eq_true_eq,decide_eq_true_eq];omega
   obtain⟨s,hs,hmk⟩:=mk_of hf hp q;have h0:0<=ref0 (nd (fnD C.l C.f).nodes p):=by
    unfold inR at hin;rw[Bool.and_eq_true,decide_eq_true_eq]at hin;exact hin.1
   have hmk:=hmk h0;refine⟨hin,s.1,s.2,?_,?_⟩
   ·rw[hM];unfold mkV;rw[show ref0 (nd C.x.nodes p)=ref0 (nd (fnD C.l C.f).nodes p)from rfl,hs];rfl
   ·rw[Bool.or_eq_true,Bool.or_eq_true,decide_eq_true_eq]at q2;rcases q2 with(q2 | q2) | q2
    ·exact .inl q2
    ·exact .inr (.inl (hmk.2 q2))
    ·refine .inr (.inr ?_);rw[h.ups hp];rw[Bool.not_eq_true']at q2;exact q2
def vc0 (l:List FnD)(f:Nat):VC:=⟨0,0,0,0,none,0,l,f,⟨none,0,none,0,none,0⟩,fun _=>False,mkV l⟩
def FBad (l:List FnD)(c f p:Int):Prop:=∃ F P:Nat,f=F/\p=P/\F<l.length/\P<(fnD l F).nodes.length/\FnBad (vc0 l F) c P
theorem fnBad_code {C:VC}{c:Int}{p:Nat}(h:FnBad C c p):c=5\/c=6\/c=7\/c=8:=by
 rcases h with(⟨q,_⟩ | ⟨q,_⟩ | ⟨q,_⟩ | ⟨q,_⟩ | ⟨q,_⟩ | ⟨q,_⟩ | ⟨q,_⟩) | ⟨q,_⟩<;>omega
theorem first_of {l:List FnD}{bad:Nat->Nat->Bool}{F P:Nat}(h1:F<l.length)(h2:P<(fnD l F).nodes.length)(h3:bad F P=true)
  (h4:∀ f' p',f'<l.length->p'<(fnD l f').nodes.length->bad f' p'=true->F<f'\/F=f'/\P<=p'):First l bad F P:=
 ⟨h1,h2,h3,fun f' p' a b c=>by
  cases e:bad f' p' with
  | false=>rfl
  | true=>have:=h4 f' p' a b e;omega⟩
theorem noBad_of {l:List FnD}{bad:Nat->Nat->Bool}(h:∀ f' p',f'<l.length->p'<(fnD l f').nodes.length->bad f' p'=true->False):NoBad l bad:=fun f p a b=>by
 cases e:bad f p with
 | false=>rfl
 | true=>exact(h f p a b e).elim
def TreesSaid (l:List FnD)(x f n:Int):Prop:=
 (x=0/\f=0/\n=0/\NoBad l (deepBad l)/\NoBad l (refsBad l)/\NoBad l (breakBad l)/\NoBad l (fnBad l)) \/
 (x=5/\∃ F P:Nat,f=F/\n=P/\First l (deepBad l) F P) \/
 (x=6/\NoBad l (deepBad l)/\∃ F P:Nat,f=F/\n=P/\First l (refsBad l) F P) \/
 (x=7/\NoBad l (deepBad l)/\NoBad l (refsBad l)/\∃ F P:Nat,f=F/\n=P/\First l (breakBad l) F P) \/
 (x=8/\NoBad l (deepBad l)/\NoBad l (refsBad l)/\NoBad l (breakBad l)/\∃ F P:Nat,f=F/\n=P/\First l (fnBad l) F P)
theorem fnOk_of {C:VC}(hs:Shaped C.l)(hp:NoBad C.l (parentBad C.l))(hf:C.f<C.l.length)(hr:∀ f p,(nd (fnD C.l f).nodes p).refs.length<=1048576):FnOk C where
 tree:=tree_of hs hp hf
 fit:=fun p h=>hs.fit hf h (by have:=hr C.f p;omega)
 refs:=fun p=>hr C.f p
theorem trees_said {l:List FnD}(hs:Shaped l)(hp:NoBad l (parentBad l))(hr:∀ f p,(nd (fnD l f).nodes p).refs.length<=1048576){s:VS}(h:Least (FBad l) s):TreesSaid l s.lc s.lf s.ln:=by
 have ok:∀ F,F<l.length->FnOk (vc0 l F):=fun F hF=>fnOk_of (C:=vc0 l F) hs hp hF hr;have d5:∀ F P,F<l.length->P<(fnD l F).nodes.length->deepBad l F P=true->FBad l 5 F P:=fun F P h1 h2 e=>⟨F,P,rfl,rfl,h1,h2,fnBad_deep.2 e⟩;have d6:∀ F P,F<l.length->P<(fnD l F).nodes.length->refsBad l F P=true->∃ q:Nat,q<=P/\FBad l 6 F q:=fun F P h1 h2 e=>by
  obtain⟨q,hq,hb⟩:=(ok F h1).refs6' (C:=vc0 l F) (p:=P) h2 e;exact⟨q,hq,F,q,rfl,rfl,h1,Nat.lt_of_le_of_lt hq h2,hb⟩
 have d7:∀ F P,F<l.length->P<(fnD l F).nodes.length->breakBad l F P=true->FBad l 7 F P:=fun F P h1 h2 e=>⟨F,P,rfl,rfl,h1,h2,((ok F h1).breaks (C:=vc0 l F) h2).2 e⟩;have d8:NoBad l (refsBad l)->∀ F P,F<l.length->P<(fnD l F).nodes.length->fnBad l F P=true->FBad l 8 F P:=fun hn F P h1 h2 e=>
  ⟨F,P,rfl,rfl,h1,h2,((ok F h1).fns (C:=vc0 l F) h2 h1 (fun _=>rfl) (hn F P h1 h2)).2 e⟩
 unfold TreesSaid;rcases h with⟨e1,e2,e3,hno⟩ | ⟨e0,⟨F,P,e1,e2,hF,hP,hb⟩,hmin⟩
 ·have n6:NoBad l (refsBad l):=noBad_of fun f' p' a b e=>by obtain⟨q,_,hq⟩:=d6 f' p' a b e;exact hno _ _ _ hq
  exact .inl ⟨e1,e2,e3,noBad_of fun f' p' a b e=>hno _ _ _ (d5 f' p' a b e),n6,noBad_of fun f' p' a b e=>hno _ _ _ (d7 f' p' a b e),noBad_of fun f' p' a b e=>hno _ _ _ (d8 n6 f' p' a b e)⟩
 ·have n5:s.lc≠5->NoBad l (deepBad l):=fun hc=>noBad_of fun f' p' a b e=>by
   have:=hmin _ _ _ (d5 f' p' a b e);have:=fnBad_code hb;unfold lexle at *;omega
  have n6:s.lc≠5->s.lc≠6->NoBad l (refsBad l):=fun hc hc2=>noBad_of fun f' p' a b e=>by
   obtain⟨q,_,hq⟩:=d6 f' p' a b e;have:=hmin _ _ _ hq;have:=fnBad_code hb;unfold lexle at *;omega
  have n7:s.lc=8->NoBad l (breakBad l):=fun hc=>noBad_of fun f' p' a b e=>by
   have:=hmin _ _ _ (d7 f' p' a b e);unfold lexle at *;omega
  rcases fnBad_code hb with c | c | c | c
  ·refine .inr (.inl ⟨c,F,P,e1,e2,first_of hF hP ?_ fun f' p' a b e=>?_⟩)
   ·rw[c]at hb;exact fnBad_deep.1 hb
   ·have:=hmin _ _ _ (d5 f' p' a b e);unfold lexle at this;omega
  ·refine .inr (.inr (.inl ⟨c,n5 (by omega),F,P,e1,e2,first_of hF hP ?_ fun f' p' a b e=>?_⟩))
   ·rw[c]at hb;exact(ok F hF).refs6 (C:=vc0 l F) hP hb
   ·obtain⟨q,hq,hq2⟩:=d6 f' p' a b e;have:=hmin _ _ _ hq2;unfold lexle at this;omega
  ·refine .inr (.inr (.inr (.inl ⟨c,n5 (by omega),n6 (by omega) (by omega),F,P,e1,e2,first_of hF hP ?_ fun f' p' a b e=>?_⟩)))
   ·rw[c]at hb;exact((ok F hF).breaks (C:=vc0 l F) hP).1 hb
   ·have:=hmin _ _ _ (d7 f' p' a b e);unfold lexle at this;omega
  ·have hn6:=n6 (by omega) (by omega);refine .inr (.inr (.inr (.inr ⟨c,n5 (by omega),hn6,n7 c,F,P,e1,e2,first_of hF hP ?_ fun f' p' a b e=>?_⟩)))
   ·rw[c]at hb;exact((ok F hF).fns (C:=vc0 l F) hP hF (fun _=>rfl) (hn6 F P hF hP)).1 hb
   ·have:=hmin _ _ _ (d8 hn6 f' p' a b e);unfold lexle at this;omega
theorem lexle.trans {a b c a' b' c' a2 b2 c2:Int}(h:lexle a b c a' b' c')(k:lexle a' b' c' a2 b2 c2):lexle a b c a2 b2 c2:=by unfold lexle at *;omega
theorem Least.drop {F X:Int->Int->Int->Prop}{s:VS}(h:Least (fun c f n=>F c f n\/X c f n) s)(hX:∀ c f n,X c f n->∃ c' f' n',F c' f' n'/\lexle c' f' n' c f n):Least F s:=by
 rcases h with⟨a,b,c,d⟩ | ⟨a,b,d⟩
 ·exact .inl ⟨a,b,c,fun x y z q=>d x y z (.inl q)⟩
 ·refine .inr ⟨a,?_,fun x y z q=>d x y z (.inl q)⟩;rcases b with b | b
  ·exact b
  ·obtain⟨c',f',n',q1,q2⟩:=hX _ _ _ b;have q3:=d _ _ _ (.inl q1);have:c'=s.lc/\f'=s.lf/\n'=s.ln:=by unfold lexle at q2 q3;omega
   rw[<-this.1,<-this.2.1,<-this.2.2];exact q1
def Told (C:VC)(F:Int->Int->Int->Prop)(p0:Nat)(c f n:Int):Prop:=F c f n\/(c=6/\f=C.f/\n=p0)
def St2 (C:VC)(F:Int->Int->Int->Prop)(k:Nat)(dec:Nat->Int)(s:VS):Prop:=
 ((∀ q,q<k->declBad C.x q=false)/\(∀ j,j<C.x.vars.length->dec j=if seenAt C.x k j then 1 else 0)/\Least F s) \/
 (∃ p0,p0<k/\DeclFirst C.x p0/\Least (Told C F p0) s)
def St3 (C:VC)(F:Int->Int->Int->Prop)(p q:Nat)(dec:Nat->Int)(s:VS):Prop:=
 ((∀ q,q<p->declBad C.x q=false)/\(∀ r,r<q->refGood C.x.vars.length (seenAt C.x p) (refsN C p) r=true) /\
  (∀ j,j<C.x.vars.length->dec j=if seenTo (seenAt C.x p) (refsN C p) q j then 1 else 0)/\Least F s) \/
 (∃ p0,p0<p/\DeclFirst C.x p0/\Least (Told C F p0) s)
theorem St2.begin {C:VC}{F:Int->Int->Int->Prop}{dec:Nat->Int}{s:VS}(hL:Least F s)(hd:∀ j,j<C.x.vars.length->dec j=if(j:Int)<C.x.params then 1 else 0):St2 C F 0 dec s:=
 .inl ⟨fun q h=>absurd h (Nat.not_lt_zero _),fun j hj=>by
  rw[hd j hj];show _=if decide ((j:Int)<C.x.params)=true then(1:Int)else 0;by_cases e:(j:Int)<C.x.params
  ·rw[if_pos e,if_pos (decide_eq_true e)]
  ·rw[if_neg e,if_neg (by rw[decide_eq_false e];decide)],hL⟩
theorem St2.finish {C:VC}{F:Int->Int->Int->Prop}{dec:Nat->Int}{s:VS}(h:St2 C F C.x.nodes.length dec s):Least (fun c f n=>F c f n\/(c=6/\f=C.f/\∃ p:Nat,n=p/\DeclFirst C.x p)) s:=by
 rcases h with⟨h1,_,hL⟩ | ⟨p0,hp0,hd,hL⟩
 ·refine hL.congr (fun c f n=>⟨fun q=>q.elim id (fun q=>?_),.inl⟩) rfl rfl rfl;obtain⟨_,_,p,_,q1,q2,_⟩:=q;rw[h1 p q1]at q2;cases q2
 ·refine hL.congr (fun c f n=>⟨fun q=>q.elim .inl (fun q=>?_),fun q=>q.elim .inl (fun q=>.inr ⟨q.1,q.2.1,p0,q.2.2,hd⟩)⟩) rfl rfl rfl;obtain⟨q1,q2,p,q3,q4⟩:=q;refine .inr ⟨q1,q2,?_⟩;have e:p=p0:=by
   rcases Nat.lt_trichotomy p p0 with c | c | c
   ·have:=hd.2.2 p c;rw[q4.2.1]at this;cases this
   ·exact c
   ·have:=q4.2.2 p0 c;rw[hd.2.1]at this;cases this
  rw[q3,e]
theorem St2.skip {C:VC}(h:FnOk C){F:Int->Int->Int->Prop}{p:Nat}{dec:Nat->Int}{s:VS}(hp:p<C.x.nodes.length)(hd:declKind (kindN C p)=false)(hs:St2 C F p dec s):St2 C F (p+1) dec s:=by
 rcases hs with⟨h1,h2,hL⟩ | ⟨p0,hp0,hd0,hL⟩
 ·have hd':declKind (nd C.x.nodes p).kind=false:=hd;refine .inl ⟨fun q hq=>?_,fun j hj=>?_,hL⟩
  ·by_cases e:q=p
   ·subst e;unfold declBad;rw[hd'];rfl
   ·exact h1 q (by omega)
  ·rw[h2 j hj];have e:seenAt C.x (p+1)=seenAt C.x p:=by
    show sSeen C.x p (seenAt C.x p)=_;unfold sSeen;simp only;split
    ·rfl
    ·rename_i hk;have:=h.noRefs hp hd (fun e=>hk (.inr (.inr e))) (fun e=>hk (.inl e)) (fun e=>hk (.inr (.inl e)));have e2:(nd C.x.nodes p).refs.length=0:=this;rw[e2];rfl
   rw[e]
 ·exact .inr ⟨p0,by omega,hd0,hL⟩
theorem St2.into {C:VC}{F:Int->Int->Int->Prop}{p:Nat}{dec:Nat->Int}{s:VS}(hs:St2 C F p dec s):St3 C F p 0 dec s:=by
 rcases hs with⟨h1,h2,hL⟩ | h
 ·exact .inl ⟨h1,fun r h=>absurd h (Nat.not_lt_zero _),h2,hL⟩
 ·exact .inr h
theorem St3.out {C:VC}{F:Int->Int->Int->Prop}{p:Nat}{dec:Nat->Int}{s:VS}(hd:declKind (kindN C p)=true)(hs:St3 C F p (refsN C p).length dec s):St2 C F (p+1) dec s:=by
 have hd':declKind (nd C.x.nodes p).kind=true:=hd;have hk:=declKind_cases hd';rcases hs with⟨h1,h2,h3,hL⟩ | ⟨p0,hp0,hd0,hL⟩
 ·refine .inl ⟨fun q hq=>?_,fun j hj=>?_,hL⟩
  ·by_cases e:q=p
   ·subst e;have e2:allFrom (refGood C.x.vars.length (seenAt C.x q) (nd C.x.nodes q).refs) 0 (nd C.x.nodes q).refs.length=true:=allFrom_true (fun i _ hi=>h2 i hi);unfold declBad;rw[hd',e2];rfl
   ·exact h1 q (by omega)
  ·rw[h3 j hj];have e:seenAt C.x (p+1)=seenTo (seenAt C.x p) (refsN C p) (refsN C p).length:=by
    show sSeen C.x p (seenAt C.x p)=_;unfold sSeen;simp only;rw[if_neg (by omega)];rfl
   rw[e]
 ·exact .inr ⟨p0,by omega,hd0,hL⟩
theorem St3.good {C:VC}{F:Int->Int->Int->Prop}{p q r:Nat}{dec dec':Nat->Int}{s:VS}(hs:St3 C F p q dec s)(hr:(refsN C p)[q]?.getD 0=(r:Int))(hv:r<C.x.vars.length)(h0:¬0<dec r)(hd:∀ j,j<C.x.vars.length->dec' j=if j=r then 1 else dec j):St3 C F p (q+1) dec' s:=by
 rcases hs with⟨h1,h2,h3,hL⟩ | h
 ·have hseen:seenTo (seenAt C.x p) (refsN C p) q r=false:=by
   have:=h3 r hv;cases e:seenTo (seenAt C.x p) (refsN C p) q r with
   | false=>rfl
   | true=>rw[e]at this;simp at this;omega
  refine .inl ⟨h1,fun x hx=>?_,fun j hj=>?_,hL⟩
  ·by_cases e:x=q
   ·subst e;unfold refGood;rw[hr,show((r:Nat):Int).toNat=r from rfl,hseen];simp;omega
   ·exact h2 x (by omega)
  ·rw[hd j hj];show _=if(seenTo (seenAt C.x p) (refsN C p) q j||decide ((refsN C p)[q]?.getD 0=(j:Int)))=true then(1:Int)else 0;rw[hr];by_cases e:j=r
   ·subst e;simp
   ·rw[if_neg e,h3 j hj];have:decide ((r:Int)=(j:Int))=false:=by rw[decide_eq_false_iff_not];omega
    rw[this,Bool.or_false]
 ·exact .inr h
theorem St3.bad {C:VC}{F:Int->Int->Int->Prop}{p q:Nat}{dec:Nat->Int}{s:VS}(hp:p<C.x.nodes.length)(hk:declKind (kindN C p)=true)(hq:q<(refsN C p).length)(hs:St3 C F p q dec s)
  (hb:isVar C ((refsN C p)[q]?.getD 0)=false\/(isVar C ((refsN C p)[q]?.getD 0)=true/\0<dec ((refsN C p)[q]?.getD 0).toNat))(dec':Nat->Int):St2 C F (p+1) dec' (tellS C s 6 p):=by
 rcases hs with⟨h1,h2,h3,hL⟩ | ⟨p0,hp0,hd0,hL⟩
 ·refine .inr ⟨p,Nat.lt_succ_self _,⟨hp,?_,h1⟩,hL.tell (by decide) _⟩;have hk':declKind (nd C.x.nodes p).kind=true:=hk;unfold declBad;rw[hk'];have e:refGood C.x.vars.length (seenAt C.x p) (refsN C p) q=false:=by
   unfold refGood;unfold isVar inR at hb;generalize (refsN C p)[q]?.getD 0=r at *;by_cases e0:0<=r
   ·by_cases e1:r<C.x.vars.length
    ·have hin:(decide (0<=r)&&decide (r<=(C.x.vars.length:Int)-1))=true:=by simp;omega
     rw[hin]at hb;rcases hb with hb | ⟨_,hb⟩
     ·cases hb
     ·rw[h3 r.toNat (by omega)]at hb;cases e2:seenTo (seenAt C.x p) (refsN C p) q r.toNat with
      | false=>rw[e2]at hb;exact absurd hb (by decide)
      | true=>simp
    ·rw[decide_eq_false e1];simp
   ·rw[decide_eq_false e0];simp
  have:allFrom (refGood C.x.vars.length (seenAt C.x p) (nd C.x.nodes p).refs) 0 (nd C.x.nodes p).refs.length=false:=allFrom_false (Nat.zero_le q) hq e;rw[this];rfl
 ·refine .inr ⟨p0,by omega,hd0,?_⟩;have:=hL.tell (C:=C) (c:=6) (by decide) (p:Int);refine this.drop (fun c f n q=>⟨6,C.f,p0,.inr ⟨rfl,rfl,rfl⟩,?_⟩);obtain⟨rfl,rfl,rfl⟩:=q;unfold lexle;omega
theorem tellS_keep (C:VC)(s:VS)(c n:Int):(tellS C s c n).sc=s.sc/\(tellS C s c n).lo=s.lo/\(tellS C s c n).dp=s.dp:=by
 unfold tellS;split<;>exact⟨rfl,rfl,rfl⟩
end Go.Proofs.YtofcbekoaghikaaGreatDoor
