import Derived.Test.YtcjfjflljdojlaaGreatDoorPart36
import Derived.Deep.AppendLies
import Derived.BigQuiet
set_option linter.unusedSimpArgs false
set_option linter.unusedVariables false
set_option maxHeartbeats 4000000
set_option maxRecDepth 100000
namespace Go.Proofs.YtcjfjflljdojlaaGreatDoor
open Go.RowKit
def ec (op:Int):Bool:=op==20||op==21||op==38||op==39||op==41
structure j8 (x:ak):Prop where
 some_:0<x.ins.length
 few:x.ins.length<=6000
 jump:∀ i,i<x.ins.length->(aT x i).op=19\/(aT x i).op=31->0<=(aT x i).fa/\(aT x i).fa.toNat<x.ins.length
 branch:∀ i,i<x.ins.length->ec (aT x i).op=true->0<=(aT x i).fb/\(aT x i).fb.toNat<x.ins.length
 next:∀ i,i<x.ins.length->de (aT x i)=true->i+1<x.ins.length
 named:∀ j,j<x.named.length->0<=(x.named[j]?.getD bE.z).fro/\(x.named[j]?.getD bE.z).fro.toNat<=x.ins.length/\0<=(x.named[j]?.getD bE.z).til/\(x.named[j]?.getD bE.z).til.toNat<=x.ins.length
def gy (x:ak):Nat->Nat->Nat
 | 0,a=>a
 | k+1,a=>if(aT x a).op=19 then gy x k (aT x a).fa.toNat else a
theorem xw {x:ak}(h:j8 x):∀ k a,a<x.ins.length->gy x k a<x.ins.length
 | 0,a,ha=>ha
 | k+1,a,ha=>by
  unfold gy;split
  ·next e=>exact xw h k _ (h.jump a ha (.inl e)).2
  ·exact ha
def ma (x:ak)(n:aA):aA:=if n.op=19 then { n with fa:=(gy x 100 n.fa.toNat:Nat) }else if ec n.op=true then { n with fb:=(gy x 100 n.fb.toNat:Nat) }else n
def aY (x:ak)(i:Nat):aA:=ma x (aT x i)
theorem qQ (x:ak)(n:aA):(ma x n).op=n.op:=by
 unfold ma;split
 ·rfl
 ·split<;>rfl
theorem kh {x:ak}(h:j8 x){i:Nat}(hi:i<x.ins.length)(ho:(aY x i).op=19\/(aY x i).op=31):0<=(aY x i).fa/\(aY x i).fa.toNat<x.ins.length:=by
 unfold aY at *;rw[qQ]at ho;have hj:=h.jump i hi ho;unfold ma;split
 ·exact⟨Int.natCast_nonneg _,by simpa using xw h _ _ hj.2⟩
 ·split
  ·exact hj
  ·exact hj
theorem jX {x:ak}(h:j8 x){i:Nat}(hi:i<x.ins.length)(ho:ec (aY x i).op=true):0<=(aY x i).fb/\(aY x i).fb.toNat<x.ins.length:=by
 unfold aY at *;rw[qQ]at ho;have hj:=h.branch i hi ho;unfold ma;split
 ·next e=>rw[e]at ho;exact absurd ho (by decide)
 ·exact⟨Int.natCast_nonneg _,by simpa[ho]using xw h _ _ hj.2⟩
def eu (n:aA)(i:Nat):List Nat:=(if de n=true then[i+1]else[])++(if n.op=19\/n.op=31 then[n.fa.toNat]else if ec n.op=true then[n.fb.toNat]else[])
theorem tf {x:ak}(h:j8 x){i j:Nat}(hi:i<x.ins.length)(hj:j∈eu (aY x i) i):j<x.ins.length:=by
 unfold eu at hj;rcases List.mem_append.1 hj with hj | hj
 ·split at hj
  ·next e=>
   have:de (aT x i)=true:=by
    unfold de at *;rw[show(aY x i).op=(aT x i).op from qQ x _]at e;exact e
   have:=h.next i hi this;rw[List.mem_singleton]at hj;omega
  ·cases hj
 ·split at hj
  ·next e=>rw[List.mem_singleton.1 hj];exact(kh h hi e).2
  ·split at hj
   ·next e=>rw[List.mem_singleton.1 hj];exact(jX h hi e).2
   ·cases hj
inductive LH (x:ak):Nat->Prop
 | zero:LH x 0
 | step {i j:Nat}:LH x i->i<x.ins.length->j∈eu (aY x i) i->LH x j
def sd (x:ak)(K:Nat->Bool):Prop:=∀ i,i<x.ins.length->(K i=true↔LH x i)
theorem Fc {x:ak}{K:Nat->Bool}(hf:j8 x)(h0:K 0=true)(h1:∀ i,i<x.ins.length->K i=true->LH x i)(h2:∀ i,i<x.ins.length->K i=true->∀ j,j∈eu (aY x i) i->K j=true):sd x K:=by
 have key:∀ i,LH x i->i<x.ins.length->K i=true:=by
  intro i hr
  induction hr with
  | zero=>exact fun _=>h0
  | step hr hi hj ih=>exact fun _=>h2 _ hi (ih hi) _ hj
 exact fun i hi=>⟨h1 i hi,fun h=>key i h hi⟩
def iC (K:Nat->Bool):Nat->Nat->Nat
 | 0,j=>j
 | d+1,j=>if K j=true then j else iC K d (j+1)
def jt (x:ak)(K:Nat->Bool)(i:Nat):Bool:=K i&&decide (0<i)&&((aY x i).op==19)&&decide ((aY x i).fa=(iC K (x.ins.length-(i+1)) (i+1):Nat))
def ed (x:ak)(K:Nat->Bool)(i:Nat):Nat->Bool
 | 0=>false
 | m+1=>ed x K i m||(K m&&((aY x m).op==31)&&decide ((aY x m).fa.toNat=i))
def aF (x:ak)(K:Nat->Bool)(i:Nat):Bool:=K i && !(jt x K i && !ed x K i x.ins.length)
def dN (P:Nat->Bool):Nat->Nat
 | 0=>0
 | i+1=>dN P i+if P i=true then 1 else 0
theorem lH (P:Nat->Bool):∀ i,dN P i<=i
 | 0=>n_
 | i+1=>by
  have:=lH P i;unfold dN;split<;>omega
def kX (P:Nat->Bool)(n:aA):aA:=if n.op=19\/n.op=31 then { n with fa:=(dN P n.fa.toNat:Nat) }else if ec n.op=true then { n with fb:=(dN P n.fb.toNat:Nat) }else n
def fy (x:ak)(P:Nat->Bool):Nat->List aA
 | 0=>[]
 | i+1=>fy x P i++if P i=true then[kX P (aY x i)]else[]
theorem mS (x:ak)(P:Nat->Bool):∀ i,(fy x P i).length=dN P i
 | 0=>rfl
 | i+1=>by
  unfold fy dN;rw[List.length_append,mS x P i];split<;>rfl
def kW (P:Nat->Bool)(n:bE):bE:={ n with fro:=(dN P n.fro.toNat:Nat),til:=(dN P n.til.toNat:Nat) }
def eZ (x:ak)(K:Nat->Bool):Nat->Bool
 | 0=>false
 | m+1=>eZ x K m||(((aY x m).op==11) && !K m)
def oD (x:ak)(K:Nat->Bool):ak:=if eZ x K x.ins.length=true then x else { x with ins:=fy x (aF x K) x.ins.length,named:=x.named.map (kW (aF x K)) }
def gY (x y:ak):Prop:=∃ K,sd x K/\y=oD x K
section
variable {x:ak} {K K':Nat->Bool}
theorem rX (h:∀ i,i<x.ins.length->K i=K' i):∀ d j,j+d<=x.ins.length->iC K d j=iC K' d j
 | 0,_,_=>rfl
 | d+1,j,hj=>by
  unfold iC;rw[h j (by omega),rX h d (j+1) (by omega)]
theorem rT (h:∀ i,i<x.ins.length->K i=K' i)(i:Nat):∀ m,m<=x.ins.length->ed x K i m=ed x K' i m
 | 0,_=>rfl
 | m+1,hm=>by
  unfold ed;rw[rT h i m (by omega),h m (by omega)]
theorem rR (h:∀ i,i<x.ins.length->K i=K' i):∀ m,m<=x.ins.length->eZ x K m=eZ x K' m
 | 0,_=>rfl
 | m+1,hm=>by
  unfold eZ;rw[rR h m (by omega),h m (by omega)]
theorem zQ (h:∀ i,i<x.ins.length->K i=K' i){i:Nat}(hi:i<x.ins.length):aF x K i=aF x K' i:=by
 unfold aF jt;rw[h i hi,rX h _ _ (by omega),rT h i _ n_]
end
theorem jZ {P Q:Nat->Bool}{N:Nat}(h:∀ i,i<N->P i=Q i):∀ i,i<=N->dN P i=dN Q i
 | 0,_=>rfl
 | i+1,hi=>by
  unfold dN;rw[jZ h i (by omega),h i (by omega)]
theorem uL {x:ak}(hf:j8 x){P Q:Nat->Bool}(h:∀ i,i<x.ins.length->P i=Q i):∀ i,i<=x.ins.length->fy x P i=fy x Q i
 | 0,_=>rfl
 | i+1,hi=>by
  unfold fy;have e:kX P (aY x i)=kX Q (aY x i):=by
   unfold kX;split
   ·next o=>rw[jZ h _ (Nat.le_of_lt (kh hf (by omega) o).2)]
   ·split
    ·next o=>rw[jZ h _ (Nat.le_of_lt (jX hf (by omega) o).2)]
    ·rfl
  rw[uL hf h i (by omega),h i (by omega),e]
theorem oC {x y y':ak}(hf:j8 x)(h:gY x y)(h':gY x y'):y=y':=by
 obtain⟨K,k1,rfl⟩:=h;obtain⟨K',k2,rfl⟩:=h';have e:∀ i,i<x.ins.length->K i=K' i:=fun i hi=>by
  rw[Bool.eq_iff_iff,k1 i hi,k2 i hi]
 unfold oD;rw[rR e _ n_];split
 ·rfl
 ·have es:∀ i,i<x.ins.length->aF x K i=aF x K' i:=fun i hi=>zQ e hi;rw[uL hf es _ n_];have en:x.named.map (kW (aF x K))=x.named.map (kW (aF x K')):=by
   refine List.map_congr_left (fun n hn=>?_);obtain⟨j,hj,rfl⟩:=List.getElem_of_mem hn;have:=hf.named j hj;rw[g_ hj]at this;simp only[Option.getD_some]at this;unfold kW;rw[jZ es _ this.2.1,jZ es _ this.2.2.2]
  rw[en]
def dt {α:Type}(T sz:Nat)(f:α->List Value)(w:World)(base:Nat)(v:Value)(t:List α):Prop:=w.ownsRow base T sz v t.length (t.flatMap f)
theorem Js {α:Type}{f:α->List Value}{sz:Nat}(hf:∀ x,(f x).length=sz)(z:α)(l:List α)(j i:Nat)(hj:j<l.length)(hi:i<sz):(l.flatMap f)[j * sz+i]? = (f (l[j]?.getD z))[i]?:=by
 induction l generalizing j with
 | nil=>exact absurd hj (Nat.not_lt_zero _)
 | cons a l ih=>
  rw[List.flatMap_cons];cases j with
  | zero=>
   rw[List.getElem?_append_left (by rw[hf];omega)];simp
  | succ j=>
   have e1:(j+1) * sz=j * sz+sz:=Nat.succ_mul j sz;rw[List.getElem?_append_right (by rw[hf];omega)];have e:(j+1) * sz+i-(f a).length=j * sz+i:=by rw[hf];omega
   rw[e,ih j (by simpa using hj)];simp
section
variable {α:Type} {T sz:Nat} {f:α->List Value} {w w':World} {base base':Nat} {v:Value} {t:List α}
theorem dt.lenV (h:dt T sz f w base v t):∃ a c,v=.slice a t.length c:=by
 rcases h.2 with⟨rfl,h0⟩ | ⟨g,cap,gi,rfl,_⟩
 ·rw[h0];exact⟨none,0,rfl⟩
 ·exact⟨_,_,rfl⟩
theorem dt.push {x:α}(h:w.ownsRow base T sz v (t.length+1) (t.flatMap f++f x)):dt T sz f w base v (t++[x]):=by
 unfold dt;rw[List.length_append,List.flatMap_append];simpa using h
theorem dt.at (h:dt T sz f w base v t)(hf:∀ x,(f x).length=sz)(z:α)(h0:0<t.length):∃ g cap,v=.slice (some (a_ g 0)) t.length cap/\base<=g/\g<w.heap.size/\t.length<=cap/\∀ j,j<t.length->∀ i,i<sz->w.cell? (a_ g (j * sz+i))=(f (t[j]?.getD z))[i]?:=by
 rcases h.2 with⟨_,h1⟩ | ⟨g,cap,gi,rfl,hb,hg,pw,h2⟩
 ·omega
 ·refine⟨g,cap,rfl,hb,(Array.getElem?_eq_some_iff.1 hg).1,pw,fun j hj i hi=>?_⟩;have h3:j * sz+i<t.length * sz:=by
   have:=Nat.mul_le_mul_right sz (show j+1<=t.length by omega);rw[Nat.succ_mul]at this;omega
  rw[World.ownsRow.cellAt h (j * sz+i) h3,Js hf z t j i hj hi]
theorem dt.same (h:dt T sz f w base v t)(hb:∀ k,v.ownBlock=some k->w'.heap[k]? = w.heap[k]?):dt T sz f w' base v t:=by
 refine⟨h.1,?_⟩;rcases h.2 with hn | ⟨g,cap,gi,rfl,h1,hg,h2⟩
 ·exact .inl hn
 ·exact .inr ⟨g,cap,gi,rfl,h1,(hb g rfl).trans hg,h2⟩
theorem dt.lt (h:dt T sz f w base v t):∀ k,v.ownBlock=some k->base<=k/\k<w.heap.size:=fun k e=>by
 rcases h.2 with⟨rfl,_⟩ | ⟨g,cap,gi,rfl,h1,hg,h2⟩
 ·cases e
 ·cases e;exact⟨h1,(Array.getElem?_eq_some_iff.1 hg).1⟩
theorem dt.below (h:dt T sz f w base v t)(hb:b_ w w'):dt T sz f w' base v t:=h.same (fun k e=>hb.block k (h.lt k e).2)
theorem dt.base_le (h:dt T sz f w base v t)(hb:base'<=base):dt T sz f w base' v t:=by
 refine⟨h.1,?_⟩;rcases h.2 with hn | ⟨g,cap,gi,rfl,h1,h2⟩
 ·exact .inl hn
 ·exact .inr ⟨g,cap,gi,rfl,Nat.le_trans hb h1,h2⟩
end
def mv (w:World)(b off:Nat)(x:ak):Prop:=∀ a,a<x.ins.length->aL w b (off+a * 5) (aT x a)
theorem mv.keep {w w':World}{b off:Nat}{x:ak}(h:mv w b off x)(hl:b<w.heap.size)(hb:b_ w w'):mv w' b off x:=fun a ha=>by
 have k:=h a ha;have e:∀ o,w'.cell? (a_ b o)=w.cell? (a_ b o):=fun o=>hb.cell (p:=(a_ b o)) hl;exact⟨(e _).trans k.op,(e _).trans k.fa,(e _).trans k.fb,(e _).trans k.fc,(e _).trans k.fd⟩
theorem wU (x:ak)(at_:Nat)(nm:ByteArray)(ln pr:Int)(rs:Bool)(rg:Int)(v5 v6 v8:Value)(b off c7:Nat)(w:World)(hf:j8 x)(cZ:b<w.heap.size)(qA:mv w b off x)(fY:at_<x.ins.length) :
  c_ 65 #[.agg #[.string nm,i_ ln,i_ pr,.bool rs,i_ rg,v5,v6,.slice (some (a_ b off)) x.ins.length c7,v8],i_ at_] w fun e w'=>e=.returned (i_ ((gy x 100 at_:Nat):Int))/\b_ w w':=by
 have hN:=hf.few;have HF:=af hf;have dF:∀ o,b_ w (w.alloc o):=fun o=>r_.alloc n_ o;have Ep:Hid (∀ o,mv (w.alloc o) b off x):=fun o=>qA.keep cZ (dF o);have dR:=af dF;clear hf qA dF;go_enter Tryz.func65,Tryz.ntmps65;go_wp2_with fail
 go_loopg [1,5] 100 (fun gg a i wr=>∃(k a':Nat),k+gg=100/\a=i_ a'/\i=i_ k/\a'<x.ins.length/\Hid (gy x gg a'=gy x 100 at_)/\Hid (mv wr b off x)/\wr.cell? (a_ w.heap.size 7)=some (.slice (some (a_ b off)) x.ins.length c7)/\b_ w wr/\w.heap.size<wr.heap.size)
 case atStart=>exact⟨0,at_,by omega,rfl,rfl,fY,rfl,Ep.out _,by simp[go_sem],dR.out _,by simp⟩
 case round=>
  obtain⟨k,a',hk,rfl,rfl,ha,rD,KU,hc7,eo,kq⟩:=hrel;have bo:b<wr.heap.size:=by omega
  by_cases hk100:k<100
  ·have N:=KU.out a' ha;have c0:=N.op;have c1:=N.fa;obtain⟨g',gQ⟩:∃ g',gk=g'+1:=⟨gk-1,by omega⟩;have haI:(a':Int)<x.ins.length:=by omega
   by_cases ho:(aT x a').op=19
   ·obtain⟨f0,f1⟩:=HF.out.jump a' ha (.inl ho);obtain⟨A,hA⟩:=Int.eq_ofNat_of_zero_le f0;rw[ho]at c0;rw[hA]at c1 f1;have NX:Hid (gy x g' A=gy x 100 at_):=by
     show _=_;rw[<-rD.out,gQ];show _=if(aT x a').op=19 then gy x g' (aT x a').fa.toNat else a';rw[if_pos ho,hA];rfl
    have Kn:A<x.ins.length:=f1;clear N f0 f1 hA ho rD;go_wp2_with fail
    go_roundg g'
    case measure=>omega
    case rel=>exact⟨k+1,A,by omega,rfl,by go_num,Kn,NX,KU,hc7,eo,kq⟩
   ·have Xs:((aT x a').op==19)=false:=by simpa using ho
    have vl:Hid (a'=gy x 100 at_):=by
     show _=_;rw[<-rD.out,gQ];show _=if(aT x a').op=19 then gy x g' (aT x a').fa.toNat else a';rw[if_neg ho]
    clear N ho rD;generalize (aT x a').op=op at *;go_wp2_with fail
    go_ret;exact⟨by rw[<-vl.out];rfl,eo⟩
  ·have Fh:gk=0:=by omega
   have vl:Hid (a'=gy x 100 at_):=by
    show _=_;rw[<-rD.out,Fh];rfl
   have Wi:¬((k:Int)<100):=by omega
   clear rD;go_wp2_with fail
   go_ret;exact⟨by rw[<-vl.out];rfl,eo⟩
def iF (x:ak)(k:Nat):List aA:=(List.range k).map (aY x)
theorem CM (x:ak)(k:Nat):iF x (k+1)=iF x k++[aY x k]:=by unfold iF;rw[List.range_succ,List.map_append];rfl
theorem qN (x:ak)(k:Nat):(iF x k).length=k:=by unfold iF;simp
theorem F6 (x:ak){k i:Nat}(hi:i<k):(iF x k)[i]?.getD aA.z=aY x i:=by unfold iF;simp[hi]
abbrev gP (w:World) (base:Nat) (v:Value) (t:List aA):Prop:=dt 51 5 aW w base v t
theorem AW (x:ak)(nm:ByteArray)(ln pr:Int)(rs:Bool)(rg:Int)(v5 v6 v8:Value)(b off c7:Nat)(w:World)(hf:j8 x)(cZ:b<w.heap.size)(qA:mv w b off x) :
  c_ 23 #[.agg #[.string nm,i_ ln,i_ pr,.bool rs,i_ rg,v5,v6,.slice (some (a_ b off)) x.ins.length c7,v8]] w fun e w'=>∃ v,e=.returned v/\gP w' w.heap.size v (iF x x.ins.length)/\b_ w w':=by
 have hN:=hf.few;have HF:=af hf;have dF:∀ o,b_ w (w.alloc o):=fun o=>r_.alloc n_ o;have Ep:Hid (∀ W,b_ w W->mv W b off x):=fun W hW a ha=>by
  have k:=qA a ha;have e:∀ o,W.cell? (a_ b o)=w.cell? (a_ b o):=fun o=>hW.cell (p:=(a_ b o)) cZ;exact⟨(e _).trans k.op,(e _).trans k.fa,(e _).trans k.fb,(e _).trans k.fc,(e _).trans k.fd⟩
 have dR:=af dF;obtain⟨i0,hi,dE,cT,dB⟩:=aN kP;clear hf qA dF;go_enter Tryz.func23,Tryz.ntmps23;go_wp2_with fail
 go_loopg [3,9] x.ins.length (fun gg v i wr=>∃(k:Nat),k+gg=x.ins.length/\i=i_ k/\Hid (gP wr (w.heap.size+1) v (iF x k))/\Hid (Below (w.heap.size+1) (w.alloc (.cells #[.string nm,i_ ln,i_ pr,.bool rs,i_ rg,v5,v6,.slice (some (a_ b off)) x.ins.length c7,v8] 43)) wr))
 case atStart=>exact⟨0,by omega,rfl,World.ownsRow_nil _ _ _ _,r_⟩
 case round=>
  obtain⟨k,hk,rfl,bc,eo⟩:=hrel;have Ij:b_ w wr:=(dR.out _).trans (eo.out.mono (by omega));have kq:w.heap.size+1<=wr.heap.size:=by have:=eo.out.size;simpa using this
  have hszl:w.heap.size<wr.heap.size:=by omega
  by_cases ax:k<x.ins.length
  ·have N:=Ep.out wr Ij k ax;have c0:=N.op;have c1:=N.fa;have c2:=N.fb;have c3:=N.fc;have c4:=N.fd;have bo:b<wr.heap.size:=by omega
   have kk:∀ j,j<9->wr.cell? (a_ w.heap.size j)=_:=fun j hj=>eo.out.cell (p:=(a_ w.heap.size j)) (show w.heap.size<w.heap.size+1 by omega);have k0:=kk 0 (by omega);have k1:=kk 1 (by omega);have k2:=kk 2 (by omega);have k3:=kk 3 (by omega);have k4:=kk 4 (by omega);have k5:=kk 5 (by omega);have k6:=kk 6 (by omega);have k7:=kk 7 (by omega);have k8:=kk 8 (by omega);simp[go_sem]at k0 k1 k2 k3 k4 k5 k6 k7 k8;have HA:Hid (iF x (k+1)=iF x k++[aY x k]):=CM x k;have HL:Hid ((iF x k).length=k):=qN x k;clear N kk;by_cases ho:(aT x k).op=19
   ·obtain⟨f0,f1⟩:=HF.out.jump k ax (.inl ho);obtain⟨A,hA⟩:=Int.eq_ofNat_of_zero_le f0;have HN:Hid (aY x k=⟨(aT x k).op,(gy x 100 A:Nat),(aT x k).fb,(aT x k).fc,(aT x k).fd⟩):=by
     show ma x (aT x k)=_;unfold ma;rw[if_pos ho,hA];rfl
    have Kn:A<x.ins.length:=by rw[hA]at f1;exact f1
    rw[hA]at c1;have FR:Hid (∀ W,b_ w W->c_ 65 #[.agg #[.string nm,i_ ln,i_ pr,.bool rs,i_ rg,v5,v6,.slice (some (a_ b off)) x.ins.length c7,v8],i_ (A:Nat)] W fun e w'=>e=.returned (i_ ((gy x 100 A:Nat):Int))/\b_ W w'):=fun W hW=>wU x A nm ln pr rs rg v5 v6 v8 b off c7 W HF.out (by have:=hW.size;omega) (Ep.out W hW) Kn;have gR:Hid (∀ o,b_ w (wr.alloc o)):=fun o=>Ij.alloc Ij.size o;clear f0 f1 hA;rw[ho]at c0 HN;clear ho;generalize (aT x k).fb=fx at *;generalize (aT x k).fc=fc at *;generalize (aT x k).fd=fd at *;generalize gy x 100 A=F at *;go_wp2_with fail
    refine(FR.out _ (gR.out _)).mono ?_;rintro e W ⟨rfl,sO⟩;have m:∀ j,W.cell? (a_ wr.heap.size j)=_:=fun j=>sO.cell (p:=(a_ wr.heap.size j)) (by simp);have m0:=m 0;have m1:=m 1;have m2:=m 2;have m3:=m 3;have m4:=m 4;simp[go_sem]at m0 m1 m2 m3 m4;have z1:W.frozen? (a_ wr.heap.size 1)=false:=by rw[sO.frozen (p:=(a_ wr.heap.size 1)) (by simp)];simp[go_sem]
    have Px:wr.heap.size+1<=W.heap.size:=by have:=sO.size;simpa using this
    have QO:wr.heap.size<W.heap.size:=by omega
    have Ev:b_ wr W:=(r_.alloc n_ _).trans (sO.mono (by simp));have OW:Hid (∀ v,gP (W.setCell (a_ wr.heap.size 1) v) (w.heap.size+1) u3 (iF x k)):=fun v=>(bc.out.below Ev).same (fun q e=>heap_setCell_other W (a_ wr.heap.size 1) q v (by have:=(dt.lt bc.out q e).2;show q≠wr.heap.size;omega));have BW:Hid (∀ v,Below (w.heap.size+1) (w.alloc (.cells #[.string nm,i_ ln,i_ pr,.bool rs,i_ rg,v5,v6,.slice (some (a_ b off)) x.ins.length c7,v8] 43)) (W.setCell (a_ wr.heap.size 1) v)):=fun v=>(eo.out.trans (Ev.mono kq)).setCell kq v;clear m sO Ev FR gR;go_wp2_with (first
     | (at_builtin;refine wpList_append_own _ rfl _ _ 40 rfl (w.heap.size+1) 51 i0 (.agg #[i_ 0,i_ 0,i_ 0,i_ 0,i_ 0]) 5 40 Tryz.underlying40 hi dE cT dB rfl (by decide) _ _ _ rfl (World.ownsRow.alloc (OW.out _) _) (a_ W.heap.size 0) 1 1 [i_ 19,i_ (F:Nat),i_ fx,i_ fc,i_ fd] rfl rfl ?c1 ?c2 ?c3 ?c4 ?c5 ?_)
     | go_in)
    case c1=>intro j u hj;rcases j with _ | _ | _ | _ | _ | _<;>simp at hj<;>aj hj<;>simp[Addr.add,go_sem]
    case c2=>intro u hu;simp at hu;rcases hu with rfl | rfl | rfl | rfl | rfl<;>rfl
    case c3=>rw[HL.out];unfold maxLen;omega
    case c4=>rw[HL.out];omega
    case c5=>simp;omega
    intro v' w1 dj hgrow _;have R1:Hid (gP w1 (w.heap.size+1) v' (iF x (k+1))):=by
     show gP _ _ _ _;rw[HA.out,HN.out];exact dt.push dj
    have R2:Hid (Below (w.heap.size+1) (w.alloc (.cells #[.string nm,i_ ln,i_ pr,.bool rs,i_ rg,v5,v6,.slice (some (a_ b off)) x.ins.length c7,v8] 43)) w1):=(Below.alloc (BW.out _) (by simp;omega) _).grown hgrow (by simp;omega) (fun j hj=>(dt.lt bc.out j hj).1);clear dj hgrow;go_wp2_with fail
    go_roundg (x.ins.length-(k+1))
    case measure=>omega
    case rel=>exact⟨k+1,by omega,by go_num,R1,R2⟩
   by_cases mh:ec (aT x k).op=true
   ·obtain⟨f0,f1⟩:=HF.out.branch k ax mh;obtain⟨A,hA⟩:=Int.eq_ofNat_of_zero_le f0;have HN:Hid (aY x k=⟨(aT x k).op,(aT x k).fa,(gy x 100 A:Nat),(aT x k).fc,(aT x k).fd⟩):=by
     show ma x (aT x k)=_;unfold ma;rw[if_neg ho,if_pos mh,hA];rfl
    have Kn:A<x.ins.length:=by rw[hA]at f1;exact f1
    rw[hA]at c2;unfold ec at mh;simp only[Bool.or_eq_true,beq_iff_eq]at mh;have Xs:((aT x k).op==19)=false:=by simpa using ho
    have FR:Hid (∀ W,b_ w W->c_ 65 #[.agg #[.string nm,i_ ln,i_ pr,.bool rs,i_ rg,v5,v6,.slice (some (a_ b off)) x.ins.length c7,v8],i_ (A:Nat)] W fun e w'=>e=.returned (i_ ((gy x 100 A:Nat):Int))/\b_ W w'):=fun W hW=>wU x A nm ln pr rs rg v5 v6 v8 b off c7 W HF.out (by have:=hW.size;omega) (Ep.out W hW) Kn;have gR:Hid (∀ o,b_ w (wr.alloc o)):=fun o=>Ij.alloc Ij.size o;clear f0 f1 hA;generalize (aT x k).op=op at *;obtain⟨o,Pp⟩:∃ o,o=op:=⟨_,rfl⟩;clear ho;rcases mh with(((rfl | rfl) | rfl) | rfl) | rfl
    all_goals
     generalize (aT x k).fa=fx at *;generalize (aT x k).fc=fc at *;generalize (aT x k).fd=fd at *;generalize gy x 100 A=F at *;go_wp2_with fail
     refine(FR.out _ (gR.out _)).mono ?_;rintro e W ⟨rfl,sO⟩;have m:∀ j,W.cell? (a_ wr.heap.size j)=_:=fun j=>sO.cell (p:=(a_ wr.heap.size j)) (by simp);have m0:=m 0;have m1:=m 1;have m2:=m 2;have m3:=m 3;have m4:=m 4;simp[go_sem]at m0 m1 m2 m3 m4;have z1:W.frozen? (a_ wr.heap.size 2)=false:=by rw[sO.frozen (p:=(a_ wr.heap.size 2)) (by simp)];simp[go_sem]
     have Px:wr.heap.size+1<=W.heap.size:=by have:=sO.size;simpa using this
     have QO:wr.heap.size<W.heap.size:=by omega
     have Ev:b_ wr W:=(r_.alloc n_ _).trans (sO.mono (by simp));have OW:Hid (∀ v,gP (W.setCell (a_ wr.heap.size 2) v) (w.heap.size+1) u3 (iF x k)):=fun v=>(bc.out.below Ev).same (fun q e=>heap_setCell_other W (a_ wr.heap.size 2) q v (by have:=(dt.lt bc.out q e).2;show q≠wr.heap.size;omega));have BW:Hid (∀ v,Below (w.heap.size+1) (w.alloc (.cells #[.string nm,i_ ln,i_ pr,.bool rs,i_ rg,v5,v6,.slice (some (a_ b off)) x.ins.length c7,v8] 43)) (W.setCell (a_ wr.heap.size 2) v)):=fun v=>(eo.out.trans (Ev.mono kq)).setCell kq v;clear m sO Ev FR gR;go_wp2_with (first
      | (at_builtin;refine wpList_append_own _ rfl _ _ 40 rfl (w.heap.size+1) 51 i0 (.agg #[i_ 0,i_ 0,i_ 0,i_ 0,i_ 0]) 5 40 Tryz.underlying40 hi dE cT dB rfl (by decide) _ _ _ rfl (World.ownsRow.alloc (OW.out _) _) (a_ W.heap.size 0) 1 1 [i_ o,i_ fx,i_ (F:Nat),i_ fc,i_ fd] rfl rfl ?c1 ?c2 ?c3 ?c4 ?c5 ?_)
      | go_in)
     case c1=>intro j u hj;rcases j with _ | _ | _ | _ | _ | _<;>simp at hj<;>aj hj<;>simp[Addr.add,go_sem,Pp]
     case c2=>intro u hu;simp at hu;rcases hu with rfl | rfl | rfl | rfl | rfl<;>rfl
     case c3=>rw[HL.out];unfold maxLen;omega
     case c4=>rw[HL.out];omega
     case c5=>simp;omega
     intro v' w1 dj hgrow _
     aj Pp
     have R1:Hid (gP w1 (w.heap.size+1) v' (iF x (k+1))):=by
      show gP _ _ _ _;rw[HA.out,HN.out];exact dt.push dj
     have R2:Hid (Below (w.heap.size+1) (w.alloc (.cells #[.string nm,i_ ln,i_ pr,.bool rs,i_ rg,v5,v6,.slice (some (a_ b off)) x.ins.length c7,v8] 43)) w1):=(Below.alloc (BW.out _) (by simp;omega) _).grown hgrow (by simp;omega) (fun j hj=>(dt.lt bc.out j hj).1);clear dj hgrow;go_wp2_with fail
     go_roundg (x.ins.length-(k+1))
     case measure=>omega
     case rel=>exact⟨k+1,by omega,by go_num,R1,R2⟩
   ·have HN:Hid (aY x k=⟨(aT x k).op,(aT x k).fa,(aT x k).fb,(aT x k).fc,(aT x k).fd⟩):=by
     show ma x (aT x k)=_;unfold ma;rw[if_neg ho,if_neg mh]
    unfold ec at mh;simp only[Bool.or_eq_true,beq_iff_eq,not_or]at mh;obtain⟨⟨⟨⟨Fo,Fl⟩,Fp⟩,Fk⟩,Ff⟩:=mh;have Xs:((aT x k).op==19)=false:=by simpa using ho
    have P7:((aT x k).op==20)=false:=by simpa using Fo
    have q21:((aT x k).op==21)=false:=by simpa using Fl
    have q38:((aT x k).op==38)=false:=by simpa using Fp
    have q39:((aT x k).op==39)=false:=by simpa using Fk
    have q41:((aT x k).op==41)=false:=by simpa using Ff
    clear ho Fo Fl Fp Fk Ff;generalize (aT x k).op=op at *;generalize (aT x k).fa=fa at *;generalize (aT x k).fb=fb at *;generalize (aT x k).fc=fc at *;generalize (aT x k).fd=fd at *;have OW:Hid (∀ o,gP (wr.alloc o) (w.heap.size+1) u3 (iF x k)):=fun o=>World.ownsRow.alloc bc.out o;have BW:Hid (∀ o,Below (w.heap.size+1) (w.alloc (.cells #[.string nm,i_ ln,i_ pr,.bool rs,i_ rg,v5,v6,.slice (some (a_ b off)) x.ins.length c7,v8] 43)) (wr.alloc o)):=fun o=>eo.out.alloc kq o;go_wp2_with (first
     | (at_builtin;refine wpList_append_own _ rfl _ _ 40 rfl (w.heap.size+1) 51 i0 (.agg #[i_ 0,i_ 0,i_ 0,i_ 0,i_ 0]) 5 40 Tryz.underlying40 hi dE cT dB rfl (by decide) _ _ _ rfl (World.ownsRow.alloc (OW.out _) _) (a_ (wr.heap.size+1) 0) 1 1 [i_ op,i_ fa,i_ fb,i_ fc,i_ fd] rfl rfl ?c1 ?c2 ?c3 ?c4 ?c5 ?_)
     | go_in)
    case c1=>intro j u hj;rcases j with _ | _ | _ | _ | _ | _<;>simp at hj<;>aj hj<;>simp[Addr.add,go_sem]
    case c2=>intro u hu;simp at hu;rcases hu with rfl | rfl | rfl | rfl | rfl<;>rfl
    case c3=>rw[HL.out];unfold maxLen;omega
    case c4=>rw[HL.out];omega
    case c5=>simp;omega
    intro v' w1 dj hgrow _;have R1:Hid (gP w1 (w.heap.size+1) v' (iF x (k+1))):=by
     show gP _ _ _ _;rw[HA.out,HN.out];exact dt.push dj
    have R2:Hid (Below (w.heap.size+1) (w.alloc (.cells #[.string nm,i_ ln,i_ pr,.bool rs,i_ rg,v5,v6,.slice (some (a_ b off)) x.ins.length c7,v8] 43)) w1):=(Below.alloc (BW.out _) (by simp;omega) _).grown hgrow (by simp;omega) (fun j hj=>(dt.lt bc.out j hj).1);clear dj hgrow;go_wp2_with fail
    go_roundg (x.ins.length-(k+1))
    case measure=>omega
    case rel=>exact⟨k+1,by omega,by go_num,R1,R2⟩
  ·have iK:k=x.ins.length:=by omega
   aj iK
   go_wp2_with fail
   go_ret;exact⟨_,rfl,bc.out.base_le (by omega),Ij⟩
end Go.Proofs.YtcjfjflljdojlaaGreatDoor
