import Derived.Test.YtcjfjflljdojlaaGreatDoorPart28
set_option linter.all false
set_option maxHeartbeats 4000000
set_option maxRecDepth 100000
namespace Go.Proofs.YtcjfjflljdojlaaGreatDoor
open Go.RowKit
def dZ (op:Int):Bool:=op==20||op==21||op==38||op==39||op==41
structure jW (x:aj):Prop where
 some_:0<x.u.length
 few:x.u.length<=6000
 jump:∀ i,i<x.u.length->(aR x i).op=19\/(aR x i).op=31->0<=(aR x i).fa/\(aR x i).fa.toNat<x.u.length
 branch:∀ i,i<x.u.length->dZ (aR x i).op=true->0<=(aR x i).fb/\(aR x i).fb.toNat<x.u.length
 next:∀ i,i<x.u.length->dc (aR x i)=true->i+1<x.u.length
 g:∀ j,j<x.g.length->0<=(x.g[j]?.getD bB.z).fro/\(x.g[j]?.getD bB.z).fro.toNat<=x.u.length/\0<=(x.g[j]?.getD bB.z).til/\(x.g[j]?.getD bB.z).til.toNat<=x.u.length
def gq (x:aj):Nat->Nat->Nat
 | 0,a=>a
 | k+1,a=>if(aR x a).op=19 then gq x k (aR x a).fa.toNat else a
theorem xH {x:aj}(h:jW x):∀ k a,a<x.u.length->gq x k a<x.u.length
 | 0,a,ha=>ha
 | k+1,a,ha=>by
  unfold gq;split
  ·next e=>exact xH h k _ (h.jump a ha (.inl e)).2
  ·exact ha
def lQ (x:aj)(n:az):az:=if n.op=19 then { n with fa:=(gq x 100 n.fa.toNat:Nat) }else if dZ n.op=true then { n with fb:=(gq x 100 n.fb.toNat:Nat) }else n
def aX (x:aj)(i:Nat):az:=lQ x (aR x i)
theorem qR (x:aj)(n:az):(lQ x n).op=n.op:=by
 unfold lQ;split;{rfl};{split<;>rfl}
theorem kd {x:aj}(h:jW x){i:Nat}(hi:i<x.u.length)(ho:(aX x i).op=19\/(aX x i).op=31):0<=(aX x i).fa/\(aX x i).fa.toNat<x.u.length:=by
 unfold aX at *;rw[qR]at ho;have hj:=h.jump i hi ho;unfold lQ;split;{exact⟨Int.natCast_nonneg _,by simpa using xH h _ _ hj.2⟩};{split;{exact hj};{exact hj}}
theorem jT {x:aj}(h:jW x){i:Nat}(hi:i<x.u.length)(ho:dZ (aX x i).op=true):0<=(aX x i).fb/\(aX x i).fb.toNat<x.u.length:=by
 unfold aX at *;rw[qR]at ho;have hj:=h.branch i hi ho;unfold lQ;split;{next e=>rw[e]at ho;exact zcc ho (by decide)};{exact⟨Int.natCast_nonneg _,by simpa[ho]using xH h _ _ hj.2⟩}
def eu (n:az)(i:Nat):List Nat:=(if dc n=true then[i+1]else[])++(if n.op=19\/n.op=31 then[n.fa.toNat]else if dZ n.op=true then[n.fb.toNat]else[])
theorem tf {x:aj}(h:jW x){i j:Nat}(hi:i<x.u.length)(hj:j∈eu (aX x i) i):j<x.u.length:=by
 unfold eu at hj;rcases zaa.1 hj with hj | hj
 ·split at hj
  ·next e=>
   have:dc (aR x i)=true:=by{unfold dc at *;rw[show(aX x i).op=(aR x i).op from qR x _]at e;exact e};have:=h.next i hi this;rw[nZ]at hj;omega
  {cases hj}
 {split at hj;{next e=>rw[nZ.1 hj];exact(kd h hi e).2};{split at hj;{next e=>rw[nZ.1 hj];exact(jT h hi e).2};{cases hj}}}
def LB (x:aj)(i:Nat):Prop:=∀ P:Nat->Prop,P 0->(∀ i j,P i->i<x.u.length->j∈eu (aX x i) i->P j)->P i
theorem LB.zero {x:aj}:LB x 0:=fun _ h _=>h
theorem LB.step {x:aj}{i j:Nat}(h:LB x i)(hi:i<x.u.length)(hj:j∈eu (aX x i) i):LB x j:=fun P h0 hs=>hs _ _ (h P h0 hs) hi hj
def rT (x:aj)(K:Nat->Bool):Prop:=∀ i,i<x.u.length->(K i=true↔LB x i)
theorem EZ {x:aj}{K:Nat->Bool}(hf:jW x)(h0:K 0=true)(h1:∀ i,i<x.u.length->K i=true->LB x i)(h2:∀ i,i<x.u.length->K i=true->∀ j,j∈eu (aX x i) i->K j=true):rT x K:=by
 have key:∀ i,LB x i->i<x.u.length->K i=true:=by
  exact fun i hr=>hr (fun i=>i<x.u.length->K i=true) (fun _=>h0) (fun i j ih hi hj _=>h2 i hi (ih hi) j hj)
 exact fun i hi=>⟨h1 i hi,fun h=>key i h hi⟩
def iA (K:Nat->Bool):Nat->Nat->Nat
 | 0,j=>j
 | d+1,j=>if K j=true then j else iA K d (j+1)
def jn (x:aj)(K:Nat->Bool)(i:Nat):Bool:=K i&&decide (0<i)&&((aX x i).op==19)&&decide ((aX x i).fa=(iA K (x.u.length-(i+1)) (i+1):Nat))
def ec (x:aj)(K:Nat->Bool)(i:Nat):Nat->Bool
 | 0=>false
 | m+1=>ec x K i m||(K m&&((aX x m).op==31)&&decide ((aX x m).fa.toNat=i))
def aE (x:aj)(K:Nat->Bool)(i:Nat):Bool:=K i && !(jn x K i && !ec x K i x.u.length)
def dN (P:Nat->Bool):Nat->Nat
 | 0=>0
 | i+1=>dN P i+if P i=true then 1 else 0
theorem ma (P:Nat->Bool):∀ i,dN P i<=i
 | 0=>n_
 | i+1=>by
  have:=ma P i;unfold dN;split<;>omega
def kV (P:Nat->Bool)(n:az):az:=if n.op=19\/n.op=31 then { n with fa:=(dN P n.fa.toNat:Nat) }else if dZ n.op=true then { n with fb:=(dN P n.fb.toNat:Nat) }else n
def fw (x:aj)(P:Nat->Bool):Nat->List az
 | 0=>[]
 | i+1=>fw x P i++if P i=true then[kV P (aX x i)]else[]
theorem mN (x:aj)(P:Nat->Bool):∀ i,(fw x P i).length=dN P i
 | 0=>rfl
 | i+1=>by
  unfold fw dN;rw[zad,mN x P i];split<;>rfl
def ll (P:Nat->Bool)(n:bB):bB:={ n with fro:=(dN P n.fro.toNat:Nat),til:=(dN P n.til.toNat:Nat) }
def eW (x:aj)(K:Nat->Bool):Nat->Bool
 | 0=>false
 | m+1=>eW x K m||(((aX x m).op==11) && !K m)
def oE (x:aj)(K:Nat->Bool):aj:=if eW x K x.u.length=true then x else { x with u:=fw x (aE x K) x.u.length,g:=x.g.map (ll (aE x K)) }
def gW (x y:aj):Prop:=∃ K,rT x K/\y=oE x K
section
variable {x:aj} {K K':Nat->Bool}
theorem sk (h:∀ i,i<x.u.length->K i=K' i):∀ d j,j+d<=x.u.length->iA K d j=iA K' d j
 | 0,_,_=>rfl
 | d+1,j,hj=>by
  unfold iA;rw[h j (by omega),sk h d (j+1) (by omega)]
theorem rU (h:∀ i,i<x.u.length->K i=K' i)(i:Nat):∀ m,m<=x.u.length->ec x K i m=ec x K' i m
 | 0,_=>rfl
 | m+1,hm=>by
  unfold ec;rw[rU h i m (by omega),h m (by omega)]
theorem rW (h:∀ i,i<x.u.length->K i=K' i):∀ m,m<=x.u.length->eW x K m=eW x K' m
 | 0,_=>rfl
 | m+1,hm=>by
  unfold eW;rw[rW h m (by omega),h m (by omega)]
theorem Ay (h:∀ i,i<x.u.length->K i=K' i){i:Nat}(hi:i<x.u.length):aE x K i=aE x K' i:=by
 unfold aE jn;rw[h i hi,sk h _ _ (by omega),rU h i _ n_]
end
theorem kh {P Q:Nat->Bool}{N:Nat}(h:∀ i,i<N->P i=Q i):∀ i,i<=N->dN P i=dN Q i
 | 0,_=>rfl
 | i+1,hi=>by
  unfold dN;rw[kh h i (by omega),h i (by omega)]
theorem uf {x:aj}(hf:jW x){P Q:Nat->Bool}(h:∀ i,i<x.u.length->P i=Q i):∀ i,i<=x.u.length->fw x P i=fw x Q i
 | 0,_=>rfl
 | i+1,hi=>by
  unfold fw;have e:kV P (aX x i)=kV Q (aX x i):=by
   unfold kV;split
   ·next o=>rw[kh h _ (Nat.le_of_lt (kd hf (by omega) o).2)]
   ·split
    ·next o=>rw[kh h _ (Nat.le_of_lt (jT hf (by omega) o).2)]
    ·rfl
  rw[uf hf h i (by omega),h i (by omega),e]
theorem oy {x y y':aj}(hf:jW x)(h:gW x y)(h':gW x y'):y=y':=by
 obtain⟨K,k1,rfl⟩:=h;obtain⟨K',k2,rfl⟩:=h';have e:∀ i,i<x.u.length->K i=K' i:=fun i hi=>by
  rw[Bool.eq_iff_iff,k1 i hi,k2 i hi]
 unfold oE;rw[rW e _ n_];split;{rfl}
 ·have es:∀ i,i<x.u.length->aE x K i=aE x K' i:=fun i hi=>Ay e hi;rw[uf hf es _ n_];have en:x.g.map (ll (aE x K))=x.g.map (ll (aE x K')):=by
   refine List.map_congr_left (fun n hn=>?_);obtain⟨j,hj,rfl⟩:=zaf hn;have:=hf.g j hj;rw[g_ hj]at this;simp only[Option.getD_some]at this;unfold ll;rw[kh es _ this.2.1,kh es _ this.2.2.2]
  rw[en]
def dr {α:Type}(T sz:Nat)(f:α->List Value)(w:w_)(base:Nat)(v:Value)(t:List α):Prop:=w.ownsRow base T sz v t.length (t.flatMap f)
theorem Kf {α:Type}{f:α->List Value}{sz:Nat}(hf:∀ x,(f x).length=sz)(z:α)(l:List α)(j i:Nat)(hj:j<l.length)(hi:i<sz):(l.flatMap f)[j * sz+i]? = (f (l[j]?.getD z))[i]?:=by
 induction l generalizing j with
 | nil=>exact zcc hj (bW _)
 | cons a l ih=>
  rw[List.flatMap_cons];cases j with
  | zero=>
   rw[List.getElem?_append_left (by rw[hf];omega)];simp
  | succ j=>
   have e1:(j+1) * sz=j * sz+sz:=Nat.succ_mul j sz;rw[List.getElem?_append_right (by rw[hf];omega)];have e:(j+1) * sz+i-(f a).length=j * sz+i:=by{rw[hf];omega};rw[e,ih j (by simpa using hj)];simp
section
variable {α:Type} {T sz:Nat} {f:α->List Value} {w w':w_} {base base':Nat} {v:Value} {t:List α}
theorem dr.lenV (h:dr T sz f w base v t):∃ a c,v=.slice a t.length c:=by
 rcases h.2 with⟨rfl,h0⟩ | ⟨g,cap,gh,rfl,_⟩;{rw[h0];exact⟨none,0,rfl⟩};{exact⟨_,_,rfl⟩}
theorem dr.push {x:α}(h:w.ownsRow base T sz v (t.length+1) (t.flatMap f++f x)):dr T sz f w base v (t++[x]):=by
 unfold dr;rw[zad,List.flatMap_append];simpa using h
theorem dr.at (h:dr T sz f w base v t)(hf:∀ x,(f x).length=sz)(z:α)(h0:0<t.length):∃ g cap,v=s_ g 0 t.length cap/\base<=g/\g<w.heap.size/\t.length<=cap/\∀ j,j<t.length->∀ i,i<sz->w.cell? (a_ g (j * sz+i))=(f (t[j]?.getD z))[i]?:=by
 rcases h.2 with⟨_,h1⟩ | ⟨g,cap,gh,rfl,hb,hg,px,h2⟩;{omega};{refine⟨g,cap,rfl,hb,(zbc.1 hg).1,px,fun j hj i hi=>?_⟩;have h3:j * sz+i<t.length * sz:=by{have:=Nat.mul_le_mul_right sz (show j+1<=t.length by omega);rw[Nat.succ_mul]at this;omega};rw[World.ownsRow.cellAt h (j * sz+i) h3,Kf hf z t j i hj hi]}
theorem dr.same (h:dr T sz f w base v t)(hb:∀ k,v.ownBlock=some k->w'.heap[k]? = w.heap[k]?):dr T sz f w' base v t:=by
 refine⟨h.1,?_⟩;rcases h.2 with hn | ⟨g,cap,gh,rfl,h1,hg,h2⟩;{exact .inl hn};{exact .inr ⟨g,cap,gh,rfl,h1,(hb g rfl).trans hg,h2⟩}
theorem dr.lt (h:dr T sz f w base v t):∀ k,v.ownBlock=some k->base<=k/\k<w.heap.size:=fun k e=>by
 rcases h.2 with⟨rfl,_⟩ | ⟨g,cap,gh,rfl,h1,hg,h2⟩
 ·cases e
 ·cases e;exact⟨h1,(zbc.1 hg).1⟩
theorem dr.below (h:dr T sz f w base v t)(hb:b_ w w'):dr T sz f w' base v t:=h.same (fun k e=>hb.block k (h.lt k e).2)
theorem dr.base_le (h:dr T sz f w base v t)(hb:base'<=base):dr T sz f w base' v t:=by
 refine⟨h.1,?_⟩;rcases h.2 with hn | ⟨g,cap,gh,rfl,h1,h2⟩;{exact .inl hn};{exact .inr ⟨g,cap,gh,rfl,zah hb h1,h2⟩}
end
def mv (w:w_)(b off:Nat)(x:aj):Prop:=∀ a,a<x.u.length->aK w b (off+a * 5) (aR x a)
theorem mv.keep {w w':w_}{b off:Nat}{x:aj}(h:mv w b off x)(hl:b<w.heap.size)(hb:b_ w w'):mv w' b off x:=fun a ha=>by
 have k:=h a ha;have e:∀ o,w'.cell? (a_ b o)=w.cell? (a_ b o):=fun o=>hb.cell (p:=(a_ b o)) hl;exact⟨(e _).trans k.op,(e _).trans k.fa,(e _).trans k.fb,(e _).trans k.fc,(e _).trans k.fd⟩
theorem wI (x:aj)(at_:Nat)(nm:ByteArray)(ln pr:Int)(rs:Bool)(rg:Int)(v5 v6 v8:Value)(b off c7:Nat)(w:w_)(hf:jW x)(cY:b<w.heap.size)(qy:mv w b off x)(fW:at_<x.u.length) :
  c_ 65 #[.agg #[.string nm,i_ ln,i_ pr,.bool rs,i_ rg,v5,v6,s_ b off x.u.length c7,v8],i_ at_] w fun e w'=>e=.returned (i_ ((gq x 100 at_:Nat):Int))/\b_ w w':=by
 have hN:=hf.few;have HF:=af hf;have dD:∀ o,b_ w (w.alloc o):=fun o=>r_.alloc n_ o;have En:H_ (∀ o,mv (w.alloc o) b off x):=fun o=>qy.keep cY (dD o);have dQ:=af dD;clear hf qy dD;go_enter Tryz.func65,Tryz.ntmps65;go_wp2
 go_loopg [1,5] 100 (fun gg a i wr=>∃(k a':Nat),k+gg=100/\a=i_ a'/\i=i_ k/\a'<x.u.length/\H_ (gq x gg a'=gq x 100 at_)/\H_ (mv wr b off x)/\wr.cell? (a_ w.heap.size 7)=some (s_ b off x.u.length c7)/\b_ w wr/\w.heap.size<wr.heap.size);(case atStart=>exact⟨0,at_,by omega,rfl,rfl,fW,rfl,En.o _,by simp[go_sem],dQ.o _,by simp⟩);case round=>
  obtain⟨k,a',hk,rfl,rfl,ha,rH,Lc,hc7,ei,km⟩:=hrel;have bj:b<wr.heap.size:=by{omega};by_cases hk100:k<100
  ·have N:=Lc.o a' ha;have c0:=N.op;have c1:=N.fa;obtain⟨g',gP⟩:∃ g',gk=g'+1:=⟨gk-1,by omega⟩;have haI:(a':Int)<x.u.length:=by omega
   by_cases ho:(aR x a').op=19
   ·obtain⟨f0,f1⟩:=HF.o.jump a' ha (.inl ho);obtain⟨A,hA⟩:=iV f0;rw[ho]at c0;rw[hA]at c1 f1;have NX:H_ (gq x g' A=gq x 100 at_):=by
     show _=_;rw[<-rH.o,gP];show _=if(aR x a').op=19 then gq x g' (aR x a').fa.toNat else a';rw[zca ho,hA];rfl
    have KV:A<x.u.length:=f1;clear N f0 f1 hA ho rH;go_wp2;go_roundg g';(case measure=>omega);case rel=>exact⟨k+1,A,by omega,rfl,by go_num,KV,NX,Lc,hc7,ei,km⟩
   ·have UW:((aR x a').op==19)=false:=by{simpa using ho};have vj:H_ (a'=gq x 100 at_):=by
     show _=_;rw[<-rH.o,gP];show _=if(aR x a').op=19 then gq x g' (aR x a').fa.toNat else a';rw[zcb ho]
    clear N ho rH;generalize (aR x a').op=op at *;go_wp2;go_ret;exact⟨by rw[<-vj.o];rfl,ei⟩
  {have Ff:gk=0:=by{omega};have vj:H_ (a'=gq x 100 at_):=by{show _=_;rw[<-rH.o,Ff];rfl};have UY:¬((k:Int)<100):=by{omega};clear rH;go_wp2;go_ret;exact⟨by rw[<-vj.o];rfl,ei⟩}
def iB (x:aj)(k:Nat):List az:=(List.range k).map (aX x)
theorem Dr (x:aj)(k:Nat):iB x (k+1)=iB x k++[aX x k]:=by unfold iB;rw[List.range_succ,List.map_append];rfl
theorem rd (x:aj)(k:Nat):(iB x k).length=k:=by unfold iB;simp
theorem F4 (x:aj){k i:Nat}(hi:i<k):(iB x k)[i]?.getD az.z=aX x i:=by unfold iB;simp[hi]
abbrev gN (w:w_) (base:Nat) (v:Value) (t:List az):Prop:=dr 51 5 aV w base v t
theorem zP (x:aj)(nm:ByteArray)(ln pr:Int)(rs:Bool)(rg:Int)(v5 v6 v8:Value)(b off c7:Nat)(w:w_)(hf:jW x)(cY:b<w.heap.size)(qy:mv w b off x) :
  c_ 23 #[.agg #[.string nm,i_ ln,i_ pr,.bool rs,i_ rg,v5,v6,s_ b off x.u.length c7,v8]] w fun e w'=>∃ v,e=.returned v/\gN w' w.heap.size v (iB x x.u.length)/\b_ w w':=by
 have hN:=hf.few;have HF:=af hf;have dD:∀ o,b_ w (w.alloc o):=fun o=>r_.alloc n_ o;have En:H_ (∀ W,b_ w W->mv W b off x):=fun W hW a ha=>by
  have k:=qy a ha;have e:∀ o,W.cell? (a_ b o)=w.cell? (a_ b o):=fun o=>hW.cell (p:=(a_ b o)) cY;exact⟨(e _).trans k.op,(e _).trans k.fa,(e _).trans k.fb,(e _).trans k.fc,(e _).trans k.fd⟩
 have dQ:=af dD;obtain⟨i0,hi,dE,cS,dA⟩:=aM la;clear hf qy dD;go_enter Tryz.func23,Tryz.ntmps23;go_wp2
 go_loopg [3,9] x.u.length (fun gg v i wr=>∃(k:Nat),k+gg=x.u.length/\i=i_ k/\H_ (gN wr (w.heap.size+1) v (iB x k))/\H_ (Below (w.heap.size+1) (w.alloc (.cells #[.string nm,i_ ln,i_ pr,.bool rs,i_ rg,v5,v6,s_ b off x.u.length c7,v8] 43)) wr));(case atStart=>exact⟨0,by omega,rfl,zbh _ _ _ _,r_⟩);case round=>
  obtain⟨k,hk,rfl,bb,ei⟩:=hrel;have Ii:b_ w wr:=(dQ.o _).trans (ei.o.mono (by omega));have km:w.heap.size+1<=wr.heap.size:=by{have:=ei.o.size;simpa using this};have hszl:w.heap.size<wr.heap.size:=by{omega};by_cases au:k<x.u.length
  ·have N:=En.o wr Ii k au;have c0:=N.op;have c1:=N.fa;have c2:=N.fb;have c3:=N.fc;have c4:=N.fd;have bj:b<wr.heap.size:=by omega
   have kk:∀ j,j<9->wr.cell? (a_ w.heap.size j)=_:=fun j hj=>ei.o.cell (p:=(a_ w.heap.size j)) (show w.heap.size<w.heap.size+1 by omega);have k0:=kk 0 (by omega);have k1:=kk 1 (by omega);have k2:=kk 2 (by omega);have k3:=kk 3 (by omega);have k4:=kk 4 (by omega);have k5:=kk 5 (by omega);have k6:=kk 6 (by omega);have k7:=kk 7 (by omega);have k8:=kk 8 (by omega);simp[go_sem]at k0 k1 k2 k3 k4 k5 k6 k7 k8;have HA:H_ (iB x (k+1)=iB x k++[aX x k]):=Dr x k;have HL:H_ ((iB x k).length=k):=rd x k;clear N kk;by_cases ho:(aR x k).op=19
   ·obtain⟨f0,f1⟩:=HF.o.jump k au (.inl ho);obtain⟨A,hA⟩:=iV f0;have HN:H_ (aX x k=⟨(aR x k).op,(gq x 100 A:Nat),(aR x k).fb,(aR x k).fc,(aR x k).fd⟩):=by{show lQ x (aR x k)=_;unfold lQ;rw[zca ho,hA];rfl};have KV:A<x.u.length:=by{rw[hA]at f1;exact f1};rw[hA]at c1;have FR:H_ (∀ W,b_ w W->c_ 65 #[.agg #[.string nm,i_ ln,i_ pr,.bool rs,i_ rg,v5,v6,s_ b off x.u.length c7,v8],i_ (A:Nat)] W fun e w'=>e=.returned (i_ ((gq x 100 A:Nat):Int))/\b_ W w'):=fun W hW=>wI x A nm ln pr rs rg v5 v6 v8 b off c7 W HF.o (by have:=hW.size;omega) (En.o W hW) KV;have gQ:H_ (∀ o,b_ w (wr.alloc o)):=fun o=>Ii.alloc Ii.size o;clear f0 f1 hA;rw[ho]at c0 HN;clear ho;generalize (aR x k).fb=fx at *;generalize (aR x k).fc=fc at *;generalize (aR x k).fd=fd at *;generalize gq x 100 A=F at *;go_wp2_with fail
    refine(FR.o _ (gQ.o _)).mono ?_;rintro e W ⟨rfl,sQ⟩;have m:∀ j,W.cell? (a_ wr.heap.size j)=_:=fun j=>sQ.cell (p:=(a_ wr.heap.size j)) (by simp);have m0:=m 0;have m1:=m 1;have m2:=m 2;have m3:=m 3;have m4:=m 4;simp[go_sem]at m0 m1 m2 m3 m4;have z1:W.frozen? (a_ wr.heap.size 1)=false:=by rw[sQ.frozen (p:=(a_ wr.heap.size 1)) (by simp)];simp[go_sem]
    have Pe:wr.heap.size+1<=W.heap.size:=by{have:=sQ.size;simpa using this};have SV:wr.heap.size<W.heap.size:=by omega
    have Eb:b_ wr W:=(r_.alloc n_ _).trans (sQ.mono (by simp));have OW:H_ (∀ v,gN (W.setCell (a_ wr.heap.size 1) v) (w.heap.size+1) u3 (iB x k)):=fun v=>(bb.o.below Eb).same (fun q e=>zbg W (a_ wr.heap.size 1) q v (by have:=(dr.lt bb.o q e).2;show q≠wr.heap.size;omega));have BW:H_ (∀ v,Below (w.heap.size+1) (w.alloc (.cells #[.string nm,i_ ln,i_ pr,.bool rs,i_ rg,v5,v6,s_ b off x.u.length c7,v8] 43)) (W.setCell (a_ wr.heap.size 1) v)):=fun v=>(ei.o.trans (Eb.mono km)).setCell km v;clear m sQ Eb FR gQ;go_wp2_with (first
     | (at_builtin;refine zce _ rfl _ _ 40 rfl (w.heap.size+1) 51 i0 (.agg #[i_ 0,i_ 0,i_ 0,i_ 0,i_ 0]) 5 40 Tryz.underlying40 hi dE cS dA rfl (by decide) _ _ _ rfl (World.ownsRow.alloc (OW.o _) _) (a_ W.heap.size 0) 1 1 [i_ 19,i_ (F:Nat),i_ fx,i_ fc,i_ fd] rfl rfl ?c1 ?c2 ?c3 ?c4 ?c5 ?_)
     | go_in)
    (case c1=>intro j u hj;rcases j with _ | _ | _ | _ | _ | _<;>simp at hj<;>subst hj<;>simp[Addr.add,go_sem]);(case c2=>intro u hu;simp at hu;rcases hu with rfl | rfl | rfl | rfl | rfl<;>rfl);(case c3=>rw[HL.o];unfold maxLen;omega);(case c4=>rw[HL.o];omega);(case c5=>simp;omega);intro v' w1 di hgrow _;have R1:H_ (gN w1 (w.heap.size+1) v' (iB x (k+1))):=by{show gN _ _ _ _;rw[HA.o,HN.o];exact dr.push di};have R2:H_ (Below (w.heap.size+1) (w.alloc (.cells #[.string nm,i_ ln,i_ pr,.bool rs,i_ rg,v5,v6,s_ b off x.u.length c7,v8] 43)) w1):=(Below.alloc (BW.o _) (by simp;omega) _).grown hgrow (by simp;omega) (fun j hj=>(dr.lt bb.o j hj).1);clear di hgrow;go_wp2;go_roundg (x.u.length-(k+1));(case measure=>omega);case rel=>exact⟨k+1,by omega,by go_num,R1,R2⟩
   by_cases ml:dZ (aR x k).op=true
   ·obtain⟨f0,f1⟩:=HF.o.branch k au ml;obtain⟨A,hA⟩:=iV f0;have HN:H_ (aX x k=⟨(aR x k).op,(aR x k).fa,(gq x 100 A:Nat),(aR x k).fc,(aR x k).fd⟩):=by{show lQ x (aR x k)=_;unfold lQ;rw[zcb ho,zca ml,hA];rfl};have KV:A<x.u.length:=by{rw[hA]at f1;exact f1};rw[hA]at c2;unfold dZ at ml;simp only[Bool.or_eq_true,beq_iff_eq]at ml;have UW:((aR x k).op==19)=false:=by simpa using ho
    have FR:H_ (∀ W,b_ w W->c_ 65 #[.agg #[.string nm,i_ ln,i_ pr,.bool rs,i_ rg,v5,v6,s_ b off x.u.length c7,v8],i_ (A:Nat)] W fun e w'=>e=.returned (i_ ((gq x 100 A:Nat):Int))/\b_ W w'):=fun W hW=>wI x A nm ln pr rs rg v5 v6 v8 b off c7 W HF.o (by have:=hW.size;omega) (En.o W hW) KV;have gQ:H_ (∀ o,b_ w (wr.alloc o)):=fun o=>Ii.alloc Ii.size o;clear f0 f1 hA;generalize (aR x k).op=op at *;obtain⟨o,PG⟩:∃ o,o=op:=⟨_,rfl⟩;clear ho;rcases ml with(((rfl | rfl) | rfl) | rfl) | rfl
    all_goals
     generalize (aR x k).fa=fx at *;generalize (aR x k).fc=fc at *;generalize (aR x k).fd=fd at *;generalize gq x 100 A=F at *;go_wp2_with fail
     refine(FR.o _ (gQ.o _)).mono ?_;rintro e W ⟨rfl,sQ⟩;have m:∀ j,W.cell? (a_ wr.heap.size j)=_:=fun j=>sQ.cell (p:=(a_ wr.heap.size j)) (by simp);have m0:=m 0;have m1:=m 1;have m2:=m 2;have m3:=m 3;have m4:=m 4;simp[go_sem]at m0 m1 m2 m3 m4;have z1:W.frozen? (a_ wr.heap.size 2)=false:=by rw[sQ.frozen (p:=(a_ wr.heap.size 2)) (by simp)];simp[go_sem]
     have Pe:wr.heap.size+1<=W.heap.size:=by{have:=sQ.size;simpa using this};have SV:wr.heap.size<W.heap.size:=by omega
     have Eb:b_ wr W:=(r_.alloc n_ _).trans (sQ.mono (by simp));have OW:H_ (∀ v,gN (W.setCell (a_ wr.heap.size 2) v) (w.heap.size+1) u3 (iB x k)):=fun v=>(bb.o.below Eb).same (fun q e=>zbg W (a_ wr.heap.size 2) q v (by have:=(dr.lt bb.o q e).2;show q≠wr.heap.size;omega));have BW:H_ (∀ v,Below (w.heap.size+1) (w.alloc (.cells #[.string nm,i_ ln,i_ pr,.bool rs,i_ rg,v5,v6,s_ b off x.u.length c7,v8] 43)) (W.setCell (a_ wr.heap.size 2) v)):=fun v=>(ei.o.trans (Eb.mono km)).setCell km v;clear m sQ Eb FR gQ;go_wp2_with (first
      | (at_builtin;refine zce _ rfl _ _ 40 rfl (w.heap.size+1) 51 i0 (.agg #[i_ 0,i_ 0,i_ 0,i_ 0,i_ 0]) 5 40 Tryz.underlying40 hi dE cS dA rfl (by decide) _ _ _ rfl (World.ownsRow.alloc (OW.o _) _) (a_ W.heap.size 0) 1 1 [i_ o,i_ fx,i_ (F:Nat),i_ fc,i_ fd] rfl rfl ?c1 ?c2 ?c3 ?c4 ?c5 ?_)
      | go_in)
     (case c1=>intro j u hj;rcases j with _ | _ | _ | _ | _ | _<;>simp at hj<;>subst hj<;>simp[Addr.add,go_sem,PG]);(case c2=>intro u hu;simp at hu;rcases hu with rfl | rfl | rfl | rfl | rfl<;>rfl);(case c3=>rw[HL.o];unfold maxLen;omega);(case c4=>rw[HL.o];omega);(case c5=>simp;omega);intro v' w1 di hgrow _;subst PG;have R1:H_ (gN w1 (w.heap.size+1) v' (iB x (k+1))):=by{show gN _ _ _ _;rw[HA.o,HN.o];exact dr.push di};have R2:H_ (Below (w.heap.size+1) (w.alloc (.cells #[.string nm,i_ ln,i_ pr,.bool rs,i_ rg,v5,v6,s_ b off x.u.length c7,v8] 43)) w1):=(Below.alloc (BW.o _) (by simp;omega) _).grown hgrow (by simp;omega) (fun j hj=>(dr.lt bb.o j hj).1);clear di hgrow;go_wp2;go_roundg (x.u.length-(k+1));(case measure=>omega);case rel=>exact⟨k+1,by omega,by go_num,R1,R2⟩
   ·have HN:H_ (aX x k=⟨(aR x k).op,(aR x k).fa,(aR x k).fb,(aR x k).fc,(aR x k).fd⟩):=by{show lQ x (aR x k)=_;unfold lQ;rw[zcb ho,zcb ml]};unfold dZ at ml;simp only[Bool.or_eq_true,beq_iff_eq,not_or]at ml;obtain⟨⟨⟨⟨Fp,Fn⟩,Fc⟩,Fd⟩,Fi⟩:=ml;have UW:((aR x k).op==19)=false:=by{simpa using ho};have Pj:((aR x k).op==20)=false:=by{simpa using Fp};have q21:((aR x k).op==21)=false:=by{simpa using Fn};have q38:((aR x k).op==38)=false:=by{simpa using Fc};have q39:((aR x k).op==39)=false:=by{simpa using Fd};have q41:((aR x k).op==41)=false:=by simpa using Fi
    clear ho Fp Fn Fc Fd Fi;generalize (aR x k).op=op at *;generalize (aR x k).fa=fa at *;generalize (aR x k).fb=fb at *;generalize (aR x k).fc=fc at *;generalize (aR x k).fd=fd at *;have OW:H_ (∀ o,gN (wr.alloc o) (w.heap.size+1) u3 (iB x k)):=fun o=>World.ownsRow.alloc bb.o o;have BW:H_ (∀ o,Below (w.heap.size+1) (w.alloc (.cells #[.string nm,i_ ln,i_ pr,.bool rs,i_ rg,v5,v6,s_ b off x.u.length c7,v8] 43)) (wr.alloc o)):=fun o=>ei.o.alloc km o;go_wp2_with (first
     | (at_builtin;refine zce _ rfl _ _ 40 rfl (w.heap.size+1) 51 i0 (.agg #[i_ 0,i_ 0,i_ 0,i_ 0,i_ 0]) 5 40 Tryz.underlying40 hi dE cS dA rfl (by decide) _ _ _ rfl (World.ownsRow.alloc (OW.o _) _) (a_ (wr.heap.size+1) 0) 1 1 [i_ op,i_ fa,i_ fb,i_ fc,i_ fd] rfl rfl ?c1 ?c2 ?c3 ?c4 ?c5 ?_)
     | go_in)
    (case c1=>intro j u hj;rcases j with _ | _ | _ | _ | _ | _<;>simp at hj<;>subst hj<;>simp[Addr.add,go_sem]);(case c2=>intro u hu;simp at hu;rcases hu with rfl | rfl | rfl | rfl | rfl<;>rfl);(case c3=>rw[HL.o];unfold maxLen;omega);(case c4=>rw[HL.o];omega);(case c5=>simp;omega);intro v' w1 di hgrow _;have R1:H_ (gN w1 (w.heap.size+1) v' (iB x (k+1))):=by{show gN _ _ _ _;rw[HA.o,HN.o];exact dr.push di};have R2:H_ (Below (w.heap.size+1) (w.alloc (.cells #[.string nm,i_ ln,i_ pr,.bool rs,i_ rg,v5,v6,s_ b off x.u.length c7,v8] 43)) w1):=(Below.alloc (BW.o _) (by simp;omega) _).grown hgrow (by simp;omega) (fun j hj=>(dr.lt bb.o j hj).1);clear di hgrow;go_wp2;go_roundg (x.u.length-(k+1));(case measure=>omega);case rel=>exact⟨k+1,by omega,by go_num,R1,R2⟩
  {have iJ:k=x.u.length:=by{omega};subst iJ;go_wp2;go_ret;exact⟨_,rfl,bb.o.base_le (by omega),Ii⟩}
end Go.Proofs.YtcjfjflljdojlaaGreatDoor
