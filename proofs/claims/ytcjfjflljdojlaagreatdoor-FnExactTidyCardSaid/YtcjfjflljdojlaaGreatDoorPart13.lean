import Derived.Test.YtcjfjflljdojlaaGreatDoorPart12
import Derived.Test.YtcjfjflljdojlaaGreatDoorPart02
import Derived.Test.YtcjfjflljdojlaaGreatDoorPart04
import Derived.Deep.RegionHeld3
import Derived.Test.YtcjfjflljdojlaaGreatDoorPart10
import Derived.Test.YtcjfjflljdojlaaGreatDoorPart01
set_option linter.unusedSimpArgs false
set_option linter.unusedVariables false
namespace Go.Proofs.YtcjfjflljdojlaaGreatDoor
open Go.RowKit
theorem fl.unique {l:List ak}{len:Nat->Nat}{bad:Nat->Nat->Bool}{F P F' P':Nat}(h:fl l len bad F P)(h':fl l len bad F' P'):F=F'/\P=P':=by
 obtain⟨a1,a2,a3,a4⟩:=h;obtain⟨b1,b2,b3,b4⟩:=h';by_cases c1:F'<F\/F'=F/\P'<P
 ·have:=a4 F' P' b1 b2 c1;rw[b3]at this;cases this
 by_cases c2:F<F'\/F=F'/\P<P'
 ·have:=b4 F P a1 a2 c2;rw[a3]at this;cases this
 omega
theorem fl.not {l:List ak}{len:Nat->Nat}{bad:Nat->Nat->Bool}{F P:Nat}(h:fl l len bad F P)(h':rk l len bad):False:=by
 have:=h' F P h.1 h.2.1;rw[h.2.2.1]at this;cases this
theorem dV {l:List ak}{c f n c' f' n':Int}(h:eO l c f n)(h':eO l c' f' n'):c=c'/\f=f'/\n=n':=by
 rcases h with⟨a1,rfl,rfl,rfl⟩ | ⟨a1,rfl,rfl,F,rfl,a2,a3,a4⟩ | ⟨a1,a2,rfl,F,P,rfl,rfl,a3⟩ | ⟨a1,a2,a4,rfl,F,P,rfl,rfl,a3⟩ | ⟨a1,a2,a4,a5,rfl,F,P,rfl,rfl,a3⟩ | ⟨a1,a2,a4,a5,a6,rfl,rfl,rfl⟩<;>
 rcases h' with⟨b1,rfl,rfl,rfl⟩ | ⟨b1,rfl,rfl,F',rfl,b2,b3,b4⟩ | ⟨b1,b2,rfl,F',P',rfl,rfl,b3⟩ | ⟨b1,b2,b4,rfl,F',P',rfl,rfl,b3⟩ | ⟨b1,b2,b4,b5,rfl,F',P',rfl,rfl,b3⟩ | ⟨b1,b2,b4,b5,b6,rfl,rfl,rfl⟩
 ·exact⟨rfl,rfl,rfl⟩
 ·exact absurd a1 b1
 ·exact absurd a1 b1
 ·exact absurd a1 b1
 ·exact absurd a1 b1
 ·exact absurd a1 b1
 ·exact absurd b1 a1
 ·by_cases e1:F<F'
  ·have:=b4 F e1;rw[a3]at this;cases this
  by_cases e2:F'<F
  ·have:=a4 F' e2;rw[b3]at this;cases this
  have:F=F':=by omega
  aj this;exact⟨rfl,rfl,rfl⟩
 ·have:=b2 F a2;rw[a3]at this;cases this
 ·have:=b2 F a2;rw[a3]at this;cases this
 ·have:=b2 F a2;rw[a3]at this;cases this
 ·have:=b2 F a2;rw[a3]at this;cases this
 ·exact absurd b1 a1
 ·have:=a2 F' b2;rw[b3]at this;cases this
 ·obtain⟨rfl,rfl⟩:=a3.unique b3;exact⟨rfl,rfl,rfl⟩
 ·exact(a3.not b4).elim
 ·exact(a3.not b4).elim
 ·exact(a3.not b4).elim
 ·exact absurd b1 a1
 ·have:=a2 F' b2;rw[b3]at this;cases this
 ·exact(b3.not a4).elim
 ·obtain⟨rfl,rfl⟩:=a3.unique b3;exact⟨rfl,rfl,rfl⟩
 ·exact(a3.not b5).elim
 ·exact(a3.not b5).elim
 ·exact absurd b1 a1
 ·have:=a2 F' b2;rw[b3]at this;cases this
 ·exact(b3.not a4).elim
 ·exact(b3.not a5).elim
 ·obtain⟨rfl,rfl⟩:=a3.unique b3;exact⟨rfl,rfl,rfl⟩
 ·exact(a3.not b6).elim
 ·exact absurd b1 a1
 ·have:=a2 F' b2;rw[b3]at this;cases this
 ·exact(b3.not a4).elim
 ·exact(b3.not a5).elim
 ·exact(b3.not a6).elim
 ·exact⟨rfl,rfl,rfl⟩
theorem fH {l:List ak}{c f n c' f' n':Int}(h:da l c f n)(h':da l c' f' n'):c=c'/\f=f'/\n=n':=by
 rcases h with⟨a1,a2⟩ | ⟨a1,rfl,F,P,rfl,rfl,a3⟩ | ⟨a1,a2,rfl,rfl,F,rfl,a5,a6,a3,a4⟩ | ⟨a1,a2,rfl,rfl,rfl,a9⟩<;>
 rcases h' with⟨b1,b2⟩ | ⟨b1,rfl,F',P',rfl,rfl,b3⟩ | ⟨b1,b2,rfl,rfl,F',rfl,b5,b6,b3,b4⟩ | ⟨b1,b2,rfl,rfl,rfl,b9⟩
 ·exact dV a1 b1
 ·exact absurd (dV a1 b1).1 a2
 ·exact absurd (dV a1 b1).1 a2
 ·exact absurd (dV a1 b1).1 a2
 ·exact absurd (dV b1 a1).1 b2
 ·obtain⟨rfl,rfl⟩:=a3.unique b3;exact⟨rfl,rfl,rfl⟩
 ·exact(a3.not b2).elim
 ·exact(a3.not b2).elim
 ·exact absurd (dV b1 a1).1 b2
 ·exact(b3.not a2).elim
 ·by_cases e1:F<F'
  ·have:=b4 F a5 e1;rw[a3]at this;cases this
  by_cases e2:F'<F
  ·have:=a4 F' b5 e2;rw[b3]at this;cases this
  have:F=F':=by omega
  aj this;exact⟨rfl,rfl,rfl⟩
 ·have:=b9 F a5 a6;rw[a3]at this;cases this
 ·exact absurd (dV b1 a1).1 b2
 ·exact(b3.not a2).elim
 ·have:=a9 F' b5 b6;rw[b3]at this;cases this
 ·exact⟨rfl,rfl,rfl⟩
def FS (G:World->Prop):Prop:=
 ∀(a:o_) (l:List ak) (c:Nat) (S:Nat->Prop) (w:World),G w->ao w S a l->(∀ b,S b->b<w.heap.size)->aI l<=1048576 ->
  c_ 26 #[.agg #[.slice a l.length c]] w fun e w'=>∃ x f n,e=.returned (.agg #[i_ x,i_ f,i_ n])/\da l x f n/\b_ w w'
def fC (x:Nat):Bool:=x / 9223372036854775808 % 2==1
theorem Fw:Ieee.double.read 0=.number false 0 (-1074):=by decide +kernel
theorem Mr {m k:Nat}(h:m≠0):m <<< k≠0:=by
 rw[Nat.shiftLeft_eq];exact Nat.mul_ne_zero h (Nat.pos_iff_ne_zero.1 (Nat.two_pow_pos k))
theorem Hc (x:Nat)(h:cJ x=true):Ieee.double.read x=.number (fC x) 0 (-1074):=by
 have h2:FloatKind.f64.format.order x 0=some Ordering.eq:=by simpa[cJ]using h
 have h':(Ieee.double.read x).order (Ieee.double.read 0)=some Ordering.eq:=h2;rw[Fw]at h';have e1:Ieee.double.signWeight=9223372036854775808:=by decide +kernel
 have e2:Ieee.double.binade=4503599627370496:=by decide +kernel
 have e3:Ieee.double.leastPlace=-1074:=by decide +kernel
 unfold Ieee.Format.read at h' ⊢;simp only[e1,e2,e3]at h' ⊢;have key:∀(s:Bool) (m:Nat) (i:Int),Ieee.Datum.order (.number s m i) (.number false 0 (-1074))=some Ordering.eq->m=0:=by
  intro s m i hh;by_cases e:m=0
  ·exact e
  ·exfalso
   simp only[Ieee.Datum.order,Ieee.signed,Option.some.injEq]at hh;have hp:=Mr (k:=(i-min i (-1074)).toNat) e;generalize m <<< (i-min i (-1074)).toNat=M at *;have h3:=Std.LawfulEqCmp.eq_of_compare hh;simp at h3;cases s<;>simp at h3<;>omega
 split at h'
 ·rename_i c;rw[if_pos c];have:=key _ _ _ h';rw[this];rfl
 ·exfalso
  split at h'
  ·have:=key _ _ _ h';omega
  ·split at h'
   ·revert h';simp only[Ieee.Datum.order];split<;>simp
   ·simp[Ieee.Datum.order]at h'
theorem Jm (x:Nat)(h:cJ x=true):rp x=!fC x:=by
 have hq:floatBits .quo .f64 4607182418800017408 x=((Ieee.double.read 4607182418800017408).quotient (Ieee.double.fractionBits+2) (Ieee.double.read x)).map Ieee.double.write:=rfl;unfold rp;rw[hq,tJ,Hc x h];cases fC x
 ·decide +kernel
 ·decide +kernel
end Go.Proofs.YtcjfjflljdojlaaGreatDoor
namespace Go.Proofs.YtcjfjflljdojlaaGreatDoor
def Rn (E:Nat->List Nat):Nat->Nat->Nat->Prop
 | 0,x,y=>x=y
 | n+1,x,y=>∃ z,z∈E x/\Rn E n z y
def mu (E:Nat->List Nat)(x y:Nat):Prop:=∃ n,Rn E n x y
def iu (E:Nat->List Nat)(x:Nat):Prop:=∃ z,z∈E x/\mu E z x
section
variable {E:Nat->List Nat} {x y z:Nat}
theorem mu.refl (E:Nat->List Nat)(x:Nat):mu E x x:=⟨0,rfl⟩
theorem Rn.add:∀{n m x},Rn E n x y->Rn E m y z->Rn E (n+m) x z
 | 0,m,x,h,h'=>by cases h;rw[Nat.zero_add];exact h'
 | n+1,m,x,⟨u,hu,h⟩,h'=>by rw[Nat.add_right_comm];exact⟨u,hu,h.add h'⟩
theorem mu.trans (h:mu E x y)(h':mu E y z):mu E x z:=by
 obtain⟨n,h⟩:=h;obtain⟨m,h'⟩:=h';exact⟨n+m,h.add h'⟩
theorem mu.step (h:y∈E x):mu E x y:=⟨1,y,h,rfl⟩
theorem mu.head (h:mu E x y)(hn:x≠y):∃ u,u∈E x/\mu E u y:=by
 obtain⟨n,h⟩:=h;cases n with
 | zero=>exact absurd h hn
 | succ n=>obtain⟨u,hu,h⟩:=h;exact⟨u,hu,n,h⟩
theorem mu.closed {p:Nat->Prop}(hp:∀ x,p x->∀ y,y∈E x->p y)(h:mu E x y)(hx:p x):p y:=by
 obtain⟨n,h⟩:=h
 suffices H:∀ n x,Rn E n x y->p x->p y from H n x h hx
 intro n
 induction n with
 | zero=>intro x h hx;cases h;exact hx
 | succ n ih=>intro x h hx;obtain⟨u,hu,h⟩:=h;exact ih u h (hp x hx u hu)
theorem tX (hn:x≠y)(h1:mu E x y)(h2:mu E y x):iu E x:=by
 obtain⟨u,hu,h⟩:=h1.head hn;exact⟨u,hu,h.trans h2⟩
end
structure Rg where
 came:Nat->Nat
 low:Nat->Nat
 path:List Nat
 count:Nat
 least:Nat
 found:Bool
def Rg.opn (T:Rg)(x:Nat):Prop:=x∈T.path
def Rg.shut (T:Rg)(x:Nat):Prop:=T.came x≠0/\x ∉ T.path
def Qs (E:Nat->List Nat)(p:Nat->Prop)(found:Bool)(least:Nat):Prop:=
 (found=false/\∀ x,p x->¬iu E x)\/(found=true/\p least/\iu E least/\∀ x,p x->iu E x->least<=x)
structure ks (E:Nat->List Nat)(T:Rg)(G:List Nat):Prop where
 nodup:T.path.Pairwise (fun x y=>T.came x<T.came y)
 vis:∀ x,x∈T.path->T.came x≠0
 cnt:∀ x,T.came x<=T.count
 gray:∀ x,x∈G->x∈T.path
 done:∀ x,T.came x≠0->x ∉ G->∀ y,y∈E x->T.came y≠0
 shut:∀ x,T.shut x->∀ y,y∈E x->T.shut y
 up:∀ x y,x∈T.path->y∈T.path->T.came x<=T.came y->mu E x y
 down:∀ y,y∈T.path->∃ x,x∈G/\T.came x<=T.came y/\mu E y x
 best:Qs E T.shut T.found T.least
structure pH (T T':Rg):Prop where
 came:∀ x,T.came x≠0->T'.came x=T.came x
 new:∀ x,T.came x=0->T'.came x≠0->T.count<T'.came x
 count:T.count<=T'.count
structure wJ (E:Nat->List Nat)(T:Rg)(G:List Nat)(i:Nat)(T':Rg):Prop where
 inv:ks E T' G
 grow:pH T T'
 low:∀ x,T.came x≠0->T'.low x=T.low x
 num:T'.came i=T.count+1
 ext:∃ X,T'.path=T.path++X/\(∀ x,x∈X->T.came x=0)/\(∀ u,u∈X->∀ v,v∈E u->v∈T'.path->T'.low i<=T'.came v) /\
  ((i∈X/\∃ v,v∈T'.path/\T'.came v=T'.low i/\mu E i v)\/(i ∉ X/\T'.low i=T'.came i))
 le:T'.low i<=T'.came i
structure lU (E:Nat->List Nat)(T:Rg)(G:List Nat)(i k:Nat)(T':Rg):Prop where
 inv:ks E T' (i::G)
 grow:pH T T'
 low:∀ x,T.came x≠0->T'.low x=T.low x
 num:T'.came i=T.count+1
 ext:∃ X,T'.path=T.path++i::X/\(∀ x,x∈X->T.came x=0)/\(∀ u,u∈X->∀ v,v∈E u->v∈T'.path->T'.low i<=T'.came v)
 seen:∀ j,j<k->∀ v,(E i)[j]? = some v->T'.came v≠0/\(v∈T'.path->T'.low i<=T'.came v)
 back:∃ v,v∈T'.path/\T'.came v=T'.low i/\mu E i v
 le:T'.low i<=T'.came i
def bZ {α:Type}(f:Nat->α)(i:Nat)(v:α)(x:Nat):α:=if x=i then v else f x
def Rg.push (T:Rg)(i:Nat):Rg:={ T with count:=T.count+1,came:=bZ T.came i (T.count+1),low:=bZ T.low i (T.count+1),path:=T.path++[i] }
def Rg.lower (T:Rg)(i v:Nat):Rg:={ T with low:=bZ T.low i (min (T.low i) v) }
section
variable {E:Nat->List Nat} {T T' T2:Rg} {G:List Nat} {i k:Nat}
theorem J5 (hI:ks E T G)(h0:T.came i=0)(hr:∀ x,x∈T.path->mu E x i):lU E T G i 0 (T.push i):=by
 have kp:i ∉ T.path:=fun h=>hI.vis i h h0;have hc:∀ x,x∈T.path->bZ T.came i (T.count+1) x=T.came x:=fun x hx=>by
  unfold bZ;rw[if_neg (fun e:x=i=>kp (e ▸ hx))]
 have y6:bZ T.came i (T.count+1) i=T.count+1:=by simp[bZ]
 have Ph:∀ x,(T.push i).shut x↔T.shut x:=fun x=>by
  simp only[Rg.push,Rg.shut,bZ,List.mem_append,List.mem_singleton];by_cases e:x=i
  ·aj e;simp[h0]
  ·simp[e]
 refine⟨⟨?_,?_,?_,?_,?_,?_,?_,?_,?_⟩,⟨?_,?_,?_⟩,?_,?_,?_,?_,?_,?_⟩
 ·show(T.path++[i]).Pairwise _;rw[List.pairwise_append];refine⟨?_,by simp,?_⟩
  ·refine hI.nodup.imp_of_mem ?_;intro a b ha hb tu;simp only[Rg.push];rw[hc a ha,hc b hb];exact tu
  ·intro a ha b hb;simp only[List.mem_singleton]at hb;aj hb;simp only[Rg.push];rw[hc a ha,y6];have:=hI.cnt a;omega
 ·intro x hx;simp only[Rg.push,List.mem_append,List.mem_singleton]at hx ⊢;unfold bZ;split
  ·omega
  ·rcases hx with hx | hx
   ·exact hI.vis x hx
   ·contradiction
 ·intro x;simp only[Rg.push,bZ];split
  ·omega
  ·have:=hI.cnt x;omega
 ·intro x hx;simp only[Rg.push,List.mem_append,List.mem_cons]at hx ⊢;rcases hx with rfl | hx
  ·simp
  ·exact .inl (hI.gray x hx)
 ·intro x hx hg y hy;simp only[List.mem_cons,not_or]at hg;simp only[Rg.push,bZ,hg.1,if_false]at hx ⊢;have:=hI.done x hx hg.2 y hy;split
  ·omega
  ·exact this
 ·intro x hx y hy;rw[Ph]at hx ⊢;exact hI.shut x hx y hy
 ·intro x y hx hy hxy;simp only[Rg.push,List.mem_append,List.mem_singleton]at hx hy hxy;rcases hx with hx | rfl<;>rcases hy with hy | rfl
  ·rw[hc x hx,hc y hy]at hxy;exact hI.up x y hx hy hxy
  ·exact hr x hx
  ·rw[hc y hy,y6]at hxy;have:=hI.cnt y;omega
  ·exact mu.refl _ _
 ·intro y hy;simp only[Rg.push,List.mem_append,List.mem_singleton]at hy;rcases hy with hy | rfl
  ·obtain⟨x,h1,h2,h3⟩:=hI.down y hy;refine⟨x,by simp[h1],?_,h3⟩;simp only[Rg.push];rw[hc x (hI.gray x h1),hc y hy];exact h2
  ·exact⟨y,by simp,n_,mu.refl _ _⟩
 ·have e:(T.push i).shut=T.shut:=funext fun x=>propext (Ph x);show Qs E (T.push i).shut T.found T.least;rw[e];exact hI.best
 ·intro x hx;simp only[Rg.push,bZ];rw[if_neg (fun e:x=i=>hx (e ▸ h0))]
 ·intro x h1 h2;simp only[Rg.push,bZ]at h2 ⊢;split at h2
  ·rename_i e;rw[if_pos e];omega
  ·exact absurd h1 h2
 ·simp only[Rg.push];omega
 ·intro x hx;simp only[Rg.push,bZ];rw[if_neg (fun e:x=i=>hx (e ▸ h0))]
 ·exact y6
 ·exact⟨[],rfl,by simp,by simp⟩
 ·intro j hj;omega
 ·exact⟨i,by simp[Rg.push],by simp[Rg.push,bZ],mu.refl _ _⟩
 ·simp[Rg.push,bZ]
theorem G3 (h:lU E T G i k T'){x:Nat}(hG:∀ g,g∈G->T.came g≠0/\g∈T.path)(hI:ks E T G)(hx:x∈T'.path):mu E x i:=by
 obtain⟨g,h1,h2,h3⟩:=h.inv.down x hx;refine h3.trans (h.inv.up g i (h.inv.gray g h1) (h.inv.gray i (by simp)) ?_);simp only[List.mem_cons]at h1;rcases h1 with rfl | h1
 ·exact n_
 ·rw[h.num,h.grow.came g (hG g h1).1];have:=hI.cnt g;omega
end
section
variable {E:Nat->List Nat} {T T' T2:Rg} {G:List Nat} {i k:Nat}
theorem wF (T:Rg)(i v x:Nat)(h:x≠i):(T.lower i v).low x=T.low x:=by simp[Rg.lower,bZ,h]
theorem jq (T:Rg)(i v:Nat):(T.lower i v).low i=min (T.low i) v:=by simp[Rg.lower,bZ]
theorem ks.lower (h:ks E T G)(i v:Nat):ks E (T.lower i v) G:=⟨h.nodup,h.vis,h.cnt,h.gray,h.done,h.shut,h.up,h.down,h.best⟩
theorem pH.trans (h:pH T T')(h':pH T' T2):pH T T2 where
 came x hx:=by
  have e:=h.came x hx;rw[h'.came x (by rw[e];exact hx),e]
 new x h0 h2:=by
  by_cases e:T'.came x=0
  ·have:=h'.new x e h2;have:=h.count;omega
  ·rw[h'.came x e];exact h.new x h0 e
 count:=Nat.le_trans h.count h'.count
theorem pH.lower (h:pH T T')(i v:Nat):pH T (T'.lower i v):=⟨h.came,h.new,h.count⟩
theorem wW (h:wJ E T G i T'){v:Nat}(hv:T.came v≠0)(ho:v∈T'.path):v∈T.path:=by
 obtain⟨X,h1,h2,_⟩:=h.ext;rw[h1,List.mem_append]at ho;rcases ho with ho | ho
 ·exact ho
 ·exact absurd (h2 v ho) hv
theorem ES (h:lU E T G i k T')(h0:T.came i=0){X:List Nat}(hX:T'.path=T.path++i::X)(hn:∀ x,x∈X->T.came x=0)(hI:ks E T G){u:Nat}(hu:u∈X):u ∉ i::G:=by
 intro hg;rw[List.mem_cons]at hg;rcases hg with rfl | hg
 ·have hp:=h.inv.nodup;rw[hX,List.pairwise_append]at hp;have:=(List.pairwise_cons.1 hp.2.1).1 u hu;omega
 ·exact hI.vis u (hI.gray u hg) (hn u hu)
theorem JU (hI:ks E T G)(h0:T.came i=0)(h:lU E T G i k T'){next:Nat}(hk:(E i)[k]? = some next)(hc:T'.came next=0)(hp:wJ E T' (i::G) next T2):lU E T G i (k+1) (T2.lower i (T2.low next)):=by
 obtain⟨X,hX,NL,NK⟩:=h.ext;obtain⟨Y,hY,hYn,hYl,hYe⟩:=hp.ext;have Ri:∀ x,T.came x≠0->T'.came x≠0:=fun x hx=>by rw[h.grow.came x hx];exact hx
 have y6:T'.came i≠0:=by rw[h.num];omega
 have Wr:T2.came i=T.count+1:=by rw[hp.grow.came i y6,h.num]
 have Sm:T2.low i=T'.low i:=hp.low i y6;have kp:next≠i:=fun e=>by rw[e]at hc;exact y6 hc
 have Wv:∀ v,T'.low i<=T'.came v->T'.came v≠0->T2.low i<=T2.came v:=fun v h1 h2=>by rw[Sm,hp.grow.came v h2];exact h1
 refine⟨hp.inv.lower _ _,(h.grow.trans hp.grow).lower _ _,?_,Wr,⟨X++Y,?_,?_,?_⟩,?_,?_,?_⟩
 ·intro x hx;rw[wF _ _ _ _ (fun e:x=i=>hx (e ▸ h0)),hp.low x (Ri x hx),h.low x hx]
 ·show T2.path=_;rw[hY,hX];simp
 ·intro x hx;rw[List.mem_append]at hx;rcases hx with hx | hx
  ·exact NL x hx
  ·have:=hYn x hx;by_cases e:T.came x=0
   ·exact e
   ·exact absurd this (Ri x e)
 ·intro u hu v hv hvo;rw[jq];rw[List.mem_append]at hu;rcases hu with hu | hu
  ·have huv:T'.came u≠0:=h.inv.vis u (by rw[hX];simp[hu]);have TW:T'.came v≠0:=h.inv.done u huv (ES h h0 hX NL hI hu) v hv;have:=Wv v (NK u hu v hv (wW hp TW hvo)) TW;exact Nat.le_trans (Nat.min_le_left _ _) this
  ·exact Nat.le_trans (Nat.min_le_right _ _) (hYl u hu v hv hvo)
 ·intro j hj v hv;rw[jq];by_cases e:j=k
  ·aj e
   obtain rfl:next=v:=by rw[hk]at hv;exact Option.some.inj hv
   refine⟨?_,fun _=>Nat.le_trans (Nat.min_le_right _ _) hp.le⟩;show T2.came next≠0;rw[hp.num];omega
  ·obtain⟨h1,h2⟩:=h.seen j (by omega) v hv;refine⟨?_,fun ho=>Nat.le_trans (Nat.min_le_left _ _) (Wv v (h2 (wW hp h1 ho)) h1)⟩;show T2.came v≠0;rw[hp.grow.came v h1];exact h1
 ·rw[jq];obtain⟨v,Hp,vk,KE⟩:=h.back;by_cases e:T2.low i<=T2.low next
  ·refine⟨v,?_,?_,KE⟩
   ·show v∈T2.path;rw[hY];simp[Hp]
   ·show T2.came v=_;rw[Nat.min_eq_left e,Sm,hp.grow.came v (h.inv.vis v Hp),vk]
  ·rcases hYe with⟨hy,v,Hp,vk,KE⟩ | ⟨hy,hy2⟩
   ·exact⟨v,Hp,by rw[Nat.min_eq_right (by omega)];exact vk,(mu.step (List.mem_of_getElem? hk)).trans KE⟩
   ·exfalso
    have h1:=h.le;rw[h.num]at h1;have h2:=hp.num;have h3:=h.inv.cnt i;rw[h.num]at h3;omega
 ·rw[jq];show _<=T2.came i;have h1:=h.le;rw[h.num]at h1;rw[Wr,Sm];exact Nat.le_trans (Nat.min_le_left _ _) h1
theorem JD (h0:T.came i=0)(h:lU E T G i k T'){next:Nat}(hk:(E i)[k]? = some next)(hc:T'.came next≠0)(ho:next∈T'.path):lU E T G i (k+1) (T'.lower i (T'.came next)):=by
 obtain⟨X,hX,NL,NK⟩:=h.ext;refine⟨h.inv.lower _ _,h.grow.lower _ _,?_,h.num,⟨X,hX,NL,?_⟩,?_,?_,?_⟩
 ·intro x hx;rw[wF _ _ _ _ (fun e:x=i=>hx (e ▸ h0)),h.low x hx]
 ·intro u hu v hv hvo;rw[jq];exact Nat.le_trans (Nat.min_le_left _ _) (NK u hu v hv hvo)
 ·intro j hj v hv;rw[jq];by_cases e:j=k
  ·aj e
   obtain rfl:next=v:=by rw[hk]at hv;exact Option.some.inj hv
   exact⟨hc,fun _=>Nat.min_le_right _ _⟩
  ·obtain⟨h1,h2⟩:=h.seen j (by omega) v hv;exact⟨h1,fun ho=>Nat.le_trans (Nat.min_le_left _ _) (h2 ho)⟩
 ·rw[jq];obtain⟨v,Hp,vk,KE⟩:=h.back;by_cases e:T'.low i<=T'.came next
  ·exact⟨v,Hp,by rw[Nat.min_eq_left e];exact vk,KE⟩
  ·exact⟨next,ho,by rw[Nat.min_eq_right (by omega)];rfl,mu.step (List.mem_of_getElem? hk)⟩
 ·rw[jq];exact Nat.le_trans (Nat.min_le_left _ _) h.le
theorem Jb (h:lU E T G i k T'){next:Nat}(hk:(E i)[k]? = some next)(hc:T'.came next≠0)(ho:next ∉ T'.path):lU E T G i (k+1) T':=by
 refine⟨h.inv,h.grow,h.low,h.num,h.ext,?_,h.back,h.le⟩;intro j hj v hv;by_cases e:j=k
 ·aj e
  obtain rfl:next=v:=by rw[hk]at hv;exact Option.some.inj hv
  exact⟨hc,fun h=>absurd h ho⟩
 ·exact h.seen j (by omega) v hv
theorem ql (h:lU E T G i (E i).length T'){v:Nat}(hv:v∈E i):T'.came v≠0/\(v∈T'.path->T'.low i<=T'.came v):=by
 obtain⟨j,hj,e⟩:=List.getElem_of_mem hv;exact h.seen j hj v (by rw[g_ hj,e])
theorem Kg (h0:T.came i=0)(h:lU E T G i (E i).length T')(ei:T'.low i≠T'.came i):wJ E T G i T':=by
 obtain⟨X,hX,NL,NK⟩:=h.ext;have pw:=h.le;have hI:=h.inv;obtain⟨v0,Hp,vk,KE⟩:=h.back;refine⟨⟨hI.nodup,hI.vis,hI.cnt,fun x hx=>hI.gray x (by simp[hx]),?_,hI.shut,hI.up,?_,hI.best⟩,h.grow,h.low,h.num,⟨i::X,hX,?_,?_,.inl ⟨by simp,v0,Hp,vk,KE⟩⟩,pw⟩
 ·intro x hx hg y hy;by_cases e:x=i
  ·aj e;exact(ql h hy).1
  ·exact hI.done x hx (by simp[e,hg]) y hy
 ·intro y hy;obtain⟨x,h1,h2,h3⟩:=hI.down y hy;rw[List.mem_cons]at h1;rcases h1 with rfl | h1
  ·obtain⟨x2,g1,g2,g3⟩:=hI.down v0 Hp;rw[List.mem_cons]at g1;rcases g1 with rfl | g1
   ·omega
   ·exact⟨x2,g1,by omega,(h3.trans KE).trans g3⟩
  ·exact⟨x,h1,h2,h3⟩
 ·intro x hx;rw[List.mem_cons]at hx;rcases hx with rfl | hx
  ·exact h0
  ·exact NL x hx
 ·intro u hu v hv hvo;rw[List.mem_cons]at hu;rcases hu with rfl | hu
  ·exact(ql h hv).2 hvo
  ·exact NK u hu v hv hvo
def Rg.close (T:Rg)(P:List Nat)(found:Bool)(least:Nat):Rg:={ T with path:=P,found:=found,least:=least }
def fG (T:Rg)(g:List Nat)(self:Bool)(m:Nat):Bool×Nat:=
 if(decide (1<g.length)||self)&&(!T.found||decide (m<T.least))then(true,m)else(T.found,T.least)
theorem JH (h0:T.came i=0)(T1:ks E T G)(h:lU E T G i (E i).length T')(he:T'.low i=T'.came i){X:List Nat}(hX:T'.path=T.path++i::X){m:Nat}(hm:m∈i::X)(Hm:∀ x,x∈i::X->m<=x){self:Bool}(Bn:self=true↔i∈E i) :
  wJ E T G i (T'.close T.path (fG T' (i::X) self m).1 (fG T' (i::X) self m).2):=by
 obtain⟨X',hX',NL,NK⟩:=h.ext;obtain rfl:X'=X:=by rw[hX]at hX';simpa using hX'.symm
 have hI:=h.inv;have ZS:i∈T'.path:=hI.gray i (by simp);have hpw:=hI.nodup;rw[hX,List.pairwise_append]at hpw;obtain⟨Z5,VT,aaN⟩:=hpw;have yQ:∀ x,x∈T.path->T'.came x<T'.came i:=fun x hx=>aaN x hx i (by simp);have KW:∀ x,x∈i::X'->T'.came i<=T'.came x:=fun x hx=>by
  rw[List.mem_cons]at hx;rcases hx with rfl | hx
  ·exact n_
  ·exact Nat.le_of_lt ((List.pairwise_cons.1 VT).1 x hx)
 have e9:∀ x,x∈T'.path↔x∈T.path\/x∈i::X':=fun x=>by rw[hX,List.mem_append]
 have Xy:∀ x,x∈T.path->x ∉ i::X':=fun x h1 h2=>by have:=yQ x h1;have:=KW x h2;omega
 have Yz:∀ x,x∈i::X'->x∈T'.path:=fun x hx=>(e9 x).2 (.inr hx);have hto:∀ x,x∈i::X'->mu E x i:=fun x hx=>by
  obtain⟨g,h1,h2,h3⟩:=hI.down x (Yz x hx);refine h3.trans (hI.up g i (hI.gray g h1) ZS ?_);rw[List.mem_cons]at h1;rcases h1 with rfl | h1
  ·exact n_
  ·exact Nat.le_of_lt (yQ g (T1.gray g h1))
 have Kq:∀ x,x∈i::X'->mu E i x:=fun x hx=>hI.up i x ZS (Yz x hx) (KW x hx);have Pk:∀ u,u∈i::X'->∀ v,v∈E u->T'.came v≠0/\v ∉ T.path:=fun u hu v hv=>by
  have Z7:T'.came v≠0:=by
   rw[List.mem_cons]at hu;rcases hu with rfl | hu
   ·exact(ql h hv).1
   ·exact hI.done u (hI.vis u (Yz u (by simp[hu]))) (ES h h0 hX NL T1 hu) v hv
  refine⟨Z7,fun hvp=>?_⟩;have h1:=yQ v hvp;have h2:T'.low i<=T'.came v:=by
   rw[List.mem_cons]at hu;rcases hu with rfl | hu
   ·exact(ql h hv).2 ((e9 v).2 (.inl hvp))
   ·exact NK u hu v hv ((e9 v).2 (.inl hvp))
  omega
 have Fg:∀ x,(T'.close T.path (fG T' (i::X') self m).1 (fG T' (i::X') self m).2).shut x↔T'.shut x\/x∈i::X':=fun x=>by
  show T'.came x≠0/\x ∉ T.path↔(T'.came x≠0/\x ∉ T'.path)\/x∈i::X';rw[e9];constructor
  ·rintro⟨h1,h2⟩;by_cases e:x∈i::X'
   ·exact .inr e
   ·exact .inl ⟨h1,fun h=>h.elim h2 e⟩
  ·rintro(⟨h1,h2⟩ | h1)
   ·exact⟨h1,fun h=>h2 (.inl h)⟩
   ·exact⟨hI.vis x (Yz x h1),fun h=>Xy x h h1⟩
 have Pz:∀ x,x∈i::X'->(iu E x↔(decide (1<(i::X').length)||self)=true):=fun x hx=>by
  constructor
  ·rintro⟨z,hz,hr⟩;cases X' with
   | cons a X2=>simp
   | nil=>
    obtain rfl:x=i:=by simpa using hx
    simp only[List.length_cons,List.length_nil,Bool.or_eq_true]
    right
    rw[Bn];by_cases e:z=x
    ·rw[e]at hz;exact hz
    ·exfalso
     obtain⟨h1,h2⟩:=Pk x (by simp) z hz;have hs:T'.shut z:=⟨h1,fun h=>by rw[e9]at h;rcases h with h | h;exact h2 h;simp at h;exact e h⟩;exact(hr.closed (p:=T'.shut) hI.shut hs).2 ZS
  ·intro hc;rw[Bool.or_eq_true,decide_eq_true_eq]at hc;by_cases hs:i∈E i
   ·have hri:iu E i:=⟨i,hs,mu.refl _ _⟩;by_cases e:x=i
    ·rw[e];exact hri
    ·exact tX e (hto x hx) (Kq x hx)
   ·have hl:1<(i::X').length:=hc.resolve_right (fun h=>hs (Bn.1 h));cases X' with
    | nil=>simp at hl
    | cons a X2=>
     by_cases e:x=i
     ·have ha:a≠i:=fun h=>by
       have:=(List.pairwise_cons.1 VT).1 a (by simp);rw[h]at this;omega
      aj e
      exact tX (Ne.symm ha) (Kq a (by simp)) (hto a (by simp))
     ·exact tX e (hto x hx) (Kq x hx)
 refine⟨⟨?_,?_,hI.cnt,T1.gray,?_,?_,?_,?_,?_⟩,⟨h.grow.came,h.grow.new,h.grow.count⟩,h.low,h.num,⟨[],by simp[Rg.close],by simp,by simp,.inr ⟨by simp,he⟩⟩,h.le⟩
 ·exact Z5
 ·exact fun x hx=>hI.vis x ((e9 x).2 (.inl hx))
 ·intro x hx hg y hy;by_cases e:x=i
  ·aj e;exact(ql h hy).1
  ·exact hI.done x hx (by simp[e,hg]) y hy
 ·intro x hx y hy;rw[Fg]at hx;rcases hx with hx | hx
  ·rw[Fg];exact .inl (hI.shut x hx y hy)
  ·exact Pk x hx y hy
 ·exact fun x y hx hy hxy=>hI.up x y ((e9 x).2 (.inl hx)) ((e9 y).2 (.inl hy)) hxy
 ·intro y hy;obtain⟨x,h1,h2,h3⟩:=hI.down y ((e9 y).2 (.inl hy));rw[List.mem_cons]at h1;rcases h1 with rfl | h1
  ·have:=yQ y hy;change T.path.Mem y at hy;omega
  ·exact⟨x,h1,h2,h3⟩
 ·have e:(T'.close T.path (fG T' (i::X') self m).1 (fG T' (i::X') self m).2).shut=fun x=>T'.shut x\/x∈i::X':=funext fun x=>propext (Fg x);show Qs E (T'.close T.path (fG T' (i::X') self m).1 (fG T' (i::X') self m).2).shut (fG T' (i::X') self m).1 (fG T' (i::X') self m).2;rw[e];have hb:=hI.best;clear e Fg;by_cases hc:(decide (1<(i::X').length)||self)=true
  ·have hr:∀ x,x∈i::X'->iu E x:=fun x hx=>(Pz x hx).2 hc;unfold fG;rw[hc,Bool.true_and];rcases hb with⟨hf,hb⟩ | ⟨hf,au,bo,bY⟩
   ·rw[hf,if_pos (by simp)];refine .inr ⟨rfl,.inr hm,hr m hm,fun x hx pp=>?_⟩;rcases hx with hx | hx
    ·exact absurd pp (hb x hx)
    ·exact Hm x hx
   ·rw[hf];by_cases ax:m<T'.least
    ·rw[if_pos (by simp[ax])];refine .inr ⟨rfl,.inr hm,hr m hm,fun x hx pp=>?_⟩;rcases hx with hx | hx
     ·have:=bY x hx pp;show m<=x;omega
     ·exact Hm x hx
    ·rw[if_neg (by simp[ax])];refine .inr ⟨rfl,.inl au,bo,fun x hx pp=>?_⟩;rcases hx with hx | hx
     ·exact bY x hx pp
     ·have:=Hm x hx;show T'.least<=x;omega
  ·have hr:∀ x,x∈i::X'->¬iu E x:=fun x hx h=>hc ((Pz x hx).1 h);have hcf:(decide (1<(i::X').length)||self)=false:=by simpa using hc
   unfold fG;rw[hcf,Bool.false_and,if_neg (by simp)];rcases hb with⟨hf,hb⟩ | ⟨hf,au,bo,bY⟩
   ·refine .inl ⟨hf,fun x hx=>?_⟩;rcases hx with hx | hx
    ·exact hb x hx
    ·exact hr x hx
   ·refine .inr ⟨hf,.inl au,bo,fun x hx pp=>?_⟩;rcases hx with hx | hx
    ·exact bY x hx pp
    ·exact absurd pp (hr x hx)
end
def vQ (came:Nat->Nat):Nat->Nat
 | 0=>0
 | n+1=>vQ came n+(if came n=0 then 1 else 0)
theorem tR:∀ n,vQ (fun _=>0) n=n
 | 0=>rfl
 | n+1=>by simp only[vQ,tR n];rfl
theorem AX {c c':Nat->Nat}:∀ n,(∀ x,x<n->c x=c' x)->vQ c n=vQ c' n
 | 0,_=>rfl
 | n+1,h=>by simp only[vQ];rw[AX n (fun x hx=>h x (by omega)),h n (by omega)]
theorem qm {c:Nat->Nat}{i v:Nat}(h0:c i=0)(hv:v≠0):∀ n,i<n->vQ (bZ c i v) n+1=vQ c n
 | 0,h=>absurd h (Nat.not_lt_zero _)
 | n+1,h=>by
  simp only[vQ];by_cases e:i=n
  ·aj e
   rw[AX (c:=bZ c i v) (c':=c) i (fun x hx=>by unfold bZ;rw[if_neg (by omega)])];simp[bZ,h0,hv]
  ·have:=qm h0 hv n (by omega);have e2:bZ c i v n=c n:=by unfold bZ;rw[if_neg (fun h=>e h.symm)]
   rw[e2];omega
theorem wS {c c':Nat->Nat}:∀ n,(∀ x,c x≠0->c' x≠0)->vQ c' n<=vQ c n
 | 0,_=>n_
 | n+1,h=>by
  have:=wS n h;simp only[vQ];by_cases e:c n=0
  ·rw[if_pos e];split<;>omega
  ·rw[if_neg e,if_neg (h n e)];omega
theorem E6 {c:Nat->Nat}{i:Nat}(h0:c i=0):∀ n,i<n->0<vQ c n
 | 0,h=>absurd h (Nat.not_lt_zero _)
 | n+1,h=>by
  simp only[vQ];by_cases e:i=n
  ·aj e;rw[if_pos h0];omega
  ·have:=E6 h0 n (by omega);omega
structure ow (E:Nat->List Nat)(a:Nat)(L:List Nat)(seen:Nat->Bool)(i:Nat):Prop where
 come:∀ x,x∈L->∃ z,z∈E a/\mu E z x
 first:∀ z,z∈E a->z∈L
 past:∀ j x,j<i->L[j]? = some x->x≠a/\seen x=true
 kids:∀ x,seen x=true->∀ y,y∈E x->y∈L
 old:∀ x,seen x=true->x∈L
section
variable {E:Nat->List Nat} {a i x:Nat} {L:List Nat} {seen:Nat->Bool}
theorem ow.start (E:Nat->List Nat)(a:Nat):ow E a (E a) (fun _=>false) 0:=
 ⟨fun x h=>⟨x,h,mu.refl _ _⟩,fun _ h=>h,fun _ _ h=>absurd h (Nat.not_lt_zero _),fun _ h=>Bool.noConfusion h,fun _ h=>Bool.noConfusion h⟩
theorem ow.again (h:ow E a L seen i)(hx:L[i]? = some x)(hn:x≠a)(hs:seen x=true):ow E a L seen (i+1):=
 ⟨h.come,h.first,fun j y hj hy=>by
  by_cases e:j=i
  ·aj e;rw[hx]at hy;obtain rfl:=Option.some.inj hy;exact⟨hn,hs⟩
  ·exact h.past j y (by omega) hy,h.kids,h.old⟩
theorem ow.new (h:ow E a L seen i)(hx:L[i]? = some x)(hn:x≠a):ow E a (L++E x) (bZ seen x true) (i+1):=by
 have hi:i<L.length:=(List.getElem?_eq_some_iff.1 hx).1;have hxL:x∈L:=List.mem_of_getElem? hx;refine⟨?_,?_,?_,?_,?_⟩
 ·intro y hy;rw[List.mem_append]at hy;rcases hy with hy | hy
  ·exact h.come y hy
  ·obtain⟨z,h1,h2⟩:=h.come x hxL;exact⟨z,h1,h2.trans (mu.step hy)⟩
 ·exact fun z hz=>List.mem_append.2 (.inl (h.first z hz))
 ·intro j y hj hy;rw[List.getElem?_append_left (by omega)]at hy;by_cases e:j=i
  ·aj e;rw[hx]at hy;obtain rfl:=Option.some.inj hy;exact⟨hn,by simp[bZ]⟩
  ·obtain⟨h1,h2⟩:=h.past j y (by omega) hy;exact⟨h1,by unfold bZ;split;rfl;exact h2⟩
 ·intro y hy z hz;rw[List.mem_append];by_cases e:y=x
  ·aj e;exact .inr hz
  ·simp only[bZ,e,if_false]at hy;exact .inl (h.kids y hy z hz)
 ·intro y hy;rw[List.mem_append];by_cases e:y=x
  ·aj e;exact .inl hxL
  ·simp only[bZ,e,if_false]at hy;exact .inl (h.old y hy)
theorem ow.yes (h:ow E a L seen i)(hx:L[i]? = some a):iu E a:=by
 obtain⟨z,h1,h2⟩:=h.come a (List.mem_of_getElem? hx);exact⟨z,h1,h2⟩
theorem ow.no (h:ow E a L seen i)(hi:L.length<=i):¬iu E a:=by
 rintro⟨z,h1,h2⟩;have hc:∀ x,x∈L->∀ y,y∈E x->y∈L:=fun x hx y hy=>by
  obtain⟨j,hj,e⟩:=List.getElem_of_mem hx;have:=h.past j x (by omega) (by rw[g_ hj,e]);exact h.kids x this.2 y hy
 have ha:a∈L:=h2.closed hc (h.first z h1);obtain⟨j,hj,e⟩:=List.getElem_of_mem ha;exact(h.past j a (by omega) (by rw[g_ hj,e])).1 rfl
end
end Go.Proofs.YtcjfjflljdojlaaGreatDoor
namespace Go.Proofs.YtcjfjflljdojlaaGreatDoor
structure bg where
 tr:Bool
 keep:Int
 hand:Int
def bg.z:bg:=⟨false,0,0⟩
structure fL where
 types:List Int
 guards:List bg
def bb (t:List Int)(r:Nat):Int:=t[r]?.getD 0
def cN (r:Nat):Int×Bool:=
 if r=2 then(1,true)else if r=3 then(3,true)else if r=4\/r=18\/r=19\/r=20 then(1,false)else if r=5 then(2,false)else if r=6 then(3,false)else(0,false)
structure gX where
 types:List Int
 taken:List Nat
 stay:List Nat
def eU (op:Bool)(x:Int):Nat:=if op=true/\x<0 then(-1-x).toNat else x.toNat
def gK (r:Nat)(x:Int)(s:gX):Option gX:=
 if(cN r).1=0 then some s
 else if bb s.types (eU (cN r).2 x)≠(cN r).1 then none
 else if(cN r).2=true/\x<0 then
  if eU true x∈s.stay then none else some ⟨s.types.set (eU true x) 0,s.taken++[eU true x],s.stay⟩
 else if(cN r).2=true then some s
 else if(r=18\/r=20)/\bb s.types (x.toNat+1)≠1 then none
 else if r=18/\bb s.types (x.toNat+2)≠1 then none
 else if r=19 then(if bb s.types (x.toNat+1)≠0 then none else some ⟨s.types,s.taken++[x.toNat],s.stay++[x.toNat]⟩)
 else some ⟨s.types,s.taken,s.stay++[x.toNat]⟩
def aX (r:List Nat)(n:aA)(s:gX):Nat->Option gX
 | 0=>some s
 | k+1=>match aX r n s k with
  | none=>none
  | some s'=>gK (r[k]?.getD 0) (dm n k) s'
def bI (l:List ak)(n:aA)(t:List Int):Option gX:=
 match aX ((bj n.op).getD []) n ⟨t,[],[]⟩ 4 with
 | none=>none
 | some s=>if n.op=11/\((am l n.fb.toNat).ups.any fun u=>u.1&&bb s.types u.2.toNat != 2)=true then none else some s
def bh (n:aA)(t:List Int):List Int:=
 if n.op=6 then t.set n.fa.toNat 2
 else if n.op=22\/n.op=27\/n.op=28 then t.set n.fa.toNat 3
 else if n.op=40 then t.set (n.fa.toNat+1) 1
 else if n.op=42 then t.set n.fa.toNat 0
 else if n.op=41 then t.set n.fc.toNat 3
 else if((bj n.op).getD [])[0]?.getD 0=1 then t.set n.fa.toNat 1
 else t
def dS (g:List bg)(keep:Int):Bool:=!(g.any fun x=>x.tr&&decide (keep<x.keep))
def aQ (n:aA)(g:List bg):Option (List bg):=
  if n.op=31 then(if g.length<50/\dS g n.fb=true then some (g++[⟨true,n.fb,n.fa⟩])else none)
  else if n.op=33 then(if g.length<50/\dS g n.fa=true then some (g++[⟨false,n.fa,0⟩])else none)
  else if n.op=32 then(if g.length=0\/(g[g.length-1]?.getD bg.z).tr=false then none else some (g.take (g.length-1)))
  else if n.op=34\/n.op=35\/n.op=36 then
    (if g.length=0\/(g[g.length-1]?.getD bg.z).tr=true\/(n.op=34/\dS g n.fa=false)then none
     else if n.op=34 then some (g.set (g.length-1) { g[g.length-1]?.getD bg.z with keep:=n.fa })
     else if n.op=36 then some (g.take (g.length-1))
     else some g)
  else some g
def kY (n:aA)(g:List bg)(taken:List Nat)(bef beh:List Int):Bool:=
  (List.range g.length).all fun i=>!(g[i]?.getD bg.z).tr ||
    ((taken.all fun r=>!decide ((r:Int)<(g[i]?.getD bg.z).keep)) &&
     (decide (n.op=32/\i+1=g.length)||(List.range (g[i]?.getD bg.z).keep.toNat).all fun r=>bb bef r==bb beh r))
def dI (n:aA)(t:List Int):List Int:=((t.take n.fb.toNat++List.replicate (t.length-n.fb.toNat) 0).set n.fb.toNat 1).set (n.fb.toNat+1) 1
def de (n:aA):Bool:=!(n.op==19||n.op==29||n.op==30)
def bK (n:aA)(a:Nat)(s:fL)(t:List Int)(g:List bg):List (Nat×fL):=
  (if de n then[(a+1,⟨t,g⟩)]else[]) ++
  (if n.op=19 then[(n.fa.toNat,⟨t,g⟩)]
   else if n.op=20\/n.op=21\/n.op=38\/n.op=39 then[(n.fb.toNat,⟨t,g⟩)]
   else if n.op=41 then[(n.fb.toNat,⟨t.set n.fc.toNat (bb s.types n.fc.toNat),g⟩)]
   else if n.op=31 then[(n.fa.toNat,⟨dI n s.types,s.guards⟩)]
   else[])
def ep (n:aA)(a:Nat):List Nat:=
 if n.op=1\/n.op=3\/n.op=28\/n.op=29\/n.op=30 then[]
 else if n.op=18/\n.fb=12 then[]
 else if n.op=19 then[n.fa.toNat]
 else if n.op=41 then[n.fb.toNat]
 else if n.op=20\/n.op=21\/n.op=38\/n.op=39 then[n.fb.toNat,a+1]
 else if n.op=31 then[n.fa.toNat,a+1]
 else[a+1]
structure dX where
 st:Nat->Option fL
 due:Nat->Bool
def Cg (a b:bg):Bool:=a.tr==b.tr&&a.keep==b.keep&&a.hand==b.hand
def kI:List bg->List bg->Bool
 | [],[]=>true
 | a::l,b::m=>Cg a b&&kI l m
 | _,_=>false
def mT (a b:fL):Bool:=a.types==b.types&&kI a.guards b.guards
theorem Cw {a b:bg}:Cg a b=true↔a=b:=by
 obtain⟨a1,a2,a3⟩:=a;obtain⟨b1,b2,b3⟩:=b;simp[Cg,and_assoc]
theorem ke:∀{a b:List bg},kI a b=true↔a=b
 | [],[]=>by simp[kI]
 | [],_::_=>by simp[kI]
 | _::_,[]=>by simp[kI]
 | x::l,y::m=>by simp[kI,Cw,ke (a:=l) (b:=m)]
theorem uz {a b:fL}:mT a b=true↔a=b:=by
 obtain⟨a1,a2⟩:=a;obtain⟨b1,b2⟩:=b;simp[mT,ke]
def gO (σ:dX)(x:Nat×fL):Option dX:=
 match σ.st x.1 with
 | none=>some ⟨bZ σ.st x.1 (some x.2),bZ σ.due x.1 true⟩
 | some s=>if mT s x.2=true then some σ else none
def fk:List (Nat×fL)->dX->Nat ⊕ dX
 | [],σ=>.inr σ
 | x::r,σ=>match gO σ x with
  | none=>.inl x.1
  | some σ'=>fk r σ'
def di (σ:dX)(N a:Nat):Prop:=a<N/\σ.due a=true/\∀ b,b<a->σ.due b=false
def mt (σ:dX)(N:Nat):Prop:=∀ b,b<N->σ.due b=false
def fT (l:List ak)(x:ak)(σ:dX)(a:Nat):(Int×Nat) ⊕ dX:=
 match σ.st a with
 | none=>.inl (0,0)
 | some s=>
  match bI l (aT x a) s.types with
  | none=>.inl (10,a)
  | some r=>
   match aQ (aT x a) s.guards with
   | none=>.inl (11,a)
   | some g=>
    if kY (aT x a) s.guards r.taken s.types (bh (aT x a) r.types)then
     match fk (bK (aT x a) a s (bh (aT x a) r.types) g) ⟨σ.st,bZ σ.due a false⟩with
     | .inl at_=>.inl (13,at_)
     | .inr σ'=>.inr σ'
    else .inl (12,a)
def dA (x:ak):List Int:=(List.range x.regs.toNat).map fun r:Nat=>if(r:Int)<x.params then(1:Int)else if x.rest=true/\(r:Int)=x.params then 3 else 0
def jb (x:ak):dX:=⟨bZ (fun _=>none) 0 (some ⟨dA x,[]⟩),bZ (fun _=>false) 0 true⟩
def jw (l:List ak)(x:ak):Nat->dX->Prop
 | 0,σ=>σ=jb x
 | k+1,σ=>∃ σ' a,jw l x k σ'/\di σ' x.ins.length a/\fT l x σ' a=.inr σ
theorem lK {σ:dX}{N a b:Nat}(h:di σ N a)(h':di σ N b):a=b:=by
 by_cases e1:a<b
 ·have:=h'.2.2 a e1;rw[h.2.1]at this;cases this
 by_cases e2:b<a
 ·have:=h.2.2 b e2;rw[h'.2.1]at this;cases this
 omega
theorem kZ {σ:dX}{N a:Nat}(h:di σ N a)(h':mt σ N):False:=by
 have:=h' a h.1;rw[h.2.1]at this;cases this
theorem nh {l:List ak}{x:ak}:∀{k σ σ'},jw l x k σ->jw l x k σ'->σ=σ'
 | 0,_,_,h,h'=>by rw[h,h']
 | k+1,_,_,⟨σ1,a,g1,g2,g3⟩,⟨σ2,b,f1,f2,f3⟩=>by
  obtain rfl:=nh g1 f1;obtain rfl:=lK g2 f2;rw[g3]at f3;exact Sum.inr.inj f3
theorem qP {l:List ak}{x:ak}:∀{d k σ},jw l x (k+d) σ->∃ σ',jw l x k σ'
 | 0,_,σ,h=>⟨σ,h⟩
 | d+1,_,_,⟨_,_,h,_⟩=>qP (d:=d) h
def E9 (l:List ak)(x:ak)(σ:dX):Prop:=mt σ x.ins.length\/∃ a y,di σ x.ins.length a/\fT l x σ a=.inl y
theorem tw {l:List ak}{x:ak}{k:Nat}{σ σ':dX}(h:jw l x k σ)(he:E9 l x σ)(h':jw l x (k+1) σ'):False:=by
 obtain⟨σ1,a,g1,g2,g3⟩:=h';obtain rfl:=nh h g1;rcases he with he | ⟨b,y,e1,e2⟩
 ·exact kZ g2 he
 ·obtain rfl:=lK g2 e1;rw[g3]at e2;cases e2
theorem xV {l:List ak}{x:ak}{k k':Nat}{σ σ':dX}(h:jw l x k σ)(he:E9 l x σ)(h':jw l x k' σ')(he':E9 l x σ'):σ=σ':=by
 by_cases e1:k<k'
 ·obtain⟨d,rfl⟩:∃ d,k'=k+1+d:=⟨k'-(k+1),by omega⟩;obtain⟨σ2,h2⟩:=qP h';exact(tw h he h2).elim
 by_cases e2:k'<k
 ·obtain⟨d,rfl⟩:∃ d,k=k'+1+d:=⟨k-(k'+1),by omega⟩;obtain⟨σ2,h2⟩:=qP h;exact(tw h' he' h2).elim
 obtain rfl:k=k':=by omega
 exact nh h h'
def ff (x:ak)(a:Nat):List Nat:=ep (aT x a) a
def qh (l:List ak)(x:ak)(σ:dX)(c:Int)(n:Nat):Prop:=
 (∃ a,di σ x.ins.length a/\fT l x σ a=.inl (c,n)) \/
 (mt σ x.ins.length/\c=14/\n<x.ins.length/\σ.st n≠none/\iu (ff x) n/\∀ b,b<n->σ.st b≠none->¬iu (ff x) b) \/
 (mt σ x.ins.length/\c=0/\n=0/\∀ b,b<x.ins.length->σ.st b≠none->¬iu (ff x) b)
def fU (l:List ak)(x:ak)(c:Int)(n:Nat):Prop:=∃ k σ,jw l x k σ/\qh l x σ c n
theorem qh.ended {l:List ak}{x:ak}{σ:dX}{c:Int}{n:Nat}(h:qh l x σ c n):E9 l x σ:=by
 rcases h with⟨a,h1,h2⟩ | ⟨h,_⟩ | ⟨h,_⟩
 ·exact .inr ⟨a,_,h1,h2⟩
 ·exact .inl h
 ·exact .inl h
theorem uE {l:List ak}{x:ak}{σ:dX}{c c':Int}{n n':Nat}(h:qh l x σ c n)(h':qh l x σ c' n'):c=c'/\n=n':=by
 rcases h with⟨a,h1,h2⟩ | ⟨a1,rfl,a2,a3,a4,a5⟩ | ⟨a1,rfl,rfl,a2⟩<;>rcases h' with⟨b,g1,g2⟩ | ⟨b1,rfl,b2,b3,b4,b5⟩ | ⟨b1,rfl,rfl,b2⟩
 ·obtain rfl:=lK h1 g1;rw[h2]at g2;have:=Sum.inl.inj g2;exact⟨congrArg Prod.fst this,congrArg Prod.snd this⟩
 ·exact(kZ h1 b1).elim
 ·exact(kZ h1 b1).elim
 ·exact(kZ g1 a1).elim
 ·refine⟨rfl,?_⟩;by_cases e1:n<n'
  ·exact absurd a4 (b5 n e1 a3)
  by_cases e2:n'<n
  ·exact absurd b4 (a5 n' e2 b3)
  omega
 ·exact absurd a4 (b2 n a2 a3)
 ·exact(kZ g1 a1).elim
 ·exact absurd b4 (a2 n' b2 b3)
 ·exact⟨rfl,rfl⟩
theorem fW {l:List ak}{x:ak}{c c':Int}{n n':Nat}(h:fU l x c n)(h':fU l x c' n'):c=c'/\n=n':=by
 obtain⟨k,σ,h1,h2⟩:=h;obtain⟨k',σ',g1,g2⟩:=h';obtain rfl:=xV h1 h2.ended g1 g2.ended;exact uE h2 g2
def dO (l:List ak)(c f n:Int):Prop:=
 (da l c f n/\c≠0) \/
 (da l 0 0 0/\c≠0/\∃ F P:Nat,f=F/\n=P/\F<l.length/\fU l (am l F) c P/\∀ g,g<F->fU l (am l g) 0 0) \/
 (da l 0 0 0/\c=0/\f=0/\n=0/\∀ g,g<l.length->fU l (am l g) 0 0)
theorem ms {l:List ak}{c f n c' f' n':Int}(h:dO l c f n)(h':dO l c' f' n'):c=c'/\f=f'/\n=n':=by
 rcases h with⟨a1,a2⟩ | ⟨a1,a2,F,P,rfl,rfl,a3,a4,a5⟩ | ⟨a1,rfl,rfl,rfl,a2⟩<;>rcases h' with⟨b1,b2⟩ | ⟨b1,b2,F',P',rfl,rfl,b3,b4,b5⟩ | ⟨b1,rfl,rfl,rfl,b2⟩
 ·exact fH a1 b1
 ·exact absurd (fH a1 b1).1 a2
 ·exact absurd (fH a1 b1).1 a2
 ·exact absurd (fH b1 a1).1 b2
 ·by_cases e1:F<F'
  ·exact absurd (fW a4 (b5 F e1)).1 a2
  by_cases e2:F'<F
  ·exact absurd (fW b4 (a5 F' e2)).1 b2
  obtain rfl:F=F':=by omega
  obtain⟨rfl,rfl⟩:=fW a4 b4;exact⟨rfl,rfl,rfl⟩
 ·exact absurd (fW a4 (b2 F a3)).1 a2
 ·exact absurd (fH b1 a1).1 b2
 ·exact absurd (fW b4 (a2 F' b3)).1 b2
 ·exact⟨rfl,rfl,rfl⟩
end Go.Proofs.YtcjfjflljdojlaaGreatDoor
