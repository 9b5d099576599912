import Derived.Test.YtcjfjflljdojlaaGreatDoorPart08
import Derived.Deep.RegionHeld3
set_option linter.all false
namespace Go.Proofs.YtcjfjflljdojlaaGreatDoor
open Go.RowKit
theorem fk.unique {l:List aj}{len:Nat->Nat}{bad:Nat->Nat->Bool}{F P F' P':Nat}(h:fk l len bad F P)(h':fk l len bad F' P'):F=F'/\P=P':=by
 obtain⟨a1,a2,a3,a4⟩:=h;obtain⟨b1,b2,b3,b4⟩:=h';by_cases c1:F'<F\/F'=F/\P'<P;{have:=a4 F' P' b1 b2 c1;rw[b3]at this;cases this};by_cases c2:F<F'\/F=F'/\P<P';{have:=b4 F P a1 a2 c2;rw[a3]at this;cases this};omega
theorem fk.not {l:List aj}{len:Nat->Nat}{bad:Nat->Nat->Bool}{F P:Nat}(h:fk l len bad F P)(h':rj l len bad):False:=by
 have:=h' F P h.1 h.2.1;rw[h.2.2.1]at this;cases this
theorem dU {l:List aj}{c f n c' f' n':Int}(h:eO l c f n)(h':eO l c' f' n'):c=c'/\f=f'/\n=n':=by
 rcases h with⟨a1,rfl,rfl,rfl⟩ | ⟨a1,rfl,rfl,F,rfl,a2,a3,a4⟩ | ⟨a1,a2,rfl,F,P,rfl,rfl,a3⟩ | ⟨a1,a2,a4,rfl,F,P,rfl,rfl,a3⟩ | ⟨a1,a2,a4,a5,rfl,F,P,rfl,rfl,a3⟩ | ⟨a1,a2,a4,a5,a6,rfl,rfl,rfl⟩<;>
 rcases h' with⟨b1,rfl,rfl,rfl⟩ | ⟨b1,rfl,rfl,F',rfl,b2,b3,b4⟩ | ⟨b1,b2,rfl,F',P',rfl,rfl,b3⟩ | ⟨b1,b2,b4,rfl,F',P',rfl,rfl,b3⟩ | ⟨b1,b2,b4,b5,rfl,F',P',rfl,rfl,b3⟩ | ⟨b1,b2,b4,b5,b6,rfl,rfl,rfl⟩;{exact⟨rfl,rfl,rfl⟩};{exact zcc a1 b1};{exact zcc a1 b1};{exact zcc a1 b1};{exact zcc a1 b1};{exact zcc a1 b1};{exact zcc b1 a1};{by_cases e1:F<F';{have:=b4 F e1;rw[a3]at this;cases this};by_cases e2:F'<F;{have:=a4 F' e2;rw[b3]at this;cases this};have:F=F':=by{omega};subst this;exact⟨rfl,rfl,rfl⟩};{have:=b2 F a2;rw[a3]at this;cases this};{have:=b2 F a2;rw[a3]at this;cases this};{have:=b2 F a2;rw[a3]at this;cases this};{have:=b2 F a2;rw[a3]at this;cases this};{exact zcc b1 a1};{have:=a2 F' b2;rw[b3]at this;cases this};{obtain⟨rfl,rfl⟩:=a3.unique b3;exact⟨rfl,rfl,rfl⟩};{exact(a3.not b4).elim};{exact(a3.not b4).elim};{exact(a3.not b4).elim};{exact zcc b1 a1};{have:=a2 F' b2;rw[b3]at this;cases this};{exact(b3.not a4).elim};{obtain⟨rfl,rfl⟩:=a3.unique b3;exact⟨rfl,rfl,rfl⟩};{exact(a3.not b5).elim};{exact(a3.not b5).elim};{exact zcc b1 a1};{have:=a2 F' b2;rw[b3]at this;cases this};{exact(b3.not a4).elim};{exact(b3.not a5).elim};{obtain⟨rfl,rfl⟩:=a3.unique b3;exact⟨rfl,rfl,rfl⟩};{exact(a3.not b6).elim};{exact zcc b1 a1};{have:=a2 F' b2;rw[b3]at this;cases this};{exact(b3.not a4).elim};{exact(b3.not a5).elim};{exact(b3.not a6).elim};{exact⟨rfl,rfl,rfl⟩}
theorem fB {l:List aj}{c f n c' f' n':Int}(h:cZ l c f n)(h':cZ l c' f' n'):c=c'/\f=f'/\n=n':=by
 rcases h with⟨a1,a2⟩ | ⟨a1,rfl,F,P,rfl,rfl,a3⟩ | ⟨a1,a2,rfl,rfl,F,rfl,a5,a6,a3,a4⟩ | ⟨a1,a2,rfl,rfl,rfl,a9⟩<;>
 rcases h' with⟨b1,b2⟩ | ⟨b1,rfl,F',P',rfl,rfl,b3⟩ | ⟨b1,b2,rfl,rfl,F',rfl,b5,b6,b3,b4⟩ | ⟨b1,b2,rfl,rfl,rfl,b9⟩;{exact dU a1 b1};{exact zcc (dU a1 b1).1 a2};{exact zcc (dU a1 b1).1 a2};{exact zcc (dU a1 b1).1 a2};{exact zcc (dU b1 a1).1 b2};{obtain⟨rfl,rfl⟩:=a3.unique b3;exact⟨rfl,rfl,rfl⟩};{exact(a3.not b2).elim};{exact(a3.not b2).elim};{exact zcc (dU b1 a1).1 b2};{exact(b3.not a2).elim};{by_cases e1:F<F';{have:=b4 F a5 e1;rw[a3]at this;cases this};by_cases e2:F'<F;{have:=a4 F' b5 e2;rw[b3]at this;cases this};have:F=F':=by{omega};subst this;exact⟨rfl,rfl,rfl⟩};{have:=b9 F a5 a6;rw[a3]at this;cases this};{exact zcc (dU b1 a1).1 b2};{exact(b3.not a2).elim};{have:=a9 F' b5 b6;rw[b3]at this;cases this};{exact⟨rfl,rfl,rfl⟩}
def GA (G:w_->Prop):Prop:=
 ∀(a:o_) (l:List aj) (c:Nat) (S:Nat->Prop) (w:w_),G w->am w S a l->(∀ b,S b->b<w.heap.size)->aH l<=1048576 ->
  c_ 26 #[.agg #[.slice a l.length c]] w fun e w'=>∃ x f n,e=.returned (.agg #[i_ x,i_ f,i_ n])/\cZ l x f n/\b_ w w'
def fH (x:Nat):Bool:=x / 9223372036854775808 % 2==1
theorem G6:Ieee.double.read 0=.number false 0 (-1074):=by decide +kernel
theorem Mo {m k:Nat}(h:m≠0):m <<< k≠0:=by
 rw[Nat.shiftLeft_eq];exact Nat.mul_ne_zero h (Nat.pos_iff_ne_zero.1 (Nat.two_pow_pos k))
theorem Hb (x:Nat)(h:cI x=true):Ieee.double.read x=.number (fH x) 0 (-1074):=by
 have h2:FloatKind.f64.format.order x 0=some Ordering.eq:=by{simpa[cI]using h};have h':(Ieee.double.read x).order (Ieee.double.read 0)=some Ordering.eq:=h2;rw[G6]at h';have e1:Ieee.double.signWeight=9223372036854775808:=by{decide +kernel};have e2:Ieee.double.binade=4503599627370496:=by{decide +kernel};have e3:Ieee.double.leastPlace=-1074:=by decide +kernel
 unfold Ieee.Format.read at h' ⊢;simp only[e1,e2,e3]at h' ⊢;have key:∀(s:Bool) (m:Nat) (i:Int),Ieee.Datum.order (.number s m i) (.number false 0 (-1074))=some Ordering.eq->m=0:=by
  intro s m i hh;by_cases e:m=0;{exact e};{exfalso;simp only[Ieee.Datum.order,Ieee.signed,Option.some.injEq]at hh;have hp:=Mo (k:=(i-min i (-1074)).toNat) e;generalize m <<< (i-min i (-1074)).toNat=M at *;have h3:=Std.LawfulEqCmp.eq_of_compare hh;simp at h3;cases s<;>simp at h3<;>omega}
 split at h';{rename_i c;rw[zca c];have:=key _ _ _ h';rw[this];rfl};{exfalso;split at h';{have:=key _ _ _ h';omega};{split at h';{revert h';simp only[Ieee.Datum.order];split<;>simp};{simp[Ieee.Datum.order]at h'}}}
theorem Jk (x:Nat)(h:cI x=true):rq x=!fH x:=by
 have hq:floatBits .quo .f64 4607182418800017408 x=((Ieee.double.read 4607182418800017408).quotient (Ieee.double.fractionBits+2) (Ieee.double.read x)).map Ieee.double.write:=rfl;unfold rq;rw[hq,uv,Hb x h];cases fH x;{decide +kernel};{decide +kernel}
end Go.Proofs.YtcjfjflljdojlaaGreatDoor
namespace Go.Proofs.YtcjfjflljdojlaaGreatDoor
def Rn (E:Nat->List Nat):Nat->Nat->Nat->Prop
 | 0,x,y=>x=y
 | n+1,x,y=>∃ z,z∈E x/\Rn E n z y
def mq (E:Nat->List Nat)(x y:Nat):Prop:=∃ n,Rn E n x y
def ir (E:Nat->List Nat)(x:Nat):Prop:=∃ z,z∈E x/\mq E z x
section
variable {E:Nat->List Nat} {x y z:Nat}
theorem mq.refl (E:Nat->List Nat)(x:Nat):mq E x x:=⟨0,rfl⟩
theorem Rn.add:∀{n m x},Rn E n x y->Rn E m y z->Rn E (n+m) x z
 | 0,m,x,h,h'=>by cases h;rw[Nat.zero_add];exact h'
 | n+1,m,x,⟨u,hu,h⟩,h'=>by rw[Nat.add_right_comm];exact⟨u,hu,h.add h'⟩
theorem mq.trans (h:mq E x y)(h':mq E y z):mq E x z:=by
 obtain⟨n,h⟩:=h;obtain⟨m,h'⟩:=h';exact⟨n+m,h.add h'⟩
theorem mq.step (h:y∈E x):mq E x y:=⟨1,y,h,rfl⟩
theorem mq.head (h:mq E x y)(hn:x≠y):∃ u,u∈E x/\mq E u y:=by
 obtain⟨n,h⟩:=h;cases n with
 | zero=>exact zcc h hn
 | succ n=>obtain⟨u,hu,h⟩:=h;exact⟨u,hu,n,h⟩
theorem mq.closed {p:Nat->Prop}(hp:∀ x,p x->∀ y,y∈E x->p y)(h:mq E x y)(hx:p x):p y:=by
 obtain⟨n,h⟩:=h
 suffices H:∀ n x,Rn E n x y->p x->p y from H n x h hx
 intro n
 induction n with
 | zero=>intro x h hx;cases h;exact hx
 | succ n ih=>intro x h hx;obtain⟨u,hu,h⟩:=h;exact ih u h (hp x hx u hu)
theorem uN (hn:x≠y)(h1:mq E x y)(h2:mq E y x):ir E x:=by
 obtain⟨u,hu,h⟩:=h1.head hn;exact⟨u,hu,h.trans h2⟩
end
structure Rg where
 q:Nat->Nat
 low:Nat->Nat
 w:List Nat
 count:Nat
 least:Nat
 found:Bool
def Rg.opn (T:Rg)(x:Nat):Prop:=x∈T.w
def Rg.shut (T:Rg)(x:Nat):Prop:=T.q x≠0/\x ∉ T.w
def Qe (E:Nat->List Nat)(p:Nat->Prop)(found:Bool)(least:Nat):Prop:=
 (found=false/\∀ x,p x->¬ir E x)\/(found=true/\p least/\ir E least/\∀ x,p x->ir E x->least<=x)
structure kq (E:Nat->List Nat)(T:Rg)(G:List Nat):Prop where
 nodup:T.w.Pairwise (fun x y=>T.q x<T.q y)
 vis:∀ x,x∈T.w->T.q x≠0
 cnt:∀ x,T.q x<=T.count
 gray:∀ x,x∈G->x∈T.w
 done:∀ x,T.q x≠0->x ∉ G->∀ y,y∈E x->T.q y≠0
 shut:∀ x,T.shut x->∀ y,y∈E x->T.shut y
 up:∀ x y,x∈T.w->y∈T.w->T.q x<=T.q y->mq E x y
 down:∀ y,y∈T.w->∃ x,x∈G/\T.q x<=T.q y/\mq E y x
 best:Qe E T.shut T.found T.least
structure qh (T T':Rg):Prop where
 q:∀ x,T.q x≠0->T'.q x=T.q x
 new:∀ x,T.q x=0->T'.q x≠0->T.count<T'.q x
 count:T.count<=T'.count
structure wL (E:Nat->List Nat)(T:Rg)(G:List Nat)(i:Nat)(T':Rg):Prop where
 inv:kq E T' G
 grow:qh T T'
 low:∀ x,T.q x≠0->T'.low x=T.low x
 num:T'.q i=T.count+1
 ext:∃ X,T'.w=T.w++X/\(∀ x,x∈X->T.q x=0)/\(∀ u,u∈X->∀ v,v∈E u->v∈T'.w->T'.low i<=T'.q v) /\
  ((i∈X/\∃ v,v∈T'.w/\T'.q v=T'.low i/\mq E i v)\/(i ∉ X/\T'.low i=T'.q i))
 le:T'.low i<=T'.q i
structure me (E:Nat->List Nat)(T:Rg)(G:List Nat)(i k:Nat)(T':Rg):Prop where
 inv:kq E T' (i::G)
 grow:qh T T'
 low:∀ x,T.q x≠0->T'.low x=T.low x
 num:T'.q i=T.count+1
 ext:∃ X,T'.w=T.w++i::X/\(∀ x,x∈X->T.q x=0)/\(∀ u,u∈X->∀ v,v∈E u->v∈T'.w->T'.low i<=T'.q v)
 y:∀ j,j<k->∀ v,(E i)[j]? = some v->T'.q v≠0/\(v∈T'.w->T'.low i<=T'.q v)
 back:∃ v,v∈T'.w/\T'.q v=T'.low i/\mq E i v
 le:T'.low i<=T'.q i
def bY {α:Type}(f:Nat->α)(i:Nat)(v:α)(x:Nat):α:=if x=i then v else f x
def Rg.push (T:Rg)(i:Nat):Rg:={ T with count:=T.count+1,q:=bY T.q i (T.count+1),low:=bY T.low i (T.count+1),w:=T.w++[i] }
def Rg.lower (T:Rg)(i v:Nat):Rg:={ T with low:=bY T.low i (min (T.low i) v) }
section
variable {E:Nat->List Nat} {T T' T2:Rg} {G:List Nat} {i k:Nat}
theorem J6 (hI:kq E T G)(h0:T.q i=0)(hr:∀ x,x∈T.w->mq E x i):me E T G i 0 (T.push i):=by
 have kn:i ∉ T.w:=fun h=>hI.vis i h h0;have hc:∀ x,x∈T.w->bY T.q i (T.count+1) x=T.q x:=fun x hx=>by
  unfold bY;rw[zcb (fun e:x=i=>kn (e ▸ hx))]
 have yK:bY T.q i (T.count+1) i=T.count+1:=by simp[bY]
 have PX:∀ x,(T.push i).shut x↔T.shut x:=fun x=>by
  simp only[Rg.push,Rg.shut,bY,zaa,nZ];by_cases e:x=i;{subst e;simp[h0]};{simp[e]}
 refine⟨⟨?_,?_,?_,?_,?_,?_,?_,?_,?_⟩,⟨?_,?_,?_⟩,?_,?_,?_,?_,?_,?_⟩;{show(T.w++[i]).Pairwise _;rw[List.pairwise_append];refine⟨?_,by simp,?_⟩;{refine hI.nodup.imp_of_mem ?_;intro a b ha hb tj;simp only[Rg.push];rw[hc a ha,hc b hb];exact tj};{intro a ha b hb;simp only[nZ]at hb;subst hb;simp only[Rg.push];rw[hc a ha,yK];have:=hI.cnt a;omega}};{intro x hx;simp only[Rg.push,zaa,nZ]at hx ⊢;unfold bY;split;{omega};{rcases hx with hx | hx;{exact hI.vis x hx};{contradiction}}};{intro x;simp only[Rg.push,bY];split;{omega};{have:=hI.cnt x;omega}};{intro x hx;simp only[Rg.push,zaa,List.mem_cons]at hx ⊢;rcases hx with rfl | hx;{simp};{exact .inl (hI.gray x hx)}};{intro x hx hg y hy;simp only[List.mem_cons,not_or]at hg;simp only[Rg.push,bY,hg.1,if_false]at hx ⊢;have:=hI.done x hx hg.2 y hy;split;{omega};{exact this}};{intro x hx y hy;rw[PX]at hx ⊢;exact hI.shut x hx y hy};{intro x y hx hy hxy;simp only[Rg.push,zaa,nZ]at hx hy hxy;rcases hx with hx | rfl<;>rcases hy with hy | rfl;{rw[hc x hx,hc y hy]at hxy;exact hI.up x y hx hy hxy};{exact hr x hx};{rw[hc y hy,yK]at hxy;have:=hI.cnt y;omega};{exact mq.refl _ _}};{intro y hy;simp only[Rg.push,zaa,nZ]at hy;rcases hy with hy | rfl;{obtain⟨x,h1,h2,h3⟩:=hI.down y hy;refine⟨x,by simp[h1],?_,h3⟩;simp only[Rg.push];rw[hc x (hI.gray x h1),hc y hy];exact h2};{exact⟨y,by simp,n_,mq.refl _ _⟩}};{have e:(T.push i).shut=T.shut:=funext fun x=>propext (PX x);show Qe E (T.push i).shut T.found T.least;rw[e];exact hI.best};{intro x hx;simp only[Rg.push,bY];rw[zcb (fun e:x=i=>hx (e ▸ h0))]};{intro x h1 h2;simp only[Rg.push,bY]at h2 ⊢;split at h2;{rename_i e;rw[zca e];omega};{exact zcc h1 h2}};{simp only[Rg.push];omega};{intro x hx;simp only[Rg.push,bY];rw[zcb (fun e:x=i=>hx (e ▸ h0))]};{exact yK};{exact⟨[],rfl,by simp,by simp⟩};{intro j hj;omega};{exact⟨i,by simp[Rg.push],by simp[Rg.push,bY],mq.refl _ _⟩};{simp[Rg.push,bY]}
theorem Fv (h:me E T G i k T'){x:Nat}(hG:∀ g,g∈G->T.q g≠0/\g∈T.w)(hI:kq E T G)(hx:x∈T'.w):mq E x i:=by
 obtain⟨g,h1,h2,h3⟩:=h.inv.down x hx;refine h3.trans (h.inv.up g i (h.inv.gray g h1) (h.inv.gray i (by simp)) ?_);simp only[List.mem_cons]at h1;rcases h1 with rfl | h1;{exact n_};{rw[h.num,h.grow.q g (hG g h1).1];have:=hI.cnt g;omega}
end
section
variable {E:Nat->List Nat} {T T' T2:Rg} {G:List Nat} {i k:Nat}
theorem wQ (T:Rg)(i v x:Nat)(h:x≠i):(T.lower i v).low x=T.low x:=by simp[Rg.lower,bY,h]
theorem jr (T:Rg)(i v:Nat):(T.lower i v).low i=min (T.low i) v:=by simp[Rg.lower,bY]
theorem kq.lower (h:kq E T G)(i v:Nat):kq E (T.lower i v) G:=⟨h.nodup,h.vis,h.cnt,h.gray,h.done,h.shut,h.up,h.down,h.best⟩
theorem qh.trans (h:qh T T')(h':qh T' T2):qh T T2 where
 q x hx:=by
  have e:=h.q x hx;rw[h'.q x (by rw[e];exact hx),e]
 new x h0 h2:=by
  by_cases e:T'.q x=0
  ·have:=h'.new x e h2;have:=h.count;omega
  ·rw[h'.q x e];exact h.new x h0 e
 count:=zah h.count h'.count
theorem qh.lower (h:qh T T')(i v:Nat):qh T (T'.lower i v):=⟨h.q,h.new,h.count⟩
theorem wE (h:wL E T G i T'){v:Nat}(hv:T.q v≠0)(ho:v∈T'.w):v∈T.w:=by
 obtain⟨X,h1,h2,_⟩:=h.ext;rw[h1,zaa]at ho;rcases ho with ho | ho;{exact ho};{exact zcc (h2 v ho) hv}
theorem E6 (h:me E T G i k T')(h0:T.q i=0){X:List Nat}(hX:T'.w=T.w++i::X)(hn:∀ x,x∈X->T.q x=0)(hI:kq E T G){u:Nat}(hu:u∈X):u ∉ i::G:=by
 intro hg;rw[List.mem_cons]at hg;rcases hg with rfl | hg;{have hp:=h.inv.nodup;rw[hX,List.pairwise_append]at hp;have:=(List.pairwise_cons.1 hp.2.1).1 u hu;omega};{exact hI.vis u (hI.gray u hg) (hn u hu)}
theorem J2 (hI:kq E T G)(h0:T.q i=0)(h:me E T G i k T'){next:Nat}(hk:(E i)[k]? = some next)(hc:T'.q next=0)(hp:wL E T' (i::G) next T2):me E T G i (k+1) (T2.lower i (T2.low next)):=by
 obtain⟨X,hX,Oi,OK⟩:=h.ext;obtain⟨Y,hY,hYn,hYl,hYe⟩:=hp.ext;have Rc:∀ x,T.q x≠0->T'.q x≠0:=fun x hx=>by rw[h.grow.q x hx];exact hx
 have yK:T'.q i≠0:=by{rw[h.num];omega};have WH:T2.q i=T.count+1:=by{rw[hp.grow.q i yK,h.num]};have Sl:T2.low i=T'.low i:=hp.low i yK;have kn:next≠i:=fun e=>by rw[e]at hc;exact yK hc
 have W8:∀ v,T'.low i<=T'.q v->T'.q v≠0->T2.low i<=T2.q v:=fun v h1 h2=>by rw[Sl,hp.grow.q v h2];exact h1
 refine⟨hp.inv.lower _ _,(h.grow.trans hp.grow).lower _ _,?_,WH,⟨X++Y,?_,?_,?_⟩,?_,?_,?_⟩;{intro x hx;rw[wQ _ _ _ _ (fun e:x=i=>hx (e ▸ h0)),hp.low x (Rc x hx),h.low x hx]};{show T2.w=_;rw[hY,hX];simp};{intro x hx;rw[zaa]at hx;rcases hx with hx | hx;{exact Oi x hx};{have:=hYn x hx;by_cases e:T.q x=0;{exact e};{exact zcc this (Rc x e)}}};{intro u hu v hv hvo;rw[jr];rw[zaa]at hu;rcases hu with hu | hu;{have huv:T'.q u≠0:=h.inv.vis u (by rw[hX];simp[hu]);have Ug:T'.q v≠0:=h.inv.done u huv (E6 h h0 hX Oi hI hu) v hv;have:=W8 v (OK u hu v hv (wE hp Ug hvo)) Ug;exact zah (Nat.min_le_left _ _) this};{exact zah (Nat.min_le_right _ _) (hYl u hu v hv hvo)}};{intro j hj v hv;rw[jr];by_cases e:j=k;{subst e;obtain rfl:next=v:=by{rw[hk]at hv;exact Option.some.inj hv};refine⟨?_,fun _=>zah (Nat.min_le_right _ _) hp.le⟩;show T2.q next≠0;rw[hp.num];omega};{obtain⟨h1,h2⟩:=h.y j (by omega) v hv;refine⟨?_,fun ho=>zah (Nat.min_le_left _ _) (W8 v (h2 (wE hp h1 ho)) h1)⟩;show T2.q v≠0;rw[hp.grow.q v h1];exact h1}};{rw[jr];obtain⟨v,Ib,vg,Lx⟩:=h.back;by_cases e:T2.low i<=T2.low next;{refine⟨v,?_,?_,Lx⟩;{show v∈T2.w;rw[hY];simp[Ib]};{show T2.q v=_;rw[Nat.min_eq_left e,Sl,hp.grow.q v (h.inv.vis v Ib),vg]}};{rcases hYe with⟨hy,v,Ib,vg,Lx⟩ | ⟨hy,hy2⟩;{exact⟨v,Ib,by rw[Nat.min_eq_right (by omega)];exact vg,(mq.step (List.mem_of_getElem? hk)).trans Lx⟩};{exfalso;have h1:=h.le;rw[h.num]at h1;have h2:=hp.num;have h3:=h.inv.cnt i;rw[h.num]at h3;omega}}};{rw[jr];show _<=T2.q i;have h1:=h.le;rw[h.num]at h1;rw[WH,Sl];exact zah (Nat.min_le_left _ _) h1}
theorem IQ (h0:T.q i=0)(h:me E T G i k T'){next:Nat}(hk:(E i)[k]? = some next)(hc:T'.q next≠0)(ho:next∈T'.w):me E T G i (k+1) (T'.lower i (T'.q next)):=by
 obtain⟨X,hX,Oi,OK⟩:=h.ext;refine⟨h.inv.lower _ _,h.grow.lower _ _,?_,h.num,⟨X,hX,Oi,?_⟩,?_,?_,?_⟩;{intro x hx;rw[wQ _ _ _ _ (fun e:x=i=>hx (e ▸ h0)),h.low x hx]};{intro u hu v hv hvo;rw[jr];exact zah (Nat.min_le_left _ _) (OK u hu v hv hvo)};{intro j hj v hv;rw[jr];by_cases e:j=k;{subst e;obtain rfl:next=v:=by{rw[hk]at hv;exact Option.some.inj hv};exact⟨hc,fun _=>Nat.min_le_right _ _⟩};{obtain⟨h1,h2⟩:=h.y j (by omega) v hv;exact⟨h1,fun ho=>zah (Nat.min_le_left _ _) (h2 ho)⟩}};{rw[jr];obtain⟨v,Ib,vg,Lx⟩:=h.back;by_cases e:T'.low i<=T'.q next;{exact⟨v,Ib,by rw[Nat.min_eq_left e];exact vg,Lx⟩};{exact⟨next,ho,by rw[Nat.min_eq_right (by omega)];rfl,mq.step (List.mem_of_getElem? hk)⟩}};{rw[jr];exact zah (Nat.min_le_left _ _) h.le}
theorem IU (h:me E T G i k T'){next:Nat}(hk:(E i)[k]? = some next)(hc:T'.q next≠0)(ho:next ∉ T'.w):me E T G i (k+1) T':=by
 refine⟨h.inv,h.grow,h.low,h.num,h.ext,?_,h.back,h.le⟩;intro j hj v hv;by_cases e:j=k;{subst e;obtain rfl:next=v:=by{rw[hk]at hv;exact Option.some.inj hv};exact⟨hc,fun h=>zcc h ho⟩};{exact h.y j (by omega) v hv}
theorem pQ (h:me E T G i (E i).length T'){v:Nat}(hv:v∈E i):T'.q v≠0/\(v∈T'.w->T'.low i<=T'.q v):=by
 obtain⟨j,hj,e⟩:=zaf hv;exact h.y j hj v (by rw[g_ hj,e])
theorem Jp (h0:T.q i=0)(h:me E T G i (E i).length T')(eh:T'.low i≠T'.q i):wL E T G i T':=by
 obtain⟨X,hX,Oi,OK⟩:=h.ext;have px:=h.le;have hI:=h.inv;obtain⟨v0,Ib,vg,Lx⟩:=h.back;refine⟨⟨hI.nodup,hI.vis,hI.cnt,fun x hx=>hI.gray x (by simp[hx]),?_,hI.shut,hI.up,?_,hI.best⟩,h.grow,h.low,h.num,⟨i::X,hX,?_,?_,.inl ⟨by simp,v0,Ib,vg,Lx⟩⟩,px⟩;{intro x hx hg y hy;by_cases e:x=i;{subst e;exact(pQ h hy).1};{exact hI.done x hx (by simp[e,hg]) y hy}};{intro y hy;obtain⟨x,h1,h2,h3⟩:=hI.down y hy;rw[List.mem_cons]at h1;rcases h1 with rfl | h1;{obtain⟨x2,g1,g2,g3⟩:=hI.down v0 Ib;rw[List.mem_cons]at g1;rcases g1 with rfl | g1;{omega};{exact⟨x2,g1,by omega,(h3.trans Lx).trans g3⟩}};{exact⟨x,h1,h2,h3⟩}};{intro x hx;rw[List.mem_cons]at hx;rcases hx with rfl | hx;{exact h0};{exact Oi x hx}};{intro u hu v hv hvo;rw[List.mem_cons]at hu;rcases hu with rfl | hu;{exact(pQ h hv).2 hvo};{exact OK u hu v hv hvo}}
def Rg.close (T:Rg)(P:List Nat)(found:Bool)(least:Nat):Rg:={ T with w:=P,found:=found,least:=least }
def fE (T:Rg)(g:List Nat)(self:Bool)(m:Nat):Bool×Nat:=
 if(decide (1<g.length)||self)&&(!T.found||decide (m<T.least))then(true,m)else(T.found,T.least)
theorem Kk (h0:T.q i=0)(TJ:kq E T G)(h:me E T G i (E i).length T')(he:T'.low i=T'.q i){X:List Nat}(hX:T'.w=T.w++i::X){m:Nat}(hm:m∈i::X)(Ic:∀ x,x∈i::X->m<=x){self:Bool}(Bl:self=true↔i∈E i) :
  wL E T G i (T'.close T.w (fE T' (i::X) self m).1 (fE T' (i::X) self m).2):=by
 obtain⟨X',hX',Oi,OK⟩:=h.ext;obtain rfl:X'=X:=by rw[hX]at hX';simpa using hX'.symm
 have hI:=h.inv;have hip:i∈T'.w:=hI.gray i (by simp);have hpw:=hI.nodup;rw[hX,List.pairwise_append]at hpw;obtain⟨abi,Wc,Y3⟩:=hpw;have yW:∀ x,x∈T.w->T'.q x<T'.q i:=fun x hx=>Y3 x hx i (by simp);have Lq:∀ x,x∈i::X'->T'.q i<=T'.q x:=fun x hx=>by
  rw[List.mem_cons]at hx;rcases hx with rfl | hx;{exact n_};{exact Nat.le_of_lt ((List.pairwise_cons.1 Wc).1 x hx)}
 have eZ:∀ x,x∈T'.w↔x∈T.w\/x∈i::X':=fun x=>by rw[hX,zaa]
 have UM:∀ x,x∈T.w->x ∉ i::X':=fun x h1 h2=>by have:=yW x h1;have:=Lq x h2;omega
 have YD:∀ x,x∈i::X'->x∈T'.w:=fun x hx=>(eZ x).2 (.inr hx);have hto:∀ x,x∈i::X'->mq E x i:=fun x hx=>by
  obtain⟨g,h1,h2,h3⟩:=hI.down x (YD x hx);refine h3.trans (hI.up g i (hI.gray g h1) hip ?_);rw[List.mem_cons]at h1;rcases h1 with rfl | h1;{exact n_};{exact Nat.le_of_lt (yW g (TJ.gray g h1))}
 have Lk:∀ x,x∈i::X'->mq E i x:=fun x hx=>hI.up i x hip (YD x hx) (Lq x hx);have PY:∀ u,u∈i::X'->∀ v,v∈E u->T'.q v≠0/\v ∉ T.w:=fun u hu v hv=>by
  have aao:T'.q v≠0:=by{rw[List.mem_cons]at hu;rcases hu with rfl | hu;{exact(pQ h hv).1};{exact hI.done u (hI.vis u (YD u (by simp[hu]))) (E6 h h0 hX Oi TJ hu) v hv}};refine⟨aao,fun hvp=>?_⟩;have h1:=yW v hvp;have h2:T'.low i<=T'.q v:=by{rw[List.mem_cons]at hu;rcases hu with rfl | hu;{exact(pQ h hv).2 ((eZ v).2 (.inl hvp))};{exact OK u hu v hv ((eZ v).2 (.inl hvp))}};omega
 have Fo:∀ x,(T'.close T.w (fE T' (i::X') self m).1 (fE T' (i::X') self m).2).shut x↔T'.shut x\/x∈i::X':=fun x=>by
  show T'.q x≠0/\x ∉ T.w↔(T'.q x≠0/\x ∉ T'.w)\/x∈i::X';rw[eZ];constructor;{rintro⟨h1,h2⟩;by_cases e:x∈i::X';{exact .inr e};{exact .inl ⟨h1,fun h=>h.elim h2 e⟩}};{rintro(⟨h1,h2⟩ | h1);{exact⟨h1,fun h=>h2 (.inl h)⟩};{exact⟨hI.vis x (YD x h1),fun h=>UM x h h1⟩}}
 have PO:∀ x,x∈i::X'->(ir E x↔(decide (1<(i::X').length)||self)=true):=fun x hx=>by
  constructor
  ·rintro⟨z,hz,hr⟩;cases X' with
   | cons a X2=>simp
   | nil=>
    obtain rfl:x=i:=by{simpa using hx};simp only[List.length_cons,List.length_nil,Bool.or_eq_true];right;rw[Bl];by_cases e:z=x;{rw[e]at hz;exact hz};{exfalso;obtain⟨h1,h2⟩:=PY x (by simp) z hz;have hs:T'.shut z:=⟨h1,fun h=>by rw[eZ]at h;rcases h with h | h;exact h2 h;simp at h;exact e h⟩;exact(hr.closed (p:=T'.shut) hI.shut hs).2 hip}
  ·intro hc;rw[Bool.or_eq_true,decide_eq_true_eq]at hc;by_cases hs:i∈E i;{have hri:ir E i:=⟨i,hs,mq.refl _ _⟩;by_cases e:x=i;{rw[e];exact hri};{exact uN e (hto x hx) (Lk x hx)}}
   ·have hl:1<(i::X').length:=hc.resolve_right (fun h=>hs (Bl.1 h));cases X' with
    | nil=>simp at hl
    | cons a X2=>
     by_cases e:x=i;{have ha:a≠i:=fun h=>by{have:=(List.pairwise_cons.1 Wc).1 a (by simp);rw[h]at this;omega};subst e;exact uN (Ne.symm ha) (Lk a (by simp)) (hto a (by simp))};{exact uN e (hto x hx) (Lk x hx)}
 refine⟨⟨?_,?_,hI.cnt,TJ.gray,?_,?_,?_,?_,?_⟩,⟨h.grow.q,h.grow.new,h.grow.count⟩,h.low,h.num,⟨[],by simp[Rg.close],by simp,by simp,.inr ⟨by simp,he⟩⟩,h.le⟩;{exact abi};{exact fun x hx=>hI.vis x ((eZ x).2 (.inl hx))};{intro x hx hg y hy;by_cases e:x=i;{subst e;exact(pQ h hy).1};{exact hI.done x hx (by simp[e,hg]) y hy}};{intro x hx y hy;rw[Fo]at hx;rcases hx with hx | hx;{rw[Fo];exact .inl (hI.shut x hx y hy)};{exact PY x hx y hy}};{exact fun x y hx hy hxy=>hI.up x y ((eZ x).2 (.inl hx)) ((eZ y).2 (.inl hy)) hxy};{intro y hy;obtain⟨x,h1,h2,h3⟩:=hI.down y ((eZ y).2 (.inl hy));rw[List.mem_cons]at h1;rcases h1 with rfl | h1;{have:=yW y hy;change T.w.Mem y at hy;omega};{exact⟨x,h1,h2,h3⟩}}
 ·have e:(T'.close T.w (fE T' (i::X') self m).1 (fE T' (i::X') self m).2).shut=fun x=>T'.shut x\/x∈i::X':=funext fun x=>propext (Fo x);show Qe E (T'.close T.w (fE T' (i::X') self m).1 (fE T' (i::X') self m).2).shut (fE T' (i::X') self m).1 (fE T' (i::X') self m).2;rw[e];have hb:=hI.best;clear e Fo;by_cases hc:(decide (1<(i::X').length)||self)=true
  ·have hr:∀ x,x∈i::X'->ir E x:=fun x hx=>(PO x hx).2 hc;unfold fE;rw[hc,Bool.true_and];rcases hb with⟨hf,hb⟩ | ⟨hf,ar,bj,bU⟩
   {rw[hf,zca (by simp)];refine .inr ⟨rfl,.inr hm,hr m hm,fun x hx pk=>?_⟩;rcases hx with hx | hx;{exact zcc pk (hb x hx)};{exact Ic x hx}};{rw[hf];by_cases au:m<T'.least;{rw[zca (by simp[au])];refine .inr ⟨rfl,.inr hm,hr m hm,fun x hx pk=>?_⟩;rcases hx with hx | hx;{have:=bU x hx pk;show m<=x;omega};{exact Ic x hx}};{rw[zcb (by simp[au])];refine .inr ⟨rfl,.inl ar,bj,fun x hx pk=>?_⟩;rcases hx with hx | hx;{exact bU x hx pk};{have:=Ic x hx;show T'.least<=x;omega}}}
  ·have hr:∀ x,x∈i::X'->¬ir E x:=fun x hx h=>hc ((PO x hx).1 h);have hcf:(decide (1<(i::X').length)||self)=false:=by simpa using hc
   unfold fE;rw[hcf,Bool.false_and,zcb (by simp)];rcases hb with⟨hf,hb⟩ | ⟨hf,ar,bj,bU⟩;{refine .inl ⟨hf,fun x hx=>?_⟩;rcases hx with hx | hx;{exact hb x hx};{exact hr x hx}};{refine .inr ⟨hf,.inl ar,bj,fun x hx pk=>?_⟩;rcases hx with hx | hx;{exact bU x hx pk};{exact zcc pk (hr x hx)}}
end
def vt (came:Nat->Nat):Nat->Nat
 | 0=>0
 | n+1=>vt came n+(if came n=0 then 1 else 0)
theorem tZ:∀ n,vt (fun _=>0) n=n
 | 0=>rfl
 | n+1=>by simp only[vt,tZ n];rfl
theorem AB {c c':Nat->Nat}:∀ n,(∀ x,x<n->c x=c' x)->vt c n=vt c' n
 | 0,_=>rfl
 | n+1,h=>by simp only[vt];rw[AB n (fun x hx=>h x (by omega)),h n (by omega)]
theorem pH {c:Nat->Nat}{i v:Nat}(h0:c i=0)(hv:v≠0):∀ n,i<n->vt (bY c i v) n+1=vt c n
 | 0,h=>zcc h (bW _)
 | n+1,h=>by
  simp only[vt];by_cases e:i=n
  ·subst e;rw[AB (c:=bY c i v) (c':=c) i (fun x hx=>by unfold bY;rw[zcb (by omega)])];simp[bY,h0,hv]
  ·have:=pH h0 hv n (by omega);have e2:bY c i v n=c n:=by unfold bY;rw[zcb (fun h=>e h.symm)]
   rw[e2];omega
theorem wO {c c':Nat->Nat}:∀ n,(∀ x,c x≠0->c' x≠0)->vt c' n<=vt c n
 | 0,_=>n_
 | n+1,h=>by
  have:=wO n h;simp only[vt];by_cases e:c n=0
  ·rw[zca e];split<;>omega
  ·rw[zcb e,zcb (h n e)];omega
theorem EG {c:Nat->Nat}{i:Nat}(h0:c i=0):∀ n,i<n->0<vt c n
 | 0,h=>zcc h (bW _)
 | n+1,h=>by
  simp only[vt];by_cases e:i=n
  ·subst e;rw[zca h0];omega
  ·have:=EG h0 n (by omega);omega
structure ot (E:Nat->List Nat)(a:Nat)(L:List Nat)(seen:Nat->Bool)(i:Nat):Prop where
 come:∀ x,x∈L->∃ z,z∈E a/\mq E z x
 first:∀ z,z∈E a->z∈L
 past:∀ j x,j<i->L[j]? = some x->x≠a/\seen x=true
 kids:∀ x,seen x=true->∀ y,y∈E x->y∈L
 old:∀ x,seen x=true->x∈L
section
variable {E:Nat->List Nat} {a i x:Nat} {L:List Nat} {seen:Nat->Bool}
theorem ot.start (E:Nat->List Nat)(a:Nat):ot E a (E a) (fun _=>false) 0:=
 ⟨fun x h=>⟨x,h,mq.refl _ _⟩,fun _ h=>h,fun _ _ h=>zcc h (bW _),fun _ h=>Bool.noConfusion h,fun _ h=>Bool.noConfusion h⟩
theorem ot.again (h:ot E a L seen i)(hx:L[i]? = some x)(hn:x≠a)(hs:seen x=true):ot E a L seen (i+1):=
 ⟨h.come,h.first,fun j y hj hy=>by
  by_cases e:j=i
  ·subst e;rw[hx]at hy;obtain rfl:=Option.some.inj hy;exact⟨hn,hs⟩
  ·exact h.past j y (by omega) hy,h.kids,h.old⟩
theorem ot.new (h:ot E a L seen i)(hx:L[i]? = some x)(hn:x≠a):ot E a (L++E x) (bY seen x true) (i+1):=by
 have hi:i<L.length:=(List.getElem?_eq_some_iff.1 hx).1;have hxL:x∈L:=List.mem_of_getElem? hx;refine⟨?_,?_,?_,?_,?_⟩;{intro y hy;rw[zaa]at hy;rcases hy with hy | hy;{exact h.come y hy};{obtain⟨z,h1,h2⟩:=h.come x hxL;exact⟨z,h1,h2.trans (mq.step hy)⟩}};{exact fun z hz=>zaa.2 (.inl (h.first z hz))};{intro j y hj hy;rw[List.getElem?_append_left (by omega)]at hy;by_cases e:j=i;{subst e;rw[hx]at hy;obtain rfl:=Option.some.inj hy;exact⟨hn,by simp[bY]⟩};{obtain⟨h1,h2⟩:=h.past j y (by omega) hy;exact⟨h1,by unfold bY;split;rfl;exact h2⟩}};{intro y hy z hz;rw[zaa];by_cases e:y=x;{subst e;exact .inr hz};{simp only[bY,e,if_false]at hy;exact .inl (h.kids y hy z hz)}};{intro y hy;rw[zaa];by_cases e:y=x;{subst e;exact .inl hxL};{simp only[bY,e,if_false]at hy;exact .inl (h.old y hy)}}
theorem ot.yes (h:ot E a L seen i)(hx:L[i]? = some a):ir E a:=by
 obtain⟨z,h1,h2⟩:=h.come a (List.mem_of_getElem? hx);exact⟨z,h1,h2⟩
theorem ot.no (h:ot E a L seen i)(hi:L.length<=i):¬ir E a:=by
 rintro⟨z,h1,h2⟩;have hc:∀ x,x∈L->∀ y,y∈E x->y∈L:=fun x hx y hy=>by
  obtain⟨j,hj,e⟩:=zaf hx;have:=h.past j x (by omega) (by rw[g_ hj,e]);exact h.kids x this.2 y hy
 have ha:a∈L:=h2.closed hc (h.first z h1);obtain⟨j,hj,e⟩:=zaf ha;exact(h.past j a (by omega) (by rw[g_ hj,e])).1 rfl
end
end Go.Proofs.YtcjfjflljdojlaaGreatDoor
namespace Go.Proofs.YtcjfjflljdojlaaGreatDoor
structure bc where
 tr:Bool
 keep:Int
 hand:Int
def bc.z:bc:=⟨false,0,0⟩
structure fK where
 d:List Int
 r:List bc
def ba (t:List Int)(r:Nat):Int:=t[r]?.getD 0
def cM (r:Nat):Int×Bool:=
 if r=2 then(1,true)else if r=3 then(3,true)else if r=4\/r=18\/r=19\/r=20 then(1,false)else if r=5 then(2,false)else if r=6 then(3,false)else(0,false)
structure gY where
 d:List Int
 p:List Nat
 x:List Nat
def eV (op:Bool)(x:Int):Nat:=if op=true/\x<0 then(-1-x).toNat else x.toNat
def gJ (r:Nat)(x:Int)(s:gY):Option gY:=
 if(cM r).1=0 then some s
 else if ba s.d (eV (cM r).2 x)≠(cM r).1 then none
 else if(cM r).2=true/\x<0 then
  if eV true x∈s.x then none else some ⟨s.d.set (eV true x) 0,s.p++[eV true x],s.x⟩
 else if(cM r).2=true then some s
 else if(r=18\/r=20)/\ba s.d (x.toNat+1)≠1 then none
 else if r=18/\ba s.d (x.toNat+2)≠1 then none
 else if r=19 then(if ba s.d (x.toNat+1)≠0 then none else some ⟨s.d,s.p++[x.toNat],s.x++[x.toNat]⟩)
 else some ⟨s.d,s.p,s.x++[x.toNat]⟩
def aW (r:List Nat)(n:az)(s:gY):Nat->Option gY
 | 0=>some s
 | k+1=>match aW r n s k with
  | none=>none
  | some s'=>gJ (r[k]?.getD 0) (dj n k) s'
def bH (l:List aj)(n:az)(t:List Int):Option gY:=
 match aW ((bh n.op).getD []) n ⟨t,[],[]⟩ 4 with
 | none=>none
 | some s=>if n.op=11/\((al l n.fb.toNat).s.any fun u=>u.1&&ba s.d u.2.toNat != 2)=true then none else some s
def bg (n:az)(t:List Int):List Int:=
 if n.op=6 then t.set n.fa.toNat 2
 else if n.op=22\/n.op=27\/n.op=28 then t.set n.fa.toNat 3
 else if n.op=40 then t.set (n.fa.toNat+1) 1
 else if n.op=42 then t.set n.fa.toNat 0
 else if n.op=41 then t.set n.fc.toNat 3
 else if((bh n.op).getD [])[0]?.getD 0=1 then t.set n.fa.toNat 1
 else t
def dS (g:List bc)(keep:Int):Bool:=!(g.any fun x=>x.tr&&decide (keep<x.keep))
def aP (n:az)(g:List bc):Option (List bc):=
  if n.op=31 then(if g.length<50/\dS g n.fb=true then some (g++[⟨true,n.fb,n.fa⟩])else none)
  else if n.op=33 then(if g.length<50/\dS g n.fa=true then some (g++[⟨false,n.fa,0⟩])else none)
  else if n.op=32 then(if g.length=0\/(g[g.length-1]?.getD bc.z).tr=false then none else some (g.take (g.length-1)))
  else if n.op=34\/n.op=35\/n.op=36 then
    (if g.length=0\/(g[g.length-1]?.getD bc.z).tr=true\/(n.op=34/\dS g n.fa=false)then none
     else if n.op=34 then some (g.set (g.length-1) { g[g.length-1]?.getD bc.z with keep:=n.fa })
     else if n.op=36 then some (g.take (g.length-1))
     else some g)
  else some g
def lj (n:az)(g:List bc)(taken:List Nat)(bef beh:List Int):Bool:=
  (List.range g.length).all fun i=>!(g[i]?.getD bc.z).tr ||
    ((taken.all fun r=>!decide ((r:Int)<(g[i]?.getD bc.z).keep)) &&
     (decide (n.op=32/\i+1=g.length)||(List.range (g[i]?.getD bc.z).keep.toNat).all fun r=>ba bef r==ba beh r))
def dH (n:az)(t:List Int):List Int:=((t.take n.fb.toNat++List.replicate (t.length-n.fb.toNat) 0).set n.fb.toNat 1).set (n.fb.toNat+1) 1
def dc (n:az):Bool:=!(n.op==19||n.op==29||n.op==30)
def bI (n:az)(a:Nat)(s:fK)(t:List Int)(g:List bc):List (Nat×fK):=
  (if dc n then[(a+1,⟨t,g⟩)]else[]) ++
  (if n.op=19 then[(n.fa.toNat,⟨t,g⟩)]
   else if n.op=20\/n.op=21\/n.op=38\/n.op=39 then[(n.fb.toNat,⟨t,g⟩)]
   else if n.op=41 then[(n.fb.toNat,⟨t.set n.fc.toNat (ba s.d n.fc.toNat),g⟩)]
   else if n.op=31 then[(n.fa.toNat,⟨dH n s.d,s.r⟩)]
   else[])
def ep (n:az)(a:Nat):List Nat:=
 if n.op=1\/n.op=3\/n.op=28\/n.op=29\/n.op=30 then[]
 else if n.op=18/\n.fb=12 then[]
 else if n.op=19 then[n.fa.toNat]
 else if n.op=41 then[n.fb.toNat]
 else if n.op=20\/n.op=21\/n.op=38\/n.op=39 then[n.fb.toNat,a+1]
 else if n.op=31 then[n.fa.toNat,a+1]
 else[a+1]
structure dW where
 st:Nat->Option fK
 b:Nat->Bool
def Ct (a b:bc):Bool:=a.tr==b.tr&&a.keep==b.keep&&a.hand==b.hand
def kH:List bc->List bc->Bool
 | [],[]=>true
 | a::l,b::m=>Ct a b&&kH l m
 | _,_=>false
def nh (a b:fK):Bool:=a.d==b.d&&kH a.r b.r
theorem DR {a b:bc}:Ct a b=true↔a=b:=by
 obtain⟨a1,a2,a3⟩:=a;obtain⟨b1,b2,b3⟩:=b;simp[Ct,and_assoc]
theorem kf:∀{a b:List bc},kH a b=true↔a=b
 | [],[]=>by simp[kH]
 | [],_::_=>by simp[kH]
 | _::_,[]=>by simp[kH]
 | x::l,y::m=>by simp[kH,DR,kf (a:=l) (b:=m)]
theorem tK {a b:fK}:nh a b=true↔a=b:=by
 obtain⟨a1,a2⟩:=a;obtain⟨b1,b2⟩:=b;simp[nh,kf]
def gO (σ:dW)(x:Nat×fK):Option dW:=
 match σ.st x.1 with
 | none=>some ⟨bY σ.st x.1 (some x.2),bY σ.b x.1 true⟩
 | some s=>if nh s x.2=true then some σ else none
def fi:List (Nat×fK)->dW->Nat ⊕ dW
 | [],σ=>.inr σ
 | x::r,σ=>match gO σ x with
  | none=>.inl x.1
  | some σ'=>fi r σ'
def dg (σ:dW)(N a:Nat):Prop:=a<N/\σ.b a=true/\∀ b,b<a->σ.b b=false
def mp (σ:dW)(N:Nat):Prop:=∀ b,b<N->σ.b b=false
def fV (l:List aj)(x:aj)(σ:dW)(a:Nat):(Int×Nat) ⊕ dW:=
 match σ.st a with
 | none=>.inl (0,0)
 | some s=>
  match bH l (aR x a) s.d with
  | none=>.inl (10,a)
  | some r=>
   match aP (aR x a) s.r with
   | none=>.inl (11,a)
   | some g=>
    if lj (aR x a) s.r r.p s.d (bg (aR x a) r.d)then
     match fi (bI (aR x a) a s (bg (aR x a) r.d) g) ⟨σ.st,bY σ.b a false⟩with
     | .inl at_=>.inl (13,at_)
     | .inr σ'=>.inr σ'
    else .inl (12,a)
def dy (x:aj):List Int:=(List.range x.m.toNat).map fun r:Nat=>if(r:Int)<x.l then(1:Int)else if x.e=true/\(r:Int)=x.l then 3 else 0
def iZ (x:aj):dW:=⟨bY (fun _=>none) 0 (some ⟨dy x,[]⟩),bY (fun _=>false) 0 true⟩
def ju (l:List aj)(x:aj):Nat->dW->Prop
 | 0,σ=>σ=iZ x
 | k+1,σ=>∃ σ' a,ju l x k σ'/\dg σ' x.u.length a/\fV l x σ' a=.inr σ
theorem lT {σ:dW}{N a b:Nat}(h:dg σ N a)(h':dg σ N b):a=b:=by
 by_cases e1:a<b;{have:=h'.2.2 a e1;rw[h.2.1]at this;cases this};by_cases e2:b<a;{have:=h.2.2 b e2;rw[h'.2.1]at this;cases this};omega
theorem lc {σ:dW}{N a:Nat}(h:dg σ N a)(h':mp σ N):False:=by
 have:=h' a h.1;rw[h.2.1]at this;cases this
theorem nz {l:List aj}{x:aj}:∀{k σ σ'},ju l x k σ->ju l x k σ'->σ=σ'
 | 0,_,_,h,h'=>by rw[h,h']
 | k+1,_,_,⟨σ1,a,g1,g2,g3⟩,⟨σ2,b,f1,f2,f3⟩=>by
  obtain rfl:=nz g1 f1;obtain rfl:=lT g2 f2;rw[g3]at f3;exact Sum.inr.inj f3
theorem qP {l:List aj}{x:aj}:∀{d k σ},ju l x (k+d) σ->∃ σ',ju l x k σ'
 | 0,_,σ,h=>⟨σ,h⟩
 | d+1,_,_,⟨_,_,h,_⟩=>qP (d:=d) h
def EY (l:List aj)(x:aj)(σ:dW):Prop:=mp σ x.u.length\/∃ a y,dg σ x.u.length a/\fV l x σ a=.inl y
theorem um {l:List aj}{x:aj}{k:Nat}{σ σ':dW}(h:ju l x k σ)(he:EY l x σ)(h':ju l x (k+1) σ'):False:=by
 obtain⟨σ1,a,g1,g2,g3⟩:=h';obtain rfl:=nz h g1;rcases he with he | ⟨b,y,e1,e2⟩;{exact lc g2 he};{obtain rfl:=lT g2 e1;rw[g3]at e2;cases e2}
theorem xw {l:List aj}{x:aj}{k k':Nat}{σ σ':dW}(h:ju l x k σ)(he:EY l x σ)(h':ju l x k' σ')(he':EY l x σ'):σ=σ':=by
 by_cases e1:k<k'
 ·obtain⟨d,rfl⟩:∃ d,k'=k+1+d:=⟨k'-(k+1),by omega⟩;obtain⟨σ2,h2⟩:=qP h';exact(um h he h2).elim
 by_cases e2:k'<k
 ·obtain⟨d,rfl⟩:∃ d,k=k'+1+d:=⟨k-(k'+1),by omega⟩;obtain⟨σ2,h2⟩:=qP h;exact(um h' he' h2).elim
 obtain rfl:k=k':=by{omega};exact nz h h'
def fh (x:aj)(a:Nat):List Nat:=ep (aR x a) a
def pO (l:List aj)(x:aj)(σ:dW)(c:Int)(n:Nat):Prop:=
 (∃ a,dg σ x.u.length a/\fV l x σ a=.inl (c,n)) \/
 (mp σ x.u.length/\c=14/\n<x.u.length/\σ.st n≠none/\ir (fh x) n/\∀ b,b<n->σ.st b≠none->¬ir (fh x) b) \/
 (mp σ x.u.length/\c=0/\n=0/\∀ b,b<x.u.length->σ.st b≠none->¬ir (fh x) b)
def fU (l:List aj)(x:aj)(c:Int)(n:Nat):Prop:=∃ k σ,ju l x k σ/\pO l x σ c n
theorem pO.ended {l:List aj}{x:aj}{σ:dW}{c:Int}{n:Nat}(h:pO l x σ c n):EY l x σ:=by
 rcases h with⟨a,h1,h2⟩ | ⟨h,_⟩ | ⟨h,_⟩;{exact .inr ⟨a,_,h1,h2⟩};{exact .inl h};{exact .inl h}
theorem tu {l:List aj}{x:aj}{σ:dW}{c c':Int}{n n':Nat}(h:pO l x σ c n)(h':pO l x σ c' n'):c=c'/\n=n':=by
 rcases h with⟨a,h1,h2⟩ | ⟨a1,rfl,a2,a3,a4,a5⟩ | ⟨a1,rfl,rfl,a2⟩<;>rcases h' with⟨b,g1,g2⟩ | ⟨b1,rfl,b2,b3,b4,b5⟩ | ⟨b1,rfl,rfl,b2⟩;{obtain rfl:=lT h1 g1;rw[h2]at g2;have:=Sum.inl.inj g2;exact⟨congrArg Prod.fst this,congrArg Prod.snd this⟩};{exact(lc h1 b1).elim};{exact(lc h1 b1).elim};{exact(lc g1 a1).elim};{refine⟨rfl,?_⟩;by_cases e1:n<n';{exact zcc a4 (b5 n e1 a3)};by_cases e2:n'<n;{exact zcc b4 (a5 n' e2 b3)};omega};{exact zcc a4 (b2 n a2 a3)};{exact(lc g1 a1).elim};{exact zcc b4 (a2 n' b2 b3)};{exact⟨rfl,rfl⟩}
theorem fS {l:List aj}{x:aj}{c c':Int}{n n':Nat}(h:fU l x c n)(h':fU l x c' n'):c=c'/\n=n':=by
 obtain⟨k,σ,h1,h2⟩:=h;obtain⟨k',σ',g1,g2⟩:=h';obtain rfl:=xw h1 h2.ended g1 g2.ended;exact tu h2 g2
def dM (l:List aj)(c f n:Int):Prop:=
 (cZ l c f n/\c≠0) \/
 (cZ l 0 0 0/\c≠0/\∃ F P:Nat,f=F/\n=P/\F<l.length/\fU l (al l F) c P/\∀ g,g<F->fU l (al l g) 0 0) \/
 (cZ l 0 0 0/\c=0/\f=0/\n=0/\∀ g,g<l.length->fU l (al l g) 0 0)
theorem mw {l:List aj}{c f n c' f' n':Int}(h:dM l c f n)(h':dM l c' f' n'):c=c'/\f=f'/\n=n':=by
 rcases h with⟨a1,a2⟩ | ⟨a1,a2,F,P,rfl,rfl,a3,a4,a5⟩ | ⟨a1,rfl,rfl,rfl,a2⟩<;>rcases h' with⟨b1,b2⟩ | ⟨b1,b2,F',P',rfl,rfl,b3,b4,b5⟩ | ⟨b1,rfl,rfl,rfl,b2⟩;{exact fB a1 b1};{exact zcc (fB a1 b1).1 a2};{exact zcc (fB a1 b1).1 a2};{exact zcc (fB b1 a1).1 b2};{by_cases e1:F<F';{exact zcc (fS a4 (b5 F e1)).1 a2};by_cases e2:F'<F;{exact zcc (fS b4 (a5 F' e2)).1 b2};obtain rfl:F=F':=by{omega};obtain⟨rfl,rfl⟩:=fS a4 b4;exact⟨rfl,rfl,rfl⟩};{exact zcc (fS a4 (b2 F a3)).1 a2};{exact zcc (fB b1 a1).1 b2};{exact zcc (fS b4 (a2 F' b3)).1 b2};{exact⟨rfl,rfl,rfl⟩}
end Go.Proofs.YtcjfjflljdojlaaGreatDoor
