import Derived.Test.YtmjcpapdncfkpaaGreatDoorPart12
import Derived.Test.YtmjcpapdncfkpaaGreatDoorPart02
import Derived.Test.YtmjcpapdncfkpaaGreatDoorPart03
import Derived.Deep.RegionHeld3
import Derived.Test.YtmjcpapdncfkpaaGreatDoorPart10
import Derived.Test.YtmjcpapdncfkpaaGreatDoorPart01
set_option linter.unusedSimpArgs false
set_option linter.unusedVariables false
namespace Go.Proofs.YtmjcpapdncfkpaaGreatDoor
open Go.RowKit
theorem FirstC.unique {l:List ProtoD}{len:Nat→Nat}{bad:Nat→Nat→Bool}{F P F' P':Nat}(h:FirstC l len bad F P)(h':FirstC l len bad F' P'):F=F'∧P=P':=by
 obtain⟨a1,a2,a3,a4⟩:=h
 obtain⟨b1,b2,b3,b4⟩:=h'
 by_cases c1:F'<F∨F'=F∧P'<P
 ·have:=a4 F' P' b1 b2 c1;rw[b3]at this;cases this
 by_cases c2:F<F'∨F=F'∧P<P'
 ·have:=b4 F P a1 a2 c2;rw[a3]at this;cases this
 omega
theorem FirstC.not {l:List ProtoD}{len:Nat→Nat}{bad:Nat→Nat→Bool}{F P:Nat}(h:FirstC l len bad F P)(h':NoC l len bad):False:=by
 have:=h' F P h.1 h.2.1;rw[h.2.2.1]at this;cases this
theorem partsSaid_unique {l:List ProtoD}{c f n c' f' n':Int}(h:PartsSaid l c f n)(h':PartsSaid l c' f' n'):c=c'∧f=f'∧n=n':=by
 rcases h with⟨a1,rfl,rfl,rfl⟩ | ⟨a1,rfl,rfl,F,rfl,a2,a3,a4⟩ | ⟨a1,a2,rfl,F,P,rfl,rfl,a3⟩ | ⟨a1,a2,a4,rfl,F,P,rfl,rfl,a3⟩ | ⟨a1,a2,a4,a5,rfl,F,P,rfl,rfl,a3⟩ | ⟨a1,a2,a4,a5,a6,rfl,rfl,rfl⟩<;>
 rcases h' with⟨b1,rfl,rfl,rfl⟩ | ⟨b1,rfl,rfl,F',rfl,b2,b3,b4⟩ | ⟨b1,b2,rfl,F',P',rfl,rfl,b3⟩ | ⟨b1,b2,b4,rfl,F',P',rfl,rfl,b3⟩ | ⟨b1,b2,b4,b5,rfl,F',P',rfl,rfl,b3⟩ | ⟨b1,b2,b4,b5,b6,rfl,rfl,rfl⟩
 ·exact⟨rfl,rfl,rfl⟩
 ·exact absurd a1 b1
 ·exact absurd a1 b1
 ·exact absurd a1 b1
 ·exact absurd a1 b1
 ·exact absurd a1 b1
 ·exact absurd b1 a1
 ·by_cases e1:F<F'
  ·have:=b4 F e1;rw[a3]at this;cases this
  by_cases e2:F'<F
  ·have:=a4 F' e2;rw[b3]at this;cases this
  have:F=F':=by omega
  subst this;exact⟨rfl,rfl,rfl⟩
 ·have:=b2 F a2;rw[a3]at this;cases this
 ·have:=b2 F a2;rw[a3]at this;cases this
 ·have:=b2 F a2;rw[a3]at this;cases this
 ·have:=b2 F a2;rw[a3]at this;cases this
 ·exact absurd b1 a1
 ·have:=a2 F' b2;rw[b3]at this;cases this
 ·obtain⟨rfl,rfl⟩:=a3.unique b3;exact⟨rfl,rfl,rfl⟩
 ·exact(a3.not b4).elim
 ·exact(a3.not b4).elim
 ·exact(a3.not b4).elim
 ·exact absurd b1 a1
 ·have:=a2 F' b2;rw[b3]at this;cases this
 ·exact(b3.not a4).elim
 ·obtain⟨rfl,rfl⟩:=a3.unique b3;exact⟨rfl,rfl,rfl⟩
 ·exact(a3.not b5).elim
 ·exact(a3.not b5).elim
 ·exact absurd b1 a1
 ·have:=a2 F' b2;rw[b3]at this;cases this
 ·exact(b3.not a4).elim
 ·exact(b3.not a5).elim
 ·obtain⟨rfl,rfl⟩:=a3.unique b3;exact⟨rfl,rfl,rfl⟩
 ·exact(a3.not b6).elim
 ·exact absurd b1 a1
 ·have:=a2 F' b2;rw[b3]at this;cases this
 ·exact(b3.not a4).elim
 ·exact(b3.not a5).elim
 ·exact(b3.not a6).elim
 ·exact⟨rfl,rfl,rfl⟩
theorem shapeSaid_unique {l:List ProtoD}{c f n c' f' n':Int}(h:ShapeSaid l c f n)(h':ShapeSaid l c' f' n'):c=c'∧f=f'∧n=n':=by
 rcases h with⟨a1,a2⟩ | ⟨a1,rfl,F,P,rfl,rfl,a3⟩ | ⟨a1,a2,rfl,rfl,F,rfl,a5,a6,a3,a4⟩ | ⟨a1,a2,rfl,rfl,rfl,a9⟩<;>
 rcases h' with⟨b1,b2⟩ | ⟨b1,rfl,F',P',rfl,rfl,b3⟩ | ⟨b1,b2,rfl,rfl,F',rfl,b5,b6,b3,b4⟩ | ⟨b1,b2,rfl,rfl,rfl,b9⟩
 ·exact partsSaid_unique a1 b1
 ·exact absurd (partsSaid_unique a1 b1).1 a2
 ·exact absurd (partsSaid_unique a1 b1).1 a2
 ·exact absurd (partsSaid_unique a1 b1).1 a2
 ·exact absurd (partsSaid_unique b1 a1).1 b2
 ·obtain⟨rfl,rfl⟩:=a3.unique b3;exact⟨rfl,rfl,rfl⟩
 ·exact(a3.not b2).elim
 ·exact(a3.not b2).elim
 ·exact absurd (partsSaid_unique b1 a1).1 b2
 ·exact(b3.not a2).elim
 ·by_cases e1:F<F'
  ·have:=b4 F a5 e1;rw[a3]at this;cases this
  by_cases e2:F'<F
  ·have:=a4 F' b5 e2;rw[b3]at this;cases this
  have:F=F':=by omega
  subst this;exact⟨rfl,rfl,rfl⟩
 ·have:=b9 F a5 a6;rw[a3]at this;cases this
 ·exact absurd (partsSaid_unique b1 a1).1 b2
 ·exact(b3.not a2).elim
 ·have:=a9 F' b5 b6;rw[b3]at this;cases this
 ·exact⟨rfl,rfl,rfl⟩
def sel3 (v0 v1 v2:Value):Nat→Value
 | 0=>v0
 | 1=>v1
 | _=>v2
def ImplShape (G:World→Prop):Prop:=
 ∀(a:Option Addr) (l:List ProtoD) (c:Nat) (S:Nat→Prop) (w:World),G w→ProtosAt w S a l→(∀ b,S b→b<w.heap.size)→tProtos l≤1048576 →
  Calls Tryz.prog 14 #[.agg #[.slice a l.length c]] w fun e w'=>∃ x f n,e=.returned (.agg #[.int .i64 x,.int .i64 f,.int .i64 n])∧ShapeSaid l x f n∧Below w.heap.size w w'
def sgnBit (x:Nat):Bool:=x / 9223372036854775808 % 2==1
theorem read_zero:Ieee.double.read 0=.number false 0 (-1074):=by decide +kernel
theorem shl_pos {m k:Nat}(h:m≠0):m <<< k≠0:=by
 rw[Nat.shiftLeft_eq];exact Nat.mul_ne_zero h (Nat.pos_iff_ne_zero.1 (Nat.two_pow_pos k))
theorem zero_read (x:Nat)(h:fltZero x=true):Ieee.double.read x=.number (sgnBit x) 0 (-1074):=by
 have h2:FloatKind.f64.format.order x 0=some Ordering.eq:=by simpa[fltZero]using h
 have h':(Ieee.double.read x).order (Ieee.double.read 0)=some Ordering.eq:=h2
 rw[read_zero]at h'
 have e1:Ieee.double.signWeight=9223372036854775808:=by decide +kernel
 have e2:Ieee.double.binade=4503599627370496:=by decide +kernel
 have e3:Ieee.double.leastPlace=-1074:=by decide +kernel
 unfold Ieee.Format.read at h' ⊢
 simp only[e1,e2,e3]at h' ⊢
 have key:∀(s:Bool) (m:Nat) (i:Int),Ieee.Datum.order (.number s m i) (.number false 0 (-1074))=some Ordering.eq→m=0:=by
  intro s m i hh
  by_cases e:m=0
  ·exact e
  ·exfalso
   simp only[Ieee.Datum.order,Ieee.signed,Option.some.injEq]at hh
   have hp:=shl_pos (k:=(i-min i (-1074)).toNat) e
   generalize m <<< (i-min i (-1074)).toNat=M at *
   have h3:=Std.LawfulEqCmp.eq_of_compare hh
   simp at h3
   cases s<;>simp at h3<;>omega
 split at h'
 ·rename_i c
  rw[if_pos c]
  have:=key _ _ _ h'
  rw[this]
  rfl
 ·exfalso
  split at h'
  ·have:=key _ _ _ h';omega
  ·split at h'
   ·revert h';simp only[Ieee.Datum.order];split<;>simp
   ·simp[Ieee.Datum.order]at h'
theorem pos_sign (x:Nat)(h:fltZero x=true):posOne x=!sgnBit x:=by
 have hq:floatBits .quo .f64 4607182418800017408 x=((Ieee.double.read 4607182418800017408).quotient (Ieee.double.fractionBits+2) (Ieee.double.read x)).map Ieee.double.write:=rfl
 unfold posOne
 rw[hq,read_one,zero_read x h]
 cases sgnBit x
 ·decide +kernel
 ·decide +kernel
end Go.Proofs.YtmjcpapdncfkpaaGreatDoor
namespace Go.Proofs.YtmjcpapdncfkpaaGreatDoor
def Rn (E:Nat→List Nat):Nat→Nat→Nat→Prop
 | 0,x,y=>x=y
 | n+1,x,y=>∃ z,z∈E x∧Rn E n z y
def Rch (E:Nat→List Nat)(x y:Nat):Prop:=∃ n,Rn E n x y
def Ring (E:Nat→List Nat)(x:Nat):Prop:=∃ z,z∈E x∧Rch E z x
section
variable {E:Nat→List Nat} {x y z:Nat}
theorem Rch.refl (E:Nat→List Nat)(x:Nat):Rch E x x:=⟨0,rfl⟩
theorem Rn.add:∀{n m x},Rn E n x y→Rn E m y z→Rn E (n+m) x z
 | 0,m,x,h,h'=>by cases h;rw[Nat.zero_add];exact h'
 | n+1,m,x,⟨u,hu,h⟩,h'=>by rw[Nat.add_right_comm];exact⟨u,hu,h.add h'⟩
theorem Rch.trans (h:Rch E x y)(h':Rch E y z):Rch E x z:=by
 obtain⟨n,h⟩:=h;obtain⟨m,h'⟩:=h';exact⟨n+m,h.add h'⟩
theorem Rch.step (h:y∈E x):Rch E x y:=⟨1,y,h,rfl⟩
theorem Rch.head (h:Rch E x y)(hn:x≠y):∃ u,u∈E x∧Rch E u y:=by
 obtain⟨n,h⟩:=h
 cases n with
 | zero=>exact absurd h hn
 | succ n=>obtain⟨u,hu,h⟩:=h;exact⟨u,hu,n,h⟩
theorem Rch.closed {p:Nat→Prop}(hp:∀ x,p x→∀ y,y∈E x→p y)(h:Rch E x y)(hx:p x):p y:=by
 obtain⟨n,h⟩:=h
 suffices H:∀ n x,Rn E n x y→p x→p y from H n x h hx
 intro n
 induction n with
 | zero=>intro x h hx;cases h;exact hx
 | succ n ih=>intro x h hx;obtain⟨u,hu,h⟩:=h;exact ih u h (hp x hx u hu)
theorem ring_two (hn:x≠y)(h1:Rch E x y)(h2:Rch E y x):Ring E x:=by
 obtain⟨u,hu,h⟩:=h1.head hn;exact⟨u,hu,h.trans h2⟩
end
structure Rg where
 came:Nat→Nat
 low:Nat→Nat
 path:List Nat
 count:Nat
 least:Nat
 found:Bool
def Rg.opn (T:Rg)(x:Nat):Prop:=x∈T.path
def Rg.shut (T:Rg)(x:Nat):Prop:=T.came x≠0∧x ∉ T.path
def Best (E:Nat→List Nat)(p:Nat→Prop)(found:Bool)(least:Nat):Prop:=
 (found=false∧∀ x,p x→¬Ring E x)∨(found=true∧p least∧Ring E least∧∀ x,p x→Ring E x→least≤x)
structure RInv (E:Nat→List Nat)(T:Rg)(G:List Nat):Prop where
 nodup:T.path.Pairwise (fun x y=>T.came x<T.came y)
 vis:∀ x,x∈T.path→T.came x≠0
 cnt:∀ x,T.came x≤T.count
 gray:∀ x,x∈G→x∈T.path
 done:∀ x,T.came x≠0→x ∉ G→∀ y,y∈E x→T.came y≠0
 shut:∀ x,T.shut x→∀ y,y∈E x→T.shut y
 up:∀ x y,x∈T.path→y∈T.path→T.came x≤T.came y→Rch E x y
 down:∀ y,y∈T.path→∃ x,x∈G∧T.came x≤T.came y∧Rch E y x
 best:Best E T.shut T.found T.least
structure RGrow (T T':Rg):Prop where
 came:∀ x,T.came x≠0→T'.came x=T.came x
 new:∀ x,T.came x=0→T'.came x≠0→T.count<T'.came x
 count:T.count≤T'.count
structure RPost (E:Nat→List Nat)(T:Rg)(G:List Nat)(i:Nat)(T':Rg):Prop where
 inv:RInv E T' G
 grow:RGrow T T'
 low:∀ x,T.came x≠0→T'.low x=T.low x
 num:T'.came i=T.count+1
 ext:∃ X,T'.path=T.path++X∧(∀ x,x∈X→T.came x=0)∧(∀ u,u∈X→∀ v,v∈E u→v∈T'.path→T'.low i≤T'.came v) ∧
  ((i∈X∧∃ v,v∈T'.path∧T'.came v=T'.low i∧Rch E i v)∨(i ∉ X∧T'.low i=T'.came i))
 le:T'.low i≤T'.came i
structure RMid (E:Nat→List Nat)(T:Rg)(G:List Nat)(i k:Nat)(T':Rg):Prop where
 inv:RInv E T' (i::G)
 grow:RGrow T T'
 low:∀ x,T.came x≠0→T'.low x=T.low x
 num:T'.came i=T.count+1
 ext:∃ X,T'.path=T.path++i::X∧(∀ x,x∈X→T.came x=0)∧(∀ u,u∈X→∀ v,v∈E u→v∈T'.path→T'.low i≤T'.came v)
 seen:∀ j,j<k→∀ v,(E i)[j]? = some v→T'.came v≠0∧(v∈T'.path→T'.low i≤T'.came v)
 back:∃ v,v∈T'.path∧T'.came v=T'.low i∧Rch E i v
 le:T'.low i≤T'.came i
def upd {α:Type}(f:Nat→α)(i:Nat)(v:α)(x:Nat):α:=if x=i then v else f x
def Rg.push (T:Rg)(i:Nat):Rg:={ T with count:=T.count+1,came:=upd T.came i (T.count+1),low:=upd T.low i (T.count+1),path:=T.path++[i] }
def Rg.lower (T:Rg)(i v:Nat):Rg:={ T with low:=upd T.low i (min (T.low i) v) }
section
variable {E:Nat→List Nat} {T T' T2:Rg} {G:List Nat} {i k:Nat}
theorem push_mid (hI:RInv E T G)(h0:T.came i=0)(hr:∀ x,x∈T.path→Rch E x i):RMid E T G i 0 (T.push i):=by
 have hni:i ∉ T.path:=fun h=>hI.vis i h h0
 have hc:∀ x,x∈T.path→upd T.came i (T.count+1) x=T.came x:=fun x hx=>by
  unfold upd;rw[if_neg (fun e:x=i=>hni (e ▸ hx))]
 have hci:upd T.came i (T.count+1) i=T.count+1:=by simp[upd]
 have hsh:∀ x,(T.push i).shut x↔T.shut x:=fun x=>by
  simp only[Rg.push,Rg.shut,upd,List.mem_append,List.mem_singleton]
  by_cases e:x=i
  ·subst e;simp[h0]
  ·simp[e]
 refine⟨⟨?_,?_,?_,?_,?_,?_,?_,?_,?_⟩,⟨?_,?_,?_⟩,?_,?_,?_,?_,?_,?_⟩
 ·show(T.path++[i]).Pairwise _
  rw[List.pairwise_append]
  refine⟨?_,by simp,?_⟩
  ·refine hI.nodup.imp_of_mem ?_
   intro a b ha hb hab
   simp only[Rg.push];rw[hc a ha,hc b hb];exact hab
  ·intro a ha b hb
   simp only[List.mem_singleton]at hb;subst hb
   simp only[Rg.push];rw[hc a ha,hci];have:=hI.cnt a;omega
 ·intro x hx
  simp only[Rg.push,List.mem_append,List.mem_singleton]at hx ⊢
  unfold upd;split
  ·omega
  ·rcases hx with hx | hx
   ·exact hI.vis x hx
   ·contradiction
 ·intro x;simp only[Rg.push,upd];split
  ·omega
  ·have:=hI.cnt x;omega
 ·intro x hx
  simp only[Rg.push,List.mem_append,List.mem_cons]at hx ⊢
  rcases hx with rfl | hx
  ·simp
  ·exact .inl (hI.gray x hx)
 ·intro x hx hg y hy
  simp only[List.mem_cons,not_or]at hg
  simp only[Rg.push,upd,hg.1,if_false]at hx ⊢
  have:=hI.done x hx hg.2 y hy
  split
  ·omega
  ·exact this
 ·intro x hx y hy
  rw[hsh]at hx ⊢
  exact hI.shut x hx y hy
 ·intro x y hx hy hxy
  simp only[Rg.push,List.mem_append,List.mem_singleton]at hx hy hxy
  rcases hx with hx | rfl<;>rcases hy with hy | rfl
  ·rw[hc x hx,hc y hy]at hxy;exact hI.up x y hx hy hxy
  ·exact hr x hx
  ·rw[hc y hy,hci]at hxy;have:=hI.cnt y;omega
  ·exact Rch.refl _ _
 ·intro y hy
  simp only[Rg.push,List.mem_append,List.mem_singleton]at hy
  rcases hy with hy | rfl
  ·obtain⟨x,h1,h2,h3⟩:=hI.down y hy
   refine⟨x,by simp[h1],?_,h3⟩
   simp only[Rg.push];rw[hc x (hI.gray x h1),hc y hy];exact h2
  ·exact⟨y,by simp,Nat.le_refl _,Rch.refl _ _⟩
 ·have e:(T.push i).shut=T.shut:=funext fun x=>propext (hsh x)
  show Best E (T.push i).shut T.found T.least
  rw[e];exact hI.best
 ·intro x hx;simp only[Rg.push,upd];rw[if_neg (fun e:x=i=>hx (e ▸ h0))]
 ·intro x h1 h2;simp only[Rg.push,upd]at h2 ⊢;split at h2
  ·rename_i e;rw[if_pos e];omega
  ·exact absurd h1 h2
 ·simp only[Rg.push];omega
 ·intro x hx;simp only[Rg.push,upd];rw[if_neg (fun e:x=i=>hx (e ▸ h0))]
 ·exact hci
 ·exact⟨[],rfl,by simp,by simp⟩
 ·intro j hj;omega
 ·exact⟨i,by simp[Rg.push],by simp[Rg.push,upd],Rch.refl _ _⟩
 ·simp[Rg.push,upd]
theorem mid_reach (h:RMid E T G i k T'){x:Nat}(hG:∀ g,g∈G→T.came g≠0∧g∈T.path)(hI:RInv E T G)(hx:x∈T'.path):Rch E x i:=by
 obtain⟨g,h1,h2,h3⟩:=h.inv.down x hx
 refine h3.trans (h.inv.up g i (h.inv.gray g h1) (h.inv.gray i (by simp)) ?_)
 simp only[List.mem_cons]at h1
 rcases h1 with rfl | h1
 ·exact Nat.le_refl _
 ·rw[h.num,h.grow.came g (hG g h1).1];have:=hI.cnt g;omega
end
section
variable {E:Nat→List Nat} {T T' T2:Rg} {G:List Nat} {i k:Nat}
theorem lower_low (T:Rg)(i v x:Nat)(h:x≠i):(T.lower i v).low x=T.low x:=by simp[Rg.lower,upd,h]
theorem lower_at (T:Rg)(i v:Nat):(T.lower i v).low i=min (T.low i) v:=by simp[Rg.lower,upd]
theorem RInv.lower (h:RInv E T G)(i v:Nat):RInv E (T.lower i v) G:=⟨h.nodup,h.vis,h.cnt,h.gray,h.done,h.shut,h.up,h.down,h.best⟩
theorem RGrow.trans (h:RGrow T T')(h':RGrow T' T2):RGrow T T2 where
 came x hx:=by
  have e:=h.came x hx
  rw[h'.came x (by rw[e];exact hx),e]
 new x h0 h2:=by
  by_cases e:T'.came x=0
  ·have:=h'.new x e h2;have:=h.count;omega
  ·rw[h'.came x e];exact h.new x h0 e
 count:=Nat.le_trans h.count h'.count
theorem RGrow.lower (h:RGrow T T')(i v:Nat):RGrow T (T'.lower i v):=⟨h.came,h.new,h.count⟩
theorem post_open (h:RPost E T G i T'){v:Nat}(hv:T.came v≠0)(ho:v∈T'.path):v∈T.path:=by
 obtain⟨X,h1,h2,_⟩:=h.ext
 rw[h1,List.mem_append]at ho
 rcases ho with ho | ho
 ·exact ho
 ·exact absurd (h2 v ho) hv
theorem mid_new (h:RMid E T G i k T')(h0:T.came i=0){X:List Nat}(hX:T'.path=T.path++i::X)(hn:∀ x,x∈X→T.came x=0)(hI:RInv E T G){u:Nat}(hu:u∈X):u ∉ i::G:=by
 intro hg
 rw[List.mem_cons]at hg
 rcases hg with rfl | hg
 ·have hp:=h.inv.nodup
  rw[hX,List.pairwise_append]at hp
  have:=(List.pairwise_cons.1 hp.2.1).1 u hu
  omega
 ·exact hI.vis u (hI.gray u hg) (hn u hu)
theorem mid_walk (hI:RInv E T G)(h0:T.came i=0)(h:RMid E T G i k T'){next:Nat}(hk:(E i)[k]? = some next)(hc:T'.came next=0)(hp:RPost E T' (i::G) next T2):RMid E T G i (k+1) (T2.lower i (T2.low next)):=by
 obtain⟨X,hX,hXn,hXl⟩:=h.ext
 obtain⟨Y,hY,hYn,hYl,hYe⟩:=hp.ext
 have hT0:∀ x,T.came x≠0→T'.came x≠0:=fun x hx=>by rw[h.grow.came x hx];exact hx
 have hci:T'.came i≠0:=by rw[h.num];omega
 have hci2:T2.came i=T.count+1:=by rw[hp.grow.came i hci,h.num]
 have hli:T2.low i=T'.low i:=hp.low i hci
 have hni:next≠i:=fun e=>by rw[e]at hc;exact hci hc
 have hlow:∀ v,T'.low i≤T'.came v→T'.came v≠0→T2.low i≤T2.came v:=fun v h1 h2=>by rw[hli,hp.grow.came v h2];exact h1
 refine⟨hp.inv.lower _ _,(h.grow.trans hp.grow).lower _ _,?_,hci2,⟨X++Y,?_,?_,?_⟩,?_,?_,?_⟩
 ·intro x hx
  rw[lower_low _ _ _ _ (fun e:x=i=>hx (e ▸ h0)),hp.low x (hT0 x hx),h.low x hx]
 ·show T2.path=_
  rw[hY,hX];simp
 ·intro x hx
  rw[List.mem_append]at hx
  rcases hx with hx | hx
  ·exact hXn x hx
  ·have:=hYn x hx
   by_cases e:T.came x=0
   ·exact e
   ·exact absurd this (hT0 x e)
 ·intro u hu v hv hvo
  rw[lower_at]
  rw[List.mem_append]at hu
  rcases hu with hu | hu
  ·have huv:T'.came u≠0:=h.inv.vis u (by rw[hX];simp[hu])
   have hvv:T'.came v≠0:=h.inv.done u huv (mid_new h h0 hX hXn hI hu) v hv
   have:=hlow v (hXl u hu v hv (post_open hp hvv hvo)) hvv
   exact Nat.le_trans (Nat.min_le_left _ _) this
  ·exact Nat.le_trans (Nat.min_le_right _ _) (hYl u hu v hv hvo)
 ·intro j hj v hv
  rw[lower_at]
  by_cases e:j=k
  ·subst e
   obtain rfl:next=v:=by rw[hk]at hv;exact Option.some.inj hv
   refine⟨?_,fun _=>Nat.le_trans (Nat.min_le_right _ _) hp.le⟩
   show T2.came next≠0
   rw[hp.num];omega
  ·obtain⟨h1,h2⟩:=h.seen j (by omega) v hv
   refine⟨?_,fun ho=>Nat.le_trans (Nat.min_le_left _ _) (hlow v (h2 (post_open hp h1 ho)) h1)⟩
   show T2.came v≠0
   rw[hp.grow.came v h1];exact h1
 ·rw[lower_at]
  obtain⟨v,hv1,hv2,hv3⟩:=h.back
  by_cases e:T2.low i≤T2.low next
  ·refine⟨v,?_,?_,hv3⟩
   ·show v∈T2.path
    rw[hY];simp[hv1]
   ·show T2.came v=_
    rw[Nat.min_eq_left e,hli,hp.grow.came v (h.inv.vis v hv1),hv2]
  ·rcases hYe with⟨hy,v,hv1,hv2,hv3⟩ | ⟨hy,hy2⟩
   ·exact⟨v,hv1,by rw[Nat.min_eq_right (by omega)];exact hv2,(Rch.step (List.mem_of_getElem? hk)).trans hv3⟩
   ·exfalso
    have h1:=h.le
    rw[h.num]at h1
    have h2:=hp.num
    have h3:=h.inv.cnt i
    rw[h.num]at h3
    omega
 ·rw[lower_at]
  show _≤T2.came i
  have h1:=h.le
  rw[h.num]at h1
  rw[hci2,hli]
  exact Nat.le_trans (Nat.min_le_left _ _) h1
theorem mid_open (h0:T.came i=0)(h:RMid E T G i k T'){next:Nat}(hk:(E i)[k]? = some next)(hc:T'.came next≠0)(ho:next∈T'.path):RMid E T G i (k+1) (T'.lower i (T'.came next)):=by
 obtain⟨X,hX,hXn,hXl⟩:=h.ext
 refine⟨h.inv.lower _ _,h.grow.lower _ _,?_,h.num,⟨X,hX,hXn,?_⟩,?_,?_,?_⟩
 ·intro x hx
  rw[lower_low _ _ _ _ (fun e:x=i=>hx (e ▸ h0)),h.low x hx]
 ·intro u hu v hv hvo
  rw[lower_at]
  exact Nat.le_trans (Nat.min_le_left _ _) (hXl u hu v hv hvo)
 ·intro j hj v hv
  rw[lower_at]
  by_cases e:j=k
  ·subst e
   obtain rfl:next=v:=by rw[hk]at hv;exact Option.some.inj hv
   exact⟨hc,fun _=>Nat.min_le_right _ _⟩
  ·obtain⟨h1,h2⟩:=h.seen j (by omega) v hv
   exact⟨h1,fun ho=>Nat.le_trans (Nat.min_le_left _ _) (h2 ho)⟩
 ·rw[lower_at]
  obtain⟨v,hv1,hv2,hv3⟩:=h.back
  by_cases e:T'.low i≤T'.came next
  ·exact⟨v,hv1,by rw[Nat.min_eq_left e];exact hv2,hv3⟩
  ·exact⟨next,ho,by rw[Nat.min_eq_right (by omega)];rfl,Rch.step (List.mem_of_getElem? hk)⟩
 ·rw[lower_at]
  exact Nat.le_trans (Nat.min_le_left _ _) h.le
theorem mid_shut (h:RMid E T G i k T'){next:Nat}(hk:(E i)[k]? = some next)(hc:T'.came next≠0)(ho:next ∉ T'.path):RMid E T G i (k+1) T':=by
 refine⟨h.inv,h.grow,h.low,h.num,h.ext,?_,h.back,h.le⟩
 intro j hj v hv
 by_cases e:j=k
 ·subst e
  obtain rfl:next=v:=by rw[hk]at hv;exact Option.some.inj hv
  exact⟨hc,fun h=>absurd h ho⟩
 ·exact h.seen j (by omega) v hv
theorem mid_all (h:RMid E T G i (E i).length T'){v:Nat}(hv:v∈E i):T'.came v≠0∧(v∈T'.path→T'.low i≤T'.came v):=by
 obtain⟨j,hj,e⟩:=List.getElem_of_mem hv
 exact h.seen j hj v (by rw[List.getElem?_eq_getElem hj,e])
theorem end_keep (h0:T.came i=0)(h:RMid E T G i (E i).length T')(hne:T'.low i≠T'.came i):RPost E T G i T':=by
 obtain⟨X,hX,hXn,hXl⟩:=h.ext
 have hle:=h.le
 have hI:=h.inv
 obtain⟨v0,hv1,hv2,hv3⟩:=h.back
 refine⟨⟨hI.nodup,hI.vis,hI.cnt,fun x hx=>hI.gray x (by simp[hx]),?_,hI.shut,hI.up,?_,hI.best⟩,h.grow,h.low,h.num,⟨i::X,hX,?_,?_,.inl ⟨by simp,v0,hv1,hv2,hv3⟩⟩,hle⟩
 ·intro x hx hg y hy
  by_cases e:x=i
  ·subst e;exact(mid_all h hy).1
  ·exact hI.done x hx (by simp[e,hg]) y hy
 ·intro y hy
  obtain⟨x,h1,h2,h3⟩:=hI.down y hy
  rw[List.mem_cons]at h1
  rcases h1 with rfl | h1
  ·obtain⟨x2,g1,g2,g3⟩:=hI.down v0 hv1
   rw[List.mem_cons]at g1
   rcases g1 with rfl | g1
   ·omega
   ·exact⟨x2,g1,by omega,(h3.trans hv3).trans g3⟩
  ·exact⟨x,h1,h2,h3⟩
 ·intro x hx
  rw[List.mem_cons]at hx
  rcases hx with rfl | hx
  ·exact h0
  ·exact hXn x hx
 ·intro u hu v hv hvo
  rw[List.mem_cons]at hu
  rcases hu with rfl | hu
  ·exact(mid_all h hv).2 hvo
  ·exact hXl u hu v hv hvo
def Rg.close (T:Rg)(P:List Nat)(found:Bool)(least:Nat):Rg:={ T with path:=P,found:=found,least:=least }
def closeF (T:Rg)(g:List Nat)(self:Bool)(m:Nat):Bool×Nat:=
 if(decide (1<g.length)||self)&&(!T.found||decide (m<T.least))then(true,m)else(T.found,T.least)
theorem end_shut (h0:T.came i=0)(hI0:RInv E T G)(h:RMid E T G i (E i).length T')(he:T'.low i=T'.came i){X:List Nat}(hX:T'.path=T.path++i::X){m:Nat}(hm:m∈i::X)(hmin:∀ x,x∈i::X→m≤x){self:Bool}(hself:self=true↔i∈E i) :
  RPost E T G i (T'.close T.path (closeF T' (i::X) self m).1 (closeF T' (i::X) self m).2):=by
 obtain⟨X',hX',hXn,hXl⟩:=h.ext
 obtain rfl:X'=X:=by rw[hX]at hX';simpa using hX'.symm
 have hI:=h.inv
 have hip:i∈T'.path:=hI.gray i (by simp)
 have hpw:=hI.nodup
 rw[hX,List.pairwise_append]at hpw
 obtain⟨hpw1,hpw2,hpw3⟩:=hpw
 have hbelow:∀ x,x∈T.path→T'.came x<T'.came i:=fun x hx=>hpw3 x hx i (by simp)
 have habove:∀ x,x∈i::X'→T'.came i≤T'.came x:=fun x hx=>by
  rw[List.mem_cons]at hx
  rcases hx with rfl | hx
  ·exact Nat.le_refl _
  ·exact Nat.le_of_lt ((List.pairwise_cons.1 hpw2).1 x hx)
 have hmem:∀ x,x∈T'.path↔x∈T.path∨x∈i::X':=fun x=>by rw[hX,List.mem_append]
 have hdisj:∀ x,x∈T.path→x ∉ i::X':=fun x h1 h2=>by have:=hbelow x h1;have:=habove x h2;omega
 have hgp:∀ x,x∈i::X'→x∈T'.path:=fun x hx=>(hmem x).2 (.inr hx)
 have hto:∀ x,x∈i::X'→Rch E x i:=fun x hx=>by
  obtain⟨g,h1,h2,h3⟩:=hI.down x (hgp x hx)
  refine h3.trans (hI.up g i (hI.gray g h1) hip ?_)
  rw[List.mem_cons]at h1
  rcases h1 with rfl | h1
  ·exact Nat.le_refl _
  ·exact Nat.le_of_lt (hbelow g (hI0.gray g h1))
 have hfrom:∀ x,x∈i::X'→Rch E i x:=fun x hx=>hI.up i x hip (hgp x hx) (habove x hx)
 have hedge:∀ u,u∈i::X'→∀ v,v∈E u→T'.came v≠0∧v ∉ T.path:=fun u hu v hv=>by
  have hvis:T'.came v≠0:=by
   rw[List.mem_cons]at hu
   rcases hu with rfl | hu
   ·exact(mid_all h hv).1
   ·exact hI.done u (hI.vis u (hgp u (by simp[hu]))) (mid_new h h0 hX hXn hI0 hu) v hv
  refine⟨hvis,fun hvp=>?_⟩
  have h1:=hbelow v hvp
  have h2:T'.low i≤T'.came v:=by
   rw[List.mem_cons]at hu
   rcases hu with rfl | hu
   ·exact(mid_all h hv).2 ((hmem v).2 (.inl hvp))
   ·exact hXl u hu v hv ((hmem v).2 (.inl hvp))
  omega
 have hshut:∀ x,(T'.close T.path (closeF T' (i::X') self m).1 (closeF T' (i::X') self m).2).shut x↔T'.shut x∨x∈i::X':=fun x=>by
  show T'.came x≠0∧x ∉ T.path↔(T'.came x≠0∧x ∉ T'.path)∨x∈i::X'
  rw[hmem]
  constructor
  ·rintro⟨h1,h2⟩
   by_cases e:x∈i::X'
   ·exact .inr e
   ·exact .inl ⟨h1,fun h=>h.elim h2 e⟩
  ·rintro(⟨h1,h2⟩ | h1)
   ·exact⟨h1,fun h=>h2 (.inl h)⟩
   ·exact⟨hI.vis x (hgp x h1),fun h=>hdisj x h h1⟩
 have hring:∀ x,x∈i::X'→(Ring E x↔(decide (1<(i::X').length)||self)=true):=fun x hx=>by
  constructor
  ·rintro⟨z,hz,hr⟩
   cases X' with
   | cons a X2=>simp
   | nil=>
    obtain rfl:x=i:=by simpa using hx
    simp only[List.length_cons,List.length_nil,Bool.or_eq_true]
    right
    rw[hself]
    by_cases e:z=x
    ·rw[e]at hz;exact hz
    ·exfalso
     obtain⟨h1,h2⟩:=hedge x (by simp) z hz
     have hs:T'.shut z:=⟨h1,fun h=>by rw[hmem]at h;rcases h with h | h;exact h2 h;simp at h;exact e h⟩
     exact(hr.closed (p:=T'.shut) hI.shut hs).2 hip
  ·intro hc
   rw[Bool.or_eq_true,decide_eq_true_eq]at hc
   by_cases hs:i∈E i
   ·have hri:Ring E i:=⟨i,hs,Rch.refl _ _⟩
    by_cases e:x=i
    ·rw[e];exact hri
    ·exact ring_two e (hto x hx) (hfrom x hx)
   ·have hl:1<(i::X').length:=hc.resolve_right (fun h=>hs (hself.1 h))
    cases X' with
    | nil=>simp at hl
    | cons a X2=>
     by_cases e:x=i
     ·have ha:a≠i:=fun h=>by
       have:=(List.pairwise_cons.1 hpw2).1 a (by simp)
       rw[h]at this;omega
      subst e
      exact ring_two (Ne.symm ha) (hfrom a (by simp)) (hto a (by simp))
     ·exact ring_two e (hto x hx) (hfrom x hx)
 refine⟨⟨?_,?_,hI.cnt,hI0.gray,?_,?_,?_,?_,?_⟩,⟨h.grow.came,h.grow.new,h.grow.count⟩,h.low,h.num,⟨[],by simp[Rg.close],by simp,by simp,.inr ⟨by simp,he⟩⟩,h.le⟩
 ·exact hpw1
 ·exact fun x hx=>hI.vis x ((hmem x).2 (.inl hx))
 ·intro x hx hg y hy
  by_cases e:x=i
  ·subst e;exact(mid_all h hy).1
  ·exact hI.done x hx (by simp[e,hg]) y hy
 ·intro x hx y hy
  rw[hshut]at hx
  rcases hx with hx | hx
  ·rw[hshut];exact .inl (hI.shut x hx y hy)
  ·exact hedge x hx y hy
 ·exact fun x y hx hy hxy=>hI.up x y ((hmem x).2 (.inl hx)) ((hmem y).2 (.inl hy)) hxy
 ·intro y hy
  obtain⟨x,h1,h2,h3⟩:=hI.down y ((hmem y).2 (.inl hy))
  rw[List.mem_cons]at h1
  rcases h1 with rfl | h1
  ·have:=hbelow y hy
   change T.path.Mem y at hy
   omega
  ·exact⟨x,h1,h2,h3⟩
 ·have e:(T'.close T.path (closeF T' (i::X') self m).1 (closeF T' (i::X') self m).2).shut=fun x=>T'.shut x∨x∈i::X':=funext fun x=>propext (hshut x)
  show Best E (T'.close T.path (closeF T' (i::X') self m).1 (closeF T' (i::X') self m).2).shut (closeF T' (i::X') self m).1 (closeF T' (i::X') self m).2
  rw[e]
  have hb:=hI.best
  clear e hshut
  by_cases hc:(decide (1<(i::X').length)||self)=true
  ·have hr:∀ x,x∈i::X'→Ring E x:=fun x hx=>(hring x hx).2 hc
   unfold closeF
   rw[hc,Bool.true_and]
   rcases hb with⟨hf,hb⟩ | ⟨hf,hb1,hb2,hb3⟩
   ·rw[hf,if_pos (by simp)]
    refine .inr ⟨rfl,.inr hm,hr m hm,fun x hx hxr=>?_⟩
    rcases hx with hx | hx
    ·exact absurd hxr (hb x hx)
    ·exact hmin x hx
   ·rw[hf]
    by_cases hlt:m<T'.least
    ·rw[if_pos (by simp[hlt])]
     refine .inr ⟨rfl,.inr hm,hr m hm,fun x hx hxr=>?_⟩
     rcases hx with hx | hx
     ·have:=hb3 x hx hxr;show m≤x;omega
     ·exact hmin x hx
    ·rw[if_neg (by simp[hlt])]
     refine .inr ⟨rfl,.inl hb1,hb2,fun x hx hxr=>?_⟩
     rcases hx with hx | hx
     ·exact hb3 x hx hxr
     ·have:=hmin x hx;show T'.least≤x;omega
  ·have hr:∀ x,x∈i::X'→¬Ring E x:=fun x hx h=>hc ((hring x hx).1 h)
   have hcf:(decide (1<(i::X').length)||self)=false:=by simpa using hc
   unfold closeF
   rw[hcf,Bool.false_and,if_neg (by simp)]
   rcases hb with⟨hf,hb⟩ | ⟨hf,hb1,hb2,hb3⟩
   ·refine .inl ⟨hf,fun x hx=>?_⟩
    rcases hx with hx | hx
    ·exact hb x hx
    ·exact hr x hx
   ·refine .inr ⟨hf,.inl hb1,hb2,fun x hx hxr=>?_⟩
    rcases hx with hx | hx
    ·exact hb3 x hx hxr
    ·exact absurd hxr (hr x hx)
end
def unv (came:Nat→Nat):Nat→Nat
 | 0=>0
 | n+1=>unv came n+(if came n=0 then 1 else 0)
theorem unv_zero:∀ n,unv (fun _=>0) n=n
 | 0=>rfl
 | n+1=>by simp only[unv,unv_zero n];rfl
theorem unv_same {c c':Nat→Nat}:∀ n,(∀ x,x<n→c x=c' x)→unv c n=unv c' n
 | 0,_=>rfl
 | n+1,h=>by simp only[unv];rw[unv_same n (fun x hx=>h x (by omega)),h n (by omega)]
theorem unv_push {c:Nat→Nat}{i v:Nat}(h0:c i=0)(hv:v≠0):∀ n,i<n→unv (upd c i v) n+1=unv c n
 | 0,h=>absurd h (Nat.not_lt_zero _)
 | n+1,h=>by
  simp only[unv]
  by_cases e:i=n
  ·subst e
   rw[unv_same (c:=upd c i v) (c':=c) i (fun x hx=>by unfold upd;rw[if_neg (by omega)])]
   simp[upd,h0,hv]
  ·have:=unv_push h0 hv n (by omega)
   have e2:upd c i v n=c n:=by unfold upd;rw[if_neg (fun h=>e h.symm)]
   rw[e2];omega
theorem unv_le_of {c c':Nat→Nat}:∀ n,(∀ x,c x≠0→c' x≠0)→unv c' n≤unv c n
 | 0,_=>Nat.le_refl _
 | n+1,h=>by
  have:=unv_le_of n h
  simp only[unv]
  by_cases e:c n=0
  ·rw[if_pos e];split<;>omega
  ·rw[if_neg e,if_neg (h n e)];omega
theorem unv_pos {c:Nat→Nat}{i:Nat}(h0:c i=0):∀ n,i<n→0<unv c n
 | 0,h=>absurd h (Nat.not_lt_zero _)
 | n+1,h=>by
  simp only[unv]
  by_cases e:i=n
  ·subst e;rw[if_pos h0];omega
  ·have:=unv_pos h0 n (by omega);omega
structure BInv (E:Nat→List Nat)(a:Nat)(L:List Nat)(seen:Nat→Bool)(i:Nat):Prop where
 come:∀ x,x∈L→∃ z,z∈E a∧Rch E z x
 first:∀ z,z∈E a→z∈L
 past:∀ j x,j<i→L[j]? = some x→x≠a∧seen x=true
 kids:∀ x,seen x=true→∀ y,y∈E x→y∈L
 old:∀ x,seen x=true→x∈L
section
variable {E:Nat→List Nat} {a i x:Nat} {L:List Nat} {seen:Nat→Bool}
theorem BInv.start (E:Nat→List Nat)(a:Nat):BInv E a (E a) (fun _=>false) 0:=
 ⟨fun x h=>⟨x,h,Rch.refl _ _⟩,fun _ h=>h,fun _ _ h=>absurd h (Nat.not_lt_zero _),fun _ h=>Bool.noConfusion h,fun _ h=>Bool.noConfusion h⟩
theorem BInv.again (h:BInv E a L seen i)(hx:L[i]? = some x)(hn:x≠a)(hs:seen x=true):BInv E a L seen (i+1):=
 ⟨h.come,h.first,fun j y hj hy=>by
  by_cases e:j=i
  ·subst e;rw[hx]at hy;obtain rfl:=Option.some.inj hy;exact⟨hn,hs⟩
  ·exact h.past j y (by omega) hy,h.kids,h.old⟩
theorem BInv.new (h:BInv E a L seen i)(hx:L[i]? = some x)(hn:x≠a):BInv E a (L++E x) (upd seen x true) (i+1):=by
 have hi:i<L.length:=(List.getElem?_eq_some_iff.1 hx).1
 have hxL:x∈L:=List.mem_of_getElem? hx
 refine⟨?_,?_,?_,?_,?_⟩
 ·intro y hy
  rw[List.mem_append]at hy
  rcases hy with hy | hy
  ·exact h.come y hy
  ·obtain⟨z,h1,h2⟩:=h.come x hxL
   exact⟨z,h1,h2.trans (Rch.step hy)⟩
 ·exact fun z hz=>List.mem_append.2 (.inl (h.first z hz))
 ·intro j y hj hy
  rw[List.getElem?_append_left (by omega)]at hy
  by_cases e:j=i
  ·subst e;rw[hx]at hy;obtain rfl:=Option.some.inj hy;exact⟨hn,by simp[upd]⟩
  ·obtain⟨h1,h2⟩:=h.past j y (by omega) hy
   exact⟨h1,by unfold upd;split;rfl;exact h2⟩
 ·intro y hy z hz
  rw[List.mem_append]
  by_cases e:y=x
  ·subst e;exact .inr hz
  ·simp only[upd,e,if_false]at hy
   exact .inl (h.kids y hy z hz)
 ·intro y hy
  rw[List.mem_append]
  by_cases e:y=x
  ·subst e;exact .inl hxL
  ·simp only[upd,e,if_false]at hy
   exact .inl (h.old y hy)
theorem BInv.yes (h:BInv E a L seen i)(hx:L[i]? = some a):Ring E a:=by
 obtain⟨z,h1,h2⟩:=h.come a (List.mem_of_getElem? hx)
 exact⟨z,h1,h2⟩
theorem BInv.no (h:BInv E a L seen i)(hi:L.length≤i):¬Ring E a:=by
 rintro⟨z,h1,h2⟩
 have hc:∀ x,x∈L→∀ y,y∈E x→y∈L:=fun x hx y hy=>by
  obtain⟨j,hj,e⟩:=List.getElem_of_mem hx
  have:=h.past j x (by omega) (by rw[List.getElem?_eq_getElem hj,e])
  exact h.kids x this.2 y hy
 have ha:a∈L:=h2.closed hc (h.first z h1)
 obtain⟨j,hj,e⟩:=List.getElem_of_mem ha
 exact(h.past j a (by omega) (by rw[List.getElem?_eq_getElem hj,e])).1 rfl
end
end Go.Proofs.YtmjcpapdncfkpaaGreatDoor
namespace Go.Proofs.YtmjcpapdncfkpaaGreatDoor
structure GuD where
 tr:Bool
 keep:Int
 hand:Int
def GuD.z:GuD:=⟨false,0,0⟩
structure StD where
 types:List Int
 guards:List GuD
def tyAt (t:List Int)(r:Nat):Int:=t[r]?.getD 0
def wantsC (r:Nat):Int×Bool:=
 if r=2 then(1,true)else if r=3 then(3,true)else if r=4∨r=18∨r=19∨r=20 then(1,false)else if r=5 then(2,false)else if r=6 then(3,false)else(0,false)
structure RdS where
 types:List Int
 taken:List Nat
 stay:List Nat
def regOf (op:Bool)(x:Int):Nat:=if op=true∧x<0 then(-1-x).toNat else x.toNat
def rdF (r:Nat)(x:Int)(s:RdS):Option RdS:=
 if(wantsC r).1=0 then some s
 else if tyAt s.types (regOf (wantsC r).2 x)≠(wantsC r).1 then none
 else if(wantsC r).2=true∧x<0 then
  if regOf true x∈s.stay then none else some ⟨s.types.set (regOf true x) 0,s.taken++[regOf true x],s.stay⟩
 else if(wantsC r).2=true then some s
 else if(r=18∨r=20)∧tyAt s.types (x.toNat+1)≠1 then none
 else if r=18∧tyAt s.types (x.toNat+2)≠1 then none
 else if r=19 then(if tyAt s.types (x.toNat+1)≠0 then none else some ⟨s.types,s.taken++[x.toNat],s.stay++[x.toNat]⟩)
 else some ⟨s.types,s.taken,s.stay++[x.toNat]⟩
def rdUpto (r:List Nat)(n:InsD)(s:RdS):Nat→Option RdS
 | 0=>some s
 | k+1=>match rdUpto r n s k with
  | none=>none
  | some s'=>rdF (r[k]?.getD 0) (insF n k) s'
def readC (l:List ProtoD)(n:InsD)(t:List Int):Option RdS:=
 match rdUpto ((rolesC n.op).getD []) n ⟨t,[],[]⟩ 4 with
 | none=>none
 | some s=>if n.op=11∧((prD l n.fb.toNat).ups.any fun u=>u.1&&tyAt s.types u.2.toNat != 2)=true then none else some s
def writeC (n:InsD)(t:List Int):List Int:=
 if n.op=6 then t.set n.fa.toNat 2
 else if n.op=22∨n.op=27∨n.op=28 then t.set n.fa.toNat 3
 else if n.op=40 then t.set (n.fa.toNat+1) 1
 else if n.op=42 then t.set n.fa.toNat 0
 else if n.op=41 then t.set n.fc.toNat 3
 else if((rolesC n.op).getD [])[0]?.getD 0=1 then t.set n.fa.toNat 1
 else t
def aboveC (g:List GuD)(keep:Int):Bool:=!(g.any fun x=>x.tr&&decide (keep<x.keep))
def changeC (n:InsD)(g:List GuD):Option (List GuD):=
  if n.op=31 then(if g.length<50∧aboveC g n.fb=true then some (g++[⟨true,n.fb,n.fa⟩])else none)
  else if n.op=33 then(if g.length<50∧aboveC g n.fa=true then some (g++[⟨false,n.fa,0⟩])else none)
  else if n.op=32 then(if g.length=0∨(g[g.length-1]?.getD GuD.z).tr=false then none else some (g.take (g.length-1)))
  else if n.op=34∨n.op=35∨n.op=36 then
    (if g.length=0∨(g[g.length-1]?.getD GuD.z).tr=true∨(n.op=34∧aboveC g n.fa=false)then none
     else if n.op=34 then some (g.set (g.length-1) { g[g.length-1]?.getD GuD.z with keep:=n.fa })
     else if n.op=36 then some (g.take (g.length-1))
     else some g)
  else some g
def keptC (n:InsD)(g:List GuD)(taken:List Nat)(bef beh:List Int):Bool:=
  (List.range g.length).all fun i=>!(g[i]?.getD GuD.z).tr ||
    ((taken.all fun r=>!decide ((r:Int)<(g[i]?.getD GuD.z).keep)) &&
     (decide (n.op=32∧i+1=g.length)||(List.range (g[i]?.getD GuD.z).keep.toNat).all fun r=>tyAt bef r==tyAt beh r))
def handC (n:InsD)(t:List Int):List Int:=((t.take n.fb.toNat++List.replicate (t.length-n.fb.toNat) 0).set n.fb.toNat 1).set (n.fb.toNat+1) 1
def goesC (n:InsD):Bool:=!(n.op==19||n.op==29||n.op==30)
def followC (n:InsD)(a:Nat)(s:StD)(t:List Int)(g:List GuD):List (Nat×StD):=
  (if goesC n then[(a+1,⟨t,g⟩)]else[]) ++
  (if n.op=19 then[(n.fa.toNat,⟨t,g⟩)]
   else if n.op=20∨n.op=21∨n.op=38∨n.op=39 then[(n.fb.toNat,⟨t,g⟩)]
   else if n.op=41 then[(n.fb.toNat,⟨t.set n.fc.toNat (tyAt s.types n.fc.toNat),g⟩)]
   else if n.op=31 then[(n.fa.toNat,⟨handC n s.types,s.guards⟩)]
   else[])
def silentC (n:InsD)(a:Nat):List Nat:=
 if n.op=1∨n.op=3∨n.op=28∨n.op=29∨n.op=30 then[]
 else if n.op=18∧n.fb=12 then[]
 else if n.op=19 then[n.fa.toNat]
 else if n.op=41 then[n.fb.toNat]
 else if n.op=20∨n.op=21∨n.op=38∨n.op=39 then[n.fb.toNat,a+1]
 else if n.op=31 then[n.fa.toNat,a+1]
 else[a+1]
structure Mst where
 st:Nat→Option StD
 due:Nat→Bool
def sameGu (a b:GuD):Bool:=a.tr==b.tr&&a.keep==b.keep&&a.hand==b.hand
def sameGs:List GuD→List GuD→Bool
 | [],[]=>true
 | a::l,b::m=>sameGu a b&&sameGs l m
 | _,_=>false
def sameSt (a b:StD):Bool:=a.types==b.types&&sameGs a.guards b.guards
theorem sameGu_iff {a b:GuD}:sameGu a b=true↔a=b:=by
 obtain⟨a1,a2,a3⟩:=a;obtain⟨b1,b2,b3⟩:=b
 simp[sameGu,and_assoc]
theorem sameGs_iff:∀{a b:List GuD},sameGs a b=true↔a=b
 | [],[]=>by simp[sameGs]
 | [],_::_=>by simp[sameGs]
 | _::_,[]=>by simp[sameGs]
 | x::l,y::m=>by simp[sameGs,sameGu_iff,sameGs_iff (a:=l) (b:=m)]
theorem sameSt_iff {a b:StD}:sameSt a b=true↔a=b:=by
 obtain⟨a1,a2⟩:=a;obtain⟨b1,b2⟩:=b
 simp[sameSt,sameGs_iff]
def oneM (σ:Mst)(x:Nat×StD):Option Mst:=
 match σ.st x.1 with
 | none=>some ⟨upd σ.st x.1 (some x.2),upd σ.due x.1 true⟩
 | some s=>if sameSt s x.2=true then some σ else none
def allM:List (Nat×StD)→Mst→Nat ⊕ Mst
 | [],σ=>.inr σ
 | x::r,σ=>match oneM σ x with
  | none=>.inl x.1
  | some σ'=>allM r σ'
def LeastDue (σ:Mst)(N a:Nat):Prop:=a<N∧σ.due a=true∧∀ b,b<a→σ.due b=false
def NoDue (σ:Mst)(N:Nat):Prop:=∀ b,b<N→σ.due b=false
def stepM (l:List ProtoD)(x:ProtoD)(σ:Mst)(a:Nat):(Int×Nat) ⊕ Mst:=
 match σ.st a with
 | none=>.inl (0,0)
 | some s=>
  match readC l (inD x a) s.types with
  | none=>.inl (10,a)
  | some r=>
   match changeC (inD x a) s.guards with
   | none=>.inl (11,a)
   | some g=>
    if keptC (inD x a) s.guards r.taken s.types (writeC (inD x a) r.types)then
     match allM (followC (inD x a) a s (writeC (inD x a) r.types) g) ⟨σ.st,upd σ.due a false⟩with
     | .inl at_=>.inl (13,at_)
     | .inr σ'=>.inr σ'
    else .inl (12,a)
def firstTy (x:ProtoD):List Int:=(List.range x.regs.toNat).map fun r:Nat=>if(r:Int)<x.params then(1:Int)else if x.rest=true∧(r:Int)=x.params then 3 else 0
def startM (x:ProtoD):Mst:=⟨upd (fun _=>none) 0 (some ⟨firstTy x,[]⟩),upd (fun _=>false) 0 true⟩
def Goes (l:List ProtoD)(x:ProtoD):Nat→Mst→Prop
 | 0,σ=>σ=startM x
 | k+1,σ=>∃ σ' a,Goes l x k σ'∧LeastDue σ' x.ins.length a∧stepM l x σ' a=.inr σ
theorem least_unique {σ:Mst}{N a b:Nat}(h:LeastDue σ N a)(h':LeastDue σ N b):a=b:=by
 by_cases e1:a<b
 ·have:=h'.2.2 a e1;rw[h.2.1]at this;cases this
 by_cases e2:b<a
 ·have:=h.2.2 b e2;rw[h'.2.1]at this;cases this
 omega
theorem least_not {σ:Mst}{N a:Nat}(h:LeastDue σ N a)(h':NoDue σ N):False:=by
 have:=h' a h.1;rw[h.2.1]at this;cases this
theorem goes_unique {l:List ProtoD}{x:ProtoD}:∀{k σ σ'},Goes l x k σ→Goes l x k σ'→σ=σ'
 | 0,_,_,h,h'=>by rw[h,h']
 | k+1,_,_,⟨σ1,a,g1,g2,g3⟩,⟨σ2,b,f1,f2,f3⟩=>by
  obtain rfl:=goes_unique g1 f1
  obtain rfl:=least_unique g2 f2
  rw[g3]at f3
  exact Sum.inr.inj f3
theorem goes_back {l:List ProtoD}{x:ProtoD}:∀{d k σ},Goes l x (k+d) σ→∃ σ',Goes l x k σ'
 | 0,_,σ,h=>⟨σ,h⟩
 | d+1,_,_,⟨_,_,h,_⟩=>goes_back (d:=d) h
def Ended (l:List ProtoD)(x:ProtoD)(σ:Mst):Prop:=NoDue σ x.ins.length∨∃ a y,LeastDue σ x.ins.length a∧stepM l x σ a=.inl y
theorem ended_last {l:List ProtoD}{x:ProtoD}{k:Nat}{σ σ':Mst}(h:Goes l x k σ)(he:Ended l x σ)(h':Goes l x (k+1) σ'):False:=by
 obtain⟨σ1,a,g1,g2,g3⟩:=h'
 obtain rfl:=goes_unique h g1
 rcases he with he | ⟨b,y,e1,e2⟩
 ·exact least_not g2 he
 ·obtain rfl:=least_unique g2 e1
  rw[g3]at e2
  cases e2
theorem ended_unique {l:List ProtoD}{x:ProtoD}{k k':Nat}{σ σ':Mst}(h:Goes l x k σ)(he:Ended l x σ)(h':Goes l x k' σ')(he':Ended l x σ'):σ=σ':=by
 by_cases e1:k<k'
 ·obtain⟨d,rfl⟩:∃ d,k'=k+1+d:=⟨k'-(k+1),by omega⟩
  obtain⟨σ2,h2⟩:=goes_back h'
  exact(ended_last h he h2).elim
 by_cases e2:k'<k
 ·obtain⟨d,rfl⟩:∃ d,k=k'+1+d:=⟨k-(k'+1),by omega⟩
  obtain⟨σ2,h2⟩:=goes_back h
  exact(ended_last h' he' h2).elim
 obtain rfl:k=k':=by omega
 exact goes_unique h h'
def ringsE (x:ProtoD)(a:Nat):List Nat:=silentC (inD x a) a
def WalkEnd (l:List ProtoD)(x:ProtoD)(σ:Mst)(c:Int)(n:Nat):Prop:=
 (∃ a,LeastDue σ x.ins.length a∧stepM l x σ a=.inl (c,n)) ∨
 (NoDue σ x.ins.length∧c=14∧n<x.ins.length∧σ.st n≠none∧Ring (ringsE x) n∧∀ b,b<n→σ.st b≠none→¬Ring (ringsE x) b) ∨
 (NoDue σ x.ins.length∧c=0∧n=0∧∀ b,b<x.ins.length→σ.st b≠none→¬Ring (ringsE x) b)
def WalkSaid (l:List ProtoD)(x:ProtoD)(c:Int)(n:Nat):Prop:=∃ k σ,Goes l x k σ∧WalkEnd l x σ c n
theorem WalkEnd.ended {l:List ProtoD}{x:ProtoD}{σ:Mst}{c:Int}{n:Nat}(h:WalkEnd l x σ c n):Ended l x σ:=by
 rcases h with⟨a,h1,h2⟩ | ⟨h,_⟩ | ⟨h,_⟩
 ·exact .inr ⟨a,_,h1,h2⟩
 ·exact .inl h
 ·exact .inl h
theorem walkEnd_unique {l:List ProtoD}{x:ProtoD}{σ:Mst}{c c':Int}{n n':Nat}(h:WalkEnd l x σ c n)(h':WalkEnd l x σ c' n'):c=c'∧n=n':=by
 rcases h with⟨a,h1,h2⟩ | ⟨a1,rfl,a2,a3,a4,a5⟩ | ⟨a1,rfl,rfl,a2⟩<;>rcases h' with⟨b,g1,g2⟩ | ⟨b1,rfl,b2,b3,b4,b5⟩ | ⟨b1,rfl,rfl,b2⟩
 ·obtain rfl:=least_unique h1 g1
  rw[h2]at g2
  have:=Sum.inl.inj g2
  exact⟨congrArg Prod.fst this,congrArg Prod.snd this⟩
 ·exact(least_not h1 b1).elim
 ·exact(least_not h1 b1).elim
 ·exact(least_not g1 a1).elim
 ·refine⟨rfl,?_⟩
  by_cases e1:n<n'
  ·exact absurd a4 (b5 n e1 a3)
  by_cases e2:n'<n
  ·exact absurd b4 (a5 n' e2 b3)
  omega
 ·exact absurd a4 (b2 n a2 a3)
 ·exact(least_not g1 a1).elim
 ·exact absurd b4 (a2 n' b2 b3)
 ·exact⟨rfl,rfl⟩
theorem walkSaid_unique {l:List ProtoD}{x:ProtoD}{c c':Int}{n n':Nat}(h:WalkSaid l x c n)(h':WalkSaid l x c' n'):c=c'∧n=n':=by
 obtain⟨k,σ,h1,h2⟩:=h
 obtain⟨k',σ',g1,g2⟩:=h'
 obtain rfl:=ended_unique h1 h2.ended g1 g2.ended
 exact walkEnd_unique h2 g2
def CodeSaid (l:List ProtoD)(c f n:Int):Prop:=
 (ShapeSaid l c f n∧c≠0) ∨
 (ShapeSaid l 0 0 0∧c≠0∧∃ F P:Nat,f=F∧n=P∧F<l.length∧WalkSaid l (prD l F) c P∧∀ g,g<F→WalkSaid l (prD l g) 0 0) ∨
 (ShapeSaid l 0 0 0∧c=0∧f=0∧n=0∧∀ g,g<l.length→WalkSaid l (prD l g) 0 0)
theorem codeSaid_unique {l:List ProtoD}{c f n c' f' n':Int}(h:CodeSaid l c f n)(h':CodeSaid l c' f' n'):c=c'∧f=f'∧n=n':=by
 rcases h with⟨a1,a2⟩ | ⟨a1,a2,F,P,rfl,rfl,a3,a4,a5⟩ | ⟨a1,rfl,rfl,rfl,a2⟩<;>rcases h' with⟨b1,b2⟩ | ⟨b1,b2,F',P',rfl,rfl,b3,b4,b5⟩ | ⟨b1,rfl,rfl,rfl,b2⟩
 ·exact shapeSaid_unique a1 b1
 ·exact absurd (shapeSaid_unique a1 b1).1 a2
 ·exact absurd (shapeSaid_unique a1 b1).1 a2
 ·exact absurd (shapeSaid_unique b1 a1).1 b2
 ·by_cases e1:F<F'
  ·exact absurd (walkSaid_unique a4 (b5 F e1)).1 a2
  by_cases e2:F'<F
  ·exact absurd (walkSaid_unique b4 (a5 F' e2)).1 b2
  obtain rfl:F=F':=by omega
  obtain⟨rfl,rfl⟩:=walkSaid_unique a4 b4
  exact⟨rfl,rfl,rfl⟩
 ·exact absurd (walkSaid_unique a4 (b2 F a3)).1 a2
 ·exact absurd (shapeSaid_unique b1 a1).1 b2
 ·exact absurd (walkSaid_unique b4 (a2 F' b3)).1 b2
 ·exact⟨rfl,rfl,rfl⟩
end Go.Proofs.YtmjcpapdncfkpaaGreatDoor
