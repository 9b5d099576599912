import Derived.Test.YtcjfjflljdojlaaGreatDoorPart47
import Derived.Test.YtcjfjflljdojlaaGreatDoorPart41
set_option linter.all false
set_option maxHeartbeats 8000000
set_option maxRecDepth 100000
namespace Go.Proofs.YtcjfjflljdojlaaGreatDoor
open Go.RowKit
section
variable {α:Type} {f:α->List Value} {sz:Nat} {w:w_} {b off:Nat} {l:List α}
def Jr (f:α->List Value)(sz:Nat)(z:α)(w:w_)(b off:Nat)(l:List α):Prop:=∀ j,j<l.length->∀ i,i<sz->w.cell? (a_ b (off+j * sz+i))=(f (l[j]?.getD z))[i]?
theorem Dv (hf:∀ x,(f x).length=sz)(l:List α):(l.flatMap f).length=l.length * sz:=by
 induction l with
 | nil=>simp
 | cons a l ih=>rw[List.flatMap_cons,zad,hf,ih,List.length_cons,Nat.succ_mul];omega
theorem Jr.src {z:α}(h:Jr f sz z w b off l)(hf:∀ x,(f x).length=sz)(h0:0<sz):∀ j u,(l.flatMap f)[j]? = some u->w.cell? (((a_ b off):Addr).add j)=some u:=fun j u hj=>by
 have au:j<l.length * sz:=by rw[<-Dv hf l];exact(List.getElem?_eq_some_iff.1 hj).1
 have e:j=j / sz * sz+j % sz:=by rw[Nat.mul_comm];exact(Nat.div_add_mod j sz).symm
 have hq:j / sz<l.length:=(Nat.div_lt_iff_lt_mul h0).2 au;have hm:=Nat.mod_lt j h0;have k:=Kf hf z l _ _ hq hm;rw[<-e,hj]at k;have e2:((a_ b off):Addr).add j=(a_ b (off+j / sz * sz+j % sz)):=by rw[Nat.add_assoc,<-e];simp[Addr.add]
 rw[e2,h _ hq _ hm,<-k]
end
theorem nv {α:Type}{T TS sz bt:Nat}{v0:Value}{f:α->List Value}(z:α)(hu:Tryz.prog.underlying TS=some (.slice T))(Q9:(Tryz.prog.info? T).map (fun i=>(i.zero,i.size,i.bytes))=some (some v0,sz,bt))(TO:v0.cells.size=sz)(h0:0<sz)(yZ:bt<=144)(hf:∀ x,(f x).length=sz)
  (a:o_)(l:List α)(c:Nat)(w:w_)(hs:0<l.length->∃ b off,a=some (a_ b off)/\Jr f sz z w b off l)(hl:l.length<=1048576) :
  ∃ v w1,(Builtin.append_ #[TS,TS] TS #[.slice none 0 0,.slice a l.length c]).run Tryz.prog w=.ok v w1/\dr T sz f w1 w.heap.size v l/\b_ w w1:=by
 obtain⟨i0,hi,dE,cS,dA⟩:=aM Q9;by_cases hp:0<l.length;{obtain⟨b,off,rfl,aC⟩:=hs hp;have hb:bt * l.length<=144 * 1048576:=Nat.mul_le_mul yZ hl;refine⟨_,_,run_append_nil w TS TS T i0 v0 hu hi dE (a_ b off) l.length c (l.flatMap f) (by rw[cS];exact Dv hf l) (aC.src hf h0) hp (by omega) (by rw[dA];rw[Nat.mul_comm]at hb;omega),?_,?_⟩;{exact xQ w T sz l.length _ _ _ TO (Dv hf l) (grownCap_ge ..) (grownCap_le_maxLen _ _ _ _ (by unfold maxLen;omega))};{exact(r_.drew).alloc n_ _}}
 ·obtain rfl:l=[]:=zac (by omega);refine⟨.slice none 0 0,w,?_,zbh _ _ _ _,r_⟩;cases a with
  | none=>simp[Builtin.append_,run_underlying hu,sizeOf,typeInfo,zeroValue,hi,dE,Builtin.lenOf,run_firstCells_none]
  | some b=>
   have hf:=run_firstCells_some (P:=Tryz.prog) w i0.size 0 b 0 c [] (by simp) (fun j u hj=>by simp at hj);simp[Builtin.append_,run_underlying hu,sizeOf,typeInfo,zeroValue,hi,dE,Builtin.lenOf,hf]
def hU {α:Type}(T sz:Nat)(f:α->List Value)(l:List α)(w:w_)(e:Ending)(w':w_):Prop:=∃ v,e=.returned v/\dr T sz f w' w.heap.size v l/\b_ w w'
theorem Fy (a:o_)(l:List (Bool×Int))(c:Nat)(S:Nat->Prop)(w:w_)(h:dG w S a l)(hl:l.length<=1048576):c_ 29 #[.slice a l.length c] w (hU 46 2 iz l w):=by
 obtain⟨v,w1,hr,ho⟩:=nv (f:=iz) (false,0) Tryz.underlying38 yg rfl (by decide) (by decide) (fun _=>rfl) a l c w (fun h0=>by
  obtain⟨b,off,e,_,k⟩:=h.2 h0;exact⟨b,off,e,fun j hj i hi=>match i,hi with
   | 0,_=>(k j hj).1
   | 1,_=>(k j hj).2⟩) hl
 go_enter Tryz.func29,Tryz.ntmps29;go_wp2_with (first | (at_builtin;refine bJ rfl _ _ 38 rfl _ _ rfl rfl hr ?_) | go_in);go_ret;exact⟨v,rfl,ho⟩
theorem GP (a:o_)(l:List cN)(c:Nat)(S:Nat->Prop)(w:w_)(h:cQ w S a l)(hl:l.length<=1048576):c_ 30 #[.slice a l.length c] w (hU 49 5 gi l w):=by
 obtain⟨v,w1,hr,ho⟩:=nv (f:=gi) cN.z Tryz.underlying39 tO rfl (by decide) (by decide) (fun _=>rfl) a l c w (fun h0=>by
  obtain⟨b,off,e,_,k⟩:=h.2 h0;exact⟨b,off,e,fun j hj i hi=>match i,hi with
   | 0,_=>(k j hj).kind
   | 1,_=>(k j hj).num
   | 2,_=>(k j hj).flt
   | 3,_=>(k j hj).str
   | 4,_=>(k j hj).ref⟩) hl
 go_enter Tryz.func30,Tryz.ntmps30;go_wp2_with (first | (at_builtin;refine bJ rfl _ _ 39 rfl _ _ rfl rfl hr ?_) | go_in);go_ret;exact⟨v,rfl,ho⟩
theorem wU (a:o_)(l:List az)(c:Nat)(S:Nat->Prop)(w:w_)(h:bN w S a l)(hl:l.length<=1048576):c_ 31 #[.slice a l.length c] w (hU 51 5 aV l w):=by
 obtain⟨v,w1,hr,ho⟩:=nv (f:=aV) az.z Tryz.underlying40 la rfl (by decide) (by decide) (fun _=>rfl) a l c w (fun h0=>by
  obtain⟨b,off,e,_,k⟩:=h.2 h0;exact⟨b,off,e,fun j hj i hi=>match i,hi with
   | 0,_=>(k j hj).op
   | 1,_=>(k j hj).fa
   | 2,_=>(k j hj).fb
   | 3,_=>(k j hj).fc
   | 4,_=>(k j hj).fd⟩) hl
 go_enter Tryz.func31,Tryz.ntmps31;go_wp2_with (first | (at_builtin;refine bJ rfl _ _ 40 rfl _ _ rfl rfl hr ?_) | go_in);go_ret;exact⟨v,rfl,ho⟩
theorem Fx (a:o_)(l:List bB)(c:Nat)(S:Nat->Prop)(w:w_)(h:da w S a l)(hl:l.length<=1048576):c_ 32 #[.slice a l.length c] w (hU 53 4 dP l w):=by
 obtain⟨v,w1,hr,ho⟩:=nv (f:=dP) bB.z Tryz.underlying41 py rfl (by decide) (by decide) (fun _=>rfl) a l c w (fun h0=>by
  obtain⟨b,off,e,_,k⟩:=h.2 h0;exact⟨b,off,e,fun j hj i hi=>match i,hi with
   | 0,_=>(k j hj).name
   | 1,_=>(k j hj).reg
   | 2,_=>(k j hj).fro
   | 3,_=>(k j hj).til⟩) hl
 go_enter Tryz.func32,Tryz.ntmps32;go_wp2_with (first | (at_builtin;refine bJ rfl _ _ 41 rfl _ _ rfl rfl hr ?_) | go_in);go_ret;exact⟨v,rfl,ho⟩
def YW (x:Bool):List Value:=[.bool x]
theorem Gg (b c:Nat)(l:List Bool)(w:w_)(h:∀ j,j<l.length->w.cell? (a_ b j)=some (.bool (l[j]?.getD false)))(hl:l.length<=1048576):c_ 89 #[s_ b 0 l.length c] w (hU 4 1 YW l w):=by
 obtain⟨v,w1,hr,ho⟩:=nv (f:=YW) false Tryz.underlying68 oe rfl (by decide) (by decide) (fun _=>rfl) (some (a_ b 0)) l c w (fun h0=>⟨b,0,rfl,fun j hj i hi=>match i,hi with
   | 0,_=>by rw[Nat.zero_add,Nat.mul_one];exact h j hj⟩) hl
 go_enter Tryz.func89,Tryz.ntmps89;go_wp2_with (first | (at_builtin;refine bJ rfl _ _ 68 rfl _ _ rfl rfl hr ?_) | go_in);go_ret;exact⟨v,rfl,ho⟩
theorem xB (x:aj)(at_ b off c:Nat)(w:w_)(hf:jW x)(cY:b<w.heap.size)(qy:mv w b off x)(fW:at_<x.u.length) :
  c_ 85 #[s_ b off x.u.length c,i_ at_] w fun e w'=>e=.returned (i_ ((gq x 100 at_:Nat):Int))/\w'=w:=by
 have hN:=hf.few;have HF:=af hf;have En:=af qy;clear hf qy;go_enter Tryz.func85,Tryz.ntmps85;go_wp2
 go_loopg [1,5] 100 (fun gg a i wr=>∃(k a':Nat),k+gg=100/\a=i_ a'/\i=i_ k/\a'<x.u.length/\H_ (gq x gg a'=gq x 100 at_)/\wr=w);(case atStart=>exact⟨0,at_,by omega,rfl,rfl,fW,rfl,rfl⟩);case round=>
  obtain⟨k,a',hk,rfl,rfl,ha,rH,rfl⟩:=hrel;by_cases hk100:k<100
  ·have N:=En.o a' ha;have c0:=N.op;have c1:=N.fa;obtain⟨g',gP⟩:∃ g',gk=g'+1:=⟨gk-1,by omega⟩;have haI:(a':Int)<x.u.length:=by omega
   have UN:H_ (gq x gk a'=if(aR x a').op=19 then gq x g' (aR x a').fa.toNat else a'):=by{rw[gP];exact rfl};by_cases ho:(aR x a').op=19;{obtain⟨f0,f1⟩:=HF.o.jump a' ha (.inl ho);obtain⟨A,hA⟩:=iV f0;rw[ho]at c0;rw[hA]at c1 f1;have NX:H_ (gq x g' A=gq x 100 at_):=by{show _=_;rw[<-rH.o,UN.o,zca ho,hA];rfl};have KV:A<x.u.length:=f1;clear N f0 f1 hA ho rH UN;go_wp2;go_roundg g';(case measure=>omega);case rel=>exact⟨k+1,A,by omega,rfl,by go_num,KV,NX,rfl⟩};{have UW:((aR x a').op != 19)=true:=by{simpa using ho};have vj:H_ (a'=gq x 100 at_):=by{show _=_;rw[<-rH.o,UN.o,zcb ho]};clear N ho rH UN;generalize (aR x a').op=op at *;go_wp2;go_ret;exact⟨by rw[<-vj.o];rfl,rfl⟩}
  {have Ff:gk=0:=by{omega};have vj:H_ (a'=gq x 100 at_):=by{show _=_;rw[<-rH.o,Ff];rfl};have UY:¬((k:Int)<100):=by{omega};clear rH;go_wp2;go_ret;exact⟨by rw[<-vj.o];rfl,rfl⟩}
def uO (n:az)(t:Int):az:=if n.op=19\/n.op=31 then { n with fa:=t }else { n with fb:=t }
theorem wF (op:Nat)(fa fb fc fd t:Int)(w:w_)(hG:gd w)(fm:op<43) :
  c_ 84 #[.agg #[i_ op,i_ fa,i_ fb,i_ fc,i_ fd],i_ t] w fun e w'=>(∃ a b,e=.returned (.agg #[i_ op,i_ a,i_ b,i_ fc,i_ fd])/\uO ⟨op,fa,fb,fc,fd⟩ t=⟨op,a,b,fc,fd⟩)/\b_ w w':=by
 have hp:=hG.pos;have r0:w.cell? (a_ 0 (op * 4))=some (i_ (aA op 0:Nat)):=hG.cell fm (j:=0) (by omega);have HR:=af (O0 op fm).1;have dQ:H_ (∀ o1 o2,b_ w ((w.alloc o1).alloc o2)):=fun o1 o2=>(r_.alloc n_ o1).alloc (by simp) o2;clear hG;generalize aA op 0=R0 at *;by_cases h6:R0=6;case' pos=>
  obtain⟨a,ha⟩:∃ a,a=t:=⟨_,rfl⟩;obtain⟨b,hb⟩:∃ b,b=fb:=⟨_,rfl⟩;subst h6;have HE:H_ (uO ⟨op,fa,fb,fc,fd⟩ t=⟨op,a,b,fc,fd⟩):=by subst ha hb;exact zca (by have:=HR.o.1 rfl;simp only;omega)
 case' neg=>
  obtain⟨a,ha⟩:∃ a,a=fa:=⟨_,rfl⟩;obtain⟨b,hb⟩:∃ b,b=t:=⟨_,rfl⟩;have HE:H_ (uO ⟨op,fa,fb,fc,fd⟩ t=⟨op,a,b,fc,fd⟩):=by subst ha hb;exact zcb (fun k=>h6 (HR.o.2 (by simp only at k;omega)))
  have h6':((R0:Int)==6)=false:=by simp;omega
 all_goals
  clear HR;go_enter Tryz.func84,Tryz.ntmps84;go_wp2_with fail
  exact zcd (v:=.agg #[i_ op,i_ a,i_ b,i_ fc,i_ fd]) (by simp[results,Tryz.results84,go_sem,ha,hb]) rfl ⟨⟨a,b,rfl,HE.o⟩,dQ.o _ _⟩
theorem eR (op:Int):dZ op=true↔op=20\/op=21\/op=38\/op=39\/op=41:=by
 unfold dZ;simp only[Bool.or_eq_true,beq_iff_eq,or_assoc]
theorem MQ {x:aj}(hf:jW x){i:Nat}(hi:i<x.u.length){t:Int}(h:cp (aR x i)=some t):0<=t/\t.toNat<x.u.length:=by
 unfold cp at h;split at h;{next e=>cases h;exact hf.jump i hi e};{split at h;{next e=>cases h;exact hf.branch i hi ((eR _).2 e)};{cases h}}
theorem zB {x:aj}(hf:jW x){i:Nat}(hi:i<x.u.length){t:Int}(h:cp (aX x i)=some t):0<=t/\t.toNat<x.u.length:=by
 unfold cp at h;split at h;{next e=>cases h;exact kd hf hi e};{split at h;{next e=>cases h;exact jT hf hi ((eR _).2 e)};{cases h}}
theorem Fw {x:aj}{n:az}{t:Int}(h:cp n=some t)(Ia:n.op≠31):lQ x n=uO n (gq x 100 t.toNat:Nat):=by
 unfold cp at h;unfold lQ uO;split at h;{next e=>cases h;rw[zca (e.resolve_right Ia),zca e]}
 ·next e=>
  split at h;{next e'=>cases h;rw[zcb (fun k=>e (.inl k)),zca ((eR _).2 e'),zcb e]};{cases h}
theorem GJ {x:aj}{n:az}(h:cp n=none\/n.op=31):lQ x n=n:=by
 unfold lQ;rcases h with h | h
 ·unfold cp at h;split at h;{cases h}
  ·next e=>
   split at h;{cases h};{next e'=>rw[zcb (fun k=>e (.inl k)),zcb (fun k=>e' ((eR _).1 k))]}
 {rw[zcb (by omega),zcb (fun k=>by have:=(eR _).1 k;omega)]}
theorem GH {P:Nat->Bool}{n:az}{t:Int}(h:cp n=some t):kV P n=uO n (dN P t.toNat:Nat):=by
 unfold cp at h;unfold kV uO;split at h;{next e=>cases h;rw[zca e,zca e]}
 ·next e=>
  split at h;{next e'=>cases h;rw[zcb e,zca ((eR _).2 e'),zcb e]};{cases h}
theorem Hc {P:Nat->Bool}{n:az}(h:cp n=none):kV P n=n:=by
 unfold cp at h;unfold kV;split at h;{cases h}
 ·next e=>
  split at h;{cases h};{next e'=>rw[zcb e,zcb (fun k=>e' ((eR _).1 k))]}
theorem gB (G:Nat):∀(vs:List Value)(w:w_)(o q:Nat),(w.cell? ⟨G,q,none⟩).isSome=true->(ed G w o vs).cell? ⟨G,q,none⟩=if o<=q/\q<o+vs.length then vs[q-o]? else w.cell? ⟨G,q,none⟩
 | [],w,o,q,_=>by rw[zcb (by simp)];rfl
 | v::vs,w,o,q,h=>by
  have hs:∀ u,((w.setCell ⟨G,o,none⟩ u).cell? ⟨G,q,none⟩)=if q=o then some u else w.cell? ⟨G,q,none⟩:=fun u=>by
   by_cases e:q=o
   ·subst e;rw[zca rfl];exact World.cell?_setCell_same' _ _ _ h
   ·rw[zcb e];exact World.cell?_setCell_other _ ⟨G,o,none⟩ ⟨G,q,none⟩ u (fun k=>by injection k with _ k _;omega)
  show(ed G (w.setCell ⟨G,o,none⟩ v) (o+1) vs).cell? _=_;rw[gB G vs _ _ _ (by rw[hs];split<;>simp[h]),hs,List.length_cons];by_cases e:q=o
  ·subst e;rw[zcb (by omega),zca rfl,zca (by omega)];simp
  ·by_cases e2:o+1<=q/\q<o+1+vs.length
   ·rw[zca e2,zca (by omega),show q-o=(q-(o+1))+1 by omega,List.getElem?_cons_succ]
   ·rw[zcb e2,zcb e,zcb (by omega)]
theorem kB (G:Nat)(p:Addr):∀(vs:List Value)(w:w_)(o:Nat),(ed G w o vs).frozen? p=w.frozen? p
 | [],_,_=>rfl
 | v::vs,w,o=>(kB G p vs _ _).trans (World.frozen?_setCell _ _ _ _)
structure eB {α:Type}(f:α->List Value)(sz:Nat)(W:w_)(g n:Nat)(F:Nat->α):Prop where
 cell:∀ j,j<n->∀ i,i<sz->W.cell? ⟨g,j * sz+i,none⟩=(f (F j))[i]?
 soft:∀ o,W.frozen? ⟨g,o,none⟩=false
 lt:g<W.heap.size
section
variable {α:Type} {f:α->List Value} {sz:Nat} {W W':w_} {g n:Nat} {F F':Nat->α}
theorem eB.keep (h:eB f sz W g n F)(hb:Below W.heap.size W W'):eB f sz W' g n F:=
 ⟨fun j hj i hi=>(hb.cell (p:=⟨g,j * sz+i,none⟩) h.lt).trans (h.cell j hj i hi),fun o=>(zbf (a:=⟨g,o,none⟩) (hb.block g h.lt)).trans (h.soft o),Nat.lt_of_lt_of_le h.lt hb.size⟩
theorem eB.congr (h:eB f sz W g n F)(e:∀ j,j<n->F j=F' j):eB f sz W g n F':=⟨fun j hj i hi=>by rw[<-e j hj];exact h.cell j hj i hi,h.soft,h.lt⟩
theorem eB.put (h:eB f sz W g n F)(hf:∀ x,(f x).length=sz)(k:Nat)(y:α):eB f sz (ed g W (k * sz) (f y)) g n (fun j=>if j=k then y else F j):=
 ⟨fun j hj i hi=>by
  have hc:=h.cell j hj i hi;rw[gB g _ _ _ _ (by rw[hc,List.getElem?_eq_getElem (by rw[hf];exact hi)];rfl),hf];show _=(f (if j=k then y else F j))[i]?;by_cases e:j=k
  ·subst e;rw[zca (by omega),zca rfl,show j * sz+i-j * sz=i by omega]
  ·rw[zcb e,zcb,hc];rintro⟨h1,h2⟩;rcases Nat.lt_or_gt_of_ne e with h3 | h3
   ·have:=Nat.mul_le_mul_right sz (show j+1<=k by omega);rw[Nat.succ_mul]at this;omega
   ·have:=Nat.mul_le_mul_right sz (show k+1<=j by omega);rw[Nat.succ_mul]at this;omega,fun o=>(kB _ _ _ _ _).trans (h.soft o),by rw[eN];exact h.lt⟩
theorem dr.rowS {T base:Nat}{v:Value}{t:List α}(h:dr T sz f W base v t)(hf:∀ x,(f x).length=sz)(z:α)(h0:0<t.length):∃ g cap,v=.slice (some ⟨g,0,none⟩) t.length cap/\base<=g/\eB f sz W g t.length (fun j=>t[j]?.getD z):=by
 obtain⟨g,cap,rfl,hb,hl,_,hc⟩:=h.at hf z h0;exact⟨g,cap,rfl,hb,hc,fun o=>World.ownsRow.frozenAt h o,hl⟩
theorem eB.five {F:Nat->az}(h:eB aV 5 W g n F){k:Nat}(hk:k<n):∃ v0 v1 v2 v3 v4,W.cell? ⟨g,k * 5,none⟩=some v0/\W.cell? ⟨g,k * 5+1,none⟩=some v1/\W.cell? ⟨g,k * 5+2,none⟩=some v2/\W.cell? ⟨g,k * 5+3,none⟩=some v3/\W.cell? ⟨g,k * 5+4,none⟩=some v4/\W.frozen? ⟨g,k * 5,none⟩=false/\W.frozen? ⟨g,k * 5+1,none⟩=false/\W.frozen? ⟨g,k * 5+2,none⟩=false/\W.frozen? ⟨g,k * 5+3,none⟩=false/\W.frozen? ⟨g,k * 5+4,none⟩=false:=
 ⟨_,_,_,_,_,h.cell k hk 0 (by omega),h.cell k hk 1 (by omega),h.cell k hk 2 (by omega),h.cell k hk 3 (by omega),h.cell k hk 4 (by omega),h.soft _,h.soft _,h.soft _,h.soft _,h.soft _⟩
theorem eB.u {F:Nat->az}(h:eB aV 5 W g n F){j:Nat}(hj:j<n):aK W g (j * 5) (F j):=
 ⟨h.cell j hj 0 (by omega),h.cell j hj 1 (by omega),h.cell j hj 2 (by omega),h.cell j hj 3 (by omega),h.cell j hj 4 (by omega)⟩
end
structure Hf (x:aj):Prop where
 fit:jW x
 op:∀ i,i<x.u.length->∃ o:Nat,(aR x i).op=o/\o<43
def MW (x:aj)(w:w_)(e:Ending)(w':w_):Prop:=∃ g c,e=.returned (.slice (some ⟨g,0,none⟩) x.u.length c)/\eB aV 5 w' g x.u.length (aX x)/\w.heap.size<=g/\Below w.heap.size w w'
theorem qY (x:aj)(b off c:Nat)(w:w_)(hp:Hf x)(hG:gd w)(cY:b<w.heap.size)(qy:mv w b off x) :
  Calls Tryz.prog 33 #[.slice (some ⟨b,off,none⟩) x.u.length c] w (MW x w):=by
 have hN:=hp.fit.few;have Ih:=hp.fit.some_;have HP:=af hp;have CP:H_ (Calls Tryz.prog 31 #[.slice (some ⟨b,off,none⟩) x.u.length c] w (hU 51 5 aV x.u w)):=wU _ x.u c (fun _=>True) w ⟨by omega,fun _=>⟨b,off,rfl,trivial,qy⟩⟩ (by omega);have En:H_ (∀ W,Below w.heap.size w W->mv W b off x):=fun W hW=>qy.keep cY hW;have HG:H_ (∀ W,Below w.heap.size w W->gd W):=fun W hW=>hG.keep hW hG.pos;clear hp hG qy;go_enter Tryz.func33,Tryz.ntmps33;go_wp2_with fail
 refine(aa CP).mono ?_;rintro e w1 ⟨v,rfl,gy,ar⟩;obtain⟨g,cap,rfl,hg,vl⟩:=gy.rowS (fun _=>rfl) az.z Ih;have rB:=af vl;have dL:=af ar;clear gy vl ar CP;go_wp2;go_loopg [12] x.u.length (fun gg i wr=>∃ k:Nat,k+gg=x.u.length/\i=.int .i64 k/\H_ (Below w.heap.size w wr)/\H_ (eB aV 5 wr g x.u.length (fun j=>if j<k then aX x j else aR x j)));(case atStart=>exact⟨0,by omega,rfl,dL,rB.o.congr (fun j _=>(zcb (bW _)).symm)⟩);case round=>
  clear rB dL;obtain⟨k,hk,rfl,hB,hR⟩:=hrel;by_cases au:k<x.u.length
  ·have KI:(k:Int)<x.u.length:=by{omega};have M:=En.o wr hB.o k au;have c0:=M.op;have c1:=M.fa;have c2:=M.fb;have c3:=M.fc;have c4:=M.fd;obtain⟨o,ho,Ev⟩:=HP.o.op k au;have hs:=hB.o.size;have bj:b<wr.heap.size:=by omega
   have fl:=hR.o.lt;have TL:H_ (∀ t,cp (aR x k)=some t->0<=t/\t.toNat<x.u.length):=fun t=>MQ HP.o.fit au;have qG:H_ (∀ W,eB aV 5 W g x.u.length (fun j=>if j<k then aX x j else aR x j)->lQ x (aR x k)=aR x k->eB aV 5 W g x.u.length (fun j=>if j<k+1 then aX x j else aR x j)):=fun W hW e=>hW.congr (fun j _=>by
    by_cases h:j<k;{rw[zca h,zca (by omega)]}
    ·rw[zcb h];by_cases h2:j=k;{subst h2;rw[zca (by omega)];exact e.symm}
     ·rw[zcb (by omega)])
   have PUT:H_ (∀ W y,eB aV 5 W g x.u.length (fun j=>if j<k then aX x j else aR x j)->lQ x (aR x k)=y->eB aV 5 (ed g W (k * 5) (aV y)) g x.u.length (fun j=>if j<k+1 then aX x j else aR x j)):=fun W y hW e=>(hW.put (fun _=>rfl) k y).congr (fun j _=>by
    by_cases h2:j=k;{subst h2;rw[zca rfl,zca (by omega)];exact e.symm}
    ·rw[zcb h2];by_cases h:j<k;{rw[zca h,zca (by omega)]}
     ·rw[zcb h,zcb (by omega)])
   have FL:H_ (∀ W (t:Nat),Below w.heap.size w W->t<x.u.length->Calls Tryz.prog 85 #[.slice (some ⟨b,off,none⟩) x.u.length c,.int .i64 t] W fun e w'=>e=.returned (.int .i64 ((gq x 100 t:Nat):Int))/\w'=W):=fun W t hW ht=>xB x t b off c W HP.o.fit (Nat.lt_of_lt_of_le cY hW.size) (En.o W hW) ht;clear M;generalize aR x k=n at *;obtain⟨op,fa,fb,fc,fd⟩:=n;dsimp only at ho c0 c1 c2 c3 c4;subst ho;have HA:H_ (∀ o,Below w.heap.size w (wr.alloc o)):=fun o=>hB.o.alloc hB.o.size o;have ZA:H_ (∀ o,Below wr.heap.size wr (wr.alloc o)):=fun o=>(Below.refl _ _).alloc (Nat.le_refl _) o;go_wp2_with fail
   refine(iR o fa fb fc fd _ (HG.o _ (HA.o _)) Ev).mono ?_;rintro e w2 ⟨rfl,ly⟩;have m:∀ r,r<5->w2.cell? ⟨wr.heap.size,r,none⟩=_:=fun r _=>ly.cell (p:=⟨wr.heap.size,r,none⟩) (by simp);have m0:=m 0 (by omega);have m1:=m 1 (by omega);have m2:=m 2 (by omega);have m3:=m 3 (by omega);have m4:=m 4 (by omega);simp[go_sem]at m0 m1 m2 m3 m4;have dA:wr.heap.size<w2.heap.size:=by have:=ly.size;simp at this;omega
   have fM:H_ (Below wr.heap.size wr w2):=(ZA.o _).trans (ly.mono (by simp));have lD:H_ (Below w.heap.size w w2):=hB.o.trans (fM.o.mono hs);have TP:=af (hR.o.keep fM.o);clear m ly hB hR fM HA ZA c0 c1 c2 c3 c4;by_cases ht:(∃ t,cp ⟨o,fa,fb,fc,fd⟩=some t)/\o≠31
   ·obtain⟨⟨t,ht⟩,Ia⟩:=ht;obtain⟨t0,t1⟩:=TL.o t ht;obtain⟨T,rfl⟩:=iV t0;have HE:H_ (lQ x ⟨o,fa,fb,fc,fd⟩=uO ⟨o,fa,fb,fc,fd⟩ (gq x 100 T:Nat)):=Fw ht (by simp only;omega);have aaq:((o:Int) != 31)=true:=by{simp;omega};rw[ht];dsimp only[Option.getD,Option.isSome];have hT:T<x.u.length:=t1;have FO:=af (FL.o w2.drew T lD.o.drew hT);have AI:H_ (Calls Tryz.prog 84 #[.agg #[.int .i64 o,.int .i64 fa,.int .i64 fb,.int .i64 fc,.int .i64 fd],.int .i64 (gq x 100 T:Nat)] w2.drew fun e w'=>(∃ a b,e=.returned (.agg #[.int .i64 o,.int .i64 a,.int .i64 b,.int .i64 fc,.int .i64 fd])/\uO ⟨o,fa,fb,fc,fd⟩ (gq x 100 T:Nat)=⟨o,a,b,fc,fd⟩)/\Below w2.drew.heap.size w2.drew w'):=wF o fa fb fc fd _ w2.drew (HG.o _ lD.o.drew) Ev;have CL:H_ (∀ W,Below w2.drew.heap.size w2.drew W->W.cell? ⟨wr.heap.size,0,none⟩=some (.int .i64 o)/\W.cell? ⟨wr.heap.size,1,none⟩=some (.int .i64 fa)/\W.cell? ⟨wr.heap.size,2,none⟩=some (.int .i64 fb)/\W.cell? ⟨wr.heap.size,3,none⟩=some (.int .i64 fc)/\W.cell? ⟨wr.heap.size,4,none⟩=some (.int .i64 fd)):=fun W h=>by
     have e:∀ o,W.cell? ⟨wr.heap.size,o,none⟩=w2.cell? ⟨wr.heap.size,o,none⟩:=fun o=>h.cell (p:=⟨wr.heap.size,o,none⟩) dA;exact⟨(e _).trans m0,(e _).trans m1,(e _).trans m2,(e _).trans m3,(e _).trans m4⟩
    have GL:H_ (∀ W,Below w2.drew.heap.size w2.drew W->eB aV 5 W g x.u.length (fun j=>if j<k then aX x j else aR x j)):=fun W h=>TP.o.keep ((Below.refl _ _).drew.trans h);clear ht TL t0 t1 FL HG Ia qG;generalize gq x 100 T=far at *;go_wp2_with fail
    go_region_held3 (fun W=>W.cell? ⟨wr.heap.size,0,none⟩=some (.int .i64 o)/\W.cell? ⟨wr.heap.size,1,none⟩=some (.int .i64 fa)/\W.cell? ⟨wr.heap.size,2,none⟩=some (.int .i64 fb)/\W.cell? ⟨wr.heap.size,3,none⟩=some (.int .i64 fc)/\W.cell? ⟨wr.heap.size,4,none⟩=some (.int .i64 fd)) (simp[go_sem, *])
     (first
      | (go_at_call 85;refine(aa FO).mono ?_;rintro e w3 ⟨rfl,rfl⟩)
      | (go_at_call 84;refine(aa AI).mono ?_;rintro e w3 ⟨⟨a,b,rfl,ha⟩,bU⟩;obtain⟨q0,q1,q2,q3,q4⟩:=aa CL _ bU;have gr:=aa GL _ bU;obtain⟨v0,v1,v2,v3,v4,g0,g1,g2,g3,g4,z0,z1,z2,z3,z4⟩:=gr.five au;have GR:=af gr;clear gr))
    have eL:H_ (Below w.heap.size w (ed g w3 (k * 5) (aV ⟨o,a,b,fc,fd⟩))/\eB aV 5 (ed g w3 (k * 5) (aV ⟨o,a,b,fc,fd⟩)) g x.u.length (fun j=>if j<k+1 then aX x j else aR x j)):=
     ⟨gx hg _ _ _ (lD.o.trans (((Below.refl _ _).drew.trans bU).mono lD.o.size)),PUT.o _ _ GR.o (HE.o.trans ha)⟩
    clear q0 q1 q2 q3 q4 g0 g1 g2 g3 g4 z0 z1 z2 z3 z4 bU m0 m1 m2 m3 m4;go_wp2;go_roundg (x.u.length-(k+1));(case measure=>omega);case rel=>exact⟨k+1,by omega,by go_num,eL.o.1,eL.o.2⟩
   ·have HE:H_ (lQ x ⟨o,fa,fb,fc,fd⟩=⟨o,fa,fb,fc,fd⟩):=GJ (by
     rcases Tw:cp ⟨o,fa,fb,fc,fd⟩with _ | t;{exact .inl rfl}
     ·exact .inr (by simp only;have:o=31:=Classical.not_not.1 (fun k=>ht ⟨⟨t,Tw⟩,k⟩);omega))
    have eL:H_ (eB aV 5 w2 g x.u.length (fun j=>if j<k+1 then aX x j else aR x j)):=qG.o _ TP.o HE.o;rcases Tw:cp ⟨o,fa,fb,fc,fd⟩with _ | t;(case' some=>obtain rfl:o=31:=Classical.not_not.1 (fun k=>ht ⟨⟨t,Tw⟩,k⟩));all_goals dsimp only[Option.getD,Option.isSome];clear ht Tw HE qG PUT FL TL TP;go_wp2;go_roundg (x.u.length-(k+1));(case measure=>omega);case rel=>exact⟨k+1,by omega,by go_num,lD,eL⟩
  {have HK:H_ (k=x.u.length):=by{show _=_;omega};go_wp2;go_ret;exact⟨g,cap,rfl,hR.o.congr (fun j hj=>zca (by rw[HK.o];exact hj)),hg,hB.o⟩}
end Go.Proofs.YtcjfjflljdojlaaGreatDoor
