import Derived.Test.YtomcjennjcpdnaaGreatDoorPart26
import Derived.Test.YtomcjennjcpdnaaGreatDoorPart30
set_option linter.unusedSimpArgs false
set_option linter.unusedVariables false
namespace Go.Proofs.YtomcjennjcpdnaaGreatDoor
set_option maxRecDepth 100000
set_option maxHeartbeats 4000000
open Go.RowKit
attribute [local go_sem] run_store_float
def mkQ (ms:List MkD)(q:Nat):MkD:=ms[q]?.getD ⟨0,false,0⟩
structure MOrd (ms:List MkD)(t:Int):Prop where
 low:∀ q,q<ms.length->(mkQ ms q).kind≠2->0<=(mkQ ms q).base/\(mkQ ms q).base<=t
 ord:∀ q q',q<q'->q'<ms.length->(mkQ ms q).kind≠2->(mkQ ms q').kind≠2->(mkQ ms q).base<=(mkQ ms q').base
def hasLoop (ms:List MkD):Prop:=∃ q,q<ms.length/\(mkQ ms q).kind=4
theorem MOrd.mono {ms:List MkD}{t t':Int}(h:MOrd ms t)(ht:t<=t'):MOrd ms t':=⟨fun q hq hk=>⟨(h.low q hq hk).1,by have:=(h.low q hq hk).2;omega⟩,h.ord⟩
theorem mkQ_old {ms:List MkD}{m:MkD}{q:Nat}(h:q<ms.length):mkQ (ms++[m]) q=mkQ ms q:=by unfold mkQ;rw[List.getElem?_append_left h]
theorem mkQ_new {ms:List MkD}{m:MkD}:mkQ (ms++[m]) ms.length=m:=by unfold mkQ;simp
theorem MOrd.push {ms:List MkD}{m:MkD}{t t':Int}(h:MOrd ms t)(hm:m.kind=2/\t<=t'\/0<=t/\t<=m.base/\m.base<=t')(h0:0<=t):MOrd (ms++[m]) t' where
 low q hq hk:=by
  rw[List.length_append]at hq;simp only[List.length_cons,List.length_nil]at hq;by_cases c:q<ms.length
  ·rw[mkQ_old c]at hk ⊢;have:=h.low q c hk;omega
  ·obtain rfl:q=ms.length:=by omega
   rw[mkQ_new]at hk ⊢;omega
 ord q q' hq hq' hk hk':=by
  rw[List.length_append]at hq';simp only[List.length_cons,List.length_nil]at hq';by_cases c:q'<ms.length
  ·rw[mkQ_old (by omega)]at hk ⊢;rw[mkQ_old c]at hk' ⊢;exact h.ord q q' hq c hk hk'
  ·obtain rfl:q'=ms.length:=by omega
   rw[mkQ_old hq]at hk ⊢;rw[mkQ_new]at hk' ⊢;have:=h.low q hq hk;omega
theorem hasLoop.push {ms:List MkD}(m:MkD)(h:hasLoop ms\/m.kind=4):hasLoop (ms++[m]):=by
 rcases h with⟨q,hq,hk⟩ | h
 ·exact⟨q,by simp;omega,by rw[mkQ_old hq];exact hk⟩
 ·exact⟨ms.length,by simp,by rw[mkQ_new];exact h⟩
theorem CC.mkc {F:CF}{X:CX}{w:World}(h:CC F X w){i:Nat}(hi:i<X.ms.length):∃ g c a3 n3 c3 a4 n4 c4,X.mv=.slice (some ⟨g,0,none⟩) X.ms.length c/\w.cell? ⟨F.cb,16,none⟩=some (.slice (some ⟨g,0,none⟩) X.ms.length c)/\g<w.heap.size/\g≠F.cb/\X.ms.length<=9223372036854775807/\X.J (2 * i)=.slice a3 n3 c3/\X.J (2 * i+1)=.slice a4 n4 c4 /\
  w.cell? ⟨g,i * 5,none⟩=some (.int .i64 (mkQ X.ms i).kind)/\w.cell? ⟨g,i * 5+1,none⟩=some (.bool (mkQ X.ms i).scope)/\w.cell? ⟨g,i * 5+2,none⟩=some (.int .i64 (mkQ X.ms i).base) /\
  w.cell? ⟨g,i * 5+3,none⟩=some (.slice a3 n3 c3)/\w.cell? ⟨g,i * 5+4,none⟩=some (.slice a4 n4 c4)/\(∀ j,w.frozen? ⟨g,j,none⟩=false)/\n3=(X.L (2 * i)).length/\n4=(X.L (2 * i+1)).length:=by
 obtain⟨g,cap,ev,_,hgl,hcap,hcc,hz⟩:=h.mks.at (by omega);have c16:=h.c16;rw[ev]at c16;obtain⟨a3,c3,e3,_,_⟩:=(h.jls (2 * i) (by omega)).form;obtain⟨a4,c4,e4,_,_⟩:=(h.jls (2 * i+1) (by omega)).form;obtain⟨_,_,_,_,hm⟩:=h.mks.form;have k0:=hcc (i * 5) (by omega);have k1:=hcc (i * 5+1) (by omega);have k2:=hcc (i * 5+2) (by omega);have k3:=hcc (i * 5+3) (by omega);have k4:=hcc (i * 5+4) (by omega);have q:∀ j,j<5->(i * 5+j) / 5=i/\(i * 5+j) % 5=j:=fun j hj=>by omega
 have q0:i * 5 / 5=i/\i * 5 % 5=0:=by omega
 unfold mkF at k0 k1 k2 k3 k4;rw[q0.1,q0.2]at k0;rw[(q 1 (by omega)).1,(q 1 (by omega)).2]at k1;rw[(q 2 (by omega)).1,(q 2 (by omega)).2]at k2;rw[(q 3 (by omega)).1,(q 3 (by omega)).2,e3]at k3;rw[(q 4 (by omega)).1,(q 4 (by omega)).2,e4]at k4;simp at k0 k1 k2 k3 k4;exact⟨g,cap,a3,_,c3,a4,_,c4,ev,c16,hgl,fun e=>by have:=h.dis.m1 g (by rw[ev];rfl);have:=h.ok.cb.2;omega,by unfold maxLen at hm;omega,e3,e4,k0,k1,k2,k3,k4,hz,rfl,rfl⟩
theorem jl_push (L:List Int)(x:Int){n:Nat}(hn:n=L.length):(∀ i,i<n * 1->Value.int .i64 ((L++[x])[i]?.getD 0)=.int .i64 (L[i]?.getD 0))/\∀ i,i<1->([.int .i64 x]:List Value)[i]? = some (.int .i64 ((L++[x])[n * 1+i]?.getD 0)):=by
 subst hn;refine⟨fun i hi=>by rw[List.getElem?_append_left (by omega)],fun i hi=>?_⟩;obtain rfl:i=0:=by omega
 rw[Nat.mul_one,Nat.add_zero,List.getElem?_append_right (Nat.le_refl _),Nat.sub_self];rfl
structure LvI (X:CX)(k:Nat)(X1:CX):Prop where
 ms:X1.ms=X.ms
 home:X1.home=X.home
 lp:∃ q,q<=k/\(mkQ X.ms q).kind=4
 t0:0<=X1.top
 t1:X1.top<=X.top
 bs:∀ q,q<=k->(mkQ X.ms q).kind≠2->0<=(mkQ X.ms q).base/\(mkQ X.ms q).base<=X1.top
 n1:X.n<=X1.n
 n2:(X1.n:Int)<=X.n+2 * ((X.ms.length:Int)-1-k)+(X.top-X1.top)
 nk:X1.nk<=X1.n
theorem LvI.next {X X1 X2:CX}{k:Nat}(I:LvI X (k+1) X1)(h4:(mkQ X.ms (k+1)).kind≠4)(hms:X2.ms=X1.ms)(hh:X2.home=X1.home)(t0:0<=X2.top)(t1:X2.top<=X1.top)(hb:∀ q,q<=k->(mkQ X.ms q).kind≠2->(mkQ X.ms q).base<=X2.top)(n1:X1.n<=X2.n)(n2:(X2.n:Int)<=X1.n+2+(X1.top-X2.top))(nk:X2.nk<=X2.n):LvI X k X2 where
 ms:=hms.trans I.ms
 home:=hh.trans I.home
 lp:=by
  obtain⟨q,hq,hk⟩:=I.lp;by_cases e:q=k+1
  ·rw[e]at hk;exact absurd hk h4
  ·exact⟨q,by omega,hk⟩
 t0:=t0
 t1:=by have:=I.t1;omega
 bs:=fun q hq hk=>⟨(I.bs q (by omega) hk).1,hb q hq hk⟩
 n1:=Nat.le_trans I.n1 n1
 n2:=by have:=I.n2;omega
 nk:=nk
end Go.Proofs.YtomcjennjcpdnaaGreatDoor
namespace Go.Proofs.YtomcjennjcpdnaaGreatDoor
set_option maxRecDepth 100000
set_option maxHeartbeats 4000000
open Go.RowKit
attribute [local go_sem] run_store_float
theorem settleF_snoc (h:Nat->Int):∀(l:List Int)(v t:Int),settleF h (l++[v]) t=updF (settleF h l t) v.toNat (t+l.length)
 | [],v,t=>by simp[settleF]
 | x::l,v,t=>by
  show settleF _ (l++[v]) (t+1)=_;rw[settleF_snoc];show _=updF (settleF _ l (t+1)) _ _
  congr 1
  simp only[List.length_cons];omega
theorem settleF_take (h:Nat->Int)(l:List Int)(t:Int){k:Nat}(hk:k<l.length):settleF h (l.take (k+1)) t=updF (settleF h (l.take k) t) (l[k]?.getD 0).toNat (t+k):=by
 rw[List.take_add_one,List.getElem?_eq_getElem hk];simp only[Option.toList_some,Option.getD_some];rw[settleF_snoc,List.length_take,Nat.min_eq_left (Nat.le_of_lt hk)]
theorem Bud.moved {X X2:CX}{c c2:Nat}{t:Int}(B:Bud X c)(ht:X2.top=t)(hm:X2.ms=X.ms)(hn:X2.n=X.n)(hk:X2.nk=X.nk)(h0:0<=t)(h1:t+c2<=2000000)(hc:c2<=c):Bud X2 c2:=
 ⟨by omega,by omega,by rw[hm];have:=B.m1;omega,by have:=B.n1;omega,by have:=B.nk;omega⟩
structure KidsOk (F:CF)(l:List FnD)(f:Nat)(ks:List Int):Prop where
 len:ks.length<=200
 low:∀ k∈ks,0<=k/\k.toNat<(fnD l f).nodes.length
 one:∀ k∈ks,OneOk F (fnD l f).nodes k.toNat
 many:LastMany F (fnD l f).nodes ks
end Go.Proofs.YtomcjennjcpdnaaGreatDoor
namespace Go.Proofs.YtomcjennjcpdnaaGreatDoor
set_option maxRecDepth 100000
set_option maxHeartbeats 4000000
open Go.RowKit
def BlkOk (F:CF)(ns:List NodeD)(i:Nat):Prop:=∀(X:CX)(w:World),CC F X w->Bud X (Wt ns i)->(brkF ns i=true->hasLoop X.ms)->MOrd X.ms X.top ->
 Calls Tryz.prog 28 #[.pointer (some ⟨F.cb,0,none⟩),.int .i64 i] w (CPost F X w (.tuple #[]) X.top (hF ns i X.top X.home) (2000000 * Wt ns i))
def StmOk (F:CF)(ns:List NodeD)(i:Nat):Prop:=∀(X:CX)(w:World),CC F X w->Bud X (Wt ns i)->(brkF ns i=true->hasLoop X.ms)->MOrd X.ms X.top ->
 Calls Tryz.prog 55 #[.pointer (some ⟨F.cb,0,none⟩),.int .i64 i] w (CPost F X w (.tuple #[]) (X.top+letLen ns i) (hF ns i X.top X.home) (2000000 * Wt ns i))
structure Cur (F:CF)(X:CX)(W1:World)(S:Nat->Prop)(nb:Nat)(n:NodeD)(a1:Option Addr)(c1:Nat)(a2:Option Addr)(c2:Nat)(ms:List MkD)(t:Int)(hm:Nat->Int)(d:Nat)(Y:CX)(w:World):Prop where
 c:CC F Y w
 f:Fr X.O Y.O W1 w
 top:Y.top=t
 home:Y.home=hm
 ms:Y.ms=ms
 n1:X.n<=Y.n
 n2:Y.n<=X.n+d
 nk:Y.nk<=Y.n
 nb:NBox S nb n a1 c1 a2 c2 Y w
section
variable {F:CF} {X Y:CX} {W1 w w':World} {S:Nat->Prop} {nb:Nat} {n:NodeD} {a1 a2:Option Addr} {p1 p2:Nat} {ms:List MkD} {t t':Int} {hm h':Nat->Int} {d d':Nat} {l:List FnD} {f:Nat} {e:Ending} {v:Value}
theorem Cur.start (U:UOk F l f S)(h:CC F X W1)(N:NBox S nb n a1 p1 a2 p2 X W1)(hk:X.nk<=X.n):Cur F X W1 S nb n a1 p1 a2 p2 X.ms X.top X.home 0 X W1:=⟨h,Fr.refl,rfl,rfl,rfl,Nat.le_refl _,Nat.le_refl _,hk,N⟩
theorem Cur.step (K:Cur F X W1 S nb n a1 p1 a2 p2 ms t hm d Y w)(U:UOk F l f S)(P:CPost F Y w v t' h' d' e w'):∃ Y',e=.returned v/\Cur F X W1 S nb n a1 p1 a2 p2 ms t' h' (d+d') Y' w'/\Y.n<=Y'.n/\Fr Y.O Y'.O w w':=by
 obtain⟨Y',rfl,C,g,s⟩:=P;exact⟨Y',rfl,⟨C,K.f.trans g,s.top,s.home,s.ms.trans K.ms,Nat.le_trans K.n1 s.n1,by have:=K.n2;have:=s.n2;omega,s.nk,K.nb.step U K.c g⟩,s.n1,g⟩
theorem Cur.put (K:Cur F X W1 S nb n a1 p1 a2 p2 ms t hm d Y w)(U:UOk F l f S)(P:PutC F Y w e w'):∃ Y',e=.returned (.int .i64 Y.n)/\Cur F X W1 S nb n a1 p1 a2 p2 ms t hm (d+1) Y' w'/\Y.n<Y'.n/\Fr Y.O Y'.O w w':=by
 obtain⟨Y',rfl,C,g,s,h⟩:=P;exact⟨Y',rfl,⟨C,K.f.trans g,s.top.trans K.top,s.home.trans K.home,s.ms.trans K.ms,Nat.le_trans K.n1 s.n1,by have:=K.n2;have:=s.n2;omega,s.nk,K.nb.step U K.c g⟩,h,g⟩
theorem Cur.setTop (K:Cur F X W1 S nb n a1 p1 a2 p2 ms t hm d Y w)(U:UOk F l f S)(t':Int):Cur F X W1 S nb n a1 p1 a2 p2 ms t' hm d { Y with top:=t' } (w.setCell ⟨F.cb,11,none⟩ (.int .i64 t')):=by
 have g:Fr Y.O Y.O w (w.setCell ⟨F.cb,11,none⟩ (.int .i64 t')):=Fr.refl.set (a:=⟨F.cb,11,none⟩) K.c.ocb _;exact⟨K.c.top t',K.f.trans g,rfl,K.home,K.ms,K.n1,K.n2,K.nk,K.nb.step (X1:={ Y with top:=t' }) U K.c g⟩
theorem Cur.use (K:Cur F X W1 S nb n a1 p1 a2 p2 ms t hm d Y w)(U:UOk F l f S)(P:UsePost F Y w e w'):∃ Y',e=.returned (.tuple #[])/\Cur F X W1 S nb n a1 p1 a2 p2 ms t hm d Y' w'/\Y'.n=Y.n:=by
 obtain⟨r,rfl,C,g⟩:=P;exact⟨_,rfl,⟨C,K.f.trans g,K.top,K.home,K.ms,K.n1,K.n2,K.nk,K.nb.step (X1:={ Y with rg:=r }) U K.c g⟩,rfl⟩
theorem Cur.mark {m:MkD}(K:Cur F X W1 S nb n a1 p1 a2 p2 ms t hm d Y w)(U:UOk F l f S)(P:MarkPost F Y m w e w'):∃ Y',e=.returned (.tuple #[])/\Cur F X W1 S nb n a1 p1 a2 p2 (ms++[m]) t hm d Y' w'/\Y'.n=Y.n:=by
 obtain⟨g,cap,rfl,C,fr⟩:=P;exact⟨_,rfl,⟨C,K.f.trans fr,K.top,K.home,by show Y.ms++[m]=_;rw[K.ms],K.n1,K.n2,K.nk,K.nb.step U K.c fr⟩,rfl⟩
structure Jl (F:CF)(Y:CX)(w:World)(v:Value)(L:List Int):Prop where
 own:OwnF w F.B1 3 1 v L.length (fun j=>.int .i64 (L[j]?.getD 0))
 far:∀ k,v.ownBlock=some k->¬Y.O k
 low:∀ x∈L,0<=x/\x<Y.n
theorem Jl.fr {v:Value}{L:List Int}{Y':CX}(h:Jl F Y w v L)(g:Fr Y.O Y'.O w w')(hn:Y.n<=Y'.n):Jl F Y' w' v L where
 own:=h.own.same fun k e=>g.block k (h.own.lt k e).2 (h.far k e)
 far k e ho:=(g.new k ho).elim (h.far k e) (fun h2=>by have:=(h.own.lt k e).2;omega)
 low x hx:=by have:=h.low x hx;omega
theorem Jl.ints {a:Option Addr}{c:Nat}{L:List Int}(h:Jl F Y w (.slice a L.length c) L):IntsAt w (fun b=>(Value.slice a L.length c).ownBlock=some b) a L:=by
 obtain⟨_,_,e,_,hm⟩:=h.own.form;refine⟨by unfold maxLen at hm;omega,fun h0=>?_⟩;obtain⟨g,cap,e2,_,_,_,hc,_⟩:=h.own.at h0;cases e2;exact⟨g,0,rfl,rfl,fun j hj=>by rw[Nat.zero_add];exact hc j (by omega)⟩
theorem Cur.unmark {m:MkD}{v3 v4:Value}(K:Cur F X W1 S nb n a1 p1 a2 p2 (ms++[m]) t hm d Y w)(U:UOk F l f S)(P:UnPost F Y ms m (Y.J (2 * ms.length)) (Y.J (2 * ms.length+1)) w e w') :
  ∃(Y':CX) (a3:Option Addr) (c3:Nat) (L3:List Int) (a4:Option Addr) (c4:Nat) (L4:List Int),e=.returned (.agg #[.int .i64 m.kind,.bool m.scope,.int .i64 m.base,.slice a3 L3.length c3,.slice a4 L4.length c4])/\Cur F X W1 S nb n a1 p1 a2 p2 ms t hm d Y' w'/\Y'.n=Y.n/\Jl F Y' w' (.slice a3 L3.length c3) L3/\Jl F Y' w' (.slice a4 L4.length c4) L4:=by
 obtain⟨a,c,rfl,C,fr,rows⟩:=P;have hl:Y.ms.length=ms.length+1:=by rw[K.ms];simp
 obtain⟨a3,c3,e3,_⟩:=(K.c.jls (2 * ms.length) (by omega)).form;obtain⟨a4,c4,e4,_⟩:=(K.c.jls (2 * ms.length+1) (by omega)).form;have r3:=rows (2 * ms.length) (.inl rfl);have r4:=rows (2 * ms.length+1) (.inr rfl);refine⟨_,a3,c3,Y.L (2 * ms.length),a4,c4,Y.L (2 * ms.length+1),by rw[e3,e4],⟨C,K.f.trans fr,K.top,K.home,rfl,K.n1,K.n2,K.nk,K.nb.step U K.c fr⟩,rfl,?_,?_⟩
 ·rw[<-e3];exact⟨r3.1,r3.2,fun x hx=>(K.c.inL _ (by omega)).2 x hx⟩
 ·rw[<-e4];exact⟨r4.1,r4.2,fun x hx=>(K.c.inL _ (by omega)).2 x hx⟩
structure MBox (kb:Nat)(v3 v4:Value)(Y:CX)(w:World):Prop where
 c3:w.cell? ⟨kb,3,none⟩=some v3
 c4:w.cell? ⟨kb,4,none⟩=some v4
 far:¬Y.O kb
theorem MBox.fr {kb:Nat}{v3 v4:Value}{Y':CX}(h:MBox kb v3 v4 Y w)(g:Fr Y.O Y'.O w w'):MBox kb v3 v4 Y' w':=by
 have hl:=World.block_lt_of_cell? _ _ h.c3;have hb:=g.block kb hl h.far;exact⟨(World.cell?_of_block (a:=⟨kb,3,none⟩) hb).trans h.c3,(World.cell?_of_block (a:=⟨kb,4,none⟩) hb).trans h.c4,fun ho=>(g.new kb ho).elim h.far (fun h2=>by have:kb<w.heap.size:=hl;omega)⟩
theorem Cur.below (K:Cur F X W1 S nb n a1 p1 a2 p2 ms t hm d Y w)(U:UOk F l f S)(b:Below w.heap.size w w'):Cur F X W1 S nb n a1 p1 a2 p2 ms t hm d Y w':=
 ⟨K.c.below b,K.f.trans (.of_below b),K.top,K.home,K.ms,K.n1,K.n2,K.nk,K.nb.below U K.c b⟩
theorem Cur.aim (K:Cur F X W1 S nb n a1 p1 a2 p2 ms t hm d Y w)(U:UOk F l f S){j q:Nat}(hj:j<Y.n)(hq:q<5):∃ g c,w.cell? ⟨F.cb,9,none⟩=some (.slice (some ⟨g,0,none⟩) Y.n c)/\(∃ v,w.cell? ⟨g,j * 5+q,none⟩=some v)/\w.frozen? ⟨g,j * 5+q,none⟩=false/\Y.n<=9223372036854775807 /\
  ∀ u,∃ Y',Cur F X W1 S nb n a1 p1 a2 p2 ms t hm d Y' (w.setCell ⟨g,j * 5+q,none⟩ u)/\Y'.n=Y.n/\Y'.O=Y.O/\Fr Y.O Y.O w (w.setCell ⟨g,j * 5+q,none⟩ u):=by
 obtain⟨g,c,h1,h2,h3,_,h5,h6⟩:=K.c.aim hj hq;refine⟨g,c,h1,h2,h3,h5,fun u=>⟨_,⟨(h6 u).1,K.f.trans (h6 u).2,K.top,K.home,K.ms,K.n1,K.n2,K.nk,K.nb.step U K.c (h6 u).2⟩,rfl,rfl,(h6 u).2⟩⟩
end
theorem named_len {n:NodeD}{k:Nat}(hr:n.refs.length=k)(F:CF)(X:CX)(a:Option Addr)(c:Nat)(S:Nat->Prop)(w:World)(h:CC F X w)(hs:IntsAt w S a n.refs)(hS:∀ b,S b->b<w.heap.size/\¬X.O b)(hl:refsOk F n.refs)(hk:X.nk<=X.n) :
  Calls Tryz.prog 111 #[.pointer (some ⟨F.cb,0,none⟩),.slice a k c] w (CPost F X w (.tuple #[]) X.top X.home 0):=by subst hr;exact named_any F X a n.refs c S w h hs hS hl hk
theorem forget_len {n:NodeD}{k:Nat}(hr:n.refs.length=k)(F:CF)(X:CX)(a:Option Addr)(c:Nat)(S:Nat->Prop)(w:World)(h:CC F X w)(hs:IntsAt w S a n.refs)(hS:∀ b,S b->b<w.heap.size/\¬X.O b)(hl:refsOk F n.refs)(hk:X.nk<=X.n) :
  Calls Tryz.prog 57 #[.pointer (some ⟨F.cb,0,none⟩),.slice a k c] w (CPost F X w (.tuple #[]) X.top X.home 0):=by subst hr;exact forget_any F X a n.refs c S w h hs hS hl hk
theorem drop8 (F:CF)(X:CX)(w:World)(h:CC F X w){t b:Int}(ht:X.top=t)(h0:0<=t)(h1:t<=1000000000)(b0:0<=b)(b1:b<=1000000000)(hn:X.n+t.toNat<=2500000000000)(hk:X.nk<=X.n) :
  Calls Tryz.prog 58 #[.pointer (some ⟨F.cb,0,none⟩),.int .i64 b] w (CPost F X w (.tuple #[]) b X.home t.toNat):=by
 obtain⟨q,rfl⟩:=Int.eq_ofNat_of_zero_le b0;refine(drop_any F X t.toNat w h (by omega) q (by omega) (by omega) hn hk).mono ?_;rintro e w' ⟨Y,rfl,C,g,s⟩;exact⟨Y,rfl,C,g,s.le (by omega)⟩
theorem Cur.cast {F:CF}{X Y:CX}{W1 w:World}{S:Nat->Prop}{nb:Nat}{n:NodeD}{a1 a2:Option Addr}{p1 p2:Nat}{ms:List MkD}{t t':Int}{hm h':Nat->Int}{d d':Nat}(K:Cur F X W1 S nb n a1 p1 a2 p2 ms t hm d Y w)(ht:t=t')(hh:hm=h')(hd:d<=d'):Cur F X W1 S nb n a1 p1 a2 p2 ms t' h' d' Y w:=
 ⟨K.c,K.f,K.top.trans ht,K.home.trans hh,K.ms,K.n1,Nat.le_trans K.n2 (by omega),K.nk,K.nb⟩
end Go.Proofs.YtomcjennjcpdnaaGreatDoor
