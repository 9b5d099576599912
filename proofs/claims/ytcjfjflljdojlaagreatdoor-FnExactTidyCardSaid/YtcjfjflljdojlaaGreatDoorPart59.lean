import Derived.Test.YtcjfjflljdojlaaGreatDoorPart58
import Derived.ArgAppend
set_option linter.unusedSimpArgs false
set_option linter.unusedVariables false
set_option maxHeartbeats 8000000
set_option maxRecDepth 100000
namespace Go.Proofs.YtcjfjflljdojlaaGreatDoor
open Go.RowKit
def Jq (P:Nat->Bool)(j:Nat):Value:=i_ (dN P j:Nat)
theorem vR (n:Nat)(P:Nat->Bool)(kb kc:Nat)(w:World)(hn:n<=6000)(hk:C1 w kb n (nV P)) :
  c_ 37 #[.slice (some (a_ kb 0)) n kc] w fun e w'=>∃ b,e=.returned (.slice (some (a_ b 0)) (n+1) (n+1))/\w.heap.size<=b/\C1 w' b (n+1) (Jq P)/\b_ w w':=by
 have HR:Hid (∀ W,b_ w W->C1 W kb n (nV P)):=fun W hW=>hk.keep hW;have kH:∀ W:World,(Instr.makeSlice 70 (i_ ((n:Int)+1)) (i_ ((n:Int)+1))).run Tryz.prog W=.ok (.slice (some (a_ W.heap.size 0)) (n+1) (n+1)) (W.alloc (.cells (madeCells #[i_ 0] (n+1)) 3)):=run_make_row' (P:=Tryz.prog) 70 3 (i_ 0) 8 Tryz.underlying70 dT rfl .i64 .i64 (n+1) (by omega) (by omega);have sN:=hk.lt;clear hk;go_enter Tryz.func37,Tryz.ntmps37;go_wp2_with fail
 clear kH;go_loopg [12] n (fun gg i wr=>∃ k:Nat,k+gg=n/\i=i_ k/\Hid (C1 wr w.heap.size (n+1) (fun j=>if j<=k then Jq P j else i_ 0))/\Hid (b_ w wr))
 case atStart=>exact⟨0,by omega,rfl,(C1.made _ _ _ _).congr (fun j _=>by
   by_cases h:j<=0
   ·rw[if_pos h,Nat.le_zero.1 h];rfl
   ·rw[if_neg h]),r_.alloc n_ _⟩
 case round=>
  obtain⟨k,hk,rfl,hC,hB⟩:=hrel;have qJ:=hC.out.lt;by_cases ax:k<n
  ·have ck:wr.cell? (a_ kb k)=some (.bool (P k)):=(HR.out wr hB.out).cell k ax;have iK:=(HR.out wr hB.out).lt;have q0:=hC.out.cell k (by omega);have q1:=hC.out.cell (k+1) (by omega);have z1:=hC.out.soft (k+1);rw[if_pos n_]at q0;unfold Jq at q0;have Wi:(k:Int)<n:=by omega
   have hkI2:(k:Int)+1<n+1:=by omega
   have NX:Hid (dN P (k+1)=dN P k+if P k=true then 1 else 0):=rfl;have pw:=lH P k;have eM:Hid (∀ W:World,C1 W w.heap.size (n+1) (fun j=>if j=k+1 then i_ (dN P (k+1):Nat)else if j<=k then Jq P j else i_ 0)->C1 W w.heap.size (n+1) (fun j=>if j<=k+1 then Jq P j else i_ 0)):=fun W h=>h.congr (fun j _=>by
    by_cases e:j=k+1
    ·aj e;rw[if_pos rfl,if_pos n_];rfl
    ·rw[if_neg e];by_cases e2:j<=k
     ·rw[if_pos e2,if_pos (by omega)]
     ·rw[if_neg e2,if_neg (by omega)])
   cases hP:P k
   ·have FI:Hid (C1 (wr.setCell (a_ w.heap.size (k+1)) (i_ (dN P k:Nat))) w.heap.size (n+1) (fun j=>if j<=k+1 then Jq P j else i_ 0)):=eM.out _ (by rw[NX.out,hP];exact hC.out.set _ _);have FB:Hid (b_ w (wr.setCell (a_ w.heap.size (k+1)) (i_ (dN P k:Nat)))):=hB.out.setCell n_ _;rw[hP]at ck;generalize dN P k=nk at *;clear eM NX;go_wp2_with fail
    go_roundg (n-(k+1))
    case measure=>omega
    case rel=>exact⟨k+1,by omega,by go_num,FI,FB⟩
   ·have FI:Hid (C1 ((wr.setCell (a_ w.heap.size (k+1)) (i_ (dN P k:Nat))).setCell (a_ w.heap.size (k+1)) (i_ ((dN P k:Nat)+1))) w.heap.size (n+1) (fun j=>if j<=k+1 then Jq P j else i_ 0)):=eM.out _ (((hC.out.set _ _).set _ _).congr (fun j _=>by
     by_cases e:j=k+1
     ·rw[if_pos e,if_pos e,NX.out,hP];rfl
     ·rw[if_neg e,if_neg e,if_neg e]))
    have FB:Hid (b_ w ((wr.setCell (a_ w.heap.size (k+1)) (i_ (dN P k:Nat))).setCell (a_ w.heap.size (k+1)) (i_ ((dN P k:Nat)+1)))):=(hB.out.setCell n_ _).setCell n_ _;rw[hP]at ck;generalize dN P k=nk at *;clear eM NX;go_wp2_with fail
    go_roundg (n-(k+1))
    case measure=>omega
    case rel=>exact⟨k+1,by omega,by go_num,FI,FB⟩
  ·have HK:Hid (k=n):=by show _=_;omega
   go_wp2_with fail
   go_ret;exact⟨_,by go_num,n_,hC.out.congr (fun j hj=>if_pos (by rw[HK.out];omega)),hB.out⟩
theorem uC (x:ak)(P:Nat->Bool)(g c kb kc ab ac:Nat)(w:World)(hp:Hh x)(hG:gh w)(hr:eC aW 5 w g x.ins.length (aY x))(hk:C1 w kb x.ins.length (nV P))(ha:C1 w ab (x.ins.length+1) (Jq P)) :
  c_ 38 #[.slice (some (a_ g 0)) x.ins.length c,.slice (some (a_ kb 0)) x.ins.length kc,.slice (some (a_ ab 0)) (x.ins.length+1) ac] w (hU 51 5 aW (fy x P x.ins.length) w):=by
 have hN:=hp.fit.few;have HP:=af hp;have HR:Hid (∀ W,b_ w W->gh W/\eC aW 5 W g x.ins.length (aY x)/\C1 W kb x.ins.length (nV P)/\C1 W ab (x.ins.length+1) (Jq P)):=fun W hW=>⟨hG.keep hW hG.pos,hr.keep hW,hk.keep hW,ha.keep hW⟩;obtain⟨i0,hi,dE,cT,dB⟩:=aN kP;clear hp hG hr hk ha;go_enter Tryz.func38,Tryz.ntmps38;go_wp2_with fail
 go_loopg [7,14] x.ins.length (fun gg v i wr=>∃ k:Nat,k+gg=x.ins.length/\i=i_ k/\Hid (gP wr w.heap.size v (fy x P k))/\Hid (b_ w wr))
 case atStart=>exact⟨0,by omega,rfl,World.ownsRow_nil _ _ _ _,r_⟩
 case round=>
  obtain⟨k,hk,rfl,hO,hB⟩:=hrel;by_cases ax:k<x.ins.length
  ·obtain⟨HG,hr,zd,haa⟩:=HR.out wr hB.out;have M:=hr.ins ax;have ck:wr.cell? (a_ kb k)=some (.bool (P k)):=zd.cell k ax;have fm:=hr.lt;have iK:=zd.lt;have pt:=haa.lt;have c0:=M.op;have c1:=M.fa;have c2:=M.fb;have c3:=M.fc;have c4:=M.fd;have hs:=hB.out.size;have NX:Hid (fy x P (k+1)=fy x P k++if P k=true then[kX P (aY x k)]else[]):=rfl;have TA:Hid (∀ t,cE (aY x k)=some t->0<=t/\t.toNat<x.ins.length):=fun t=>zm HP.out.fit ax;have HA:Hid (∀ o,b_ wr (wr.alloc o)):=fun o=>r_.alloc n_ o;obtain⟨o,ho,Et⟩:=HP.out.op k ax;rw[<-show(aY x k).op=(aT x k).op from qQ x _]at ho;have aP:(fy x P k).length<=k:=by rw[mS];exact lH P k
   clear M HG hr zd haa;generalize aY x k=n at *;obtain⟨op,fa,fb,fc,fd⟩:=n;dsimp only at c0 c1 c2 c3 c4 ho
   aj ho
   cases hP:P k
   ·rw[hP]at ck NX;have O1:Hid (∀ o,gP (wr.alloc o) w.heap.size u7 (fy x P (k+1))):=fun o=>by
     show gP _ _ _ _;rw[NX.out,if_neg (by decide),List.append_nil];exact hO.out.below (HA.out o)
    have B1:Hid (∀ o,b_ w (wr.alloc o)):=fun o=>hB.out.alloc hs o;clear NX TA;go_wp2_with fail
    go_roundg (x.ins.length-(k+1))
    case measure=>omega
    case rel=>exact⟨k+1,by omega,by go_num,O1.out _,B1.out _⟩
   ·rw[hP]at ck NX;have KL:Hid (fy x P (k+1)=fy x P k++[kX P ⟨o,fa,fb,fc,fd⟩]):=NX.out;clear NX;have TG:Hid (∀ q,c_ 83 #[.agg #[i_ o,i_ fa,i_ fb,i_ fc,i_ fd]] (wr.alloc q) (oO ⟨o,fa,fb,fc,fd⟩ (wr.alloc q))):=fun q=>i9 o fa fb fc fd _ (HR.out _ (hB.out.alloc hs q)).1 Et;go_wp2_with fail
    refine(TG.out _).mono ?_;rintro e w2 ⟨rfl,ly⟩;have m:∀ r,r<5->w2.cell? (a_ wr.heap.size r)=_:=fun r _=>ly.cell (p:=(a_ wr.heap.size r)) (by simp);have m0:=m 0 (by omega);have m1:=m 1 (by omega);have m2:=m 2 (by omega);have m3:=m 3 (by omega);have m4:=m 4 (by omega);simp[go_sem]at m0 m1 m2 m3 m4;have dB:wr.heap.size<w2.heap.size:=by have:=ly.size;simp at this;omega
    have fN:Hid (b_ wr w2):=(HA.out _).trans (ly.mono (by simp));have lD:Hid (b_ w w2):=hB.out.trans (fN.out.mono hs);have vn:=af (hO.out.below fN.out);have zf:∀ r,w2.frozen? (a_ wr.heap.size r)=false:=fun r=>by rw[ly.frozen (p:=(a_ wr.heap.size r)) (by simp)];simp[go_sem]
    have dF:b_ wr w2:=fN.out;clear m ly HA c0 c1 c2 c3 c4 TG;rcases ht:cE ⟨o,fa,fb,fc,fd⟩with _ | t
    case' none=>
     obtain⟨a,rfl⟩:∃ a,a=fa:=⟨_,rfl⟩;obtain⟨b,rfl⟩:∃ b,b=fb:=⟨_,rfl⟩;obtain⟨W,rfl⟩:∃ W,W=w2:=⟨_,rfl⟩;have HY:Hid (kX P ⟨o,a,b,fc,fd⟩=⟨o,a,b,fc,fd⟩):=FU ht;have n0:=m0;have n1:=m1;have n2:=m2;have n3:=m3;have n4:=m4;have sO:=dF;dsimp only[Option.getD,Option.isSome]
    case' some=>
     obtain⟨t0,t1⟩:=TA.out t ht;obtain⟨T,rfl⟩:=Int.eq_ofNat_of_zero_le t0;have hT:T<x.ins.length:=t1;have hTI:(T:Int)<x.ins.length+1:=by omega
     have HE:Hid (kX P ⟨o,fa,fb,fc,fd⟩=tI ⟨o,fa,fb,fc,fd⟩ (dN P T:Nat)):=Gt ht;have hal2:=(HR.out w2 lD.out).2.2.2.lt;have ca:w2.cell? (a_ ab T)=some (i_ (dN P T:Nat)):=(HR.out w2 lD.out).2.2.2.cell T (by omega);have AI:Hid (c_ 84 #[.agg #[i_ o,i_ fa,i_ fb,i_ fc,i_ fd],i_ (dN P T:Nat)] w2.drew fun e w'=>(∃ a b,e=.returned (.agg #[i_ o,i_ a,i_ b,i_ fc,i_ fd])/\tI ⟨o,fa,fb,fc,fd⟩ (dN P T:Nat)=⟨o,a,b,fc,fd⟩)/\Below w2.drew.heap.size w2.drew w'):=wt o fa fb fc fd _ w2.drew (HR.out _ lD.out.drew).1 Et;have CL:Hid (∀ W,Below w2.drew.heap.size w2.drew W->(W.cell? (a_ wr.heap.size 0)=some (i_ o)/\W.cell? (a_ wr.heap.size 1)=some (i_ fa)/\W.cell? (a_ wr.heap.size 2)=some (i_ fb)/\W.cell? (a_ wr.heap.size 3)=some (i_ fc)/\W.cell? (a_ wr.heap.size 4)=some (i_ fd))/\(∀ r,W.frozen? (a_ wr.heap.size r)=false)/\b_ wr W):=fun W h=>by
      have e:∀ o,W.cell? (a_ wr.heap.size o)=w2.cell? (a_ wr.heap.size o):=fun o=>h.cell (p:=(a_ wr.heap.size o)) dB;exact⟨⟨(e _).trans m0,(e _).trans m1,(e _).trans m2,(e _).trans m3,(e _).trans m4⟩,fun r=>(h.frozen (p:=(a_ wr.heap.size r)) dB).trans (zf r),dF.drew.trans (h.mono (Nat.le_of_lt dB))⟩
     clear t0 t1 TA ht zf;generalize dN P T=num at *;dsimp only[Option.getD,Option.isSome];go_wp2_with fail
     go_region_with (go_at_call 84;refine(aa AI).mono ?_;rintro e w3 ⟨⟨a,b,rfl,ha⟩,bY⟩;obtain⟨⟨q0,q1,q2,q3,q4⟩,qf,qb⟩:=aa CL _ bY;have y0:=qf 0;have y1:=qf 1;have y2:=qf 2;have y3:=qf 3;have y4:=qf 4)
     all_goals
      have HY:Hid (kX P ⟨o,fa,fb,fc,fd⟩=⟨o,a,b,fc,fd⟩):=HE.out.trans ha;have n0:(eh wr.heap.size w3 0 (aW ⟨o,a,b,fc,fd⟩)).cell? (a_ wr.heap.size 0)=some (i_ o):=gC _ _ _ _ _ (by rw[q0];rfl);have n1:(eh wr.heap.size w3 0 (aW ⟨o,a,b,fc,fd⟩)).cell? (a_ wr.heap.size 1)=some (i_ a):=gC _ _ _ _ _ (by rw[q1];rfl);have n2:(eh wr.heap.size w3 0 (aW ⟨o,a,b,fc,fd⟩)).cell? (a_ wr.heap.size 2)=some (i_ b):=gC _ _ _ _ _ (by rw[q2];rfl);have n3:(eh wr.heap.size w3 0 (aW ⟨o,a,b,fc,fd⟩)).cell? (a_ wr.heap.size 3)=some (i_ fc):=gC _ _ _ _ _ (by rw[q3];rfl);have n4:(eh wr.heap.size w3 0 (aW ⟨o,a,b,fc,fd⟩)).cell? (a_ wr.heap.size 4)=some (i_ fd):=gC _ _ _ _ _ (by rw[q4];rfl);have sO:b_ wr (eh wr.heap.size w3 0 (aW ⟨o,a,b,fc,fd⟩)):=gm n_ _ _ _ qb;clear q0 q1 q2 q3 q4 qf qb y0 y1 y2 y3 y4 AI CL bY HE ha m0 m1 m2 m3 m4;dsimp only[eh,aW,Nat.zero_add,Nat.reduceAdd]at n0 n1 n2 n3 n4 sO;generalize ((((w3.setCell (a_ wr.heap.size 0) (i_ o)).setCell (a_ wr.heap.size 1) (i_ a)).setCell (a_ wr.heap.size 2) (i_ b)).setCell (a_ wr.heap.size 3) (i_ fc)).setCell (a_ wr.heap.size 4) (i_ fd)=W at *
    all_goals
     have OW:Hid (gP W w.heap.size u7 (fy x P k)):=hO.out.below sO;have BW:Hid (b_ w W):=hB.out.trans (sO.mono hs);have QO:wr.heap.size<W.heap.size:=World.block_lt_of_cell? _ _ n0;clear sO dF hB hO fN lD dB;go_wp2_with (first
      | (at_builtin;refine wpList_append_own _ rfl _ _ 40 rfl w.heap.size 51 i0 (.agg #[i_ 0,i_ 0,i_ 0,i_ 0,i_ 0]) 5 40 Tryz.underlying40 hi dE cT dB rfl (by decide) _ _ _ rfl (World.ownsRow.alloc OW.out _) (a_ W.heap.size 0) 1 1 [i_ o,i_ a,i_ b,i_ fc,i_ fd] rfl rfl ?c1 ?c2 ?c3 ?c4 ?c5 ?_)
      | go_in)
     case c1=>intro j u hj;rcases j with _ | _ | _ | _ | _ | _<;>simp at hj<;>aj hj<;>simp[Addr.add,go_sem]
     case c2=>intro u hu;simp at hu;rcases hu with rfl | rfl | rfl | rfl | rfl<;>rfl
     case c3=>unfold maxLen;omega
     case c4=>omega
     case c5=>have:=BW.out.size;simp;omega
     intro v' w1 dj hgrow _;have R1:Hid (gP w1 w.heap.size v' (fy x P (k+1))):=by
      show gP _ _ _ _;rw[KL.out,HY.out];exact dt.push dj
     have R2:Hid (b_ w w1):=(BW.out.alloc BW.out.size _).grown hgrow (by have:=BW.out.size;simp;omega) (fun j hj=>(dt.lt OW.out j hj).1);clear dj hgrow;go_wp2_with fail
     go_roundg (x.ins.length-(k+1))
     case measure=>omega
     case rel=>exact⟨k+1,by omega,by go_num,R1,R2⟩
  ·have iK:k=x.ins.length:=by omega
   aj iK
   go_wp2_with fail
   go_ret;exact⟨_,rfl,hO.out,hB.out⟩
def xZ (l:List Nat):List Value:=l.map (fun n:Nat=>i_ (n:Int))
theorem uH (l:List Nat):(xZ l).length=l.length:=by unfold xZ;rw[List.length_map]
def Bu (W:World)(base:Nat)(v:Value)(q:List Nat):Prop:=∃ a c,v=.slice a q.length c/\((q=[]/\a=none/\c=0)\/∃ g off N f,a=some (a_ g off)/\base<=g/\W.rowIs g 3 N f/\q.length<=c/\off+c<=N/\∀ j u,(xZ q)[j]? = some u->f (off+j)=u)
section
variable {W W':World} {base:Nat} {v:Value} {q:List Nat}
theorem Bu.same (h:Bu W base v q)(hb:∀ k,v.ownBlock=some k->W'.heap[k]? = W.heap[k]?):Bu W' base v q:=by
 obtain⟨a,c,rfl,h⟩:=h;refine⟨a,c,rfl,h.imp id ?_⟩;rintro⟨g,off,N,f,rfl,h1,h2,h3⟩;exact⟨g,off,N,f,rfl,h1,h2.of_block (hb g rfl),h3⟩
theorem Bu.lt (h:Bu W base v q):∀ k,v.ownBlock=some k->base<=k/\∃ c t f,W.heap[k]? = some (.cells c t f):=fun k e=>by
 obtain⟨a,c,rfl,h⟩:=h;rcases h with⟨_,rfl,_⟩ | ⟨g,off,N,f,rfl,h1,⟨c,h2,_⟩,_⟩
 ·cases e
 ·cases e;exact⟨h1,_,_,_,h2⟩
theorem Qk (h:W.ownsRow base 3 1 v q.length (xZ q)):Bu W base v q:=by
 rcases h.2 with⟨rfl,h0⟩ | ⟨g,cap,gi,rfl,h1,hg,h2,_,h3,h4⟩
 ·obtain rfl:q=[]:=List.eq_nil_of_length_eq_zero h0;exact⟨none,0,rfl,.inl ⟨rfl,rfl,rfl⟩⟩
 ·refine⟨_,_,rfl,.inr ⟨g,0,cap,fun j=>gi[j]?.getD default,rfl,h1,⟨gi,hg,by omega,fun i hi=>?_⟩,h2,by omega,fun j u hj=>?_⟩⟩
  ·simp[Array.getElem?_eq_getElem (show i<gi.size by omega)]
  ·have ax:=(List.getElem?_eq_some_iff.1 hj).1;rw[uH]at ax;have:=World.ownsRow.cellAt h j (by omega);simp only[World.cell?,hg,hj]at this;simp at this;show gi[0+j]?.getD default=u;rw[Nat.zero_add,this];rfl
theorem GW (h:Bu W base v q)(hb:base<=W.heap.size)(hl:q.length<=10000)(ad:Addr)(x:Nat)(hx:W.cell? (ad.add 0)=some (i_ (x:Int))) :
  ∃ v' W',(Builtin.append_ #[70,70] 70 #[v,.slice (some ad) 1 1]).run Tryz.prog W=.ok v' W'/\Bu W' base v' (q++[x])/\W.grownBy W' v.ownBlock/\∀ k,v'.ownBlock=some k->v.ownBlock=some k\/W.heap.size<=k:=by
 obtain⟨i0,hi,dE,cT,dB⟩:=aN dT;have hn:xZ (q++[x])=xZ q++[i_ (x:Int)]:=by unfold xZ;rw[List.map_append];rfl
 have fw:=uH q;have ei:∀ j u,[Value.int .i64 (x:Int)][j]? = some u->W.cell? (ad.add j)=some u:=fun j u hj=>by
  cases j with
  | zero=>simp at hj;aj hj;exact hx
  | succ j=>simp at hj
 have fin:∀ v' w',w'.ownsRow W.heap.size 3 1 v' (q.length+1) (xZ q++[i_ (x:Int)])->Bu w' base v' (q++[x])/\∀ k,v'.ownBlock=some k->W.heap.size<=k:=fun v' w' h=>
  ⟨Qk (by rw[hn,List.length_append];exact⟨h.1,h.2.imp id (fun⟨g,cap,gi,e,dW,r⟩=>⟨g,cap,gi,e,Nat.le_trans hb dW,r⟩)⟩),fun k e=>(World.ownsRow.lt h k e).1⟩
 obtain⟨a,c,rfl,h⟩:=h;rcases h with⟨rfl,rfl,rfl⟩ | ⟨g,off,N,f,rfl,h1,h2,h3,h4,h5⟩
 ·obtain⟨v',w',hr,ho,hg,_⟩:=run_append_own (P:=Tryz.prog) W W.heap.size 70 70 3 i0 (i_ 0) 1 8 Tryz.underlying70 hi dE cT dB rfl (by decide) (.slice none 0 0) 0 [] (World.ownsRow_nil _ _ _ _) ad 1 1 [i_ (x:Int)] rfl ei (by simp[Value.oneCell']) (by unfold maxLen;omega) (by omega) n_;exact⟨v',w',hr,(fin _ _ ho).1,hg,fun k e=>.inr ((fin _ _ ho).2 k e)⟩
 ·by_cases hr:q.length+1<=c
  ·have:=run_append_room_cells (P:=Tryz.prog) W 70 70 3 i0 Tryz.underlying70 hi g off q.length c ad 1 1 [i_ (x:Int)] (by rw[cT];rfl) ei (by simp[Value.oneCell']) hr (fun j hj=>by
    obtain rfl:j=0:=by simpa using hj
    rw[cT,Nat.mul_one,h2.cell (by omega)];rfl) (fun j _=>h2.frozen _)
   rw[cT,Nat.mul_one]at this;refine⟨_,_,this,⟨_,c,by rw[List.length_append];rfl,.inr ⟨g,off,N,_,rfl,h1,h2.set (off+q.length) (i_ (x:Int)),by rw[List.length_append];exact hr,h4,fun j u hj=>?_⟩⟩,⟨rfl,rfl,rfl,by simp[World.setCells],fun k hk ei=>heap_setCell_other W (a_ g (off+q.length)) k _ (fun e=>ei (by rw[e];rfl))⟩,fun k e=>.inl e⟩;rw[hn]at hj;show(if off+j=off+q.length then _ else _)=u;by_cases e:j=q.length
   ·rw[if_pos (by omega)];rw[List.getElem?_append_right (by omega),e,fw]at hj;simpa using hj
   ·rw[if_neg (by omega)];refine h5 j u ?_
    rwa [List.getElem?_append_left (by have:=(List.getElem?_eq_some_iff.1 hj).1;rw[List.length_append]at this;simp at this;omega)]at hj
  ·obtain⟨v',w',Ia,ho,hg⟩:=run_append_arg_grows (P:=Tryz.prog) W 70 70 3 i0 (i_ 0) 1 8 Tryz.underlying70 hi dE cT dB rfl (by decide) (a_ g off) q.length c (xZ q) (by rw[fw,Nat.mul_one]) (fun j u hj=>by
    have ax:=(List.getElem?_eq_some_iff.1 hj).1;rw[Addr.add_lit,h2.cell (by omega),h5 j u hj]) ad 1 1 [i_ (x:Int)] rfl ei (by omega) (by unfold maxLen;omega) (by omega)
   exact⟨v',w',Ia,(fin _ _ ho).1,⟨hg.os,hg.tape,hg.output,hg.size,fun k hk _=>hg.block k hk (by simp)⟩,fun k e=>.inr ((fin _ _ ho).2 k e)⟩
end
def Cf (bv base:Nat)(v:Value)(q:List Nat)(w:World)(e:Ending)(w':World):Prop:=(∃ r,e=.returned r)/\∃ v',w'.rowIs bv 131 1 (fun _=>v')/\Bu w' base v' q/\(∀ k,v'.ownBlock=some k->v.ownBlock=some k\/w.heap.size<=k)/\w.os=w'.os/\w.tape=w'.tape/\w.output=w'.output/\w.heap.size<=w'.heap.size/\∀ k,k<w.heap.size->k≠bv->v.ownBlock≠some k->w'.heap[k]? = w.heap[k]?
theorem AB (bv base:Nat)(v:Value)(q:List Nat)(x:Nat)(w:World)(hv:w.rowIs bv 131 1 (fun _=>v))(hq:Bu w base v q)(hb:base<=w.heap.size)(Hn:bv<base)(hl:q.length<=10000) :
  c_ 86 #[.pointer (some (a_ bv 0)),i_ (x:Int)] w (Cf bv base v (q++[x]) w):=by
 have hc:=hv.cell (i:=0) (by omega);have cZ:=hv.lt;have HV:Hid ((w.alloc (.cells #[i_ (x:Int)] 3)).rowIs bv 131 1 (fun _=>v)):=hv.alloc _;obtain⟨v',W',hr,LQ,hg,bc⟩:=GW (W:=w.alloc (.cells #[i_ (x:Int)] 3)) (hq.same (fun k e=>Below.heap_alloc _ _ _ (by obtain⟨_,_,_,_,h⟩:=hq.lt k e;exact(Array.getElem?_eq_some_iff.1 h).1))) (by simp;omega) hl (a_ w.heap.size 0) x (by simp[Addr.add,go_sem]);have ei:v.ownBlock≠some bv:=fun e=>by have:=(hq.lt bv e).1;omega
 have UQ:=HV.out.of_block (hg.block bv (by simp;omega) (fun e=>ei e.symm));have uW:=UQ.cell (i:=0) (by omega);have hz':=UQ.frozen 0;have NA:=UQ.lt;have eM:Hid (Cf bv base v (q++[x]) w (.returned (.tuple #[])) (W'.setCell (a_ bv 0) v')):=by
  refine⟨⟨_,rfl⟩,v',(UQ.set 0 v').congr (fun i hi=>if_pos (by omega)),LQ.same (fun k e=>heap_setCell_other W' (a_ bv 0) k v' (fun e2=>?_)),fun k e=>(bc k e).imp id (fun h=>by simp at h;omega),?_,?_,?_,?_,fun k h1 h2 h3=>?_⟩
  ·have:=(LQ.lt k e).1;have:k=bv:=e2;omega
  ·exact hg.os.symm
  ·exact hg.tape.symm
  ·exact hg.output.symm
  ·have:=hg.size;simp at this ⊢;omega
  ·rw[heap_setCell_other W' (a_ bv 0) k v' h2,hg.block k (by simp;omega) (fun e=>h3 e.symm)];exact Below.heap_alloc _ _ _ h1
 obtain⟨va,vc,rfl,_⟩:=LQ;clear hv hq hg HV UQ ei;go_enter Tryz.func86,Tryz.ntmps86;go_wp2_with (first | (at_builtin;refine bJ rfl _ _ 70 rfl _ _ rfl rfl hr ?_) | go_in)
 go_end0
 rw[List.length_append]at eM;exact eM.out
theorem He (bv base:Nat)(v:Value)(x:Nat)(q:List Nat)(w:World)(hv:w.rowIs bv 131 1 (fun _=>v))(hq:Bu w base v (x::q))(Hn:bv<base)(hl:q.length<=10000) :
  c_ 88 #[.pointer (some (a_ bv 0))] w fun e w'=>e=.returned (i_ (x:Int))/\∃ v',w'=w.setCell (a_ bv 0) v'/\w'.rowIs bv 131 1 (fun _=>v')/\Bu w' base v' q/\v'.ownBlock=v.ownBlock:=by
 have hc:=hv.cell (i:=0) (by omega);have hz:=hv.frozen 0;have cZ:=hv.lt;obtain⟨a,c,rfl,h⟩:=hq;rcases h with⟨h,_⟩ | ⟨g,off,N,f,rfl,h1,h2,h3,h4,h5⟩
 ·cases h
 rw[List.length_cons]at h3 hc;have h0:w.cell? (a_ g off)=some (i_ (x:Int)):=by rw[h2.cell (by omega)];exact congrArg some (h5 0 _ rfl)
 have fm:=h2.lt;have eM:Hid (∀ d k,(d=off+1/\k=c-1)\/(q.length=0/\d=off/\k=0)->∃ v',w.setCell (a_ bv 0) (.slice (some (a_ g d)) q.length k)=w.setCell (a_ bv 0) v'/\(w.setCell (a_ bv 0) (.slice (some (a_ g d)) q.length k)).rowIs bv 131 1 (fun _=>v')/\Bu (w.setCell (a_ bv 0) (.slice (some (a_ g d)) q.length k)) base v' q/\v'.ownBlock=some g):=fun d k hd=>
  ⟨_,rfl,(hv.set 0 _).congr (fun i hi=>if_pos (by omega)),⟨_,_,rfl,.inr ⟨g,d,N,f,rfl,h1,h2.setOther (a:=(a_ bv 0)) (by show g≠bv;omega) _,by omega,by omega,fun j u hj=>by
   rcases hd with⟨rfl,_⟩ | ⟨h,_⟩
   ·rw[show off+1+j=off+(j+1)by omega];exact h5 (j+1) u hj
   ·have:=(List.getElem?_eq_some_iff.1 hj).1;rw[uH]at this;omega⟩⟩,rfl⟩
 have Rs:(0:Int)<(q.length:Int)+1:=by omega
 clear hv h2 h5;go_enter Tryz.func88,Tryz.ntmps88;go_wp2_with fail
 all_goals
  go_ret;exact⟨rfl,eM.out _ _ (by omega)⟩
end Go.Proofs.YtcjfjflljdojlaaGreatDoor
