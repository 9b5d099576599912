import Derived.Test.YtcjfjflljdojlaaGreatDoorPart40
import Derived.Test.YtcjfjflljdojlaaGreatDoorPart36
import Derived.Test.YtcjfjflljdojlaaGreatDoorPart14
set_option linter.all false
set_option maxHeartbeats 8000000
set_option maxRecDepth 1000000
namespace Go.Proofs.YtcjfjflljdojlaaGreatDoor
open Go.RowKit
def S5 (ca:o_)(m cc p:Nat)(nm:ByteArray)(ln pr:Int)(rs:Bool)(rg:Int)(v5 v6 v7 v8:Value)(j:Nat):Value:=[Value.slice ca m cc,i_ (p:Int),.string nm,i_ ln,i_ pr,.bool rs,i_ rg,v5,v6,v7,v8][j]?.getD (.bool false)
def Qy (ca:o_)(m cc p:Nat)(nm:ByteArray)(ln pr:Int)(rs:Bool)(rg:Int)(v5 v6 v7 v8:Value)(N:Nat)(w:w_)(e:Ending)(w':w_):Prop:=
 ∃ bV bS,e=.returned (.pointer (some (a_ bV 0)))/\Nf w bV bS w'.heap.size/\jq w bV bS w'.heap.size (S5 ca m cc p nm ln pr rs rg v5 v6 v7 v8) N mD (fun _=>mE) (.slice none 0 0) [] w'/\b_ w w'
theorem Nb {w2:w_}{b N:Nat}(h:w2.heap[b]? = some (.cells (madeCells #[.bool false,.slice none 0 0,.slice none 0 0] (N * 3)) 97 (0,0))):w2.rowIs b 97 (N * 3) (vL mD (fun _=>mE)):=by
 refine⟨_,h,size_madeCells _ _,fun j hj=>?_⟩;have e:j % 3=0\/j % 3=1\/j % 3=2:=by{omega};unfold vL;rcases e with e | e | e<;>simp[madeCells,hj,e,mD,mE]
theorem Qv {w w2:w_}{bV bS N:Nat}{H:Nat->Value}(hS:w2.heap[bS]? = some (.cells (madeCells #[.bool false,.slice none 0 0,.slice none 0 0] (N * 3)) 97 (0,0)))(hV:w2.heap[bV]? = some (.cells #[H 0,H 1,H 2,H 3,H 4,H 5,H 6,H 7,H 8,H 9,H 10,s_ bS 0 N N,.slice none 0 0] 121 (0,0)))(hb:b_ w w2):jq w bV bS w2.heap.size H N mD (fun _=>mE) (.slice none 0 0) [] w2 where
 old:=hb
 size:=n_
 box:=⟨_,hV,rfl,fun i hi=>by
  match i,hi with
  | 0,_=>rfl
  | 1,_=>rfl
  | 2,_=>rfl
  | 3,_=>rfl
  | 4,_=>rfl
  | 5,_=>rfl
  | 6,_=>rfl
  | 7,_=>rfl
  | 8,_=>rfl
  | 9,_=>rfl
  | 10,_=>rfl
  | 11,_=>rfl
  | 12,_=>rfl⟩
 sts:=Nb hS
 own:=fun i s hi hs=>by cases hs
 none_:=fun i hi hn=>rfl
 inj:=fun i j hi hj eh=>⟨sV _,sV _⟩
 its:=zbh _ _ _ _
 dis:=fun i hi=>⟨sV _,sV _⟩
 dec:=fun r s cK hs=>zcc hs (bW _)
 b:=fun y=>⟨(fun h=>by cases h),(fun⟨i,_,h⟩=>by cases h)⟩
theorem sG (a:o_)(l:List aj)(c p:Nat)(S:Nat->Prop)(w:w_)(hs:am w S a l)(hB:∀ b,S b->b<w.heap.size)(hp:p<l.length)(hN:(al l p).u.length<=6000) :
  ∃ nm ln pr rs rg a5 a6 a7 a8 n5 n6 n8 c5 c6 c7 c8,(pr=(al l p).l/\rs=(al l p).e/\rg=(al l p).m/\bN w S a7 (al l p).u) /\
  c_ 27 #[.agg #[.slice a l.length c],i_ (p:Int)] w (Qy a l.length c p nm ln pr rs rg (.slice a5 n5 c5) (.slice a6 n6 c6) (.slice a7 (al l p).u.length c7) (.slice a8 n8 c8) (al l p).u.length w):=by
 obtain⟨b,off,rfl,hb,uV⟩:=hs.2 (by omega);have PC:aT w S b (off+p * 9) (al l p):=uV p hp;have kN:b<w.heap.size:=hB b hb;obtain⟨a5,c5,e5,i5⟩:=PC.s;obtain⟨a6,c6,e6,i6⟩:=PC.k;obtain⟨a7,c7,e7,i7⟩:=PC.u;obtain⟨a8,c8,e8,i8⟩:=PC.g;have e0:=PC.name;have e1:=PC.f;have e2:=PC.l;have e3:=PC.e;have e4:=PC.m;refine⟨(al l p).name,(al l p).f,(al l p).l,(al l p).e,(al l p).m,a5,a6,a7,a8,(al l p).s.length,(al l p).k.length,(al l p).g.length,c5,c6,c7,c8,⟨rfl,rfl,rfl,i7⟩,?_⟩;generalize (al l p).name=nm at *;generalize (al l p).f=ln at *;generalize (al l p).l=pr at *;generalize (al l p).e=rs at *;generalize (al l p).m=rg at *;generalize (al l p).s.length=n5 at *;generalize (al l p).k.length=n6 at *;generalize (al l p).u.length=N at *;generalize (al l p).g.length=n8 at *;have ry:(p:Int)<l.length:=by{omega};have kE:=ex (P:=Tryz.prog) 64 97 _ 3 56 Tryz.underlying64 EJ .i64 .i64 N (by omega) (by omega);obtain⟨f1,f2,f3⟩:b<w.heap.size+1/\b<w.heap.size+2/\b<w.heap.size+3:=by omega
 clear hs hB uV PC i5 i6 i7 i8 hb;go_enter Tryz.func27,Tryz.ntmps27;go_wp2_with fail
 go_region;(all_goals (go_wp2_with fail));all_goals go_ret;obtain⟨t1,t2,t3,t4,t5,t6⟩:=gm w (.cells #[s_ b off l.length c] 28) (.cells #[.string nm,i_ ln,i_ pr,.bool rs,i_ rg,.slice a5 n5 c5,.slice a6 n6 c6,.slice a7 N c7,.slice a8 n8 c8] 43) (.cells (madeCells #[.bool false,.slice none 0 0,.slice none 0 0] (N * 3)) 97) (.cells #[s_ b off l.length c,i_ (p:Int),.string nm,i_ ln,i_ pr,.bool rs,i_ rg,.slice a5 n5 c5,.slice a6 n6 c6,.slice a7 N c7,.slice a8 n8 c8,s_ (w.heap.size+1+1) 0 N N,.slice none 0 0] 121);exact⟨_,_,rfl,⟨by omega,by omega,by omega,by rw[t6];omega,by rw[t6];omega⟩,Qv t3 t4 t5,t5⟩
def II (l:List aj)(p:Nat)(w:w_)(e:Ending)(w':w_):Prop:=
 ∃(x:Int) (n:Nat),e=.returned (.agg #[i_ x,i_ (if x=0 then 0 else(p:Int)),i_ (n:Int)])/\fU l (al l p) x n/\b_ w w'
def Uo (l:List aj)(p:Nat)(w:w_)(bV bS bT:Nat)(x:Int)(w':w_):Prop:=
 x=0->∃ k σ H R iv li,ju l (al l p) k σ/\mp σ (al l p).u.length/\oR (al l p).m.toNat (al l p).u.length σ/\jq w bV bS bT H (al l p).u.length σ R iv li w'
def sZ (l:List aj)(p:Nat)(w:w_)(bV bS bT:Nat)(e:Ending)(w':w_):Prop:=
 ∃(x:Int) (n:Nat),e=.returned (.agg #[i_ x,i_ (if x=0 then 0 else(p:Int)),i_ (n:Int)])/\fU l (al l p) x n/\b_ w w'/\Uo l p w bV bS bT x w'
theorem jq.off {w wr w2:w_}{bV bS bT bF N:Nat}{H F:Nat->Value}{σ:dW}{R:Nat->Value×Value}{iv:Value}{li:List Int}(h:jq w bV bS bT H N σ R iv li wr)(hV:bV≠bF)(hS:bS≠bF)(hF:wr.rowIs bF 36 3 F)(hb:b_ w w2)(hz:wr.heap.size<=w2.heap.size)(hk:∀ k,k≠bF->w2.heap[k]? = wr.heap[k]?):jq w bV bS bT H N σ R iv li w2:=by
 obtain⟨cs,hF,_⟩:=hF;have oI:∀{v:Value} {t:List Int},ao wr bT v t->ao w2 bT v t:=fun {v t} ho=>ho.sameBlock (fun k e=>hk k (fun e2=>by
  subst e2;rcases ho.2 with⟨rfl,_⟩ | ⟨a,c,gh,rfl,_,k1,_⟩;{cases e};obtain rfl:a=k:=by injection e
  rw[k1]at hF;injection hF with hF;injection hF with _ hF;exact zcc hF (by decide)))
 have oG:∀{v:Value} {t:List bc},cd wr bT v t->cd w2 bT v t:=fun {v t} ho=>ho.sameBlock (fun k e=>hk k (fun e2=>by
  subst e2;rcases ho.2 with⟨rfl,_⟩ | ⟨a,c,gh,rfl,_,k1,_⟩;{cases e};obtain rfl:a=k:=by injection e
  rw[k1]at hF;injection hF with hF;injection hF with _ hF;exact zcc hF (by decide)))
 exact { h with
  old:=hb
  size:=zah h.size hz
  box:=h.box.of_block (hk _ hV)
  sts:=h.sts.of_block (hk _ hS)
  own:=fun i s hi hs=>⟨oI (h.own i s hi hs).1,oG (h.own i s hi hs).2⟩
  its:=oI h.its }
def Ka (l:List aj)(p:Nat)(w:w_)(bV bS bT bF:Nat)(H:Nat->Value)(N R0:Nat)(gg:Nat)(wx:w_):Prop:=
 ∃(q:Nat) (σ:dW) (R:Nat->Value×Value) (iv:Value) (li:List Int),H_ (jq w bV bS bT H N σ R iv li wx)/\H_ (ju l (al l p) q σ)/\H_ (oR R0 N σ)/\H_ (bz N σ=gg)/\H_ (wx.rowIs bF 36 3 (fun _=>i_ 0))/\H_ (iv.ownBlock≠some bF)
theorem G8 {w:w_}{bV bS bT:Nat}{H:Nat->Value}{N:Nat}{σ:dW}{R:Nat->Value×Value}{iv:Value}{li:List Int}{wr:w_}(h:jq w bV bS bT H N σ R iv li wr):wr.cell? (a_ bV 12)=some iv/\wr.frozen? (a_ bV 12)=false/\bV<wr.heap.size:=⟨h.box.cell (i:=12) (by omega),h.box.frozen 12,h.box.lt⟩
theorem DU (l:List aj)(p cc:Nat)(ca:o_)(S:Nat->Prop)(w:w_)(hs:am w S ca l)(hSB:∀ b,S b->b<w.heap.size)(hk:uU l p)(sP:∀ x,x∈l->x.s.length<=250)(hG:gd w)(nm:ByteArray)(ln pr:Int)(rs:Bool)(rg:Int)(v5 v6 v8:Value)(a7:o_)(c7:Nat)(Ig:pr=(al l p).l)(cK:rs=(al l p).e)(ko:rg=(al l p).m)(hi7:bN w S a7 (al l p).u)
  (bV bS bT:Nat)(wv:w_)(hB:Nf w bV bS bT)(h:jq w bV bS bT (S5 ca l.length cc p nm ln pr rs rg v5 v6 (.slice a7 (al l p).u.length c7) v8) (al l p).u.length mD (fun _=>mE) (.slice none 0 0) [] wv) :
  c_ 28 #[.pointer (some (a_ bV 0))] wv (sZ l p w bV bS bT):=by
 have Fl:=hk.some_;have Ip:=hk.few;obtain⟨b7,o7,rfl,VN,qy⟩:=hi7.2 Fl;have ku:=hSB b7 VN;obtain⟨VR,Kn⟩:=iV hk.m.1;obtain⟨prn,OJ⟩:=iV hk.pars.1;have En:H_ (∀ a,a<(al l p).u.length->aK w b7 (o7+a * 5) (aR (al l p) a)):=fun a ha=>qy a ha;have HK:=af hk;have Iv:(al l p).m.toNat=VR:=by{rw[Kn];rfl};have Eq:VR<=250:=by have:=hk.m.2;omega
 have Lf:oR (al l p).m.toNat (al l p).u.length (iZ (al l p)):=pS (al l p) Fl hk.m.1;have Tc:oR (al l p).m.toNat (al l p).u.length mD:=⟨(fun i s hi=>by cases hi),(fun i hi=>by cases hi)⟩;have Sa:=hk.pars.2;have uY:=hk.e;rw[Kn]at Sa uY;rw[OJ]at Sa uY;have hA:b_ wv (wv.alloc (.cells #[i_ 0,i_ 0,i_ 0] 36)):=r_.alloc n_ _;have h1:=h.below hA;have nI:H_ ((wv.alloc (.cells #[i_ 0,i_ 0,i_ 0] 36)).rowIs wv.heap.size 36 3 (fun _=>i_ 0)):=⟨_,Go.Deep.blk_alloc_new _ _,rfl,EI rfl rfl rfl⟩;have kk:∀ j,j<11->wv.cell? (a_ bV j)=some (S5 ca l.length cc p nm ln pr rs rg v5 v6 (s_ b7 o7 (al l p).u.length c7) v8 j):=fun j hj=>by
  rw[h.box.cell (i:=j) (by omega)];unfold Xy;rw[zcb (by omega),zcb (by omega)]
 have k2:wv.cell? (a_ bV 2)=some (.string nm):=kk 2 (by omega);have k3:wv.cell? (a_ bV 3)=some (i_ ln):=kk 3 (by omega);have k4:wv.cell? (a_ bV 4)=some (i_ pr):=kk 4 (by omega);have k5:wv.cell? (a_ bV 5)=some (.bool rs):=kk 5 (by omega);have k6:wv.cell? (a_ bV 6)=some (i_ rg):=kk 6 (by omega);have k7:wv.cell? (a_ bV 7)=some v5:=kk 7 (by omega);have k8:wv.cell? (a_ bV 8)=some v6:=kk 8 (by omega);have k9:wv.cell? (a_ bV 9)=some (s_ b7 o7 (al l p).u.length c7):=kk 9 (by omega);have tq:wv.cell? (a_ bV 10)=some v8:=kk 10 (by omega);have lV:=h.box.lt;rw[Ig,OJ]at k4;rw[ko,Kn]at k6;have FT:H_ (c_ 78 #[.agg #[.string nm,i_ ln,i_ (prn:Int),.bool rs,i_ (VR:Int),v5,v6,s_ b7 o7 (al l p).u.length c7,v8]] (wv.alloc (.cells #[i_ 0,i_ 0,i_ 0] 36)) (jU (dy (al l p)) (wv.alloc (.cells #[i_ 0,i_ 0,i_ 0] 36)))):=
  uK (al l p) nm ln prn VR rs v5 v6 (s_ b7 o7 (al l p).u.length c7) v8 _ OJ Kn cK.symm (by omega) (fun e=>by have:=uY (by rw[<-cK];exact e);omega) Eq
 have PZ:=af h1;have Bm:=af hB;have Vv:=af Tc;have HMS:=af Lf;have Tg:=af hs;have Ye:=af hSB;have HUL:=af sP;have HG:=af hG;have pt:l.length<=1000000:=by{have:=hk.many;omega};have aai:H_ ((dy (al l p)).length=VR):=by show _=_;rw[ri,Iv]
 have abv:H_ (b_ w wv):=h.old;have hRR:=af Iv;obtain⟨HH,VO⟩:∃ HH,S5 ca l.length cc p nm ln pr rs rg v5 v6 (s_ b7 o7 (al l p).u.length c7) v8=HH:=⟨_,rfl⟩;have H0:H_ (HH 0=.slice ca l.length cc):=by show _=_;rw[<-VO];rfl
 have H1:H_ (HH 1=i_ (p:Int)):=by{show _=_;rw[<-VO];rfl};have H9:H_ (HH 9=s_ b7 o7 (al l p).u.length c7):=by show _=_;rw[<-VO];rfl
 rw[VO]at PZ;have rC:H_ (w.heap.size<=wv.heap.size):=abv.o.size;have UT:=h.size;clear h h1 hB Tc Lf hs hSB sP hG kk VO hi7 qy VN hk hA Ig cK ko Sa uY Iv Kn OJ;go_enter Tryz.func28,Tryz.ntmps28;go_wp2_with fail
 refine(aa FT).mono ?_;rintro e w2 ⟨tv,rfl,WY,bj⟩;obtain⟨va,vc,rfl⟩:=WY.lenV;have Iq:=af (PZ.o.below bj);have Bk:=af (nI.o.of_block (bj.block _ (nI.o.lt)));have Bh:=bj.size;have je:(wv.alloc (.cells #[i_ 0,i_ 0,i_ 0] 36)).heap.size=wv.heap.size+1:=by simp
 have RC:H_ (c_ 77 #[.pointer (some (a_ bV 0)),i_ 0,.slice va (dy (al l p)).length vc,.slice none 0 0] w2 (qM w bV bS bT HH (al l p).u.length mD (fun _=>mE) (.slice none 0 0) 0 ⟨dy (al l p),[]⟩ w2)):=
  nO w bV bS bT HH (al l p).u.length (al l p).m.toNat mD (fun _=>mE) (.slice none 0 0) [] 0 ⟨dy (al l p),[]⟩ va none vc 0 (fun b=>b<w2.heap.size) w2 Iq.o Bm.o Vv.o Fl Ip (by rw[hRR.o];exact Eq) WY.intsAt ⟨by simp,fun h=>zcc h (by simp)⟩ (fun b h=>h) (by show(dy (al l p)).length<=1000;rw[aai.o];omega) (by simp)
 clear k2 k3 k4 k5 k6 k7 k8 k9 tq lV FT PZ nI WY bj;go_wp2_with fail;refine(aa RC).mono ?_;rintro e w3 (⟨jO,rfl,bU⟩ | ⟨σ3,R3,Kv,l3,jO,rfl,hV3,hF3⟩);{exact zcc jO (by rw[pR rfl];simp)};have hσ:σ3=iZ (al l p):=by rw[pR rfl]at jO;exact(Option.some.inj jO).symm
 subst hσ;obtain⟨bF,oo⟩:∃ bF,wv.heap.size=bF:=⟨_,rfl⟩;rw[je]at Bh;clear je;rw[oo]at Bk rC Bh UT ⊢;have NN:jx bV bS (.slice none 0 0) bF:=⟨by have:=Bm.o.o4;omega,by have:=Bm.o.o5;omega,fun e=>by cases e⟩;have HVB4:=Bm.o.o4;have HVB5:=Bm.o.o5;have kG:H_ (Ka l p w bV bS bT bF HH (al l p).u.length (al l p).m.toNat (bz (al l p).u.length (iZ (al l p))) w3):=
  ⟨0,iZ (al l p),R3,Kv,l3,hV3,rfl,HMS,rfl,Bk.o.of_block (hF3.same bF Bk.o.lt NN.1 NN.2.1 NN.2.2),fun e=>by
   rcases hF3.new bF e with e | e
   ·cases e
   ·have:=Bk.o.lt;omega⟩
 clear jO hV3 hF3 RC Iq Bk NN;go_wp2;go_loopg [] (bz (al l p).u.length (iZ (al l p))) (fun gg wx=>Ka l p w bV bS bT bF HH (al l p).u.length (al l p).m.toNat gg wx);(case atStart=>exact kG.o);case round=>
  clear kG;obtain⟨q,σ,R,iv,li,HV,TF,Ik,HL,QG,jM⟩:=hrel;obtain⟨c12,WN,lV⟩:=G8 HV.o;obtain⟨ia,ic,rfl⟩:=HV.o.its.lenV;have aO:=HV.o.len Ik.o;by_cases Vg:0<li.length
  ·obtain⟨m,hm⟩:∃ m,li.length=m+1:=⟨li.length-1,by omega⟩;obtain⟨G,cap,eI,hG1,hG2,hGc⟩:=HV.o.its.at Vg;have jL:=HV.o.its.cap;injection eI with e1 e2 e3;subst e1;obtain⟨a,ea,BM⟩:=HV.o.least Ik.o hm;have cG:=hGc m (by omega);rw[ea]at cG;rw[hm]at c12 HV jL;have HVt:=af (HV.o.take Bm.o hm ea);have TK:H_ (c_ 80 #[.pointer (some (a_ bV 12))] wr (Js bV 12 G m ic (a:Int) wr)):=Kc bV 12 G m ic (a:Int) wr c12 WN cG jL (by omega);cases est:σ.st a with
   | none=>exact zcc est (Ik.o.b a BM.2.1).2
   | some s=>
    have ST:H_ (c_ 79 #[.pointer (some (a_ bV 0)),i_ (a:Int)] (wr.setCell (a_ bV 12) (s_ G 0 m ic)) (Kj w bV bS bT HH (al l p).u.length p l (aR (al l p) a) a ⟨σ.st,bY σ.b a false⟩ s (s_ G 0 m ic) (wr.setCell (a_ bV 12) (s_ G 0 m ic)))):=
     IJ w bV bS bT HH (al l p).u.length (al l p).m.toNat p l (aR (al l p) a) a ⟨σ.st,bY σ.b a false⟩ s R (s_ G 0 m ic) (li.take m) ca cc b7 o7 c7 S _ HVt.o Bm.o Ik.o.off est BM.1 Ip (by rw[hRR.o];exact Eq) (wH HK.o BM.1) HG.o Tg.o Ye.o HUL.o pt H0.o H1.o H9.o ku (En.o a BM.1)
    have Uc:=af BM;have Rq:=af est;have hGF:H_ (bF≠G):=fun e=>jM.o (by rw[e];rfl);have QP:H_ ((wr.setCell (a_ bV 12) (s_ G 0 m ic)).rowIs bF 36 3 (fun _=>i_ 0)):=QG.o.of_block (zbg wr (a_ bV 12) bF _ (by show bF≠bV;omega));have hmI:(0:Int)<(m:Int)+1:=by{omega};clear hGc cG ea BM est aO Vg e2 e3 jL;have HMM:=af hm;clear hm;go_wp2_with fail;refine(aa TK).mono ?_;rintro e w4 ⟨rfl,rfl⟩;go_wp2_with fail;refine(aa ST).mono ?_;rintro e w5 ⟨lu,QE⟩;have rF:=af (QP.o.of_block (QE bF QP.o.lt ⟨by omega,by omega,fun e=>hGF.o (Option.some.inj e).symm⟩));rcases lu with⟨c,kk,h1,rfl,pw⟩ | ⟨σ',R',yV,l',h1,rfl,hV5,A8⟩;{have vf:fV l (al l p) σ a=.inl (c,kk):=(EP Rq.o).trans h1;have iu:c≠0:=fun e=>by{subst e;exact rp Uc.o (by rw[Rq.o];simp) vf};have vj:H_ (∀ w',b_ w w'->sZ l p w bV bS bT (.returned (.agg #[i_ c,i_ (p:Int),i_ (kk:Int)])) w'):=fun w' hb=>⟨c,kk,by rw[zcb iu],⟨q,σ,TF.o,.inl ⟨a,Uc.o,vf⟩⟩,hb,fun e=>zcc e iu⟩;have BB:H_ (∀ o v0 v1 v2,b_ w (((((w5.setCell (a_ bF 0) v0).setCell (a_ bF 1) v1).setCell (a_ bF 2) v2)).alloc o)):=fun o v0 v1 v2=>(dB pw rC.o v0 v1 v2).alloc (by have:=pw.size;simp;omega) _;have Oy:(c != 0)=true:=by{simpa using iu};have hcb2:(c==0)=false:=by{simpa using iu};have r0:=rF.o.cell (i:=0) (by omega);have r1:=rF.o.cell (i:=1) (by omega);have r2:=rF.o.cell (i:=2) (by omega);have z0:=rF.o.frozen 0;have z1:=rF.o.frozen 1;have z2:=rF.o.frozen 2;have lf:=rF.o.lt;clear vf h1 pw QE rF TK ST c12 WN lV;go_wp2_with fail;exact zcd (v:=.agg #[i_ c,i_ (p:Int),i_ (kk:Int)]) (by simp[results,Tryz.results28,go_sem,r0,r1,r2,lf]) rfl (vj.o _ (BB.o _ _ _ _))}
    ·have vf:fV l (al l p) σ a=.inr σ':=(EP Rq.o).trans h1;obtain⟨mo,au⟩:=tU (jd (HK.o.u a Uc.o.1) Uc.o.1 HK.o.m.1) Ik.o Uc.o vf;have hA5:∀ o,b_ w5 (w5.alloc o):=fun o=>r_.alloc n_ o;have qG:H_ (∀ o,Ka l p w bV bS bT bF HH (al l p).u.length (al l p).m.toNat (bz (al l p).u.length σ') (w5.alloc o)):=fun o=>
      ⟨q+1,σ',R',yV,l',hV5.below (hA5 o),⟨σ,a,TF.o,Uc.o,vf⟩,mo,rfl,rF.o.of_block ((hA5 o).block _ rF.o.lt),fun e=>by
       rcases A8 bF e with e | e;{exact hGF.o (Option.some.inj e).symm}
       ·have:=QP.o.lt;omega⟩
     have HLT:H_ (bz (al l p).u.length σ'<gk):=by{show _<_;rw[<-HL.o];exact au};clear vf h1 QE hV5 A8 mo au hA5 rF TK ST c12 WN lV;go_wp2;go_roundg (bz (al l p).u.length σ');(case measure=>exact HLT.o);case rel=>exact qG.o _
  ·have Sl:li.length=0:=by omega
   have Bf:=HV.o.nodue Sl;have SR:H_ (c_ 81 #[.pointer (some (a_ bV 0))] wr (tB (al l p) σ wr)):=
    uG w bV bS bT HH l p q (al l p).m.toNat σ R _ li b7 o7 c7 wr HV.o HK.o TF.o Bf Ik.o HG.o H9.o ku En.o
   have HND:=af Bf;have xf:H_ (b_ w wr):=HV.o.old;rw[Sl]at c12;have HVV:=af HV.o;clear Bf Vg aO Sl HV;go_wp2_with fail;refine(aa SR).mono ?_;rintro e w5 ⟨n,f,rfl,fI,wd,pw⟩;have rF:=af (QG.o.of_block (pw.block _ QG.o.lt));have TZ:=af (HVV.o.below pw);have B5:H_ (b_ w w5):=xf.o.trans (pw.mono xf.o.size);cases f with
   | true=>
    obtain⟨g1,g2,g3,g4⟩:=wd rfl;have vj:H_ (∀ w',b_ w w'->sZ l p w bV bS bT (.returned (.agg #[i_ 14,i_ (p:Int),i_ (n:Int)])) w'):=fun w' hb=>⟨14,n,by rw[zcb (by decide)],⟨q,σ,TF.o,.inr (.inl ⟨HND.o,rfl,g1,g2,g3,g4⟩)⟩,hb,fun e=>zcc e (by decide)⟩;have FA:H_ (c_ 82 #[.pointer (some (a_ bV 0)),i_ 14,i_ (n:Int)] w5 fun e w'=>e=.returned (.agg #[i_ 14,i_ (p:Int),i_ (n:Int)])/\b_ w5 w'):=iQ bV p 14 n w5 ((TZ.o.box.cell (i:=1) (by omega)).trans (congrArg some H1.o));clear fI wd g1 g2 g3 g4 pw SR c12 WN lV;go_wp2_with fail;refine(aa FA).mono ?_;rintro e w6 ⟨rfl,tl⟩;have O9:=af (rF.o.of_block (tl.block _ rF.o.lt));have B6:H_ (b_ w w6):=B5.o.trans (tl.mono B5.o.size);have BB:H_ (∀ v0 v1 v2,b_ w (((w6.setCell (a_ bF 0) v0).setCell (a_ bF 1) v1).setCell (a_ bF 2) v2)):=fun v0 v1 v2=>dB B6.o rC.o v0 v1 v2;have r0:=O9.o.cell (i:=0) (by omega);have r1:=O9.o.cell (i:=1) (by omega);have r2:=O9.o.cell (i:=2) (by omega);have z0:=O9.o.frozen 0;have z1:=O9.o.frozen 1;have z2:=O9.o.frozen 2;have lf:=O9.o.lt;clear tl FA O9 rF;go_wp2_with fail;exact zcd (v:=.agg #[i_ 14,i_ (p:Int),i_ (n:Int)]) (by simp[results,Tryz.results28,go_sem,r0,r1,r2,lf]) rfl (vj.o _ (BB.o _ _ _))
   | false=>
    have vj:H_ (∀ v0 v1 v2,sZ l p w bV bS bT (.returned (.agg #[i_ 0,i_ 0,i_ 0])) (((w5.setCell (a_ bF 0) v0).setCell (a_ bF 1) v1).setCell (a_ bF 2) v2)):=fun v0 v1 v2=>by{have hb:=dB B5.o rC.o v0 v1 v2;refine⟨0,0,by rw[zca rfl];rfl,⟨q,σ,TF.o,.inr (.inr ⟨HND.o,rfl,rfl,fI rfl⟩)⟩,hb,fun _=>⟨q,σ,_,R,_,li,TF.o,HND.o,Ik.o,TZ.o.off (by have:=Bm.o.o4;omega) (by have:=Bm.o.o5;omega) rF.o hb (by simp) (fun k hk=>?_)⟩⟩;rw[zbg _ (a_ bF _) _ _ hk,zbg _ (a_ bF _) _ _ hk,zbg _ (a_ bF _) _ _ hk]};have r0:=rF.o.cell (i:=0) (by omega);have r1:=rF.o.cell (i:=1) (by omega);have r2:=rF.o.cell (i:=2) (by omega);have z0:=rF.o.frozen 0;have z1:=rF.o.frozen 1;have z2:=rF.o.frozen 2;have lf:=rF.o.lt;clear fI wd pw SR c12 WN lV rF;go_wp2_with fail;exact zcd (v:=.agg #[i_ 0,i_ 0,i_ 0]) (by simp[results,Tryz.results28,go_sem,r0,r1,r2,lf]) rfl (vj.o _ _ _)
theorem Cc (l:List aj)(p cc:Nat)(ca:o_)(S:Nat->Prop)(w:w_)(hs:am w S ca l)(hSB:∀ b,S b->b<w.heap.size)(hk:uU l p)(sP:∀ x,x∈l->x.s.length<=250)(hG:gd w)(nm:ByteArray)(ln pr:Int)(rs:Bool)(rg:Int)(v5 v6 v8:Value)(a7:o_)(c7:Nat)(Ig:pr=(al l p).l)(cK:rs=(al l p).e)(ko:rg=(al l p).m)(hi7:bN w S a7 (al l p).u)
  (bV bS bT:Nat)(wv:w_)(hB:Nf w bV bS bT)(h:jq w bV bS bT (S5 ca l.length cc p nm ln pr rs rg v5 v6 (.slice a7 (al l p).u.length c7) v8) (al l p).u.length mD (fun _=>mE) (.slice none 0 0) [] wv) :
  c_ 28 #[.pointer (some (a_ bV 0))] wv (II l p w):=
 (DU l p cc ca S w hs hSB hk sP hG nm ln pr rs rg v5 v6 v8 a7 c7 Ig cK ko hi7 bV bS bT wv hB h).mono (fun e w' ⟨x,n,h1,h2,h3,_⟩=>⟨x,n,h1,h2,h3⟩)
theorem MB {l:List aj}(h:cZ l 0 0 0):∀ x,x∈l->x.s.length<=250:=by
 have hP:eO l 0 0 0:=by{rcases h with⟨_,h⟩ | ⟨_,h,_⟩ | ⟨_,_,h,_⟩ | ⟨h1,_,_⟩;{exact zcc rfl h};{exact zcc h (by decide)};{exact zcc h (by decide)};{exact h1}};obtain⟨_,hh,_,_,_⟩:=uP hP;intro x hx;obtain⟨g,hg,rfl⟩:=zaf hx;have:=hh g hg;unfold ef al at this;rw[g_ hg]at this;simp only[Bool.and_eq_true,Option.getD_some,decide_eq_true_eq]at this;omega
theorem vq (a:o_)(l:List aj)(c:Nat)(S:Nat->Prop)(w:w_)(hs:am w S a l)(hB:∀ b,S b->b<w.heap.size)(hl:aH l<=1048576)(hG:gd w) :
  c_ 15 #[.agg #[.slice a l.length c]] w fun e w'=>∃ x f n,e=.returned (.agg #[i_ x,i_ f,i_ n])/\dM l x f n/\b_ w w':=by
 have pt:l.length<=1048576:=by unfold aH at hl;omega
 have qJ:=af hs;have gV:=af hB;have Mc:=af (zW w a l.length c);have Xt:H_ (c_ 26 #[.agg #[.slice a l.length c]] ((w.alloc (.cells #[.slice a l.length c] 28)).alloc (.cells #[i_ 0,i_ 0,i_ 0] 36)) fun e w'=>∃ x f n,e=.returned (.agg #[i_ x,i_ f,i_ n])/\cZ l x f n/\Below ((w.alloc (.cells #[.slice a l.length c] 28)).alloc (.cells #[i_ 0,i_ 0,i_ 0] 36)).heap.size ((w.alloc (.cells #[.slice a l.length c] 28)).alloc (.cells #[i_ 0,i_ 0,i_ 0] 36)) w'):=
  tS a l c S _ (hG.keep (aa Mc).old hG.pos) (hs.keep (aa Mc).old hB) (fun b h=>l_ (hB b h) (aa Mc).old.size) hl
 have HG:=af hG;clear hs hB hG;go_enter Tryz.func15,Tryz.ntmps15;go_wp2_with fail
 refine(aa Xt).mono ?_;rintro e w1 ⟨x,f,n,rfl,fX,ar⟩;have ze:=(aa Mc).below ar;have Wp:b_ w1 (w1.alloc (.cells #[i_ x,i_ f,i_ n] 36)):=r_.alloc n_ _;have Rp:=af (ze.below Wp);have kF:=af fX;have cK:=ze.res;have r0:=cK.cell (i:=0) (by omega);have r1:=cK.cell (i:=1) (by omega);have r2:=cK.cell (i:=2) (by omega);have z0:=cK.frozen 0;have z1:=cK.frozen 1;have z2:=cK.frozen 2;have oo:=cK.lt;have k0:=ze.code;have Ma:w.heap.size<w1.heap.size:=zbd _ _ k0;clear fX ar Wp cK Xt Mc;by_cases hx:x=0;(case neg=>have Yz:(x != 0)=true:=by{simpa using hx};have Vj:(x==0)=false:=by{simpa using hx};have BB:H_ (∀ v0 v1 v2,b_ w ((((w1.setCell (a_ (w.heap.size+1) 0) v0).setCell (a_ (w.heap.size+1) 1) v1).setCell (a_ (w.heap.size+1) 2) v2).alloc (.cells #[i_ x,i_ f,i_ n] 36))):=fun v0 v1 v2=>(dB ze.old (by omega) v0 v1 v2).alloc (by simp;omega) _;have SD:H_ (dM l x f n):=.inl ⟨kF.o,hx⟩;clear ze hx;go_wp2_with fail;exact zcd (v:=.agg #[i_ x,i_ f,i_ n]) (by simp[results,Tryz.results15,go_sem,r0,r1,r2,oo]) rfl ⟨x,f,n,rfl,SD.o,BB.o _ _ _⟩);subst hx;obtain⟨rfl,rfl⟩:=qs kF.o;clear ze;go_wp2_with fail;clear r0 r1 r2 z0 z1 z2 oo k0;go_loopg [15] l.length (fun gg i wr=>∃ q:Nat,q+gg=l.length/\i=i_ q/\Ta w a l.length c wr/\H_ (∀ g,g<q->fU l (al l g) 0 0));(case atStart=>exact⟨0,by omega,rfl,aa Rp,fun g h=>zcc h (bW _)⟩);case round=>
  clear Rp Ma;obtain⟨q,hq,rfl,hC,bK⟩:=hrel;have k0:=hC.code;have Ma:w.heap.size<wr.heap.size:=zbd _ _ k0;by_cases au:q<l.length
  ·have HC:=af hC;have zb:=oa kF.o au;obtain⟨nm,ln,pr,rs,rg,a5,a6,a7,a8,n5,n6,n8,c5,c6,c7,c8,⟨e1,e2,e3,i7⟩,hNV⟩:=sG a l c q S wr ((aa qJ).keep hC.old (aa gV)) (fun b h=>l_ (aa gV b h) hC.old.size) au zb.few;have NV:=af hNV;have VY:H_ (∀(bV bS:Nat) (wv:w_),Nf wr bV bS wv.heap.size->jq wr bV bS wv.heap.size (S5 a l.length c q nm ln pr rs rg (.slice a5 n5 c5) (.slice a6 n6 c6) (.slice a7 (al l q).u.length c7) (.slice a8 n8 c8)) (al l q).u.length mD (fun _=>mE) (.slice none 0 0) [] wv->c_ 28 #[.pointer (some (a_ bV 0))] wv (II l q wr)):=fun bV bS wv h1 h2=>
    Cc l q c a S wr ((aa qJ).keep hC.old (aa gV)) (fun b h=>l_ (aa gV b h) hC.old.size) zb (MB kF.o) (HG.o.keep hC.old HG.o.pos) nm ln pr rs rg (.slice a5 n5 c5) (.slice a6 n6 c6) (.slice a8 n8 c8) a7 c7 e1 e2 e3 i7 bV bS wv.heap.size wv h1 h2
   clear zb hNV e1 e2 e3 i7;clear hC;go_wp2_with fail;refine(aa NV).mono ?_;rintro e w2 ⟨bV,bS,rfl,Yt,hvf,bj⟩;have VC:=af (VY.o bV bS w2 Yt hvf);clear Yt hvf NV VY bj;go_wp2_with fail;refine(aa VC).mono ?_;rintro e w3 ⟨x,n,rfl,Ei,bU⟩;have Hs:=(aa HC).below bU;have NW:b_ w3 (w3.alloc (.cells #[i_ x,i_ (if x=0 then 0 else(q:Int)),i_ (n:Int)] 36)):=r_.alloc n_ _;have RZ:=af (Hs.below NW);have U7:=af Hs;have cK:=Hs.res;have BG:=af Ei;have r0:=cK.cell (i:=0) (by omega);have r1:=cK.cell (i:=1) (by omega);have r2:=cK.cell (i:=2) (by omega);have z0:=cK.frozen 0;have z1:=cK.frozen 1;have z2:=cK.frozen 2;have oo:=cK.lt;clear Ei bU Hs NW cK VC k0 Ma;by_cases hx:x=0;{subst hx;have hn:n=0:=by{obtain⟨k,σ,h1,h2⟩:=BG.o;rcases h2 with⟨b,h4,h5⟩ | ⟨_,h4,_⟩ | ⟨_,_,h4,_⟩;{have hk:=oa kF.o au;have hm:=xL (fun a ha=>jd (hk.u a ha) ha hk.m.1) (pS (al l q) hk.some_ hk.m.1) h1;exact zcc h5 (rp h4 (hm.b b h4.2.1).2)};{exact zcc h4 (by decide)};{exact h4}};subst hn;have NX:H_ (∀ g,g<q+1->fU l (al l g) 0 0):=fun g hg=>by{by_cases e:g=q;{subst e;exact BG.o};{exact bK.o g (by omega)}};rw[zca rfl]at RZ;clear r0 r1 r2 z0 z1 z2 oo;go_wp2;go_roundg (l.length-(q+1));(case measure=>omega);case rel=>exact⟨q+1,by omega,by go_num,aa RZ,NX⟩};{have Yz:(x != 0)=true:=by{simpa using hx};have Vj:(x==0)=false:=by{simpa using hx};rw[zcb hx]at RZ;have KY:(if x=0 then 0 else(q:Int))=(q:Int):=zcb hx;rw[KY];have BB:H_ (∀ v0 v1 v2,b_ w ((((w3.setCell (a_ (w.heap.size+1) 0) v0).setCell (a_ (w.heap.size+1) 1) v1).setCell (a_ (w.heap.size+1) 2) v2).alloc (.cells #[i_ x,i_ (q:Int),i_ (n:Int)] 36))):=fun v0 v1 v2=>(dB (aa U7).old (by omega) v0 v1 v2).alloc (by have:=(aa U7).old.size;simp;omega) _;have SD:H_ (dM l x (q:Int) (n:Int)):=.inr (.inl ⟨kF.o,hx,q,n,rfl,rfl,au,BG.o,bK.o⟩);clear hx KY;go_wp2_with fail;exact zcd (v:=.agg #[i_ x,i_ (q:Int),i_ (n:Int)]) (by simp[results,Tryz.results15,go_sem,r0,r1,r2,oo]) rfl ⟨x,q,n,rfl,SD.o,BB.o _ _ _⟩}
  {have fq:q=l.length:=by{omega};have cK:=hC.res;have r0:=cK.cell (i:=0) (by omega);have r1:=cK.cell (i:=1) (by omega);have r2:=cK.cell (i:=2) (by omega);have z0:=cK.frozen 0;have z1:=cK.frozen 1;have z2:=cK.frozen 2;have oo:=cK.lt;have BB:H_ (∀ v0 v1 v2,b_ w (((wr.setCell (a_ (w.heap.size+1) 0) v0).setCell (a_ (w.heap.size+1) 1) v1).setCell (a_ (w.heap.size+1) 2) v2)):=fun v0 v1 v2=>dB hC.old (by omega) v0 v1 v2;have SD:H_ (dM l 0 0 0):=.inr (.inr ⟨kF.o,rfl,rfl,rfl,fun g hg=>bK.o g (by omega)⟩);have Ru:¬((q:Int)<(l.length:Int)):=by{omega};clear cK fq hC;go_wp2_with fail;exact zcd (v:=.agg #[i_ 0,i_ 0,i_ 0]) (by simp[results,Tryz.results15,go_sem,r0,r1,r2,oo]) rfl ⟨0,0,0,rfl,SD.o,BB.o _ _ _⟩}
end Go.Proofs.YtcjfjflljdojlaaGreatDoor
