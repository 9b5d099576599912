import Derived.Test.YtcjfjflljdojlaaGreatDoorPart43
import Derived.Test.YtcjfjflljdojlaaGreatDoorPart49
import Derived.BigRegion
import Derived.Test.YtcjfjflljdojlaaGreatDoorPart44
import Derived.Test.YtcjfjflljdojlaaGreatDoorPart22
set_option linter.unusedSimpArgs false
set_option linter.unusedVariables false
set_option maxHeartbeats 8000000
set_option maxRecDepth 1000000
namespace Go.Proofs.YtcjfjflljdojlaaGreatDoor
open Go.RowKit
def S5 (ca:o_)(m cc p:Nat)(nm:ByteArray)(ln pr:Int)(rs:Bool)(rg:Int)(v5 v6 v7 v8:Value)(j:Nat):Value:=[Value.slice ca m cc,i_ (p:Int),.string nm,i_ ln,i_ pr,.bool rs,i_ rg,v5,v6,v7,v8][j]?.getD (.bool false)
def Qz (ca:o_)(m cc p:Nat)(nm:ByteArray)(ln pr:Int)(rs:Bool)(rg:Int)(v5 v6 v7 v8:Value)(N:Nat)(w:World)(e:Ending)(w':World):Prop:=
 ∃ bV bS,e=.returned (.pointer (some (a_ bV 0)))/\MB w bV bS w'.heap.size/\jo w bV bS w'.heap.size (S5 ca m cc p nm ln pr rs rg v5 v6 v7 v8) N mD (fun _=>mC) (.slice none 0 0) [] w'/\b_ w w'
theorem MX {w2:World}{b N:Nat}(h:w2.heap[b]? = some (.cells (madeCells #[.bool false,.slice none 0 0,.slice none 0 0] (N * 3)) 97 (0,0))):w2.rowIs b 97 (N * 3) (vS mD (fun _=>mC)):=by
 refine⟨_,h,size_madeCells _ _,fun j hj=>?_⟩;have e:j % 3=0\/j % 3=1\/j % 3=2:=by omega
 unfold vS;rcases e with e | e | e<;>simp[madeCells,hj,e,mD,mC]
theorem Qu {w w2:World}{bV bS N:Nat}{H:Nat->Value}(hS:w2.heap[bS]? = some (.cells (madeCells #[.bool false,.slice none 0 0,.slice none 0 0] (N * 3)) 97 (0,0)))(hV:w2.heap[bV]? = some (.cells #[H 0,H 1,H 2,H 3,H 4,H 5,H 6,H 7,H 8,H 9,H 10,.slice (some (a_ bS 0)) N N,.slice none 0 0] 121 (0,0)))(hb:b_ w w2):jo w bV bS w2.heap.size H N mD (fun _=>mC) (.slice none 0 0) [] w2 where
 old:=hb
 size:=n_
 box:=⟨_,hV,rfl,fun i hi=>by
  match i,hi with
  | 0,_=>rfl
  | 1,_=>rfl
  | 2,_=>rfl
  | 3,_=>rfl
  | 4,_=>rfl
  | 5,_=>rfl
  | 6,_=>rfl
  | 7,_=>rfl
  | 8,_=>rfl
  | 9,_=>rfl
  | 10,_=>rfl
  | 11,_=>rfl
  | 12,_=>rfl⟩
 sts:=MX hS
 own:=fun i s hi hs=>by cases hs
 none_:=fun i hi hn=>rfl
 inj:=fun i j hi hj ei=>⟨sY _,sY _⟩
 its:=World.ownsRow_nil _ _ _ _
 dis:=fun i hi=>⟨sY _,sY _⟩
 dec:=fun r s cM hs=>absurd hs (Nat.not_lt_zero _)
 due:=fun y=>⟨(fun h=>by cases h),(fun⟨i,_,h⟩=>by cases h)⟩
theorem sF (a:o_)(l:List ak)(c p:Nat)(S:Nat->Prop)(w:World)(hs:ao w S a l)(hB:∀ b,S b->b<w.heap.size)(hp:p<l.length)(hN:(am l p).ins.length<=6000) :
  ∃ nm ln pr rs rg a5 a6 a7 a8 n5 n6 n8 c5 c6 c7 c8,(pr=(am l p).params/\rs=(am l p).rest/\rg=(am l p).regs/\bQ w S a7 (am l p).ins) /\
  c_ 27 #[.agg #[.slice a l.length c],i_ (p:Int)] w (Qz a l.length c p nm ln pr rs rg (.slice a5 n5 c5) (.slice a6 n6 c6) (.slice a7 (am l p).ins.length c7) (.slice a8 n8 c8) (am l p).ins.length w):=by
 obtain⟨b,off,rfl,hb,vf⟩:=hs.2 (by omega);have PC:aU w S b (off+p * 9) (am l p):=vf p hp;have kO:b<w.heap.size:=hB b hb;obtain⟨a5,c5,e5,i5⟩:=PC.ups;obtain⟨a6,c6,e6,i6⟩:=PC.consts;obtain⟨a7,c7,e7,i7⟩:=PC.ins;obtain⟨a8,c8,e8,i8⟩:=PC.named;have e0:=PC.name;have e1:=PC.line;have e2:=PC.params;have e3:=PC.rest;have e4:=PC.regs;refine⟨(am l p).name,(am l p).line,(am l p).params,(am l p).rest,(am l p).regs,a5,a6,a7,a8,(am l p).ups.length,(am l p).consts.length,(am l p).named.length,c5,c6,c7,c8,⟨rfl,rfl,rfl,i7⟩,?_⟩;generalize (am l p).name=nm at *;generalize (am l p).line=ln at *;generalize (am l p).params=pr at *;generalize (am l p).rest=rs at *;generalize (am l p).regs=rg at *;generalize (am l p).ups.length=n5 at *;generalize (am l p).consts.length=n6 at *;generalize (am l p).ins.length=N at *;generalize (am l p).named.length=n8 at *;have rE:(p:Int)<l.length:=by omega
 have kH:=ew (P:=Tryz.prog) 64 97 _ 3 56 Tryz.underlying64 EH .i64 .i64 N (by omega) (by omega);obtain⟨f1,f2,f3⟩:b<w.heap.size+1/\b<w.heap.size+2/\b<w.heap.size+3:=by omega
 clear hs hB vf PC i5 i6 i7 i8 hb;go_enter Tryz.func27,Tryz.ntmps27;go_wp2_with fail
 go_region
 all_goals (go_wp2_with fail)
 all_goals
  go_ret;obtain⟨t1,t2,t3,t4,t5,t6⟩:=gp w (.cells #[.slice (some (a_ b off)) l.length c] 28) (.cells #[.string nm,i_ ln,i_ pr,.bool rs,i_ rg,.slice a5 n5 c5,.slice a6 n6 c6,.slice a7 N c7,.slice a8 n8 c8] 43) (.cells (madeCells #[.bool false,.slice none 0 0,.slice none 0 0] (N * 3)) 97) (.cells #[.slice (some (a_ b off)) l.length c,i_ (p:Int),.string nm,i_ ln,i_ pr,.bool rs,i_ rg,.slice a5 n5 c5,.slice a6 n6 c6,.slice a7 N c7,.slice a8 n8 c8,.slice (some (a_ (w.heap.size+1+1) 0)) N N,.slice none 0 0] 121);exact⟨_,_,rfl,⟨by omega,by omega,by omega,by rw[t6];omega,by rw[t6];omega⟩,Qu t3 t4 t5,t5⟩
def JP (l:List ak)(p:Nat)(w:World)(e:Ending)(w':World):Prop:=
 ∃(x:Int) (n:Nat),e=.returned (.agg #[.int .i64 x,.int .i64 (if x=0 then 0 else(p:Int)),.int .i64 (n:Int)])/\fU l (am l p) x n/\Below w.heap.size w w'
def UD (l:List ak)(p:Nat)(w:World)(bV bS bT:Nat)(x:Int)(w':World):Prop:=
 x=0->∃ k σ H R iv li,jw l (am l p) k σ/\mt σ (am l p).ins.length/\oV (am l p).regs.toNat (am l p).ins.length σ/\jo w bV bS bT H (am l p).ins.length σ R iv li w'
def sW (l:List ak)(p:Nat)(w:World)(bV bS bT:Nat)(e:Ending)(w':World):Prop:=
 ∃(x:Int) (n:Nat),e=.returned (.agg #[.int .i64 x,.int .i64 (if x=0 then 0 else(p:Int)),.int .i64 (n:Int)])/\fU l (am l p) x n/\Below w.heap.size w w'/\UD l p w bV bS bT x w'
theorem jo.off {w wr w2:World}{bV bS bT bF N:Nat}{H F:Nat->Value}{σ:dX}{R:Nat->Value×Value}{iv:Value}{li:List Int}(h:jo w bV bS bT H N σ R iv li wr)(hV:bV≠bF)(hS:bS≠bF)(hF:wr.rowIs bF 36 3 F)(hb:Below w.heap.size w w2)(hz:wr.heap.size<=w2.heap.size)(hk:∀ k,k≠bF->w2.heap[k]? = wr.heap[k]?):jo w bV bS bT H N σ R iv li w2:=by
 obtain⟨cs,hF,_⟩:=hF;have oI:∀{v:Value} {t:List Int},ar wr bT v t->ar w2 bT v t:=fun {v t} ho=>ho.sameBlock (fun k e=>hk k (fun e2=>by
  aj e2
  rcases ho.2 with⟨rfl,_⟩ | ⟨a,c,gi,rfl,_,k1,_⟩
  ·cases e
  obtain rfl:a=k:=by injection e
  rw[k1]at hF;injection hF with hF;injection hF with _ hF;exact absurd hF (by decide)))
 have oG:∀{v:Value} {t:List bg},cn wr bT v t->cn w2 bT v t:=fun {v t} ho=>ho.sameBlock (fun k e=>hk k (fun e2=>by
  aj e2
  rcases ho.2 with⟨rfl,_⟩ | ⟨a,c,gi,rfl,_,k1,_⟩
  ·cases e
  obtain rfl:a=k:=by injection e
  rw[k1]at hF;injection hF with hF;injection hF with _ hF;exact absurd hF (by decide)))
 exact { h with
  old:=hb
  size:=Nat.le_trans h.size hz
  box:=h.box.of_block (hk _ hV)
  sts:=h.sts.of_block (hk _ hS)
  own:=fun i s hi hs=>⟨oI (h.own i s hi hs).1,oG (h.own i s hi hs).2⟩
  its:=oI h.its }
def Ki (l:List ak)(p:Nat)(w:World)(bV bS bT bF:Nat)(H:Nat->Value)(N R0:Nat)(gg:Nat)(wx:World):Prop:=
 ∃(q:Nat) (σ:dX) (R:Nat->Value×Value) (iv:Value) (li:List Int),Hid (jo w bV bS bT H N σ R iv li wx)/\Hid (jw l (am l p) q σ)/\Hid (oV R0 N σ)/\Hid (bB N σ=gg)/\Hid (wx.rowIs bF 36 3 (fun _=>.int .i64 0))/\Hid (iv.ownBlock≠some bF)
theorem Gc {w:World}{bV bS bT:Nat}{H:Nat->Value}{N:Nat}{σ:dX}{R:Nat->Value×Value}{iv:Value}{li:List Int}{wr:World}(h:jo w bV bS bT H N σ R iv li wr):wr.cell? ⟨bV,12,none⟩=some iv/\wr.frozen? ⟨bV,12,none⟩=false/\bV<wr.heap.size:=⟨h.box.cell (i:=12) (by omega),h.box.frozen 12,h.box.lt⟩
theorem Da (l:List ak)(p cc:Nat)(ca:Option Addr)(S:Nat->Prop)(w:World)(hs:ao w S ca l)(hSB:∀ b,S b->b<w.heap.size)(hk:uD l p)(sT:∀ x,x∈l->x.ups.length<=250)(hG:gh w)(nm:ByteArray)(ln pr:Int)(rs:Bool)(rg:Int)(v5 v6 v8:Value)(a7:Option Addr)(c7:Nat)(Ix:pr=(am l p).params)(cM:rs=(am l p).rest)(ko:rg=(am l p).regs)(hi7:bQ w S a7 (am l p).ins)
  (bV bS bT:Nat)(wv:World)(hB:MB w bV bS bT)(h:jo w bV bS bT (S5 ca l.length cc p nm ln pr rs rg v5 v6 (.slice a7 (am l p).ins.length c7) v8) (am l p).ins.length mD (fun _=>mC) (.slice none 0 0) [] wv) :
  Calls Tryz.prog 28 #[.pointer (some ⟨bV,0,none⟩)] wv (sW l p w bV bS bT):=by
 have Fm:=hk.some_;have Iu:=hk.few;obtain⟨b7,o7,rfl,V9,qA⟩:=hi7.2 Fm;have kw:=hSB b7 V9;obtain⟨Xb,Lm⟩:=Int.eq_ofNat_of_zero_le hk.regs.1;obtain⟨prn,Oc⟩:=Int.eq_ofNat_of_zero_le hk.pars.1;have Ep:Hid (∀ a,a<(am l p).ins.length->aL w b7 (o7+a * 5) (aT (am l p) a)):=fun a ha=>qA a ha;have HK:=af hk;have Ir:(am l p).regs.toNat=Xb:=by rw[Lm];rfl
 have Eg:Xb<=250:=by have:=hk.regs.2;omega
 have Lv:oV (am l p).regs.toNat (am l p).ins.length (jb (am l p)):=pE (am l p) Fm hk.regs.1;have Uh:oV (am l p).regs.toNat (am l p).ins.length mD:=⟨(fun i s hi=>by cases hi),(fun i hi=>by cases hi)⟩;have Rt:=hk.pars.2;have uX:=hk.rest;rw[Lm]at Rt uX;rw[Oc]at Rt uX;have hA:Below wv.heap.size wv (wv.alloc (.cells #[.int .i64 0,.int .i64 0,.int .i64 0] 36)):=(Below.refl _ _).alloc (Nat.le_refl _) _;have h1:=h.below hA;have nK:Hid ((wv.alloc (.cells #[.int .i64 0,.int .i64 0,.int .i64 0] 36)).rowIs wv.heap.size 36 3 (fun _=>.int .i64 0)):=⟨_,Go.Deep.blk_alloc_new _ _,rfl,EO rfl rfl rfl⟩;have kk:∀ j,j<11->wv.cell? ⟨bV,j,none⟩=some (S5 ca l.length cc p nm ln pr rs rg v5 v6 (.slice (some ⟨b7,o7,none⟩) (am l p).ins.length c7) v8 j):=fun j hj=>by
  rw[h.box.cell (i:=j) (by omega)];unfold XA;rw[if_neg (by omega),if_neg (by omega)]
 have k2:wv.cell? ⟨bV,2,none⟩=some (.string nm):=kk 2 (by omega);have k3:wv.cell? ⟨bV,3,none⟩=some (.int .i64 ln):=kk 3 (by omega);have k4:wv.cell? ⟨bV,4,none⟩=some (.int .i64 pr):=kk 4 (by omega);have k5:wv.cell? ⟨bV,5,none⟩=some (.bool rs):=kk 5 (by omega);have k6:wv.cell? ⟨bV,6,none⟩=some (.int .i64 rg):=kk 6 (by omega);have k7:wv.cell? ⟨bV,7,none⟩=some v5:=kk 7 (by omega);have k8:wv.cell? ⟨bV,8,none⟩=some v6:=kk 8 (by omega);have k9:wv.cell? ⟨bV,9,none⟩=some (.slice (some ⟨b7,o7,none⟩) (am l p).ins.length c7):=kk 9 (by omega);have tm:wv.cell? ⟨bV,10,none⟩=some v8:=kk 10 (by omega);have lV:=h.box.lt;rw[Ix,Oc]at k4;rw[ko,Lm]at k6;have FT:Hid (Calls Tryz.prog 78 #[.agg #[.string nm,.int .i64 ln,.int .i64 (prn:Int),.bool rs,.int .i64 (Xb:Int),v5,v6,.slice (some ⟨b7,o7,none⟩) (am l p).ins.length c7,v8]] (wv.alloc (.cells #[.int .i64 0,.int .i64 0,.int .i64 0] 36)) (kf (dA (am l p)) (wv.alloc (.cells #[.int .i64 0,.int .i64 0,.int .i64 0] 36)))):=
  ux (am l p) nm ln prn Xb rs v5 v6 (.slice (some ⟨b7,o7,none⟩) (am l p).ins.length c7) v8 _ Oc Lm cM.symm (by omega) (fun e=>by have:=uX (by rw[<-cM];exact e);omega) Eg
 have Pi:=af h1;have A9:=af hB;have We:=af Uh;have HMS:=af Lv;have Uj:=af hs;have XV:=af hSB;have HUL:=af sT;have HG:=af hG;have py:l.length<=1000000:=by have:=hk.many;omega
 have aal:Hid ((dA (am l p)).length=Xb):=by show _=_;rw[qM,Ir]
 have Zb:Hid (Below w.heap.size w wv):=h.old;have hRR:=af Ir;obtain⟨HH,Vy⟩:∃ HH,S5 ca l.length cc p nm ln pr rs rg v5 v6 (.slice (some ⟨b7,o7,none⟩) (am l p).ins.length c7) v8=HH:=⟨_,rfl⟩;have H0:Hid (HH 0=.slice ca l.length cc):=by show _=_;rw[<-Vy];rfl
 have H1:Hid (HH 1=.int .i64 (p:Int)):=by show _=_;rw[<-Vy];rfl
 have H9:Hid (HH 9=.slice (some ⟨b7,o7,none⟩) (am l p).ins.length c7):=by show _=_;rw[<-Vy];rfl
 rw[Vy]at Pi;have rF:Hid (w.heap.size<=wv.heap.size):=Zb.out.size;have Xc:=h.size;clear h h1 hB Uh Lv hs hSB sT hG kk Vy hi7 qA V9 hk hA Ix cM ko Rt uX Ir Lm Oc;go_enter Tryz.func28,Tryz.ntmps28;go_wp2_with fail
 refine(aa FT).mono ?_;rintro e w2 ⟨tv,rfl,Vg,bo⟩;obtain⟨va,vc,rfl⟩:=Vg.lenV;have Im:=af (Pi.out.below bo);have Bj:=af (nK.out.of_block (bo.block _ (nK.out.lt)));have Br:=bo.size;have jf:(wv.alloc (.cells #[.int .i64 0,.int .i64 0,.int .i64 0] 36)).heap.size=wv.heap.size+1:=by simp
 have RC:Hid (Calls Tryz.prog 77 #[.pointer (some ⟨bV,0,none⟩),.int .i64 0,.slice va (dA (am l p)).length vc,.slice none 0 0] w2 (rh w bV bS bT HH (am l p).ins.length mD (fun _=>mC) (.slice none 0 0) 0 ⟨dA (am l p),[]⟩ w2)):=
  og w bV bS bT HH (am l p).ins.length (am l p).regs.toNat mD (fun _=>mC) (.slice none 0 0) [] 0 ⟨dA (am l p),[]⟩ va none vc 0 (fun b=>b<w2.heap.size) w2 Im.out A9.out We.out Fm Iu (by rw[hRR.out];exact Eg) Vg.intsAt ⟨by simp,fun h=>absurd h (by simp)⟩ (fun b h=>h) (by show(dA (am l p)).length<=1000;rw[aal.out];omega) (by simp)
 clear k2 k3 k4 k5 k6 k7 k8 k9 tm lV FT Pi nK Vg bo;go_wp2_with fail
 refine(aa RC).mono ?_;rintro e w3 (⟨jQ,rfl,bY⟩ | ⟨σ3,R3,KJ,l3,jQ,rfl,hV3,ZY⟩)
 ·exact absurd jQ (by rw[pK rfl];simp)
 have hσ:σ3=jb (am l p):=by
  rw[pK rfl]at jQ;exact(Option.some.inj jQ).symm
 aj hσ
 obtain⟨bF,oq⟩:∃ bF,wv.heap.size=bF:=⟨_,rfl⟩;rw[jf]at Br;clear jf;rw[oq]at Bj rF Br Xc ⊢;have Ol:jx bV bS (.slice none 0 0) bF:=⟨by have:=A9.out.o4;omega,by have:=A9.out.o5;omega,fun e=>by cases e⟩;have HVB4:=A9.out.o4;have HVB5:=A9.out.o5;have kF:Hid (Ki l p w bV bS bT bF HH (am l p).ins.length (am l p).regs.toNat (bB (am l p).ins.length (jb (am l p))) w3):=
  ⟨0,jb (am l p),R3,KJ,l3,hV3,rfl,HMS,rfl,Bj.out.of_block (ZY.same bF Bj.out.lt Ol.1 Ol.2.1 Ol.2.2),fun e=>by
   rcases ZY.new bF e with e | e
   ·cases e
   ·have:=Bj.out.lt;omega⟩
 clear jQ hV3 ZY RC Im Bj Ol;go_wp2_with fail
 go_loopg [] (bB (am l p).ins.length (jb (am l p))) (fun gg wx=>Ki l p w bV bS bT bF HH (am l p).ins.length (am l p).regs.toNat gg wx)
 case atStart=>exact kF.out
 case round=>
  clear kF;obtain⟨q,σ,R,iv,li,HV,Up,Iz,HL,QT,jO⟩:=hrel;obtain⟨c12,Xw,lV⟩:=Gc HV.out;obtain⟨ia,ic,rfl⟩:=HV.out.its.lenV;have aP:=HV.out.len Iz.out;by_cases Wy:0<li.length
  ·obtain⟨m,hm⟩:∃ m,li.length=m+1:=⟨li.length-1,by omega⟩;obtain⟨G,cap,eI,hG1,hG2,hGc⟩:=HV.out.its.at Wy;have jP:=HV.out.its.cap;injection eI with e1 e2 e3
   aj e1
   obtain⟨a,ea,BL⟩:=HV.out.least Iz.out hm;have cG:=hGc m (by omega);rw[ea]at cG;rw[hm]at c12 HV jP;have HVt:=af (HV.out.take A9.out hm ea);have TK:Hid (Calls Tryz.prog 80 #[.pointer (some ⟨bV,12,none⟩)] wr (I9 bV 12 G m ic (a:Int) wr)):=Jl bV 12 G m ic (a:Int) wr c12 Xw cG jP (by omega);cases est:σ.st a with
   | none=>exact absurd est (Iz.out.due a BL.2.1).2
   | some s=>
    have ST:Hid (Calls Tryz.prog 79 #[.pointer (some ⟨bV,0,none⟩),.int .i64 (a:Int)] (wr.setCell ⟨bV,12,none⟩ (.slice (some ⟨G,0,none⟩) m ic)) (JG w bV bS bT HH (am l p).ins.length p l (aT (am l p) a) a ⟨σ.st,bZ σ.due a false⟩ s (.slice (some ⟨G,0,none⟩) m ic) (wr.setCell ⟨bV,12,none⟩ (.slice (some ⟨G,0,none⟩) m ic)))):=
     Jn w bV bS bT HH (am l p).ins.length (am l p).regs.toNat p l (aT (am l p) a) a ⟨σ.st,bZ σ.due a false⟩ s R (.slice (some ⟨G,0,none⟩) m ic) (li.take m) ca cc b7 o7 c7 S _ HVt.out A9.out Iz.out.off est BL.1 Iu (by rw[hRR.out];exact Eg) (xe HK.out BL.1) HG.out Uj.out XV.out HUL.out py H0.out H1.out H9.out kw (Ep.out a BL.1)
    have Tk:=af BL;have RG:=af est;have hGF:Hid (bF≠G):=fun e=>jO.out (by rw[e];rfl);have QY:Hid ((wr.setCell ⟨bV,12,none⟩ (.slice (some ⟨G,0,none⟩) m ic)).rowIs bF 36 3 (fun _=>.int .i64 0)):=QT.out.of_block (heap_setCell_other wr ⟨bV,12,none⟩ bF _ (by show bF≠bV;omega));have hmI:(0:Int)<(m:Int)+1:=by omega
    clear hGc cG ea BL est aP Wy e2 e3 jP;have HMM:=af hm;clear hm;go_wp2_with fail
    refine(aa TK).mono ?_;rintro e w4 ⟨rfl,rfl⟩;go_wp2_with fail
    refine(aa ST).mono ?_;rintro e w5 ⟨lu,Sn⟩;have rz:=af (QY.out.of_block (Sn bF QY.out.lt ⟨by omega,by omega,fun e=>hGF.out (Option.some.inj e).symm⟩));rcases lu with⟨c,kk,h1,rfl,px⟩ | ⟨σ',R',yK,l',h1,rfl,hV5,Bh⟩
    ·have ve:fT l (am l p) σ a=.inl (c,kk):=(EV RG.out).trans h1;have iw:c≠0:=fun e=>by
      aj e
      exact qX Tk.out (by rw[RG.out];simp) ve
     have vl:Hid (∀ w',Below w.heap.size w w'->sW l p w bV bS bT (.returned (.agg #[.int .i64 c,.int .i64 (p:Int),.int .i64 (kk:Int)])) w'):=fun w' hb=>⟨c,kk,by rw[if_neg iw],⟨q,σ,Up.out,.inl ⟨a,Tk.out,ve⟩⟩,hb,fun e=>absurd e iw⟩;have BB:Hid (∀ o v0 v1 v2,Below w.heap.size w (((((w5.setCell ⟨bF,0,none⟩ v0).setCell ⟨bF,1,none⟩ v1).setCell ⟨bF,2,none⟩ v2)).alloc o)):=fun o v0 v1 v2=>(dC px rF.out v0 v1 v2).alloc (by have:=px.size;simp;omega) _;have Nz:(c != 0)=true:=by simpa using iw
     have hcb2:(c==0)=false:=by simpa using iw
     have r0:=rz.out.cell (i:=0) (by omega);have r1:=rz.out.cell (i:=1) (by omega);have r2:=rz.out.cell (i:=2) (by omega);have z0:=rz.out.frozen 0;have z1:=rz.out.frozen 1;have z2:=rz.out.frozen 2;have lf:=rz.out.lt;clear ve h1 px Sn rz TK ST c12 Xw lV;go_wp2_with fail
     exact bodyPost_ret (v:=.agg #[.int .i64 c,.int .i64 (p:Int),.int .i64 (kk:Int)]) (by simp[results,Tryz.results28,go_sem,r0,r1,r2,lf]) rfl (vl.out _ (BB.out _ _ _ _))
    ·have ve:fT l (am l p) σ a=.inr σ':=(EV RG.out).trans h1;obtain⟨mo,ax⟩:=uA (je (HK.out.ins a Tk.out.1) Tk.out.1 HK.out.regs.1) Iz.out Tk.out ve;have ZX:∀ o,Below w5.heap.size w5 (w5.alloc o):=fun o=>(Below.refl _ _).alloc (Nat.le_refl _) o;have qL:Hid (∀ o,Ki l p w bV bS bT bF HH (am l p).ins.length (am l p).regs.toNat (bB (am l p).ins.length σ') (w5.alloc o)):=fun o=>
      ⟨q+1,σ',R',yK,l',hV5.below (ZX o),⟨σ,a,Up.out,Tk.out,ve⟩,mo,rfl,rz.out.of_block ((ZX o).block _ rz.out.lt),fun e=>by
       rcases Bh bF e with e | e
       ·exact hGF.out (Option.some.inj e).symm
       ·have:=QY.out.lt;omega⟩
     have HLT:Hid (bB (am l p).ins.length σ'<gk):=by show _<_;rw[<-HL.out];exact ax
     clear ve h1 Sn hV5 Bh mo ax ZX rz TK ST c12 Xw lV;go_wp2_with fail
     go_roundg (bB (am l p).ins.length σ')
     case measure=>exact HLT.out
     case rel=>exact qL.out _
  ·have Sm:li.length=0:=by omega
   have Bo:=HV.out.nodue Sm;have SR:Hid (Calls Tryz.prog 81 #[.pointer (some ⟨bV,0,none⟩)] wr (tM (am l p) σ wr)):=
    uq w bV bS bT HH l p q (am l p).regs.toNat σ R _ li b7 o7 c7 wr HV.out HK.out Up.out Bo Iz.out HG.out H9.out kw Ep.out
   have HND:=af Bo;have xq:Hid (Below w.heap.size w wr):=HV.out.old;rw[Sm]at c12;have HVV:=af HV.out;clear Bo Wy aP Sm HV;go_wp2_with fail
   refine(aa SR).mono ?_;rintro e w5 ⟨n,f,rfl,fJ,wd,px⟩;have rz:=af (QT.out.of_block (px.block _ QT.out.lt));have Tt:=af (HVV.out.below px);have B5:Hid (Below w.heap.size w w5):=xq.out.trans (px.mono xq.out.size);cases f with
   | true=>
    obtain⟨g1,g2,g3,g4⟩:=wd rfl;have vl:Hid (∀ w',Below w.heap.size w w'->sW l p w bV bS bT (.returned (.agg #[.int .i64 14,.int .i64 (p:Int),.int .i64 (n:Int)])) w'):=fun w' hb=>⟨14,n,by rw[if_neg (by decide)],⟨q,σ,Up.out,.inr (.inl ⟨HND.out,rfl,g1,g2,g3,g4⟩)⟩,hb,fun e=>absurd e (by decide)⟩;have FA:Hid (Calls Tryz.prog 82 #[.pointer (some ⟨bV,0,none⟩),.int .i64 14,.int .i64 (n:Int)] w5 fun e w'=>e=.returned (.agg #[.int .i64 14,.int .i64 (p:Int),.int .i64 (n:Int)])/\Below w5.heap.size w5 w'):=iR bV p 14 n w5 (by rw[<-H1.out];exact Tt.out.box.cell (i:=1) (by omega));clear fJ wd g1 g2 g3 g4 px SR c12 Xw lV;go_wp2_with fail
    refine(aa FA).mono ?_;rintro e w6 ⟨rfl,tl⟩;have PY:=af (rz.out.of_block (tl.block _ rz.out.lt));have B6:Hid (Below w.heap.size w w6):=B5.out.trans (tl.mono B5.out.size);have BB:Hid (∀ v0 v1 v2,Below w.heap.size w (((w6.setCell ⟨bF,0,none⟩ v0).setCell ⟨bF,1,none⟩ v1).setCell ⟨bF,2,none⟩ v2)):=fun v0 v1 v2=>dC B6.out rF.out v0 v1 v2;have r0:=PY.out.cell (i:=0) (by omega);have r1:=PY.out.cell (i:=1) (by omega);have r2:=PY.out.cell (i:=2) (by omega);have z0:=PY.out.frozen 0;have z1:=PY.out.frozen 1;have z2:=PY.out.frozen 2;have lf:=PY.out.lt;clear tl FA PY rz;go_wp2_with fail
    exact bodyPost_ret (v:=.agg #[.int .i64 14,.int .i64 (p:Int),.int .i64 (n:Int)]) (by simp[results,Tryz.results28,go_sem,r0,r1,r2,lf]) rfl (vl.out _ (BB.out _ _ _))
   | false=>
    have vl:Hid (∀ v0 v1 v2,sW l p w bV bS bT (.returned (.agg #[.int .i64 0,.int .i64 0,.int .i64 0])) (((w5.setCell ⟨bF,0,none⟩ v0).setCell ⟨bF,1,none⟩ v1).setCell ⟨bF,2,none⟩ v2)):=fun v0 v1 v2=>by
     have hb:=dC B5.out rF.out v0 v1 v2;refine⟨0,0,by rw[if_pos rfl];rfl,⟨q,σ,Up.out,.inr (.inr ⟨HND.out,rfl,rfl,fJ rfl⟩)⟩,hb,fun _=>⟨q,σ,_,R,_,li,Up.out,HND.out,Iz.out,Tt.out.off (by have:=A9.out.o4;omega) (by have:=A9.out.o5;omega) rz.out hb (by simp) (fun k hk=>?_)⟩⟩;rw[heap_setCell_other _ ⟨bF,_,none⟩ _ _ hk,heap_setCell_other _ ⟨bF,_,none⟩ _ _ hk,heap_setCell_other _ ⟨bF,_,none⟩ _ _ hk]
    have r0:=rz.out.cell (i:=0) (by omega);have r1:=rz.out.cell (i:=1) (by omega);have r2:=rz.out.cell (i:=2) (by omega);have z0:=rz.out.frozen 0;have z1:=rz.out.frozen 1;have z2:=rz.out.frozen 2;have lf:=rz.out.lt;clear fJ wd px SR c12 Xw lV rz;go_wp2_with fail
    exact bodyPost_ret (v:=.agg #[.int .i64 0,.int .i64 0,.int .i64 0]) (by simp[results,Tryz.results28,go_sem,r0,r1,r2,lf]) rfl (vl.out _ _ _)
theorem Dj (l:List ak)(p cc:Nat)(ca:Option Addr)(S:Nat->Prop)(w:World)(hs:ao w S ca l)(hSB:∀ b,S b->b<w.heap.size)(hk:uD l p)(sT:∀ x,x∈l->x.ups.length<=250)(hG:gh w)(nm:ByteArray)(ln pr:Int)(rs:Bool)(rg:Int)(v5 v6 v8:Value)(a7:Option Addr)(c7:Nat)(Ix:pr=(am l p).params)(cM:rs=(am l p).rest)(ko:rg=(am l p).regs)(hi7:bQ w S a7 (am l p).ins)
  (bV bS bT:Nat)(wv:World)(hB:MB w bV bS bT)(h:jo w bV bS bT (S5 ca l.length cc p nm ln pr rs rg v5 v6 (.slice a7 (am l p).ins.length c7) v8) (am l p).ins.length mD (fun _=>mC) (.slice none 0 0) [] wv) :
  Calls Tryz.prog 28 #[.pointer (some ⟨bV,0,none⟩)] wv (JP l p w):=
 (Da l p cc ca S w hs hSB hk sT hG nm ln pr rs rg v5 v6 v8 a7 c7 Ix cM ko hi7 bV bS bT wv hB h).mono (fun e w' ⟨x,n,h1,h2,h3,_⟩=>⟨x,n,h1,h2,h3⟩)
theorem Ns {l:List ak}(h:da l 0 0 0):∀ x,x∈l->x.ups.length<=250:=by
 have hP:eO l 0 0 0:=by
  rcases h with⟨_,h⟩ | ⟨_,h,_⟩ | ⟨_,_,h,_⟩ | ⟨h1,_,_⟩
  ·exact absurd rfl h
  ·exact absurd h (by decide)
  ·exact absurd h (by decide)
  ·exact h1
 obtain⟨_,hh,_,_,_⟩:=uh hP;intro x hx;obtain⟨g,hg,rfl⟩:=List.getElem_of_mem hx;have:=hh g hg;unfold ee am at this;rw[g_ hg]at this;simp only[Bool.and_eq_true,Option.getD_some,decide_eq_true_eq]at this;omega
theorem vK (a:o_)(l:List ak)(c:Nat)(S:Nat->Prop)(w:World)(hs:ao w S a l)(hB:∀ b,S b->b<w.heap.size)(hl:aI l<=1048576)(hG:gh w) :
  c_ 15 #[.agg #[.slice a l.length c]] w fun e w'=>∃ x f n,e=.returned (.agg #[i_ x,i_ f,i_ n])/\dO l x f n/\b_ w w':=by
 have py:l.length<=1048576:=by unfold aI at hl;omega
 have qH:=af hs;have gW:=af hB;have LS:=af (zT w a l.length c);have Vf:Hid (c_ 26 #[.agg #[.slice a l.length c]] ((w.alloc (.cells #[.slice a l.length c] 28)).alloc (.cells #[i_ 0,i_ 0,i_ 0] 36)) fun e w'=>∃ x f n,e=.returned (.agg #[i_ x,i_ f,i_ n])/\da l x f n/\Below ((w.alloc (.cells #[.slice a l.length c] 28)).alloc (.cells #[i_ 0,i_ 0,i_ 0] 36)).heap.size ((w.alloc (.cells #[.slice a l.length c] 28)).alloc (.cells #[i_ 0,i_ 0,i_ 0] 36)) w'):=
  tV a l c S _ (hG.keep (aa LS).old hG.pos) (hs.keep (aa LS).old hB) (fun b h=>l_ (hB b h) (aa LS).old.size) hl
 have HG:=af hG;clear hs hB hG;go_enter Tryz.func15,Tryz.ntmps15;go_wp2_with fail
 refine(aa Vf).mono ?_;rintro e w1 ⟨x,f,n,rfl,fX,au⟩;have zh:=(aa LS).below au;have VK:b_ w1 (w1.alloc (.cells #[i_ x,i_ f,i_ n] 36)):=r_.alloc n_ _;have SU:=af (zh.below VK);have kG:=af fX;have cM:=zh.res;have r0:=cM.cell (i:=0) (by omega);have r1:=cM.cell (i:=1) (by omega);have r2:=cM.cell (i:=2) (by omega);have z0:=cM.frozen 0;have z1:=cM.frozen 1;have z2:=cM.frozen 2;have oq:=cM.lt;have k0:=zh.code;have Mb:w.heap.size<w1.heap.size:=World.block_lt_of_cell? _ _ k0;clear fX au VK cM Vf LS;by_cases hx:x=0
 case neg=>
  have YG:(x != 0)=true:=by simpa using hx
  have UU:(x==0)=false:=by simpa using hx
  have BB:Hid (∀ v0 v1 v2,b_ w ((((w1.setCell (a_ (w.heap.size+1) 0) v0).setCell (a_ (w.heap.size+1) 1) v1).setCell (a_ (w.heap.size+1) 2) v2).alloc (.cells #[i_ x,i_ f,i_ n] 36))):=fun v0 v1 v2=>(dC zh.old (by omega) v0 v1 v2).alloc (by simp;omega) _;have SD:Hid (dO l x f n):=.inl ⟨kG.out,hx⟩;clear zh hx;go_wp2_with fail
  exact bodyPost_ret (v:=.agg #[i_ x,i_ f,i_ n]) (by simp[results,Tryz.results15,go_sem,r0,r1,r2,oq]) rfl ⟨x,f,n,rfl,SD.out,BB.out _ _ _⟩
 aj hx
 obtain⟨rfl,rfl⟩:=qe kG.out;clear zh;go_wp2_with fail
 clear r0 r1 r2 z0 z1 z2 oq k0;go_loopg [15] l.length (fun gg i wr=>∃ q:Nat,q+gg=l.length/\i=i_ q/\Tc w a l.length c wr/\Hid (∀ g,g<q->fU l (am l g) 0 0))
 case atStart=>exact⟨0,by omega,rfl,aa SU,fun g h=>absurd h (Nat.not_lt_zero _)⟩
 case round=>
  clear SU Mb;obtain⟨q,hq,rfl,hC,bN⟩:=hrel;have k0:=hC.code;have Mb:w.heap.size<wr.heap.size:=World.block_lt_of_cell? _ _ k0;by_cases ax:q<l.length
  ·have HC:=af hC;have zd:=nX kG.out ax;obtain⟨nm,ln,pr,rs,rg,a5,a6,a7,a8,n5,n6,n8,c5,c6,c7,c8,⟨e1,e2,e3,i7⟩,hNV⟩:=sF a l c q S wr ((aa qH).keep hC.old (aa gW)) (fun b h=>l_ (aa gW b h) hC.old.size) ax zd.few;have NV:=af hNV;have VY:Hid (∀(bV bS:Nat) (wv:World),MB wr bV bS wv.heap.size->jo wr bV bS wv.heap.size (S5 a l.length c q nm ln pr rs rg (.slice a5 n5 c5) (.slice a6 n6 c6) (.slice a7 (am l q).ins.length c7) (.slice a8 n8 c8)) (am l q).ins.length mD (fun _=>mC) (.slice none 0 0) [] wv->c_ 28 #[.pointer (some (a_ bV 0))] wv (JP l q wr)):=fun bV bS wv h1 h2=>
    Dj l q c a S wr ((aa qH).keep hC.old (aa gW)) (fun b h=>l_ (aa gW b h) hC.old.size) zd (Ns kG.out) (HG.out.keep hC.old HG.out.pos) nm ln pr rs rg (.slice a5 n5 c5) (.slice a6 n6 c6) (.slice a8 n8 c8) a7 c7 e1 e2 e3 i7 bV bS wv.heap.size wv h1 h2
   clear zd hNV e1 e2 e3 i7;clear hC;go_wp2_with fail
   refine(aa NV).mono ?_;rintro e w2 ⟨bV,bS,rfl,YP,hvf,bo⟩;have VC:=af (VY.out bV bS w2 YP hvf);clear YP hvf NV VY bo;go_wp2_with fail
   refine(aa VC).mono ?_;rintro e w3 ⟨x,n,rfl,En,bY⟩;have Hs:=(aa HC).below bY;have Nx:b_ w3 (w3.alloc (.cells #[i_ x,i_ (if x=0 then 0 else(q:Int)),i_ (n:Int)] 36)):=r_.alloc n_ _;have SZ:=af (Hs.below Nx);have U8:=af Hs;have cM:=Hs.res;have BR:=af En;have r0:=cM.cell (i:=0) (by omega);have r1:=cM.cell (i:=1) (by omega);have r2:=cM.cell (i:=2) (by omega);have z0:=cM.frozen 0;have z1:=cM.frozen 1;have z2:=cM.frozen 2;have oq:=cM.lt;clear En bY Hs Nx cM VC k0 Mb;by_cases hx:x=0
   ·aj hx
    have hn:n=0:=by
     obtain⟨k,σ,h1,h2⟩:=BR.out;rcases h2 with⟨b,h4,h5⟩ | ⟨_,h4,_⟩ | ⟨_,_,h4,_⟩
     ·have hk:=nX kG.out ax;have hm:=yH (fun a ha=>je (hk.ins a ha) ha hk.regs.1) (pE (am l q) hk.some_ hk.regs.1) h1;exact absurd h5 (qX h4 (hm.due b h4.2.1).2)
     ·exact absurd h4 (by decide)
     ·exact h4
    aj hn
    have NX:Hid (∀ g,g<q+1->fU l (am l g) 0 0):=fun g hg=>by
     by_cases e:g=q
     ·aj e;exact BR.out
     ·exact bN.out g (by omega)
    rw[if_pos rfl]at SZ;clear r0 r1 r2 z0 z1 z2 oq;go_wp2_with fail
    go_roundg (l.length-(q+1))
    case measure=>omega
    case rel=>exact⟨q+1,by omega,by go_num,aa SZ,NX⟩
   ·have YG:(x != 0)=true:=by simpa using hx
    have UU:(x==0)=false:=by simpa using hx
    rw[if_neg hx]at SZ;have Lp:(if x=0 then 0 else(q:Int))=(q:Int):=if_neg hx;rw[Lp];have BB:Hid (∀ v0 v1 v2,b_ w ((((w3.setCell (a_ (w.heap.size+1) 0) v0).setCell (a_ (w.heap.size+1) 1) v1).setCell (a_ (w.heap.size+1) 2) v2).alloc (.cells #[i_ x,i_ (q:Int),i_ (n:Int)] 36))):=fun v0 v1 v2=>(dC (aa U8).old (by omega) v0 v1 v2).alloc (by have:=(aa U8).old.size;simp;omega) _;have SD:Hid (dO l x (q:Int) (n:Int)):=.inr (.inl ⟨kG.out,hx,q,n,rfl,rfl,ax,BR.out,bN.out⟩);clear hx Lp;go_wp2_with fail
    exact bodyPost_ret (v:=.agg #[i_ x,i_ (q:Int),i_ (n:Int)]) (by simp[results,Tryz.results15,go_sem,r0,r1,r2,oq]) rfl ⟨x,q,n,rfl,SD.out,BB.out _ _ _⟩
  ·have fw:q=l.length:=by omega
   have cM:=hC.res;have r0:=cM.cell (i:=0) (by omega);have r1:=cM.cell (i:=1) (by omega);have r2:=cM.cell (i:=2) (by omega);have z0:=cM.frozen 0;have z1:=cM.frozen 1;have z2:=cM.frozen 2;have oq:=cM.lt;have BB:Hid (∀ v0 v1 v2,b_ w (((wr.setCell (a_ (w.heap.size+1) 0) v0).setCell (a_ (w.heap.size+1) 1) v1).setCell (a_ (w.heap.size+1) 2) v2)):=fun v0 v1 v2=>dC hC.old (by omega) v0 v1 v2;have SD:Hid (dO l 0 0 0):=.inr (.inr ⟨kG.out,rfl,rfl,rfl,fun g hg=>bN.out g (by omega)⟩);have Sv:¬((q:Int)<(l.length:Int)):=by omega
   clear cM fw hC;go_wp2_with fail
   exact bodyPost_ret (v:=.agg #[i_ 0,i_ 0,i_ 0]) (by simp[results,Tryz.results15,go_sem,r0,r1,r2,oq]) rfl ⟨0,0,0,rfl,SD.out,BB.out _ _ _⟩
end Go.Proofs.YtcjfjflljdojlaaGreatDoor
