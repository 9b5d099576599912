import Derived.Test.YtcjfjflljdojlaaGreatDoorPart46
import Derived.Test.YtcjfjflljdojlaaGreatDoorPart47
import Derived.BigRegion
import Derived.Deep.DeepCutAuto
import Derived.Deep.CutRange
set_option linter.unusedSimpArgs false
set_option linter.unusedVariables false
set_option maxHeartbeats 4000000
set_option maxRecDepth 1000000
namespace Go.Proofs.YtcjfjflljdojlaaGreatDoor
open Go.RowKit
theorem zV (P:Nat->Prop)(E:Nat->List Nat)(w0:World)(B1 B2 bR bC bL bO bV N:Nat)(hB:GK B1 B2 bR bC bL bO)(sP:B1<=B2)(Iu:N<=6000)(SC:ED E w0 B1 bV N)(hE:∀ x,x<N->P x->∀ y,y∈E x->y<N/\P y)(hE2:∀ x,(E x).length<=2) :
  ∀(m:Nat) (T:Rg) (G:List Nat) (i:Nat) (pv:Value) (wr:World),vQ T.came N<=m->za w0 B1 B2 bR bC bL bO (dU bV) N T pv wr->ks E T G->xA P N T->T.came i=0->i<N->P i->(∀ x,x∈T.path->mu E x i) ->
   c_ 127 #[.pointer (some (a_ bR 0)),i_ (i:Int)] wr (mL P E w0 B1 B2 bR bC bL bO bV N T G i pv wr)
 | 0,T,G,i,pv,wr,hm,h,hI,hJ,h0,hi,hpi,hr=>by
  have:=E6 h0 N hi;omega
 | m+1,T,G,i,pv,wr,hm,h,hI,hJ,h0,hi,hpi,hr=>by
  have IH:=af (zV P E w0 B1 B2 bR bC bL bO bV N hB sP Iu SC hE hE2 m);have acl:=hJ.cnt;obtain⟨⟨k0,k1,k2,k3,k4,k5,k6,k7⟩,lR,lC,lL,lO⟩:=iJ.cells h;have z5:=h.box.frozen 5;have cC:=h.came.cell (i:=i) hi;have zC:=h.came.frozen i;have cL:=h.low.cell (i:=i) hi;have zL:=h.low.frozen i;have hiN:(i:Int)<N:=by omega
  have hc6:T.count<=6000:=by omega
  have M1:=iJ.setCount h hB (T.count+1);have M2:Hid (iJ w0 B1 B2 bR bC bL bO (dU bV) N (bZ T.came i (T.count+1)) (bZ T.low i (T.count+1)) (fun j=>decide (j∈T.path)) T.path (T.count+1) T.least T.found pv (((wr.setCell (a_ bR 5) (i_ ((T.count:Int)+1))).drew.setCell (a_ bC i) (i_ ((T.count:Int)+1))).setCell (a_ bL i) (i_ ((T.count:Int)+1)))):=((M1.below (r_.drew) sP).setCame hB i (T.count+1)).setLow hB i (T.count+1);have M3:Hid (iJ w0 B1 B2 bR bC bL bO (dU bV) N (bZ T.came i (T.count+1)) (bZ T.low i (T.count+1)) (fun j=>decide (j∈T.path)) T.path (T.count+1) T.least T.found pv (((wr.setCell (a_ bR 5) (i_ ((T.count:Int)+1))).drew.setCell (a_ bL i) (i_ ((T.count:Int)+1))).setCell (a_ bC i) (i_ ((T.count:Int)+1)))):=((M1.below (r_.drew) sP).setLow hB i (T.count+1)).setCame hB i (T.count+1);have F0:Hid (mJ bR bC bL bO pv pv wr (wr.setCell (a_ bR 5) (i_ ((T.count:Int)+1))).drew):=((mJ.refl bR bC bL bO pv wr).set bR 5 _ (.inl rfl)).below (r_.drew);obtain⟨nrc,nrl,ncl⟩:¬(bC=bR)/\¬(bL=bR)/\¬(bL=bC):=⟨fun e=>hB.rc e.symm,fun e=>hB.rl e.symm,fun e=>hB.cl e.symm⟩;have nrc':=hB.rc;have nrl':=hB.rl;have ncl':=hB.cl;have HB:=af hB;have HSC:=af SC;have HI:=af hI;have HJ:=af hJ;have HR:=af hr;have KO:=af h0;have Tx:=af hpi;have We:=af hm;have HE:=af hE;have qB:=af hE2;clear h hI hJ hr hE hE2 SC hB M1 hm h0 acl hpi;go_enter Tryz.func127,Tryz.ntmps127
  go_upto_region 1 with fail
  go_cut [1] (fun s1 wc=>s1=i_ (i:Int)/\Hid (iJ w0 B1 B2 bR bC bL bO (dU bV) N (bZ T.came i (T.count+1)) (bZ T.low i (T.count+1)) (fun j=>decide (j∈T.path)) T.path (T.count+1) T.least T.found pv wc)/\Hid (mJ bR bC bL bO pv pv wr wc))
  case first=>
   go_region
   all_goals (go_wp2_with fail)
   all_goals go_meet
   all_goals first
    | exact⟨rfl,M2.out,(F0.out.set bC i _ (.inr (.inl rfl))).set bL i _ (.inr (.inr (.inl rfl)))⟩
    | exact⟨rfl,M3.out,(F0.out.set bL i _ (.inr (.inr (.inl rfl)))).set bC i _ (.inr (.inl rfl))⟩
  case rest=>
   obtain⟨rfl,PK,HFc⟩:=hcut;clear k0 k1 k2 k3 k4 k5 k6 k7 lR lC lL lO z5 cC zC cL zL M2 M3 F0;obtain⟨pa,pc,rfl⟩:=PK.out.pth.lenV;have Bp:(aH T.path).length=T.path.length:=by simp[aH]
   have hpN:=As HI.out HJ.out;have Zc:=PK.out.size;obtain⟨g1,q1,w3,r1,O1,Sh,Yk,l1⟩:=pT (.slice pa (aH T.path).length pc) (aH T.path) (i:Int) B2 wc.heap.size (wc.alloc (.cells #[i_ (i:Int)] 3)) (PK.out.pth.alloc _) (by simp;omega) (by omega) (Go.Deep.blk_alloc_new _ _);have O2:ar w3 B2 (.slice (some (a_ g1 0)) ((aH T.path).length+1) q1) (aH (T.path++[i])):=by
    have e:aH (T.path++[i])=aH T.path++[(i:Int)]:=by simp[aH]
    rw[e];exact O1
   have GB:=PK.out.grownBlk Sh;have MP:=PK.out.push HB.out Sh O2;have FP:mJ bR bC bL bO (.slice pa (aH T.path).length pc) (.slice (some (a_ g1 0)) ((aH T.path).length+1) q1) wc w3:=mJ.push Sh (fun k e=>by
    have e:g1=k:=Option.some.inj e
    aj e
    exact Yk.imp_right (fun h=>by rw[h];simp))
   have MO:=MP.setOpen HB.out i true;have MO2:za w0 B1 B2 bR bC bL bO (dU bV) N (T.push i) (.slice (some (a_ g1 0)) ((aH T.path).length+1) q1) ((w3.setCell (a_ bR 3) (.slice (some (a_ g1 0)) ((aH T.path).length+1) q1)).setCell (a_ bO i) (.bool true)):=MO.opCongr (fun j=>by
    show bZ (fun j=>decide (j∈T.path)) i true j=decide (j∈T.path++[i]);unfold bZ;by_cases e:j=i
    ·rw[if_pos e];simp[e]
    ·rw[if_neg e];simp[e])
   have FO:=((HFc.out.trans FP).set bR 3 (.slice (some (a_ g1 0)) ((aH T.path).length+1) q1) (.inl rfl)).set bO i (.bool true) (.inr (.inr (.inr rfl)));have Iz:=af MO2;have HFO:=af FO;obtain⟨⟨k0,k1,k2,k3,k4,k5,k6,k7⟩,lR,lC,lL,lO⟩:=PK.out.cells;clear k0 k1 k2 k4 k5 k6 k7;have bR2:=HB.out.r1.2;have s3:w3.cell? (a_ bR 3)=some (.slice pa (aH T.path).length pc):=(World.cell?_of_block (a:=(a_ bR 3)) (GB bR bR2)).trans k3;have zs3:w3.frozen? (a_ bR 3)=false:=(World.frozen?_of_block (a:=(a_ bR 3)) (GB bR bR2)).trans (PK.out.box.frozen 3);have lR3:bR<w3.heap.size:=World.block_lt_of_cell? _ _ s3;obtain⟨⟨p0,p1,p2,p3,p4,p5,p6,p7⟩,lRp,lCp,lLp,lOp⟩:=MP.cells;have po:=MP.opn.cell (i:=i) hi;have zo:=MP.opn.frozen i;obtain⟨⟨j0,j1,j2,j3,j4,j5,j6,j7⟩,lRj,lCj,lLj,lOj⟩:=MO.cells;have CS:Hid (c_ 126 #[.pointer (some (a_ bV 0)),i_ (i:Int)] ((w3.setCell (a_ bR 3) (.slice (some (a_ g1 0)) ((aH T.path).length+1) q1)).setCell (a_ bO i) (.bool true)) (kf (aH (E i)) ((w3.setCell (a_ bR 3) (.slice (some (a_ g1 0)) ((aH T.path).length+1) q1)).setCell (a_ bO i) (.bool true)))):=HSC.out _ MO.old i hi;have RP:=af r1;have HNL:=af Bp;clear p0 p1 p2 p3 p5 p6 p7 j1 j2 j3 j4 j5 j6 j7 MO MO2 MP FO FP GB O1 O2 Sh Yk r1 PK HFc Bp;unfold dU at j0;generalize decide (i∈T.path)=ob at *;go_wp2_with (at_builtin;refine bJ rfl _ _ 70 rfl _ _ rfl rfl (aa RP) ?_)
   refine(aa CS).mono ?_;rintro e w6 ⟨sv,rfl,RJ,tl⟩;obtain⟨sa,sc,rfl⟩:=RJ.lenV;have ST:Hid (za w0 B1 B2 bR bC bL bO (dU bV) N (T.push i) (.slice (some (a_ g1 0)) ((aH T.path).length+1) q1) w6):=iJ.below Iz.out tl sP;have SF:=af (HFO.out.below tl);have SO:Hid (ar w6 B2 (.slice sa (aH (E i)).length sc) (aH (E i))):=RJ.base_le Iz.out.size;have SD:Hid (qR (.slice sa (aH (E i)).length sc) (.slice (some (a_ g1 0)) ((aH T.path).length+1) q1)):=fun k e1 e2=>by
    have h1:=(RJ.lt' k e1).1;have h2:=(Iz.out.pth.lt' k e2).2;omega
   have SM:Hid (lU E T G i 0 (T.push i)):=J5 HI.out KO.out HR.out;have SI:Hid (xA P N (T.push i)):=HJ.out.push hi Tx.out KO.out;have Ii:Hid ((aH (E i)).length=(E i).length):=by show _=_;simp[aH]
   have Oa:(aH (E i)).length<=2:=by rw[Ii.out];exact qB.out i
   clear RJ tl CS Iz HFO s3 zs3 lR3 p4 lRp lCp lLp lOp po zo j0 lRj lCj lLj lOj RP k3 lR lC lL lO;go_wp2_with fail
   go_loopg [4,57] (E i).length (fun gg s4 kk wx=>zw P E w0 B1 B2 bR bC bL bO bV N T G i (.slice pa (aH T.path).length pc) wr sa sc gg s4 kk wx)
   case atStart=>exact⟨0,_,_,by omega,rfl,by simp,ST,SM,SI,SF,SO,SD⟩
   case round=>
    clear ST SF SO SD SM SI;obtain⟨q,T',iP,hq,rfl,rfl,HW,zg,Ex,Ug,Qb,PE⟩:=hrel;by_cases ax:q<(E i).length
    ·exact IO P E w0 B1 B2 bR bC bL bO bV N T G i (.slice pa (aH T.path).length pc) _ sa sc HB sP Iu HE HI HJ KO hi Tx Ii Oa (fun T2 G2 y pv wr h=>IH.out T2 G2 y pv wr (by have:=We.out;omega)) _ _ _ _ _ _ _ _ _ _ _ _ _ _ _ _ _ _ _ _ _ _ _ _ _ _ _ _ _ _ _ _ _ _ _ _ _ _ _ _ _ _ _ _ _ _ _ _ _ _ _ _ _ _ _ _ _ _ _ _ _ _ _ _ _ _ _ _ _ _ _ _ _ _ _ _ _ _ _ _ _ _ _ _ _ _ _ _ _ _ _ _ _ _ _ _ _ _ _ _ _ _ _ _ _ _ _ _ _ _ _ _ _ _ _ _ _ _ _ _ _ _ _ _ _ _ _ _ _ _ _ _ _ _ _ _ _ _ _ _ _ _ q T' iP _ hq ax HW zg Ex Ug Qb PE _ _ _ (by assumption) (by assumption)
    ·have mz:q=(E i).length:=by omega
     have hsf:Hid (decide (i∈(E i).take q)=true↔i∈E i):=by show _↔_;rw[mz,List.take_length];simp
     have Za:Hid (lU E T G i (E i).length T'):=by show lU _ _ _ _ _ _;rw[<-mz];exact zg.out
     have Sv:¬((q:Int)<((aH (E i)).length:Int)):=by have:=Ii.out;omega
     clear mz zg ax;generalize decide (i∈(E i).take q)=sf at *;go_wp2_with fail
     exact M7 P E w0 B1 B2 bR bC bL bO bV N T G i (.slice pa (aH T.path).length pc) _ sa sc HB sP Iu HE HI HJ KO hi Tx Ii Oa _ _ _ _ _ _ _ _ _ _ _ _ _ _ _ _ _ _ _ _ _ _ _ _ _ _ _ _ _ _ _ _ _ _ _ _ _ _ _ _ _ _ _ _ _ _ _ _ _ _ _ _ _ _ _ _ _ _ _ _ _ _ _ _ _ _ _ _ _ _ _ _ _ _ _ _ _ _ _ _ _ _ _ _ _ _ _ _ _ _ _ _ _ _ _ _ _ _ _ _ _ _ _ _ _ _ _ _ _ _ _ _ _ _ _ _ _ _ _ _ _ _ _ _ _ _ _ _ _ _ _ _ _ _ _ _ _ _ _ _ _ _ T' iP _ HW Za Ex Ug sf hsf _ (by assumption)
end Go.Proofs.YtcjfjflljdojlaaGreatDoor
