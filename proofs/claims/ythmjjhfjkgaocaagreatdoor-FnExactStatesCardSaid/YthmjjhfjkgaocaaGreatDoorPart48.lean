import Derived.Test.YthmjjhfjkgaocaaGreatDoorPart46
import Derived.Test.YthmjjhfjkgaocaaGreatDoorPart47
import Derived.BigRegion
import Derived.Deep.DeepCutAuto
import Derived.Deep.CutRange
set_option linter.unusedSimpArgs false
set_option linter.unusedVariables false
set_option maxHeartbeats 4000000
set_option maxRecDepth 1000000
namespace Go.Proofs.YthmjjhfjkgaocaaGreatDoor
open Go.RowKit
theorem walk_any (P:Nat→Prop)(E:Nat→List Nat)(w0:World)(B1 B2 bR bC bL bO bV N:Nat)(hB:RgB B1 B2 bR bC bL bO)(h12:B1≤B2)(hN6:N≤6000)(SC:StepsOk E w0 B1 bV N)(hE:∀ x,x<N→P x→∀ y,y∈E x→y<N∧P y)(hE2:∀ x,(E x).length≤2) :
  ∀(m:Nat) (T:Rg) (G:List Nat) (i:Nat) (pv:Value) (wr:World),unv T.came N≤m→RgW w0 B1 B2 bR bC bL bO (stepsV bV) N T pv wr→RInv E T G→RgI P N T→T.came i=0→i<N→P i→(∀ x,x∈T.path→Rch E x i) →
   Calls Tryz.prog 89 #[.pointer (some ⟨bR,0,none⟩),.int .i64 (i:Int)] wr (WlPost P E w0 B1 B2 bR bC bL bO bV N T G i pv wr)
 | 0,T,G,i,pv,wr,hm,h,hI,hJ,h0,hi,hpi,hr=>by
  have:=unv_pos h0 N hi
  omega
 | m+1,T,G,i,pv,wr,hm,h,hI,hJ,h0,hi,hpi,hr=>by
  have IH:=hide (walk_any P E w0 B1 B2 bR bC bL bO bV N hB h12 hN6 SC hE hE2 m)
  have hcnt:=hJ.cnt
  obtain⟨⟨k0,k1,k2,k3,k4,k5,k6,k7⟩,lR,lC,lL,lO⟩:=RgM.cells h
  have z5:=h.box.frozen 5
  have cC:=h.came.cell (i:=i) hi
  have zC:=h.came.frozen i
  have cL:=h.low.cell (i:=i) hi
  have zL:=h.low.frozen i
  have hiN:(i:Int)<N:=by omega
  have hc6:T.count≤6000:=by omega
  have M1:=RgM.setCount h hB (T.count+1)
  have M2:Hid (RgM w0 B1 B2 bR bC bL bO (stepsV bV) N (upd T.came i (T.count+1)) (upd T.low i (T.count+1)) (fun j=>decide (j∈T.path)) T.path (T.count+1) T.least T.found pv (((wr.setCell ⟨bR,5,none⟩ (.int .i64 ((T.count:Int)+1))).drew.setCell ⟨bC,i,none⟩ (.int .i64 ((T.count:Int)+1))).setCell ⟨bL,i,none⟩ (.int .i64 ((T.count:Int)+1)))):=((M1.below ((Below.refl _ _).drew) h12).setCame hB i (T.count+1)).setLow hB i (T.count+1)
  have M3:Hid (RgM w0 B1 B2 bR bC bL bO (stepsV bV) N (upd T.came i (T.count+1)) (upd T.low i (T.count+1)) (fun j=>decide (j∈T.path)) T.path (T.count+1) T.least T.found pv (((wr.setCell ⟨bR,5,none⟩ (.int .i64 ((T.count:Int)+1))).drew.setCell ⟨bL,i,none⟩ (.int .i64 ((T.count:Int)+1))).setCell ⟨bC,i,none⟩ (.int .i64 ((T.count:Int)+1)))):=((M1.below ((Below.refl _ _).drew) h12).setLow hB i (T.count+1)).setCame hB i (T.count+1)
  have F0:Hid (RgF bR bC bL bO pv pv wr (wr.setCell ⟨bR,5,none⟩ (.int .i64 ((T.count:Int)+1))).drew):=((RgF.refl bR bC bL bO pv wr).set bR 5 _ (.inl rfl)).below ((Below.refl _ _).drew)
  obtain⟨nrc,nrl,ncl⟩:¬(bC=bR)∧¬(bL=bR)∧¬(bL=bC):=⟨fun e=>hB.rc e.symm,fun e=>hB.rl e.symm,fun e=>hB.cl e.symm⟩
  have nrc':=hB.rc;have nrl':=hB.rl;have ncl':=hB.cl
  have HB:=hide hB
  have HSC:=hide SC
  have HI:=hide hI
  have HJ:=hide hJ
  have HR:=hide hr
  have HH0:=hide h0
  have hPi:=hide hpi
  have HM0:=hide hm
  have HE:=hide hE
  have HE2:=hide hE2
  clear h hI hJ hr hE hE2 SC hB M1 hm h0 hcnt hpi
  go_enter Tryz.func89,Tryz.ntmps89
  go_upto_region 1 with fail
  go_cut [1] (fun s1 wc=>s1=.int .i64 (i:Int)∧Hid (RgM w0 B1 B2 bR bC bL bO (stepsV bV) N (upd T.came i (T.count+1)) (upd T.low i (T.count+1)) (fun j=>decide (j∈T.path)) T.path (T.count+1) T.least T.found pv wc)∧Hid (RgF bR bC bL bO pv pv wr wc))
  case first=>
   go_region
   all_goals (go_wp2_with fail)
   all_goals go_meet
   all_goals first
    | exact⟨rfl,M2.out,(F0.out.set bC i _ (.inr (.inl rfl))).set bL i _ (.inr (.inr (.inl rfl)))⟩
    | exact⟨rfl,M3.out,(F0.out.set bL i _ (.inr (.inr (.inl rfl)))).set bC i _ (.inr (.inl rfl))⟩
  case rest=>
   obtain⟨rfl,HMc,HFc⟩:=hcut
   clear k0 k1 k2 k3 k4 k5 k6 k7 lR lC lL lO z5 cC zC cL zL M2 M3 F0
   obtain⟨pa,pc,rfl⟩:=HMc.out.pth.lenV
   have hnl:(natI T.path).length=T.path.length:=by simp[natI]
   have hpN:=path_len HI.out HJ.out
   have hsc:=HMc.out.size
   obtain⟨g1,q1,w3,r1,O1,gr1,at1,l1⟩:=push_run (.slice pa (natI T.path).length pc) (natI T.path) (i:Int) B2 wc.heap.size (wc.alloc (.cells #[.int .i64 (i:Int)] 3)) (HMc.out.pth.alloc _) (by simp;omega) (by omega) (Go.Deep.blk_alloc_new _ _)
   have O2:OwnI w3 B2 (.slice (some ⟨g1,0,none⟩) ((natI T.path).length+1) q1) (natI (T.path++[i])):=by
    have e:natI (T.path++[i])=natI T.path++[(i:Int)]:=by simp[natI]
    rw[e];exact O1
   have GB:=HMc.out.grownBlk gr1
   have MP:=HMc.out.push HB.out gr1 O2
   have FP:RgF bR bC bL bO (.slice pa (natI T.path).length pc) (.slice (some ⟨g1,0,none⟩) ((natI T.path).length+1) q1) wc w3:=RgF.push gr1 (fun k e=>by
    have e:g1=k:=Option.some.inj e
    subst e
    exact at1.imp_right (fun h=>by rw[h];simp))
   have MO:=MP.setOpen HB.out i true
   have MO2:RgW w0 B1 B2 bR bC bL bO (stepsV bV) N (T.push i) (.slice (some ⟨g1,0,none⟩) ((natI T.path).length+1) q1) ((w3.setCell ⟨bR,3,none⟩ (.slice (some ⟨g1,0,none⟩) ((natI T.path).length+1) q1)).setCell ⟨bO,i,none⟩ (.bool true)):=MO.opCongr (fun j=>by
    show upd (fun j=>decide (j∈T.path)) i true j=decide (j∈T.path++[i])
    unfold upd
    by_cases e:j=i
    ·rw[if_pos e];simp[e]
    ·rw[if_neg e];simp[e])
   have FO:=((HFc.out.trans FP).set bR 3 (.slice (some ⟨g1,0,none⟩) ((natI T.path).length+1) q1) (.inl rfl)).set bO i (.bool true) (.inr (.inr (.inr rfl)))
   have HMO:=hide MO2
   have HFO:=hide FO
   obtain⟨⟨k0,k1,k2,k3,k4,k5,k6,k7⟩,lR,lC,lL,lO⟩:=HMc.out.cells
   clear k0 k1 k2 k4 k5 k6 k7
   have bR2:=HB.out.r1.2
   have s3:w3.cell? ⟨bR,3,none⟩=some (.slice pa (natI T.path).length pc):=(World.cell?_of_block (a:=⟨bR,3,none⟩) (GB bR bR2)).trans k3
   have zs3:w3.frozen? ⟨bR,3,none⟩=false:=(World.frozen?_of_block (a:=⟨bR,3,none⟩) (GB bR bR2)).trans (HMc.out.box.frozen 3)
   have lR3:bR<w3.heap.size:=World.block_lt_of_cell? _ _ s3
   obtain⟨⟨p0,p1,p2,p3,p4,p5,p6,p7⟩,lRp,lCp,lLp,lOp⟩:=MP.cells
   have po:=MP.opn.cell (i:=i) hi
   have zo:=MP.opn.frozen i
   obtain⟨⟨j0,j1,j2,j3,j4,j5,j6,j7⟩,lRj,lCj,lLj,lOj⟩:=MO.cells
   have CS:Hid (Calls Tryz.prog 88 #[.pointer (some ⟨bV,0,none⟩),.int .i64 (i:Int)] ((w3.setCell ⟨bR,3,none⟩ (.slice (some ⟨g1,0,none⟩) ((natI T.path).length+1) q1)).setCell ⟨bO,i,none⟩ (.bool true)) (OwnRet (natI (E i)) ((w3.setCell ⟨bR,3,none⟩ (.slice (some ⟨g1,0,none⟩) ((natI T.path).length+1) q1)).setCell ⟨bO,i,none⟩ (.bool true)))):=HSC.out _ MO.old i hi
   have AR1:=hide r1
   have HNL:=hide hnl
   clear p0 p1 p2 p3 p5 p6 p7 j1 j2 j3 j4 j5 j6 j7 MO MO2 MP FO FP GB O1 O2 gr1 at1 r1 HMc HFc hnl
   unfold stepsV at j0
   generalize decide (i∈T.path)=ob at *
   go_wp2_with (at_builtin;refine wpList_append_run rfl _ _ 54 rfl _ _ rfl rfl (unhide AR1) ?_)
   refine(unhide CS).mono ?_
   rintro e w6 ⟨sv,rfl,hsv,hb6⟩
   obtain⟨sa,sc,rfl⟩:=hsv.lenV
   have ST:Hid (RgW w0 B1 B2 bR bC bL bO (stepsV bV) N (T.push i) (.slice (some ⟨g1,0,none⟩) ((natI T.path).length+1) q1) w6):=RgM.below HMO.out hb6 h12
   have SF:=hide (HFO.out.below hb6)
   have SO:Hid (OwnI w6 B2 (.slice sa (natI (E i)).length sc) (natI (E i))):=hsv.base_le HMO.out.size
   have SD:Hid (Dis (.slice sa (natI (E i)).length sc) (.slice (some ⟨g1,0,none⟩) ((natI T.path).length+1) q1)):=fun k e1 e2=>by
    have h1:=(hsv.lt' k e1).1
    have h2:=(HMO.out.pth.lt' k e2).2
    omega
   have SM:Hid (RMid E T G i 0 (T.push i)):=push_mid HI.out HH0.out HR.out
   have SI:Hid (RgI P N (T.push i)):=HJ.out.push hi hPi.out HH0.out
   have HLE:Hid ((natI (E i)).length=(E i).length):=by show _=_;simp[natI]
   have hle2:(natI (E i)).length≤2:=by rw[HLE.out];exact HE2.out i
   clear hsv hb6 CS HMO HFO s3 zs3 lR3 p4 lRp lCp lLp lOp po zo j0 lRj lCj lLj lOj AR1 k3 lR lC lL lO
   go_wp2_with fail
   go_loopg [4,57] (E i).length (fun gg s4 kk wx=>WlRel P E w0 B1 B2 bR bC bL bO bV N T G i (.slice pa (natI T.path).length pc) wr sa sc gg s4 kk wx)
   case atStart=>exact⟨0,_,_,by omega,rfl,by simp,ST,SM,SI,SF,SO,SD⟩
   case round=>
    clear ST SF SO SD SM SI
    obtain⟨q,T',pv',hq,rfl,rfl,HW,HMD,HIJ,HFF,HSO,HSD⟩:=hrel
    by_cases hlt:q<(E i).length
    ·exact wl_round P E w0 B1 B2 bR bC bL bO bV N T G i (.slice pa (natI T.path).length pc) _ sa sc HB h12 hN6 HE HI HJ HH0 hi hPi HLE hle2 (fun T2 G2 y pv wr h=>IH.out T2 G2 y pv wr (by have:=HM0.out;omega)) _ _ _ _ _ _ _ _ _ _ _ _ _ _ _ _ _ _ _ _ _ _ _ _ _ _ _ _ _ _ _ _ _ _ _ _ _ _ _ _ _ _ _ _ _ _ _ _ _ _ _ _ _ _ _ _ _ _ _ _ _ _ _ _ _ _ _ _ _ _ _ _ _ _ _ _ _ _ _ _ _ _ _ _ _ _ _ _ _ _ _ _ _ _ _ _ _ _ _ _ _ _ _ _ _ _ _ _ _ _ _ _ _ _ _ _ _ _ _ _ _ _ _ _ _ _ _ _ _ _ _ _ _ _ _ _ _ _ _ _ _ _ q T' pv' _ hq hlt HW HMD HIJ HFF HSO HSD _ _ _ (by assumption) (by assumption)
    ·have hqe:q=(E i).length:=by omega
     have hsf:Hid (decide (i∈(E i).take q)=true↔i∈E i):=by show _↔_;rw[hqe,List.take_length];simp
     have HMD2:Hid (RMid E T G i (E i).length T'):=by show RMid _ _ _ _ _ _;rw[←hqe];exact HMD.out
     have hge:¬((q:Int)<((natI (E i)).length:Int)):=by have:=HLE.out;omega
     clear hqe HMD hlt
     generalize decide (i∈(E i).take q)=sf at *
     go_wp2_with fail
     exact wl_tail P E w0 B1 B2 bR bC bL bO bV N T G i (.slice pa (natI T.path).length pc) _ sa sc HB h12 hN6 HE HI HJ HH0 hi hPi HLE hle2 _ _ _ _ _ _ _ _ _ _ _ _ _ _ _ _ _ _ _ _ _ _ _ _ _ _ _ _ _ _ _ _ _ _ _ _ _ _ _ _ _ _ _ _ _ _ _ _ _ _ _ _ _ _ _ _ _ _ _ _ _ _ _ _ _ _ _ _ _ _ _ _ _ _ _ _ _ _ _ _ _ _ _ _ _ _ _ _ _ _ _ _ _ _ _ _ _ _ _ _ _ _ _ _ _ _ _ _ _ _ _ _ _ _ _ _ _ _ _ _ _ _ _ _ _ _ _ _ _ _ _ _ _ _ _ _ _ _ _ _ _ _ T' pv' _ HW HMD2 HIJ HFF sf hsf _ (by assumption)
end Go.Proofs.YthmjjhfjkgaocaaGreatDoor
