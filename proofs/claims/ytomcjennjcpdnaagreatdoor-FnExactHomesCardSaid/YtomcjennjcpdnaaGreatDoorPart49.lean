import Derived.Test.YtomcjennjcpdnaaGreatDoorPart47
import Derived.Test.YtomcjennjcpdnaaGreatDoorPart37
import Derived.Test.YtomcjennjcpdnaaGreatDoorPart38
import Derived.Test.YtomcjennjcpdnaaGreatDoorPart39
import Derived.Test.YtomcjennjcpdnaaGreatDoorPart41
set_option linter.unusedSimpArgs false
set_option linter.unusedVariables false
set_option maxHeartbeats 16000000
namespace Go.Proofs.YtomcjennjcpdnaaGreatDoor
set_option maxRecDepth 100000
set_option maxHeartbeats 4000000
open Go.RowKit
attribute [local go_sem] run_store_float
theorem stm_6s {F:CF}{l:List FnD}{f:Nat}{S:Nat->Prop}(U:UOk F l f S)(H:ShOk l f F.nv)(hrf:∀ p,p<(fnD l f).nodes.length->(nd (fnD l f).nodes p).kind<20->refsOk F (nd (fnD l f).nodes p).refs)(i:Nat)(hi:i<(fnD l f).nodes.length)(hk:(nd (fnD l f).nodes i).kind=6)(IB:∀ k,k<i->(nd (fnD l f).nodes k).kind=1->BlkOk F (fnD l f).nodes k):StmOk F (fnD l f).nodes i:=by
 intro X w h B hb hm;have T:=H.tree;have hs:=H.shape i hi;have hl:=sh_kids2 hs hk (by decide);obtain⟨k0,k1,hlk,hq0,hq1,hW⟩:=kids_two T hi hl;have hk1:(nd (fnD l f).nodes k1).kind=1:=by have:=(sh_last T hi hs (by omega)).2;unfold kidI at this;rw[hlk]at this;simpa using this
 have IL:=IB k1 hq1 hk1;clear hk1 IB;have I0:=(one_many U H k0 (by omega)).1;rw[letLen_0 (by omega),Int.add_zero];have hF0:hF (fnD l f).nodes i X.top X.home=hF (fnD l f).nodes k1 X.top X.home:=by
  rw[hF_eq T hi ⟨fun e=>by omega,fun e=>by omega⟩];unfold stepF kidI;simp only[hk];simp only[hlk];rfl
 rw[hF0];clear hF0;have HU:=hide U;have HC:=hide h;have HB:=hide B;have HM:=hide hm;have HW:=hide hW;have HH:=hide H;have hn:=node_any U X i w h hi;have I0_:=hide I0;have IL_:=hide IL;clear h B U hW hb hm hs H hrf T I0 IL;have t0:=HB.out.t0;have t1:X.top<=2000000:=by have:=HB.out.t1;omega
 generalize en:nd (fnD l f).nodes i=n at *;have EN:=hide en.symm;clear en;go_enter Tryz.func55,Tryz.ntmps55;go_wp2_with fail
 refine hn.mono ?_;rintro e w1 ⟨a1,c1,a2,c2,rfl,r1,r2,r3,b1⟩;have C1:=HC.out.below b1;have r1':=r1.keep b1 (fun b hb=>(HU.out.far HC.out b hb).1);have r2':=r2.keep b1 (fun b hb=>(HU.out.far HC.out b hb).1);obtain⟨b2,o2,rfl⟩:=r2'.some_of (by omega);have N1:=NBox.new (p1:=c1) (p2:=c2) hk rfl hl HU.out C1 r1' r2';obtain⟨W1,hW1⟩:∃ W1:World,W1=w1.alloc (.cells #[.int .i64 6,.int .i64 n.line,.int .i64 n.op,.int .i64 n.num,.float .f64 n.flt,.string n.str,.slice a1 n.refs.length c1,.slice (some ⟨b2,o2,none⟩) 2 c2] 97):=⟨_,rfl⟩;have F1:Hid (Fr X.O X.O w W1):=by show Fr _ _ _ _;rw[hW1];exact(Fr.of_below b1).trans (Fr.refl.alloc _)
 have K1:Hid (Cur F X W1 S w1.heap.size n a1 c1 (some ⟨b2,o2,none⟩) c2 X.ms X.top X.home 0 X W1):=by show Cur _ _ _ _ _ _ _ _ _ _ _ _ _ _ _ _;rw[hW1];exact Cur.start HU.out (C1.alloc _) N1 HB.out.nk
 have HW1:=hide hW1;have CE:Hid (∀{ms t hh d Y w'},Cur F X W1 S w1.heap.size n a1 c1 (some ⟨b2,o2,none⟩) c2 ms t hh d Y w'->w'.cell? ⟨w1.heap.size,0,none⟩=some (.int .i64 6)/\w'.cell? ⟨w1.heap.size,1,none⟩=some (.int .i64 n.line)/\w'.cell? ⟨w1.heap.size,2,none⟩=some (.int .i64 n.op)/\w'.cell? ⟨w1.heap.size,3,none⟩=some (.int .i64 n.num)/\w'.cell? ⟨w1.heap.size,4,none⟩=some (.float .f64 n.flt)/\w'.cell? ⟨w1.heap.size,5,none⟩=some (.string n.str)/\w'.cell? ⟨w1.heap.size,6,none⟩=some (.slice a1 n.refs.length c1)/\w'.cell? ⟨w1.heap.size,7,none⟩=some (.slice (some ⟨b2,o2,none⟩) 2 c2)/\w'.cell? ⟨F.cb,11,none⟩=some (.int .i64 t)):=fun K=>by
  have e0:=K.nb.c0;have e6:=K.nb.c6;have e7:=K.nb.c7;have e11:=K.c.c11;rw[hk]at e0;rw[K.top]at e11;rw[hl]at e7;exact⟨e0,K.nb.c1,K.nb.c2,K.nb.c3,K.nb.c4,K.nb.c5,e6,e7,e11⟩
 unfold nodeV;rw[hk,hl];rw[hl]at r3;clear C1 r1 r2 b1 r1' r2' N1 hn hW1
 go_upto_region 1 with fail
 rw[<-HW1.out];obtain⟨e0,e1,e2,e3,e4,e5,e6,e7,e11⟩:=CE.out K1.out;have hcl:=K1.out.c.cbl;go_wp2_with fail
 refine(put_c F X _ _ _ _ _ _ K1.out.c (by have:=HB.out.n1;omega) K1.out.nk).mono ?_;rintro e w2 P;obtain⟨X2,rfl,K2,jj,gg⟩:=K1.out.put HU.out P;have K2:=hide K2;clear P jj gg e0 e1 e2 e3 e4 e5 e6 e7 e11;obtain⟨e0,e1,e2,e3,e4,e5,e6,e7,e11⟩:=CE.out K2.out;go_wp2_with fail
 refine(while8 HU.out X2 n a1 c1 b2 o2 c2 k0 k1 _ K2.out.c hk hlk K2.out.nb.refs K2.out.nb.kids I0_.out IL_.out (by rw[K2.out.ms,K2.out.top];exact HM.out) (K2.out.bud (c:=Wt (fnD l f).nodes k0+Wt (fnD l f).nodes k1+2) HB.out (by omega) (by have:=HW.out;omega) (by have:=HW.out;omega) (by have:=HW.out;omega))).mono ?_
 try rw[K2.out.top]
 try rw[K2.out.home]
 rintro e w3 P;obtain⟨X3,rfl,K3,jj,gg⟩:=K2.out.step HU.out P;have K3:=hide K3;clear P jj gg
 try clear e0 e1 e2 e3 e4 e5 e6 e7 e11
 go_wp2_with fail
 go_end0
 exact⟨_,rfl,K3.out.c,F1.out.trans K3.out.f,K3.out.top,K3.out.home,K3.out.ms,K3.out.n1,Nat.le_trans K3.out.n2 (by have:=HW.out;omega),K3.out.nk⟩
theorem stm_7 {F:CF}{l:List FnD}{f:Nat}{S:Nat->Prop}(U:UOk F l f S)(H:ShOk l f F.nv)(hrf:∀ p,p<(fnD l f).nodes.length->(nd (fnD l f).nodes p).kind<20->refsOk F (nd (fnD l f).nodes p).refs)(i:Nat)(hi:i<(fnD l f).nodes.length)(hk:(nd (fnD l f).nodes i).kind=7)(IB:∀ k,k<i->(nd (fnD l f).nodes k).kind=1->BlkOk F (fnD l f).nodes k):StmOk F (fnD l f).nodes i:=by
 intro X w h B hb hm;have T:=H.tree;have hs:=H.shape i hi;have hl:=sh_7 hs hk;have hr:=sh_refs1 hs hk (by decide);obtain⟨k0,k1,k2,k3,hlk,hq0,hq1,hq2,hq3,hW⟩:=kids_four T hi hl;have hR:=hrf i hi (by omega);obtain⟨v0,hlr,hv⟩:=refs_1 hR hr;have hk1:(nd (fnD l f).nodes k3).kind=1:=by have:=(sh_last T hi hs (by omega)).2;unfold kidI at this;rw[hlk]at this;simpa using this
 have IL:=IB k3 hq3 hk1;clear hk1 IB;have I0:=(one_many U H k0 (by omega)).1;have I1:=(one_many U H k1 (by omega)).1;have I2:=(one_many U H k2 (by omega)).1;rw[letLen_0 (by omega),Int.add_zero];have hF0:hF (fnD l f).nodes i X.top X.home=hF (fnD l f).nodes k3 (X.top+4) (updF X.home v0 (X.top+3)):=by
  rw[hF_eq T hi ⟨fun e=>by omega,fun e=>by omega⟩];unfold stepF kidI;simp only[hk];simp only[hlk,hlr];rw[show X.top+3+(([(v0:Int)]:List Int).length:Int)=X.top+4 by simp;omega];rfl
 rw[hF0];clear hF0;have HU:=hide U;have HC:=hide h;have HB:=hide B;have HM:=hide hm;have HW:=hide hW;have HH:=hide H;have hn:=node_any U X i w h hi;have I0_:=hide I0;have I1_:=hide I1;have I2_:=hide I2;have IL_:=hide IL;have HR_:=hide hR;clear h B U hW hb hm hs H hrf T I0 I1 I2 IL hR;have t0:=HB.out.t0;have t1:X.top<=2000000:=by have:=HB.out.t1;omega
 generalize en:nd (fnD l f).nodes i=n at *;have EN:=hide en.symm;clear en;go_enter Tryz.func55,Tryz.ntmps55;go_wp2_with fail
 refine hn.mono ?_;rintro e w1 ⟨a1,c1,a2,c2,rfl,r1,r2,r3,b1⟩;have C1:=HC.out.below b1;have r1':=r1.keep b1 (fun b hb=>(HU.out.far HC.out b hb).1);have r2':=r2.keep b1 (fun b hb=>(HU.out.far HC.out b hb).1);obtain⟨b2,o2,rfl⟩:=r2'.some_of (by omega);obtain⟨b3,o3,rfl⟩:=r1'.some_of (by omega);have N1:=NBox.new (p1:=c1) (p2:=c2) hk hr hl HU.out C1 r1' r2';obtain⟨W1,hW1⟩:∃ W1:World,W1=w1.alloc (.cells #[.int .i64 7,.int .i64 n.line,.int .i64 n.op,.int .i64 n.num,.float .f64 n.flt,.string n.str,.slice (some ⟨b3,o3,none⟩) 1 c1,.slice (some ⟨b2,o2,none⟩) 4 c2] 97):=⟨_,rfl⟩;have F1:Hid (Fr X.O X.O w W1):=by show Fr _ _ _ _;rw[hW1];exact(Fr.of_below b1).trans (Fr.refl.alloc _)
 have K1:Hid (Cur F X W1 S w1.heap.size n (some ⟨b3,o3,none⟩) c1 (some ⟨b2,o2,none⟩) c2 X.ms X.top X.home 0 X W1):=by show Cur _ _ _ _ _ _ _ _ _ _ _ _ _ _ _ _;rw[hW1];exact Cur.start HU.out (C1.alloc _) N1 HB.out.nk
 have HW1:=hide hW1;have CE:Hid (∀{ms t hh d Y w'},Cur F X W1 S w1.heap.size n (some ⟨b3,o3,none⟩) c1 (some ⟨b2,o2,none⟩) c2 ms t hh d Y w'->w'.cell? ⟨w1.heap.size,0,none⟩=some (.int .i64 7)/\w'.cell? ⟨w1.heap.size,1,none⟩=some (.int .i64 n.line)/\w'.cell? ⟨w1.heap.size,2,none⟩=some (.int .i64 n.op)/\w'.cell? ⟨w1.heap.size,3,none⟩=some (.int .i64 n.num)/\w'.cell? ⟨w1.heap.size,4,none⟩=some (.float .f64 n.flt)/\w'.cell? ⟨w1.heap.size,5,none⟩=some (.string n.str)/\w'.cell? ⟨w1.heap.size,6,none⟩=some (.slice (some ⟨b3,o3,none⟩) 1 c1)/\w'.cell? ⟨w1.heap.size,7,none⟩=some (.slice (some ⟨b2,o2,none⟩) 4 c2)/\w'.cell? ⟨F.cb,11,none⟩=some (.int .i64 t)):=fun K=>by
  have e0:=K.nb.c0;have e6:=K.nb.c6;have e7:=K.nb.c7;have e11:=K.c.c11;rw[hk]at e0;rw[K.top]at e11;rw[hr]at e6;rw[hl]at e7;exact⟨e0,K.nb.c1,K.nb.c2,K.nb.c3,K.nb.c4,K.nb.c5,e6,e7,e11⟩
 unfold nodeV;rw[hk,hr,hl];rw[hl]at r3;clear C1 r1 r2 b1 r1' r2' N1 hn hW1
 go_upto_region 1 with fail
 rw[<-HW1.out];obtain⟨e0,e1,e2,e3,e4,e5,e6,e7,e11⟩:=CE.out K1.out;have hcl:=K1.out.c.cbl;go_wp2_with fail
 refine(put_c F X _ _ _ _ _ _ K1.out.c (by have:=HB.out.n1;omega) K1.out.nk).mono ?_;rintro e w2 P;obtain⟨X2,rfl,K2,jj,gg⟩:=K1.out.put HU.out P;have K2:=hide K2;clear P jj gg e0 e1 e2 e3 e4 e5 e6 e7 e11;obtain⟨e0,e1,e2,e3,e4,e5,e6,e7,e11⟩:=CE.out K2.out;go_wp2_with fail
 refine(counted8 HU.out X2 n c1 b3 o3 b2 o2 c2 v0 k0 k1 k2 k3 _ K2.out.c hk hlk K2.out.nb.refs hlr K2.out.nb.kids I0_.out I1_.out I2_.out IL_.out hv HR_.out (by rw[K2.out.ms,K2.out.top];exact HM.out) (K2.out.bud (c:=Wt (fnD l f).nodes k0+Wt (fnD l f).nodes k1+Wt (fnD l f).nodes k2+Wt (fnD l f).nodes k3+4) HB.out (by omega) (by have:=HW.out;omega) (by have:=HW.out;omega) (by have:=HW.out;omega))).mono ?_
 try rw[K2.out.top]
 try rw[K2.out.home]
 rintro e w3 P;obtain⟨X3,rfl,K3,jj,gg⟩:=K2.out.step HU.out P;have K3:=hide K3;clear P jj gg
 try clear e0 e1 e2 e3 e4 e5 e6 e7 e11
 go_wp2_with fail
 go_end0
 exact⟨_,rfl,K3.out.c,F1.out.trans K3.out.f,K3.out.top,K3.out.home,K3.out.ms,K3.out.n1,Nat.le_trans K3.out.n2 (by have:=HW.out;omega),K3.out.nk⟩
theorem stm_8 {F:CF}{l:List FnD}{f:Nat}{S:Nat->Prop}(U:UOk F l f S)(H:ShOk l f F.nv)(hrf:∀ p,p<(fnD l f).nodes.length->(nd (fnD l f).nodes p).kind<20->refsOk F (nd (fnD l f).nodes p).refs)(i:Nat)(hi:i<(fnD l f).nodes.length)(hk:(nd (fnD l f).nodes i).kind=8)(IB:∀ k,k<i->(nd (fnD l f).nodes k).kind=1->BlkOk F (fnD l f).nodes k):StmOk F (fnD l f).nodes i:=by
 intro X w h B hb hm;have T:=H.tree;have hs:=H.shape i hi;have hl:=sh_kids2 hs hk (by decide);have hr0:=(sh_8 hs hk).1;obtain⟨k0,k1,hlk,hq0,hq1,hW⟩:=kids_two T hi hl;have hR:=hrf i hi (by omega);have hk1:(nd (fnD l f).nodes k1).kind=1:=by have:=(sh_last T hi hs (by omega)).2;unfold kidI at this;rw[hlk]at this;simpa using this
 have IL:=IB k1 hq1 hk1;clear hk1 IB;have I0:=(one_many U H k0 (by omega)).1;obtain⟨R,hr⟩:∃ R,(nd (fnD l f).nodes i).refs.length=R:=⟨_,rfl⟩;rw[letLen_0 (by omega),Int.add_zero];have hF0:hF (fnD l f).nodes i X.top X.home=hF (fnD l f).nodes k1 (X.top+3+R) (settleF X.home (nd (fnD l f).nodes i).refs (X.top+3)):=by
  rw[hF_eq T hi ⟨fun e=>by omega,fun e=>by omega⟩];unfold stepF kidI;simp only[hk];simp only[hlk,hr];rfl
 rw[hF0];clear hF0;have HU:=hide U;have HC:=hide h;have HB:=hide B;have HM:=hide hm;have HW:=hide hW;have HH:=hide H;have hn:=node_any U X i w h hi;have I0_:=hide I0;have IL_:=hide IL;have HR_:=hide hR;clear h B U hW hb hm hs H hrf T I0 IL hR;have t0:=HB.out.t0;have t1:X.top<=2000000:=by have:=HB.out.t1;omega
 generalize en:nd (fnD l f).nodes i=n at *;have EN:=hide en.symm;clear en;go_enter Tryz.func55,Tryz.ntmps55;go_wp2_with fail
 refine hn.mono ?_;rintro e w1 ⟨a1,c1,a2,c2,rfl,r1,r2,r3,b1⟩;have C1:=HC.out.below b1;have r1':=r1.keep b1 (fun b hb=>(HU.out.far HC.out b hb).1);have r2':=r2.keep b1 (fun b hb=>(HU.out.far HC.out b hb).1);obtain⟨b2,o2,rfl⟩:=r2'.some_of (by omega);obtain⟨b3,o3,rfl⟩:=r1'.some_of (by omega);have N1:=NBox.new (p1:=c1) (p2:=c2) hk hr hl HU.out C1 r1' r2';obtain⟨W1,hW1⟩:∃ W1:World,W1=w1.alloc (.cells #[.int .i64 8,.int .i64 n.line,.int .i64 n.op,.int .i64 n.num,.float .f64 n.flt,.string n.str,.slice (some ⟨b3,o3,none⟩) R c1,.slice (some ⟨b2,o2,none⟩) 2 c2] 97):=⟨_,rfl⟩;have F1:Hid (Fr X.O X.O w W1):=by show Fr _ _ _ _;rw[hW1];exact(Fr.of_below b1).trans (Fr.refl.alloc _)
 have K1:Hid (Cur F X W1 S w1.heap.size n (some ⟨b3,o3,none⟩) c1 (some ⟨b2,o2,none⟩) c2 X.ms X.top X.home 0 X W1):=by show Cur _ _ _ _ _ _ _ _ _ _ _ _ _ _ _ _;rw[hW1];exact Cur.start HU.out (C1.alloc _) N1 HB.out.nk
 have HW1:=hide hW1;have CE:Hid (∀{ms t hh d Y w'},Cur F X W1 S w1.heap.size n (some ⟨b3,o3,none⟩) c1 (some ⟨b2,o2,none⟩) c2 ms t hh d Y w'->w'.cell? ⟨w1.heap.size,0,none⟩=some (.int .i64 8)/\w'.cell? ⟨w1.heap.size,1,none⟩=some (.int .i64 n.line)/\w'.cell? ⟨w1.heap.size,2,none⟩=some (.int .i64 n.op)/\w'.cell? ⟨w1.heap.size,3,none⟩=some (.int .i64 n.num)/\w'.cell? ⟨w1.heap.size,4,none⟩=some (.float .f64 n.flt)/\w'.cell? ⟨w1.heap.size,5,none⟩=some (.string n.str)/\w'.cell? ⟨w1.heap.size,6,none⟩=some (.slice (some ⟨b3,o3,none⟩) R c1)/\w'.cell? ⟨w1.heap.size,7,none⟩=some (.slice (some ⟨b2,o2,none⟩) 2 c2)/\w'.cell? ⟨F.cb,11,none⟩=some (.int .i64 t)):=fun K=>by
  have e0:=K.nb.c0;have e6:=K.nb.c6;have e7:=K.nb.c7;have e11:=K.c.c11;rw[hk]at e0;rw[K.top]at e11;rw[hr]at e6;rw[hl]at e7;exact⟨e0,K.nb.c1,K.nb.c2,K.nb.c3,K.nb.c4,K.nb.c5,e6,e7,e11⟩
 unfold nodeV;rw[hk,hr,hl];rw[hl]at r3;clear C1 r1 r2 b1 r1' r2' N1 hn hW1
 go_upto_region 1 with fail
 rw[<-HW1.out];obtain⟨e0,e1,e2,e3,e4,e5,e6,e7,e11⟩:=CE.out K1.out;have hcl:=K1.out.c.cbl;go_wp2_with fail
 refine(put_c F X _ _ _ _ _ _ K1.out.c (by have:=HB.out.n1;omega) K1.out.nk).mono ?_;rintro e w2 P;obtain⟨X2,rfl,K2,jj,gg⟩:=K1.out.put HU.out P;have K2:=hide K2;clear P jj gg e0 e1 e2 e3 e4 e5 e6 e7 e11;obtain⟨e0,e1,e2,e3,e4,e5,e6,e7,e11⟩:=CE.out K2.out;go_wp2_with fail
 refine(each8 HU.out X2 n c1 b3 o3 b2 o2 c2 R k0 k1 _ K2.out.c hk hlk K2.out.nb.refs hr K2.out.nb.kids I0_.out IL_.out HR_.out (by rw[K2.out.ms,K2.out.top];exact HM.out) (K2.out.bud (c:=Wt (fnD l f).nodes k0+Wt (fnD l f).nodes k1+(R+3)) HB.out (by omega) (by have:=HW.out;omega) (by have:=HW.out;omega) (by have:=HW.out;omega))).mono ?_
 try rw[K2.out.top]
 try rw[K2.out.home]
 rintro e w3 P;obtain⟨X3,rfl,K3,jj,gg⟩:=K2.out.step HU.out P;have K3:=hide K3;clear P jj gg
 try clear e0 e1 e2 e3 e4 e5 e6 e7 e11
 go_wp2_with fail
 go_end0
 exact⟨_,rfl,K3.out.c,F1.out.trans K3.out.f,K3.out.top,K3.out.home,K3.out.ms,K3.out.n1,Nat.le_trans K3.out.n2 (by have:=HW.out;omega),K3.out.nk⟩
theorem stm_12s {F:CF}{l:List FnD}{f:Nat}{S:Nat->Prop}(U:UOk F l f S)(H:ShOk l f F.nv)(hrf:∀ p,p<(fnD l f).nodes.length->(nd (fnD l f).nodes p).kind<20->refsOk F (nd (fnD l f).nodes p).refs)(i:Nat)(hi:i<(fnD l f).nodes.length)(hk:(nd (fnD l f).nodes i).kind=12)(IB:∀ k,k<i->(nd (fnD l f).nodes k).kind=1->BlkOk F (fnD l f).nodes k):StmOk F (fnD l f).nodes i:=by
 intro X w h B hb hm;have T:=H.tree;have hs:=H.shape i hi;have hl:=sh_kids2 hs hk (by decide);have hr:=sh_12 hs hk;obtain⟨k0,k1,hlk,hq0,hq1,hW⟩:=kids_two T hi hl;have hR:=hrf i hi (by omega);obtain⟨v0,v1,hlr,hv0,hv1⟩:=refs_2 hR hr;have hbk:∀ k∈(nd (fnD l f).nodes i).kids,brkF (fnD l f).nodes k.toNat=true->hasLoop X.ms:=fun k hkm hbk=>hb (by
  rw[brkF_eq T hi,hk];simp only[Bool.or_eq_true,Bool.and_eq_true,List.any_eq_true];exact .inr ⟨by decide,k,hkm,hbk⟩)
 have hb0:=hbk k0 (by rw[hlk];simp);have hb1:=hbk k1 (by rw[hlk];simp);simp only[Int.toNat_natCast]at hb0 hb1;have hk0:(nd (fnD l f).nodes k0).kind=1:=by have:=sh_12k T hi hs hk;unfold kidI at this;rw[hlk]at this;simpa using this
 have I0:=IB k0 hq0 hk0;have hk1:(nd (fnD l f).nodes k1).kind=1:=by have:=(sh_last T hi hs (by omega)).2;unfold kidI at this;rw[hlk]at this;simpa using this
 have IL:=IB k1 hq1 hk1;clear hk1 IB;clear hbk hk0;rw[letLen_0 (by omega),Int.add_zero];have hF0:hF (fnD l f).nodes i X.top X.home=hF (fnD l f).nodes k1 (X.top+2) (updF (updF (hF (fnD l f).nodes k0 X.top X.home) v0 X.top) v1 (X.top+1)):=by
  rw[hF_eq T hi ⟨fun e=>by omega,fun e=>by omega⟩];unfold stepF kidI;simp only[hk];simp only[hlk,hlr];rw[show X.top+(([(v0:Int),(v1:Int)]:List Int).length:Int)=X.top+2 by simp];rfl
 rw[hF0];clear hF0;have HU:=hide U;have HC:=hide h;have HB:=hide B;have HM:=hide hm;have HW:=hide hW;have HH:=hide H;have hn:=node_any U X i w h hi;have I0_:=hide I0;have IL_:=hide IL;have HR_:=hide hR;have HB0_:=hide hb0;have HB1_:=hide hb1;clear h B U hW hb hm hs H hrf T I0 IL hR hb0 hb1;have t0:=HB.out.t0;have t1:X.top<=2000000:=by have:=HB.out.t1;omega
 generalize en:nd (fnD l f).nodes i=n at *;have EN:=hide en.symm;clear en;go_enter Tryz.func55,Tryz.ntmps55;go_wp2_with fail
 refine hn.mono ?_;rintro e w1 ⟨a1,c1,a2,c2,rfl,r1,r2,r3,b1⟩;have C1:=HC.out.below b1;have r1':=r1.keep b1 (fun b hb=>(HU.out.far HC.out b hb).1);have r2':=r2.keep b1 (fun b hb=>(HU.out.far HC.out b hb).1);obtain⟨b2,o2,rfl⟩:=r2'.some_of (by omega);obtain⟨b3,o3,rfl⟩:=r1'.some_of (by omega);have N1:=NBox.new (p1:=c1) (p2:=c2) hk hr hl HU.out C1 r1' r2';obtain⟨W1,hW1⟩:∃ W1:World,W1=w1.alloc (.cells #[.int .i64 12,.int .i64 n.line,.int .i64 n.op,.int .i64 n.num,.float .f64 n.flt,.string n.str,.slice (some ⟨b3,o3,none⟩) 2 c1,.slice (some ⟨b2,o2,none⟩) 2 c2] 97):=⟨_,rfl⟩;have F1:Hid (Fr X.O X.O w W1):=by show Fr _ _ _ _;rw[hW1];exact(Fr.of_below b1).trans (Fr.refl.alloc _)
 have K1:Hid (Cur F X W1 S w1.heap.size n (some ⟨b3,o3,none⟩) c1 (some ⟨b2,o2,none⟩) c2 X.ms X.top X.home 0 X W1):=by show Cur _ _ _ _ _ _ _ _ _ _ _ _ _ _ _ _;rw[hW1];exact Cur.start HU.out (C1.alloc _) N1 HB.out.nk
 have HW1:=hide hW1;have CE:Hid (∀{ms t hh d Y w'},Cur F X W1 S w1.heap.size n (some ⟨b3,o3,none⟩) c1 (some ⟨b2,o2,none⟩) c2 ms t hh d Y w'->w'.cell? ⟨w1.heap.size,0,none⟩=some (.int .i64 12)/\w'.cell? ⟨w1.heap.size,1,none⟩=some (.int .i64 n.line)/\w'.cell? ⟨w1.heap.size,2,none⟩=some (.int .i64 n.op)/\w'.cell? ⟨w1.heap.size,3,none⟩=some (.int .i64 n.num)/\w'.cell? ⟨w1.heap.size,4,none⟩=some (.float .f64 n.flt)/\w'.cell? ⟨w1.heap.size,5,none⟩=some (.string n.str)/\w'.cell? ⟨w1.heap.size,6,none⟩=some (.slice (some ⟨b3,o3,none⟩) 2 c1)/\w'.cell? ⟨w1.heap.size,7,none⟩=some (.slice (some ⟨b2,o2,none⟩) 2 c2)/\w'.cell? ⟨F.cb,11,none⟩=some (.int .i64 t)):=fun K=>by
  have e0:=K.nb.c0;have e6:=K.nb.c6;have e7:=K.nb.c7;have e11:=K.c.c11;rw[hk]at e0;rw[K.top]at e11;rw[hr]at e6;rw[hl]at e7;exact⟨e0,K.nb.c1,K.nb.c2,K.nb.c3,K.nb.c4,K.nb.c5,e6,e7,e11⟩
 unfold nodeV;rw[hk,hr,hl];rw[hl]at r3;clear C1 r1 r2 b1 r1' r2' N1 hn hW1
 go_upto_region 1 with fail
 rw[<-HW1.out];obtain⟨e0,e1,e2,e3,e4,e5,e6,e7,e11⟩:=CE.out K1.out;have hcl:=K1.out.c.cbl;go_wp2_with fail
 refine(put_c F X _ _ _ _ _ _ K1.out.c (by have:=HB.out.n1;omega) K1.out.nk).mono ?_;rintro e w2 P;obtain⟨X2,rfl,K2,jj,gg⟩:=K1.out.put HU.out P;have K2:=hide K2;clear P jj gg e0 e1 e2 e3 e4 e5 e6 e7 e11;obtain⟨e0,e1,e2,e3,e4,e5,e6,e7,e11⟩:=CE.out K2.out;go_wp2_with fail
 refine(try8 HU.out X2 n c1 b3 o3 b2 o2 c2 v0 v1 k0 k1 _ K2.out.c hk hlk K2.out.nb.refs hlr K2.out.nb.kids I0_.out IL_.out (fun hb=>by rw[K2.out.ms];exact HB0_.out hb) (fun hb=>by rw[K2.out.ms];exact HB1_.out hb) ⟨hv0,hv1⟩ HR_.out (by rw[K2.out.ms,K2.out.top];exact HM.out) (K2.out.bud (c:=Wt (fnD l f).nodes k0+Wt (fnD l f).nodes k1+4) HB.out (by omega) (by have:=HW.out;omega) (by have:=HW.out;omega) (by have:=HW.out;omega))).mono ?_
 try rw[K2.out.top]
 try rw[K2.out.home]
 rintro e w3 P;obtain⟨X3,rfl,K3,jj,gg⟩:=K2.out.step HU.out P;have K3:=hide K3;clear P jj gg
 try clear e0 e1 e2 e3 e4 e5 e6 e7 e11
 go_wp2_with fail
 go_end0
 exact⟨_,rfl,K3.out.c,F1.out.trans K3.out.f,K3.out.top,K3.out.home,K3.out.ms,K3.out.n1,Nat.le_trans K3.out.n2 (by have:=HW.out;omega),K3.out.nk⟩
end Go.Proofs.YtomcjennjcpdnaaGreatDoor
