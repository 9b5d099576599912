import Derived.Test.YtomcjennjcpdnaaGreatDoorPart47
import Derived.Test.YtomcjennjcpdnaaGreatDoorPart34
import Derived.Test.YtomcjennjcpdnaaGreatDoorPart48
import Derived.Test.YtomcjennjcpdnaaGreatDoorPart49
import Derived.Test.YtomcjennjcpdnaaGreatDoorPart45
set_option linter.unusedSimpArgs false
set_option linter.unusedVariables false
set_option maxHeartbeats 16000000
namespace Go.Proofs.YtomcjennjcpdnaaGreatDoor
set_option maxRecDepth 100000
set_option maxHeartbeats 4000000
open Go.RowKit
attribute [local go_sem] run_store_float
theorem stm_9 {F:CF}{l:List FnD}{f:Nat}{S:Nat->Prop}(U:UOk F l f S)(H:ShOk l f F.nv)(hrf:∀ p,p<(fnD l f).nodes.length->(nd (fnD l f).nodes p).kind<20->refsOk F (nd (fnD l f).nodes p).refs)(i:Nat)(hi:i<(fnD l f).nodes.length)(hk:(nd (fnD l f).nodes i).kind=9):StmOk F (fnD l f).nodes i:=by
 intro X w h B hb hm;have T:=H.tree;have hs:=H.shape i hi;have hW:=(kids_all T hi).2.2;have hlp:hasLoop X.ms:=hb (by rw[brkF_eq T hi,hk];rfl);rw[letLen_0 (by omega),Int.add_zero];rw[hF_id T hi (by omega)];have HU:=hide U;have HC:=hide h;have HB:=hide B;have HM:=hide hm;have HW:=hide hW;have HH:=hide H;have hn:=node_any U X i w h hi;have HLP_:=hide hlp;clear h B U hW hb hm hs H hrf T hlp;have t0:=HB.out.t0;have t1:X.top<=2000000:=by have:=HB.out.t1;omega
 generalize en:nd (fnD l f).nodes i=n at *;have EN:=hide en.symm;clear en;go_enter Tryz.func55,Tryz.ntmps55;go_wp2_with fail
 refine hn.mono ?_;rintro e w1 ⟨a1,c1,a2,c2,rfl,r1,r2,r3,b1⟩;have C1:=HC.out.below b1;have r1':=r1.keep b1 (fun b hb=>(HU.out.far HC.out b hb).1);have r2':=r2.keep b1 (fun b hb=>(HU.out.far HC.out b hb).1);have N1:=NBox.new (p1:=c1) (p2:=c2) hk rfl rfl HU.out C1 r1' r2';obtain⟨W1,hW1⟩:∃ W1:World,W1=w1.alloc (.cells #[.int .i64 9,.int .i64 n.line,.int .i64 n.op,.int .i64 n.num,.float .f64 n.flt,.string n.str,.slice a1 n.refs.length c1,.slice a2 n.kids.length c2] 97):=⟨_,rfl⟩;have F1:Hid (Fr X.O X.O w W1):=by show Fr _ _ _ _;rw[hW1];exact(Fr.of_below b1).trans (Fr.refl.alloc _)
 have K1:Hid (Cur F X W1 S w1.heap.size n a1 c1 a2 c2 X.ms X.top X.home 0 X W1):=by show Cur _ _ _ _ _ _ _ _ _ _ _ _ _ _ _ _;rw[hW1];exact Cur.start HU.out (C1.alloc _) N1 HB.out.nk
 have HW1:=hide hW1;have CE:Hid (∀{ms t hh d Y w'},Cur F X W1 S w1.heap.size n a1 c1 a2 c2 ms t hh d Y w'->w'.cell? ⟨w1.heap.size,0,none⟩=some (.int .i64 9)/\w'.cell? ⟨w1.heap.size,1,none⟩=some (.int .i64 n.line)/\w'.cell? ⟨w1.heap.size,2,none⟩=some (.int .i64 n.op)/\w'.cell? ⟨w1.heap.size,3,none⟩=some (.int .i64 n.num)/\w'.cell? ⟨w1.heap.size,4,none⟩=some (.float .f64 n.flt)/\w'.cell? ⟨w1.heap.size,5,none⟩=some (.string n.str)/\w'.cell? ⟨w1.heap.size,6,none⟩=some (.slice a1 n.refs.length c1)/\w'.cell? ⟨w1.heap.size,7,none⟩=some (.slice a2 n.kids.length c2)/\w'.cell? ⟨F.cb,11,none⟩=some (.int .i64 t)):=fun K=>by
  have e0:=K.nb.c0;have e6:=K.nb.c6;have e7:=K.nb.c7;have e11:=K.c.c11;rw[hk]at e0;rw[K.top]at e11;exact⟨e0,K.nb.c1,K.nb.c2,K.nb.c3,K.nb.c4,K.nb.c5,e6,e7,e11⟩
 unfold nodeV;rw[hk];clear C1 r1 r2 b1 r1' r2' N1 hn hW1
 go_upto_region 1 with fail
 rw[<-HW1.out];obtain⟨e0,e1,e2,e3,e4,e5,e6,e7,e11⟩:=CE.out K1.out;have hcl:=K1.out.c.cbl;go_wp2_with fail
 refine(put_c F X _ _ _ _ _ _ K1.out.c (by have:=HB.out.n1;omega) K1.out.nk).mono ?_;rintro e w2 P;obtain⟨X2,rfl,K2,jj,gg⟩:=K1.out.put HU.out P;have K2:=hide K2;clear P jj gg e0 e1 e2 e3 e4 e5 e6 e7 e11;obtain⟨e0,e1,e2,e3,e4,e5,e6,e7,e11⟩:=CE.out K2.out;go_wp2_with fail
 refine(leave8 F X2 false _ K2.out.c (by rw[K2.out.ms];exact HLP_.out) (by rw[K2.out.ms,K2.out.top];exact HM.out) (by have:=K2.out.top;omega) (by have:=K2.out.top;omega) (by rw[K2.out.ms];have:=HB.out.m1;omega) (by have:=K2.out.n2;have:=HB.out.n1;omega) K2.out.nk).mono ?_
 try rw[K2.out.top]
 try rw[K2.out.home]
 rintro e w3 P;obtain⟨X3,rfl,K3,jj,gg⟩:=K2.out.step HU.out P;have K3:=hide K3;clear P jj gg
 try clear e0 e1 e2 e3 e4 e5 e6 e7 e11
 go_wp2_with fail
 go_end0
 exact⟨_,rfl,K3.out.c,F1.out.trans K3.out.f,K3.out.top,K3.out.home,K3.out.ms,K3.out.n1,Nat.le_trans K3.out.n2 (by have:=HW.out;omega),K3.out.nk⟩
theorem stm_10 {F:CF}{l:List FnD}{f:Nat}{S:Nat->Prop}(U:UOk F l f S)(H:ShOk l f F.nv)(hrf:∀ p,p<(fnD l f).nodes.length->(nd (fnD l f).nodes p).kind<20->refsOk F (nd (fnD l f).nodes p).refs)(i:Nat)(hi:i<(fnD l f).nodes.length)(hk:(nd (fnD l f).nodes i).kind=10):StmOk F (fnD l f).nodes i:=by
 intro X w h B hb hm;have T:=H.tree;have hs:=H.shape i hi;have hW:=(kids_all T hi).2.2;have hlp:hasLoop X.ms:=hb (by rw[brkF_eq T hi,hk];rfl);rw[letLen_0 (by omega),Int.add_zero];rw[hF_id T hi (by omega)];have HU:=hide U;have HC:=hide h;have HB:=hide B;have HM:=hide hm;have HW:=hide hW;have HH:=hide H;have hn:=node_any U X i w h hi;have HLP_:=hide hlp;clear h B U hW hb hm hs H hrf T hlp;have t0:=HB.out.t0;have t1:X.top<=2000000:=by have:=HB.out.t1;omega
 generalize en:nd (fnD l f).nodes i=n at *;have EN:=hide en.symm;clear en;go_enter Tryz.func55,Tryz.ntmps55;go_wp2_with fail
 refine hn.mono ?_;rintro e w1 ⟨a1,c1,a2,c2,rfl,r1,r2,r3,b1⟩;have C1:=HC.out.below b1;have r1':=r1.keep b1 (fun b hb=>(HU.out.far HC.out b hb).1);have r2':=r2.keep b1 (fun b hb=>(HU.out.far HC.out b hb).1);have N1:=NBox.new (p1:=c1) (p2:=c2) hk rfl rfl HU.out C1 r1' r2';obtain⟨W1,hW1⟩:∃ W1:World,W1=w1.alloc (.cells #[.int .i64 10,.int .i64 n.line,.int .i64 n.op,.int .i64 n.num,.float .f64 n.flt,.string n.str,.slice a1 n.refs.length c1,.slice a2 n.kids.length c2] 97):=⟨_,rfl⟩;have F1:Hid (Fr X.O X.O w W1):=by show Fr _ _ _ _;rw[hW1];exact(Fr.of_below b1).trans (Fr.refl.alloc _)
 have K1:Hid (Cur F X W1 S w1.heap.size n a1 c1 a2 c2 X.ms X.top X.home 0 X W1):=by show Cur _ _ _ _ _ _ _ _ _ _ _ _ _ _ _ _;rw[hW1];exact Cur.start HU.out (C1.alloc _) N1 HB.out.nk
 have HW1:=hide hW1;have CE:Hid (∀{ms t hh d Y w'},Cur F X W1 S w1.heap.size n a1 c1 a2 c2 ms t hh d Y w'->w'.cell? ⟨w1.heap.size,0,none⟩=some (.int .i64 10)/\w'.cell? ⟨w1.heap.size,1,none⟩=some (.int .i64 n.line)/\w'.cell? ⟨w1.heap.size,2,none⟩=some (.int .i64 n.op)/\w'.cell? ⟨w1.heap.size,3,none⟩=some (.int .i64 n.num)/\w'.cell? ⟨w1.heap.size,4,none⟩=some (.float .f64 n.flt)/\w'.cell? ⟨w1.heap.size,5,none⟩=some (.string n.str)/\w'.cell? ⟨w1.heap.size,6,none⟩=some (.slice a1 n.refs.length c1)/\w'.cell? ⟨w1.heap.size,7,none⟩=some (.slice a2 n.kids.length c2)/\w'.cell? ⟨F.cb,11,none⟩=some (.int .i64 t)):=fun K=>by
  have e0:=K.nb.c0;have e6:=K.nb.c6;have e7:=K.nb.c7;have e11:=K.c.c11;rw[hk]at e0;rw[K.top]at e11;exact⟨e0,K.nb.c1,K.nb.c2,K.nb.c3,K.nb.c4,K.nb.c5,e6,e7,e11⟩
 unfold nodeV;rw[hk];clear C1 r1 r2 b1 r1' r2' N1 hn hW1
 go_upto_region 1 with fail
 rw[<-HW1.out];obtain⟨e0,e1,e2,e3,e4,e5,e6,e7,e11⟩:=CE.out K1.out;have hcl:=K1.out.c.cbl;go_wp2_with fail
 refine(put_c F X _ _ _ _ _ _ K1.out.c (by have:=HB.out.n1;omega) K1.out.nk).mono ?_;rintro e w2 P;obtain⟨X2,rfl,K2,jj,gg⟩:=K1.out.put HU.out P;have K2:=hide K2;clear P jj gg e0 e1 e2 e3 e4 e5 e6 e7 e11;obtain⟨e0,e1,e2,e3,e4,e5,e6,e7,e11⟩:=CE.out K2.out;go_wp2_with fail
 refine(leave8 F X2 true _ K2.out.c (by rw[K2.out.ms];exact HLP_.out) (by rw[K2.out.ms,K2.out.top];exact HM.out) (by have:=K2.out.top;omega) (by have:=K2.out.top;omega) (by rw[K2.out.ms];have:=HB.out.m1;omega) (by have:=K2.out.n2;have:=HB.out.n1;omega) K2.out.nk).mono ?_
 try rw[K2.out.top]
 try rw[K2.out.home]
 rintro e w3 P;obtain⟨X3,rfl,K3,jj,gg⟩:=K2.out.step HU.out P;have K3:=hide K3;clear P jj gg
 try clear e0 e1 e2 e3 e4 e5 e6 e7 e11
 go_wp2_with fail
 go_end0
 exact⟨_,rfl,K3.out.c,F1.out.trans K3.out.f,K3.out.top,K3.out.home,K3.out.ms,K3.out.n1,Nat.le_trans K3.out.n2 (by have:=HW.out;omega),K3.out.nk⟩
theorem stm_11 {F:CF}{l:List FnD}{f:Nat}{S:Nat->Prop}(U:UOk F l f S)(H:ShOk l f F.nv)(hrf:∀ p,p<(fnD l f).nodes.length->(nd (fnD l f).nodes p).kind<20->refsOk F (nd (fnD l f).nodes p).refs)(i:Nat)(hi:i<(fnD l f).nodes.length)(hk:(nd (fnD l f).nodes i).kind=11):StmOk F (fnD l f).nodes i:=by
 intro X w h B hb hm;have T:=H.tree;have hs:=H.shape i hi;have hW:=(kids_all T hi).2.2;have hK:KidsOk F l f (nd (fnD l f).nodes i).kids:=⟨(kids_all T hi).2.1,fun k hq=>⟨((kids_all T hi).1 k hq).1,by have:=((kids_all T hi).1 k hq).2;omega⟩,fun k hq=>(one_many U H _ (by have:=((kids_all T hi).1 k hq).2;omega)).1,fun k hq hm=>(one_many U H _ (by have:=((kids_all T hi).1 k hq).2;omega)).2 hm⟩;rw[letLen_0 (by omega),Int.add_zero];rw[hF_id T hi (by omega)];have HU:=hide U;have HC:=hide h;have HB:=hide B;have HM:=hide hm;have HW:=hide hW;have HH:=hide H;have hn:=node_any U X i w h hi;have HK_:=hide hK;clear h B U hW hb hm hs H hrf T hK;have t0:=HB.out.t0;have t1:X.top<=2000000:=by have:=HB.out.t1;omega
 generalize en:nd (fnD l f).nodes i=n at *;have EN:=hide en.symm;clear en;go_enter Tryz.func55,Tryz.ntmps55;go_wp2_with fail
 refine hn.mono ?_;rintro e w1 ⟨a1,c1,a2,c2,rfl,r1,r2,r3,b1⟩;have C1:=HC.out.below b1;have r1':=r1.keep b1 (fun b hb=>(HU.out.far HC.out b hb).1);have r2':=r2.keep b1 (fun b hb=>(HU.out.far HC.out b hb).1);have N1:=NBox.new (p1:=c1) (p2:=c2) hk rfl rfl HU.out C1 r1' r2';obtain⟨W1,hW1⟩:∃ W1:World,W1=w1.alloc (.cells #[.int .i64 11,.int .i64 n.line,.int .i64 n.op,.int .i64 n.num,.float .f64 n.flt,.string n.str,.slice a1 n.refs.length c1,.slice a2 n.kids.length c2] 97):=⟨_,rfl⟩;have F1:Hid (Fr X.O X.O w W1):=by show Fr _ _ _ _;rw[hW1];exact(Fr.of_below b1).trans (Fr.refl.alloc _)
 have K1:Hid (Cur F X W1 S w1.heap.size n a1 c1 a2 c2 X.ms X.top X.home 0 X W1):=by show Cur _ _ _ _ _ _ _ _ _ _ _ _ _ _ _ _;rw[hW1];exact Cur.start HU.out (C1.alloc _) N1 HB.out.nk
 have HW1:=hide hW1;have CE:Hid (∀{ms t hh d Y w'},Cur F X W1 S w1.heap.size n a1 c1 a2 c2 ms t hh d Y w'->w'.cell? ⟨w1.heap.size,0,none⟩=some (.int .i64 11)/\w'.cell? ⟨w1.heap.size,1,none⟩=some (.int .i64 n.line)/\w'.cell? ⟨w1.heap.size,2,none⟩=some (.int .i64 n.op)/\w'.cell? ⟨w1.heap.size,3,none⟩=some (.int .i64 n.num)/\w'.cell? ⟨w1.heap.size,4,none⟩=some (.float .f64 n.flt)/\w'.cell? ⟨w1.heap.size,5,none⟩=some (.string n.str)/\w'.cell? ⟨w1.heap.size,6,none⟩=some (.slice a1 n.refs.length c1)/\w'.cell? ⟨w1.heap.size,7,none⟩=some (.slice a2 n.kids.length c2)/\w'.cell? ⟨F.cb,11,none⟩=some (.int .i64 t)):=fun K=>by
  have e0:=K.nb.c0;have e6:=K.nb.c6;have e7:=K.nb.c7;have e11:=K.c.c11;rw[hk]at e0;rw[K.top]at e11;exact⟨e0,K.nb.c1,K.nb.c2,K.nb.c3,K.nb.c4,K.nb.c5,e6,e7,e11⟩
 unfold nodeV;rw[hk];clear C1 r1 r2 b1 r1' r2' N1 hn hW1
 go_upto_region 1 with fail
 rw[<-HW1.out];obtain⟨e0,e1,e2,e3,e4,e5,e6,e7,e11⟩:=CE.out K1.out;have hcl:=K1.out.c.cbl;go_wp2_with fail
 refine(put_c F X _ _ _ _ _ _ K1.out.c (by have:=HB.out.n1;omega) K1.out.nk).mono ?_;rintro e w2 P;obtain⟨X2,rfl,K2,jj,gg⟩:=K1.out.put HU.out P;have K2:=hide K2;clear P jj gg e0 e1 e2 e3 e4 e5 e6 e7 e11;obtain⟨e0,e1,e2,e3,e4,e5,e6,e7,e11⟩:=CE.out K2.out;go_wp2_with fail
 refine(list_any HU.out X2 a2 n.kids c2 _ K2.out.c K2.out.nb.kids (K2.out.bud (c:=sumAll (wk (fnD l f).nodes) n.kids+2) HB.out (by omega) (by have:=HW.out;omega) (by have:=HW.out;omega) (by have:=HW.out;omega)) HK_.out.len HK_.out.low HK_.out.one HK_.out.many).mono ?_
 try rw[K2.out.top]
 try rw[K2.out.home]
 rintro e w3 P;obtain⟨X3,rfl,K3,jj,gg⟩:=K2.out.step HU.out P;have K3:=hide K3;clear P jj gg
 try clear e0 e1 e2 e3 e4 e5 e6 e7 e11
 go_wp2_with fail
 refine(take_any _ _ (by omega) (by omega)).mono ?_;rintro e w' ⟨rfl,rfl⟩;go_wp2_with fail
 refine(put_c F X3 _ _ _ _ _ _ K3.out.c (by have:=K3.out.n2;have:=HB.out.n1;have:=HW.out;omega) K3.out.nk).mono ?_;rintro e w4 P;obtain⟨X4,rfl,K4,jj,gg⟩:=K3.out.put HU.out P;have K4:=hide K4;clear P jj gg;have c11:=K4.out.c.c11;have z11:=K4.out.c.fz 11;have K9:=hide (K4.out.setTop HU.out X.top);go_wp2_with fail
 go_end0
 exact⟨_,rfl,K9.out.c,F1.out.trans K9.out.f,K9.out.top,K9.out.home,K9.out.ms,K9.out.n1,Nat.le_trans K9.out.n2 (by have:=HW.out;omega),K9.out.nk⟩
theorem stm_13 {F:CF}{l:List FnD}{f:Nat}{S:Nat->Prop}(U:UOk F l f S)(H:ShOk l f F.nv)(hrf:∀ p,p<(fnD l f).nodes.length->(nd (fnD l f).nodes p).kind<20->refsOk F (nd (fnD l f).nodes p).refs)(i:Nat)(hi:i<(fnD l f).nodes.length)(hk:(nd (fnD l f).nodes i).kind=13):StmOk F (fnD l f).nodes i:=by
 intro X w h B hb hm;have T:=H.tree;have hs:=H.shape i hi;have hl:=sh_kids1 hs hk (by decide);obtain⟨k0,hlk,hq0,hW⟩:=kids_one T hi hl;have I0:=(one_many U H k0 (by omega)).1;rw[letLen_0 (by omega),Int.add_zero];rw[hF_id T hi (by omega)];have HU:=hide U;have HC:=hide h;have HB:=hide B;have HM:=hide hm;have HW:=hide hW;have HH:=hide H;have hn:=node_any U X i w h hi;have I0_:=hide I0;clear h B U hW hb hm hs H hrf T I0;have t0:=HB.out.t0;have t1:X.top<=2000000:=by have:=HB.out.t1;omega
 generalize en:nd (fnD l f).nodes i=n at *;have EN:=hide en.symm;clear en;go_enter Tryz.func55,Tryz.ntmps55;go_wp2_with fail
 refine hn.mono ?_;rintro e w1 ⟨a1,c1,a2,c2,rfl,r1,r2,r3,b1⟩;have C1:=HC.out.below b1;have r1':=r1.keep b1 (fun b hb=>(HU.out.far HC.out b hb).1);have r2':=r2.keep b1 (fun b hb=>(HU.out.far HC.out b hb).1);obtain⟨b2,o2,rfl⟩:=r2'.some_of (by omega);have N1:=NBox.new (p1:=c1) (p2:=c2) hk rfl hl HU.out C1 r1' r2';obtain⟨W1,hW1⟩:∃ W1:World,W1=w1.alloc (.cells #[.int .i64 13,.int .i64 n.line,.int .i64 n.op,.int .i64 n.num,.float .f64 n.flt,.string n.str,.slice a1 n.refs.length c1,.slice (some ⟨b2,o2,none⟩) 1 c2] 97):=⟨_,rfl⟩;have F1:Hid (Fr X.O X.O w W1):=by show Fr _ _ _ _;rw[hW1];exact(Fr.of_below b1).trans (Fr.refl.alloc _)
 have K1:Hid (Cur F X W1 S w1.heap.size n a1 c1 (some ⟨b2,o2,none⟩) c2 X.ms X.top X.home 0 X W1):=by show Cur _ _ _ _ _ _ _ _ _ _ _ _ _ _ _ _;rw[hW1];exact Cur.start HU.out (C1.alloc _) N1 HB.out.nk
 have HW1:=hide hW1;have CE:Hid (∀{ms t hh d Y w'},Cur F X W1 S w1.heap.size n a1 c1 (some ⟨b2,o2,none⟩) c2 ms t hh d Y w'->w'.cell? ⟨w1.heap.size,0,none⟩=some (.int .i64 13)/\w'.cell? ⟨w1.heap.size,1,none⟩=some (.int .i64 n.line)/\w'.cell? ⟨w1.heap.size,2,none⟩=some (.int .i64 n.op)/\w'.cell? ⟨w1.heap.size,3,none⟩=some (.int .i64 n.num)/\w'.cell? ⟨w1.heap.size,4,none⟩=some (.float .f64 n.flt)/\w'.cell? ⟨w1.heap.size,5,none⟩=some (.string n.str)/\w'.cell? ⟨w1.heap.size,6,none⟩=some (.slice a1 n.refs.length c1)/\w'.cell? ⟨w1.heap.size,7,none⟩=some (.slice (some ⟨b2,o2,none⟩) 1 c2)/\w'.cell? ⟨F.cb,11,none⟩=some (.int .i64 t)):=fun K=>by
  have e0:=K.nb.c0;have e6:=K.nb.c6;have e7:=K.nb.c7;have e11:=K.c.c11;rw[hk]at e0;rw[K.top]at e11;rw[hl]at e7;exact⟨e0,K.nb.c1,K.nb.c2,K.nb.c3,K.nb.c4,K.nb.c5,e6,e7,e11⟩
 unfold nodeV;rw[hk,hl];rw[hl]at r3;clear C1 r1 r2 b1 r1' r2' N1 hn hW1
 go_upto_region 1 with fail
 rw[<-HW1.out];obtain⟨e0,e1,e2,e3,e4,e5,e6,e7,e11⟩:=CE.out K1.out;have hcl:=K1.out.c.cbl;go_wp2_with fail
 refine(put_c F X _ _ _ _ _ _ K1.out.c (by have:=HB.out.n1;omega) K1.out.nk).mono ?_;rintro e w2 P;obtain⟨X2,rfl,K2,jj,gg⟩:=K1.out.put HU.out P;have K2:=hide K2;clear P jj gg e0 e1 e2 e3 e4 e5 e6 e7 e11;obtain⟨e0,e1,e2,e3,e4,e5,e6,e7,e11⟩:=CE.out K2.out;have kc:=K2.out.nb.kids.cellAt (j:=0) (by omega);simp only[hlk,List.getElem?_cons_zero,Option.getD_some,Nat.add_zero]at kc;go_wp2_with fail
 refine(I0_.out X2 _ K2.out.c (K2.out.bud (c:=Wt (fnD l f).nodes k0) HB.out (by omega) (by have:=HW.out;omega) (by have:=HW.out;omega) (by have:=HW.out;omega))).mono ?_
 try rw[K2.out.top]
 try rw[K2.out.home]
 rintro e w3 P;obtain⟨X3,rfl,K3,jj,gg⟩:=K2.out.step HU.out P;have K3:=hide K3;clear P jj gg
 try clear e0 e1 e2 e3 e4 e5 e6 e7 e11
 clear kc;go_wp2_with fail
 refine(take_any _ _ (by omega) (by omega)).mono ?_;rintro e w' ⟨rfl,rfl⟩;go_wp2_with fail
 refine(put_c F X3 _ _ _ _ _ _ K3.out.c (by have:=K3.out.n2;have:=HB.out.n1;have:=HW.out;omega) K3.out.nk).mono ?_;rintro e w4 P;obtain⟨X4,rfl,K4,jj,gg⟩:=K3.out.put HU.out P;have K4:=hide K4;clear P jj gg;have c11:=K4.out.c.c11;have z11:=K4.out.c.fz 11;have K9:=hide (K4.out.setTop HU.out X.top);go_wp2_with fail
 go_end0
 exact⟨_,rfl,K9.out.c,F1.out.trans K9.out.f,K9.out.top,K9.out.home,K9.out.ms,K9.out.n1,Nat.le_trans K9.out.n2 (by have:=HW.out;omega),K9.out.nk⟩
end Go.Proofs.YtomcjennjcpdnaaGreatDoor
namespace Go.Proofs.YtomcjennjcpdnaaGreatDoor
set_option maxRecDepth 100000
set_option maxHeartbeats 4000000
open Go.RowKit
attribute [local go_sem] run_store_float
theorem stm_14 {F:CF}{l:List FnD}{f:Nat}{S:Nat->Prop}(U:UOk F l f S)(H:ShOk l f F.nv)(hrf:∀ p,p<(fnD l f).nodes.length->(nd (fnD l f).nodes p).kind<20->refsOk F (nd (fnD l f).nodes p).refs)(i:Nat)(hi:i<(fnD l f).nodes.length)(hk:(nd (fnD l f).nodes i).kind=14):StmOk F (fnD l f).nodes i:=by
 intro X w h B hb hm;have T:=H.tree;have hs:=H.shape i hi;obtain⟨hl,hkk⟩:=sh_call T hi hs (.inr hk);obtain⟨k0,hlk,hq0,hW⟩:=kids_one T hi hl;have h34:(nd (fnD l f).nodes k0).kind=34:=by unfold kidI at hkk;rw[hlk]at hkk;simpa using hkk
 clear hkk;have hk0l:k0<(fnD l f).nodes.length:=by omega
 have hl1:=sh_34 (H.shape k0 hk0l) h34;obtain⟨hks,h200,hW0⟩:=kids_all T hk0l;obtain⟨x,ks,glk⟩:∃ x ks,(nd (fnD l f).nodes k0).kids=x::ks:=by
  match e:(nd (fnD l f).nodes k0).kids,hl1 with
  | x::ks,_=>exact⟨x,ks,rfl⟩
 have hx:=hks x (by rw[glk];exact List.mem_cons_self ..);obtain⟨g0,rfl⟩:=Int.eq_ofNat_of_zero_le hx.1;have hks':∀ k∈ks,0<=k/\k.toNat<k0:=fun k hk=>hks k (by rw[glk];exact List.mem_cons_of_mem _ hk);have hg0:g0<k0:=by have:=hx.2;simpa using this
 have I0:=(one_many U H g0 (by omega)).1;have hK:KidsOk F l f ks:=⟨by rw[glk]at h200;simp at h200;omega,fun k hk=>⟨(hks' k hk).1,by have:=(hks' k hk).2;omega⟩,fun k hk=>(one_many U H _ (by have:=(hks' k hk).2;omega)).1,fun k hk hm=>(one_many U H _ (by have:=(hks' k hk).2;omega)).2 hm⟩;obtain⟨M,hM⟩:∃ M,ks.length=M:=⟨_,rfl⟩;have gl:(nd (fnD l f).nodes k0).kids.length=M+1:=by rw[glk,<-hM];rfl
 have hM2:M<=200:=by have:=hK.len;omega
 rw[glk]at hW0;simp only[sumAll,List.map_cons,List.sum_cons,wk,Int.toNat_natCast]at hW0;have hW:Wt (fnD l f).nodes i=4+(nd (fnD l f).nodes i).refs.length+(4+(nd (fnD l f).nodes k0).refs.length+(Wt (fnD l f).nodes g0+sumAll (wk (fnD l f).nodes) ks)):=by rw[hW,hW0];rfl
 clear hks hks' hx hl1 hW0 h200;rw[letLen_0 (by omega),Int.add_zero];rw[hF_id T hi (by omega)];have HU:=hide U;have HC:=hide h;have HB:=hide B;have HM:=hide hm;have HW:=hide hW;have HH:=hide H;have hn:=node_any U X i w h hi;have I0_:=hide I0;have HK_:=hide hK;have HM_:=hide hM;clear h B U hW hb hm hs H hrf T I0 hK hM;have t0:=HB.out.t0;have t1:X.top<=2000000:=by have:=HB.out.t1;omega
 generalize en:nd (fnD l f).nodes i=n at *;have EN:=hide en.symm;clear en;go_enter Tryz.func55,Tryz.ntmps55;go_wp2_with fail
 refine hn.mono ?_;rintro e w1 ⟨a1,c1,a2,c2,rfl,r1,r2,r3,b1⟩;have C1:=HC.out.below b1;have r1':=r1.keep b1 (fun b hb=>(HU.out.far HC.out b hb).1);have r2':=r2.keep b1 (fun b hb=>(HU.out.far HC.out b hb).1);obtain⟨b2,o2,rfl⟩:=r2'.some_of (by omega);have N1:=NBox.new (p1:=c1) (p2:=c2) hk rfl hl HU.out C1 r1' r2';obtain⟨W1,hW1⟩:∃ W1:World,W1=w1.alloc (.cells #[.int .i64 14,.int .i64 n.line,.int .i64 n.op,.int .i64 n.num,.float .f64 n.flt,.string n.str,.slice a1 n.refs.length c1,.slice (some ⟨b2,o2,none⟩) 1 c2] 97):=⟨_,rfl⟩;have F1:Hid (Fr X.O X.O w W1):=by show Fr _ _ _ _;rw[hW1];exact(Fr.of_below b1).trans (Fr.refl.alloc _)
 have K1:Hid (Cur F X W1 S w1.heap.size n a1 c1 (some ⟨b2,o2,none⟩) c2 X.ms X.top X.home 0 X W1):=by show Cur _ _ _ _ _ _ _ _ _ _ _ _ _ _ _ _;rw[hW1];exact Cur.start HU.out (C1.alloc _) N1 HB.out.nk
 have HW1:=hide hW1;have CE:Hid (∀{ms t hh d Y w'},Cur F X W1 S w1.heap.size n a1 c1 (some ⟨b2,o2,none⟩) c2 ms t hh d Y w'->w'.cell? ⟨w1.heap.size,0,none⟩=some (.int .i64 14)/\w'.cell? ⟨w1.heap.size,1,none⟩=some (.int .i64 n.line)/\w'.cell? ⟨w1.heap.size,2,none⟩=some (.int .i64 n.op)/\w'.cell? ⟨w1.heap.size,3,none⟩=some (.int .i64 n.num)/\w'.cell? ⟨w1.heap.size,4,none⟩=some (.float .f64 n.flt)/\w'.cell? ⟨w1.heap.size,5,none⟩=some (.string n.str)/\w'.cell? ⟨w1.heap.size,6,none⟩=some (.slice a1 n.refs.length c1)/\w'.cell? ⟨w1.heap.size,7,none⟩=some (.slice (some ⟨b2,o2,none⟩) 1 c2)/\w'.cell? ⟨F.cb,11,none⟩=some (.int .i64 t)):=fun K=>by
  have e0:=K.nb.c0;have e6:=K.nb.c6;have e7:=K.nb.c7;have e11:=K.c.c11;rw[hk]at e0;rw[K.top]at e11;rw[hl]at e7;exact⟨e0,K.nb.c1,K.nb.c2,K.nb.c3,K.nb.c4,K.nb.c5,e6,e7,e11⟩
 unfold nodeV;rw[hk,hl];rw[hl]at r3;clear C1 r1 r2 b1 r1' r2' N1 hn hW1
 go_upto_region 1 with fail
 rw[<-HW1.out];obtain⟨e0,e1,e2,e3,e4,e5,e6,e7,e11⟩:=CE.out K1.out;have hcl:=K1.out.c.cbl;go_wp2_with fail
 refine(put_c F X _ _ _ _ _ _ K1.out.c (by have:=HB.out.n1;omega) K1.out.nk).mono ?_;rintro e w2 P;obtain⟨X2,rfl,K2,jj,gg⟩:=K1.out.put HU.out P;have K2:=hide K2;clear P jj gg e0 e1 e2 e3 e4 e5 e6 e7 e11;obtain⟨e0,e1,e2,e3,e4,e5,e6,e7,e11⟩:=CE.out K2.out;have kc:=K2.out.nb.kids.cellAt (j:=0) (by omega);simp only[hlk,List.getElem?_cons_zero,Option.getD_some,Nat.add_zero]at kc;have hnd:=hide (node_any HU.out X2 k0 w2 K2.out.c hk0l);go_wp2_with fail
 refine hnd.out.mono ?_;rintro e w3 ⟨y1,z1,y2,z2,rfl,v1,v2,v3,b4⟩;unfold nodeV;have v1':=v1.keep b4 (fun b hb=>(HU.out.far K2.out.c b hb).1);have v2':=v2.keep b4 (fun b hb=>(HU.out.far K2.out.c b hb).1);obtain⟨b3,o3,rfl⟩:=v2'.some_of (by omega);have K3:=hide (K2.out.below HU.out b4);have N4:=hide (NBox.new (p1:=z1) (p2:=z2) h34 rfl gl HU.out K3.out.c v1' v2');obtain⟨W4,hW4⟩:∃ W4:World,W4=w3.alloc (.cells #[.int .i64 34,.int .i64 (nd (fnD l f).nodes k0).line,.int .i64 (nd (fnD l f).nodes k0).op,.int .i64 (nd (fnD l f).nodes k0).num,.float .f64 (nd (fnD l f).nodes k0).flt,.string (nd (fnD l f).nodes k0).str,.slice y1 (nd (fnD l f).nodes k0).refs.length z1,.slice (some ⟨b3,o3,none⟩) (M+1) z2] 97):=⟨_,rfl⟩;have K4:Hid (Cur F X W1 S w1.heap.size n a1 c1 (some ⟨b2,o2,none⟩) c2 X.ms X.top X.home (0+1) X2 W4):=by show Cur _ _ _ _ _ _ _ _ _ _ _ _ _ _ _ _;rw[hW4];exact K3.out.below HU.out ((Below.refl _ _).alloc (Nat.le_refl _) _)
 have N4:Hid (NBox S w3.heap.size (nd (fnD l f).nodes k0) y1 z1 (some ⟨b3,o3,none⟩) z2 X2 W4):=by show NBox _ _ _ _ _ _ _ _ _;rw[hW4];exact N4.out
 have HW4:=hide hW4;have gc:Hid (∀{Y w'},NBox S w3.heap.size (nd (fnD l f).nodes k0) y1 z1 (some ⟨b3,o3,none⟩) z2 Y w'->w'.cell? ⟨w3.heap.size,7,none⟩=some (.slice (some ⟨b3,o3,none⟩) (M+1) z2)/\w'.cell? ⟨b3,o3,none⟩=some (.int .i64 (g0:Int))):=fun N=>by
  have e7:=N.c7;have u0:=N.kids.cellAt (j:=0) (by omega);rw[gl]at e7;simp only[glk,List.getElem?_cons_zero,Option.getD_some,Nat.add_zero]at u0;exact⟨e7,u0⟩
 have hcap:M+1<=z2:=by omega
 have HGL:=hide glk;have HGK:=hide gl;rw[h34,gl];clear v1 v2 v3 b4 v1' v2' hW4 h34 gl glk e0 e1 e2 e3 e4 e5 e6 e7 kc
 go_upto_region 37 with fail
 rw[<-HW4.out];obtain⟨u7,u0⟩:=gc.out N4.out;go_wp2_with fail
 refine(I0_.out X2 _ K4.out.c (K4.out.bud (c:=Wt (fnD l f).nodes g0) HB.out (by omega) (by have:=HW.out;omega) (by have:=HW.out;omega) (by have:=HW.out;omega))).mono ?_;rw[K4.out.top,K4.out.home];rintro e w5 P;obtain⟨X5,rfl,K5,jj,gg⟩:=K4.out.step HU.out P;have N5:=hide (N4.out.step HU.out K4.out.c gg);have K5:=hide K5;clear P jj gg u7 u0;obtain⟨u7,u0⟩:=gc.out N5.out;have B5:Hid (Bud X5 (sumAll (wk (fnD l f).nodes) ks+2)):=K5.out.bud HB.out (by omega) (by have:=HW.out;push_cast;omega) (by have:=HW.out;omega) (by have:=HW.out;omega);have IA:Hid (IntsAt w5 S (some ⟨b3,o3+1,none⟩) ks):=by
  show IntsAt _ _ _ _;refine⟨by have:=HM_.out;omega,fun h0=>?_⟩;obtain⟨b',o',e,hb',hc'⟩:=N5.out.kids.2 (by rw[HGK.out];omega);cases e;refine⟨b3,o3+1,rfl,hb',fun j hj=>?_⟩;have:=hc' (j+1) (by rw[HGK.out];have:=HM_.out;omega);rw[HGL.out,List.getElem?_cons_succ]at this;rw[show o3+1+j=o3+(j+1)by omega];exact this
 have IB:Hid (M=0->IntsAt w5 S (some ⟨b3,o3,none⟩) ks):=fun h0=>⟨by have:=HM_.out;omega,fun h1=>by have:=HM_.out;omega⟩;have LA:Hid (∀ a c,IntsAt w5 S a ks->Calls Tryz.prog 87 #[.pointer (some ⟨F.cb,0,none⟩),.slice a M c] w5 (CPost F X5 w5 (.int .i64 (X.top+1)) (X.top+1+1) X.home (2000000 * sumAll (wk (fnD l f).nodes) ks+201))):=fun a c ha=>by
  have hh:=list_any HU.out X5 a ks c w5 K5.out.c ha B5.out HK_.out.len HK_.out.low HK_.out.one HK_.out.many;rw[HM_.out,K5.out.top,K5.out.home]at hh;exact hh
 by_cases hc2:1<z2
 ·have hc3:0<z2-1:=by omega
  go_wp2_with fail
  refine(LA.out _ _ IA.out).mono ?_;rintro e w6 P;obtain⟨X6,rfl,K6,jj,gg⟩:=K5.out.step HU.out P;have K6:=hide K6;clear P jj gg u7 u0;go_wp2_with fail
  refine(take_any _ _ (by omega) (by omega)).mono ?_;rintro e w' ⟨rfl,rfl⟩;go_wp2_with fail
  refine(take_any _ _ (by omega) (by omega)).mono ?_;rintro e w' ⟨rfl,rfl⟩;go_wp2_with fail
  refine(put_c F X6 _ _ _ _ _ _ K6.out.c (by have:=K6.out.n2;have:=HB.out.n1;have:=HW.out;omega) K6.out.nk).mono ?_;rintro e w7 P;obtain⟨X7,rfl,K7,jj,gg⟩:=K6.out.put HU.out P;have K7:=hide K7;clear P jj gg;have c11:=K7.out.c.c11;have z11:=K7.out.c.fz 11;have K9:=hide (K7.out.setTop HU.out X.top);go_wp2_with fail
  go_end0
  exact⟨_,rfl,K9.out.c,F1.out.trans K9.out.f,K9.out.top,K9.out.home,K9.out.ms,K9.out.n1,Nat.le_trans K9.out.n2 (by have:=HW.out;omega),K9.out.nk⟩
 ·obtain rfl:z2=1:=by omega
  obtain rfl:M=0:=by omega
  go_wp2_with fail
  refine(LA.out _ _ (IB.out (by trivial))).mono ?_;rintro e w6 P;obtain⟨X6,rfl,K6,jj,gg⟩:=K5.out.step HU.out P;have K6:=hide K6;clear P jj gg u7 u0;go_wp2_with fail
  refine(take_any _ _ (by omega) (by omega)).mono ?_;rintro e w' ⟨rfl,rfl⟩;go_wp2_with fail
  refine(take_any _ _ (by omega) (by omega)).mono ?_;rintro e w' ⟨rfl,rfl⟩;go_wp2_with fail
  refine(put_c F X6 _ _ _ _ _ _ K6.out.c (by have:=K6.out.n2;have:=HB.out.n1;have:=HW.out;omega) K6.out.nk).mono ?_;rintro e w7 P;obtain⟨X7,rfl,K7,jj,gg⟩:=K6.out.put HU.out P;have K7:=hide K7;clear P jj gg;have c11:=K7.out.c.c11;have z11:=K7.out.c.fz 11;have K9:=hide (K7.out.setTop HU.out X.top);go_wp2_with fail
  go_end0
  exact⟨_,rfl,K9.out.c,F1.out.trans K9.out.f,K9.out.top,K9.out.home,K9.out.ms,K9.out.n1,Nat.le_trans K9.out.n2 (by have:=HW.out;omega),K9.out.nk⟩
theorem stm_other {F:CF}{l:List FnD}{f:Nat}{S:Nat->Prop}(U:UOk F l f S)(H:ShOk l f F.nv)(hrf:∀ p,p<(fnD l f).nodes.length->(nd (fnD l f).nodes p).kind<20->refsOk F (nd (fnD l f).nodes p).refs)(i:Nat)(hi:i<(fnD l f).nodes.length)(kd:Int)(hkd:kd<1\/14<kd)(hk:(nd (fnD l f).nodes i).kind=kd):StmOk F (fnD l f).nodes i:=by
 intro X w h B hb hm;have T:=H.tree;have hs:=H.shape i hi;have hW:=(kids_all T hi).2.2;rw[letLen_0 (by omega),Int.add_zero];rw[hF_id T hi (by omega)];have HU:=hide U;have HC:=hide h;have HB:=hide B;have HM:=hide hm;have HW:=hide hW;have HH:=hide H;have hn:=node_any U X i w h hi;clear h B U hW hb hm hs H hrf T;have t0:=HB.out.t0;have t1:X.top<=2000000:=by have:=HB.out.t1;omega
 generalize en:nd (fnD l f).nodes i=n at *;have EN:=hide en.symm;clear en;go_enter Tryz.func55,Tryz.ntmps55;go_wp2_with fail
 refine hn.mono ?_;rintro e w1 ⟨a1,c1,a2,c2,rfl,r1,r2,r3,b1⟩;have C1:=HC.out.below b1;have r1':=r1.keep b1 (fun b hb=>(HU.out.far HC.out b hb).1);have r2':=r2.keep b1 (fun b hb=>(HU.out.far HC.out b hb).1);have N1:=NBox.new (p1:=c1) (p2:=c2) hk rfl rfl HU.out C1 r1' r2';obtain⟨W1,hW1⟩:∃ W1:World,W1=w1.alloc (.cells #[.int .i64 kd,.int .i64 n.line,.int .i64 n.op,.int .i64 n.num,.float .f64 n.flt,.string n.str,.slice a1 n.refs.length c1,.slice a2 n.kids.length c2] 97):=⟨_,rfl⟩;have F1:Hid (Fr X.O X.O w W1):=by show Fr _ _ _ _;rw[hW1];exact(Fr.of_below b1).trans (Fr.refl.alloc _)
 have K1:Hid (Cur F X W1 S w1.heap.size n a1 c1 a2 c2 X.ms X.top X.home 0 X W1):=by show Cur _ _ _ _ _ _ _ _ _ _ _ _ _ _ _ _;rw[hW1];exact Cur.start HU.out (C1.alloc _) N1 HB.out.nk
 have HW1:=hide hW1;have CE:Hid (∀{ms t hh d Y w'},Cur F X W1 S w1.heap.size n a1 c1 a2 c2 ms t hh d Y w'->w'.cell? ⟨w1.heap.size,0,none⟩=some (.int .i64 kd)/\w'.cell? ⟨w1.heap.size,1,none⟩=some (.int .i64 n.line)/\w'.cell? ⟨w1.heap.size,2,none⟩=some (.int .i64 n.op)/\w'.cell? ⟨w1.heap.size,3,none⟩=some (.int .i64 n.num)/\w'.cell? ⟨w1.heap.size,4,none⟩=some (.float .f64 n.flt)/\w'.cell? ⟨w1.heap.size,5,none⟩=some (.string n.str)/\w'.cell? ⟨w1.heap.size,6,none⟩=some (.slice a1 n.refs.length c1)/\w'.cell? ⟨w1.heap.size,7,none⟩=some (.slice a2 n.kids.length c2)/\w'.cell? ⟨F.cb,11,none⟩=some (.int .i64 t)):=fun K=>by
  have e0:=K.nb.c0;have e6:=K.nb.c6;have e7:=K.nb.c7;have e11:=K.c.c11;rw[hk]at e0;rw[K.top]at e11;exact⟨e0,K.nb.c1,K.nb.c2,K.nb.c3,K.nb.c4,K.nb.c5,e6,e7,e11⟩
 unfold nodeV;rw[hk];clear C1 r1 r2 b1 r1' r2' N1 hn hW1
 go_upto_region 1 with fail
 rw[<-HW1.out];obtain⟨e0,e1,e2,e3,e4,e5,e6,e7,e11⟩:=CE.out K1.out;have x1:(kd==1)=false:=by simp;omega
 have x2:(kd==2)=false:=by simp;omega
 have x3:(kd==3)=false:=by simp;omega
 have x4:(kd==4)=false:=by simp;omega
 have x5:(kd==5)=false:=by simp;omega
 have x6:(kd==6)=false:=by simp;omega
 have x7:(kd==7)=false:=by simp;omega
 have x8:(kd==8)=false:=by simp;omega
 have x9:(kd==9)=false:=by simp;omega
 have x10:(kd==10)=false:=by simp;omega
 have x11:(kd==11)=false:=by simp;omega
 have x12:(kd==12)=false:=by simp;omega
 have x13:(kd==13)=false:=by simp;omega
 have x14:(kd==14)=false:=by simp;omega
 have hcl:=K1.out.c.cbl;go_wp2_with fail
 refine(put_c F X _ _ _ _ _ _ K1.out.c (by have:=HB.out.n1;omega) K1.out.nk).mono ?_;rintro e w2 P;obtain⟨X2,rfl,K2,jj,gg⟩:=K1.out.put HU.out P;have K2:=hide K2;clear P jj gg e0 e1 e2 e3 e4 e5 e6 e7 e11;obtain⟨e0,e1,e2,e3,e4,e5,e6,e7,e11⟩:=CE.out K2.out;go_wp2_with fail
 go_end0
 exact⟨_,rfl,K2.out.c,F1.out.trans K2.out.f,K2.out.top,K2.out.home,K2.out.ms,K2.out.n1,Nat.le_trans K2.out.n2 (by have:=HW.out;omega),K2.out.nk⟩
theorem stm_blk {F:CF}{l:List FnD}{f:Nat}{S:Nat->Prop}(U:UOk F l f S)(H:ShOk l f F.nv)(hrf:∀ p,p<(fnD l f).nodes.length->(nd (fnD l f).nodes p).kind<20->refsOk F (nd (fnD l f).nodes p).refs)(i:Nat):i<(fnD l f).nodes.length->StmOk F (fnD l f).nodes i/\((nd (fnD l f).nodes i).kind=1->BlkOk F (fnD l f).nodes i):=by
 induction i using Nat.strongRecOn with
 | _ i ih=>
  intro hi;have T:=H.tree;have hs:=H.shape i hi;have IS:∀ k,k<i->StmOk F (fnD l f).nodes k:=fun k hk=>(ih k hk (by omega)).1;have IB:∀ k,k<i->(nd (fnD l f).nodes k).kind=1->BlkOk F (fnD l f).nodes k:=fun k hk=>(ih k hk (by omega)).2;have BB:(nd (fnD l f).nodes i).kind=1->BlkOk F (fnD l f).nodes i:=fun e=>block8 U T i hi e IS (fun k hk e=>hrf k hk (by omega));refine⟨?_,BB⟩;generalize hk:(nd (fnD l f).nodes i).kind=kd;by_cases hr:kd<1\/14<kd
  ·exact stm_other U H hrf i hi kd hr hk
  ·have:kd=1\/kd=2\/kd=3\/kd=4\/kd=5\/kd=6\/kd=7\/kd=8\/kd=9\/kd=10\/kd=11\/kd=12\/kd=13\/kd=14:=by omega
   rcases this with rfl | rfl | rfl | rfl | rfl | rfl | rfl | rfl | rfl | rfl | rfl | rfl | rfl | rfl
   ·exact stm_1 U H hrf i hi hk (BB hk)
   ·exact stm_2 U H hrf i hi hk
   ·exact stm_3 U H hrf i hi hk
   ·exact stm_4 U H hrf i hi hk
   ·rcases(sh_5 T hi hs hk).1 with hl | hl
    ·exact stm_5a U H hrf i hi hk hl IB
    ·exact stm_5b U H hrf i hi hk hl IB IS
   ·exact stm_6s U H hrf i hi hk IB
   ·exact stm_7 U H hrf i hi hk IB
   ·exact stm_8 U H hrf i hi hk IB
   ·exact stm_9 U H hrf i hi hk
   ·exact stm_10 U H hrf i hi hk
   ·exact stm_11 U H hrf i hi hk
   ·exact stm_12s U H hrf i hi hk IB
   ·exact stm_13 U H hrf i hi hk
   ·exact stm_14 U H hrf i hi hk
end Go.Proofs.YtomcjennjcpdnaaGreatDoor
