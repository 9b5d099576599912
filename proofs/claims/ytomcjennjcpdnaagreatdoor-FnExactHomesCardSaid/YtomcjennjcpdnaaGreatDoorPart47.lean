import Derived.Test.YtomcjennjcpdnaaGreatDoorPart33
import Derived.Test.YtomcjennjcpdnaaGreatDoorPart44
import Derived.Test.YtomcjennjcpdnaaGreatDoorPart35
import Derived.Test.YtomcjennjcpdnaaGreatDoorPart46
set_option linter.unusedSimpArgs false
set_option linter.unusedVariables false
set_option maxHeartbeats 16000000
namespace Go.Proofs.YtomcjennjcpdnaaGreatDoor
set_option maxRecDepth 100000
set_option maxHeartbeats 4000000
open Go.RowKit
attribute [local go_sem] run_store_float
theorem kids_three {ns:List NodeD}(T:TreeOk ns){i:Nat}(hi:i<ns.length)(hl:(nd ns i).kids.length=3):∃ k0 k1 k2:Nat,(nd ns i).kids=[(k0:Int),(k1:Int),(k2:Int)]/\k0<i/\k1<i/\k2<i/\Wt ns i=4+(nd ns i).refs.length+(Wt ns k0+Wt ns k1+Wt ns k2):=by
 have h0:=T.kid hi (i:=0) (by omega);have h1:=T.kid hi (i:=1) (by omega);have h2:=T.kid hi (i:=2) (by omega);have hW:=Wt_eq T hi;obtain⟨x,y,z,hx⟩:∃ x y z,(nd ns i).kids=[x,y,z]:=by
  match e:(nd ns i).kids,hl with
  | [x,y,z],_=>exact⟨x,y,z,rfl⟩
 unfold kidI at h0 h1 h2;rw[hx]at h0 h1 h2 hW;simp only[List.getElem?_cons_zero,List.getElem?_cons_succ,Option.getD_some]at h0 h1 h2;simp only[sumAll,List.map_cons,List.map_nil,List.sum_cons,List.sum_nil,wk,own1]at hW;exact⟨x.toNat,y.toNat,z.toNat,by rw[hx,<-h0.1,<-h1.1,<-h2.1],h0.2,h1.2,h2.2,by omega⟩
theorem kids_four {ns:List NodeD}(T:TreeOk ns){i:Nat}(hi:i<ns.length)(hl:(nd ns i).kids.length=4):∃ k0 k1 k2 k3:Nat,(nd ns i).kids=[(k0:Int),(k1:Int),(k2:Int),(k3:Int)]/\k0<i/\k1<i/\k2<i/\k3<i/\Wt ns i=4+(nd ns i).refs.length+(Wt ns k0+Wt ns k1+Wt ns k2+Wt ns k3):=by
 have h0:=T.kid hi (i:=0) (by omega);have h1:=T.kid hi (i:=1) (by omega);have h2:=T.kid hi (i:=2) (by omega);have h3:=T.kid hi (i:=3) (by omega);have hW:=Wt_eq T hi;obtain⟨x,y,z,u,hx⟩:∃ x y z u,(nd ns i).kids=[x,y,z,u]:=by
  match e:(nd ns i).kids,hl with
  | [x,y,z,u],_=>exact⟨x,y,z,u,rfl⟩
 unfold kidI at h0 h1 h2 h3;rw[hx]at h0 h1 h2 h3 hW;simp only[List.getElem?_cons_zero,List.getElem?_cons_succ,Option.getD_some]at h0 h1 h2 h3;simp only[sumAll,List.map_cons,List.map_nil,List.sum_cons,List.sum_nil,wk,own1]at hW;exact⟨x.toNat,y.toNat,z.toNat,u.toNat,by rw[hx,<-h0.1,<-h1.1,<-h2.1,<-h3.1],h0.2,h1.2,h2.2,h3.2,by omega⟩
theorem refs_of {F:CF}{rs:List Int}(h:refsOk F rs){j:Nat}(hj:j<rs.length):∃ v:Nat,rs[j]?.getD 0=(v:Int)/\v<F.nv:=by
 obtain⟨h0,h1⟩:=h j hj;obtain⟨v,hv⟩:=Int.eq_ofNat_of_zero_le h0;exact⟨v,hv,by omega⟩
theorem refs_1 {F:CF}{rs:List Int}(h:refsOk F rs)(hl:rs.length=1):∃ v:Nat,rs=[(v:Int)]/\v<F.nv:=by
 obtain⟨x,rfl⟩:=List.length_eq_one_iff.1 hl;obtain⟨v,e,hv⟩:=refs_of h (j:=0) (by simp);exact⟨v,by simpa using e,hv⟩
theorem refs_2 {F:CF}{rs:List Int}(h:refsOk F rs)(hl:rs.length=2):∃ v u:Nat,rs=[(v:Int),(u:Int)]/\v<F.nv/\u<F.nv:=by
 obtain⟨x,y,rfl⟩:∃ x y,rs=[x,y]:=by
  match rs,hl with
  | [x,y],_=>exact⟨x,y,rfl⟩
 obtain⟨v,e,hv⟩:=refs_of h (j:=0) (by simp);obtain⟨u,e2,hu⟩:=refs_of h (j:=1) (by simp);simp only[List.getElem?_cons_zero,List.getElem?_cons_succ,Option.getD_some]at e e2;exact⟨v,u,by rw[e,e2],hv,hu⟩
theorem Cur.bud {F:CF}{X Y:CX}{W1 w:World}{S:Nat->Prop}{nb:Nat}{n:NodeD}{a1 a2:Option Addr}{p1 p2:Nat}{t:Int}{hm:Nat->Int}{d c c0:Nat}(K:Cur F X W1 S nb n a1 p1 a2 p2 X.ms t hm d Y w)(B:Bud X c0)(h0:0<=t)(ht:t+c<=X.top+c0)(hc:c<=c0)(hd:d+2000000 * c<=2000000 * c0):Bud Y c:=by
 have e1:=K.top;have e2:=K.n2;have e3:=B.t1;have e4:=B.m1;have e5:=B.n1;have em:Y.ms.length=X.ms.length:=by rw[K.ms]
 exact⟨by omega,by omega,by omega,Nat.le_trans (m:=X.n+2000000 * c0) (by clear e5;omega) e5,K.nk⟩
theorem letLen_0 {ns:List NodeD}{i:Nat}(h:(nd ns i).kind≠2):letLen ns i=0:=by unfold letLen;rw[Int.toNat_natCast,if_neg h]
theorem hF_id {ns:List NodeD}(T:TreeOk ns){i:Nat}(hi:i<ns.length)(h:(nd ns i).kind≠1/\(nd ns i).kind≠2/\(nd ns i).kind≠5/\(nd ns i).kind≠6/\(nd ns i).kind≠7/\(nd ns i).kind≠8/\(nd ns i).kind≠12)(t:Int)(x:Nat->Int):hF ns i t x=x:=by
 rw[hF_eq T hi ⟨fun e=>by omega,fun e=>by omega⟩];unfold stepF;simp only;split<;>first | rfl | (rename_i e;omega)
end Go.Proofs.YtomcjennjcpdnaaGreatDoor
namespace Go.Proofs.YtomcjennjcpdnaaGreatDoor
set_option maxRecDepth 100000
set_option maxHeartbeats 4000000
open Go.RowKit
attribute [local go_sem] run_store_float
theorem stm_1 {F:CF}{l:List FnD}{f:Nat}{S:Nat->Prop}(U:UOk F l f S)(H:ShOk l f F.nv)(hrf:∀ p,p<(fnD l f).nodes.length->(nd (fnD l f).nodes p).kind<20->refsOk F (nd (fnD l f).nodes p).refs)(i:Nat)(hi:i<(fnD l f).nodes.length)(hk:(nd (fnD l f).nodes i).kind=1)(BK:BlkOk F (fnD l f).nodes i):StmOk F (fnD l f).nodes i:=by
 intro X w h B hb hm;have T:=H.tree;have hs:=H.shape i hi;have hW:=(kids_all T hi).2.2;rw[letLen_0 (by omega),Int.add_zero];have HU:=hide U;have HC:=hide h;have HB:=hide B;have HM:=hide hm;have HW:=hide hW;have HH:=hide H;have hn:=node_any U X i w h hi;have BK_:=hide BK;have HB_:=hide hb;clear h B U hW hb hm hs H hrf T BK;have t0:=HB.out.t0;have t1:X.top<=2000000:=by have:=HB.out.t1;omega
 generalize en:nd (fnD l f).nodes i=n at *;have EN:=hide en.symm;clear en;go_enter Tryz.func55,Tryz.ntmps55;go_wp2_with fail
 refine hn.mono ?_;rintro e w1 ⟨a1,c1,a2,c2,rfl,r1,r2,r3,b1⟩;have C1:=HC.out.below b1;have r1':=r1.keep b1 (fun b hb=>(HU.out.far HC.out b hb).1);have r2':=r2.keep b1 (fun b hb=>(HU.out.far HC.out b hb).1);have N1:=NBox.new (p1:=c1) (p2:=c2) hk rfl rfl HU.out C1 r1' r2';obtain⟨W1,hW1⟩:∃ W1:World,W1=w1.alloc (.cells #[.int .i64 1,.int .i64 n.line,.int .i64 n.op,.int .i64 n.num,.float .f64 n.flt,.string n.str,.slice a1 n.refs.length c1,.slice a2 n.kids.length c2] 97):=⟨_,rfl⟩;have F1:Hid (Fr X.O X.O w W1):=by show Fr _ _ _ _;rw[hW1];exact(Fr.of_below b1).trans (Fr.refl.alloc _)
 have K1:Hid (Cur F X W1 S w1.heap.size n a1 c1 a2 c2 X.ms X.top X.home 0 X W1):=by show Cur _ _ _ _ _ _ _ _ _ _ _ _ _ _ _ _;rw[hW1];exact Cur.start HU.out (C1.alloc _) N1 HB.out.nk
 have HW1:=hide hW1;have CE:Hid (∀{ms t hh d Y w'},Cur F X W1 S w1.heap.size n a1 c1 a2 c2 ms t hh d Y w'->w'.cell? ⟨w1.heap.size,0,none⟩=some (.int .i64 1)/\w'.cell? ⟨w1.heap.size,1,none⟩=some (.int .i64 n.line)/\w'.cell? ⟨w1.heap.size,2,none⟩=some (.int .i64 n.op)/\w'.cell? ⟨w1.heap.size,3,none⟩=some (.int .i64 n.num)/\w'.cell? ⟨w1.heap.size,4,none⟩=some (.float .f64 n.flt)/\w'.cell? ⟨w1.heap.size,5,none⟩=some (.string n.str)/\w'.cell? ⟨w1.heap.size,6,none⟩=some (.slice a1 n.refs.length c1)/\w'.cell? ⟨w1.heap.size,7,none⟩=some (.slice a2 n.kids.length c2)/\w'.cell? ⟨F.cb,11,none⟩=some (.int .i64 t)):=fun K=>by
  have e0:=K.nb.c0;have e6:=K.nb.c6;have e7:=K.nb.c7;have e11:=K.c.c11;rw[hk]at e0;rw[K.top]at e11;exact⟨e0,K.nb.c1,K.nb.c2,K.nb.c3,K.nb.c4,K.nb.c5,e6,e7,e11⟩
 unfold nodeV;rw[hk];clear C1 r1 r2 b1 r1' r2' N1 hn hW1
 go_upto_region 1 with fail
 rw[<-HW1.out];obtain⟨e0,e1,e2,e3,e4,e5,e6,e7,e11⟩:=CE.out K1.out;have hcl:=K1.out.c.cbl;go_wp2_with fail
 refine(BK_.out X _ K1.out.c HB.out HB_.out HM.out).mono ?_;rintro e w2 P;obtain⟨X3,rfl,K3,jj,gg⟩:=K1.out.step HU.out P;have K3:=hide K3;clear P jj gg;go_wp2_with fail
 go_end0
 exact⟨_,rfl,K3.out.c,F1.out.trans K3.out.f,K3.out.top,K3.out.home,K3.out.ms,K3.out.n1,Nat.le_trans K3.out.n2 (by have:=HW.out;omega),K3.out.nk⟩
theorem stm_2 {F:CF}{l:List FnD}{f:Nat}{S:Nat->Prop}(U:UOk F l f S)(H:ShOk l f F.nv)(hrf:∀ p,p<(fnD l f).nodes.length->(nd (fnD l f).nodes p).kind<20->refsOk F (nd (fnD l f).nodes p).refs)(i:Nat)(hi:i<(fnD l f).nodes.length)(hk:(nd (fnD l f).nodes i).kind=2):StmOk F (fnD l f).nodes i:=by
 intro X w h B hb hm;have T:=H.tree;have hs:=H.shape i hi;have hW:=(kids_all T hi).2.2;have hr0:=sh_2 hs hk;have hlt:letLen (fnD l f).nodes i=(nd (fnD l f).nodes i).refs.length:=by unfold letLen;rw[Int.toNat_natCast,if_pos hk]
 rw[hlt];have hR:=hrf i hi (by omega);have hK:KidsOk F l f (nd (fnD l f).nodes i).kids:=⟨(kids_all T hi).2.1,fun k hq=>⟨((kids_all T hi).1 k hq).1,by have:=((kids_all T hi).1 k hq).2;omega⟩,fun k hq=>(one_many U H _ (by have:=((kids_all T hi).1 k hq).2;omega)).1,fun k hq hm=>(one_many U H _ (by have:=((kids_all T hi).1 k hq).2;omega)).2 hm⟩;clear hlt;have hF0:hF (fnD l f).nodes i X.top X.home=settleF X.home (nd (fnD l f).nodes i).refs X.top:=by
  rw[hF_eq T hi ⟨fun e=>by omega,fun e=>by omega⟩];unfold stepF;simp only[hk]
 rw[hF0];clear hF0;have HU:=hide U;have HC:=hide h;have HB:=hide B;have HM:=hide hm;have HW:=hide hW;have HH:=hide H;have hn:=node_any U X i w h hi;have HR_:=hide hR;have HK_:=hide hK;clear h B U hW hb hm hs H hrf T hR hK;have t0:=HB.out.t0;have t1:X.top<=2000000:=by have:=HB.out.t1;omega
 generalize en:nd (fnD l f).nodes i=n at *;have EN:=hide en.symm;clear en;go_enter Tryz.func55,Tryz.ntmps55;go_wp2_with fail
 refine hn.mono ?_;rintro e w1 ⟨a1,c1,a2,c2,rfl,r1,r2,r3,b1⟩;have C1:=HC.out.below b1;have r1':=r1.keep b1 (fun b hb=>(HU.out.far HC.out b hb).1);have r2':=r2.keep b1 (fun b hb=>(HU.out.far HC.out b hb).1);have N1:=NBox.new (p1:=c1) (p2:=c2) hk rfl rfl HU.out C1 r1' r2';obtain⟨W1,hW1⟩:∃ W1:World,W1=w1.alloc (.cells #[.int .i64 2,.int .i64 n.line,.int .i64 n.op,.int .i64 n.num,.float .f64 n.flt,.string n.str,.slice a1 n.refs.length c1,.slice a2 n.kids.length c2] 97):=⟨_,rfl⟩;have F1:Hid (Fr X.O X.O w W1):=by show Fr _ _ _ _;rw[hW1];exact(Fr.of_below b1).trans (Fr.refl.alloc _)
 have K1:Hid (Cur F X W1 S w1.heap.size n a1 c1 a2 c2 X.ms X.top X.home 0 X W1):=by show Cur _ _ _ _ _ _ _ _ _ _ _ _ _ _ _ _;rw[hW1];exact Cur.start HU.out (C1.alloc _) N1 HB.out.nk
 have HW1:=hide hW1;have CE:Hid (∀{ms t hh d Y w'},Cur F X W1 S w1.heap.size n a1 c1 a2 c2 ms t hh d Y w'->w'.cell? ⟨w1.heap.size,0,none⟩=some (.int .i64 2)/\w'.cell? ⟨w1.heap.size,1,none⟩=some (.int .i64 n.line)/\w'.cell? ⟨w1.heap.size,2,none⟩=some (.int .i64 n.op)/\w'.cell? ⟨w1.heap.size,3,none⟩=some (.int .i64 n.num)/\w'.cell? ⟨w1.heap.size,4,none⟩=some (.float .f64 n.flt)/\w'.cell? ⟨w1.heap.size,5,none⟩=some (.string n.str)/\w'.cell? ⟨w1.heap.size,6,none⟩=some (.slice a1 n.refs.length c1)/\w'.cell? ⟨w1.heap.size,7,none⟩=some (.slice a2 n.kids.length c2)/\w'.cell? ⟨F.cb,11,none⟩=some (.int .i64 t)):=fun K=>by
  have e0:=K.nb.c0;have e6:=K.nb.c6;have e7:=K.nb.c7;have e11:=K.c.c11;rw[hk]at e0;rw[K.top]at e11;exact⟨e0,K.nb.c1,K.nb.c2,K.nb.c3,K.nb.c4,K.nb.c5,e6,e7,e11⟩
 unfold nodeV;rw[hk];clear C1 r1 r2 b1 r1' r2' N1 hn hW1
 go_upto_region 1 with fail
 rw[<-HW1.out];obtain⟨e0,e1,e2,e3,e4,e5,e6,e7,e11⟩:=CE.out K1.out;have hcl:=K1.out.c.cbl;go_wp2_with fail
 refine(put_c F X _ _ _ _ _ _ K1.out.c (by have:=HB.out.n1;omega) K1.out.nk).mono ?_;rintro e w2 P;obtain⟨X2,rfl,K2,jj,gg⟩:=K1.out.put HU.out P;have K2:=hide K2;clear P jj gg e0 e1 e2 e3 e4 e5 e6 e7 e11;obtain⟨e0,e1,e2,e3,e4,e5,e6,e7,e11⟩:=CE.out K2.out;go_wp2_with fail
 refine(let8 HU.out X2 n a1 a2 c1 c2 _ K2.out.c hk K2.out.nb.refs K2.out.nb.kids HR_.out hr0 HK_.out (K2.out.bud (c:=n.refs.length+sumAll (wk (fnD l f).nodes) n.kids+3) HB.out (by omega) (by have:=HW.out;omega) (by have:=HW.out;omega) (by have:=HW.out;omega))).mono ?_
 try rw[K2.out.top]
 try rw[K2.out.home]
 rintro e w3 P;obtain⟨X3,rfl,K3,jj,gg⟩:=K2.out.step HU.out P;have K3:=hide K3;clear P jj gg
 try clear e0 e1 e2 e3 e4 e5 e6 e7 e11
 go_wp2_with fail
 go_end0
 exact⟨_,rfl,K3.out.c,F1.out.trans K3.out.f,K3.out.top,K3.out.home,K3.out.ms,K3.out.n1,Nat.le_trans K3.out.n2 (by have:=HW.out;omega),K3.out.nk⟩
theorem stm_3 {F:CF}{l:List FnD}{f:Nat}{S:Nat->Prop}(U:UOk F l f S)(H:ShOk l f F.nv)(hrf:∀ p,p<(fnD l f).nodes.length->(nd (fnD l f).nodes p).kind<20->refsOk F (nd (fnD l f).nodes p).refs)(i:Nat)(hi:i<(fnD l f).nodes.length)(hk:(nd (fnD l f).nodes i).kind=3):StmOk F (fnD l f).nodes i:=by
 intro X w h B hb hm;have T:=H.tree;have hs:=H.shape i hi;have hW:=(kids_all T hi).2.2;obtain⟨L,hl⟩:∃ L,(nd (fnD l f).nodes i).kids.length=L:=⟨_,rfl⟩;have hl0:0<L:=by have:=sh_3 hs hk;omega
 rw[letLen_0 (by omega),Int.add_zero];rw[hF_id T hi (by omega)];have HU:=hide U;have HC:=hide h;have HB:=hide B;have HM:=hide hm;have HW:=hide hW;have HH:=hide H;have hn:=node_any U X i w h hi;clear h B U hW hb hm hs H hrf T;have t0:=HB.out.t0;have t1:X.top<=2000000:=by have:=HB.out.t1;omega
 generalize en:nd (fnD l f).nodes i=n at *;have EN:=hide en.symm;clear en;go_enter Tryz.func55,Tryz.ntmps55;go_wp2_with fail
 refine hn.mono ?_;rintro e w1 ⟨a1,c1,a2,c2,rfl,r1,r2,r3,b1⟩;have C1:=HC.out.below b1;have r1':=r1.keep b1 (fun b hb=>(HU.out.far HC.out b hb).1);have r2':=r2.keep b1 (fun b hb=>(HU.out.far HC.out b hb).1);obtain⟨b2,o2,rfl⟩:=r2'.some_of (by omega);have N1:=NBox.new (p1:=c1) (p2:=c2) hk rfl hl HU.out C1 r1' r2';obtain⟨W1,hW1⟩:∃ W1:World,W1=w1.alloc (.cells #[.int .i64 3,.int .i64 n.line,.int .i64 n.op,.int .i64 n.num,.float .f64 n.flt,.string n.str,.slice a1 n.refs.length c1,.slice (some ⟨b2,o2,none⟩) L c2] 97):=⟨_,rfl⟩;have F1:Hid (Fr X.O X.O w W1):=by show Fr _ _ _ _;rw[hW1];exact(Fr.of_below b1).trans (Fr.refl.alloc _)
 have K1:Hid (Cur F X W1 S w1.heap.size n a1 c1 (some ⟨b2,o2,none⟩) c2 X.ms X.top X.home 0 X W1):=by show Cur _ _ _ _ _ _ _ _ _ _ _ _ _ _ _ _;rw[hW1];exact Cur.start HU.out (C1.alloc _) N1 HB.out.nk
 have HW1:=hide hW1;have CE:Hid (∀{ms t hh d Y w'},Cur F X W1 S w1.heap.size n a1 c1 (some ⟨b2,o2,none⟩) c2 ms t hh d Y w'->w'.cell? ⟨w1.heap.size,0,none⟩=some (.int .i64 3)/\w'.cell? ⟨w1.heap.size,1,none⟩=some (.int .i64 n.line)/\w'.cell? ⟨w1.heap.size,2,none⟩=some (.int .i64 n.op)/\w'.cell? ⟨w1.heap.size,3,none⟩=some (.int .i64 n.num)/\w'.cell? ⟨w1.heap.size,4,none⟩=some (.float .f64 n.flt)/\w'.cell? ⟨w1.heap.size,5,none⟩=some (.string n.str)/\w'.cell? ⟨w1.heap.size,6,none⟩=some (.slice a1 n.refs.length c1)/\w'.cell? ⟨w1.heap.size,7,none⟩=some (.slice (some ⟨b2,o2,none⟩) L c2)/\w'.cell? ⟨F.cb,11,none⟩=some (.int .i64 t)):=fun K=>by
  have e0:=K.nb.c0;have e6:=K.nb.c6;have e7:=K.nb.c7;have e11:=K.c.c11;rw[hk]at e0;rw[K.top]at e11;rw[hl]at e7;exact⟨e0,K.nb.c1,K.nb.c2,K.nb.c3,K.nb.c4,K.nb.c5,e6,e7,e11⟩
 unfold nodeV;rw[hk,hl];rw[hl]at r3;clear C1 r1 r2 b1 r1' r2' N1 hn hW1
 go_upto_region 1 with fail
 rw[<-HW1.out];obtain⟨e0,e1,e2,e3,e4,e5,e6,e7,e11⟩:=CE.out K1.out;have hcl:=K1.out.c.cbl;go_wp2_with fail
 refine(put_c F X _ _ _ _ _ _ K1.out.c (by have:=HB.out.n1;omega) K1.out.nk).mono ?_;rintro e w2 P;obtain⟨X2,rfl,K2,jj,gg⟩:=K1.out.put HU.out P;have K2:=hide K2;clear P jj gg e0 e1 e2 e3 e4 e5 e6 e7 e11;obtain⟨e0,e1,e2,e3,e4,e5,e6,e7,e11⟩:=CE.out K2.out;go_wp2_with fail
 refine(set8 HU.out HH.out X2 i hi (EN.out ▸ hk) n EN.out a1 c1 b2 o2 c2 L hl _ K2.out.c K2.out.nb.refs K2.out.nb.kids r3 (K2.out.bud (c:=sumAll (wk (fnD l f).nodes) n.kids+3) HB.out (by omega) (by have:=HW.out;omega) (by have:=HW.out;omega) (by have:=HW.out;omega))).mono ?_
 try rw[K2.out.top]
 try rw[K2.out.home]
 rintro e w3 P;obtain⟨X3,rfl,K3,jj,gg⟩:=K2.out.step HU.out P;have K3:=hide K3;clear P jj gg
 try clear e0 e1 e2 e3 e4 e5 e6 e7 e11
 go_wp2_with fail
 go_end0
 exact⟨_,rfl,K3.out.c,F1.out.trans K3.out.f,K3.out.top,K3.out.home,K3.out.ms,K3.out.n1,Nat.le_trans K3.out.n2 (by have:=HW.out;omega),K3.out.nk⟩
end Go.Proofs.YtomcjennjcpdnaaGreatDoor
