import Derived.Test.YtomcjennjcpdnaaGreatDoorPart36
import Derived.Test.YtomcjennjcpdnaaGreatDoorPart22
import Derived.Test.YtomcjennjcpdnaaGreatDoorPart32
import Derived.Test.YtomcjennjcpdnaaGreatDoorPart42
set_option linter.unusedSimpArgs false
set_option linter.unusedVariables false
set_option maxHeartbeats 16000000
namespace Go.Proofs.YtomcjennjcpdnaaGreatDoor
set_option maxRecDepth 100000
set_option maxHeartbeats 4000000
open Go.RowKit
attribute [local go_sem] run_store_float
structure Tgt (F:CF)(ns:List NodeD)(ks:List Int)(j x:Nat):Prop where
 kid:ks[j]?.getD 0=(x:Int)
 lt:x<ns.length
 idx:(nd ns x).kind=33->∃ g0 g1:Nat,(nd ns x).kids=[(g0:Int),(g1:Int)]/\OneOk F ns g0/\OneOk F ns g1/\Wt ns g0+Wt ns g1+4<=Wt ns x
 var:(nd ns x).kind=26->(nd ns x).refs.length=1/\∃ v:Nat,(nd ns x).refs[0]?.getD 0=(v:Int)/\v<F.nv
 up:(nd ns x).kind=27->(nd ns x).refs.length=1
 wt:sumTo (wk ns) ks (j+1)=sumTo (wk ns) ks j+Wt ns x/\4<=Wt ns x
theorem tgt_of {F:CF}{l:List FnD}{f:Nat}{S:Nat->Prop}(U:UOk F l f S)(H:ShOk l f F.nv){i:Nat}(hi:i<(fnD l f).nodes.length){j:Nat}(hj:j<(nd (fnD l f).nodes i).kids.length):∃ x,Tgt F (fnD l f).nodes (nd (fnD l f).nodes i).kids j x:=by
 have T:=H.tree;have hm:(nd (fnD l f).nodes i).kids[j]?.getD 0∈(nd (fnD l f).nodes i).kids:=by rw[List.getElem?_eq_getElem hj];exact List.getElem_mem _
 obtain⟨h0,h1⟩:=kids_lt T hi hm;obtain⟨x,hx⟩:=Int.eq_ofNat_of_zero_le h0;have hxl:x<(fnD l f).nodes.length:=by omega
 have hs:=H.shape x hxl;have hW:=Wt_eq T hxl;have hsm:=sumTo_succ (wk (fnD l f).nodes) (nd (fnD l f).nodes i).kids j 0 hj;rw[hx]at hsm;unfold own1 at hW;refine⟨x,hx,hxl,fun e=>?_,fun e=>⟨sh_refs1 hs e (by decide),H.var x hxl e⟩,fun e=>sh_refs1 hs e (by decide),?_,by omega⟩
 ·obtain⟨g0,g1,e1,e2,e3,e4⟩:=kids_two T hxl (sh_kids2 hs e (by decide));exact⟨g0,g1,e1,(one_many U H g0 (by omega)).1,(one_many U H g1 (by omega)).1,by omega⟩
 ·simpa only[wk,Int.toNat_natCast]using hsm
theorem sumAll_drop {α:Type}(f:α->Nat)(l:List α)(k:Nat):sumAll f l=sumTo f l k+sumAll f (l.drop k):=by
 unfold sumAll sumTo;rw[<-List.sum_append,<-List.map_append,List.take_append_drop]
theorem set8 {F:CF}{l:List FnD}{f:Nat}{S:Nat->Prop}(U:UOk F l f S)(H:ShOk l f F.nv)(X:CX)(i:Nat)(hi:i<(fnD l f).nodes.length)(hk:(nd (fnD l f).nodes i).kind=3)(n:NodeD)(en:n=nd (fnD l f).nodes i)(a1:Option Addr)(c1 b2 o2 c2 L:Nat)(hL:n.kids.length=L)(w:World)(h:CC F X w)(r1:IntsAt w S a1 n.refs)(r2:IntsAt w S (some ⟨b2,o2,none⟩) n.kids)(r3:L<=c2)
  (B:Bud X (sumAll (wk (fnD l f).nodes) n.kids+3)) :
  Calls Tryz.prog 80 #[.pointer (some ⟨F.cb,0,none⟩),.agg #[.int .i64 3,.int .i64 n.line,.int .i64 n.op,.int .i64 n.num,.float .f64 n.flt,.string n.str,.slice a1 n.refs.length c1,.slice (some ⟨b2,o2,none⟩) L c2]] w (CPost F X w (.tuple #[]) X.top X.home (2000000 * (sumAll (wk (fnD l f).nodes) n.kids+1))):=by
 have hb3:=sh_3 (H.shape i hi) hk;rw[<-en]at hb3 hk;obtain⟨k,hkn⟩:∃ k:Nat,n.num=k:=⟨n.num.toNat,by omega⟩;rw[hkn,hL]at hb3;have h200:L<=200:=by have:=(kids_all H.tree hi).2.1;rw[<-en]at this;omega
 have hkL:1<=k/\k<L:=by omega
 have hsd:=sumAll_drop (wk (fnD l f).nodes) n.kids k;have ONE:Hid (∀ x,x<(fnD l f).nodes.length->OneOk F (fnD l f).nodes x):=fun x hx=>(one_many U H x hx).1;have TG:Hid (∀ j,j<L->∃ x,Tgt F (fnD l f).nodes n.kids j x):=fun j hj=>by
  have:=tgt_of (S:=S) U H hi (j:=j) (by rw[<-en];omega);rw[<-en]at this;exact this
 have KO:Hid (KidsOk F l f (n.kids.drop k)):=by
  have hm:∀ x∈n.kids.drop k,0<=x/\x.toNat<i:=fun x hx=>kids_lt H.tree hi (by rw[<-en];exact List.mem_of_mem_drop hx);exact⟨by rw[List.length_drop];omega,fun x hx=>⟨(hm x hx).1,by have:=(hm x hx).2;omega⟩,fun x hx=>(one_many U H _ (by have:=(hm x hx).2;omega)).1,fun x hx hq=>(one_many U H _ (by have:=(hm x hx).2;omega)).2 hq⟩
 have t0:=B.t0;have t1:X.top<=2000000:=by have:=B.t1;omega
 have N1:=hide (NBox.new (p1:=c1) (p2:=c2) hk rfl hL U h r1 r2);have HU:=hide U;have HB:=hide B;have HSD:=hide hsd;have HL:=hide hL;have HKN:=hide hkn;obtain⟨W1,hW1⟩:∃ W1:World,W1=w.alloc (.cells #[.int .i64 3,.int .i64 n.line,.int .i64 n.op,.int .i64 n.num,.float .f64 n.flt,.string n.str,.slice a1 n.refs.length c1,.slice (some ⟨b2,o2,none⟩) L c2] 97):=⟨_,rfl⟩;have F1:Hid (Fr X.O X.O w W1):=by show Fr _ _ _ _;rw[hW1];exact Fr.refl.alloc _
 have K1:Hid (Cur F X W1 S w.heap.size n a1 c1 (some ⟨b2,o2,none⟩) c2 X.ms X.top X.home 0 X W1):=by show Cur _ _ _ _ _ _ _ _ _ _ _ _ _ _ _ _;rw[hW1];exact Cur.start U (h.alloc _) N1.out B.nk
 have HW1:=hide hW1;have kid:Hid (∀{t hh d Y w'},Cur F X W1 S w.heap.size n a1 c1 (some ⟨b2,o2,none⟩) c2 X.ms t hh d Y w'->w'.cell? ⟨w.heap.size,7,none⟩=some (.slice (some ⟨b2,o2,none⟩) L c2)/\w'.cell? ⟨w.heap.size,3,none⟩=some (.int .i64 (k:Int))/\w'.cell? ⟨F.cb,11,none⟩=some (.int .i64 t)):=fun K=>by
  have q7:=K.nb.c7;have q3:=K.nb.c3;have q11:=K.c.c11;rw[HL.out]at q7;rw[HKN.out]at q3;rw[K.top]at q11;exact⟨q7,q3,q11⟩
 clear h B U r1 r2 hW1 N1 hsd hL hb3 hkn hi en H;go_enter Tryz.func80,Tryz.ntmps80
 go_upto_region 1 with fail
 rw[<-HW1.out];obtain⟨q7,q3,q11⟩:=kid.out K1.out;go_wp2_with fail
 clear q7 q3 q11;go_loopw [6] (fun q wr=>∃(j:Nat) (Y:CX) (t:Int),j<=k/\q=.int .i64 j/\Cur F X W1 S w.heap.size n a1 c1 (some ⟨b2,o2,none⟩) c2 X.ms t X.home (2000000 * sumTo (wk (fnD l f).nodes) n.kids j) Y wr/\X.top<=t/\t+j<=X.top+sumTo (wk (fnD l f).nodes) n.kids j) (fun q _=>k-(intOf q).toNat)
 case atStart=>exact⟨0,X,X.top,Nat.zero_le _,rfl,K1.out.cast rfl rfl (by omega),Int.le_refl _,by simp[sumTo]⟩
 case round=>
  obtain⟨j,Y1,t,hjk,rfl,Z1,ta,tb⟩:=hrel;clear K1;by_cases hlt:j<k
  ·obtain⟨x,G⟩:=TG.out j (by omega);have hlt':j<n.kids.length:=by rw[HL.out];omega
   have kc:=Z1.nb.kids.cellAt hlt';rw[G.kid]at kc;obtain⟨q7,_,_⟩:=kid.out Z1;have hnd:=hide (node_any HU.out Y1 x wr Z1.c G.lt);have hle:=sumTo_le (wk (fnD l f).nodes) n.kids (j+1);have Z1:=hide Z1;have hlL:j<L:=by omega
   have HG:=hide G;have HLE:=hide hle;have hw4:=G.wt.2;have hw5:=hide G.wt.1;clear hlt' G hle;go_wp2_with fail
   refine hnd.out.mono ?_;rintro e w4 ⟨y1,z1,y2,z2,rfl,v1,v2,v3,b4⟩;unfold nodeV;have Z2:=hide (Z1.out.below HU.out b4);have v1':=v1.keep b4 (fun b hb=>(HU.out.far Z1.out.c b hb).1);have v2':=v2.keep b4 (fun b hb=>(HU.out.far Z1.out.c b hb).1);clear v1 v2 b4 q7 kc;by_cases hd:(nd (fnD l f).nodes x).kind=33
   ·obtain⟨g0,g1,gk,J0,J1,gw⟩:=HG.out.idx hd;have gl:(nd (fnD l f).nodes x).kids.length=2:=by rw[gk];rfl
    obtain⟨b3,o3,rfl⟩:=v2'.some_of (by omega);have N4:=hide (NBox.new (p1:=z1) (p2:=z2) hd rfl gl HU.out Z2.out.c v1' v2');obtain⟨W4,hW4⟩:∃ W4:World,W4=w4.alloc (.cells #[.int .i64 33,.int .i64 (nd (fnD l f).nodes x).line,.int .i64 (nd (fnD l f).nodes x).op,.int .i64 (nd (fnD l f).nodes x).num,.float .f64 (nd (fnD l f).nodes x).flt,.string (nd (fnD l f).nodes x).str,.slice y1 (nd (fnD l f).nodes x).refs.length z1,.slice (some ⟨b3,o3,none⟩) 2 z2] 97):=⟨_,rfl⟩;have Z4:Hid (Cur F X W1 S w.heap.size n a1 c1 (some ⟨b2,o2,none⟩) c2 X.ms t X.home (2000000 * sumTo (wk (fnD l f).nodes) n.kids j) Y1 W4):=by show Cur _ _ _ _ _ _ _ _ _ _ _ _ _ _ _ _;rw[hW4];exact Z2.out.below HU.out ((Below.refl _ _).alloc (Nat.le_refl _) _)
    have N4:Hid (NBox S w4.heap.size (nd (fnD l f).nodes x) y1 z1 (some ⟨b3,o3,none⟩) z2 Y1 W4):=by show NBox _ _ _ _ _ _ _ _ _;rw[hW4];exact N4.out
    have HW4:=hide hW4;have gc:Hid (∀{Y w'},NBox S w4.heap.size (nd (fnD l f).nodes x) y1 z1 (some ⟨b3,o3,none⟩) z2 Y w'->w'.cell? ⟨w4.heap.size,0,none⟩=some (.int .i64 33)/\w'.cell? ⟨w4.heap.size,7,none⟩=some (.slice (some ⟨b3,o3,none⟩) 2 z2)/\w'.cell? ⟨b3,o3,none⟩=some (.int .i64 (g0:Int))/\w'.cell? ⟨b3,o3+1,none⟩=some (.int .i64 (g1:Int))):=fun N=>by
     have e0:=N.c0;have e7:=N.c7;have u0:=N.kids.cellAt (j:=0) (by omega);have u1:=N.kids.cellAt (j:=1) (by omega);rw[hd]at e0;rw[gl]at e7;simp only[gk,List.getElem?_cons_succ,List.getElem?_cons_zero,Option.getD_some,Nat.add_zero]at u0 u1;exact⟨e0,e7,u0,u1⟩
    rw[hd,gl];clear v1' v2' hW4 gk hd gl
    go_upto_region 7 with fail
    rw[<-HW4.out];obtain⟨e0,e7,u0,u1⟩:=gc.out N4.out;go_wp2_with fail
    refine(J0 Y1 _ Z4.out.c ⟨by rw[Z4.out.top];omega,by rw[Z4.out.top];have:=HB.out.t1;have:=HLE.out;have:=hw5.out;omega,by rw[Z4.out.ms];have:=HB.out.m1;have:=HLE.out;have:=hw5.out;omega,by have:=Z4.out.n2;have:=HB.out.n1;have:=HLE.out;have:=hw5.out;omega,Z4.out.nk⟩).mono ?_;rw[Z4.out.top,Z4.out.home];rintro e w5 P;obtain⟨Y2,rfl,Z5,jj,gg⟩:=Z4.out.step HU.out P;have N5:=hide (N4.out.step HU.out Z4.out.c gg);have Z5:=hide Z5;clear P jj gg e0 e7 u0 u1;obtain⟨e0,e7,u0,u1⟩:=gc.out N5.out;go_wp2_with fail
    refine(J1 Y2 _ Z5.out.c ⟨by rw[Z5.out.top];omega,by rw[Z5.out.top];have:=HB.out.t1;have:=HLE.out;have:=hw5.out;omega,by rw[Z5.out.ms];have:=HB.out.m1;have:=HLE.out;have:=hw5.out;omega,by have:=Z5.out.n2;have:=HB.out.n1;have:=HLE.out;have:=hw5.out;omega,Z5.out.nk⟩).mono ?_;rw[Z5.out.top,Z5.out.home];rintro e w6 P;obtain⟨Y3,rfl,Z6,jj,gg⟩:=Z5.out.step HU.out P;have Z6:=hide Z6;clear P jj gg e0 e7 u0 u1;go_wp2_with fail
    go_roundw
    case rel=>exact⟨j+1,Y3,t+1+1,hlt,by go_num,Z6.out.cast rfl rfl (by have:=hw5.out;omega),by omega,by have:=hw5.out;push_cast;omega⟩
    case measure=>simp[intOf];omega
   ·have hd':((nd (fnD l f).nodes x).kind==33)=false:=by simpa using hd
    clear hd v1' v2';have Z3:Hid (∀ o,Cur F X W1 S w.heap.size n a1 c1 (some ⟨b2,o2,none⟩) c2 X.ms t X.home (2000000 * sumTo (wk (fnD l f).nodes) n.kids j) Y1 (w4.alloc o)):=fun o=>Z2.out.below HU.out ((Below.refl _ _).alloc (Nat.le_refl _) _);go_wp2_with fail
    go_roundw
    case rel=>exact⟨j+1,Y1,t,hlt,by go_num,(Z3.out _).cast rfl rfl (by have:=hw5.out;omega),ta,by have:=hw5.out;push_cast;omega⟩
    case measure=>simp[intOf];omega
  ·obtain rfl:j=k:=by omega
   have K3:=hide Z1;have hst:=sumTo_le (wk (fnD l f).nodes) n.kids j;have HST:=hide hst;clear Z1 hst;obtain⟨q7,_,q11⟩:=kid.out K3.out;have tt1:t+j<=2000000:=by have:=HB.out.t1;have:=HST.out;omega
   have cc:=K3.out.c.cbl;by_cases hA:j=1/\L=2
   ·obtain⟨x,G⟩:=TG.out 1 (by omega);have kc:=K3.out.nb.kids.cellAt (j:=1) (by rw[HL.out];omega);rw[G.kid]at kc;have hle:=sumTo_le (wk (fnD l f).nodes) n.kids (1+1);have hx1:=hide (show sumTo (wk (fnD l f).nodes) n.kids j+Wt (fnD l f).nodes x<=sumAll (wk (fnD l f).nodes) n.kids by have:=G.wt.1;rw[hA.1];omega);have hjb:((j:Int)==1)=true:=by simp;omega
    have hlb:((L:Int)==2)=true:=by simp;omega
    have h1L:1<L:=by omega
    have J:=hide ((ONE.out x G.lt) Y1 _ K3.out.c ⟨by rw[K3.out.top];omega,by rw[K3.out.top];have:=HB.out.t1;have:=hx1.out;omega,by rw[K3.out.ms];have:=HB.out.m1;have:=hx1.out;omega,by have:=K3.out.n2;have:=HB.out.n1;have:=hx1.out;omega,K3.out.nk⟩);rw[K3.out.top,K3.out.home]at J;clear G hle hA;go_wp2_with fail
    refine J.out.mono ?_;rintro e w4 P;obtain⟨YE,rfl,KE,jj,gg⟩:=K3.out.step HU.out P;obtain⟨tE,htE⟩:∃ z,z=t+1:=⟨_,rfl⟩;obtain⟨dE,hdE⟩:∃ z,z=2000000 * sumTo (wk (fnD l f).nodes) n.kids j+2000000 * Wt (fnD l f).nodes x:=⟨_,rfl⟩;have KE:=hide (KE.cast (d':=dE+((0:Nat))) htE.symm rfl (by omega));have hdE:Hid (dE<=2000000 * sumAll (wk (fnD l f).nodes) n.kids):=by show _<=_;have:=hx1.out;omega
    have htE2:0<=tE/\tE<=2000001:=by omega
    clear P jj gg kc q7 q11 htE;go_wp2_with fail
    go_loopw [11,12] (fun av q wr=>∃(m:Nat) (Y:CX) (a:Int),m<=j/\av=.int .i64 a/\q=.int .i64 m/\Cur F X W1 S w.heap.size n a1 c1 (some ⟨b2,o2,none⟩) c2 X.ms tE X.home (dE+m) Y wr/\0<=a/\a<=X.top+2 * m) (fun _ q _=>j-(intOf q).toNat)
    case atStart=>exact⟨0,YE,X.top,Nat.zero_le _,rfl,rfl,KE.out,t0,by omega⟩
    case round=>
     obtain⟨m,Y8,a,hmk,rfl,rfl,Z1,a0,a1'⟩:=hrel;clear KE
     try clear q7
     try clear q11
     by_cases hlt3:m<j
     ·obtain⟨x,G⟩:=TG.out m (by omega);have hlt':m<n.kids.length:=by rw[HL.out];omega
      have kc:=Z1.nb.kids.cellAt hlt';rw[G.kid]at kc;obtain⟨q7,_,_⟩:=kid.out Z1;have hnd:=hide (node_any HU.out Y8 x wr Z1.c G.lt);have Z1:=hide Z1;have hlL:m<L:=by omega
      have HG:=hide G;clear hlt' G;go_wp2_with fail
      refine hnd.out.mono ?_;rintro e w9 ⟨y1,z1,y2,z2,rfl,v1,v2,v3,b4⟩;unfold nodeV;have Z2:=hide (Z1.out.below HU.out b4);have v1':=v1.keep b4 (fun b hb=>(HU.out.far Z1.out.c b hb).1);have v2':=v2.keep b4 (fun b hb=>(HU.out.far Z1.out.c b hb).1);have N9:=hide (NBox.new (p1:=z1) (p2:=z2) rfl rfl rfl HU.out Z2.out.c v1' v2');obtain⟨W9,hW9⟩:∃ W9:World,W9=w9.alloc (.cells #[.int .i64 (nd (fnD l f).nodes x).kind,.int .i64 (nd (fnD l f).nodes x).line,.int .i64 (nd (fnD l f).nodes x).op,.int .i64 (nd (fnD l f).nodes x).num,.float .f64 (nd (fnD l f).nodes x).flt,.string (nd (fnD l f).nodes x).str,.slice y1 (nd (fnD l f).nodes x).refs.length z1,.slice y2 (nd (fnD l f).nodes x).kids.length z2] 97):=⟨_,rfl⟩;have Z3:Hid (Cur F X W1 S w.heap.size n a1 c1 (some ⟨b2,o2,none⟩) c2 X.ms tE X.home (dE+m) Y8 W9):=by show Cur _ _ _ _ _ _ _ _ _ _ _ _ _ _ _ _;rw[hW9];exact Z2.out.below HU.out ((Below.refl _ _).alloc (Nat.le_refl _) _)
      have N9:Hid (NBox S w9.heap.size (nd (fnD l f).nodes x) y1 z1 y2 z2 Y8 W9):=by show NBox _ _ _ _ _ _ _ _ _;rw[hW9];exact N9.out
      have HW9:=hide hW9;clear v1 v2 b4 v1' v2' hW9 q7 kc
      go_upto_region 26 with fail
      rw[<-HW9.out];have e0:=N9.out.c0;have e1:=N9.out.c1;have e2:=N9.out.c2;have e3:=N9.out.c3;have e4:=N9.out.c4;have e5:=N9.out.c5;have e6:=N9.out.c6;have e7:=N9.out.c7;go_wp2_with fail
      refine(store8 HU.out Y8 (nd (fnD l f).nodes x) y1 y2 z1 z2 _ _ _ Z3.out.c N9.out.refs HG.out.var HG.out.up (by have:=Z3.out.n2;have:=HB.out.n1;have:=hdE.out;omega) Z3.out.nk (by omega) (by omega)).mono ?_;rw[Z3.out.top,Z3.out.home];rintro e w10 P;obtain⟨Y9,rfl,Z4,jj,gg⟩:=Z3.out.step HU.out P;have N10:=hide (N9.out.step HU.out Z3.out.c gg);have Z4:=hide Z4;clear P jj gg e0 e1 e2 e3 e4 e5 e6 e7;have e0:=N10.out.c0;by_cases hd:(nd (fnD l f).nodes x).kind=33
      ·go_wp2_with fail
       go_roundw
       case rel=>exact⟨m+1,Y9,a+2,hlt3,by go_num,by go_num,Z4.out.cast rfl rfl (by omega),by omega,by push_cast;omega⟩
       case measure=>simp[intOf];omega
      ·have hd':((nd (fnD l f).nodes x).kind==33)=false:=by simpa using hd
       clear hd;go_wp2_with fail
       go_roundw
       case rel=>exact⟨m+1,Y9,a,hlt3,rfl,by go_num,Z4.out.cast rfl rfl (by omega),a0,by push_cast;omega⟩
       case measure=>simp[intOf];omega
     ·have K9:=hide Z1;have KF:=hide (Z1.setTop HU.out X.top);obtain⟨_,_,q11⟩:=kid.out Z1;have z11:=Z1.c.fz 11;clear Z1;go_wp2_with fail
      go_end0
      exact⟨_,rfl,KF.out.c,F1.out.trans KF.out.f,KF.out.top,KF.out.home,KF.out.ms,KF.out.n1,Nat.le_trans KF.out.n2 (by have:=hdE.out;omega),KF.out.nk⟩
   ·have hAA:¬(j=1/\L=2):=hA;have PK:Hid (((j:Int)==1&&((L:Int)==2))=false):=by
     show _=false;by_cases e1:j=1
     ·have e2:¬L=2:=fun e2=>hAA ⟨e1,e2⟩;have:((L:Int)==2)=false:=by simp;omega
      rw[this,Bool.and_false]
     ·have:((j:Int)==1)=false:=by simp;omega
      rw[this,Bool.false_and]
    have hcase:((j:Int)==1)=false\/((j:Int)==1)=true/\((L:Int)==2)=false:=by
     by_cases e1:j=1
     ·exact .inr ⟨by simp;omega,by simp;omega⟩
     ·exact .inl (by simp;omega)
    have z11:=K3.out.c.fz 11;have KT:=hide (K3.out.setTop HU.out (t+j));have BT:Hid (∀ w',Cur F X W1 S w.heap.size n a1 c1 (some ⟨b2,o2,none⟩) c2 X.ms (t+j) X.home (2000000 * sumTo (wk (fnD l f).nodes) n.kids j) { Y1 with top:=t+j } w'->∀ e w2,UsePost F { Y1 with top:=t+j } w' e w2->∃ Y',e=.returned (.tuple #[])/\Cur F X W1 S w.heap.size n a1 c1 (some ⟨b2,o2,none⟩) c2 X.ms (t+j) X.home (2000000 * sumTo (wk (fnD l f).nodes) n.kids j) Y' w2/\Y'.n=Y1.n):=fun w' K e w2 P=>K.use HU.out P;clear hA hAA PK;rcases hcase with hc1 | ⟨hc1,hc2⟩
    all_goals
     go_upto_region 14 with fail
     obtain⟨w4,hw4⟩:∃ z,z=wr.setCell ⟨F.cb,11,none⟩ (.int .i64 (t+j)):=⟨_,rfl⟩;rw[<-hw4];have KT2:Hid (Cur F X W1 S w.heap.size n a1 c1 (some ⟨b2,o2,none⟩) c2 X.ms (t+j) X.home (2000000 * sumTo (wk (fnD l f).nodes) n.kids j) { Y1 with top:=t+j } w4):=by show Cur _ _ _ _ _ _ _ _ _ _ _ _ _ _ _ _;rw[hw4];exact KT.out
     clear hw4 KT q7 q11 z11;obtain⟨q7,_,q11⟩:=kid.out KT2.out;go_wp2_with fail
     refine(use_any F _ _ _ KT2.out.c).mono ?_;rintro e w5 P;obtain⟨Y5,rfl,K5,jj⟩:=KT2.out.use HU.out P;have K5:=hide K5;clear P jj q7 q11 KT2 BT;obtain⟨q7,_,q11⟩:=kid.out K5.out;have IA:Hid (IntsAt w5 S (some ⟨b2,o2+j,none⟩) (n.kids.drop j)):=by
      show IntsAt _ _ _ _;refine⟨by rw[List.length_drop,HL.out];omega,fun h0=>?_⟩;obtain⟨b',o',e,hb',hc'⟩:=K5.out.nb.kids.2 (by rw[HL.out];omega);cases e;refine⟨b2,o2+j,rfl,hb',fun m hm=>?_⟩;rw[List.length_drop]at hm;have:=hc' (j+m) (by omega);rw[List.getElem?_drop,show o2+j+m=o2+(j+m)by omega];exact this
     have B5:Hid (Bud Y5 (sumAll (wk (fnD l f).nodes) (n.kids.drop j)+2)):=by
      show Bud _ _;have ems:Y5.ms.length=X.ms.length:=by rw[K5.out.ms]
      have e2:=K5.out.n2;have e3:=HB.out.n1;have e4:=HSD.out;have e5:=HB.out.t1;have e6:=HB.out.m1;have e7:=K5.out.top;have e8:=K5.out.nk;clear hc1;generalize sumAll (wk (fnD l f).nodes) (n.kids.drop j)=sd at e4 ⊢;generalize sumAll (wk (fnD l f).nodes) n.kids=sa at e3 e4 e5 e6;generalize sumTo (wk (fnD l f).nodes) n.kids j=st at e2 e4 tb;exact⟨by omega,by omega,by omega,Nat.le_trans (m:=X.n+2000000 * (sa+3)) (by clear e3;omega) e3,e8⟩
     have LA:Hid (Calls Tryz.prog 87 #[.pointer (some ⟨F.cb,0,none⟩),.slice (some ⟨b2,o2+j,none⟩) (L-j) (c2-j)] w5 (CPost F Y5 w5 (.int .i64 Y5.top) (Y5.top+1) Y5.home (2000000 * sumAll (wk (fnD l f).nodes) (n.kids.drop j)+201))):=by
      have q:=list_any HU.out Y5 (some ⟨b2,o2+j,none⟩) (n.kids.drop j) (c2-j) w5 K5.out.c IA.out B5.out KO.out.len KO.out.low KO.out.one KO.out.many;rw[List.length_drop,HL.out]at q;exact q
     have hc3:j<c2:=by omega
     have hc4:0<c2-j:=by omega
     have hjL:j<=L:=by omega
     have hLc:L<=c2:=r3;rw[K5.out.top,K5.out.home]at LA;go_wp2_with fail
     refine LA.out.mono ?_;rintro e w6 P;obtain⟨Y6,rfl,K6,jj,gg⟩:=K5.out.step HU.out P;have K6:=hide K6;clear P jj gg q7 q11;go_wp2_with fail
     go_loopw [10] (fun q wr=>∃(m:Nat) (Y:CX),m<=j/\q=.int .i64 m/\Cur F X W1 S w.heap.size n a1 c1 (some ⟨b2,o2,none⟩) c2 X.ms (t+j+1) X.home (2000000 * sumTo (wk (fnD l f).nodes) n.kids j+(2000000 * sumAll (wk (fnD l f).nodes) (n.kids.drop j)+201)+m) Y wr) (fun q _=>j-(intOf q).toNat)
     case atStart=>exact⟨0,Y6,Nat.zero_le _,rfl,K6.out⟩
     case round=>
      obtain⟨m,Y7,hmk,rfl,Z1⟩:=hrel;clear K6;have Z1:=hide Z1;by_cases hlt2:m<j
      ·go_wp2_with fail
       refine(put_c F Y7 _ _ _ _ _ _ Z1.out.c (by have:=Z1.out.n2;have:=HB.out.n1;have:=HSD.out;omega) Z1.out.nk).mono ?_;rintro e w7 P;obtain⟨Y8,rfl,Z2,jj,gg⟩:=Z1.out.put HU.out P;have Z2:=hide Z2;clear P jj gg;go_wp2_with fail
       go_roundw
       case rel=>exact⟨m+1,Y8,hlt2,by go_num,Z2.out.cast rfl rfl (by omega)⟩
       case measure=>simp[intOf];omega
      ·go_wp2_with fail
       refine(put_c F Y7 _ _ _ _ _ _ Z1.out.c (by have:=Z1.out.n2;have:=HB.out.n1;have:=HSD.out;omega) Z1.out.nk).mono ?_;rintro e w7 P;obtain⟨YE,rfl,KE,jj,gg⟩:=Z1.out.put HU.out P;obtain⟨tE,htE⟩:∃ z,z=t+j+1:=⟨_,rfl⟩;obtain⟨dE,hdE'⟩:∃ z,z=2000000 * sumAll (wk (fnD l f).nodes) n.kids+402:=⟨_,rfl⟩;have KE:=hide (KE.cast (d':=dE+((0:Nat))) htE.symm rfl (by have:=HSD.out;omega));have hdE:Hid (dE<=2000000 * sumAll (wk (fnD l f).nodes) n.kids+402):=by show _<=_;omega
       have htE2:0<=tE/\tE<=2000001:=by omega
       clear P jj gg htE Z1 hdE';go_wp2_with fail
       go_loopw [11,12] (fun av q wr=>∃(m:Nat) (Y:CX) (a:Int),m<=j/\av=.int .i64 a/\q=.int .i64 m/\Cur F X W1 S w.heap.size n a1 c1 (some ⟨b2,o2,none⟩) c2 X.ms tE X.home (dE+m) Y wr/\0<=a/\a<=X.top+2 * m) (fun _ q _=>j-(intOf q).toNat)
       case atStart=>exact⟨0,YE,X.top,Nat.zero_le _,rfl,rfl,KE.out,t0,by omega⟩
       case round=>
        obtain⟨m,Y8,a,hmk,rfl,rfl,Z1,a0,a1'⟩:=hrel;clear KE
        try clear q7
        try clear q11
        by_cases hlt3:m<j
        ·obtain⟨x,G⟩:=TG.out m (by omega);have hlt':m<n.kids.length:=by rw[HL.out];omega
         have kc:=Z1.nb.kids.cellAt hlt';rw[G.kid]at kc;obtain⟨q7,_,_⟩:=kid.out Z1;have hnd:=hide (node_any HU.out Y8 x wr Z1.c G.lt);have Z1:=hide Z1;have hlL:m<L:=by omega
         have HG:=hide G;clear hlt' G;go_wp2_with fail
         refine hnd.out.mono ?_;rintro e w9 ⟨y1,z1,y2,z2,rfl,v1,v2,v3,b4⟩;unfold nodeV;have Z2:=hide (Z1.out.below HU.out b4);have v1':=v1.keep b4 (fun b hb=>(HU.out.far Z1.out.c b hb).1);have v2':=v2.keep b4 (fun b hb=>(HU.out.far Z1.out.c b hb).1);have N9:=hide (NBox.new (p1:=z1) (p2:=z2) rfl rfl rfl HU.out Z2.out.c v1' v2');obtain⟨W9,hW9⟩:∃ W9:World,W9=w9.alloc (.cells #[.int .i64 (nd (fnD l f).nodes x).kind,.int .i64 (nd (fnD l f).nodes x).line,.int .i64 (nd (fnD l f).nodes x).op,.int .i64 (nd (fnD l f).nodes x).num,.float .f64 (nd (fnD l f).nodes x).flt,.string (nd (fnD l f).nodes x).str,.slice y1 (nd (fnD l f).nodes x).refs.length z1,.slice y2 (nd (fnD l f).nodes x).kids.length z2] 97):=⟨_,rfl⟩;have Z3:Hid (Cur F X W1 S w.heap.size n a1 c1 (some ⟨b2,o2,none⟩) c2 X.ms tE X.home (dE+m) Y8 W9):=by show Cur _ _ _ _ _ _ _ _ _ _ _ _ _ _ _ _;rw[hW9];exact Z2.out.below HU.out ((Below.refl _ _).alloc (Nat.le_refl _) _)
         have N9:Hid (NBox S w9.heap.size (nd (fnD l f).nodes x) y1 z1 y2 z2 Y8 W9):=by show NBox _ _ _ _ _ _ _ _ _;rw[hW9];exact N9.out
         have HW9:=hide hW9;clear v1 v2 b4 v1' v2' hW9 q7 kc
         go_upto_region 26 with fail
         rw[<-HW9.out];have e0:=N9.out.c0;have e1:=N9.out.c1;have e2:=N9.out.c2;have e3:=N9.out.c3;have e4:=N9.out.c4;have e5:=N9.out.c5;have e6:=N9.out.c6;have e7:=N9.out.c7;go_wp2_with fail
         refine(store8 HU.out Y8 (nd (fnD l f).nodes x) y1 y2 z1 z2 _ _ _ Z3.out.c N9.out.refs HG.out.var HG.out.up (by have:=Z3.out.n2;have:=HB.out.n1;have:=hdE.out;omega) Z3.out.nk (by omega) (by omega)).mono ?_;rw[Z3.out.top,Z3.out.home];rintro e w10 P;obtain⟨Y9,rfl,Z4,jj,gg⟩:=Z3.out.step HU.out P;have N10:=hide (N9.out.step HU.out Z3.out.c gg);have Z4:=hide Z4;clear P jj gg e0 e1 e2 e3 e4 e5 e6 e7;have e0:=N10.out.c0;by_cases hd:(nd (fnD l f).nodes x).kind=33
         ·go_wp2_with fail
          go_roundw
          case rel=>exact⟨m+1,Y9,a+2,hlt3,by go_num,by go_num,Z4.out.cast rfl rfl (by omega),by omega,by push_cast;omega⟩
          case measure=>simp[intOf];omega
         ·have hd':((nd (fnD l f).nodes x).kind==33)=false:=by simpa using hd
          clear hd;go_wp2_with fail
          go_roundw
          case rel=>exact⟨m+1,Y9,a,hlt3,rfl,by go_num,Z4.out.cast rfl rfl (by omega),a0,by push_cast;omega⟩
          case measure=>simp[intOf];omega
        ·have K9:=hide Z1;have KF:=hide (Z1.setTop HU.out X.top);obtain⟨_,_,q11⟩:=kid.out Z1;have z11:=Z1.c.fz 11;clear Z1;go_wp2_with fail
         go_end0
         exact⟨_,rfl,KF.out.c,F1.out.trans KF.out.f,KF.out.top,KF.out.home,KF.out.ms,KF.out.n1,Nat.le_trans KF.out.n2 (by have:=hdE.out;omega),KF.out.nk⟩
end Go.Proofs.YtomcjennjcpdnaaGreatDoor
