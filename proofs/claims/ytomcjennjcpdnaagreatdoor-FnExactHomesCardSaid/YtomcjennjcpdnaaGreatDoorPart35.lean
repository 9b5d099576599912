import Derived.Test.YtomcjennjcpdnaaGreatDoorPart33
set_option linter.unusedSimpArgs false
set_option linter.unusedVariables false
set_option maxHeartbeats 16000000
namespace Go.Proofs.YtomcjennjcpdnaaGreatDoor
set_option maxRecDepth 100000
set_option maxHeartbeats 4000000
open Go.RowKit
attribute [local go_sem] run_store_float
theorem let8 {F:CF}{l:List FnD}{f:Nat}{S:Nat->Prop}(U:UOk F l f S)(X:CX)(n:NodeD)(a1 a2:Option Addr)(c1 c2:Nat)(w:World)(h:CC F X w)(ek:n.kind=2)(r1:IntsAt w S a1 n.refs)(r2:IntsAt w S a2 n.kids)
  (hrf:refsOk F n.refs)(h0:0<n.refs.length)(K:KidsOk F l f n.kids)(B:Bud X (n.refs.length+sumAll (wk (fnD l f).nodes) n.kids+3)) :
  Calls Tryz.prog 79 #[.pointer (some ⟨F.cb,0,none⟩),.agg #[.int .i64 2,.int .i64 n.line,.int .i64 n.op,.int .i64 n.num,.float .f64 n.flt,.string n.str,.slice a1 n.refs.length c1,.slice a2 n.kids.length c2]] w (CPost F X w (.tuple #[]) (X.top+n.refs.length) (settleF X.home n.refs X.top) (2000000 * (sumAll (wk (fnD l f).nodes) n.kids+n.refs.length+1))):=by
 have t0:=B.t0;have t1:X.top<=2000000:=by have:=B.t1;omega
 obtain⟨L,hL⟩:∃ L,n.kids.length=L:=⟨_,rfl⟩;obtain⟨R,hR⟩:∃ R,n.refs.length=R:=⟨_,rfl⟩;obtain⟨b3,o3,rfl⟩:=r1.some_of h0;have N1:=hide (NBox.new (p1:=c1) (p2:=c2) ek hR hL U h r1 r2);have HU:=hide U;have H:=hide h;have HB:=hide B;have HK:=hide K;have HRF:=hide hrf;have c11:=h.c11;have hcl:=h.cbl;have hnk:=B.nk;have hR2:R<=2000000:=by have:=B.t1;omega
 have hL2:L<=200:=by have:=K.len;omega
 rw[hL,hR];rw[hR]at h0;have HL:=hide hL;have HR:=hide hR;obtain⟨W1,hW1⟩:∃ W1:World,W1=w.alloc (.cells #[.int .i64 2,.int .i64 n.line,.int .i64 n.op,.int .i64 n.num,.float .f64 n.flt,.string n.str,.slice (some ⟨b3,o3,none⟩) R c1,.slice a2 L c2] 97):=⟨_,rfl⟩;have C1:Hid (CC F X W1):=by show CC _ _ _;rw[hW1];exact h.alloc _
 have F1:Hid (Fr X.O X.O w W1):=by show Fr _ _ _ _;rw[hW1];exact Fr.refl.alloc _
 have N2:Hid (NBox S w.heap.size n (some ⟨b3,o3,none⟩) c1 a2 c2 X W1):=by show NBox _ _ _ _ _ _ _ _ _;rw[hW1];exact N1.out
 have HW1:=hide hW1;have TAIL:Hid (∀(X2:CX) (w2:World),CC F X2 w2->Fr X.O X2.O W1 w2->X2.home=X.home->X2.ms=X.ms->X.n<=X2.n->X2.n<=X.n+2000000 * (sumAll (wk (fnD l f).nodes) n.kids+1)+R->X2.nk<=X2.n->CC F { X2 with top:=X.top+R } (w2.setCell ⟨F.cb,11,none⟩ (.int .i64 (X.top+R)))/\Fr X.O X2.O W1 (w2.setCell ⟨F.cb,11,none⟩ (.int .i64 (X.top+R)))/\NBox S w.heap.size n (some ⟨b3,o3,none⟩) c1 a2 c2 { X2 with top:=X.top+R } (w2.setCell ⟨F.cb,11,none⟩ (.int .i64 (X.top+R)))):=fun X2 w2 C2 f2 _ _ _ _ _=>by
  have g2:=f2.set (a:=⟨F.cb,11,none⟩) C2.ocb (.int .i64 (X.top+R));exact⟨C2.top _,g2,N2.out.step (X1:={ X2 with top:=X.top+R }) HU.out C1.out g2⟩
 clear h B U r1 r2 K hrf hL hR hW1 N1;have n6:=N2.out.c6;have n7:=N2.out.c7;rw[HR.out]at n6;rw[HL.out]at n7;have cW:=C1.out.c11;go_enter Tryz.func79,Tryz.ntmps79
 go_upto_region 1 with fail
 rw[<-HW1.out];by_cases hA:R=1/\L=1
 ·have hq1:((R:Int)==1)=true:=by simp;omega
  have hq2:((L:Int)==1)=true:=by simp;omega
  obtain⟨b2,o2,rfl⟩:=N2.out.kids.some_of (by rw[HL.out];omega);have kc:=N2.out.kids.cellAt (j:=0) (by rw[HL.out];omega);have hm0:n.kids[0]?.getD 0∈n.kids:=by rw[List.getElem?_eq_getElem (by rw[HL.out];omega)];exact List.getElem_mem _
  obtain⟨x,hx⟩:=Int.eq_ofNat_of_zero_le (HK.out.low _ hm0).1;have J:=HK.out.one _ hm0;have hsm:=sumTo_succ (wk (fnD l f).nodes) n.kids 0 0 (by rw[HL.out];omega);have hsl:=sumTo_le (wk (fnD l f).nodes) n.kids 1;rw[hx]at kc J hsm;simp only[Int.toNat_natCast,wk,sumTo_zero,Nat.add_zero,Nat.zero_add]at kc J hsm hsl;have JJ:=hide (J X W1 C1.out ⟨t0,by have:=HB.out.t1;omega,by have:=HB.out.m1;omega,by have:=HB.out.n1;omega,hnk⟩);have hlt1:0<L:=by omega
  clear hA hm0 hx J;go_wp2_with fail
  refine JJ.out.mono ?_;rintro e w2 ⟨X2,rfl,C2,f2,s2⟩;have c11':=C2.c11;have z11':=C2.fz 11;have R2:Hid (CC F X2 w2/\Fr X.O X2.O W1 w2/\X2.home=X.home/\X2.ms=X.ms/\X.n<=X2.n/\X2.n<=X.n+2000000 * (sumAll (wk (fnD l f).nodes) n.kids+1)+R/\X2.nk<=X2.n):=⟨C2,f2,s2.home,s2.ms,s2.n1,by have:=s2.n2;omega,s2.nk⟩;clear C2 f2 s2 JJ kc
  go_upto_region 19 with fail
  obtain⟨C3,f3,N3⟩:=TAIL.out X2 w2 R2.out.1 R2.out.2.1 R2.out.2.2.1 R2.out.2.2.2.1 R2.out.2.2.2.2.1 R2.out.2.2.2.2.2.1 R2.out.2.2.2.2.2.2;generalize w2.setCell ⟨F.cb,11,none⟩ (.int .i64 (X.top+R))=w3 at *;have q6:=N3.c6;rw[HR.out]at q6;have R3:=hide (And.intro C3 (And.intro f3 N3));clear C3 f3 N3;go_wp2_with fail
  go_loopw [86] (fun q wr=>∃(k:Nat) (X3:CX),k<=R/\q=.int .i64 k/\CC F X3 wr/\Fr X.O X3.O W1 wr/\St X X3 (X.top+R) (settleF X.home (n.refs.take k) X.top) (2000000 * (sumAll (wk (fnD l f).nodes) n.kids+1)+R+k)) (fun q _=>R-(intOf q).toNat)
  case atStart=>exact⟨0,_,Nat.zero_le _,rfl,R3.out.1,R3.out.2.1,⟨rfl,by rw[List.take_zero];exact R2.out.2.2.1,R2.out.2.2.2.1,R2.out.2.2.2.2.1,by have:=R2.out.2.2.2.2.2.1;simp only;omega,R2.out.2.2.2.2.2.2⟩⟩
  case round=>
   obtain⟨k,X3,hk,rfl,C4,f4,s4⟩:=hrel;by_cases hlt:k<R
   ·have hlt':k<n.refs.length:=by rw[HR.out];exact hlt
    have kr:=(N2.out.refs.fr f4 (HU.out.far C1.out)).cellAt hlt';obtain⟨hv0,hv1⟩:=HRF.out k hlt';obtain⟨v,hv⟩:=Int.eq_ofNat_of_zero_le hv0;have hst:=settleF_take X.home n.refs X.top hlt';rw[hv]at kr hv1 hst;simp only[Int.toNat_natCast]at hst;have hv2:v<F.nv:=by omega
    have R4:=hide (And.intro C4 (And.intro f4 (And.intro s4 hst)));have hbn:Hid (X3.n<2400000000000):=by show _<_;have:=s4.n2;have:=HB.out.n1;omega
    clear C4 f4 s4 hst hlt' hv hv0;go_wp2_with fail
    refine(declare_any F X3 v _ _ R4.out.1 hv2 (by omega) (by omega) (by have:=hbn.out;omega) R4.out.2.2.1.nk).mono ?_;rintro e w5 ⟨X5,rfl,C5,f5,s5⟩;have R5:=hide (And.intro C5 (And.intro f5 s5));clear C5 f5 s5;go_wp2_with fail
    go_roundw
    case rel=>
     obtain⟨C4,f4,s4,hst⟩:=R4.out;obtain⟨C5,f5,s5⟩:=R5.out;exact⟨k+1,X5,hlt,by go_num,C5,f4.trans f5,⟨by rw[s5.top,s4.top],by rw[s5.home,s4.home,hst],by rw[s5.ms,s4.ms],Nat.le_trans s4.n1 s5.n1,by have:=s4.n2;have:=s5.n2;omega,s5.nk⟩⟩
    case measure=>simp[intOf];omega
   ·obtain rfl:k=R:=by omega
    have q6':=(N2.out.step HU.out C1.out f4).c6;rw[HR.out]at q6';have hI:=N2.out.refs.fr f4 (HU.out.far C1.out);have NM:=named_any F X3 (some ⟨b3,o3,none⟩) n.refs c1 S wr C4 hI (HU.out.far C4) HRF.out s4.nk;rw[HR.out]at NM;have HNM:=hide NM;have R4:=hide (And.intro f4 s4);clear C4 f4 s4 hI NM;go_wp2_with fail
    refine HNM.out.mono ?_;rintro e w5 ⟨X5,rfl,C5,f5,s5⟩;have R5:=hide (And.intro C5 (And.intro f5 s5));clear C5 f5 s5;go_wp2_with fail
    go_end0
    obtain⟨f4,s4⟩:=R4.out;obtain⟨C5,f5,s5⟩:=R5.out;have ht:n.refs.take k=n.refs:=by rw[<-HR.out,List.take_length]
    rw[ht]at s4;exact⟨X5,rfl,C5,(F1.out.trans f4).trans f5,⟨by rw[s5.top,s4.top],by rw[s5.home,s4.home],by rw[s5.ms,s4.ms],Nat.le_trans s4.n1 s5.n1,by have:=s4.n2;have:=s5.n2;omega,s5.nk⟩⟩
 ·by_cases hZ:L=0
  ·have hq2:((L:Int)==1)=false:=by simp;omega
   have hq0:((L:Int)==0)=true:=by simp;omega
   clear hZ hA;cases hq1:((R:Int)==1)
   all_goals
    go_wp2_with fail
    go_loopw [38] (fun q wr=>∃(k:Nat) (X3:CX),k<=R/\q=.int .i64 k/\CC F X3 wr/\Fr X.O X3.O W1 wr/\St X X3 (X.top+k) X.home k) (fun q _=>R-(intOf q).toNat)
    case atStart=>exact⟨0,X,Nat.zero_le _,rfl,C1.out,Fr.refl,⟨by simp,rfl,rfl,Nat.le_refl _,Nat.le_refl _,hnk⟩⟩
    case round=>
     obtain⟨k,X2,hk,rfl,C2,f2,s2⟩:=hrel;by_cases hlt:k<R
     ·have R4:=hide (And.intro C2 (And.intro f2 s2));clear C2 f2 s2;go_wp2_with fail
      refine(push_c F X2 _ R4.out.1 (by rw[R4.out.2.2.top];omega) (by rw[R4.out.2.2.top];omega) R4.out.2.2.nk).mono ?_;rintro e w4 ⟨X4,rfl,C4,f4,s4⟩;have R5:=hide (And.intro C4 (And.intro f4 s4));clear C4 f4 s4;go_wp2_with fail
      refine(load_any F X4 _ ⟨0,0,0,ByteArray.empty,0⟩ _ R5.out.1 R5.out.2.2.nk (by have:=R5.out.2.2.n2;have:=R4.out.2.2.n2;have:=HB.out.n1;omega)).mono ?_;rintro e w5 ⟨X5,rfl,C5,f5,s5⟩;have R6:=hide (And.intro C5 (And.intro f5 s5));clear C5 f5 s5;go_wp2_with fail
      go_roundw
      case rel=>
       obtain⟨C2,f2,s2⟩:=R4.out;obtain⟨C4,f4,s4⟩:=R5.out;obtain⟨C5,f5,s5⟩:=R6.out;exact⟨k+1,X5,hlt,by go_num,C5,(f2.trans f4).trans f5,⟨by rw[s5.top,s4.top,s2.top];omega,by rw[s5.home,s4.home,s2.home],by rw[s5.ms,s4.ms,s2.ms],Nat.le_trans s2.n1 (Nat.le_trans s4.n1 s5.n1),by have:=s2.n2;have:=s4.n2;have:=s5.n2;omega,s5.nk⟩⟩
      case measure=>simp[intOf];omega
     ·obtain⟨w2,hw2⟩:∃ w2,wr=w2:=⟨_,rfl⟩;subst hw2;have c11':=C2.c11;have z11':=C2.fz 11;have R2:Hid (CC F X2 wr/\Fr X.O X2.O W1 wr/\X2.home=X.home/\X2.ms=X.ms/\X.n<=X2.n/\X2.n<=X.n+2000000 * (sumAll (wk (fnD l f).nodes) n.kids+1)+R/\X2.nk<=X2.n):=⟨C2,f2,s2.home,s2.ms,s2.n1,by have:=s2.n2;omega,s2.nk⟩;clear C2 f2 s2
      go_upto_region 19 with fail
      obtain⟨C3,f3,N3⟩:=TAIL.out X2 wr R2.out.1 R2.out.2.1 R2.out.2.2.1 R2.out.2.2.2.1 R2.out.2.2.2.2.1 R2.out.2.2.2.2.2.1 R2.out.2.2.2.2.2.2;generalize wr.setCell ⟨F.cb,11,none⟩ (.int .i64 (X.top+R))=w3 at *;have q6:=N3.c6;rw[HR.out]at q6;have R3:=hide (And.intro C3 (And.intro f3 N3));clear C3 f3 N3;go_wp2_with fail
      go_loopw [86] (fun q wr=>∃(k:Nat) (X3:CX),k<=R/\q=.int .i64 k/\CC F X3 wr/\Fr X.O X3.O W1 wr/\St X X3 (X.top+R) (settleF X.home (n.refs.take k) X.top) (2000000 * (sumAll (wk (fnD l f).nodes) n.kids+1)+R+k)) (fun q _=>R-(intOf q).toNat)
      case atStart=>exact⟨0,_,Nat.zero_le _,rfl,R3.out.1,R3.out.2.1,⟨rfl,by rw[List.take_zero];exact R2.out.2.2.1,R2.out.2.2.2.1,R2.out.2.2.2.2.1,by have:=R2.out.2.2.2.2.2.1;simp only;omega,R2.out.2.2.2.2.2.2⟩⟩
      case round=>
       obtain⟨k,X3,hk,rfl,C4,f4,s4⟩:=hrel;by_cases hlt:k<R
       ·have hlt':k<n.refs.length:=by rw[HR.out];exact hlt
        have kr:=(N2.out.refs.fr f4 (HU.out.far C1.out)).cellAt hlt';obtain⟨hv0,hv1⟩:=HRF.out k hlt';obtain⟨v,hv⟩:=Int.eq_ofNat_of_zero_le hv0;have hst:=settleF_take X.home n.refs X.top hlt';rw[hv]at kr hv1 hst;simp only[Int.toNat_natCast]at hst;have hv2:v<F.nv:=by omega
        have R4:=hide (And.intro C4 (And.intro f4 (And.intro s4 hst)));have hbn:Hid (X3.n<2400000000000):=by show _<_;have:=s4.n2;have:=HB.out.n1;omega
        clear C4 f4 s4 hst hlt' hv hv0;go_wp2_with fail
        refine(declare_any F X3 v _ _ R4.out.1 hv2 (by omega) (by omega) (by have:=hbn.out;omega) R4.out.2.2.1.nk).mono ?_;rintro e w5 ⟨X5,rfl,C5,f5,s5⟩;have R5:=hide (And.intro C5 (And.intro f5 s5));clear C5 f5 s5;go_wp2_with fail
        go_roundw
        case rel=>
         obtain⟨C4,f4,s4,hst⟩:=R4.out;obtain⟨C5,f5,s5⟩:=R5.out;exact⟨k+1,X5,hlt,by go_num,C5,f4.trans f5,⟨by rw[s5.top,s4.top],by rw[s5.home,s4.home,hst],by rw[s5.ms,s4.ms],Nat.le_trans s4.n1 s5.n1,by have:=s4.n2;have:=s5.n2;omega,s5.nk⟩⟩
        case measure=>simp[intOf];omega
       ·obtain rfl:k=R:=by omega
        have q6':=(N2.out.step HU.out C1.out f4).c6;rw[HR.out]at q6';have hI:=N2.out.refs.fr f4 (HU.out.far C1.out);have NM:=named_any F X3 (some ⟨b3,o3,none⟩) n.refs c1 S wr C4 hI (HU.out.far C4) HRF.out s4.nk;rw[HR.out]at NM;have HNM:=hide NM;have R4:=hide (And.intro f4 s4);clear C4 f4 s4 hI NM;go_wp2_with fail
        refine HNM.out.mono ?_;rintro e w5 ⟨X5,rfl,C5,f5,s5⟩;have R5:=hide (And.intro C5 (And.intro f5 s5));clear C5 f5 s5;go_wp2_with fail
        go_end0
        obtain⟨f4,s4⟩:=R4.out;obtain⟨C5,f5,s5⟩:=R5.out;have ht:n.refs.take k=n.refs:=by rw[<-HR.out,List.take_length]
        rw[ht]at s4;exact⟨X5,rfl,C5,(F1.out.trans f4).trans f5,⟨by rw[s5.top,s4.top],by rw[s5.home,s4.home],by rw[s5.ms,s4.ms],Nat.le_trans s4.n1 s5.n1,by have:=s4.n2;have:=s5.n2;omega,s5.nk⟩⟩
  ·have hq0:((L:Int)==0)=false:=by simp;omega
   have hq12:((R:Int)==1)=false\/(((R:Int)==1)=true/\((L:Int)==1)=false):=by
    by_cases e:R=1
    ·exact .inr ⟨by simp;omega,by simp;omega⟩
    ·exact .inl (by simp;omega)
   clear hA hZ;have hLp:Hid (True):=trivial;have z11w:=C1.out.fz 11;have S1:Hid (CC F { X with top:=X.top+R } (W1.setCell ⟨F.cb,11,none⟩ (.int .i64 (X.top+R)))/\Fr X.O X.O W1 (W1.setCell ⟨F.cb,11,none⟩ (.int .i64 (X.top+R)))):=⟨C1.out.top _,Fr.refl.set (a:=⟨F.cb,11,none⟩) C1.out.ocb _⟩;rcases hq12 with hq1 | ⟨hq1,hq2⟩
   all_goals
    go_wp2_with fail
    refine(use_any F _ _ _ S1.out.1).mono ?_;rintro e w2 ⟨r,rfl,C2,f2⟩;obtain⟨X2,hX2⟩:∃ X2:CX,X2={ X with top:=X.top+R,rg:=r }:=⟨_,rfl⟩;have C2':CC F X2 w2:=by rw[hX2];exact C2
    have f2':Fr X.O X2.O W1 w2:=by rw[hX2];exact S1.out.2.trans f2
    have e2:Hid (X2.top=X.top+R/\X2.home=X.home/\X2.ms=X.ms/\X2.n=X.n/\X2.nk=X.nk):=by show _/\_;rw[hX2];exact⟨rfl,rfl,rfl,rfl,rfl⟩
    have N4:=N2.out.step HU.out C1.out f2';have q7:=N4.c7;rw[HL.out]at q7;have LS:=list_any HU.out X2 a2 n.kids c2 w2 C2' N4.kids (HB.out.moved e2.out.1 e2.out.2.2.1 e2.out.2.2.2.1 e2.out.2.2.2.2 (by omega) (by have:=HB.out.t1;have:=HR.out;omega) (by omega)) HK.out.len HK.out.low HK.out.one HK.out.many;rw[HL.out,e2.out.1,e2.out.2.1]at LS;have HLS:=hide LS;have R0:=hide f2';clear C2 f2 C2' f2' N4 LS hX2;go_wp2_with fail
    refine HLS.out.mono ?_;rintro e w3 ⟨X3,rfl,C3,f3,s3⟩;have s3':X3.home=X.home/\X3.ms=X.ms/\X.n<=X3.n/\X3.n<=X.n+2000000 * sumAll (wk (fnD l f).nodes) n.kids+201/\X3.nk<=X3.n:=⟨s3.home,s3.ms.trans e2.out.2.2.1,Nat.le_trans (Nat.le_of_eq e2.out.2.2.2.1.symm) s3.n1,Nat.le_trans s3.n2 (by have:=e2.out.2.2.2.1;omega),s3.nk⟩;have R3':=hide (And.intro C3 (And.intro (R0.out.trans f3) s3'));clear C3 f3 s3 s3' HLS;go_wp2_with fail
    go_loopw [7] (fun q wr=>∃(k:Nat) (X4:CX),k<=R/\q=.int .i64 k/\CC F X4 wr/\Fr X.O X4.O W1 wr/\X4.home=X.home/\X4.ms=X.ms/\X.n<=X4.n/\X4.n<=X.n+2000000 * sumAll (wk (fnD l f).nodes) n.kids+201+k/\X4.nk<=X4.n) (fun q _=>R-(intOf q).toNat)
    case atStart=>exact⟨0,X3,Nat.zero_le _,rfl,R3'.out.1,R3'.out.2.1,R3'.out.2.2⟩
    case round=>
     obtain⟨k,X4,hk,rfl,C4,f4,o1,o2,o3,o4,o5⟩:=hrel;have R4:=hide (And.intro C4 (And.intro f4 (And.intro o1 (And.intro o2 (And.intro o3 (And.intro o4 o5))))));have hbn:Hid (X4.n<2400000000000):=by show _<_;have:=HB.out.n1;have:=HR.out;omega
     clear C4 f4 o1 o2 o3 o4 o5;by_cases hlt:k<R
     ·go_wp2_with fail
      refine(put_c F X4 _ _ _ _ _ _ R4.out.1 hbn.out R4.out.2.2.2.2.2.2).mono ?_;rintro e w5 ⟨X5,rfl,C5,f5,s5,_⟩;have R5:=hide (And.intro C5 (And.intro f5 s5));clear C5 f5 s5;go_wp2_with fail
      go_roundw
      case rel=>
       obtain⟨C4,f4,o1,o2,o3,o4,o5⟩:=R4.out;obtain⟨C5,f5,s5⟩:=R5.out;exact⟨k+1,X5,hlt,by go_num,C5,f4.trans f5,by rw[s5.home,o1],by rw[s5.ms,o2],Nat.le_trans o3 s5.n1,by have:=s5.n2;omega,s5.nk⟩
      case measure=>simp[intOf];omega
     ·go_wp2_with fail
      refine(put_c F X4 _ _ _ _ _ _ R4.out.1 hbn.out R4.out.2.2.2.2.2.2).mono ?_;rintro e w6 ⟨X6,rfl,C6,f6,s6,_⟩;have c11':=C6.c11;have z11':=C6.fz 11;have R2:Hid (CC F X6 w6/\Fr X.O X6.O W1 w6/\X6.home=X.home/\X6.ms=X.ms/\X.n<=X6.n/\X6.n<=X.n+2000000 * (sumAll (wk (fnD l f).nodes) n.kids+1)+R/\X6.nk<=X6.n):=by
       obtain⟨C4,f4,o1,o2,o3,o4,o5⟩:=R4.out;exact⟨C6,f4.trans f6,by rw[s6.home,o1],by rw[s6.ms,o2],Nat.le_trans o3 s6.n1,by have:=s6.n2;omega,s6.nk⟩
      clear C6 f6 s6
      go_upto_region 19 with fail
      obtain⟨C3,f3,N3⟩:=TAIL.out X6 w6 R2.out.1 R2.out.2.1 R2.out.2.2.1 R2.out.2.2.2.1 R2.out.2.2.2.2.1 R2.out.2.2.2.2.2.1 R2.out.2.2.2.2.2.2;generalize w6.setCell ⟨F.cb,11,none⟩ (.int .i64 (X.top+R))=w3 at *;have q6:=N3.c6;rw[HR.out]at q6;have R3:=hide (And.intro C3 (And.intro f3 N3));clear C3 f3 N3;go_wp2_with fail
      go_loopw [86] (fun q wr=>∃(k:Nat) (X3:CX),k<=R/\q=.int .i64 k/\CC F X3 wr/\Fr X.O X3.O W1 wr/\St X X3 (X.top+R) (settleF X.home (n.refs.take k) X.top) (2000000 * (sumAll (wk (fnD l f).nodes) n.kids+1)+R+k)) (fun q _=>R-(intOf q).toNat)
      case atStart=>exact⟨0,_,Nat.zero_le _,rfl,R3.out.1,R3.out.2.1,⟨rfl,by rw[List.take_zero];exact R2.out.2.2.1,R2.out.2.2.2.1,R2.out.2.2.2.2.1,by have:=R2.out.2.2.2.2.2.1;simp only;omega,R2.out.2.2.2.2.2.2⟩⟩
      case round=>
       obtain⟨k,X3,hk,rfl,C4,f4,s4⟩:=hrel;by_cases hlt:k<R
       ·have hlt':k<n.refs.length:=by rw[HR.out];exact hlt
        have kr:=(N2.out.refs.fr f4 (HU.out.far C1.out)).cellAt hlt';obtain⟨hv0,hv1⟩:=HRF.out k hlt';obtain⟨v,hv⟩:=Int.eq_ofNat_of_zero_le hv0;have hst:=settleF_take X.home n.refs X.top hlt';rw[hv]at kr hv1 hst;simp only[Int.toNat_natCast]at hst;have hv2:v<F.nv:=by omega
        have R4:=hide (And.intro C4 (And.intro f4 (And.intro s4 hst)));have hbn:Hid (X3.n<2400000000000):=by show _<_;have:=s4.n2;have:=HB.out.n1;omega
        clear C4 f4 s4 hst hlt' hv hv0;go_wp2_with fail
        refine(declare_any F X3 v _ _ R4.out.1 hv2 (by omega) (by omega) (by have:=hbn.out;omega) R4.out.2.2.1.nk).mono ?_;rintro e w5 ⟨X5,rfl,C5,f5,s5⟩;have R5:=hide (And.intro C5 (And.intro f5 s5));clear C5 f5 s5;go_wp2_with fail
        go_roundw
        case rel=>
         obtain⟨C4,f4,s4,hst⟩:=R4.out;obtain⟨C5,f5,s5⟩:=R5.out;exact⟨k+1,X5,hlt,by go_num,C5,f4.trans f5,⟨by rw[s5.top,s4.top],by rw[s5.home,s4.home,hst],by rw[s5.ms,s4.ms],Nat.le_trans s4.n1 s5.n1,by have:=s4.n2;have:=s5.n2;omega,s5.nk⟩⟩
        case measure=>simp[intOf];omega
       ·obtain rfl:k=R:=by omega
        have q6':=(N2.out.step HU.out C1.out f4).c6;rw[HR.out]at q6';have hI:=N2.out.refs.fr f4 (HU.out.far C1.out);have NM:=named_any F X3 (some ⟨b3,o3,none⟩) n.refs c1 S wr C4 hI (HU.out.far C4) HRF.out s4.nk;rw[HR.out]at NM;have HNM:=hide NM;have R4:=hide (And.intro f4 s4);clear C4 f4 s4 hI NM;go_wp2_with fail
        refine HNM.out.mono ?_;rintro e w5 ⟨X5,rfl,C5,f5,s5⟩;have R5:=hide (And.intro C5 (And.intro f5 s5));clear C5 f5 s5;go_wp2_with fail
        go_end0
        obtain⟨f4,s4⟩:=R4.out;obtain⟨C5,f5,s5⟩:=R5.out;have ht:n.refs.take k=n.refs:=by rw[<-HR.out,List.take_length]
        rw[ht]at s4;exact⟨X5,rfl,C5,(F1.out.trans f4).trans f5,⟨by rw[s5.top,s4.top],by rw[s5.home,s4.home],by rw[s5.ms,s4.ms],Nat.le_trans s4.n1 s5.n1,by have:=s4.n2;have:=s5.n2;omega,s5.nk⟩⟩
end Go.Proofs.YtomcjennjcpdnaaGreatDoor
