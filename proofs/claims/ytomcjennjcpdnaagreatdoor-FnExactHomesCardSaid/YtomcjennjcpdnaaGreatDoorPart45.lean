import Derived.Test.YtomcjennjcpdnaaGreatDoorPart42
import Derived.Test.YtomcjennjcpdnaaGreatDoorPart31
set_option linter.unusedSimpArgs false
set_option linter.unusedVariables false
set_option maxHeartbeats 16000000
namespace Go.Proofs.YtomcjennjcpdnaaGreatDoor
set_option maxRecDepth 100000
set_option maxHeartbeats 4000000
open Go.RowKit
attribute [local go_sem] run_store_float field_kind
theorem field_refs (v0 v1 v2 v3 v4 v5 v7:Value)(a:Option Addr)(n c:Nat)(w:World):(Instr.field 97 (.agg #[v0,v1,v2,v3,v4,v5,.slice a n c,v7]) 6).run Tryz.prog w=.ok (.slice a n c) w:=by kernel_rfl
attribute [local go_sem] field_refs
structure SBox (kb:Nat)(sc:Bool)(t:Int)(Y:CX)(w:World):Prop where
 row:w.rowIs kb 103 5 (fun j=>if j=0 then .int .i64 1 else if j=1 then .bool sc else if j=2 then .int .i64 t else .slice none 0 0)
 far:¬Y.O kb
section
variable {F:CF} {X Y Y':CX} {W1 w w':World} {S:Nat->Prop} {nb kb:Nat} {n:NodeD} {a1 a2:Option Addr} {p1 p2:Nat} {ms:List MkD} {t tb:Int} {hm:Nat->Int} {d:Nat} {l:List FnD} {f:Nat} {e:Ending} {sc:Bool}
theorem SBox.fr (h:SBox kb sc tb Y w)(g:Fr Y.O Y'.O w w'):SBox kb sc tb Y' w':=⟨h.row.of_block (g.block kb h.row.lt h.far),fun ho=>(g.new kb ho).elim h.far (fun h2=>by have:=h.row.lt;omega)⟩
theorem SBox.below (h:SBox kb sc tb Y w)(g:Below w.heap.size w w'):SBox kb sc tb Y w':=h.fr (.of_below g)
theorem SBox.on (h:SBox kb sc tb Y w):SBox kb true tb Y (w.setCell ⟨kb,1,none⟩ (.bool true)):=⟨(h.row.set 1 _).congr fun j hj=>by
  by_cases e:j=1
  ·subst e;rfl
  ·simp[e],h.far⟩
theorem SBox.c0 (h:SBox kb sc tb Y w):w.cell? ⟨kb,0,none⟩=some (.int .i64 1):=h.row.cell (by omega)
theorem SBox.c1 (h:SBox kb sc tb Y w):w.cell? ⟨kb,1,none⟩=some (.bool sc):=h.row.cell (by omega)
theorem SBox.c2 (h:SBox kb sc tb Y w):w.cell? ⟨kb,2,none⟩=some (.int .i64 tb):=h.row.cell (by omega)
theorem SBox.c3 (h:SBox kb sc tb Y w):w.cell? ⟨kb,3,none⟩=some (.slice none 0 0):=h.row.cell (by omega)
theorem SBox.c4 (h:SBox kb sc tb Y w):w.cell? ⟨kb,4,none⟩=some (.slice none 0 0):=h.row.cell (by omega)
theorem Cur.markF {m:MkD}(K:Cur F X W1 S nb n a1 p1 a2 p2 ms t hm d Y w)(U:UOk F l f S)(P:MarkPost F Y m w e w'):∃ Y',e=.returned (.tuple #[])/\Cur F X W1 S nb n a1 p1 a2 p2 (ms++[m]) t hm d Y' w'/\Fr Y.O Y'.O w w':=by
 obtain⟨g,cap,rfl,C,fr⟩:=P;exact⟨_,rfl,⟨C,K.f.trans fr,K.top,K.home,by show Y.ms++[m]=_;rw[K.ms],K.n1,K.n2,K.nk,K.nb.step U K.c fr⟩,fr⟩
theorem Cur.unmarkF {m:MkD}{v3 v4:Value}(K:Cur F X W1 S nb n a1 p1 a2 p2 (ms++[m]) t hm d Y w)(U:UOk F l f S)(P:UnPost F Y ms m v3 v4 w e w'):∃ Y' v,e=.returned v/\Cur F X W1 S nb n a1 p1 a2 p2 ms t hm d Y' w'/\Fr Y.O Y'.O w w':=by
 obtain⟨a,c,rfl,C,fr,rows⟩:=P;exact⟨_,_,rfl,⟨C,K.f.trans fr,K.top,K.home,rfl,K.n1,K.n2,K.nk,K.nb.step U K.c fr⟩,fr⟩
end
theorem block8 {F:CF}{l:List FnD}{f:Nat}{S:Nat->Prop}(U:UOk F l f S)(T:TreeOk (fnD l f).nodes)(i:Nat)(hi:i<(fnD l f).nodes.length)(hk:(nd (fnD l f).nodes i).kind=1)(I:∀ k,k<i->StmOk F (fnD l f).nodes k)(hrf:∀ k,k<(fnD l f).nodes.length->(nd (fnD l f).nodes k).kind=2->refsOk F (nd (fnD l f).nodes k).refs):BlkOk F (fnD l f).nodes i:=by
 intro X w h B hb hm;obtain⟨hks,h200,hW⟩:=kids_all T hi;have hF0:hF (fnD l f).nodes i X.top X.home=blockF (fnD l f).nodes (hF (fnD l f).nodes) (nd (fnD l f).nodes i).kids X.top X.home:=by
  rw[hF_eq T hi ⟨fun e=>by omega,fun e=>by omega⟩];unfold stepF;simp only[hk]
 rw[hF0];have HBK:Hid (∀ k∈(nd (fnD l f).nodes i).kids,brkF (fnD l f).nodes k.toNat=true->hasLoop X.ms):=fun k hkm hbk=>hb (by
  rw[brkF_eq T hi,hk];simp only[Bool.or_eq_true,Bool.and_eq_true,List.any_eq_true];exact .inr ⟨.inl (.inl rfl),k,hkm,hbk⟩)
 have IK:=hide (fun k hk=>I k.toNat (hks k hk).2);have HK:Hid (∀ k∈(nd (fnD l f).nodes i).kids,0<=k/\k.toNat<(fnD l f).nodes.length):=fun k hk=>⟨(hks k hk).1,by have:=(hks k hk).2;omega⟩;have HT:=hide T;have HRF:=hide hrf;have HU:=hide U;have H:=hide h;have HB:=hide B;have HM:=hide hm;have hn:=node_any U X i w h hi;clear h U T hks I hF0 hrf hb hm;have t0:=B.t0;have t1:X.top<=2000000:=by have:=B.t1;omega
 have HW:=hide hW;clear B hW;generalize nd (fnD l f).nodes i=n at *;generalize Wt (fnD l f).nodes i=wi at *;obtain⟨L,hL⟩:∃ L,n.kids.length=L:=⟨_,rfl⟩;rw[hL]at h200;have HL:=hide hL;go_enter Tryz.func28,Tryz.ntmps28;go_wp2_with fail
 refine hn.mono ?_;rintro e w1 ⟨a1,c1,a2,c2,rfl,r1,r2,r3,b1⟩;have C1:=H.out.below b1;have r1':=r1.keep b1 (fun b hb=>(HU.out.far H.out b hb).1);have r2':=r2.keep b1 (fun b hb=>(HU.out.far H.out b hb).1);have N1:=NBox.new (p1:=c1) (p2:=c2) hk rfl hL HU.out C1 r1' r2';obtain⟨W1,hW1⟩:∃ W1:World,W1=w1.alloc (.cells #[.int .i64 1,.int .i64 n.line,.int .i64 n.op,.int .i64 n.num,.float .f64 n.flt,.string n.str,.slice a1 n.refs.length c1,.slice a2 L c2] 97):=⟨_,rfl⟩;have F1:Hid (Fr X.O X.O w W1):=by show Fr _ _ _ _;rw[hW1];exact(Fr.of_below b1).trans (Fr.refl.alloc _)
 have K1:Cur F X W1 S w1.heap.size n a1 c1 a2 c2 X.ms X.top X.home 0 X W1:=by rw[hW1];exact Cur.start HU.out (C1.alloc _) N1 HB.out.nk
 have hsz:w1.heap.size+1=W1.heap.size:=by rw[hW1];simp
 have hB1:Hid (F.B1<=W1.heap.size):=K1.c.b1;obtain⟨W2,hW2⟩:∃ W2:World,W2=W1.alloc (.cells #[.int .i64 1,.bool false,.int .i64 X.top,.slice none 0 0,.slice none 0 0] 103):=⟨_,rfl⟩;have K2:Hid (Cur F X W1 S w1.heap.size n a1 c1 a2 c2 X.ms X.top X.home 0 X W2):=by show Cur _ _ _ _ _ _ _ _ _ _ _ _ _ _ _ _;rw[hW2];exact K1.below HU.out ((Below.refl _ _).alloc (Nat.le_refl _) _)
 have S2:Hid (SBox W1.heap.size false X.top X W2):=by
  show SBox _ _ _ _ _;rw[hW2];exact⟨⟨_,Go.Deep.blk_alloc_new _ _,rfl,fun j hj=>by
   have:j=0\/j=1\/j=2\/j=3\/j=4:=by omega
   rcases this with rfl | rfl | rfl | rfl | rfl<;>rfl⟩,fun ho=>by have:=(K1.c.low _ ho).2;omega⟩
 have HW1:=hide hW1;have HW2:=hide hW2;have q11:=K1.c.c11;have hcl:=K1.c.cbl;unfold nodeV;rw[hL];clear C1 r1 r2 b1 r1' r2' N1 K1 hn hL
 go_upto_region 1 with fail
 rw[<-HW1.out];clear hW1
 go_upto_region 2 with fail
 rw[<-HW2.out];clear hW2 q11;have q7:=K2.out.nb.c7;rw[HL.out]at q7;go_wp2_with fail
 go_loopw [23] (fun q wr=>∃(k:Nat) (sc:Bool),k<=L/\q=.int .i64 k/\Cur F X W1 S w1.heap.size n a1 c1 a2 c2 X.ms X.top X.home 0 X wr/\SBox W1.heap.size sc X.top X wr) (fun q _=>L-(intOf q).toNat)
 case atStart=>exact⟨0,false,Nat.zero_le _,rfl,K2.out,S2.out⟩
 case round=>
  obtain⟨k,sc,hkL,rfl,Z1,B1⟩:=hrel;clear q7 K2 S2;by_cases hlt:k<L
  ·have hlt':k<n.kids.length:=by rw[HL.out];exact hlt
   obtain⟨b2,o2,rfl⟩:=Z1.nb.kids.some_of (by omega);have kc:=Z1.nb.kids.cellAt hlt';have hmem:n.kids[k]?.getD 0∈n.kids:=by rw[List.getElem?_eq_getElem hlt'];exact List.getElem_mem _
   obtain⟨x,hx⟩:=Int.eq_ofNat_of_zero_le (HK.out _ hmem).1;have hxl:=(HK.out _ hmem).2;rw[hx]at kc hxl;simp only[Int.toNat_natCast]at hxl;have hnd:=hide (node_any HU.out X x wr Z1.c hxl);have Z1:=hide Z1;have B1:=hide B1;clear hlt' hmem hx;go_wp2_with fail
   refine hnd.out.mono ?_;rintro e w4 ⟨y1,z1,y2,z2,rfl,_,_,_,b4⟩;unfold nodeV;have Z2:=hide (Z1.out.below HU.out b4);have B2:=hide (B1.out.below b4);have s1:=B2.out.c1;have f1:=B2.out.row.frozen 1;clear b4;by_cases hd:(nd (fnD l f).nodes x).kind=14
   ·go_wp2_with fail
    go_roundw
    case rel=>exact⟨k+1,true,hlt,by go_num,Z2.out.poke HU.out (a:=⟨W1.heap.size,1,none⟩) B2.out.far (Nat.le_refl _) hB1.out (by omega) _,B2.out.on⟩
    case measure=>simp[intOf];omega
   ·have hd':((nd (fnD l f).nodes x).kind==14)=false:=by simpa using hd
    clear hd;go_wp2_with fail
    go_roundw
    case rel=>exact⟨k+1,sc,hlt,by go_num,Z2.out,B2.out⟩
    case measure=>simp[intOf];omega
  ·have K3:=hide Z1;have S3:=hide B1;clear Z1 B1;have s1:=S3.out.c1;cases sc
   ·have K4:=hide (K3.out.cast (t':=X.top) (h':=X.home) rfl rfl (d':=1) (by omega));have S4:=hide S3.out;clear s1;have s0:=S4.out.c0;have s1:=S4.out.c1;have s2:=S4.out.c2;have s3:=S4.out.c3;have s4:=S4.out.c4;go_wp2_with fail
    refine(mark_any F X ⟨1,false,X.top⟩ _ K4.out.c (by rw[K4.out.ms];have:=HB.out.m1;omega)).mono ?_;rintro e w5 P;obtain⟨X5,rfl,K5,gg⟩:=K4.out.markF HU.out P;have S5:=hide (S4.out.fr gg);have K5:=hide K5;clear P gg s0 s1 s2 s3 s4;have q7:=K5.out.nb.c7;rw[HL.out]at q7;go_wp2_with fail
    go_loopw [48] (fun q wr=>∃(k:Nat) (Y:CX),k<=L/\q=.int .i64 k/\Cur F X W1 S w1.heap.size n a1 c1 a2 c2 (X.ms++[⟨1,false,X.top⟩]) (X.top+sumL (fnD l f).nodes (n.kids.take k)) (blockF (fnD l f).nodes (hF (fnD l f).nodes) (n.kids.take k) X.top X.home) (1+2000000 * sumTo (wk (fnD l f).nodes) n.kids k+k) Y wr/\SBox W1.heap.size false X.top Y wr) (fun q _=>L-(intOf q).toNat)
    case atStart=>exact⟨0,X5,Nat.zero_le _,rfl,K5.out.cast (by simp[sumL]) (by rw[List.take_zero];rfl) (by simp[sumTo]),S5.out⟩
    case round=>
     obtain⟨k,Y1,hkL,rfl,Z1,B1⟩:=hrel;clear q7 K5 S5 K4 S4;by_cases hlt:k<L
     ·have hlt':k<n.kids.length:=by rw[HL.out];exact hlt
      obtain⟨b2,o2,rfl⟩:=Z1.nb.kids.some_of (by omega);have kc:=Z1.nb.kids.cellAt hlt';have hmem:n.kids[k]?.getD 0∈n.kids:=by rw[List.getElem?_eq_getElem hlt'];exact List.getElem_mem _
      obtain⟨x,hx⟩:=Int.eq_ofNat_of_zero_le (HK.out _ hmem).1;have hxl:=(HK.out _ hmem).2;have J:=IK.out _ hmem;have hbk:=HBK.out _ hmem;have hsl:=sumL_le HT.out (fun k hk=>(HK.out k hk).2) k (by omega);have hsm:=sumTo_succ (wk (fnD l f).nodes) n.kids k 0 hlt';have hle:=sumTo_le (wk (fnD l f).nodes) n.kids (k+1);have e1:=take_snoc hlt';have hll:=letLen_le HT.out hxl;rw[hx]at kc hxl J hbk hsm e1 hll;simp only[wk,Int.toNat_natCast]at hsm hxl J hbk hll;have JJ:=hide (J Y1 wr Z1.c ⟨by rw[Z1.top];omega,by rw[Z1.top];have:=HB.out.t1;have:=HW.out;omega,by rw[Z1.ms,List.length_append];have:=HB.out.m1;have:=HW.out;simp only[List.length_cons,List.length_nil];omega,by have:=Z1.n2;have:=HB.out.n1;have:=HW.out;omega,Z1.nk⟩ (fun hb=>by rw[Z1.ms];exact hasLoop.push _ (.inl (hbk hb))) (by rw[Z1.ms,Z1.top];exact HM.out.push (.inr ⟨t0,Int.le_refl _,by show X.top<=_;omega⟩) t0));rw[Z1.top,Z1.home]at JJ;have E1:Hid (X.top+sumL (fnD l f).nodes (n.kids.take k)+letLen (fnD l f).nodes x=X.top+sumL (fnD l f).nodes (n.kids.take (k+1))/\hF (fnD l f).nodes x (X.top+sumL (fnD l f).nodes (n.kids.take k)) (blockF (fnD l f).nodes (hF (fnD l f).nodes) (n.kids.take k) X.top X.home)=blockF (fnD l f).nodes (hF (fnD l f).nodes) (n.kids.take (k+1)) X.top X.home/\sumTo (wk (fnD l f).nodes) n.kids (k+1)=sumTo (wk (fnD l f).nodes) n.kids k+Wt (fnD l f).nodes x/\0<=sumL (fnD l f).nodes (n.kids.take k)/\sumL (fnD l f).nodes (n.kids.take k)<=sumTo (wk (fnD l f).nodes) n.kids k/\sumTo (wk (fnD l f).nodes) n.kids (k+1)<=sumAll (wk (fnD l f).nodes) n.kids/\0<=letLen (fnD l f).nodes x/\letLen (fnD l f).nodes x<=Wt (fnD l f).nodes x):=⟨by rw[e1,sumL_snoc];omega,by rw[e1,blockF_snoc];rfl,hsm,hsl.1,hsl.2,hle,hll.1,hll.2⟩;have Z1:=hide Z1;have B1:=hide B1;clear J hbk hsl hsm hle e1 hll hx hmem hlt';go_wp2_with fail
      refine JJ.out.mono ?_;rintro e w6 P;obtain⟨Y2,rfl,Z2,jj,gg⟩:=Z1.out.step HU.out P;have B2:=hide (B1.out.fr gg);have Z2:=hide (Z2.cast E1.out.1 E1.out.2.1 (d':=2000000 * sumTo (wk (fnD l f).nodes) n.kids (k+1)+1+k) (by have:=E1.out.2.2.1;omega));have s1:=B2.out.c1;clear P jj gg kc;go_wp2_with fail
      go_roundw
      case rel=>exact⟨k+1,Y2,hlt,by go_num,Z2.out.cast rfl rfl (by omega),B2.out⟩
      case measure=>simp[intOf];omega
     ·obtain rfl:k=L:=by omega
      have ht:n.kids.take k=n.kids:=by rw[<-HL.out,List.take_length]
      have hsl:=sumL_le HT.out (fun k hk=>(HK.out k hk).2) n.kids.length (Nat.le_refl _);rw[List.take_length,sumTo_len]at hsl;have hst:sumTo (wk (fnD l f).nodes) n.kids k=sumAll (wk (fnD l f).nodes) n.kids:=by rw[<-HL.out,sumTo_len]
      rw[ht,hst]at Z1;have K6:=hide Z1;have S6:=hide B1;have HSL:=hide hsl;clear Z1 B1 ht hst hsl;go_wp2_with fail
      refine(unmark_any F Y1 X.ms ⟨1,false,X.top⟩ _ K6.out.c K6.out.ms (by have:=HB.out.m1;omega)).mono ?_;rintro e w7 P;obtain⟨X7,vv,rfl,K7,gg⟩:=K6.out.unmarkF HU.out P;have S7:=hide (S6.out.fr gg);have K7:=hide K7;have s1:=S7.out.c1;clear P gg K6 S6;have K8:=hide (K7.out.cast rfl rfl (d':=2+2000000 * sumAll (wk (fnD l f).nodes) n.kids+k) (by omega));have S8:=hide S7.out;have q7:=K8.out.nb.c7;rw[HL.out]at q7;have hkk:k<=200:=by omega
      obtain⟨tt,htt⟩:∃ tt,X.top+sumL (fnD l f).nodes n.kids=tt:=⟨_,rfl⟩;have ht2:0<=tt/\tt<=2000000:=by have:=HSL.out;have:=HB.out.t1;have:=HW.out;omega
      rw[htt]at K8;clear htt;go_wp2_with fail
      try clear s1
      go_loopw [80] (fun q wr=>∃(j:Nat) (Y:CX),j<=k/\q=.int .i64 j/\Cur F X W1 S w1.heap.size n a1 c1 a2 c2 X.ms tt (blockF (fnD l f).nodes (hF (fnD l f).nodes) n.kids X.top X.home) (2+2000000 * sumAll (wk (fnD l f).nodes) n.kids+k) Y wr/\SBox W1.heap.size false X.top Y wr) (fun q _=>k-(intOf q).toNat)
      case atStart=>exact⟨0,X7,Nat.zero_le _,rfl,K8.out,S8.out⟩
      case round=>
       obtain⟨j,Y3,hjL,rfl,Z1,B1⟩:=hrel;clear q7 K8 S8;by_cases hlt:j<k
       ·have hlt':j<n.kids.length:=by rw[HL.out];exact hlt
        obtain⟨b2,o2,rfl⟩:=Z1.nb.kids.some_of (by omega);have kc:=Z1.nb.kids.cellAt hlt';have hmem:n.kids[j]?.getD 0∈n.kids:=by rw[List.getElem?_eq_getElem hlt'];exact List.getElem_mem _
        obtain⟨x,hx⟩:=Int.eq_ofNat_of_zero_le (HK.out _ hmem).1;have hxl:=(HK.out _ hmem).2;rw[hx]at kc hxl;simp only[Int.toNat_natCast]at hxl;have hnd:=hide (node_any HU.out Y3 x wr Z1.c hxl);have Z1:=hide Z1;have B1:=hide B1;clear hlt' hmem hx;go_wp2_with fail
        refine hnd.out.mono ?_;rintro e w9 ⟨y1,z1,y2,z2,rfl,_,_,_,b4⟩;unfold nodeV;have Z2:=hide (Z1.out.below HU.out b4);have B2:=hide (B1.out.below b4);clear b4;by_cases hd:(nd (fnD l f).nodes x).kind=2
        ·have hnd2:=hide (node_any HU.out Y3 x w9 Z2.out.c hxl);have HRX:=hide (HRF.out x hxl hd);go_wp2_with fail
         refine hnd2.out.mono ?_;rintro e w10 ⟨y3,z3,y4,z4,rfl,v1,_,_,b5⟩;unfold nodeV;have Z3:=hide (Z2.out.below HU.out b5);have B3:=hide (B2.out.below b5);have V1:=hide (v1.keep b5 (fun b hb=>(HU.out.far Z2.out.c b hb).1));clear b5 v1;go_wp2_with fail
         refine(forget_any F Y3 y3 _ z3 S _ Z3.out.c V1.out (HU.out.far Z3.out.c) HRX.out Z3.out.nk).mono ?_;rintro e w11 P;obtain⟨Y4,rfl,Z4,jj,gg⟩:=Z3.out.step HU.out P;rw[Z3.out.top,Z3.out.home]at Z4;have B4:=hide (B3.out.fr gg);have Z4:=hide Z4;clear P jj gg;go_wp2_with fail
         go_roundw
         case rel=>exact⟨j+1,Y4,hlt,by go_num,Z4.out.cast rfl rfl (by omega),B4.out⟩
         case measure=>simp[intOf];omega
        ·have hd':((nd (fnD l f).nodes x).kind==2)=false:=by simpa using hd
         clear hd;go_wp2_with fail
         go_roundw
         case rel=>exact⟨j+1,Y3,hlt,by go_num,Z2.out,B2.out⟩
         case measure=>simp[intOf];omega
       ·have K9:=hide Z1;have s2:=B1.c2;clear Z1 B1;go_wp2_with fail
        refine(drop8 F Y3 _ K9.out.c K9.out.top ht2.1 (by omega) t0 (by omega) (by have:=K9.out.n2;have:=HB.out.n1;have:=HW.out;omega) K9.out.nk).mono ?_;rw[K9.out.home];rintro e w12 P;obtain⟨YE,rfl,KE,jj,gg⟩:=K9.out.step HU.out P;have KE:=hide KE;clear P jj gg;go_wp2_with fail
        go_end0
        exact⟨_,rfl,KE.out.c,F1.out.trans KE.out.f,KE.out.top,KE.out.home,KE.out.ms,KE.out.n1,Nat.le_trans KE.out.n2 (by have:=HW.out;omega),KE.out.nk⟩
   ·have q11:=K3.out.c.c11;have hcl:=K3.out.c.cbl;go_wp2_with fail
    refine(put_c F X _ _ _ _ _ _ K3.out.c (by have:=HB.out.n1;omega) K3.out.nk).mono ?_;rintro e w4 P;obtain⟨X4,rfl,K4,jj,gg⟩:=K3.out.put HU.out P;have S4:=hide (S3.out.fr gg);have K4:=hide K4;clear P jj gg s1 q11;have s0:=S4.out.c0;have s1:=S4.out.c1;have s2:=S4.out.c2;have s3:=S4.out.c3;have s4:=S4.out.c4;go_wp2_with fail
    refine(mark_any F X4 ⟨1,true,X.top⟩ _ K4.out.c (by rw[K4.out.ms];have:=HB.out.m1;omega)).mono ?_;rintro e w5 P;obtain⟨X5,rfl,K5,gg⟩:=K4.out.markF HU.out P;have S5:=hide (S4.out.fr gg);have K5:=hide K5;clear P gg s0 s1 s2 s3 s4;have q7:=K5.out.nb.c7;rw[HL.out]at q7;go_wp2_with fail
    go_loopw [48] (fun q wr=>∃(k:Nat) (Y:CX),k<=L/\q=.int .i64 k/\Cur F X W1 S w1.heap.size n a1 c1 a2 c2 (X.ms++[⟨1,true,X.top⟩]) (X.top+sumL (fnD l f).nodes (n.kids.take k)) (blockF (fnD l f).nodes (hF (fnD l f).nodes) (n.kids.take k) X.top X.home) (1+2000000 * sumTo (wk (fnD l f).nodes) n.kids k+k) Y wr/\SBox W1.heap.size true X.top Y wr) (fun q _=>L-(intOf q).toNat)
    case atStart=>exact⟨0,X5,Nat.zero_le _,rfl,K5.out.cast (by simp[sumL]) (by rw[List.take_zero];rfl) (by simp[sumTo]),S5.out⟩
    case round=>
     obtain⟨k,Y1,hkL,rfl,Z1,B1⟩:=hrel;clear q7 K5 S5 K4 S4;by_cases hlt:k<L
     ·have hlt':k<n.kids.length:=by rw[HL.out];exact hlt
      obtain⟨b2,o2,rfl⟩:=Z1.nb.kids.some_of (by omega);have kc:=Z1.nb.kids.cellAt hlt';have hmem:n.kids[k]?.getD 0∈n.kids:=by rw[List.getElem?_eq_getElem hlt'];exact List.getElem_mem _
      obtain⟨x,hx⟩:=Int.eq_ofNat_of_zero_le (HK.out _ hmem).1;have hxl:=(HK.out _ hmem).2;have J:=IK.out _ hmem;have hbk:=HBK.out _ hmem;have hsl:=sumL_le HT.out (fun k hk=>(HK.out k hk).2) k (by omega);have hsm:=sumTo_succ (wk (fnD l f).nodes) n.kids k 0 hlt';have hle:=sumTo_le (wk (fnD l f).nodes) n.kids (k+1);have e1:=take_snoc hlt';have hll:=letLen_le HT.out hxl;rw[hx]at kc hxl J hbk hsm e1 hll;simp only[wk,Int.toNat_natCast]at hsm hxl J hbk hll;have JJ:=hide (J Y1 wr Z1.c ⟨by rw[Z1.top];omega,by rw[Z1.top];have:=HB.out.t1;have:=HW.out;omega,by rw[Z1.ms,List.length_append];have:=HB.out.m1;have:=HW.out;simp only[List.length_cons,List.length_nil];omega,by have:=Z1.n2;have:=HB.out.n1;have:=HW.out;omega,Z1.nk⟩ (fun hb=>by rw[Z1.ms];exact hasLoop.push _ (.inl (hbk hb))) (by rw[Z1.ms,Z1.top];exact HM.out.push (.inr ⟨t0,Int.le_refl _,by show X.top<=_;omega⟩) t0));rw[Z1.top,Z1.home]at JJ;have E1:Hid (X.top+sumL (fnD l f).nodes (n.kids.take k)+letLen (fnD l f).nodes x=X.top+sumL (fnD l f).nodes (n.kids.take (k+1))/\hF (fnD l f).nodes x (X.top+sumL (fnD l f).nodes (n.kids.take k)) (blockF (fnD l f).nodes (hF (fnD l f).nodes) (n.kids.take k) X.top X.home)=blockF (fnD l f).nodes (hF (fnD l f).nodes) (n.kids.take (k+1)) X.top X.home/\sumTo (wk (fnD l f).nodes) n.kids (k+1)=sumTo (wk (fnD l f).nodes) n.kids k+Wt (fnD l f).nodes x/\0<=sumL (fnD l f).nodes (n.kids.take k)/\sumL (fnD l f).nodes (n.kids.take k)<=sumTo (wk (fnD l f).nodes) n.kids k/\sumTo (wk (fnD l f).nodes) n.kids (k+1)<=sumAll (wk (fnD l f).nodes) n.kids/\0<=letLen (fnD l f).nodes x/\letLen (fnD l f).nodes x<=Wt (fnD l f).nodes x):=⟨by rw[e1,sumL_snoc];omega,by rw[e1,blockF_snoc];rfl,hsm,hsl.1,hsl.2,hle,hll.1,hll.2⟩;have Z1:=hide Z1;have B1:=hide B1;clear J hbk hsl hsm hle e1 hll hx hmem hlt';go_wp2_with fail
      refine JJ.out.mono ?_;rintro e w6 P;obtain⟨Y2,rfl,Z2,jj,gg⟩:=Z1.out.step HU.out P;have B2:=hide (B1.out.fr gg);have Z2:=hide (Z2.cast E1.out.1 E1.out.2.1 (d':=2000000 * sumTo (wk (fnD l f).nodes) n.kids (k+1)+1+k) (by have:=E1.out.2.2.1;omega));have s1:=B2.out.c1;clear P jj gg kc;have hnd:=hide (node_any HU.out Y2 x w6 Z2.out.c hxl);go_wp2_with fail
      refine hnd.out.mono ?_;rintro e w7 ⟨y1,z1,y2,z2,rfl,_,_,_,b4⟩;unfold nodeV;have Z3:=hide (Z2.out.below HU.out b4);have B3:=hide (B2.out.below b4);have q11:=Z3.out.c.c11;rw[Z3.out.top]at q11;have hcl:=Z3.out.c.cbl;clear b4 s1;by_cases hd:(nd (fnD l f).nodes x).kind=2
      ·go_wp2_with fail
       refine(put_c F Y2 _ _ _ _ _ _ Z3.out.c (by have:=Z3.out.n2;have:=HB.out.n1;have:=HW.out;have:=E1.out.2.2.2.2.2.1;omega) Z3.out.nk).mono ?_;rintro e w8 P;obtain⟨Y3,rfl,Z4,jj,gg⟩:=Z3.out.put HU.out P;have B4:=hide (B3.out.fr gg);have Z4:=hide Z4;clear P jj gg;go_wp2_with fail
       go_roundw
       case rel=>exact⟨k+1,Y3,hlt,by go_num,Z4.out.cast rfl rfl (by omega),B4.out⟩
       case measure=>simp[intOf];omega
      ·have hd':((nd (fnD l f).nodes x).kind==2)=false:=by simpa using hd
       clear hd;go_wp2_with fail
       go_roundw
       case rel=>exact⟨k+1,Y2,hlt,by go_num,Z3.out.cast rfl rfl (by omega),B3.out⟩
       case measure=>simp[intOf];omega
     ·obtain rfl:k=L:=by omega
      have ht:n.kids.take k=n.kids:=by rw[<-HL.out,List.take_length]
      have hsl:=sumL_le HT.out (fun k hk=>(HK.out k hk).2) n.kids.length (Nat.le_refl _);rw[List.take_length,sumTo_len]at hsl;have hst:sumTo (wk (fnD l f).nodes) n.kids k=sumAll (wk (fnD l f).nodes) n.kids:=by rw[<-HL.out,sumTo_len]
      rw[ht,hst]at Z1;have K6:=hide Z1;have S6:=hide B1;have HSL:=hide hsl;clear Z1 B1 ht hst hsl;go_wp2_with fail
      refine(unmark_any F Y1 X.ms ⟨1,true,X.top⟩ _ K6.out.c K6.out.ms (by have:=HB.out.m1;omega)).mono ?_;rintro e w7 P;obtain⟨X7,vv,rfl,K7,gg⟩:=K6.out.unmarkF HU.out P;have S7:=hide (S6.out.fr gg);have K7:=hide K7;have s1:=S7.out.c1;clear P gg K6 S6;go_wp2_with fail
      refine(put_c F X7 _ _ _ _ _ _ K7.out.c (by have:=K7.out.n2;have:=HB.out.n1;have:=HW.out;omega) K7.out.nk).mono ?_;rintro e w8 P;obtain⟨X8,rfl,K8,jj,gg⟩:=K7.out.put HU.out P;have S8:=hide (S7.out.fr gg);have K8:=hide (K8.cast rfl rfl (d':=2+2000000 * sumAll (wk (fnD l f).nodes) n.kids+k) (by omega));clear P gg jj s1 K7 S7;have q7:=K8.out.nb.c7;rw[HL.out]at q7;have hkk:k<=200:=by omega
      obtain⟨tt,htt⟩:∃ tt,X.top+sumL (fnD l f).nodes n.kids=tt:=⟨_,rfl⟩;have ht2:0<=tt/\tt<=2000000:=by have:=HSL.out;have:=HB.out.t1;have:=HW.out;omega
      rw[htt]at K8;clear htt;go_wp2_with fail
      try clear s1
      go_loopw [80] (fun q wr=>∃(j:Nat) (Y:CX),j<=k/\q=.int .i64 j/\Cur F X W1 S w1.heap.size n a1 c1 a2 c2 X.ms tt (blockF (fnD l f).nodes (hF (fnD l f).nodes) n.kids X.top X.home) (2+2000000 * sumAll (wk (fnD l f).nodes) n.kids+k) Y wr/\SBox W1.heap.size true X.top Y wr) (fun q _=>k-(intOf q).toNat)
      case atStart=>exact⟨0,X8,Nat.zero_le _,rfl,K8.out,S8.out⟩
      case round=>
       obtain⟨j,Y3,hjL,rfl,Z1,B1⟩:=hrel;clear q7 K8 S8;by_cases hlt:j<k
       ·have hlt':j<n.kids.length:=by rw[HL.out];exact hlt
        obtain⟨b2,o2,rfl⟩:=Z1.nb.kids.some_of (by omega);have kc:=Z1.nb.kids.cellAt hlt';have hmem:n.kids[j]?.getD 0∈n.kids:=by rw[List.getElem?_eq_getElem hlt'];exact List.getElem_mem _
        obtain⟨x,hx⟩:=Int.eq_ofNat_of_zero_le (HK.out _ hmem).1;have hxl:=(HK.out _ hmem).2;rw[hx]at kc hxl;simp only[Int.toNat_natCast]at hxl;have hnd:=hide (node_any HU.out Y3 x wr Z1.c hxl);have Z1:=hide Z1;have B1:=hide B1;clear hlt' hmem hx;go_wp2_with fail
        refine hnd.out.mono ?_;rintro e w9 ⟨y1,z1,y2,z2,rfl,_,_,_,b4⟩;unfold nodeV;have Z2:=hide (Z1.out.below HU.out b4);have B2:=hide (B1.out.below b4);clear b4;by_cases hd:(nd (fnD l f).nodes x).kind=2
        ·have hnd2:=hide (node_any HU.out Y3 x w9 Z2.out.c hxl);have HRX:=hide (HRF.out x hxl hd);go_wp2_with fail
         refine hnd2.out.mono ?_;rintro e w10 ⟨y3,z3,y4,z4,rfl,v1,_,_,b5⟩;unfold nodeV;have Z3:=hide (Z2.out.below HU.out b5);have B3:=hide (B2.out.below b5);have V1:=hide (v1.keep b5 (fun b hb=>(HU.out.far Z2.out.c b hb).1));clear b5 v1;go_wp2_with fail
         refine(forget_any F Y3 y3 _ z3 S _ Z3.out.c V1.out (HU.out.far Z3.out.c) HRX.out Z3.out.nk).mono ?_;rintro e w11 P;obtain⟨Y4,rfl,Z4,jj,gg⟩:=Z3.out.step HU.out P;rw[Z3.out.top,Z3.out.home]at Z4;have B4:=hide (B3.out.fr gg);have Z4:=hide Z4;clear P jj gg;go_wp2_with fail
         go_roundw
         case rel=>exact⟨j+1,Y4,hlt,by go_num,Z4.out.cast rfl rfl (by omega),B4.out⟩
         case measure=>simp[intOf];omega
        ·have hd':((nd (fnD l f).nodes x).kind==2)=false:=by simpa using hd
         clear hd;go_wp2_with fail
         go_roundw
         case rel=>exact⟨j+1,Y3,hlt,by go_num,Z2.out,B2.out⟩
         case measure=>simp[intOf];omega
       ·have K9:=hide Z1;have s2:=B1.c2;clear Z1 B1;go_wp2_with fail
        refine(drop8 F Y3 _ K9.out.c K9.out.top ht2.1 (by omega) t0 (by omega) (by have:=K9.out.n2;have:=HB.out.n1;have:=HW.out;omega) K9.out.nk).mono ?_;rw[K9.out.home];rintro e w12 P;obtain⟨YE,rfl,KE,jj,gg⟩:=K9.out.step HU.out P;have KE:=hide KE;clear P jj gg;go_wp2_with fail
        go_end0
        exact⟨_,rfl,KE.out.c,F1.out.trans KE.out.f,KE.out.top,KE.out.home,KE.out.ms,KE.out.n1,Nat.le_trans KE.out.n2 (by have:=HW.out;omega),KE.out.nk⟩
end Go.Proofs.YtomcjennjcpdnaaGreatDoor
