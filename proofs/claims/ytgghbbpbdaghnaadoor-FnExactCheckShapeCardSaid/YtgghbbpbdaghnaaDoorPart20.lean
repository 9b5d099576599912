import Derived.Test.YtgghbbpbdaghnaaDoorPart19
import Derived.Test.YtgghbbpbdaghnaaDoorPart17
set_option linter.unusedSimpArgs false
set_option linter.unusedVariables false
set_option maxHeartbeats 4000000
set_option maxRecDepth 100000
namespace Go.Proofs.YtgghbbpbdaghnaaDoor
open Go.RowKit
attribute [local go_sem] run_store_float
theorem sum_le (l:List ProtoD)(hl:tProtos l<=1048576):∀ k,sumTo insLen l k<=1048576:=fun k=>by
 have h1:=sumTo_le insLen l k;have h2:sumAll insLen l<=sumAll tProto l:=by
  clear h1 hl;unfold sumAll
  induction l with
  | nil=>simp
  | cons x r ih=>
   simp only[List.map_cons,List.sum_cons];have:insLen x<=tProto x:=by unfold insLen tProto;omega
   omega
 unfold tProtos at hl;omega
def CountsSaid (l:List ProtoD)(c f n:Int):Prop:=(sizeBadC l/\c=1/\f=0/\n=0)\/(¬sizeBadC l/\c=0/\f=0/\n=0)
theorem checkCounts_any (a:Option Addr)(l:List ProtoD)(c:Nat)(S:Nat->Prop)(w:World)(hs:ProtosAt w S a l)(hB:∀ b,S b->b<w.heap.size)(hl:tProtos l<=1048576) :
  Calls Tryd.prog 15 #[.agg #[.slice a l.length c]] w fun e w'=>∃ x f n,e=.returned (.agg #[.int .i64 x,.int .i64 f,.int .i64 n])/\CountsSaid l x f n/\Below w.heap.size w w':=by
 have hn:=hs.1;have hll:l.length<=1048576:=by unfold tProtos at hl;omega
 have HT:Hid (∀ k,sumTo insLen l k<=1048576):=sum_le l hl;clear hl;have HS:=hide hs;have HB:=hide hB;have X0:Hid (Box2 w a l.length c (box2 w a l.length c)):=Box2.start w a l.length c;clear hs hB;go_enter Tryd.func15,Tryd.ntmps15;go_wp2_with fail
 go_loopg [3,9] l.length (fun g t i wr=>∃(k:Nat),k+g=l.length/\i=.int .i64 k/\t=.int .i64 (sumTo insLen l k:Nat)/\Box2 w a l.length c wr)
 case atStart=>exact⟨0,by omega,rfl,by rw[sumTo_zero];rfl,X0.out⟩
 case round=>
  clear X0;obtain⟨k,hk,rfl,rfl,hx⟩:=hrel;have u0:=hx.unit;by_cases hlt:k<l.length
  ·obtain⟨b,off,rfl,hb,hcc⟩:=((unhide HS).keep hx.old (unhide HB)).2 (by omega);have N:ProtoCells wr S b (off+k * 9) (prD l k):=hcc k hlt;have HSU:Hid (sumTo insLen l (k+1)=sumTo insLen l k+(prD l k).ins.length):=sumTo_succ insLen l k ProtoD.z hlt;have t1:=unhide HT k;have t2:=unhide HT (k+1);have hadd:sumTo insLen l k+(prD l k).ins.length<=1048576:=by have:=HSU.out;omega
   clear hcc;generalize prD l k=x at *;obtain⟨a5,c5,h5,H5⟩:=N.ups;obtain⟨a6,c6,h6,H6⟩:=N.consts;obtain⟨a7,c7,h7,H7⟩:=N.ins;obtain⟨a8,c8,h8,H8⟩:=N.named;have c0:=N.name;have c1:=N.line;have c2:=N.params;have c3:=N.rest;have c4:=N.regs;clear N H5 H6 H7 H8;generalize sumTo insLen l k=T at *;go_wp2_with fail
   go_roundg (l.length-(k+1))
   case measure=>omega
   case rel=>
    have h1:=unhide HSU;exact⟨k+1,by omega,by go_num,by rw[h1];go_num,hx.alloc _⟩
  ·have HK:Hid (k=l.length):=by show _=_;omega
   have hkl:=HK.out;subst hkl;rw[sumTo_len]at *;have hTT:=unhide HT l.length;rw[sumTo_len]at hTT;clear HK hk hlt HT;by_cases b1:1<=l.length/\l.length<=200
   case neg=>
    have HBAD:Hid (sizeBadC l):=by
     by_cases h:l.length=0
     ·exact .inl h
     ·exact .inr (.inl (by omega))
    have SI:Hid (sIn (l.length:Int) 1 200=false):=by
     show(decide _&&decide _)=false;simp only[Bool.and_eq_false_iff,decide_eq_false_iff_not];omega
    clear b1;generalize sumAll insLen l=T at *;go_wp2_with fail
    refine(within_any _ _ _ _).mono ?_;rintro e w2 ⟨rfl,rfl⟩;rw[SI.out];have hx2:=hx;clear hx;have r0:=hx2.res 0 (by omega);have r1:=hx2.res 1 (by omega);have r2:=hx2.res 2 (by omega);have z0:=hx2.frozen 0;have z1:=hx2.frozen 1;have z2:=hx2.frozen 2;have BB:Hid (∀ v0 v1 v2,Below w.heap.size w (((w2.setCell ⟨w.heap.size+1,0,none⟩ v0).setCell ⟨w.heap.size+1,1,none⟩ v1).setCell ⟨w.heap.size+1,2,none⟩ v2)):=fun v0 v1 v2=>box2_set3 hx2 v0 v1 v2;go_wp2_with fail
    exact bodyPost_ret (v:=.agg #[.int .i64 1,.int .i64 0,.int .i64 0]) (by simp[results,Tryd.results15,go_sem,r0,r1,r2]) rfl ⟨1,0,0,rfl,.inl ⟨unhide HBAD,rfl,rfl,rfl⟩,BB.out _ _ _⟩
   have SI:Hid (sIn (l.length:Int) 1 200=true):=by
    show(decide _&&decide _)=true;rw[decide_eq_true (by omega),decide_eq_true (by omega)];rfl
   by_cases b3:6000<sumAll insLen l
   ·have HBAD:Hid (sizeBadC l):=.inr (.inr b3);have e3:decide ((6000:Int)<(sumAll insLen l:Nat))=true:=decide_eq_true (by omega);clear b3;generalize sumAll insLen l=T at *;go_wp2_with fail
    refine(within_any _ _ _ _).mono ?_;rintro e w2 ⟨rfl,rfl⟩;rw[SI.out];have hx2:=hx;clear hx;have r0:=hx2.res 0 (by omega);have r1:=hx2.res 1 (by omega);have r2:=hx2.res 2 (by omega);have z0:=hx2.frozen 0;have z1:=hx2.frozen 1;have z2:=hx2.frozen 2;have BB:Hid (∀ v0 v1 v2,Below w.heap.size w (((w2.setCell ⟨w.heap.size+1,0,none⟩ v0).setCell ⟨w.heap.size+1,1,none⟩ v1).setCell ⟨w.heap.size+1,2,none⟩ v2)):=fun v0 v1 v2=>box2_set3 hx2 v0 v1 v2;go_wp2_with fail
    exact bodyPost_ret (v:=.agg #[.int .i64 1,.int .i64 0,.int .i64 0]) (by simp[results,Tryd.results15,go_sem,r0,r1,r2]) rfl ⟨1,0,0,rfl,.inl ⟨unhide HBAD,rfl,rfl,rfl⟩,BB.out _ _ _⟩
   ·have HG:Hid (¬sizeBadC l):=by
     rintro(h | h | h)<;>omega
    have e3:decide ((6000:Int)<(sumAll insLen l:Nat))=false:=decide_eq_false (by omega);clear b3;generalize sumAll insLen l=T at *;go_wp2_with fail
    refine(within_any _ _ _ _).mono ?_;rintro e w2 ⟨rfl,rfl⟩;rw[SI.out];have hx2:=hx;clear hx;have r0:=hx2.res 0 (by omega);have r1:=hx2.res 1 (by omega);have r2:=hx2.res 2 (by omega);have z0:=hx2.frozen 0;have z1:=hx2.frozen 1;have z2:=hx2.frozen 2;have BB:Hid (∀ v0 v1 v2,Below w.heap.size w (((w2.setCell ⟨w.heap.size+1,0,none⟩ v0).setCell ⟨w.heap.size+1,1,none⟩ v1).setCell ⟨w.heap.size+1,2,none⟩ v2)):=fun v0 v1 v2=>box2_set3 hx2 v0 v1 v2;go_wp2_with fail
    exact bodyPost_ret (v:=.agg #[.int .i64 0,.int .i64 0,.int .i64 0]) (by simp[results,Tryd.results15,go_sem,r0,r1,r2]) rfl ⟨0,0,0,rfl,.inr ⟨unhide HG,rfl,rfl,rfl⟩,BB.out _ _ _⟩
def HeadSaid (l:List ProtoD)(c f n:Int):Prop:=
 (c=2/\n=0/\∃ F:Nat,f=F/\F<l.length/\sHeadC (prD l F) F=false/\∀ g,g<F->sHeadC (prD l g) g=true)\/(HeadsC l/\c=0/\f=0/\n=0)
theorem checkProtos_any (a:Option Addr)(l:List ProtoD)(c:Nat)(S:Nat->Prop)(w:World)(hs:ProtosAt w S a l)(hB:∀ b,S b->b<w.heap.size)(hl:tProtos l<=1048576) :
  Calls Tryd.prog 16 #[.agg #[.slice a l.length c]] w fun e w'=>∃ x f n,e=.returned (.agg #[.int .i64 x,.int .i64 f,.int .i64 n])/\HeadSaid l x f n/\Below w.heap.size w w':=by
 have hn:=hs.1;have HS:=hide hs;have HB:=hide hB;have X0:Hid (Box2 w a l.length c (box2 w a l.length c)):=Box2.start w a l.length c;clear hs hB hl;go_enter Tryd.func16,Tryd.ntmps16;go_wp2_with fail
 go_loopg [8] l.length (fun g i wr=>∃(k:Nat),k+g=l.length/\i=.int .i64 k/\Box2 w a l.length c wr/\Hid (∀ j,j<k->sHeadC (prD l j) j=true))
 case atStart=>exact⟨0,by omega,rfl,X0.out,fun j h=>absurd h (Nat.not_lt_zero _)⟩
 case round=>
  clear X0;obtain⟨k,hk,rfl,hx,hok⟩:=hrel;have u0:=hx.unit;by_cases hlt:k<l.length
  ·obtain⟨b,off,rfl,hb,hcc⟩:=((unhide HS).keep hx.old (unhide HB)).2 (by omega);have N:ProtoCells wr S b (off+k * 9) (prD l k):=hcc k hlt;have EQ:Hid (sHeadC (prD l k) k=(sFitsP (prD l k)&&(decide (0<k)||((prD l k).params==0&&(prD l k).ups.length==0)))):=rfl;have FST:Hid (sHeadC (prD l k) k=false->HeadSaid l 2 k 0):=fun h=>.inl ⟨rfl,rfl,k,rfl,hlt,h,hok.out⟩;have NXT:Hid (sHeadC (prD l k) k=true->∀ j,j<k+1->sHeadC (prD l j) j=true):=fun h j hj=>by
    by_cases e:j=k
    ·subst e;exact h
    ·exact hok.out j (by omega)
   clear hcc hok;generalize sHeadC (prD l k) k=res at *;generalize prD l k=x at *;obtain⟨a5,c5,h5,H5⟩:=N.ups;obtain⟨a6,c6,h6,H6⟩:=N.consts;obtain⟨a7,c7,h7,H7⟩:=N.ins;obtain⟨a8,c8,h8,H8⟩:=N.named;have c0:=N.name;have c1:=N.line;have c2:=N.params;have c3:=N.rest;have c4:=N.regs;have hns:=N.names;have hu:=H5.1;have hcl:=H6.1;clear N H5 H6 H7 H8;obtain⟨nm,ln,pr,rs,rg,us,cs,is,ns⟩:=x;simp only at *;have PF:=hide (fun W=>protoFits_any nm ln pr rs rg us cs is ns a5 a6 a7 a8 c5 c6 c7 c8 W hns hu hcl);generalize sFitsP ⟨nm,ln,pr,rs,rg,us,cs,is,ns⟩=ft at *;have HX:=hide hx;clear hx;cases ft
   ·have RR:Hid (HeadSaid l 2 k 0):=unhide FST (by rw[EQ.out];rfl);clear FST NXT EQ;go_wp2_with fail
    refine(unhide PF _).mono ?_;rintro e w2 ⟨rfl,hb2⟩;have hx2:=((unhide HX).alloc _).below' hb2;clear hb2 HX;have r0:=hx2.res 0 (by omega);have r1:=hx2.res 1 (by omega);have r2:=hx2.res 2 (by omega);have z0:=hx2.frozen 0;have z1:=hx2.frozen 1;have z2:=hx2.frozen 2;have BB:Hid (∀ v0 v1 v2,Below w.heap.size w (((w2.setCell ⟨w.heap.size+1,0,none⟩ v0).setCell ⟨w.heap.size+1,1,none⟩ v1).setCell ⟨w.heap.size+1,2,none⟩ v2)):=fun v0 v1 v2=>box2_set3 hx2 v0 v1 v2;go_wp2_with fail
    exact bodyPost_ret (v:=.agg #[.int .i64 2,.int .i64 k,.int .i64 0]) (by simp[results,Tryd.results16,go_sem,r0,r1,r2]) rfl ⟨2,k,0,rfl,unhide RR,BB.out _ _ _⟩
   by_cases hk0:0<k
   ·have RR:Hid (∀ j,j<k+1->sHeadC (prD l j) j=true):=unhide NXT (by rw[EQ.out];simp[hk0]);have e0:((k:Int)==0)=false:=beq_eq_false_iff_ne.2 (by omega);clear FST NXT EQ;go_wp2_with fail
    refine(unhide PF _).mono ?_;rintro e w2 ⟨rfl,hb2⟩;have hx2:=((unhide HX).alloc _).below' hb2;clear hb2 HX;go_wp2_with fail
    go_roundg (l.length-(k+1))
    case measure=>omega
    case rel=>exact⟨k+1,by omega,by go_num,hx2,RR⟩
   have e0:((k:Int)==0)=true:=by simp;omega
   by_cases hp0:pr=0
   case neg=>
    have RR:Hid (HeadSaid l 2 k 0):=unhide FST (by rw[EQ.out];simp[hp0,hk0]);have e1:(pr != 0)=true:=by simpa using hp0
    clear FST NXT EQ hp0;go_wp2_with fail
    refine(unhide PF _).mono ?_;rintro e w2 ⟨rfl,hb2⟩;have hxa:=(unhide HX).alloc (.cells #[.string nm,.int .i64 ln,.int .i64 pr,.bool rs,.int .i64 rg,.slice a5 us.length c5,.slice a6 cs.length c6,.slice a7 is.length c7,.slice a8 ns.length c8] 43);have PP:Prot w2 wr.heap.size nm ln pr rs rg (.slice a5 us.length c5) (.slice a6 cs.length c6) (.slice a7 is.length c7) (.slice a8 ns.length c8):=Prot.keep (by refine⟨?_,?_,?_,?_,?_,?_,?_,?_,?_⟩<;>simp[go_sem]) hb2 (by simp);obtain⟨p0,p1,p2,p3,p4,p5,p6,p7,p8⟩:=PP;have hlt2:wr.heap.size<w2.heap.size:=by have:=hb2.size;simp at this;omega
    have hx2:=hxa.below' hb2;clear hb2 HX hxa;have r0:=hx2.res 0 (by omega);have r1:=hx2.res 1 (by omega);have r2:=hx2.res 2 (by omega);have z0:=hx2.frozen 0;have z1:=hx2.frozen 1;have z2:=hx2.frozen 2;have BB:Hid (∀ v0 v1 v2,Below w.heap.size w (((w2.setCell ⟨w.heap.size+1,0,none⟩ v0).setCell ⟨w.heap.size+1,1,none⟩ v1).setCell ⟨w.heap.size+1,2,none⟩ v2)):=fun v0 v1 v2=>box2_set3 hx2 v0 v1 v2;go_wp2_with fail
    exact bodyPost_ret (v:=.agg #[.int .i64 2,.int .i64 k,.int .i64 0]) (by simp[results,Tryd.results16,go_sem,r0,r1,r2]) rfl ⟨2,k,0,rfl,unhide RR,BB.out _ _ _⟩
   have e1:(pr != 0)=false:=by simpa using hp0
   by_cases hu0:us.length=0
   ·have RR:Hid (∀ j,j<k+1->sHeadC (prD l j) j=true):=unhide NXT (by rw[EQ.out];simp[hp0,hu0,hk0]);have e2:((us.length:Int) != 0)=false:=by simp[hu0]
    clear FST NXT EQ hp0 hu0;go_wp2_with fail
    refine(unhide PF _).mono ?_;rintro e w2 ⟨rfl,hb2⟩;have hxa:=(unhide HX).alloc (.cells #[.string nm,.int .i64 ln,.int .i64 pr,.bool rs,.int .i64 rg,.slice a5 us.length c5,.slice a6 cs.length c6,.slice a7 is.length c7,.slice a8 ns.length c8] 43);have PP:Prot w2 wr.heap.size nm ln pr rs rg (.slice a5 us.length c5) (.slice a6 cs.length c6) (.slice a7 is.length c7) (.slice a8 ns.length c8):=Prot.keep (by refine⟨?_,?_,?_,?_,?_,?_,?_,?_,?_⟩<;>simp[go_sem]) hb2 (by simp);obtain⟨p0,p1,p2,p3,p4,p5,p6,p7,p8⟩:=PP;have hlt2:wr.heap.size<w2.heap.size:=by have:=hb2.size;simp at this;omega
    have hx2:=hxa.below' hb2;clear hb2 HX hxa;go_wp2_with fail
    go_roundg (l.length-(k+1))
    case measure=>omega
    case rel=>exact⟨k+1,by omega,by go_num,hx2,RR⟩
   ·have RR:Hid (HeadSaid l 2 k 0):=unhide FST (by rw[EQ.out,show(us.length==0)=false from beq_eq_false_iff_ne.2 hu0];simp[hp0,hk0]);have e2:((us.length:Int) != 0)=true:=bne_iff_ne.2 (by omega);clear FST NXT EQ hp0 hu0;go_wp2_with fail
    refine(unhide PF _).mono ?_;rintro e w2 ⟨rfl,hb2⟩;have hxa:=(unhide HX).alloc (.cells #[.string nm,.int .i64 ln,.int .i64 pr,.bool rs,.int .i64 rg,.slice a5 us.length c5,.slice a6 cs.length c6,.slice a7 is.length c7,.slice a8 ns.length c8] 43);have PP:Prot w2 wr.heap.size nm ln pr rs rg (.slice a5 us.length c5) (.slice a6 cs.length c6) (.slice a7 is.length c7) (.slice a8 ns.length c8):=Prot.keep (by refine⟨?_,?_,?_,?_,?_,?_,?_,?_,?_⟩<;>simp[go_sem]) hb2 (by simp);obtain⟨p0,p1,p2,p3,p4,p5,p6,p7,p8⟩:=PP;have hlt2:wr.heap.size<w2.heap.size:=by have:=hb2.size;simp at this;omega
    have hx2:=hxa.below' hb2;clear hb2 HX hxa;have r0:=hx2.res 0 (by omega);have r1:=hx2.res 1 (by omega);have r2:=hx2.res 2 (by omega);have z0:=hx2.frozen 0;have z1:=hx2.frozen 1;have z2:=hx2.frozen 2;have BB:Hid (∀ v0 v1 v2,Below w.heap.size w (((w2.setCell ⟨w.heap.size+1,0,none⟩ v0).setCell ⟨w.heap.size+1,1,none⟩ v1).setCell ⟨w.heap.size+1,2,none⟩ v2)):=fun v0 v1 v2=>box2_set3 hx2 v0 v1 v2;go_wp2_with fail
    exact bodyPost_ret (v:=.agg #[.int .i64 2,.int .i64 k,.int .i64 0]) (by simp[results,Tryd.results16,go_sem,r0,r1,r2]) rfl ⟨2,k,0,rfl,unhide RR,BB.out _ _ _⟩
  ·have RR:Hid (HeadSaid l 0 0 0):=.inr ⟨fun g hg=>hok.out g (by omega),rfl,rfl,rfl⟩;obtain⟨w2,rfl⟩:∃ w2,w2=wr:=⟨wr,rfl⟩;have hx2:=hx;clear hx hok;have r0:=hx2.res 0 (by omega);have r1:=hx2.res 1 (by omega);have r2:=hx2.res 2 (by omega);have z0:=hx2.frozen 0;have z1:=hx2.frozen 1;have z2:=hx2.frozen 2;have BB:Hid (∀ v0 v1 v2,Below w.heap.size w (((w2.setCell ⟨w.heap.size+1,0,none⟩ v0).setCell ⟨w.heap.size+1,1,none⟩ v1).setCell ⟨w.heap.size+1,2,none⟩ v2)):=fun v0 v1 v2=>box2_set3 hx2 v0 v1 v2;go_wp2_with fail
   exact bodyPost_ret (v:=.agg #[.int .i64 0,.int .i64 0,.int .i64 0]) (by simp[results,Tryd.results16,go_sem,r0,r1,r2]) rfl ⟨0,0,0,rfl,unhide RR,BB.out _ _ _⟩
end Go.Proofs.YtgghbbpbdaghnaaDoor
