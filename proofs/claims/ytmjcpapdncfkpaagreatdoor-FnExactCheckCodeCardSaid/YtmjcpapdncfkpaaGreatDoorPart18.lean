import Derived.Test.YtmjcpapdncfkpaaGreatDoorPart17
import Derived.Deep.LoopGhost
set_option linter.unusedSimpArgs false
set_option linter.unusedVariables false
set_option maxHeartbeats 8000000
set_option maxRecDepth 100000
namespace Go.Proofs.YtmjcpapdncfkpaaGreatDoor
open Go.RowKit
attribute [local go_sem] run_store_float
def ConstsSaid (l:List ProtoD)(c f n:Int):Prop:=
 (c=3∧∃ F P:Nat,f=F∧n=P∧FirstC l (len3 l) (bad3 l) F P)∨(NoC l (len3 l) (bad3 l)∧c=0∧f=0∧n=0)
theorem checkConsts_any (a:Option Addr)(l:List ProtoD)(c:Nat)(S:Nat→Prop)(w:World)(hs:ProtosAt w S a l)(hB:∀ b,S b→b<w.heap.size)(hl:tProtos l≤1048576) :
  Calls Tryz.prog 34 #[.agg #[.slice a l.length c]] w fun e w'=>∃ x f n,e=.returned (.agg #[.int .i64 x,.int .i64 f,.int .i64 n])∧ConstsSaid l x f n∧Below w.heap.size w w':=by
 have hn:=hs.1
 have HS:=hide hs
 have HB:=hide hB
 have X0:Hid (Box2 w a l.length c (box2 w a l.length c)):=Box2.start w a l.length c
 clear hs hB hl
 go_enter Tryz.func34,Tryz.ntmps34
 go_wp2_with fail
 go_loopg [10] l.length (fun g i wr=>∃(k:Nat),k+g=l.length∧i=.int .i64 k∧Box2 w a l.length c wr∧Hid (∀ f' p',f'<k→p'<len3 l f'→bad3 l f' p'=false))
 case atStart=>exact⟨0,by omega,rfl,X0.out,fun _ _ h=>absurd h (Nat.not_lt_zero _)⟩
 case round=>
  clear X0
  obtain⟨f,hk,rfl,hx,hgood⟩:=hrel
  have u0:=hx.unit
  by_cases hlt:f<l.length
  ·obtain⟨b,off,rfl,hb,hcc⟩:=((unhide HS).keep hx.old (unhide HB)).2 (by omega)
   have N:ProtoCells wr S b (off+f * 9) (prD l f):=hcc f hlt
   have HBr:Hid (∀ b,S b→b<wr.heap.size):=fun b h=>Nat.lt_of_lt_of_le (unhide HB b h) hx.old.size
   clear hcc
   obtain⟨x,hxe⟩:∃ x,x=prD l f:=⟨_,rfl⟩
   have BAD:Hid (∀ q,bad3 l f q=!sConst ((prD l f).consts[q]?.getD ValD.z)):=fun _=>rfl
   have LEN:Hid (len3 l f=(prD l f).consts.length):=rfl
   rw[←hxe]at N BAD LEN
   clear hxe
   obtain⟨a5,c5,h5,H5⟩:=N.ups
   obtain⟨a6,c6,h6,H6⟩:=N.consts
   obtain⟨a7,c7,h7,H7⟩:=N.ins
   obtain⟨a8,c8,h8,H8⟩:=N.named
   have c0:=N.name;have c1:=N.line;have c2:=N.params;have c3:=N.rest;have c4:=N.regs
   have VV:=hide H6
   have hvl:=H6.1
   have hu:=H5.1;have hcl:=H6.1;have hil:=H7.1
   clear N H5 H6 H7 H8
   obtain⟨nm,ln,pr,rs,rg,us,cs,is,ns⟩:=x
   simp only at *
   obtain⟨wo,rfl⟩:∃ wo,wo=wr:=⟨wr,rfl⟩
   have P0:Hid (∀ W,Below (wo.heap.size+1) (wo.alloc (.cells #[.string nm,.int .i64 ln,.int .i64 pr,.bool rs,.int .i64 rg,.slice a5 us.length c5,.slice a6 cs.length c6,.slice a7 is.length c7,.slice a8 ns.length c8] 58)) W→Prot W wo.heap.size nm ln pr rs rg (.slice a5 us.length c5) (.slice a6 cs.length c6) (.slice a7 is.length c7) (.slice a8 ns.length c8)∧Below wo.heap.size wo W):=fun W hW=>
    ⟨Prot.keep (by refine⟨?_,?_,?_,?_,?_,?_,?_,?_,?_⟩<;>simp[go_sem]) hW (by omega),((Below.refl _ _).alloc (Nat.le_refl _) _).trans (hW.mono (by omega))⟩
   have HX:=hide hx
   clear hx
   go_wp2_with fail
   clear h5 h6 h7 h8 c0 c1 c2 c3 c4 u0
   go_loopg [18] cs.length (fun g i wr=>∃(k:Nat),k+g=cs.length∧i=.int .i64 k∧Below (wo.heap.size+1) (wo.alloc (.cells #[.string nm,.int .i64 ln,.int .i64 pr,.bool rs,.int .i64 rg,.slice a5 us.length c5,.slice a6 cs.length c6,.slice a7 is.length c7,.slice a8 ns.length c8] 58)) wr∧Hid (∀ q,q<k→bad3 l f q=false))
   case atStart=>exact⟨0,by omega,rfl,Below.refl _ _,fun _ h=>absurd h (Nat.not_lt_zero _)⟩
   case round=>
    obtain⟨q,hq,rfl,hW,hok⟩:=hrel
    obtain⟨⟨b0,b1,b2,b3,b4,b5,b6,b7,b8⟩,hbo⟩:=unhide P0 wr hW
    by_cases hql:q<cs.length
    ·have HWW:=hide hW
     have HBO:=hide hbo
     have hws:wo.heap.size+1≤wr.heap.size:=by have:=hW.size;simpa using this
     have hbs:wo.heap.size<wr.heap.size:=by omega
     have FI:Hid (bad3 l f q=true→ConstsSaid l 3 f q):=fun h=>.inl ⟨rfl,f,q,rfl,rfl,rows_first hlt (by rw[LEN.out];exact hql) h hgood.out hok.out⟩
     have NX:Hid (bad3 l f q=false→∀ j,j<q+1→bad3 l f j=false):=fun h=>upto_next hok.out h
     have uu:=(unhide HX).unit
     have uu2:wr.cell? ⟨w.heap.size,0,none⟩=some (.slice (some ⟨b,off,none⟩) l.length c):=(hbo.cell (p:=⟨w.heap.size,0,none⟩) (by have:=(unhide HX).size;show w.heap.size<wo.heap.size;omega)).trans uu
     have huw:w.heap.size<wr.heap.size:=by have:=(unhide HX).size;omega
     clear hbo hW uu
     obtain⟨bv,offv,rfl,hbv,hcv⟩:=((unhide VV).keep (unhide HBO) (unhide HBr)).2 (by omega)
     have M:=hcv q hql
     clear hcv
     have BQ:=unhide BAD q
     obtain⟨y,hye⟩:∃ y,y=cs[q]?.getD ValD.z:=⟨_,rfl⟩
     rw[←hye]at M BQ
     have HBQ:=hide BQ
     clear hye BQ
     have d0:=M.kind;have d1:=M.num;have d2:=M.flt;have d3:=M.str;have d4:=M.ref
     have CO:Hid (∀ W:World,Calls Tryz.prog 66 #[.agg #[.int .i64 y.kind,.int .i64 y.num,.float .f64 y.flt,.string y.str,.int .i64 y.ref]] W fun e w'=>e=.returned (.bool (sConst y))∧Below W.heap.size W w'):=fun W=>constFits_any y W M.strs
     have hsl:=M.strs
     clear M
     generalize sConst y=res at *
     obtain⟨ykind,ynum,yflt,ystr,yref⟩:=y
     simp only at *
     cases res
     ·have RR:Hid (ConstsSaid l 3 f q):=unhide FI HBQ.out
      clear FI NX
      go_wp2_with fail
      refine(unhide CO _).mono ?_
      rintro e w2 ⟨rfl,hb2⟩
      have hx2:=(unhide HX).below' (((unhide HBO).alloc (by omega) _).trans (hb2.mono (by simp;omega)))
      clear hb2
      have r0:=hx2.res 0 (by omega);have r1:=hx2.res 1 (by omega);have r2:=hx2.res 2 (by omega)
      have z0:=hx2.frozen 0;have z1:=hx2.frozen 1;have z2:=hx2.frozen 2
      have BB:Hid (∀ v0 v1 v2,Below w.heap.size w (((w2.setCell ⟨w.heap.size+1,0,none⟩ v0).setCell ⟨w.heap.size+1,1,none⟩ v1).setCell ⟨w.heap.size+1,2,none⟩ v2)):=fun v0 v1 v2=>box2_set3 hx2 v0 v1 v2
      go_wp2_with fail
      exact bodyPost_ret (v:=.agg #[.int .i64 3,.int .i64 f,.int .i64 q]) (by simp[results,Tryz.results34,go_sem,r0,r1,r2]) rfl ⟨3,f,q,rfl,unhide RR,BB.out _ _ _⟩
     ·have RR:Hid (∀ j,j<q+1→bad3 l f j=false):=unhide NX HBQ.out
      clear FI NX
      go_wp2_with fail
      refine(unhide CO _).mono ?_
      rintro e w2 ⟨rfl,hb2⟩
      have HB3:=hide (((unhide HWW).alloc (by omega) _).trans (hb2.mono (by simp;omega)))
      clear hb2
      go_wp2_with fail
      go_roundg (cs.length-(q+1))
      case measure=>omega
      case rel=>exact⟨q+1,by omega,by go_num,unhide HB3,RR⟩
    ·have NXF:Hid (∀ f' p',f'<f+1→p'<len3 l f'→bad3 l f' p'=false):=rows_next (l:=l) hgood.out (fun p hp=>hok.out p (by rw[LEN.out]at hp;have hp:p<cs.length:=hp;omega))
     have HX2:=hide ((unhide HX).below' hbo)
     clear hbo hW
     go_wp2_with fail
     go_roundg (l.length-(f+1))
     case measure=>omega
     case rel=>exact⟨f+1,by omega,by go_num,unhide HX2,NXF⟩
  ·have NO:Hid (ConstsSaid l 0 0 0):=.inr ⟨fun f' p' h1 h2=>hgood.out f' p' (by omega) h2,rfl,rfl,rfl⟩
   obtain⟨w2,rfl⟩:∃ w2,w2=wr:=⟨wr,rfl⟩
   have hx2:=hx
   clear hx hgood
   have r0:=hx2.res 0 (by omega);have r1:=hx2.res 1 (by omega);have r2:=hx2.res 2 (by omega)
   have z0:=hx2.frozen 0;have z1:=hx2.frozen 1;have z2:=hx2.frozen 2
   have BB:Hid (∀ v0 v1 v2,Below w.heap.size w (((w2.setCell ⟨w.heap.size+1,0,none⟩ v0).setCell ⟨w.heap.size+1,1,none⟩ v1).setCell ⟨w.heap.size+1,2,none⟩ v2)):=fun v0 v1 v2=>box2_set3 hx2 v0 v1 v2
   go_wp2_with fail
   exact bodyPost_ret (v:=.agg #[.int .i64 0,.int .i64 0,.int .i64 0]) (by simp[results,Tryz.results34,go_sem,r0,r1,r2]) rfl ⟨0,0,0,rfl,unhide NO,BB.out _ _ _⟩
def NamedSaid (l:List ProtoD)(c f n:Int):Prop:=
 (c=4∧∃ F P:Nat,f=F∧n=P∧FirstC l (len4 l) (bad4 l) F P)∨(NoC l (len4 l) (bad4 l)∧c=0∧f=0∧n=0)
theorem checkNamed_any (a:Option Addr)(l:List ProtoD)(c:Nat)(S:Nat→Prop)(w:World)(hs:ProtosAt w S a l)(hB:∀ b,S b→b<w.heap.size)(hl:tProtos l≤1048576)(heads:HeadsC l) :
  Calls Tryz.prog 35 #[.agg #[.slice a l.length c]] w fun e w'=>∃ x f n,e=.returned (.agg #[.int .i64 x,.int .i64 f,.int .i64 n])∧NamedSaid l x f n∧Below w.heap.size w w':=by
 have hn:=hs.1
 have HS:=hide hs
 have HB:=hide hB
 have HEADS:=hide heads
 clear heads
 have X0:Hid (Box2 w a l.length c (box2 w a l.length c)):=Box2.start w a l.length c
 clear hs hB hl
 go_enter Tryz.func35,Tryz.ntmps35
 go_wp2_with fail
 go_loopg [10] l.length (fun g i wr=>∃(k:Nat),k+g=l.length∧i=.int .i64 k∧Box2 w a l.length c wr∧Hid (∀ f' p',f'<k→p'<len4 l f'→bad4 l f' p'=false))
 case atStart=>exact⟨0,by omega,rfl,X0.out,fun _ _ h=>absurd h (Nat.not_lt_zero _)⟩
 case round=>
  clear X0
  obtain⟨f,hk,rfl,hx,hgood⟩:=hrel
  have u0:=hx.unit
  by_cases hlt:f<l.length
  ·obtain⟨b,off,rfl,hb,hcc⟩:=((unhide HS).keep hx.old (unhide HB)).2 (by omega)
   have N:ProtoCells wr S b (off+f * 9) (prD l f):=hcc f hlt
   have HBr:Hid (∀ b,S b→b<wr.heap.size):=fun b h=>Nat.lt_of_lt_of_le (unhide HB b h) hx.old.size
   have HRG:=hide (head_regs (unhide HEADS f hlt))
   clear hcc
   obtain⟨x,hxe⟩:∃ x,x=prD l f:=⟨_,rfl⟩
   have BAD:Hid (∀ q,bad4 l f q=!sNamed (prD l f).regs (prD l f).ins.length ((prD l f).named[q]?.getD NamD.z) q):=fun _=>rfl
   have LEN:Hid (len4 l f=(prD l f).named.length):=rfl
   rw[←hxe]at N BAD LEN HRG
   clear hxe
   obtain⟨a5,c5,h5,H5⟩:=N.ups
   obtain⟨a6,c6,h6,H6⟩:=N.consts
   obtain⟨a7,c7,h7,H7⟩:=N.ins
   obtain⟨a8,c8,h8,H8⟩:=N.named
   have c0:=N.name;have c1:=N.line;have c2:=N.params;have c3:=N.rest;have c4:=N.regs
   have VV:=hide H8
   have hvl:=H8.1
   have hu:=H5.1;have hcl:=H6.1;have hil:=H7.1
   clear N H5 H6 H7 H8
   obtain⟨nm,ln,pr,rs,rg,us,cs,is,ns⟩:=x
   simp only at *
   obtain⟨wo,rfl⟩:∃ wo,wo=wr:=⟨wr,rfl⟩
   have P0:Hid (∀ W,Below (wo.heap.size+1) (wo.alloc (.cells #[.string nm,.int .i64 ln,.int .i64 pr,.bool rs,.int .i64 rg,.slice a5 us.length c5,.slice a6 cs.length c6,.slice a7 is.length c7,.slice a8 ns.length c8] 58)) W→Prot W wo.heap.size nm ln pr rs rg (.slice a5 us.length c5) (.slice a6 cs.length c6) (.slice a7 is.length c7) (.slice a8 ns.length c8)∧Below wo.heap.size wo W):=fun W hW=>
    ⟨Prot.keep (by refine⟨?_,?_,?_,?_,?_,?_,?_,?_,?_⟩<;>simp[go_sem]) hW (by omega),((Below.refl _ _).alloc (Nat.le_refl _) _).trans (hW.mono (by omega))⟩
   have HX:=hide hx
   clear hx
   go_wp2_with fail
   clear h5 h6 h7 h8 c0 c1 c2 c3 c4 u0
   go_loopg [18] ns.length (fun g i wr=>∃(k:Nat),k+g=ns.length∧i=.int .i64 k∧Below (wo.heap.size+1) (wo.alloc (.cells #[.string nm,.int .i64 ln,.int .i64 pr,.bool rs,.int .i64 rg,.slice a5 us.length c5,.slice a6 cs.length c6,.slice a7 is.length c7,.slice a8 ns.length c8] 58)) wr∧Hid (∀ q,q<k→bad4 l f q=false))
   case atStart=>exact⟨0,by omega,rfl,Below.refl _ _,fun _ h=>absurd h (Nat.not_lt_zero _)⟩
   case round=>
    obtain⟨q,hq,rfl,hW,hok⟩:=hrel
    obtain⟨⟨b0,b1,b2,b3,b4,b5,b6,b7,b8⟩,hbo⟩:=unhide P0 wr hW
    by_cases hql:q<ns.length
    ·have HWW:=hide hW
     have HBO:=hide hbo
     have hws:wo.heap.size+1≤wr.heap.size:=by have:=hW.size;simpa using this
     have hbs:wo.heap.size<wr.heap.size:=by omega
     have FI:Hid (bad4 l f q=true→NamedSaid l 4 f q):=fun h=>.inl ⟨rfl,f,q,rfl,rfl,rows_first hlt (by rw[LEN.out];exact hql) h hgood.out hok.out⟩
     have NX:Hid (bad4 l f q=false→∀ j,j<q+1→bad4 l f j=false):=fun h=>upto_next hok.out h
     have uu:=(unhide HX).unit
     have uu2:wr.cell? ⟨w.heap.size,0,none⟩=some (.slice (some ⟨b,off,none⟩) l.length c):=(hbo.cell (p:=⟨w.heap.size,0,none⟩) (by have:=(unhide HX).size;show w.heap.size<wo.heap.size;omega)).trans uu
     have huw:w.heap.size<wr.heap.size:=by have:=(unhide HX).size;omega
     clear hbo hW uu
     obtain⟨bv,offv,rfl,hbv,hcv⟩:=((unhide VV).keep (unhide HBO) (unhide HBr)).2 (by omega)
     have M:=hcv q hql
     clear hcv
     have BQ:=unhide BAD q
     obtain⟨y,hye⟩:∃ y,y=ns[q]?.getD NamD.z:=⟨_,rfl⟩
     rw[←hye]at M BQ
     have HBQ:=hide BQ
     clear hye BQ
     have d0:=M.name;have d1:=M.reg;have d2:=M.fro;have d3:=M.til
     have hsl:=M.names
     clear M
     by_cases hq5:q=500
     ·have RR:Hid (NamedSaid l 4 f q):=unhide FI (by rw[HBQ.out,sNamed_eq];simp[hq5])
      have e5:((q:Int)==500)=true:=by simp;omega
      clear FI NX hq5
      have hxr:=(unhide HX).below' (unhide HBO)
      have r0:=hxr.res 0 (by omega);have r1:=hxr.res 1 (by omega);have r2:=hxr.res 2 (by omega)
      have z0:=hxr.frozen 0;have z1:=hxr.frozen 1;have z2:=hxr.frozen 2
      have hw1:w.heap.size+1<wr.heap.size:=by have:=hxr.size;omega
      have BB:Hid (∀ o v0 v1 v2,Below w.heap.size w ((((wr.alloc o).setCell ⟨w.heap.size+1,0,none⟩ v0).setCell ⟨w.heap.size+1,1,none⟩ v1).setCell ⟨w.heap.size+1,2,none⟩ v2)):=fun o v0 v1 v2=>box2_set3 (hxr.alloc o) v0 v1 v2
      have BB2:Hid (∀ o v0 v1 v2,Below w.heap.size w ((((wr.setCell ⟨w.heap.size+1,0,none⟩ v0).setCell ⟨w.heap.size+1,1,none⟩ v1).setCell ⟨w.heap.size+1,2,none⟩ v2).alloc o)):=fun o v0 v1 v2=>(box2_set3 hxr v0 v1 v2).alloc (by simp;omega) o
      clear hxr
      go_wp2_with fail
      refine bodyPost_ret (v:=.agg #[.int .i64 4,.int .i64 f,.int .i64 q]) (by simp[results,Tryz.results35,go_sem,r0,r1,r2,hw1]) rfl ⟨4,f,q,rfl,unhide RR,?_⟩
      first | exact BB.out _ _ _ _ | exact BB2.out _ _ _ _
     have hq6:q<500:=by
      by_cases h:q<500
      ·exact h
      ·have h1:=hok.out 500 (by omega)
       rw[unhide BAD 500,sNamed_eq]at h1
       simp at h1
     have e5:((q:Int)==500)=false:=beq_eq_false_iff_ne.2 (by omega)
     have CO:Hid (∀ W:World,Calls Tryz.prog 67 #[.agg #[.string y.name,.int .i64 y.reg,.int .i64 y.fro,.int .i64 y.til],.agg #[.string nm,.int .i64 ln,.int .i64 pr,.bool rs,.int .i64 rg,.slice a5 us.length c5,.slice a6 cs.length c6,.slice a7 is.length c7,.slice (some ⟨bv,offv,none⟩) ns.length c8]] W fun e w'=>e=.returned (.bool (sNamF rg is.length y))∧Below W.heap.size W w'):=fun W=>namedFits_any y.name y.reg y.fro y.til nm ln pr rs rg us cs is ns a5 a6 a7 (some ⟨bv,offv,none⟩) c5 c6 c7 c8 W hsl hil (unhide HRG)
     rw[sNamed_eq,decide_eq_true (by omega:(q:Int)<500),Bool.true_and]at HBQ
     clear hq5 hq6
     generalize sNamF rg is.length y=res at *
     obtain⟨yname,yreg,yfro,ytil⟩:=y
     simp only at *
     cases res
     ·have RR:Hid (NamedSaid l 4 f q):=unhide FI HBQ.out
      clear FI NX
      go_wp2_with fail
      refine(unhide CO _).mono ?_
      rintro e w2 ⟨rfl,hb2⟩
      have hx2:=(unhide HX).below' (((unhide HBO).alloc (by omega) _).trans (hb2.mono (by simp;omega)))
      clear hb2
      have r0:=hx2.res 0 (by omega);have r1:=hx2.res 1 (by omega);have r2:=hx2.res 2 (by omega)
      have z0:=hx2.frozen 0;have z1:=hx2.frozen 1;have z2:=hx2.frozen 2
      have BB:Hid (∀ v0 v1 v2,Below w.heap.size w (((w2.setCell ⟨w.heap.size+1,0,none⟩ v0).setCell ⟨w.heap.size+1,1,none⟩ v1).setCell ⟨w.heap.size+1,2,none⟩ v2)):=fun v0 v1 v2=>box2_set3 hx2 v0 v1 v2
      go_wp2_with fail
      exact bodyPost_ret (v:=.agg #[.int .i64 4,.int .i64 f,.int .i64 q]) (by simp[results,Tryz.results35,go_sem,r0,r1,r2]) rfl ⟨4,f,q,rfl,unhide RR,BB.out _ _ _⟩
     ·have RR:Hid (∀ j,j<q+1→bad4 l f j=false):=unhide NX HBQ.out
      clear FI NX
      go_wp2_with fail
      refine(unhide CO _).mono ?_
      rintro e w2 ⟨rfl,hb2⟩
      have HB3:=hide (((unhide HWW).alloc (by omega) _).trans (hb2.mono (by simp;omega)))
      clear hb2
      go_wp2_with fail
      go_roundg (ns.length-(q+1))
      case measure=>omega
      case rel=>exact⟨q+1,by omega,by go_num,unhide HB3,RR⟩
    ·have NXF:Hid (∀ f' p',f'<f+1→p'<len4 l f'→bad4 l f' p'=false):=rows_next (l:=l) hgood.out (fun p hp=>hok.out p (by rw[LEN.out]at hp;have hp:p<ns.length:=hp;omega))
     have HX2:=hide ((unhide HX).below' hbo)
     clear hbo hW
     go_wp2_with fail
     go_roundg (l.length-(f+1))
     case measure=>omega
     case rel=>exact⟨f+1,by omega,by go_num,unhide HX2,NXF⟩
  ·have NO:Hid (NamedSaid l 0 0 0):=.inr ⟨fun f' p' h1 h2=>hgood.out f' p' (by omega) h2,rfl,rfl,rfl⟩
   obtain⟨w2,rfl⟩:∃ w2,w2=wr:=⟨wr,rfl⟩
   have hx2:=hx
   clear hx hgood
   have r0:=hx2.res 0 (by omega);have r1:=hx2.res 1 (by omega);have r2:=hx2.res 2 (by omega)
   have z0:=hx2.frozen 0;have z1:=hx2.frozen 1;have z2:=hx2.frozen 2
   have BB:Hid (∀ v0 v1 v2,Below w.heap.size w (((w2.setCell ⟨w.heap.size+1,0,none⟩ v0).setCell ⟨w.heap.size+1,1,none⟩ v1).setCell ⟨w.heap.size+1,2,none⟩ v2)):=fun v0 v1 v2=>box2_set3 hx2 v0 v1 v2
   go_wp2_with fail
   exact bodyPost_ret (v:=.agg #[.int .i64 0,.int .i64 0,.int .i64 0]) (by simp[results,Tryz.results35,go_sem,r0,r1,r2]) rfl ⟨0,0,0,rfl,unhide NO,BB.out _ _ _⟩
end Go.Proofs.YtmjcpapdncfkpaaGreatDoor
