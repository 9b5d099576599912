import Derived.Test.YthmjjhfjkgaocaaGreatDoorPart18
import Derived.Deep.LoopGhost
set_option linter.unusedSimpArgs false
set_option linter.unusedVariables false
set_option maxHeartbeats 8000000
set_option maxRecDepth 100000
namespace Go.Proofs.YthmjjhfjkgaocaaGreatDoor
open Go.RowKit
attribute [local go_sem] run_store_float
def InsSaid (l:List ProtoD)(c f n:Int):Prop:=
 (c=5∧∃ F P:Nat,f=F∧n=P∧FirstC l (len5 l) (bad5 l) F P)∨(NoC l (len5 l) (bad5 l)∧c=0∧f=0∧n=0)
theorem checkIns_any (a:Option Addr)(l:List ProtoD)(c:Nat)(S:Nat→Prop)(w:World)(hs:ProtosAt w S a l)(hB:∀ b,S b→b<w.heap.size)(hl:tProtos l≤1048576)(heads:HeadsC l)(hG:RTab w) :
  Calls Tryz.prog 75 #[.agg #[.slice a l.length c]] w fun e w'=>∃ x f n,e=.returned (.agg #[.int .i64 x,.int .i64 f,.int .i64 n])∧InsSaid l x f n∧Below w.heap.size w w':=by
 have hn:=hs.1
 have HS:=hide hs
 have HB:=hide hB
 have HEADS:=hide heads
 have HG:=hide hG
 clear heads hG
 have X0:Hid (Box2 w a l.length c (box2 w a l.length c)):=Box2.start w a l.length c
 clear hs hB hl
 go_enter Tryz.func75,Tryz.ntmps75
 go_wp2_with fail
 go_loopg [10] l.length (fun g i wr=>∃(k:Nat),k+g=l.length∧i=.int .i64 k∧Box2 w a l.length c wr∧Hid (∀ f' p',f'<k→p'<len5 l f'→bad5 l f' p'=false))
 case atStart=>exact⟨0,by omega,rfl,X0.out,fun _ _ h=>absurd h (Nat.not_lt_zero _)⟩
 case round=>
  clear X0
  obtain⟨f,hk,rfl,hx,hgood⟩:=hrel
  have u0:=hx.unit
  by_cases hlt:f<l.length
  ·obtain⟨b,off,rfl,hb,hcc⟩:=((unhide HS).keep hx.old (unhide HB)).2 (by omega)
   have N:ProtoCells wr S b (off+f * 9) (prD l f):=hcc f hlt
   have HBr:Hid (∀ b,S b→b<wr.heap.size):=fun b h=>Nat.lt_of_lt_of_le (unhide HB b h) hx.old.size
   have HRG:=hide (head_regs (unhide HEADS f hlt))
   clear hcc
   obtain⟨x,hxe⟩:∃ x,x=prD l f:=⟨_,rfl⟩
   have BAD:Hid (∀ q,bad5 l f q=if(prD l f).ins.length=0 then true else !sInsOk (prD l f) l.length q):=fun _=>rfl
   have LEN0:Hid (len5 l f=if(prD l f).ins.length=0 then 1 else(prD l f).ins.length):=rfl
   rw[←hxe]at N BAD LEN0 HRG
   clear hxe
   obtain⟨a5,c5,h5,H5⟩:=N.ups
   obtain⟨a6,c6,h6,H6⟩:=N.consts
   obtain⟨a7,c7,h7,H7⟩:=N.ins
   obtain⟨a8,c8,h8,H8⟩:=N.named
   have c0:=N.name;have c1:=N.line;have c2:=N.params;have c3:=N.rest;have c4:=N.regs
   have VV:=hide H7
   have hvl:=H7.1
   have hu:=H5.1;have hcl:=H6.1;have hil:=H7.1
   clear N H5 H6 H7 H8
   obtain⟨nm,ln,pr,rs,rg,us,cs,is,ns⟩:=x
   simp only at *
   obtain⟨wo,rfl⟩:∃ wo,wo=wr:=⟨wr,rfl⟩
   have P0:Hid (∀ W,Below (wo.heap.size+1) (wo.alloc (.cells #[.string nm,.int .i64 ln,.int .i64 pr,.bool rs,.int .i64 rg,.slice a5 us.length c5,.slice a6 cs.length c6,.slice a7 is.length c7,.slice a8 ns.length c8] 53)) W→Prot W wo.heap.size nm ln pr rs rg (.slice a5 us.length c5) (.slice a6 cs.length c6) (.slice a7 is.length c7) (.slice a8 ns.length c8)∧Below wo.heap.size wo W):=fun W hW=>
    ⟨Prot.keep (by refine⟨?_,?_,?_,?_,?_,?_,?_,?_,?_⟩<;>simp[go_sem]) hW (by omega),((Below.refl _ _).alloc (Nat.le_refl _) _).trans (hW.mono (by omega))⟩
   have HX:=hide hx
   clear hx
   by_cases h0:is.length=0
   ·have RR:Hid (InsSaid l 5 f 0):=.inl ⟨rfl,f,0,rfl,rfl,rows_first hlt (by rw[LEN0.out,if_pos h0];omega) (by rw[unhide BAD 0,if_pos h0]) hgood.out (fun _ h=>absurd h (Nat.not_lt_zero _))⟩
    have e0:((is.length:Int)==0)=true:=by rw[h0];rfl
    have hxr:=unhide HX
    clear h0 BAD LEN0
    have r0:=hxr.res 0 (by omega);have r1:=hxr.res 1 (by omega);have r2:=hxr.res 2 (by omega)
    have z0:=hxr.frozen 0;have z1:=hxr.frozen 1;have z2:=hxr.frozen 2
    have hw1:w.heap.size+1<wo.heap.size:=by have:=hxr.size;omega
    have BB:Hid (∀ o v0 v1 v2,Below w.heap.size w ((((wo.alloc o).setCell ⟨w.heap.size+1,0,none⟩ v0).setCell ⟨w.heap.size+1,1,none⟩ v1).setCell ⟨w.heap.size+1,2,none⟩ v2)):=fun o v0 v1 v2=>box2_set3 (hxr.alloc o) v0 v1 v2
    have BB2:Hid (∀ o v0 v1 v2,Below w.heap.size w ((((wo.setCell ⟨w.heap.size+1,0,none⟩ v0).setCell ⟨w.heap.size+1,1,none⟩ v1).setCell ⟨w.heap.size+1,2,none⟩ v2).alloc o)):=fun o v0 v1 v2=>(box2_set3 hxr v0 v1 v2).alloc (by simp;omega) o
    clear hxr
    go_wp2_with fail
    refine bodyPost_ret (v:=.agg #[.int .i64 5,.int .i64 f,.int .i64 0]) (by simp[results,Tryz.results75,go_sem,r0,r1,r2,hw1]) rfl ⟨5,f,0,rfl,unhide RR,?_⟩
    first | exact BB.out _ _ _ _ | exact BB2.out _ _ _ _
   have LEN:Hid (len5 l f=is.length):=by show _=_;rw[LEN0.out,if_neg h0]
   have e0:((is.length:Int)==0)=false:=beq_eq_false_iff_ne.2 (by omega)
   clear LEN0
   go_wp2_with fail
   clear e0
   clear h5 h6 h7 h8 c0 c1 c2 c3 c4 u0
   go_loopg [24] is.length (fun g i wr=>∃(k:Nat),k+g=is.length∧i=.int .i64 k∧Below (wo.heap.size+1) (wo.alloc (.cells #[.string nm,.int .i64 ln,.int .i64 pr,.bool rs,.int .i64 rg,.slice a5 us.length c5,.slice a6 cs.length c6,.slice a7 is.length c7,.slice a8 ns.length c8] 53)) wr∧Hid (∀ q,q<k→bad5 l f q=false))
   case atStart=>exact⟨0,by omega,rfl,Below.refl _ _,fun _ h=>absurd h (Nat.not_lt_zero _)⟩
   case round=>
    obtain⟨q,hq,rfl,hW,hok⟩:=hrel
    obtain⟨⟨b0,b1,b2,b3,b4,b5,b6,b7,b8⟩,hbo⟩:=unhide P0 wr hW
    by_cases hql:q<is.length
    ·have HWW:=hide hW
     have HBO:=hide hbo
     have hws:wo.heap.size+1≤wr.heap.size:=by have:=hW.size;simpa using this
     have hbs:wo.heap.size<wr.heap.size:=by omega
     have FI:Hid (bad5 l f q=true→InsSaid l 5 f q):=fun h=>.inl ⟨rfl,f,q,rfl,rfl,rows_first hlt (by rw[LEN.out];exact hql) h hgood.out hok.out⟩
     have NX:Hid (bad5 l f q=false→∀ j,j<q+1→bad5 l f j=false):=fun h=>upto_next hok.out h
     have uu:=(unhide HX).unit
     have uu2:wr.cell? ⟨w.heap.size,0,none⟩=some (.slice (some ⟨b,off,none⟩) l.length c):=(hbo.cell (p:=⟨w.heap.size,0,none⟩) (by have:=(unhide HX).size;show w.heap.size<wo.heap.size;omega)).trans uu
     have huw:w.heap.size<wr.heap.size:=by have:=(unhide HX).size;omega
     clear hbo hW uu
     obtain⟨bv,offv,rfl,hbv,hcv⟩:=((unhide VV).keep (unhide HBO) (unhide HBr)).2 (by omega)
     have M:=hcv q hql
     clear hcv
     have BQ:=unhide BAD q
     obtain⟨y,hye⟩:∃ y,y=is[q]?.getD InsD.z:=⟨_,rfl⟩
     rw[if_neg (by omega),sInsOk_eq]at BQ
     simp only at BQ
     rw[←hye]at M BQ
     have HBQ:=hide BQ
     clear hye BQ
     have d0:=M.op;have d1:=M.fa;have d2:=M.fb;have d3:=M.fc;have d4:=M.fd
     clear M
     have RT:=hide ((unhide HG).keep ((unhide HX).old.trans ((unhide HBO).mono (unhide HX).old.size)) (unhide HG).pos)
     have CO:Hid (∀ W:World,Below wr.heap.size wr W→Calls Tryz.prog 109 #[.agg #[.int .i64 y.op,.int .i64 y.fa,.int .i64 y.fb,.int .i64 y.fc,.int .i64 y.fd],.agg #[.string nm,.int .i64 ln,.int .i64 pr,.bool rs,.int .i64 rg,.slice a5 us.length c5,.slice a6 cs.length c6,.slice (some ⟨bv,offv,none⟩) is.length c7,.slice a8 ns.length c8],.int .i64 l.length] W fun e w'=>e=.returned (.bool (sInsF ⟨nm,ln,pr,rs,rg,us,cs,is,ns⟩ l.length y))∧Below W.heap.size W w'):=fun W hW=>insFits_any y.op y.fa y.fb y.fc y.fd l.length nm ln pr rs rg us cs is ns a5 a6 (some ⟨bv,offv,none⟩) a8 c5 c6 c7 c8 W ((unhide RT).keep hW (unhide RT).pos) hu hcl hil hn (unhide HRG)
     have GO:Hid (∀ W:World,Calls Tryz.prog 85 #[.agg #[.int .i64 y.op,.int .i64 y.fa,.int .i64 y.fb,.int .i64 y.fc,.int .i64 y.fd]] W fun e w'=>e=.returned (.bool (sGoesOn y.op))∧Below W.heap.size W w'):=fun W=>goesOn_any y.op y.fa y.fb y.fc y.fd W
     generalize sInsF ⟨nm,ln,pr,rs,rg,us,cs,is,ns⟩ l.length y=res at *
     generalize sGoesOn y.op=gon at *
     obtain⟨yop,yfa,yfb,yfc,yfd⟩:=y
     simp only at *
     have hA:∀ o,Below wr.heap.size wr (wr.alloc o):=fun o=>(Below.refl _ _).alloc (Nat.le_refl _) o
     cases res
     ·have RR:Hid (InsSaid l 5 f q):=unhide FI (by rw[HBQ.out];rfl)
      clear FI NX
      go_wp2_with fail
      refine(unhide CO _ (hA _)).mono ?_
      rintro e w2 ⟨rfl,hb2⟩
      have hx2:=(unhide HX).below' (((unhide HBO).alloc (by omega) _).trans (hb2.mono (by simp;omega)))
      clear hb2
      have r0:=hx2.res 0 (by omega);have r1:=hx2.res 1 (by omega);have r2:=hx2.res 2 (by omega)
      have z0:=hx2.frozen 0;have z1:=hx2.frozen 1;have z2:=hx2.frozen 2
      have BB:Hid (∀ v0 v1 v2,Below w.heap.size w (((w2.setCell ⟨w.heap.size+1,0,none⟩ v0).setCell ⟨w.heap.size+1,1,none⟩ v1).setCell ⟨w.heap.size+1,2,none⟩ v2)):=fun v0 v1 v2=>box2_set3 hx2 v0 v1 v2
      go_wp2_with fail
      exact bodyPost_ret (v:=.agg #[.int .i64 5,.int .i64 f,.int .i64 q]) (by simp[results,Tryz.results75,go_sem,r0,r1,r2]) rfl ⟨5,f,q,rfl,unhide RR,BB.out _ _ _⟩
     by_cases hlast:q+1=is.length
     ·have e7:((q:Int)==(is.length:Int)-1)=true:=by simp;omega
      have HBQ2:Hid (bad5 l f q=gon):=by show _=_;rw[HBQ.out,decide_eq_true hlast];simp
      have PC:Hid (∀ w2,Below (wr.heap.size+1) (wr.alloc (.cells #[.int .i64 yop,.int .i64 yfa,.int .i64 yfb,.int .i64 yfc,.int .i64 yfd] 78)) w2→(w2.cell? ⟨wr.heap.size,0,none⟩=some (.int .i64 yop)∧w2.cell? ⟨wr.heap.size,1,none⟩=some (.int .i64 yfa)∧w2.cell? ⟨wr.heap.size,2,none⟩=some (.int .i64 yfb)∧w2.cell? ⟨wr.heap.size,3,none⟩=some (.int .i64 yfc)∧w2.cell? ⟨wr.heap.size,4,none⟩=some (.int .i64 yfd))∧w2.cell? ⟨wo.heap.size,7,none⟩=some (.slice (some ⟨bv,offv,none⟩) is.length c7)∧wr.heap.size<w2.heap.size∧wo.heap.size<w2.heap.size):=fun w2 h2=>by
       have h3:=h2.size
       simp at h3
       refine⟨⟨?_,?_,?_,?_,?_⟩,?_,by omega,by omega⟩
       ·rw[h2.cell (p:=⟨wr.heap.size,0,none⟩) (by simp)];simp[go_sem]
       ·rw[h2.cell (p:=⟨wr.heap.size,1,none⟩) (by simp)];simp[go_sem]
       ·rw[h2.cell (p:=⟨wr.heap.size,2,none⟩) (by simp)];simp[go_sem]
       ·rw[h2.cell (p:=⟨wr.heap.size,3,none⟩) (by simp)];simp[go_sem]
       ·rw[h2.cell (p:=⟨wr.heap.size,4,none⟩) (by simp)];simp[go_sem]
       ·rw[h2.cell (p:=⟨wo.heap.size,7,none⟩) (by show wo.heap.size<wr.heap.size+1;omega),Below.cell (B:=wr.heap.size) ((Below.refl _ _).alloc (Nat.le_refl _) _) (p:=⟨wo.heap.size,7,none⟩) hbs];exact b7
      clear HBQ hlast
      cases gon
      ·have RR:Hid (∀ j,j<q+1→bad5 l f j=false):=unhide NX HBQ2.out
       clear FI NX
       go_wp2_with fail
       refine(unhide CO _ (hA _)).mono ?_
       rintro e w2 ⟨rfl,hb2⟩
       have hb2:Below (wr.heap.size+1) (wr.alloc (.cells #[.int .i64 yop,.int .i64 yfa,.int .i64 yfb,.int .i64 yfc,.int .i64 yfd] 78)) w2:=by simpa using hb2
       obtain⟨⟨y0,y1,y2,y3,y4⟩,g7,gs1,gs2⟩:=unhide PC w2 hb2
       go_wp2_with fail
       refine(unhide GO _).mono ?_
       rintro e w3 ⟨rfl,hb3⟩
       have HB3:=hide ((((unhide HWW).alloc (by omega) _).trans (hb2.mono (by omega))).trans (hb3.mono (by omega)))
       clear hb2 hb3
       go_wp2_with fail
       go_roundg (is.length-(q+1))
       case measure=>omega
       case rel=>exact⟨q+1,by omega,by go_num,unhide HB3,RR⟩
      ·have RR:Hid (InsSaid l 5 f q):=unhide FI HBQ2.out
       clear FI NX
       go_wp2_with fail
       refine(unhide CO _ (hA _)).mono ?_
       rintro e w3 ⟨rfl,hb3⟩
       have hb3:Below (wr.heap.size+1) (wr.alloc (.cells #[.int .i64 yop,.int .i64 yfa,.int .i64 yfb,.int .i64 yfc,.int .i64 yfd] 78)) w3:=by simpa using hb3
       obtain⟨⟨y0,y1,y2,y3,y4⟩,g7,gs1,gs2⟩:=unhide PC w3 hb3
       go_wp2_with fail
       refine(unhide GO _).mono ?_
       rintro e w2 ⟨rfl,hb2⟩
       have hx2:=(unhide HX).below' ((((unhide HBO).alloc (by omega) _).trans (hb3.mono (by omega))).trans (hb2.mono (by omega)))
       clear hb2 hb3
       have r0:=hx2.res 0 (by omega);have r1:=hx2.res 1 (by omega);have r2:=hx2.res 2 (by omega)
       have z0:=hx2.frozen 0;have z1:=hx2.frozen 1;have z2:=hx2.frozen 2
       have BB:Hid (∀ v0 v1 v2,Below w.heap.size w (((w2.setCell ⟨w.heap.size+1,0,none⟩ v0).setCell ⟨w.heap.size+1,1,none⟩ v1).setCell ⟨w.heap.size+1,2,none⟩ v2)):=fun v0 v1 v2=>box2_set3 hx2 v0 v1 v2
       go_wp2_with fail
       exact bodyPost_ret (v:=.agg #[.int .i64 5,.int .i64 f,.int .i64 q]) (by simp[results,Tryz.results75,go_sem,r0,r1,r2]) rfl ⟨5,f,q,rfl,unhide RR,BB.out _ _ _⟩
     ·have e7:((q:Int)==(is.length:Int)-1)=false:=beq_eq_false_iff_ne.2 (by omega)
      have RR:Hid (∀ j,j<q+1→bad5 l f j=false):=unhide NX (by rw[HBQ.out,decide_eq_false hlast];rfl)
      have PC:Hid (∀ w2,Below (wr.heap.size+1) (wr.alloc (.cells #[.int .i64 yop,.int .i64 yfa,.int .i64 yfb,.int .i64 yfc,.int .i64 yfd] 78)) w2→w2.cell? ⟨wo.heap.size,7,none⟩=some (.slice (some ⟨bv,offv,none⟩) is.length c7)∧wr.heap.size<w2.heap.size∧wo.heap.size<w2.heap.size):=fun w2 h2=>by
       have h3:=h2.size
       simp at h3
       refine⟨?_,by omega,by omega⟩
       rw[h2.cell (p:=⟨wo.heap.size,7,none⟩) (by show wo.heap.size<wr.heap.size+1;omega),Below.cell (B:=wr.heap.size) ((Below.refl _ _).alloc (Nat.le_refl _) _) (p:=⟨wo.heap.size,7,none⟩) hbs];exact b7
      clear FI NX HBQ hlast
      go_wp2_with fail
      refine(unhide CO _ (hA _)).mono ?_
      rintro e w2 ⟨rfl,hb2⟩
      have hb2:Below (wr.heap.size+1) (wr.alloc (.cells #[.int .i64 yop,.int .i64 yfa,.int .i64 yfb,.int .i64 yfc,.int .i64 yfd] 78)) w2:=by simpa using hb2
      obtain⟨g7,gs1,gs2⟩:=unhide PC w2 hb2
      have HB3:=hide (((unhide HWW).alloc (by omega) _).trans (hb2.mono (by omega)))
      clear hb2
      go_wp2_with fail
      go_roundg (is.length-(q+1))
      case measure=>omega
      case rel=>exact⟨q+1,by omega,by go_num,unhide HB3,RR⟩
    ·have NXF:Hid (∀ f' p',f'<f+1→p'<len5 l f'→bad5 l f' p'=false):=rows_next (l:=l) hgood.out (fun p hp=>hok.out p (by rw[LEN.out]at hp;have hp:p<is.length:=hp;omega))
     have HX2:=hide ((unhide HX).below' hbo)
     clear hbo hW
     go_wp2_with fail
     go_roundg (l.length-(f+1))
     case measure=>omega
     case rel=>exact⟨f+1,by omega,by go_num,unhide HX2,NXF⟩
  ·have NO:Hid (InsSaid l 0 0 0):=.inr ⟨fun f' p' h1 h2=>hgood.out f' p' (by omega) h2,rfl,rfl,rfl⟩
   obtain⟨w2,rfl⟩:∃ w2,w2=wr:=⟨wr,rfl⟩
   have hx2:=hx
   clear hx hgood
   have r0:=hx2.res 0 (by omega);have r1:=hx2.res 1 (by omega);have r2:=hx2.res 2 (by omega)
   have z0:=hx2.frozen 0;have z1:=hx2.frozen 1;have z2:=hx2.frozen 2
   have BB:Hid (∀ v0 v1 v2,Below w.heap.size w (((w2.setCell ⟨w.heap.size+1,0,none⟩ v0).setCell ⟨w.heap.size+1,1,none⟩ v1).setCell ⟨w.heap.size+1,2,none⟩ v2)):=fun v0 v1 v2=>box2_set3 hx2 v0 v1 v2
   go_wp2_with fail
   exact bodyPost_ret (v:=.agg #[.int .i64 0,.int .i64 0,.int .i64 0]) (by simp[results,Tryz.results75,go_sem,r0,r1,r2]) rfl ⟨0,0,0,rfl,unhide NO,BB.out _ _ _⟩
theorem upsStand_any (av:Option Addr)(vs:List (Bool×Int))(cv:Nat)(nm:ByteArray)(ln pr:Int)(rs:Bool)(rg:Int)(us:List (Bool×Int))(cs:List ValD)(is:List InsD)(ns:List NamD)(a5 a6 a7 a8:Option Addr)(c5 c6 c7 c8:Nat)(S:Nat→Prop)(w:World)(hs:UpsAt w S av vs)(hB:∀ b,S b→b<w.heap.size)(hu:us.length≤9223372036854775807)(hrg:0≤rg∧rg≤250) :
  Calls Tryz.prog 110 #[.slice av vs.length cv,.agg #[.string nm,.int .i64 ln,.int .i64 pr,.bool rs,.int .i64 rg,.slice a5 us.length c5,.slice a6 cs.length c6,.slice a7 is.length c7,.slice a8 ns.length c8]] w fun e w'=>e=.returned (.bool (sUpsC ⟨nm,ln,pr,rs,rg,us,cs,is,ns⟩ vs))∧Below w.heap.size w w':=by
 have hn:=hs.1
 have HS:=hide hs
 have HB:=hide hB
 have E:Hid (∀ u,upOkC ⟨nm,ln,pr,rs,rg,us,cs,is,ns⟩ u=if u.1 then sIn u.2 0 (rg-1)else sIn u.2 0 ((us.length:Int)-1)):=fun _=>rfl
 have ET:Hid ((∀ j,j<vs.length→upOkC ⟨nm,ln,pr,rs,rg,us,cs,is,ns⟩ (vs[j]?.getD (false,0))=true)→sUpsC ⟨nm,ln,pr,rs,rg,us,cs,is,ns⟩ vs=true):=fun h=>allFrom_true (fun j _ h2=>h j h2)
 have EF:Hid (∀ k,k<vs.length→upOkC ⟨nm,ln,pr,rs,rg,us,cs,is,ns⟩ (vs[k]?.getD (false,0))=false→sUpsC ⟨nm,ln,pr,rs,rg,us,cs,is,ns⟩ vs=false):=fun k h1 h2=>allFrom_false (Nat.zero_le _) h1 h2
 generalize sUpsC ⟨nm,ln,pr,rs,rg,us,cs,is,ns⟩ vs=res at *
 generalize upOkC ⟨nm,ln,pr,rs,rg,us,cs,is,ns⟩=UO at *
 obtain⟨hr0,hr1⟩:=hrg
 have P0:Hid (∀ W,Below (w.heap.size+1) (w.alloc (.cells #[.string nm,.int .i64 ln,.int .i64 pr,.bool rs,.int .i64 rg,.slice a5 us.length c5,.slice a6 cs.length c6,.slice a7 is.length c7,.slice a8 ns.length c8] 53)) W→Prot W w.heap.size nm ln pr rs rg (.slice a5 us.length c5) (.slice a6 cs.length c6) (.slice a7 is.length c7) (.slice a8 ns.length c8)∧Below w.heap.size w W):=fun W hW=>
  ⟨Prot.keep (by refine⟨?_,?_,?_,?_,?_,?_,?_,?_,?_⟩<;>simp[go_sem]) hW (by omega),((Below.refl _ _).alloc (Nat.le_refl _) _).trans (hW.mono (by omega))⟩
 clear hs hB
 go_enter Tryz.func110,Tryz.ntmps110
 go_wp2_with fail
 go_loopg [10] vs.length (fun g i wr=>∃(k:Nat),k+g=vs.length∧i=.int .i64 k∧Below (w.heap.size+1) (w.alloc (.cells #[.string nm,.int .i64 ln,.int .i64 pr,.bool rs,.int .i64 rg,.slice a5 us.length c5,.slice a6 cs.length c6,.slice a7 is.length c7,.slice a8 ns.length c8] 53)) wr∧Hid (∀ j,j<k→UO (vs[j]?.getD (false,0))=true))
 case atStart=>exact⟨0,by omega,rfl,Below.refl _ _,fun j h=>absurd h (Nat.not_lt_zero _)⟩
 case round=>
  obtain⟨k,hk,rfl,hW,hall⟩:=hrel
  obtain⟨⟨p0,p1,p2,p3,p4,p5,p6,p7,p8⟩,hb1⟩:=unhide P0 wr hW
  by_cases hlt:k<vs.length
  ·obtain⟨bu,offu,rfl,hbu,hcc⟩:=((unhide HS).keep hb1 (unhide HB)).2 (by omega)
   obtain⟨u0,u1⟩:=hcc k hlt
   clear hcc
   have hcw:w.heap.size<wr.heap.size:=by have:=hW.size;simp at this;omega
   have hbw:bu<wr.heap.size:=Nat.lt_of_lt_of_le (unhide HB bu hbu) hb1.size
   have NX:Hid (UO (vs[k]?.getD (false,0))=true→∀ j,j<k+1→UO (vs[j]?.getD (false,0))=true):=fun h j hj=>by
    by_cases e:j=k
    ·subst e;exact h
    ·exact hall.out j (by omega)
   have NF:=hide (unhide EF k hlt)
   have EQ:=unhide E (vs[k]?.getD (false,0))
   generalize vs[k]?.getD (false,0)=u at *
   have HEQ:=hide EQ
   have HBA:Hid (∀ o,Below (w.heap.size+1) (w.alloc (.cells #[.string nm,.int .i64 ln,.int .i64 pr,.bool rs,.int .i64 rg,.slice a5 us.length c5,.slice a6 cs.length c6,.slice a7 is.length c7,.slice a8 ns.length c8] 53)) (wr.alloc o)):=fun o=>hW.alloc (by omega) o
   have HB1:Hid (∀ o,Below w.heap.size w (wr.alloc o)):=fun o=>hb1.alloc (by omega) o
   clear EQ hall hW hb1
   obtain⟨loc,ix⟩:=u
   simp only at *
   cases loc
   ·have EQ2:Hid (UO (false,ix)=sIn ix 0 ((us.length:Int)-1)):=by show _=_;rw[HEQ.out];rfl
    clear HEQ
    cases hq:sIn ix 0 ((us.length:Int)-1)
    ·have RR:Hid (res=false):=unhide NF (by rw[EQ2.out,hq])
     have HQ:=hide hq
     clear hq EQ2 NX NF
     go_wp2_with fail
     refine(within_any _ _ _ _).mono ?_
     rintro e w' ⟨rfl,rfl⟩
     rw[HQ.out]
     go_wp2_with fail
     go_ret
     exact⟨ret_bool RR.out.symm,unhide HB1 _⟩
    ·have RR:Hid (∀ j,j<k+1→UO (vs[j]?.getD (false,0))=true):=unhide NX (by rw[EQ2.out,hq])
     have HQ:=hide hq
     clear hq EQ2 NX NF
     go_wp2_with fail
     refine(within_any _ _ _ _).mono ?_
     rintro e w' ⟨rfl,rfl⟩
     rw[HQ.out]
     go_wp2_with fail
     go_roundg (vs.length-(k+1))
     case measure=>omega
     case rel=>exact⟨k+1,by omega,by go_num,unhide HBA _,RR⟩
   ·have EQ2:Hid (UO (true,ix)=sIn ix 0 (rg-1)):=by show _=_;rw[HEQ.out];rfl
    clear HEQ
    cases hq:sIn ix 0 (rg-1)
    ·have RR:Hid (res=false):=unhide NF (by rw[EQ2.out,hq])
     have HQ:=hide hq
     clear hq EQ2 NX NF
     go_wp2_with fail
     refine(within_any _ _ _ _).mono ?_
     rintro e w' ⟨rfl,rfl⟩
     rw[HQ.out]
     go_wp2_with fail
     go_ret
     exact⟨ret_bool RR.out.symm,unhide HB1 _⟩
    ·have RR:Hid (∀ j,j<k+1→UO (vs[j]?.getD (false,0))=true):=unhide NX (by rw[EQ2.out,hq])
     have HQ:=hide hq
     clear hq EQ2 NX NF
     go_wp2_with fail
     refine(within_any _ _ _ _).mono ?_
     rintro e w' ⟨rfl,rfl⟩
     rw[HQ.out]
     go_wp2_with fail
     go_roundg (vs.length-(k+1))
     case measure=>omega
     case rel=>exact⟨k+1,by omega,by go_num,unhide HBA _,RR⟩
  ·have RR:Hid (res=true):=unhide ET (fun j hj=>hall.out j (by omega))
   go_wp2_with fail
   go_ret
   exact⟨ret_bool RR.out.symm,hb1⟩
end Go.Proofs.YthmjjhfjkgaocaaGreatDoor
