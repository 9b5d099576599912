import Derived.Test.YtgghbbpbdaghnaaDoorPart22
set_option linter.unusedSimpArgs false
set_option linter.unusedVariables false
set_option maxHeartbeats 8000000
set_option maxRecDepth 100000
namespace Go.Proofs.YtgghbbpbdaghnaaDoor
open Go.RowKit
theorem upsStand_any (av:Option Addr)(vs:List (Bool×Int))(cv:Nat)(nm:ByteArray)(ln pr:Int)(rs:Bool)(rg:Int)(us:List (Bool×Int))(cs:List ValD)(is:List InsD)(ns:List NamD)(a5 a6 a7 a8:Option Addr)(c5 c6 c7 c8:Nat)(S:Nat->Prop)(w:World)(hs:UpsAt w S av vs)(hB:∀ b,S b->b<w.heap.size)(hu:us.length<=9223372036854775807)(hrg:0<=rg/\rg<=250) :
  Calls Tryd.prog 36 #[.slice av vs.length cv,.agg #[.string nm,.int .i64 ln,.int .i64 pr,.bool rs,.int .i64 rg,.slice a5 us.length c5,.slice a6 cs.length c6,.slice a7 is.length c7,.slice a8 ns.length c8]] w fun e w'=>e=.returned (.bool (sUpsC ⟨nm,ln,pr,rs,rg,us,cs,is,ns⟩ vs))/\Below w.heap.size w w':=by
 have hn:=hs.1;have HS:=hide hs;have HB:=hide hB;have E:Hid (∀ u,upOkC ⟨nm,ln,pr,rs,rg,us,cs,is,ns⟩ u=if u.1 then sIn u.2 0 (rg-1)else sIn u.2 0 ((us.length:Int)-1)):=fun _=>rfl;have ET:Hid ((∀ j,j<vs.length->upOkC ⟨nm,ln,pr,rs,rg,us,cs,is,ns⟩ (vs[j]?.getD (false,0))=true)->sUpsC ⟨nm,ln,pr,rs,rg,us,cs,is,ns⟩ vs=true):=fun h=>allFrom_true (fun j _ h2=>h j h2);have EF:Hid (∀ k,k<vs.length->upOkC ⟨nm,ln,pr,rs,rg,us,cs,is,ns⟩ (vs[k]?.getD (false,0))=false->sUpsC ⟨nm,ln,pr,rs,rg,us,cs,is,ns⟩ vs=false):=fun k h1 h2=>allFrom_false (Nat.zero_le _) h1 h2;generalize sUpsC ⟨nm,ln,pr,rs,rg,us,cs,is,ns⟩ vs=res at *;generalize upOkC ⟨nm,ln,pr,rs,rg,us,cs,is,ns⟩=UO at *;obtain⟨hr0,hr1⟩:=hrg;have P0:Hid (∀ W,Below (w.heap.size+1) (w.alloc (.cells #[.string nm,.int .i64 ln,.int .i64 pr,.bool rs,.int .i64 rg,.slice a5 us.length c5,.slice a6 cs.length c6,.slice a7 is.length c7,.slice a8 ns.length c8] 43)) W->Prot W w.heap.size nm ln pr rs rg (.slice a5 us.length c5) (.slice a6 cs.length c6) (.slice a7 is.length c7) (.slice a8 ns.length c8)/\Below w.heap.size w W):=fun W hW=>
  ⟨Prot.keep (by refine⟨?_,?_,?_,?_,?_,?_,?_,?_,?_⟩<;>simp[go_sem]) hW (by omega),((Below.refl _ _).alloc (Nat.le_refl _) _).trans (hW.mono (by omega))⟩
 clear hs hB;go_enter Tryd.func36,Tryd.ntmps36;go_wp2_with fail
 go_loopg [10] vs.length (fun g i wr=>∃(k:Nat),k+g=vs.length/\i=.int .i64 k/\Below (w.heap.size+1) (w.alloc (.cells #[.string nm,.int .i64 ln,.int .i64 pr,.bool rs,.int .i64 rg,.slice a5 us.length c5,.slice a6 cs.length c6,.slice a7 is.length c7,.slice a8 ns.length c8] 43)) wr/\Hid (∀ j,j<k->UO (vs[j]?.getD (false,0))=true))
 case atStart=>exact⟨0,by omega,rfl,Below.refl _ _,fun j h=>absurd h (Nat.not_lt_zero _)⟩
 case round=>
  obtain⟨k,hk,rfl,hW,hall⟩:=hrel;obtain⟨⟨p0,p1,p2,p3,p4,p5,p6,p7,p8⟩,hb1⟩:=unhide P0 wr hW;by_cases hlt:k<vs.length
  ·obtain⟨bu,offu,rfl,hbu,hcc⟩:=((unhide HS).keep hb1 (unhide HB)).2 (by omega);obtain⟨u0,u1⟩:=hcc k hlt;clear hcc;have hcw:w.heap.size<wr.heap.size:=by have:=hW.size;simp at this;omega
   have hbw:bu<wr.heap.size:=Nat.lt_of_lt_of_le (unhide HB bu hbu) hb1.size;have NX:Hid (UO (vs[k]?.getD (false,0))=true->∀ j,j<k+1->UO (vs[j]?.getD (false,0))=true):=fun h j hj=>by
    by_cases e:j=k
    ·subst e;exact h
    ·exact hall.out j (by omega)
   have NF:=hide (unhide EF k hlt);have EQ:=unhide E (vs[k]?.getD (false,0));generalize vs[k]?.getD (false,0)=u at *;have HEQ:=hide EQ;have HBA:Hid (∀ o,Below (w.heap.size+1) (w.alloc (.cells #[.string nm,.int .i64 ln,.int .i64 pr,.bool rs,.int .i64 rg,.slice a5 us.length c5,.slice a6 cs.length c6,.slice a7 is.length c7,.slice a8 ns.length c8] 43)) (wr.alloc o)):=fun o=>hW.alloc (by omega) o;have HB1:Hid (∀ o,Below w.heap.size w (wr.alloc o)):=fun o=>hb1.alloc (by omega) o;clear EQ hall hW hb1;obtain⟨loc,ix⟩:=u;simp only at *;cases loc
   ·have EQ2:Hid (UO (false,ix)=sIn ix 0 ((us.length:Int)-1)):=by show _=_;rw[HEQ.out];rfl
    clear HEQ;cases hq:sIn ix 0 ((us.length:Int)-1)
    ·have RR:Hid (res=false):=unhide NF (by rw[EQ2.out,hq]);have HQ:=hide hq;clear hq EQ2 NX NF;go_wp2_with fail
     refine(within_any _ _ _ _).mono ?_;rintro e w' ⟨rfl,rfl⟩;rw[HQ.out];go_wp2_with fail
     go_ret;exact⟨ret_bool RR.out.symm,unhide HB1 _⟩
    ·have RR:Hid (∀ j,j<k+1->UO (vs[j]?.getD (false,0))=true):=unhide NX (by rw[EQ2.out,hq]);have HQ:=hide hq;clear hq EQ2 NX NF;go_wp2_with fail
     refine(within_any _ _ _ _).mono ?_;rintro e w' ⟨rfl,rfl⟩;rw[HQ.out];go_wp2_with fail
     go_roundg (vs.length-(k+1))
     case measure=>omega
     case rel=>exact⟨k+1,by omega,by go_num,unhide HBA _,RR⟩
   ·have EQ2:Hid (UO (true,ix)=sIn ix 0 (rg-1)):=by show _=_;rw[HEQ.out];rfl
    clear HEQ;cases hq:sIn ix 0 (rg-1)
    ·have RR:Hid (res=false):=unhide NF (by rw[EQ2.out,hq]);have HQ:=hide hq;clear hq EQ2 NX NF;go_wp2_with fail
     refine(within_any _ _ _ _).mono ?_;rintro e w' ⟨rfl,rfl⟩;rw[HQ.out];go_wp2_with fail
     go_ret;exact⟨ret_bool RR.out.symm,unhide HB1 _⟩
    ·have RR:Hid (∀ j,j<k+1->UO (vs[j]?.getD (false,0))=true):=unhide NX (by rw[EQ2.out,hq]);have HQ:=hide hq;clear hq EQ2 NX NF;go_wp2_with fail
     refine(within_any _ _ _ _).mono ?_;rintro e w' ⟨rfl,rfl⟩;rw[HQ.out];go_wp2_with fail
     go_roundg (vs.length-(k+1))
     case measure=>omega
     case rel=>exact⟨k+1,by omega,by go_num,unhide HBA _,RR⟩
  ·have RR:Hid (res=true):=unhide ET (fun j hj=>hall.out j (by omega));go_wp2_with fail
   go_ret;exact⟨ret_bool RR.out.symm,hb1⟩
end Go.Proofs.YtgghbbpbdaghnaaDoor
