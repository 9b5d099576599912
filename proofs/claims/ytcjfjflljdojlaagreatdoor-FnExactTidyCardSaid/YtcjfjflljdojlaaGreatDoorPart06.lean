import Derived.Test.YtcjfjflljdojlaaGreatDoorPart05
set_option linter.unusedSimpArgs false
set_option linter.unusedVariables false
set_option maxHeartbeats 4000000
set_option maxRecDepth 100000
namespace Go.Proofs.YtcjfjflljdojlaaGreatDoor
open Go.RowKit
def dh (n:ak)(np:Nat)(x:Int):Nat->Bool
 | 0=>x==0
 | 1=>dw x 0 (n.regs-1)
 | 2=>dw x (-n.regs) (n.regs-1)
 | 3=>dw x (-n.regs) (n.regs-1)
 | 4=>dw x 0 (n.regs-1)
 | 5=>dw x 0 (n.regs-1)
 | 6=>dw x 0 (n.regs-1)
 | 7=>dw x 0 ((n.consts.length:Int)-1)
 | 8=>dw x 0 ((n.ups.length:Int)-1)
 | 9=>dw x 0 ((np:Int)-1)
 | 10=>dw x 0 ((n.ins.length:Int)-1)
 | 11=>dw x 1 100000
 | 12=>dw x 0 100000
 | 13=>dw x 0 n.regs
 | 14=>dw x 0 (n.regs-2)
 | 15=>dw x 19 22
 | 16=>dw x 1 18
 | 17=>dw x 0 250
 | 18=>dw x 0 (n.regs-3)
 | 19=>dw x 0 (n.regs-2)
 | 20=>dw x 0 (n.regs-2)
 | _=>dw x 0 (n.regs-1)
theorem JY (a:o_)(l:List ak)(c p:Nat)(x:Int)(S:Nat->Prop)(w:World)(hs:ao w S a l)(hB:∀ b,S b->b<w.heap.size)(hp:p<l.length)(ko:0<=(am l p).regs/\(am l p).regs<=250) :
  c_ 135 #[.agg #[.slice a l.length c],i_ p,i_ 0,i_ x] w fun e w'=>e=.returned (.bool (dh (am l p) l.length x 0))/\b_ w w':=by
 have hn:=hs.1;obtain⟨b,off,rfl,hb,aE⟩:=hs.2 (by omega);have N:aU w S b (off+p * 9) (am l p):=aE p hp;have cZ:=hB b hb;clear aE hs hB;have dR:Hid (∀ o1 o2,b_ w ((w.alloc o1).alloc o2)):=fun o1 o2=>(r_.alloc n_ o1).alloc (by simp) o2;generalize am l p=n at *;obtain⟨a5,c5,h5,H5⟩:=N.ups;obtain⟨a6,c6,h6,H6⟩:=N.consts;obtain⟨a7,c7,h7,H7⟩:=N.ins;obtain⟨a8,c8,h8,H8⟩:=N.named;have c0:=N.name;have c1:=N.line;have c2:=N.params;have c3:=N.rest;have c4:=N.regs;have RZ:=N.names;have hu:=H5.1;have qJ:=H6.1;have jn:=H7.1;have Bp:=H8.1;clear N H5 H6 H7 H8;obtain⟨nm,ln,pr,rs,rg,us,cs,is,ns⟩:=n;simp only at *;obtain⟨qK,vj⟩:=ko;have R:Hid ((x==0)=dh ⟨nm,ln,pr,rs,rg,us,cs,is,ns⟩ l.length x 0):=rfl;generalize dh ⟨nm,ln,pr,rs,rg,us,cs,is,ns⟩ l.length x 0=res at *;go_enter Tryz.func135,Tryz.ntmps135;go_wp2_with fail
 go_ret;exact⟨al (aa R),aa dR _ _⟩
theorem Cp (a:o_)(l:List ak)(c p r:Nat)(x:Int)(S:Nat->Prop)(w:World)(hs:ao w S a l)(hB:∀ b,S b->b<w.heap.size)(hp:p<l.length)(ko:0<=(am l p).regs/\(am l p).regs<=250)(hr:r<=21) :
  c_ 135 #[.agg #[.slice a l.length c],i_ p,i_ r,i_ x] w fun e w'=>e=.returned (.bool (dh (am l p) l.length x r))/\b_ w w':=by
 by_cases h0:r=0
 ·aj h0;exact JY a l c p x S w hs hB hp ko
 have hn:=hs.1;obtain⟨b,off,rfl,hb,aE⟩:=hs.2 (by omega);have N:aU w S b (off+p * 9) (am l p):=aE p hp;have cZ:=hB b hb;clear aE hs hB;have dR:Hid (∀ o1 o2,b_ w ((w.alloc o1).alloc o2)):=fun o1 o2=>(r_.alloc n_ o1).alloc (by simp) o2;generalize am l p=n at *;obtain⟨a5,c5,h5,H5⟩:=N.ups;obtain⟨a6,c6,h6,H6⟩:=N.consts;obtain⟨a7,c7,h7,H7⟩:=N.ins;obtain⟨a8,c8,h8,H8⟩:=N.named;have c0:=N.name;have c1:=N.line;have c2:=N.params;have c3:=N.rest;have c4:=N.regs;have RZ:=N.names;have hu:=H5.1;have qJ:=H6.1;have jn:=H7.1;have Bp:=H8.1;clear N H5 H6 H7 H8;obtain⟨nm,ln,pr,rs,rg,us,cs,is,ns⟩:=n;simp only at *;obtain⟨qK,vj⟩:=ko;obtain⟨res,y5⟩:∃ res,dh ⟨nm,ln,pr,rs,rg,us,cs,is,ns⟩ l.length x r=res:=⟨_,rfl⟩;rw[y5];have R:=af y5;have hc:r=1\/r=2\/r=3\/r=4\/r=5\/r=6\/r=7\/r=8\/r=9\/r=10\/r=11\/r=12\/r=13\/r=14\/r=15\/r=16\/r=17\/r=18\/r=19\/r=20\/r=21:=by omega
 clear y5 hr h0;rcases hc with rfl | rfl | rfl | rfl | rfl | rfl | rfl | rfl | rfl | rfl | rfl | rfl | rfl | rfl | rfl | rfl | rfl | rfl | rfl | rfl | rfl
 all_goals
  go_enter Tryz.func135,Tryz.ntmps135;go_wp2_with fail
  refine(aB _ _ _ _).mono ?_;rintro e w' ⟨rfl,rfl⟩;go_wp2_with fail
  go_ret;exact⟨al (aa R),aa dR _ _⟩
end Go.Proofs.YtcjfjflljdojlaaGreatDoor
