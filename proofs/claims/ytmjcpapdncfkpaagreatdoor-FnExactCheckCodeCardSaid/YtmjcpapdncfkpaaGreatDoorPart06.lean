import Derived.Test.YtmjcpapdncfkpaaGreatDoorPart05
set_option linter.unusedSimpArgs false
set_option linter.unusedVariables false
set_option maxHeartbeats 4000000
set_option maxRecDepth 100000
namespace Go.Proofs.YtmjcpapdncfkpaaGreatDoor
open Go.RowKit
def sFits (n:ProtoD)(np:Nat)(x:Int):Nat→Bool
 | 0=>x==0
 | 1=>sIn x 0 (n.regs-1)
 | 2=>sIn x (-n.regs) (n.regs-1)
 | 3=>sIn x (-n.regs) (n.regs-1)
 | 4=>sIn x 0 (n.regs-1)
 | 5=>sIn x 0 (n.regs-1)
 | 6=>sIn x 0 (n.regs-1)
 | 7=>sIn x 0 ((n.consts.length:Int)-1)
 | 8=>sIn x 0 ((n.ups.length:Int)-1)
 | 9=>sIn x 0 ((np:Int)-1)
 | 10=>sIn x 0 ((n.ins.length:Int)-1)
 | 11=>sIn x 1 100000
 | 12=>sIn x 0 100000
 | 13=>sIn x 0 n.regs
 | 14=>sIn x 0 (n.regs-2)
 | 15=>sIn x 19 22
 | 16=>sIn x 1 18
 | 17=>sIn x 0 250
 | 18=>sIn x 0 (n.regs-3)
 | 19=>sIn x 0 (n.regs-2)
 | 20=>sIn x 0 (n.regs-2)
 | _=>sIn x 0 (n.regs-1)
theorem l6fits_0 (a:Option Addr)(l:List ProtoD)(c p:Nat)(x:Int)(S:Nat→Prop)(w:World)(hs:ProtosAt w S a l)(hB:∀ b,S b→b<w.heap.size)(hp:p<l.length)(hrg:0≤(prD l p).regs∧(prD l p).regs≤250) :
  Calls Tryz.prog 89 #[.agg #[.slice a l.length c],.int .i64 p,.int .i64 0,.int .i64 x] w fun e w'=>e=.returned (.bool (sFits (prD l p) l.length x 0))∧Below w.heap.size w w':=by
 have hn:=hs.1
 obtain⟨b,off,rfl,hb,hcc⟩:=hs.2 (by omega)
 have N:ProtoCells w S b (off+p * 9) (prD l p):=hcc p hp
 have hbl:=hB b hb
 clear hcc hs hB
 have HBA:Hid (∀ o1 o2,Below w.heap.size w ((w.alloc o1).alloc o2)):=fun o1 o2=>((Below.refl _ _).alloc (Nat.le_refl _) o1).alloc (by simp) o2
 generalize prD l p=n at *
 obtain⟨a5,c5,h5,H5⟩:=N.ups
 obtain⟨a6,c6,h6,H6⟩:=N.consts
 obtain⟨a7,c7,h7,H7⟩:=N.ins
 obtain⟨a8,c8,h8,H8⟩:=N.named
 have c0:=N.name;have c1:=N.line;have c2:=N.params;have c3:=N.rest;have c4:=N.regs
 have hns:=N.names
 have hu:=H5.1;have hcl:=H6.1;have hil:=H7.1;have hnl:=H8.1
 clear N H5 H6 H7 H8
 obtain⟨nm,ln,pr,rs,rg,us,cs,is,ns⟩:=n
 simp only at *
 obtain⟨hr0,hr1⟩:=hrg
 have R:Hid ((x==0)=sFits ⟨nm,ln,pr,rs,rg,us,cs,is,ns⟩ l.length x 0):=rfl
 generalize sFits ⟨nm,ln,pr,rs,rg,us,cs,is,ns⟩ l.length x 0=res at *
 go_enter Tryz.func89,Tryz.ntmps89
 go_wp2_with fail
 go_ret
 exact⟨ret_bool (unhide R),unhide HBA _ _⟩
theorem l6fits_any (a:Option Addr)(l:List ProtoD)(c p r:Nat)(x:Int)(S:Nat→Prop)(w:World)(hs:ProtosAt w S a l)(hB:∀ b,S b→b<w.heap.size)(hp:p<l.length)(hrg:0≤(prD l p).regs∧(prD l p).regs≤250)(hr:r≤21) :
  Calls Tryz.prog 89 #[.agg #[.slice a l.length c],.int .i64 p,.int .i64 r,.int .i64 x] w fun e w'=>e=.returned (.bool (sFits (prD l p) l.length x r))∧Below w.heap.size w w':=by
 by_cases h0:r=0
 ·subst h0;exact l6fits_0 a l c p x S w hs hB hp hrg
 have hn:=hs.1
 obtain⟨b,off,rfl,hb,hcc⟩:=hs.2 (by omega)
 have N:ProtoCells w S b (off+p * 9) (prD l p):=hcc p hp
 have hbl:=hB b hb
 clear hcc hs hB
 have HBA:Hid (∀ o1 o2,Below w.heap.size w ((w.alloc o1).alloc o2)):=fun o1 o2=>((Below.refl _ _).alloc (Nat.le_refl _) o1).alloc (by simp) o2
 generalize prD l p=n at *
 obtain⟨a5,c5,h5,H5⟩:=N.ups
 obtain⟨a6,c6,h6,H6⟩:=N.consts
 obtain⟨a7,c7,h7,H7⟩:=N.ins
 obtain⟨a8,c8,h8,H8⟩:=N.named
 have c0:=N.name;have c1:=N.line;have c2:=N.params;have c3:=N.rest;have c4:=N.regs
 have hns:=N.names
 have hu:=H5.1;have hcl:=H6.1;have hil:=H7.1;have hnl:=H8.1
 clear N H5 H6 H7 H8
 obtain⟨nm,ln,pr,rs,rg,us,cs,is,ns⟩:=n
 simp only at *
 obtain⟨hr0,hr1⟩:=hrg
 obtain⟨res,hres⟩:∃ res,sFits ⟨nm,ln,pr,rs,rg,us,cs,is,ns⟩ l.length x r=res:=⟨_,rfl⟩
 rw[hres]
 have R:=hide hres
 have hc:r=1∨r=2∨r=3∨r=4∨r=5∨r=6∨r=7∨r=8∨r=9∨r=10∨r=11∨r=12∨r=13∨r=14∨r=15∨r=16∨r=17∨r=18∨r=19∨r=20∨r=21:=by omega
 clear hres hr h0
 rcases hc with rfl | rfl | rfl | rfl | rfl | rfl | rfl | rfl | rfl | rfl | rfl | rfl | rfl | rfl | rfl | rfl | rfl | rfl | rfl | rfl | rfl
 all_goals
  go_enter Tryz.func89,Tryz.ntmps89
  go_wp2_with fail
  refine(l6in_any _ _ _ _).mono ?_
  rintro e w' ⟨rfl,rfl⟩
  go_wp2_with fail
  go_ret
  exact⟨ret_bool (unhide R),unhide HBA _ _⟩
end Go.Proofs.YtmjcpapdncfkpaaGreatDoor
