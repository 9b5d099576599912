import Derived.Test.YtmjcpapdncfkpaaGreatDoorPart14
set_option linter.unusedSimpArgs false
set_option linter.unusedVariables false
set_option maxHeartbeats 4000000
set_option maxRecDepth 100000
namespace Go.Proofs.YtmjcpapdncfkpaaGreatDoor
open Go.RowKit
def iRoleT:List (List Nat):=[[0,0,0,0],[1,0,0,0],[2,0,0,0],[0,0,0,0],[20,3,0,0],[20,12,0,0],[21,12,0,0],[20,15,0,0],[15,12,0,0],[20,4,0,0],[4,12,0,0],[20,5,0,0],[20,0,0,0],[14,12,12,0],[14,12,13,0],[20,12,12,0],[12,12,12,0],[20,7,12,0],[20,8,12,12],[6,0,0,0],[12,6,0,0],[12,6,0,0],[22,0,0,0],[16,12,0,0],[16,13,0,0],[20,13,0,0],[20,16,11,0],[22,16,0,0],[22,12,13,0],[13,0,0,0],[12,0,0,0],[6,10,0,0],[0,0,0,0],[9,0,0,0],[9,0,0,0],[12,13,0,0],[0,0,0,0],[18,0,0,0],[18,6,0,0],[18,6,0,0],[19,0,0,0],[17,6,22,0],[23,0,0,0]]
def iRole (op k:Nat):Nat:=(iRoleT[op]?.getD [])[k]?.getD 0
def mapR (r:Nat):Nat:=([0,11,12,7,8,9,10,15,16,13,14,17,2,3,4,5,6,20,18,19,1,1,1,21]:List Nat)[r]?.getD 0
theorem iRole_le:∀ op,op<43→∀ k,k<4→iRole op k≤23:=by decide
theorem iRole_map:∀ op:Nat,op<43→op≠0→rolesC (op:Int)=some [mapR (iRole op 0),mapR (iRole op 1),mapR (iRole op 2),mapR (iRole op 3)]:=by decide +kernel
theorem rolesC_none {op:Int}(h:¬(1≤op∧op≤42)):rolesC op=none:=by
 have key:∀(t:List (Int×List Nat)),(∀ p,p∈t→1≤p.1∧p.1≤42)→lookR op t=none:=by
  intro t
  induction t with
  | nil=>intro _;rfl
  | cons p t ih=>
   intro hp
   obtain⟨k,q⟩:=p
   unfold lookR
   rw[if_neg (fun e=>h (by have:=hp (k,q) (by simp);simp only at this;omega))]
   exact ih (fun p hq=>hp p (List.mem_cons_of_mem _ hq))
 exact key rolesT (by decide)
def RTab (w:World):Prop:=∃ cs t fr,w.heap[1]? = some (.cells cs t fr)∧cs.size=172∧∀ i,i<43→∀ j,j<4→cs[i * 4+j]? = some (.int .i64 (iRole i j:Nat))
theorem RTab.keep {w w':World}{B:Nat}(h:RTab w)(hb:Below B w w')(hB:1<B):RTab w':=by
 obtain⟨cs,t,fr,h1,h2⟩:=h
 exact⟨cs,t,fr,(hb.block 1 hB).trans h1,h2⟩
theorem RTab.pos {w:World}(h:RTab w):1<w.heap.size:=by
 obtain⟨cs,t,fr,h1,h2⟩:=h
 exact(Array.getElem?_eq_some_iff.1 h1).1
theorem RTab.cell {w:World}(h:RTab w){i j:Nat}(hi:i<43)(hj:j<4):w.cell? ⟨1,i * 4+j,none⟩=some (.int .i64 (iRole i j:Nat)):=by
 obtain⟨cs,t,fr,h1,h2,h3⟩:=h
 simp[World.cell?,h1,h3 i hi j hj]
theorem fieldsOf_any (op:Nat)(a b c d:Int)(w:World)(hG:RTab w)(hop:op<43) :
  Calls Tryz.prog 97 #[.agg #[.int .i64 op,.int .i64 a,.int .i64 b,.int .i64 c,.int .i64 d]] w fun e w'=>e=.returned (.agg #[.int .i64 (iRole op 0:Nat),.int .i64 a,.int .i64 (iRole op 1:Nat),.int .i64 b,.int .i64 (iRole op 2:Nat),.int .i64 c,.int .i64 (iRole op 3:Nat),.int .i64 d])∧Below w.heap.size w w':=by
 have hp:=hG.pos
 have hp0:0<w.heap.size:=by omega
 have r0:w.cell? ⟨1,op * 4,none⟩=some (.int .i64 (iRole op 0:Nat)):=hG.cell hop (j:=0) (by omega)
 have r1:=hG.cell hop (j:=1) (by omega)
 have r2:=hG.cell hop (j:=2) (by omega)
 have r3:=hG.cell hop (j:=3) (by omega)
 clear hG
 generalize iRole op 0=R0 at *
 generalize iRole op 1=R1 at *
 generalize iRole op 2=R2 at *
 generalize iRole op 3=R3 at *
 go_enter Tryz.func97,Tryz.ntmps97
 go_wp2_with fail
 refine bodyPost_ret (v:=.agg #[.int .i64 R0,.int .i64 a,.int .i64 R1,.int .i64 b,.int .i64 R2,.int .i64 c,.int .i64 R3,.int .i64 d]) (by simp[results,Tryz.results97,go_sem]) rfl ⟨rfl,?_⟩
 exact(((Below.refl _ _).alloc (Nat.le_refl _) _).alloc (by simp) _).alloc (by simp;omega) _
theorem fits_0 (x:Int)(np:Nat)(nm:ByteArray)(ln pr:Int)(rs:Bool)(rg:Int)(us:List (Bool×Int))(cs:List ValD)(is:List InsD)(ns:List NamD)(a5 a6 a7 a8:Option Addr)(c5 c6 c7 c8:Nat)(w:World)(hu:us.length≤9223372036854775807)(hcl:cs.length≤9223372036854775807)(hil:is.length≤9223372036854775807)(hnp:np≤9223372036854775807)(hrg:0≤rg∧rg≤250) :
  Calls Tryz.prog 98 #[.agg #[.int .i64 0,.int .i64 x],.agg #[.string nm,.int .i64 ln,.int .i64 pr,.bool rs,.int .i64 rg,.slice a5 us.length c5,.slice a6 cs.length c6,.slice a7 is.length c7,.slice a8 ns.length c8],.int .i64 np] w fun e w'=>e=.returned (.bool (sFits ⟨nm,ln,pr,rs,rg,us,cs,is,ns⟩ np x 0))∧Below w.heap.size w w':=by
 have HBA:Hid (∀ o1 o2,Below w.heap.size w ((w.alloc o1).alloc o2)):=fun o1 o2=>((Below.refl _ _).alloc (Nat.le_refl _) o1).alloc (by simp) o2
 obtain⟨hr0,hr1⟩:=hrg
 have R:Hid (sFits ⟨nm,ln,pr,rs,rg,us,cs,is,ns⟩ np x 0=(x==0)):=rfl
 generalize sFits ⟨nm,ln,pr,rs,rg,us,cs,is,ns⟩ np x 0=res at *
 go_enter Tryz.func98,Tryz.ntmps98
 go_wp2_with fail
 go_ret
 exact⟨ret_bool (R.out.symm),unhide HBA _ _⟩
theorem fits_any (r:Nat)(hr:r≤23)(x:Int)(np:Nat)(nm:ByteArray)(ln pr:Int)(rs:Bool)(rg:Int)(us:List (Bool×Int))(cs:List ValD)(is:List InsD)(ns:List NamD)(a5 a6 a7 a8:Option Addr)(c5 c6 c7 c8:Nat)(w:World)(hu:us.length≤9223372036854775807)(hcl:cs.length≤9223372036854775807)(hil:is.length≤9223372036854775807)(hnp:np≤9223372036854775807)(hrg:0≤rg∧rg≤250) :
  Calls Tryz.prog 98 #[.agg #[.int .i64 r,.int .i64 x],.agg #[.string nm,.int .i64 ln,.int .i64 pr,.bool rs,.int .i64 rg,.slice a5 us.length c5,.slice a6 cs.length c6,.slice a7 is.length c7,.slice a8 ns.length c8],.int .i64 np] w fun e w'=>e=.returned (.bool (sFits ⟨nm,ln,pr,rs,rg,us,cs,is,ns⟩ np x (mapR r)))∧Below w.heap.size w w':=by
 by_cases h0:r=0
 ·subst h0;exact fits_0 x np nm ln pr rs rg us cs is ns a5 a6 a7 a8 c5 c6 c7 c8 w hu hcl hil hnp hrg
 have HBA:Hid (∀ o1 o2,Below w.heap.size w ((w.alloc o1).alloc o2)):=fun o1 o2=>((Below.refl _ _).alloc (Nat.le_refl _) o1).alloc (by simp) o2
 obtain⟨hr0,hr1⟩:=hrg
 obtain⟨res,hres⟩:∃ res,sFits ⟨nm,ln,pr,rs,rg,us,cs,is,ns⟩ np x (mapR r)=res:=⟨_,rfl⟩
 rw[hres]
 have R:=hide hres
 have hc:r=1∨r=2∨r=3∨r=4∨r=5∨r=6∨r=7∨r=8∨r=9∨r=10∨r=11∨r=12∨r=13∨r=14∨r=15∨r=16∨r=17∨r=18∨r=19∨r=20∨r=21∨r=22∨r=23:=by omega
 clear hres hr h0
 rcases hc with rfl | rfl | rfl | rfl | rfl | rfl | rfl | rfl | rfl | rfl | rfl | rfl | rfl | rfl | rfl | rfl | rfl | rfl | rfl | rfl | rfl | rfl | rfl
 all_goals
  go_enter Tryz.func98,Tryz.ntmps98
  go_wp2_with fail
  refine(within_any _ _ _ _).mono ?_
  rintro e w' ⟨rfl,rfl⟩
  go_wp2_with fail
  go_ret
  exact⟨ret_bool (unhide R),unhide HBA _ _⟩
end Go.Proofs.YtmjcpapdncfkpaaGreatDoor
