import Derived.Test.YtcjfjflljdojlaaGreatDoorPart14
set_option linter.unusedSimpArgs false
set_option linter.unusedVariables false
set_option maxHeartbeats 4000000
set_option maxRecDepth 100000
namespace Go.Proofs.YtcjfjflljdojlaaGreatDoor
open Go.RowKit
def Qe:List (List Nat):=[[0,0,0,0],[1,0,0,0],[2,0,0,0],[0,0,0,0],[20,3,0,0],[20,12,0,0],[21,12,0,0],[20,15,0,0],[15,12,0,0],[20,4,0,0],[4,12,0,0],[20,5,0,0],[20,0,0,0],[14,12,12,0],[14,12,13,0],[20,12,12,0],[12,12,12,0],[20,7,12,0],[20,8,12,12],[6,0,0,0],[12,6,0,0],[12,6,0,0],[22,0,0,0],[16,12,0,0],[16,13,0,0],[20,13,0,0],[20,16,11,0],[22,16,0,0],[22,12,13,0],[13,0,0,0],[12,0,0,0],[6,10,0,0],[0,0,0,0],[9,0,0,0],[9,0,0,0],[12,13,0,0],[0,0,0,0],[18,0,0,0],[18,6,0,0],[18,6,0,0],[19,0,0,0],[17,6,22,0],[23,0,0,0]]
def aC (op k:Nat):Nat:=(Qe[op]?.getD [])[k]?.getD 0
def iD (r:Nat):Nat:=([0,11,12,7,8,9,10,15,16,13,14,17,2,3,4,5,6,20,18,19,1,1,1,21]:List Nat)[r]?.getD 0
theorem fE:∀ op,op<43->∀ k,k<4->aC op k<=23:=by decide
theorem kQ:∀ op:Nat,op<43->op≠0->bj (op:Int)=some [iD (aC op 0),iD (aC op 1),iD (aC op 2),iD (aC op 3)]:=by decide +kernel
theorem ny {op:Int}(h:¬(1<=op/\op<=42)):bj op=none:=by
 have key:∀(t:List (Int×List Nat)),(∀ p,p∈t->1<=p.1/\p.1<=42)->uG op t=none:=by
  intro t
  induction t with
  | nil=>intro _;rfl
  | cons p t ih=>
   intro hp;obtain⟨k,q⟩:=p;unfold uG;rw[if_neg (fun e=>h (by have:=hp (k,q) (by simp);simp only at this;omega))];exact ih (fun p hq=>hp p (List.mem_cons_of_mem _ hq))
 exact key xF (by decide)
def gh (w:World):Prop:=∃ cs t fr,w.heap[0]? = some (.cells cs t fr)/\cs.size=172/\∀ i,i<43->∀ j,j<4->cs[i * 4+j]? = some (i_ (aC i j:Nat))
theorem gh.keep {w w':World}{B:Nat}(h:gh w)(hb:Below B w w')(hB:0<B):gh w':=by
 obtain⟨cs,t,fr,h1,h2⟩:=h;exact⟨cs,t,fr,(hb.block 0 hB).trans h1,h2⟩
theorem gh.pos {w:World}(h:gh w):0<w.heap.size:=by
 obtain⟨cs,t,fr,h1,h2⟩:=h;exact(Array.getElem?_eq_some_iff.1 h1).1
theorem gh.cell {w:World}(h:gh w){i j:Nat}(hi:i<43)(hj:j<4):w.cell? (a_ 0 (i * 4+j))=some (i_ (aC i j:Nat)):=by
 obtain⟨cs,t,fr,h1,h2,h3⟩:=h;simp[World.cell?,h1,h3 i hi j hj]
theorem lE (op:Nat)(a b c d:Int)(w:World)(hG:gh w)(fo:op<43) :
  c_ 128 #[.agg #[i_ op,i_ a,i_ b,i_ c,i_ d]] w fun e w'=>e=.returned (.agg #[i_ (aC op 0:Nat),i_ a,i_ (aC op 1:Nat),i_ b,i_ (aC op 2:Nat),i_ c,i_ (aC op 3:Nat),i_ d])/\b_ w w':=by
 have hp:=hG.pos;have ON:0<w.heap.size:=by omega
 have r0:w.cell? (a_ 0 (op * 4))=some (i_ (aC op 0:Nat)):=hG.cell fo (j:=0) (by omega);have r1:=hG.cell fo (j:=1) (by omega);have r2:=hG.cell fo (j:=2) (by omega);have r3:=hG.cell fo (j:=3) (by omega);clear hG;generalize aC op 0=R0 at *;generalize aC op 1=R1 at *;generalize aC op 2=R2 at *;generalize aC op 3=R3 at *;go_enter Tryz.func128,Tryz.ntmps128;go_wp2_with fail
 refine bodyPost_ret (v:=.agg #[i_ R0,i_ a,i_ R1,i_ b,i_ R2,i_ c,i_ R3,i_ d]) (by simp[results,Tryz.results128,go_sem]) rfl ⟨rfl,?_⟩;exact((r_.alloc n_ _).alloc (by simp) _).alloc (by simp;omega) _
theorem Qf (x:Int)(np:Nat)(nm:ByteArray)(ln pr:Int)(rs:Bool)(rg:Int)(us:List (Bool×Int))(cs:List cS)(is:List aA)(ns:List bE)(a5 a6 a7 a8:o_)(c5 c6 c7 c8:Nat)(w:World)(hu:us.length<=9223372036854775807)(qJ:cs.length<=9223372036854775807)(jn:is.length<=9223372036854775807)(hnp:np<=9223372036854775807)(ko:0<=rg/\rg<=250) :
  c_ 139 #[.agg #[i_ 0,i_ x],.agg #[.string nm,i_ ln,i_ pr,.bool rs,i_ rg,.slice a5 us.length c5,.slice a6 cs.length c6,.slice a7 is.length c7,.slice a8 ns.length c8],i_ np] w fun e w'=>e=.returned (.bool (dh ⟨nm,ln,pr,rs,rg,us,cs,is,ns⟩ np x 0))/\b_ w w':=by
 have dR:Hid (∀ o1 o2,b_ w ((w.alloc o1).alloc o2)):=fun o1 o2=>(r_.alloc n_ o1).alloc (by simp) o2;obtain⟨qK,vj⟩:=ko;have R:Hid (dh ⟨nm,ln,pr,rs,rg,us,cs,is,ns⟩ np x 0=(x==0)):=rfl;generalize dh ⟨nm,ln,pr,rs,rg,us,cs,is,ns⟩ np x 0=res at *;go_enter Tryz.func139,Tryz.ntmps139;go_wp2_with fail
 go_ret;exact⟨al (R.out.symm),aa dR _ _⟩
theorem pA (r:Nat)(hr:r<=23)(x:Int)(np:Nat)(nm:ByteArray)(ln pr:Int)(rs:Bool)(rg:Int)(us:List (Bool×Int))(cs:List cS)(is:List aA)(ns:List bE)(a5 a6 a7 a8:o_)(c5 c6 c7 c8:Nat)(w:World)(hu:us.length<=9223372036854775807)(qJ:cs.length<=9223372036854775807)(jn:is.length<=9223372036854775807)(hnp:np<=9223372036854775807)(ko:0<=rg/\rg<=250) :
  c_ 139 #[.agg #[i_ r,i_ x],.agg #[.string nm,i_ ln,i_ pr,.bool rs,i_ rg,.slice a5 us.length c5,.slice a6 cs.length c6,.slice a7 is.length c7,.slice a8 ns.length c8],i_ np] w fun e w'=>e=.returned (.bool (dh ⟨nm,ln,pr,rs,rg,us,cs,is,ns⟩ np x (iD r)))/\b_ w w':=by
 by_cases h0:r=0
 ·aj h0;exact Qf x np nm ln pr rs rg us cs is ns a5 a6 a7 a8 c5 c6 c7 c8 w hu qJ jn hnp ko
 have dR:Hid (∀ o1 o2,b_ w ((w.alloc o1).alloc o2)):=fun o1 o2=>(r_.alloc n_ o1).alloc (by simp) o2;obtain⟨qK,vj⟩:=ko;obtain⟨res,y5⟩:∃ res,dh ⟨nm,ln,pr,rs,rg,us,cs,is,ns⟩ np x (iD r)=res:=⟨_,rfl⟩;rw[y5];have R:=af y5;have hc:r=1\/r=2\/r=3\/r=4\/r=5\/r=6\/r=7\/r=8\/r=9\/r=10\/r=11\/r=12\/r=13\/r=14\/r=15\/r=16\/r=17\/r=18\/r=19\/r=20\/r=21\/r=22\/r=23:=by omega
 clear y5 hr h0;rcases hc with rfl | rfl | rfl | rfl | rfl | rfl | rfl | rfl | rfl | rfl | rfl | rfl | rfl | rfl | rfl | rfl | rfl | rfl | rfl | rfl | rfl | rfl | rfl
 all_goals
  go_enter Tryz.func139,Tryz.ntmps139;go_wp2_with fail
  refine(az _ _ _ _).mono ?_;rintro e w' ⟨rfl,rfl⟩;go_wp2_with fail
  go_ret;exact⟨al (aa R),aa dR _ _⟩
end Go.Proofs.YtcjfjflljdojlaaGreatDoor
