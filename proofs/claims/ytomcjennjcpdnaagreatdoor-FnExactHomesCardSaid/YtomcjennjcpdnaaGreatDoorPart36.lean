import Derived.Test.YtomcjennjcpdnaaGreatDoorPart33
set_option linter.unusedSimpArgs false
set_option linter.unusedVariables false
namespace Go.Proofs.YtomcjennjcpdnaaGreatDoor
set_option maxRecDepth 100000
set_option maxHeartbeats 4000000
open Go.RowKit
attribute [local go_sem] run_store_float
theorem store8 {F:CF}{l:List FnD}{f:Nat}{S:Nat->Prop}(U:UOk F l f S)(X:CX)(n:NodeD)(a1 a2:Option Addr)(c1 c2:Nat)(a x:Int)(w:World)(h:CC F X w)(r1:IntsAt w S a1 n.refs)
  (hv:n.kind=26->n.refs.length=1/\∃ v:Nat,n.refs[0]?.getD 0=(v:Int)/\v<F.nv)(hu:n.kind=27->n.refs.length=1)(hn:X.n<2400000000000)(hk:X.nk<=X.n)(ha:0<=a/\a<=100000000)(hx:0<=x/\x<=100000000) :
  Calls Tryz.prog 112 #[.pointer (some ⟨F.cb,0,none⟩),.agg #[.int .i64 n.kind,.int .i64 n.line,.int .i64 n.op,.int .i64 n.num,.float .f64 n.flt,.string n.str,.slice a1 n.refs.length c1,.slice a2 n.kids.length c2],.int .i64 a,.int .i64 x] w (CPost F X w (.tuple #[]) X.top X.home 1):=by
 have H:=hide h;have hcl:=h.cbl;have P:Hid (∀(W:World) (o q r s:Int),CC F X W->Calls Tryz.prog 30 #[.pointer (some ⟨F.cb,0,none⟩),.int .i64 o,.int .i64 q,.int .i64 r,.int .i64 s,.int .i64 0] W (PutC F X W)):=fun W o q r s hW=>put_c F X _ _ _ _ _ _ hW hn hk;obtain⟨kd,hkd⟩:∃ kd,n.kind=kd:=⟨_,rfl⟩;rw[hkd]at hv hu ⊢;by_cases h26:kd=26
 ·obtain⟨hr,v,href,hvn⟩:=hv h26;have c12:=h.c12;have c13:=h.c13;have hxb:=h.bx.cell hvn;have hmm:=h.hm.cell hvn;have hbb:=h.bx.lt;have hhb:=h.hm.lt;obtain⟨b3,o3,rfl⟩:=r1.some_of (by omega);have kr:=r1.cellAt (j:=0) (by omega);have hb3:b3<w.heap.size:=World.block_lt_of_cell? _ _ kr;rw[href]at kr;simp only[Nat.add_zero]at kr;rw[hr];subst h26;clear h r1 hv hu href hkd;cases hb:F.bx v
  all_goals
   rw[hb]at hxb;go_enter Tryz.func112,Tryz.ntmps112;go_wp2_with fail
   go_region_with (first | (go_at_call 31;refine(take_any _ _ (by omega) (by omega)).mono ?_;rintro e w' ⟨rfl,rfl⟩) | (go_at_call 30;refine(P.out _ _ _ _ _ (H.out.alloc _).drew).mono ?_;rintro e w3 ⟨X3,rfl,C3,f3,s3,_⟩))
   all_goals
    have R3:=hide (And.intro C3 (And.intro ((Fr.refl.alloc _).drew.trans f3) s3));clear C3 f3 s3;go_wp2_with fail
    go_end0
    exact⟨X3,rfl,R3.out.1,R3.out.2.1,R3.out.2.2⟩
 ·by_cases h27:kd=27
  ·have hr:=hu h27;obtain⟨b3,o3,rfl⟩:=r1.some_of (by omega);have kr:=r1.cellAt (j:=0) (by omega);have hb3:b3<w.heap.size:=World.block_lt_of_cell? _ _ kr;generalize n.refs[0]?.getD 0=v at kr;simp only[Nat.add_zero]at kr;rw[hr];subst h27;clear h r1 hv hu hkd;go_enter Tryz.func112,Tryz.ntmps112;go_wp2_with fail
   go_region_with (first | (go_at_call 31;refine(take_any _ _ (by omega) (by omega)).mono ?_;rintro e w' ⟨rfl,rfl⟩) | (go_at_call 30;refine(P.out _ _ _ _ _ (H.out.alloc _).drew).mono ?_;rintro e w3 ⟨X3,rfl,C3,f3,s3,_⟩))
   all_goals
    have R3:=hide (And.intro C3 (And.intro ((Fr.refl.alloc _).drew.trans f3) s3));clear C3 f3 s3;go_wp2_with fail
    go_end0
    exact⟨X3,rfl,R3.out.1,R3.out.2.1,R3.out.2.2⟩
  ·have q26:(kd==26)=false:=by simp;exact h26
   have q27:(kd==27)=false:=by simp;exact h27
   clear h r1 hv hu h26 h27 hkd;go_enter Tryz.func112,Tryz.ntmps112;go_wp2_with fail
   refine(take_any _ _ (by omega) (by omega)).mono ?_;rintro e w' ⟨rfl,rfl⟩;go_wp2_with fail
   refine(take_any _ _ (by omega) (by omega)).mono ?_;rintro e w' ⟨rfl,rfl⟩;go_wp2_with fail
   refine(take_any _ _ (by omega) (by omega)).mono ?_;rintro e w' ⟨rfl,rfl⟩;go_wp2_with fail
   refine(P.out _ _ _ _ _ (H.out.alloc _)).mono ?_;rintro e w3 ⟨X3,rfl,C3,f3,s3,_⟩;have R3:=hide (And.intro C3 (And.intro ((Fr.refl.alloc _).trans f3) s3));clear C3 f3 s3;go_wp2_with fail
   go_end0
   exact⟨X3,rfl,R3.out.1,R3.out.2.1,R3.out.2.2⟩
end Go.Proofs.YtomcjennjcpdnaaGreatDoor
