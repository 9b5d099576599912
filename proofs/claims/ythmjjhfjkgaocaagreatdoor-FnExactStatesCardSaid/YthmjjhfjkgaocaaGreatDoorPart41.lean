import Derived.Test.YthmjjhfjkgaocaaGreatDoorPart40
import Derived.Lib.SliceRun
set_option linter.unusedSimpArgs false
set_option linter.unusedVariables false
set_option maxHeartbeats 4000000
set_option maxRecDepth 100000
namespace Go.Proofs.YthmjjhfjkgaocaaGreatDoor
open Go.RowKit
def targT (n:InsD):Option Int:=
 if n.op=19∨n.op=31 then some n.fa
 else if n.op=20∨n.op=21∨n.op=38∨n.op=39∨n.op=41 then some n.fb
 else none
theorem role6:∀ op,op<43→(iRole op 0=6↔op=19∨op=31)∧(iRole op 1=6↔op=20∨op=21∨op=38∨op=39∨op=41)∧iRole op 2≠6∧iRole op 3≠6:=by decide
def TgPost (n:InsD)(w:World)(e:Ending)(w':World):Prop:=e=.returned (.tuple #[.int .i64 ((targT n).getD 0),.bool (targT n).isSome])∧Below w.heap.size w w'
theorem target_any (op:Nat)(fa fb fc fd:Int)(w:World)(hG:RTab w)(hop:op<43) :
  Calls Tryz.prog 86 #[.agg #[.int .i64 op,.int .i64 fa,.int .i64 fb,.int .i64 fc,.int .i64 fd]] w (TgPost ⟨op,fa,fb,fc,fd⟩ w):=by
 have HA:Hid (Below w.heap.size w (w.alloc (.cells #[.int .i64 (op:Int),.int .i64 fa,.int .i64 fb,.int .i64 fc,.int .i64 fd] 78))):=(Below.refl _ _).alloc (Nat.le_refl _) _
 have FO:Hid (Calls Tryz.prog 116 #[.agg #[.int .i64 (op:Int),.int .i64 fa,.int .i64 fb,.int .i64 fc,.int .i64 fd]] (w.alloc (.cells #[.int .i64 (op:Int),.int .i64 fa,.int .i64 fb,.int .i64 fc,.int .i64 fd] 78)) fun e w'=>e=.returned (.agg #[.int .i64 (iRole op 0:Nat),.int .i64 fa,.int .i64 (iRole op 1:Nat),.int .i64 fb,.int .i64 (iRole op 2:Nat),.int .i64 fc,.int .i64 (iRole op 3:Nat),.int .i64 fd])∧Below (w.alloc (.cells #[.int .i64 (op:Int),.int .i64 fa,.int .i64 fb,.int .i64 fc,.int .i64 fd] 78)).heap.size (w.alloc (.cells #[.int .i64 (op:Int),.int .i64 fa,.int .i64 fb,.int .i64 fc,.int .i64 fd] 78)) w'):=fieldsOf_any op fa fb fc fd _ (hG.keep HA.out hG.pos) hop
 obtain⟨r0,r1,r2,r3⟩:=role6 op hop
 have FF:Hid (∀ k:Nat,k<4→∃(r:Nat) (x:Int),r=iRole op k∧x=insF ⟨op,fa,fb,fc,fd⟩ k∧(∀ W,(Instr.index 175 (.agg #[.int .i64 (iRole op 0:Nat),.int .i64 fa,.int .i64 (iRole op 1:Nat),.int .i64 fb,.int .i64 (iRole op 2:Nat),.int .i64 fc,.int .i64 (iRole op 3:Nat),.int .i64 fd]) (.int .i64 (k:Int))).run Tryz.prog W=.ok (.agg #[.int .i64 (r:Nat),.int .i64 x]) W)):=fun k hk=>by
  have hc:k=0∨k=1∨k=2∨k=3:=by omega
  rcases hc with rfl | rfl | rfl | rfl
  ·exact⟨_,fa,rfl,rfl,fun W=>run_index_field 0 hk rfl W⟩
  ·exact⟨_,fb,rfl,rfl,fun W=>run_index_field 1 hk rfl W⟩
  ·exact⟨_,fc,rfl,rfl,fun W=>run_index_field 2 hk rfl W⟩
  ·exact⟨_,fd,rfl,rfl,fun W=>run_index_field 3 hk rfl W⟩
 have YES:Hid (∀ k:Nat,k<4→(∀ j,j<k→iRole op j≠6)→iRole op k=6→targT ⟨op,fa,fb,fc,fd⟩=some (insF ⟨op,fa,fb,fc,fd⟩ k)):=fun k hk hn h=>by
  have hc:k=0∨k=1∨k=2∨k=3:=by omega
  unfold targT
  dsimp only
  rcases hc with rfl | rfl | rfl | rfl
  ·rw[if_pos (by have:=r0.1 h;omega)];rfl
  ·have h0:¬(op=19∨op=31):=fun e=>hn 0 (by omega) (r0.2 e)
   rw[if_neg (by omega),if_pos (by have:=r1.1 h;omega)];rfl
  ·exact absurd h r2
  ·exact absurd h r3
 have NO:Hid ((∀ j,j<4→iRole op j≠6)→targT ⟨op,fa,fb,fc,fd⟩=none):=fun hn=>by
  have h0:¬(op=19∨op=31):=fun e=>hn 0 (by omega) (r0.2 e)
  have h1:¬(op=20∨op=21∨op=38∨op=39∨op=41):=fun e=>hn 1 (by omega) (r1.2 e)
  unfold targT
  dsimp only
  rw[if_neg (by omega),if_neg (by omega)]
 clear r0 r1 r2 r3 hG hop
 unfold TgPost
 generalize targT ⟨op,fa,fb,fc,fd⟩=res at *
 obtain⟨F,hF⟩:∃ F:Nat→Int,F=insF ⟨op,fa,fb,fc,fd⟩:=⟨_,rfl⟩
 rw[←hF]at FF YES
 clear hF
 go_enter Tryz.func86,Tryz.ntmps86
 go_wp2_with fail
 refine(unhide FO).mono ?_
 rintro e w1 ⟨rfl,hb1⟩
 have HB1:Hid (Below w.heap.size w w1):=HA.out.trans (hb1.mono (by simp))
 clear hb1 FO
 go_wp2_with fail
 go_loopg [8] 4 (fun g i wr=>∃(k:Nat),k+g=4∧i=.int .i64 k∧Below w.heap.size w wr∧Hid (∀ j,j<k→iRole op j≠6))
 case atStart=>exact⟨0,by omega,rfl,HB1.out,fun j h=>absurd h (Nat.not_lt_zero _)⟩
 case round=>
  clear HB1
  obtain⟨k,hk,rfl,hb,hall⟩:=hrel
  by_cases hlt:k<4
  ·obtain⟨r,x,hr,hx,hix⟩:=unhide FF k hlt
   have HBA:Hid (∀ o,Below w.heap.size w (wr.alloc o)):=fun o=>hb.alloc hb.size o
   have HBS:Hid (∀ o v,Below w.heap.size w ((wr.alloc o).setCell ⟨wr.heap.size,0,none⟩ v)):=fun o v=>(hb.alloc hb.size o).setCell hb.size v
   clear hb
   by_cases h6:r=6
   ·have RR:Hid (res=some x):=by show _=_;rw[hx];exact unhide YES k hlt hall.out (by rw[←hr];exact h6)
    clear hr hx
    subst h6
    go_wp2_with fail
    refine bodyPost_ret (v:=.tuple #[.int .i64 x,.bool true]) (by simp[results,Tryz.results86,go_sem]) rfl ?_
    refine⟨by rw[RR.out];rfl,?_⟩
    first | exact unhide HBA _ | exact unhide HBS _ _
   ·have NX:Hid (∀ j,j<k+1→iRole op j≠6):=fun j hj=>by
     by_cases e:j=k
     ·subst e;rw[←hr];exact h6
     ·exact hall.out j (by omega)
    have h6':((r:Int)==6)=false:=by simp;omega
    clear hr hx
    go_wp2_with fail
    go_roundg (4-(k+1))
    case measure=>omega
    case rel=>exact⟨k+1,by omega,by go_num,by first | exact unhide HBA _ | exact unhide HBS _ _,NX.out⟩
  ·have RN:Hid (res=none):=unhide NO (fun j hj=>hall.out j (by omega))
   go_wp2_with fail
   refine bodyPost_ret (v:=.tuple #[.int .i64 0,.bool false]) (by simp[results,Tryz.results86,go_sem]) rfl ?_
   exact⟨by rw[RN.out];rfl,hb⟩
theorem ints_ext {l m:List Int}(hn:l.length=m.length)(h:∀ j,j<l.length→l[j]?.getD 0=m[j]?.getD 0):l=m:=by
 refine List.ext_getElem hn (fun j h1 h2=>?_)
 have:=h j h1
 rwa [List.getElem?_eq_getElem h1,List.getElem?_eq_getElem h2]at this
theorem equalInts_any (a a':Option Addr)(l m:List Int)(c c':Nat)(S:Nat→Prop)(w:World)(hs:IntsAt w S a l)(hs':IntsAt w S a' m)(hB:∀ b,S b→b<w.heap.size) :
  Calls Tryz.prog 78 #[.slice a l.length c,.slice a' m.length c'] w (AlPost (decide (l=m)) w):=by
 by_cases hn:l.length=m.length
 ·have EX:=hide (ints_ext hn)
  have HS:=hide hs
  have HS':=hide hs'
  have HBB:=hide hB
  have hln:=hs.1
  rw[←hn]
  have HN:=hide hn
  clear hs hs' hB hn
  generalize hd:decide (l=m)=res
  have HD:=hide hd
  clear hd
  go_enter Tryz.func78,Tryz.ntmps78
  go_wp2_with fail
  go_loopg [13] l.length (fun g i wr=>∃(k:Nat),k+g=l.length∧i=.int .i64 k∧Below w.heap.size w wr∧Hid (∀ j,j<k→l[j]?.getD 0=m[j]?.getD 0))
  case atStart=>exact⟨0,by omega,rfl,Below.refl _ _,fun j h=>absurd h (Nat.not_lt_zero _)⟩
  case round=>
   obtain⟨k,hk,rfl,hb,hall⟩:=hrel
   by_cases hlt:k<l.length
   ·obtain⟨b,off,rfl,hbS,hcc⟩:=((unhide HS).same (.of_below hb (unhide HBB))).2 (by omega)
    have q1:=hcc k hlt
    clear hcc
    obtain⟨b',off',rfl,hbS',hcc⟩:=((unhide HS').same (.of_below hb (unhide HBB))).2 (by rw[←HN.out];omega)
    have q2:=hcc k (by rw[←HN.out];omega)
    clear hcc
    have NX:Hid (l[k]?.getD 0=m[k]?.getD 0→∀ j,j<k+1→l[j]?.getD 0=m[j]?.getD 0):=fun h j hj=>by
     by_cases e:j=k
     ·subst e;exact h
     ·exact hall.out j (by omega)
    have NF:Hid (l[k]?.getD 0≠m[k]?.getD 0→¬l=m):=fun h h'=>h (by rw[h'])
    have HBW:=hide hb
    clear hall hb
    generalize l[k]?.getD 0=y1 at *
    generalize m[k]?.getD 0=y2 at *
    by_cases hy:y1=y2
    ·have RR:=hide (unhide NX hy)
     subst hy
     clear NX NF
     go_wp2_with fail
     go_quiet (fail)
     go_wp2_with fail
     go_roundg (l.length-(k+1))
     case measure=>omega
     case rel=>exact⟨k+1,by omega,by go_num,HBW.out.trans (below_drewN _ _ _),RR⟩
    ·have RR:Hid (res=false):=by show res=false;rw[←HD.out];exact decide_eq_false (unhide NF hy)
     have hyb:(y1 != y2)=true:=by simpa using hy
     clear NX NF
     go_wp2_with fail
     go_quiet (fail)
     go_wp2_with fail
     go_ret
     exact⟨ret_bool RR.out.symm,HBW.out.trans (below_drewN _ _ _)⟩
   ·have RR:Hid (res=true):=by show res=true;rw[←HD.out];exact decide_eq_true (EX.out (fun j hj=>hall.out j (by omega)))
    go_wp2_with fail
    go_ret
    exact⟨ret_bool RR.out.symm,hb⟩
 ·have h1:=hs.1
  have h2:=hs'.1
  have hd:((l.length:Int) != (m.length:Int))=true:=by simp;omega
  have RR:Hid (decide (l=m)=false):=decide_eq_false (fun e=>hn (by rw[e]))
  clear hs hs' hB
  go_enter Tryz.func78,Tryz.ntmps78
  go_wp2_with fail
  go_ret
  exact⟨ret_bool RR.out.symm,Below.refl _ _⟩
theorem equalGus_any (a a':Option Addr)(l m:List GuD)(c c':Nat)(S:Nat→Prop)(w:World)(hs:GusAt w S a l)(hs':GusAt w S a' m)(hB:∀ b,S b→b<w.heap.size)(res:Bool)(hr:res=true↔l=m) :
  Calls Tryz.prog 79 #[.slice a l.length c,.slice a' m.length c'] w (AlPost res w):=by
 by_cases hn:l.length=m.length
 ·have EX:=hide (list_eq_of GuD.z hn)
  have HS:=hide hs
  have HS':=hide hs'
  have HBB:=hide hB
  have hln:=hs.1
  rw[←hn]
  have HN:=hide hn
  clear hs hs' hB hn
  have HT:Hid (l=m→res=true):=hr.2
  have HF:Hid (¬l=m→res=false):=fun h=>by
   cases e:res
   ·rfl
   ·exact absurd (hr.1 e) h
  clear hr
  go_enter Tryz.func79,Tryz.ntmps79
  go_wp2_with fail
  go_loopg [13] l.length (fun g i wr=>∃(k:Nat),k+g=l.length∧i=.int .i64 k∧Below w.heap.size w wr∧Hid (∀ j,j<k→l[j]?.getD GuD.z=m[j]?.getD GuD.z))
  case atStart=>exact⟨0,by omega,rfl,Below.refl _ _,fun j h=>absurd h (Nat.not_lt_zero _)⟩
  case round=>
   obtain⟨k,hk,rfl,hb,hall⟩:=hrel
   by_cases hlt:k<l.length
   ·obtain⟨b,off,rfl,hbS,hcc⟩:=((unhide HS).same (.of_below hb (unhide HBB))).2 (by omega)
    have q1:=hcc k hlt
    clear hcc
    obtain⟨b',off',rfl,hbS',hcc⟩:=((unhide HS').same (.of_below hb (unhide HBB))).2 (by rw[←HN.out];omega)
    have q2:=hcc k (by rw[←HN.out];omega)
    clear hcc
    have NX:Hid (l[k]?.getD GuD.z=m[k]?.getD GuD.z→∀ j,j<k+1→l[j]?.getD GuD.z=m[j]?.getD GuD.z):=fun h j hj=>by
     by_cases e:j=k
     ·subst e;exact h
     ·exact hall.out j (by omega)
    have NF:Hid (l[k]?.getD GuD.z≠m[k]?.getD GuD.z→¬l=m):=fun h h'=>h (by rw[h'])
    have HBW:=hide hb
    clear hall hb
    generalize l[k]?.getD GuD.z=y1 at *
    generalize m[k]?.getD GuD.z=y2 at *
    have r0:=q1.tr;have r1:=q1.keep;have r2:=q1.hand
    have s0:=q2.tr;have s1:=q2.keep;have s2:=q2.hand
    clear q1 q2
    obtain⟨y1t,y1k,y1h⟩:=y1
    obtain⟨y2t,y2k,y2h⟩:=y2
    simp only at *
    by_cases hk1:y1k=y2k
    case neg=>
     have RR:Hid (res=false):=HF.out (unhide NF (fun h=>hk1 (by injection h)))
     have hb1:(y1k==y2k)=false:=beq_eq_false_iff_ne.2 hk1
     have hb2:(y1k != y2k)=true:=by simpa using hk1
     clear NX NF hk1
     go_wp2_with fail
     go_quiet (fail)
     go_wp2_with fail
     go_ret
     exact⟨ret_bool RR.out.symm,HBW.out.trans (below_drewN _ _ _)⟩
    by_cases hk2:y1h=y2h
    case neg=>
     have RR:Hid (res=false):=HF.out (unhide NF (fun h=>hk2 (by injection h)))
     have hb1:(y1h==y2h)=false:=beq_eq_false_iff_ne.2 hk2
     have hb2:(y1h != y2h)=true:=by simpa using hk2
     clear NX NF hk2
     subst hk1
     go_wp2_with fail
     go_quiet (fail)
     go_wp2_with fail
     go_ret
     exact⟨ret_bool RR.out.symm,HBW.out.trans (below_drewN _ _ _)⟩
    by_cases hk3:y1t=y2t
    case neg=>
     have RR:Hid (res=false):=HF.out (unhide NF (fun h=>hk3 (by injection h)))
     have hb1:(y1t==y2t)=false:=beq_eq_false_iff_ne.2 hk3
     have hb2:(y1t != y2t)=true:=by simpa using hk3
     clear NX NF hk3
     subst hk1 hk2
     go_wp2_with fail
     go_quiet (fail)
     go_wp2_with fail
     go_ret
     exact⟨ret_bool RR.out.symm,HBW.out.trans (below_drewN _ _ _)⟩
    subst hk1 hk2 hk3
    have RR:=hide (unhide NX rfl)
    clear NX NF
    go_wp2_with fail
    go_quiet (fail)
    go_wp2_with fail
    go_roundg (l.length-(k+1))
    case measure=>omega
    case rel=>exact⟨k+1,by omega,by go_num,HBW.out.trans (below_drewN _ _ _),RR⟩
   ·have RR:Hid (res=true):=HT.out (EX.out (fun j hj=>hall.out j (by omega)))
    go_wp2_with fail
    go_ret
    exact⟨ret_bool RR.out.symm,hb⟩
 ·have h1:=hs.1
  have h2:=hs'.1
  have hd:((l.length:Int) != (m.length:Int))=true:=by simp;omega
  have RR:Hid (res=false):=by
   show res=false
   cases e:res
   ·rfl
   ·exact absurd (by rw[hr.1 e]) hn
  clear hs hs' hB hr
  go_enter Tryz.func79,Tryz.ntmps79
  go_wp2_with fail
  go_ret
  exact⟨ret_bool RR.out.symm,Below.refl _ _⟩
theorem addr_zero (p:Addr):p.add 0=p:=by
 cases p;simp[Addr.add]
theorem elem_ints:Tryz.prog.elem 54=3:=by kernel_rfl
theorem slice_h (w:World)(a:Option Addr)(n c k:Nat)(hk:k≤c):(Instr.slice 54 (.slice a n c) none (some (.int .i64 (k:Int))) none).run Tryz.prog w=.ok (.slice a k c) w:=by
 obtain⟨i0,hi,hz0,hz1,hz2⟩:=info_of info_i
 have ht:Tryz.prog.underlying 54=some (.slice (Tryz.prog.elem 54)):=by rw[elem_ints];exact Tryz.underlying54
 rw[run_slice_h w 54 a n c ht .i64 k (by omega) (by omega),elem_ints]
 have e:a.map (fun x=>x.add 0)=a:=by cases a<;>simp[addr_zero]
 have e2:(sizeOf 3).run Tryz.prog w=.ok 1 w:=by simp[sizeOf,hi,hz1];try rfl
 rw[e2]
 simp[Result.andThen,sliced,e]
theorem OwnI.cap {w:World}{base:Nat}{a:Option Addr}{n c:Nat}{t:List Int}(h:OwnI w base (.slice a n c) t):t.length≤c:=by
 rcases h.2 with⟨e,h0⟩ | ⟨g,cap,cur,e,_,_,h2,_⟩
 ·rw[h0];exact Nat.zero_le _
 ·cases e;exact h2
theorem IntsAt.take {w:World}{S:Nat→Prop}{a:Option Addr}{l:List Int}(h:IntsAt w S a l)(k:Nat):IntsAt w S a (l.take k):=by
 refine⟨Nat.le_trans (by rw[List.length_take];omega) h.1,fun h0=>?_⟩
 rw[List.length_take]at h0
 obtain⟨b,off,e,hb,hc⟩:=h.2 (by omega)
 refine⟨b,off,e,hb,fun j hj=>?_⟩
 rw[List.length_take]at hj
 rw[hc j (by omega),List.getElem?_take_of_lt (by omega)]
theorem take_eq_iff {l m:List Int}(k:Nat)(hk:k≤l.length)(hn:l.length=m.length):l.take k=m.take k↔∀ r,r<k→tyAt l r=tyAt m r:=by
 constructor
 ·intro h r hr
  have:(l.take k)[r]? = (m.take k)[r]?:=by rw[h]
  rw[List.getElem?_take_of_lt hr,List.getElem?_take_of_lt hr]at this
  unfold tyAt
  rw[this]
 ·intro h
  refine list_eq_of 0 (by rw[List.length_take,List.length_take,hn]) (fun j hj=>?_)
  rw[List.length_take]at hj
  rw[List.getElem?_take_of_lt (by omega),List.getElem?_take_of_lt (by omega)]
  exact h j (by omega)
theorem natI_all (l:List Nat)(K:Int):(∀ r,r∈l→¬(r:Int)<K)↔∀ j,j<(natI l).length→¬(natI l)[j]?.getD 0<K:=by
 constructor
 ·intro h j hj
  rw[natI_len]at hj
  rw[natI_get,List.getElem?_eq_getElem hj]
  exact h _ (List.getElem_mem hj)
 ·intro h r hr
  obtain⟨j,hj,rfl⟩:=List.getElem_of_mem hr
  have:=h j (by rw[natI_len];exact hj)
  rwa [natI_get,List.getElem?_eq_getElem hj]at this
theorem keeps_any (bt B:Nat)(t:TD)(tv sv kv pv:Value)(rb:Bool)(ty:List Int)(g:List GuD)(a ag:Option Addr)(c cg:Nat)(S:Nat→Prop)(w:World)(h:TcW bt B t tv sv kv pv w)(hty:IntsAt w S a ty)(hg:GusAt w S ag g)(hB:∀ b,S b→b<w.heap.size)(hl:g.length≤50)(hc:ty.length≤c)(hk:highI g≤ty.length)(hlt:t.types.length=ty.length)(hlen:ty.length≤250)(htk:t.taken.length≤1000000)(res:Bool)(hr:res=true↔keepsI g t.taken ty t.types) :
  Calls Tryz.prog 83 #[.pointer (some ⟨bt,0,none⟩),.agg #[.bool rb,.slice a ty.length c,.slice ag g.length cg]] w (AlPost res w):=by
 have hnn:=high_nonneg g g.length
 obtain⟨K,hK⟩:∃ K:Nat,highI g=K:=⟨(highI g).toNat,by unfold highI at *;omega⟩
 have hA:Below w.heap.size w (w.alloc (.cells #[.bool rb,.slice a ty.length c,.slice ag g.length cg] 62)):=(Below.refl _ _).alloc (Nat.le_refl _) _
 have HA:=hide hA
 have CK:Hid (Calls Tryz.prog 119 #[.slice ag g.length cg] (w.alloc (.cells #[.bool rb,.slice a ty.length c,.slice ag g.length cg] 62)) fun e w2=>e=.returned (.int .i64 K)∧Below (w.alloc (.cells #[.bool rb,.slice a ty.length c,.slice ag g.length cg] 62)).heap.size (w.alloc (.cells #[.bool rb,.slice a ty.length c,.slice ag g.length cg] 62)) w2):=by
  show Calls _ _ _ _ _
  rw[←hK]
  exact highestKeep_any ag g cg S _ (hg.same (.of_below hA hB)) (fun b h=>Nat.lt_of_lt_of_le (hB b h) hA.size) hl
 obtain⟨a1,c1,rfl,i1⟩:=h.ty.ints (by omega)
 have hcap:t.types.length≤c1:=h.ty.cap
 obtain⟨a2,c2,rfl,i2⟩:=h.ta.ints (by rw[natI_len];omega)
 have hbt:=h.row.lt
 obtain⟨x0,_,x2,_,_⟩:=h.cells
 have EQ:Hid (∀ W,Below w.heap.size w W→Calls Tryz.prog 78 #[.slice a K c,.slice a1 K c1] W (AlPost (decide (ty.take K=t.types.take K)) W)):=fun W hW=>by
  have e1:(ty.take K).length=K:=by rw[List.length_take];omega
  have e2:(t.types.take K).length=K:=by rw[List.length_take];omega
  have:=equalInts_any a a1 (ty.take K) (t.types.take K) c c1 (fun b=>S b∨(B≤b∧b<w.heap.size)) W (((hty.take K).same (.of_below hW hB)).mono fun _=>.inl) (((i1.take K).same (.of_below hW (fun b h=>h.2))).mono fun _=>.inr) (fun b h=>by rcases h with h | h;exact Nat.lt_of_lt_of_le (hB b h) hW.size;exact Nat.lt_of_lt_of_le h.2 hW.size)
  rwa [e1,e2]at this
 have SAY:Hid ((∀ j,j<(natI t.taken).length→¬(natI t.taken)[j]?.getD 0<(K:Int))→res=decide (ty.take K=t.types.take K)):=fun hh=>by
  rw[Bool.eq_iff_iff,hr,decide_eq_true_iff,take_eq_iff K (by omega) hlt.symm]
  unfold keepsI
  rw[hK,natI_all]
  exact⟨fun h r hr=>h.2 r (by omega),fun h=>⟨hh,fun r hr=>h r (by omega)⟩⟩
 have SNO:Hid (∀ j,j<(natI t.taken).length→(natI t.taken)[j]?.getD 0<(K:Int)→res=false):=fun j hj hh=>by
  cases e:res
  ·rfl
  ·have:=(hr.1 e).1
   rw[hK,natI_all]at this
   exact absurd hh (this j hj)
 have SL1:Hid (∀ W:World,(Instr.slice 54 (.slice a ty.length c) none (some (.int .i64 (K:Int))) none).run Tryz.prog W=.ok (.slice a K c) W):=fun W=>slice_h W a _ c K (by omega)
 have SL2:Hid (∀ W:World,(Instr.slice 54 (.slice a1 t.types.length c1) none (some (.int .i64 (K:Int))) none).run Tryz.prog W=.ok (.slice a1 K c1) W):=fun W=>slice_h W a1 _ c1 K (by omega)
 have HI2:=hide i2
 have CL:Hid (∀ W,Below (w.heap.size+1) (w.alloc (.cells #[.bool rb,.slice a ty.length c,.slice ag g.length cg] 62)) W→W.cell? ⟨w.heap.size,1,none⟩=some (.slice a ty.length c)∧W.cell? ⟨bt,0,none⟩=some (.slice a1 t.types.length c1)∧W.cell? ⟨bt,2,none⟩=some (.slice a2 (natI t.taken).length c2)∧Below w.heap.size w W):=fun W hW=>by
  refine⟨(hW.cell (p:=⟨w.heap.size,1,none⟩) (by simp)).trans (by simp[go_sem]),?_,?_,hA.trans (hW.mono (by omega))⟩
  ·exact(hW.cell (p:=⟨bt,0,none⟩) (by show bt<_;omega)).trans ((hA.cell (p:=⟨bt,0,none⟩) hbt).trans x0)
  ·exact(hW.cell (p:=⟨bt,2,none⟩) (by show bt<_;omega)).trans ((hA.cell (p:=⟨bt,2,none⟩) hbt).trans x2)
 have HBT:=hide hbt
 have htl:(natI t.taken).length≤1000000:=by rw[natI_len];exact htk
 clear h hty hg hB hl hk hlen hr hcap i1 i2 x0 x2 hA hnn hK hc htk hbt hlt
 generalize natI t.taken=tk at *
 generalize t.types=tt at *
 generalize decide (ty.take K=tt.take K)=dd at *
 go_enter Tryz.func83,Tryz.ntmps83
 go_wp2_with fail
 refine(unhide CK).mono ?_
 rintro e w1 ⟨rfl,hb1⟩
 have hB1:Below (w.heap.size+1) (w.alloc (.cells #[.bool rb,.slice a ty.length c,.slice ag g.length cg] 62)) w1:=hb1.mono (by simp)
 obtain⟨y1,y2,y3,y4⟩:=unhide CL _ hB1
 have hbt1:bt<w1.heap.size:=Nat.lt_of_lt_of_le HBT.out y4.size
 have HB1:=hide hB1
 clear CK hb1 y4 hB1
 go_wp2_with fail
 clear y1 y2 y3 hbt1
 go_loopg [16] tk.length (fun gg i wr=>∃(k:Nat),k+gg=tk.length∧i=.int .i64 k∧Below (w.heap.size+1) (w.alloc (.cells #[.bool rb,.slice a ty.length c,.slice ag g.length cg] 62)) wr∧Hid (∀ j,j<k→¬tk[j]?.getD 0<(K:Int)))
 case atStart=>exact⟨0,by omega,rfl,HB1.out,fun j h=>absurd h (Nat.not_lt_zero _)⟩
 case round=>
  clear HB1
  obtain⟨k,hk,rfl,hb,hall⟩:=hrel
  obtain⟨y1,y2,y3,y4⟩:=unhide CL _ hb
  have hbt1:bt<wr.heap.size:=Nat.lt_of_lt_of_le HBT.out y4.size
  have HB:=hide hb
  have HB4:=hide y4
  by_cases hlt:k<tk.length
  ·obtain⟨b,off,rfl,hbS,hcc⟩:=((unhide HI2).same (.of_below y4 (fun b h=>h.2))).2 (by omega)
   have q1:=hcc k hlt
   have hbl:b<wr.heap.size:=Nat.lt_of_lt_of_le hbS.2 y4.size
   clear hcc y1 y2 y3 y4 hb hbS
   have NX:Hid (¬tk[k]?.getD 0<(K:Int)→∀ j,j<k+1→¬tk[j]?.getD 0<(K:Int)):=fun h j hj=>by
    by_cases e:j=k
    ·subst e;exact h
    ·exact hall.out j (by omega)
   have NF:Hid (tk[k]?.getD 0<(K:Int)→res=false):=unhide SNO k hlt
   clear hall
   generalize tk[k]?.getD 0=y at *
   by_cases hy:y<(K:Int)
   ·have RR:=hide (unhide NF hy)
    have hyd:decide (y<(K:Int))=true:=decide_eq_true hy
    clear NX NF
    go_wp2_with fail
    go_ret
    exact⟨ret_bool RR.out.symm,HB4.out⟩
   ·have RR:=hide (unhide NX hy)
    have hyd:decide (y<(K:Int))=false:=decide_eq_false hy
    clear NX NF
    go_wp2_with fail
    go_roundg (tk.length-(k+1))
    case measure=>omega
    case rel=>exact⟨k+1,by omega,by go_num,HB.out,RR⟩
  ·have RR:Hid (res=dd):=unhide SAY (fun j hj=>by have:=hall.out j (by omega);omega)
   have QQ:Hid (Calls Tryz.prog 78 #[.slice a K c,.slice a1 K c1] wr.drew (AlPost dd wr.drew)):=unhide EQ _ y4.drew
   have s1:=unhide SL1
   have s2:=unhide SL2
   have CR:Hid (∀ W,Below wr.heap.size wr.drew W→W.cell? ⟨w.heap.size,1,none⟩=some (.slice a ty.length c)∧W.cell? ⟨bt,0,none⟩=some (.slice a1 tt.length c1)):=fun W hW=>by
    have h2:=unhide CL W (hb.drew.trans (hW.mono (by have:=hb.size;simp at this;omega)))
    exact⟨h2.1,h2.2.1⟩
   clear hall y4 hb y3
   go_upto_region 8 with fail
   go_region_held3 (fun W=>W.cell? ⟨w.heap.size,1,none⟩=some (.slice a ty.length c)∧W.cell? ⟨bt,0,none⟩=some (.slice a1 tt.length c1)) (simp[go_sem, *])
    (first | (go_at_call 78;refine(unhide QQ).mono ?_;rintro e w3 ⟨rfl,hb3⟩;obtain⟨q0,q1⟩:=unhide CR _ hb3))
   all_goals
    have HB3:Hid (Below w.heap.size w w3):=HB4.out.drew.trans (hb3.mono (by have:=HB4.out.size;simp;omega))
    clear hb3
    go_wp2_with fail
    go_ret
    exact⟨ret_bool RR.out.symm,HB3.out⟩
theorem eql_gus (w:World)(a:Option Addr)(n c:Nat):(binOp .eql 60 (.slice a n c) (.slice none 0 0)).run Tryz.prog w=.ok (.bool a.isNone) w:=Go.Lib.run_eql_slice_nil w 60 108 a n c 0 0 Tryz.underlying60
theorem guV_cells {w:World}{b off:Nat}:∀{l:List GuD},(∀ j,j<l.length→GuCells w b (off+j * 3) (l[j]?.getD GuD.z))→∀(j:Nat) u,(l.flatMap guV)[j]? = some u→w.cell? ⟨b,off+j,none⟩=some u:=by
 intro l h j u hj
 have hlt:j<(l.flatMap guV).length:=(List.getElem?_eq_some_iff.1 hj).1
 rw[guV_len]at hlt
 have e:j=j / 3 * 3+j % 3:=by omega
 have hm:j % 3<3:=Nat.mod_lt _ (by omega)
 have hq:j / 3<l.length:=by omega
 have key:=guV_get l (j / 3) (j % 3) hq hm
 rw[←e]at key
 rw[hj]at key
 obtain⟨c0,c1,c2⟩:=h _ hq
 generalize l[j / 3]?.getD GuD.z=y at *
 have hc:j % 3=0∨j % 3=1∨j % 3=2:=by omega
 rcases hc with hc | hc | hc<;>rw[hc]at key<;>cases key
 ·rw[show off+j=off+j / 3 * 3 by omega];exact c0
 ·rw[show off+j=off+j / 3 * 3+1 by omega];exact c1
 ·rw[show off+j=off+j / 3 * 3+2 by omega];exact c2
def OwnGRet (l:List GuD)(w:World)(e:Ending)(w':World):Prop:=∃ v,e=.returned v∧OwnG w' w.heap.size v l∧Below w.heap.size w w'
theorem cloneG_any (a:Option Addr)(l:List GuD)(c:Nat)(S:Nat→Prop)(w:World)(hs:GusAt w S a l)(hB:∀ b,S b→b<w.heap.size)(hl:l.length≤1048576) :
  Calls Tryz.prog 120 #[.slice a l.length c] w (OwnGRet l w):=by
 obtain⟨i0,hi,hz0,hz1,hz2⟩:=info_of info_gu
 have hq:=eql_gus
 cases a with
 | none=>
  have h0:l.length=0:=by
   by_cases h:0<l.length
   ·obtain⟨b,off,e,_⟩:=hs.2 h;cases e
   ·omega
  obtain rfl:l=[]:=List.eq_nil_of_length_eq_zero h0
  clear hs hB hl h0
  go_enter Tryz.func120,Tryz.ntmps120
  go_wp2_with fail
  go_ret
  exact⟨_,rfl,World.ownsRow_nil _ _ _ _,Below.refl _ _⟩
 | some ad=>
  by_cases h0:0<l.length
  ·obtain⟨b,off,e,hb,hcc⟩:=hs.2 h0
   cases e
   have hbl:=hB b hb
   have HCC:=hide (guV_cells hcc)
   clear hcc hs
   have OWN:Hid ((w.alloc (.cells #[] 108)).ownsRow w.heap.size 108 3 (.slice (some ⟨w.heap.size,0,none⟩) 0 0) 0 []):=⟨rfl,.inr ⟨w.heap.size,0,#[],rfl,Nat.le_refl _,Go.Deep.blk_alloc_new _ _,Nat.le_refl _,by unfold maxLen;omega,rfl,rfl⟩⟩
   have HN:Hid (∀ j u,(l.flatMap guV)[j]? = some u→(w.alloc (.cells #[] 108)).cell? ((⟨b,off,none⟩:Addr).add j)=some u):=fun j u hj=>by
    have e:(⟨b,off,none⟩:Addr).add j=⟨b,off+j,none⟩:=by simp[Addr.add]
    rw[e,Below.cell (B:=w.heap.size) ((Below.refl _ _).alloc (Nat.le_refl _) _) (p:=⟨b,off+j,none⟩) hbl]
    exact unhide HCC j u hj
   go_enter Tryz.func120,Tryz.ntmps120
   go_wp2_with (first
    | (at_builtin;refine wpList_append_lies _ rfl _ _ 60 rfl w.heap.size 108 i0 (.agg #[.bool false,.int .i64 0,.int .i64 0]) 3 24 Tryz.underlying60 hi hz0 hz1 hz2 rfl (by decide) (.slice (some ⟨w.heap.size,0,none⟩) 0 0) 0 [] rfl (unhide OWN) ⟨b,off,none⟩ l.length c (l.flatMap guV) rfl (guV_len l) (unhide HN) ?c2 h0 ?c3 ?c4 ?c5 (w.heap.size+1) (by simp) ?_)
    | go_in)
   all_goals try (case c2=>intro u hu;rw[List.mem_flatMap]at hu;obtain⟨x,_,hx⟩:=hu;simp[guV]at hx;rcases hx with rfl | rfl | rfl<;>rfl)
   all_goals try (case c3=>unfold maxLen;omega)
   all_goals try (case c4=>omega)
   all_goals try (case c5=>simp)
   intro g3 cap3 w3 hown3 hgrow3 hat3 hlt3
   have O3:Hid (OwnG w3 w.heap.size (.slice (some ⟨g3,0,none⟩) l.length cap3) l):=by
    show OwnG _ _ _ _
    unfold OwnG
    first | exact hown3 | (rw[Nat.zero_add]at hown3;exact hown3)
   have B3:Hid (Below w.heap.size w w3):=((Below.refl _ _).alloc (Nat.le_refl _) _).grown hgrow3 (by simp) (fun k hk=>by have:w.heap.size=k:=Option.some.inj hk;omega)
   clear hown3 hgrow3 hat3 OWN HN
   go_wp2_with fail
   go_ret
   exact⟨_,rfl,O3.out,B3.out⟩
  ·obtain rfl:l=[]:=List.eq_nil_of_length_eq_zero (by omega)
   clear hs hB hl h0
   go_enter Tryz.func120,Tryz.ntmps120
   go_wp2_with fail
   go_ret
   exact⟨_,rfl,⟨rfl,.inr ⟨w.heap.size,0,#[],rfl,Nat.le_refl _,Go.Deep.blk_alloc_new _ _,Nat.le_refl _,by unfold maxLen;omega,rfl,rfl⟩⟩,(Below.refl _ _).alloc (Nat.le_refl _) _⟩
theorem behind_31 (fa fb fc fd:Int)(g:List GuD)(a:Option Addr)(c:Nat)(S:Nat→Prop)(w:World)(hs:GusAt w S a g)(hB:∀ b,S b→b<w.heap.size)(hl:g.length≤50) :
  Calls Tryz.prog 84 #[.agg #[.int .i64 31,.int .i64 fa,.int .i64 fb,.int .i64 fc,.int .i64 fd],.slice a g.length c] w (OwnGRet (behindI ⟨31,fa,fb,fc,fd⟩ g) w):=by
 obtain⟨i0,hi,hz0,hz1,hz2⟩:=info_of info_gu
 have hA:Below w.heap.size w (w.alloc (.cells #[.int .i64 31,.int .i64 fa,.int .i64 fb,.int .i64 fc,.int .i64 fd] 78)):=(Below.refl _ _).alloc (Nat.le_refl _) _
 have LG:=hide (cloneG_any a g c S (w.alloc (.cells #[.int .i64 31,.int .i64 fa,.int .i64 fb,.int .i64 fc,.int .i64 fd] 78)) (hs.keep hA hB) (fun b h=>Nat.lt_of_lt_of_le (hB b h) hA.size) (by omega))
 have HA:=hide hA
 clear hs hB hA
 go_enter Tryz.func84,Tryz.ntmps84
 go_wp2_with fail
 refine(unhide LG).mono ?_
 rintro e w1 ⟨v1,rfl,ho1,hb1⟩
 obtain⟨hc1,hf1⟩:=bcell hb1
 have hs1:w.heap.size<w1.heap.size:=by have:=hb1.size;simp at this;omega
 have j0:w1.cell? ⟨w.heap.size,0,none⟩=some (.int .i64 31):=by rw[hc1 _ _ (by simp)];simp[go_sem]
 have j1:w1.cell? ⟨w.heap.size,1,none⟩=some (.int .i64 fa):=by rw[hc1 _ _ (by simp)];simp[go_sem]
 have j2:w1.cell? ⟨w.heap.size,2,none⟩=some (.int .i64 fb):=by rw[hc1 _ _ (by simp)];simp[go_sem]
 have HB1:Hid (Below w.heap.size w w1):=HA.out.trans (hb1.mono (by simp))
 have HO1:Hid (OwnG w1 (w.heap.size+1) v1 g):=by have h:=ho1;rw[show ∀ o,(w.alloc o).heap.size=w.heap.size+1 from fun _=>by simp]at h;exact h
 clear hb1 hc1 hf1 ho1 LG
 obtain⟨av,cv,hav⟩:=(unhide HO1).lenV
 subst hav
 go_wp2_with (first
  | (at_builtin;refine wpList_append_own _ rfl _ _ 60 rfl (w.heap.size+1) 108 i0 (.agg #[.bool false,.int .i64 0,.int .i64 0]) 3 24 Tryz.underlying60 hi hz0 hz1 hz2 rfl (by decide) _ _ _ rfl ((unhide HO1).alloc _) ⟨w1.heap.size,0,none⟩ 1 1 [.bool true,.int .i64 fb,.int .i64 fa] rfl rfl ?c1 ?c2 ?c3 ?c4 ?c5 ?_)
  | go_in)
 all_goals try (case c1=>intro j u hj;rcases j with _ | _ | _ | _<;>simp at hj<;>(subst hj;simp[Addr.add,go_sem]))
 case c2=>first | (intro u hu;simp at hu;rcases hu with rfl | rfl | rfl<;>rfl) | (simp;done) | rfl
 case c3=>unfold maxLen;omega
 case c4=>omega
 case c5=>simp;omega
 intro v2 w2 hown2 hgrow2 _
 have HO2:Hid (OwnG w2 w.heap.size v2 (g++[⟨true,fb,fa⟩])):=(OwnG.push hown2).base_le (by omega)
 have HB2:Hid (Below w.heap.size w w2):=((unhide HB1).alloc (by omega) _).grown hgrow2 (by simp;omega) (fun j hj=>by have:=((unhide HO1).lt j hj).1;omega)
 clear hown2 hgrow2
 go_wp2_with fail
 go_ret
 exact⟨_,rfl,HO2.out,HB2.out⟩
theorem behind_33 (fa fb fc fd:Int)(g:List GuD)(a:Option Addr)(c:Nat)(S:Nat→Prop)(w:World)(hs:GusAt w S a g)(hB:∀ b,S b→b<w.heap.size)(hl:g.length≤50) :
  Calls Tryz.prog 84 #[.agg #[.int .i64 33,.int .i64 fa,.int .i64 fb,.int .i64 fc,.int .i64 fd],.slice a g.length c] w (OwnGRet (behindI ⟨33,fa,fb,fc,fd⟩ g) w):=by
 obtain⟨i0,hi,hz0,hz1,hz2⟩:=info_of info_gu
 have hA:Below w.heap.size w (w.alloc (.cells #[.int .i64 33,.int .i64 fa,.int .i64 fb,.int .i64 fc,.int .i64 fd] 78)):=(Below.refl _ _).alloc (Nat.le_refl _) _
 have LG:=hide (cloneG_any a g c S (w.alloc (.cells #[.int .i64 33,.int .i64 fa,.int .i64 fb,.int .i64 fc,.int .i64 fd] 78)) (hs.keep hA hB) (fun b h=>Nat.lt_of_lt_of_le (hB b h) hA.size) (by omega))
 have HA:=hide hA
 clear hs hB hA
 go_enter Tryz.func84,Tryz.ntmps84
 go_wp2_with fail
 refine(unhide LG).mono ?_
 rintro e w1 ⟨v1,rfl,ho1,hb1⟩
 obtain⟨hc1,hf1⟩:=bcell hb1
 have hs1:w.heap.size<w1.heap.size:=by have:=hb1.size;simp at this;omega
 have j0:w1.cell? ⟨w.heap.size,0,none⟩=some (.int .i64 33):=by rw[hc1 _ _ (by simp)];simp[go_sem]
 have j1:w1.cell? ⟨w.heap.size,1,none⟩=some (.int .i64 fa):=by rw[hc1 _ _ (by simp)];simp[go_sem]
 have j2:w1.cell? ⟨w.heap.size,2,none⟩=some (.int .i64 fb):=by rw[hc1 _ _ (by simp)];simp[go_sem]
 have HB1:Hid (Below w.heap.size w w1):=HA.out.trans (hb1.mono (by simp))
 have HO1:Hid (OwnG w1 (w.heap.size+1) v1 g):=by have h:=ho1;rw[show ∀ o,(w.alloc o).heap.size=w.heap.size+1 from fun _=>by simp]at h;exact h
 clear hb1 hc1 hf1 ho1 LG
 obtain⟨av,cv,hav⟩:=(unhide HO1).lenV
 subst hav
 go_wp2_with (first
  | (at_builtin;refine wpList_append_own _ rfl _ _ 60 rfl (w.heap.size+1) 108 i0 (.agg #[.bool false,.int .i64 0,.int .i64 0]) 3 24 Tryz.underlying60 hi hz0 hz1 hz2 rfl (by decide) _ _ _ rfl ((unhide HO1).alloc _) ⟨w1.heap.size,0,none⟩ 1 1 [.bool false,.int .i64 fa,.int .i64 0] rfl rfl ?c1 ?c2 ?c3 ?c4 ?c5 ?_)
  | go_in)
 all_goals try (case c1=>intro j u hj;rcases j with _ | _ | _ | _<;>simp at hj<;>(subst hj;simp[Addr.add,go_sem]))
 case c2=>first | (intro u hu;simp at hu;rcases hu with rfl | rfl | rfl<;>rfl) | (simp;done) | rfl
 case c3=>unfold maxLen;omega
 case c4=>omega
 case c5=>simp;omega
 intro v2 w2 hown2 hgrow2 _
 have HO2:Hid (OwnG w2 w.heap.size v2 (g++[⟨false,fa,0⟩])):=(OwnG.push hown2).base_le (by omega)
 have HB2:Hid (Below w.heap.size w w2):=((unhide HB1).alloc (by omega) _).grown hgrow2 (by simp;omega) (fun j hj=>by have:=((unhide HO1).lt j hj).1;omega)
 clear hown2 hgrow2
 go_wp2_with fail
 go_ret
 exact⟨_,rfl,HO2.out,HB2.out⟩
theorem behind_34 (fa fb fc fd:Int)(g:List GuD)(a:Option Addr)(c:Nat)(S:Nat→Prop)(w:World)(hs:GusAt w S a g)(hB:∀ b,S b→b<w.heap.size)(hl:g.length≤50)(h0:0<g.length) :
  Calls Tryz.prog 84 #[.agg #[.int .i64 34,.int .i64 fa,.int .i64 fb,.int .i64 fc,.int .i64 fd],.slice a g.length c] w (OwnGRet (behindI ⟨34,fa,fb,fc,fd⟩ g) w):=by
 obtain⟨i0,hi,hz0,hz1,hz2⟩:=info_of info_gu
 have hA:Below w.heap.size w (w.alloc (.cells #[.int .i64 34,.int .i64 fa,.int .i64 fb,.int .i64 fc,.int .i64 fd] 78)):=(Below.refl _ _).alloc (Nat.le_refl _) _
 have LG:=hide (cloneG_any a g c S (w.alloc (.cells #[.int .i64 34,.int .i64 fa,.int .i64 fb,.int .i64 fc,.int .i64 fd] 78)) (hs.keep hA hB) (fun b h=>Nat.lt_of_lt_of_le (hB b h) hA.size) (by omega))
 have HA:=hide hA
 clear hs hB hA
 go_enter Tryz.func84,Tryz.ntmps84
 go_wp2_with fail
 refine(unhide LG).mono ?_
 rintro e w1 ⟨v1,rfl,ho1,hb1⟩
 obtain⟨hc1,hf1⟩:=bcell hb1
 have hs1:w.heap.size<w1.heap.size:=by have:=hb1.size;simp at this;omega
 have j0:w1.cell? ⟨w.heap.size,0,none⟩=some (.int .i64 34):=by rw[hc1 _ _ (by simp)];simp[go_sem]
 have j1:w1.cell? ⟨w.heap.size,1,none⟩=some (.int .i64 fa):=by rw[hc1 _ _ (by simp)];simp[go_sem]
 have j2:w1.cell? ⟨w.heap.size,2,none⟩=some (.int .i64 fb):=by rw[hc1 _ _ (by simp)];simp[go_sem]
 have HB1:Hid (Below w.heap.size w w1):=HA.out.trans (hb1.mono (by simp))
 have HO1:Hid (OwnG w1 (w.heap.size+1) v1 g):=by have h:=ho1;rw[show ∀ o,(w.alloc o).heap.size=w.heap.size+1 from fun _=>by simp]at h;exact h
 clear hb1 hc1 hf1 ho1 LG
 obtain⟨m,hm⟩:∃ m,g.length=m+1:=⟨g.length-1,by omega⟩
 obtain⟨G,cap,rfl,hbG,hG,hle,hcc⟩:=(unhide HO1).at h0
 have hk:=(hcc m (by omega)).keep
 have hfz:=(unhide HO1).frozen rfl (m * 3+1)
 have HO2:Hid (OwnG (w1.setCell ⟨G,m * 3+1,none⟩ (.int .i64 fa)) w.heap.size (.slice (some ⟨G,0,none⟩) g.length cap) (behindI ⟨34,fa,fb,fc,fd⟩ g)):=by
  show OwnG _ _ _ _
  have e:behindI ⟨34,fa,fb,fc,fd⟩ g=g.set m { g[m]?.getD GuD.z with keep:=fa }:=by
   show g.set (g.length-1) { lastG g with keep:=fa }=_
   unfold lastG
   rw[hm]
   rfl
  rw[e]
  exact((unhide HO1).setKeep rfl m fa (by omega)).base_le (by omega)
 have HB2:Hid (Below w.heap.size w (w1.setCell ⟨G,m * 3+1,none⟩ (.int .i64 fa))):=(unhide HB1).setCell (p:=⟨G,m * 3+1,none⟩) (by show _≤G;omega) _
 clear hcc hle
 generalize g[m]?.getD GuD.z=y at *
 generalize behindI ⟨34,fa,fb,fc,fd⟩ g=res at *
 generalize g.length=n at *
 subst hm
 go_wp2_with fail
 go_ret
 exact⟨_,rfl,HO2.out,HB2.out⟩
theorem behind_32 (fa fb fc fd:Int)(g:List GuD)(a:Option Addr)(c:Nat)(S:Nat→Prop)(w:World)(hs:GusAt w S a g)(hB:∀ b,S b→b<w.heap.size)(hl:g.length≤50)(h0:0<g.length) :
  Calls Tryz.prog 84 #[.agg #[.int .i64 32,.int .i64 fa,.int .i64 fb,.int .i64 fc,.int .i64 fd],.slice a g.length c] w (OwnGRet (behindI ⟨32,fa,fb,fc,fd⟩ g) w):=by
 obtain⟨i0,hi,hz0,hz1,hz2⟩:=info_of info_gu
 have hA:Below w.heap.size w (w.alloc (.cells #[.int .i64 32,.int .i64 fa,.int .i64 fb,.int .i64 fc,.int .i64 fd] 78)):=(Below.refl _ _).alloc (Nat.le_refl _) _
 have LG:=hide (cloneG_any a g c S (w.alloc (.cells #[.int .i64 32,.int .i64 fa,.int .i64 fb,.int .i64 fc,.int .i64 fd] 78)) (hs.keep hA hB) (fun b h=>Nat.lt_of_lt_of_le (hB b h) hA.size) (by omega))
 have HA:=hide hA
 clear hs hB hA
 go_enter Tryz.func84,Tryz.ntmps84
 go_wp2_with fail
 refine(unhide LG).mono ?_
 rintro e w1 ⟨v1,rfl,ho1,hb1⟩
 obtain⟨hc1,hf1⟩:=bcell hb1
 have hs1:w.heap.size<w1.heap.size:=by have:=hb1.size;simp at this;omega
 have j0:w1.cell? ⟨w.heap.size,0,none⟩=some (.int .i64 32):=by rw[hc1 _ _ (by simp)];simp[go_sem]
 have j1:w1.cell? ⟨w.heap.size,1,none⟩=some (.int .i64 fa):=by rw[hc1 _ _ (by simp)];simp[go_sem]
 have j2:w1.cell? ⟨w.heap.size,2,none⟩=some (.int .i64 fb):=by rw[hc1 _ _ (by simp)];simp[go_sem]
 have HB1:Hid (Below w.heap.size w w1):=HA.out.trans (hb1.mono (by simp))
 have HO1:Hid (OwnG w1 (w.heap.size+1) v1 g):=by have h:=ho1;rw[show ∀ o,(w.alloc o).heap.size=w.heap.size+1 from fun _=>by simp]at h;exact h
 clear hb1 hc1 hf1 ho1 LG
 obtain⟨m,hm⟩:∃ m,g.length=m+1:=⟨g.length-1,by omega⟩
 obtain⟨G,cap,rfl,hbG,hG,hle,_⟩:=(unhide HO1).at h0
 have HO2:Hid (OwnG w1 w.heap.size (.slice (some ⟨G,0,none⟩) m cap) (behindI ⟨32,fa,fb,fc,fd⟩ g)):=by
  show OwnG _ _ _ _
  have e:behindI ⟨32,fa,fb,fc,fd⟩ g=g.take m:=by
   show g.take (g.length-1)=_
   rw[hm]
   rfl
  rw[e]
  exact((unhide HO1).take rfl m (by omega)).base_le (by omega)
 generalize behindI ⟨32,fa,fb,fc,fd⟩ g=res at *
 generalize g.length=n at *
 subst hm
 go_wp2_with fail
 go_ret
 exact⟨_,rfl,HO2.out,HB1.out⟩
theorem behind_36 (fa fb fc fd:Int)(g:List GuD)(a:Option Addr)(c:Nat)(S:Nat→Prop)(w:World)(hs:GusAt w S a g)(hB:∀ b,S b→b<w.heap.size)(hl:g.length≤50)(h0:0<g.length) :
  Calls Tryz.prog 84 #[.agg #[.int .i64 36,.int .i64 fa,.int .i64 fb,.int .i64 fc,.int .i64 fd],.slice a g.length c] w (OwnGRet (behindI ⟨36,fa,fb,fc,fd⟩ g) w):=by
 obtain⟨i0,hi,hz0,hz1,hz2⟩:=info_of info_gu
 have hA:Below w.heap.size w (w.alloc (.cells #[.int .i64 36,.int .i64 fa,.int .i64 fb,.int .i64 fc,.int .i64 fd] 78)):=(Below.refl _ _).alloc (Nat.le_refl _) _
 have LG:=hide (cloneG_any a g c S (w.alloc (.cells #[.int .i64 36,.int .i64 fa,.int .i64 fb,.int .i64 fc,.int .i64 fd] 78)) (hs.keep hA hB) (fun b h=>Nat.lt_of_lt_of_le (hB b h) hA.size) (by omega))
 have HA:=hide hA
 clear hs hB hA
 go_enter Tryz.func84,Tryz.ntmps84
 go_wp2_with fail
 refine(unhide LG).mono ?_
 rintro e w1 ⟨v1,rfl,ho1,hb1⟩
 obtain⟨hc1,hf1⟩:=bcell hb1
 have hs1:w.heap.size<w1.heap.size:=by have:=hb1.size;simp at this;omega
 have j0:w1.cell? ⟨w.heap.size,0,none⟩=some (.int .i64 36):=by rw[hc1 _ _ (by simp)];simp[go_sem]
 have j1:w1.cell? ⟨w.heap.size,1,none⟩=some (.int .i64 fa):=by rw[hc1 _ _ (by simp)];simp[go_sem]
 have j2:w1.cell? ⟨w.heap.size,2,none⟩=some (.int .i64 fb):=by rw[hc1 _ _ (by simp)];simp[go_sem]
 have HB1:Hid (Below w.heap.size w w1):=HA.out.trans (hb1.mono (by simp))
 have HO1:Hid (OwnG w1 (w.heap.size+1) v1 g):=by have h:=ho1;rw[show ∀ o,(w.alloc o).heap.size=w.heap.size+1 from fun _=>by simp]at h;exact h
 clear hb1 hc1 hf1 ho1 LG
 obtain⟨m,hm⟩:∃ m,g.length=m+1:=⟨g.length-1,by omega⟩
 obtain⟨G,cap,rfl,hbG,hG,hle,_⟩:=(unhide HO1).at h0
 have HO2:Hid (OwnG w1 w.heap.size (.slice (some ⟨G,0,none⟩) m cap) (behindI ⟨36,fa,fb,fc,fd⟩ g)):=by
  show OwnG _ _ _ _
  have e:behindI ⟨36,fa,fb,fc,fd⟩ g=g.take m:=by
   show g.take (g.length-1)=_
   rw[hm]
   rfl
  rw[e]
  exact((unhide HO1).take rfl m (by omega)).base_le (by omega)
 generalize behindI ⟨36,fa,fb,fc,fd⟩ g=res at *
 generalize g.length=n at *
 subst hm
 go_wp2_with fail
 go_ret
 exact⟨_,rfl,HO2.out,HB1.out⟩
theorem behind_op (op fa fb fc fd:Int)(g:List GuD)(a:Option Addr)(c:Nat)(S:Nat→Prop)(w:World)(hs:GusAt w S a g)(hB:∀ b,S b→b<w.heap.size)(hl:g.length≤50)(h1:op≠31)(h2:op≠33)(h3:op≠34)(h4:op≠32)(h5:op≠36) :
  Calls Tryz.prog 84 #[.agg #[.int .i64 op,.int .i64 fa,.int .i64 fb,.int .i64 fc,.int .i64 fd],.slice a g.length c] w (OwnGRet (behindI ⟨op,fa,fb,fc,fd⟩ g) w):=by
 obtain⟨i0,hi,hz0,hz1,hz2⟩:=info_of info_gu
 have hA:Below w.heap.size w (w.alloc (.cells #[.int .i64 op,.int .i64 fa,.int .i64 fb,.int .i64 fc,.int .i64 fd] 78)):=(Below.refl _ _).alloc (Nat.le_refl _) _
 have LG:=hide (cloneG_any a g c S (w.alloc (.cells #[.int .i64 op,.int .i64 fa,.int .i64 fb,.int .i64 fc,.int .i64 fd] 78)) (hs.keep hA hB) (fun b h=>Nat.lt_of_lt_of_le (hB b h) hA.size) (by omega))
 have HA:=hide hA
 clear hs hB hA
 go_enter Tryz.func84,Tryz.ntmps84
 go_wp2_with fail
 refine(unhide LG).mono ?_
 rintro e w1 ⟨v1,rfl,ho1,hb1⟩
 obtain⟨hc1,hf1⟩:=bcell hb1
 have hs1:w.heap.size<w1.heap.size:=by have:=hb1.size;simp at this;omega
 have j0:w1.cell? ⟨w.heap.size,0,none⟩=some (.int .i64 op):=by rw[hc1 _ _ (by simp)];simp[go_sem]
 have j1:w1.cell? ⟨w.heap.size,1,none⟩=some (.int .i64 fa):=by rw[hc1 _ _ (by simp)];simp[go_sem]
 have j2:w1.cell? ⟨w.heap.size,2,none⟩=some (.int .i64 fb):=by rw[hc1 _ _ (by simp)];simp[go_sem]
 have HB1:Hid (Below w.heap.size w w1):=HA.out.trans (hb1.mono (by simp))
 have HO1:Hid (OwnG w1 (w.heap.size+1) v1 g):=by have h:=ho1;rw[show ∀ o,(w.alloc o).heap.size=w.heap.size+1 from fun _=>by simp]at h;exact h
 clear hb1 hc1 hf1 ho1 LG
 obtain⟨av,cv,hav⟩:=(unhide HO1).lenV
 subst hav
 have HO2:Hid (OwnG w1 w.heap.size (.slice av g.length cv) (behindI ⟨op,fa,fb,fc,fd⟩ g)):=by
  show OwnG _ _ _ _
  have e:behindI ⟨op,fa,fb,fc,fd⟩ g=g:=by
   unfold behindI
   simp[h1,h2,h3,h4,h5]
  rw[e]
  exact(unhide HO1).base_le (by omega)
 generalize behindI ⟨op,fa,fb,fc,fd⟩ g=res at *
 go_wp2_with fail
 go_ret
 exact⟨_,rfl,HO2.out,HB1.out⟩
theorem guardsBehind_any (op fa fb fc fd:Int)(g:List GuD)(a:Option Addr)(c:Nat)(S:Nat→Prop)(w:World)(hs:GusAt w S a g)(hB:∀ b,S b→b<w.heap.size)(hl:g.length≤50)(h:allowI ⟨op,fa,fb,fc,fd⟩ g=true) :
  Calls Tryz.prog 84 #[.agg #[.int .i64 op,.int .i64 fa,.int .i64 fb,.int .i64 fc,.int .i64 fd],.slice a g.length c] w (OwnGRet (behindI ⟨op,fa,fb,fc,fd⟩ g) w):=by
 by_cases h1:op=31
 ·subst h1;exact behind_31 fa fb fc fd g a c S w hs hB hl
 by_cases h2:op=33
 ·subst h2;exact behind_33 fa fb fc fd g a c S w hs hB hl
 by_cases h3:op=34
 ·subst h3
  refine behind_34 fa fb fc fd g a c S w hs hB hl ?_
  rw[allow_34]at h
  simp only[Bool.and_eq_true,decide_eq_true_eq]at h
  exact h.1.1
 by_cases h4:op=32
 ·subst h4
  refine behind_32 fa fb fc fd g a c S w hs hB hl ?_
  rw[allow_32]at h
  simp only[Bool.and_eq_true,decide_eq_true_eq]at h
  exact h.1
 by_cases h5:op=36
 ·subst h5
  refine behind_36 fa fb fc fd g a c S w hs hB hl ?_
  rw[allow_36]at h
  simp only[Bool.and_eq_true,decide_eq_true_eq]at h
  exact h.1
 exact behind_op op fa fb fc fd g a c S w hs hB hl h1 h2 h3 h4 h5
end Go.Proofs.YthmjjhfjkgaocaaGreatDoor
