import Derived.Test.YtmjcpapdncfkpaaGreatDoorPart25
set_option linter.unusedSimpArgs false
set_option linter.unusedVariables false
set_option maxHeartbeats 1000000
set_option maxRecDepth 100000
namespace Go.Proofs.YtmjcpapdncfkpaaGreatDoor
open Go.RowKit
theorem OwnI.set {w:World}{base g n cap:Nat}{t:List Int}(h:OwnI w base (.slice (some ⟨g,0,none⟩) n cap) t)(hn:n=t.length)(j:Nat)(x:Int):OwnI (w.setCell ⟨g,j,none⟩ (.int .i64 x)) base (.slice (some ⟨g,0,none⟩) n cap) (t.set j x):=by
 subst hn
 have h2:=(World.ownsRow.stored h j (.int .i64 x)).1
 unfold OwnI
 rw[List.length_set,List.map_set]
 exact h2
theorem OwnI.frozen {w:World}{base g n cap:Nat}{t:List Int}(h:OwnI w base (.slice (some ⟨g,0,none⟩) n cap) t)(hn:n=t.length)(j:Nat):w.frozen? ⟨g,j,none⟩=false:=by
 subst hn
 exact World.ownsRow.frozenAt h j
theorem OwnI.alloc {w:World}{base:Nat}{v:Value}{t:List Int}(h:OwnI w base v t)(o:Obj):OwnI (w.alloc o) base v t:=World.ownsRow.alloc h o
def WrPost (base:Nat)(v:Value)(t:List Int)(w:World)(e:Ending)(w':World):Prop:=e=.returned (.tuple #[])∧OwnI w' base v t∧Below base w w'∧∀ k,k<w.heap.size→v.ownBlock≠some k→w'.heap[k]? = w.heap[k]?
theorem four_open {w w':World}{e:Ending}{r:List Nat}(h:Four w w' e r):∃ b,e=.returned (.slice (some ⟨b,0,none⟩) 4 4)∧w.heap.size≤b∧w'.rowIs b 3 4 (fun j=>.int .i64 ((r[j]?.getD 0:Nat):Int))∧Below w.heap.size w w':=h
theorem l6write_6 (fa fb fc fd:Int)(base g n cap:Nat)(t:List Int)(w:World)(hown:OwnI w base (.slice (some ⟨g,0,none⟩) n cap) t)(hn:n=t.length)(hlen:n≤250)(hbase:base≤g)(hgl:g<w.heap.size)(h0:0≤fa)(h1:fa<n) :
  Calls Tryz.prog 26 #[.agg #[.int .i64 6,.int .i64 fa,.int .i64 fb,.int .i64 fc,.int .i64 fd],.slice (some ⟨g,0,none⟩) n cap] w (WrPost base (.slice (some ⟨g,0,none⟩) n cap) (writeC ⟨6,fa,fb,fc,fd⟩ t) w):=by
 obtain⟨A,rfl⟩:=Int.eq_ofNat_of_zero_le h0
 have hA:A<n:=by omega
 have E:Hid (writeC ⟨6,((A:Nat):Int),fb,fc,fd⟩ t=t.set (A) 2):=rfl
 rw[E.out]
 clear E
 obtain⟨g',cap',hv,_,_,hcc⟩:=hown.at (by omega)
 have cA:=hcc (A) (by omega)
 have hg':g'=g:=by injection hv with h;injection h with h;exact(congrArg Addr.block h).symm
 rw[hg']at cA
 have zA:=hown.frozen hn (A)
 have HS:=hide (hown.set hn (A) 2)
 have HO:=hide hown
 have HBS:Hid (Below base w (w.setCell ⟨g,A,none⟩ (.int .i64 2))):=(Below.refl _ _).setCell hbase _
 have hbs:base≤w.heap.size:=by omega
 clear hv hcc hown hg' h0 h1
 go_enter Tryz.func26,Tryz.ntmps26
 go_wp2_with fail
 go_end0
 exact⟨rfl,(unhide HS).alloc _,(unhide HBS).alloc (by simp;omega) _,fun k hk hne=>by
  have hne:some g≠some k:=hne
  rw[Below.heap_alloc _ _ k (by simp;omega)]
  exact heap_setCell_other w ⟨g,_,none⟩ k _ (fun e=>hne (by rw[e]))⟩
theorem l6write_22 (fa fb fc fd:Int)(base g n cap:Nat)(t:List Int)(w:World)(hown:OwnI w base (.slice (some ⟨g,0,none⟩) n cap) t)(hn:n=t.length)(hlen:n≤250)(hbase:base≤g)(hgl:g<w.heap.size)(h0:0≤fa)(h1:fa<n) :
  Calls Tryz.prog 26 #[.agg #[.int .i64 22,.int .i64 fa,.int .i64 fb,.int .i64 fc,.int .i64 fd],.slice (some ⟨g,0,none⟩) n cap] w (WrPost base (.slice (some ⟨g,0,none⟩) n cap) (writeC ⟨22,fa,fb,fc,fd⟩ t) w):=by
 obtain⟨A,rfl⟩:=Int.eq_ofNat_of_zero_le h0
 have hA:A<n:=by omega
 have E:Hid (writeC ⟨22,((A:Nat):Int),fb,fc,fd⟩ t=t.set (A) 3):=rfl
 rw[E.out]
 clear E
 obtain⟨g',cap',hv,_,_,hcc⟩:=hown.at (by omega)
 have cA:=hcc (A) (by omega)
 have hg':g'=g:=by injection hv with h;injection h with h;exact(congrArg Addr.block h).symm
 rw[hg']at cA
 have zA:=hown.frozen hn (A)
 have HS:=hide (hown.set hn (A) 3)
 have HO:=hide hown
 have HBS:Hid (Below base w (w.setCell ⟨g,A,none⟩ (.int .i64 3))):=(Below.refl _ _).setCell hbase _
 have hbs:base≤w.heap.size:=by omega
 clear hv hcc hown hg' h0 h1
 go_enter Tryz.func26,Tryz.ntmps26
 go_wp2_with fail
 go_end0
 exact⟨rfl,(unhide HS).alloc _,(unhide HBS).alloc (by simp;omega) _,fun k hk hne=>by
  have hne:some g≠some k:=hne
  rw[Below.heap_alloc _ _ k (by simp;omega)]
  exact heap_setCell_other w ⟨g,_,none⟩ k _ (fun e=>hne (by rw[e]))⟩
theorem l6write_27 (fa fb fc fd:Int)(base g n cap:Nat)(t:List Int)(w:World)(hown:OwnI w base (.slice (some ⟨g,0,none⟩) n cap) t)(hn:n=t.length)(hlen:n≤250)(hbase:base≤g)(hgl:g<w.heap.size)(h0:0≤fa)(h1:fa<n) :
  Calls Tryz.prog 26 #[.agg #[.int .i64 27,.int .i64 fa,.int .i64 fb,.int .i64 fc,.int .i64 fd],.slice (some ⟨g,0,none⟩) n cap] w (WrPost base (.slice (some ⟨g,0,none⟩) n cap) (writeC ⟨27,fa,fb,fc,fd⟩ t) w):=by
 obtain⟨A,rfl⟩:=Int.eq_ofNat_of_zero_le h0
 have hA:A<n:=by omega
 have E:Hid (writeC ⟨27,((A:Nat):Int),fb,fc,fd⟩ t=t.set (A) 3):=rfl
 rw[E.out]
 clear E
 obtain⟨g',cap',hv,_,_,hcc⟩:=hown.at (by omega)
 have cA:=hcc (A) (by omega)
 have hg':g'=g:=by injection hv with h;injection h with h;exact(congrArg Addr.block h).symm
 rw[hg']at cA
 have zA:=hown.frozen hn (A)
 have HS:=hide (hown.set hn (A) 3)
 have HO:=hide hown
 have HBS:Hid (Below base w (w.setCell ⟨g,A,none⟩ (.int .i64 3))):=(Below.refl _ _).setCell hbase _
 have hbs:base≤w.heap.size:=by omega
 clear hv hcc hown hg' h0 h1
 go_enter Tryz.func26,Tryz.ntmps26
 go_wp2_with fail
 go_end0
 exact⟨rfl,(unhide HS).alloc _,(unhide HBS).alloc (by simp;omega) _,fun k hk hne=>by
  have hne:some g≠some k:=hne
  rw[Below.heap_alloc _ _ k (by simp;omega)]
  exact heap_setCell_other w ⟨g,_,none⟩ k _ (fun e=>hne (by rw[e]))⟩
theorem l6write_28 (fa fb fc fd:Int)(base g n cap:Nat)(t:List Int)(w:World)(hown:OwnI w base (.slice (some ⟨g,0,none⟩) n cap) t)(hn:n=t.length)(hlen:n≤250)(hbase:base≤g)(hgl:g<w.heap.size)(h0:0≤fa)(h1:fa<n) :
  Calls Tryz.prog 26 #[.agg #[.int .i64 28,.int .i64 fa,.int .i64 fb,.int .i64 fc,.int .i64 fd],.slice (some ⟨g,0,none⟩) n cap] w (WrPost base (.slice (some ⟨g,0,none⟩) n cap) (writeC ⟨28,fa,fb,fc,fd⟩ t) w):=by
 obtain⟨A,rfl⟩:=Int.eq_ofNat_of_zero_le h0
 have hA:A<n:=by omega
 have E:Hid (writeC ⟨28,((A:Nat):Int),fb,fc,fd⟩ t=t.set (A) 3):=rfl
 rw[E.out]
 clear E
 obtain⟨g',cap',hv,_,_,hcc⟩:=hown.at (by omega)
 have cA:=hcc (A) (by omega)
 have hg':g'=g:=by injection hv with h;injection h with h;exact(congrArg Addr.block h).symm
 rw[hg']at cA
 have zA:=hown.frozen hn (A)
 have HS:=hide (hown.set hn (A) 3)
 have HO:=hide hown
 have HBS:Hid (Below base w (w.setCell ⟨g,A,none⟩ (.int .i64 3))):=(Below.refl _ _).setCell hbase _
 have hbs:base≤w.heap.size:=by omega
 clear hv hcc hown hg' h0 h1
 go_enter Tryz.func26,Tryz.ntmps26
 go_wp2_with fail
 go_end0
 exact⟨rfl,(unhide HS).alloc _,(unhide HBS).alloc (by simp;omega) _,fun k hk hne=>by
  have hne:some g≠some k:=hne
  rw[Below.heap_alloc _ _ k (by simp;omega)]
  exact heap_setCell_other w ⟨g,_,none⟩ k _ (fun e=>hne (by rw[e]))⟩
theorem l6write_40 (fa fb fc fd:Int)(base g n cap:Nat)(t:List Int)(w:World)(hown:OwnI w base (.slice (some ⟨g,0,none⟩) n cap) t)(hn:n=t.length)(hlen:n≤250)(hbase:base≤g)(hgl:g<w.heap.size)(h0:0≤fa)(h1:fa+1<n) :
  Calls Tryz.prog 26 #[.agg #[.int .i64 40,.int .i64 fa,.int .i64 fb,.int .i64 fc,.int .i64 fd],.slice (some ⟨g,0,none⟩) n cap] w (WrPost base (.slice (some ⟨g,0,none⟩) n cap) (writeC ⟨40,fa,fb,fc,fd⟩ t) w):=by
 obtain⟨A,rfl⟩:=Int.eq_ofNat_of_zero_le h0
 have hA:A+1<n:=by omega
 have E:Hid (writeC ⟨40,((A:Nat):Int),fb,fc,fd⟩ t=t.set (A+1) 1):=rfl
 rw[E.out]
 clear E
 obtain⟨g',cap',hv,_,_,hcc⟩:=hown.at (by omega)
 have cA:=hcc (A+1) (by omega)
 have hg':g'=g:=by injection hv with h;injection h with h;exact(congrArg Addr.block h).symm
 rw[hg']at cA
 have zA:=hown.frozen hn (A+1)
 have HS:=hide (hown.set hn (A+1) 1)
 have HO:=hide hown
 have HBS:Hid (Below base w (w.setCell ⟨g,A+1,none⟩ (.int .i64 1))):=(Below.refl _ _).setCell hbase _
 have hbs:base≤w.heap.size:=by omega
 clear hv hcc hown hg' h0 h1
 go_enter Tryz.func26,Tryz.ntmps26
 go_wp2_with fail
 go_end0
 exact⟨rfl,(unhide HS).alloc _,(unhide HBS).alloc (by simp;omega) _,fun k hk hne=>by
  have hne:some g≠some k:=hne
  rw[Below.heap_alloc _ _ k (by simp;omega)]
  exact heap_setCell_other w ⟨g,_,none⟩ k _ (fun e=>hne (by rw[e]))⟩
theorem l6write_42 (fa fb fc fd:Int)(base g n cap:Nat)(t:List Int)(w:World)(hown:OwnI w base (.slice (some ⟨g,0,none⟩) n cap) t)(hn:n=t.length)(hlen:n≤250)(hbase:base≤g)(hgl:g<w.heap.size)(h0:0≤fa)(h1:fa<n) :
  Calls Tryz.prog 26 #[.agg #[.int .i64 42,.int .i64 fa,.int .i64 fb,.int .i64 fc,.int .i64 fd],.slice (some ⟨g,0,none⟩) n cap] w (WrPost base (.slice (some ⟨g,0,none⟩) n cap) (writeC ⟨42,fa,fb,fc,fd⟩ t) w):=by
 obtain⟨A,rfl⟩:=Int.eq_ofNat_of_zero_le h0
 have hA:A<n:=by omega
 have E:Hid (writeC ⟨42,((A:Nat):Int),fb,fc,fd⟩ t=t.set (A) 0):=rfl
 rw[E.out]
 clear E
 obtain⟨g',cap',hv,_,_,hcc⟩:=hown.at (by omega)
 have cA:=hcc (A) (by omega)
 have hg':g'=g:=by injection hv with h;injection h with h;exact(congrArg Addr.block h).symm
 rw[hg']at cA
 have zA:=hown.frozen hn (A)
 have HS:=hide (hown.set hn (A) 0)
 have HO:=hide hown
 have HBS:Hid (Below base w (w.setCell ⟨g,A,none⟩ (.int .i64 0))):=(Below.refl _ _).setCell hbase _
 have hbs:base≤w.heap.size:=by omega
 clear hv hcc hown hg' h0 h1
 go_enter Tryz.func26,Tryz.ntmps26
 go_wp2_with fail
 go_end0
 exact⟨rfl,(unhide HS).alloc _,(unhide HBS).alloc (by simp;omega) _,fun k hk hne=>by
  have hne:some g≠some k:=hne
  rw[Below.heap_alloc _ _ k (by simp;omega)]
  exact heap_setCell_other w ⟨g,_,none⟩ k _ (fun e=>hne (by rw[e]))⟩
theorem l6write_41 (fa fb fc fd:Int)(base g n cap:Nat)(t:List Int)(w:World)(hown:OwnI w base (.slice (some ⟨g,0,none⟩) n cap) t)(hn:n=t.length)(hlen:n≤250)(hbase:base≤g)(hgl:g<w.heap.size)(h0:0≤fc)(h1:fc<n) :
  Calls Tryz.prog 26 #[.agg #[.int .i64 41,.int .i64 fa,.int .i64 fb,.int .i64 fc,.int .i64 fd],.slice (some ⟨g,0,none⟩) n cap] w (WrPost base (.slice (some ⟨g,0,none⟩) n cap) (writeC ⟨41,fa,fb,fc,fd⟩ t) w):=by
 obtain⟨A,rfl⟩:=Int.eq_ofNat_of_zero_le h0
 have hA:A<n:=by omega
 have E:Hid (writeC ⟨41,fa,fb,((A:Nat):Int),fd⟩ t=t.set (A) 3):=rfl
 rw[E.out]
 clear E
 obtain⟨g',cap',hv,_,_,hcc⟩:=hown.at (by omega)
 have cA:=hcc (A) (by omega)
 have hg':g'=g:=by injection hv with h;injection h with h;exact(congrArg Addr.block h).symm
 rw[hg']at cA
 have zA:=hown.frozen hn (A)
 have HS:=hide (hown.set hn (A) 3)
 have HO:=hide hown
 have HBS:Hid (Below base w (w.setCell ⟨g,A,none⟩ (.int .i64 3))):=(Below.refl _ _).setCell hbase _
 have hbs:base≤w.heap.size:=by omega
 clear hv hcc hown hg' h0 h1
 go_enter Tryz.func26,Tryz.ntmps26
 go_wp2_with fail
 go_end0
 exact⟨rfl,(unhide HS).alloc _,(unhide HBS).alloc (by simp;omega) _,fun k hk hne=>by
  have hne:some g≠some k:=hne
  rw[Below.heap_alloc _ _ k (by simp;omega)]
  exact heap_setCell_other w ⟨g,_,none⟩ k _ (fun e=>hne (by rw[e]))⟩
theorem l6write_yes (op:Int)(r:List Nat)(hr:rolesC op=some r)(hr0:r[0]?.getD 0=1)(hop:op≠6∧op≠22∧op≠27∧op≠28∧op≠40∧op≠41∧op≠42)(fa fb fc fd:Int)(base g n cap:Nat)(t:List Int)(w:World)(hown:OwnI w base (.slice (some ⟨g,0,none⟩) n cap) t)(hn:n=t.length)(hlen:n≤250)(hbase:base≤g)(hgl:g<w.heap.size)(h0:0≤fa)(h1:fa<n) :
  Calls Tryz.prog 26 #[.agg #[.int .i64 op,.int .i64 fa,.int .i64 fb,.int .i64 fc,.int .i64 fd],.slice (some ⟨g,0,none⟩) n cap] w (WrPost base (.slice (some ⟨g,0,none⟩) n cap) (writeC ⟨op,fa,fb,fc,fd⟩ t) w):=by
 obtain⟨n6,n22,n27,n28,n40,n41,n42⟩:=hop
 have RO:=hide (fun W=>l6roles_any op W)
 rw[hr]at RO
 have b6:(op==6)=false:=by simpa using n6
 have b22:(op==22)=false:=by simpa using n22
 have b27:(op==27)=false:=by simpa using n27
 have b28:(op==28)=false:=by simpa using n28
 have b40:(op==40)=false:=by simpa using n40
 have b41:(op==41)=false:=by simpa using n41
 have b42:(op==42)=false:=by simpa using n42
 obtain⟨A,rfl⟩:=Int.eq_ofNat_of_zero_le h0
 have hA:A<n:=by omega
 have hw:writeC ⟨op,((A:Nat):Int),fb,fc,fd⟩ t=t.set A 1:=by
  unfold writeC
  rw[if_neg n6,if_neg (show ¬(op=22∨op=27∨op=28)by omega),if_neg n40,if_neg n42,if_neg n41,hr]
  exact if_pos hr0
 rw[hw]
 obtain⟨g',cap',hv,_,_,hcc⟩:=hown.at (by omega)
 have cA:=hcc A (by omega)
 have hg':g'=g:=by injection hv with h;injection h with h;exact(congrArg Addr.block h).symm
 rw[hg']at cA
 have zA:=hown.frozen hn A
 have HO:=hide hown
 have hbs:base≤w.heap.size:=by omega
 clear hv hcc hown hg' h0 h1 hw
 have HR0:=hide hr0
 clear hr hr0 n6 n22 n27 n28 n40 n41 n42
 go_enter Tryz.func26,Tryz.ntmps26
 go_wp2_with fail
 refine(unhide RO _).mono ?_
 rintro e w1 hF
 obtain⟨b1,rfl,hb1,hrow,hbel⟩:=four_open hF
 have f0:=hrow.cell (i:=0) (by omega)
 obtain⟨hc1,hf1⟩:=bcell hbel
 have hs1:w.heap.size<w1.heap.size:=by have:=hbel.size;simp at this;omega
 have i1:w1.cell? ⟨w.heap.size,1,none⟩=some (.int .i64 ((A:Nat):Int)):=by rw[hc1 _ _ (by simp)];simp[go_sem]
 rw[HR0.out]at f0
 have cA1:w1.cell? ⟨g,A,none⟩=some (.int .i64 (t[A]?.getD 0)):=by rw[hc1 _ _ (by simp;omega),Below.cell (B:=w.heap.size) ((Below.refl _ _).alloc (Nat.le_refl _) _) (p:=⟨g,A,none⟩) hgl];exact cA
 have zA1:w1.frozen? ⟨g,A,none⟩=false:=by rw[hf1 _ _ (by simp;omega),Below.frozen (B:=w.heap.size) ((Below.refl _ _).alloc (Nat.le_refl _) _) (p:=⟨g,A,none⟩) hgl];exact zA
 have hgl1:g<w1.heap.size:=by omega
 have O1:=hide ((((unhide HO).alloc _).below hbel).set hn A 1)
 have B1:Hid (Below base w (w1.setCell ⟨g,A,none⟩ (.int .i64 1))):=((((Below.refl _ _).alloc hbs _).trans (hbel.mono (by simp;omega)))).setCell hbase _
 have N1:Hid (∀ k,k<w.heap.size→some g≠some k→(w1.setCell ⟨g,A,none⟩ (.int .i64 1)).heap[k]? = w.heap[k]?):=fun k hk hne=>by
  rw[heap_setCell_other w1 ⟨g,A,none⟩ k _ (fun e=>hne (by rw[e])),hbel.block k (by simp;omega)]
  exact Below.heap_alloc w _ k hk
 clear hF hrow hbel hc1 hf1 RO
 go_wp2_with fail
 go_end0
 exact⟨rfl,unhide O1,unhide B1,unhide N1⟩
theorem l6write_no (op:Int)(r:List Nat)(hr:rolesC op=some r)(hr0:r[0]?.getD 0≠1)(hop:op≠6∧op≠22∧op≠27∧op≠28∧op≠40∧op≠41∧op≠42)(fa fb fc fd:Int)(base g n cap:Nat)(t:List Int)(w:World)(hown:OwnI w base (.slice (some ⟨g,0,none⟩) n cap) t)(hn:n=t.length)(hlen:n≤250)(hbase:base≤g)(hgl:g<w.heap.size) :
  Calls Tryz.prog 26 #[.agg #[.int .i64 op,.int .i64 fa,.int .i64 fb,.int .i64 fc,.int .i64 fd],.slice (some ⟨g,0,none⟩) n cap] w (WrPost base (.slice (some ⟨g,0,none⟩) n cap) (writeC ⟨op,fa,fb,fc,fd⟩ t) w):=by
 obtain⟨n6,n22,n27,n28,n40,n41,n42⟩:=hop
 have RO:=hide (fun W=>l6roles_any op W)
 rw[hr]at RO
 have b6:(op==6)=false:=by simpa using n6
 have b22:(op==22)=false:=by simpa using n22
 have b27:(op==27)=false:=by simpa using n27
 have b28:(op==28)=false:=by simpa using n28
 have b40:(op==40)=false:=by simpa using n40
 have b41:(op==41)=false:=by simpa using n41
 have b42:(op==42)=false:=by simpa using n42
 have hw:writeC ⟨op,fa,fb,fc,fd⟩ t=t:=by
  unfold writeC
  rw[if_neg n6,if_neg (show ¬(op=22∨op=27∨op=28)by omega),if_neg n40,if_neg n42,if_neg n41,hr]
  exact if_neg hr0
 rw[hw]
 have HO:=hide hown
 have hbs:base≤w.heap.size:=by omega
 clear hown hw
 have HR0:=hide hr0
 clear hr hr0 n6 n22 n27 n28 n40 n41 n42
 go_enter Tryz.func26,Tryz.ntmps26
 go_wp2_with fail
 refine(unhide RO _).mono ?_
 rintro e w1 hF
 obtain⟨b1,rfl,hb1,hrow,hbel⟩:=four_open hF
 have f0:=hrow.cell (i:=0) (by omega)
 obtain⟨hc1,hf1⟩:=bcell hbel
 have hs1:w.heap.size<w1.heap.size:=by have:=hbel.size;simp at this;omega
 have i1:w1.cell? ⟨w.heap.size,1,none⟩=some (.int .i64 fa):=by rw[hc1 _ _ (by simp)];simp[go_sem]
 have hr1:((((r[0]?.getD 0:Nat)):Int)==1)=false:=by have:=HR0.out;simp;omega
 generalize r[0]?.getD 0=q at *
 have O1:=hide (((unhide HO).alloc _).below hbel)
 have B1:Hid (Below base w w1):=((Below.refl _ _).alloc hbs _).trans (hbel.mono (by simp;omega))
 have N1:Hid (∀ k,k<w.heap.size→some g≠some k→w1.heap[k]? = w.heap[k]?):=fun k hk hne=>by
  rw[hbel.block k (by simp;omega)]
  exact Below.heap_alloc w _ k hk
 clear hF hrow hbel hc1 hf1 RO
 go_wp2_with fail
 go_end0
 exact⟨rfl,unhide O1,unhide B1,unhide N1⟩
def WrFits (op fa fc:Int)(n:Nat):Prop:=(((rolesC op).getD [])[0]?.getD 0=1→0≤fa∧fa<n)∧(op=42→0≤fa∧fa<n)∧(op=40→0≤fa∧fa+1<n)∧(op=41→0≤fc∧fc<n)
theorem l6write_any (op:Int)(fa fb fc fd:Int)(base g n cap:Nat)(t:List Int)(w:World)(hown:OwnI w base (.slice (some ⟨g,0,none⟩) n cap) t)(hn:n=t.length)(hlen:n≤250)(hbase:base≤g)(hgl:g<w.heap.size)(hop:1≤op∧op≤42)(hf:WrFits op fa fc n) :
  Calls Tryz.prog 26 #[.agg #[.int .i64 op,.int .i64 fa,.int .i64 fb,.int .i64 fc,.int .i64 fd],.slice (some ⟨g,0,none⟩) n cap] w (WrPost base (.slice (some ⟨g,0,none⟩) n cap) (writeC ⟨op,fa,fb,fc,fd⟩ t) w):=by
 obtain⟨f1,f2,f3,f4⟩:=hf
 by_cases c6:op=6
 ·subst c6;exact l6write_6 fa fb fc fd base g n cap t w hown hn hlen hbase hgl (f1 (by decide)).1 (f1 (by decide)).2
 by_cases c22:op=22
 ·subst c22;exact l6write_22 fa fb fc fd base g n cap t w hown hn hlen hbase hgl (f1 (by decide)).1 (f1 (by decide)).2
 by_cases c27:op=27
 ·subst c27;exact l6write_27 fa fb fc fd base g n cap t w hown hn hlen hbase hgl (f1 (by decide)).1 (f1 (by decide)).2
 by_cases c28:op=28
 ·subst c28;exact l6write_28 fa fb fc fd base g n cap t w hown hn hlen hbase hgl (f1 (by decide)).1 (f1 (by decide)).2
 by_cases c40:op=40
 ·subst c40;exact l6write_40 fa fb fc fd base g n cap t w hown hn hlen hbase hgl (f3 rfl).1 (f3 rfl).2
 by_cases c42:op=42
 ·subst c42;exact l6write_42 fa fb fc fd base g n cap t w hown hn hlen hbase hgl (f2 rfl).1 (f2 rfl).2
 by_cases c41:op=41
 ·subst c41;exact l6write_41 fa fb fc fd base g n cap t w hown hn hlen hbase hgl (f4 rfl).1 (f4 rfl).2
 cases hr:rolesC op with
 | none=>
  obtain⟨k,rfl⟩:∃ k:Nat,op=k:=⟨op.toNat,by omega⟩
  rw[iRole_map k (by omega) (by omega)]at hr
  cases hr
 | some r=>
  rw[hr]at f1
  by_cases h1:r[0]?.getD 0=1
  ·exact l6write_yes op r hr h1 ⟨c6,c22,c27,c28,c40,c41,c42⟩ fa fb fc fd base g n cap t w hown hn hlen hbase hgl (f1 h1).1 (f1 h1).2
  ·exact l6write_no op r hr h1 ⟨c6,c22,c27,c28,c40,c41,c42⟩ fa fb fc fd base g n cap t w hown hn hlen hbase hgl
end Go.Proofs.YtmjcpapdncfkpaaGreatDoor
