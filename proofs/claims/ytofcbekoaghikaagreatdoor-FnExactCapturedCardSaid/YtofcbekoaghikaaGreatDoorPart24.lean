import Derived.Test.YtofcbekoaghikaaGreatDoorPart23
set_option linter.unusedSimpArgs false
set_option linter.unusedVariables false
set_option maxHeartbeats 1000000
namespace Go.Proofs.YtofcbekoaghikaaGreatDoor
theorem allFrom_iff {q:Nat->Bool}{f t:Nat}:allFrom q f t=true↔∀ i,f<=i->i<t->q i=true:=⟨fun h i h1 h2=>allFrom_get h i h1 h2,allFrom_true⟩
theorem allFrom_z (q:Nat->Bool)(f:Nat):allFrom q f f=true:=allFrom_true fun i h1 h2=>absurd h1 (by omega)
theorem allFrom_cons (q:Nat->Bool){f t:Nat}(h:f<t):allFrom q f t=(q f&&allFrom q (f+1) t):=by
 rw[Bool.eq_iff_iff,Bool.and_eq_true,allFrom_iff,allFrom_iff];constructor
 ·intro k;exact⟨k f (Nat.le_refl _) h,fun i h1 h2=>k i (by omega) h2⟩
 ·rintro⟨k1,k2⟩ i h1 h2;by_cases e:i=f
  ·subst e;exact k1
  ·exact k2 i (by omega) h2
theorem kids_split (ns:List NodeD)(p:Nat):allFrom (kidFit ns p) 0 (nd ns p).kids.length=(kidsIn ns p&&allFrom (fun i=>mayFit (nd ns p) i (sKid ns p i)) 0 (nd ns p).kids.length):=by
 rw[Bool.eq_iff_iff,Bool.and_eq_true];unfold kidsIn nkids;rw[allFrom_iff,allFrom_iff,allFrom_iff];have key:∀ i,i<(nd ns p).kids.length->(kidFit ns p i=true↔kidOk p (kidI (nd ns p) i)=true/\mayFit (nd ns p) i (sKid ns p i)=true):=fun i hi=>by
  unfold kidFit kidOk inR sKid;rw[if_neg (by omega)];simp only[Bool.and_eq_true,decide_eq_true_eq];constructor
  ·rintro⟨⟨h1,h2⟩,h3⟩;rw[if_neg (by omega)];exact⟨⟨h1,by omega⟩,h3⟩
  ·rintro⟨⟨h1,h2⟩,h3⟩;rw[if_neg (by omega)]at h3;exact⟨⟨h1,by omega⟩,h3⟩
 constructor
 ·intro h;exact⟨fun i h1 h2=>((key i h2).1 (h i h1 h2)).1,fun i h1 h2=>((key i h2).1 (h i h1 h2)).2⟩
 ·rintro⟨h1,h2⟩ i h3 h4;exact(key i h4).2 ⟨h1 i h3 h4,h2 i h3 h4⟩
theorem table_kids (s:Nat->Int)(m:Nat):((∀ i,0<=i->i<m+2->isExpr (s i)=true)/\s m=23/\isMany (s (m+1))=true) ↔
  ∀ i,0<=i->i<m+2->(if((m+2:Nat):Int)-1-i=1 then s i==23 else if((m+2:Nat):Int)-1-i=0 then isMany (s i)else isExpr (s i))=true:=by
 have many:∀ x,isMany x=true->isExpr x=true:=fun x h=>by
  unfold isMany at h;unfold isExpr;simp at h ⊢;omega
 constructor
 ·rintro⟨h1,h2,h3⟩ i _ hi;by_cases e1:i=m
  ·subst e1;rw[if_pos (by omega),h2];rfl
  by_cases e2:i=m+1
  ·subst e2;rw[if_neg (by omega),if_pos (by omega)];exact h3
  rw[if_neg (by omega),if_neg (by omega)];exact h1 i (Nat.zero_le _) hi
 ·intro h;have h2:=h m (Nat.zero_le _) (by omega);rw[if_pos (by omega)]at h2;have h2:s m=23:=by simpa using h2
  have h3:=h (m+1) (Nat.zero_le _) (by omega);rw[if_neg (by omega),if_pos (by omega)]at h3;refine⟨fun i h0 hi=>?_,h2,h3⟩;by_cases e1:i=m
  ·subst e1;rw[h2];rfl
  by_cases e2:i=m+1
  ·subst e2;exact many _ h3
  have h4:=h i h0 hi;rw[if_neg (by omega),if_neg (by omega)]at h4;exact h4
def fitsAt (n:NodeD)(s:Nat->Int)(ro:Role):Bool:=roleFitsD n ro.u ro.r0 ro.r1 ro.k0 ro.k1&&(allFrom (fun i=>mayFit n i (s i)) 0 n.kids.length&&(!(n.kind==35)||(n.kids.length % 2==0)))
theorem shape_1 (ns:List NodeD)(p:Nat)(hk:(nd ns p).kind=1):(decide (nkids ns p<=200)&&(decide (1<=(nd ns p).line)&&decide ((nd ns p).line<=100000)&&sStatement ns p))=fitsAt (nd ns p) (sKid ns p) (roleAt 0):=by
 have e:roleAt 0=⟨1,0,0,0,0,200⟩:=rfl;rw[e];unfold fitsAt roleFitsD lineFit fieldsFits opFit numFit fltFit strFit sStatement nkids;rw[hk];have a1:isStat 1=true:=rfl;rw[a1];simp only[stArm];unfold allStats sBare sBareV mayFit inR;generalize sKid ns p=s;generalize nd ns p=n at *;obtain⟨kind,line,op,num,flt,str,refs,kids⟩:=n;simp only at *;subst hk;generalize kids.length=K at *;generalize refs.length=R at *;generalize fltZero flt=fz;generalize strNone str=sn;generalize fltNum flt=fn;rw[Bool.eq_iff_iff];simp only[Bool.and_eq_true,decide_eq_true_eq,allFrom_iff];grind
theorem shape_2 (ns:List NodeD)(p:Nat)(hr:(nd ns p).refs.length<=9223372036854775807)(hk:(nd ns p).kind=2):(decide (nkids ns p<=200)&&(decide (1<=(nd ns p).line)&&decide ((nd ns p).line<=100000)&&sStatement ns p))=fitsAt (nd ns p) (sKid ns p) (roleAt 1):=by
 have e:roleAt 1=⟨2,0,1,9223372036854775807,0,200⟩:=rfl;rw[e];unfold fitsAt roleFitsD lineFit fieldsFits opFit numFit fltFit strFit sStatement nkids;rw[hk];have a1:isStat 2=true:=rfl;rw[a1];simp only[stArm];unfold sExprsI sExprs sBare sBareV mayFit inR;generalize sKid ns p=s;generalize nd ns p=n at *;obtain⟨kind,line,op,num,flt,str,refs,kids⟩:=n;simp only at *;subst hk;generalize kids.length=K at *;generalize refs.length=R at *;generalize fltZero flt=fz;generalize strNone str=sn;generalize fltNum flt=fn;rw[Bool.eq_iff_iff];simp only[Bool.and_eq_true,decide_eq_true_eq,allFrom_iff];grind
theorem shape_3 (ns:List NodeD)(p:Nat)(hk:(nd ns p).kind=3):(decide (nkids ns p<=200)&&(decide (1<=(nd ns p).line)&&decide ((nd ns p).line<=100000)&&sStatement ns p))=fitsAt (nd ns p) (sKid ns p) (roleAt 2):=by
 have e:roleAt 2=⟨3,1,0,0,2,200⟩:=rfl;rw[e];unfold fitsAt roleFitsD lineFit fieldsFits opFit numFit fltFit strFit sStatement nkids;rw[hk];have a1:isStat 3=true:=rfl;rw[a1];simp only[stArm];unfold allTargets sExprsI sExprs sBare sBareV mayFit inR;generalize sKid ns p=s;generalize nd ns p=n at *;obtain⟨kind,line,op,num,flt,str,refs,kids⟩:=n;simp only at *;subst hk;generalize kids.length=K at *;generalize refs.length=R at *;generalize fltZero flt=fz;generalize strNone str=sn;generalize fltNum flt=fn;rw[Bool.eq_iff_iff];simp only[Bool.and_eq_true,decide_eq_true_eq,allFrom_iff];grind
theorem shape_4 (ns:List NodeD)(p:Nat)(hk:(nd ns p).kind=4):(decide (nkids ns p<=200)&&(decide (1<=(nd ns p).line)&&decide ((nd ns p).line<=100000)&&sStatement ns p))=fitsAt (nd ns p) (sKid ns p) (roleAt 3):=by
 have e:roleAt 3=⟨4,0,0,0,1,1⟩:=rfl;rw[e];unfold fitsAt roleFitsD lineFit fieldsFits opFit numFit fltFit strFit sStatement nkids;rw[hk];have a1:isStat 4=true:=rfl;rw[a1];simp only[stArm];unfold sKidI sBare sBareV mayFit inR;generalize sKid ns p=s;generalize nd ns p=n at *;obtain⟨kind,line,op,num,flt,str,refs,kids⟩:=n;simp only at *;subst hk;generalize kids.length=K at *;generalize refs.length=R at *;generalize fltZero flt=fz;generalize strNone str=sn;generalize fltNum flt=fn;by_cases h0:K=1
 ·subst h0;simp[allFrom_z,allFrom_cons];grind
 ·have h1:¬(1<=K/\K<=1):=by omega
  grind
theorem shape_5 (ns:List NodeD)(p:Nat)(hk:(nd ns p).kind=5):(decide (nkids ns p<=200)&&(decide (1<=(nd ns p).line)&&decide ((nd ns p).line<=100000)&&sStatement ns p))=fitsAt (nd ns p) (sKid ns p) (roleAt 4):=by
 have e:roleAt 4=⟨5,0,0,0,2,3⟩:=rfl;rw[e];unfold fitsAt roleFitsD lineFit fieldsFits opFit numFit fltFit strFit sStatement nkids;rw[hk];have a1:isStat 5=true:=rfl;rw[a1];simp only[stArm];unfold sExprsI sExprs sKidI sBare sBareV mayFit inR;generalize sKid ns p=s;generalize nd ns p=n at *;obtain⟨kind,line,op,num,flt,str,refs,kids⟩:=n;simp only at *;subst hk;generalize kids.length=K at *;generalize refs.length=R at *;generalize fltZero flt=fz;generalize strNone str=sn;generalize fltNum flt=fn;rw[Bool.eq_iff_iff];simp only[Bool.and_eq_true,decide_eq_true_eq,allFrom_iff];grind
theorem shape_6 (ns:List NodeD)(p:Nat)(hk:(nd ns p).kind=6):(decide (nkids ns p<=200)&&(decide (1<=(nd ns p).line)&&decide ((nd ns p).line<=100000)&&sStatement ns p))=fitsAt (nd ns p) (sKid ns p) (roleAt 5):=by
 have e:roleAt 5=⟨6,0,0,0,2,2⟩:=rfl;rw[e];unfold fitsAt roleFitsD lineFit fieldsFits opFit numFit fltFit strFit sStatement nkids;rw[hk];have a1:isStat 6=true:=rfl;rw[a1];simp only[stArm];unfold sExprsI sExprs sBlock sKidI sBare sBareV mayFit inR;generalize sKid ns p=s;generalize nd ns p=n at *;obtain⟨kind,line,op,num,flt,str,refs,kids⟩:=n;simp only at *;subst hk;generalize kids.length=K at *;generalize refs.length=R at *;generalize fltZero flt=fz;generalize strNone str=sn;generalize fltNum flt=fn;by_cases h0:K=2
 ·subst h0;simp[allFrom_z,allFrom_cons];grind
 ·have h1:¬(2<=K/\K<=2):=by omega
  grind
theorem shape_7 (ns:List NodeD)(p:Nat)(hk:(nd ns p).kind=7):(decide (nkids ns p<=200)&&(decide (1<=(nd ns p).line)&&decide ((nd ns p).line<=100000)&&sStatement ns p))=fitsAt (nd ns p) (sKid ns p) (roleAt 6):=by
 have e:roleAt 6=⟨7,0,1,1,4,4⟩:=rfl;rw[e];unfold fitsAt roleFitsD lineFit fieldsFits opFit numFit fltFit strFit sStatement nkids;rw[hk];have a1:isStat 7=true:=rfl;rw[a1];simp only[stArm];unfold sExprsI sExprs sBlock sKidI sBare sBareV mayFit inR;generalize sKid ns p=s;generalize nd ns p=n at *;obtain⟨kind,line,op,num,flt,str,refs,kids⟩:=n;simp only at *;subst hk;generalize kids.length=K at *;generalize refs.length=R at *;generalize fltZero flt=fz;generalize strNone str=sn;generalize fltNum flt=fn;by_cases h0:K=4
 ·subst h0;simp[allFrom_z,allFrom_cons];grind
 ·have h1:¬(4<=K/\K<=4):=by omega
  grind
theorem shape_8 (ns:List NodeD)(p:Nat)(hk:(nd ns p).kind=8):(decide (nkids ns p<=200)&&(decide (1<=(nd ns p).line)&&decide ((nd ns p).line<=100000)&&sStatement ns p))=fitsAt (nd ns p) (sKid ns p) (roleAt 7):=by
 have e:roleAt 7=⟨8,0,1,4,2,2⟩:=rfl;rw[e];unfold fitsAt roleFitsD lineFit fieldsFits opFit numFit fltFit strFit sStatement nkids;rw[hk];have a1:isStat 8=true:=rfl;rw[a1];simp only[stArm];unfold sExprsI sExprs sBlock sKidI sBare sBareV mayFit inR;generalize sKid ns p=s;generalize nd ns p=n at *;obtain⟨kind,line,op,num,flt,str,refs,kids⟩:=n;simp only at *;subst hk;generalize kids.length=K at *;generalize refs.length=R at *;generalize fltZero flt=fz;generalize strNone str=sn;generalize fltNum flt=fn;by_cases h0:K=2
 ·subst h0;simp[allFrom_z,allFrom_cons];grind
 ·have h1:¬(2<=K/\K<=2):=by omega
  grind
theorem shape_9 (ns:List NodeD)(p:Nat)(hk:(nd ns p).kind=9):(decide (nkids ns p<=200)&&(decide (1<=(nd ns p).line)&&decide ((nd ns p).line<=100000)&&sStatement ns p))=fitsAt (nd ns p) (sKid ns p) (roleAt 8):=by
 have e:roleAt 8=⟨9,0,0,0,0,0⟩:=rfl;rw[e];unfold fitsAt roleFitsD lineFit fieldsFits opFit numFit fltFit strFit sStatement nkids;rw[hk];have a1:isStat 9=true:=rfl;rw[a1];simp only[stArm];unfold sBare sBareV mayFit inR;generalize sKid ns p=s;generalize nd ns p=n at *;obtain⟨kind,line,op,num,flt,str,refs,kids⟩:=n;simp only at *;subst hk;generalize kids.length=K at *;generalize refs.length=R at *;generalize fltZero flt=fz;generalize strNone str=sn;generalize fltNum flt=fn;by_cases h0:K=0
 ·subst h0;simp[allFrom_z];grind
 ·simp[h0]
theorem shape_10 (ns:List NodeD)(p:Nat)(hk:(nd ns p).kind=10):(decide (nkids ns p<=200)&&(decide (1<=(nd ns p).line)&&decide ((nd ns p).line<=100000)&&sStatement ns p))=fitsAt (nd ns p) (sKid ns p) (roleAt 9):=by
 have e:roleAt 9=⟨10,0,0,0,0,0⟩:=rfl;rw[e];unfold fitsAt roleFitsD lineFit fieldsFits opFit numFit fltFit strFit sStatement nkids;rw[hk];have a1:isStat 10=true:=rfl;rw[a1];simp only[stArm];unfold sBare sBareV mayFit inR;generalize sKid ns p=s;generalize nd ns p=n at *;obtain⟨kind,line,op,num,flt,str,refs,kids⟩:=n;simp only at *;subst hk;generalize kids.length=K at *;generalize refs.length=R at *;generalize fltZero flt=fz;generalize strNone str=sn;generalize fltNum flt=fn;by_cases h0:K=0
 ·subst h0;simp[allFrom_z];grind
 ·simp[h0]
theorem shape_11 (ns:List NodeD)(p:Nat)(hk:(nd ns p).kind=11):(decide (nkids ns p<=200)&&(decide (1<=(nd ns p).line)&&decide ((nd ns p).line<=100000)&&sStatement ns p))=fitsAt (nd ns p) (sKid ns p) (roleAt 10):=by
 have e:roleAt 10=⟨11,0,0,0,0,200⟩:=rfl;rw[e];unfold fitsAt roleFitsD lineFit fieldsFits opFit numFit fltFit strFit sStatement nkids;rw[hk];have a1:isStat 11=true:=rfl;rw[a1];simp only[stArm];unfold sExprsI sExprs sBare sBareV mayFit inR;generalize sKid ns p=s;generalize nd ns p=n at *;obtain⟨kind,line,op,num,flt,str,refs,kids⟩:=n;simp only at *;subst hk;generalize kids.length=K at *;generalize refs.length=R at *;generalize fltZero flt=fz;generalize strNone str=sn;generalize fltNum flt=fn;rw[Bool.eq_iff_iff];simp only[Bool.and_eq_true,decide_eq_true_eq,allFrom_iff];grind
theorem shape_12 (ns:List NodeD)(p:Nat)(hk:(nd ns p).kind=12):(decide (nkids ns p<=200)&&(decide (1<=(nd ns p).line)&&decide ((nd ns p).line<=100000)&&sStatement ns p))=fitsAt (nd ns p) (sKid ns p) (roleAt 11):=by
 have e:roleAt 11=⟨12,0,2,2,2,2⟩:=rfl;rw[e];unfold fitsAt roleFitsD lineFit fieldsFits opFit numFit fltFit strFit sStatement nkids;rw[hk];have a1:isStat 12=true:=rfl;rw[a1];simp only[stArm];unfold sBlock sKidI sBare sBareV mayFit inR;generalize sKid ns p=s;generalize nd ns p=n at *;obtain⟨kind,line,op,num,flt,str,refs,kids⟩:=n;simp only at *;subst hk;generalize kids.length=K at *;generalize refs.length=R at *;generalize fltZero flt=fz;generalize strNone str=sn;generalize fltNum flt=fn;by_cases h0:K=2
 ·subst h0;simp[allFrom_z,allFrom_cons];grind
 ·have h1:¬(2<=K/\K<=2):=by omega
  grind
theorem shape_13 (ns:List NodeD)(p:Nat)(hk:(nd ns p).kind=13):(decide (nkids ns p<=200)&&(decide (1<=(nd ns p).line)&&decide ((nd ns p).line<=100000)&&sStatement ns p))=fitsAt (nd ns p) (sKid ns p) (roleAt 12):=by
 have e:roleAt 12=⟨13,0,0,0,1,1⟩:=rfl;rw[e];unfold fitsAt roleFitsD lineFit fieldsFits opFit numFit fltFit strFit sStatement nkids;rw[hk];have a1:isStat 13=true:=rfl;rw[a1];simp only[stArm];unfold sExprsI sExprs sBare sBareV mayFit inR;generalize sKid ns p=s;generalize nd ns p=n at *;obtain⟨kind,line,op,num,flt,str,refs,kids⟩:=n;simp only at *;subst hk;generalize kids.length=K at *;generalize refs.length=R at *;generalize fltZero flt=fz;generalize strNone str=sn;generalize fltNum flt=fn;by_cases h0:K=1
 ·subst h0;simp[allFrom_z,allFrom_cons];grind
 ·have h1:¬(1<=K/\K<=1):=by omega
  grind
theorem shape_14 (ns:List NodeD)(p:Nat)(hk:(nd ns p).kind=14):(decide (nkids ns p<=200)&&(decide (1<=(nd ns p).line)&&decide ((nd ns p).line<=100000)&&sStatement ns p))=fitsAt (nd ns p) (sKid ns p) (roleAt 13):=by
 have e:roleAt 13=⟨14,0,0,0,1,1⟩:=rfl;rw[e];unfold fitsAt roleFitsD lineFit fieldsFits opFit numFit fltFit strFit sStatement nkids;rw[hk];have a1:isStat 14=true:=rfl;rw[a1];simp only[stArm];unfold sKidI sBare sBareV mayFit inR;generalize sKid ns p=s;generalize nd ns p=n at *;obtain⟨kind,line,op,num,flt,str,refs,kids⟩:=n;simp only at *;subst hk;generalize kids.length=K at *;generalize refs.length=R at *;generalize fltZero flt=fz;generalize strNone str=sn;generalize fltNum flt=fn;by_cases h0:K=1
 ·subst h0;simp[allFrom_z,allFrom_cons];grind
 ·have h1:¬(1<=K/\K<=1):=by omega
  grind
theorem shape_20 (ns:List NodeD)(p:Nat)(hk:(nd ns p).kind=20):(decide (nkids ns p<=200)&&((nd ns p).line==0&&sExpression ns p))=fitsAt (nd ns p) (sKid ns p) (roleAt 14):=by
 have e:roleAt 14=⟨20,0,0,0,0,0⟩:=rfl;rw[e];unfold fitsAt roleFitsD lineFit fieldsFits opFit numFit fltFit strFit sExpression nkids;rw[hk];have a1:isStat 20=false:=rfl;rw[a1];simp only[exArm];unfold sBare sBareV mayFit inR;generalize sKid ns p=s;generalize nd ns p=n at *;obtain⟨kind,line,op,num,flt,str,refs,kids⟩:=n;simp only at *;subst hk;generalize kids.length=K at *;generalize refs.length=R at *;generalize fltZero flt=fz;generalize strNone str=sn;generalize fltNum flt=fn;by_cases h0:K=0
 ·subst h0;simp[allFrom_z];grind
 ·simp[h0]
theorem shape_21 (ns:List NodeD)(p:Nat)(hk:(nd ns p).kind=21):(decide (nkids ns p<=200)&&((nd ns p).line==0&&sExpression ns p))=fitsAt (nd ns p) (sKid ns p) (roleAt 15):=by
 have e:roleAt 15=⟨21,0,0,0,0,0⟩:=rfl;rw[e];unfold fitsAt roleFitsD lineFit fieldsFits opFit numFit fltFit strFit sExpression nkids;rw[hk];have a1:isStat 21=false:=rfl;rw[a1];simp only[exArm];unfold sBare sBareV mayFit inR;generalize sKid ns p=s;generalize nd ns p=n at *;obtain⟨kind,line,op,num,flt,str,refs,kids⟩:=n;simp only at *;subst hk;generalize kids.length=K at *;generalize refs.length=R at *;generalize fltZero flt=fz;generalize strNone str=sn;generalize fltNum flt=fn;by_cases h0:K=0
 ·subst h0;simp[allFrom_z];grind
 ·simp[h0]
theorem shape_22 (ns:List NodeD)(p:Nat)(hk:(nd ns p).kind=22):(decide (nkids ns p<=200)&&((nd ns p).line==0&&sExpression ns p))=fitsAt (nd ns p) (sKid ns p) (roleAt 16):=by
 have e:roleAt 16=⟨22,0,0,0,0,0⟩:=rfl;rw[e];unfold fitsAt roleFitsD lineFit fieldsFits opFit numFit fltFit strFit sExpression nkids;rw[hk];have a1:isStat 22=false:=rfl;rw[a1];simp only[exArm];unfold sBare sBareV mayFit inR;generalize sKid ns p=s;generalize nd ns p=n at *;obtain⟨kind,line,op,num,flt,str,refs,kids⟩:=n;simp only at *;subst hk;generalize kids.length=K at *;generalize refs.length=R at *;generalize fltZero flt=fz;generalize strNone str=sn;generalize fltNum flt=fn;by_cases h0:K=0
 ·subst h0;simp[allFrom_z];grind
 ·simp[h0]
theorem shape_23 (ns:List NodeD)(p:Nat)(hk:(nd ns p).kind=23):(decide (nkids ns p<=200)&&((nd ns p).line==0&&sExpression ns p))=fitsAt (nd ns p) (sKid ns p) (roleAt 17):=by
 have e:roleAt 17=⟨23,2,0,0,0,0⟩:=rfl;rw[e];unfold fitsAt roleFitsD lineFit fieldsFits opFit numFit fltFit strFit sExpression nkids;rw[hk];have a1:isStat 23=false:=rfl;rw[a1];simp only[exArm];unfold sBare sBareV mayFit inR;generalize sKid ns p=s;generalize nd ns p=n at *;obtain⟨kind,line,op,num,flt,str,refs,kids⟩:=n;simp only at *;subst hk;generalize kids.length=K at *;generalize refs.length=R at *;generalize fltZero flt=fz;generalize strNone str=sn;generalize fltNum flt=fn;by_cases h0:K=0
 ·subst h0;simp[allFrom_z];grind
 ·simp[h0]
theorem shape_24 (ns:List NodeD)(p:Nat)(hk:(nd ns p).kind=24):(decide (nkids ns p<=200)&&((nd ns p).line==0&&sExpression ns p))=fitsAt (nd ns p) (sKid ns p) (roleAt 18):=by
 have e:roleAt 18=⟨24,3,0,0,0,0⟩:=rfl;rw[e];unfold fitsAt roleFitsD lineFit fieldsFits opFit numFit fltFit strFit sExpression nkids;rw[hk];have a1:isStat 24=false:=rfl;rw[a1];simp only[exArm];unfold sBare sBareV mayFit inR;generalize sKid ns p=s;generalize nd ns p=n at *;obtain⟨kind,line,op,num,flt,str,refs,kids⟩:=n;simp only at *;subst hk;generalize kids.length=K at *;generalize refs.length=R at *;generalize fltZero flt=fz;generalize strNone str=sn;generalize fltNum flt=fn;by_cases h0:K=0
 ·subst h0;simp[allFrom_z];grind
 ·simp[h0]
theorem shape_25 (ns:List NodeD)(p:Nat)(hk:(nd ns p).kind=25):(decide (nkids ns p<=200)&&((nd ns p).line==0&&sExpression ns p))=fitsAt (nd ns p) (sKid ns p) (roleAt 19):=by
 have e:roleAt 19=⟨25,4,0,0,0,0⟩:=rfl;rw[e];unfold fitsAt roleFitsD lineFit fieldsFits opFit numFit fltFit strFit sExpression nkids;rw[hk];have a1:isStat 25=false:=rfl;rw[a1];simp only[exArm];unfold sBare sBareV mayFit inR;generalize sKid ns p=s;generalize nd ns p=n at *;obtain⟨kind,line,op,num,flt,str,refs,kids⟩:=n;simp only at *;subst hk;generalize kids.length=K at *;generalize refs.length=R at *;generalize fltZero flt=fz;generalize strNone str=sn;generalize fltNum flt=fn;by_cases h0:K=0
 ·subst h0;simp[allFrom_z];grind
 ·simp[h0]
theorem shape_26 (ns:List NodeD)(p:Nat)(hk:(nd ns p).kind=26):(decide (nkids ns p<=200)&&((nd ns p).line==0&&sExpression ns p))=fitsAt (nd ns p) (sKid ns p) (roleAt 20):=by
 have e:roleAt 20=⟨26,0,1,1,0,0⟩:=rfl;rw[e];unfold fitsAt roleFitsD lineFit fieldsFits opFit numFit fltFit strFit sExpression nkids;rw[hk];have a1:isStat 26=false:=rfl;rw[a1];simp only[exArm];unfold sBare sBareV mayFit inR;generalize sKid ns p=s;generalize nd ns p=n at *;obtain⟨kind,line,op,num,flt,str,refs,kids⟩:=n;simp only at *;subst hk;generalize kids.length=K at *;generalize refs.length=R at *;generalize fltZero flt=fz;generalize strNone str=sn;generalize fltNum flt=fn;by_cases h0:K=0
 ·subst h0;simp[allFrom_z];grind
 ·simp[h0]
theorem shape_27 (ns:List NodeD)(p:Nat)(hk:(nd ns p).kind=27):(decide (nkids ns p<=200)&&((nd ns p).line==0&&sExpression ns p))=fitsAt (nd ns p) (sKid ns p) (roleAt 21):=by
 have e:roleAt 21=⟨27,0,1,1,0,0⟩:=rfl;rw[e];unfold fitsAt roleFitsD lineFit fieldsFits opFit numFit fltFit strFit sExpression nkids;rw[hk];have a1:isStat 27=false:=rfl;rw[a1];simp only[exArm];unfold sBare sBareV mayFit inR;generalize sKid ns p=s;generalize nd ns p=n at *;obtain⟨kind,line,op,num,flt,str,refs,kids⟩:=n;simp only at *;subst hk;generalize kids.length=K at *;generalize refs.length=R at *;generalize fltZero flt=fz;generalize strNone str=sn;generalize fltNum flt=fn;by_cases h0:K=0
 ·subst h0;simp[allFrom_z];grind
 ·simp[h0]
theorem shape_28 (ns:List NodeD)(p:Nat)(hk:(nd ns p).kind=28):(decide (nkids ns p<=200)&&((nd ns p).line==0&&sExpression ns p))=fitsAt (nd ns p) (sKid ns p) (roleAt 22):=by
 have e:roleAt 22=⟨28,5,0,0,0,0⟩:=rfl;rw[e];unfold fitsAt roleFitsD lineFit fieldsFits opFit numFit fltFit strFit sExpression nkids;rw[hk];have a1:isStat 28=false:=rfl;rw[a1];simp only[exArm];unfold sBare sBareV mayFit inR;generalize sKid ns p=s;generalize nd ns p=n at *;obtain⟨kind,line,op,num,flt,str,refs,kids⟩:=n;simp only at *;subst hk;generalize kids.length=K at *;generalize refs.length=R at *;generalize fltZero flt=fz;generalize strNone str=sn;generalize fltNum flt=fn;by_cases h0:K=0
 ·subst h0;simp[allFrom_z];grind
 ·simp[h0]
theorem shape_29 (ns:List NodeD)(p:Nat)(hk:(nd ns p).kind=29):(decide (nkids ns p<=200)&&((nd ns p).line==0&&sExpression ns p))=fitsAt (nd ns p) (sKid ns p) (roleAt 23):=by
 have e:roleAt 23=⟨29,0,0,0,2,2⟩:=rfl;rw[e];unfold fitsAt roleFitsD lineFit fieldsFits opFit numFit fltFit strFit sExpression nkids;rw[hk];have a1:isStat 29=false:=rfl;rw[a1];simp only[exArm];unfold sExprsI sExprs sBare sBareV mayFit inR;generalize sKid ns p=s;generalize nd ns p=n at *;obtain⟨kind,line,op,num,flt,str,refs,kids⟩:=n;simp only at *;subst hk;generalize kids.length=K at *;generalize refs.length=R at *;generalize fltZero flt=fz;generalize strNone str=sn;generalize fltNum flt=fn;by_cases h0:K=2
 ·subst h0;simp[allFrom_z,allFrom_cons];grind
 ·have h1:¬(2<=K/\K<=2):=by omega
  grind
theorem shape_30 (ns:List NodeD)(p:Nat)(hk:(nd ns p).kind=30):(decide (nkids ns p<=200)&&((nd ns p).line==0&&sExpression ns p))=fitsAt (nd ns p) (sKid ns p) (roleAt 24):=by
 have e:roleAt 24=⟨30,0,0,0,2,2⟩:=rfl;rw[e];unfold fitsAt roleFitsD lineFit fieldsFits opFit numFit fltFit strFit sExpression nkids;rw[hk];have a1:isStat 30=false:=rfl;rw[a1];simp only[exArm];unfold sExprsI sExprs sBare sBareV mayFit inR;generalize sKid ns p=s;generalize nd ns p=n at *;obtain⟨kind,line,op,num,flt,str,refs,kids⟩:=n;simp only at *;subst hk;generalize kids.length=K at *;generalize refs.length=R at *;generalize fltZero flt=fz;generalize strNone str=sn;generalize fltNum flt=fn;by_cases h0:K=2
 ·subst h0;simp[allFrom_z,allFrom_cons];grind
 ·have h1:¬(2<=K/\K<=2):=by omega
  grind
theorem shape_31 (ns:List NodeD)(p:Nat)(hk:(nd ns p).kind=31):(decide (nkids ns p<=200)&&((nd ns p).line==0&&sExpression ns p))=fitsAt (nd ns p) (sKid ns p) (roleAt 25):=by
 have e:roleAt 25=⟨31,6,0,0,1,1⟩:=rfl;rw[e];unfold fitsAt roleFitsD lineFit fieldsFits opFit numFit fltFit strFit sExpression nkids;rw[hk];have a1:isStat 31=false:=rfl;rw[a1];simp only[exArm];unfold sExprsI sExprs sBare sBareV mayFit inR;generalize sKid ns p=s;generalize nd ns p=n at *;obtain⟨kind,line,op,num,flt,str,refs,kids⟩:=n;simp only at *;subst hk;generalize kids.length=K at *;generalize refs.length=R at *;generalize fltZero flt=fz;generalize strNone str=sn;generalize fltNum flt=fn;by_cases h0:K=1
 ·subst h0;simp[allFrom_z,allFrom_cons];grind
 ·have h1:¬(1<=K/\K<=1):=by omega
  grind
theorem shape_32 (ns:List NodeD)(p:Nat)(hk:(nd ns p).kind=32):(decide (nkids ns p<=200)&&((nd ns p).line==0&&sExpression ns p))=fitsAt (nd ns p) (sKid ns p) (roleAt 26):=by
 have e:roleAt 26=⟨32,7,0,0,2,2⟩:=rfl;rw[e];unfold fitsAt roleFitsD lineFit fieldsFits opFit numFit fltFit strFit sExpression nkids;rw[hk];have a1:isStat 32=false:=rfl;rw[a1];simp only[exArm];unfold sExprsI sExprs sBare sBareV mayFit inR;generalize sKid ns p=s;generalize nd ns p=n at *;obtain⟨kind,line,op,num,flt,str,refs,kids⟩:=n;simp only at *;subst hk;generalize kids.length=K at *;generalize refs.length=R at *;generalize fltZero flt=fz;generalize strNone str=sn;generalize fltNum flt=fn;by_cases h0:K=2
 ·subst h0;simp[allFrom_z,allFrom_cons];grind
 ·have h1:¬(2<=K/\K<=2):=by omega
  grind
theorem shape_33 (ns:List NodeD)(p:Nat)(hk:(nd ns p).kind=33):(decide (nkids ns p<=200)&&((nd ns p).line==0&&sExpression ns p))=fitsAt (nd ns p) (sKid ns p) (roleAt 27):=by
 have e:roleAt 27=⟨33,0,0,0,2,2⟩:=rfl;rw[e];unfold fitsAt roleFitsD lineFit fieldsFits opFit numFit fltFit strFit sExpression nkids;rw[hk];have a1:isStat 33=false:=rfl;rw[a1];simp only[exArm];unfold sExprsI sExprs sBare sBareV mayFit inR;generalize sKid ns p=s;generalize nd ns p=n at *;obtain⟨kind,line,op,num,flt,str,refs,kids⟩:=n;simp only at *;subst hk;generalize kids.length=K at *;generalize refs.length=R at *;generalize fltZero flt=fz;generalize strNone str=sn;generalize fltNum flt=fn;by_cases h0:K=2
 ·subst h0;simp[allFrom_z,allFrom_cons];grind
 ·have h1:¬(2<=K/\K<=2):=by omega
  grind
theorem shape_34 (ns:List NodeD)(p:Nat)(hk:(nd ns p).kind=34):(decide (nkids ns p<=200)&&((nd ns p).line==0&&sExpression ns p))=fitsAt (nd ns p) (sKid ns p) (roleAt 28):=by
 have e:roleAt 28=⟨34,0,0,0,1,200⟩:=rfl;rw[e];unfold fitsAt roleFitsD lineFit fieldsFits opFit numFit fltFit strFit sExpression nkids;rw[hk];have a1:isStat 34=false:=rfl;rw[a1];simp only[exArm];unfold sExprsI sExprs sBare sBareV mayFit inR;generalize sKid ns p=s;generalize nd ns p=n at *;obtain⟨kind,line,op,num,flt,str,refs,kids⟩:=n;simp only at *;subst hk;generalize kids.length=K at *;generalize refs.length=R at *;generalize fltZero flt=fz;generalize strNone str=sn;generalize fltNum flt=fn;rw[Bool.eq_iff_iff];simp only[Bool.and_eq_true,decide_eq_true_eq,allFrom_iff];grind
theorem shape_35 (ns:List NodeD)(p:Nat)(hk:(nd ns p).kind=35):(decide (nkids ns p<=200)&&((nd ns p).line==0&&sExpression ns p))=fitsAt (nd ns p) (sKid ns p) (roleAt 29):=by
 have e:roleAt 29=⟨35,8,0,0,0,200⟩:=rfl;rw[e];unfold fitsAt roleFitsD lineFit fieldsFits opFit numFit fltFit strFit sExpression nkids;rw[hk];have a1:isStat 35=false:=rfl;rw[a1];simp only[exArm];unfold sExprsI sExprs sKidI sBare sBareV mayFit inR;generalize sKid ns p=s;generalize nd ns p=n at *;obtain⟨kind,line,op,num,flt,str,refs,kids⟩:=n;simp only at *;subst hk;generalize kids.length=K at *;generalize refs.length=R at *;generalize fltZero flt=fz;generalize strNone str=sn;generalize fltNum flt=fn;by_cases h0:op=0
 ·subst h0;rw[Bool.eq_iff_iff];simp only[Bool.and_eq_true,decide_eq_true_eq,allFrom_iff];grind
 by_cases h1:op=1
 ·subst h1
  match K with
  | 0=>simp
  | 1=>simp
  | m+2=>
   have t:=table_kids s m;have e1:((m+2:Nat):Int).toNat=m+2:=by omega
   have e2:(((m+2:Nat):Int)-2).toNat=m:=by omega
   have e3:(((m+2:Nat):Int)-1).toNat=m+1:=by omega
   rw[Bool.eq_iff_iff];simp only[e1,e2,e3,Bool.and_eq_true,Bool.or_eq_true,decide_eq_true_eq,allFrom_iff];have t2:=t;generalize hA:(∀ i,0<=i->i<m+2->isExpr (s i)=true)=A at *;simp only[Int.toNat_zero,reduceCtorEq,if_false,true_and,hA]at *;simp only[Int.reduceEq,false_and,if_false,or_self];rw[<-t];clear t t2 hA
   grind
 ·have h2:(op==0)=false:=by simpa using h0
  have h3:(op==1)=false:=by simpa using h1
  simp[h2,h3]
theorem shape_36 (ns:List NodeD)(p:Nat)(hk:(nd ns p).kind=36):(decide (nkids ns p<=200)&&((nd ns p).line==0&&sExpression ns p))=fitsAt (nd ns p) (sKid ns p) (roleAt 30):=by
 have e:roleAt 30=⟨36,0,1,1,0,0⟩:=rfl;rw[e];unfold fitsAt roleFitsD lineFit fieldsFits opFit numFit fltFit strFit sExpression nkids;rw[hk];have a1:isStat 36=false:=rfl;rw[a1];simp only[exArm];unfold sBare sBareV mayFit inR;generalize sKid ns p=s;generalize nd ns p=n at *;obtain⟨kind,line,op,num,flt,str,refs,kids⟩:=n;simp only at *;subst hk;generalize kids.length=K at *;generalize refs.length=R at *;generalize fltZero flt=fz;generalize strNone str=sn;generalize fltNum flt=fn;by_cases h0:K=0
 ·subst h0;simp[allFrom_z];grind
 ·simp[h0]
theorem shape_37 (ns:List NodeD)(p:Nat)(hk:(nd ns p).kind=37):(decide (nkids ns p<=200)&&((nd ns p).line==0&&sExpression ns p))=fitsAt (nd ns p) (sKid ns p) (roleAt 31):=by
 have e:roleAt 31=⟨37,0,0,0,0,0⟩:=rfl;rw[e];unfold fitsAt roleFitsD lineFit fieldsFits opFit numFit fltFit strFit sExpression nkids;rw[hk];have a1:isStat 37=false:=rfl;rw[a1];simp only[exArm];unfold sBare sBareV mayFit inR;generalize sKid ns p=s;generalize nd ns p=n at *;obtain⟨kind,line,op,num,flt,str,refs,kids⟩:=n;simp only at *;subst hk;generalize kids.length=K at *;generalize refs.length=R at *;generalize fltZero flt=fz;generalize strNone str=sn;generalize fltNum flt=fn;by_cases h0:K=0
 ·subst h0;simp[allFrom_z];grind
 ·simp[h0]
theorem shape_38 (ns:List NodeD)(p:Nat)(hk:(nd ns p).kind=38):(decide (nkids ns p<=200)&&((nd ns p).line==0&&sExpression ns p))=fitsAt (nd ns p) (sKid ns p) (roleAt 32):=by
 have e:roleAt 32=⟨38,0,0,0,1,1⟩:=rfl;rw[e];unfold fitsAt roleFitsD lineFit fieldsFits opFit numFit fltFit strFit sExpression nkids;rw[hk];have a1:isStat 38=false:=rfl;rw[a1];simp only[exArm];unfold sKidI sBare sBareV mayFit inR;generalize sKid ns p=s;generalize nd ns p=n at *;obtain⟨kind,line,op,num,flt,str,refs,kids⟩:=n;simp only at *;subst hk;generalize kids.length=K at *;generalize refs.length=R at *;generalize fltZero flt=fz;generalize strNone str=sn;generalize fltNum flt=fn;by_cases h0:K=1
 ·subst h0;simp[allFrom_z,allFrom_cons];grind
 ·have h1:¬(1<=K/\K<=1):=by omega
  grind
theorem exArm_none (ns:List NodeD)(p:Nat)(n:NodeD)(k q:Int)(h:q<20\/38<q):exArm ns p n k q=false:=by
 unfold exArm;split<;>first | rfl | omega
theorem fits_of {ns:List NodeD}{p:Nat}{i:Nat}(hi:roleIx 33 (nd ns p).kind=some i):nodeFits ns p=(kidsIn ns p&&fitsAt (nd ns p) (sKid ns p) (roleAt i)):=by
 unfold nodeFits kidsFits fitsAt;rw[hi,kids_split];simp only;cases kidsIn ns p<;>simp
theorem shape_eq (ns:List NodeD)(p:Nat)(hr:(nd ns p).refs.length<=9223372036854775807):sShape ns p=nodeFits ns p:=by
 have ST:isStat (nd ns p).kind=true->sShape ns p=(kidsIn ns p&&(decide (nkids ns p<=200)&&(decide (1<=(nd ns p).line)&&decide ((nd ns p).line<=100000)&&sStatement ns p))):=fun h=>by
  unfold sShape;rw[h];cases kidsIn ns p<;>simp
 have EX:isStat (nd ns p).kind=false->sShape ns p=(kidsIn ns p&&(decide (nkids ns p<=200)&&((nd ns p).line==0&&sExpression ns p))):=fun h=>by
  unfold sShape;rw[h];cases kidsIn ns p<;>simp
 by_cases h1:(nd ns p).kind=1
 ·rw[ST (by rw[h1];rfl),shape_1 ns p h1,fits_of (i:=0) (by rw[h1];decide)]
 by_cases h2:(nd ns p).kind=2
 ·rw[ST (by rw[h2];rfl),shape_2 ns p hr h2,fits_of (i:=1) (by rw[h2];decide)]
 by_cases h3:(nd ns p).kind=3
 ·rw[ST (by rw[h3];rfl),shape_3 ns p h3,fits_of (i:=2) (by rw[h3];decide)]
 by_cases h4:(nd ns p).kind=4
 ·rw[ST (by rw[h4];rfl),shape_4 ns p h4,fits_of (i:=3) (by rw[h4];decide)]
 by_cases h5:(nd ns p).kind=5
 ·rw[ST (by rw[h5];rfl),shape_5 ns p h5,fits_of (i:=4) (by rw[h5];decide)]
 by_cases h6:(nd ns p).kind=6
 ·rw[ST (by rw[h6];rfl),shape_6 ns p h6,fits_of (i:=5) (by rw[h6];decide)]
 by_cases h7:(nd ns p).kind=7
 ·rw[ST (by rw[h7];rfl),shape_7 ns p h7,fits_of (i:=6) (by rw[h7];decide)]
 by_cases h8:(nd ns p).kind=8
 ·rw[ST (by rw[h8];rfl),shape_8 ns p h8,fits_of (i:=7) (by rw[h8];decide)]
 by_cases h9:(nd ns p).kind=9
 ·rw[ST (by rw[h9];rfl),shape_9 ns p h9,fits_of (i:=8) (by rw[h9];decide)]
 by_cases h10:(nd ns p).kind=10
 ·rw[ST (by rw[h10];rfl),shape_10 ns p h10,fits_of (i:=9) (by rw[h10];decide)]
 by_cases h11:(nd ns p).kind=11
 ·rw[ST (by rw[h11];rfl),shape_11 ns p h11,fits_of (i:=10) (by rw[h11];decide)]
 by_cases h12:(nd ns p).kind=12
 ·rw[ST (by rw[h12];rfl),shape_12 ns p h12,fits_of (i:=11) (by rw[h12];decide)]
 by_cases h13:(nd ns p).kind=13
 ·rw[ST (by rw[h13];rfl),shape_13 ns p h13,fits_of (i:=12) (by rw[h13];decide)]
 by_cases h14:(nd ns p).kind=14
 ·rw[ST (by rw[h14];rfl),shape_14 ns p h14,fits_of (i:=13) (by rw[h14];decide)]
 by_cases h20:(nd ns p).kind=20
 ·rw[EX (by rw[h20];rfl),shape_20 ns p h20,fits_of (i:=14) (by rw[h20];decide)]
 by_cases h21:(nd ns p).kind=21
 ·rw[EX (by rw[h21];rfl),shape_21 ns p h21,fits_of (i:=15) (by rw[h21];decide)]
 by_cases h22:(nd ns p).kind=22
 ·rw[EX (by rw[h22];rfl),shape_22 ns p h22,fits_of (i:=16) (by rw[h22];decide)]
 by_cases h23:(nd ns p).kind=23
 ·rw[EX (by rw[h23];rfl),shape_23 ns p h23,fits_of (i:=17) (by rw[h23];decide)]
 by_cases h24:(nd ns p).kind=24
 ·rw[EX (by rw[h24];rfl),shape_24 ns p h24,fits_of (i:=18) (by rw[h24];decide)]
 by_cases h25:(nd ns p).kind=25
 ·rw[EX (by rw[h25];rfl),shape_25 ns p h25,fits_of (i:=19) (by rw[h25];decide)]
 by_cases h26:(nd ns p).kind=26
 ·rw[EX (by rw[h26];rfl),shape_26 ns p h26,fits_of (i:=20) (by rw[h26];decide)]
 by_cases h27:(nd ns p).kind=27
 ·rw[EX (by rw[h27];rfl),shape_27 ns p h27,fits_of (i:=21) (by rw[h27];decide)]
 by_cases h28:(nd ns p).kind=28
 ·rw[EX (by rw[h28];rfl),shape_28 ns p h28,fits_of (i:=22) (by rw[h28];decide)]
 by_cases h29:(nd ns p).kind=29
 ·rw[EX (by rw[h29];rfl),shape_29 ns p h29,fits_of (i:=23) (by rw[h29];decide)]
 by_cases h30:(nd ns p).kind=30
 ·rw[EX (by rw[h30];rfl),shape_30 ns p h30,fits_of (i:=24) (by rw[h30];decide)]
 by_cases h31:(nd ns p).kind=31
 ·rw[EX (by rw[h31];rfl),shape_31 ns p h31,fits_of (i:=25) (by rw[h31];decide)]
 by_cases h32:(nd ns p).kind=32
 ·rw[EX (by rw[h32];rfl),shape_32 ns p h32,fits_of (i:=26) (by rw[h32];decide)]
 by_cases h33:(nd ns p).kind=33
 ·rw[EX (by rw[h33];rfl),shape_33 ns p h33,fits_of (i:=27) (by rw[h33];decide)]
 by_cases h34:(nd ns p).kind=34
 ·rw[EX (by rw[h34];rfl),shape_34 ns p h34,fits_of (i:=28) (by rw[h34];decide)]
 by_cases h35:(nd ns p).kind=35
 ·rw[EX (by rw[h35];rfl),shape_35 ns p h35,fits_of (i:=29) (by rw[h35];decide)]
 by_cases h36:(nd ns p).kind=36
 ·rw[EX (by rw[h36];rfl),shape_36 ns p h36,fits_of (i:=30) (by rw[h36];decide)]
 by_cases h37:(nd ns p).kind=37
 ·rw[EX (by rw[h37];rfl),shape_37 ns p h37,fits_of (i:=31) (by rw[h37];decide)]
 by_cases h38:(nd ns p).kind=38
 ·rw[EX (by rw[h38];rfl),shape_38 ns p h38,fits_of (i:=32) (by rw[h38];decide)]
 have hn:roleIx 33 (nd ns p).kind=none:=by
  cases hq:roleIx 33 (nd ns p).kind with
  | none=>rfl
  | some i=>
   obtain⟨q1,q2⟩:=roleIx_lt _ _ _ hq
   exfalso
   generalize (nd ns p).kind=q at *;clear ST EX hr hq
   match i,q1 with
   | 0,_=>exact h1 q2.symm
   | 1,_=>exact h2 q2.symm
   | 2,_=>exact h3 q2.symm
   | 3,_=>exact h4 q2.symm
   | 4,_=>exact h5 q2.symm
   | 5,_=>exact h6 q2.symm
   | 6,_=>exact h7 q2.symm
   | 7,_=>exact h8 q2.symm
   | 8,_=>exact h9 q2.symm
   | 9,_=>exact h10 q2.symm
   | 10,_=>exact h11 q2.symm
   | 11,_=>exact h12 q2.symm
   | 12,_=>exact h13 q2.symm
   | 13,_=>exact h14 q2.symm
   | 14,_=>exact h20 q2.symm
   | 15,_=>exact h21 q2.symm
   | 16,_=>exact h22 q2.symm
   | 17,_=>exact h23 q2.symm
   | 18,_=>exact h24 q2.symm
   | 19,_=>exact h25 q2.symm
   | 20,_=>exact h26 q2.symm
   | 21,_=>exact h27 q2.symm
   | 22,_=>exact h28 q2.symm
   | 23,_=>exact h29 q2.symm
   | 24,_=>exact h30 q2.symm
   | 25,_=>exact h31 q2.symm
   | 26,_=>exact h32 q2.symm
   | 27,_=>exact h33 q2.symm
   | 28,_=>exact h34 q2.symm
   | 29,_=>exact h35 q2.symm
   | 30,_=>exact h36 q2.symm
   | 31,_=>exact h37 q2.symm
   | 32,_=>exact h38 q2.symm
   | i+33,h=>exact absurd h (by omega)
 have hst:isStat (nd ns p).kind=false:=by
  cases hq:isStat (nd ns p).kind
  ·rfl
  ·unfold isStat at hq;simp only[Bool.and_eq_true,decide_eq_true_eq]at hq;omega
 rw[EX hst];unfold nodeFits sExpression;rw[hn,exArm_none ns p _ _ _ (by omega)];simp
end Go.Proofs.YtofcbekoaghikaaGreatDoor
