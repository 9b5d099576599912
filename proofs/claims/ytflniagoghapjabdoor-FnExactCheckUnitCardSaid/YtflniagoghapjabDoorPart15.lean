import Derived.Test.YtflniagoghapjabDoorPart14
import Derived.Deep.RegionHeld3
namespace Go.Proofs.YtflniagoghapjabDoor
open Go.RowKit

/-- What the implementation's CheckUnit owes: G is what it asks of the package-level table, kept by whatever leaves old memory alone. -/
def ImplSaid (G : World → Prop) : Prop :=
  ∀ (a : Option Addr) (l : List FnD) (c : Nat) (S : Nat → Prop) (w : World), G w → FnsAt w S a l → (∀ b, S b → b < w.heap.size) → tFns l ≤ 1048576 →
    Calls Tryd.prog 8 #[.agg #[.slice a l.length c]] w fun e w' => ∃ x f n, e = .returned (.agg #[.int .i64 x, .int .i64 f, .int .i64 n]) ∧ UnitFault l x f n ∧ Below w.heap.size w w'

theorem toUnit_from {a : Option Addr} {l : List FnD} {c : Nat} {S : Nat → Prop} (w W : World) (hs : FnsAt w S a l) (hB : ∀ b, S b → b < w.heap.size) (hl : tFns l ≤ 1048576) (hW : Below w.heap.size w W) :
    Calls Tryd.prog 7 #[.agg #[.slice a l.length c]] W fun e w' => ∃ a' c', e = .returned (.agg #[.slice a' l.length c']) ∧ FnsAt w' (New W.heap.size w') a' l ∧ Below W.heap.size W w' :=
  toUnit_any a l c S W (hs.keep hW hB) (fun b h => Nat.lt_of_lt_of_le (hB b h) hW.size) hl
theorem eqUnit_from {a b : Option Addr} {l : List FnD} {ca cb : Nat} {S : Nat → Prop} (W : World) (h1 : FnsAt W S a l) (h2 : FnsAt W S b l) (hB : ∀ b, S b → b < W.heap.size) :
    Calls Tryd.prog 10 #[.agg #[.slice a l.length ca], .agg #[.slice b l.length cb]] W fun e w' => e = .returned (.bool true) ∧ Below W.heap.size W w' := eqUnit_same a b l ca cb S W h1 h2 hB

set_option maxHeartbeats 4000000 in
theorem law_any (G : World → Prop) (hG : ∀ w w', Below w.heap.size w w' → G w → G w') (himp : ImplSaid G) (a : Option Addr) (l : List FnD) (c : Nat) (S : Nat → Prop) (w : World) (g0 : G w) (hs : FnsAt w S a l) (hB : ∀ b, S b → b < w.heap.size) :
    Calls Tryd.prog 3 #[.agg #[.slice a l.length c]] w fun e w' => e = .returned (.bool true) ∧ Below w.heap.size w w' := by
  have hbA : ∀ o, Below w.heap.size w (w.alloc o) := fun o => (Below.refl _ _).alloc (Nat.le_refl _) o
  have HS := hide hs
  have HB := hide hB
  have HG := hide hG
  have G0 := hide g0
  have HI := hide himp
  have FN : Hid (∀ W : World, Below w.heap.size w W → FnsAt W S a l ∧ ∀ b, S b → b < W.heap.size) := fun W hW => ⟨hs.keep hW hB, fun b h => Nat.lt_of_lt_of_le (hB b h) hW.size⟩
  have HBA := hide hbA
  clear hs hB hG g0 himp hbA
  by_cases q : (1048576 : Int) < tFns l
  · have B1 : Hid (bud 1048576 (tFns l) = -1) := bud_no q
    go_enter Tryd.func3, Tryd.ntmps3
    go_wp2_with fail
    refine (szUnit_any a l c S _ (unhide FN _ (unhide HBA _)).1 (unhide FN _ (unhide HBA _)).2).mono ?_
    rintro e w1 ⟨rfl, hb1⟩
    rw [B1.out]
    go_wp2_with fail
    go_ret
    exact ⟨rfl, (unhide HBA _).trans (hb1.mono (unhide HBA _).size)⟩
  have hl : tFns l ≤ 1048576 := by omega
  have B1 : Hid (bud 1048576 (tFns l) = 1048576 - tFns l) := bud_yes (by omega)
  have hle : (tFns l : Int) ≤ 1048576 := by omega
  go_enter Tryd.func3, Tryd.ntmps3
  go_wp2_with fail
  refine (szUnit_any a l c S _ (unhide FN _ (unhide HBA _)).1 (unhide FN _ (unhide HBA _)).2).mono ?_
  rintro e w1 ⟨rfl, hb1⟩
  rw [B1.out]
  have hw1 : Below w.heap.size w w1 := (unhide HBA _).trans (hb1.mono (unhide HBA _).size)
  have v1 : w1.cell? ⟨w.heap.size, 0, none⟩ = some (.slice a l.length c) := by rw [hb1.cell (p := ⟨w.heap.size, 0, none⟩) (by simp)]; simp [go_sem]
  have s1 : w.heap.size + 1 ≤ w1.heap.size := by have := hb1.size; simpa using this
  have s1' : w.heap.size < w1.heap.size := by omega
  clear hb1
  go_wp2_with fail
  refine (toUnit_from w1 _ (unhide FN _ hw1).1 (unhide FN _ hw1).2 hl (Below.refl _ _)).mono ?_
  rintro e w2 ⟨a2, c2, rfl, hF2, hb2⟩
  have hw2 : Below w.heap.size w w2 := hw1.trans (hb2.mono hw1.size)
  have v2 : w2.cell? ⟨w.heap.size, 0, none⟩ = some (.slice a l.length c) := (hb2.cell (p := ⟨w.heap.size, 0, none⟩) s1').trans v1
  have s2 := hb2.size
  clear hb2 v1
  go_wp2_with fail
  refine (spec_CheckUnit_any a2 l c2 _ w2 hF2 (fun b h => h.2) hl).mono ?_
  rintro e w3 ⟨x, f, n, rfl, hU3, hb3⟩
  have hw3 : Below w.heap.size w w3 := hw2.trans (hb3.mono hw2.size)
  have v3 : w3.cell? ⟨w.heap.size, 0, none⟩ = some (.slice a l.length c) := (hb3.cell (p := ⟨w.heap.size, 0, none⟩) (by show w.heap.size < w2.heap.size; omega)).trans v2
  have s3 := hb3.size
  have HU3 := hide hU3
  clear hb3 v2 hF2 hU3
  have s3' : w.heap.size < w3.heap.size := by omega
  go_wp2_with fail
  refine (toUnit_from w _ (unhide HS) (unhide HB) hl (hw3.alloc hw3.size _)).mono ?_
  rintro e w4 ⟨a4, c4, rfl, hF4, hb4⟩
  have hw4 : Below w.heap.size w w4 := (hw3.alloc hw3.size _).trans (hb4.mono (hw3.alloc hw3.size _).size)
  have s4 : w3.heap.size + 1 ≤ w4.heap.size := by have := hb4.size; simpa using this
  have v4 : w4.cell? ⟨w.heap.size, 0, none⟩ = some (.slice a l.length c) := by
    rw [hb4.cell (p := ⟨w.heap.size, 0, none⟩) (by simp; omega), Below.cell (B := w3.heap.size) ((Below.refl _ _).alloc (Nat.le_refl _) _) (p := ⟨w.heap.size, 0, none⟩) (by show w.heap.size < w3.heap.size; omega)]; exact v3
  have r4 : ∀ j, j < 3 → w4.cell? ⟨w3.heap.size, j, none⟩ = some (sel8 (.int .i64 x) (.int .i64 f) (.int .i64 n) (.int .i64 n) (.int .i64 n) (.int .i64 n) (.int .i64 n) (.int .i64 n) j) := fun j hj => by
    rw [hb4.cell (p := ⟨w3.heap.size, j, none⟩) (by simp)]
    have : j = 0 ∨ j = 1 ∨ j = 2 := by omega
    rcases this with rfl | rfl | rfl <;> simp [go_sem, sel8]
  have HF4 := hide hF4
  have HR4 := hide r4
  clear hb4 v3 hF4 r4
  have s4' : w.heap.size < w4.heap.size := by omega
  have s4'' : w3.heap.size < w4.heap.size := by omega
  go_wp2_with fail
  refine (unhide HI a4 l c4 _ _ (unhide HG _ _ (hw4.alloc hw4.size _) (unhide G0)) ((unhide HF4).keep (B := w4.heap.size) ((Below.refl _ _).alloc (Nat.le_refl _) _) (fun b h => h.2)) (fun b h => by have := h.2; simp; omega) hl).mono ?_
  rintro e w5 ⟨x', f', n', rfl, hU5, hb5⟩
  obtain ⟨rfl, rfl, rfl⟩ := unitFault_unique (unhide HU3) hU5
  have hA4 : Below w4.heap.size w4 w5 := ((Below.refl _ _).alloc (Nat.le_refl _) _).trans (hb5.mono (by simp))
  have hw5 : Below w.heap.size w w5 := hw4.trans (hA4.mono hw4.size)
  have s5 : w4.heap.size + 1 ≤ w5.heap.size := by have := hb5.size; simpa using this
  have v5 : w5.cell? ⟨w.heap.size, 0, none⟩ = some (.slice a l.length c) := (hA4.cell (p := ⟨w.heap.size, 0, none⟩) s4').trans v4
  have r5 : ∀ j, j < 3 → w5.cell? ⟨w3.heap.size, j, none⟩ = _ := fun j hj => (hA4.cell (p := ⟨w3.heap.size, j, none⟩) s4'').trans (unhide HR4 j hj)
  have r50 : w5.cell? ⟨w3.heap.size, 0, none⟩ = some (.int .i64 x) := r5 0 (by omega)
  have r51 : w5.cell? ⟨w3.heap.size, 1, none⟩ = some (.int .i64 f) := r5 1 (by omega)
  have r52 : w5.cell? ⟨w3.heap.size, 2, none⟩ = some (.int .i64 n) := r5 2 (by omega)
  have x5 : w5.cell? ⟨w4.heap.size, 0, none⟩ = some (.slice a4 l.length c4) := by rw [hb5.cell (p := ⟨w4.heap.size, 0, none⟩) (by simp)]; simp [go_sem]
  have HF5 := hide ((unhide HF4).keep hA4 (fun b h => h.2))
  clear hb5 hU5 HU3 v4 r5 HR4
  have s5' : w.heap.size < w5.heap.size := by omega
  have s5'' : w3.heap.size < w5.heap.size := by omega
  have s5''' : w4.heap.size < w5.heap.size := by omega
  go_wp2_with fail
  refine (eqFault_same _ _ _ _).mono ?_
  rintro e w6 ⟨rfl, hb6⟩
  have hA5 : Below w5.heap.size w5 w6 := ((Below.refl _ _).alloc (Nat.le_refl _) _).trans (hb6.mono (by simp))
  have hw6 : Below w.heap.size w w6 := hw5.trans (hA5.mono hw5.size)
  have v6 : w6.cell? ⟨w.heap.size, 0, none⟩ = some (.slice a l.length c) := (hA5.cell (p := ⟨w.heap.size, 0, none⟩) s5').trans v5
  have x6 : w6.cell? ⟨w4.heap.size, 0, none⟩ = some (.slice a4 l.length c4) := (hA5.cell (p := ⟨w4.heap.size, 0, none⟩) s5''').trans x5
  have s6 := hA5.size
  have HF6 : Hid (FnsAt w6 (fun b => b < w6.heap.size) a4 l) := ((unhide HF5).keep hA5 (fun b h => by have := h.2; omega)).mono (fun b h => by have := h.2; omega)
  clear hb6 v5 x5 r50 r51 r52
  have s6' : w.heap.size < w6.heap.size := by omega
  have s6'' : w4.heap.size < w6.heap.size := by omega
  have TU : Hid (Calls Tryd.prog 7 #[.agg #[.slice a l.length c]] w6.drew fun e w' => ∃ a' c', e = .returned (.agg #[.slice a' l.length c']) ∧ FnsAt w' (New w6.heap.size w') a' l ∧ Below w6.heap.size w6.drew w') := toUnit_from w w6.drew (unhide HS) (unhide HB) hl hw6.drew
  have EU : Hid (∀ (w7 : World) (a7 : Option Addr) (c7 : Nat), FnsAt w7 (New w6.heap.size w7) a7 l → Below w6.heap.size w6.drew w7 → Calls Tryd.prog 10 #[.agg #[.slice a4 l.length c4], .agg #[.slice a7 l.length c7]] w7 fun e w' => e = .returned (.bool true) ∧ Below w7.heap.size w7 w') := fun w7 a7 c7 h7 hb7 =>
    eqUnit_from (S := fun b => b < w7.heap.size) w7 (((unhide HF6).keep (B := w6.heap.size) (w' := w7) ⟨hb7.os, hb7.tape, hb7.output, hb7.size, hb7.block⟩ (fun b h => h)).mono (fun b h => Nat.lt_of_lt_of_le h hb7.size)) (h7.mono (fun b h => h.2)) (fun b h => h)
  have CL : Hid (∀ w7, Below w6.heap.size w6.drew w7 → w7.cell? ⟨w.heap.size, 0, none⟩ = some (.slice a l.length c) ∧ w7.cell? ⟨w4.heap.size, 0, none⟩ = some (.slice a4 l.length c4)) := fun w7 h7 =>
    ⟨(h7.cell (p := ⟨w.heap.size, 0, none⟩) s6').trans v6, (h7.cell (p := ⟨w4.heap.size, 0, none⟩) s6'').trans x6⟩
  go_wp2_with fail
  go_region_held3 (fun w' => w'.cell? ⟨w.heap.size, 0, none⟩ = some (.slice a l.length c) ∧ w'.cell? ⟨w4.heap.size, 0, none⟩ = some (.slice a4 l.length c4)) (simp [go_sem, *])
    (first
      | (go_at_call 7; refine (unhide TU).mono ?_; rintro e w7 ⟨a7, c7, rfl, hF7, hb7⟩; obtain ⟨v7, x7⟩ := unhide CL w7 hb7)
      | (go_at_call 10; refine (unhide EU _ _ _ hF7 hb7).mono ?_; rintro e w8 ⟨rfl, hb8⟩; have v8 := (hb8.cell (p := ⟨w.heap.size, 0, none⟩) (by have := hb7.size; simp at this ⊢; omega)).trans v7; have x8 := (hb8.cell (p := ⟨w4.heap.size, 0, none⟩) (by have := hb7.size; simp at this ⊢; omega)).trans x7))
  all_goals (go_wp2_with fail)
  all_goals go_ret
  all_goals exact ⟨rfl, (hw6.drew.trans (hb7.mono hw6.size)).trans (hb8.mono (Nat.le_trans hw6.size hb7.size))⟩

end Go.Proofs.YtflniagoghapjabDoor

/-! The implementation's CheckUnit: its small functions. -/
namespace Go.Proofs.YtflniagoghapjabDoor
open Go.RowKit

def inR (x lo hi : Int) : Bool := decide (lo ≤ x) && decide (x ≤ hi)

set_option maxHeartbeats 400000 in
theorem within_any (x lo hi : Int) (w : World) : Calls Tryd.prog 51 #[.int .i64 x, .int .i64 lo, .int .i64 hi] w fun e w' => e = .returned (.bool (inR x lo hi)) ∧ w' = w := by
  by_cases h1 : lo ≤ x
  · go_enter Tryd.func51, Tryd.ntmps51
    go_wp2
    go_ret
    exact ⟨by simp [inR, h1], rfl⟩
  · go_enter Tryd.func51, Tryd.ntmps51
    go_wp2
    go_ret
    exact ⟨by simp [inR]; omega, rfl⟩
set_option maxHeartbeats 400000 in
theorem within64_any (x lo hi : Int) (w : World) : Calls Tryd.prog 115 #[.int .i64 x, .int .i64 lo, .int .i64 hi] w fun e w' => e = .returned (.bool (inR x lo hi)) ∧ w' = w := by
  by_cases h1 : lo ≤ x
  · go_enter Tryd.func115, Tryd.ntmps115
    go_wp2
    go_ret
    exact ⟨by simp [inR, h1], rfl⟩
  · go_enter Tryd.func115, Tryd.ntmps115
    go_wp2
    go_ret
    exact ⟨by simp [inR]; omega, rfl⟩
set_option maxHeartbeats 400000 in
theorem isStatement_any (k : Int) (w : World) : Calls Tryd.prog 86 #[.int .i64 k] w fun e w' => e = .returned (.bool (isStat k)) ∧ w' = w := by
  go_enter Tryd.func86, Tryd.ntmps86
  go_wp2_with fail
  refine (within_any _ _ _ _).mono ?_
  rintro e w' ⟨rfl, rfl⟩
  go_wp2_with fail
  go_ret
  exact ⟨rfl, rfl⟩
set_option maxHeartbeats 400000 in
theorem isExpression_any (k : Int) (w : World) : Calls Tryd.prog 133 #[.int .i64 k] w fun e w' => e = .returned (.bool (isExpr k)) ∧ w' = w := by
  go_enter Tryd.func133, Tryd.ntmps133
  go_wp2_with fail
  refine (within_any _ _ _ _).mono ?_
  rintro e w' ⟨rfl, rfl⟩
  go_wp2_with fail
  go_ret
  exact ⟨rfl, rfl⟩
set_option maxHeartbeats 400000 in
theorem isMany_any (k : Int) (w : World) : Calls Tryd.prog 132 #[.int .i64 k] w fun e w' => e = .returned (.bool (isMany k)) ∧ w' = w := by
  cases h1 : k == 34
  · go_enter Tryd.func132, Tryd.ntmps132
    go_wp2
    go_ret
    exact ⟨by simp [isMany, h1], rfl⟩
  · go_enter Tryd.func132, Tryd.ntmps132
    go_wp2
    go_ret
    exact ⟨by simp [isMany, h1], rfl⟩
set_option maxHeartbeats 400000 in
theorem cmpIsNaN_any (k : Int) (w : World) : Calls Tryd.prog 155 #[.int .i64 k] w fun e w' => e = .returned (.bool false) ∧ w' = w := by
  go_enter Tryd.func155, Tryd.ntmps155
  go_wp2
  go_ret
  exact ⟨by simp, rfl⟩
def cmp3 (x y : Int) : Int := if x < y then -1 else if y < x then 1 else 0
set_option maxHeartbeats 400000 in
theorem cmpCompare_any (x y : Int) (w : World) : Calls Tryd.prog 139 #[.int .i64 x, .int .i64 y] w fun e w' => e = .returned (.int .i64 (cmp3 x y)) ∧ w' = w := by
  by_cases h1 : x < y
  · go_enter Tryd.func139, Tryd.ntmps139
    go_wp2_with fail
    refine (cmpIsNaN_any _ _).mono ?_
    rintro e w' ⟨rfl, rfl⟩
    go_wp2_with fail
    refine (cmpIsNaN_any _ _).mono ?_
    rintro e w' ⟨rfl, rfl⟩
    go_wp2_with fail
    go_ret
    exact ⟨ret_int (by unfold cmp3; split <;> (try split) <;> omega), rfl⟩
  · by_cases h2 : y < x
    · go_enter Tryd.func139, Tryd.ntmps139
      go_wp2_with fail
      refine (cmpIsNaN_any _ _).mono ?_
      rintro e w' ⟨rfl, rfl⟩
      go_wp2_with fail
      refine (cmpIsNaN_any _ _).mono ?_
      rintro e w' ⟨rfl, rfl⟩
      go_wp2_with fail
      go_ret
      exact ⟨ret_int (by unfold cmp3; split <;> (try split) <;> omega), rfl⟩
    · go_enter Tryd.func139, Tryd.ntmps139
      go_wp2_with fail
      refine (cmpIsNaN_any _ _).mono ?_
      rintro e w' ⟨rfl, rfl⟩
      go_wp2_with fail
      refine (cmpIsNaN_any _ _).mono ?_
      rintro e w' ⟨rfl, rfl⟩
      go_wp2_with fail
      go_ret
      exact ⟨ret_int (by unfold cmp3; split <;> (try split) <;> omega), rfl⟩
def nth3 (x y z : Int) (k : Nat) : Int := if k = 0 then x else if k = 1 then y else z
/-- cmp.Or of three. -/
def or3 (x y z : Int) : Int := if x ≠ 0 then x else if y ≠ 0 then y else z
set_option maxHeartbeats 1000000 in
theorem cmpOr_any (x y z : Int) (b : Nat) (w : World) (h0 : w.cell? ⟨b, 0, none⟩ = some (.int .i64 x)) (h1 : w.cell? ⟨b, 1, none⟩ = some (.int .i64 y)) (h2 : w.cell? ⟨b, 2, none⟩ = some (.int .i64 z)) :
    Calls Tryd.prog 138 #[.slice (some ⟨b, 0, none⟩) 3 3] w fun e w' => e = .returned (.int .i64 (or3 x y z)) ∧ w' = w := by
  have hc : ∀ k, k < 3 → w.cell? ⟨b, k, none⟩ = some (.int .i64 (nth3 x y z k)) := fun k hk => by
    have : k = 0 ∨ k = 1 ∨ k = 2 := by omega
    rcases this with rfl | rfl | rfl
    · exact h0
    · exact h1
    · exact h2
  have HC := hide hc
  clear h0 h1 h2 hc
  go_enter Tryd.func138, Tryd.ntmps138
  go_wp2_with fail
  go_loop [8] (fun i => ∃ (k : Nat), i = .int .i64 k ∧ Hid (∀ j, j < k → nth3 x y z j = 0)) (fun i => 3 - (intOf i).toNat)
  case atStart => exact ⟨0, rfl, fun j h2 => by omega⟩
  case round =>
    obtain ⟨k, rfl, hall⟩ := hrel
    by_cases hlt : k < 3
    · have hk := unhide HC k hlt
      by_cases hq : nth3 x y z k = 0
      · have HQ := hide hq
        rw [hq] at hk
        clear hq
        go_wp2_with fail
        go_round
        case rel =>
          refine ⟨k + 1, by go_num, fun j h2 => ?_⟩
          by_cases e : j = k
          · subst e; exact unhide HQ
          · exact hall.out j (by omega)
        case measure => simp [intOf]; omega
      · have E : Hid (or3 x y z = nth3 x y z k) := by
          have h3 := hall.out
          have : k = 0 ∨ k = 1 ∨ k = 2 := by omega
          rcases this with rfl | rfl | rfl
          · show _ = _; simp [nth3] at hq; simp [nth3, or3, hq]
          · have := h3 0 (by omega); simp [nth3] at this hq; show _ = _; simp [nth3, or3, this, hq]
          · have a1 := h3 0 (by omega); have a2 := h3 1 (by omega); simp [nth3] at a1 a2 hq; show _ = _; simp [nth3, or3, a1, a2]
        have hq' : (nth3 x y z k != 0) = true := by simpa using hq
        generalize nth3 x y z k = v at *
        go_wp2_with fail
        go_ret
        exact ⟨ret_int E.out.symm, rfl⟩
    · go_wp2_with fail
      go_ret
      have h3 := hall.out
      have a1 := h3 0 (by omega); have a2 := h3 1 (by omega); have a3 := h3 2 (by omega); simp [nth3] at a1 a2 a3
      exact ⟨ret_int (by simp [or3, a1, a2, a3]), rfl⟩

end Go.Proofs.YtflniagoghapjabDoor
