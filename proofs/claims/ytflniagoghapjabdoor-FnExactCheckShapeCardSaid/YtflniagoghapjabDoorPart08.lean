import Derived.Test.YtflniagoghapjabDoorPart07
set_option linter.unusedSimpArgs false
set_option linter.unusedVariables false
namespace Go.Proofs.YtflniagoghapjabDoor
open Go.RowKit

/-- l6fits -/
def sFits (n : ProtoD) (np : Nat) (x : Int) : Nat → Bool
  | 0 => x == 0
  | 1 => sIn x 0 (n.regs - 1)
  | 2 => sIn x (-n.regs) (n.regs - 1)
  | 3 => sIn x (-n.regs) (n.regs - 1)
  | 4 => sIn x 0 (n.regs - 1)
  | 5 => sIn x 0 (n.regs - 1)
  | 6 => sIn x 0 (n.regs - 1)
  | 7 => sIn x 0 ((n.consts.length : Int) - 1)
  | 8 => sIn x 0 ((n.ups.length : Int) - 1)
  | 9 => sIn x 0 ((np : Int) - 1)
  | 10 => sIn x 0 ((n.ins.length : Int) - 1)
  | 11 => sIn x 1 100000
  | 12 => sIn x 0 100000
  | 13 => sIn x 0 n.regs
  | 14 => sIn x 0 (n.regs - 2)
  | 15 => sIn x 19 22
  | 16 => sIn x 1 18
  | 17 => sIn x 0 250
  | 18 => sIn x 0 (n.regs - 3)
  | 19 => sIn x 0 (n.regs - 2)
  | 20 => sIn x 0 (n.regs - 2)
  | _ => sIn x 0 (n.regs - 1)

set_option maxHeartbeats 1000000 in
set_option maxRecDepth 100000 in
theorem l6fits_0 (a : Option Addr) (l : List ProtoD) (c p : Nat) (x : Int) (S : Nat → Prop) (w : World) (hs : ProtosAt w S a l) (hB : ∀ b, S b → b < w.heap.size) (hp : p < l.length) (hrg : 0 ≤ (prD l p).regs ∧ (prD l p).regs ≤ 250) :
    Calls Tryd.prog 110 #[.agg #[.slice a l.length c], .int .i64 p, .int .i64 0, .int .i64 x] w fun e w' => e = .returned (.bool (sFits (prD l p) l.length x 0)) ∧ Below w.heap.size w w' := by
  have hn := hs.1
  obtain ⟨b, off, rfl, hb, hcc⟩ := hs.2 (by omega)
  have N : ProtoCells w S b (off + p * 9) (prD l p) := hcc p hp
  have hbl := hB b hb
  clear hcc hs hB
  have HBA : Hid (∀ o1 o2, Below w.heap.size w ((w.alloc o1).alloc o2)) := fun o1 o2 => ((Below.refl _ _).alloc (Nat.le_refl _) o1).alloc (by simp) o2
  generalize prD l p = n at *
  obtain ⟨a5, c5, h5, H5⟩ := N.ups
  obtain ⟨a6, c6, h6, H6⟩ := N.consts
  obtain ⟨a7, c7, h7, H7⟩ := N.ins
  obtain ⟨a8, c8, h8, H8⟩ := N.named
  have c0 := N.name; have c1 := N.line; have c2 := N.params; have c3 := N.rest; have c4 := N.regs
  have hns := N.names
  have hu := H5.1; have hcl := H6.1; have hil := H7.1; have hnl := H8.1
  clear N H5 H6 H7 H8
  obtain ⟨nm, ln, pr, rs, rg, us, cs, is, ns⟩ := n
  simp only at *
  obtain ⟨hr0, hr1⟩ := hrg
  have R : Hid ((x == 0) = sFits ⟨nm, ln, pr, rs, rg, us, cs, is, ns⟩ l.length x 0) := rfl
  generalize sFits ⟨nm, ln, pr, rs, rg, us, cs, is, ns⟩ l.length x 0 = res at *
  go_enter Tryd.func110, Tryd.ntmps110
  go_wp2_with fail
  go_ret
  exact ⟨ret_bool (unhide R), unhide HBA _ _⟩

set_option maxHeartbeats 1000000 in
set_option maxRecDepth 100000 in
theorem l6fits_1 (a : Option Addr) (l : List ProtoD) (c p : Nat) (x : Int) (S : Nat → Prop) (w : World) (hs : ProtosAt w S a l) (hB : ∀ b, S b → b < w.heap.size) (hp : p < l.length) (hrg : 0 ≤ (prD l p).regs ∧ (prD l p).regs ≤ 250) :
    Calls Tryd.prog 110 #[.agg #[.slice a l.length c], .int .i64 p, .int .i64 1, .int .i64 x] w fun e w' => e = .returned (.bool (sFits (prD l p) l.length x 1)) ∧ Below w.heap.size w w' := by
  have hn := hs.1
  obtain ⟨b, off, rfl, hb, hcc⟩ := hs.2 (by omega)
  have N : ProtoCells w S b (off + p * 9) (prD l p) := hcc p hp
  have hbl := hB b hb
  clear hcc hs hB
  have HBA : Hid (∀ o1 o2, Below w.heap.size w ((w.alloc o1).alloc o2)) := fun o1 o2 => ((Below.refl _ _).alloc (Nat.le_refl _) o1).alloc (by simp) o2
  generalize prD l p = n at *
  obtain ⟨a5, c5, h5, H5⟩ := N.ups
  obtain ⟨a6, c6, h6, H6⟩ := N.consts
  obtain ⟨a7, c7, h7, H7⟩ := N.ins
  obtain ⟨a8, c8, h8, H8⟩ := N.named
  have c0 := N.name; have c1 := N.line; have c2 := N.params; have c3 := N.rest; have c4 := N.regs
  have hns := N.names
  have hu := H5.1; have hcl := H6.1; have hil := H7.1; have hnl := H8.1
  clear N H5 H6 H7 H8
  obtain ⟨nm, ln, pr, rs, rg, us, cs, is, ns⟩ := n
  simp only at *
  obtain ⟨hr0, hr1⟩ := hrg
  have R : Hid ((sIn x 0 (rg - 1)) = sFits ⟨nm, ln, pr, rs, rg, us, cs, is, ns⟩ l.length x 1) := rfl
  generalize sFits ⟨nm, ln, pr, rs, rg, us, cs, is, ns⟩ l.length x 1 = res at *
  go_enter Tryd.func110, Tryd.ntmps110
  go_wp2_with fail
  refine (l6in_any _ _ _ _).mono ?_
  rintro e w' ⟨rfl, rfl⟩
  go_wp2_with fail
  go_ret
  exact ⟨ret_bool (unhide R), unhide HBA _ _⟩

set_option maxHeartbeats 1000000 in
set_option maxRecDepth 100000 in
theorem l6fits_2 (a : Option Addr) (l : List ProtoD) (c p : Nat) (x : Int) (S : Nat → Prop) (w : World) (hs : ProtosAt w S a l) (hB : ∀ b, S b → b < w.heap.size) (hp : p < l.length) (hrg : 0 ≤ (prD l p).regs ∧ (prD l p).regs ≤ 250) :
    Calls Tryd.prog 110 #[.agg #[.slice a l.length c], .int .i64 p, .int .i64 2, .int .i64 x] w fun e w' => e = .returned (.bool (sFits (prD l p) l.length x 2)) ∧ Below w.heap.size w w' := by
  have hn := hs.1
  obtain ⟨b, off, rfl, hb, hcc⟩ := hs.2 (by omega)
  have N : ProtoCells w S b (off + p * 9) (prD l p) := hcc p hp
  have hbl := hB b hb
  clear hcc hs hB
  have HBA : Hid (∀ o1 o2, Below w.heap.size w ((w.alloc o1).alloc o2)) := fun o1 o2 => ((Below.refl _ _).alloc (Nat.le_refl _) o1).alloc (by simp) o2
  generalize prD l p = n at *
  obtain ⟨a5, c5, h5, H5⟩ := N.ups
  obtain ⟨a6, c6, h6, H6⟩ := N.consts
  obtain ⟨a7, c7, h7, H7⟩ := N.ins
  obtain ⟨a8, c8, h8, H8⟩ := N.named
  have c0 := N.name; have c1 := N.line; have c2 := N.params; have c3 := N.rest; have c4 := N.regs
  have hns := N.names
  have hu := H5.1; have hcl := H6.1; have hil := H7.1; have hnl := H8.1
  clear N H5 H6 H7 H8
  obtain ⟨nm, ln, pr, rs, rg, us, cs, is, ns⟩ := n
  simp only at *
  obtain ⟨hr0, hr1⟩ := hrg
  have R : Hid ((sIn x (-rg) (rg - 1)) = sFits ⟨nm, ln, pr, rs, rg, us, cs, is, ns⟩ l.length x 2) := rfl
  generalize sFits ⟨nm, ln, pr, rs, rg, us, cs, is, ns⟩ l.length x 2 = res at *
  go_enter Tryd.func110, Tryd.ntmps110
  go_wp2_with fail
  refine (l6in_any _ _ _ _).mono ?_
  rintro e w' ⟨rfl, rfl⟩
  go_wp2_with fail
  go_ret
  exact ⟨ret_bool (unhide R), unhide HBA _ _⟩

set_option maxHeartbeats 1000000 in
set_option maxRecDepth 100000 in
theorem l6fits_3 (a : Option Addr) (l : List ProtoD) (c p : Nat) (x : Int) (S : Nat → Prop) (w : World) (hs : ProtosAt w S a l) (hB : ∀ b, S b → b < w.heap.size) (hp : p < l.length) (hrg : 0 ≤ (prD l p).regs ∧ (prD l p).regs ≤ 250) :
    Calls Tryd.prog 110 #[.agg #[.slice a l.length c], .int .i64 p, .int .i64 3, .int .i64 x] w fun e w' => e = .returned (.bool (sFits (prD l p) l.length x 3)) ∧ Below w.heap.size w w' := by
  have hn := hs.1
  obtain ⟨b, off, rfl, hb, hcc⟩ := hs.2 (by omega)
  have N : ProtoCells w S b (off + p * 9) (prD l p) := hcc p hp
  have hbl := hB b hb
  clear hcc hs hB
  have HBA : Hid (∀ o1 o2, Below w.heap.size w ((w.alloc o1).alloc o2)) := fun o1 o2 => ((Below.refl _ _).alloc (Nat.le_refl _) o1).alloc (by simp) o2
  generalize prD l p = n at *
  obtain ⟨a5, c5, h5, H5⟩ := N.ups
  obtain ⟨a6, c6, h6, H6⟩ := N.consts
  obtain ⟨a7, c7, h7, H7⟩ := N.ins
  obtain ⟨a8, c8, h8, H8⟩ := N.named
  have c0 := N.name; have c1 := N.line; have c2 := N.params; have c3 := N.rest; have c4 := N.regs
  have hns := N.names
  have hu := H5.1; have hcl := H6.1; have hil := H7.1; have hnl := H8.1
  clear N H5 H6 H7 H8
  obtain ⟨nm, ln, pr, rs, rg, us, cs, is, ns⟩ := n
  simp only at *
  obtain ⟨hr0, hr1⟩ := hrg
  have R : Hid ((sIn x (-rg) (rg - 1)) = sFits ⟨nm, ln, pr, rs, rg, us, cs, is, ns⟩ l.length x 3) := rfl
  generalize sFits ⟨nm, ln, pr, rs, rg, us, cs, is, ns⟩ l.length x 3 = res at *
  go_enter Tryd.func110, Tryd.ntmps110
  go_wp2_with fail
  refine (l6in_any _ _ _ _).mono ?_
  rintro e w' ⟨rfl, rfl⟩
  go_wp2_with fail
  go_ret
  exact ⟨ret_bool (unhide R), unhide HBA _ _⟩

set_option maxHeartbeats 1000000 in
set_option maxRecDepth 100000 in
theorem l6fits_4 (a : Option Addr) (l : List ProtoD) (c p : Nat) (x : Int) (S : Nat → Prop) (w : World) (hs : ProtosAt w S a l) (hB : ∀ b, S b → b < w.heap.size) (hp : p < l.length) (hrg : 0 ≤ (prD l p).regs ∧ (prD l p).regs ≤ 250) :
    Calls Tryd.prog 110 #[.agg #[.slice a l.length c], .int .i64 p, .int .i64 4, .int .i64 x] w fun e w' => e = .returned (.bool (sFits (prD l p) l.length x 4)) ∧ Below w.heap.size w w' := by
  have hn := hs.1
  obtain ⟨b, off, rfl, hb, hcc⟩ := hs.2 (by omega)
  have N : ProtoCells w S b (off + p * 9) (prD l p) := hcc p hp
  have hbl := hB b hb
  clear hcc hs hB
  have HBA : Hid (∀ o1 o2, Below w.heap.size w ((w.alloc o1).alloc o2)) := fun o1 o2 => ((Below.refl _ _).alloc (Nat.le_refl _) o1).alloc (by simp) o2
  generalize prD l p = n at *
  obtain ⟨a5, c5, h5, H5⟩ := N.ups
  obtain ⟨a6, c6, h6, H6⟩ := N.consts
  obtain ⟨a7, c7, h7, H7⟩ := N.ins
  obtain ⟨a8, c8, h8, H8⟩ := N.named
  have c0 := N.name; have c1 := N.line; have c2 := N.params; have c3 := N.rest; have c4 := N.regs
  have hns := N.names
  have hu := H5.1; have hcl := H6.1; have hil := H7.1; have hnl := H8.1
  clear N H5 H6 H7 H8
  obtain ⟨nm, ln, pr, rs, rg, us, cs, is, ns⟩ := n
  simp only at *
  obtain ⟨hr0, hr1⟩ := hrg
  have R : Hid ((sIn x 0 (rg - 1)) = sFits ⟨nm, ln, pr, rs, rg, us, cs, is, ns⟩ l.length x 4) := rfl
  generalize sFits ⟨nm, ln, pr, rs, rg, us, cs, is, ns⟩ l.length x 4 = res at *
  go_enter Tryd.func110, Tryd.ntmps110
  go_wp2_with fail
  refine (l6in_any _ _ _ _).mono ?_
  rintro e w' ⟨rfl, rfl⟩
  go_wp2_with fail
  go_ret
  exact ⟨ret_bool (unhide R), unhide HBA _ _⟩

set_option maxHeartbeats 1000000 in
set_option maxRecDepth 100000 in
theorem l6fits_5 (a : Option Addr) (l : List ProtoD) (c p : Nat) (x : Int) (S : Nat → Prop) (w : World) (hs : ProtosAt w S a l) (hB : ∀ b, S b → b < w.heap.size) (hp : p < l.length) (hrg : 0 ≤ (prD l p).regs ∧ (prD l p).regs ≤ 250) :
    Calls Tryd.prog 110 #[.agg #[.slice a l.length c], .int .i64 p, .int .i64 5, .int .i64 x] w fun e w' => e = .returned (.bool (sFits (prD l p) l.length x 5)) ∧ Below w.heap.size w w' := by
  have hn := hs.1
  obtain ⟨b, off, rfl, hb, hcc⟩ := hs.2 (by omega)
  have N : ProtoCells w S b (off + p * 9) (prD l p) := hcc p hp
  have hbl := hB b hb
  clear hcc hs hB
  have HBA : Hid (∀ o1 o2, Below w.heap.size w ((w.alloc o1).alloc o2)) := fun o1 o2 => ((Below.refl _ _).alloc (Nat.le_refl _) o1).alloc (by simp) o2
  generalize prD l p = n at *
  obtain ⟨a5, c5, h5, H5⟩ := N.ups
  obtain ⟨a6, c6, h6, H6⟩ := N.consts
  obtain ⟨a7, c7, h7, H7⟩ := N.ins
  obtain ⟨a8, c8, h8, H8⟩ := N.named
  have c0 := N.name; have c1 := N.line; have c2 := N.params; have c3 := N.rest; have c4 := N.regs
  have hns := N.names
  have hu := H5.1; have hcl := H6.1; have hil := H7.1; have hnl := H8.1
  clear N H5 H6 H7 H8
  obtain ⟨nm, ln, pr, rs, rg, us, cs, is, ns⟩ := n
  simp only at *
  obtain ⟨hr0, hr1⟩ := hrg
  have R : Hid ((sIn x 0 (rg - 1)) = sFits ⟨nm, ln, pr, rs, rg, us, cs, is, ns⟩ l.length x 5) := rfl
  generalize sFits ⟨nm, ln, pr, rs, rg, us, cs, is, ns⟩ l.length x 5 = res at *
  go_enter Tryd.func110, Tryd.ntmps110
  go_wp2_with fail
  refine (l6in_any _ _ _ _).mono ?_
  rintro e w' ⟨rfl, rfl⟩
  go_wp2_with fail
  go_ret
  exact ⟨ret_bool (unhide R), unhide HBA _ _⟩

set_option maxHeartbeats 1000000 in
set_option maxRecDepth 100000 in
theorem l6fits_6 (a : Option Addr) (l : List ProtoD) (c p : Nat) (x : Int) (S : Nat → Prop) (w : World) (hs : ProtosAt w S a l) (hB : ∀ b, S b → b < w.heap.size) (hp : p < l.length) (hrg : 0 ≤ (prD l p).regs ∧ (prD l p).regs ≤ 250) :
    Calls Tryd.prog 110 #[.agg #[.slice a l.length c], .int .i64 p, .int .i64 6, .int .i64 x] w fun e w' => e = .returned (.bool (sFits (prD l p) l.length x 6)) ∧ Below w.heap.size w w' := by
  have hn := hs.1
  obtain ⟨b, off, rfl, hb, hcc⟩ := hs.2 (by omega)
  have N : ProtoCells w S b (off + p * 9) (prD l p) := hcc p hp
  have hbl := hB b hb
  clear hcc hs hB
  have HBA : Hid (∀ o1 o2, Below w.heap.size w ((w.alloc o1).alloc o2)) := fun o1 o2 => ((Below.refl _ _).alloc (Nat.le_refl _) o1).alloc (by simp) o2
  generalize prD l p = n at *
  obtain ⟨a5, c5, h5, H5⟩ := N.ups
  obtain ⟨a6, c6, h6, H6⟩ := N.consts
  obtain ⟨a7, c7, h7, H7⟩ := N.ins
  obtain ⟨a8, c8, h8, H8⟩ := N.named
  have c0 := N.name; have c1 := N.line; have c2 := N.params; have c3 := N.rest; have c4 := N.regs
  have hns := N.names
  have hu := H5.1; have hcl := H6.1; have hil := H7.1; have hnl := H8.1
  clear N H5 H6 H7 H8
  obtain ⟨nm, ln, pr, rs, rg, us, cs, is, ns⟩ := n
  simp only at *
  obtain ⟨hr0, hr1⟩ := hrg
  have R : Hid ((sIn x 0 (rg - 1)) = sFits ⟨nm, ln, pr, rs, rg, us, cs, is, ns⟩ l.length x 6) := rfl
  generalize sFits ⟨nm, ln, pr, rs, rg, us, cs, is, ns⟩ l.length x 6 = res at *
  go_enter Tryd.func110, Tryd.ntmps110
  go_wp2_with fail
  refine (l6in_any _ _ _ _).mono ?_
  rintro e w' ⟨rfl, rfl⟩
  go_wp2_with fail
  go_ret
  exact ⟨ret_bool (unhide R), unhide HBA _ _⟩

set_option maxHeartbeats 1000000 in
set_option maxRecDepth 100000 in
theorem l6fits_7 (a : Option Addr) (l : List ProtoD) (c p : Nat) (x : Int) (S : Nat → Prop) (w : World) (hs : ProtosAt w S a l) (hB : ∀ b, S b → b < w.heap.size) (hp : p < l.length) (hrg : 0 ≤ (prD l p).regs ∧ (prD l p).regs ≤ 250) :
    Calls Tryd.prog 110 #[.agg #[.slice a l.length c], .int .i64 p, .int .i64 7, .int .i64 x] w fun e w' => e = .returned (.bool (sFits (prD l p) l.length x 7)) ∧ Below w.heap.size w w' := by
  have hn := hs.1
  obtain ⟨b, off, rfl, hb, hcc⟩ := hs.2 (by omega)
  have N : ProtoCells w S b (off + p * 9) (prD l p) := hcc p hp
  have hbl := hB b hb
  clear hcc hs hB
  have HBA : Hid (∀ o1 o2, Below w.heap.size w ((w.alloc o1).alloc o2)) := fun o1 o2 => ((Below.refl _ _).alloc (Nat.le_refl _) o1).alloc (by simp) o2
  generalize prD l p = n at *
  obtain ⟨a5, c5, h5, H5⟩ := N.ups
  obtain ⟨a6, c6, h6, H6⟩ := N.consts
  obtain ⟨a7, c7, h7, H7⟩ := N.ins
  obtain ⟨a8, c8, h8, H8⟩ := N.named
  have c0 := N.name; have c1 := N.line; have c2 := N.params; have c3 := N.rest; have c4 := N.regs
  have hns := N.names
  have hu := H5.1; have hcl := H6.1; have hil := H7.1; have hnl := H8.1
  clear N H5 H6 H7 H8
  obtain ⟨nm, ln, pr, rs, rg, us, cs, is, ns⟩ := n
  simp only at *
  obtain ⟨hr0, hr1⟩ := hrg
  have R : Hid ((sIn x 0 ((cs.length : Int) - 1)) = sFits ⟨nm, ln, pr, rs, rg, us, cs, is, ns⟩ l.length x 7) := rfl
  generalize sFits ⟨nm, ln, pr, rs, rg, us, cs, is, ns⟩ l.length x 7 = res at *
  go_enter Tryd.func110, Tryd.ntmps110
  go_wp2_with fail
  refine (l6in_any _ _ _ _).mono ?_
  rintro e w' ⟨rfl, rfl⟩
  go_wp2_with fail
  go_ret
  exact ⟨ret_bool (unhide R), unhide HBA _ _⟩

set_option maxHeartbeats 1000000 in
set_option maxRecDepth 100000 in
theorem l6fits_8 (a : Option Addr) (l : List ProtoD) (c p : Nat) (x : Int) (S : Nat → Prop) (w : World) (hs : ProtosAt w S a l) (hB : ∀ b, S b → b < w.heap.size) (hp : p < l.length) (hrg : 0 ≤ (prD l p).regs ∧ (prD l p).regs ≤ 250) :
    Calls Tryd.prog 110 #[.agg #[.slice a l.length c], .int .i64 p, .int .i64 8, .int .i64 x] w fun e w' => e = .returned (.bool (sFits (prD l p) l.length x 8)) ∧ Below w.heap.size w w' := by
  have hn := hs.1
  obtain ⟨b, off, rfl, hb, hcc⟩ := hs.2 (by omega)
  have N : ProtoCells w S b (off + p * 9) (prD l p) := hcc p hp
  have hbl := hB b hb
  clear hcc hs hB
  have HBA : Hid (∀ o1 o2, Below w.heap.size w ((w.alloc o1).alloc o2)) := fun o1 o2 => ((Below.refl _ _).alloc (Nat.le_refl _) o1).alloc (by simp) o2
  generalize prD l p = n at *
  obtain ⟨a5, c5, h5, H5⟩ := N.ups
  obtain ⟨a6, c6, h6, H6⟩ := N.consts
  obtain ⟨a7, c7, h7, H7⟩ := N.ins
  obtain ⟨a8, c8, h8, H8⟩ := N.named
  have c0 := N.name; have c1 := N.line; have c2 := N.params; have c3 := N.rest; have c4 := N.regs
  have hns := N.names
  have hu := H5.1; have hcl := H6.1; have hil := H7.1; have hnl := H8.1
  clear N H5 H6 H7 H8
  obtain ⟨nm, ln, pr, rs, rg, us, cs, is, ns⟩ := n
  simp only at *
  obtain ⟨hr0, hr1⟩ := hrg
  have R : Hid ((sIn x 0 ((us.length : Int) - 1)) = sFits ⟨nm, ln, pr, rs, rg, us, cs, is, ns⟩ l.length x 8) := rfl
  generalize sFits ⟨nm, ln, pr, rs, rg, us, cs, is, ns⟩ l.length x 8 = res at *
  go_enter Tryd.func110, Tryd.ntmps110
  go_wp2_with fail
  refine (l6in_any _ _ _ _).mono ?_
  rintro e w' ⟨rfl, rfl⟩
  go_wp2_with fail
  go_ret
  exact ⟨ret_bool (unhide R), unhide HBA _ _⟩

set_option maxHeartbeats 1000000 in
set_option maxRecDepth 100000 in
theorem l6fits_9 (a : Option Addr) (l : List ProtoD) (c p : Nat) (x : Int) (S : Nat → Prop) (w : World) (hs : ProtosAt w S a l) (hB : ∀ b, S b → b < w.heap.size) (hp : p < l.length) (hrg : 0 ≤ (prD l p).regs ∧ (prD l p).regs ≤ 250) :
    Calls Tryd.prog 110 #[.agg #[.slice a l.length c], .int .i64 p, .int .i64 9, .int .i64 x] w fun e w' => e = .returned (.bool (sFits (prD l p) l.length x 9)) ∧ Below w.heap.size w w' := by
  have hn := hs.1
  obtain ⟨b, off, rfl, hb, hcc⟩ := hs.2 (by omega)
  have N : ProtoCells w S b (off + p * 9) (prD l p) := hcc p hp
  have hbl := hB b hb
  clear hcc hs hB
  have HBA : Hid (∀ o1 o2, Below w.heap.size w ((w.alloc o1).alloc o2)) := fun o1 o2 => ((Below.refl _ _).alloc (Nat.le_refl _) o1).alloc (by simp) o2
  generalize prD l p = n at *
  obtain ⟨a5, c5, h5, H5⟩ := N.ups
  obtain ⟨a6, c6, h6, H6⟩ := N.consts
  obtain ⟨a7, c7, h7, H7⟩ := N.ins
  obtain ⟨a8, c8, h8, H8⟩ := N.named
  have c0 := N.name; have c1 := N.line; have c2 := N.params; have c3 := N.rest; have c4 := N.regs
  have hns := N.names
  have hu := H5.1; have hcl := H6.1; have hil := H7.1; have hnl := H8.1
  clear N H5 H6 H7 H8
  obtain ⟨nm, ln, pr, rs, rg, us, cs, is, ns⟩ := n
  simp only at *
  obtain ⟨hr0, hr1⟩ := hrg
  have R : Hid ((sIn x 0 ((l.length : Int) - 1)) = sFits ⟨nm, ln, pr, rs, rg, us, cs, is, ns⟩ l.length x 9) := rfl
  generalize sFits ⟨nm, ln, pr, rs, rg, us, cs, is, ns⟩ l.length x 9 = res at *
  go_enter Tryd.func110, Tryd.ntmps110
  go_wp2_with fail
  refine (l6in_any _ _ _ _).mono ?_
  rintro e w' ⟨rfl, rfl⟩
  go_wp2_with fail
  go_ret
  exact ⟨ret_bool (unhide R), unhide HBA _ _⟩

set_option maxHeartbeats 1000000 in
set_option maxRecDepth 100000 in
theorem l6fits_10 (a : Option Addr) (l : List ProtoD) (c p : Nat) (x : Int) (S : Nat → Prop) (w : World) (hs : ProtosAt w S a l) (hB : ∀ b, S b → b < w.heap.size) (hp : p < l.length) (hrg : 0 ≤ (prD l p).regs ∧ (prD l p).regs ≤ 250) :
    Calls Tryd.prog 110 #[.agg #[.slice a l.length c], .int .i64 p, .int .i64 10, .int .i64 x] w fun e w' => e = .returned (.bool (sFits (prD l p) l.length x 10)) ∧ Below w.heap.size w w' := by
  have hn := hs.1
  obtain ⟨b, off, rfl, hb, hcc⟩ := hs.2 (by omega)
  have N : ProtoCells w S b (off + p * 9) (prD l p) := hcc p hp
  have hbl := hB b hb
  clear hcc hs hB
  have HBA : Hid (∀ o1 o2, Below w.heap.size w ((w.alloc o1).alloc o2)) := fun o1 o2 => ((Below.refl _ _).alloc (Nat.le_refl _) o1).alloc (by simp) o2
  generalize prD l p = n at *
  obtain ⟨a5, c5, h5, H5⟩ := N.ups
  obtain ⟨a6, c6, h6, H6⟩ := N.consts
  obtain ⟨a7, c7, h7, H7⟩ := N.ins
  obtain ⟨a8, c8, h8, H8⟩ := N.named
  have c0 := N.name; have c1 := N.line; have c2 := N.params; have c3 := N.rest; have c4 := N.regs
  have hns := N.names
  have hu := H5.1; have hcl := H6.1; have hil := H7.1; have hnl := H8.1
  clear N H5 H6 H7 H8
  obtain ⟨nm, ln, pr, rs, rg, us, cs, is, ns⟩ := n
  simp only at *
  obtain ⟨hr0, hr1⟩ := hrg
  have R : Hid ((sIn x 0 ((is.length : Int) - 1)) = sFits ⟨nm, ln, pr, rs, rg, us, cs, is, ns⟩ l.length x 10) := rfl
  generalize sFits ⟨nm, ln, pr, rs, rg, us, cs, is, ns⟩ l.length x 10 = res at *
  go_enter Tryd.func110, Tryd.ntmps110
  go_wp2_with fail
  refine (l6in_any _ _ _ _).mono ?_
  rintro e w' ⟨rfl, rfl⟩
  go_wp2_with fail
  go_ret
  exact ⟨ret_bool (unhide R), unhide HBA _ _⟩

set_option maxHeartbeats 1000000 in
set_option maxRecDepth 100000 in
theorem l6fits_11 (a : Option Addr) (l : List ProtoD) (c p : Nat) (x : Int) (S : Nat → Prop) (w : World) (hs : ProtosAt w S a l) (hB : ∀ b, S b → b < w.heap.size) (hp : p < l.length) (hrg : 0 ≤ (prD l p).regs ∧ (prD l p).regs ≤ 250) :
    Calls Tryd.prog 110 #[.agg #[.slice a l.length c], .int .i64 p, .int .i64 11, .int .i64 x] w fun e w' => e = .returned (.bool (sFits (prD l p) l.length x 11)) ∧ Below w.heap.size w w' := by
  have hn := hs.1
  obtain ⟨b, off, rfl, hb, hcc⟩ := hs.2 (by omega)
  have N : ProtoCells w S b (off + p * 9) (prD l p) := hcc p hp
  have hbl := hB b hb
  clear hcc hs hB
  have HBA : Hid (∀ o1 o2, Below w.heap.size w ((w.alloc o1).alloc o2)) := fun o1 o2 => ((Below.refl _ _).alloc (Nat.le_refl _) o1).alloc (by simp) o2
  generalize prD l p = n at *
  obtain ⟨a5, c5, h5, H5⟩ := N.ups
  obtain ⟨a6, c6, h6, H6⟩ := N.consts
  obtain ⟨a7, c7, h7, H7⟩ := N.ins
  obtain ⟨a8, c8, h8, H8⟩ := N.named
  have c0 := N.name; have c1 := N.line; have c2 := N.params; have c3 := N.rest; have c4 := N.regs
  have hns := N.names
  have hu := H5.1; have hcl := H6.1; have hil := H7.1; have hnl := H8.1
  clear N H5 H6 H7 H8
  obtain ⟨nm, ln, pr, rs, rg, us, cs, is, ns⟩ := n
  simp only at *
  obtain ⟨hr0, hr1⟩ := hrg
  have R : Hid ((sIn x 1 100000) = sFits ⟨nm, ln, pr, rs, rg, us, cs, is, ns⟩ l.length x 11) := rfl
  generalize sFits ⟨nm, ln, pr, rs, rg, us, cs, is, ns⟩ l.length x 11 = res at *
  go_enter Tryd.func110, Tryd.ntmps110
  go_wp2_with fail
  refine (l6in_any _ _ _ _).mono ?_
  rintro e w' ⟨rfl, rfl⟩
  go_wp2_with fail
  go_ret
  exact ⟨ret_bool (unhide R), unhide HBA _ _⟩

set_option maxHeartbeats 1000000 in
set_option maxRecDepth 100000 in
theorem l6fits_12 (a : Option Addr) (l : List ProtoD) (c p : Nat) (x : Int) (S : Nat → Prop) (w : World) (hs : ProtosAt w S a l) (hB : ∀ b, S b → b < w.heap.size) (hp : p < l.length) (hrg : 0 ≤ (prD l p).regs ∧ (prD l p).regs ≤ 250) :
    Calls Tryd.prog 110 #[.agg #[.slice a l.length c], .int .i64 p, .int .i64 12, .int .i64 x] w fun e w' => e = .returned (.bool (sFits (prD l p) l.length x 12)) ∧ Below w.heap.size w w' := by
  have hn := hs.1
  obtain ⟨b, off, rfl, hb, hcc⟩ := hs.2 (by omega)
  have N : ProtoCells w S b (off + p * 9) (prD l p) := hcc p hp
  have hbl := hB b hb
  clear hcc hs hB
  have HBA : Hid (∀ o1 o2, Below w.heap.size w ((w.alloc o1).alloc o2)) := fun o1 o2 => ((Below.refl _ _).alloc (Nat.le_refl _) o1).alloc (by simp) o2
  generalize prD l p = n at *
  obtain ⟨a5, c5, h5, H5⟩ := N.ups
  obtain ⟨a6, c6, h6, H6⟩ := N.consts
  obtain ⟨a7, c7, h7, H7⟩ := N.ins
  obtain ⟨a8, c8, h8, H8⟩ := N.named
  have c0 := N.name; have c1 := N.line; have c2 := N.params; have c3 := N.rest; have c4 := N.regs
  have hns := N.names
  have hu := H5.1; have hcl := H6.1; have hil := H7.1; have hnl := H8.1
  clear N H5 H6 H7 H8
  obtain ⟨nm, ln, pr, rs, rg, us, cs, is, ns⟩ := n
  simp only at *
  obtain ⟨hr0, hr1⟩ := hrg
  have R : Hid ((sIn x 0 100000) = sFits ⟨nm, ln, pr, rs, rg, us, cs, is, ns⟩ l.length x 12) := rfl
  generalize sFits ⟨nm, ln, pr, rs, rg, us, cs, is, ns⟩ l.length x 12 = res at *
  go_enter Tryd.func110, Tryd.ntmps110
  go_wp2_with fail
  refine (l6in_any _ _ _ _).mono ?_
  rintro e w' ⟨rfl, rfl⟩
  go_wp2_with fail
  go_ret
  exact ⟨ret_bool (unhide R), unhide HBA _ _⟩

set_option maxHeartbeats 1000000 in
set_option maxRecDepth 100000 in
theorem l6fits_13 (a : Option Addr) (l : List ProtoD) (c p : Nat) (x : Int) (S : Nat → Prop) (w : World) (hs : ProtosAt w S a l) (hB : ∀ b, S b → b < w.heap.size) (hp : p < l.length) (hrg : 0 ≤ (prD l p).regs ∧ (prD l p).regs ≤ 250) :
    Calls Tryd.prog 110 #[.agg #[.slice a l.length c], .int .i64 p, .int .i64 13, .int .i64 x] w fun e w' => e = .returned (.bool (sFits (prD l p) l.length x 13)) ∧ Below w.heap.size w w' := by
  have hn := hs.1
  obtain ⟨b, off, rfl, hb, hcc⟩ := hs.2 (by omega)
  have N : ProtoCells w S b (off + p * 9) (prD l p) := hcc p hp
  have hbl := hB b hb
  clear hcc hs hB
  have HBA : Hid (∀ o1 o2, Below w.heap.size w ((w.alloc o1).alloc o2)) := fun o1 o2 => ((Below.refl _ _).alloc (Nat.le_refl _) o1).alloc (by simp) o2
  generalize prD l p = n at *
  obtain ⟨a5, c5, h5, H5⟩ := N.ups
  obtain ⟨a6, c6, h6, H6⟩ := N.consts
  obtain ⟨a7, c7, h7, H7⟩ := N.ins
  obtain ⟨a8, c8, h8, H8⟩ := N.named
  have c0 := N.name; have c1 := N.line; have c2 := N.params; have c3 := N.rest; have c4 := N.regs
  have hns := N.names
  have hu := H5.1; have hcl := H6.1; have hil := H7.1; have hnl := H8.1
  clear N H5 H6 H7 H8
  obtain ⟨nm, ln, pr, rs, rg, us, cs, is, ns⟩ := n
  simp only at *
  obtain ⟨hr0, hr1⟩ := hrg
  have R : Hid ((sIn x 0 rg) = sFits ⟨nm, ln, pr, rs, rg, us, cs, is, ns⟩ l.length x 13) := rfl
  generalize sFits ⟨nm, ln, pr, rs, rg, us, cs, is, ns⟩ l.length x 13 = res at *
  go_enter Tryd.func110, Tryd.ntmps110
  go_wp2_with fail
  refine (l6in_any _ _ _ _).mono ?_
  rintro e w' ⟨rfl, rfl⟩
  go_wp2_with fail
  go_ret
  exact ⟨ret_bool (unhide R), unhide HBA _ _⟩

set_option maxHeartbeats 1000000 in
set_option maxRecDepth 100000 in
theorem l6fits_14 (a : Option Addr) (l : List ProtoD) (c p : Nat) (x : Int) (S : Nat → Prop) (w : World) (hs : ProtosAt w S a l) (hB : ∀ b, S b → b < w.heap.size) (hp : p < l.length) (hrg : 0 ≤ (prD l p).regs ∧ (prD l p).regs ≤ 250) :
    Calls Tryd.prog 110 #[.agg #[.slice a l.length c], .int .i64 p, .int .i64 14, .int .i64 x] w fun e w' => e = .returned (.bool (sFits (prD l p) l.length x 14)) ∧ Below w.heap.size w w' := by
  have hn := hs.1
  obtain ⟨b, off, rfl, hb, hcc⟩ := hs.2 (by omega)
  have N : ProtoCells w S b (off + p * 9) (prD l p) := hcc p hp
  have hbl := hB b hb
  clear hcc hs hB
  have HBA : Hid (∀ o1 o2, Below w.heap.size w ((w.alloc o1).alloc o2)) := fun o1 o2 => ((Below.refl _ _).alloc (Nat.le_refl _) o1).alloc (by simp) o2
  generalize prD l p = n at *
  obtain ⟨a5, c5, h5, H5⟩ := N.ups
  obtain ⟨a6, c6, h6, H6⟩ := N.consts
  obtain ⟨a7, c7, h7, H7⟩ := N.ins
  obtain ⟨a8, c8, h8, H8⟩ := N.named
  have c0 := N.name; have c1 := N.line; have c2 := N.params; have c3 := N.rest; have c4 := N.regs
  have hns := N.names
  have hu := H5.1; have hcl := H6.1; have hil := H7.1; have hnl := H8.1
  clear N H5 H6 H7 H8
  obtain ⟨nm, ln, pr, rs, rg, us, cs, is, ns⟩ := n
  simp only at *
  obtain ⟨hr0, hr1⟩ := hrg
  have R : Hid ((sIn x 0 (rg - 2)) = sFits ⟨nm, ln, pr, rs, rg, us, cs, is, ns⟩ l.length x 14) := rfl
  generalize sFits ⟨nm, ln, pr, rs, rg, us, cs, is, ns⟩ l.length x 14 = res at *
  go_enter Tryd.func110, Tryd.ntmps110
  go_wp2_with fail
  refine (l6in_any _ _ _ _).mono ?_
  rintro e w' ⟨rfl, rfl⟩
  go_wp2_with fail
  go_ret
  exact ⟨ret_bool (unhide R), unhide HBA _ _⟩

set_option maxHeartbeats 1000000 in
set_option maxRecDepth 100000 in
theorem l6fits_15 (a : Option Addr) (l : List ProtoD) (c p : Nat) (x : Int) (S : Nat → Prop) (w : World) (hs : ProtosAt w S a l) (hB : ∀ b, S b → b < w.heap.size) (hp : p < l.length) (hrg : 0 ≤ (prD l p).regs ∧ (prD l p).regs ≤ 250) :
    Calls Tryd.prog 110 #[.agg #[.slice a l.length c], .int .i64 p, .int .i64 15, .int .i64 x] w fun e w' => e = .returned (.bool (sFits (prD l p) l.length x 15)) ∧ Below w.heap.size w w' := by
  have hn := hs.1
  obtain ⟨b, off, rfl, hb, hcc⟩ := hs.2 (by omega)
  have N : ProtoCells w S b (off + p * 9) (prD l p) := hcc p hp
  have hbl := hB b hb
  clear hcc hs hB
  have HBA : Hid (∀ o1 o2, Below w.heap.size w ((w.alloc o1).alloc o2)) := fun o1 o2 => ((Below.refl _ _).alloc (Nat.le_refl _) o1).alloc (by simp) o2
  generalize prD l p = n at *
  obtain ⟨a5, c5, h5, H5⟩ := N.ups
  obtain ⟨a6, c6, h6, H6⟩ := N.consts
  obtain ⟨a7, c7, h7, H7⟩ := N.ins
  obtain ⟨a8, c8, h8, H8⟩ := N.named
  have c0 := N.name; have c1 := N.line; have c2 := N.params; have c3 := N.rest; have c4 := N.regs
  have hns := N.names
  have hu := H5.1; have hcl := H6.1; have hil := H7.1; have hnl := H8.1
  clear N H5 H6 H7 H8
  obtain ⟨nm, ln, pr, rs, rg, us, cs, is, ns⟩ := n
  simp only at *
  obtain ⟨hr0, hr1⟩ := hrg
  have R : Hid ((sIn x 19 22) = sFits ⟨nm, ln, pr, rs, rg, us, cs, is, ns⟩ l.length x 15) := rfl
  generalize sFits ⟨nm, ln, pr, rs, rg, us, cs, is, ns⟩ l.length x 15 = res at *
  go_enter Tryd.func110, Tryd.ntmps110
  go_wp2_with fail
  refine (l6in_any _ _ _ _).mono ?_
  rintro e w' ⟨rfl, rfl⟩
  go_wp2_with fail
  go_ret
  exact ⟨ret_bool (unhide R), unhide HBA _ _⟩

set_option maxHeartbeats 1000000 in
set_option maxRecDepth 100000 in
theorem l6fits_16 (a : Option Addr) (l : List ProtoD) (c p : Nat) (x : Int) (S : Nat → Prop) (w : World) (hs : ProtosAt w S a l) (hB : ∀ b, S b → b < w.heap.size) (hp : p < l.length) (hrg : 0 ≤ (prD l p).regs ∧ (prD l p).regs ≤ 250) :
    Calls Tryd.prog 110 #[.agg #[.slice a l.length c], .int .i64 p, .int .i64 16, .int .i64 x] w fun e w' => e = .returned (.bool (sFits (prD l p) l.length x 16)) ∧ Below w.heap.size w w' := by
  have hn := hs.1
  obtain ⟨b, off, rfl, hb, hcc⟩ := hs.2 (by omega)
  have N : ProtoCells w S b (off + p * 9) (prD l p) := hcc p hp
  have hbl := hB b hb
  clear hcc hs hB
  have HBA : Hid (∀ o1 o2, Below w.heap.size w ((w.alloc o1).alloc o2)) := fun o1 o2 => ((Below.refl _ _).alloc (Nat.le_refl _) o1).alloc (by simp) o2
  generalize prD l p = n at *
  obtain ⟨a5, c5, h5, H5⟩ := N.ups
  obtain ⟨a6, c6, h6, H6⟩ := N.consts
  obtain ⟨a7, c7, h7, H7⟩ := N.ins
  obtain ⟨a8, c8, h8, H8⟩ := N.named
  have c0 := N.name; have c1 := N.line; have c2 := N.params; have c3 := N.rest; have c4 := N.regs
  have hns := N.names
  have hu := H5.1; have hcl := H6.1; have hil := H7.1; have hnl := H8.1
  clear N H5 H6 H7 H8
  obtain ⟨nm, ln, pr, rs, rg, us, cs, is, ns⟩ := n
  simp only at *
  obtain ⟨hr0, hr1⟩ := hrg
  have R : Hid ((sIn x 1 18) = sFits ⟨nm, ln, pr, rs, rg, us, cs, is, ns⟩ l.length x 16) := rfl
  generalize sFits ⟨nm, ln, pr, rs, rg, us, cs, is, ns⟩ l.length x 16 = res at *
  go_enter Tryd.func110, Tryd.ntmps110
  go_wp2_with fail
  refine (l6in_any _ _ _ _).mono ?_
  rintro e w' ⟨rfl, rfl⟩
  go_wp2_with fail
  go_ret
  exact ⟨ret_bool (unhide R), unhide HBA _ _⟩

set_option maxHeartbeats 1000000 in
set_option maxRecDepth 100000 in
theorem l6fits_17 (a : Option Addr) (l : List ProtoD) (c p : Nat) (x : Int) (S : Nat → Prop) (w : World) (hs : ProtosAt w S a l) (hB : ∀ b, S b → b < w.heap.size) (hp : p < l.length) (hrg : 0 ≤ (prD l p).regs ∧ (prD l p).regs ≤ 250) :
    Calls Tryd.prog 110 #[.agg #[.slice a l.length c], .int .i64 p, .int .i64 17, .int .i64 x] w fun e w' => e = .returned (.bool (sFits (prD l p) l.length x 17)) ∧ Below w.heap.size w w' := by
  have hn := hs.1
  obtain ⟨b, off, rfl, hb, hcc⟩ := hs.2 (by omega)
  have N : ProtoCells w S b (off + p * 9) (prD l p) := hcc p hp
  have hbl := hB b hb
  clear hcc hs hB
  have HBA : Hid (∀ o1 o2, Below w.heap.size w ((w.alloc o1).alloc o2)) := fun o1 o2 => ((Below.refl _ _).alloc (Nat.le_refl _) o1).alloc (by simp) o2
  generalize prD l p = n at *
  obtain ⟨a5, c5, h5, H5⟩ := N.ups
  obtain ⟨a6, c6, h6, H6⟩ := N.consts
  obtain ⟨a7, c7, h7, H7⟩ := N.ins
  obtain ⟨a8, c8, h8, H8⟩ := N.named
  have c0 := N.name; have c1 := N.line; have c2 := N.params; have c3 := N.rest; have c4 := N.regs
  have hns := N.names
  have hu := H5.1; have hcl := H6.1; have hil := H7.1; have hnl := H8.1
  clear N H5 H6 H7 H8
  obtain ⟨nm, ln, pr, rs, rg, us, cs, is, ns⟩ := n
  simp only at *
  obtain ⟨hr0, hr1⟩ := hrg
  have R : Hid ((sIn x 0 250) = sFits ⟨nm, ln, pr, rs, rg, us, cs, is, ns⟩ l.length x 17) := rfl
  generalize sFits ⟨nm, ln, pr, rs, rg, us, cs, is, ns⟩ l.length x 17 = res at *
  go_enter Tryd.func110, Tryd.ntmps110
  go_wp2_with fail
  refine (l6in_any _ _ _ _).mono ?_
  rintro e w' ⟨rfl, rfl⟩
  go_wp2_with fail
  go_ret
  exact ⟨ret_bool (unhide R), unhide HBA _ _⟩

set_option maxHeartbeats 1000000 in
set_option maxRecDepth 100000 in
theorem l6fits_18 (a : Option Addr) (l : List ProtoD) (c p : Nat) (x : Int) (S : Nat → Prop) (w : World) (hs : ProtosAt w S a l) (hB : ∀ b, S b → b < w.heap.size) (hp : p < l.length) (hrg : 0 ≤ (prD l p).regs ∧ (prD l p).regs ≤ 250) :
    Calls Tryd.prog 110 #[.agg #[.slice a l.length c], .int .i64 p, .int .i64 18, .int .i64 x] w fun e w' => e = .returned (.bool (sFits (prD l p) l.length x 18)) ∧ Below w.heap.size w w' := by
  have hn := hs.1
  obtain ⟨b, off, rfl, hb, hcc⟩ := hs.2 (by omega)
  have N : ProtoCells w S b (off + p * 9) (prD l p) := hcc p hp
  have hbl := hB b hb
  clear hcc hs hB
  have HBA : Hid (∀ o1 o2, Below w.heap.size w ((w.alloc o1).alloc o2)) := fun o1 o2 => ((Below.refl _ _).alloc (Nat.le_refl _) o1).alloc (by simp) o2
  generalize prD l p = n at *
  obtain ⟨a5, c5, h5, H5⟩ := N.ups
  obtain ⟨a6, c6, h6, H6⟩ := N.consts
  obtain ⟨a7, c7, h7, H7⟩ := N.ins
  obtain ⟨a8, c8, h8, H8⟩ := N.named
  have c0 := N.name; have c1 := N.line; have c2 := N.params; have c3 := N.rest; have c4 := N.regs
  have hns := N.names
  have hu := H5.1; have hcl := H6.1; have hil := H7.1; have hnl := H8.1
  clear N H5 H6 H7 H8
  obtain ⟨nm, ln, pr, rs, rg, us, cs, is, ns⟩ := n
  simp only at *
  obtain ⟨hr0, hr1⟩ := hrg
  have R : Hid ((sIn x 0 (rg - 3)) = sFits ⟨nm, ln, pr, rs, rg, us, cs, is, ns⟩ l.length x 18) := rfl
  generalize sFits ⟨nm, ln, pr, rs, rg, us, cs, is, ns⟩ l.length x 18 = res at *
  go_enter Tryd.func110, Tryd.ntmps110
  go_wp2_with fail
  refine (l6in_any _ _ _ _).mono ?_
  rintro e w' ⟨rfl, rfl⟩
  go_wp2_with fail
  go_ret
  exact ⟨ret_bool (unhide R), unhide HBA _ _⟩

set_option maxHeartbeats 1000000 in
set_option maxRecDepth 100000 in
theorem l6fits_19 (a : Option Addr) (l : List ProtoD) (c p : Nat) (x : Int) (S : Nat → Prop) (w : World) (hs : ProtosAt w S a l) (hB : ∀ b, S b → b < w.heap.size) (hp : p < l.length) (hrg : 0 ≤ (prD l p).regs ∧ (prD l p).regs ≤ 250) :
    Calls Tryd.prog 110 #[.agg #[.slice a l.length c], .int .i64 p, .int .i64 19, .int .i64 x] w fun e w' => e = .returned (.bool (sFits (prD l p) l.length x 19)) ∧ Below w.heap.size w w' := by
  have hn := hs.1
  obtain ⟨b, off, rfl, hb, hcc⟩ := hs.2 (by omega)
  have N : ProtoCells w S b (off + p * 9) (prD l p) := hcc p hp
  have hbl := hB b hb
  clear hcc hs hB
  have HBA : Hid (∀ o1 o2, Below w.heap.size w ((w.alloc o1).alloc o2)) := fun o1 o2 => ((Below.refl _ _).alloc (Nat.le_refl _) o1).alloc (by simp) o2
  generalize prD l p = n at *
  obtain ⟨a5, c5, h5, H5⟩ := N.ups
  obtain ⟨a6, c6, h6, H6⟩ := N.consts
  obtain ⟨a7, c7, h7, H7⟩ := N.ins
  obtain ⟨a8, c8, h8, H8⟩ := N.named
  have c0 := N.name; have c1 := N.line; have c2 := N.params; have c3 := N.rest; have c4 := N.regs
  have hns := N.names
  have hu := H5.1; have hcl := H6.1; have hil := H7.1; have hnl := H8.1
  clear N H5 H6 H7 H8
  obtain ⟨nm, ln, pr, rs, rg, us, cs, is, ns⟩ := n
  simp only at *
  obtain ⟨hr0, hr1⟩ := hrg
  have R : Hid ((sIn x 0 (rg - 2)) = sFits ⟨nm, ln, pr, rs, rg, us, cs, is, ns⟩ l.length x 19) := rfl
  generalize sFits ⟨nm, ln, pr, rs, rg, us, cs, is, ns⟩ l.length x 19 = res at *
  go_enter Tryd.func110, Tryd.ntmps110
  go_wp2_with fail
  refine (l6in_any _ _ _ _).mono ?_
  rintro e w' ⟨rfl, rfl⟩
  go_wp2_with fail
  go_ret
  exact ⟨ret_bool (unhide R), unhide HBA _ _⟩

set_option maxHeartbeats 1000000 in
set_option maxRecDepth 100000 in
theorem l6fits_20 (a : Option Addr) (l : List ProtoD) (c p : Nat) (x : Int) (S : Nat → Prop) (w : World) (hs : ProtosAt w S a l) (hB : ∀ b, S b → b < w.heap.size) (hp : p < l.length) (hrg : 0 ≤ (prD l p).regs ∧ (prD l p).regs ≤ 250) :
    Calls Tryd.prog 110 #[.agg #[.slice a l.length c], .int .i64 p, .int .i64 20, .int .i64 x] w fun e w' => e = .returned (.bool (sFits (prD l p) l.length x 20)) ∧ Below w.heap.size w w' := by
  have hn := hs.1
  obtain ⟨b, off, rfl, hb, hcc⟩ := hs.2 (by omega)
  have N : ProtoCells w S b (off + p * 9) (prD l p) := hcc p hp
  have hbl := hB b hb
  clear hcc hs hB
  have HBA : Hid (∀ o1 o2, Below w.heap.size w ((w.alloc o1).alloc o2)) := fun o1 o2 => ((Below.refl _ _).alloc (Nat.le_refl _) o1).alloc (by simp) o2
  generalize prD l p = n at *
  obtain ⟨a5, c5, h5, H5⟩ := N.ups
  obtain ⟨a6, c6, h6, H6⟩ := N.consts
  obtain ⟨a7, c7, h7, H7⟩ := N.ins
  obtain ⟨a8, c8, h8, H8⟩ := N.named
  have c0 := N.name; have c1 := N.line; have c2 := N.params; have c3 := N.rest; have c4 := N.regs
  have hns := N.names
  have hu := H5.1; have hcl := H6.1; have hil := H7.1; have hnl := H8.1
  clear N H5 H6 H7 H8
  obtain ⟨nm, ln, pr, rs, rg, us, cs, is, ns⟩ := n
  simp only at *
  obtain ⟨hr0, hr1⟩ := hrg
  have R : Hid ((sIn x 0 (rg - 2)) = sFits ⟨nm, ln, pr, rs, rg, us, cs, is, ns⟩ l.length x 20) := rfl
  generalize sFits ⟨nm, ln, pr, rs, rg, us, cs, is, ns⟩ l.length x 20 = res at *
  go_enter Tryd.func110, Tryd.ntmps110
  go_wp2_with fail
  refine (l6in_any _ _ _ _).mono ?_
  rintro e w' ⟨rfl, rfl⟩
  go_wp2_with fail
  go_ret
  exact ⟨ret_bool (unhide R), unhide HBA _ _⟩

set_option maxHeartbeats 1000000 in
set_option maxRecDepth 100000 in
theorem l6fits_21 (a : Option Addr) (l : List ProtoD) (c p : Nat) (x : Int) (S : Nat → Prop) (w : World) (hs : ProtosAt w S a l) (hB : ∀ b, S b → b < w.heap.size) (hp : p < l.length) (hrg : 0 ≤ (prD l p).regs ∧ (prD l p).regs ≤ 250) :
    Calls Tryd.prog 110 #[.agg #[.slice a l.length c], .int .i64 p, .int .i64 21, .int .i64 x] w fun e w' => e = .returned (.bool (sFits (prD l p) l.length x 21)) ∧ Below w.heap.size w w' := by
  have hn := hs.1
  obtain ⟨b, off, rfl, hb, hcc⟩ := hs.2 (by omega)
  have N : ProtoCells w S b (off + p * 9) (prD l p) := hcc p hp
  have hbl := hB b hb
  clear hcc hs hB
  have HBA : Hid (∀ o1 o2, Below w.heap.size w ((w.alloc o1).alloc o2)) := fun o1 o2 => ((Below.refl _ _).alloc (Nat.le_refl _) o1).alloc (by simp) o2
  generalize prD l p = n at *
  obtain ⟨a5, c5, h5, H5⟩ := N.ups
  obtain ⟨a6, c6, h6, H6⟩ := N.consts
  obtain ⟨a7, c7, h7, H7⟩ := N.ins
  obtain ⟨a8, c8, h8, H8⟩ := N.named
  have c0 := N.name; have c1 := N.line; have c2 := N.params; have c3 := N.rest; have c4 := N.regs
  have hns := N.names
  have hu := H5.1; have hcl := H6.1; have hil := H7.1; have hnl := H8.1
  clear N H5 H6 H7 H8
  obtain ⟨nm, ln, pr, rs, rg, us, cs, is, ns⟩ := n
  simp only at *
  obtain ⟨hr0, hr1⟩ := hrg
  have R : Hid ((sIn x 0 (rg - 1)) = sFits ⟨nm, ln, pr, rs, rg, us, cs, is, ns⟩ l.length x 21) := rfl
  generalize sFits ⟨nm, ln, pr, rs, rg, us, cs, is, ns⟩ l.length x 21 = res at *
  go_enter Tryd.func110, Tryd.ntmps110
  go_wp2_with fail
  refine (l6in_any _ _ _ _).mono ?_
  rintro e w' ⟨rfl, rfl⟩
  go_wp2_with fail
  go_ret
  exact ⟨ret_bool (unhide R), unhide HBA _ _⟩

theorem l6fits_any (a : Option Addr) (l : List ProtoD) (c p r : Nat) (x : Int) (S : Nat → Prop) (w : World) (hs : ProtosAt w S a l) (hB : ∀ b, S b → b < w.heap.size) (hp : p < l.length) (hrg : 0 ≤ (prD l p).regs ∧ (prD l p).regs ≤ 250) (hr : r ≤ 21) :
    Calls Tryd.prog 110 #[.agg #[.slice a l.length c], .int .i64 p, .int .i64 r, .int .i64 x] w fun e w' => e = .returned (.bool (sFits (prD l p) l.length x r)) ∧ Below w.heap.size w w' := by
  match r, hr with
  | 0, _ => exact l6fits_0 a l c p x S w hs hB hp hrg
  | 1, _ => exact l6fits_1 a l c p x S w hs hB hp hrg
  | 2, _ => exact l6fits_2 a l c p x S w hs hB hp hrg
  | 3, _ => exact l6fits_3 a l c p x S w hs hB hp hrg
  | 4, _ => exact l6fits_4 a l c p x S w hs hB hp hrg
  | 5, _ => exact l6fits_5 a l c p x S w hs hB hp hrg
  | 6, _ => exact l6fits_6 a l c p x S w hs hB hp hrg
  | 7, _ => exact l6fits_7 a l c p x S w hs hB hp hrg
  | 8, _ => exact l6fits_8 a l c p x S w hs hB hp hrg
  | 9, _ => exact l6fits_9 a l c p x S w hs hB hp hrg
  | 10, _ => exact l6fits_10 a l c p x S w hs hB hp hrg
  | 11, _ => exact l6fits_11 a l c p x S w hs hB hp hrg
  | 12, _ => exact l6fits_12 a l c p x S w hs hB hp hrg
  | 13, _ => exact l6fits_13 a l c p x S w hs hB hp hrg
  | 14, _ => exact l6fits_14 a l c p x S w hs hB hp hrg
  | 15, _ => exact l6fits_15 a l c p x S w hs hB hp hrg
  | 16, _ => exact l6fits_16 a l c p x S w hs hB hp hrg
  | 17, _ => exact l6fits_17 a l c p x S w hs hB hp hrg
  | 18, _ => exact l6fits_18 a l c p x S w hs hB hp hrg
  | 19, _ => exact l6fits_19 a l c p x S w hs hB hp hrg
  | 20, _ => exact l6fits_20 a l c p x S w hs hB hp hrg
  | 21, _ => exact l6fits_21 a l c p x S w hs hB hp hrg
  | n + 22, h => exact absurd h (by omega)

end Go.Proofs.YtflniagoghapjabDoor
