import Derived.Test.YtellieabhaphhaaGreatDoorPLeastuptoH
/-
  narrow's run: its block; what is told.
-/
namespace Go.Proofs.YtellieabhaphhaaGreatDoor
open Go.RowKit

def nvCells (l : List Vl) : List Value := l.flatMap Vl.nc

/-- A run of narrow's. -/
structure NB (w : World) (r : Nat) (inp : ByteArray) (m : Mc) : Prop where
  b : Blk w r (nvCells m.l ++ [.string inp, .int .i64 m.rd, .string m.tr, .string m.out]) 142
  six : m.l.length = 6

theorem Blk.c22 {w : World} {b : Nat} {a0 a1 a2 a3 a4 a5 a6 a7 a8 a9 a10 a11 a12 a13 a14 a15 a16 a17 a18 a19 a20 a21 : Value} {T : TypeId} (h : Blk w b [a0, a1, a2, a3, a4, a5, a6, a7, a8, a9, a10, a11, a12, a13, a14, a15, a16, a17, a18, a19, a20, a21] T) :
    w.cell? ⟨b, 0, none⟩ = some a0 ∧ w.cell? ⟨b, 1, none⟩ = some a1 ∧ w.cell? ⟨b, 2, none⟩ = some a2 ∧ w.cell? ⟨b, 3, none⟩ = some a3 ∧ w.cell? ⟨b, 4, none⟩ = some a4 ∧ w.cell? ⟨b, 5, none⟩ = some a5 ∧ w.cell? ⟨b, 6, none⟩ = some a6 ∧ w.cell? ⟨b, 7, none⟩ = some a7 ∧ w.cell? ⟨b, 8, none⟩ = some a8 ∧ w.cell? ⟨b, 9, none⟩ = some a9 ∧ w.cell? ⟨b, 10, none⟩ = some a10 ∧ w.cell? ⟨b, 11, none⟩ = some a11 ∧ w.cell? ⟨b, 12, none⟩ = some a12 ∧ w.cell? ⟨b, 13, none⟩ = some a13 ∧ w.cell? ⟨b, 14, none⟩ = some a14 ∧ w.cell? ⟨b, 15, none⟩ = some a15 ∧ w.cell? ⟨b, 16, none⟩ = some a16 ∧ w.cell? ⟨b, 17, none⟩ = some a17 ∧ w.cell? ⟨b, 18, none⟩ = some a18 ∧ w.cell? ⟨b, 19, none⟩ = some a19 ∧ w.cell? ⟨b, 20, none⟩ = some a20 ∧ w.cell? ⟨b, 21, none⟩ = some a21 ∧ ∀ o, w.frozen? ⟨b, o, none⟩ = false :=
  ⟨h.cell 0, h.cell 1, h.cell 2, h.cell 3, h.cell 4, h.cell 5, h.cell 6, h.cell 7, h.cell 8, h.cell 9, h.cell 10, h.cell 11, h.cell 12, h.cell 13, h.cell 14, h.cell 15, h.cell 16, h.cell 17, h.cell 18, h.cell 19, h.cell 20, h.cell 21, h.frozen⟩

theorem six_of {l : List Vl} (h : l.length = 6) : ∃ a b c d e f, l = [a, b, c, d, e, f] := by
  match l, h with
  | [a, b, c, d, e, f], _ => exact ⟨a, b, c, d, e, f, rfl⟩

/-- The kinds that a node takes, as a set. -/
def tkM (a : Int) : Int := if a = 4 ∨ a = 5 ∨ a = 6 then 1 else if a = 7 then 14 else if a = 8 then 48 else 127

set_option maxHeartbeats 400000 in
theorem ntakenKinds_c (a : Int) (w : World) :
    Calls Tryz.prog 123 #[.int .i64 a] w fun e w' => e = .returned (.int .i64 (tkM a)) ∧ w' = w := by
  by_cases h4 : a = 4
  · subst h4; go_enter Tryz.func123, Tryz.ntmps123; go_wp2; go_ret; exact ⟨rfl, rfl⟩
  by_cases h5 : a = 5
  · subst h5; go_enter Tryz.func123, Tryz.ntmps123; go_wp2; go_ret; exact ⟨rfl, rfl⟩
  by_cases h6 : a = 6
  · subst h6; go_enter Tryz.func123, Tryz.ntmps123; go_wp2; go_ret; exact ⟨rfl, rfl⟩
  by_cases h7 : a = 7
  · subst h7; go_enter Tryz.func123, Tryz.ntmps123; go_wp2; go_ret; exact ⟨rfl, rfl⟩
  by_cases h8 : a = 8
  · subst h8; go_enter Tryz.func123, Tryz.ntmps123; go_wp2; go_ret; exact ⟨rfl, rfl⟩
  have HV := hide (show tkM a = 127 by rw [tkM, if_neg (by omega), if_neg (by omega), if_neg (by omega)])
  have f4 : (a == 4) = false := by simp [h4]
  have f5 : (a == 5) = false := by simp [h5]
  have f6 : (a == 6) = false := by simp [h6]
  have f7 : (a == 7) = false := by simp [h7]
  have f8 : (a == 8) = false := by simp [h8]
  rw [HV.out]
  go_enter Tryz.func123, Tryz.ntmps123
  go_wp2
  go_ret
  exact ⟨rfl, rfl⟩

set_option maxRecDepth 100000 in
set_option maxHeartbeats 400000 in
theorem ntwo_c (n : Nat) (w : World) (hn : n < 100) :
    Calls Tryz.prog 98 #[.int .i64 n] w fun e w' => e = .returned (.string (twoB n)) ∧ Kp no w w' := by
  have hc := conv2
  have HV := hide (show twoB n = strOfNums [48 + (n : Int) / 10 % 10, 48 + (n : Int) % 10] by rw [twoB]; congr 2; omega)
  rw [HV.out]
  go_enter Tryz.func98, Tryz.ntmps98
  go_wp2
  go_ret
  exact ⟨rfl, by (repeat' (first | with_reducible exact Kp.refl _ _ | with_reducible refine Kp.alloc ?_ _ | with_reducible refine Kp.drewN ?_ _ | with_reducible refine Kp.drew ?_ | with_reducible refine Kp.setCell ?_ _ ?_ | (intro hh; first | rfl | exact .inl rfl | exact .inr rfl | (exfalso; (try dsimp only at hh); omega))))⟩

theorem narIx0 (w : World) (a0 a1 a2 a3 a4 a5 a6 a7 a8 a9 a10 a11 a12 a13 a14 a15 a16 a17 : Value) : (Instr.index 140 (.agg #[a0, a1, a2, a3, a4, a5, a6, a7, a8, a9, a10, a11, a12, a13, a14, a15, a16, a17]) (.int .i64 0)).run Tryz.prog w = .ok (.agg #[a0, a1, a2]) w := by
  simp [Instr.index, go_sem]
theorem narIx1 (w : World) (a0 a1 a2 a3 a4 a5 a6 a7 a8 a9 a10 a11 a12 a13 a14 a15 a16 a17 : Value) : (Instr.index 140 (.agg #[a0, a1, a2, a3, a4, a5, a6, a7, a8, a9, a10, a11, a12, a13, a14, a15, a16, a17]) (.int .i64 1)).run Tryz.prog w = .ok (.agg #[a3, a4, a5]) w := by
  simp [Instr.index, go_sem]
theorem narIx2 (w : World) (a0 a1 a2 a3 a4 a5 a6 a7 a8 a9 a10 a11 a12 a13 a14 a15 a16 a17 : Value) : (Instr.index 140 (.agg #[a0, a1, a2, a3, a4, a5, a6, a7, a8, a9, a10, a11, a12, a13, a14, a15, a16, a17]) (.int .i64 2)).run Tryz.prog w = .ok (.agg #[a6, a7, a8]) w := by
  simp [Instr.index, go_sem]
theorem narIx3 (w : World) (a0 a1 a2 a3 a4 a5 a6 a7 a8 a9 a10 a11 a12 a13 a14 a15 a16 a17 : Value) : (Instr.index 140 (.agg #[a0, a1, a2, a3, a4, a5, a6, a7, a8, a9, a10, a11, a12, a13, a14, a15, a16, a17]) (.int .i64 3)).run Tryz.prog w = .ok (.agg #[a9, a10, a11]) w := by
  simp [Instr.index, go_sem]
theorem narIx4 (w : World) (a0 a1 a2 a3 a4 a5 a6 a7 a8 a9 a10 a11 a12 a13 a14 a15 a16 a17 : Value) : (Instr.index 140 (.agg #[a0, a1, a2, a3, a4, a5, a6, a7, a8, a9, a10, a11, a12, a13, a14, a15, a16, a17]) (.int .i64 4)).run Tryz.prog w = .ok (.agg #[a12, a13, a14]) w := by
  simp [Instr.index, go_sem]
theorem narIx5 (w : World) (a0 a1 a2 a3 a4 a5 a6 a7 a8 a9 a10 a11 a12 a13 a14 a15 a16 a17 : Value) : (Instr.index 140 (.agg #[a0, a1, a2, a3, a4, a5, a6, a7, a8, a9, a10, a11, a12, a13, a14, a15, a16, a17]) (.int .i64 5)).run Tryz.prog w = .ok (.agg #[a15, a16, a17]) w := by
  simp [Instr.index, go_sem]

theorem ba_assoc (a b c : ByteArray) : a ++ (b ++ c) = a ++ b ++ c := by
  exact (ByteArray.append_assoc).symm

set_option maxRecDepth 100000 in
set_option maxHeartbeats 6400000 in
theorem ntell_at (r n : Nat) (inp tr outp : ByteArray) (rd : Int) (k0 n0 v0 k1 n1 v1 k2 n2 v2 k3 n3 v3 k4 n4 v4 k5 n5 v5 : Int) (g0 g1 g2 g3 g4 g5 : Int) (w : World) (hn : n < 100) (ht : tr.size ≤ 100000)
    (hb : Blk w r [.int .i64 k0, .int .i64 n0, .int .i64 v0, .int .i64 k1, .int .i64 n1, .int .i64 v1, .int .i64 k2, .int .i64 n2, .int .i64 v2, .int .i64 k3, .int .i64 n3, .int .i64 v3, .int .i64 k4, .int .i64 n4, .int .i64 v4, .int .i64 k5, .int .i64 n5, .int .i64 v5, .string inp, .int .i64 rd, .string tr, .string outp] 142)
    (s0 : ∀ W, Calls Tryz.prog 141 #[.int .i64 k0] W fun e w' => e = .returned (.string (strOfNums [g0])) ∧ w' = W)
    (s1 : ∀ W, Calls Tryz.prog 141 #[.int .i64 k1] W fun e w' => e = .returned (.string (strOfNums [g1])) ∧ w' = W)
    (s2 : ∀ W, Calls Tryz.prog 141 #[.int .i64 k2] W fun e w' => e = .returned (.string (strOfNums [g2])) ∧ w' = W)
    (s3 : ∀ W, Calls Tryz.prog 141 #[.int .i64 k3] W fun e w' => e = .returned (.string (strOfNums [g3])) ∧ w' = W)
    (s4 : ∀ W, Calls Tryz.prog 141 #[.int .i64 k4] W fun e w' => e = .returned (.string (strOfNums [g4])) ∧ w' = W)
    (s5 : ∀ W, Calls Tryz.prog 141 #[.int .i64 k5] W fun e w' => e = .returned (.string (strOfNums [g5])) ∧ w' = W) :
    Calls Tryz.prog 100 #[.pointer (some ⟨r, 0, none⟩), .int .i64 n] w fun e w' => e = .returned (.tuple #[]) ∧
      Blk w' r [.int .i64 k0, .int .i64 n0, .int .i64 v0, .int .i64 k1, .int .i64 n1, .int .i64 v1, .int .i64 k2, .int .i64 n2, .int .i64 v2, .int .i64 k3, .int .i64 n3, .int .i64 v3, .int .i64 k4, .int .i64 n4, .int .i64 v4, .int .i64 k5, .int .i64 n5, .int .i64 v5, .string inp, .int .i64 rd, .string (tr ++ kindsB (twoB n) [⟨g0, 0, 0⟩, ⟨g1, 0, 0⟩, ⟨g2, 0, 0⟩, ⟨g3, 0, 0⟩, ⟨g4, 0, 0⟩, ⟨g5, 0, 0⟩] ++ sp), .string outp] 142 ∧ Kp (· = r) w w' := by
  have S0 := hide s0
  have S1 := hide s1
  have S2 := hide s2
  have S3 := hide s3
  have S4 := hide s4
  have S5 := hide s5
  clear s0 s1 s2 s3 s4 s5
  have hr := hb.lt
  go_enter Tryz.func100, Tryz.ntmps100
  go_wp2_with fail
  refine (ntwo_c n _ hn).mono ?_
  rintro x w1 ⟨rfl, kp1⟩
  have hb1 := kp1.blk hb no_elim
  have hrange : w1.rangeAt r 0 [.int .i64 k0, .int .i64 n0, .int .i64 v0, .int .i64 k1, .int .i64 n1, .int .i64 v1, .int .i64 k2, .int .i64 n2, .int .i64 v2, .int .i64 k3, .int .i64 n3, .int .i64 v3, .int .i64 k4, .int .i64 n4, .int .i64 v4, .int .i64 k5, .int .i64 n5, .int .i64 v5] := fun j v hv => by
    have hj := hb1.cell j
    rw [Nat.zero_add, hj]
    have := List.getElem?_append_left (l₂ := [.string inp, .int .i64 rd, .string tr, .string outp]) (List.getElem?_eq_some_iff.1 hv).1
    exact this.trans hv
  have HRG := hide hrange
  clear hrange
  go_wp2_with (refine wpList_load_mid rfl 140 (.tmp 11) rfl r 0 (by simp [Act.eval]) [.int .i64 k0, .int .i64 n0, .int .i64 v0, .int .i64 k1, .int .i64 n1, .int .i64 v1, .int .i64 k2, .int .i64 n2, .int .i64 v2, .int .i64 k3, .int .i64 n3, .int .i64 v3, .int .i64 k4, .int .i64 n4, .int .i64 v4, .int .i64 k5, .int .i64 n5, .int .i64 v5] _ HRG.out Tryz.underlying140 rfl (by kernel_rfl) ?_)
  go_loopg [4, 13] 6 (fun k s i wr => ∃ j : Nat, j ≤ 6 ∧ k = 6 - j ∧ i = .int .i64 j ∧ s = .string (kindsB (twoB n) (List.take j [⟨g0, 0, 0⟩, ⟨g1, 0, 0⟩, ⟨g2, 0, 0⟩, ⟨g3, 0, 0⟩, ⟨g4, 0, 0⟩, ⟨g5, 0, 0⟩])) ∧ Kp no w wr)
  case atStart => exact ⟨0, by decide, rfl, rfl, rfl, kp1⟩
  case round =>
    obtain ⟨j, hj, hk, rfl, rfl, kr⟩ := hrel
    have HK := hide hk
    have HKR := hide kr
    clear hk hb1
    have hsz : (kindsB (twoB n) (List.take j [⟨g0, 0, 0⟩, ⟨g1, 0, 0⟩, ⟨g2, 0, 0⟩, ⟨g3, 0, 0⟩, ⟨g4, 0, 0⟩, ⟨g5, 0, 0⟩])).size ≤ 100 := by rw [kindsB_size, twoB_size, List.length_take]; simp; omega
    rcases (show j = 6 ∨ j = 0 ∨ j = 1 ∨ j = 2 ∨ j = 3 ∨ j = 4 ∨ j = 5 by omega) with rfl | rfl | rfl | rfl | rfl | rfl | rfl
    · have hb2 := kr.blk hb no_elim
      obtain ⟨c0, c1, c2, c3, c4, c5, c6, c7, c8, c9, c10, c11, c12, c13, c14, c15, c16, c17, c18, c19, c20, c21, cf⟩ := hb2.c22
      have hr2 := hb2.lt
      clear kr
      have HF : Hid (kindsB (twoB n) (List.take 6 [⟨g0, 0, 0⟩, ⟨g1, 0, 0⟩, ⟨g2, 0, 0⟩, ⟨g3, 0, 0⟩, ⟨g4, 0, 0⟩, ⟨g5, 0, 0⟩]) = kindsB (twoB n) [⟨g0, 0, 0⟩, ⟨g1, 0, 0⟩, ⟨g2, 0, 0⟩, ⟨g3, 0, 0⟩, ⟨g4, 0, 0⟩, ⟨g5, 0, 0⟩]) := rfl
      have hsp : (ByteArray.mk #[32]).size = 1 := rfl
      generalize kindsB (twoB n) (List.take 6 [⟨g0, 0, 0⟩, ⟨g1, 0, 0⟩, ⟨g2, 0, 0⟩, ⟨g3, 0, 0⟩, ⟨g4, 0, 0⟩, ⟨g5, 0, 0⟩]) = t at *
      go_wp2
      go_end0
      have kk := HKR.out.mono (S' := (· = r)) (fun _ e => False.elim e)
      rw [← HF.out]
      refine ⟨rfl, ?_, by (repeat' (first | with_reducible exact Kp.refl _ _ | with_reducible refine Kp.alloc ?_ _ | with_reducible refine Kp.drewN ?_ _ | with_reducible refine Kp.drew ?_ | with_reducible refine Kp.setCell ?_ _ ?_ | with_reducible refine Kp.trans ?_ kk (fun _ _ e => e) | (intro hh; first | rfl | exact .inl rfl | exact .inr rfl | (exfalso; (try dsimp only at hh); omega))))⟩
      have hq := hb2.set 20 (.string (tr ++ (t ++ sp)))
      rw [← ba_assoc]
      exact hq
    · have HF : Hid (kindsB (twoB n) (List.take 1 [⟨g0, 0, 0⟩, ⟨g1, 0, 0⟩, ⟨g2, 0, 0⟩, ⟨g3, 0, 0⟩, ⟨g4, 0, 0⟩, ⟨g5, 0, 0⟩]) = kindsB (twoB n) (List.take 0 [⟨g0, 0, 0⟩, ⟨g1, 0, 0⟩, ⟨g2, 0, 0⟩, ⟨g3, 0, 0⟩, ⟨g4, 0, 0⟩, ⟨g5, 0, 0⟩]) ++ strOfNums [g0]) := rfl
      have hs1 := str1 g0
      have hix := narIx0
      clear kr
      generalize kindsB (twoB n) (List.take 0 [⟨g0, 0, 0⟩, ⟨g1, 0, 0⟩, ⟨g2, 0, 0⟩, ⟨g3, 0, 0⟩, ⟨g4, 0, 0⟩, ⟨g5, 0, 0⟩]) = t at *
      go_wp2_with (go_at_call 141; refine (S0.out _).mono ?_; rintro e w' ⟨rfl, rfl⟩)
      go_roundg (6 - 1)
      case measure => have := HK.out; omega
      case rel =>
        have kk := HKR.out
        exact ⟨1, by omega, rfl, by go_num, by rw [HF.out], by (repeat' (first | with_reducible exact Kp.refl _ _ | with_reducible refine Kp.alloc ?_ _ | with_reducible refine Kp.drewN ?_ _ | with_reducible refine Kp.drew ?_ | with_reducible refine Kp.setCell ?_ _ ?_ | with_reducible refine Kp.trans ?_ kk (fun _ _ e => e) | (intro hh; first | rfl | exact .inl rfl | exact .inr rfl | (exfalso; (try dsimp only at hh); omega))))⟩
    · have HF : Hid (kindsB (twoB n) (List.take 2 [⟨g0, 0, 0⟩, ⟨g1, 0, 0⟩, ⟨g2, 0, 0⟩, ⟨g3, 0, 0⟩, ⟨g4, 0, 0⟩, ⟨g5, 0, 0⟩]) = kindsB (twoB n) (List.take 1 [⟨g0, 0, 0⟩, ⟨g1, 0, 0⟩, ⟨g2, 0, 0⟩, ⟨g3, 0, 0⟩, ⟨g4, 0, 0⟩, ⟨g5, 0, 0⟩]) ++ strOfNums [g1]) := rfl
      have hs1 := str1 g1
      have hix := narIx1
      clear kr
      generalize kindsB (twoB n) (List.take 1 [⟨g0, 0, 0⟩, ⟨g1, 0, 0⟩, ⟨g2, 0, 0⟩, ⟨g3, 0, 0⟩, ⟨g4, 0, 0⟩, ⟨g5, 0, 0⟩]) = t at *
      go_wp2_with (go_at_call 141; refine (S1.out _).mono ?_; rintro e w' ⟨rfl, rfl⟩)
      go_roundg (6 - 2)
      case measure => have := HK.out; omega
      case rel =>
        have kk := HKR.out
        exact ⟨2, by omega, rfl, by go_num, by rw [HF.out], by (repeat' (first | with_reducible exact Kp.refl _ _ | with_reducible refine Kp.alloc ?_ _ | with_reducible refine Kp.drewN ?_ _ | with_reducible refine Kp.drew ?_ | with_reducible refine Kp.setCell ?_ _ ?_ | with_reducible refine Kp.trans ?_ kk (fun _ _ e => e) | (intro hh; first | rfl | exact .inl rfl | exact .inr rfl | (exfalso; (try dsimp only at hh); omega))))⟩
    · have HF : Hid (kindsB (twoB n) (List.take 3 [⟨g0, 0, 0⟩, ⟨g1, 0, 0⟩, ⟨g2, 0, 0⟩, ⟨g3, 0, 0⟩, ⟨g4, 0, 0⟩, ⟨g5, 0, 0⟩]) = kindsB (twoB n) (List.take 2 [⟨g0, 0, 0⟩, ⟨g1, 0, 0⟩, ⟨g2, 0, 0⟩, ⟨g3, 0, 0⟩, ⟨g4, 0, 0⟩, ⟨g5, 0, 0⟩]) ++ strOfNums [g2]) := rfl
      have hs1 := str1 g2
      have hix := narIx2
      clear kr
      generalize kindsB (twoB n) (List.take 2 [⟨g0, 0, 0⟩, ⟨g1, 0, 0⟩, ⟨g2, 0, 0⟩, ⟨g3, 0, 0⟩, ⟨g4, 0, 0⟩, ⟨g5, 0, 0⟩]) = t at *
      go_wp2_with (go_at_call 141; refine (S2.out _).mono ?_; rintro e w' ⟨rfl, rfl⟩)
      go_roundg (6 - 3)
      case measure => have := HK.out; omega
      case rel =>
        have kk := HKR.out
        exact ⟨3, by omega, rfl, by go_num, by rw [HF.out], by (repeat' (first | with_reducible exact Kp.refl _ _ | with_reducible refine Kp.alloc ?_ _ | with_reducible refine Kp.drewN ?_ _ | with_reducible refine Kp.drew ?_ | with_reducible refine Kp.setCell ?_ _ ?_ | with_reducible refine Kp.trans ?_ kk (fun _ _ e => e) | (intro hh; first | rfl | exact .inl rfl | exact .inr rfl | (exfalso; (try dsimp only at hh); omega))))⟩
    · have HF : Hid (kindsB (twoB n) (List.take 4 [⟨g0, 0, 0⟩, ⟨g1, 0, 0⟩, ⟨g2, 0, 0⟩, ⟨g3, 0, 0⟩, ⟨g4, 0, 0⟩, ⟨g5, 0, 0⟩]) = kindsB (twoB n) (List.take 3 [⟨g0, 0, 0⟩, ⟨g1, 0, 0⟩, ⟨g2, 0, 0⟩, ⟨g3, 0, 0⟩, ⟨g4, 0, 0⟩, ⟨g5, 0, 0⟩]) ++ strOfNums [g3]) := rfl
      have hs1 := str1 g3
      have hix := narIx3
      clear kr
      generalize kindsB (twoB n) (List.take 3 [⟨g0, 0, 0⟩, ⟨g1, 0, 0⟩, ⟨g2, 0, 0⟩, ⟨g3, 0, 0⟩, ⟨g4, 0, 0⟩, ⟨g5, 0, 0⟩]) = t at *
      go_wp2_with (go_at_call 141; refine (S3.out _).mono ?_; rintro e w' ⟨rfl, rfl⟩)
      go_roundg (6 - 4)
      case measure => have := HK.out; omega
      case rel =>
        have kk := HKR.out
        exact ⟨4, by omega, rfl, by go_num, by rw [HF.out], by (repeat' (first | with_reducible exact Kp.refl _ _ | with_reducible refine Kp.alloc ?_ _ | with_reducible refine Kp.drewN ?_ _ | with_reducible refine Kp.drew ?_ | with_reducible refine Kp.setCell ?_ _ ?_ | with_reducible refine Kp.trans ?_ kk (fun _ _ e => e) | (intro hh; first | rfl | exact .inl rfl | exact .inr rfl | (exfalso; (try dsimp only at hh); omega))))⟩
    · have HF : Hid (kindsB (twoB n) (List.take 5 [⟨g0, 0, 0⟩, ⟨g1, 0, 0⟩, ⟨g2, 0, 0⟩, ⟨g3, 0, 0⟩, ⟨g4, 0, 0⟩, ⟨g5, 0, 0⟩]) = kindsB (twoB n) (List.take 4 [⟨g0, 0, 0⟩, ⟨g1, 0, 0⟩, ⟨g2, 0, 0⟩, ⟨g3, 0, 0⟩, ⟨g4, 0, 0⟩, ⟨g5, 0, 0⟩]) ++ strOfNums [g4]) := rfl
      have hs1 := str1 g4
      have hix := narIx4
      clear kr
      generalize kindsB (twoB n) (List.take 4 [⟨g0, 0, 0⟩, ⟨g1, 0, 0⟩, ⟨g2, 0, 0⟩, ⟨g3, 0, 0⟩, ⟨g4, 0, 0⟩, ⟨g5, 0, 0⟩]) = t at *
      go_wp2_with (go_at_call 141; refine (S4.out _).mono ?_; rintro e w' ⟨rfl, rfl⟩)
      go_roundg (6 - 5)
      case measure => have := HK.out; omega
      case rel =>
        have kk := HKR.out
        exact ⟨5, by omega, rfl, by go_num, by rw [HF.out], by (repeat' (first | with_reducible exact Kp.refl _ _ | with_reducible refine Kp.alloc ?_ _ | with_reducible refine Kp.drewN ?_ _ | with_reducible refine Kp.drew ?_ | with_reducible refine Kp.setCell ?_ _ ?_ | with_reducible refine Kp.trans ?_ kk (fun _ _ e => e) | (intro hh; first | rfl | exact .inl rfl | exact .inr rfl | (exfalso; (try dsimp only at hh); omega))))⟩
    · have HF : Hid (kindsB (twoB n) (List.take 6 [⟨g0, 0, 0⟩, ⟨g1, 0, 0⟩, ⟨g2, 0, 0⟩, ⟨g3, 0, 0⟩, ⟨g4, 0, 0⟩, ⟨g5, 0, 0⟩]) = kindsB (twoB n) (List.take 5 [⟨g0, 0, 0⟩, ⟨g1, 0, 0⟩, ⟨g2, 0, 0⟩, ⟨g3, 0, 0⟩, ⟨g4, 0, 0⟩, ⟨g5, 0, 0⟩]) ++ strOfNums [g5]) := rfl
      have hs1 := str1 g5
      have hix := narIx5
      clear kr
      generalize kindsB (twoB n) (List.take 5 [⟨g0, 0, 0⟩, ⟨g1, 0, 0⟩, ⟨g2, 0, 0⟩, ⟨g3, 0, 0⟩, ⟨g4, 0, 0⟩, ⟨g5, 0, 0⟩]) = t at *
      go_wp2_with (go_at_call 141; refine (S5.out _).mono ?_; rintro e w' ⟨rfl, rfl⟩)
      go_roundg (6 - 6)
      case measure => have := HK.out; omega
      case rel =>
        have kk := HKR.out
        exact ⟨6, by omega, rfl, by go_num, by rw [HF.out], by (repeat' (first | with_reducible exact Kp.refl _ _ | with_reducible refine Kp.alloc ?_ _ | with_reducible refine Kp.drewN ?_ _ | with_reducible refine Kp.drew ?_ | with_reducible refine Kp.setCell ?_ _ ?_ | with_reducible refine Kp.trans ?_ kk (fun _ _ e => e) | (intro hh; first | rfl | exact .inl rfl | exact .inr rfl | (exfalso; (try dsimp only at hh); omega))))⟩
end Go.Proofs.YtellieabhaphhaaGreatDoor

/-
  narrow's flow: sets of kinds as numbers.
-/
namespace Go.Proofs.YtellieabhaphhaaGreatDoor
open Go.RowKit

theorem ofi_nat (a : Nat) (ha : a < 128) : (BitVec.ofInt 64 (a : Int)).toNat = a := by
  rw [BitVec.ofInt_natCast, BitVec.toNat_ofNat]; exact Nat.mod_eq_of_lt (by omega)

theorem bits_and_nat (a b : Nat) (ha : a < 128) (hb : b < 128) : bits .and .i64 (a : Int) (b : Int) = ((a &&& b : Nat) : Int) := by
  have := and_lt b ha
  show IntKind.i64.wrap ((BitVec.ofInt 64 (a : Int) &&& BitVec.ofInt 64 (b : Int)).toNat : Int) = _
  rw [BitVec.toNat_and, ofi_nat a ha, ofi_nat b hb, IntKind.wrap_i64]
  omega

theorem bits_or_nat (a b : Nat) (ha : a < 128) (hb : b < 128) : bits .or .i64 (a : Int) (b : Int) = ((a ||| b : Nat) : Int) := by
  have := or_lt ha hb
  show IntKind.i64.wrap ((BitVec.ofInt 64 (a : Int) ||| BitVec.ofInt 64 (b : Int)).toNat : Int) = _
  rw [BitVec.toNat_or, ofi_nat a ha, ofi_nat b hb, IntKind.wrap_i64]
  omega

theorem not_bits (a b : Nat) (ha : a < 128) (hb : b < 128) : a &&& (2 ^ 64 - 1 - b) = a &&& (127 ^^^ b) := by
  refine Nat.eq_of_testBit_eq fun i => ?_
  rw [Nat.testBit_and, Nat.testBit_and, Nat.sub_sub, Nat.add_comm 1 b, Nat.testBit_two_pow_sub_succ (by omega), Nat.testBit_xor]
  by_cases hi : i < 7
  · rw [decide_eq_true (by omega : i < 64)]
    have : Nat.testBit 127 i = true := by
      rcases (show i = 0 ∨ i = 1 ∨ i = 2 ∨ i = 3 ∨ i = 4 ∨ i = 5 ∨ i = 6 by omega) with rfl | rfl | rfl | rfl | rfl | rfl | rfl <;> decide
    rw [this]
    cases b.testBit i <;> simp
  · have h2 : 128 ≤ 2 ^ i := by
      have : 2 ^ 7 ≤ 2 ^ i := Nat.pow_le_pow_right (by decide) (by omega)
      omega
    rw [Nat.testBit_lt_two_pow (show a < 2 ^ i by omega)]
    simp

theorem bits_not_nat (a b : Nat) (ha : a < 128) (hb : b < 128) : bits .andNot .i64 (a : Int) (b : Int) = ((a &&& (127 ^^^ b) : Nat) : Int) := by
  have := and_lt (127 ^^^ b) ha
  show IntKind.i64.wrap ((BitVec.ofInt 64 (a : Int) &&& ~~~(BitVec.ofInt 64 (b : Int))).toNat : Int) = _
  rw [BitVec.toNat_and, BitVec.toNat_not, ofi_nat a ha, ofi_nat b hb, not_bits a b ha hb, IntKind.wrap_i64]
  omega

/-- A state's sets, as narrow holds them. -/
def zc (Z : St) : List Value := Z.map (fun (m : Nat) => Value.int .i64 (m : Int))

/-- Six sets. -/
structure Z6 (Z : St) : Prop where
  len : Z.length = 6
  lt : ∀ m ∈ Z, m < 128

theorem Z6.get {Z : St} (h : Z6 Z) (i : Nat) : Z.getD i 0 < 128 := by
  rw [List.getD_eq_getElem?_getD]
  cases hx : Z[i]? with
  | none => simp
  | some m => exact h.lt m (List.mem_of_getElem? hx)

theorem Z6.set {Z : St} (h : Z6 Z) (i : Nat) {m : Nat} (hm : m < 128) : Z6 (Z.set i m) :=
  ⟨by rw [List.length_set]; exact h.len, fun z hz => by
    rcases List.mem_or_eq_of_mem_set hz with h1 | rfl
    · exact h.lt z h1
    · exact hm⟩

/-- A state in a block. -/
abbrev ZB (w : World) (b : Nat) (Z : St) : Prop := Blk w b (zc Z) 102

theorem ZB.at {w : World} {b : Nat} {Z : St} (h : ZB w b Z) {i : Nat} (hi : i < Z.length) : w.cell? ⟨b, i, none⟩ = some (.int .i64 (Z.getD i 0 : Nat)) := by
  rw [Blk.cell h]
  simp [zc, List.getD_eq_getElem?_getD, hi]

theorem zc_set (Z : St) (i m : Nat) : (zc Z).set i (.int .i64 (m : Int)) = zc (Z.set i m) := by
  unfold zc; rw [List.map_set]

theorem ZB.set {w : World} {b : Nat} {Z : St} (h : ZB w b Z) (i m : Nat) : ZB (w.setCell ⟨b, i, none⟩ (.int .i64 (m : Int))) b (Z.set i m) := by
  have := Blk.set h i (.int .i64 (m : Int))
  rwa [zc_set] at this

theorem zb_six {w : World} {b : Nat} {Z : St} (h : ZB w b Z) (h6 : Z6 Z) : ∃ m0 m1 m2 m3 m4 m5 : Nat, Z = [m0, m1, m2, m3, m4, m5] := by
  match Z, h6.len with
  | [m0, m1, m2, m3, m4, m5], _ => exact ⟨m0, m1, m2, m3, m4, m5, rfl⟩

theorem zIx (w : World) (m0 m1 m2 m3 m4 m5 : Nat) (j : Nat) (hj : j < 6) : (Instr.index 100 (.agg #[.int .i64 m0, .int .i64 m1, .int .i64 m2, .int .i64 m3, .int .i64 m4, .int .i64 m5]) (.int .i64 (j : Int))).run Tryz.prog w = .ok (.int .i64 (List.getD [m0, m1, m2, m3, m4, m5] j 0 : Nat)) w := by
  rcases (show j = 0 ∨ j = 1 ∨ j = 2 ∨ j = 3 ∨ j = 4 ∨ j = 5 by omega) with rfl | rfl | rfl | rfl | rfl | rfl <;> simp [Instr.index, go_sem]

theorem exS_no {Z : St} {j : Nat} (hj : j < Z.length) (h : Z.getD j 0 = 0) : exS Z = false := by
  unfold exS
  rw [List.all_eq_false]
  rw [List.getD_eq_getElem?_getD, List.getElem?_eq_getElem hj, Option.getD_some] at h
  exact ⟨Z[j], List.getElem_mem hj, by simp [h]⟩

theorem exS_yes {Z : St} (h : ∀ i, i < Z.length → Z.getD i 0 ≠ 0) : exS Z = true := by
  unfold exS
  rw [List.all_eq_true]
  intro m hm
  obtain ⟨i, hi, rfl⟩ := List.getElem_of_mem hm
  have := h i hi
  rw [List.getD_eq_getElem?_getD, List.getElem?_eq_getElem hi, Option.getD_some] at this
  simpa using this

set_option maxRecDepth 100000 in
set_option maxHeartbeats 1600000 in
theorem exists_c (b : Nat) (Z : St) (w : World) (h : ZB w b Z) (h6 : Z6 Z) :
    Calls Tryz.prog 103 #[.pointer (some ⟨b, 0, none⟩)] w fun e w' => e = .returned (.bool (exS Z)) ∧ w' = w := by
  obtain ⟨m0, m1, m2, m3, m4, m5, rfl⟩ := zb_six h h6
  have c0 := Blk.cell h 0; have c1 := Blk.cell h 1; have c2 := Blk.cell h 2; have c3 := Blk.cell h 3; have c4 := Blk.cell h 4; have c5 := Blk.cell h 5
  simp only [zc, List.map_cons, List.map_nil, List.getElem?_cons_zero, List.getElem?_cons_succ] at c0 c1 c2 c3 c4 c5
  have hlt := Blk.lt h
  have HIX := hide (fun W j hj => zIx W m0 m1 m2 m3 m4 m5 j hj)
  have HNO := hide (fun j hj h => exS_no (Z := [m0, m1, m2, m3, m4, m5]) (j := j) hj h)
  have HYES := hide (exS_yes (Z := [m0, m1, m2, m3, m4, m5]))
  clear h
  generalize hE : exS [m0, m1, m2, m3, m4, m5] = E at *
  clear hE
  go_enter Tryz.func103, Tryz.ntmps103
  go_wp2
  go_loopg [9] 6 (fun k iv wr => ∃ j : Nat, j ≤ 6 ∧ k = 6 - j ∧ iv = .int .i64 j ∧ (∀ i, i < j → List.getD [m0, m1, m2, m3, m4, m5] i 0 ≠ 0) ∧ wr = w)
  case atStart => exact ⟨0, by decide, rfl, rfl, fun i hi => by omega, rfl⟩
  case round =>
    obtain ⟨j, hj, hk, rfl, hz, rfl⟩ := hrel
    have HKK := hide hk
    have HZ := hide hz
    clear hk hz
    by_cases hlt6 : j < 6
    · have hix := HIX.out wr j hlt6
      have HN2 := hide (HNO.out j hlt6)
      generalize hmm : List.getD [m0, m1, m2, m3, m4, m5] j 0 = m at *
      have HMM := hide hmm
      clear hmm
      by_cases hm : m = 0
      · have HF := hide (HN2.out hm)
        subst hm
        go_wp2
        go_ret
        rw [HF.out]
        exact ⟨rfl, rfl⟩
      · have hm' : ((m : Int) == 0) = false := by simp; omega
        go_wp2
        go_roundg (6 - (j + 1))
        case measure => have := HKK.out; omega
        case rel => exact ⟨j + 1, by omega, rfl, by go_num, fun i hi => by
          rcases Nat.lt_or_ge i j with h1 | h1
          · exact HZ.out i h1
          · obtain rfl : i = j := by omega
            rw [HMM.out]; exact hm, rfl⟩
    · obtain rfl : j = 6 := by omega
      have HT := hide (HYES.out (fun i hi => HZ.out i hi))
      go_wp2
      go_ret
      rw [HT.out]
      exact ⟨rfl, rfl⟩

set_option maxRecDepth 100000 in
set_option maxHeartbeats 1600000 in
theorem kindsOf_c (b : Nat) (Z : St) (v : Nat) (w : World) (h : ZB w b Z) (h6 : Z6 Z) (hv : v < 6) :
    Calls Tryz.prog 122 #[.pointer (some ⟨b, 0, none⟩), .int .i64 v] w fun e w' => e = .returned (.int .i64 (Z.getD v 0 : Nat)) ∧ w' = w := by
  have hc := ZB.at h (i := v) (by rw [h6.len]; exact hv)
  have hlt := Blk.lt h
  generalize Z.getD v 0 = m at *
  have d0 : decide ((v : Int) < 0) = false := by simp
  have d1 : decide ((6 : Int) ≤ v) = false := by simp; omega
  have d2 : (v : Int) < 6 := by omega
  clear h
  go_enter Tryz.func122, Tryz.ntmps122
  go_wp2
  go_ret
  exact ⟨rfl, rfl⟩

set_option maxRecDepth 100000 in
set_option maxHeartbeats 1600000 in
theorem zset_c (b : Nat) (Z : St) (v m : Nat) (w : World) (h : ZB w b Z) (h6 : Z6 Z) (hv : v < 6) :
    Calls Tryz.prog 157 #[.pointer (some ⟨b, 0, none⟩), .int .i64 v, .int .i64 (m : Int)] w fun e w' => e = .returned (.tuple #[]) ∧ ZB w' b (Z.set v m) ∧ Kp (· = b) w w' := by
  have hc := ZB.at h (i := v) (by rw [h6.len]; exact hv)
  have hlt := Blk.lt h
  have hf := Blk.frozen h
  have HS := hide (h.set v m)
  generalize Z.getD v 0 = m0 at *
  have d0 : (0 : Int) ≤ (v : Int) := by omega
  have d2 : (v : Int) < 6 := by omega
  clear h
  go_enter Tryz.func157, Tryz.ntmps157
  go_wp2
  go_end0
  exact ⟨rfl, HS.out, (Kp.refl _ _).setCell _ (fun _ => rfl)⟩

set_option maxRecDepth 100000 in
set_option maxHeartbeats 1600000 in
theorem keep_c (b : Nat) (Z : St) (v m : Nat) (w : World) (h : ZB w b Z) (h6 : Z6 Z) (hv : v < 6) (hm : m < 128) :
    Calls Tryz.prog 153 #[.pointer (some ⟨b, 0, none⟩), .int .i64 v, .int .i64 (m : Int)] w fun e w' => e = .returned (.tuple #[]) ∧ ZB w' b (Z.set v (Z.getD v 0 &&& m)) ∧ Kp (· = b) w w' := by
  have HK := hide (kindsOf_c b Z v w h h6 hv)
  have HB := hide (bits_and_nat (Z.getD v 0) m (h6.get v) hm)
  have HS := hide (zset_c b Z v (Z.getD v 0 &&& m) w h h6 hv)
  generalize Z.getD v 0 = m0 at *
  go_enter Tryz.func153, Tryz.ntmps153
  go_wp2_with fail
  refine HK.out.mono ?_
  rintro e w' ⟨rfl, rfl⟩
  go_wp2_with fail
  rw [HB.out]
  refine HS.out.mono ?_
  rintro e w' ⟨rfl, h1, h2⟩
  go_wp2
  go_end0
  exact ⟨rfl, h1, h2⟩

def fZ (j : Nat) : St := (List.range 6).map (fun i => if i < j then 8 else 0)
theorem fZ_set (j : Nat) (hj : j < 6) : (fZ j).set j 8 = fZ (j + 1) := by
  rcases (show j = 0 ∨ j = 1 ∨ j = 2 ∨ j = 3 ∨ j = 4 ∨ j = 5 by omega) with rfl | rfl | rfl | rfl | rfl | rfl <;> decide
theorem fZ_len (j : Nat) : (fZ j).length = 6 := by simp [fZ]

theorem Blk.c6 {w : World} {b : Nat} {a0 a1 a2 a3 a4 a5 : Value} {T : TypeId} (h : Blk w b [a0, a1, a2, a3, a4, a5] T) :
    w.cell? ⟨b, 0, none⟩ = some a0 ∧ w.cell? ⟨b, 1, none⟩ = some a1 ∧ w.cell? ⟨b, 2, none⟩ = some a2 ∧ w.cell? ⟨b, 3, none⟩ = some a3 ∧ w.cell? ⟨b, 4, none⟩ = some a4 ∧ w.cell? ⟨b, 5, none⟩ = some a5 ∧ (∀ o, w.frozen? ⟨b, o, none⟩ = false) ∧ b < w.heap.size :=
  ⟨h.cell 0, h.cell 1, h.cell 2, h.cell 3, h.cell 4, h.cell 5, h.frozen, h.lt⟩

set_option maxRecDepth 100000 in
set_option maxHeartbeats 1600000 in
theorem firstState_c (w : World) :
    Calls Tryz.prog 61 #[] w fun e w' => e = .returned (.agg (zc st0).toArray) ∧ Kp no w w' := by
  go_enter Tryz.func61, Tryz.ntmps61
  go_wp2
  go_loopg [4] 6 (fun k iv wr => ∃ j : Nat, j ≤ 6 ∧ k = 6 - j ∧ iv = .int .i64 j ∧ ZB wr (w.heap.size + 1) (fZ j) ∧ ZB wr w.heap.size [0, 0, 0, 0, 0, 0] ∧ Kp no w wr)
  case atStart => exact ⟨0, by decide, rfl, rfl, by (show Blk _ _ [.int .i64 0, .int .i64 0, .int .i64 0, .int .i64 0, .int .i64 0, .int .i64 0] _); (repeat' (first | ((with_reducible show (_ : List Value) = _); rfl) | ((with_reducible refine Blk.newAt _ _ _ ?_); first | with_reducible rfl | (simp; done)) | with_reducible refine Blk.alloc ?_ _ | with_reducible refine Blk.drewN ?_ _ | with_reducible refine Blk.drew ?_ | ((with_reducible refine Blk.other ?_ _ ?_); rotate_left; ((try dsimp only); omega)) | with_reducible refine Blk.setB (cs0 := ?_) ?_ ?_)), by (show Blk _ _ [.int .i64 0, .int .i64 0, .int .i64 0, .int .i64 0, .int .i64 0, .int .i64 0] _); (repeat' (first | ((with_reducible show (_ : List Value) = _); rfl) | ((with_reducible refine Blk.newAt _ _ _ ?_); first | with_reducible rfl | (simp; done)) | with_reducible refine Blk.alloc ?_ _ | with_reducible refine Blk.drewN ?_ _ | with_reducible refine Blk.drew ?_ | ((with_reducible refine Blk.other ?_ _ ?_); rotate_left; ((try dsimp only); omega)) | with_reducible refine Blk.setB (cs0 := ?_) ?_ ?_)), by (repeat' (first | with_reducible exact Kp.refl _ _ | with_reducible refine Kp.alloc ?_ _ | with_reducible refine Kp.drewN ?_ _ | with_reducible refine Kp.drew ?_ | with_reducible refine Kp.setCell ?_ _ ?_ | (intro hh; first | rfl | exact .inl rfl | exact .inr rfl | (exfalso; (try dsimp only at hh); omega))))⟩
  case round =>
    obtain ⟨j, hj, hk, rfl, hz, hr, kr⟩ := hrel
    have HKK := hide hk
    have HZ := hide hz
    have HR := hide hr
    have HKR := hide kr
    clear hk hz hr kr
    by_cases hlt6 : j < 6
    · have hc := ZB.at HZ.out (i := j) (by rw [fZ_len]; exact hlt6)
      have hf := Blk.frozen HZ.out
      have hl := Blk.lt HZ.out
      have hjI : (j : Int) < 6 := by omega
      generalize (fZ j).getD j 0 = m0 at *
      go_wp2
      go_roundg (6 - (j + 1))
      case measure => have := HKK.out; omega
      case rel =>
        have h2 := HZ.out.set j 8
        rw [fZ_set j hlt6] at h2
        exact ⟨j + 1, by omega, rfl, by go_num, h2, Blk.other HR.out _ (by dsimp only; omega), HKR.out.setCell _ (fun h => by dsimp only at h; omega)⟩
    · obtain rfl : j = 6 := by omega
      have hz : Blk wr (w.heap.size + 1) [.int .i64 8, .int .i64 8, .int .i64 8, .int .i64 8, .int .i64 8, .int .i64 8] 102 := HZ.out
      have hr : Blk wr w.heap.size [.int .i64 0, .int .i64 0, .int .i64 0, .int .i64 0, .int .i64 0, .int .i64 0] 102 := HR.out
      have HRB := hide hr
      obtain ⟨c0, c1, c2, c3, c4, c5, cf, cl⟩ := hz.c6
      obtain ⟨d0, d1, d2, d3, d4, d5, df, dl⟩ := hr.c6
      clear hz hr
      have kk := HKR.out
      go_wp2
      have hr2 := HRB.out
      refine body_agg (Tb := 102) (b := w.heap.size) (cs := [.int .i64 8, .int .i64 8, .int .i64 8, .int .i64 8, .int .i64 8, .int .i64 8]) (.inr rfl) Tryz.results61 rfl rfl (by (repeat' (first | ((with_reducible show (_ : List Value) = _); rfl) | with_reducible exact hr2 | ((with_reducible refine Blk.newAt _ _ _ ?_); first | with_reducible rfl | (simp; done)) | with_reducible refine Blk.alloc ?_ _ | with_reducible refine Blk.drewN ?_ _ | with_reducible refine Blk.drew ?_ | ((with_reducible refine Blk.other ?_ _ ?_); rotate_left; ((try dsimp only); omega)) | with_reducible refine Blk.setB (cs0 := ?_) ?_ ?_))) Tryz.underlying102 rfl (by kernel_rfl) ?_
      exact ⟨rfl, by (repeat' (first | with_reducible exact Kp.refl _ _ | with_reducible refine Kp.alloc ?_ _ | with_reducible refine Kp.drewN ?_ _ | with_reducible refine Kp.drew ?_ | with_reducible refine Kp.setCell ?_ _ ?_ | with_reducible refine Kp.trans ?_ kk (fun _ _ e => e) | (intro hh; first | rfl | exact .inl rfl | exact .inr rfl | (exfalso; (try dsimp only at hh); omega))))⟩
end Go.Proofs.YtellieabhaphhaaGreatDoor

/-
  narrow's flow: the join of two states; what nodes give.
-/
namespace Go.Proofs.YtellieabhaphhaaGreatDoor
open Go.RowKit

def jnZ (s t : St) : St := if exS t then List.zipWith (· ||| ·) s t else s

abbrev zv6 (m0 m1 m2 m3 m4 m5 : Nat) : Value := .agg #[.int .i64 m0, .int .i64 m1, .int .i64 m2, .int .i64 m3, .int .i64 m4, .int .i64 m5]

def orJ (A B : St) (j : Nat) : St := (List.zipWith (· ||| ·) A B).take j ++ A.drop j

theorem orJ_step (a0 a1 a2 a3 a4 a5 b0 b1 b2 b3 b4 b5 : Nat) (j : Nat) (hj : j < 6) :
    (orJ [a0, a1, a2, a3, a4, a5] [b0, b1, b2, b3, b4, b5] j).length = 6 ∧ (orJ [a0, a1, a2, a3, a4, a5] [b0, b1, b2, b3, b4, b5] j).getD j 0 = List.getD [a0, a1, a2, a3, a4, a5] j 0 ∧
    (orJ [a0, a1, a2, a3, a4, a5] [b0, b1, b2, b3, b4, b5] j).set j (List.getD [a0, a1, a2, a3, a4, a5] j 0 ||| List.getD [b0, b1, b2, b3, b4, b5] j 0) = orJ [a0, a1, a2, a3, a4, a5] [b0, b1, b2, b3, b4, b5] (j + 1) := by
  rcases (show j = 0 ∨ j = 1 ∨ j = 2 ∨ j = 3 ∨ j = 4 ∨ j = 5 by omega) with rfl | rfl | rfl | rfl | rfl | rfl <;> exact ⟨rfl, rfl, rfl⟩

set_option maxRecDepth 100000 in
set_option maxHeartbeats 1600000 in
theorem joined_c (a0 a1 a2 a3 a4 a5 b0 b1 b2 b3 b4 b5 : Nat) (w : World) (ha : Z6 [a0, a1, a2, a3, a4, a5]) (hb : Z6 [b0, b1, b2, b3, b4, b5]) :
    Calls Tryz.prog 110 #[zv6 a0 a1 a2 a3 a4 a5, zv6 b0 b1 b2 b3 b4 b5] w fun e w' => e = .returned (.agg (zc (jnZ [a0, a1, a2, a3, a4, a5] [b0, b1, b2, b3, b4, b5])).toArray) ∧ Kp no w w' := by
  have HX := hide (fun b W h => exists_c b [b0, b1, b2, b3, b4, b5] W h hb)
  go_enter Tryz.func110, Tryz.ntmps110
  go_wp2_with fail
  refine (HX.out _ _ (by (show Blk _ _ [.int .i64 b0, .int .i64 b1, .int .i64 b2, .int .i64 b3, .int .i64 b4, .int .i64 b5] _); (repeat' (first | ((with_reducible show (_ : List Value) = _); rfl) | ((with_reducible refine Blk.newAt _ _ _ ?_); first | with_reducible rfl | (simp; done)) | with_reducible refine Blk.alloc ?_ _ | with_reducible refine Blk.drewN ?_ _ | with_reducible refine Blk.drew ?_ | ((with_reducible refine Blk.other ?_ _ ?_); rotate_left; ((try dsimp only); omega)) | with_reducible refine Blk.setB (cs0 := ?_) ?_ ?_)))).mono ?_
  rintro e w' ⟨rfl, rfl⟩
  cases hE : exS [b0, b1, b2, b3, b4, b5]
  · have HJ := hide (show jnZ [a0, a1, a2, a3, a4, a5] [b0, b1, b2, b3, b4, b5] = [a0, a1, a2, a3, a4, a5] by rw [jnZ, hE]; rfl)
    clear hE
    go_wp2
    refine body_agg (Tb := 102) (b := w.heap.size + 1 + 1) (cs := [.int .i64 a0, .int .i64 a1, .int .i64 a2, .int .i64 a3, .int .i64 a4, .int .i64 a5]) (.inr rfl) Tryz.results110 rfl rfl (by (repeat' (first | ((with_reducible show (_ : List Value) = _); rfl) | ((with_reducible refine Blk.newAt _ _ _ ?_); first | with_reducible rfl | (simp; done)) | with_reducible refine Blk.alloc ?_ _ | with_reducible refine Blk.drewN ?_ _ | with_reducible refine Blk.drew ?_ | ((with_reducible refine Blk.other ?_ _ ?_); rotate_left; ((try dsimp only); omega)) | with_reducible refine Blk.setB (cs0 := ?_) ?_ ?_))) Tryz.underlying102 rfl (by kernel_rfl) ?_
    rw [HJ.out]
    exact ⟨rfl, by (repeat' (first | with_reducible exact Kp.refl _ _ | with_reducible refine Kp.alloc ?_ _ | with_reducible refine Kp.drewN ?_ _ | with_reducible refine Kp.drew ?_ | with_reducible refine Kp.setCell ?_ _ ?_ | (intro hh; first | rfl | exact .inl rfl | exact .inr rfl | (exfalso; (try dsimp only at hh); omega))))⟩
  · have HJ := hide (show jnZ [a0, a1, a2, a3, a4, a5] [b0, b1, b2, b3, b4, b5] = [a0 ||| b0, a1 ||| b1, a2 ||| b2, a3 ||| b3, a4 ||| b4, a5 ||| b5] by rw [jnZ, hE]; rfl)
    clear hE HX
    have HIX := hide (fun W j hj => zIx W b0 b1 b2 b3 b4 b5 j hj)
    have HOJ := hide (orJ_step a0 a1 a2 a3 a4 a5 b0 b1 b2 b3 b4 b5)
    go_wp2
    go_loopg [12] 6 (fun k iv wr => ∃ j : Nat, j ≤ 6 ∧ k = 6 - j ∧ iv = .int .i64 j ∧ ZB wr w.heap.size (orJ [a0, a1, a2, a3, a4, a5] [b0, b1, b2, b3, b4, b5] j) ∧ ZB wr (w.heap.size + 1 + 1) [0, 0, 0, 0, 0, 0] ∧ Kp no w wr)
    case atStart => exact ⟨0, by decide, rfl, rfl, by (show Blk _ _ [.int .i64 a0, .int .i64 a1, .int .i64 a2, .int .i64 a3, .int .i64 a4, .int .i64 a5] _); (repeat' (first | ((with_reducible show (_ : List Value) = _); rfl) | ((with_reducible refine Blk.newAt _ _ _ ?_); first | with_reducible rfl | (simp; done)) | with_reducible refine Blk.alloc ?_ _ | with_reducible refine Blk.drewN ?_ _ | with_reducible refine Blk.drew ?_ | ((with_reducible refine Blk.other ?_ _ ?_); rotate_left; ((try dsimp only); omega)) | with_reducible refine Blk.setB (cs0 := ?_) ?_ ?_)), by (show Blk _ _ [.int .i64 0, .int .i64 0, .int .i64 0, .int .i64 0, .int .i64 0, .int .i64 0] _); (repeat' (first | ((with_reducible show (_ : List Value) = _); rfl) | ((with_reducible refine Blk.newAt _ _ _ ?_); first | with_reducible rfl | (simp; done)) | with_reducible refine Blk.alloc ?_ _ | with_reducible refine Blk.drewN ?_ _ | with_reducible refine Blk.drew ?_ | ((with_reducible refine Blk.other ?_ _ ?_); rotate_left; ((try dsimp only); omega)) | with_reducible refine Blk.setB (cs0 := ?_) ?_ ?_)), by (repeat' (first | with_reducible exact Kp.refl _ _ | with_reducible refine Kp.alloc ?_ _ | with_reducible refine Kp.drewN ?_ _ | with_reducible refine Kp.drew ?_ | with_reducible refine Kp.setCell ?_ _ ?_ | (intro hh; first | rfl | exact .inl rfl | exact .inr rfl | (exfalso; (try dsimp only at hh); omega))))⟩
    case round =>
      obtain ⟨j, hj, hk, rfl, hz, hr, kr⟩ := hrel
      have HKK := hide hk
      have HZ := hide hz
      have HR := hide hr
      have HKR := hide kr
      clear hk hz hr kr
      by_cases hlt6 : j < 6
      · obtain ⟨e1, e2, e3⟩ := HOJ.out j hlt6
        have hc := ZB.at HZ.out (i := j) (by rw [e1]; exact hlt6)
        rw [e2] at hc
        have HE3 := hide e3
        have hf := Blk.frozen HZ.out
        have hl := Blk.lt HZ.out
        have hjI : (j : Int) < 6 := by omega
        have hix := HIX.out wr j hlt6
        have hbo := bits_or_nat _ _ (ha.get j) (hb.get j)
        clear e1 e2 e3 HIX HOJ
        generalize hgA : List.getD [a0, a1, a2, a3, a4, a5] j 0 = mA at *
        generalize hgB : List.getD [b0, b1, b2, b3, b4, b5] j 0 = mB at *
        clear hgA hgB
        go_wp2
        go_roundg (6 - (j + 1))
        case measure => have := HKK.out; omega
        case rel =>
          have h2 := HZ.out.set j (mA ||| mB)
          rw [HE3.out] at h2
          exact ⟨j + 1, by omega, rfl, by go_num, h2, Blk.other HR.out _ (by dsimp only; omega), HKR.out.setCell _ (fun h => by dsimp only at h; omega)⟩
      · obtain rfl : j = 6 := by omega
        have hz : Blk wr w.heap.size [.int .i64 (a0 ||| b0 : Nat), .int .i64 (a1 ||| b1 : Nat), .int .i64 (a2 ||| b2 : Nat), .int .i64 (a3 ||| b3 : Nat), .int .i64 (a4 ||| b4 : Nat), .int .i64 (a5 ||| b5 : Nat)] 102 := HZ.out
        have hr : Blk wr (w.heap.size + 1 + 1) [.int .i64 0, .int .i64 0, .int .i64 0, .int .i64 0, .int .i64 0, .int .i64 0] 102 := HR.out
        have HRB := hide hr
        obtain ⟨c0, c1, c2, c3, c4, c5, cf, cl⟩ := hz.c6
        obtain ⟨d0, d1, d2, d3, d4, d5, df, dl⟩ := hr.c6
        clear hz hr
        have kk := HKR.out
        go_wp2
        have hr2 := HRB.out
        refine body_agg (Tb := 102) (b := w.heap.size + 1 + 1) (cs := [.int .i64 (a0 ||| b0 : Nat), .int .i64 (a1 ||| b1 : Nat), .int .i64 (a2 ||| b2 : Nat), .int .i64 (a3 ||| b3 : Nat), .int .i64 (a4 ||| b4 : Nat), .int .i64 (a5 ||| b5 : Nat)]) (.inr rfl) Tryz.results110 rfl rfl (by (repeat' (first | ((with_reducible show (_ : List Value) = _); rfl) | with_reducible exact hr2 | ((with_reducible refine Blk.newAt _ _ _ ?_); first | with_reducible rfl | (simp; done)) | with_reducible refine Blk.alloc ?_ _ | with_reducible refine Blk.drewN ?_ _ | with_reducible refine Blk.drew ?_ | ((with_reducible refine Blk.other ?_ _ ?_); rotate_left; ((try dsimp only); omega)) | with_reducible refine Blk.setB (cs0 := ?_) ?_ ?_))) Tryz.underlying102 rfl (by kernel_rfl) ?_
        rw [HJ.out]
        exact ⟨rfl, by (repeat' (first | with_reducible exact Kp.refl _ _ | with_reducible refine Kp.alloc ?_ _ | with_reducible refine Kp.drewN ?_ _ | with_reducible refine Kp.drew ?_ | with_reducible refine Kp.setCell ?_ _ ?_ | with_reducible refine Kp.trans ?_ kk (fun _ _ e => e) | (intro hh; first | rfl | exact .inl rfl | exact .inr rfl | (exfalso; (try dsimp only at hh); omega))))⟩
def setF (a : Int) : Bool := decide (1 ≤ a ∧ a ≤ 8)

set_option maxHeartbeats 1600000 in
theorem setsVariable_c (a : Int) (w : World) (h0 : 0 ≤ a) (h14 : a ≤ 14) :
    Calls Tryz.prog 155 #[.int .i64 a] w fun e w' => e = .returned (.bool (setF a)) ∧ w' = w := by
  rcases (show a = 0 ∨ a = 1 ∨ a = 2 ∨ a = 3 ∨ a = 4 ∨ a = 5 ∨ a = 6 ∨ a = 7 ∨ a = 8 ∨ a = 9 ∨ a = 10 ∨ a = 11 ∨ a = 12 ∨ a = 13 ∨ a = 14 by omega) with rfl | rfl | rfl | rfl | rfl | rfl | rfl | rfl | rfl | rfl | rfl | rfl | rfl | rfl | rfl
  all_goals
    go_enter Tryz.func155, Tryz.ntmps155
    go_wp2
    go_ret
    exact ⟨rfl, rfl⟩

def heldZ (y : Nat) : Nat := (if y.testBit 4 then 1 else 0) ||| (if y.testBit 5 then 14 else 0)

theorem and16 : ∀ y, y < 128 → (((y &&& 16 : Nat) : Int) != 0) = y.testBit 4 := by decide
theorem and32 : ∀ y, y < 128 → (((y &&& 32 : Nat) : Int) != 0) = y.testBit 5 := by decide

set_option maxHeartbeats 1600000 in
theorem kindsHeld_c (y : Nat) (w : World) (hy : y < 128) :
    Calls Tryz.prog 177 #[.int .i64 (y : Int)] w fun e w' => e = .returned (.int .i64 (heldZ y : Nat)) ∧ w' = w := by
  have b1 : bits .and .i64 (y : Int) 16 = ((y &&& 16 : Nat) : Int) := bits_and_nat y 16 hy (by decide)
  have b2 : bits .and .i64 (y : Int) 32 = ((y &&& 32 : Nat) : Int) := bits_and_nat y 32 hy (by decide)
  have f1 := and16 y hy
  have f2 := and32 y hy
  have HE : Hid (heldZ y = (if y.testBit 4 then 1 else 0) ||| (if y.testBit 5 then 14 else 0)) := rfl
  rw [HE.out]
  clear HE
  generalize y.testBit 4 = p at *
  generalize y.testBit 5 = q at *
  generalize ((y &&& 16 : Nat) : Int) = v1 at *
  generalize ((y &&& 32 : Nat) : Int) = v2 at *
  have o1 : bits .or .i64 0 1 = 1 := by decide
  have o2 : bits .or .i64 0 14 = 14 := by decide
  have o3 : bits .or .i64 1 14 = 15 := by decide
  cases p <;> cases q
  all_goals
    go_enter Tryz.func177, Tryz.ntmps177
    go_wp2
    go_ret
    exact ⟨rfl, rfl⟩

/-- What a node gives its variable, of what it reads. -/
def giZ (act ck : Int) (y : Nat) : Int :=
  if act = 1 then ck else if act = 2 then 127 else if act = 4 then 1 else if act = 5 then 6 else if act = 6 then 16 else if act = 7 then 32 else if act = 8 then (heldZ y : Nat) else (y : Int)

set_option maxHeartbeats 3200000 in
theorem kindsGiven_c (n : NN) (y : Nat) (w : World) (hy : y < 128) (h0 : 0 ≤ n.act) (h14 : n.act ≤ 14) :
    Calls Tryz.prog 156 #[.agg #[.string n.tx, .int .i64 n.act, .int .i64 n.x, .int .i64 n.y, .int .i64 n.w, .int .i64 n.ck, .int .i64 n.cn, .int .i64 n.ch, .int .i64 n.kd, .int .i64 n.yes, .int .i64 n.no], .int .i64 (y : Int)] w fun e w' => e = .returned (.int .i64 (giZ n.act n.ck y)) ∧ Kp no w w' := by
  have HK := hide (fun W => kindsHeld_c y W hy)
  obtain ⟨tx, act, nx, ny, nw, ck, cn, ch, kd, yes, no⟩ := n
  dsimp only at *
  rcases (show act = 0 ∨ act = 1 ∨ act = 2 ∨ act = 3 ∨ act = 4 ∨ act = 5 ∨ act = 6 ∨ act = 7 ∨ act = 8 ∨ act = 9 ∨ act = 10 ∨ act = 11 ∨ act = 12 ∨ act = 13 ∨ act = 14 by omega) with rfl | rfl | rfl | rfl | rfl | rfl | rfl | rfl | rfl | rfl | rfl | rfl | rfl | rfl | rfl
  all_goals
    clear h0 h14
    go_enter Tryz.func156, Tryz.ntmps156
    go_wp2_with (go_at_call 177; refine (HK.out _).mono ?_; rintro e w' ⟨rfl, rfl⟩)
    go_ret
    exact ⟨rfl, by (repeat' (first | with_reducible exact Kp.refl _ _ | with_reducible refine Kp.alloc ?_ _ | with_reducible refine Kp.drewN ?_ _ | with_reducible refine Kp.drew ?_ | with_reducible refine Kp.setCell ?_ _ ?_ | (intro hh; first | rfl | exact .inl rfl | exact .inr rfl | (exfalso; (try dsimp only at hh); omega))))⟩
end Go.Proofs.YtellieabhaphhaaGreatDoor
