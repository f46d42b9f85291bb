import Derived.Test.YtellieabhaphhaaGreatDoorPFaithfulJ
/-
  narrow's flow: sets of kinds as numbers.
-/
namespace Go.Proofs.YtellieabhaphhaaGreatDoor
open Go.RowKit

theorem ofi_nat (a : Nat) (ha : a < 128) : (BitVec.ofInt 64 (a : Int)).toNat = a := by
  rw [BitVec.ofInt_natCast, BitVec.toNat_ofNat]; exact Nat.mod_eq_of_lt (by omega)

theorem bits_and_nat (a b : Nat) (ha : a < 128) (hb : b < 128) : bits .and .i64 (a : Int) (b : Int) = ((a &&& b : Nat) : Int) := by
  have := and_lt b ha
  show IntKind.i64.wrap ((BitVec.ofInt 64 (a : Int) &&& BitVec.ofInt 64 (b : Int)).toNat : Int) = _
  rw [BitVec.toNat_and, ofi_nat a ha, ofi_nat b hb, IntKind.wrap_i64]
  omega

theorem bits_or_nat (a b : Nat) (ha : a < 128) (hb : b < 128) : bits .or .i64 (a : Int) (b : Int) = ((a ||| b : Nat) : Int) := by
  have := or_lt ha hb
  show IntKind.i64.wrap ((BitVec.ofInt 64 (a : Int) ||| BitVec.ofInt 64 (b : Int)).toNat : Int) = _
  rw [BitVec.toNat_or, ofi_nat a ha, ofi_nat b hb, IntKind.wrap_i64]
  omega

theorem not_bits (a b : Nat) (ha : a < 128) (hb : b < 128) : a &&& (2 ^ 64 - 1 - b) = a &&& (127 ^^^ b) := by
  refine Nat.eq_of_testBit_eq fun i => ?_
  rw [Nat.testBit_and, Nat.testBit_and, Nat.sub_sub, Nat.add_comm 1 b, Nat.testBit_two_pow_sub_succ (by omega), Nat.testBit_xor]
  by_cases hi : i < 7
  · rw [decide_eq_true (by omega : i < 64)]
    have : Nat.testBit 127 i = true := by
      rcases (show i = 0 ∨ i = 1 ∨ i = 2 ∨ i = 3 ∨ i = 4 ∨ i = 5 ∨ i = 6 by omega) with rfl | rfl | rfl | rfl | rfl | rfl | rfl <;> decide
    rw [this]
    cases b.testBit i <;> simp
  · have h2 : 128 ≤ 2 ^ i := by
      have : 2 ^ 7 ≤ 2 ^ i := Nat.pow_le_pow_right (by decide) (by omega)
      omega
    rw [Nat.testBit_lt_two_pow (show a < 2 ^ i by omega)]
    simp

theorem bits_not_nat (a b : Nat) (ha : a < 128) (hb : b < 128) : bits .andNot .i64 (a : Int) (b : Int) = ((a &&& (127 ^^^ b) : Nat) : Int) := by
  have := and_lt (127 ^^^ b) ha
  show IntKind.i64.wrap ((BitVec.ofInt 64 (a : Int) &&& ~~~(BitVec.ofInt 64 (b : Int))).toNat : Int) = _
  rw [BitVec.toNat_and, BitVec.toNat_not, ofi_nat a ha, ofi_nat b hb, not_bits a b ha hb, IntKind.wrap_i64]
  omega

/-- A state's sets, as narrow holds them. -/
def zc (Z : St) : List Value := Z.map (fun (m : Nat) => Value.int .i64 (m : Int))

/-- Six sets. -/
structure Z6 (Z : St) : Prop where
  len : Z.length = 6
  lt : ∀ m ∈ Z, m < 128

theorem Z6.get {Z : St} (h : Z6 Z) (i : Nat) : Z.getD i 0 < 128 := by
  rw [List.getD_eq_getElem?_getD]
  cases hx : Z[i]? with
  | none => simp
  | some m => exact h.lt m (List.mem_of_getElem? hx)

theorem Z6.set {Z : St} (h : Z6 Z) (i : Nat) {m : Nat} (hm : m < 128) : Z6 (Z.set i m) :=
  ⟨by rw [List.length_set]; exact h.len, fun z hz => by
    rcases List.mem_or_eq_of_mem_set hz with h1 | rfl
    · exact h.lt z h1
    · exact hm⟩

/-- A state in a block. -/
abbrev ZB (w : World) (b : Nat) (Z : St) : Prop := Blk w b (zc Z) 102

theorem ZB.at {w : World} {b : Nat} {Z : St} (h : ZB w b Z) {i : Nat} (hi : i < Z.length) : w.cell? ⟨b, i, none⟩ = some (.int .i64 (Z.getD i 0 : Nat)) := by
  rw [Blk.cell h]
  simp [zc, List.getD_eq_getElem?_getD, hi]

theorem zc_set (Z : St) (i m : Nat) : (zc Z).set i (.int .i64 (m : Int)) = zc (Z.set i m) := by
  unfold zc; rw [List.map_set]

theorem ZB.set {w : World} {b : Nat} {Z : St} (h : ZB w b Z) (i m : Nat) : ZB (w.setCell ⟨b, i, none⟩ (.int .i64 (m : Int))) b (Z.set i m) := by
  have := Blk.set h i (.int .i64 (m : Int))
  rwa [zc_set] at this

theorem zb_six {w : World} {b : Nat} {Z : St} (h : ZB w b Z) (h6 : Z6 Z) : ∃ m0 m1 m2 m3 m4 m5 : Nat, Z = [m0, m1, m2, m3, m4, m5] := by
  match Z, h6.len with
  | [m0, m1, m2, m3, m4, m5], _ => exact ⟨m0, m1, m2, m3, m4, m5, rfl⟩

theorem zIx (w : World) (m0 m1 m2 m3 m4 m5 : Nat) (j : Nat) (hj : j < 6) : (Instr.index 100 (.agg #[.int .i64 m0, .int .i64 m1, .int .i64 m2, .int .i64 m3, .int .i64 m4, .int .i64 m5]) (.int .i64 (j : Int))).run Tryz.prog w = .ok (.int .i64 (List.getD [m0, m1, m2, m3, m4, m5] j 0 : Nat)) w := by
  rcases (show j = 0 ∨ j = 1 ∨ j = 2 ∨ j = 3 ∨ j = 4 ∨ j = 5 by omega) with rfl | rfl | rfl | rfl | rfl | rfl <;> simp [Instr.index, go_sem]

theorem exS_no {Z : St} {j : Nat} (hj : j < Z.length) (h : Z.getD j 0 = 0) : exS Z = false := by
  unfold exS
  rw [List.all_eq_false]
  rw [List.getD_eq_getElem?_getD, List.getElem?_eq_getElem hj, Option.getD_some] at h
  exact ⟨Z[j], List.getElem_mem hj, by simp [h]⟩

theorem exS_yes {Z : St} (h : ∀ i, i < Z.length → Z.getD i 0 ≠ 0) : exS Z = true := by
  unfold exS
  rw [List.all_eq_true]
  intro m hm
  obtain ⟨i, hi, rfl⟩ := List.getElem_of_mem hm
  have := h i hi
  rw [List.getD_eq_getElem?_getD, List.getElem?_eq_getElem hi, Option.getD_some] at this
  simpa using this

set_option maxRecDepth 100000 in
set_option maxHeartbeats 1600000 in
theorem exists_c (b : Nat) (Z : St) (w : World) (h : ZB w b Z) (h6 : Z6 Z) :
    Calls Tryz.prog 103 #[.pointer (some ⟨b, 0, none⟩)] w fun e w' => e = .returned (.bool (exS Z)) ∧ w' = w := by
  obtain ⟨m0, m1, m2, m3, m4, m5, rfl⟩ := zb_six h h6
  have c0 := Blk.cell h 0; have c1 := Blk.cell h 1; have c2 := Blk.cell h 2; have c3 := Blk.cell h 3; have c4 := Blk.cell h 4; have c5 := Blk.cell h 5
  simp only [zc, List.map_cons, List.map_nil, List.getElem?_cons_zero, List.getElem?_cons_succ] at c0 c1 c2 c3 c4 c5
  have hlt := Blk.lt h
  have HIX := hide (fun W j hj => zIx W m0 m1 m2 m3 m4 m5 j hj)
  have HNO := hide (fun j hj h => exS_no (Z := [m0, m1, m2, m3, m4, m5]) (j := j) hj h)
  have HYES := hide (exS_yes (Z := [m0, m1, m2, m3, m4, m5]))
  clear h
  generalize hE : exS [m0, m1, m2, m3, m4, m5] = E at *
  clear hE
  go_enter Tryz.func103, Tryz.ntmps103
  go_wp2
  go_loopg [9] 6 (fun k iv wr => ∃ j : Nat, j ≤ 6 ∧ k = 6 - j ∧ iv = .int .i64 j ∧ (∀ i, i < j → List.getD [m0, m1, m2, m3, m4, m5] i 0 ≠ 0) ∧ wr = w)
  case atStart => exact ⟨0, by decide, rfl, rfl, fun i hi => by omega, rfl⟩
  case round =>
    obtain ⟨j, hj, hk, rfl, hz, rfl⟩ := hrel
    have HKK := hide hk
    have HZ := hide hz
    clear hk hz
    by_cases hlt6 : j < 6
    · have hix := HIX.out wr j hlt6
      have HN2 := hide (HNO.out j hlt6)
      generalize hmm : List.getD [m0, m1, m2, m3, m4, m5] j 0 = m at *
      have HMM := hide hmm
      clear hmm
      by_cases hm : m = 0
      · have HF := hide (HN2.out hm)
        subst hm
        go_wp2
        go_ret
        rw [HF.out]
        exact ⟨rfl, rfl⟩
      · have hm' : ((m : Int) == 0) = false := by simp; omega
        go_wp2
        go_roundg (6 - (j + 1))
        case measure => have := HKK.out; omega
        case rel => exact ⟨j + 1, by omega, rfl, by go_num, fun i hi => by
          rcases Nat.lt_or_ge i j with h1 | h1
          · exact HZ.out i h1
          · obtain rfl : i = j := by omega
            rw [HMM.out]; exact hm, rfl⟩
    · obtain rfl : j = 6 := by omega
      have HT := hide (HYES.out (fun i hi => HZ.out i hi))
      go_wp2
      go_ret
      rw [HT.out]
      exact ⟨rfl, rfl⟩

set_option maxRecDepth 100000 in
set_option maxHeartbeats 1600000 in
theorem kindsOf_c (b : Nat) (Z : St) (v : Nat) (w : World) (h : ZB w b Z) (h6 : Z6 Z) (hv : v < 6) :
    Calls Tryz.prog 122 #[.pointer (some ⟨b, 0, none⟩), .int .i64 v] w fun e w' => e = .returned (.int .i64 (Z.getD v 0 : Nat)) ∧ w' = w := by
  have hc := ZB.at h (i := v) (by rw [h6.len]; exact hv)
  have hlt := Blk.lt h
  generalize Z.getD v 0 = m at *
  have d0 : decide ((v : Int) < 0) = false := by simp
  have d1 : decide ((6 : Int) ≤ v) = false := by simp; omega
  have d2 : (v : Int) < 6 := by omega
  clear h
  go_enter Tryz.func122, Tryz.ntmps122
  go_wp2
  go_ret
  exact ⟨rfl, rfl⟩

set_option maxRecDepth 100000 in
set_option maxHeartbeats 1600000 in
theorem zset_c (b : Nat) (Z : St) (v m : Nat) (w : World) (h : ZB w b Z) (h6 : Z6 Z) (hv : v < 6) :
    Calls Tryz.prog 157 #[.pointer (some ⟨b, 0, none⟩), .int .i64 v, .int .i64 (m : Int)] w fun e w' => e = .returned (.tuple #[]) ∧ ZB w' b (Z.set v m) ∧ Kp (· = b) w w' := by
  have hc := ZB.at h (i := v) (by rw [h6.len]; exact hv)
  have hlt := Blk.lt h
  have hf := Blk.frozen h
  have HS := hide (h.set v m)
  generalize Z.getD v 0 = m0 at *
  have d0 : (0 : Int) ≤ (v : Int) := by omega
  have d2 : (v : Int) < 6 := by omega
  clear h
  go_enter Tryz.func157, Tryz.ntmps157
  go_wp2
  go_end0
  exact ⟨rfl, HS.out, (Kp.refl _ _).setCell _ (fun _ => rfl)⟩

set_option maxRecDepth 100000 in
set_option maxHeartbeats 1600000 in
theorem keep_c (b : Nat) (Z : St) (v m : Nat) (w : World) (h : ZB w b Z) (h6 : Z6 Z) (hv : v < 6) (hm : m < 128) :
    Calls Tryz.prog 153 #[.pointer (some ⟨b, 0, none⟩), .int .i64 v, .int .i64 (m : Int)] w fun e w' => e = .returned (.tuple #[]) ∧ ZB w' b (Z.set v (Z.getD v 0 &&& m)) ∧ Kp (· = b) w w' := by
  have HK := hide (kindsOf_c b Z v w h h6 hv)
  have HB := hide (bits_and_nat (Z.getD v 0) m (h6.get v) hm)
  have HS := hide (zset_c b Z v (Z.getD v 0 &&& m) w h h6 hv)
  generalize Z.getD v 0 = m0 at *
  go_enter Tryz.func153, Tryz.ntmps153
  go_wp2_with fail
  refine HK.out.mono ?_
  rintro e w' ⟨rfl, rfl⟩
  go_wp2_with fail
  rw [HB.out]
  refine HS.out.mono ?_
  rintro e w' ⟨rfl, h1, h2⟩
  go_wp2
  go_end0
  exact ⟨rfl, h1, h2⟩

def fZ (j : Nat) : St := (List.range 6).map (fun i => if i < j then 8 else 0)
theorem fZ_set (j : Nat) (hj : j < 6) : (fZ j).set j 8 = fZ (j + 1) := by
  rcases (show j = 0 ∨ j = 1 ∨ j = 2 ∨ j = 3 ∨ j = 4 ∨ j = 5 by omega) with rfl | rfl | rfl | rfl | rfl | rfl <;> decide
theorem fZ_len (j : Nat) : (fZ j).length = 6 := by simp [fZ]

theorem Blk.c6 {w : World} {b : Nat} {a0 a1 a2 a3 a4 a5 : Value} {T : TypeId} (h : Blk w b [a0, a1, a2, a3, a4, a5] T) :
    w.cell? ⟨b, 0, none⟩ = some a0 ∧ w.cell? ⟨b, 1, none⟩ = some a1 ∧ w.cell? ⟨b, 2, none⟩ = some a2 ∧ w.cell? ⟨b, 3, none⟩ = some a3 ∧ w.cell? ⟨b, 4, none⟩ = some a4 ∧ w.cell? ⟨b, 5, none⟩ = some a5 ∧ (∀ o, w.frozen? ⟨b, o, none⟩ = false) ∧ b < w.heap.size :=
  ⟨h.cell 0, h.cell 1, h.cell 2, h.cell 3, h.cell 4, h.cell 5, h.frozen, h.lt⟩

set_option maxRecDepth 100000 in
set_option maxHeartbeats 1600000 in
theorem firstState_c (w : World) :
    Calls Tryz.prog 61 #[] w fun e w' => e = .returned (.agg (zc st0).toArray) ∧ Kp no w w' := by
  go_enter Tryz.func61, Tryz.ntmps61
  go_wp2
  go_loopg [4] 6 (fun k iv wr => ∃ j : Nat, j ≤ 6 ∧ k = 6 - j ∧ iv = .int .i64 j ∧ ZB wr (w.heap.size + 1) (fZ j) ∧ ZB wr w.heap.size [0, 0, 0, 0, 0, 0] ∧ Kp no w wr)
  case atStart => exact ⟨0, by decide, rfl, rfl, by (show Blk _ _ [.int .i64 0, .int .i64 0, .int .i64 0, .int .i64 0, .int .i64 0, .int .i64 0] _); (repeat' (first | ((with_reducible show (_ : List Value) = _); rfl) | ((with_reducible refine Blk.newAt _ _ _ ?_); first | with_reducible rfl | (simp; done)) | with_reducible refine Blk.alloc ?_ _ | with_reducible refine Blk.drewN ?_ _ | with_reducible refine Blk.drew ?_ | ((with_reducible refine Blk.other ?_ _ ?_); rotate_left; ((try dsimp only); omega)) | with_reducible refine Blk.setB (cs0 := ?_) ?_ ?_)), by (show Blk _ _ [.int .i64 0, .int .i64 0, .int .i64 0, .int .i64 0, .int .i64 0, .int .i64 0] _); (repeat' (first | ((with_reducible show (_ : List Value) = _); rfl) | ((with_reducible refine Blk.newAt _ _ _ ?_); first | with_reducible rfl | (simp; done)) | with_reducible refine Blk.alloc ?_ _ | with_reducible refine Blk.drewN ?_ _ | with_reducible refine Blk.drew ?_ | ((with_reducible refine Blk.other ?_ _ ?_); rotate_left; ((try dsimp only); omega)) | with_reducible refine Blk.setB (cs0 := ?_) ?_ ?_)), by (repeat' (first | with_reducible exact Kp.refl _ _ | with_reducible refine Kp.alloc ?_ _ | with_reducible refine Kp.drewN ?_ _ | with_reducible refine Kp.drew ?_ | with_reducible refine Kp.setCell ?_ _ ?_ | (intro hh; first | rfl | exact .inl rfl | exact .inr rfl | (exfalso; (try dsimp only at hh); omega))))⟩
  case round =>
    obtain ⟨j, hj, hk, rfl, hz, hr, kr⟩ := hrel
    have HKK := hide hk
    have HZ := hide hz
    have HR := hide hr
    have HKR := hide kr
    clear hk hz hr kr
    by_cases hlt6 : j < 6
    · have hc := ZB.at HZ.out (i := j) (by rw [fZ_len]; exact hlt6)
      have hf := Blk.frozen HZ.out
      have hl := Blk.lt HZ.out
      have hjI : (j : Int) < 6 := by omega
      generalize (fZ j).getD j 0 = m0 at *
      go_wp2
      go_roundg (6 - (j + 1))
      case measure => have := HKK.out; omega
      case rel =>
        have h2 := HZ.out.set j 8
        rw [fZ_set j hlt6] at h2
        exact ⟨j + 1, by omega, rfl, by go_num, h2, Blk.other HR.out _ (by dsimp only; omega), HKR.out.setCell _ (fun h => by dsimp only at h; omega)⟩
    · obtain rfl : j = 6 := by omega
      have hz : Blk wr (w.heap.size + 1) [.int .i64 8, .int .i64 8, .int .i64 8, .int .i64 8, .int .i64 8, .int .i64 8] 102 := HZ.out
      have hr : Blk wr w.heap.size [.int .i64 0, .int .i64 0, .int .i64 0, .int .i64 0, .int .i64 0, .int .i64 0] 102 := HR.out
      have HRB := hide hr
      obtain ⟨c0, c1, c2, c3, c4, c5, cf, cl⟩ := hz.c6
      obtain ⟨d0, d1, d2, d3, d4, d5, df, dl⟩ := hr.c6
      clear hz hr
      have kk := HKR.out
      go_wp2
      have hr2 := HRB.out
      refine body_agg (Tb := 102) (b := w.heap.size) (cs := [.int .i64 8, .int .i64 8, .int .i64 8, .int .i64 8, .int .i64 8, .int .i64 8]) (.inr rfl) Tryz.results61 rfl rfl (by (repeat' (first | ((with_reducible show (_ : List Value) = _); rfl) | with_reducible exact hr2 | ((with_reducible refine Blk.newAt _ _ _ ?_); first | with_reducible rfl | (simp; done)) | with_reducible refine Blk.alloc ?_ _ | with_reducible refine Blk.drewN ?_ _ | with_reducible refine Blk.drew ?_ | ((with_reducible refine Blk.other ?_ _ ?_); rotate_left; ((try dsimp only); omega)) | with_reducible refine Blk.setB (cs0 := ?_) ?_ ?_))) Tryz.underlying102 rfl (by kernel_rfl) ?_
      exact ⟨rfl, by (repeat' (first | with_reducible exact Kp.refl _ _ | with_reducible refine Kp.alloc ?_ _ | with_reducible refine Kp.drewN ?_ _ | with_reducible refine Kp.drew ?_ | with_reducible refine Kp.setCell ?_ _ ?_ | with_reducible refine Kp.trans ?_ kk (fun _ _ e => e) | (intro hh; first | rfl | exact .inl rfl | exact .inr rfl | (exfalso; (try dsimp only at hh); omega))))⟩
end Go.Proofs.YtellieabhaphhaaGreatDoor

/-
  narrow's flow: the join of two states; what nodes give.
-/
namespace Go.Proofs.YtellieabhaphhaaGreatDoor
open Go.RowKit

def jnZ (s t : St) : St := if exS t then List.zipWith (· ||| ·) s t else s

abbrev zv6 (m0 m1 m2 m3 m4 m5 : Nat) : Value := .agg #[.int .i64 m0, .int .i64 m1, .int .i64 m2, .int .i64 m3, .int .i64 m4, .int .i64 m5]

def orJ (A B : St) (j : Nat) : St := (List.zipWith (· ||| ·) A B).take j ++ A.drop j

theorem orJ_step (a0 a1 a2 a3 a4 a5 b0 b1 b2 b3 b4 b5 : Nat) (j : Nat) (hj : j < 6) :
    (orJ [a0, a1, a2, a3, a4, a5] [b0, b1, b2, b3, b4, b5] j).length = 6 ∧ (orJ [a0, a1, a2, a3, a4, a5] [b0, b1, b2, b3, b4, b5] j).getD j 0 = List.getD [a0, a1, a2, a3, a4, a5] j 0 ∧
    (orJ [a0, a1, a2, a3, a4, a5] [b0, b1, b2, b3, b4, b5] j).set j (List.getD [a0, a1, a2, a3, a4, a5] j 0 ||| List.getD [b0, b1, b2, b3, b4, b5] j 0) = orJ [a0, a1, a2, a3, a4, a5] [b0, b1, b2, b3, b4, b5] (j + 1) := by
  rcases (show j = 0 ∨ j = 1 ∨ j = 2 ∨ j = 3 ∨ j = 4 ∨ j = 5 by omega) with rfl | rfl | rfl | rfl | rfl | rfl <;> exact ⟨rfl, rfl, rfl⟩

set_option maxRecDepth 100000 in
set_option maxHeartbeats 1600000 in
theorem joined_c (a0 a1 a2 a3 a4 a5 b0 b1 b2 b3 b4 b5 : Nat) (w : World) (ha : Z6 [a0, a1, a2, a3, a4, a5]) (hb : Z6 [b0, b1, b2, b3, b4, b5]) :
    Calls Tryz.prog 110 #[zv6 a0 a1 a2 a3 a4 a5, zv6 b0 b1 b2 b3 b4 b5] w fun e w' => e = .returned (.agg (zc (jnZ [a0, a1, a2, a3, a4, a5] [b0, b1, b2, b3, b4, b5])).toArray) ∧ Kp no w w' := by
  have HX := hide (fun b W h => exists_c b [b0, b1, b2, b3, b4, b5] W h hb)
  go_enter Tryz.func110, Tryz.ntmps110
  go_wp2_with fail
  refine (HX.out _ _ (by (show Blk _ _ [.int .i64 b0, .int .i64 b1, .int .i64 b2, .int .i64 b3, .int .i64 b4, .int .i64 b5] _); (repeat' (first | ((with_reducible show (_ : List Value) = _); rfl) | ((with_reducible refine Blk.newAt _ _ _ ?_); first | with_reducible rfl | (simp; done)) | with_reducible refine Blk.alloc ?_ _ | with_reducible refine Blk.drewN ?_ _ | with_reducible refine Blk.drew ?_ | ((with_reducible refine Blk.other ?_ _ ?_); rotate_left; ((try dsimp only); omega)) | with_reducible refine Blk.setB (cs0 := ?_) ?_ ?_)))).mono ?_
  rintro e w' ⟨rfl, rfl⟩
  cases hE : exS [b0, b1, b2, b3, b4, b5]
  · have HJ := hide (show jnZ [a0, a1, a2, a3, a4, a5] [b0, b1, b2, b3, b4, b5] = [a0, a1, a2, a3, a4, a5] by rw [jnZ, hE]; rfl)
    clear hE
    go_wp2
    refine body_agg (Tb := 102) (b := w.heap.size + 1 + 1) (cs := [.int .i64 a0, .int .i64 a1, .int .i64 a2, .int .i64 a3, .int .i64 a4, .int .i64 a5]) (.inr rfl) Tryz.results110 rfl rfl (by (repeat' (first | ((with_reducible show (_ : List Value) = _); rfl) | ((with_reducible refine Blk.newAt _ _ _ ?_); first | with_reducible rfl | (simp; done)) | with_reducible refine Blk.alloc ?_ _ | with_reducible refine Blk.drewN ?_ _ | with_reducible refine Blk.drew ?_ | ((with_reducible refine Blk.other ?_ _ ?_); rotate_left; ((try dsimp only); omega)) | with_reducible refine Blk.setB (cs0 := ?_) ?_ ?_))) Tryz.underlying102 rfl (by kernel_rfl) ?_
    rw [HJ.out]
    exact ⟨rfl, by (repeat' (first | with_reducible exact Kp.refl _ _ | with_reducible refine Kp.alloc ?_ _ | with_reducible refine Kp.drewN ?_ _ | with_reducible refine Kp.drew ?_ | with_reducible refine Kp.setCell ?_ _ ?_ | (intro hh; first | rfl | exact .inl rfl | exact .inr rfl | (exfalso; (try dsimp only at hh); omega))))⟩
  · have HJ := hide (show jnZ [a0, a1, a2, a3, a4, a5] [b0, b1, b2, b3, b4, b5] = [a0 ||| b0, a1 ||| b1, a2 ||| b2, a3 ||| b3, a4 ||| b4, a5 ||| b5] by rw [jnZ, hE]; rfl)
    clear hE HX
    have HIX := hide (fun W j hj => zIx W b0 b1 b2 b3 b4 b5 j hj)
    have HOJ := hide (orJ_step a0 a1 a2 a3 a4 a5 b0 b1 b2 b3 b4 b5)
    go_wp2
    go_loopg [12] 6 (fun k iv wr => ∃ j : Nat, j ≤ 6 ∧ k = 6 - j ∧ iv = .int .i64 j ∧ ZB wr w.heap.size (orJ [a0, a1, a2, a3, a4, a5] [b0, b1, b2, b3, b4, b5] j) ∧ ZB wr (w.heap.size + 1 + 1) [0, 0, 0, 0, 0, 0] ∧ Kp no w wr)
    case atStart => exact ⟨0, by decide, rfl, rfl, by (show Blk _ _ [.int .i64 a0, .int .i64 a1, .int .i64 a2, .int .i64 a3, .int .i64 a4, .int .i64 a5] _); (repeat' (first | ((with_reducible show (_ : List Value) = _); rfl) | ((with_reducible refine Blk.newAt _ _ _ ?_); first | with_reducible rfl | (simp; done)) | with_reducible refine Blk.alloc ?_ _ | with_reducible refine Blk.drewN ?_ _ | with_reducible refine Blk.drew ?_ | ((with_reducible refine Blk.other ?_ _ ?_); rotate_left; ((try dsimp only); omega)) | with_reducible refine Blk.setB (cs0 := ?_) ?_ ?_)), by (show Blk _ _ [.int .i64 0, .int .i64 0, .int .i64 0, .int .i64 0, .int .i64 0, .int .i64 0] _); (repeat' (first | ((with_reducible show (_ : List Value) = _); rfl) | ((with_reducible refine Blk.newAt _ _ _ ?_); first | with_reducible rfl | (simp; done)) | with_reducible refine Blk.alloc ?_ _ | with_reducible refine Blk.drewN ?_ _ | with_reducible refine Blk.drew ?_ | ((with_reducible refine Blk.other ?_ _ ?_); rotate_left; ((try dsimp only); omega)) | with_reducible refine Blk.setB (cs0 := ?_) ?_ ?_)), by (repeat' (first | with_reducible exact Kp.refl _ _ | with_reducible refine Kp.alloc ?_ _ | with_reducible refine Kp.drewN ?_ _ | with_reducible refine Kp.drew ?_ | with_reducible refine Kp.setCell ?_ _ ?_ | (intro hh; first | rfl | exact .inl rfl | exact .inr rfl | (exfalso; (try dsimp only at hh); omega))))⟩
    case round =>
      obtain ⟨j, hj, hk, rfl, hz, hr, kr⟩ := hrel
      have HKK := hide hk
      have HZ := hide hz
      have HR := hide hr
      have HKR := hide kr
      clear hk hz hr kr
      by_cases hlt6 : j < 6
      · obtain ⟨e1, e2, e3⟩ := HOJ.out j hlt6
        have hc := ZB.at HZ.out (i := j) (by rw [e1]; exact hlt6)
        rw [e2] at hc
        have HE3 := hide e3
        have hf := Blk.frozen HZ.out
        have hl := Blk.lt HZ.out
        have hjI : (j : Int) < 6 := by omega
        have hix := HIX.out wr j hlt6
        have hbo := bits_or_nat _ _ (ha.get j) (hb.get j)
        clear e1 e2 e3 HIX HOJ
        generalize hgA : List.getD [a0, a1, a2, a3, a4, a5] j 0 = mA at *
        generalize hgB : List.getD [b0, b1, b2, b3, b4, b5] j 0 = mB at *
        clear hgA hgB
        go_wp2
        go_roundg (6 - (j + 1))
        case measure => have := HKK.out; omega
        case rel =>
          have h2 := HZ.out.set j (mA ||| mB)
          rw [HE3.out] at h2
          exact ⟨j + 1, by omega, rfl, by go_num, h2, Blk.other HR.out _ (by dsimp only; omega), HKR.out.setCell _ (fun h => by dsimp only at h; omega)⟩
      · obtain rfl : j = 6 := by omega
        have hz : Blk wr w.heap.size [.int .i64 (a0 ||| b0 : Nat), .int .i64 (a1 ||| b1 : Nat), .int .i64 (a2 ||| b2 : Nat), .int .i64 (a3 ||| b3 : Nat), .int .i64 (a4 ||| b4 : Nat), .int .i64 (a5 ||| b5 : Nat)] 102 := HZ.out
        have hr : Blk wr (w.heap.size + 1 + 1) [.int .i64 0, .int .i64 0, .int .i64 0, .int .i64 0, .int .i64 0, .int .i64 0] 102 := HR.out
        have HRB := hide hr
        obtain ⟨c0, c1, c2, c3, c4, c5, cf, cl⟩ := hz.c6
        obtain ⟨d0, d1, d2, d3, d4, d5, df, dl⟩ := hr.c6
        clear hz hr
        have kk := HKR.out
        go_wp2
        have hr2 := HRB.out
        refine body_agg (Tb := 102) (b := w.heap.size + 1 + 1) (cs := [.int .i64 (a0 ||| b0 : Nat), .int .i64 (a1 ||| b1 : Nat), .int .i64 (a2 ||| b2 : Nat), .int .i64 (a3 ||| b3 : Nat), .int .i64 (a4 ||| b4 : Nat), .int .i64 (a5 ||| b5 : Nat)]) (.inr rfl) Tryz.results110 rfl rfl (by (repeat' (first | ((with_reducible show (_ : List Value) = _); rfl) | with_reducible exact hr2 | ((with_reducible refine Blk.newAt _ _ _ ?_); first | with_reducible rfl | (simp; done)) | with_reducible refine Blk.alloc ?_ _ | with_reducible refine Blk.drewN ?_ _ | with_reducible refine Blk.drew ?_ | ((with_reducible refine Blk.other ?_ _ ?_); rotate_left; ((try dsimp only); omega)) | with_reducible refine Blk.setB (cs0 := ?_) ?_ ?_))) Tryz.underlying102 rfl (by kernel_rfl) ?_
        rw [HJ.out]
        exact ⟨rfl, by (repeat' (first | with_reducible exact Kp.refl _ _ | with_reducible refine Kp.alloc ?_ _ | with_reducible refine Kp.drewN ?_ _ | with_reducible refine Kp.drew ?_ | with_reducible refine Kp.setCell ?_ _ ?_ | with_reducible refine Kp.trans ?_ kk (fun _ _ e => e) | (intro hh; first | rfl | exact .inl rfl | exact .inr rfl | (exfalso; (try dsimp only at hh); omega))))⟩
def setF (a : Int) : Bool := decide (1 ≤ a ∧ a ≤ 8)

set_option maxHeartbeats 1600000 in
theorem setsVariable_c (a : Int) (w : World) (h0 : 0 ≤ a) (h14 : a ≤ 14) :
    Calls Tryz.prog 155 #[.int .i64 a] w fun e w' => e = .returned (.bool (setF a)) ∧ w' = w := by
  rcases (show a = 0 ∨ a = 1 ∨ a = 2 ∨ a = 3 ∨ a = 4 ∨ a = 5 ∨ a = 6 ∨ a = 7 ∨ a = 8 ∨ a = 9 ∨ a = 10 ∨ a = 11 ∨ a = 12 ∨ a = 13 ∨ a = 14 by omega) with rfl | rfl | rfl | rfl | rfl | rfl | rfl | rfl | rfl | rfl | rfl | rfl | rfl | rfl | rfl
  all_goals
    go_enter Tryz.func155, Tryz.ntmps155
    go_wp2
    go_ret
    exact ⟨rfl, rfl⟩

def heldZ (y : Nat) : Nat := (if y.testBit 4 then 1 else 0) ||| (if y.testBit 5 then 14 else 0)

theorem and16 : ∀ y, y < 128 → (((y &&& 16 : Nat) : Int) != 0) = y.testBit 4 := by decide
theorem and32 : ∀ y, y < 128 → (((y &&& 32 : Nat) : Int) != 0) = y.testBit 5 := by decide

set_option maxHeartbeats 1600000 in
theorem kindsHeld_c (y : Nat) (w : World) (hy : y < 128) :
    Calls Tryz.prog 177 #[.int .i64 (y : Int)] w fun e w' => e = .returned (.int .i64 (heldZ y : Nat)) ∧ w' = w := by
  have b1 : bits .and .i64 (y : Int) 16 = ((y &&& 16 : Nat) : Int) := bits_and_nat y 16 hy (by decide)
  have b2 : bits .and .i64 (y : Int) 32 = ((y &&& 32 : Nat) : Int) := bits_and_nat y 32 hy (by decide)
  have f1 := and16 y hy
  have f2 := and32 y hy
  have HE : Hid (heldZ y = (if y.testBit 4 then 1 else 0) ||| (if y.testBit 5 then 14 else 0)) := rfl
  rw [HE.out]
  clear HE
  generalize y.testBit 4 = p at *
  generalize y.testBit 5 = q at *
  generalize ((y &&& 16 : Nat) : Int) = v1 at *
  generalize ((y &&& 32 : Nat) : Int) = v2 at *
  have o1 : bits .or .i64 0 1 = 1 := by decide
  have o2 : bits .or .i64 0 14 = 14 := by decide
  have o3 : bits .or .i64 1 14 = 15 := by decide
  cases p <;> cases q
  all_goals
    go_enter Tryz.func177, Tryz.ntmps177
    go_wp2
    go_ret
    exact ⟨rfl, rfl⟩

/-- What a node gives its variable, of what it reads. -/
def giZ (act ck : Int) (y : Nat) : Int :=
  if act = 1 then ck else if act = 2 then 127 else if act = 4 then 1 else if act = 5 then 6 else if act = 6 then 16 else if act = 7 then 32 else if act = 8 then (heldZ y : Nat) else (y : Int)

set_option maxHeartbeats 3200000 in
theorem kindsGiven_c (n : NN) (y : Nat) (w : World) (hy : y < 128) (h0 : 0 ≤ n.act) (h14 : n.act ≤ 14) :
    Calls Tryz.prog 156 #[.agg #[.string n.tx, .int .i64 n.act, .int .i64 n.x, .int .i64 n.y, .int .i64 n.w, .int .i64 n.ck, .int .i64 n.cn, .int .i64 n.ch, .int .i64 n.kd, .int .i64 n.yes, .int .i64 n.no], .int .i64 (y : Int)] w fun e w' => e = .returned (.int .i64 (giZ n.act n.ck y)) ∧ Kp no w w' := by
  have HK := hide (fun W => kindsHeld_c y W hy)
  obtain ⟨tx, act, nx, ny, nw, ck, cn, ch, kd, yes, no⟩ := n
  dsimp only at *
  rcases (show act = 0 ∨ act = 1 ∨ act = 2 ∨ act = 3 ∨ act = 4 ∨ act = 5 ∨ act = 6 ∨ act = 7 ∨ act = 8 ∨ act = 9 ∨ act = 10 ∨ act = 11 ∨ act = 12 ∨ act = 13 ∨ act = 14 by omega) with rfl | rfl | rfl | rfl | rfl | rfl | rfl | rfl | rfl | rfl | rfl | rfl | rfl | rfl | rfl
  all_goals
    clear h0 h14
    go_enter Tryz.func156, Tryz.ntmps156
    go_wp2_with (go_at_call 177; refine (HK.out _).mono ?_; rintro e w' ⟨rfl, rfl⟩)
    go_ret
    exact ⟨rfl, by (repeat' (first | with_reducible exact Kp.refl _ _ | with_reducible refine Kp.alloc ?_ _ | with_reducible refine Kp.drewN ?_ _ | with_reducible refine Kp.drew ?_ | with_reducible refine Kp.setCell ?_ _ ?_ | (intro hh; first | rfl | exact .inl rfl | exact .inr rfl | (exfalso; (try dsimp only at hh); omega))))⟩
end Go.Proofs.YtellieabhaphhaaGreatDoor

/-
  narrow's flow: what comes along a way of a node.
-/
namespace Go.Proofs.YtellieabhaphhaaGreatDoor
open Go.RowKit

def waZ (act : Int) (kd : Nat) (b : Bool) : Nat := if act = 12 then (if b then 115 else 13) else (if b then kd else 127 &&& (127 ^^^ kd))

theorem waZ_lt (act : Int) (kd : Nat) (b : Bool) (h : kd < 128) : waZ act kd b < 128 := by
  unfold waZ
  repeat' split
  all_goals first | exact h | exact and_lt _ (by decide) | decide

set_option maxHeartbeats 1600000 in
theorem kindsAlong_c (n : NN) (kd : Nat) (b : Bool) (w : World) (hk : n.kd = (kd : Int)) (hk2 : kd < 128) (h : n.act = 12 ∨ n.act = 13) :
    Calls Tryz.prog 154 #[.agg #[.string n.tx, .int .i64 n.act, .int .i64 n.x, .int .i64 n.y, .int .i64 n.w, .int .i64 n.ck, .int .i64 n.cn, .int .i64 n.ch, .int .i64 n.kd, .int .i64 n.yes, .int .i64 n.no], .bool b] w fun e w' => e = .returned (.int .i64 (waZ n.act kd b : Nat)) ∧ Kp no w w' := by
  have b1 : bits .andNot .i64 127 (kd : Int) = ((127 &&& (127 ^^^ kd) : Nat) : Int) := bits_not_nat 127 kd (by decide) hk2
  obtain ⟨tx, act, nx, ny, nw, ck, cn, ch, kd', yes, no⟩ := n
  dsimp only at *
  subst hk
  rcases h with rfl | rfl <;> cases b
  all_goals
    unfold waZ
    simp only [if_true, Bool.false_eq_true, if_false, Int.reduceEq]
    generalize 127 &&& (127 ^^^ kd) = nk at *
    go_enter Tryz.func154, Tryz.ntmps154
    go_wp2
    go_ret
    exact ⟨rfl, by (repeat' (first | with_reducible exact Kp.refl _ _ | with_reducible refine Kp.alloc ?_ _ | with_reducible refine Kp.drewN ?_ _ | with_reducible refine Kp.drew ?_ | with_reducible refine Kp.setCell ?_ _ ?_ | (intro hh; first | rfl | exact .inl rfl | exact .inr rfl | (exfalso; (try dsimp only at hh); omega))))⟩

def keZ (S : St) (v m : Nat) : St := S.set v (S.getD v 0 &&& m)

theorem Z6.ke {S : St} (h : Z6 S) (v m : Nat) : Z6 (keZ S v m) := h.set v (and_lt m (h.get v))

structure AS (w : World) (H : Nat) (nc : List Value) (S : St) : Prop where
  n : Blk w H nc 91
  r : ZB w (H + 1 + 1) [0, 0, 0, 0, 0, 0]
  s : ZB w (H + 1 + 1 + 1) S

theorem AS.r' {w : World} {H : Nat} {nc : List Value} {S : St} (h : AS w H nc S) : Blk w (H + 1 + 1) [.int .i64 0, .int .i64 0, .int .i64 0, .int .i64 0, .int .i64 0, .int .i64 0] 102 := h.r
theorem AS.s' {w : World} {H : Nat} {nc : List Value} {t0 t1 t2 t3 t4 t5 : Nat} (h : AS w H nc [t0, t1, t2, t3, t4, t5]) (_ _ _ _ _ _ : Nat) : Blk w (H + 1 + 1 + 1) [.int .i64 t0, .int .i64 t1, .int .i64 t2, .int .i64 t3, .int .i64 t4, .int .i64 t5] 102 := h.s
theorem AS.kn {w w' : World} {H : Nat} {nc : List Value} {S : St} (h : AS w H nc S) (k : Kp no w w') : AS w' H nc S := ⟨k.blk h.n no_elim, k.blk h.r no_elim, k.blk h.s no_elim⟩
theorem AS.ks {w w' : World} {H : Nat} {nc : List Value} {S S' : St} (h : AS w H nc S) (k : Kp (· = H + 1 + 1 + 1) w w') (hz : ZB w' (H + 1 + 1 + 1) S') : AS w' H nc S' :=
  ⟨k.blk h.n (by omega), k.blk h.r (by omega), hz⟩

/-- What is set behind what stays. -/
def alZ (act : Int) (gi : Nat → Nat) (S : St) (x y : Nat) : St := if exS S && setF act then S.set x (gi (S.getD y 0)) else S

set_option maxRecDepth 100000 in
set_option maxHeartbeats 3200000 in
theorem stateAlong_o (tx : ByteArray) (act ck cn ch yes nwy : Int) (x y v kd : Nat) (s0 s1 s2 s3 s4 s5 : Nat) (b : Bool) (w : World) (hs : Z6 [s0, s1, s2, s3, s4, s5]) (hx6 : x < 6) (hy6 : y < 6) (hv6 : v < 6)
    (h0 : 0 ≤ act) (h14 : act ≤ 14) (hn : act ≠ 10 ∧ act ≠ 11 ∧ act ≠ 12 ∧ act ≠ 13) (tk : Nat) (htk : tkM act = (tk : Int)) (htk2 : tk < 128) (gi : Nat → Nat) (hg : ∀ u, u < 128 → giZ act ck u = ((gi u : Nat) : Int)) (hgl : ∀ u, u < 128 → gi u < 128) :
    Calls Tryz.prog 111 #[.agg #[.string tx, .int .i64 act, .int .i64 x, .int .i64 y, .int .i64 v, .int .i64 ck, .int .i64 cn, .int .i64 ch, .int .i64 kd, .int .i64 yes, .int .i64 nwy], zv6 s0 s1 s2 s3 s4 s5, .bool b] w fun e w' => e = .returned (.agg (zc (alZ act gi (keZ (keZ [s0, s1, s2, s3, s4, s5] y tk) v tk) x y)).toArray) ∧ Kp no w w' := by
  have HT := hide (fun W => ntakenKinds_c act W)
  rw [htk] at HT
  have HSV := hide (fun W => setsVariable_c act W h0 h14)
  have HGV := hide (fun u hu W => kindsGiven_c ⟨tx, act, x, y, v, ck, cn, ch, kd, yes, nwy⟩ u W hu h0 h14)
  have HGV2 : Hid (∀ u : Nat, u < 128 → ∀ W, Calls Tryz.prog 156 #[.agg #[.string tx, .int .i64 act, .int .i64 x, .int .i64 y, .int .i64 v, .int .i64 ck, .int .i64 cn, .int .i64 ch, .int .i64 kd, .int .i64 yes, .int .i64 nwy], .int .i64 (u : Int)] W fun e w' => e = .returned (.int .i64 (gi u : Nat)) ∧ Kp no W w') := fun u hu W => by
    have := HGV.out u hu W
    rw [show giZ (NN.mk tx act x y v ck cn ch kd yes nwy).act (NN.mk tx act x y v ck cn ch kd yes nwy).ck u = ((gi u : Nat) : Int) from hg u hu] at this
    exact this
  clear HGV
  have HGV := HGV2
  clear HGV2 hg htk
  have g10 : (act == 10) = false := by simp; omega
  have g11 : (act == 11) = false := by simp; omega
  have g12 : (act == 12) = false := by simp; omega
  have g13 : (act == 13) = false := by simp; omega
  have HK1 := hide (fun W h => keep_c (w.heap.size + 1 + 1 + 1) [s0, s1, s2, s3, s4, s5] y tk W h hs hy6 htk2)
  have H61 := hide (hs.ke y tk)
  have HK2 := hide (fun W h => keep_c (w.heap.size + 1 + 1 + 1) (keZ [s0, s1, s2, s3, s4, s5] y tk) v tk W h H61.out hv6 htk2)
  have H62 := hide (H61.out.ke v tk)
  go_enter Tryz.func111, Tryz.ntmps111
  go_wp2_with (go_at_call 123; refine (HT.out _).mono ?_; rintro e w' ⟨rfl, rfl⟩)
  have hsb : Blk (((((w.alloc (.cells #[.string tx, .int .i64 act, .int .i64 x, .int .i64 y, .int .i64 v, .int .i64 ck, .int .i64 cn, .int .i64 ch, .int .i64 kd, .int .i64 yes, .int .i64 nwy] 91)).alloc (.cells #[.int .i64 s0, .int .i64 s1, .int .i64 s2, .int .i64 s3, .int .i64 s4, .int .i64 s5] 102)).alloc (.cells #[.int .i64 0, .int .i64 0, .int .i64 0, .int .i64 0, .int .i64 0, .int .i64 0] 102)).alloc (.cells #[.int .i64 s0, .int .i64 s1, .int .i64 s2, .int .i64 s3, .int .i64 s4, .int .i64 s5] 102))) (w.heap.size + 1 + 1 + 1) [.int .i64 s0, .int .i64 s1, .int .i64 s2, .int .i64 s3, .int .i64 s4, .int .i64 s5] 102 := by (repeat' (first | ((with_reducible show (_ : List Value) = _); rfl) | ((with_reducible refine Blk.newAt _ _ _ ?_); first | with_reducible rfl | (simp; done)) | with_reducible refine Blk.alloc ?_ _ | with_reducible refine Blk.drewN ?_ _ | with_reducible refine Blk.drew ?_ | ((with_reducible refine Blk.other ?_ _ ?_); rotate_left; ((try dsimp only); omega)) | with_reducible refine Blk.setB (cs0 := ?_) ?_ ?_))
  have hrb : Blk (((((w.alloc (.cells #[.string tx, .int .i64 act, .int .i64 x, .int .i64 y, .int .i64 v, .int .i64 ck, .int .i64 cn, .int .i64 ch, .int .i64 kd, .int .i64 yes, .int .i64 nwy] 91)).alloc (.cells #[.int .i64 s0, .int .i64 s1, .int .i64 s2, .int .i64 s3, .int .i64 s4, .int .i64 s5] 102)).alloc (.cells #[.int .i64 0, .int .i64 0, .int .i64 0, .int .i64 0, .int .i64 0, .int .i64 0] 102)).alloc (.cells #[.int .i64 s0, .int .i64 s1, .int .i64 s2, .int .i64 s3, .int .i64 s4, .int .i64 s5] 102))) (w.heap.size + 1 + 1) [.int .i64 0, .int .i64 0, .int .i64 0, .int .i64 0, .int .i64 0, .int .i64 0] 102 := by (repeat' (first | ((with_reducible show (_ : List Value) = _); rfl) | ((with_reducible refine Blk.newAt _ _ _ ?_); first | with_reducible rfl | (simp; done)) | with_reducible refine Blk.alloc ?_ _ | with_reducible refine Blk.drewN ?_ _ | with_reducible refine Blk.drew ?_ | ((with_reducible refine Blk.other ?_ _ ?_); rotate_left; ((try dsimp only); omega)) | with_reducible refine Blk.setB (cs0 := ?_) ?_ ?_))
  have hnb : Blk (((((w.alloc (.cells #[.string tx, .int .i64 act, .int .i64 x, .int .i64 y, .int .i64 v, .int .i64 ck, .int .i64 cn, .int .i64 ch, .int .i64 kd, .int .i64 yes, .int .i64 nwy] 91)).alloc (.cells #[.int .i64 s0, .int .i64 s1, .int .i64 s2, .int .i64 s3, .int .i64 s4, .int .i64 s5] 102)).alloc (.cells #[.int .i64 0, .int .i64 0, .int .i64 0, .int .i64 0, .int .i64 0, .int .i64 0] 102)).alloc (.cells #[.int .i64 s0, .int .i64 s1, .int .i64 s2, .int .i64 s3, .int .i64 s4, .int .i64 s5] 102))) w.heap.size [.string tx, .int .i64 act, .int .i64 x, .int .i64 y, .int .i64 v, .int .i64 ck, .int .i64 cn, .int .i64 ch, .int .i64 kd, .int .i64 yes, .int .i64 nwy] 91 := by (repeat' (first | ((with_reducible show (_ : List Value) = _); rfl) | ((with_reducible refine Blk.newAt _ _ _ ?_); first | with_reducible rfl | (simp; done)) | with_reducible refine Blk.alloc ?_ _ | with_reducible refine Blk.drewN ?_ _ | with_reducible refine Blk.drew ?_ | ((with_reducible refine Blk.other ?_ _ ?_); rotate_left; ((try dsimp only); omega)) | with_reducible refine Blk.setB (cs0 := ?_) ?_ ?_))
  have hkk : Kp no w (((((w.alloc (.cells #[.string tx, .int .i64 act, .int .i64 x, .int .i64 y, .int .i64 v, .int .i64 ck, .int .i64 cn, .int .i64 ch, .int .i64 kd, .int .i64 yes, .int .i64 nwy] 91)).alloc (.cells #[.int .i64 s0, .int .i64 s1, .int .i64 s2, .int .i64 s3, .int .i64 s4, .int .i64 s5] 102)).alloc (.cells #[.int .i64 0, .int .i64 0, .int .i64 0, .int .i64 0, .int .i64 0, .int .i64 0] 102)).alloc (.cells #[.int .i64 s0, .int .i64 s1, .int .i64 s2, .int .i64 s3, .int .i64 s4, .int .i64 s5] 102))) := by (repeat' (first | with_reducible exact Kp.refl _ _ | with_reducible refine Kp.alloc ?_ _ | with_reducible refine Kp.drewN ?_ _ | with_reducible refine Kp.drew ?_ | with_reducible refine Kp.setCell ?_ _ ?_ | (intro hh; first | rfl | exact .inl rfl | exact .inr rfl | (exfalso; (try dsimp only at hh); omega))))
  have HA0 := hide (AS.mk hnb hrb hsb : AS _ _ _ [s0, s1, s2, s3, s4, s5])
  have HKK0 := hide hkk
  clear hnb hrb hsb hkk
  refine (HK1.out _ HA0.out.s).mono ?_
  rintro e w1 ⟨rfl, hz1, k1⟩
  have HA1 := hide (HA0.out.ks k1 hz1)
  have HKK1 := hide (HKK0.out.trans k1 (fun z hz e => by omega))
  clear hz1 k1 HA0 HKK0
  obtain ⟨n0, n1, n2, n3, n4, n5, n6, n7, n8, n9, n10, nf⟩ := HA1.out.n.c11; have hnl := HA1.out.n.lt
  go_wp2_with fail
  refine (HK2.out _ HA1.out.s).mono ?_
  rintro e w2 ⟨rfl, hz2, k2⟩
  have HA2 := hide (HA1.out.ks k2 hz2)
  have HKK2 := hide (HKK1.out.trans k2 (fun z hz e => by omega))
  clear hz2 k2 HA1 HKK1
  clear n0 n1 n2 n3 n4 n5 n6 n7 n8 n9 n10 nf hnl
  obtain ⟨n0, n1, n2, n3, n4, n5, n6, n7, n8, n9, n10, nf⟩ := HA2.out.n.c11; have hnl := HA2.out.n.lt
  change Hid (AS _ _ _ (keZ (keZ [s0, s1, s2, s3, s4, s5] y tk) v tk)) at HA2
  generalize hSE : keZ (keZ [s0, s1, s2, s3, s4, s5] y tk) v tk = S3 at *
  have HSE := hide hSE
  clear hSE
  have HA3 := HA2
  have HKK := HKK2
  have H63 := H62
  obtain ⟨t0, t1, t2, t3, t4, t5, hS⟩ := zb_six HA3.out.s H63.out
  rw [hS] at HA3 H63 HSE
  clear hS
  have HXX := hide (fun b W h => exists_c b [t0, t1, t2, t3, t4, t5] W h H63.out)
  go_wp2_with fail
  refine (HXX.out _ _ HA3.out.s).mono ?_
  rintro e w' ⟨rfl, rfl⟩
  cases hE : exS [t0, t1, t2, t3, t4, t5]
  · have HR := hide (show alZ act gi [t0, t1, t2, t3, t4, t5] x y = [t0, t1, t2, t3, t4, t5] by rw [alZ, hE]; rfl)
    clear hE
    obtain ⟨n0, n1, n2, n3, n4, n5, n6, n7, n8, n9, n10, nf⟩ := HA3.out.n.c11; have hnl := HA3.out.n.lt; obtain ⟨c0, c1, c2, c3, c4, c5, cf, cl⟩ := Blk.c6 (HA3.out.s' t0 t1 t2 t3 t4 t5); obtain ⟨d0, d1, d2, d3, d4, d5, df, dl⟩ := HA3.out.r'.c6
    go_wp2
    have hb := HA3.out.r'
    have kk := HKK.out
    refine body_agg (Tb := 102) (b := w.heap.size + 1 + 1) (cs := [.int .i64 t0, .int .i64 t1, .int .i64 t2, .int .i64 t3, .int .i64 t4, .int .i64 t5]) (.inr rfl) Tryz.results111 rfl rfl (by (repeat' (first | ((with_reducible show (_ : List Value) = _); rfl) | with_reducible exact hb | ((with_reducible refine Blk.newAt _ _ _ ?_); first | with_reducible rfl | (simp; done)) | with_reducible refine Blk.alloc ?_ _ | with_reducible refine Blk.drewN ?_ _ | with_reducible refine Blk.drew ?_ | ((with_reducible refine Blk.other ?_ _ ?_); rotate_left; ((try dsimp only); omega)) | with_reducible refine Blk.setB (cs0 := ?_) ?_ ?_))) Tryz.underlying102 rfl (by kernel_rfl) ?_
    rw [HSE.out, HR.out]
    exact ⟨rfl, by (repeat' (first | with_reducible exact Kp.refl _ _ | with_reducible refine Kp.alloc ?_ _ | with_reducible refine Kp.drewN ?_ _ | with_reducible refine Kp.drew ?_ | with_reducible refine Kp.setCell ?_ _ ?_ | with_reducible refine Kp.trans ?_ kk (fun _ _ e => e) | (intro hh; first | rfl | exact .inl rfl | exact .inr rfl | (exfalso; (try dsimp only at hh); omega))))⟩
  · obtain ⟨n0, n1, n2, n3, n4, n5, n6, n7, n8, n9, n10, nf⟩ := HA3.out.n.c11; have hnl := HA3.out.n.lt; obtain ⟨c0, c1, c2, c3, c4, c5, cf, cl⟩ := Blk.c6 (HA3.out.s' t0 t1 t2 t3 t4 t5); obtain ⟨d0, d1, d2, d3, d4, d5, df, dl⟩ := HA3.out.r'.c6
    go_wp2_with fail
    refine (HSV.out _).mono ?_
    rintro e w' ⟨rfl, rfl⟩
    cases hF : setF act
    · have HR := hide (show alZ act gi [t0, t1, t2, t3, t4, t5] x y = [t0, t1, t2, t3, t4, t5] by rw [alZ, hF, Bool.and_false]; rfl)
      clear hE hF
      go_wp2
      have hb := HA3.out.r'
      have kk := HKK.out
      refine body_agg (Tb := 102) (b := w.heap.size + 1 + 1) (cs := [.int .i64 t0, .int .i64 t1, .int .i64 t2, .int .i64 t3, .int .i64 t4, .int .i64 t5]) (.inr rfl) Tryz.results111 rfl rfl (by (repeat' (first | ((with_reducible show (_ : List Value) = _); rfl) | with_reducible exact hb | ((with_reducible refine Blk.newAt _ _ _ ?_); first | with_reducible rfl | (simp; done)) | with_reducible refine Blk.alloc ?_ _ | with_reducible refine Blk.drewN ?_ _ | with_reducible refine Blk.drew ?_ | ((with_reducible refine Blk.other ?_ _ ?_); rotate_left; ((try dsimp only); omega)) | with_reducible refine Blk.setB (cs0 := ?_) ?_ ?_))) Tryz.underlying102 rfl (by kernel_rfl) ?_
      rw [HSE.out, HR.out]
      exact ⟨rfl, by (repeat' (first | with_reducible exact Kp.refl _ _ | with_reducible refine Kp.alloc ?_ _ | with_reducible refine Kp.drewN ?_ _ | with_reducible refine Kp.drew ?_ | with_reducible refine Kp.setCell ?_ _ ?_ | with_reducible refine Kp.trans ?_ kk (fun _ _ e => e) | (intro hh; first | rfl | exact .inl rfl | exact .inr rfl | (exfalso; (try dsimp only at hh); omega))))⟩
    · have HR := hide (show alZ act gi [t0, t1, t2, t3, t4, t5] x y = List.set [t0, t1, t2, t3, t4, t5] x (gi (List.getD [t0, t1, t2, t3, t4, t5] y 0)) by rw [alZ, hE, hF]; rfl)
      have HKO := hide (fun W h => kindsOf_c (w.heap.size + 1 + 1 + 1) [t0, t1, t2, t3, t4, t5] y W h H63.out hy6)
      have HGU := hide (H63.out.get y)
      have H64 := hide (H63.out.set x (hgl _ (H63.out.get y)))
      have HZS := hide (fun W h => zset_c (w.heap.size + 1 + 1 + 1) [t0, t1, t2, t3, t4, t5] x (gi (List.getD [t0, t1, t2, t3, t4, t5] y 0)) W h H63.out hx6)
      clear hE hF
      generalize hgy : List.getD [t0, t1, t2, t3, t4, t5] y 0 = uy at *
      clear hgy
      clear n0 n1 n2 n3 n4 n5 n6 n7 n8 n9 n10 nf hnl c0 c1 c2 c3 c4 c5 cf cl d0 d1 d2 d3 d4 d5 df dl
      obtain ⟨n0, n1, n2, n3, n4, n5, n6, n7, n8, n9, n10, nf⟩ := HA3.out.n.c11; have hnl := HA3.out.n.lt; obtain ⟨c0, c1, c2, c3, c4, c5, cf, cl⟩ := Blk.c6 (HA3.out.s' t0 t1 t2 t3 t4 t5); obtain ⟨d0, d1, d2, d3, d4, d5, df, dl⟩ := HA3.out.r'.c6
      go_wp2_with fail
      refine (HKO.out _ HA3.out.s).mono ?_
      rintro e w' ⟨rfl, rfl⟩
      go_wp2_with fail
      refine (HGV.out uy HGU.out _).mono ?_
      rintro e w7 ⟨rfl, k7⟩
      have HA4 := hide (HA3.out.kn k7)
      have HK4 := hide (HKK.out.trans k7 (fun _ _ e => e))
      clear k7
      clear n0 n1 n2 n3 n4 n5 n6 n7 n8 n9 n10 nf hnl c0 c1 c2 c3 c4 c5 cf cl d0 d1 d2 d3 d4 d5 df dl
      obtain ⟨n0, n1, n2, n3, n4, n5, n6, n7, n8, n9, n10, nf⟩ := HA4.out.n.c11; have hnl := HA4.out.n.lt; obtain ⟨c0, c1, c2, c3, c4, c5, cf, cl⟩ := Blk.c6 (HA4.out.s' t0 t1 t2 t3 t4 t5); obtain ⟨d0, d1, d2, d3, d4, d5, df, dl⟩ := HA4.out.r'.c6
      go_wp2_with fail
      refine (HZS.out _ HA4.out.s).mono ?_
      rintro e w8 ⟨rfl, hz8, k8⟩
      have HA5 := hide (HA4.out.ks k8 hz8)
      have HK5 := hide (HK4.out.trans k8 (fun z hz e => by omega))
      clear hz8 k8
      clear n0 n1 n2 n3 n4 n5 n6 n7 n8 n9 n10 nf hnl c0 c1 c2 c3 c4 c5 cf cl d0 d1 d2 d3 d4 d5 df dl
      obtain ⟨r0, r1, r2, r3, r4, r5, hS⟩ := zb_six HA5.out.s H64.out
      rw [hS] at HA5 H64 HR
      clear hS
      obtain ⟨n0, n1, n2, n3, n4, n5, n6, n7, n8, n9, n10, nf⟩ := HA5.out.n.c11; have hnl := HA5.out.n.lt; obtain ⟨c0, c1, c2, c3, c4, c5, cf, cl⟩ := Blk.c6 (HA5.out.s' r0 r1 r2 r3 r4 r5); obtain ⟨d0, d1, d2, d3, d4, d5, df, dl⟩ := HA5.out.r'.c6
      go_wp2
      have hb := HA5.out.r'
      have kk := HK5.out
      refine body_agg (Tb := 102) (b := w.heap.size + 1 + 1) (cs := [.int .i64 r0, .int .i64 r1, .int .i64 r2, .int .i64 r3, .int .i64 r4, .int .i64 r5]) (.inr rfl) Tryz.results111 rfl rfl (by (repeat' (first | ((with_reducible show (_ : List Value) = _); rfl) | with_reducible exact hb | ((with_reducible refine Blk.newAt _ _ _ ?_); first | with_reducible rfl | (simp; done)) | with_reducible refine Blk.alloc ?_ _ | with_reducible refine Blk.drewN ?_ _ | with_reducible refine Blk.drew ?_ | ((with_reducible refine Blk.other ?_ _ ?_); rotate_left; ((try dsimp only); omega)) | with_reducible refine Blk.setB (cs0 := ?_) ?_ ?_))) Tryz.underlying102 rfl (by kernel_rfl) ?_
      rw [HSE.out, HR.out]
      exact ⟨rfl, by (repeat' (first | with_reducible exact Kp.refl _ _ | with_reducible refine Kp.alloc ?_ _ | with_reducible refine Kp.drewN ?_ _ | with_reducible refine Kp.drew ?_ | with_reducible refine Kp.setCell ?_ _ ?_ | with_reducible refine Kp.trans ?_ kk (fun _ _ e => e) | (intro hh; first | rfl | exact .inl rfl | exact .inr rfl | (exfalso; (try dsimp only at hh); omega))))⟩

set_option maxRecDepth 100000 in
set_option maxHeartbeats 3200000 in
theorem stateAlong_k (tx : ByteArray) (act ck cn ch yes nwy : Int) (x y v kd : Nat) (s0 s1 s2 s3 s4 s5 : Nat) (b : Bool) (w : World) (hs : Z6 [s0, s1, s2, s3, s4, s5]) (hk2 : kd < 128) (hx6 : x < 6) (hy6 : y < 6) (hv6 : v < 6)
    (h0 : 0 ≤ act) (h14 : act ≤ 14) (hn : act = 10) (tk : Nat) (htk : tkM act = (tk : Int)) (htk2 : tk < 128) (gi : Nat → Nat) (hg : ∀ u, u < 128 → giZ act ck u = ((gi u : Nat) : Int)) (hgl : ∀ u, u < 128 → gi u < 128) :
    Calls Tryz.prog 111 #[.agg #[.string tx, .int .i64 act, .int .i64 x, .int .i64 y, .int .i64 v, .int .i64 ck, .int .i64 cn, .int .i64 ch, .int .i64 kd, .int .i64 yes, .int .i64 nwy], zv6 s0 s1 s2 s3 s4 s5, .bool b] w fun e w' => e = .returned (.agg (zc (alZ act gi (keZ (keZ (keZ [s0, s1, s2, s3, s4, s5] y tk) v tk) x kd) x y)).toArray) ∧ Kp no w w' := by
  have HT := hide (fun W => ntakenKinds_c act W)
  rw [htk] at HT
  have HSV := hide (fun W => setsVariable_c act W h0 h14)
  have HGV := hide (fun u hu W => kindsGiven_c ⟨tx, act, x, y, v, ck, cn, ch, kd, yes, nwy⟩ u W hu h0 h14)
  have HGV2 : Hid (∀ u : Nat, u < 128 → ∀ W, Calls Tryz.prog 156 #[.agg #[.string tx, .int .i64 act, .int .i64 x, .int .i64 y, .int .i64 v, .int .i64 ck, .int .i64 cn, .int .i64 ch, .int .i64 kd, .int .i64 yes, .int .i64 nwy], .int .i64 (u : Int)] W fun e w' => e = .returned (.int .i64 (gi u : Nat)) ∧ Kp no W w') := fun u hu W => by
    have := HGV.out u hu W
    rw [show giZ (NN.mk tx act x y v ck cn ch kd yes nwy).act (NN.mk tx act x y v ck cn ch kd yes nwy).ck u = ((gi u : Nat) : Int) from hg u hu] at this
    exact this
  clear HGV
  have HGV := HGV2
  clear HGV2 hg htk
  have g10 : (act == 10) = true := by simp [hn]
  have g11 : (act == 11) = false := by simp [hn]
  clear hn
  have HK1 := hide (fun W h => keep_c (w.heap.size + 1 + 1 + 1) [s0, s1, s2, s3, s4, s5] y tk W h hs hy6 htk2)
  have H61 := hide (hs.ke y tk)
  have HK2 := hide (fun W h => keep_c (w.heap.size + 1 + 1 + 1) (keZ [s0, s1, s2, s3, s4, s5] y tk) v tk W h H61.out hv6 htk2)
  have H62 := hide (H61.out.ke v tk)
  have HK3 := hide (fun W h => keep_c (w.heap.size + 1 + 1 + 1) (keZ (keZ [s0, s1, s2, s3, s4, s5] y tk) v tk) x kd W h H62.out hx6 hk2)
  have H63 := hide (H62.out.ke x kd)
  go_enter Tryz.func111, Tryz.ntmps111
  go_wp2_with (go_at_call 123; refine (HT.out _).mono ?_; rintro e w' ⟨rfl, rfl⟩)
  have hsb : Blk (((((w.alloc (.cells #[.string tx, .int .i64 act, .int .i64 x, .int .i64 y, .int .i64 v, .int .i64 ck, .int .i64 cn, .int .i64 ch, .int .i64 kd, .int .i64 yes, .int .i64 nwy] 91)).alloc (.cells #[.int .i64 s0, .int .i64 s1, .int .i64 s2, .int .i64 s3, .int .i64 s4, .int .i64 s5] 102)).alloc (.cells #[.int .i64 0, .int .i64 0, .int .i64 0, .int .i64 0, .int .i64 0, .int .i64 0] 102)).alloc (.cells #[.int .i64 s0, .int .i64 s1, .int .i64 s2, .int .i64 s3, .int .i64 s4, .int .i64 s5] 102))) (w.heap.size + 1 + 1 + 1) [.int .i64 s0, .int .i64 s1, .int .i64 s2, .int .i64 s3, .int .i64 s4, .int .i64 s5] 102 := by (repeat' (first | ((with_reducible show (_ : List Value) = _); rfl) | ((with_reducible refine Blk.newAt _ _ _ ?_); first | with_reducible rfl | (simp; done)) | with_reducible refine Blk.alloc ?_ _ | with_reducible refine Blk.drewN ?_ _ | with_reducible refine Blk.drew ?_ | ((with_reducible refine Blk.other ?_ _ ?_); rotate_left; ((try dsimp only); omega)) | with_reducible refine Blk.setB (cs0 := ?_) ?_ ?_))
  have hrb : Blk (((((w.alloc (.cells #[.string tx, .int .i64 act, .int .i64 x, .int .i64 y, .int .i64 v, .int .i64 ck, .int .i64 cn, .int .i64 ch, .int .i64 kd, .int .i64 yes, .int .i64 nwy] 91)).alloc (.cells #[.int .i64 s0, .int .i64 s1, .int .i64 s2, .int .i64 s3, .int .i64 s4, .int .i64 s5] 102)).alloc (.cells #[.int .i64 0, .int .i64 0, .int .i64 0, .int .i64 0, .int .i64 0, .int .i64 0] 102)).alloc (.cells #[.int .i64 s0, .int .i64 s1, .int .i64 s2, .int .i64 s3, .int .i64 s4, .int .i64 s5] 102))) (w.heap.size + 1 + 1) [.int .i64 0, .int .i64 0, .int .i64 0, .int .i64 0, .int .i64 0, .int .i64 0] 102 := by (repeat' (first | ((with_reducible show (_ : List Value) = _); rfl) | ((with_reducible refine Blk.newAt _ _ _ ?_); first | with_reducible rfl | (simp; done)) | with_reducible refine Blk.alloc ?_ _ | with_reducible refine Blk.drewN ?_ _ | with_reducible refine Blk.drew ?_ | ((with_reducible refine Blk.other ?_ _ ?_); rotate_left; ((try dsimp only); omega)) | with_reducible refine Blk.setB (cs0 := ?_) ?_ ?_))
  have hnb : Blk (((((w.alloc (.cells #[.string tx, .int .i64 act, .int .i64 x, .int .i64 y, .int .i64 v, .int .i64 ck, .int .i64 cn, .int .i64 ch, .int .i64 kd, .int .i64 yes, .int .i64 nwy] 91)).alloc (.cells #[.int .i64 s0, .int .i64 s1, .int .i64 s2, .int .i64 s3, .int .i64 s4, .int .i64 s5] 102)).alloc (.cells #[.int .i64 0, .int .i64 0, .int .i64 0, .int .i64 0, .int .i64 0, .int .i64 0] 102)).alloc (.cells #[.int .i64 s0, .int .i64 s1, .int .i64 s2, .int .i64 s3, .int .i64 s4, .int .i64 s5] 102))) w.heap.size [.string tx, .int .i64 act, .int .i64 x, .int .i64 y, .int .i64 v, .int .i64 ck, .int .i64 cn, .int .i64 ch, .int .i64 kd, .int .i64 yes, .int .i64 nwy] 91 := by (repeat' (first | ((with_reducible show (_ : List Value) = _); rfl) | ((with_reducible refine Blk.newAt _ _ _ ?_); first | with_reducible rfl | (simp; done)) | with_reducible refine Blk.alloc ?_ _ | with_reducible refine Blk.drewN ?_ _ | with_reducible refine Blk.drew ?_ | ((with_reducible refine Blk.other ?_ _ ?_); rotate_left; ((try dsimp only); omega)) | with_reducible refine Blk.setB (cs0 := ?_) ?_ ?_))
  have hkk : Kp no w (((((w.alloc (.cells #[.string tx, .int .i64 act, .int .i64 x, .int .i64 y, .int .i64 v, .int .i64 ck, .int .i64 cn, .int .i64 ch, .int .i64 kd, .int .i64 yes, .int .i64 nwy] 91)).alloc (.cells #[.int .i64 s0, .int .i64 s1, .int .i64 s2, .int .i64 s3, .int .i64 s4, .int .i64 s5] 102)).alloc (.cells #[.int .i64 0, .int .i64 0, .int .i64 0, .int .i64 0, .int .i64 0, .int .i64 0] 102)).alloc (.cells #[.int .i64 s0, .int .i64 s1, .int .i64 s2, .int .i64 s3, .int .i64 s4, .int .i64 s5] 102))) := by (repeat' (first | with_reducible exact Kp.refl _ _ | with_reducible refine Kp.alloc ?_ _ | with_reducible refine Kp.drewN ?_ _ | with_reducible refine Kp.drew ?_ | with_reducible refine Kp.setCell ?_ _ ?_ | (intro hh; first | rfl | exact .inl rfl | exact .inr rfl | (exfalso; (try dsimp only at hh); omega))))
  have HA0 := hide (AS.mk hnb hrb hsb : AS _ _ _ [s0, s1, s2, s3, s4, s5])
  have HKK0 := hide hkk
  clear hnb hrb hsb hkk
  refine (HK1.out _ HA0.out.s).mono ?_
  rintro e w1 ⟨rfl, hz1, k1⟩
  have HA1 := hide (HA0.out.ks k1 hz1)
  have HKK1 := hide (HKK0.out.trans k1 (fun z hz e => by omega))
  clear hz1 k1 HA0 HKK0
  obtain ⟨n0, n1, n2, n3, n4, n5, n6, n7, n8, n9, n10, nf⟩ := HA1.out.n.c11; have hnl := HA1.out.n.lt
  go_wp2_with fail
  refine (HK2.out _ HA1.out.s).mono ?_
  rintro e w2 ⟨rfl, hz2, k2⟩
  have HA2 := hide (HA1.out.ks k2 hz2)
  have HKK2 := hide (HKK1.out.trans k2 (fun z hz e => by omega))
  clear hz2 k2 HA1 HKK1
  clear n0 n1 n2 n3 n4 n5 n6 n7 n8 n9 n10 nf hnl
  obtain ⟨n0, n1, n2, n3, n4, n5, n6, n7, n8, n9, n10, nf⟩ := HA2.out.n.c11; have hnl := HA2.out.n.lt
  change Hid (AS _ _ _ (keZ (keZ [s0, s1, s2, s3, s4, s5] y tk) v tk)) at HA2
  go_wp2_with fail
  refine (HK3.out _ HA2.out.s).mono ?_
  rintro e w3 ⟨rfl, hz3, k3⟩
  have HA3 := hide (HA2.out.ks k3 hz3)
  have HKK := hide (HKK2.out.trans k3 (fun z hz e => by omega))
  clear hz3 k3 HA2 HKK2
  clear n0 n1 n2 n3 n4 n5 n6 n7 n8 n9 n10 nf hnl
  change Hid (AS _ _ _ (keZ (keZ (keZ [s0, s1, s2, s3, s4, s5] y tk) v tk) x kd)) at HA3
  generalize hSE : keZ (keZ (keZ [s0, s1, s2, s3, s4, s5] y tk) v tk) x kd = S3 at *
  have HSE := hide hSE
  clear hSE
  obtain ⟨t0, t1, t2, t3, t4, t5, hS⟩ := zb_six HA3.out.s H63.out
  rw [hS] at HA3 H63 HSE
  clear hS
  have HXX := hide (fun b W h => exists_c b [t0, t1, t2, t3, t4, t5] W h H63.out)
  go_wp2_with fail
  refine (HXX.out _ _ HA3.out.s).mono ?_
  rintro e w' ⟨rfl, rfl⟩
  cases hE : exS [t0, t1, t2, t3, t4, t5]
  · have HR := hide (show alZ act gi [t0, t1, t2, t3, t4, t5] x y = [t0, t1, t2, t3, t4, t5] by rw [alZ, hE]; rfl)
    clear hE
    obtain ⟨n0, n1, n2, n3, n4, n5, n6, n7, n8, n9, n10, nf⟩ := HA3.out.n.c11; have hnl := HA3.out.n.lt; obtain ⟨c0, c1, c2, c3, c4, c5, cf, cl⟩ := Blk.c6 (HA3.out.s' t0 t1 t2 t3 t4 t5); obtain ⟨d0, d1, d2, d3, d4, d5, df, dl⟩ := HA3.out.r'.c6
    go_wp2
    have hb := HA3.out.r'
    have kk := HKK.out
    refine body_agg (Tb := 102) (b := w.heap.size + 1 + 1) (cs := [.int .i64 t0, .int .i64 t1, .int .i64 t2, .int .i64 t3, .int .i64 t4, .int .i64 t5]) (.inr rfl) Tryz.results111 rfl rfl (by (repeat' (first | ((with_reducible show (_ : List Value) = _); rfl) | with_reducible exact hb | ((with_reducible refine Blk.newAt _ _ _ ?_); first | with_reducible rfl | (simp; done)) | with_reducible refine Blk.alloc ?_ _ | with_reducible refine Blk.drewN ?_ _ | with_reducible refine Blk.drew ?_ | ((with_reducible refine Blk.other ?_ _ ?_); rotate_left; ((try dsimp only); omega)) | with_reducible refine Blk.setB (cs0 := ?_) ?_ ?_))) Tryz.underlying102 rfl (by kernel_rfl) ?_
    rw [HSE.out, HR.out]
    exact ⟨rfl, by (repeat' (first | with_reducible exact Kp.refl _ _ | with_reducible refine Kp.alloc ?_ _ | with_reducible refine Kp.drewN ?_ _ | with_reducible refine Kp.drew ?_ | with_reducible refine Kp.setCell ?_ _ ?_ | with_reducible refine Kp.trans ?_ kk (fun _ _ e => e) | (intro hh; first | rfl | exact .inl rfl | exact .inr rfl | (exfalso; (try dsimp only at hh); omega))))⟩
  · obtain ⟨n0, n1, n2, n3, n4, n5, n6, n7, n8, n9, n10, nf⟩ := HA3.out.n.c11; have hnl := HA3.out.n.lt; obtain ⟨c0, c1, c2, c3, c4, c5, cf, cl⟩ := Blk.c6 (HA3.out.s' t0 t1 t2 t3 t4 t5); obtain ⟨d0, d1, d2, d3, d4, d5, df, dl⟩ := HA3.out.r'.c6
    go_wp2_with fail
    refine (HSV.out _).mono ?_
    rintro e w' ⟨rfl, rfl⟩
    cases hF : setF act
    · have HR := hide (show alZ act gi [t0, t1, t2, t3, t4, t5] x y = [t0, t1, t2, t3, t4, t5] by rw [alZ, hF, Bool.and_false]; rfl)
      clear hE hF
      go_wp2
      have hb := HA3.out.r'
      have kk := HKK.out
      refine body_agg (Tb := 102) (b := w.heap.size + 1 + 1) (cs := [.int .i64 t0, .int .i64 t1, .int .i64 t2, .int .i64 t3, .int .i64 t4, .int .i64 t5]) (.inr rfl) Tryz.results111 rfl rfl (by (repeat' (first | ((with_reducible show (_ : List Value) = _); rfl) | with_reducible exact hb | ((with_reducible refine Blk.newAt _ _ _ ?_); first | with_reducible rfl | (simp; done)) | with_reducible refine Blk.alloc ?_ _ | with_reducible refine Blk.drewN ?_ _ | with_reducible refine Blk.drew ?_ | ((with_reducible refine Blk.other ?_ _ ?_); rotate_left; ((try dsimp only); omega)) | with_reducible refine Blk.setB (cs0 := ?_) ?_ ?_))) Tryz.underlying102 rfl (by kernel_rfl) ?_
      rw [HSE.out, HR.out]
      exact ⟨rfl, by (repeat' (first | with_reducible exact Kp.refl _ _ | with_reducible refine Kp.alloc ?_ _ | with_reducible refine Kp.drewN ?_ _ | with_reducible refine Kp.drew ?_ | with_reducible refine Kp.setCell ?_ _ ?_ | with_reducible refine Kp.trans ?_ kk (fun _ _ e => e) | (intro hh; first | rfl | exact .inl rfl | exact .inr rfl | (exfalso; (try dsimp only at hh); omega))))⟩
    · have HR := hide (show alZ act gi [t0, t1, t2, t3, t4, t5] x y = List.set [t0, t1, t2, t3, t4, t5] x (gi (List.getD [t0, t1, t2, t3, t4, t5] y 0)) by rw [alZ, hE, hF]; rfl)
      have HKO := hide (fun W h => kindsOf_c (w.heap.size + 1 + 1 + 1) [t0, t1, t2, t3, t4, t5] y W h H63.out hy6)
      have HGU := hide (H63.out.get y)
      have H64 := hide (H63.out.set x (hgl _ (H63.out.get y)))
      have HZS := hide (fun W h => zset_c (w.heap.size + 1 + 1 + 1) [t0, t1, t2, t3, t4, t5] x (gi (List.getD [t0, t1, t2, t3, t4, t5] y 0)) W h H63.out hx6)
      clear hE hF
      generalize hgy : List.getD [t0, t1, t2, t3, t4, t5] y 0 = uy at *
      clear hgy
      clear n0 n1 n2 n3 n4 n5 n6 n7 n8 n9 n10 nf hnl c0 c1 c2 c3 c4 c5 cf cl d0 d1 d2 d3 d4 d5 df dl
      obtain ⟨n0, n1, n2, n3, n4, n5, n6, n7, n8, n9, n10, nf⟩ := HA3.out.n.c11; have hnl := HA3.out.n.lt; obtain ⟨c0, c1, c2, c3, c4, c5, cf, cl⟩ := Blk.c6 (HA3.out.s' t0 t1 t2 t3 t4 t5); obtain ⟨d0, d1, d2, d3, d4, d5, df, dl⟩ := HA3.out.r'.c6
      go_wp2_with fail
      refine (HKO.out _ HA3.out.s).mono ?_
      rintro e w' ⟨rfl, rfl⟩
      go_wp2_with fail
      refine (HGV.out uy HGU.out _).mono ?_
      rintro e w7 ⟨rfl, k7⟩
      have HA4 := hide (HA3.out.kn k7)
      have HK4 := hide (HKK.out.trans k7 (fun _ _ e => e))
      clear k7
      clear n0 n1 n2 n3 n4 n5 n6 n7 n8 n9 n10 nf hnl c0 c1 c2 c3 c4 c5 cf cl d0 d1 d2 d3 d4 d5 df dl
      obtain ⟨n0, n1, n2, n3, n4, n5, n6, n7, n8, n9, n10, nf⟩ := HA4.out.n.c11; have hnl := HA4.out.n.lt; obtain ⟨c0, c1, c2, c3, c4, c5, cf, cl⟩ := Blk.c6 (HA4.out.s' t0 t1 t2 t3 t4 t5); obtain ⟨d0, d1, d2, d3, d4, d5, df, dl⟩ := HA4.out.r'.c6
      go_wp2_with fail
      refine (HZS.out _ HA4.out.s).mono ?_
      rintro e w8 ⟨rfl, hz8, k8⟩
      have HA5 := hide (HA4.out.ks k8 hz8)
      have HK5 := hide (HK4.out.trans k8 (fun z hz e => by omega))
      clear hz8 k8
      clear n0 n1 n2 n3 n4 n5 n6 n7 n8 n9 n10 nf hnl c0 c1 c2 c3 c4 c5 cf cl d0 d1 d2 d3 d4 d5 df dl
      obtain ⟨r0, r1, r2, r3, r4, r5, hS⟩ := zb_six HA5.out.s H64.out
      rw [hS] at HA5 H64 HR
      clear hS
      obtain ⟨n0, n1, n2, n3, n4, n5, n6, n7, n8, n9, n10, nf⟩ := HA5.out.n.c11; have hnl := HA5.out.n.lt; obtain ⟨c0, c1, c2, c3, c4, c5, cf, cl⟩ := Blk.c6 (HA5.out.s' r0 r1 r2 r3 r4 r5); obtain ⟨d0, d1, d2, d3, d4, d5, df, dl⟩ := HA5.out.r'.c6
      go_wp2
      have hb := HA5.out.r'
      have kk := HK5.out
      refine body_agg (Tb := 102) (b := w.heap.size + 1 + 1) (cs := [.int .i64 r0, .int .i64 r1, .int .i64 r2, .int .i64 r3, .int .i64 r4, .int .i64 r5]) (.inr rfl) Tryz.results111 rfl rfl (by (repeat' (first | ((with_reducible show (_ : List Value) = _); rfl) | with_reducible exact hb | ((with_reducible refine Blk.newAt _ _ _ ?_); first | with_reducible rfl | (simp; done)) | with_reducible refine Blk.alloc ?_ _ | with_reducible refine Blk.drewN ?_ _ | with_reducible refine Blk.drew ?_ | ((with_reducible refine Blk.other ?_ _ ?_); rotate_left; ((try dsimp only); omega)) | with_reducible refine Blk.setB (cs0 := ?_) ?_ ?_))) Tryz.underlying102 rfl (by kernel_rfl) ?_
      rw [HSE.out, HR.out]
      exact ⟨rfl, by (repeat' (first | with_reducible exact Kp.refl _ _ | with_reducible refine Kp.alloc ?_ _ | with_reducible refine Kp.drewN ?_ _ | with_reducible refine Kp.drew ?_ | with_reducible refine Kp.setCell ?_ _ ?_ | with_reducible refine Kp.trans ?_ kk (fun _ _ e => e) | (intro hh; first | rfl | exact .inl rfl | exact .inr rfl | (exfalso; (try dsimp only at hh); omega))))⟩

set_option maxRecDepth 100000 in
set_option maxHeartbeats 3200000 in
theorem stateAlong_t (tx : ByteArray) (act ck cn ch yes nwy : Int) (x y v kd : Nat) (s0 s1 s2 s3 s4 s5 : Nat) (b : Bool) (w : World) (hs : Z6 [s0, s1, s2, s3, s4, s5]) (hk2 : kd < 128) (hx6 : x < 6) (hy6 : y < 6) (hv6 : v < 6)
    (h0 : 0 ≤ act) (h14 : act ≤ 14) (hn : act = 12 ∨ act = 13) (tk : Nat) (htk : tkM act = (tk : Int)) (htk2 : tk < 128) (gi : Nat → Nat) (hg : ∀ u, u < 128 → giZ act ck u = ((gi u : Nat) : Int)) (hgl : ∀ u, u < 128 → gi u < 128) :
    Calls Tryz.prog 111 #[.agg #[.string tx, .int .i64 act, .int .i64 x, .int .i64 y, .int .i64 v, .int .i64 ck, .int .i64 cn, .int .i64 ch, .int .i64 kd, .int .i64 yes, .int .i64 nwy], zv6 s0 s1 s2 s3 s4 s5, .bool b] w fun e w' => e = .returned (.agg (zc (alZ act gi (keZ (keZ (keZ [s0, s1, s2, s3, s4, s5] y tk) v tk) y (waZ act kd b)) x y)).toArray) ∧ Kp no w w' := by
  have HT := hide (fun W => ntakenKinds_c act W)
  rw [htk] at HT
  have HSV := hide (fun W => setsVariable_c act W h0 h14)
  have HGV := hide (fun u hu W => kindsGiven_c ⟨tx, act, x, y, v, ck, cn, ch, kd, yes, nwy⟩ u W hu h0 h14)
  have HGV2 : Hid (∀ u : Nat, u < 128 → ∀ W, Calls Tryz.prog 156 #[.agg #[.string tx, .int .i64 act, .int .i64 x, .int .i64 y, .int .i64 v, .int .i64 ck, .int .i64 cn, .int .i64 ch, .int .i64 kd, .int .i64 yes, .int .i64 nwy], .int .i64 (u : Int)] W fun e w' => e = .returned (.int .i64 (gi u : Nat)) ∧ Kp no W w') := fun u hu W => by
    have := HGV.out u hu W
    rw [show giZ (NN.mk tx act x y v ck cn ch kd yes nwy).act (NN.mk tx act x y v ck cn ch kd yes nwy).ck u = ((gi u : Nat) : Int) from hg u hu] at this
    exact this
  clear HGV
  have HGV := HGV2
  clear HGV2 hg htk
  have g10 : (act == 10) = false := by rcases hn with e | e <;> simp [e]
  have g11 : (act == 11) = false := by rcases hn with e | e <;> simp [e]
  have gt : ((act == 12) = true) ∨ ((act == 12) = false ∧ (act == 13) = true) := by
    rcases hn with e | e
    · exact .inl (by simp [e])
    · exact .inr ⟨by simp [e], by simp [e]⟩
  have HKA := hide (fun W => kindsAlong_c ⟨tx, act, x, y, v, ck, cn, ch, kd, yes, nwy⟩ kd b W rfl hk2 hn)
  dsimp only at HKA
  have HWL := hide (waZ_lt act kd b hk2)
  have HK1 := hide (fun W h => keep_c (w.heap.size + 1 + 1 + 1) [s0, s1, s2, s3, s4, s5] y tk W h hs hy6 htk2)
  have H61 := hide (hs.ke y tk)
  have HK2 := hide (fun W h => keep_c (w.heap.size + 1 + 1 + 1) (keZ [s0, s1, s2, s3, s4, s5] y tk) v tk W h H61.out hv6 htk2)
  have H62 := hide (H61.out.ke v tk)
  have HK3 := hide (fun W h => keep_c (w.heap.size + 1 + 1 + 1) (keZ (keZ [s0, s1, s2, s3, s4, s5] y tk) v tk) y (waZ act kd b) W h H62.out hy6 HWL.out)
  have H63 := hide (H62.out.ke y (waZ act kd b))
  go_enter Tryz.func111, Tryz.ntmps111
  go_wp2_with (go_at_call 123; refine (HT.out _).mono ?_; rintro e w' ⟨rfl, rfl⟩)
  have hsb : Blk (((((w.alloc (.cells #[.string tx, .int .i64 act, .int .i64 x, .int .i64 y, .int .i64 v, .int .i64 ck, .int .i64 cn, .int .i64 ch, .int .i64 kd, .int .i64 yes, .int .i64 nwy] 91)).alloc (.cells #[.int .i64 s0, .int .i64 s1, .int .i64 s2, .int .i64 s3, .int .i64 s4, .int .i64 s5] 102)).alloc (.cells #[.int .i64 0, .int .i64 0, .int .i64 0, .int .i64 0, .int .i64 0, .int .i64 0] 102)).alloc (.cells #[.int .i64 s0, .int .i64 s1, .int .i64 s2, .int .i64 s3, .int .i64 s4, .int .i64 s5] 102))) (w.heap.size + 1 + 1 + 1) [.int .i64 s0, .int .i64 s1, .int .i64 s2, .int .i64 s3, .int .i64 s4, .int .i64 s5] 102 := by (repeat' (first | ((with_reducible show (_ : List Value) = _); rfl) | ((with_reducible refine Blk.newAt _ _ _ ?_); first | with_reducible rfl | (simp; done)) | with_reducible refine Blk.alloc ?_ _ | with_reducible refine Blk.drewN ?_ _ | with_reducible refine Blk.drew ?_ | ((with_reducible refine Blk.other ?_ _ ?_); rotate_left; ((try dsimp only); omega)) | with_reducible refine Blk.setB (cs0 := ?_) ?_ ?_))
  have hrb : Blk (((((w.alloc (.cells #[.string tx, .int .i64 act, .int .i64 x, .int .i64 y, .int .i64 v, .int .i64 ck, .int .i64 cn, .int .i64 ch, .int .i64 kd, .int .i64 yes, .int .i64 nwy] 91)).alloc (.cells #[.int .i64 s0, .int .i64 s1, .int .i64 s2, .int .i64 s3, .int .i64 s4, .int .i64 s5] 102)).alloc (.cells #[.int .i64 0, .int .i64 0, .int .i64 0, .int .i64 0, .int .i64 0, .int .i64 0] 102)).alloc (.cells #[.int .i64 s0, .int .i64 s1, .int .i64 s2, .int .i64 s3, .int .i64 s4, .int .i64 s5] 102))) (w.heap.size + 1 + 1) [.int .i64 0, .int .i64 0, .int .i64 0, .int .i64 0, .int .i64 0, .int .i64 0] 102 := by (repeat' (first | ((with_reducible show (_ : List Value) = _); rfl) | ((with_reducible refine Blk.newAt _ _ _ ?_); first | with_reducible rfl | (simp; done)) | with_reducible refine Blk.alloc ?_ _ | with_reducible refine Blk.drewN ?_ _ | with_reducible refine Blk.drew ?_ | ((with_reducible refine Blk.other ?_ _ ?_); rotate_left; ((try dsimp only); omega)) | with_reducible refine Blk.setB (cs0 := ?_) ?_ ?_))
  have hnb : Blk (((((w.alloc (.cells #[.string tx, .int .i64 act, .int .i64 x, .int .i64 y, .int .i64 v, .int .i64 ck, .int .i64 cn, .int .i64 ch, .int .i64 kd, .int .i64 yes, .int .i64 nwy] 91)).alloc (.cells #[.int .i64 s0, .int .i64 s1, .int .i64 s2, .int .i64 s3, .int .i64 s4, .int .i64 s5] 102)).alloc (.cells #[.int .i64 0, .int .i64 0, .int .i64 0, .int .i64 0, .int .i64 0, .int .i64 0] 102)).alloc (.cells #[.int .i64 s0, .int .i64 s1, .int .i64 s2, .int .i64 s3, .int .i64 s4, .int .i64 s5] 102))) w.heap.size [.string tx, .int .i64 act, .int .i64 x, .int .i64 y, .int .i64 v, .int .i64 ck, .int .i64 cn, .int .i64 ch, .int .i64 kd, .int .i64 yes, .int .i64 nwy] 91 := by (repeat' (first | ((with_reducible show (_ : List Value) = _); rfl) | ((with_reducible refine Blk.newAt _ _ _ ?_); first | with_reducible rfl | (simp; done)) | with_reducible refine Blk.alloc ?_ _ | with_reducible refine Blk.drewN ?_ _ | with_reducible refine Blk.drew ?_ | ((with_reducible refine Blk.other ?_ _ ?_); rotate_left; ((try dsimp only); omega)) | with_reducible refine Blk.setB (cs0 := ?_) ?_ ?_))
  have hkk : Kp no w (((((w.alloc (.cells #[.string tx, .int .i64 act, .int .i64 x, .int .i64 y, .int .i64 v, .int .i64 ck, .int .i64 cn, .int .i64 ch, .int .i64 kd, .int .i64 yes, .int .i64 nwy] 91)).alloc (.cells #[.int .i64 s0, .int .i64 s1, .int .i64 s2, .int .i64 s3, .int .i64 s4, .int .i64 s5] 102)).alloc (.cells #[.int .i64 0, .int .i64 0, .int .i64 0, .int .i64 0, .int .i64 0, .int .i64 0] 102)).alloc (.cells #[.int .i64 s0, .int .i64 s1, .int .i64 s2, .int .i64 s3, .int .i64 s4, .int .i64 s5] 102))) := by (repeat' (first | with_reducible exact Kp.refl _ _ | with_reducible refine Kp.alloc ?_ _ | with_reducible refine Kp.drewN ?_ _ | with_reducible refine Kp.drew ?_ | with_reducible refine Kp.setCell ?_ _ ?_ | (intro hh; first | rfl | exact .inl rfl | exact .inr rfl | (exfalso; (try dsimp only at hh); omega))))
  have HA0 := hide (AS.mk hnb hrb hsb : AS _ _ _ [s0, s1, s2, s3, s4, s5])
  have HKK0 := hide hkk
  clear hnb hrb hsb hkk
  refine (HK1.out _ HA0.out.s).mono ?_
  rintro e w1 ⟨rfl, hz1, k1⟩
  have HA1 := hide (HA0.out.ks k1 hz1)
  have HKK1 := hide (HKK0.out.trans k1 (fun z hz e => by omega))
  clear hz1 k1 HA0 HKK0
  obtain ⟨n0, n1, n2, n3, n4, n5, n6, n7, n8, n9, n10, nf⟩ := HA1.out.n.c11; have hnl := HA1.out.n.lt
  go_wp2_with fail
  refine (HK2.out _ HA1.out.s).mono ?_
  rintro e w2 ⟨rfl, hz2, k2⟩
  have HA2 := hide (HA1.out.ks k2 hz2)
  have HKK2 := hide (HKK1.out.trans k2 (fun z hz e => by omega))
  clear hz2 k2 HA1 HKK1
  clear n0 n1 n2 n3 n4 n5 n6 n7 n8 n9 n10 nf hnl
  obtain ⟨n0, n1, n2, n3, n4, n5, n6, n7, n8, n9, n10, nf⟩ := HA2.out.n.c11; have hnl := HA2.out.n.lt
  change Hid (AS _ _ _ (keZ (keZ [s0, s1, s2, s3, s4, s5] y tk) v tk)) at HA2
  rcases gt with g12 | ⟨g12, g13⟩
  all_goals
    go_wp2_with fail
    refine (HKA.out _).mono ?_
    rintro e w9 ⟨rfl, k9⟩
    have HA9 := hide (HA2.out.kn k9)
    have HKK9 := hide (HKK2.out.trans k9 (fun _ _ e => e))
    clear k9 HA2 HKK2
    clear n0 n1 n2 n3 n4 n5 n6 n7 n8 n9 n10 nf hnl
    obtain ⟨n0, n1, n2, n3, n4, n5, n6, n7, n8, n9, n10, nf⟩ := HA9.out.n.c11; have hnl := HA9.out.n.lt
    go_wp2_with fail
    refine (HK3.out _ HA9.out.s).mono ?_
    rintro e w3 ⟨rfl, hz3, k3⟩
    have HA3 := hide (HA9.out.ks k3 hz3)
    have HKK := hide (HKK9.out.trans k3 (fun z hz e => by omega))
    clear hz3 k3 HA9 HKK9
    clear n0 n1 n2 n3 n4 n5 n6 n7 n8 n9 n10 nf hnl
    change Hid (AS _ _ _ (keZ (keZ (keZ [s0, s1, s2, s3, s4, s5] y tk) v tk) y (waZ act kd b))) at HA3
    generalize hSE : keZ (keZ (keZ [s0, s1, s2, s3, s4, s5] y tk) v tk) y (waZ act kd b) = S3 at *
    have HSE := hide hSE
    clear hSE
    obtain ⟨t0, t1, t2, t3, t4, t5, hS⟩ := zb_six HA3.out.s H63.out
    rw [hS] at HA3 H63 HSE
    clear hS
    have HXX := hide (fun b W h => exists_c b [t0, t1, t2, t3, t4, t5] W h H63.out)
    go_wp2_with fail
    refine (HXX.out _ _ HA3.out.s).mono ?_
    rintro e w' ⟨rfl, rfl⟩
    cases hE : exS [t0, t1, t2, t3, t4, t5]
    · have HR := hide (show alZ act gi [t0, t1, t2, t3, t4, t5] x y = [t0, t1, t2, t3, t4, t5] by rw [alZ, hE]; rfl)
      clear hE
      obtain ⟨n0, n1, n2, n3, n4, n5, n6, n7, n8, n9, n10, nf⟩ := HA3.out.n.c11; have hnl := HA3.out.n.lt; obtain ⟨c0, c1, c2, c3, c4, c5, cf, cl⟩ := Blk.c6 (HA3.out.s' t0 t1 t2 t3 t4 t5); obtain ⟨d0, d1, d2, d3, d4, d5, df, dl⟩ := HA3.out.r'.c6
      go_wp2
      have hb := HA3.out.r'
      have kk := HKK.out
      refine body_agg (Tb := 102) (b := w.heap.size + 1 + 1) (cs := [.int .i64 t0, .int .i64 t1, .int .i64 t2, .int .i64 t3, .int .i64 t4, .int .i64 t5]) (.inr rfl) Tryz.results111 rfl rfl (by (repeat' (first | ((with_reducible show (_ : List Value) = _); rfl) | with_reducible exact hb | ((with_reducible refine Blk.newAt _ _ _ ?_); first | with_reducible rfl | (simp; done)) | with_reducible refine Blk.alloc ?_ _ | with_reducible refine Blk.drewN ?_ _ | with_reducible refine Blk.drew ?_ | ((with_reducible refine Blk.other ?_ _ ?_); rotate_left; ((try dsimp only); omega)) | with_reducible refine Blk.setB (cs0 := ?_) ?_ ?_))) Tryz.underlying102 rfl (by kernel_rfl) ?_
      rw [HSE.out, HR.out]
      exact ⟨rfl, by (repeat' (first | with_reducible exact Kp.refl _ _ | with_reducible refine Kp.alloc ?_ _ | with_reducible refine Kp.drewN ?_ _ | with_reducible refine Kp.drew ?_ | with_reducible refine Kp.setCell ?_ _ ?_ | with_reducible refine Kp.trans ?_ kk (fun _ _ e => e) | (intro hh; first | rfl | exact .inl rfl | exact .inr rfl | (exfalso; (try dsimp only at hh); omega))))⟩
    · obtain ⟨n0, n1, n2, n3, n4, n5, n6, n7, n8, n9, n10, nf⟩ := HA3.out.n.c11; have hnl := HA3.out.n.lt; obtain ⟨c0, c1, c2, c3, c4, c5, cf, cl⟩ := Blk.c6 (HA3.out.s' t0 t1 t2 t3 t4 t5); obtain ⟨d0, d1, d2, d3, d4, d5, df, dl⟩ := HA3.out.r'.c6
      go_wp2_with fail
      refine (HSV.out _).mono ?_
      rintro e w' ⟨rfl, rfl⟩
      cases hF : setF act
      · have HR := hide (show alZ act gi [t0, t1, t2, t3, t4, t5] x y = [t0, t1, t2, t3, t4, t5] by rw [alZ, hF, Bool.and_false]; rfl)
        clear hE hF
        go_wp2
        have hb := HA3.out.r'
        have kk := HKK.out
        refine body_agg (Tb := 102) (b := w.heap.size + 1 + 1) (cs := [.int .i64 t0, .int .i64 t1, .int .i64 t2, .int .i64 t3, .int .i64 t4, .int .i64 t5]) (.inr rfl) Tryz.results111 rfl rfl (by (repeat' (first | ((with_reducible show (_ : List Value) = _); rfl) | with_reducible exact hb | ((with_reducible refine Blk.newAt _ _ _ ?_); first | with_reducible rfl | (simp; done)) | with_reducible refine Blk.alloc ?_ _ | with_reducible refine Blk.drewN ?_ _ | with_reducible refine Blk.drew ?_ | ((with_reducible refine Blk.other ?_ _ ?_); rotate_left; ((try dsimp only); omega)) | with_reducible refine Blk.setB (cs0 := ?_) ?_ ?_))) Tryz.underlying102 rfl (by kernel_rfl) ?_
        rw [HSE.out, HR.out]
        exact ⟨rfl, by (repeat' (first | with_reducible exact Kp.refl _ _ | with_reducible refine Kp.alloc ?_ _ | with_reducible refine Kp.drewN ?_ _ | with_reducible refine Kp.drew ?_ | with_reducible refine Kp.setCell ?_ _ ?_ | with_reducible refine Kp.trans ?_ kk (fun _ _ e => e) | (intro hh; first | rfl | exact .inl rfl | exact .inr rfl | (exfalso; (try dsimp only at hh); omega))))⟩
      · have HR := hide (show alZ act gi [t0, t1, t2, t3, t4, t5] x y = List.set [t0, t1, t2, t3, t4, t5] x (gi (List.getD [t0, t1, t2, t3, t4, t5] y 0)) by rw [alZ, hE, hF]; rfl)
        have HKO := hide (fun W h => kindsOf_c (w.heap.size + 1 + 1 + 1) [t0, t1, t2, t3, t4, t5] y W h H63.out hy6)
        have HGU := hide (H63.out.get y)
        have H64 := hide (H63.out.set x (hgl _ (H63.out.get y)))
        have HZS := hide (fun W h => zset_c (w.heap.size + 1 + 1 + 1) [t0, t1, t2, t3, t4, t5] x (gi (List.getD [t0, t1, t2, t3, t4, t5] y 0)) W h H63.out hx6)
        clear hE hF
        generalize hgy : List.getD [t0, t1, t2, t3, t4, t5] y 0 = uy at *
        clear hgy
        clear n0 n1 n2 n3 n4 n5 n6 n7 n8 n9 n10 nf hnl c0 c1 c2 c3 c4 c5 cf cl d0 d1 d2 d3 d4 d5 df dl
        obtain ⟨n0, n1, n2, n3, n4, n5, n6, n7, n8, n9, n10, nf⟩ := HA3.out.n.c11; have hnl := HA3.out.n.lt; obtain ⟨c0, c1, c2, c3, c4, c5, cf, cl⟩ := Blk.c6 (HA3.out.s' t0 t1 t2 t3 t4 t5); obtain ⟨d0, d1, d2, d3, d4, d5, df, dl⟩ := HA3.out.r'.c6
        go_wp2_with fail
        refine (HKO.out _ HA3.out.s).mono ?_
        rintro e w' ⟨rfl, rfl⟩
        go_wp2_with fail
        refine (HGV.out uy HGU.out _).mono ?_
        rintro e w7 ⟨rfl, k7⟩
        have HA4 := hide (HA3.out.kn k7)
        have HK4 := hide (HKK.out.trans k7 (fun _ _ e => e))
        clear k7
        clear n0 n1 n2 n3 n4 n5 n6 n7 n8 n9 n10 nf hnl c0 c1 c2 c3 c4 c5 cf cl d0 d1 d2 d3 d4 d5 df dl
        obtain ⟨n0, n1, n2, n3, n4, n5, n6, n7, n8, n9, n10, nf⟩ := HA4.out.n.c11; have hnl := HA4.out.n.lt; obtain ⟨c0, c1, c2, c3, c4, c5, cf, cl⟩ := Blk.c6 (HA4.out.s' t0 t1 t2 t3 t4 t5); obtain ⟨d0, d1, d2, d3, d4, d5, df, dl⟩ := HA4.out.r'.c6
        go_wp2_with fail
        refine (HZS.out _ HA4.out.s).mono ?_
        rintro e w8 ⟨rfl, hz8, k8⟩
        have HA5 := hide (HA4.out.ks k8 hz8)
        have HK5 := hide (HK4.out.trans k8 (fun z hz e => by omega))
        clear hz8 k8
        clear n0 n1 n2 n3 n4 n5 n6 n7 n8 n9 n10 nf hnl c0 c1 c2 c3 c4 c5 cf cl d0 d1 d2 d3 d4 d5 df dl
        obtain ⟨r0, r1, r2, r3, r4, r5, hS⟩ := zb_six HA5.out.s H64.out
        rw [hS] at HA5 H64 HR
        clear hS
        obtain ⟨n0, n1, n2, n3, n4, n5, n6, n7, n8, n9, n10, nf⟩ := HA5.out.n.c11; have hnl := HA5.out.n.lt; obtain ⟨c0, c1, c2, c3, c4, c5, cf, cl⟩ := Blk.c6 (HA5.out.s' r0 r1 r2 r3 r4 r5); obtain ⟨d0, d1, d2, d3, d4, d5, df, dl⟩ := HA5.out.r'.c6
        go_wp2
        have hb := HA5.out.r'
        have kk := HK5.out
        refine body_agg (Tb := 102) (b := w.heap.size + 1 + 1) (cs := [.int .i64 r0, .int .i64 r1, .int .i64 r2, .int .i64 r3, .int .i64 r4, .int .i64 r5]) (.inr rfl) Tryz.results111 rfl rfl (by (repeat' (first | ((with_reducible show (_ : List Value) = _); rfl) | with_reducible exact hb | ((with_reducible refine Blk.newAt _ _ _ ?_); first | with_reducible rfl | (simp; done)) | with_reducible refine Blk.alloc ?_ _ | with_reducible refine Blk.drewN ?_ _ | with_reducible refine Blk.drew ?_ | ((with_reducible refine Blk.other ?_ _ ?_); rotate_left; ((try dsimp only); omega)) | with_reducible refine Blk.setB (cs0 := ?_) ?_ ?_))) Tryz.underlying102 rfl (by kernel_rfl) ?_
        rw [HSE.out, HR.out]
        exact ⟨rfl, by (repeat' (first | with_reducible exact Kp.refl _ _ | with_reducible refine Kp.alloc ?_ _ | with_reducible refine Kp.drewN ?_ _ | with_reducible refine Kp.drew ?_ | with_reducible refine Kp.setCell ?_ _ ?_ | with_reducible refine Kp.trans ?_ kk (fun _ _ e => e) | (intro hh; first | rfl | exact .inl rfl | exact .inr rfl | (exfalso; (try dsimp only at hh); omega))))⟩

set_option maxRecDepth 100000 in
set_option maxHeartbeats 3200000 in
theorem stateAlong_n (tx : ByteArray) (act ck cn ch yes nwy : Int) (x y v kd : Nat) (s0 s1 s2 s3 s4 s5 : Nat) (b : Bool) (w : World) (hs : Z6 [s0, s1, s2, s3, s4, s5]) (hy6 : y < 6) (hv6 : v < 6)
    (hn : act = 11) (tk : Nat) (htk : tkM act = (tk : Int)) (htk2 : tk < 128) :
    Calls Tryz.prog 111 #[.agg #[.string tx, .int .i64 act, .int .i64 x, .int .i64 y, .int .i64 v, .int .i64 ck, .int .i64 cn, .int .i64 ch, .int .i64 kd, .int .i64 yes, .int .i64 nwy], zv6 s0 s1 s2 s3 s4 s5, .bool b] w fun e w' => e = .returned (.agg (zc ([0, 0, 0, 0, 0, 0])).toArray) ∧ Kp no w w' := by
  have HT := hide (fun W => ntakenKinds_c act W)
  rw [htk] at HT
  have g11 : (act == 11) = true := by simp [hn]
  clear hn
  have HK1 := hide (fun W h => keep_c (w.heap.size + 1 + 1 + 1) [s0, s1, s2, s3, s4, s5] y tk W h hs hy6 htk2)
  have H61 := hide (hs.ke y tk)
  have HK2 := hide (fun W h => keep_c (w.heap.size + 1 + 1 + 1) (keZ [s0, s1, s2, s3, s4, s5] y tk) v tk W h H61.out hv6 htk2)
  go_enter Tryz.func111, Tryz.ntmps111
  go_wp2_with (go_at_call 123; refine (HT.out _).mono ?_; rintro e w' ⟨rfl, rfl⟩)
  have hsb : Blk (((((w.alloc (.cells #[.string tx, .int .i64 act, .int .i64 x, .int .i64 y, .int .i64 v, .int .i64 ck, .int .i64 cn, .int .i64 ch, .int .i64 kd, .int .i64 yes, .int .i64 nwy] 91)).alloc (.cells #[.int .i64 s0, .int .i64 s1, .int .i64 s2, .int .i64 s3, .int .i64 s4, .int .i64 s5] 102)).alloc (.cells #[.int .i64 0, .int .i64 0, .int .i64 0, .int .i64 0, .int .i64 0, .int .i64 0] 102)).alloc (.cells #[.int .i64 s0, .int .i64 s1, .int .i64 s2, .int .i64 s3, .int .i64 s4, .int .i64 s5] 102))) (w.heap.size + 1 + 1 + 1) [.int .i64 s0, .int .i64 s1, .int .i64 s2, .int .i64 s3, .int .i64 s4, .int .i64 s5] 102 := by (repeat' (first | ((with_reducible show (_ : List Value) = _); rfl) | ((with_reducible refine Blk.newAt _ _ _ ?_); first | with_reducible rfl | (simp; done)) | with_reducible refine Blk.alloc ?_ _ | with_reducible refine Blk.drewN ?_ _ | with_reducible refine Blk.drew ?_ | ((with_reducible refine Blk.other ?_ _ ?_); rotate_left; ((try dsimp only); omega)) | with_reducible refine Blk.setB (cs0 := ?_) ?_ ?_))
  have hrb : Blk (((((w.alloc (.cells #[.string tx, .int .i64 act, .int .i64 x, .int .i64 y, .int .i64 v, .int .i64 ck, .int .i64 cn, .int .i64 ch, .int .i64 kd, .int .i64 yes, .int .i64 nwy] 91)).alloc (.cells #[.int .i64 s0, .int .i64 s1, .int .i64 s2, .int .i64 s3, .int .i64 s4, .int .i64 s5] 102)).alloc (.cells #[.int .i64 0, .int .i64 0, .int .i64 0, .int .i64 0, .int .i64 0, .int .i64 0] 102)).alloc (.cells #[.int .i64 s0, .int .i64 s1, .int .i64 s2, .int .i64 s3, .int .i64 s4, .int .i64 s5] 102))) (w.heap.size + 1 + 1) [.int .i64 0, .int .i64 0, .int .i64 0, .int .i64 0, .int .i64 0, .int .i64 0] 102 := by (repeat' (first | ((with_reducible show (_ : List Value) = _); rfl) | ((with_reducible refine Blk.newAt _ _ _ ?_); first | with_reducible rfl | (simp; done)) | with_reducible refine Blk.alloc ?_ _ | with_reducible refine Blk.drewN ?_ _ | with_reducible refine Blk.drew ?_ | ((with_reducible refine Blk.other ?_ _ ?_); rotate_left; ((try dsimp only); omega)) | with_reducible refine Blk.setB (cs0 := ?_) ?_ ?_))
  have hnb : Blk (((((w.alloc (.cells #[.string tx, .int .i64 act, .int .i64 x, .int .i64 y, .int .i64 v, .int .i64 ck, .int .i64 cn, .int .i64 ch, .int .i64 kd, .int .i64 yes, .int .i64 nwy] 91)).alloc (.cells #[.int .i64 s0, .int .i64 s1, .int .i64 s2, .int .i64 s3, .int .i64 s4, .int .i64 s5] 102)).alloc (.cells #[.int .i64 0, .int .i64 0, .int .i64 0, .int .i64 0, .int .i64 0, .int .i64 0] 102)).alloc (.cells #[.int .i64 s0, .int .i64 s1, .int .i64 s2, .int .i64 s3, .int .i64 s4, .int .i64 s5] 102))) w.heap.size [.string tx, .int .i64 act, .int .i64 x, .int .i64 y, .int .i64 v, .int .i64 ck, .int .i64 cn, .int .i64 ch, .int .i64 kd, .int .i64 yes, .int .i64 nwy] 91 := by (repeat' (first | ((with_reducible show (_ : List Value) = _); rfl) | ((with_reducible refine Blk.newAt _ _ _ ?_); first | with_reducible rfl | (simp; done)) | with_reducible refine Blk.alloc ?_ _ | with_reducible refine Blk.drewN ?_ _ | with_reducible refine Blk.drew ?_ | ((with_reducible refine Blk.other ?_ _ ?_); rotate_left; ((try dsimp only); omega)) | with_reducible refine Blk.setB (cs0 := ?_) ?_ ?_))
  have hkk : Kp no w (((((w.alloc (.cells #[.string tx, .int .i64 act, .int .i64 x, .int .i64 y, .int .i64 v, .int .i64 ck, .int .i64 cn, .int .i64 ch, .int .i64 kd, .int .i64 yes, .int .i64 nwy] 91)).alloc (.cells #[.int .i64 s0, .int .i64 s1, .int .i64 s2, .int .i64 s3, .int .i64 s4, .int .i64 s5] 102)).alloc (.cells #[.int .i64 0, .int .i64 0, .int .i64 0, .int .i64 0, .int .i64 0, .int .i64 0] 102)).alloc (.cells #[.int .i64 s0, .int .i64 s1, .int .i64 s2, .int .i64 s3, .int .i64 s4, .int .i64 s5] 102))) := by (repeat' (first | with_reducible exact Kp.refl _ _ | with_reducible refine Kp.alloc ?_ _ | with_reducible refine Kp.drewN ?_ _ | with_reducible refine Kp.drew ?_ | with_reducible refine Kp.setCell ?_ _ ?_ | (intro hh; first | rfl | exact .inl rfl | exact .inr rfl | (exfalso; (try dsimp only at hh); omega))))
  have HA0 := hide (AS.mk hnb hrb hsb : AS _ _ _ [s0, s1, s2, s3, s4, s5])
  have HKK0 := hide hkk
  clear hnb hrb hsb hkk
  refine (HK1.out _ HA0.out.s).mono ?_
  rintro e w1 ⟨rfl, hz1, k1⟩
  have HA1 := hide (HA0.out.ks k1 hz1)
  have HKK1 := hide (HKK0.out.trans k1 (fun z hz e => by omega))
  clear hz1 k1 HA0 HKK0
  obtain ⟨n0, n1, n2, n3, n4, n5, n6, n7, n8, n9, n10, nf⟩ := HA1.out.n.c11; have hnl := HA1.out.n.lt
  go_wp2_with fail
  refine (HK2.out _ HA1.out.s).mono ?_
  rintro e w2 ⟨rfl, hz2, k2⟩
  have HA2 := hide (HA1.out.ks k2 hz2)
  have HKK2 := hide (HKK1.out.trans k2 (fun z hz e => by omega))
  clear hz2 k2 HA1 HKK1
  clear n0 n1 n2 n3 n4 n5 n6 n7 n8 n9 n10 nf hnl
  obtain ⟨n0, n1, n2, n3, n4, n5, n6, n7, n8, n9, n10, nf⟩ := HA2.out.n.c11; have hnl := HA2.out.n.lt
  change Hid (AS _ _ _ (keZ (keZ [s0, s1, s2, s3, s4, s5] y tk) v tk)) at HA2
  obtain ⟨d0, d1, d2, d3, d4, d5, df, dl⟩ := HA2.out.r'.c6
  go_wp2
  have hb := HA2.out.r'
  have kk := HKK2.out
  refine body_agg (Tb := 102) (b := w.heap.size + 1 + 1) (cs := [.int .i64 0, .int .i64 0, .int .i64 0, .int .i64 0, .int .i64 0, .int .i64 0]) (.inr rfl) Tryz.results111 rfl rfl (by (repeat' (first | ((with_reducible show (_ : List Value) = _); rfl) | with_reducible exact hb | ((with_reducible refine Blk.newAt _ _ _ ?_); first | with_reducible rfl | (simp; done)) | with_reducible refine Blk.alloc ?_ _ | with_reducible refine Blk.drewN ?_ _ | with_reducible refine Blk.drew ?_ | ((with_reducible refine Blk.other ?_ _ ?_); rotate_left; ((try dsimp only); omega)) | with_reducible refine Blk.setB (cs0 := ?_) ?_ ?_))) Tryz.underlying102 rfl (by kernel_rfl) ?_
  exact ⟨rfl, by (repeat' (first | with_reducible exact Kp.refl _ _ | with_reducible refine Kp.alloc ?_ _ | with_reducible refine Kp.drewN ?_ _ | with_reducible refine Kp.drew ?_ | with_reducible refine Kp.setCell ?_ _ ?_ | with_reducible refine Kp.trans ?_ kk (fun _ _ e => e) | (intro hh; first | rfl | exact .inl rfl | exact .inr rfl | (exfalso; (try dsimp only at hh); omega))))⟩

end Go.Proofs.YtellieabhaphhaaGreatDoor
