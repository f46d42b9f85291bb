import Derived.Test.YtellieabhaphhabGreatDoorPPrunedA
/-
  narrow: kinds, values and signs, against the answer's own.
-/
namespace Go.Proofs.YtellieabhaphhabGreatDoor
open Go.RowKit

/-- The bit of a kind's sign. -/
def bit (k : Int) : Int := if k = 110 then 1 else if k = 116 then 2 else if k = 102 then 4 else if k = 122 then 8 else if k = 65 then 16 else if k = 66 then 32 else if k = 67 then 64 else 0

def KOk (k : Int) : Prop := k = 110 ∨ k = 116 ∨ k = 102 ∨ k = 122 ∨ k = 65 ∨ k = 66 ∨ k = 67

/-- A value as narrow holds it. -/
def Vl.nc (x : Vl) : List Value := [.int .i64 (bit x.k), .int .i64 x.n, .int .i64 (bit x.v)]

set_option maxHeartbeats 400000 in
theorem nkindSign_c (k : Int) (h : KOk k) (w : World) :
    Calls Tryz.prog 85 #[.int .i64 (bit k)] w fun e w' => e = .returned (.string (strOfNums [k])) ∧ w' = w := by
  rcases h with rfl | rfl | rfl | rfl | rfl | rfl | rfl
  all_goals
    simp only [bit, reduceIte, Int.reduceEq]
    go_enter Tryz.func85, Tryz.ntmps85
    go_wp2
    go_ret
    exact ⟨rfl, rfl⟩

set_option maxHeartbeats 800000 in
theorem nkindOfSign_c (c : Nat) (w : World) :
    Calls Tryz.prog 166 #[.int .u8 c] w fun e w' => e = .returned (.int .i64 (bit c)) ∧ w' = w := by
  by_cases h110 : c = 110
  · subst h110
    go_enter Tryz.func166, Tryz.ntmps166
    go_wp2
    go_ret
    exact ⟨rfl, rfl⟩
  by_cases h116 : c = 116
  · subst h116
    go_enter Tryz.func166, Tryz.ntmps166
    go_wp2
    go_ret
    exact ⟨rfl, rfl⟩
  by_cases h102 : c = 102
  · subst h102
    go_enter Tryz.func166, Tryz.ntmps166
    go_wp2
    go_ret
    exact ⟨rfl, rfl⟩
  by_cases h122 : c = 122
  · subst h122
    go_enter Tryz.func166, Tryz.ntmps166
    go_wp2
    go_ret
    exact ⟨rfl, rfl⟩
  by_cases h65 : c = 65
  · subst h65
    go_enter Tryz.func166, Tryz.ntmps166
    go_wp2
    go_ret
    exact ⟨rfl, rfl⟩
  by_cases h66 : c = 66
  · subst h66
    go_enter Tryz.func166, Tryz.ntmps166
    go_wp2
    go_ret
    exact ⟨rfl, rfl⟩
  by_cases h67 : c = 67
  · subst h67
    go_enter Tryz.func166, Tryz.ntmps166
    go_wp2
    go_ret
    exact ⟨rfl, rfl⟩
  have HV := hide (show bit c = 0 by unfold bit; repeat' (first | rw [if_neg (by omega)] | rfl))
  rw [HV.out]
  have f110 : ((c : Int) == 110) = false := by simp; omega
  have f116 : ((c : Int) == 116) = false := by simp; omega
  have f102 : ((c : Int) == 102) = false := by simp; omega
  have f122 : ((c : Int) == 122) = false := by simp; omega
  have f65 : ((c : Int) == 65) = false := by simp; omega
  have f66 : ((c : Int) == 66) = false := by simp; omega
  have f67 : ((c : Int) == 67) = false := by simp; omega
  go_enter Tryz.func166, Tryz.ntmps166
  go_wp2
  go_ret
  exact ⟨rfl, rfl⟩

/-- What a sign stands for in a node. -/
def conV (c : Nat) : Vl :=
  if 48 ≤ c ∧ c ≤ 57 then ⟨110, (c : Int) - 48, 0⟩ else if c = 84 then ⟨116, 0, 0⟩ else if c = 70 then ⟨102, 0, 0⟩ else if c = 90 then ⟨122, 0, 0⟩ else if c = 67 then ⟨67, 0, 0⟩ else ⟨0, 0, 0⟩

set_option maxHeartbeats 1600000 in
theorem nconstantOfSign_c (c : Nat) (hc : c < 256) (w : World) :
    Calls Tryz.prog 156 #[.int .u8 c] w fun e w' => e = .returned (.agg (conV c).nc.toArray) ∧ Kp no w w' := by
  by_cases g0 : 48 ≤ c ∧ c ≤ 57
  · have HV := hide (show (conV c).nc = [.int .i64 1, .int .i64 ((c : Int) - 48), .int .i64 0] by rw [conV, if_pos g0]; rfl)
    obtain ⟨g0, g0'⟩ := g0
    go_enter Tryz.func156, Tryz.ntmps156
    go_wp2
    refine body_agg (Tb := 66) (b := w.heap.size) (cs := [.int .i64 1, .int .i64 ((c : Int) - 48), .int .i64 0]) (.inr rfl) Tryz.results156 rfl rfl (by (repeat' (first | ((with_reducible show (_ : List Value) = _); rfl) | ((with_reducible refine Blk.newAt _ _ _ ?_); first | with_reducible rfl | (simp; done)) | with_reducible refine Blk.alloc ?_ _ | with_reducible refine Blk.drewN ?_ _ | with_reducible refine Blk.drew ?_ | ((with_reducible refine Blk.other ?_ _ ?_); rotate_left; ((try dsimp only); omega)) | with_reducible refine Blk.setB (cs0 := ?_) ?_ ?_))) Tryz.underlying66 rfl (by kernel_rfl) ?_
    rw [HV.out]
    exact ⟨rfl, by (repeat' (first | with_reducible exact Kp.refl _ _ | with_reducible refine Kp.alloc ?_ _ | with_reducible refine Kp.drewN ?_ _ | with_reducible refine Kp.drew ?_ | with_reducible refine Kp.setCell ?_ _ ?_ | (intro hh; first | rfl | exact .inl rfl | exact .inr rfl | (exfalso; (try dsimp only at hh); omega))))⟩
  have g0' : ¬ (48 ≤ (c : Int) ∧ (c : Int) ≤ 57) := by omega
  by_cases h84 : c = 84
  · subst h84
    have HV := hide (show (conV 84).nc = [.int .i64 2, .int .i64 0, .int .i64 0] by rfl)
    go_enter Tryz.func156, Tryz.ntmps156
    go_wp2
    refine body_agg (Tb := 66) (b := w.heap.size) (cs := [.int .i64 2, .int .i64 0, .int .i64 0]) (.inr rfl) Tryz.results156 rfl rfl (by (repeat' (first | ((with_reducible show (_ : List Value) = _); rfl) | ((with_reducible refine Blk.newAt _ _ _ ?_); first | with_reducible rfl | (simp; done)) | with_reducible refine Blk.alloc ?_ _ | with_reducible refine Blk.drewN ?_ _ | with_reducible refine Blk.drew ?_ | ((with_reducible refine Blk.other ?_ _ ?_); rotate_left; ((try dsimp only); omega)) | with_reducible refine Blk.setB (cs0 := ?_) ?_ ?_))) Tryz.underlying66 rfl (by kernel_rfl) ?_
    rw [HV.out]
    exact ⟨rfl, by (repeat' (first | with_reducible exact Kp.refl _ _ | with_reducible refine Kp.alloc ?_ _ | with_reducible refine Kp.drewN ?_ _ | with_reducible refine Kp.drew ?_ | with_reducible refine Kp.setCell ?_ _ ?_ | (intro hh; first | rfl | exact .inl rfl | exact .inr rfl | (exfalso; (try dsimp only at hh); omega))))⟩
  by_cases h70 : c = 70
  · subst h70
    have HV := hide (show (conV 70).nc = [.int .i64 4, .int .i64 0, .int .i64 0] by rfl)
    go_enter Tryz.func156, Tryz.ntmps156
    go_wp2
    refine body_agg (Tb := 66) (b := w.heap.size) (cs := [.int .i64 4, .int .i64 0, .int .i64 0]) (.inr rfl) Tryz.results156 rfl rfl (by (repeat' (first | ((with_reducible show (_ : List Value) = _); rfl) | ((with_reducible refine Blk.newAt _ _ _ ?_); first | with_reducible rfl | (simp; done)) | with_reducible refine Blk.alloc ?_ _ | with_reducible refine Blk.drewN ?_ _ | with_reducible refine Blk.drew ?_ | ((with_reducible refine Blk.other ?_ _ ?_); rotate_left; ((try dsimp only); omega)) | with_reducible refine Blk.setB (cs0 := ?_) ?_ ?_))) Tryz.underlying66 rfl (by kernel_rfl) ?_
    rw [HV.out]
    exact ⟨rfl, by (repeat' (first | with_reducible exact Kp.refl _ _ | with_reducible refine Kp.alloc ?_ _ | with_reducible refine Kp.drewN ?_ _ | with_reducible refine Kp.drew ?_ | with_reducible refine Kp.setCell ?_ _ ?_ | (intro hh; first | rfl | exact .inl rfl | exact .inr rfl | (exfalso; (try dsimp only at hh); omega))))⟩
  by_cases h90 : c = 90
  · subst h90
    have HV := hide (show (conV 90).nc = [.int .i64 8, .int .i64 0, .int .i64 0] by rfl)
    go_enter Tryz.func156, Tryz.ntmps156
    go_wp2
    refine body_agg (Tb := 66) (b := w.heap.size) (cs := [.int .i64 8, .int .i64 0, .int .i64 0]) (.inr rfl) Tryz.results156 rfl rfl (by (repeat' (first | ((with_reducible show (_ : List Value) = _); rfl) | ((with_reducible refine Blk.newAt _ _ _ ?_); first | with_reducible rfl | (simp; done)) | with_reducible refine Blk.alloc ?_ _ | with_reducible refine Blk.drewN ?_ _ | with_reducible refine Blk.drew ?_ | ((with_reducible refine Blk.other ?_ _ ?_); rotate_left; ((try dsimp only); omega)) | with_reducible refine Blk.setB (cs0 := ?_) ?_ ?_))) Tryz.underlying66 rfl (by kernel_rfl) ?_
    rw [HV.out]
    exact ⟨rfl, by (repeat' (first | with_reducible exact Kp.refl _ _ | with_reducible refine Kp.alloc ?_ _ | with_reducible refine Kp.drewN ?_ _ | with_reducible refine Kp.drew ?_ | with_reducible refine Kp.setCell ?_ _ ?_ | (intro hh; first | rfl | exact .inl rfl | exact .inr rfl | (exfalso; (try dsimp only at hh); omega))))⟩
  by_cases h67 : c = 67
  · subst h67
    have HV := hide (show (conV 67).nc = [.int .i64 64, .int .i64 0, .int .i64 0] by rfl)
    go_enter Tryz.func156, Tryz.ntmps156
    go_wp2
    refine body_agg (Tb := 66) (b := w.heap.size) (cs := [.int .i64 64, .int .i64 0, .int .i64 0]) (.inr rfl) Tryz.results156 rfl rfl (by (repeat' (first | ((with_reducible show (_ : List Value) = _); rfl) | ((with_reducible refine Blk.newAt _ _ _ ?_); first | with_reducible rfl | (simp; done)) | with_reducible refine Blk.alloc ?_ _ | with_reducible refine Blk.drewN ?_ _ | with_reducible refine Blk.drew ?_ | ((with_reducible refine Blk.other ?_ _ ?_); rotate_left; ((try dsimp only); omega)) | with_reducible refine Blk.setB (cs0 := ?_) ?_ ?_))) Tryz.underlying66 rfl (by kernel_rfl) ?_
    rw [HV.out]
    exact ⟨rfl, by (repeat' (first | with_reducible exact Kp.refl _ _ | with_reducible refine Kp.alloc ?_ _ | with_reducible refine Kp.drewN ?_ _ | with_reducible refine Kp.drew ?_ | with_reducible refine Kp.setCell ?_ _ ?_ | (intro hh; first | rfl | exact .inl rfl | exact .inr rfl | (exfalso; (try dsimp only at hh); omega))))⟩
  have HV := hide (show (conV c).nc = [.int .i64 0, .int .i64 0, .int .i64 0] by rw [conV, if_neg g0, if_neg h84, if_neg h70, if_neg h90, if_neg h67]; rfl)
  have f84 : ((c : Int) == 84) = false := by simp; omega
  have f70 : ((c : Int) == 70) = false := by simp; omega
  have f90 : ((c : Int) == 90) = false := by simp; omega
  have f67 : ((c : Int) == 67) = false := by simp; omega
  rcases Nat.lt_or_ge c 48 with q | q
  · go_enter Tryz.func156, Tryz.ntmps156
    go_wp2
    refine body_agg (Tb := 66) (b := w.heap.size) (cs := [.int .i64 0, .int .i64 0, .int .i64 0]) (.inr rfl) Tryz.results156 rfl rfl (by (repeat' (first | ((with_reducible show (_ : List Value) = _); rfl) | ((with_reducible refine Blk.newAt _ _ _ ?_); first | with_reducible rfl | (simp; done)) | with_reducible refine Blk.alloc ?_ _ | with_reducible refine Blk.drewN ?_ _ | with_reducible refine Blk.drew ?_ | ((with_reducible refine Blk.other ?_ _ ?_); rotate_left; ((try dsimp only); omega)) | with_reducible refine Blk.setB (cs0 := ?_) ?_ ?_))) Tryz.underlying66 rfl (by kernel_rfl) ?_
    rw [HV.out]
    exact ⟨rfl, by (repeat' (first | with_reducible exact Kp.refl _ _ | with_reducible refine Kp.alloc ?_ _ | with_reducible refine Kp.drewN ?_ _ | with_reducible refine Kp.drew ?_ | with_reducible refine Kp.setCell ?_ _ ?_ | (intro hh; first | rfl | exact .inl rfl | exact .inr rfl | (exfalso; (try dsimp only at hh); omega))))⟩
  · go_enter Tryz.func156, Tryz.ntmps156
    go_wp2
    refine body_agg (Tb := 66) (b := w.heap.size) (cs := [.int .i64 0, .int .i64 0, .int .i64 0]) (.inr rfl) Tryz.results156 rfl rfl (by (repeat' (first | ((with_reducible show (_ : List Value) = _); rfl) | ((with_reducible refine Blk.newAt _ _ _ ?_); first | with_reducible rfl | (simp; done)) | with_reducible refine Blk.alloc ?_ _ | with_reducible refine Blk.drewN ?_ _ | with_reducible refine Blk.drew ?_ | ((with_reducible refine Blk.other ?_ _ ?_); rotate_left; ((try dsimp only); omega)) | with_reducible refine Blk.setB (cs0 := ?_) ?_ ?_))) Tryz.underlying66 rfl (by kernel_rfl) ?_
    rw [HV.out]
    exact ⟨rfl, by (repeat' (first | with_reducible exact Kp.refl _ _ | with_reducible refine Kp.alloc ?_ _ | with_reducible refine Kp.drewN ?_ _ | with_reducible refine Kp.drew ?_ | with_reducible refine Kp.setCell ?_ _ ?_ | (intro hh; first | rfl | exact .inl rfl | exact .inr rfl | (exfalso; (try dsimp only at hh); omega))))⟩

theorem bit_con (c : Nat) : bit (conV c).k = 0 ↔ ¬ ((48 ≤ c ∧ c ≤ 57) ∨ c = 84 ∨ c = 70 ∨ c = 90 ∨ c = 67) := by
  unfold conV; repeat' split
  all_goals simp [bit]
  all_goals omega

theorem inVal_con (c : Nat) (h : bit (conV c).k ≠ 0) : inVal c = conV c := by
  have h' := mt (bit_con c).2 h
  unfold inVal conV
  repeat' split
  all_goals first | rfl | (exfalso; omega)

theorem inVal_nul (c : Nat) (h : bit (conV c).k = 0) (h1 : c ≠ 65) (h2 : c ≠ 66) : inVal c = ⟨122, 0, 0⟩ := by
  have h' := (bit_con c).1 h
  unfold inVal
  repeat' split
  all_goals first | rfl | (exfalso; omega)

set_option maxHeartbeats 1600000 in
theorem ninputValue_c (c : Nat) (hc : c < 256) (w : World) :
    Calls Tryz.prog 130 #[.int .u8 c] w fun e w' => e = .returned (.agg (inVal c).nc.toArray) ∧ Kp no w w' := by
  by_cases h65 : c = 65
  · subst h65
    have HV := hide (show (inVal 65).nc = [.int .i64 16, .int .i64 0, .int .i64 0] by rfl)
    go_enter Tryz.func130, Tryz.ntmps130
    go_wp2
    refine body_agg (Tb := 66) (b := w.heap.size) (cs := [.int .i64 16, .int .i64 0, .int .i64 0]) (.inr rfl) Tryz.results130 rfl rfl (by (repeat' (first | ((with_reducible show (_ : List Value) = _); rfl) | ((with_reducible refine Blk.newAt _ _ _ ?_); first | with_reducible rfl | (simp; done)) | with_reducible refine Blk.alloc ?_ _ | with_reducible refine Blk.drewN ?_ _ | with_reducible refine Blk.drew ?_ | ((with_reducible refine Blk.other ?_ _ ?_); rotate_left; ((try dsimp only); omega)) | with_reducible refine Blk.setB (cs0 := ?_) ?_ ?_))) Tryz.underlying66 rfl (by kernel_rfl) ?_
    rw [HV.out]
    exact ⟨rfl, by (repeat' (first | with_reducible exact Kp.refl _ _ | with_reducible refine Kp.alloc ?_ _ | with_reducible refine Kp.drewN ?_ _ | with_reducible refine Kp.drew ?_ | with_reducible refine Kp.setCell ?_ _ ?_ | (intro hh; first | rfl | exact .inl rfl | exact .inr rfl | (exfalso; (try dsimp only at hh); omega))))⟩
  by_cases h66 : c = 66
  · subst h66
    have HV := hide (show (inVal 66).nc = [.int .i64 32, .int .i64 0, .int .i64 8] by rfl)
    go_enter Tryz.func130, Tryz.ntmps130
    go_wp2
    refine body_agg (Tb := 66) (b := w.heap.size) (cs := [.int .i64 32, .int .i64 0, .int .i64 8]) (.inr rfl) Tryz.results130 rfl rfl (by (repeat' (first | ((with_reducible show (_ : List Value) = _); rfl) | ((with_reducible refine Blk.newAt _ _ _ ?_); first | with_reducible rfl | (simp; done)) | with_reducible refine Blk.alloc ?_ _ | with_reducible refine Blk.drewN ?_ _ | with_reducible refine Blk.drew ?_ | ((with_reducible refine Blk.other ?_ _ ?_); rotate_left; ((try dsimp only); omega)) | with_reducible refine Blk.setB (cs0 := ?_) ?_ ?_))) Tryz.underlying66 rfl (by kernel_rfl) ?_
    rw [HV.out]
    exact ⟨rfl, by (repeat' (first | with_reducible exact Kp.refl _ _ | with_reducible refine Kp.alloc ?_ _ | with_reducible refine Kp.drewN ?_ _ | with_reducible refine Kp.drew ?_ | with_reducible refine Kp.setCell ?_ _ ?_ | (intro hh; first | rfl | exact .inl rfl | exact .inr rfl | (exfalso; (try dsimp only at hh); omega))))⟩
  have f65 : ((c : Int) == 65) = false := by simp; omega
  have f66 : ((c : Int) == 66) = false := by simp; omega
  have HC := hide (fun W => nconstantOfSign_c c hc W)
  by_cases hb : bit (conV c).k = 0
  · have HV := hide (show (inVal c).nc = [.int .i64 8, .int .i64 0, .int .i64 0] by rw [inVal_nul c hb h65 h66]; rfl)
    unfold Vl.nc at HC
    rw [hb] at HC
    generalize (conV c).n = cn at HC
    generalize bit (conV c).v = cv at HC
    go_enter Tryz.func130, Tryz.ntmps130
    go_wp2_with fail
    refine (HC.out _).mono ?_
    rintro e w1 ⟨rfl, k1⟩
    have hR : Blk w1 w.heap.size [.int .i64 0, .int .i64 0, .int .i64 0] 66 := k1.blk (by (repeat' (first | ((with_reducible show (_ : List Value) = _); rfl) | ((with_reducible refine Blk.newAt _ _ _ ?_); first | with_reducible rfl | (simp; done)) | with_reducible refine Blk.alloc ?_ _ | with_reducible refine Blk.drewN ?_ _ | with_reducible refine Blk.drew ?_ | ((with_reducible refine Blk.other ?_ _ ?_); rotate_left; ((try dsimp only); omega)) | with_reducible refine Blk.setB (cs0 := ?_) ?_ ?_))) no_elim
    have hz := hR.lt
    obtain ⟨z0, z1, z2, zf⟩ := hR.c3
    go_wp2
    refine body_agg (Tb := 66) (b := w.heap.size) (cs := [.int .i64 8, .int .i64 0, .int .i64 0]) (.inr rfl) Tryz.results130 rfl rfl (by (repeat' (first | ((with_reducible show (_ : List Value) = _); rfl) | with_reducible exact hR | ((with_reducible refine Blk.newAt _ _ _ ?_); first | with_reducible rfl | (simp; done)) | with_reducible refine Blk.alloc ?_ _ | with_reducible refine Blk.drewN ?_ _ | with_reducible refine Blk.drew ?_ | ((with_reducible refine Blk.other ?_ _ ?_); rotate_left; ((try dsimp only); omega)) | with_reducible refine Blk.setB (cs0 := ?_) ?_ ?_))) Tryz.underlying66 rfl (by kernel_rfl) ?_
    rw [HV.out]
    exact ⟨rfl, by (repeat' (first | with_reducible exact Kp.refl _ _ | with_reducible refine Kp.alloc ?_ _ | with_reducible refine Kp.drewN ?_ _ | with_reducible refine Kp.drew ?_ | with_reducible refine Kp.setCell ?_ _ ?_ | with_reducible refine Kp.trans ?_ k1 (fun _ _ e => e) | (intro hh; first | rfl | exact .inl rfl | exact .inr rfl | (exfalso; (try dsimp only at hh); omega))))⟩
  · have HV := hide (show (inVal c).nc = [.int .i64 (bit (conV c).k), .int .i64 (conV c).n, .int .i64 (bit (conV c).v)] by rw [inVal_con c hb]; rfl)
    unfold Vl.nc at HC
    have hb' : (bit (conV c).k == 0) = false := by simp [hb]
    generalize bit (conV c).k = ck at *
    generalize (conV c).n = cn at *
    generalize bit (conV c).v = cv at *
    go_enter Tryz.func130, Tryz.ntmps130
    go_wp2_with fail
    refine (HC.out _).mono ?_
    rintro e w1 ⟨rfl, k1⟩
    have hR : Blk w1 w.heap.size [.int .i64 0, .int .i64 0, .int .i64 0] 66 := k1.blk (by (repeat' (first | ((with_reducible show (_ : List Value) = _); rfl) | ((with_reducible refine Blk.newAt _ _ _ ?_); first | with_reducible rfl | (simp; done)) | with_reducible refine Blk.alloc ?_ _ | with_reducible refine Blk.drewN ?_ _ | with_reducible refine Blk.drew ?_ | ((with_reducible refine Blk.other ?_ _ ?_); rotate_left; ((try dsimp only); omega)) | with_reducible refine Blk.setB (cs0 := ?_) ?_ ?_))) no_elim
    have hz := hR.lt
    obtain ⟨z0, z1, z2, zf⟩ := hR.c3
    go_wp2
    refine body_agg (Tb := 66) (b := w.heap.size) (cs := [.int .i64 ck, .int .i64 cn, .int .i64 cv]) (.inr rfl) Tryz.results130 rfl rfl (by (repeat' (first | ((with_reducible show (_ : List Value) = _); rfl) | with_reducible exact hR | ((with_reducible refine Blk.newAt _ _ _ ?_); first | with_reducible rfl | (simp; done)) | with_reducible refine Blk.alloc ?_ _ | with_reducible refine Blk.drewN ?_ _ | with_reducible refine Blk.drew ?_ | ((with_reducible refine Blk.other ?_ _ ?_); rotate_left; ((try dsimp only); omega)) | with_reducible refine Blk.setB (cs0 := ?_) ?_ ?_))) Tryz.underlying66 rfl (by kernel_rfl) ?_
    rw [HV.out]
    exact ⟨rfl, by (repeat' (first | with_reducible exact Kp.refl _ _ | with_reducible refine Kp.alloc ?_ _ | with_reducible refine Kp.drewN ?_ _ | with_reducible refine Kp.drew ?_ | with_reducible refine Kp.setCell ?_ _ ?_ | with_reducible refine Kp.trans ?_ k1 (fun _ _ e => e) | (intro hh; first | rfl | exact .inl rfl | exact .inr rfl | (exfalso; (try dsimp only at hh); omega))))⟩

end Go.Proofs.YtellieabhaphhabGreatDoor

/-
  narrowref's reader: a line of a graph.
-/
namespace Go.Proofs.YtellieabhaphhabGreatDoor
open Go.RowKit

def digF (s : ByteArray) (p : Nat × Bool) : Nat × (Nat × Bool) :=
  if p.2 || decide (pk s p.1 < 48) || decide (57 < pk s p.1) then (0, (p.1, true)) else (pk s p.1 - 48, (p.1 + 1, false))

theorem digF_lt (s : ByteArray) (p : Nat × Bool) : (digF s p).1 < 10 := by
  unfold digF; split
  · show (0 : Nat) < 10; decide
  · rename_i h; simp at h; show pk s p.1 - 48 < 10; omega

theorem digF_le (s : ByteArray) (p : Nat × Bool) (h : p.1 ≤ s.size) : (digF s p).2.1 ≤ s.size := by
  unfold digF; split
  · exact h
  · rename_i h'
    have := pk_in s p.1 (by simp at h'; omega)
    show p.1 + 1 ≤ _
    omega

theorem digF_ge (s : ByteArray) (p : Nat × Bool) : p.1 ≤ (digF s p).2.1 ∧ ((digF s p).2.2 = false → p.1 < (digF s p).2.1 ∧ p.2 = false) := by
  unfold digF; split
  · exact ⟨Nat.le_refl _, by simp⟩
  · rename_i h; exact ⟨Nat.le_succ _, fun _ => ⟨Nat.lt_succ_self _, by simp at h; exact h.1.1⟩⟩

def wayF (s : ByteArray) (p : Nat × Bool) : Nat × (Nat × Bool) :=
  (10 * (digF s (eatF s p 44)).1 + (digF s (digF s (eatF s p 44)).2).1, (digF s (digF s (eatF s p 44)).2).2)

theorem wayF_lt (s : ByteArray) (p : Nat × Bool) : (wayF s p).1 < 100 := by
  have h1 := digF_lt s (eatF s p 44); have h2 := digF_lt s (digF s (eatF s p 44)).2
  show 10 * _ + _ < 100; omega

theorem wayF_le (s : ByteArray) (p : Nat × Bool) (h : p.1 ≤ s.size) : (wayF s p).2.1 ≤ s.size := digF_le s _ (digF_le s _ (eatF_le s p 44 (by decide) h))

theorem wayF_ge (s : ByteArray) (p : Nat × Bool) : p.1 ≤ (wayF s p).2.1 ∧ ((wayF s p).2.2 = false → p.1 < (wayF s p).2.1 ∧ p.2 = false) := by
  have h1 := eatF_ge s p 44; have h2 := digF_ge s (eatF s p 44); have h3 := digF_ge s (digF s (eatF s p 44)).2
  refine ⟨by show _ ≤ (digF s (digF s (eatF s p 44)).2).2.1; omega, fun h => ?_⟩
  have q3 := h3.2 h
  have q2 := h2.2 q3.2
  have q1 := h1.2 q2.2
  exact ⟨by show _ < (digF s (digF s (eatF s p 44)).2).2.1; omega, q1.2⟩

/-- A node of a graph, but for its ways. -/
def lineN (s : ByteArray) (i : Nat) : Nd × (Nat × Bool) :=
  if pk s i = 42 then ({ op := 42, x := 0, y := 0, v := 0, k := 0, t := 0, f := -1, a := i, l := 1 }, (i + 1, false))
  else if 97 ≤ pk s i ∧ pk s i ≤ 102 ∧ pk s (i + 1) ≠ 61 ∧ pk s (i + 1) ≠ 126 then testF s i
  else simpF s i

def lineT (s : ByteArray) (n : Nd) (p : Nat × Bool) : Int × (Nat × Bool) := if n.op = 33 then (-1, p) else (((wayF s p).1 : Nat), (wayF s p).2)
def lineG (s : ByteArray) (n : Nd) (p : Nat × Bool) : Int × (Nat × Bool) := if n.op = 121 ∨ n.op = 58 then (((wayF s p).1 : Nat), (wayF s p).2) else (n.f, p)

def lineF (s : ByteArray) (st : RS) : RS :=
  if (lineN s st.i).2.2 = true then { st with i := (lineN s st.i).2.1, bad := true }
  else
    let n := (lineN s st.i).1
    let q := lineT s n (lineN s st.i).2
    let g := lineG s n q.2
    let e := eatF s g.2 59
    { st with i := e.1, bad := e.2, nodes := st.nodes ++ [{ n with t := q.1, f := g.1 }] }

end Go.Proofs.YtellieabhaphhabGreatDoor

/-
  narrow's reader: small parts.
-/
namespace Go.Proofs.YtellieabhaphhabGreatDoor
open Go.RowKit

/-- narrow's reader, at the head of its block. -/
def NR (w : World) (r : Nat) (s : ByteArray) (p : Nat × Bool) (rest : List Value) (T : TypeId) : Prop :=
  Blk w r (.string s :: .int .i64 p.1 :: .bool p.2 :: rest) T

/-- The byte at hand, or 0. -/
def pkb (s : ByteArray) (p : Nat × Bool) : Nat := if p.2 then 0 else pk s p.1

theorem pkb_false (s : ByteArray) (i : Nat) : pkb s (i, false) = pk s i := rfl
theorem pkb_true (s : ByteArray) (i : Nat) : pkb s (i, true) = 0 := rfl
theorem pkb_lt (s : ByteArray) (p : Nat × Bool) : pkb s p < 256 := by unfold pkb; split; decide; exact pk_lt _ _

theorem eatF_pkb (s : ByteArray) (p : Nat × Bool) (c : Nat) (hc : c ≠ 0) : eatF s p c = if pkb s p = c then (p.1 + 1, false) else (p.1, true) := by
  obtain ⟨i, b⟩ := p
  cases b <;> simp [eatF, pkb]
  omega

theorem NR.n {w : World} {r : Nat} {s : ByteArray} {p : Nat × Bool} {rest : List Value} {T : TypeId} (h : NR w r s p rest T) (n : Nat) : NR (w.drewN n) r s p rest T := h
theorem NR.bad {w : World} {r : Nat} {s : ByteArray} {p : Nat × Bool} {rest : List Value} {T : TypeId} (h : NR w r s p rest T) : NR (w.setCell ⟨r, 2, none⟩ (.bool true)) r s (p.1, true) rest T :=
  Blk.set h 2 (.bool true)
theorem NR.next {w : World} {r : Nat} {s : ByteArray} {p : Nat × Bool} {rest : List Value} {T : TypeId} (h : NR w r s p rest T) : NR (w.setCell ⟨r, 1, none⟩ (.int .i64 (p.1 + 1))) r s (p.1 + 1, p.2) rest T :=
  Blk.set h 1 (.int .i64 (p.1 + 1))
theorem NR.c {w : World} {r i : Nat} {s : ByteArray} {b : Bool} {rest : List Value} {T : TypeId} (h : NR w r s (i, b) rest T) :
    w.cell? ⟨r, 0, none⟩ = some (.string s) ∧ w.cell? ⟨r, 1, none⟩ = some (.int .i64 i) ∧ w.cell? ⟨r, 2, none⟩ = some (.bool b) ∧ ∀ o, w.frozen? ⟨r, o, none⟩ = false :=
  ⟨Blk.cell h 0, Blk.cell h 1, Blk.cell h 2, Blk.frozen h⟩
theorem NR.kp {S : Nat → Prop} {w w' : World} {r : Nat} {s : ByteArray} {p : Nat × Bool} {rest : List Value} {T : TypeId} (h : NR w r s p rest T) (k : Kp S w w') (hn : ¬ S r) : NR w' r s p rest T := k.blk h hn
theorem NR.alloc {w : World} {r : Nat} {s : ByteArray} {p : Nat × Bool} {rest : List Value} {T : TypeId} (h : NR w r s p rest T) (o : Obj) : NR (w.alloc o) r s p rest T := Blk.alloc h o
theorem NR.lt {w : World} {r : Nat} {s : ByteArray} {p : Nat × Bool} {rest : List Value} {T : TypeId} (h : NR w r s p rest T) : r < w.heap.size := Blk.lt h

set_option maxHeartbeats 400000 in
theorem npeek_c (r i : Nat) (s : ByteArray) (bad : Bool) (rest : List Value) (T : TypeId) (w : World) (_ : s.size ≤ 1000) (_ : i ≤ s.size)
    (h : NR w r s (i, bad) rest T) :
    Calls Tryz.prog 79 #[.pointer (some ⟨r, 0, none⟩)] w fun e w' => e = .returned (.int .u8 (pkb s (i, bad))) ∧ ∃ n, w' = w.drewN n := by
  obtain ⟨h0, h1, h2, hf⟩ := h.c
  clear h
  cases bad
  · by_cases hi : i < s.size
    · go_enter Tryz.func79, Tryz.ntmps79
      go_wp2
      go_quiet (fail)
      go_wp2
      go_quiet (fail)
      go_wp2
      go_ret
      refine ⟨by simp [pkb, pk, hi], _, drewN2 _ _ _⟩
    · go_enter Tryz.func79, Tryz.ntmps79
      go_wp2
      go_quiet (fail)
      go_wp2
      go_ret
      refine ⟨by simp [pkb, pk, hi], _, rfl⟩
  · go_enter Tryz.func79, Tryz.ntmps79
    go_wp2
    go_quiet (fail)
    go_wp2
    go_ret
    refine ⟨rfl, _, rfl⟩

theorem isVar_c (c : Nat) (w : World) :
    Calls Tryz.prog 150 #[.int .u8 c] w fun e w' => e = .returned (.bool (decide (97 ≤ c) && decide (c ≤ 102))) ∧ w' = w := by
  by_cases h1 : 97 ≤ c
  · by_cases h2 : c ≤ 102
    · go_enter Tryz.func150, Tryz.ntmps150
      go_wp2
      go_ret
      refine ⟨by simp [h1, h2]; omega, rfl⟩
    · go_enter Tryz.func150, Tryz.ntmps150
      go_wp2
      go_ret
      refine ⟨by simp [h1, h2]; omega, rfl⟩
  · go_enter Tryz.func150, Tryz.ntmps150
    go_wp2
    go_ret
    refine ⟨by simp, rfl⟩

theorem varF_pkb (s : ByteArray) (p : Nat × Bool) : varF s p = if (decide (97 ≤ pkb s p) && decide (pkb s p ≤ 102)) = true then (pkb s p - 97, (p.1 + 1, false)) else (0, (p.1, true)) := by
  obtain ⟨i, b⟩ := p
  cases b
  · simp only [varF, pkb_false, Bool.false_or]
    by_cases h1 : 97 ≤ pk s i <;> by_cases h2 : pk s i ≤ 102 <;> simp [h1, h2] <;> omega
  · simp [varF, pkb_true]

set_option maxHeartbeats 400000 in
theorem nvariable_c (r i : Nat) (s : ByteArray) (bad : Bool) (rest : List Value) (T : TypeId) (w : World) (hs : s.size ≤ 1000) (hi : i ≤ s.size)
    (h : NR w r s (i, bad) rest T) :
    Calls Tryz.prog 113 #[.pointer (some ⟨r, 0, none⟩)] w fun e w' => e = .returned (.int .i64 (varF s (i, bad)).1) ∧ NR w' r s (varF s (i, bad)).2 rest T ∧ Kp (· = r) w w' := by
  have HP := hide (npeek_c r i s bad rest T w hs hi h)
  have HB := hide h
  obtain ⟨h0, h1, h2, hf⟩ := h.c
  clear h
  have HV := hide (varF_pkb s (i, bad))
  have hlt := pkb_lt s (i, bad)
  have hbad : bad = true → pkb s (i, bad) = 0 := fun e => by rw [e]; rfl
  generalize pkb s (i, bad) = d at *
  have HI := hide (fun W => isVar_c d W)
  generalize hb : (decide (97 ≤ d) && decide (d ≤ 102)) = b at HV HI
  cases b
  · go_enter Tryz.func113, Tryz.ntmps113
    go_wp2_with (first
      | (go_at_call 79; refine HP.out.mono ?_; rintro e w' ⟨rfl, n, rfl⟩)
      | (go_at_call 150; refine (HI.out _).mono ?_; rintro e w' ⟨rfl, rfl⟩))
    go_ret
    rw [HV.out]
    exact ⟨rfl, (HB.out.n n).bad, ((Kp.refl _ _).drewN n).set _ _⟩
  · simp at hb
    obtain rfl : bad = false := by
      cases bad
      · rfl
      · have := hbad rfl; omega
    clear hbad
    go_enter Tryz.func113, Tryz.ntmps113
    go_wp2_with (first
      | (go_at_call 79; refine HP.out.mono ?_; rintro e w' ⟨rfl, n, rfl⟩)
      | (go_at_call 150; refine (HI.out _).mono ?_; rintro e w' ⟨rfl, rfl⟩))
    go_ret
    rw [HV.out]
    exact ⟨ret_i64 (by simp only [if_true]; omega), (HB.out.n n).next, ((Kp.refl _ _).drewN n).set _ _⟩

theorem am_bit (c : Nat) : amF c [110, 116, 102, 122, 65, 66, 67] = true ↔ ¬ bit c = 0 := by
  simp only [amF, List.any_cons, List.any_nil, Bool.or_false, UInt8.reduceToNat, Bool.or_eq_true, beq_iff_eq]
  unfold bit
  repeat' split
  all_goals simp
  all_goals omega

theorem kindF_pkb (s : ByteArray) (p : Nat × Bool) : kindF s p = if bit (pkb s p) = 0 then (0, (p.1, true)) else (pkb s p, (p.1 + 1, false)) := by
  obtain ⟨i, b⟩ := p
  cases b
  · have := am_bit (pk s i)
    by_cases h : bit (pk s i) = 0
    · rw [if_pos (show bit (pkb s (i, false)) = 0 from h), kindF, if_pos (by simp; exact Bool.eq_false_iff.2 (fun e => this.1 e h))]
    · rw [if_neg (show ¬ bit (pkb s (i, false)) = 0 from h), kindF, if_neg (by simp; exact this.2 h)]; rfl
  · rfl

set_option maxHeartbeats 400000 in
theorem nkind_c (r i : Nat) (s : ByteArray) (bad : Bool) (rest : List Value) (T : TypeId) (w : World) (hs : s.size ≤ 1000) (hi : i ≤ s.size)
    (h : NR w r s (i, bad) rest T) :
    Calls Tryz.prog 152 #[.pointer (some ⟨r, 0, none⟩)] w fun e w' => e = .returned (.int .i64 (bit (kindF s (i, bad)).1)) ∧ NR w' r s (kindF s (i, bad)).2 rest T ∧ Kp (· = r) w w' := by
  have HP := hide (npeek_c r i s bad rest T w hs hi h)
  have HB := hide h
  obtain ⟨h0, h1, h2, hf⟩ := h.c
  clear h
  have HV := hide (kindF_pkb s (i, bad))
  have hbad : bad = true → pkb s (i, bad) = 0 := fun e => by rw [e]; rfl
  generalize pkb s (i, bad) = d at *
  have HI := hide (fun W => nkindOfSign_c d W)
  by_cases hb : bit d = 0
  · rw [hb] at HI
    rw [if_pos hb] at HV
    clear hb
    go_enter Tryz.func152, Tryz.ntmps152
    go_wp2_with (first
      | (go_at_call 79; refine HP.out.mono ?_; rintro e w' ⟨rfl, n, rfl⟩)
      | (go_at_call 166; refine (HI.out _).mono ?_; rintro e w' ⟨rfl, rfl⟩))
    go_ret
    rw [HV.out]
    exact ⟨rfl, (HB.out.n n).bad, ((Kp.refl _ _).drewN n).set _ _⟩
  · rw [if_neg hb] at HV
    obtain rfl : bad = false := by
      cases bad
      · rfl
      · exact absurd (by rw [hbad rfl]; rfl) hb
    have hb' : (bit d == 0) = false := by simp [hb]
    have HBE := hide (show bit (kindF s (i, false)).1 = bit d by rw [HV.out])
    generalize bit d = bd at HI HBE hb'
    clear hbad hb
    go_enter Tryz.func152, Tryz.ntmps152
    go_wp2_with (first
      | (go_at_call 79; refine HP.out.mono ?_; rintro e w' ⟨rfl, n, rfl⟩)
      | (go_at_call 166; refine (HI.out _).mono ?_; rintro e w' ⟨rfl, rfl⟩))
    go_ret
    rw [HBE.out, HV.out]
    exact ⟨rfl, (HB.out.n n).next, ((Kp.refl _ _).drewN n).set _ _⟩

theorem digF_pkb (s : ByteArray) (p : Nat × Bool) : digF s p = if 48 ≤ pkb s p ∧ pkb s p ≤ 57 then (pkb s p - 48, (p.1 + 1, false)) else (0, (p.1, true)) := by
  obtain ⟨i, b⟩ := p
  cases b
  · simp only [digF, pkb_false, Bool.false_or]
    by_cases h1 : 48 ≤ pk s i <;> by_cases h2 : pk s i ≤ 57 <;> simp [h1, h2] <;> omega
  · simp [digF, pkb_true]

set_option maxHeartbeats 400000 in
theorem ndigit_c (r i : Nat) (s : ByteArray) (bad : Bool) (rest : List Value) (T : TypeId) (w : World) (hs : s.size ≤ 1000) (hi : i ≤ s.size)
    (h : NR w r s (i, bad) rest T) :
    Calls Tryz.prog 116 #[.pointer (some ⟨r, 0, none⟩)] w fun e w' => e = .returned (.int .i64 (digF s (i, bad)).1) ∧ NR w' r s (digF s (i, bad)).2 rest T ∧ Kp (· = r) w w' := by
  have HP := hide (npeek_c r i s bad rest T w hs hi h)
  have HB := hide h
  obtain ⟨h0, h1, h2, hf⟩ := h.c
  clear h
  have HV := hide (digF_pkb s (i, bad))
  have hlt := pkb_lt s (i, bad)
  have hbad : bad = true → pkb s (i, bad) = 0 := fun e => by rw [e]; rfl
  generalize pkb s (i, bad) = d at *
  by_cases hd : d < 48
  · rw [if_neg (by omega)] at HV
    clear hbad
    go_enter Tryz.func116, Tryz.ntmps116
    go_wp2_with (go_at_call 79; refine HP.out.mono ?_; rintro e w' ⟨rfl, n, rfl⟩)
    go_ret
    rw [HV.out]
    exact ⟨rfl, (HB.out.n n).bad, ((Kp.refl _ _).drewN n).set _ _⟩
  by_cases hd2 : 57 < d
  · rw [if_neg (by omega)] at HV
    clear hbad
    go_enter Tryz.func116, Tryz.ntmps116
    go_wp2_with (go_at_call 79; refine HP.out.mono ?_; rintro e w' ⟨rfl, n, rfl⟩)
    go_ret
    rw [HV.out]
    exact ⟨rfl, (HB.out.n n).bad, ((Kp.refl _ _).drewN n).set _ _⟩
  · rw [if_pos (by omega)] at HV
    obtain rfl : bad = false := by
      cases bad
      · rfl
      · have := hbad rfl; omega
    clear hbad
    go_enter Tryz.func116, Tryz.ntmps116
    go_wp2_with (go_at_call 79; refine HP.out.mono ?_; rintro e w' ⟨rfl, n, rfl⟩)
    go_ret
    rw [HV.out]
    exact ⟨ret_i64 (by simp only []; omega), (HB.out.n n).next, ((Kp.refl _ _).drewN n).set _ _⟩

/-- The bytes of a text, one behind the other. -/
def expF (s : ByteArray) (p : Nat × Bool) (l : List UInt8) : Nat × Bool := l.foldl (fun p c => eatF s p c.toNat) p

theorem expF_bad (s : ByteArray) (i : Nat) (l : List UInt8) : expF s (i, true) l = (i, true) := by
  induction l with
  | nil => rfl
  | cons c l ih => show expF s (eatF s (i, true) c.toNat) l = _; rw [show eatF s (i, true) c.toNat = (i, true) by simp [eatF]]; exact ih

theorem expF_take (s : ByteArray) (p : Nat × Bool) (u : ByteArray) (k : Nat) (h : k < u.size) : expF s p (u.data.toList.take (k + 1)) = eatF s (expF s p (u.data.toList.take k)) (u[k]).toNat := by
  rw [List.take_succ_eq_append_getElem (by simpa using h), expF, List.foldl_append]; rfl

theorem expF_stop (s : ByteArray) (p : Nat × Bool) (u : ByteArray) (k i : Nat) (h : expF s p (u.data.toList.take k) = (i, true)) : expF s p u.data.toList = (i, true) := by
  conv => lhs; rw [← List.take_append_drop k u.data.toList]
  rw [expF, List.foldl_append]
  have h' : List.foldl (fun p c => eatF s p c.toNat) p (u.data.toList.take k) = (i, true) := h
  rw [h']; exact expF_bad s i _
end Go.Proofs.YtellieabhaphhabGreatDoor

/-
  narrow's reader: texts and ways.
-/
namespace Go.Proofs.YtellieabhaphhabGreatDoor
open Go.RowKit

set_option maxHeartbeats 1600000 in
theorem nexpect_c (r i : Nat) (s u : ByteArray) (bad : Bool) (rest : List Value) (T : TypeId) (w : World) (hs : s.size ≤ 1000) (hi : i ≤ s.size) (hu : u.size ≤ 10) (hz : ∀ k (h : k < u.size), (u[k]).toNat ≠ 0)
    (h : NR w r s (i, bad) rest T) :
    Calls Tryz.prog 73 #[.pointer (some ⟨r, 0, none⟩), .string u] w fun e w' => e = .returned (.tuple #[]) ∧ NR w' r s (expF s (i, bad) u.data.toList) rest T ∧ Kp (· = r) w w' := by
  go_enter Tryz.func73, Tryz.ntmps73
  go_wp2
  go_loopg [4] u.size (fun k iv wr => ∃ j : Nat, j ≤ u.size ∧ k = u.size - j ∧ iv = .int .i64 j ∧ ∃ (q : Nat) (b : Bool), q ≤ s.size ∧ expF s (i, bad) (u.data.toList.take j) = (q, b) ∧ NR wr r s (q, b) rest T ∧ Kp (· = r) w wr)
  case atStart => exact ⟨0, Nat.zero_le _, rfl, rfl, i, bad, hi, rfl, h, Kp.refl _ _⟩
  case round =>
    clear h hi
    obtain ⟨j, hj, hk, rfl, q, b, hq, hE, hR, hK⟩ := hrel
    have HE := hide hE
    have HK := hide hK
    have HR := hide hR
    clear hE hK
    obtain ⟨h0, h1, h2, hf⟩ := hR.c
    clear hR
    by_cases hlt : j < u.size
    · have HT := hide (expF_take s (i, bad) u j hlt)
      have hc := hz j hlt
      have HP := hide (fun n => npeek_c r q s b rest T (wr.drewN n) hs hq (HR.out.n n))
      have HV := hide (eatF_pkb s (q, b) (u[j]).toNat hc)
      have hbad : b = true → pkb s (q, b) = 0 := fun e => by rw [e]; rfl
      have hin : pkb s (q, b) ≠ 0 → q < s.size := fun e => by
        cases b
        · exact pk_in s q e
        · exact absurd rfl e
      rw [HE.out] at HT
      rw [HV.out] at HT
      clear HV hz
      generalize pkb s (q, b) = d at *
      by_cases he : d = (u[j]).toNat
      · rw [if_pos he] at HT
        obtain rfl : b = false := by
          cases b
          · rfl
          · have := hbad rfl; omega
        have hq1 := hin (by omega)
        clear hbad hin
        go_wp2
        go_quiet ((go_at_call 79; exact Calls.quiet_of (HP.out _)))
        go_wp2
        go_roundg (u.size - (j + 1))
        case measure => omega
        case rel => exact ⟨j + 1, by omega, rfl, by go_num, q + 1, false, by omega, HT.out, (HR.out.n _).next, (HK.out.drewN _).set _ _⟩
      · rw [if_neg he] at HT
        have he' : ((d : Int) == ((u[j]).toNat : Int)) = false := by simp; omega
        clear hbad hin
        go_wp2
        go_quiet ((go_at_call 79; exact Calls.quiet_of (HP.out _)))
        go_wp2
        refine bodyPost_ret (results_none rfl _ _ _) rfl ?_
        rw [expF_stop s (i, bad) u (j + 1) q HT.out]
        exact ⟨rfl, (HR.out.n _).bad, (HK.out.drewN _).set _ _⟩
    · go_wp2
      go_end0
      have e1 : expF s (i, bad) u.data.toList = (q, b) := by
        have := HE.out
        rwa [List.take_of_length_le (by simp; omega)] at this
      rw [e1]
      exact ⟨rfl, HR.out, HK.out⟩

theorem expF_one (s : ByteArray) (p : Nat × Bool) (c : UInt8) : expF s p [c] = eatF s p c.toNat := rfl

set_option maxHeartbeats 800000 in
theorem nway_c (r i : Nat) (s : ByteArray) (bad : Bool) (rest : List Value) (T : TypeId) (w : World) (hs : s.size ≤ 1000) (hi : i ≤ s.size)
    (h : NR w r s (i, bad) rest T) :
    Calls Tryz.prog 71 #[.pointer (some ⟨r, 0, none⟩)] w fun e w' => e = .returned (.int .i64 (wayF s (i, bad)).1) ∧ NR w' r s (wayF s (i, bad)).2 rest T ∧ Kp (· = r) w w' := by
  have HB := hide h
  have HV : Hid (wayF s (i, bad) = (10 * (digF s (eatF s (i, bad) 44)).1 + (digF s (digF s (eatF s (i, bad) 44)).2).1, (digF s (digF s (eatF s (i, bad) 44)).2).2)) := rfl
  have e1 := eatF_le s (i, bad) 44 (by decide) hi
  have e2 := digF_le s _ e1
  have l1 := digF_lt s (eatF s (i, bad) 44)
  have l2 := digF_lt s (digF s (eatF s (i, bad) 44)).2
  clear h
  go_enter Tryz.func71, Tryz.ntmps71
  go_wp2_with fail
  refine (nexpect_c r i s ⟨#[44]⟩ bad rest T _ hs hi (by decide) (by decide) HB.out).mono ?_
  rintro e w1 ⟨rfl, hB1, k1⟩
  rw [show expF s (i, bad) (ByteArray.mk #[44]).data.toList = eatF s (i, bad) 44 from rfl] at hB1
  generalize eatF s (i, bad) 44 = p1 at *
  obtain ⟨i1, b1⟩ := p1
  go_wp2_with fail
  refine (ndigit_c r i1 s b1 rest T _ hs e1 hB1).mono ?_
  rintro e w2 ⟨rfl, hB2, k2⟩
  generalize digF s (i1, b1) = p2 at *
  obtain ⟨d1, i2, b2⟩ := p2
  go_wp2_with fail
  refine (ndigit_c r i2 s b2 rest T _ hs e2 hB2).mono ?_
  rintro e w3 ⟨rfl, hB3, k3⟩
  generalize digF s (i2, b2) = p3 at *
  obtain ⟨d2, i3, b3⟩ := p3
  dsimp only at *
  go_wp2
  go_ret
  rw [HV.out]
  exact ⟨ret_i64 (by push_cast; omega), hB3, (k1.trans k2 (fun _ _ e => e)).trans k3 (fun _ _ e => e)⟩

/-- What was read from place a on. -/
def sinceB (s : ByteArray) (a i : Nat) : ByteArray := s.extract a i

set_option maxHeartbeats 800000 in
theorem nsince_c (r i a : Nat) (s : ByteArray) (bad : Bool) (rest : List Value) (T : TypeId) (w : World) (_ : s.size ≤ 1000) (hi : i ≤ s.size) (ha : a ≤ i)
    (h : NR w r s (i, bad) rest T) :
    Calls Tryz.prog 70 #[.pointer (some ⟨r, 0, none⟩), .int .i64 a] w fun e w' => e = .returned (.string (sinceB s a i)) ∧ ∃ n, w' = w.drewN n := by
  obtain ⟨h0, h1, h2, hf⟩ := h.c
  clear h
  go_enter Tryz.func70, Tryz.ntmps70
  go_wp2
  go_quiet (fail)
  go_wp2
  go_quiet (fail)
  go_wp2
  go_ret
  refine ⟨rfl, _, drewN2 _ _ _⟩
end Go.Proofs.YtellieabhaphhabGreatDoor

/-
  narrow's reader: nodes.
-/
namespace Go.Proofs.YtellieabhaphhabGreatDoor
open Go.RowKit

/-- A node as narrow holds it. -/
structure NN where
  tx : ByteArray
  act : Int
  x : Int
  y : Int
  w : Int
  ck : Int
  cn : Int
  ch : Int
  kd : Int
  yes : Int
  no : Int

def NN.cells (n : NN) : List Value := [.string n.tx, .int .i64 n.act, .int .i64 n.x, .int .i64 n.y, .int .i64 n.w, .int .i64 n.ck, .int .i64 n.cn, .int .i64 n.ch, .int .i64 n.kd, .int .i64 n.yes, .int .i64 n.no]

abbrev nn0 : NN := ⟨⟨#[]⟩, 0, 0, 0, 0, 0, 0, 0, 0, 0, 0⟩

theorem Blk.c11 {w : World} {b : Nat} {a0 a1 a2 a3 a4 a5 a6 a7 a8 a9 a10 : Value} {T : TypeId} (h : Blk w b [a0, a1, a2, a3, a4, a5, a6, a7, a8, a9, a10] T) :
    w.cell? ⟨b, 0, none⟩ = some a0 ∧ w.cell? ⟨b, 1, none⟩ = some a1 ∧ w.cell? ⟨b, 2, none⟩ = some a2 ∧ w.cell? ⟨b, 3, none⟩ = some a3 ∧ w.cell? ⟨b, 4, none⟩ = some a4 ∧ w.cell? ⟨b, 5, none⟩ = some a5 ∧ w.cell? ⟨b, 6, none⟩ = some a6 ∧ w.cell? ⟨b, 7, none⟩ = some a7 ∧ w.cell? ⟨b, 8, none⟩ = some a8 ∧ w.cell? ⟨b, 9, none⟩ = some a9 ∧ w.cell? ⟨b, 10, none⟩ = some a10 ∧ ∀ o, w.frozen? ⟨b, o, none⟩ = false :=
  ⟨h.cell 0, h.cell 1, h.cell 2, h.cell 3, h.cell 4, h.cell 5, h.cell 6, h.cell 7, h.cell 8, h.cell 9, h.cell 10, h.frozen⟩

def queF (s : ByteArray) (p : Nat × Bool) (y : Int) : NN × (Nat × Bool) :=
  if pkb s p = 58 then ({ nn0 with act := 13, y := y, w := y, kd := bit (kindF s (p.1 + 1, false)).1 }, (kindF s (p.1 + 1, false)).2)
  else ({ nn0 with act := 12, y := y, w := y }, p)

theorem pkb_good {s : ByteArray} {i : Nat} {b : Bool} (h : pkb s (i, b) ≠ 0) : b = false ∧ i < s.size := by
  cases b
  · exact ⟨rfl, pk_in s i h⟩
  · exact absurd rfl h

set_option maxHeartbeats 800000 in
theorem nquestion_c (r i : Nat) (y : Int) (s : ByteArray) (bad : Bool) (rest : List Value) (T : TypeId) (w : World) (hs : s.size ≤ 1000) (hi : i ≤ s.size)
    (h : NR w r s (i, bad) rest T) :
    Calls Tryz.prog 115 #[.pointer (some ⟨r, 0, none⟩), .int .i64 y] w fun e w' => e = .returned (.agg (queF s (i, bad) y).1.cells.toArray) ∧ NR w' r s (queF s (i, bad) y).2 rest T ∧ Kp (· = r) w w' := by
  have HP := hide (fun W (hW : NR W r s (i, bad) rest T) => npeek_c r i s bad rest T W hs hi hW)
  have hr := h.lt
  obtain ⟨h0, h1, h2, hf⟩ := h.c
  by_cases hc : pkb s (i, bad) = 58
  · have HV := hide (show queF s (i, bad) y = ({ nn0 with act := 13, y := y, w := y, kd := bit (kindF s (i + 1, false)).1 }, (kindF s (i + 1, false)).2) by rw [queF, if_pos hc])
    obtain ⟨rfl, hi1⟩ := pkb_good (by rw [hc]; decide)
    rw [hc] at HP
    clear hc
    have hb : Blk w r (.string s :: .int .i64 i :: .bool false :: rest) T := h
    have HK := hide (fun W (hW : NR W r s (i + 1, false) rest T) => nkind_c r (i + 1) s false rest T W hs hi1 hW)
    clear h
    generalize kindF s (i + 1, false) = q at *
    obtain ⟨k, q⟩ := q
    go_enter Tryz.func115, Tryz.ntmps115
    go_wp2_with (go_at_call 79; refine (HP.out _ (by (show Blk _ _ _ _); (repeat' (first | ((with_reducible show (_ : List Value) = _); rfl) | with_reducible exact hb | ((with_reducible refine Blk.newAt _ _ _ ?_); first | with_reducible rfl | (simp; done)) | with_reducible refine Blk.alloc ?_ _ | with_reducible refine Blk.drewN ?_ _ | with_reducible refine Blk.drew ?_ | ((with_reducible refine Blk.other ?_ _ ?_); rotate_left; ((try dsimp only); omega)) | with_reducible refine Blk.setB (cs0 := ?_) ?_ ?_)))).mono ?_; rintro e w' ⟨rfl, n, rfl⟩)
    refine (HK.out _ (by (show Blk _ _ _ _); (repeat' (first | ((with_reducible show (_ : List Value) = _); rfl) | with_reducible exact hb | ((with_reducible refine Blk.newAt _ _ _ ?_); first | with_reducible rfl | (simp; done)) | with_reducible refine Blk.alloc ?_ _ | with_reducible refine Blk.drewN ?_ _ | with_reducible refine Blk.drew ?_ | ((with_reducible refine Blk.other ?_ _ ?_); rotate_left; ((try dsimp only); omega)) | with_reducible refine Blk.setB (cs0 := ?_) ?_ ?_)))).mono ?_
    rintro e w1 ⟨rfl, hN, k1⟩
    have hR : Blk w1 w.heap.size [.string ⟨#[]⟩, .int .i64 0, .int .i64 0, .int .i64 0, .int .i64 0, .int .i64 0, .int .i64 0, .int .i64 0, .int .i64 0, .int .i64 0, .int .i64 0] 68 := k1.blk (by (repeat' (first | ((with_reducible show (_ : List Value) = _); rfl) | with_reducible exact hb | ((with_reducible refine Blk.newAt _ _ _ ?_); first | with_reducible rfl | (simp; done)) | with_reducible refine Blk.alloc ?_ _ | with_reducible refine Blk.drewN ?_ _ | with_reducible refine Blk.drew ?_ | ((with_reducible refine Blk.other ?_ _ ?_); rotate_left; ((try dsimp only); omega)) | with_reducible refine Blk.setB (cs0 := ?_) ?_ ?_))) (by omega)
    obtain ⟨z0, z1, z2, z3, z4, z5, z6, z7, z8, z9, z10, zf⟩ := hR.c11
    have hz := hR.lt
    go_wp2
    refine body_agg (Tb := 68) (b := w.heap.size) (cs := [.string ⟨#[]⟩, .int .i64 13, .int .i64 0, .int .i64 y, .int .i64 y, .int .i64 0, .int .i64 0, .int .i64 0, .int .i64 (bit k), .int .i64 0, .int .i64 0]) (.inr rfl) Tryz.results115 rfl rfl (by (repeat' (first | ((with_reducible show (_ : List Value) = _); rfl) | with_reducible exact hR | ((with_reducible refine Blk.newAt _ _ _ ?_); first | with_reducible rfl | (simp; done)) | with_reducible refine Blk.alloc ?_ _ | with_reducible refine Blk.drewN ?_ _ | with_reducible refine Blk.drew ?_ | ((with_reducible refine Blk.other ?_ _ ?_); rotate_left; ((try dsimp only); omega)) | with_reducible refine Blk.setB (cs0 := ?_) ?_ ?_))) Tryz.underlying68 rfl (by kernel_rfl) ?_
    rw [HV.out]
    have hb1 : Blk w1 r (.string s :: .int .i64 q.1 :: .bool q.2 :: rest) T := hN
    exact ⟨rfl, by (show Blk _ _ _ _); (repeat' (first | ((with_reducible show (_ : List Value) = _); rfl) | with_reducible exact hb1 | ((with_reducible refine Blk.newAt _ _ _ ?_); first | with_reducible rfl | (simp; done)) | with_reducible refine Blk.alloc ?_ _ | with_reducible refine Blk.drewN ?_ _ | with_reducible refine Blk.drew ?_ | ((with_reducible refine Blk.other ?_ _ ?_); rotate_left; ((try dsimp only); omega)) | with_reducible refine Blk.setB (cs0 := ?_) ?_ ?_)), by (repeat' (first | with_reducible exact Kp.refl _ _ | with_reducible refine Kp.alloc ?_ _ | with_reducible refine Kp.drewN ?_ _ | with_reducible refine Kp.drew ?_ | with_reducible refine Kp.setCell ?_ _ ?_ | with_reducible refine Kp.trans ?_ k1 (fun _ _ e => e) | (intro hh; first | rfl | exact .inl rfl | exact .inr rfl | (exfalso; (try dsimp only at hh); omega))))⟩
  · have HV := hide (show queF s (i, bad) y = ({ nn0 with act := 12, y := y, w := y }, (i, bad)) by rw [queF, if_neg hc])
    have hc' : ((pkb s (i, bad) : Int) == 58) = false := by simp; omega
    generalize pkb s (i, bad) = d at *
    have hb : Blk w r (.string s :: .int .i64 i :: .bool bad :: rest) T := h
    clear h hc
    go_enter Tryz.func115, Tryz.ntmps115
    go_wp2_with (go_at_call 79; refine (HP.out _ (by (show Blk _ _ _ _); (repeat' (first | ((with_reducible show (_ : List Value) = _); rfl) | with_reducible exact hb | ((with_reducible refine Blk.newAt _ _ _ ?_); first | with_reducible rfl | (simp; done)) | with_reducible refine Blk.alloc ?_ _ | with_reducible refine Blk.drewN ?_ _ | with_reducible refine Blk.drew ?_ | ((with_reducible refine Blk.other ?_ _ ?_); rotate_left; ((try dsimp only); omega)) | with_reducible refine Blk.setB (cs0 := ?_) ?_ ?_)))).mono ?_; rintro e w' ⟨rfl, n, rfl⟩)
    refine body_agg (Tb := 68) (b := w.heap.size) (cs := [.string ⟨#[]⟩, .int .i64 12, .int .i64 0, .int .i64 y, .int .i64 y, .int .i64 0, .int .i64 0, .int .i64 0, .int .i64 0, .int .i64 0, .int .i64 0]) (.inr rfl) Tryz.results115 rfl rfl (by (repeat' (first | ((with_reducible show (_ : List Value) = _); rfl) | ((with_reducible refine Blk.newAt _ _ _ ?_); first | with_reducible rfl | (simp; done)) | with_reducible refine Blk.alloc ?_ _ | with_reducible refine Blk.drewN ?_ _ | with_reducible refine Blk.drew ?_ | ((with_reducible refine Blk.other ?_ _ ?_); rotate_left; ((try dsimp only); omega)) | with_reducible refine Blk.setB (cs0 := ?_) ?_ ?_))) Tryz.underlying68 rfl (by kernel_rfl) ?_
    rw [HV.out]
    exact ⟨rfl, by (show Blk _ _ _ _); (repeat' (first | ((with_reducible show (_ : List Value) = _); rfl) | with_reducible exact hb | ((with_reducible refine Blk.newAt _ _ _ ?_); first | with_reducible rfl | (simp; done)) | with_reducible refine Blk.alloc ?_ _ | with_reducible refine Blk.drewN ?_ _ | with_reducible refine Blk.drew ?_ | ((with_reducible refine Blk.other ?_ _ ?_); rotate_left; ((try dsimp only); omega)) | with_reducible refine Blk.setB (cs0 := ?_) ?_ ?_)), by (repeat' (first | with_reducible exact Kp.refl _ _ | with_reducible refine Kp.alloc ?_ _ | with_reducible refine Kp.drewN ?_ _ | with_reducible refine Kp.drew ?_ | with_reducible refine Kp.setCell ?_ _ ?_ | (intro hh; first | rfl | exact .inl rfl | exact .inr rfl | (exfalso; (try dsimp only at hh); omega))))⟩
end Go.Proofs.YtellieabhaphhabGreatDoor
