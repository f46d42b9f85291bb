import Derived.Test.YtellieabhaphhaaGreatDoorPGraphsD
/-
  narrow's reader: whole nodes.
-/
namespace Go.Proofs.YtellieabhaphhaaGreatDoor
open Go.RowKit

/-- What a sign behind x= does. -/
def asgA (c : Nat) : Int := if c = 63 then 2 else if c = 43 then 4 else if c = 60 then 5 else if c = 65 then 6 else if c = 66 then 7 else if c = 46 then 8 else 0

set_option maxHeartbeats 800000 in
theorem nactOfSign_c (c : Nat) (w : World) :
    Calls Tryz.prog 184 #[.int .u8 c] w fun e w' => e = .returned (.int .i64 (asgA c)) ∧ w' = w := by
  by_cases h63 : c = 63
  · subst h63
    go_enter Tryz.func184, Tryz.ntmps184
    go_wp2
    go_ret
    exact ⟨rfl, rfl⟩
  by_cases h43 : c = 43
  · subst h43
    go_enter Tryz.func184, Tryz.ntmps184
    go_wp2
    go_ret
    exact ⟨rfl, rfl⟩
  by_cases h60 : c = 60
  · subst h60
    go_enter Tryz.func184, Tryz.ntmps184
    go_wp2
    go_ret
    exact ⟨rfl, rfl⟩
  by_cases h65 : c = 65
  · subst h65
    go_enter Tryz.func184, Tryz.ntmps184
    go_wp2
    go_ret
    exact ⟨rfl, rfl⟩
  by_cases h66 : c = 66
  · subst h66
    go_enter Tryz.func184, Tryz.ntmps184
    go_wp2
    go_ret
    exact ⟨rfl, rfl⟩
  by_cases h46 : c = 46
  · subst h46
    go_enter Tryz.func184, Tryz.ntmps184
    go_wp2
    go_ret
    exact ⟨rfl, rfl⟩
  have HV := hide (show asgA c = 0 by unfold asgA; repeat' (first | rw [if_neg (by omega)] | rfl))
  rw [HV.out]
  have f63 : ((c : Int) == 63) = false := by simp; omega
  have f43 : ((c : Int) == 43) = false := by simp; omega
  have f60 : ((c : Int) == 60) = false := by simp; omega
  have f65 : ((c : Int) == 65) = false := by simp; omega
  have f66 : ((c : Int) == 66) = false := by simp; omega
  have f46 : ((c : Int) == 46) = false := by simp; omega
  go_enter Tryz.func184, Tryz.ntmps184
  go_wp2
  go_ret
  exact ⟨rfl, rfl⟩

def assF (s : ByteArray) (i : Nat) (x : Int) : NN × (Nat × Bool) :=
  if 97 ≤ pk s i ∧ pk s i ≤ 102 then ({ nn0 with act := 3, x := x, y := (varF s (i, false)).1, w := (varF s (i, false)).1 }, (varF s (i, false)).2)
  else if ¬ bit (conV (pk s i)).k = 0 then ({ nn0 with act := 1, x := x, ck := bit (conV (pk s i)).k, cn := (conV (pk s i)).n, ch := bit (conV (pk s i)).v }, (i + 1, false))
  else if asgA (pk s i) = 0 then (nn0, (i, true))
  else if asgA (pk s i) = 2 then ({ nn0 with act := 2, x := x }, (i + 1, false))
  else if asgA (pk s i) = 4 ∨ asgA (pk s i) = 5 then
    ({ nn0 with act := asgA (pk s i), x := x, y := (varF s (i + 1, false)).1, w := (varF s (varF s (i + 1, false)).2).1 }, (varF s (varF s (i + 1, false)).2).2)
  else ({ nn0 with act := asgA (pk s i), x := x, y := (varF s (i + 1, false)).1, w := (varF s (i + 1, false)).1 }, (varF s (i + 1, false)).2)

set_option maxHeartbeats 1600000 in
theorem nassign_var (r i : Nat) (x : Int) (s : ByteArray) (rest : List Value) (T : TypeId) (w : World) (hs : s.size ≤ 1000) (hi : i ≤ s.size)
    (h : NR w r s (i, false) rest T) (hc : 97 ≤ pk s i ∧ pk s i ≤ 102) :
    Calls Tryz.prog 175 #[.pointer (some ⟨r, 0, none⟩), .int .i64 x] w fun e w' => e = .returned (.agg (assF s i x).1.cells.toArray) ∧ NR w' r s (assF s i x).2 rest T ∧ Kp (· = r) w w' := by
  have HP := hide (fun W (hW : NR W r s (i, false) rest T) => npeek_c r i s false rest T W hs hi hW)
  rw [pkb_false] at HP
  have hr := h.lt
  obtain ⟨h0, h1, h2, hf⟩ := h.c
  have hb : Blk w r (.string s :: .int .i64 i :: .bool false :: rest) T := h
  have HV := hide (show assF s i x = ({ nn0 with act := 3, x := x, y := (varF s (i, false)).1, w := (varF s (i, false)).1 }, (varF s (i, false)).2) by rw [assF, if_pos hc])
  have HI := hide (fun W => isVar_c (pk s i) W)
  rw [show (decide (97 ≤ pk s i) && decide (pk s i ≤ 102)) = true by simp; exact hc] at HI
  have HK := hide (fun W (hW : NR W r s (i, false) rest T) => nvariable_c r i s false rest T W hs hi hW)
  generalize pk s i = d at *
  generalize varF s (i, false) = q at *
  obtain ⟨k, q⟩ := q
  clear h hc
  go_enter Tryz.func175, Tryz.ntmps175
  go_wp2_with (first | (go_at_call 92; refine (HP.out _ (by (show Blk _ _ _ _); (repeat' (first | ((with_reducible show (_ : List Value) = _); rfl) | with_reducible exact hb | ((with_reducible refine Blk.newAt _ _ _ ?_); first | with_reducible rfl | (simp; done)) | with_reducible refine Blk.alloc ?_ _ | with_reducible refine Blk.drewN ?_ _ | with_reducible refine Blk.drew ?_ | ((with_reducible refine Blk.other ?_ _ ?_); rotate_left; ((try dsimp only); omega)) | with_reducible refine Blk.setB (cs0 := ?_) ?_ ?_)))).mono ?_; rintro e w' ⟨rfl, n, rfl⟩) | (go_at_call 174; refine (HI.out _).mono ?_; rintro e w' ⟨rfl, rfl⟩))
  refine (HK.out _ (by (show Blk _ _ _ _); (repeat' (first | ((with_reducible show (_ : List Value) = _); rfl) | with_reducible exact hb | ((with_reducible refine Blk.newAt _ _ _ ?_); first | with_reducible rfl | (simp; done)) | with_reducible refine Blk.alloc ?_ _ | with_reducible refine Blk.drewN ?_ _ | with_reducible refine Blk.drew ?_ | ((with_reducible refine Blk.other ?_ _ ?_); rotate_left; ((try dsimp only); omega)) | with_reducible refine Blk.setB (cs0 := ?_) ?_ ?_)))).mono ?_
  rintro e w1 ⟨rfl, hN, k1⟩
  have hR1 : Blk w1 w.heap.size [.string ⟨#[]⟩, .int .i64 0, .int .i64 0, .int .i64 0, .int .i64 0, .int .i64 0, .int .i64 0, .int .i64 0, .int .i64 0, .int .i64 0, .int .i64 0] 91 := k1.blk (by (repeat' (first | ((with_reducible show (_ : List Value) = _); rfl) | with_reducible exact hb | ((with_reducible refine Blk.newAt _ _ _ ?_); first | with_reducible rfl | (simp; done)) | with_reducible refine Blk.alloc ?_ _ | with_reducible refine Blk.drewN ?_ _ | with_reducible refine Blk.drew ?_ | ((with_reducible refine Blk.other ?_ _ ?_); rotate_left; ((try dsimp only); omega)) | with_reducible refine Blk.setB (cs0 := ?_) ?_ ?_))) (by omega)
  obtain ⟨z1_0, z1_1, z1_2, z1_3, z1_4, z1_5, z1_6, z1_7, z1_8, z1_9, z1_10, zf1⟩ := hR1.c11
  have hz1 := hR1.lt
  have hb1 : Blk w1 r (.string s :: .int .i64 q.1 :: .bool q.2 :: rest) T := hN
  go_wp2
  refine body_agg (Tb := 91) (b := w.heap.size) (cs := [.string ⟨#[]⟩, .int .i64 3, .int .i64 x, .int .i64 k, .int .i64 k, .int .i64 0, .int .i64 0, .int .i64 0, .int .i64 0, .int .i64 0, .int .i64 0]) (.inr rfl) Tryz.results175 rfl rfl (by (repeat' (first | ((with_reducible show (_ : List Value) = _); rfl) | with_reducible exact hR1 | ((with_reducible refine Blk.newAt _ _ _ ?_); first | with_reducible rfl | (simp; done)) | with_reducible refine Blk.alloc ?_ _ | with_reducible refine Blk.drewN ?_ _ | with_reducible refine Blk.drew ?_ | ((with_reducible refine Blk.other ?_ _ ?_); rotate_left; ((try dsimp only); omega)) | with_reducible refine Blk.setB (cs0 := ?_) ?_ ?_))) Tryz.underlying91 rfl (by kernel_rfl) ?_
  rw [HV.out]
  exact ⟨rfl, by (show Blk _ _ _ _); (repeat' (first | ((with_reducible show (_ : List Value) = _); rfl) | with_reducible exact hb1 | ((with_reducible refine Blk.newAt _ _ _ ?_); first | with_reducible rfl | (simp; done)) | with_reducible refine Blk.alloc ?_ _ | with_reducible refine Blk.drewN ?_ _ | with_reducible refine Blk.drew ?_ | ((with_reducible refine Blk.other ?_ _ ?_); rotate_left; ((try dsimp only); omega)) | with_reducible refine Blk.setB (cs0 := ?_) ?_ ?_)), by (repeat' (first | with_reducible exact Kp.refl _ _ | with_reducible refine Kp.alloc ?_ _ | with_reducible refine Kp.drewN ?_ _ | with_reducible refine Kp.drew ?_ | with_reducible refine Kp.setCell ?_ _ ?_ | with_reducible refine Kp.trans ?_ k1 (fun _ _ e => e) | (intro hh; first | rfl | exact .inl rfl | exact .inr rfl | (exfalso; (try dsimp only at hh); omega))))⟩

set_option maxHeartbeats 1600000 in
theorem nassign_con (r i : Nat) (x : Int) (s : ByteArray) (rest : List Value) (T : TypeId) (w : World) (hs : s.size ≤ 1000) (hi : i ≤ s.size)
    (h : NR w r s (i, false) rest T) (hc : ¬ bit (conV (pk s i)).k = 0) :
    Calls Tryz.prog 175 #[.pointer (some ⟨r, 0, none⟩), .int .i64 x] w fun e w' => e = .returned (.agg (assF s i x).1.cells.toArray) ∧ NR w' r s (assF s i x).2 rest T ∧ Kp (· = r) w w' := by
  have HP := hide (fun W (hW : NR W r s (i, false) rest T) => npeek_c r i s false rest T W hs hi hW)
  rw [pkb_false] at HP
  have hr := h.lt
  obtain ⟨h0, h1, h2, hf⟩ := h.c
  have hb : Blk w r (.string s :: .int .i64 i :: .bool false :: rest) T := h
  have hd := mt (bit_con (pk s i)).2 hc
  have hi1 := pk_in s i (by omega)
  have HV := hide (show assF s i x = ({ nn0 with act := 1, x := x, ck := bit (conV (pk s i)).k, cn := (conV (pk s i)).n, ch := bit (conV (pk s i)).v }, (i + 1, false)) by rw [assF, if_neg (by omega), if_pos hc])
  have HI := hide (fun W => isVar_c (pk s i) W)
  rw [show (decide (97 ≤ pk s i) && decide (pk s i ≤ 102)) = false by simp; omega] at HI
  have HC := hide (fun W => nconstantOfSign_c (pk s i) (pk_lt s i) W)
  unfold Vl.nc at HC
  have hc' : (bit (conV (pk s i)).k == 0) = false := by simp [hc]
  generalize bit (conV (pk s i)).k = ck at *
  generalize (conV (pk s i)).n = cn at *
  generalize bit (conV (pk s i)).v = ch at *
  generalize pk s i = d at *
  clear h hc hd
  go_enter Tryz.func175, Tryz.ntmps175
  go_wp2_with (first | (go_at_call 92; refine (HP.out _ (by (show Blk _ _ _ _); (repeat' (first | ((with_reducible show (_ : List Value) = _); rfl) | with_reducible exact hb | ((with_reducible refine Blk.newAt _ _ _ ?_); first | with_reducible rfl | (simp; done)) | with_reducible refine Blk.alloc ?_ _ | with_reducible refine Blk.drewN ?_ _ | with_reducible refine Blk.drew ?_ | ((with_reducible refine Blk.other ?_ _ ?_); rotate_left; ((try dsimp only); omega)) | with_reducible refine Blk.setB (cs0 := ?_) ?_ ?_)))).mono ?_; rintro e w' ⟨rfl, n, rfl⟩) | (go_at_call 174; refine (HI.out _).mono ?_; rintro e w' ⟨rfl, rfl⟩))
  refine (HC.out _).mono ?_
  rintro e w1 ⟨rfl, k1⟩
  have K1 := k1.mono (S' := (· = r)) (fun _ e => False.elim e)
  have hR1 : Blk w1 w.heap.size [.string ⟨#[]⟩, .int .i64 0, .int .i64 0, .int .i64 0, .int .i64 0, .int .i64 0, .int .i64 0, .int .i64 0, .int .i64 0, .int .i64 0, .int .i64 0] 91 := k1.blk (by (repeat' (first | ((with_reducible show (_ : List Value) = _); rfl) | with_reducible exact hb | ((with_reducible refine Blk.newAt _ _ _ ?_); first | with_reducible rfl | (simp; done)) | with_reducible refine Blk.alloc ?_ _ | with_reducible refine Blk.drewN ?_ _ | with_reducible refine Blk.drew ?_ | ((with_reducible refine Blk.other ?_ _ ?_); rotate_left; ((try dsimp only); omega)) | with_reducible refine Blk.setB (cs0 := ?_) ?_ ?_))) no_elim
  obtain ⟨z1_0, z1_1, z1_2, z1_3, z1_4, z1_5, z1_6, z1_7, z1_8, z1_9, z1_10, zf1⟩ := hR1.c11
  have hz1 := hR1.lt
  have hb1 : Blk w1 r (.string s :: .int .i64 i :: .bool false :: rest) T := k1.blk (by (repeat' (first | ((with_reducible show (_ : List Value) = _); rfl) | with_reducible exact hb | ((with_reducible refine Blk.newAt _ _ _ ?_); first | with_reducible rfl | (simp; done)) | with_reducible refine Blk.alloc ?_ _ | with_reducible refine Blk.drewN ?_ _ | with_reducible refine Blk.drew ?_ | ((with_reducible refine Blk.other ?_ _ ?_); rotate_left; ((try dsimp only); omega)) | with_reducible refine Blk.setB (cs0 := ?_) ?_ ?_))) no_elim
  obtain ⟨y0, y1, y2, yf⟩ := NR.c (i := i) (b := false) hb1
  have hr1 := hb1.lt
  go_wp2
  refine body_agg (Tb := 91) (b := w.heap.size) (cs := [.string ⟨#[]⟩, .int .i64 1, .int .i64 x, .int .i64 0, .int .i64 0, .int .i64 ck, .int .i64 cn, .int .i64 ch, .int .i64 0, .int .i64 0, .int .i64 0]) (.inr rfl) Tryz.results175 rfl rfl (by (repeat' (first | ((with_reducible show (_ : List Value) = _); rfl) | with_reducible exact hR1 | ((with_reducible refine Blk.newAt _ _ _ ?_); first | with_reducible rfl | (simp; done)) | with_reducible refine Blk.alloc ?_ _ | with_reducible refine Blk.drewN ?_ _ | with_reducible refine Blk.drew ?_ | ((with_reducible refine Blk.other ?_ _ ?_); rotate_left; ((try dsimp only); omega)) | with_reducible refine Blk.setB (cs0 := ?_) ?_ ?_))) Tryz.underlying91 rfl (by kernel_rfl) ?_
  rw [HV.out]
  exact ⟨rfl, by (show Blk _ _ _ _); (repeat' (first | ((with_reducible show (_ : List Value) = _); rfl) | with_reducible exact hb1 | ((with_reducible refine Blk.newAt _ _ _ ?_); first | with_reducible rfl | (simp; done)) | with_reducible refine Blk.alloc ?_ _ | with_reducible refine Blk.drewN ?_ _ | with_reducible refine Blk.drew ?_ | ((with_reducible refine Blk.other ?_ _ ?_); rotate_left; ((try dsimp only); omega)) | with_reducible refine Blk.setB (cs0 := ?_) ?_ ?_)), by (repeat' (first | with_reducible exact Kp.refl _ _ | with_reducible refine Kp.alloc ?_ _ | with_reducible refine Kp.drewN ?_ _ | with_reducible refine Kp.drew ?_ | with_reducible refine Kp.setCell ?_ _ ?_ | with_reducible refine Kp.trans ?_ K1 (fun _ _ e => e) | (intro hh; first | rfl | exact .inl rfl | exact .inr rfl | (exfalso; (try dsimp only at hh); omega))))⟩

set_option maxHeartbeats 1600000 in
theorem nassign_bad (r i : Nat) (x : Int) (s : ByteArray) (rest : List Value) (T : TypeId) (w : World) (hs : s.size ≤ 1000) (hi : i ≤ s.size)
    (h : NR w r s (i, false) rest T) (hc : ¬ (97 ≤ pk s i ∧ pk s i ≤ 102) ∧ bit (conV (pk s i)).k = 0 ∧ asgA (pk s i) = 0) :
    Calls Tryz.prog 175 #[.pointer (some ⟨r, 0, none⟩), .int .i64 x] w fun e w' => e = .returned (.agg (assF s i x).1.cells.toArray) ∧ NR w' r s (assF s i x).2 rest T ∧ Kp (· = r) w w' := by
  have HP := hide (fun W (hW : NR W r s (i, false) rest T) => npeek_c r i s false rest T W hs hi hW)
  rw [pkb_false] at HP
  have hr := h.lt
  obtain ⟨h0, h1, h2, hf⟩ := h.c
  have hb : Blk w r (.string s :: .int .i64 i :: .bool false :: rest) T := h
  obtain ⟨hc1, hc2, hc3⟩ := hc
  have HV := hide (show assF s i x = (nn0, (i, true)) by rw [assF, if_neg hc1, if_neg (by rw [hc2]; simp), if_pos hc3])
  have HA := hide (fun W => nactOfSign_c (pk s i) W)
  rw [hc3] at HA
  have HI := hide (fun W => isVar_c (pk s i) W)
  rw [show (decide (97 ≤ pk s i) && decide (pk s i ≤ 102)) = false by simp; omega] at HI
  have HC := hide (fun W => nconstantOfSign_c (pk s i) (pk_lt s i) W)
  unfold Vl.nc at HC
  rw [hc2] at HC
  generalize (conV (pk s i)).n = cn at *
  generalize bit (conV (pk s i)).v = ch at *
  generalize pk s i = d at *
  clear h hc1 hc2 hc3
  go_enter Tryz.func175, Tryz.ntmps175
  go_wp2_with (first | (go_at_call 92; refine (HP.out _ (by (show Blk _ _ _ _); (repeat' (first | ((with_reducible show (_ : List Value) = _); rfl) | with_reducible exact hb | ((with_reducible refine Blk.newAt _ _ _ ?_); first | with_reducible rfl | (simp; done)) | with_reducible refine Blk.alloc ?_ _ | with_reducible refine Blk.drewN ?_ _ | with_reducible refine Blk.drew ?_ | ((with_reducible refine Blk.other ?_ _ ?_); rotate_left; ((try dsimp only); omega)) | with_reducible refine Blk.setB (cs0 := ?_) ?_ ?_)))).mono ?_; rintro e w' ⟨rfl, n, rfl⟩) | (go_at_call 174; refine (HI.out _).mono ?_; rintro e w' ⟨rfl, rfl⟩))
  refine (HC.out _).mono ?_
  rintro e w1 ⟨rfl, k1⟩
  have K1 := k1.mono (S' := (· = r)) (fun _ e => False.elim e)
  have hR1 : Blk w1 w.heap.size [.string ⟨#[]⟩, .int .i64 0, .int .i64 0, .int .i64 0, .int .i64 0, .int .i64 0, .int .i64 0, .int .i64 0, .int .i64 0, .int .i64 0, .int .i64 0] 91 := k1.blk (by (repeat' (first | ((with_reducible show (_ : List Value) = _); rfl) | with_reducible exact hb | ((with_reducible refine Blk.newAt _ _ _ ?_); first | with_reducible rfl | (simp; done)) | with_reducible refine Blk.alloc ?_ _ | with_reducible refine Blk.drewN ?_ _ | with_reducible refine Blk.drew ?_ | ((with_reducible refine Blk.other ?_ _ ?_); rotate_left; ((try dsimp only); omega)) | with_reducible refine Blk.setB (cs0 := ?_) ?_ ?_))) no_elim
  obtain ⟨z1_0, z1_1, z1_2, z1_3, z1_4, z1_5, z1_6, z1_7, z1_8, z1_9, z1_10, zf1⟩ := hR1.c11
  have hz1 := hR1.lt
  have hb1 : Blk w1 r (.string s :: .int .i64 i :: .bool false :: rest) T := k1.blk (by (repeat' (first | ((with_reducible show (_ : List Value) = _); rfl) | with_reducible exact hb | ((with_reducible refine Blk.newAt _ _ _ ?_); first | with_reducible rfl | (simp; done)) | with_reducible refine Blk.alloc ?_ _ | with_reducible refine Blk.drewN ?_ _ | with_reducible refine Blk.drew ?_ | ((with_reducible refine Blk.other ?_ _ ?_); rotate_left; ((try dsimp only); omega)) | with_reducible refine Blk.setB (cs0 := ?_) ?_ ?_))) no_elim
  obtain ⟨y0, y1, y2, yf⟩ := NR.c (i := i) (b := false) hb1
  have hr1 := hb1.lt
  go_wp2_with (go_at_call 184; refine (HA.out _).mono ?_; rintro e w' ⟨rfl, rfl⟩)
  refine body_agg (Tb := 91) (b := w.heap.size) (cs := [.string ⟨#[]⟩, .int .i64 0, .int .i64 0, .int .i64 0, .int .i64 0, .int .i64 0, .int .i64 0, .int .i64 0, .int .i64 0, .int .i64 0, .int .i64 0]) (.inr rfl) Tryz.results175 rfl rfl (by (repeat' (first | ((with_reducible show (_ : List Value) = _); rfl) | with_reducible exact hR1 | ((with_reducible refine Blk.newAt _ _ _ ?_); first | with_reducible rfl | (simp; done)) | with_reducible refine Blk.alloc ?_ _ | with_reducible refine Blk.drewN ?_ _ | with_reducible refine Blk.drew ?_ | ((with_reducible refine Blk.other ?_ _ ?_); rotate_left; ((try dsimp only); omega)) | with_reducible refine Blk.setB (cs0 := ?_) ?_ ?_))) Tryz.underlying91 rfl (by kernel_rfl) ?_
  rw [HV.out]
  exact ⟨rfl, by (show Blk _ _ _ _); (repeat' (first | ((with_reducible show (_ : List Value) = _); rfl) | with_reducible exact hb1 | ((with_reducible refine Blk.newAt _ _ _ ?_); first | with_reducible rfl | (simp; done)) | with_reducible refine Blk.alloc ?_ _ | with_reducible refine Blk.drewN ?_ _ | with_reducible refine Blk.drew ?_ | ((with_reducible refine Blk.other ?_ _ ?_); rotate_left; ((try dsimp only); omega)) | with_reducible refine Blk.setB (cs0 := ?_) ?_ ?_)), by (repeat' (first | with_reducible exact Kp.refl _ _ | with_reducible refine Kp.alloc ?_ _ | with_reducible refine Kp.drewN ?_ _ | with_reducible refine Kp.drew ?_ | with_reducible refine Kp.setCell ?_ _ ?_ | with_reducible refine Kp.trans ?_ K1 (fun _ _ e => e) | (intro hh; first | rfl | exact .inl rfl | exact .inr rfl | (exfalso; (try dsimp only at hh); omega))))⟩

set_option maxHeartbeats 1600000 in
theorem nassign_s63 (r i : Nat) (x : Int) (s : ByteArray) (rest : List Value) (T : TypeId) (w : World) (hs : s.size ≤ 1000) (hi : i ≤ s.size)
    (h : NR w r s (i, false) rest T) (hc : pk s i = 63) :
    Calls Tryz.prog 175 #[.pointer (some ⟨r, 0, none⟩), .int .i64 x] w fun e w' => e = .returned (.agg (assF s i x).1.cells.toArray) ∧ NR w' r s (assF s i x).2 rest T ∧ Kp (· = r) w w' := by
  have HP := hide (fun W (hW : NR W r s (i, false) rest T) => npeek_c r i s false rest T W hs hi hW)
  rw [pkb_false] at HP
  have hr := h.lt
  obtain ⟨h0, h1, h2, hf⟩ := h.c
  have hb : Blk w r (.string s :: .int .i64 i :: .bool false :: rest) T := h
  have hi1 := pk_in s i (by omega)
  have HV := hide (show assF s i x = ({ nn0 with act := 2, x := x }, (i + 1, false)) by rw [assF, hc]; rfl)
  have HA := hide (fun W => nactOfSign_c 63 W)
  rw [show asgA 63 = 2 from rfl] at HA
  have HI := hide (fun W => isVar_c 63 W)
  rw [show (decide (97 ≤ 63) && decide (63 ≤ 102)) = false by decide] at HI
  have HC := hide (fun W => nconstantOfSign_c 63 (by decide) W)
  rw [show (conV 63).nc = [.int .i64 0, .int .i64 0, .int .i64 0] from rfl] at HC
  rw [hc] at HP
  clear hc h
  go_enter Tryz.func175, Tryz.ntmps175
  go_wp2_with (first | (go_at_call 92; refine (HP.out _ (by (show Blk _ _ _ _); (repeat' (first | ((with_reducible show (_ : List Value) = _); rfl) | with_reducible exact hb | ((with_reducible refine Blk.newAt _ _ _ ?_); first | with_reducible rfl | (simp; done)) | with_reducible refine Blk.alloc ?_ _ | with_reducible refine Blk.drewN ?_ _ | with_reducible refine Blk.drew ?_ | ((with_reducible refine Blk.other ?_ _ ?_); rotate_left; ((try dsimp only); omega)) | with_reducible refine Blk.setB (cs0 := ?_) ?_ ?_)))).mono ?_; rintro e w' ⟨rfl, n, rfl⟩) | (go_at_call 174; refine (HI.out _).mono ?_; rintro e w' ⟨rfl, rfl⟩))
  refine (HC.out _).mono ?_
  rintro e w1 ⟨rfl, k1⟩
  have K1 := k1.mono (S' := (· = r)) (fun _ e => False.elim e)
  have hR1 : Blk w1 w.heap.size [.string ⟨#[]⟩, .int .i64 0, .int .i64 0, .int .i64 0, .int .i64 0, .int .i64 0, .int .i64 0, .int .i64 0, .int .i64 0, .int .i64 0, .int .i64 0] 91 := k1.blk (by (repeat' (first | ((with_reducible show (_ : List Value) = _); rfl) | with_reducible exact hb | ((with_reducible refine Blk.newAt _ _ _ ?_); first | with_reducible rfl | (simp; done)) | with_reducible refine Blk.alloc ?_ _ | with_reducible refine Blk.drewN ?_ _ | with_reducible refine Blk.drew ?_ | ((with_reducible refine Blk.other ?_ _ ?_); rotate_left; ((try dsimp only); omega)) | with_reducible refine Blk.setB (cs0 := ?_) ?_ ?_))) no_elim
  obtain ⟨z1_0, z1_1, z1_2, z1_3, z1_4, z1_5, z1_6, z1_7, z1_8, z1_9, z1_10, zf1⟩ := hR1.c11
  have hz1 := hR1.lt
  have hb1 : Blk w1 r (.string s :: .int .i64 i :: .bool false :: rest) T := k1.blk (by (repeat' (first | ((with_reducible show (_ : List Value) = _); rfl) | with_reducible exact hb | ((with_reducible refine Blk.newAt _ _ _ ?_); first | with_reducible rfl | (simp; done)) | with_reducible refine Blk.alloc ?_ _ | with_reducible refine Blk.drewN ?_ _ | with_reducible refine Blk.drew ?_ | ((with_reducible refine Blk.other ?_ _ ?_); rotate_left; ((try dsimp only); omega)) | with_reducible refine Blk.setB (cs0 := ?_) ?_ ?_))) no_elim
  obtain ⟨y0, y1, y2, yf⟩ := NR.c (i := i) (b := false) hb1
  have hr1 := hb1.lt
  go_wp2_with (go_at_call 184; refine (HA.out _).mono ?_; rintro e w' ⟨rfl, rfl⟩)
  refine body_agg (Tb := 91) (b := w.heap.size) (cs := [.string ⟨#[]⟩, .int .i64 2, .int .i64 x, .int .i64 0, .int .i64 0, .int .i64 0, .int .i64 0, .int .i64 0, .int .i64 0, .int .i64 0, .int .i64 0]) (.inr rfl) Tryz.results175 rfl rfl (by (repeat' (first | ((with_reducible show (_ : List Value) = _); rfl) | with_reducible exact hR1 | ((with_reducible refine Blk.newAt _ _ _ ?_); first | with_reducible rfl | (simp; done)) | with_reducible refine Blk.alloc ?_ _ | with_reducible refine Blk.drewN ?_ _ | with_reducible refine Blk.drew ?_ | ((with_reducible refine Blk.other ?_ _ ?_); rotate_left; ((try dsimp only); omega)) | with_reducible refine Blk.setB (cs0 := ?_) ?_ ?_))) Tryz.underlying91 rfl (by kernel_rfl) ?_
  rw [HV.out]
  exact ⟨rfl, by (show Blk _ _ _ _); (repeat' (first | ((with_reducible show (_ : List Value) = _); rfl) | with_reducible exact hb1 | ((with_reducible refine Blk.newAt _ _ _ ?_); first | with_reducible rfl | (simp; done)) | with_reducible refine Blk.alloc ?_ _ | with_reducible refine Blk.drewN ?_ _ | with_reducible refine Blk.drew ?_ | ((with_reducible refine Blk.other ?_ _ ?_); rotate_left; ((try dsimp only); omega)) | with_reducible refine Blk.setB (cs0 := ?_) ?_ ?_)), by (repeat' (first | with_reducible exact Kp.refl _ _ | with_reducible refine Kp.alloc ?_ _ | with_reducible refine Kp.drewN ?_ _ | with_reducible refine Kp.drew ?_ | with_reducible refine Kp.setCell ?_ _ ?_ | with_reducible refine Kp.trans ?_ K1 (fun _ _ e => e) | (intro hh; first | rfl | exact .inl rfl | exact .inr rfl | (exfalso; (try dsimp only at hh); omega))))⟩

set_option maxHeartbeats 1600000 in
theorem nassign_s43 (r i : Nat) (x : Int) (s : ByteArray) (rest : List Value) (T : TypeId) (w : World) (hs : s.size ≤ 1000) (hi : i ≤ s.size)
    (h : NR w r s (i, false) rest T) (hc : pk s i = 43) :
    Calls Tryz.prog 175 #[.pointer (some ⟨r, 0, none⟩), .int .i64 x] w fun e w' => e = .returned (.agg (assF s i x).1.cells.toArray) ∧ NR w' r s (assF s i x).2 rest T ∧ Kp (· = r) w w' := by
  have HP := hide (fun W (hW : NR W r s (i, false) rest T) => npeek_c r i s false rest T W hs hi hW)
  rw [pkb_false] at HP
  have hr := h.lt
  obtain ⟨h0, h1, h2, hf⟩ := h.c
  have hb : Blk w r (.string s :: .int .i64 i :: .bool false :: rest) T := h
  have hi1 := pk_in s i (by omega)
  have HV := hide (show assF s i x = ({ nn0 with act := 4, x := x, y := (varF s (i + 1, false)).1, w := (varF s (varF s (i + 1, false)).2).1 }, (varF s (varF s (i + 1, false)).2).2) by rw [assF, hc]; rfl)
  have HA := hide (fun W => nactOfSign_c 43 W)
  rw [show asgA 43 = 4 from rfl] at HA
  have HI := hide (fun W => isVar_c 43 W)
  rw [show (decide (97 ≤ 43) && decide (43 ≤ 102)) = false by decide] at HI
  have HC := hide (fun W => nconstantOfSign_c 43 (by decide) W)
  rw [show (conV 43).nc = [.int .i64 0, .int .i64 0, .int .i64 0] from rfl] at HC
  rw [hc] at HP
  clear hc h
  have HK := hide (fun W (hW : NR W r s (i + 1, false) rest T) => nvariable_c r (i + 1) s false rest T W hs hi1 hW)
  have hq := varF_le s (i + 1, false) hi1
  have HK2 := hide (fun W (hW : NR W r s (varF s (i + 1, false)).2 rest T) => nvariable_c r (varF s (i + 1, false)).2.1 s (varF s (i + 1, false)).2.2 rest T W hs hq hW)
  generalize varF s (varF s (i + 1, false)).2 = q2 at *
  generalize varF s (i + 1, false) = q at *
  obtain ⟨k, q⟩ := q
  obtain ⟨kk, q2⟩ := q2
  dsimp only at *
  go_enter Tryz.func175, Tryz.ntmps175
  go_wp2_with (first | (go_at_call 92; refine (HP.out _ (by (show Blk _ _ _ _); (repeat' (first | ((with_reducible show (_ : List Value) = _); rfl) | with_reducible exact hb | ((with_reducible refine Blk.newAt _ _ _ ?_); first | with_reducible rfl | (simp; done)) | with_reducible refine Blk.alloc ?_ _ | with_reducible refine Blk.drewN ?_ _ | with_reducible refine Blk.drew ?_ | ((with_reducible refine Blk.other ?_ _ ?_); rotate_left; ((try dsimp only); omega)) | with_reducible refine Blk.setB (cs0 := ?_) ?_ ?_)))).mono ?_; rintro e w' ⟨rfl, n, rfl⟩) | (go_at_call 174; refine (HI.out _).mono ?_; rintro e w' ⟨rfl, rfl⟩))
  refine (HC.out _).mono ?_
  rintro e w1 ⟨rfl, k1⟩
  have K1 := k1.mono (S' := (· = r)) (fun _ e => False.elim e)
  have hR1 : Blk w1 w.heap.size [.string ⟨#[]⟩, .int .i64 0, .int .i64 0, .int .i64 0, .int .i64 0, .int .i64 0, .int .i64 0, .int .i64 0, .int .i64 0, .int .i64 0, .int .i64 0] 91 := k1.blk (by (repeat' (first | ((with_reducible show (_ : List Value) = _); rfl) | with_reducible exact hb | ((with_reducible refine Blk.newAt _ _ _ ?_); first | with_reducible rfl | (simp; done)) | with_reducible refine Blk.alloc ?_ _ | with_reducible refine Blk.drewN ?_ _ | with_reducible refine Blk.drew ?_ | ((with_reducible refine Blk.other ?_ _ ?_); rotate_left; ((try dsimp only); omega)) | with_reducible refine Blk.setB (cs0 := ?_) ?_ ?_))) no_elim
  obtain ⟨z1_0, z1_1, z1_2, z1_3, z1_4, z1_5, z1_6, z1_7, z1_8, z1_9, z1_10, zf1⟩ := hR1.c11
  have hz1 := hR1.lt
  have hb1 : Blk w1 r (.string s :: .int .i64 i :: .bool false :: rest) T := k1.blk (by (repeat' (first | ((with_reducible show (_ : List Value) = _); rfl) | with_reducible exact hb | ((with_reducible refine Blk.newAt _ _ _ ?_); first | with_reducible rfl | (simp; done)) | with_reducible refine Blk.alloc ?_ _ | with_reducible refine Blk.drewN ?_ _ | with_reducible refine Blk.drew ?_ | ((with_reducible refine Blk.other ?_ _ ?_); rotate_left; ((try dsimp only); omega)) | with_reducible refine Blk.setB (cs0 := ?_) ?_ ?_))) no_elim
  obtain ⟨y0, y1, y2, yf⟩ := NR.c (i := i) (b := false) hb1
  have hr1 := hb1.lt
  go_wp2_with (go_at_call 184; refine (HA.out _).mono ?_; rintro e w' ⟨rfl, rfl⟩)
  refine (HK.out _ (by (show Blk _ _ _ _); (repeat' (first | ((with_reducible show (_ : List Value) = _); rfl) | with_reducible exact hb1 | ((with_reducible refine Blk.newAt _ _ _ ?_); first | with_reducible rfl | (simp; done)) | with_reducible refine Blk.alloc ?_ _ | with_reducible refine Blk.drewN ?_ _ | with_reducible refine Blk.drew ?_ | ((with_reducible refine Blk.other ?_ _ ?_); rotate_left; ((try dsimp only); omega)) | with_reducible refine Blk.setB (cs0 := ?_) ?_ ?_)))).mono ?_
  rintro e w2 ⟨rfl, hN2, k2⟩
  have hR2 : Blk w2 w.heap.size [.string ⟨#[]⟩, .int .i64 0, .int .i64 0, .int .i64 0, .int .i64 0, .int .i64 0, .int .i64 0, .int .i64 0, .int .i64 0, .int .i64 0, .int .i64 0] 91 := k2.blk (by (repeat' (first | ((with_reducible show (_ : List Value) = _); rfl) | with_reducible exact hR1 | ((with_reducible refine Blk.newAt _ _ _ ?_); first | with_reducible rfl | (simp; done)) | with_reducible refine Blk.alloc ?_ _ | with_reducible refine Blk.drewN ?_ _ | with_reducible refine Blk.drew ?_ | ((with_reducible refine Blk.other ?_ _ ?_); rotate_left; ((try dsimp only); omega)) | with_reducible refine Blk.setB (cs0 := ?_) ?_ ?_))) (by omega)
  obtain ⟨z2_0, z2_1, z2_2, z2_3, z2_4, z2_5, z2_6, z2_7, z2_8, z2_9, z2_10, zf2⟩ := hR2.c11
  have hz2 := hR2.lt
  have hb2 : Blk w2 r (.string s :: .int .i64 q.1 :: .bool q.2 :: rest) T := hN2
  have hr2 := hb2.lt
  go_wp2_with fail
  refine (HK2.out _ (by (show Blk _ _ _ _); (repeat' (first | ((with_reducible show (_ : List Value) = _); rfl) | with_reducible exact hb2 | ((with_reducible refine Blk.newAt _ _ _ ?_); first | with_reducible rfl | (simp; done)) | with_reducible refine Blk.alloc ?_ _ | with_reducible refine Blk.drewN ?_ _ | with_reducible refine Blk.drew ?_ | ((with_reducible refine Blk.other ?_ _ ?_); rotate_left; ((try dsimp only); omega)) | with_reducible refine Blk.setB (cs0 := ?_) ?_ ?_)))).mono ?_
  rintro e w3 ⟨rfl, hN3, k3⟩
  have hR3 : Blk w3 w.heap.size [.string ⟨#[]⟩, .int .i64 0, .int .i64 0, .int .i64 0, .int .i64 0, .int .i64 0, .int .i64 0, .int .i64 0, .int .i64 0, .int .i64 0, .int .i64 0] 91 := k3.blk (by (repeat' (first | ((with_reducible show (_ : List Value) = _); rfl) | with_reducible exact hR2 | ((with_reducible refine Blk.newAt _ _ _ ?_); first | with_reducible rfl | (simp; done)) | with_reducible refine Blk.alloc ?_ _ | with_reducible refine Blk.drewN ?_ _ | with_reducible refine Blk.drew ?_ | ((with_reducible refine Blk.other ?_ _ ?_); rotate_left; ((try dsimp only); omega)) | with_reducible refine Blk.setB (cs0 := ?_) ?_ ?_))) (by omega)
  obtain ⟨z3_0, z3_1, z3_2, z3_3, z3_4, z3_5, z3_6, z3_7, z3_8, z3_9, z3_10, zf3⟩ := hR3.c11
  have hz3 := hR3.lt
  have hb3 : Blk w3 r (.string s :: .int .i64 q2.1 :: .bool q2.2 :: rest) T := hN3
  go_wp2
  refine body_agg (Tb := 91) (b := w.heap.size) (cs := [.string ⟨#[]⟩, .int .i64 4, .int .i64 x, .int .i64 k, .int .i64 kk, .int .i64 0, .int .i64 0, .int .i64 0, .int .i64 0, .int .i64 0, .int .i64 0]) (.inr rfl) Tryz.results175 rfl rfl (by (repeat' (first | ((with_reducible show (_ : List Value) = _); rfl) | with_reducible exact hR3 | ((with_reducible refine Blk.newAt _ _ _ ?_); first | with_reducible rfl | (simp; done)) | with_reducible refine Blk.alloc ?_ _ | with_reducible refine Blk.drewN ?_ _ | with_reducible refine Blk.drew ?_ | ((with_reducible refine Blk.other ?_ _ ?_); rotate_left; ((try dsimp only); omega)) | with_reducible refine Blk.setB (cs0 := ?_) ?_ ?_))) Tryz.underlying91 rfl (by kernel_rfl) ?_
  rw [HV.out]
  exact ⟨rfl, by (show Blk _ _ _ _); (repeat' (first | ((with_reducible show (_ : List Value) = _); rfl) | with_reducible exact hb3 | ((with_reducible refine Blk.newAt _ _ _ ?_); first | with_reducible rfl | (simp; done)) | with_reducible refine Blk.alloc ?_ _ | with_reducible refine Blk.drewN ?_ _ | with_reducible refine Blk.drew ?_ | ((with_reducible refine Blk.other ?_ _ ?_); rotate_left; ((try dsimp only); omega)) | with_reducible refine Blk.setB (cs0 := ?_) ?_ ?_)), by (repeat' (first | with_reducible exact Kp.refl _ _ | with_reducible refine Kp.alloc ?_ _ | with_reducible refine Kp.drewN ?_ _ | with_reducible refine Kp.drew ?_ | with_reducible refine Kp.setCell ?_ _ ?_ | with_reducible refine Kp.trans ?_ K1 (fun _ _ e => e) | with_reducible refine Kp.trans ?_ k2 (fun _ _ e => e) | with_reducible refine Kp.trans ?_ k3 (fun _ _ e => e) | (intro hh; first | rfl | exact .inl rfl | exact .inr rfl | (exfalso; (try dsimp only at hh); omega))))⟩

set_option maxHeartbeats 1600000 in
theorem nassign_s60 (r i : Nat) (x : Int) (s : ByteArray) (rest : List Value) (T : TypeId) (w : World) (hs : s.size ≤ 1000) (hi : i ≤ s.size)
    (h : NR w r s (i, false) rest T) (hc : pk s i = 60) :
    Calls Tryz.prog 175 #[.pointer (some ⟨r, 0, none⟩), .int .i64 x] w fun e w' => e = .returned (.agg (assF s i x).1.cells.toArray) ∧ NR w' r s (assF s i x).2 rest T ∧ Kp (· = r) w w' := by
  have HP := hide (fun W (hW : NR W r s (i, false) rest T) => npeek_c r i s false rest T W hs hi hW)
  rw [pkb_false] at HP
  have hr := h.lt
  obtain ⟨h0, h1, h2, hf⟩ := h.c
  have hb : Blk w r (.string s :: .int .i64 i :: .bool false :: rest) T := h
  have hi1 := pk_in s i (by omega)
  have HV := hide (show assF s i x = ({ nn0 with act := 5, x := x, y := (varF s (i + 1, false)).1, w := (varF s (varF s (i + 1, false)).2).1 }, (varF s (varF s (i + 1, false)).2).2) by rw [assF, hc]; rfl)
  have HA := hide (fun W => nactOfSign_c 60 W)
  rw [show asgA 60 = 5 from rfl] at HA
  have HI := hide (fun W => isVar_c 60 W)
  rw [show (decide (97 ≤ 60) && decide (60 ≤ 102)) = false by decide] at HI
  have HC := hide (fun W => nconstantOfSign_c 60 (by decide) W)
  rw [show (conV 60).nc = [.int .i64 0, .int .i64 0, .int .i64 0] from rfl] at HC
  rw [hc] at HP
  clear hc h
  have HK := hide (fun W (hW : NR W r s (i + 1, false) rest T) => nvariable_c r (i + 1) s false rest T W hs hi1 hW)
  have hq := varF_le s (i + 1, false) hi1
  have HK2 := hide (fun W (hW : NR W r s (varF s (i + 1, false)).2 rest T) => nvariable_c r (varF s (i + 1, false)).2.1 s (varF s (i + 1, false)).2.2 rest T W hs hq hW)
  generalize varF s (varF s (i + 1, false)).2 = q2 at *
  generalize varF s (i + 1, false) = q at *
  obtain ⟨k, q⟩ := q
  obtain ⟨kk, q2⟩ := q2
  dsimp only at *
  go_enter Tryz.func175, Tryz.ntmps175
  go_wp2_with (first | (go_at_call 92; refine (HP.out _ (by (show Blk _ _ _ _); (repeat' (first | ((with_reducible show (_ : List Value) = _); rfl) | with_reducible exact hb | ((with_reducible refine Blk.newAt _ _ _ ?_); first | with_reducible rfl | (simp; done)) | with_reducible refine Blk.alloc ?_ _ | with_reducible refine Blk.drewN ?_ _ | with_reducible refine Blk.drew ?_ | ((with_reducible refine Blk.other ?_ _ ?_); rotate_left; ((try dsimp only); omega)) | with_reducible refine Blk.setB (cs0 := ?_) ?_ ?_)))).mono ?_; rintro e w' ⟨rfl, n, rfl⟩) | (go_at_call 174; refine (HI.out _).mono ?_; rintro e w' ⟨rfl, rfl⟩))
  refine (HC.out _).mono ?_
  rintro e w1 ⟨rfl, k1⟩
  have K1 := k1.mono (S' := (· = r)) (fun _ e => False.elim e)
  have hR1 : Blk w1 w.heap.size [.string ⟨#[]⟩, .int .i64 0, .int .i64 0, .int .i64 0, .int .i64 0, .int .i64 0, .int .i64 0, .int .i64 0, .int .i64 0, .int .i64 0, .int .i64 0] 91 := k1.blk (by (repeat' (first | ((with_reducible show (_ : List Value) = _); rfl) | with_reducible exact hb | ((with_reducible refine Blk.newAt _ _ _ ?_); first | with_reducible rfl | (simp; done)) | with_reducible refine Blk.alloc ?_ _ | with_reducible refine Blk.drewN ?_ _ | with_reducible refine Blk.drew ?_ | ((with_reducible refine Blk.other ?_ _ ?_); rotate_left; ((try dsimp only); omega)) | with_reducible refine Blk.setB (cs0 := ?_) ?_ ?_))) no_elim
  obtain ⟨z1_0, z1_1, z1_2, z1_3, z1_4, z1_5, z1_6, z1_7, z1_8, z1_9, z1_10, zf1⟩ := hR1.c11
  have hz1 := hR1.lt
  have hb1 : Blk w1 r (.string s :: .int .i64 i :: .bool false :: rest) T := k1.blk (by (repeat' (first | ((with_reducible show (_ : List Value) = _); rfl) | with_reducible exact hb | ((with_reducible refine Blk.newAt _ _ _ ?_); first | with_reducible rfl | (simp; done)) | with_reducible refine Blk.alloc ?_ _ | with_reducible refine Blk.drewN ?_ _ | with_reducible refine Blk.drew ?_ | ((with_reducible refine Blk.other ?_ _ ?_); rotate_left; ((try dsimp only); omega)) | with_reducible refine Blk.setB (cs0 := ?_) ?_ ?_))) no_elim
  obtain ⟨y0, y1, y2, yf⟩ := NR.c (i := i) (b := false) hb1
  have hr1 := hb1.lt
  go_wp2_with (go_at_call 184; refine (HA.out _).mono ?_; rintro e w' ⟨rfl, rfl⟩)
  refine (HK.out _ (by (show Blk _ _ _ _); (repeat' (first | ((with_reducible show (_ : List Value) = _); rfl) | with_reducible exact hb1 | ((with_reducible refine Blk.newAt _ _ _ ?_); first | with_reducible rfl | (simp; done)) | with_reducible refine Blk.alloc ?_ _ | with_reducible refine Blk.drewN ?_ _ | with_reducible refine Blk.drew ?_ | ((with_reducible refine Blk.other ?_ _ ?_); rotate_left; ((try dsimp only); omega)) | with_reducible refine Blk.setB (cs0 := ?_) ?_ ?_)))).mono ?_
  rintro e w2 ⟨rfl, hN2, k2⟩
  have hR2 : Blk w2 w.heap.size [.string ⟨#[]⟩, .int .i64 0, .int .i64 0, .int .i64 0, .int .i64 0, .int .i64 0, .int .i64 0, .int .i64 0, .int .i64 0, .int .i64 0, .int .i64 0] 91 := k2.blk (by (repeat' (first | ((with_reducible show (_ : List Value) = _); rfl) | with_reducible exact hR1 | ((with_reducible refine Blk.newAt _ _ _ ?_); first | with_reducible rfl | (simp; done)) | with_reducible refine Blk.alloc ?_ _ | with_reducible refine Blk.drewN ?_ _ | with_reducible refine Blk.drew ?_ | ((with_reducible refine Blk.other ?_ _ ?_); rotate_left; ((try dsimp only); omega)) | with_reducible refine Blk.setB (cs0 := ?_) ?_ ?_))) (by omega)
  obtain ⟨z2_0, z2_1, z2_2, z2_3, z2_4, z2_5, z2_6, z2_7, z2_8, z2_9, z2_10, zf2⟩ := hR2.c11
  have hz2 := hR2.lt
  have hb2 : Blk w2 r (.string s :: .int .i64 q.1 :: .bool q.2 :: rest) T := hN2
  have hr2 := hb2.lt
  go_wp2_with fail
  refine (HK2.out _ (by (show Blk _ _ _ _); (repeat' (first | ((with_reducible show (_ : List Value) = _); rfl) | with_reducible exact hb2 | ((with_reducible refine Blk.newAt _ _ _ ?_); first | with_reducible rfl | (simp; done)) | with_reducible refine Blk.alloc ?_ _ | with_reducible refine Blk.drewN ?_ _ | with_reducible refine Blk.drew ?_ | ((with_reducible refine Blk.other ?_ _ ?_); rotate_left; ((try dsimp only); omega)) | with_reducible refine Blk.setB (cs0 := ?_) ?_ ?_)))).mono ?_
  rintro e w3 ⟨rfl, hN3, k3⟩
  have hR3 : Blk w3 w.heap.size [.string ⟨#[]⟩, .int .i64 0, .int .i64 0, .int .i64 0, .int .i64 0, .int .i64 0, .int .i64 0, .int .i64 0, .int .i64 0, .int .i64 0, .int .i64 0] 91 := k3.blk (by (repeat' (first | ((with_reducible show (_ : List Value) = _); rfl) | with_reducible exact hR2 | ((with_reducible refine Blk.newAt _ _ _ ?_); first | with_reducible rfl | (simp; done)) | with_reducible refine Blk.alloc ?_ _ | with_reducible refine Blk.drewN ?_ _ | with_reducible refine Blk.drew ?_ | ((with_reducible refine Blk.other ?_ _ ?_); rotate_left; ((try dsimp only); omega)) | with_reducible refine Blk.setB (cs0 := ?_) ?_ ?_))) (by omega)
  obtain ⟨z3_0, z3_1, z3_2, z3_3, z3_4, z3_5, z3_6, z3_7, z3_8, z3_9, z3_10, zf3⟩ := hR3.c11
  have hz3 := hR3.lt
  have hb3 : Blk w3 r (.string s :: .int .i64 q2.1 :: .bool q2.2 :: rest) T := hN3
  go_wp2
  refine body_agg (Tb := 91) (b := w.heap.size) (cs := [.string ⟨#[]⟩, .int .i64 5, .int .i64 x, .int .i64 k, .int .i64 kk, .int .i64 0, .int .i64 0, .int .i64 0, .int .i64 0, .int .i64 0, .int .i64 0]) (.inr rfl) Tryz.results175 rfl rfl (by (repeat' (first | ((with_reducible show (_ : List Value) = _); rfl) | with_reducible exact hR3 | ((with_reducible refine Blk.newAt _ _ _ ?_); first | with_reducible rfl | (simp; done)) | with_reducible refine Blk.alloc ?_ _ | with_reducible refine Blk.drewN ?_ _ | with_reducible refine Blk.drew ?_ | ((with_reducible refine Blk.other ?_ _ ?_); rotate_left; ((try dsimp only); omega)) | with_reducible refine Blk.setB (cs0 := ?_) ?_ ?_))) Tryz.underlying91 rfl (by kernel_rfl) ?_
  rw [HV.out]
  exact ⟨rfl, by (show Blk _ _ _ _); (repeat' (first | ((with_reducible show (_ : List Value) = _); rfl) | with_reducible exact hb3 | ((with_reducible refine Blk.newAt _ _ _ ?_); first | with_reducible rfl | (simp; done)) | with_reducible refine Blk.alloc ?_ _ | with_reducible refine Blk.drewN ?_ _ | with_reducible refine Blk.drew ?_ | ((with_reducible refine Blk.other ?_ _ ?_); rotate_left; ((try dsimp only); omega)) | with_reducible refine Blk.setB (cs0 := ?_) ?_ ?_)), by (repeat' (first | with_reducible exact Kp.refl _ _ | with_reducible refine Kp.alloc ?_ _ | with_reducible refine Kp.drewN ?_ _ | with_reducible refine Kp.drew ?_ | with_reducible refine Kp.setCell ?_ _ ?_ | with_reducible refine Kp.trans ?_ K1 (fun _ _ e => e) | with_reducible refine Kp.trans ?_ k2 (fun _ _ e => e) | with_reducible refine Kp.trans ?_ k3 (fun _ _ e => e) | (intro hh; first | rfl | exact .inl rfl | exact .inr rfl | (exfalso; (try dsimp only at hh); omega))))⟩

set_option maxHeartbeats 1600000 in
theorem nassign_s65 (r i : Nat) (x : Int) (s : ByteArray) (rest : List Value) (T : TypeId) (w : World) (hs : s.size ≤ 1000) (hi : i ≤ s.size)
    (h : NR w r s (i, false) rest T) (hc : pk s i = 65) :
    Calls Tryz.prog 175 #[.pointer (some ⟨r, 0, none⟩), .int .i64 x] w fun e w' => e = .returned (.agg (assF s i x).1.cells.toArray) ∧ NR w' r s (assF s i x).2 rest T ∧ Kp (· = r) w w' := by
  have HP := hide (fun W (hW : NR W r s (i, false) rest T) => npeek_c r i s false rest T W hs hi hW)
  rw [pkb_false] at HP
  have hr := h.lt
  obtain ⟨h0, h1, h2, hf⟩ := h.c
  have hb : Blk w r (.string s :: .int .i64 i :: .bool false :: rest) T := h
  have hi1 := pk_in s i (by omega)
  have HV := hide (show assF s i x = ({ nn0 with act := 6, x := x, y := (varF s (i + 1, false)).1, w := (varF s (i + 1, false)).1 }, (varF s (i + 1, false)).2) by rw [assF, hc]; rfl)
  have HA := hide (fun W => nactOfSign_c 65 W)
  rw [show asgA 65 = 6 from rfl] at HA
  have HI := hide (fun W => isVar_c 65 W)
  rw [show (decide (97 ≤ 65) && decide (65 ≤ 102)) = false by decide] at HI
  have HC := hide (fun W => nconstantOfSign_c 65 (by decide) W)
  rw [show (conV 65).nc = [.int .i64 0, .int .i64 0, .int .i64 0] from rfl] at HC
  rw [hc] at HP
  clear hc h
  have HK := hide (fun W (hW : NR W r s (i + 1, false) rest T) => nvariable_c r (i + 1) s false rest T W hs hi1 hW)
  have hq := varF_le s (i + 1, false) hi1
  generalize varF s (i + 1, false) = q at *
  obtain ⟨k, q⟩ := q
  dsimp only at *
  go_enter Tryz.func175, Tryz.ntmps175
  go_wp2_with (first | (go_at_call 92; refine (HP.out _ (by (show Blk _ _ _ _); (repeat' (first | ((with_reducible show (_ : List Value) = _); rfl) | with_reducible exact hb | ((with_reducible refine Blk.newAt _ _ _ ?_); first | with_reducible rfl | (simp; done)) | with_reducible refine Blk.alloc ?_ _ | with_reducible refine Blk.drewN ?_ _ | with_reducible refine Blk.drew ?_ | ((with_reducible refine Blk.other ?_ _ ?_); rotate_left; ((try dsimp only); omega)) | with_reducible refine Blk.setB (cs0 := ?_) ?_ ?_)))).mono ?_; rintro e w' ⟨rfl, n, rfl⟩) | (go_at_call 174; refine (HI.out _).mono ?_; rintro e w' ⟨rfl, rfl⟩))
  refine (HC.out _).mono ?_
  rintro e w1 ⟨rfl, k1⟩
  have K1 := k1.mono (S' := (· = r)) (fun _ e => False.elim e)
  have hR1 : Blk w1 w.heap.size [.string ⟨#[]⟩, .int .i64 0, .int .i64 0, .int .i64 0, .int .i64 0, .int .i64 0, .int .i64 0, .int .i64 0, .int .i64 0, .int .i64 0, .int .i64 0] 91 := k1.blk (by (repeat' (first | ((with_reducible show (_ : List Value) = _); rfl) | with_reducible exact hb | ((with_reducible refine Blk.newAt _ _ _ ?_); first | with_reducible rfl | (simp; done)) | with_reducible refine Blk.alloc ?_ _ | with_reducible refine Blk.drewN ?_ _ | with_reducible refine Blk.drew ?_ | ((with_reducible refine Blk.other ?_ _ ?_); rotate_left; ((try dsimp only); omega)) | with_reducible refine Blk.setB (cs0 := ?_) ?_ ?_))) no_elim
  obtain ⟨z1_0, z1_1, z1_2, z1_3, z1_4, z1_5, z1_6, z1_7, z1_8, z1_9, z1_10, zf1⟩ := hR1.c11
  have hz1 := hR1.lt
  have hb1 : Blk w1 r (.string s :: .int .i64 i :: .bool false :: rest) T := k1.blk (by (repeat' (first | ((with_reducible show (_ : List Value) = _); rfl) | with_reducible exact hb | ((with_reducible refine Blk.newAt _ _ _ ?_); first | with_reducible rfl | (simp; done)) | with_reducible refine Blk.alloc ?_ _ | with_reducible refine Blk.drewN ?_ _ | with_reducible refine Blk.drew ?_ | ((with_reducible refine Blk.other ?_ _ ?_); rotate_left; ((try dsimp only); omega)) | with_reducible refine Blk.setB (cs0 := ?_) ?_ ?_))) no_elim
  obtain ⟨y0, y1, y2, yf⟩ := NR.c (i := i) (b := false) hb1
  have hr1 := hb1.lt
  go_wp2_with (go_at_call 184; refine (HA.out _).mono ?_; rintro e w' ⟨rfl, rfl⟩)
  refine (HK.out _ (by (show Blk _ _ _ _); (repeat' (first | ((with_reducible show (_ : List Value) = _); rfl) | with_reducible exact hb1 | ((with_reducible refine Blk.newAt _ _ _ ?_); first | with_reducible rfl | (simp; done)) | with_reducible refine Blk.alloc ?_ _ | with_reducible refine Blk.drewN ?_ _ | with_reducible refine Blk.drew ?_ | ((with_reducible refine Blk.other ?_ _ ?_); rotate_left; ((try dsimp only); omega)) | with_reducible refine Blk.setB (cs0 := ?_) ?_ ?_)))).mono ?_
  rintro e w2 ⟨rfl, hN2, k2⟩
  have hR2 : Blk w2 w.heap.size [.string ⟨#[]⟩, .int .i64 0, .int .i64 0, .int .i64 0, .int .i64 0, .int .i64 0, .int .i64 0, .int .i64 0, .int .i64 0, .int .i64 0, .int .i64 0] 91 := k2.blk (by (repeat' (first | ((with_reducible show (_ : List Value) = _); rfl) | with_reducible exact hR1 | ((with_reducible refine Blk.newAt _ _ _ ?_); first | with_reducible rfl | (simp; done)) | with_reducible refine Blk.alloc ?_ _ | with_reducible refine Blk.drewN ?_ _ | with_reducible refine Blk.drew ?_ | ((with_reducible refine Blk.other ?_ _ ?_); rotate_left; ((try dsimp only); omega)) | with_reducible refine Blk.setB (cs0 := ?_) ?_ ?_))) (by omega)
  obtain ⟨z2_0, z2_1, z2_2, z2_3, z2_4, z2_5, z2_6, z2_7, z2_8, z2_9, z2_10, zf2⟩ := hR2.c11
  have hz2 := hR2.lt
  have hb2 : Blk w2 r (.string s :: .int .i64 q.1 :: .bool q.2 :: rest) T := hN2
  have hr2 := hb2.lt
  go_wp2
  refine body_agg (Tb := 91) (b := w.heap.size) (cs := [.string ⟨#[]⟩, .int .i64 6, .int .i64 x, .int .i64 k, .int .i64 k, .int .i64 0, .int .i64 0, .int .i64 0, .int .i64 0, .int .i64 0, .int .i64 0]) (.inr rfl) Tryz.results175 rfl rfl (by (repeat' (first | ((with_reducible show (_ : List Value) = _); rfl) | with_reducible exact hR2 | ((with_reducible refine Blk.newAt _ _ _ ?_); first | with_reducible rfl | (simp; done)) | with_reducible refine Blk.alloc ?_ _ | with_reducible refine Blk.drewN ?_ _ | with_reducible refine Blk.drew ?_ | ((with_reducible refine Blk.other ?_ _ ?_); rotate_left; ((try dsimp only); omega)) | with_reducible refine Blk.setB (cs0 := ?_) ?_ ?_))) Tryz.underlying91 rfl (by kernel_rfl) ?_
  rw [HV.out]
  exact ⟨rfl, by (show Blk _ _ _ _); (repeat' (first | ((with_reducible show (_ : List Value) = _); rfl) | with_reducible exact hb2 | ((with_reducible refine Blk.newAt _ _ _ ?_); first | with_reducible rfl | (simp; done)) | with_reducible refine Blk.alloc ?_ _ | with_reducible refine Blk.drewN ?_ _ | with_reducible refine Blk.drew ?_ | ((with_reducible refine Blk.other ?_ _ ?_); rotate_left; ((try dsimp only); omega)) | with_reducible refine Blk.setB (cs0 := ?_) ?_ ?_)), by (repeat' (first | with_reducible exact Kp.refl _ _ | with_reducible refine Kp.alloc ?_ _ | with_reducible refine Kp.drewN ?_ _ | with_reducible refine Kp.drew ?_ | with_reducible refine Kp.setCell ?_ _ ?_ | with_reducible refine Kp.trans ?_ K1 (fun _ _ e => e) | with_reducible refine Kp.trans ?_ k2 (fun _ _ e => e) | (intro hh; first | rfl | exact .inl rfl | exact .inr rfl | (exfalso; (try dsimp only at hh); omega))))⟩

set_option maxHeartbeats 1600000 in
theorem nassign_s66 (r i : Nat) (x : Int) (s : ByteArray) (rest : List Value) (T : TypeId) (w : World) (hs : s.size ≤ 1000) (hi : i ≤ s.size)
    (h : NR w r s (i, false) rest T) (hc : pk s i = 66) :
    Calls Tryz.prog 175 #[.pointer (some ⟨r, 0, none⟩), .int .i64 x] w fun e w' => e = .returned (.agg (assF s i x).1.cells.toArray) ∧ NR w' r s (assF s i x).2 rest T ∧ Kp (· = r) w w' := by
  have HP := hide (fun W (hW : NR W r s (i, false) rest T) => npeek_c r i s false rest T W hs hi hW)
  rw [pkb_false] at HP
  have hr := h.lt
  obtain ⟨h0, h1, h2, hf⟩ := h.c
  have hb : Blk w r (.string s :: .int .i64 i :: .bool false :: rest) T := h
  have hi1 := pk_in s i (by omega)
  have HV := hide (show assF s i x = ({ nn0 with act := 7, x := x, y := (varF s (i + 1, false)).1, w := (varF s (i + 1, false)).1 }, (varF s (i + 1, false)).2) by rw [assF, hc]; rfl)
  have HA := hide (fun W => nactOfSign_c 66 W)
  rw [show asgA 66 = 7 from rfl] at HA
  have HI := hide (fun W => isVar_c 66 W)
  rw [show (decide (97 ≤ 66) && decide (66 ≤ 102)) = false by decide] at HI
  have HC := hide (fun W => nconstantOfSign_c 66 (by decide) W)
  rw [show (conV 66).nc = [.int .i64 0, .int .i64 0, .int .i64 0] from rfl] at HC
  rw [hc] at HP
  clear hc h
  have HK := hide (fun W (hW : NR W r s (i + 1, false) rest T) => nvariable_c r (i + 1) s false rest T W hs hi1 hW)
  have hq := varF_le s (i + 1, false) hi1
  generalize varF s (i + 1, false) = q at *
  obtain ⟨k, q⟩ := q
  dsimp only at *
  go_enter Tryz.func175, Tryz.ntmps175
  go_wp2_with (first | (go_at_call 92; refine (HP.out _ (by (show Blk _ _ _ _); (repeat' (first | ((with_reducible show (_ : List Value) = _); rfl) | with_reducible exact hb | ((with_reducible refine Blk.newAt _ _ _ ?_); first | with_reducible rfl | (simp; done)) | with_reducible refine Blk.alloc ?_ _ | with_reducible refine Blk.drewN ?_ _ | with_reducible refine Blk.drew ?_ | ((with_reducible refine Blk.other ?_ _ ?_); rotate_left; ((try dsimp only); omega)) | with_reducible refine Blk.setB (cs0 := ?_) ?_ ?_)))).mono ?_; rintro e w' ⟨rfl, n, rfl⟩) | (go_at_call 174; refine (HI.out _).mono ?_; rintro e w' ⟨rfl, rfl⟩))
  refine (HC.out _).mono ?_
  rintro e w1 ⟨rfl, k1⟩
  have K1 := k1.mono (S' := (· = r)) (fun _ e => False.elim e)
  have hR1 : Blk w1 w.heap.size [.string ⟨#[]⟩, .int .i64 0, .int .i64 0, .int .i64 0, .int .i64 0, .int .i64 0, .int .i64 0, .int .i64 0, .int .i64 0, .int .i64 0, .int .i64 0] 91 := k1.blk (by (repeat' (first | ((with_reducible show (_ : List Value) = _); rfl) | with_reducible exact hb | ((with_reducible refine Blk.newAt _ _ _ ?_); first | with_reducible rfl | (simp; done)) | with_reducible refine Blk.alloc ?_ _ | with_reducible refine Blk.drewN ?_ _ | with_reducible refine Blk.drew ?_ | ((with_reducible refine Blk.other ?_ _ ?_); rotate_left; ((try dsimp only); omega)) | with_reducible refine Blk.setB (cs0 := ?_) ?_ ?_))) no_elim
  obtain ⟨z1_0, z1_1, z1_2, z1_3, z1_4, z1_5, z1_6, z1_7, z1_8, z1_9, z1_10, zf1⟩ := hR1.c11
  have hz1 := hR1.lt
  have hb1 : Blk w1 r (.string s :: .int .i64 i :: .bool false :: rest) T := k1.blk (by (repeat' (first | ((with_reducible show (_ : List Value) = _); rfl) | with_reducible exact hb | ((with_reducible refine Blk.newAt _ _ _ ?_); first | with_reducible rfl | (simp; done)) | with_reducible refine Blk.alloc ?_ _ | with_reducible refine Blk.drewN ?_ _ | with_reducible refine Blk.drew ?_ | ((with_reducible refine Blk.other ?_ _ ?_); rotate_left; ((try dsimp only); omega)) | with_reducible refine Blk.setB (cs0 := ?_) ?_ ?_))) no_elim
  obtain ⟨y0, y1, y2, yf⟩ := NR.c (i := i) (b := false) hb1
  have hr1 := hb1.lt
  go_wp2_with (go_at_call 184; refine (HA.out _).mono ?_; rintro e w' ⟨rfl, rfl⟩)
  refine (HK.out _ (by (show Blk _ _ _ _); (repeat' (first | ((with_reducible show (_ : List Value) = _); rfl) | with_reducible exact hb1 | ((with_reducible refine Blk.newAt _ _ _ ?_); first | with_reducible rfl | (simp; done)) | with_reducible refine Blk.alloc ?_ _ | with_reducible refine Blk.drewN ?_ _ | with_reducible refine Blk.drew ?_ | ((with_reducible refine Blk.other ?_ _ ?_); rotate_left; ((try dsimp only); omega)) | with_reducible refine Blk.setB (cs0 := ?_) ?_ ?_)))).mono ?_
  rintro e w2 ⟨rfl, hN2, k2⟩
  have hR2 : Blk w2 w.heap.size [.string ⟨#[]⟩, .int .i64 0, .int .i64 0, .int .i64 0, .int .i64 0, .int .i64 0, .int .i64 0, .int .i64 0, .int .i64 0, .int .i64 0, .int .i64 0] 91 := k2.blk (by (repeat' (first | ((with_reducible show (_ : List Value) = _); rfl) | with_reducible exact hR1 | ((with_reducible refine Blk.newAt _ _ _ ?_); first | with_reducible rfl | (simp; done)) | with_reducible refine Blk.alloc ?_ _ | with_reducible refine Blk.drewN ?_ _ | with_reducible refine Blk.drew ?_ | ((with_reducible refine Blk.other ?_ _ ?_); rotate_left; ((try dsimp only); omega)) | with_reducible refine Blk.setB (cs0 := ?_) ?_ ?_))) (by omega)
  obtain ⟨z2_0, z2_1, z2_2, z2_3, z2_4, z2_5, z2_6, z2_7, z2_8, z2_9, z2_10, zf2⟩ := hR2.c11
  have hz2 := hR2.lt
  have hb2 : Blk w2 r (.string s :: .int .i64 q.1 :: .bool q.2 :: rest) T := hN2
  have hr2 := hb2.lt
  go_wp2
  refine body_agg (Tb := 91) (b := w.heap.size) (cs := [.string ⟨#[]⟩, .int .i64 7, .int .i64 x, .int .i64 k, .int .i64 k, .int .i64 0, .int .i64 0, .int .i64 0, .int .i64 0, .int .i64 0, .int .i64 0]) (.inr rfl) Tryz.results175 rfl rfl (by (repeat' (first | ((with_reducible show (_ : List Value) = _); rfl) | with_reducible exact hR2 | ((with_reducible refine Blk.newAt _ _ _ ?_); first | with_reducible rfl | (simp; done)) | with_reducible refine Blk.alloc ?_ _ | with_reducible refine Blk.drewN ?_ _ | with_reducible refine Blk.drew ?_ | ((with_reducible refine Blk.other ?_ _ ?_); rotate_left; ((try dsimp only); omega)) | with_reducible refine Blk.setB (cs0 := ?_) ?_ ?_))) Tryz.underlying91 rfl (by kernel_rfl) ?_
  rw [HV.out]
  exact ⟨rfl, by (show Blk _ _ _ _); (repeat' (first | ((with_reducible show (_ : List Value) = _); rfl) | with_reducible exact hb2 | ((with_reducible refine Blk.newAt _ _ _ ?_); first | with_reducible rfl | (simp; done)) | with_reducible refine Blk.alloc ?_ _ | with_reducible refine Blk.drewN ?_ _ | with_reducible refine Blk.drew ?_ | ((with_reducible refine Blk.other ?_ _ ?_); rotate_left; ((try dsimp only); omega)) | with_reducible refine Blk.setB (cs0 := ?_) ?_ ?_)), by (repeat' (first | with_reducible exact Kp.refl _ _ | with_reducible refine Kp.alloc ?_ _ | with_reducible refine Kp.drewN ?_ _ | with_reducible refine Kp.drew ?_ | with_reducible refine Kp.setCell ?_ _ ?_ | with_reducible refine Kp.trans ?_ K1 (fun _ _ e => e) | with_reducible refine Kp.trans ?_ k2 (fun _ _ e => e) | (intro hh; first | rfl | exact .inl rfl | exact .inr rfl | (exfalso; (try dsimp only at hh); omega))))⟩

set_option maxHeartbeats 1600000 in
theorem nassign_s46 (r i : Nat) (x : Int) (s : ByteArray) (rest : List Value) (T : TypeId) (w : World) (hs : s.size ≤ 1000) (hi : i ≤ s.size)
    (h : NR w r s (i, false) rest T) (hc : pk s i = 46) :
    Calls Tryz.prog 175 #[.pointer (some ⟨r, 0, none⟩), .int .i64 x] w fun e w' => e = .returned (.agg (assF s i x).1.cells.toArray) ∧ NR w' r s (assF s i x).2 rest T ∧ Kp (· = r) w w' := by
  have HP := hide (fun W (hW : NR W r s (i, false) rest T) => npeek_c r i s false rest T W hs hi hW)
  rw [pkb_false] at HP
  have hr := h.lt
  obtain ⟨h0, h1, h2, hf⟩ := h.c
  have hb : Blk w r (.string s :: .int .i64 i :: .bool false :: rest) T := h
  have hi1 := pk_in s i (by omega)
  have HV := hide (show assF s i x = ({ nn0 with act := 8, x := x, y := (varF s (i + 1, false)).1, w := (varF s (i + 1, false)).1 }, (varF s (i + 1, false)).2) by rw [assF, hc]; rfl)
  have HA := hide (fun W => nactOfSign_c 46 W)
  rw [show asgA 46 = 8 from rfl] at HA
  have HI := hide (fun W => isVar_c 46 W)
  rw [show (decide (97 ≤ 46) && decide (46 ≤ 102)) = false by decide] at HI
  have HC := hide (fun W => nconstantOfSign_c 46 (by decide) W)
  rw [show (conV 46).nc = [.int .i64 0, .int .i64 0, .int .i64 0] from rfl] at HC
  rw [hc] at HP
  clear hc h
  have HK := hide (fun W (hW : NR W r s (i + 1, false) rest T) => nvariable_c r (i + 1) s false rest T W hs hi1 hW)
  have hq := varF_le s (i + 1, false) hi1
  generalize varF s (i + 1, false) = q at *
  obtain ⟨k, q⟩ := q
  dsimp only at *
  go_enter Tryz.func175, Tryz.ntmps175
  go_wp2_with (first | (go_at_call 92; refine (HP.out _ (by (show Blk _ _ _ _); (repeat' (first | ((with_reducible show (_ : List Value) = _); rfl) | with_reducible exact hb | ((with_reducible refine Blk.newAt _ _ _ ?_); first | with_reducible rfl | (simp; done)) | with_reducible refine Blk.alloc ?_ _ | with_reducible refine Blk.drewN ?_ _ | with_reducible refine Blk.drew ?_ | ((with_reducible refine Blk.other ?_ _ ?_); rotate_left; ((try dsimp only); omega)) | with_reducible refine Blk.setB (cs0 := ?_) ?_ ?_)))).mono ?_; rintro e w' ⟨rfl, n, rfl⟩) | (go_at_call 174; refine (HI.out _).mono ?_; rintro e w' ⟨rfl, rfl⟩))
  refine (HC.out _).mono ?_
  rintro e w1 ⟨rfl, k1⟩
  have K1 := k1.mono (S' := (· = r)) (fun _ e => False.elim e)
  have hR1 : Blk w1 w.heap.size [.string ⟨#[]⟩, .int .i64 0, .int .i64 0, .int .i64 0, .int .i64 0, .int .i64 0, .int .i64 0, .int .i64 0, .int .i64 0, .int .i64 0, .int .i64 0] 91 := k1.blk (by (repeat' (first | ((with_reducible show (_ : List Value) = _); rfl) | with_reducible exact hb | ((with_reducible refine Blk.newAt _ _ _ ?_); first | with_reducible rfl | (simp; done)) | with_reducible refine Blk.alloc ?_ _ | with_reducible refine Blk.drewN ?_ _ | with_reducible refine Blk.drew ?_ | ((with_reducible refine Blk.other ?_ _ ?_); rotate_left; ((try dsimp only); omega)) | with_reducible refine Blk.setB (cs0 := ?_) ?_ ?_))) no_elim
  obtain ⟨z1_0, z1_1, z1_2, z1_3, z1_4, z1_5, z1_6, z1_7, z1_8, z1_9, z1_10, zf1⟩ := hR1.c11
  have hz1 := hR1.lt
  have hb1 : Blk w1 r (.string s :: .int .i64 i :: .bool false :: rest) T := k1.blk (by (repeat' (first | ((with_reducible show (_ : List Value) = _); rfl) | with_reducible exact hb | ((with_reducible refine Blk.newAt _ _ _ ?_); first | with_reducible rfl | (simp; done)) | with_reducible refine Blk.alloc ?_ _ | with_reducible refine Blk.drewN ?_ _ | with_reducible refine Blk.drew ?_ | ((with_reducible refine Blk.other ?_ _ ?_); rotate_left; ((try dsimp only); omega)) | with_reducible refine Blk.setB (cs0 := ?_) ?_ ?_))) no_elim
  obtain ⟨y0, y1, y2, yf⟩ := NR.c (i := i) (b := false) hb1
  have hr1 := hb1.lt
  go_wp2_with (go_at_call 184; refine (HA.out _).mono ?_; rintro e w' ⟨rfl, rfl⟩)
  refine (HK.out _ (by (show Blk _ _ _ _); (repeat' (first | ((with_reducible show (_ : List Value) = _); rfl) | with_reducible exact hb1 | ((with_reducible refine Blk.newAt _ _ _ ?_); first | with_reducible rfl | (simp; done)) | with_reducible refine Blk.alloc ?_ _ | with_reducible refine Blk.drewN ?_ _ | with_reducible refine Blk.drew ?_ | ((with_reducible refine Blk.other ?_ _ ?_); rotate_left; ((try dsimp only); omega)) | with_reducible refine Blk.setB (cs0 := ?_) ?_ ?_)))).mono ?_
  rintro e w2 ⟨rfl, hN2, k2⟩
  have hR2 : Blk w2 w.heap.size [.string ⟨#[]⟩, .int .i64 0, .int .i64 0, .int .i64 0, .int .i64 0, .int .i64 0, .int .i64 0, .int .i64 0, .int .i64 0, .int .i64 0, .int .i64 0] 91 := k2.blk (by (repeat' (first | ((with_reducible show (_ : List Value) = _); rfl) | with_reducible exact hR1 | ((with_reducible refine Blk.newAt _ _ _ ?_); first | with_reducible rfl | (simp; done)) | with_reducible refine Blk.alloc ?_ _ | with_reducible refine Blk.drewN ?_ _ | with_reducible refine Blk.drew ?_ | ((with_reducible refine Blk.other ?_ _ ?_); rotate_left; ((try dsimp only); omega)) | with_reducible refine Blk.setB (cs0 := ?_) ?_ ?_))) (by omega)
  obtain ⟨z2_0, z2_1, z2_2, z2_3, z2_4, z2_5, z2_6, z2_7, z2_8, z2_9, z2_10, zf2⟩ := hR2.c11
  have hz2 := hR2.lt
  have hb2 : Blk w2 r (.string s :: .int .i64 q.1 :: .bool q.2 :: rest) T := hN2
  have hr2 := hb2.lt
  go_wp2
  refine body_agg (Tb := 91) (b := w.heap.size) (cs := [.string ⟨#[]⟩, .int .i64 8, .int .i64 x, .int .i64 k, .int .i64 k, .int .i64 0, .int .i64 0, .int .i64 0, .int .i64 0, .int .i64 0, .int .i64 0]) (.inr rfl) Tryz.results175 rfl rfl (by (repeat' (first | ((with_reducible show (_ : List Value) = _); rfl) | with_reducible exact hR2 | ((with_reducible refine Blk.newAt _ _ _ ?_); first | with_reducible rfl | (simp; done)) | with_reducible refine Blk.alloc ?_ _ | with_reducible refine Blk.drewN ?_ _ | with_reducible refine Blk.drew ?_ | ((with_reducible refine Blk.other ?_ _ ?_); rotate_left; ((try dsimp only); omega)) | with_reducible refine Blk.setB (cs0 := ?_) ?_ ?_))) Tryz.underlying91 rfl (by kernel_rfl) ?_
  rw [HV.out]
  exact ⟨rfl, by (show Blk _ _ _ _); (repeat' (first | ((with_reducible show (_ : List Value) = _); rfl) | with_reducible exact hb2 | ((with_reducible refine Blk.newAt _ _ _ ?_); first | with_reducible rfl | (simp; done)) | with_reducible refine Blk.alloc ?_ _ | with_reducible refine Blk.drewN ?_ _ | with_reducible refine Blk.drew ?_ | ((with_reducible refine Blk.other ?_ _ ?_); rotate_left; ((try dsimp only); omega)) | with_reducible refine Blk.setB (cs0 := ?_) ?_ ?_)), by (repeat' (first | with_reducible exact Kp.refl _ _ | with_reducible refine Kp.alloc ?_ _ | with_reducible refine Kp.drewN ?_ _ | with_reducible refine Kp.drew ?_ | with_reducible refine Kp.setCell ?_ _ ?_ | with_reducible refine Kp.trans ?_ K1 (fun _ _ e => e) | with_reducible refine Kp.trans ?_ k2 (fun _ _ e => e) | (intro hh; first | rfl | exact .inl rfl | exact .inr rfl | (exfalso; (try dsimp only at hh); omega))))⟩

end Go.Proofs.YtellieabhaphhaaGreatDoor

/-
  narrow's reader: a node of a graph.
-/
namespace Go.Proofs.YtellieabhaphhaaGreatDoor
open Go.RowKit

theorem nassign_c (r i : Nat) (x : Int) (s : ByteArray) (rest : List Value) (T : TypeId) (w : World) (hs : s.size ≤ 1000) (hi : i ≤ s.size)
    (h : NR w r s (i, false) rest T) :
    Calls Tryz.prog 175 #[.pointer (some ⟨r, 0, none⟩), .int .i64 x] w fun e w' => e = .returned (.agg (assF s i x).1.cells.toArray) ∧ NR w' r s (assF s i x).2 rest T ∧ Kp (· = r) w w' := by
  by_cases h1 : 97 ≤ pk s i ∧ pk s i ≤ 102
  · exact nassign_var r i x s rest T w hs hi h h1
  by_cases h2 : bit (conV (pk s i)).k = 0
  · by_cases h3 : pk s i = 63
    · exact nassign_s63 r i x s rest T w hs hi h h3
    by_cases h4 : pk s i = 43
    · exact nassign_s43 r i x s rest T w hs hi h h4
    by_cases h5 : pk s i = 60
    · exact nassign_s60 r i x s rest T w hs hi h h5
    by_cases h6 : pk s i = 65
    · exact nassign_s65 r i x s rest T w hs hi h h6
    by_cases h7 : pk s i = 66
    · exact nassign_s66 r i x s rest T w hs hi h h7
    by_cases h8 : pk s i = 46
    · exact nassign_s46 r i x s rest T w hs hi h h8
    exact nassign_bad r i x s rest T w hs hi h ⟨h1, h2, by rw [asgA, if_neg h3, if_neg h4, if_neg h5, if_neg h6, if_neg h7, if_neg h8]⟩
  · exact nassign_con r i x s rest T w hs hi h h2

def chgF (s : ByteArray) (p : Nat × Bool) (x : Int) : NN × (Nat × Bool) :=
  if pkb s p = 61 then assF s (p.1 + 1) x
  else if pkb s p = 126 then ({ nn0 with act := 10, x := x, kd := bit (kindF s (p.1 + 1, false)).1 }, (kindF s (p.1 + 1, false)).2)
  else (nn0, (p.1, true))

set_option maxHeartbeats 1600000 in
theorem nchange_c (r i : Nat) (x : Int) (s : ByteArray) (bad : Bool) (rest : List Value) (T : TypeId) (w : World) (hs : s.size ≤ 1000) (hi : i ≤ s.size)
    (h : NR w r s (i, bad) rest T) :
    Calls Tryz.prog 150 #[.pointer (some ⟨r, 0, none⟩), .int .i64 x] w fun e w' => e = .returned (.agg (chgF s (i, bad) x).1.cells.toArray) ∧ NR w' r s (chgF s (i, bad) x).2 rest T ∧ Kp (· = r) w w' := by
  have HP := hide (fun W (hW : NR W r s (i, bad) rest T) => npeek_c r i s bad rest T W hs hi hW)
  have hr := h.lt
  obtain ⟨h0, h1, h2, hf⟩ := h.c
  have hb : Blk w r (.string s :: .int .i64 i :: .bool bad :: rest) T := h
  by_cases hc : pkb s (i, bad) = 61
  · have HV := hide (show chgF s (i, bad) x = assF s (i + 1) x by rw [chgF, if_pos hc])
    obtain ⟨rfl, hi1⟩ := pkb_good (by rw [hc]; decide)
    rw [hc] at HP
    have HK := hide (fun W (hW : NR W r s (i + 1, false) rest T) => nassign_c r (i + 1) x s rest T W hs hi1 hW)
    generalize assF s (i + 1) x = q at *
    obtain ⟨⟨g0, g1, g2, g3, g4, g5, g6, g7, g8, g9, g10⟩, q⟩ := q
    clear h hc
    unfold NN.cells at HK
    dsimp only at HK
    go_enter Tryz.func150, Tryz.ntmps150
    go_wp2_with (go_at_call 92; refine (HP.out _ (by (show Blk _ _ _ _); (repeat' (first | ((with_reducible show (_ : List Value) = _); rfl) | with_reducible exact hb | ((with_reducible refine Blk.newAt _ _ _ ?_); first | with_reducible rfl | (simp; done)) | with_reducible refine Blk.alloc ?_ _ | with_reducible refine Blk.drewN ?_ _ | with_reducible refine Blk.drew ?_ | ((with_reducible refine Blk.other ?_ _ ?_); rotate_left; ((try dsimp only); omega)) | with_reducible refine Blk.setB (cs0 := ?_) ?_ ?_)))).mono ?_; rintro e w' ⟨rfl, n, rfl⟩)
    refine (HK.out _ (by (show Blk _ _ _ _); (repeat' (first | ((with_reducible show (_ : List Value) = _); rfl) | with_reducible exact hb | ((with_reducible refine Blk.newAt _ _ _ ?_); first | with_reducible rfl | (simp; done)) | with_reducible refine Blk.alloc ?_ _ | with_reducible refine Blk.drewN ?_ _ | with_reducible refine Blk.drew ?_ | ((with_reducible refine Blk.other ?_ _ ?_); rotate_left; ((try dsimp only); omega)) | with_reducible refine Blk.setB (cs0 := ?_) ?_ ?_)))).mono ?_
    rintro e w1 ⟨rfl, hNw1, kw1⟩
    have hbw1 : Blk w1 r (.string s :: .int .i64 q.1 :: .bool q.2 :: rest) T := hNw1
    have hrw1 := hbw1.lt
    have hR1 : Blk w1 w.heap.size [.string ⟨#[]⟩, .int .i64 0, .int .i64 0, .int .i64 0, .int .i64 0, .int .i64 0, .int .i64 0, .int .i64 0, .int .i64 0, .int .i64 0, .int .i64 0] 91 := kw1.blk (by (repeat' (first | ((with_reducible show (_ : List Value) = _); rfl) | with_reducible exact hb | ((with_reducible refine Blk.newAt _ _ _ ?_); first | with_reducible rfl | (simp; done)) | with_reducible refine Blk.alloc ?_ _ | with_reducible refine Blk.drewN ?_ _ | with_reducible refine Blk.drew ?_ | ((with_reducible refine Blk.other ?_ _ ?_); rotate_left; ((try dsimp only); omega)) | with_reducible refine Blk.setB (cs0 := ?_) ?_ ?_))) (by omega)
    obtain ⟨z1_0, z1_1, z1_2, z1_3, z1_4, z1_5, z1_6, z1_7, z1_8, z1_9, z1_10, zf1⟩ := hR1.c11
    have hz1 := hR1.lt
    go_wp2
    refine body_agg (Tb := 91) (b := w.heap.size) (cs := [.string g0, .int .i64 g1, .int .i64 g2, .int .i64 g3, .int .i64 g4, .int .i64 g5, .int .i64 g6, .int .i64 g7, .int .i64 g8, .int .i64 g9, .int .i64 g10]) (.inr rfl) Tryz.results150 rfl rfl (by (repeat' (first | ((with_reducible show (_ : List Value) = _); rfl) | with_reducible exact hR1 | ((with_reducible refine Blk.newAt _ _ _ ?_); first | with_reducible rfl | (simp; done)) | with_reducible refine Blk.alloc ?_ _ | with_reducible refine Blk.drewN ?_ _ | with_reducible refine Blk.drew ?_ | ((with_reducible refine Blk.other ?_ _ ?_); rotate_left; ((try dsimp only); omega)) | with_reducible refine Blk.setB (cs0 := ?_) ?_ ?_))) Tryz.underlying91 rfl (by kernel_rfl) ?_
    rw [HV.out]
    exact ⟨rfl, by (show Blk _ _ _ _); (repeat' (first | ((with_reducible show (_ : List Value) = _); rfl) | with_reducible exact hbw1 | ((with_reducible refine Blk.newAt _ _ _ ?_); first | with_reducible rfl | (simp; done)) | with_reducible refine Blk.alloc ?_ _ | with_reducible refine Blk.drewN ?_ _ | with_reducible refine Blk.drew ?_ | ((with_reducible refine Blk.other ?_ _ ?_); rotate_left; ((try dsimp only); omega)) | with_reducible refine Blk.setB (cs0 := ?_) ?_ ?_)), by (repeat' (first | with_reducible exact Kp.refl _ _ | with_reducible refine Kp.alloc ?_ _ | with_reducible refine Kp.drewN ?_ _ | with_reducible refine Kp.drew ?_ | with_reducible refine Kp.setCell ?_ _ ?_ | with_reducible refine Kp.trans ?_ kw1 (fun _ _ e => e) | (intro hh; first | rfl | exact .inl rfl | exact .inr rfl | (exfalso; (try dsimp only at hh); omega))))⟩
  by_cases hc2 : pkb s (i, bad) = 126
  · have HV := hide (show chgF s (i, bad) x = ({ nn0 with act := 10, x := x, kd := bit (kindF s (i + 1, false)).1 }, (kindF s (i + 1, false)).2) by rw [chgF, if_neg hc, if_pos hc2])
    obtain ⟨rfl, hi1⟩ := pkb_good (by rw [hc2]; decide)
    rw [hc2] at HP
    have HK := hide (fun W (hW : NR W r s (i + 1, false) rest T) => nkind_c r (i + 1) s false rest T W hs hi1 hW)
    generalize kindF s (i + 1, false) = q at *
    obtain ⟨k, q⟩ := q
    clear h hc hc2
    go_enter Tryz.func150, Tryz.ntmps150
    go_wp2_with (go_at_call 92; refine (HP.out _ (by (show Blk _ _ _ _); (repeat' (first | ((with_reducible show (_ : List Value) = _); rfl) | with_reducible exact hb | ((with_reducible refine Blk.newAt _ _ _ ?_); first | with_reducible rfl | (simp; done)) | with_reducible refine Blk.alloc ?_ _ | with_reducible refine Blk.drewN ?_ _ | with_reducible refine Blk.drew ?_ | ((with_reducible refine Blk.other ?_ _ ?_); rotate_left; ((try dsimp only); omega)) | with_reducible refine Blk.setB (cs0 := ?_) ?_ ?_)))).mono ?_; rintro e w' ⟨rfl, n, rfl⟩)
    refine (HK.out _ (by (show Blk _ _ _ _); (repeat' (first | ((with_reducible show (_ : List Value) = _); rfl) | with_reducible exact hb | ((with_reducible refine Blk.newAt _ _ _ ?_); first | with_reducible rfl | (simp; done)) | with_reducible refine Blk.alloc ?_ _ | with_reducible refine Blk.drewN ?_ _ | with_reducible refine Blk.drew ?_ | ((with_reducible refine Blk.other ?_ _ ?_); rotate_left; ((try dsimp only); omega)) | with_reducible refine Blk.setB (cs0 := ?_) ?_ ?_)))).mono ?_
    rintro e w1 ⟨rfl, hNw1, kw1⟩
    have hbw1 : Blk w1 r (.string s :: .int .i64 q.1 :: .bool q.2 :: rest) T := hNw1
    have hrw1 := hbw1.lt
    have hR1 : Blk w1 w.heap.size [.string ⟨#[]⟩, .int .i64 0, .int .i64 0, .int .i64 0, .int .i64 0, .int .i64 0, .int .i64 0, .int .i64 0, .int .i64 0, .int .i64 0, .int .i64 0] 91 := kw1.blk (by (repeat' (first | ((with_reducible show (_ : List Value) = _); rfl) | with_reducible exact hb | ((with_reducible refine Blk.newAt _ _ _ ?_); first | with_reducible rfl | (simp; done)) | with_reducible refine Blk.alloc ?_ _ | with_reducible refine Blk.drewN ?_ _ | with_reducible refine Blk.drew ?_ | ((with_reducible refine Blk.other ?_ _ ?_); rotate_left; ((try dsimp only); omega)) | with_reducible refine Blk.setB (cs0 := ?_) ?_ ?_))) (by omega)
    obtain ⟨z1_0, z1_1, z1_2, z1_3, z1_4, z1_5, z1_6, z1_7, z1_8, z1_9, z1_10, zf1⟩ := hR1.c11
    have hz1 := hR1.lt
    go_wp2
    refine body_agg (Tb := 91) (b := w.heap.size) (cs := [.string ⟨#[]⟩, .int .i64 10, .int .i64 x, .int .i64 0, .int .i64 0, .int .i64 0, .int .i64 0, .int .i64 0, .int .i64 (bit k), .int .i64 0, .int .i64 0]) (.inr rfl) Tryz.results150 rfl rfl (by (repeat' (first | ((with_reducible show (_ : List Value) = _); rfl) | with_reducible exact hR1 | ((with_reducible refine Blk.newAt _ _ _ ?_); first | with_reducible rfl | (simp; done)) | with_reducible refine Blk.alloc ?_ _ | with_reducible refine Blk.drewN ?_ _ | with_reducible refine Blk.drew ?_ | ((with_reducible refine Blk.other ?_ _ ?_); rotate_left; ((try dsimp only); omega)) | with_reducible refine Blk.setB (cs0 := ?_) ?_ ?_))) Tryz.underlying91 rfl (by kernel_rfl) ?_
    rw [HV.out]
    exact ⟨rfl, by (show Blk _ _ _ _); (repeat' (first | ((with_reducible show (_ : List Value) = _); rfl) | with_reducible exact hbw1 | ((with_reducible refine Blk.newAt _ _ _ ?_); first | with_reducible rfl | (simp; done)) | with_reducible refine Blk.alloc ?_ _ | with_reducible refine Blk.drewN ?_ _ | with_reducible refine Blk.drew ?_ | ((with_reducible refine Blk.other ?_ _ ?_); rotate_left; ((try dsimp only); omega)) | with_reducible refine Blk.setB (cs0 := ?_) ?_ ?_)), by (repeat' (first | with_reducible exact Kp.refl _ _ | with_reducible refine Kp.alloc ?_ _ | with_reducible refine Kp.drewN ?_ _ | with_reducible refine Kp.drew ?_ | with_reducible refine Kp.setCell ?_ _ ?_ | with_reducible refine Kp.trans ?_ kw1 (fun _ _ e => e) | (intro hh; first | rfl | exact .inl rfl | exact .inr rfl | (exfalso; (try dsimp only at hh); omega))))⟩
  · have HV := hide (show chgF s (i, bad) x = (nn0, (i, true)) by rw [chgF, if_neg hc, if_neg hc2])
    have f61 : ((pkb s (i, bad) : Int) == 61) = false := by simp; omega
    have f126 : ((pkb s (i, bad) : Int) == 126) = false := by simp; omega
    generalize pkb s (i, bad) = d at *
    clear h hc hc2
    go_enter Tryz.func150, Tryz.ntmps150
    go_wp2_with (go_at_call 92; refine (HP.out _ (by (show Blk _ _ _ _); (repeat' (first | ((with_reducible show (_ : List Value) = _); rfl) | with_reducible exact hb | ((with_reducible refine Blk.newAt _ _ _ ?_); first | with_reducible rfl | (simp; done)) | with_reducible refine Blk.alloc ?_ _ | with_reducible refine Blk.drewN ?_ _ | with_reducible refine Blk.drew ?_ | ((with_reducible refine Blk.other ?_ _ ?_); rotate_left; ((try dsimp only); omega)) | with_reducible refine Blk.setB (cs0 := ?_) ?_ ?_)))).mono ?_; rintro e w' ⟨rfl, n, rfl⟩)
    refine body_agg (Tb := 91) (b := w.heap.size) (cs := [.string ⟨#[]⟩, .int .i64 0, .int .i64 0, .int .i64 0, .int .i64 0, .int .i64 0, .int .i64 0, .int .i64 0, .int .i64 0, .int .i64 0, .int .i64 0]) (.inr rfl) Tryz.results150 rfl rfl (by (repeat' (first | ((with_reducible show (_ : List Value) = _); rfl) | ((with_reducible refine Blk.newAt _ _ _ ?_); first | with_reducible rfl | (simp; done)) | with_reducible refine Blk.alloc ?_ _ | with_reducible refine Blk.drewN ?_ _ | with_reducible refine Blk.drew ?_ | ((with_reducible refine Blk.other ?_ _ ?_); rotate_left; ((try dsimp only); omega)) | with_reducible refine Blk.setB (cs0 := ?_) ?_ ?_))) Tryz.underlying91 rfl (by kernel_rfl) ?_
    rw [HV.out]
    exact ⟨rfl, by (show Blk _ _ _ _); (repeat' (first | ((with_reducible show (_ : List Value) = _); rfl) | with_reducible exact hb | ((with_reducible refine Blk.newAt _ _ _ ?_); first | with_reducible rfl | (simp; done)) | with_reducible refine Blk.alloc ?_ _ | with_reducible refine Blk.drewN ?_ _ | with_reducible refine Blk.drew ?_ | ((with_reducible refine Blk.other ?_ _ ?_); rotate_left; ((try dsimp only); omega)) | with_reducible refine Blk.setB (cs0 := ?_) ?_ ?_)), by (repeat' (first | with_reducible exact Kp.refl _ _ | with_reducible refine Kp.alloc ?_ _ | with_reducible refine Kp.drewN ?_ _ | with_reducible refine Kp.drew ?_ | with_reducible refine Kp.setCell ?_ _ ?_ | (intro hh; first | rfl | exact .inl rfl | exact .inr rfl | (exfalso; (try dsimp only at hh); omega))))⟩

def nacF (s : ByteArray) (p : Nat × Bool) : NN × (Nat × Bool) :=
  if pkb s p = 94 then ({ nn0 with act := 9, y := (varF s (p.1 + 1, false)).1, w := (varF s (p.1 + 1, false)).1 }, (varF s (p.1 + 1, false)).2)
  else if pkb s p = 33 then ({ nn0 with act := 11 }, (p.1 + 1, false))
  else chgF s (varF s p).2 (varF s p).1

set_option maxHeartbeats 1600000 in
theorem naction_c (r i : Nat) (s : ByteArray) (bad : Bool) (rest : List Value) (T : TypeId) (w : World) (hs : s.size ≤ 1000) (hi : i ≤ s.size)
    (h : NR w r s (i, bad) rest T) :
    Calls Tryz.prog 138 #[.pointer (some ⟨r, 0, none⟩)] w fun e w' => e = .returned (.agg (nacF s (i, bad)).1.cells.toArray) ∧ NR w' r s (nacF s (i, bad)).2 rest T ∧ Kp (· = r) w w' := by
  have HP := hide (fun W (hW : NR W r s (i, bad) rest T) => npeek_c r i s bad rest T W hs hi hW)
  have hr := h.lt
  obtain ⟨h0, h1, h2, hf⟩ := h.c
  have hb : Blk w r (.string s :: .int .i64 i :: .bool bad :: rest) T := h
  by_cases hc : pkb s (i, bad) = 94
  · have HV := hide (show nacF s (i, bad) = ({ nn0 with act := 9, y := (varF s (i + 1, false)).1, w := (varF s (i + 1, false)).1 }, (varF s (i + 1, false)).2) by rw [nacF, if_pos hc])
    obtain ⟨rfl, hi1⟩ := pkb_good (by rw [hc]; decide)
    rw [hc] at HP
    have HK := hide (fun W (hW : NR W r s (i + 1, false) rest T) => nvariable_c r (i + 1) s false rest T W hs hi1 hW)
    generalize varF s (i + 1, false) = q at *
    obtain ⟨k, q⟩ := q
    clear h hc
    go_enter Tryz.func138, Tryz.ntmps138
    go_wp2_with (go_at_call 92; refine (HP.out _ (by (show Blk _ _ _ _); (repeat' (first | ((with_reducible show (_ : List Value) = _); rfl) | with_reducible exact hb | ((with_reducible refine Blk.newAt _ _ _ ?_); first | with_reducible rfl | (simp; done)) | with_reducible refine Blk.alloc ?_ _ | with_reducible refine Blk.drewN ?_ _ | with_reducible refine Blk.drew ?_ | ((with_reducible refine Blk.other ?_ _ ?_); rotate_left; ((try dsimp only); omega)) | with_reducible refine Blk.setB (cs0 := ?_) ?_ ?_)))).mono ?_; rintro e w' ⟨rfl, n, rfl⟩)
    refine (HK.out _ (by (show Blk _ _ _ _); (repeat' (first | ((with_reducible show (_ : List Value) = _); rfl) | with_reducible exact hb | ((with_reducible refine Blk.newAt _ _ _ ?_); first | with_reducible rfl | (simp; done)) | with_reducible refine Blk.alloc ?_ _ | with_reducible refine Blk.drewN ?_ _ | with_reducible refine Blk.drew ?_ | ((with_reducible refine Blk.other ?_ _ ?_); rotate_left; ((try dsimp only); omega)) | with_reducible refine Blk.setB (cs0 := ?_) ?_ ?_)))).mono ?_
    rintro e w1 ⟨rfl, hNw1, kw1⟩
    have hbw1 : Blk w1 r (.string s :: .int .i64 q.1 :: .bool q.2 :: rest) T := hNw1
    have hrw1 := hbw1.lt
    have hR1 : Blk w1 w.heap.size [.string ⟨#[]⟩, .int .i64 0, .int .i64 0, .int .i64 0, .int .i64 0, .int .i64 0, .int .i64 0, .int .i64 0, .int .i64 0, .int .i64 0, .int .i64 0] 91 := kw1.blk (by (repeat' (first | ((with_reducible show (_ : List Value) = _); rfl) | with_reducible exact hb | ((with_reducible refine Blk.newAt _ _ _ ?_); first | with_reducible rfl | (simp; done)) | with_reducible refine Blk.alloc ?_ _ | with_reducible refine Blk.drewN ?_ _ | with_reducible refine Blk.drew ?_ | ((with_reducible refine Blk.other ?_ _ ?_); rotate_left; ((try dsimp only); omega)) | with_reducible refine Blk.setB (cs0 := ?_) ?_ ?_))) (by omega)
    obtain ⟨z1_0, z1_1, z1_2, z1_3, z1_4, z1_5, z1_6, z1_7, z1_8, z1_9, z1_10, zf1⟩ := hR1.c11
    have hz1 := hR1.lt
    go_wp2
    refine body_agg (Tb := 91) (b := w.heap.size) (cs := [.string ⟨#[]⟩, .int .i64 9, .int .i64 0, .int .i64 k, .int .i64 k, .int .i64 0, .int .i64 0, .int .i64 0, .int .i64 0, .int .i64 0, .int .i64 0]) (.inr rfl) Tryz.results138 rfl rfl (by (repeat' (first | ((with_reducible show (_ : List Value) = _); rfl) | with_reducible exact hR1 | ((with_reducible refine Blk.newAt _ _ _ ?_); first | with_reducible rfl | (simp; done)) | with_reducible refine Blk.alloc ?_ _ | with_reducible refine Blk.drewN ?_ _ | with_reducible refine Blk.drew ?_ | ((with_reducible refine Blk.other ?_ _ ?_); rotate_left; ((try dsimp only); omega)) | with_reducible refine Blk.setB (cs0 := ?_) ?_ ?_))) Tryz.underlying91 rfl (by kernel_rfl) ?_
    rw [HV.out]
    exact ⟨rfl, by (show Blk _ _ _ _); (repeat' (first | ((with_reducible show (_ : List Value) = _); rfl) | with_reducible exact hbw1 | ((with_reducible refine Blk.newAt _ _ _ ?_); first | with_reducible rfl | (simp; done)) | with_reducible refine Blk.alloc ?_ _ | with_reducible refine Blk.drewN ?_ _ | with_reducible refine Blk.drew ?_ | ((with_reducible refine Blk.other ?_ _ ?_); rotate_left; ((try dsimp only); omega)) | with_reducible refine Blk.setB (cs0 := ?_) ?_ ?_)), by (repeat' (first | with_reducible exact Kp.refl _ _ | with_reducible refine Kp.alloc ?_ _ | with_reducible refine Kp.drewN ?_ _ | with_reducible refine Kp.drew ?_ | with_reducible refine Kp.setCell ?_ _ ?_ | with_reducible refine Kp.trans ?_ kw1 (fun _ _ e => e) | (intro hh; first | rfl | exact .inl rfl | exact .inr rfl | (exfalso; (try dsimp only at hh); omega))))⟩
  by_cases hc2 : pkb s (i, bad) = 33
  · have HV := hide (show nacF s (i, bad) = ({ nn0 with act := 11 }, (i + 1, false)) by rw [nacF, if_neg hc, if_pos hc2])
    obtain ⟨rfl, hi1⟩ := pkb_good (by rw [hc2]; decide)
    rw [hc2] at HP
    clear h hc hc2
    go_enter Tryz.func138, Tryz.ntmps138
    go_wp2_with (go_at_call 92; refine (HP.out _ (by (show Blk _ _ _ _); (repeat' (first | ((with_reducible show (_ : List Value) = _); rfl) | with_reducible exact hb | ((with_reducible refine Blk.newAt _ _ _ ?_); first | with_reducible rfl | (simp; done)) | with_reducible refine Blk.alloc ?_ _ | with_reducible refine Blk.drewN ?_ _ | with_reducible refine Blk.drew ?_ | ((with_reducible refine Blk.other ?_ _ ?_); rotate_left; ((try dsimp only); omega)) | with_reducible refine Blk.setB (cs0 := ?_) ?_ ?_)))).mono ?_; rintro e w' ⟨rfl, n, rfl⟩)
    refine body_agg (Tb := 91) (b := w.heap.size) (cs := [.string ⟨#[]⟩, .int .i64 11, .int .i64 0, .int .i64 0, .int .i64 0, .int .i64 0, .int .i64 0, .int .i64 0, .int .i64 0, .int .i64 0, .int .i64 0]) (.inr rfl) Tryz.results138 rfl rfl (by (repeat' (first | ((with_reducible show (_ : List Value) = _); rfl) | ((with_reducible refine Blk.newAt _ _ _ ?_); first | with_reducible rfl | (simp; done)) | with_reducible refine Blk.alloc ?_ _ | with_reducible refine Blk.drewN ?_ _ | with_reducible refine Blk.drew ?_ | ((with_reducible refine Blk.other ?_ _ ?_); rotate_left; ((try dsimp only); omega)) | with_reducible refine Blk.setB (cs0 := ?_) ?_ ?_))) Tryz.underlying91 rfl (by kernel_rfl) ?_
    rw [HV.out]
    exact ⟨rfl, by (show Blk _ _ _ _); (repeat' (first | ((with_reducible show (_ : List Value) = _); rfl) | with_reducible exact hb | ((with_reducible refine Blk.newAt _ _ _ ?_); first | with_reducible rfl | (simp; done)) | with_reducible refine Blk.alloc ?_ _ | with_reducible refine Blk.drewN ?_ _ | with_reducible refine Blk.drew ?_ | ((with_reducible refine Blk.other ?_ _ ?_); rotate_left; ((try dsimp only); omega)) | with_reducible refine Blk.setB (cs0 := ?_) ?_ ?_)), by (repeat' (first | with_reducible exact Kp.refl _ _ | with_reducible refine Kp.alloc ?_ _ | with_reducible refine Kp.drewN ?_ _ | with_reducible refine Kp.drew ?_ | with_reducible refine Kp.setCell ?_ _ ?_ | (intro hh; first | rfl | exact .inl rfl | exact .inr rfl | (exfalso; (try dsimp only at hh); omega))))⟩
  · have HV := hide (show nacF s (i, bad) = chgF s (varF s (i, bad)).2 (varF s (i, bad)).1 by rw [nacF, if_neg hc, if_neg hc2])
    have f94 : ((pkb s (i, bad) : Int) == 94) = false := by simp; omega
    have f33 : ((pkb s (i, bad) : Int) == 33) = false := by simp; omega
    have HK := hide (fun W (hW : NR W r s (i, bad) rest T) => nvariable_c r i s bad rest T W hs hi hW)
    have hq := varF_le s (i, bad) hi
    generalize pkb s (i, bad) = d at *
    have HK2 := hide (fun W (hW : NR W r s (varF s (i, bad)).2 rest T) => nchange_c r (varF s (i, bad)).2.1 (varF s (i, bad)).1 s (varF s (i, bad)).2.2 rest T W hs hq hW)
    generalize varF s (i, bad) = q at *
    obtain ⟨k, q⟩ := q
    dsimp only at HK2 HV HK
    rw [show (q.1, q.2) = q from rfl] at HK2
    generalize chgF s q k = q2 at *
    obtain ⟨⟨g0, g1, g2, g3, g4, g5, g6, g7, g8, g9, g10⟩, q2⟩ := q2
    clear h hc hc2
    unfold NN.cells at HK2
    dsimp only at HK2
    go_enter Tryz.func138, Tryz.ntmps138
    go_wp2_with (go_at_call 92; refine (HP.out _ (by (show Blk _ _ _ _); (repeat' (first | ((with_reducible show (_ : List Value) = _); rfl) | with_reducible exact hb | ((with_reducible refine Blk.newAt _ _ _ ?_); first | with_reducible rfl | (simp; done)) | with_reducible refine Blk.alloc ?_ _ | with_reducible refine Blk.drewN ?_ _ | with_reducible refine Blk.drew ?_ | ((with_reducible refine Blk.other ?_ _ ?_); rotate_left; ((try dsimp only); omega)) | with_reducible refine Blk.setB (cs0 := ?_) ?_ ?_)))).mono ?_; rintro e w' ⟨rfl, n, rfl⟩)
    refine (HK.out _ (by (show Blk _ _ _ _); (repeat' (first | ((with_reducible show (_ : List Value) = _); rfl) | with_reducible exact hb | ((with_reducible refine Blk.newAt _ _ _ ?_); first | with_reducible rfl | (simp; done)) | with_reducible refine Blk.alloc ?_ _ | with_reducible refine Blk.drewN ?_ _ | with_reducible refine Blk.drew ?_ | ((with_reducible refine Blk.other ?_ _ ?_); rotate_left; ((try dsimp only); omega)) | with_reducible refine Blk.setB (cs0 := ?_) ?_ ?_)))).mono ?_
    rintro e w1 ⟨rfl, hNw1, kw1⟩
    have hbw1 : Blk w1 r (.string s :: .int .i64 q.1 :: .bool q.2 :: rest) T := hNw1
    have hrw1 := hbw1.lt
    have hR1 : Blk w1 w.heap.size [.string ⟨#[]⟩, .int .i64 0, .int .i64 0, .int .i64 0, .int .i64 0, .int .i64 0, .int .i64 0, .int .i64 0, .int .i64 0, .int .i64 0, .int .i64 0] 91 := kw1.blk (by (repeat' (first | ((with_reducible show (_ : List Value) = _); rfl) | with_reducible exact hb | ((with_reducible refine Blk.newAt _ _ _ ?_); first | with_reducible rfl | (simp; done)) | with_reducible refine Blk.alloc ?_ _ | with_reducible refine Blk.drewN ?_ _ | with_reducible refine Blk.drew ?_ | ((with_reducible refine Blk.other ?_ _ ?_); rotate_left; ((try dsimp only); omega)) | with_reducible refine Blk.setB (cs0 := ?_) ?_ ?_))) (by omega)
    obtain ⟨z1_0, z1_1, z1_2, z1_3, z1_4, z1_5, z1_6, z1_7, z1_8, z1_9, z1_10, zf1⟩ := hR1.c11
    have hz1 := hR1.lt
    go_wp2_with fail
    refine (HK2.out _ (by (show Blk _ _ _ _); (repeat' (first | ((with_reducible show (_ : List Value) = _); rfl) | with_reducible exact hbw1 | ((with_reducible refine Blk.newAt _ _ _ ?_); first | with_reducible rfl | (simp; done)) | with_reducible refine Blk.alloc ?_ _ | with_reducible refine Blk.drewN ?_ _ | with_reducible refine Blk.drew ?_ | ((with_reducible refine Blk.other ?_ _ ?_); rotate_left; ((try dsimp only); omega)) | with_reducible refine Blk.setB (cs0 := ?_) ?_ ?_)))).mono ?_
    rintro e w2 ⟨rfl, hNw2, kw2⟩
    have hbw2 : Blk w2 r (.string s :: .int .i64 q2.1 :: .bool q2.2 :: rest) T := hNw2
    have hrw2 := hbw2.lt
    have hR2 : Blk w2 w.heap.size [.string ⟨#[]⟩, .int .i64 0, .int .i64 0, .int .i64 0, .int .i64 0, .int .i64 0, .int .i64 0, .int .i64 0, .int .i64 0, .int .i64 0, .int .i64 0] 91 := kw2.blk (by (repeat' (first | ((with_reducible show (_ : List Value) = _); rfl) | with_reducible exact hR1 | ((with_reducible refine Blk.newAt _ _ _ ?_); first | with_reducible rfl | (simp; done)) | with_reducible refine Blk.alloc ?_ _ | with_reducible refine Blk.drewN ?_ _ | with_reducible refine Blk.drew ?_ | ((with_reducible refine Blk.other ?_ _ ?_); rotate_left; ((try dsimp only); omega)) | with_reducible refine Blk.setB (cs0 := ?_) ?_ ?_))) (by omega)
    obtain ⟨z2_0, z2_1, z2_2, z2_3, z2_4, z2_5, z2_6, z2_7, z2_8, z2_9, z2_10, zf2⟩ := hR2.c11
    have hz2 := hR2.lt
    go_wp2
    refine body_agg (Tb := 91) (b := w.heap.size) (cs := [.string g0, .int .i64 g1, .int .i64 g2, .int .i64 g3, .int .i64 g4, .int .i64 g5, .int .i64 g6, .int .i64 g7, .int .i64 g8, .int .i64 g9, .int .i64 g10]) (.inr rfl) Tryz.results138 rfl rfl (by (repeat' (first | ((with_reducible show (_ : List Value) = _); rfl) | with_reducible exact hR2 | ((with_reducible refine Blk.newAt _ _ _ ?_); first | with_reducible rfl | (simp; done)) | with_reducible refine Blk.alloc ?_ _ | with_reducible refine Blk.drewN ?_ _ | with_reducible refine Blk.drew ?_ | ((with_reducible refine Blk.other ?_ _ ?_); rotate_left; ((try dsimp only); omega)) | with_reducible refine Blk.setB (cs0 := ?_) ?_ ?_))) Tryz.underlying91 rfl (by kernel_rfl) ?_
    rw [HV.out]
    exact ⟨rfl, by (show Blk _ _ _ _); (repeat' (first | ((with_reducible show (_ : List Value) = _); rfl) | with_reducible exact hbw2 | ((with_reducible refine Blk.newAt _ _ _ ?_); first | with_reducible rfl | (simp; done)) | with_reducible refine Blk.alloc ?_ _ | with_reducible refine Blk.drewN ?_ _ | with_reducible refine Blk.drew ?_ | ((with_reducible refine Blk.other ?_ _ ?_); rotate_left; ((try dsimp only); omega)) | with_reducible refine Blk.setB (cs0 := ?_) ?_ ?_)), by (repeat' (first | with_reducible exact Kp.refl _ _ | with_reducible refine Kp.alloc ?_ _ | with_reducible refine Kp.drewN ?_ _ | with_reducible refine Kp.drew ?_ | with_reducible refine Kp.setCell ?_ _ ?_ | with_reducible refine Kp.trans ?_ kw1 (fun _ _ e => e) | with_reducible refine Kp.trans ?_ kw2 (fun _ _ e => e) | (intro hh; first | rfl | exact .inl rfl | exact .inr rfl | (exfalso; (try dsimp only at hh); omega))))⟩

end Go.Proofs.YtellieabhaphhaaGreatDoor

/-
  narrowref's reader: the walk of a line.
-/
namespace Go.Proofs.YtellieabhaphhaaGreatDoor
open Go.RowKit

/-- A block that is not the reader's stays. -/
theorem Th.blk {O O' : Nat → Prop} {w w' : World} (h : Th O w O' w') {b : Nat} {cs : List Value} {T : TypeId} (k : Blk w b cs T) (hb : ¬ O b) : Blk w' b cs T ∧ ¬ O' b :=
  ⟨h.1.blk k hb, fun e => hb (h.2 b e k.lt)⟩

end Go.Proofs.YtellieabhaphhaaGreatDoor

/-
  narrowref's machine: values.
-/
namespace Go.Proofs.YtellieabhaphhaaGreatDoor
open Go.RowKit

def consF (n : Nd) : Vl :=
  if n.op = 48 then ⟨110, n.k - 48, 0⟩ else if n.op = 84 then ⟨116, 0, 0⟩ else if n.op = 70 then ⟨102, 0, 0⟩ else if n.op = 67 then ⟨67, 0, 0⟩ else ⟨122, 0, 0⟩

theorem MB.vu {w : World} {m lb : Nat} {inp : ByteArray} {st : Mc} (h : MB w m lb inp st) {i : Nat} {u : Vl} (hu : st.l[i]? = some u) :
    i < 6 ∧ w.cell? ⟨lb, i * 3, none⟩ = some (.int .u8 u.k) ∧ w.cell? ⟨lb, i * 3 + 1, none⟩ = some (.int .i64 u.n) ∧ w.cell? ⟨lb, i * 3 + 2, none⟩ = some (.int .u8 u.v) := by
  obtain ⟨hi, rfl⟩ := List.getElem?_eq_some_iff.1 hu
  exact ⟨by have := h.six; omega, h.vs i hi⟩

end Go.Proofs.YtellieabhaphhaaGreatDoor

/-
  narrowref's machine: values as they are put out.
-/
namespace Go.Proofs.YtellieabhaphhaaGreatDoor
open Go.RowKit

/-- The library's table of powers is as it was laid. -/
def Tab (w : World) : Prop := Lib.TabIs Tryz.prog w "internal/strconv.uint64pow10" .u64 Lib.pow10Tab

theorem gtab : Tryz.prog.globalNamed "internal/strconv.uint64pow10" = some 0 := by kernel_rfl

theorem Tab.lt {w : World} (h : Tab w) : 0 < w.heap.size := by
  have h' : w.var? Tryz.prog "internal/strconv.uint64pow10" = some _ := h
  simp only [World.var?, gtab, Option.bind_some] at h'
  rcases Nat.lt_or_ge 0 w.heap.size with hl | hg
  · exact hl
  · rw [Array.getElem?_eq_none hg] at h'; simp at h'

theorem Tab.kp {S : Nat → Prop} {w w' : World} (h : Tab w) (k : Kp S w w') (hS : ¬ S 0) : Tab w' := by
  have h' : w.var? Tryz.prog "internal/strconv.uint64pow10" = some _ := h
  have e := k.block 0 h.lt hS
  show w'.var? Tryz.prog "internal/strconv.uint64pow10" = some _
  simp only [World.var?, gtab, Option.bind_some] at h' ⊢
  rw [e]
  exact h'

end Go.Proofs.YtellieabhaphhaaGreatDoor
