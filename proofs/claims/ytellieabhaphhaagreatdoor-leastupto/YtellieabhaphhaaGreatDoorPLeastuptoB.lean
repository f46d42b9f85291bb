import Derived.Test.YtellieabhaphhaaGreatDoorPLeastuptoA
/-
  narrowref's reader: a whole node.
-/
namespace Go.Proofs.YtellieabhaphhaaGreatDoor
open Go.RowKit

def nd0 (i : Nat) : Nd := { op := 0, x := 0, y := 0, v := 0, k := 0, t := 0, f := -1, a := i, l := 0 }

def simpF (s : ByteArray) (i : Nat) : Nd × (Nat × Bool) :=
  if pk s i = 94 then ({ nd0 i with op := 94, y := (varF s (i + 1, false)).1, l := ((varF s (i + 1, false)).2.1 : Int) - i }, (varF s (i + 1, false)).2)
  else if pk s i = 33 then ({ nd0 i with op := 33, l := (i : Int) + 1 - i }, (i + 1, false))
  else if (varF s (i, false)).2.2 = false ∧ pk s (varF s (i, false)).2.1 = 126 then
    ({ nd0 i with op := 126, x := (varF s (i, false)).1, k := (kindF s ((varF s (i, false)).2.1 + 1, false)).1, l := ((kindF s ((varF s (i, false)).2.1 + 1, false)).2.1 : Int) - i }, (kindF s ((varF s (i, false)).2.1 + 1, false)).2)
  else if (eatF s (varF s (i, false)).2 61).2 = true then
    ({ nd0 i with x := (varF s (i, false)).1, l := ((eatF s (varF s (i, false)).2 61).1 : Int) - i }, eatF s (varF s (i, false)).2 61)
  else
    ({ (valF s (eatF s (varF s (i, false)).2 61).1 { nd0 i with x := (varF s (i, false)).1 }).1 with l := ((valF s (eatF s (varF s (i, false)).2 61).1 { nd0 i with x := (varF s (i, false)).1 }).2.1 : Int) - i }, (valF s (eatF s (varF s (i, false)).2 61).1 { nd0 i with x := (varF s (i, false)).1 }).2)

theorem valF_keeps (s : ByteArray) (i : Nat) (n : Nd) : (valF s i n).1.a = n.a ∧ (valF s i n).1.l = n.l ∧ (valF s i n).1.x = n.x ∧ (valF s i n).1.t = n.t ∧ (valF s i n).1.f = n.f := by
  unfold valF; repeat' split
  all_goals exact ⟨rfl, rfl, rfl, rfl, rfl⟩

set_option maxHeartbeats 1600000 in
theorem simple_never (r i : Nat) (s : ByteArray) (nv iv : Value) (lp : Int) (w : World) (hs : s.size ≤ 1000) (hi : i ≤ s.size)
    (h : RB w r s (i, false) nv iv lp) (h1 : pk s i = 33) :
    Calls Tryz.prog 67 #[.pointer (some ⟨r, 0, none⟩)] w fun e w' =>
      e = .returned (.agg (simpF s i).1.cells.toArray) ∧ RB w' r s (simpF s i).2 nv iv lp ∧ Kp (· = r) w w' := by
  have HB := hide h
  have HV := hide (show simpF s i = ({ nd0 i with op := 33, l := (i : Int) + 1 - i }, (i + 1, false)) by simp [simpF, h1])
  have hr := h.lt
  obtain ⟨c0, c1, c2, _, _, _, cf⟩ := h.c6
  clear h
  have hb : Blk w r [.string s, .int .i64 i, .bool false, nv, iv, .int .i64 lp] 45 := HB.out
  generalize hc : pk s i = d at *
  have HC := hide hc
  clear hc
  go_enter Tryz.func67, Tryz.ntmps67
  go_wp2_with (go_at_call 65; refine (peek_c r i s false nv iv lp _ (by (repeat' (first | ((with_reducible show (_ : List Value) = _); rfl) | with_reducible exact hb | ((with_reducible refine Blk.newAt _ _ _ ?_); first | with_reducible rfl | (simp; done)) | with_reducible refine Blk.alloc ?_ _ | with_reducible refine Blk.drewN ?_ _ | with_reducible refine Blk.drew ?_ | ((with_reducible refine Blk.other ?_ _ ?_); rotate_left; ((try dsimp only); omega)) | with_reducible refine Blk.setB (cs0 := ?_) ?_ ?_)))).mono ?_; rw [HC.out]; rintro e w' ⟨rfl, nq, rfl⟩)
  refine wp_gen (fun W => RB W r s (i + 1, false) nv iv lp ∧ Blk W (w.heap.size) [.int .u8 0, .int .i64 0, .int .i64 0, .int .i64 0, .int .u8 0, .int .i64 0, .int .i64 0, .int .i64 0, .int .i64 0] 63 ∧ Blk W (w.heap.size + 1) [.int .u8 33, .int .i64 0, .int .i64 0, .int .i64 0, .int .u8 0, .int .i64 0, .int .i64 (-1), .int .i64 i, .int .i64 0] 63 ∧ Kp (· = r) w W) ⟨by (show Blk _ _ _ _); (repeat' (first | ((with_reducible show (_ : List Value) = _); rfl) | with_reducible exact hb | ((with_reducible refine Blk.newAt _ _ _ ?_); first | with_reducible rfl | (simp; done)) | with_reducible refine Blk.alloc ?_ _ | with_reducible refine Blk.drewN ?_ _ | with_reducible refine Blk.drew ?_ | ((with_reducible refine Blk.other ?_ _ ?_); rotate_left; ((try dsimp only); omega)) | with_reducible refine Blk.setB (cs0 := ?_) ?_ ?_)), by (repeat' (first | ((with_reducible show (_ : List Value) = _); rfl) | with_reducible exact hb | ((with_reducible refine Blk.newAt _ _ _ ?_); first | with_reducible rfl | (simp; done)) | with_reducible refine Blk.alloc ?_ _ | with_reducible refine Blk.drewN ?_ _ | with_reducible refine Blk.drew ?_ | ((with_reducible refine Blk.other ?_ _ ?_); rotate_left; ((try dsimp only); omega)) | with_reducible refine Blk.setB (cs0 := ?_) ?_ ?_)), by (repeat' (first | ((with_reducible show (_ : List Value) = _); rfl) | with_reducible exact hb | ((with_reducible refine Blk.newAt _ _ _ ?_); first | with_reducible rfl | (simp; done)) | with_reducible refine Blk.alloc ?_ _ | with_reducible refine Blk.drewN ?_ _ | with_reducible refine Blk.drew ?_ | ((with_reducible refine Blk.other ?_ _ ?_); rotate_left; ((try dsimp only); omega)) | with_reducible refine Blk.setB (cs0 := ?_) ?_ ?_)), by (repeat' (first | with_reducible exact Kp.refl _ _ | with_reducible refine Kp.alloc ?_ _ | with_reducible refine Kp.drewN ?_ _ | with_reducible refine Kp.drew ?_ | with_reducible refine Kp.setCell ?_ _ ?_ | (intro hh; first | rfl | exact .inl rfl | exact .inr rfl | (exfalso; (try dsimp only at hh); omega))))⟩ ?_
  rintro W ⟨hB, hR, hL, hk⟩
  obtain ⟨x0, x1, x2, x3, x4, x5, x6, x7, x8, xf⟩ := hL.c9
  obtain ⟨z0, z1, z2, z3, z4, z5, z6, z7, z8, zf⟩ := hR.c9
  obtain ⟨q0, q1, q2, _, _, _, qf⟩ := hB.c6
  go_region
  go_wp2
  refine body_agg (Tb := 63) (b := w.heap.size) (cs := [.int .u8 33, .int .i64 0, .int .i64 0, .int .i64 0, .int .u8 0, .int .i64 0, .int .i64 (-1), .int .i64 i, .int .i64 ((i : Int) + 1 - i)]) (.inr rfl) Tryz.results67 rfl rfl (by (repeat' (first | ((with_reducible show (_ : List Value) = _); rfl) | with_reducible exact hR | ((with_reducible refine Blk.newAt _ _ _ ?_); first | with_reducible rfl | (simp; done)) | with_reducible refine Blk.alloc ?_ _ | with_reducible refine Blk.drewN ?_ _ | with_reducible refine Blk.drew ?_ | ((with_reducible refine Blk.other ?_ _ ?_); rotate_left; ((try dsimp only); omega)) | with_reducible refine Blk.setB (cs0 := ?_) ?_ ?_))) Tryz.underlying63 rfl (by kernel_rfl) ?_
  rw [HV.out]
  refine ⟨rfl, ?_, ?_⟩
  · have hb1 : Blk W r [.string s, .int .i64 ((i + 1, false)).1, .bool ((i + 1, false)).2, nv, iv, .int .i64 lp] 45 := hB
    show Blk _ _ _ _
    (repeat' (first | ((with_reducible show (_ : List Value) = _); rfl) | with_reducible exact hb1 | ((with_reducible refine Blk.newAt _ _ _ ?_); first | with_reducible rfl | (simp; done)) | with_reducible refine Blk.alloc ?_ _ | with_reducible refine Blk.drewN ?_ _ | with_reducible refine Blk.drew ?_ | ((with_reducible refine Blk.other ?_ _ ?_); rotate_left; ((try dsimp only); omega)) | with_reducible refine Blk.setB (cs0 := ?_) ?_ ?_))
  · (repeat' (first | with_reducible exact Kp.refl _ _ | with_reducible refine Kp.alloc ?_ _ | with_reducible refine Kp.drewN ?_ _ | with_reducible refine Kp.drew ?_ | with_reducible refine Kp.setCell ?_ _ ?_ | with_reducible refine Kp.trans ?_ hk (fun _ _ e => e) | (intro hh; first | rfl | exact .inl rfl | exact .inr rfl | (exfalso; (try dsimp only at hh); omega))))

set_option maxHeartbeats 1600000 in
theorem simple_put (r i : Nat) (s : ByteArray) (nv iv : Value) (lp : Int) (w : World) (hs : s.size ≤ 1000) (_ : i ≤ s.size)
    (h : RB w r s (i, false) nv iv lp) (h1 : pk s i = 94) :
    Calls Tryz.prog 67 #[.pointer (some ⟨r, 0, none⟩)] w fun e w' =>
      e = .returned (.agg (simpF s i).1.cells.toArray) ∧ RB w' r s (simpF s i).2 nv iv lp ∧ Kp (· = r) w w' := by
  have HB := hide h
  have HV := hide (show simpF s i = ({ nd0 i with op := 94, y := (varF s (i + 1, false)).1, l := ((varF s (i + 1, false)).2.1 : Int) - i }, (varF s (i + 1, false)).2) by simp [simpF, h1])
  have hr := h.lt
  have hi1 : i + 1 ≤ s.size := pk_in s i (by omega)
  have hv := varF_le s (i + 1, false) hi1
  obtain ⟨c0, c1, c2, _, _, _, cf⟩ := h.c6
  clear h
  have hb : Blk w r [.string s, .int .i64 i, .bool false, nv, iv, .int .i64 lp] 45 := HB.out
  generalize hc : pk s i = d at *
  have HC := hide hc
  clear hc
  go_enter Tryz.func67, Tryz.ntmps67
  go_wp2_with (go_at_call 65; refine (peek_c r i s false nv iv lp _ (by (repeat' (first | ((with_reducible show (_ : List Value) = _); rfl) | with_reducible exact hb | ((with_reducible refine Blk.newAt _ _ _ ?_); first | with_reducible rfl | (simp; done)) | with_reducible refine Blk.alloc ?_ _ | with_reducible refine Blk.drewN ?_ _ | with_reducible refine Blk.drew ?_ | ((with_reducible refine Blk.other ?_ _ ?_); rotate_left; ((try dsimp only); omega)) | with_reducible refine Blk.setB (cs0 := ?_) ?_ ?_)))).mono ?_; rw [HC.out]; rintro e w' ⟨rfl, nq, rfl⟩)
  refine (variable_c r (i + 1) s false nv iv lp _ hs hi1 ?_).mono ?_
  · show Blk _ _ _ _
    (repeat' (first | ((with_reducible show (_ : List Value) = _); rfl) | with_reducible exact hb | ((with_reducible refine Blk.newAt _ _ _ ?_); first | with_reducible rfl | (simp; done)) | with_reducible refine Blk.alloc ?_ _ | with_reducible refine Blk.drewN ?_ _ | with_reducible refine Blk.drew ?_ | ((with_reducible refine Blk.other ?_ _ ?_); rotate_left; ((try dsimp only); omega)) | with_reducible refine Blk.setB (cs0 := ?_) ?_ ?_))
  rintro e w1 ⟨rfl, hB1, hk1⟩
  have hL1 : Blk w1 (w.heap.size + 1) [.int .u8 94, .int .i64 0, .int .i64 0, .int .i64 0, .int .u8 0, .int .i64 0, .int .i64 (-1), .int .i64 i, .int .i64 0] 63 := hk1.blk (by (repeat' (first | ((with_reducible show (_ : List Value) = _); rfl) | with_reducible exact hb | ((with_reducible refine Blk.newAt _ _ _ ?_); first | with_reducible rfl | (simp; done)) | with_reducible refine Blk.alloc ?_ _ | with_reducible refine Blk.drewN ?_ _ | with_reducible refine Blk.drew ?_ | ((with_reducible refine Blk.other ?_ _ ?_); rotate_left; ((try dsimp only); omega)) | with_reducible refine Blk.setB (cs0 := ?_) ?_ ?_))) (by omega)
  have hR1 : Blk w1 (w.heap.size) [.int .u8 0, .int .i64 0, .int .i64 0, .int .i64 0, .int .u8 0, .int .i64 0, .int .i64 0, .int .i64 0, .int .i64 0] 63 := hk1.blk (by (repeat' (first | ((with_reducible show (_ : List Value) = _); rfl) | with_reducible exact hb | ((with_reducible refine Blk.newAt _ _ _ ?_); first | with_reducible rfl | (simp; done)) | with_reducible refine Blk.alloc ?_ _ | with_reducible refine Blk.drewN ?_ _ | with_reducible refine Blk.drew ?_ | ((with_reducible refine Blk.other ?_ _ ?_); rotate_left; ((try dsimp only); omega)) | with_reducible refine Blk.setB (cs0 := ?_) ?_ ?_))) (by omega)
  have hz1 : w.heap.size + 2 ≤ w1.heap.size := by have := hk1.size; (try simp at this); omega
  obtain ⟨l10, l11, l12, l13, l14, l15, l16, l17, l18, l1f⟩ := hL1.c9
  generalize hy : varF s (i + 1, false) = y at *
  obtain ⟨y, yi, yb⟩ := y
  dsimp only at hv
  have hb1 : Blk w1 r [.string s, .int .i64 yi, .bool yb, nv, iv, .int .i64 lp] 45 := hB1
  go_wp2
  refine wp_gen (fun W => RB W r s (yi, yb) nv iv lp ∧ Blk W (w.heap.size) [.int .u8 0, .int .i64 0, .int .i64 0, .int .i64 0, .int .u8 0, .int .i64 0, .int .i64 0, .int .i64 0, .int .i64 0] 63 ∧ Blk W (w.heap.size + 1) [.int .u8 94, .int .i64 0, .int .i64 y, .int .i64 0, .int .u8 0, .int .i64 0, .int .i64 (-1), .int .i64 i, .int .i64 0] 63 ∧ Kp (· = r) w W) ⟨by (show Blk _ _ _ _); (repeat' (first | ((with_reducible show (_ : List Value) = _); rfl) | with_reducible exact hb1 | ((with_reducible refine Blk.newAt _ _ _ ?_); first | with_reducible rfl | (simp; done)) | with_reducible refine Blk.alloc ?_ _ | with_reducible refine Blk.drewN ?_ _ | with_reducible refine Blk.drew ?_ | ((with_reducible refine Blk.other ?_ _ ?_); rotate_left; ((try dsimp only); omega)) | with_reducible refine Blk.setB (cs0 := ?_) ?_ ?_)), by (repeat' (first | ((with_reducible show (_ : List Value) = _); rfl) | with_reducible exact hR1 | ((with_reducible refine Blk.newAt _ _ _ ?_); first | with_reducible rfl | (simp; done)) | with_reducible refine Blk.alloc ?_ _ | with_reducible refine Blk.drewN ?_ _ | with_reducible refine Blk.drew ?_ | ((with_reducible refine Blk.other ?_ _ ?_); rotate_left; ((try dsimp only); omega)) | with_reducible refine Blk.setB (cs0 := ?_) ?_ ?_)), by (repeat' (first | ((with_reducible show (_ : List Value) = _); rfl) | with_reducible exact hL1 | ((with_reducible refine Blk.newAt _ _ _ ?_); first | with_reducible rfl | (simp; done)) | with_reducible refine Blk.alloc ?_ _ | with_reducible refine Blk.drewN ?_ _ | with_reducible refine Blk.drew ?_ | ((with_reducible refine Blk.other ?_ _ ?_); rotate_left; ((try dsimp only); omega)) | with_reducible refine Blk.setB (cs0 := ?_) ?_ ?_)), by (repeat' (first | with_reducible exact Kp.refl _ _ | with_reducible refine Kp.alloc ?_ _ | with_reducible refine Kp.drewN ?_ _ | with_reducible refine Kp.drew ?_ | with_reducible refine Kp.setCell ?_ _ ?_ | with_reducible refine Kp.trans ?_ hk1 (fun _ _ e => e) | (intro hh; first | rfl | exact .inl rfl | exact .inr rfl | (exfalso; (try dsimp only at hh); omega))))⟩ ?_
  rintro W ⟨hB, hR, hL, hk⟩
  obtain ⟨x0, x1, x2, x3, x4, x5, x6, x7, x8, xf⟩ := hL.c9
  obtain ⟨z0, z1, z2, z3, z4, z5, z6, z7, z8, zf⟩ := hR.c9
  obtain ⟨q0, q1, q2, _, _, _, qf⟩ := hB.c6
  go_region
  go_wp2
  refine body_agg (Tb := 63) (b := w.heap.size) (cs := [.int .u8 94, .int .i64 0, .int .i64 y, .int .i64 0, .int .u8 0, .int .i64 0, .int .i64 (-1), .int .i64 i, .int .i64 ((yi : Int) - i)]) (.inr rfl) Tryz.results67 rfl rfl (by (repeat' (first | ((with_reducible show (_ : List Value) = _); rfl) | with_reducible exact hR | ((with_reducible refine Blk.newAt _ _ _ ?_); first | with_reducible rfl | (simp; done)) | with_reducible refine Blk.alloc ?_ _ | with_reducible refine Blk.drewN ?_ _ | with_reducible refine Blk.drew ?_ | ((with_reducible refine Blk.other ?_ _ ?_); rotate_left; ((try dsimp only); omega)) | with_reducible refine Blk.setB (cs0 := ?_) ?_ ?_))) Tryz.underlying63 rfl (by kernel_rfl) ?_
  rw [HV.out]
  refine ⟨rfl, ?_, ?_⟩
  · have hb1 : Blk W r [.string s, .int .i64 ((yi, yb)).1, .bool ((yi, yb)).2, nv, iv, .int .i64 lp] 45 := hB
    show Blk _ _ _ _
    (repeat' (first | ((with_reducible show (_ : List Value) = _); rfl) | with_reducible exact hb1 | ((with_reducible refine Blk.newAt _ _ _ ?_); first | with_reducible rfl | (simp; done)) | with_reducible refine Blk.alloc ?_ _ | with_reducible refine Blk.drewN ?_ _ | with_reducible refine Blk.drew ?_ | ((with_reducible refine Blk.other ?_ _ ?_); rotate_left; ((try dsimp only); omega)) | with_reducible refine Blk.setB (cs0 := ?_) ?_ ?_))
  · (repeat' (first | with_reducible exact Kp.refl _ _ | with_reducible refine Kp.alloc ?_ _ | with_reducible refine Kp.drewN ?_ _ | with_reducible refine Kp.drew ?_ | with_reducible refine Kp.setCell ?_ _ ?_ | with_reducible refine Kp.trans ?_ hk (fun _ _ e => e) | (intro hh; first | rfl | exact .inl rfl | exact .inr rfl | (exfalso; (try dsimp only at hh); omega))))

set_option maxHeartbeats 1600000 in
theorem simple_cast (r i : Nat) (s : ByteArray) (nv iv : Value) (lp : Int) (w : World) (hs : s.size ≤ 1000) (hi : i ≤ s.size)
    (h : RB w r s (i, false) nv iv lp) (h1 : pk s i ≠ 94) (h2 : pk s i ≠ 33) (h3 : (varF s (i, false)).2.2 = false) (h4 : pk s (varF s (i, false)).2.1 = 126) :
    Calls Tryz.prog 67 #[.pointer (some ⟨r, 0, none⟩)] w fun e w' =>
      e = .returned (.agg (simpF s i).1.cells.toArray) ∧ RB w' r s (simpF s i).2 nv iv lp ∧ Kp (· = r) w w' := by
  have HB := hide h
  have HV := hide (show simpF s i = ({ nd0 i with op := 126, x := (varF s (i, false)).1, k := (kindF s ((varF s (i, false)).2.1 + 1, false)).1, l := ((kindF s ((varF s (i, false)).2.1 + 1, false)).2.1 : Int) - i }, (kindF s ((varF s (i, false)).2.1 + 1, false)).2) by simp [simpF, h1, h2, h3, h4])
  have hr := h.lt
  have hi1 : (varF s (i, false)).2.1 + 1 ≤ s.size := pk_in s (varF s (i, false)).2.1 (by omega)
  have hv := kindF_le s ((varF s (i, false)).2.1 + 1, false) hi1
  obtain ⟨c0, c1, c2, _, _, _, cf⟩ := h.c6
  clear h
  have hb : Blk w r [.string s, .int .i64 i, .bool false, nv, iv, .int .i64 lp] 45 := HB.out
  generalize hc : pk s i = d at *
  have HC := hide hc
  clear hc
  go_enter Tryz.func67, Tryz.ntmps67
  go_wp2_with (go_at_call 65; refine (peek_c r i s false nv iv lp _ (by (repeat' (first | ((with_reducible show (_ : List Value) = _); rfl) | with_reducible exact hb | ((with_reducible refine Blk.newAt _ _ _ ?_); first | with_reducible rfl | (simp; done)) | with_reducible refine Blk.alloc ?_ _ | with_reducible refine Blk.drewN ?_ _ | with_reducible refine Blk.drew ?_ | ((with_reducible refine Blk.other ?_ _ ?_); rotate_left; ((try dsimp only); omega)) | with_reducible refine Blk.setB (cs0 := ?_) ?_ ?_)))).mono ?_; rw [HC.out]; rintro e w' ⟨rfl, nq, rfl⟩)
  refine (variable_c r i s false nv iv lp _ hs hi ?_).mono ?_
  · show Blk _ _ _ _
    (repeat' (first | ((with_reducible show (_ : List Value) = _); rfl) | with_reducible exact hb | ((with_reducible refine Blk.newAt _ _ _ ?_); first | with_reducible rfl | (simp; done)) | with_reducible refine Blk.alloc ?_ _ | with_reducible refine Blk.drewN ?_ _ | with_reducible refine Blk.drew ?_ | ((with_reducible refine Blk.other ?_ _ ?_); rotate_left; ((try dsimp only); omega)) | with_reducible refine Blk.setB (cs0 := ?_) ?_ ?_))
  rintro e w1 ⟨rfl, hB1, hk1⟩
  have hL1 : Blk w1 (w.heap.size + 1) [.int .u8 0, .int .i64 0, .int .i64 0, .int .i64 0, .int .u8 0, .int .i64 0, .int .i64 (-1), .int .i64 i, .int .i64 0] 63 := hk1.blk (by (repeat' (first | ((with_reducible show (_ : List Value) = _); rfl) | with_reducible exact hb | ((with_reducible refine Blk.newAt _ _ _ ?_); first | with_reducible rfl | (simp; done)) | with_reducible refine Blk.alloc ?_ _ | with_reducible refine Blk.drewN ?_ _ | with_reducible refine Blk.drew ?_ | ((with_reducible refine Blk.other ?_ _ ?_); rotate_left; ((try dsimp only); omega)) | with_reducible refine Blk.setB (cs0 := ?_) ?_ ?_))) (by omega)
  have hR1 : Blk w1 (w.heap.size) [.int .u8 0, .int .i64 0, .int .i64 0, .int .i64 0, .int .u8 0, .int .i64 0, .int .i64 0, .int .i64 0, .int .i64 0] 63 := hk1.blk (by (repeat' (first | ((with_reducible show (_ : List Value) = _); rfl) | with_reducible exact hb | ((with_reducible refine Blk.newAt _ _ _ ?_); first | with_reducible rfl | (simp; done)) | with_reducible refine Blk.alloc ?_ _ | with_reducible refine Blk.drewN ?_ _ | with_reducible refine Blk.drew ?_ | ((with_reducible refine Blk.other ?_ _ ?_); rotate_left; ((try dsimp only); omega)) | with_reducible refine Blk.setB (cs0 := ?_) ?_ ?_))) (by omega)
  have hz1 : w.heap.size + 2 ≤ w1.heap.size := by have := hk1.size; (try simp at this); omega
  obtain ⟨l10, l11, l12, l13, l14, l15, l16, l17, l18, l1f⟩ := hL1.c9
  generalize hy : varF s (i, false) = y at *
  obtain ⟨y, yi, yb⟩ := y
  dsimp only at *
  have hb1 : Blk w1 r [.string s, .int .i64 yi, .bool yb, nv, iv, .int .i64 lp] 45 := hB1
  obtain ⟨p10, p11, p12, _, _, _, p1f⟩ := hB1.c6
  go_wp2_with fail
  refine (peek_c r yi s yb nv iv lp _ (by (repeat' (first | ((with_reducible show (_ : List Value) = _); rfl) | with_reducible exact hb1 | ((with_reducible refine Blk.newAt _ _ _ ?_); first | with_reducible rfl | (simp; done)) | with_reducible refine Blk.alloc ?_ _ | with_reducible refine Blk.drewN ?_ _ | with_reducible refine Blk.drew ?_ | ((with_reducible refine Blk.other ?_ _ ?_); rotate_left; ((try dsimp only); omega)) | with_reducible refine Blk.setB (cs0 := ?_) ?_ ?_)))).mono ?_
  subst h3
  rw [h4]
  rintro e w2 ⟨rfl, nq2, rfl⟩
  go_wp2_with fail
  refine (kind_c r (yi + 1) s false nv iv lp _ hs hi1 ?_).mono ?_
  · show Blk _ _ _ _
    (repeat' (first | ((with_reducible show (_ : List Value) = _); rfl) | with_reducible exact hb1 | ((with_reducible refine Blk.newAt _ _ _ ?_); first | with_reducible rfl | (simp; done)) | with_reducible refine Blk.alloc ?_ _ | with_reducible refine Blk.drewN ?_ _ | with_reducible refine Blk.drew ?_ | ((with_reducible refine Blk.other ?_ _ ?_); rotate_left; ((try dsimp only); omega)) | with_reducible refine Blk.setB (cs0 := ?_) ?_ ?_))
  rintro e w2 ⟨rfl, hB2, hk2⟩
  have hL2 : Blk w2 (w.heap.size + 1) [.int .u8 126, .int .i64 y, .int .i64 0, .int .i64 0, .int .u8 0, .int .i64 0, .int .i64 (-1), .int .i64 i, .int .i64 0] 63 := hk2.blk (by (repeat' (first | ((with_reducible show (_ : List Value) = _); rfl) | with_reducible exact hL1 | ((with_reducible refine Blk.newAt _ _ _ ?_); first | with_reducible rfl | (simp; done)) | with_reducible refine Blk.alloc ?_ _ | with_reducible refine Blk.drewN ?_ _ | with_reducible refine Blk.drew ?_ | ((with_reducible refine Blk.other ?_ _ ?_); rotate_left; ((try dsimp only); omega)) | with_reducible refine Blk.setB (cs0 := ?_) ?_ ?_))) (by omega)
  have hR2 : Blk w2 (w.heap.size) [.int .u8 0, .int .i64 0, .int .i64 0, .int .i64 0, .int .u8 0, .int .i64 0, .int .i64 0, .int .i64 0, .int .i64 0] 63 := hk2.blk (by (repeat' (first | ((with_reducible show (_ : List Value) = _); rfl) | with_reducible exact hR1 | ((with_reducible refine Blk.newAt _ _ _ ?_); first | with_reducible rfl | (simp; done)) | with_reducible refine Blk.alloc ?_ _ | with_reducible refine Blk.drewN ?_ _ | with_reducible refine Blk.drew ?_ | ((with_reducible refine Blk.other ?_ _ ?_); rotate_left; ((try dsimp only); omega)) | with_reducible refine Blk.setB (cs0 := ?_) ?_ ?_))) (by omega)
  have hz2 : w.heap.size + 2 ≤ w2.heap.size := by have := hk2.size; (try simp at this); omega
  obtain ⟨l20, l21, l22, l23, l24, l25, l26, l27, l28, l2f⟩ := hL2.c9
  generalize hk : kindF s (yi + 1, false) = z at *
  obtain ⟨k, zi, zb⟩ := z
  dsimp only at hv
  have hb2 : Blk w2 r [.string s, .int .i64 zi, .bool zb, nv, iv, .int .i64 lp] 45 := hB2
  go_wp2
  refine wp_gen (fun W => RB W r s (zi, zb) nv iv lp ∧ Blk W (w.heap.size) [.int .u8 0, .int .i64 0, .int .i64 0, .int .i64 0, .int .u8 0, .int .i64 0, .int .i64 0, .int .i64 0, .int .i64 0] 63 ∧ Blk W (w.heap.size + 1) [.int .u8 126, .int .i64 y, .int .i64 0, .int .i64 0, .int .u8 k, .int .i64 0, .int .i64 (-1), .int .i64 i, .int .i64 0] 63 ∧ Kp (· = r) w W) ⟨by (show Blk _ _ _ _); (repeat' (first | ((with_reducible show (_ : List Value) = _); rfl) | with_reducible exact hb2 | ((with_reducible refine Blk.newAt _ _ _ ?_); first | with_reducible rfl | (simp; done)) | with_reducible refine Blk.alloc ?_ _ | with_reducible refine Blk.drewN ?_ _ | with_reducible refine Blk.drew ?_ | ((with_reducible refine Blk.other ?_ _ ?_); rotate_left; ((try dsimp only); omega)) | with_reducible refine Blk.setB (cs0 := ?_) ?_ ?_)), by (repeat' (first | ((with_reducible show (_ : List Value) = _); rfl) | with_reducible exact hR2 | ((with_reducible refine Blk.newAt _ _ _ ?_); first | with_reducible rfl | (simp; done)) | with_reducible refine Blk.alloc ?_ _ | with_reducible refine Blk.drewN ?_ _ | with_reducible refine Blk.drew ?_ | ((with_reducible refine Blk.other ?_ _ ?_); rotate_left; ((try dsimp only); omega)) | with_reducible refine Blk.setB (cs0 := ?_) ?_ ?_)), by (repeat' (first | ((with_reducible show (_ : List Value) = _); rfl) | with_reducible exact hL2 | ((with_reducible refine Blk.newAt _ _ _ ?_); first | with_reducible rfl | (simp; done)) | with_reducible refine Blk.alloc ?_ _ | with_reducible refine Blk.drewN ?_ _ | with_reducible refine Blk.drew ?_ | ((with_reducible refine Blk.other ?_ _ ?_); rotate_left; ((try dsimp only); omega)) | with_reducible refine Blk.setB (cs0 := ?_) ?_ ?_)), by (repeat' (first | with_reducible exact Kp.refl _ _ | with_reducible refine Kp.alloc ?_ _ | with_reducible refine Kp.drewN ?_ _ | with_reducible refine Kp.drew ?_ | with_reducible refine Kp.setCell ?_ _ ?_ | with_reducible refine Kp.trans ?_ hk1 (fun _ _ e => e) | with_reducible refine Kp.trans ?_ hk2 (fun _ _ e => e) | (intro hh; first | rfl | exact .inl rfl | exact .inr rfl | (exfalso; (try dsimp only at hh); omega))))⟩ ?_
  rintro W ⟨hB, hR, hL, hk⟩
  obtain ⟨x0, x1, x2, x3, x4, x5, x6, x7, x8, xf⟩ := hL.c9
  obtain ⟨z0, z1, z2, z3, z4, z5, z6, z7, z8, zf⟩ := hR.c9
  obtain ⟨q0, q1, q2, _, _, _, qf⟩ := hB.c6
  go_region
  go_wp2
  refine body_agg (Tb := 63) (b := w.heap.size) (cs := [.int .u8 126, .int .i64 y, .int .i64 0, .int .i64 0, .int .u8 k, .int .i64 0, .int .i64 (-1), .int .i64 i, .int .i64 ((zi : Int) - i)]) (.inr rfl) Tryz.results67 rfl rfl (by (repeat' (first | ((with_reducible show (_ : List Value) = _); rfl) | with_reducible exact hR | ((with_reducible refine Blk.newAt _ _ _ ?_); first | with_reducible rfl | (simp; done)) | with_reducible refine Blk.alloc ?_ _ | with_reducible refine Blk.drewN ?_ _ | with_reducible refine Blk.drew ?_ | ((with_reducible refine Blk.other ?_ _ ?_); rotate_left; ((try dsimp only); omega)) | with_reducible refine Blk.setB (cs0 := ?_) ?_ ?_))) Tryz.underlying63 rfl (by kernel_rfl) ?_
  rw [HV.out]
  refine ⟨rfl, ?_, ?_⟩
  · have hb1 : Blk W r [.string s, .int .i64 ((zi, zb)).1, .bool ((zi, zb)).2, nv, iv, .int .i64 lp] 45 := hB
    show Blk _ _ _ _
    (repeat' (first | ((with_reducible show (_ : List Value) = _); rfl) | with_reducible exact hb1 | ((with_reducible refine Blk.newAt _ _ _ ?_); first | with_reducible rfl | (simp; done)) | with_reducible refine Blk.alloc ?_ _ | with_reducible refine Blk.drewN ?_ _ | with_reducible refine Blk.drew ?_ | ((with_reducible refine Blk.other ?_ _ ?_); rotate_left; ((try dsimp only); omega)) | with_reducible refine Blk.setB (cs0 := ?_) ?_ ?_))
  · (repeat' (first | with_reducible exact Kp.refl _ _ | with_reducible refine Kp.alloc ?_ _ | with_reducible refine Kp.drewN ?_ _ | with_reducible refine Kp.drew ?_ | with_reducible refine Kp.setCell ?_ _ ?_ | with_reducible refine Kp.trans ?_ hk (fun _ _ e => e) | (intro hh; first | rfl | exact .inl rfl | exact .inr rfl | (exfalso; (try dsimp only at hh); omega))))

set_option maxHeartbeats 1600000 in
theorem simple_eq (r i : Nat) (s : ByteArray) (nv iv : Value) (lp : Int) (w : World) (hs : s.size ≤ 1000) (hi : i ≤ s.size)
    (h : RB w r s (i, false) nv iv lp) (h1 : pk s i ≠ 94) (h2 : pk s i ≠ 33) (h3 : ¬ ((varF s (i, false)).2.2 = false ∧ pk s (varF s (i, false)).2.1 = 126)) (h4 : (eatF s (varF s (i, false)).2 61).2 = true) :
    Calls Tryz.prog 67 #[.pointer (some ⟨r, 0, none⟩)] w fun e w' =>
      e = .returned (.agg (simpF s i).1.cells.toArray) ∧ RB w' r s (simpF s i).2 nv iv lp ∧ Kp (· = r) w w' := by
  have HB := hide h
  have HV := hide (show simpF s i = ({ nd0 i with x := (varF s (i, false)).1, l := ((eatF s (varF s (i, false)).2 61).1 : Int) - i }, (eatF s (varF s (i, false)).2 61)) by simp [simpF, h1, h2, h3, h4])
  have hr := h.lt
  have hv := varF_le s (i, false) hi
  have he := eatF_le s (varF s (i, false)).2 61 (by decide) hv
  obtain ⟨c0, c1, c2, _, _, _, cf⟩ := h.c6
  clear h
  have hb : Blk w r [.string s, .int .i64 i, .bool false, nv, iv, .int .i64 lp] 45 := HB.out
  generalize hc : pk s i = d at *
  have HC := hide hc
  clear hc
  go_enter Tryz.func67, Tryz.ntmps67
  go_wp2_with (go_at_call 65; refine (peek_c r i s false nv iv lp _ (by (repeat' (first | ((with_reducible show (_ : List Value) = _); rfl) | with_reducible exact hb | ((with_reducible refine Blk.newAt _ _ _ ?_); first | with_reducible rfl | (simp; done)) | with_reducible refine Blk.alloc ?_ _ | with_reducible refine Blk.drewN ?_ _ | with_reducible refine Blk.drew ?_ | ((with_reducible refine Blk.other ?_ _ ?_); rotate_left; ((try dsimp only); omega)) | with_reducible refine Blk.setB (cs0 := ?_) ?_ ?_)))).mono ?_; rw [HC.out]; rintro e w' ⟨rfl, nq, rfl⟩)
  refine (variable_c r i s false nv iv lp _ hs hi ?_).mono ?_
  · show Blk _ _ _ _
    (repeat' (first | ((with_reducible show (_ : List Value) = _); rfl) | with_reducible exact hb | ((with_reducible refine Blk.newAt _ _ _ ?_); first | with_reducible rfl | (simp; done)) | with_reducible refine Blk.alloc ?_ _ | with_reducible refine Blk.drewN ?_ _ | with_reducible refine Blk.drew ?_ | ((with_reducible refine Blk.other ?_ _ ?_); rotate_left; ((try dsimp only); omega)) | with_reducible refine Blk.setB (cs0 := ?_) ?_ ?_))
  rintro e w1 ⟨rfl, hB1, hk1⟩
  have hL1 : Blk w1 (w.heap.size + 1) [.int .u8 0, .int .i64 0, .int .i64 0, .int .i64 0, .int .u8 0, .int .i64 0, .int .i64 (-1), .int .i64 i, .int .i64 0] 63 := hk1.blk (by (repeat' (first | ((with_reducible show (_ : List Value) = _); rfl) | with_reducible exact hb | ((with_reducible refine Blk.newAt _ _ _ ?_); first | with_reducible rfl | (simp; done)) | with_reducible refine Blk.alloc ?_ _ | with_reducible refine Blk.drewN ?_ _ | with_reducible refine Blk.drew ?_ | ((with_reducible refine Blk.other ?_ _ ?_); rotate_left; ((try dsimp only); omega)) | with_reducible refine Blk.setB (cs0 := ?_) ?_ ?_))) (by omega)
  have hR1 : Blk w1 (w.heap.size) [.int .u8 0, .int .i64 0, .int .i64 0, .int .i64 0, .int .u8 0, .int .i64 0, .int .i64 0, .int .i64 0, .int .i64 0] 63 := hk1.blk (by (repeat' (first | ((with_reducible show (_ : List Value) = _); rfl) | with_reducible exact hb | ((with_reducible refine Blk.newAt _ _ _ ?_); first | with_reducible rfl | (simp; done)) | with_reducible refine Blk.alloc ?_ _ | with_reducible refine Blk.drewN ?_ _ | with_reducible refine Blk.drew ?_ | ((with_reducible refine Blk.other ?_ _ ?_); rotate_left; ((try dsimp only); omega)) | with_reducible refine Blk.setB (cs0 := ?_) ?_ ?_))) (by omega)
  have hz1 : w.heap.size + 2 ≤ w1.heap.size := by have := hk1.size; (try simp at this); omega
  obtain ⟨l10, l11, l12, l13, l14, l15, l16, l17, l18, l1f⟩ := hL1.c9
  generalize hy : varF s (i, false) = y at *
  obtain ⟨y, yi, yb⟩ := y
  dsimp only at *
  have hb1 : Blk w1 r [.string s, .int .i64 yi, .bool yb, nv, iv, .int .i64 lp] 45 := hB1
  obtain ⟨p10, p11, p12, _, _, _, p1f⟩ := hB1.c6
  generalize hd : pk s yi = d2 at *
  have HD := hide hd
  clear hd
  go_wp2_with fail
  refine (peek_c r yi s yb nv iv lp _ (by (repeat' (first | ((with_reducible show (_ : List Value) = _); rfl) | with_reducible exact hb1 | ((with_reducible refine Blk.newAt _ _ _ ?_); first | with_reducible rfl | (simp; done)) | with_reducible refine Blk.alloc ?_ _ | with_reducible refine Blk.drewN ?_ _ | with_reducible refine Blk.drew ?_ | ((with_reducible refine Blk.other ?_ _ ?_); rotate_left; ((try dsimp only); omega)) | with_reducible refine Blk.setB (cs0 := ?_) ?_ ?_)))).mono ?_
  rw [HD.out]
  rintro e w2 ⟨rfl, nq2, rfl⟩
  have h3' : (d2 = 126 ∧ yb = true) ∨ ((d2 : Int) == 126) = false := by
    by_cases hq : d2 = 126
    · exact .inl ⟨hq, by cases yb <;> simp_all⟩
    · exact .inr (by simp; omega)
  rcases h3' with ⟨hq1, hq2⟩ | hq1
  case inl => 
      subst hq1 hq2
      go_wp2_with fail
      all_goals
        refine (eat_c r yi 61 s true nv iv lp _ hs hv ?_).mono ?_
        · show Blk _ _ _ _
          (repeat' (first | ((with_reducible show (_ : List Value) = _); rfl) | with_reducible exact hb1 | ((with_reducible refine Blk.newAt _ _ _ ?_); first | with_reducible rfl | (simp; done)) | with_reducible refine Blk.alloc ?_ _ | with_reducible refine Blk.drewN ?_ _ | with_reducible refine Blk.drew ?_ | ((with_reducible refine Blk.other ?_ _ ?_); rotate_left; ((try dsimp only); omega)) | with_reducible refine Blk.setB (cs0 := ?_) ?_ ?_))
        rintro e w2 ⟨rfl, hB2, hk2⟩
        have hL2 : Blk w2 (w.heap.size + 1) [.int .u8 0, .int .i64 y, .int .i64 0, .int .i64 0, .int .u8 0, .int .i64 0, .int .i64 (-1), .int .i64 i, .int .i64 0] 63 := hk2.blk (by (repeat' (first | ((with_reducible show (_ : List Value) = _); rfl) | with_reducible exact hL1 | ((with_reducible refine Blk.newAt _ _ _ ?_); first | with_reducible rfl | (simp; done)) | with_reducible refine Blk.alloc ?_ _ | with_reducible refine Blk.drewN ?_ _ | with_reducible refine Blk.drew ?_ | ((with_reducible refine Blk.other ?_ _ ?_); rotate_left; ((try dsimp only); omega)) | with_reducible refine Blk.setB (cs0 := ?_) ?_ ?_))) (by omega)
        have hR2 : Blk w2 (w.heap.size) [.int .u8 0, .int .i64 0, .int .i64 0, .int .i64 0, .int .u8 0, .int .i64 0, .int .i64 0, .int .i64 0, .int .i64 0] 63 := hk2.blk (by (repeat' (first | ((with_reducible show (_ : List Value) = _); rfl) | with_reducible exact hR1 | ((with_reducible refine Blk.newAt _ _ _ ?_); first | with_reducible rfl | (simp; done)) | with_reducible refine Blk.alloc ?_ _ | with_reducible refine Blk.drewN ?_ _ | with_reducible refine Blk.drew ?_ | ((with_reducible refine Blk.other ?_ _ ?_); rotate_left; ((try dsimp only); omega)) | with_reducible refine Blk.setB (cs0 := ?_) ?_ ?_))) (by omega)
        have hz2 : w.heap.size + 2 ≤ w2.heap.size := by have := hk2.size; (try simp at this); omega
        obtain ⟨l20, l21, l22, l23, l24, l25, l26, l27, l28, l2f⟩ := hL2.c9
        generalize hq : eatF s (yi, true) 61 = q at *
        obtain ⟨zi, zb⟩ := q
        dsimp only at he h4 hB2
        subst h4
        have hb2 : Blk w2 r [.string s, .int .i64 zi, .bool true, nv, iv, .int .i64 lp] 45 := hB2
        obtain ⟨p20, p21, p22, _, _, _, p2f⟩ := hB2.c6
        go_wp2
        refine wp_gen (fun W => RB W r s (zi, true) nv iv lp ∧ Blk W (w.heap.size) [.int .u8 0, .int .i64 0, .int .i64 0, .int .i64 0, .int .u8 0, .int .i64 0, .int .i64 0, .int .i64 0, .int .i64 0] 63 ∧ Blk W (w.heap.size + 1) [.int .u8 0, .int .i64 y, .int .i64 0, .int .i64 0, .int .u8 0, .int .i64 0, .int .i64 (-1), .int .i64 i, .int .i64 0] 63 ∧ Kp (· = r) w W) ⟨by (show Blk _ _ _ _); (repeat' (first | ((with_reducible show (_ : List Value) = _); rfl) | with_reducible exact hb2 | ((with_reducible refine Blk.newAt _ _ _ ?_); first | with_reducible rfl | (simp; done)) | with_reducible refine Blk.alloc ?_ _ | with_reducible refine Blk.drewN ?_ _ | with_reducible refine Blk.drew ?_ | ((with_reducible refine Blk.other ?_ _ ?_); rotate_left; ((try dsimp only); omega)) | with_reducible refine Blk.setB (cs0 := ?_) ?_ ?_)), by (repeat' (first | ((with_reducible show (_ : List Value) = _); rfl) | with_reducible exact hR2 | ((with_reducible refine Blk.newAt _ _ _ ?_); first | with_reducible rfl | (simp; done)) | with_reducible refine Blk.alloc ?_ _ | with_reducible refine Blk.drewN ?_ _ | with_reducible refine Blk.drew ?_ | ((with_reducible refine Blk.other ?_ _ ?_); rotate_left; ((try dsimp only); omega)) | with_reducible refine Blk.setB (cs0 := ?_) ?_ ?_)), by (repeat' (first | ((with_reducible show (_ : List Value) = _); rfl) | with_reducible exact hL2 | ((with_reducible refine Blk.newAt _ _ _ ?_); first | with_reducible rfl | (simp; done)) | with_reducible refine Blk.alloc ?_ _ | with_reducible refine Blk.drewN ?_ _ | with_reducible refine Blk.drew ?_ | ((with_reducible refine Blk.other ?_ _ ?_); rotate_left; ((try dsimp only); omega)) | with_reducible refine Blk.setB (cs0 := ?_) ?_ ?_)), by (repeat' (first | with_reducible exact Kp.refl _ _ | with_reducible refine Kp.alloc ?_ _ | with_reducible refine Kp.drewN ?_ _ | with_reducible refine Kp.drew ?_ | with_reducible refine Kp.setCell ?_ _ ?_ | with_reducible refine Kp.trans ?_ hk1 (fun _ _ e => e) | with_reducible refine Kp.trans ?_ hk2 (fun _ _ e => e) | (intro hh; first | rfl | exact .inl rfl | exact .inr rfl | (exfalso; (try dsimp only at hh); omega))))⟩ ?_
        rintro W ⟨hB, hR, hL, hk⟩
        obtain ⟨x0, x1, x2, x3, x4, x5, x6, x7, x8, xf⟩ := hL.c9
        obtain ⟨z0, z1, z2, z3, z4, z5, z6, z7, z8, zf⟩ := hR.c9
        obtain ⟨q0, q1, q2, _, _, _, qf⟩ := hB.c6
        go_region
        go_wp2
        refine body_agg (Tb := 63) (b := w.heap.size) (cs := [.int .u8 0, .int .i64 y, .int .i64 0, .int .i64 0, .int .u8 0, .int .i64 0, .int .i64 (-1), .int .i64 i, .int .i64 ((zi : Int) - i)]) (.inr rfl) Tryz.results67 rfl rfl (by (repeat' (first | ((with_reducible show (_ : List Value) = _); rfl) | with_reducible exact hR | ((with_reducible refine Blk.newAt _ _ _ ?_); first | with_reducible rfl | (simp; done)) | with_reducible refine Blk.alloc ?_ _ | with_reducible refine Blk.drewN ?_ _ | with_reducible refine Blk.drew ?_ | ((with_reducible refine Blk.other ?_ _ ?_); rotate_left; ((try dsimp only); omega)) | with_reducible refine Blk.setB (cs0 := ?_) ?_ ?_))) Tryz.underlying63 rfl (by kernel_rfl) ?_
        rw [HV.out]
        refine ⟨rfl, ?_, ?_⟩
        · have hb1 : Blk W r [.string s, .int .i64 ((zi, true)).1, .bool ((zi, true)).2, nv, iv, .int .i64 lp] 45 := hB
          show Blk _ _ _ _
          (repeat' (first | ((with_reducible show (_ : List Value) = _); rfl) | with_reducible exact hb1 | ((with_reducible refine Blk.newAt _ _ _ ?_); first | with_reducible rfl | (simp; done)) | with_reducible refine Blk.alloc ?_ _ | with_reducible refine Blk.drewN ?_ _ | with_reducible refine Blk.drew ?_ | ((with_reducible refine Blk.other ?_ _ ?_); rotate_left; ((try dsimp only); omega)) | with_reducible refine Blk.setB (cs0 := ?_) ?_ ?_))
        · (repeat' (first | with_reducible exact Kp.refl _ _ | with_reducible refine Kp.alloc ?_ _ | with_reducible refine Kp.drewN ?_ _ | with_reducible refine Kp.drew ?_ | with_reducible refine Kp.setCell ?_ _ ?_ | with_reducible refine Kp.trans ?_ hk (fun _ _ e => e) | (intro hh; first | rfl | exact .inl rfl | exact .inr rfl | (exfalso; (try dsimp only at hh); omega))))

  case inr =>
      go_wp2_with fail
      all_goals
        refine (eat_c r yi 61 s yb nv iv lp _ hs hv ?_).mono ?_
        · show Blk _ _ _ _
          (repeat' (first | ((with_reducible show (_ : List Value) = _); rfl) | with_reducible exact hb1 | ((with_reducible refine Blk.newAt _ _ _ ?_); first | with_reducible rfl | (simp; done)) | with_reducible refine Blk.alloc ?_ _ | with_reducible refine Blk.drewN ?_ _ | with_reducible refine Blk.drew ?_ | ((with_reducible refine Blk.other ?_ _ ?_); rotate_left; ((try dsimp only); omega)) | with_reducible refine Blk.setB (cs0 := ?_) ?_ ?_))
        rintro e w2 ⟨rfl, hB2, hk2⟩
        have hL2 : Blk w2 (w.heap.size + 1) [.int .u8 0, .int .i64 y, .int .i64 0, .int .i64 0, .int .u8 0, .int .i64 0, .int .i64 (-1), .int .i64 i, .int .i64 0] 63 := hk2.blk (by (repeat' (first | ((with_reducible show (_ : List Value) = _); rfl) | with_reducible exact hL1 | ((with_reducible refine Blk.newAt _ _ _ ?_); first | with_reducible rfl | (simp; done)) | with_reducible refine Blk.alloc ?_ _ | with_reducible refine Blk.drewN ?_ _ | with_reducible refine Blk.drew ?_ | ((with_reducible refine Blk.other ?_ _ ?_); rotate_left; ((try dsimp only); omega)) | with_reducible refine Blk.setB (cs0 := ?_) ?_ ?_))) (by omega)
        have hR2 : Blk w2 (w.heap.size) [.int .u8 0, .int .i64 0, .int .i64 0, .int .i64 0, .int .u8 0, .int .i64 0, .int .i64 0, .int .i64 0, .int .i64 0] 63 := hk2.blk (by (repeat' (first | ((with_reducible show (_ : List Value) = _); rfl) | with_reducible exact hR1 | ((with_reducible refine Blk.newAt _ _ _ ?_); first | with_reducible rfl | (simp; done)) | with_reducible refine Blk.alloc ?_ _ | with_reducible refine Blk.drewN ?_ _ | with_reducible refine Blk.drew ?_ | ((with_reducible refine Blk.other ?_ _ ?_); rotate_left; ((try dsimp only); omega)) | with_reducible refine Blk.setB (cs0 := ?_) ?_ ?_))) (by omega)
        have hz2 : w.heap.size + 2 ≤ w2.heap.size := by have := hk2.size; (try simp at this); omega
        obtain ⟨l20, l21, l22, l23, l24, l25, l26, l27, l28, l2f⟩ := hL2.c9
        generalize hq : eatF s (yi, yb) 61 = q at *
        obtain ⟨zi, zb⟩ := q
        dsimp only at he h4 hB2
        subst h4
        have hb2 : Blk w2 r [.string s, .int .i64 zi, .bool true, nv, iv, .int .i64 lp] 45 := hB2
        obtain ⟨p20, p21, p22, _, _, _, p2f⟩ := hB2.c6
        go_wp2
        refine wp_gen (fun W => RB W r s (zi, true) nv iv lp ∧ Blk W (w.heap.size) [.int .u8 0, .int .i64 0, .int .i64 0, .int .i64 0, .int .u8 0, .int .i64 0, .int .i64 0, .int .i64 0, .int .i64 0] 63 ∧ Blk W (w.heap.size + 1) [.int .u8 0, .int .i64 y, .int .i64 0, .int .i64 0, .int .u8 0, .int .i64 0, .int .i64 (-1), .int .i64 i, .int .i64 0] 63 ∧ Kp (· = r) w W) ⟨by (show Blk _ _ _ _); (repeat' (first | ((with_reducible show (_ : List Value) = _); rfl) | with_reducible exact hb2 | ((with_reducible refine Blk.newAt _ _ _ ?_); first | with_reducible rfl | (simp; done)) | with_reducible refine Blk.alloc ?_ _ | with_reducible refine Blk.drewN ?_ _ | with_reducible refine Blk.drew ?_ | ((with_reducible refine Blk.other ?_ _ ?_); rotate_left; ((try dsimp only); omega)) | with_reducible refine Blk.setB (cs0 := ?_) ?_ ?_)), by (repeat' (first | ((with_reducible show (_ : List Value) = _); rfl) | with_reducible exact hR2 | ((with_reducible refine Blk.newAt _ _ _ ?_); first | with_reducible rfl | (simp; done)) | with_reducible refine Blk.alloc ?_ _ | with_reducible refine Blk.drewN ?_ _ | with_reducible refine Blk.drew ?_ | ((with_reducible refine Blk.other ?_ _ ?_); rotate_left; ((try dsimp only); omega)) | with_reducible refine Blk.setB (cs0 := ?_) ?_ ?_)), by (repeat' (first | ((with_reducible show (_ : List Value) = _); rfl) | with_reducible exact hL2 | ((with_reducible refine Blk.newAt _ _ _ ?_); first | with_reducible rfl | (simp; done)) | with_reducible refine Blk.alloc ?_ _ | with_reducible refine Blk.drewN ?_ _ | with_reducible refine Blk.drew ?_ | ((with_reducible refine Blk.other ?_ _ ?_); rotate_left; ((try dsimp only); omega)) | with_reducible refine Blk.setB (cs0 := ?_) ?_ ?_)), by (repeat' (first | with_reducible exact Kp.refl _ _ | with_reducible refine Kp.alloc ?_ _ | with_reducible refine Kp.drewN ?_ _ | with_reducible refine Kp.drew ?_ | with_reducible refine Kp.setCell ?_ _ ?_ | with_reducible refine Kp.trans ?_ hk1 (fun _ _ e => e) | with_reducible refine Kp.trans ?_ hk2 (fun _ _ e => e) | (intro hh; first | rfl | exact .inl rfl | exact .inr rfl | (exfalso; (try dsimp only at hh); omega))))⟩ ?_
        rintro W ⟨hB, hR, hL, hk⟩
        obtain ⟨x0, x1, x2, x3, x4, x5, x6, x7, x8, xf⟩ := hL.c9
        obtain ⟨z0, z1, z2, z3, z4, z5, z6, z7, z8, zf⟩ := hR.c9
        obtain ⟨q0, q1, q2, _, _, _, qf⟩ := hB.c6
        go_region
        go_wp2
        refine body_agg (Tb := 63) (b := w.heap.size) (cs := [.int .u8 0, .int .i64 y, .int .i64 0, .int .i64 0, .int .u8 0, .int .i64 0, .int .i64 (-1), .int .i64 i, .int .i64 ((zi : Int) - i)]) (.inr rfl) Tryz.results67 rfl rfl (by (repeat' (first | ((with_reducible show (_ : List Value) = _); rfl) | with_reducible exact hR | ((with_reducible refine Blk.newAt _ _ _ ?_); first | with_reducible rfl | (simp; done)) | with_reducible refine Blk.alloc ?_ _ | with_reducible refine Blk.drewN ?_ _ | with_reducible refine Blk.drew ?_ | ((with_reducible refine Blk.other ?_ _ ?_); rotate_left; ((try dsimp only); omega)) | with_reducible refine Blk.setB (cs0 := ?_) ?_ ?_))) Tryz.underlying63 rfl (by kernel_rfl) ?_
        rw [HV.out]
        refine ⟨rfl, ?_, ?_⟩
        · have hb1 : Blk W r [.string s, .int .i64 ((zi, true)).1, .bool ((zi, true)).2, nv, iv, .int .i64 lp] 45 := hB
          show Blk _ _ _ _
          (repeat' (first | ((with_reducible show (_ : List Value) = _); rfl) | with_reducible exact hb1 | ((with_reducible refine Blk.newAt _ _ _ ?_); first | with_reducible rfl | (simp; done)) | with_reducible refine Blk.alloc ?_ _ | with_reducible refine Blk.drewN ?_ _ | with_reducible refine Blk.drew ?_ | ((with_reducible refine Blk.other ?_ _ ?_); rotate_left; ((try dsimp only); omega)) | with_reducible refine Blk.setB (cs0 := ?_) ?_ ?_))
        · (repeat' (first | with_reducible exact Kp.refl _ _ | with_reducible refine Kp.alloc ?_ _ | with_reducible refine Kp.drewN ?_ _ | with_reducible refine Kp.drew ?_ | with_reducible refine Kp.setCell ?_ _ ?_ | with_reducible refine Kp.trans ?_ hk (fun _ _ e => e) | (intro hh; first | rfl | exact .inl rfl | exact .inr rfl | (exfalso; (try dsimp only at hh); omega))))


set_option maxHeartbeats 1600000 in
theorem simple_set (r i : Nat) (s : ByteArray) (nv iv : Value) (lp : Int) (w : World) (hs : s.size ≤ 1000) (hi : i ≤ s.size)
    (h : RB w r s (i, false) nv iv lp) (h1 : pk s i ≠ 94) (h2 : pk s i ≠ 33) (h3 : ¬ ((varF s (i, false)).2.2 = false ∧ pk s (varF s (i, false)).2.1 = 126)) (h4 : (eatF s (varF s (i, false)).2 61).2 = false) :
    Calls Tryz.prog 67 #[.pointer (some ⟨r, 0, none⟩)] w fun e w' =>
      e = .returned (.agg (simpF s i).1.cells.toArray) ∧ RB w' r s (simpF s i).2 nv iv lp ∧ Kp (· = r) w w' := by
  have HB := hide h
  have HV := hide (show simpF s i = ({ (valF s (eatF s (varF s (i, false)).2 61).1 { nd0 i with x := (varF s (i, false)).1 }).1 with l := ((valF s (eatF s (varF s (i, false)).2 61).1 { nd0 i with x := (varF s (i, false)).1 }).2.1 : Int) - i }, (valF s (eatF s (varF s (i, false)).2 61).1 { nd0 i with x := (varF s (i, false)).1 }).2) by simp [simpF, h1, h2, h3, h4])
  have hr := h.lt
  have hv := varF_le s (i, false) hi
  have he := eatF_le s (varF s (i, false)).2 61 (by decide) hv
  have hx := valF_le s (eatF s (varF s (i, false)).2 61).1 { nd0 i with x := (varF s (i, false)).1 } he
  have HK := hide (valF_keeps s (eatF s (varF s (i, false)).2 61).1 { nd0 i with x := (varF s (i, false)).1 })
  obtain ⟨c0, c1, c2, _, _, _, cf⟩ := h.c6
  clear h
  have hb : Blk w r [.string s, .int .i64 i, .bool false, nv, iv, .int .i64 lp] 45 := HB.out
  generalize hc : pk s i = d at *
  have HC := hide hc
  clear hc
  go_enter Tryz.func67, Tryz.ntmps67
  go_wp2_with (go_at_call 65; refine (peek_c r i s false nv iv lp _ (by (repeat' (first | ((with_reducible show (_ : List Value) = _); rfl) | with_reducible exact hb | ((with_reducible refine Blk.newAt _ _ _ ?_); first | with_reducible rfl | (simp; done)) | with_reducible refine Blk.alloc ?_ _ | with_reducible refine Blk.drewN ?_ _ | with_reducible refine Blk.drew ?_ | ((with_reducible refine Blk.other ?_ _ ?_); rotate_left; ((try dsimp only); omega)) | with_reducible refine Blk.setB (cs0 := ?_) ?_ ?_)))).mono ?_; rw [HC.out]; rintro e w' ⟨rfl, nq, rfl⟩)
  refine (variable_c r i s false nv iv lp _ hs hi ?_).mono ?_
  · show Blk _ _ _ _
    (repeat' (first | ((with_reducible show (_ : List Value) = _); rfl) | with_reducible exact hb | ((with_reducible refine Blk.newAt _ _ _ ?_); first | with_reducible rfl | (simp; done)) | with_reducible refine Blk.alloc ?_ _ | with_reducible refine Blk.drewN ?_ _ | with_reducible refine Blk.drew ?_ | ((with_reducible refine Blk.other ?_ _ ?_); rotate_left; ((try dsimp only); omega)) | with_reducible refine Blk.setB (cs0 := ?_) ?_ ?_))
  rintro e w1 ⟨rfl, hB1, hk1⟩
  have hL1 : Blk w1 (w.heap.size + 1) [.int .u8 0, .int .i64 0, .int .i64 0, .int .i64 0, .int .u8 0, .int .i64 0, .int .i64 (-1), .int .i64 i, .int .i64 0] 63 := hk1.blk (by (repeat' (first | ((with_reducible show (_ : List Value) = _); rfl) | with_reducible exact hb | ((with_reducible refine Blk.newAt _ _ _ ?_); first | with_reducible rfl | (simp; done)) | with_reducible refine Blk.alloc ?_ _ | with_reducible refine Blk.drewN ?_ _ | with_reducible refine Blk.drew ?_ | ((with_reducible refine Blk.other ?_ _ ?_); rotate_left; ((try dsimp only); omega)) | with_reducible refine Blk.setB (cs0 := ?_) ?_ ?_))) (by omega)
  have hR1 : Blk w1 (w.heap.size) [.int .u8 0, .int .i64 0, .int .i64 0, .int .i64 0, .int .u8 0, .int .i64 0, .int .i64 0, .int .i64 0, .int .i64 0] 63 := hk1.blk (by (repeat' (first | ((with_reducible show (_ : List Value) = _); rfl) | with_reducible exact hb | ((with_reducible refine Blk.newAt _ _ _ ?_); first | with_reducible rfl | (simp; done)) | with_reducible refine Blk.alloc ?_ _ | with_reducible refine Blk.drewN ?_ _ | with_reducible refine Blk.drew ?_ | ((with_reducible refine Blk.other ?_ _ ?_); rotate_left; ((try dsimp only); omega)) | with_reducible refine Blk.setB (cs0 := ?_) ?_ ?_))) (by omega)
  have hz1 : w.heap.size + 2 ≤ w1.heap.size := by have := hk1.size; (try simp at this); omega
  obtain ⟨l10, l11, l12, l13, l14, l15, l16, l17, l18, l1f⟩ := hL1.c9
  generalize hy : varF s (i, false) = y at *
  obtain ⟨y, yi, yb⟩ := y
  dsimp only at *
  have hb1 : Blk w1 r [.string s, .int .i64 yi, .bool yb, nv, iv, .int .i64 lp] 45 := hB1
  obtain ⟨p10, p11, p12, _, _, _, p1f⟩ := hB1.c6
  generalize hd : pk s yi = d2 at *
  have HD := hide hd
  clear hd
  go_wp2_with fail
  refine (peek_c r yi s yb nv iv lp _ (by (repeat' (first | ((with_reducible show (_ : List Value) = _); rfl) | with_reducible exact hb1 | ((with_reducible refine Blk.newAt _ _ _ ?_); first | with_reducible rfl | (simp; done)) | with_reducible refine Blk.alloc ?_ _ | with_reducible refine Blk.drewN ?_ _ | with_reducible refine Blk.drew ?_ | ((with_reducible refine Blk.other ?_ _ ?_); rotate_left; ((try dsimp only); omega)) | with_reducible refine Blk.setB (cs0 := ?_) ?_ ?_)))).mono ?_
  rw [HD.out]
  rintro e w2 ⟨rfl, nq2, rfl⟩
  have h3' : (d2 = 126 ∧ yb = true) ∨ ((d2 : Int) == 126) = false := by
    by_cases hq : d2 = 126
    · exact .inl ⟨hq, by cases yb <;> simp_all⟩
    · exact .inr (by simp; omega)
  rcases h3' with ⟨hq1, hq2⟩ | hq1
  case inl => 
      subst hq1 hq2
      simp [eatF] at h4

  case inr =>
      go_wp2_with fail
      all_goals
        refine (eat_c r yi 61 s yb nv iv lp _ hs hv ?_).mono ?_
        · show Blk _ _ _ _
          (repeat' (first | ((with_reducible show (_ : List Value) = _); rfl) | with_reducible exact hb1 | ((with_reducible refine Blk.newAt _ _ _ ?_); first | with_reducible rfl | (simp; done)) | with_reducible refine Blk.alloc ?_ _ | with_reducible refine Blk.drewN ?_ _ | with_reducible refine Blk.drew ?_ | ((with_reducible refine Blk.other ?_ _ ?_); rotate_left; ((try dsimp only); omega)) | with_reducible refine Blk.setB (cs0 := ?_) ?_ ?_))
        rintro e w2 ⟨rfl, hB2, hk2⟩
        have hL2 : Blk w2 (w.heap.size + 1) [.int .u8 0, .int .i64 y, .int .i64 0, .int .i64 0, .int .u8 0, .int .i64 0, .int .i64 (-1), .int .i64 i, .int .i64 0] 63 := hk2.blk (by (repeat' (first | ((with_reducible show (_ : List Value) = _); rfl) | with_reducible exact hL1 | ((with_reducible refine Blk.newAt _ _ _ ?_); first | with_reducible rfl | (simp; done)) | with_reducible refine Blk.alloc ?_ _ | with_reducible refine Blk.drewN ?_ _ | with_reducible refine Blk.drew ?_ | ((with_reducible refine Blk.other ?_ _ ?_); rotate_left; ((try dsimp only); omega)) | with_reducible refine Blk.setB (cs0 := ?_) ?_ ?_))) (by omega)
        have hR2 : Blk w2 (w.heap.size) [.int .u8 0, .int .i64 0, .int .i64 0, .int .i64 0, .int .u8 0, .int .i64 0, .int .i64 0, .int .i64 0, .int .i64 0] 63 := hk2.blk (by (repeat' (first | ((with_reducible show (_ : List Value) = _); rfl) | with_reducible exact hR1 | ((with_reducible refine Blk.newAt _ _ _ ?_); first | with_reducible rfl | (simp; done)) | with_reducible refine Blk.alloc ?_ _ | with_reducible refine Blk.drewN ?_ _ | with_reducible refine Blk.drew ?_ | ((with_reducible refine Blk.other ?_ _ ?_); rotate_left; ((try dsimp only); omega)) | with_reducible refine Blk.setB (cs0 := ?_) ?_ ?_))) (by omega)
        have hz2 : w.heap.size + 2 ≤ w2.heap.size := by have := hk2.size; (try simp at this); omega
        obtain ⟨l20, l21, l22, l23, l24, l25, l26, l27, l28, l2f⟩ := hL2.c9
        generalize hq : eatF s (yi, yb) 61 = q at *
        obtain ⟨zi, zb⟩ := q
        dsimp only at he h4 hB2
        subst h4
        have hb2 : Blk w2 r [.string s, .int .i64 zi, .bool false, nv, iv, .int .i64 lp] 45 := hB2
        obtain ⟨p20, p21, p22, _, _, _, p2f⟩ := hB2.c6
        go_wp2_with fail
        refine (value_c r zi s { nd0 i with x := y } nv iv lp _ hs he ?_).mono ?_
        · show Blk _ _ _ _
          (repeat' (first | ((with_reducible show (_ : List Value) = _); rfl) | with_reducible exact hb2 | ((with_reducible refine Blk.newAt _ _ _ ?_); first | with_reducible rfl | (simp; done)) | with_reducible refine Blk.alloc ?_ _ | with_reducible refine Blk.drewN ?_ _ | with_reducible refine Blk.drew ?_ | ((with_reducible refine Blk.other ?_ _ ?_); rotate_left; ((try dsimp only); omega)) | with_reducible refine Blk.setB (cs0 := ?_) ?_ ?_))
        rintro e w3 ⟨rfl, hB3, hk3⟩
        have hL3 : Blk w3 (w.heap.size + 1) [.int .u8 0, .int .i64 y, .int .i64 0, .int .i64 0, .int .u8 0, .int .i64 0, .int .i64 (-1), .int .i64 i, .int .i64 0] 63 := hk3.blk (by (repeat' (first | ((with_reducible show (_ : List Value) = _); rfl) | with_reducible exact hL2 | ((with_reducible refine Blk.newAt _ _ _ ?_); first | with_reducible rfl | (simp; done)) | with_reducible refine Blk.alloc ?_ _ | with_reducible refine Blk.drewN ?_ _ | with_reducible refine Blk.drew ?_ | ((with_reducible refine Blk.other ?_ _ ?_); rotate_left; ((try dsimp only); omega)) | with_reducible refine Blk.setB (cs0 := ?_) ?_ ?_))) (by omega)
        have hR3 : Blk w3 (w.heap.size) [.int .u8 0, .int .i64 0, .int .i64 0, .int .i64 0, .int .u8 0, .int .i64 0, .int .i64 0, .int .i64 0, .int .i64 0] 63 := hk3.blk (by (repeat' (first | ((with_reducible show (_ : List Value) = _); rfl) | with_reducible exact hR2 | ((with_reducible refine Blk.newAt _ _ _ ?_); first | with_reducible rfl | (simp; done)) | with_reducible refine Blk.alloc ?_ _ | with_reducible refine Blk.drewN ?_ _ | with_reducible refine Blk.drew ?_ | ((with_reducible refine Blk.other ?_ _ ?_); rotate_left; ((try dsimp only); omega)) | with_reducible refine Blk.setB (cs0 := ?_) ?_ ?_))) (by omega)
        have hz3 : w.heap.size + 2 ≤ w3.heap.size := by have := hk3.size; (try simp at this); omega
        obtain ⟨l30, l31, l32, l33, l34, l35, l36, l37, l38, l3f⟩ := hL3.c9
        generalize hu : valF s zi { nd0 i with x := y } = u at *
        obtain ⟨u, ui, ub⟩ := u
        obtain ⟨k1, k2, k3, k4, k5⟩ := HK.out
        obtain ⟨uo, ux, uy, uv, uk, ut, uf, ua, ul⟩ := u
        dsimp only [nd0] at k1 k2 k3 k4 k5 hx hB3
        subst k1 k2 k3 k4 k5
        simp only [Nd.cells]
        have hb3 : Blk w3 r [.string s, .int .i64 ui, .bool ub, nv, iv, .int .i64 lp] 45 := hB3
        go_wp2
        refine wp_gen (fun W => RB W r s (ui, ub) nv iv lp ∧ Blk W (w.heap.size) [.int .u8 0, .int .i64 0, .int .i64 0, .int .i64 0, .int .u8 0, .int .i64 0, .int .i64 0, .int .i64 0, .int .i64 0] 63 ∧ Blk W (w.heap.size + 1) [.int .u8 uo, .int .i64 y, .int .i64 uy, .int .i64 uv, .int .u8 uk, .int .i64 0, .int .i64 (-1), .int .i64 i, .int .i64 0] 63 ∧ Kp (· = r) w W) ⟨by (show Blk _ _ _ _); (repeat' (first | ((with_reducible show (_ : List Value) = _); rfl) | with_reducible exact hb3 | ((with_reducible refine Blk.newAt _ _ _ ?_); first | with_reducible rfl | (simp; done)) | with_reducible refine Blk.alloc ?_ _ | with_reducible refine Blk.drewN ?_ _ | with_reducible refine Blk.drew ?_ | ((with_reducible refine Blk.other ?_ _ ?_); rotate_left; ((try dsimp only); omega)) | with_reducible refine Blk.setB (cs0 := ?_) ?_ ?_)), by (repeat' (first | ((with_reducible show (_ : List Value) = _); rfl) | with_reducible exact hR3 | ((with_reducible refine Blk.newAt _ _ _ ?_); first | with_reducible rfl | (simp; done)) | with_reducible refine Blk.alloc ?_ _ | with_reducible refine Blk.drewN ?_ _ | with_reducible refine Blk.drew ?_ | ((with_reducible refine Blk.other ?_ _ ?_); rotate_left; ((try dsimp only); omega)) | with_reducible refine Blk.setB (cs0 := ?_) ?_ ?_)), by (repeat' (first | ((with_reducible show (_ : List Value) = _); rfl) | with_reducible exact hL3 | ((with_reducible refine Blk.newAt _ _ _ ?_); first | with_reducible rfl | (simp; done)) | with_reducible refine Blk.alloc ?_ _ | with_reducible refine Blk.drewN ?_ _ | with_reducible refine Blk.drew ?_ | ((with_reducible refine Blk.other ?_ _ ?_); rotate_left; ((try dsimp only); omega)) | with_reducible refine Blk.setB (cs0 := ?_) ?_ ?_)), by (repeat' (first | with_reducible exact Kp.refl _ _ | with_reducible refine Kp.alloc ?_ _ | with_reducible refine Kp.drewN ?_ _ | with_reducible refine Kp.drew ?_ | with_reducible refine Kp.setCell ?_ _ ?_ | with_reducible refine Kp.trans ?_ hk1 (fun _ _ e => e) | with_reducible refine Kp.trans ?_ hk2 (fun _ _ e => e) | with_reducible refine Kp.trans ?_ hk3 (fun _ _ e => e) | (intro hh; first | rfl | exact .inl rfl | exact .inr rfl | (exfalso; (try dsimp only at hh); omega))))⟩ ?_
        rintro W ⟨hB, hR, hL, hk⟩
        obtain ⟨x0, x1, x2, x3, x4, x5, x6, x7, x8, xf⟩ := hL.c9
        obtain ⟨z0, z1, z2, z3, z4, z5, z6, z7, z8, zf⟩ := hR.c9
        obtain ⟨q0, q1, q2, _, _, _, qf⟩ := hB.c6
        go_region
        go_wp2
        refine body_agg (Tb := 63) (b := w.heap.size) (cs := [.int .u8 uo, .int .i64 y, .int .i64 uy, .int .i64 uv, .int .u8 uk, .int .i64 0, .int .i64 (-1), .int .i64 i, .int .i64 ((ui : Int) - i)]) (.inr rfl) Tryz.results67 rfl rfl (by (repeat' (first | ((with_reducible show (_ : List Value) = _); rfl) | with_reducible exact hR | ((with_reducible refine Blk.newAt _ _ _ ?_); first | with_reducible rfl | (simp; done)) | with_reducible refine Blk.alloc ?_ _ | with_reducible refine Blk.drewN ?_ _ | with_reducible refine Blk.drew ?_ | ((with_reducible refine Blk.other ?_ _ ?_); rotate_left; ((try dsimp only); omega)) | with_reducible refine Blk.setB (cs0 := ?_) ?_ ?_))) Tryz.underlying63 rfl (by kernel_rfl) ?_
        rw [HV.out]
        refine ⟨rfl, ?_, ?_⟩
        · have hb1 : Blk W r [.string s, .int .i64 ((ui, ub)).1, .bool ((ui, ub)).2, nv, iv, .int .i64 lp] 45 := hB
          show Blk _ _ _ _
          (repeat' (first | ((with_reducible show (_ : List Value) = _); rfl) | with_reducible exact hb1 | ((with_reducible refine Blk.newAt _ _ _ ?_); first | with_reducible rfl | (simp; done)) | with_reducible refine Blk.alloc ?_ _ | with_reducible refine Blk.drewN ?_ _ | with_reducible refine Blk.drew ?_ | ((with_reducible refine Blk.other ?_ _ ?_); rotate_left; ((try dsimp only); omega)) | with_reducible refine Blk.setB (cs0 := ?_) ?_ ?_))
        · (repeat' (first | with_reducible exact Kp.refl _ _ | with_reducible refine Kp.alloc ?_ _ | with_reducible refine Kp.drewN ?_ _ | with_reducible refine Kp.drew ?_ | with_reducible refine Kp.setCell ?_ _ ?_ | with_reducible refine Kp.trans ?_ hk (fun _ _ e => e) | (intro hh; first | rfl | exact .inl rfl | exact .inr rfl | (exfalso; (try dsimp only at hh); omega))))


theorem simple_c (r i : Nat) (s : ByteArray) (nv iv : Value) (lp : Int) (w : World) (hs : s.size ≤ 1000) (hi : i ≤ s.size)
    (h : RB w r s (i, false) nv iv lp) :
    Calls Tryz.prog 67 #[.pointer (some ⟨r, 0, none⟩)] w fun e w' =>
      e = .returned (.agg (simpF s i).1.cells.toArray) ∧ RB w' r s (simpF s i).2 nv iv lp ∧ Kp (· = r) w w' := by
  by_cases h1 : pk s i = 94
  · exact simple_put r i s nv iv lp w hs hi h h1
  by_cases h2 : pk s i = 33
  · exact simple_never r i s nv iv lp w hs hi h h2
  by_cases h3 : (varF s (i, false)).2.2 = false ∧ pk s (varF s (i, false)).2.1 = 126
  · exact simple_cast r i s nv iv lp w hs hi h h1 h2 h3.1 h3.2
  cases h4 : (eatF s (varF s (i, false)).2 61).2
  · exact simple_set r i s nv iv lp w hs hi h h1 h2 h3 h4
  · exact simple_eq r i s nv iv lp w hs hi h h1 h2 h3 h4

theorem simpF_le (s : ByteArray) (i : Nat) (h : i ≤ s.size) : (simpF s i).2.1 ≤ s.size := by
  have hv := varF_le s (i, false) h
  have he := eatF_le s _ 61 (by decide) hv
  unfold simpF
  repeat' split
  · rename_i h1; exact varF_le _ _ (pk_in s i (by omega))
  · rename_i _ h1; exact pk_in s i (by omega)
  · rename_i _ _ h1; exact kindF_le _ _ (pk_in s _ (by omega))
  · exact he
  · exact valF_le _ _ _ he
end Go.Proofs.YtellieabhaphhaaGreatDoor

/-
  narrowref's reader: a test.
-/
namespace Go.Proofs.YtellieabhaphhaaGreatDoor
open Go.RowKit

def ty0 (i : Nat) : Nd := { op := 121, x := 0, y := 0, v := 0, k := 0, t := 0, f := 0, a := i, l := 0 }

def testF (s : ByteArray) (i : Nat) : Nd × (Nat × Bool) :=
  if (varF s (i, false)).2.2 = false ∧ pk s (varF s (i, false)).2.1 = 58 then
    ({ ty0 i with op := 58, y := (varF s (i, false)).1, k := (kindF s ((varF s (i, false)).2.1 + 1, false)).1, l := ((kindF s ((varF s (i, false)).2.1 + 1, false)).2.1 : Int) - i }, (kindF s ((varF s (i, false)).2.1 + 1, false)).2)
  else ({ ty0 i with y := (varF s (i, false)).1, l := ((varF s (i, false)).2.1 : Int) - i }, (varF s (i, false)).2)

theorem testF_le (s : ByteArray) (i : Nat) (h : i ≤ s.size) : (testF s i).2.1 ≤ s.size := by
  have hv := varF_le s (i, false) h
  unfold testF
  split
  · rename_i h1; exact kindF_le _ _ (pk_in s _ (by omega))
  · exact hv

set_option maxHeartbeats 1600000 in
theorem test_kind (r i : Nat) (s : ByteArray) (nv iv : Value) (lp : Int) (w : World) (hs : s.size ≤ 1000) (hi : i ≤ s.size)
    (h : RB w r s (i, false) nv iv lp) (h3 : (varF s (i, false)).2.2 = false) (h4 : pk s (varF s (i, false)).2.1 = 58) :
    Calls Tryz.prog 66 #[.pointer (some ⟨r, 0, none⟩)] w fun e w' =>
      e = .returned (.agg (testF s i).1.cells.toArray) ∧ RB w' r s (testF s i).2 nv iv lp ∧ Kp (· = r) w w' := by
  have HB := hide h
  have HV := hide (show testF s i = ({ ty0 i with op := 58, y := (varF s (i, false)).1, k := (kindF s ((varF s (i, false)).2.1 + 1, false)).1, l := ((kindF s ((varF s (i, false)).2.1 + 1, false)).2.1 : Int) - i }, (kindF s ((varF s (i, false)).2.1 + 1, false)).2) by simp [testF, h3, h4])
  have hr := h.lt
  have hi1 : (varF s (i, false)).2.1 + 1 ≤ s.size := pk_in s (varF s (i, false)).2.1 (by omega)
  have hv := kindF_le s ((varF s (i, false)).2.1 + 1, false) hi1
  obtain ⟨c0, c1, c2, _, _, _, cf⟩ := h.c6
  clear h
  have hb : Blk w r [.string s, .int .i64 i, .bool false, nv, iv, .int .i64 lp] 45 := HB.out
  go_enter Tryz.func66, Tryz.ntmps66
  go_wp2_with fail
  refine (variable_c r i s false nv iv lp _ hs hi ?_).mono ?_
  · show Blk _ _ _ _
    (repeat' (first | ((with_reducible show (_ : List Value) = _); rfl) | with_reducible exact hb | ((with_reducible refine Blk.newAt _ _ _ ?_); first | with_reducible rfl | (simp; done)) | with_reducible refine Blk.alloc ?_ _ | with_reducible refine Blk.drewN ?_ _ | with_reducible refine Blk.drew ?_ | ((with_reducible refine Blk.other ?_ _ ?_); rotate_left; ((try dsimp only); omega)) | with_reducible refine Blk.setB (cs0 := ?_) ?_ ?_))
  rintro e w1 ⟨rfl, hB1, hk1⟩
  have hL1 : Blk w1 (w.heap.size + 1) [.int .u8 121, .int .i64 0, .int .i64 0, .int .i64 0, .int .u8 0, .int .i64 0, .int .i64 0, .int .i64 i, .int .i64 0] 63 := hk1.blk (by (repeat' (first | ((with_reducible show (_ : List Value) = _); rfl) | with_reducible exact hb | ((with_reducible refine Blk.newAt _ _ _ ?_); first | with_reducible rfl | (simp; done)) | with_reducible refine Blk.alloc ?_ _ | with_reducible refine Blk.drewN ?_ _ | with_reducible refine Blk.drew ?_ | ((with_reducible refine Blk.other ?_ _ ?_); rotate_left; ((try dsimp only); omega)) | with_reducible refine Blk.setB (cs0 := ?_) ?_ ?_))) (by omega)
  have hR1 : Blk w1 (w.heap.size) [.int .u8 0, .int .i64 0, .int .i64 0, .int .i64 0, .int .u8 0, .int .i64 0, .int .i64 0, .int .i64 0, .int .i64 0] 63 := hk1.blk (by (repeat' (first | ((with_reducible show (_ : List Value) = _); rfl) | with_reducible exact hb | ((with_reducible refine Blk.newAt _ _ _ ?_); first | with_reducible rfl | (simp; done)) | with_reducible refine Blk.alloc ?_ _ | with_reducible refine Blk.drewN ?_ _ | with_reducible refine Blk.drew ?_ | ((with_reducible refine Blk.other ?_ _ ?_); rotate_left; ((try dsimp only); omega)) | with_reducible refine Blk.setB (cs0 := ?_) ?_ ?_))) (by omega)
  have hz1 : w.heap.size + 2 ≤ w1.heap.size := by have := hk1.size; (try simp at this); omega
  obtain ⟨l10, l11, l12, l13, l14, l15, l16, l17, l18, l1f⟩ := hL1.c9
  generalize hy : varF s (i, false) = y at *
  obtain ⟨y, yi, yb⟩ := y
  dsimp only at *
  have hb1 : Blk w1 r [.string s, .int .i64 yi, .bool yb, nv, iv, .int .i64 lp] 45 := hB1
  obtain ⟨p10, p11, p12, _, _, _, p1f⟩ := hB1.c6
  generalize hd : pk s yi = d2 at *
  have HD := hide hd
  clear hd
  go_wp2_with fail
  refine (peek_c r yi s yb nv iv lp _ (by (repeat' (first | ((with_reducible show (_ : List Value) = _); rfl) | with_reducible exact hb1 | ((with_reducible refine Blk.newAt _ _ _ ?_); first | with_reducible rfl | (simp; done)) | with_reducible refine Blk.alloc ?_ _ | with_reducible refine Blk.drewN ?_ _ | with_reducible refine Blk.drew ?_ | ((with_reducible refine Blk.other ?_ _ ?_); rotate_left; ((try dsimp only); omega)) | with_reducible refine Blk.setB (cs0 := ?_) ?_ ?_)))).mono ?_
  rw [HD.out]
  rintro e w2 ⟨rfl, nq2, rfl⟩
  subst h3 h4
  go_wp2_with fail
  refine (kind_c r (yi + 1) s false nv iv lp _ hs hi1 ?_).mono ?_
  · show Blk _ _ _ _
    (repeat' (first | ((with_reducible show (_ : List Value) = _); rfl) | with_reducible exact hb1 | ((with_reducible refine Blk.newAt _ _ _ ?_); first | with_reducible rfl | (simp; done)) | with_reducible refine Blk.alloc ?_ _ | with_reducible refine Blk.drewN ?_ _ | with_reducible refine Blk.drew ?_ | ((with_reducible refine Blk.other ?_ _ ?_); rotate_left; ((try dsimp only); omega)) | with_reducible refine Blk.setB (cs0 := ?_) ?_ ?_))
  rintro e w2 ⟨rfl, hB2, hk2⟩
  have hL2 : Blk w2 (w.heap.size + 1) [.int .u8 58, .int .i64 0, .int .i64 y, .int .i64 0, .int .u8 0, .int .i64 0, .int .i64 0, .int .i64 i, .int .i64 0] 63 := hk2.blk (by (repeat' (first | ((with_reducible show (_ : List Value) = _); rfl) | with_reducible exact hL1 | ((with_reducible refine Blk.newAt _ _ _ ?_); first | with_reducible rfl | (simp; done)) | with_reducible refine Blk.alloc ?_ _ | with_reducible refine Blk.drewN ?_ _ | with_reducible refine Blk.drew ?_ | ((with_reducible refine Blk.other ?_ _ ?_); rotate_left; ((try dsimp only); omega)) | with_reducible refine Blk.setB (cs0 := ?_) ?_ ?_))) (by omega)
  have hR2 : Blk w2 (w.heap.size) [.int .u8 0, .int .i64 0, .int .i64 0, .int .i64 0, .int .u8 0, .int .i64 0, .int .i64 0, .int .i64 0, .int .i64 0] 63 := hk2.blk (by (repeat' (first | ((with_reducible show (_ : List Value) = _); rfl) | with_reducible exact hR1 | ((with_reducible refine Blk.newAt _ _ _ ?_); first | with_reducible rfl | (simp; done)) | with_reducible refine Blk.alloc ?_ _ | with_reducible refine Blk.drewN ?_ _ | with_reducible refine Blk.drew ?_ | ((with_reducible refine Blk.other ?_ _ ?_); rotate_left; ((try dsimp only); omega)) | with_reducible refine Blk.setB (cs0 := ?_) ?_ ?_))) (by omega)
  have hz2 : w.heap.size + 2 ≤ w2.heap.size := by have := hk2.size; (try simp at this); omega
  obtain ⟨l20, l21, l22, l23, l24, l25, l26, l27, l28, l2f⟩ := hL2.c9
  generalize hk : kindF s (yi + 1, false) = z at *
  obtain ⟨k, zi, zb⟩ := z
  dsimp only at hv
  have hb2 : Blk w2 r [.string s, .int .i64 zi, .bool zb, nv, iv, .int .i64 lp] 45 := hB2
  go_wp2
  refine wp_gen (fun W => RB W r s (zi, zb) nv iv lp ∧ Blk W (w.heap.size) [.int .u8 0, .int .i64 0, .int .i64 0, .int .i64 0, .int .u8 0, .int .i64 0, .int .i64 0, .int .i64 0, .int .i64 0] 63 ∧ Blk W (w.heap.size + 1) [.int .u8 58, .int .i64 0, .int .i64 y, .int .i64 0, .int .u8 k, .int .i64 0, .int .i64 0, .int .i64 i, .int .i64 0] 63 ∧ Kp (· = r) w W) ⟨by (show Blk _ _ _ _); (repeat' (first | ((with_reducible show (_ : List Value) = _); rfl) | with_reducible exact hb2 | ((with_reducible refine Blk.newAt _ _ _ ?_); first | with_reducible rfl | (simp; done)) | with_reducible refine Blk.alloc ?_ _ | with_reducible refine Blk.drewN ?_ _ | with_reducible refine Blk.drew ?_ | ((with_reducible refine Blk.other ?_ _ ?_); rotate_left; ((try dsimp only); omega)) | with_reducible refine Blk.setB (cs0 := ?_) ?_ ?_)), by (repeat' (first | ((with_reducible show (_ : List Value) = _); rfl) | with_reducible exact hR2 | ((with_reducible refine Blk.newAt _ _ _ ?_); first | with_reducible rfl | (simp; done)) | with_reducible refine Blk.alloc ?_ _ | with_reducible refine Blk.drewN ?_ _ | with_reducible refine Blk.drew ?_ | ((with_reducible refine Blk.other ?_ _ ?_); rotate_left; ((try dsimp only); omega)) | with_reducible refine Blk.setB (cs0 := ?_) ?_ ?_)), by (repeat' (first | ((with_reducible show (_ : List Value) = _); rfl) | with_reducible exact hL2 | ((with_reducible refine Blk.newAt _ _ _ ?_); first | with_reducible rfl | (simp; done)) | with_reducible refine Blk.alloc ?_ _ | with_reducible refine Blk.drewN ?_ _ | with_reducible refine Blk.drew ?_ | ((with_reducible refine Blk.other ?_ _ ?_); rotate_left; ((try dsimp only); omega)) | with_reducible refine Blk.setB (cs0 := ?_) ?_ ?_)), by (repeat' (first | with_reducible exact Kp.refl _ _ | with_reducible refine Kp.alloc ?_ _ | with_reducible refine Kp.drewN ?_ _ | with_reducible refine Kp.drew ?_ | with_reducible refine Kp.setCell ?_ _ ?_ | with_reducible refine Kp.trans ?_ hk1 (fun _ _ e => e) | with_reducible refine Kp.trans ?_ hk2 (fun _ _ e => e) | (intro hh; first | rfl | exact .inl rfl | exact .inr rfl | (exfalso; (try dsimp only at hh); omega))))⟩ ?_
  rintro W ⟨hB, hR, hL, hk⟩
  obtain ⟨x0, x1, x2, x3, x4, x5, x6, x7, x8, xf⟩ := hL.c9
  obtain ⟨z0, z1, z2, z3, z4, z5, z6, z7, z8, zf⟩ := hR.c9
  obtain ⟨q0, q1, q2, _, _, _, qf⟩ := hB.c6
  go_region
  go_wp2
  refine body_agg (Tb := 63) (b := w.heap.size) (cs := [.int .u8 58, .int .i64 0, .int .i64 y, .int .i64 0, .int .u8 k, .int .i64 0, .int .i64 0, .int .i64 i, .int .i64 ((zi : Int) - i)]) (.inr rfl) Tryz.results66 rfl rfl (by (repeat' (first | ((with_reducible show (_ : List Value) = _); rfl) | with_reducible exact hR | ((with_reducible refine Blk.newAt _ _ _ ?_); first | with_reducible rfl | (simp; done)) | with_reducible refine Blk.alloc ?_ _ | with_reducible refine Blk.drewN ?_ _ | with_reducible refine Blk.drew ?_ | ((with_reducible refine Blk.other ?_ _ ?_); rotate_left; ((try dsimp only); omega)) | with_reducible refine Blk.setB (cs0 := ?_) ?_ ?_))) Tryz.underlying63 rfl (by kernel_rfl) ?_
  rw [HV.out]
  refine ⟨rfl, ?_, ?_⟩
  · have hb1 : Blk W r [.string s, .int .i64 ((zi, zb)).1, .bool ((zi, zb)).2, nv, iv, .int .i64 lp] 45 := hB
    show Blk _ _ _ _
    (repeat' (first | ((with_reducible show (_ : List Value) = _); rfl) | with_reducible exact hb1 | ((with_reducible refine Blk.newAt _ _ _ ?_); first | with_reducible rfl | (simp; done)) | with_reducible refine Blk.alloc ?_ _ | with_reducible refine Blk.drewN ?_ _ | with_reducible refine Blk.drew ?_ | ((with_reducible refine Blk.other ?_ _ ?_); rotate_left; ((try dsimp only); omega)) | with_reducible refine Blk.setB (cs0 := ?_) ?_ ?_))
  · (repeat' (first | with_reducible exact Kp.refl _ _ | with_reducible refine Kp.alloc ?_ _ | with_reducible refine Kp.drewN ?_ _ | with_reducible refine Kp.drew ?_ | with_reducible refine Kp.setCell ?_ _ ?_ | with_reducible refine Kp.trans ?_ hk (fun _ _ e => e) | (intro hh; first | rfl | exact .inl rfl | exact .inr rfl | (exfalso; (try dsimp only at hh); omega))))

set_option maxHeartbeats 1600000 in
theorem test_truth (r i : Nat) (s : ByteArray) (nv iv : Value) (lp : Int) (w : World) (hs : s.size ≤ 1000) (hi : i ≤ s.size)
    (h : RB w r s (i, false) nv iv lp) (h3 : ¬ ((varF s (i, false)).2.2 = false ∧ pk s (varF s (i, false)).2.1 = 58)) :
    Calls Tryz.prog 66 #[.pointer (some ⟨r, 0, none⟩)] w fun e w' =>
      e = .returned (.agg (testF s i).1.cells.toArray) ∧ RB w' r s (testF s i).2 nv iv lp ∧ Kp (· = r) w w' := by
  have HB := hide h
  have HV := hide (show testF s i = ({ ty0 i with y := (varF s (i, false)).1, l := ((varF s (i, false)).2.1 : Int) - i }, (varF s (i, false)).2) by simp [testF, h3])
  have hr := h.lt
  have hv := varF_le s (i, false) hi
  obtain ⟨c0, c1, c2, _, _, _, cf⟩ := h.c6
  clear h
  have hb : Blk w r [.string s, .int .i64 i, .bool false, nv, iv, .int .i64 lp] 45 := HB.out
  go_enter Tryz.func66, Tryz.ntmps66
  go_wp2_with fail
  refine (variable_c r i s false nv iv lp _ hs hi ?_).mono ?_
  · show Blk _ _ _ _
    (repeat' (first | ((with_reducible show (_ : List Value) = _); rfl) | with_reducible exact hb | ((with_reducible refine Blk.newAt _ _ _ ?_); first | with_reducible rfl | (simp; done)) | with_reducible refine Blk.alloc ?_ _ | with_reducible refine Blk.drewN ?_ _ | with_reducible refine Blk.drew ?_ | ((with_reducible refine Blk.other ?_ _ ?_); rotate_left; ((try dsimp only); omega)) | with_reducible refine Blk.setB (cs0 := ?_) ?_ ?_))
  rintro e w1 ⟨rfl, hB1, hk1⟩
  have hL1 : Blk w1 (w.heap.size + 1) [.int .u8 121, .int .i64 0, .int .i64 0, .int .i64 0, .int .u8 0, .int .i64 0, .int .i64 0, .int .i64 i, .int .i64 0] 63 := hk1.blk (by (repeat' (first | ((with_reducible show (_ : List Value) = _); rfl) | with_reducible exact hb | ((with_reducible refine Blk.newAt _ _ _ ?_); first | with_reducible rfl | (simp; done)) | with_reducible refine Blk.alloc ?_ _ | with_reducible refine Blk.drewN ?_ _ | with_reducible refine Blk.drew ?_ | ((with_reducible refine Blk.other ?_ _ ?_); rotate_left; ((try dsimp only); omega)) | with_reducible refine Blk.setB (cs0 := ?_) ?_ ?_))) (by omega)
  have hR1 : Blk w1 (w.heap.size) [.int .u8 0, .int .i64 0, .int .i64 0, .int .i64 0, .int .u8 0, .int .i64 0, .int .i64 0, .int .i64 0, .int .i64 0] 63 := hk1.blk (by (repeat' (first | ((with_reducible show (_ : List Value) = _); rfl) | with_reducible exact hb | ((with_reducible refine Blk.newAt _ _ _ ?_); first | with_reducible rfl | (simp; done)) | with_reducible refine Blk.alloc ?_ _ | with_reducible refine Blk.drewN ?_ _ | with_reducible refine Blk.drew ?_ | ((with_reducible refine Blk.other ?_ _ ?_); rotate_left; ((try dsimp only); omega)) | with_reducible refine Blk.setB (cs0 := ?_) ?_ ?_))) (by omega)
  have hz1 : w.heap.size + 2 ≤ w1.heap.size := by have := hk1.size; (try simp at this); omega
  obtain ⟨l10, l11, l12, l13, l14, l15, l16, l17, l18, l1f⟩ := hL1.c9
  generalize hy : varF s (i, false) = y at *
  obtain ⟨y, yi, yb⟩ := y
  dsimp only at *
  have hb1 : Blk w1 r [.string s, .int .i64 yi, .bool yb, nv, iv, .int .i64 lp] 45 := hB1
  obtain ⟨p10, p11, p12, _, _, _, p1f⟩ := hB1.c6
  generalize hd : pk s yi = d2 at *
  have HD := hide hd
  clear hd
  go_wp2_with fail
  refine (peek_c r yi s yb nv iv lp _ (by (repeat' (first | ((with_reducible show (_ : List Value) = _); rfl) | with_reducible exact hb1 | ((with_reducible refine Blk.newAt _ _ _ ?_); first | with_reducible rfl | (simp; done)) | with_reducible refine Blk.alloc ?_ _ | with_reducible refine Blk.drewN ?_ _ | with_reducible refine Blk.drew ?_ | ((with_reducible refine Blk.other ?_ _ ?_); rotate_left; ((try dsimp only); omega)) | with_reducible refine Blk.setB (cs0 := ?_) ?_ ?_)))).mono ?_
  rw [HD.out]
  rintro e w2 ⟨rfl, nq2, rfl⟩
  cases yb
  case true =>
      go_wp2
      refine wp_gen (fun W => RB W r s (yi, true) nv iv lp ∧ Blk W (w.heap.size) [.int .u8 0, .int .i64 0, .int .i64 0, .int .i64 0, .int .u8 0, .int .i64 0, .int .i64 0, .int .i64 0, .int .i64 0] 63 ∧ Blk W (w.heap.size + 1) [.int .u8 121, .int .i64 0, .int .i64 y, .int .i64 0, .int .u8 0, .int .i64 0, .int .i64 0, .int .i64 i, .int .i64 0] 63 ∧ Kp (· = r) w W) ⟨by (show Blk _ _ _ _); (repeat' (first | ((with_reducible show (_ : List Value) = _); rfl) | with_reducible exact hb1 | ((with_reducible refine Blk.newAt _ _ _ ?_); first | with_reducible rfl | (simp; done)) | with_reducible refine Blk.alloc ?_ _ | with_reducible refine Blk.drewN ?_ _ | with_reducible refine Blk.drew ?_ | ((with_reducible refine Blk.other ?_ _ ?_); rotate_left; ((try dsimp only); omega)) | with_reducible refine Blk.setB (cs0 := ?_) ?_ ?_)), by (repeat' (first | ((with_reducible show (_ : List Value) = _); rfl) | with_reducible exact hR1 | ((with_reducible refine Blk.newAt _ _ _ ?_); first | with_reducible rfl | (simp; done)) | with_reducible refine Blk.alloc ?_ _ | with_reducible refine Blk.drewN ?_ _ | with_reducible refine Blk.drew ?_ | ((with_reducible refine Blk.other ?_ _ ?_); rotate_left; ((try dsimp only); omega)) | with_reducible refine Blk.setB (cs0 := ?_) ?_ ?_)), by (repeat' (first | ((with_reducible show (_ : List Value) = _); rfl) | with_reducible exact hL1 | ((with_reducible refine Blk.newAt _ _ _ ?_); first | with_reducible rfl | (simp; done)) | with_reducible refine Blk.alloc ?_ _ | with_reducible refine Blk.drewN ?_ _ | with_reducible refine Blk.drew ?_ | ((with_reducible refine Blk.other ?_ _ ?_); rotate_left; ((try dsimp only); omega)) | with_reducible refine Blk.setB (cs0 := ?_) ?_ ?_)), by (repeat' (first | with_reducible exact Kp.refl _ _ | with_reducible refine Kp.alloc ?_ _ | with_reducible refine Kp.drewN ?_ _ | with_reducible refine Kp.drew ?_ | with_reducible refine Kp.setCell ?_ _ ?_ | with_reducible refine Kp.trans ?_ hk1 (fun _ _ e => e) | (intro hh; first | rfl | exact .inl rfl | exact .inr rfl | (exfalso; (try dsimp only at hh); omega))))⟩ ?_
      rintro W ⟨hB, hR, hL, hk⟩
      obtain ⟨x0, x1, x2, x3, x4, x5, x6, x7, x8, xf⟩ := hL.c9
      obtain ⟨z0, z1, z2, z3, z4, z5, z6, z7, z8, zf⟩ := hR.c9
      obtain ⟨q0, q1, q2, _, _, _, qf⟩ := hB.c6
      go_region
      go_wp2
      refine body_agg (Tb := 63) (b := w.heap.size) (cs := [.int .u8 121, .int .i64 0, .int .i64 y, .int .i64 0, .int .u8 0, .int .i64 0, .int .i64 0, .int .i64 i, .int .i64 ((yi : Int) - i)]) (.inr rfl) Tryz.results66 rfl rfl (by (repeat' (first | ((with_reducible show (_ : List Value) = _); rfl) | with_reducible exact hR | ((with_reducible refine Blk.newAt _ _ _ ?_); first | with_reducible rfl | (simp; done)) | with_reducible refine Blk.alloc ?_ _ | with_reducible refine Blk.drewN ?_ _ | with_reducible refine Blk.drew ?_ | ((with_reducible refine Blk.other ?_ _ ?_); rotate_left; ((try dsimp only); omega)) | with_reducible refine Blk.setB (cs0 := ?_) ?_ ?_))) Tryz.underlying63 rfl (by kernel_rfl) ?_
      rw [HV.out]
      refine ⟨rfl, ?_, ?_⟩
      · have hb1 : Blk W r [.string s, .int .i64 ((yi, true)).1, .bool ((yi, true)).2, nv, iv, .int .i64 lp] 45 := hB
        show Blk _ _ _ _
        (repeat' (first | ((with_reducible show (_ : List Value) = _); rfl) | with_reducible exact hb1 | ((with_reducible refine Blk.newAt _ _ _ ?_); first | with_reducible rfl | (simp; done)) | with_reducible refine Blk.alloc ?_ _ | with_reducible refine Blk.drewN ?_ _ | with_reducible refine Blk.drew ?_ | ((with_reducible refine Blk.other ?_ _ ?_); rotate_left; ((try dsimp only); omega)) | with_reducible refine Blk.setB (cs0 := ?_) ?_ ?_))
      · (repeat' (first | with_reducible exact Kp.refl _ _ | with_reducible refine Kp.alloc ?_ _ | with_reducible refine Kp.drewN ?_ _ | with_reducible refine Kp.drew ?_ | with_reducible refine Kp.setCell ?_ _ ?_ | with_reducible refine Kp.trans ?_ hk (fun _ _ e => e) | (intro hh; first | rfl | exact .inl rfl | exact .inr rfl | (exfalso; (try dsimp only at hh); omega))))
  case false =>
      have hne : ((d2 : Int) == 58) = false := by simp at h3 ⊢; omega
      go_wp2
      refine wp_gen (fun W => RB W r s (yi, false) nv iv lp ∧ Blk W (w.heap.size) [.int .u8 0, .int .i64 0, .int .i64 0, .int .i64 0, .int .u8 0, .int .i64 0, .int .i64 0, .int .i64 0, .int .i64 0] 63 ∧ Blk W (w.heap.size + 1) [.int .u8 121, .int .i64 0, .int .i64 y, .int .i64 0, .int .u8 0, .int .i64 0, .int .i64 0, .int .i64 i, .int .i64 0] 63 ∧ Kp (· = r) w W) ⟨by (show Blk _ _ _ _); (repeat' (first | ((with_reducible show (_ : List Value) = _); rfl) | with_reducible exact hb1 | ((with_reducible refine Blk.newAt _ _ _ ?_); first | with_reducible rfl | (simp; done)) | with_reducible refine Blk.alloc ?_ _ | with_reducible refine Blk.drewN ?_ _ | with_reducible refine Blk.drew ?_ | ((with_reducible refine Blk.other ?_ _ ?_); rotate_left; ((try dsimp only); omega)) | with_reducible refine Blk.setB (cs0 := ?_) ?_ ?_)), by (repeat' (first | ((with_reducible show (_ : List Value) = _); rfl) | with_reducible exact hR1 | ((with_reducible refine Blk.newAt _ _ _ ?_); first | with_reducible rfl | (simp; done)) | with_reducible refine Blk.alloc ?_ _ | with_reducible refine Blk.drewN ?_ _ | with_reducible refine Blk.drew ?_ | ((with_reducible refine Blk.other ?_ _ ?_); rotate_left; ((try dsimp only); omega)) | with_reducible refine Blk.setB (cs0 := ?_) ?_ ?_)), by (repeat' (first | ((with_reducible show (_ : List Value) = _); rfl) | with_reducible exact hL1 | ((with_reducible refine Blk.newAt _ _ _ ?_); first | with_reducible rfl | (simp; done)) | with_reducible refine Blk.alloc ?_ _ | with_reducible refine Blk.drewN ?_ _ | with_reducible refine Blk.drew ?_ | ((with_reducible refine Blk.other ?_ _ ?_); rotate_left; ((try dsimp only); omega)) | with_reducible refine Blk.setB (cs0 := ?_) ?_ ?_)), by (repeat' (first | with_reducible exact Kp.refl _ _ | with_reducible refine Kp.alloc ?_ _ | with_reducible refine Kp.drewN ?_ _ | with_reducible refine Kp.drew ?_ | with_reducible refine Kp.setCell ?_ _ ?_ | with_reducible refine Kp.trans ?_ hk1 (fun _ _ e => e) | (intro hh; first | rfl | exact .inl rfl | exact .inr rfl | (exfalso; (try dsimp only at hh); omega))))⟩ ?_
      rintro W ⟨hB, hR, hL, hk⟩
      obtain ⟨x0, x1, x2, x3, x4, x5, x6, x7, x8, xf⟩ := hL.c9
      obtain ⟨z0, z1, z2, z3, z4, z5, z6, z7, z8, zf⟩ := hR.c9
      obtain ⟨q0, q1, q2, _, _, _, qf⟩ := hB.c6
      go_region
      go_wp2
      refine body_agg (Tb := 63) (b := w.heap.size) (cs := [.int .u8 121, .int .i64 0, .int .i64 y, .int .i64 0, .int .u8 0, .int .i64 0, .int .i64 0, .int .i64 i, .int .i64 ((yi : Int) - i)]) (.inr rfl) Tryz.results66 rfl rfl (by (repeat' (first | ((with_reducible show (_ : List Value) = _); rfl) | with_reducible exact hR | ((with_reducible refine Blk.newAt _ _ _ ?_); first | with_reducible rfl | (simp; done)) | with_reducible refine Blk.alloc ?_ _ | with_reducible refine Blk.drewN ?_ _ | with_reducible refine Blk.drew ?_ | ((with_reducible refine Blk.other ?_ _ ?_); rotate_left; ((try dsimp only); omega)) | with_reducible refine Blk.setB (cs0 := ?_) ?_ ?_))) Tryz.underlying63 rfl (by kernel_rfl) ?_
      rw [HV.out]
      refine ⟨rfl, ?_, ?_⟩
      · have hb1 : Blk W r [.string s, .int .i64 ((yi, false)).1, .bool ((yi, false)).2, nv, iv, .int .i64 lp] 45 := hB
        show Blk _ _ _ _
        (repeat' (first | ((with_reducible show (_ : List Value) = _); rfl) | with_reducible exact hb1 | ((with_reducible refine Blk.newAt _ _ _ ?_); first | with_reducible rfl | (simp; done)) | with_reducible refine Blk.alloc ?_ _ | with_reducible refine Blk.drewN ?_ _ | with_reducible refine Blk.drew ?_ | ((with_reducible refine Blk.other ?_ _ ?_); rotate_left; ((try dsimp only); omega)) | with_reducible refine Blk.setB (cs0 := ?_) ?_ ?_))
      · (repeat' (first | with_reducible exact Kp.refl _ _ | with_reducible refine Kp.alloc ?_ _ | with_reducible refine Kp.drewN ?_ _ | with_reducible refine Kp.drew ?_ | with_reducible refine Kp.setCell ?_ _ ?_ | with_reducible refine Kp.trans ?_ hk (fun _ _ e => e) | (intro hh; first | rfl | exact .inl rfl | exact .inr rfl | (exfalso; (try dsimp only at hh); omega))))

theorem test_c (r i : Nat) (s : ByteArray) (nv iv : Value) (lp : Int) (w : World) (hs : s.size ≤ 1000) (hi : i ≤ s.size)
    (h : RB w r s (i, false) nv iv lp) :
    Calls Tryz.prog 66 #[.pointer (some ⟨r, 0, none⟩)] w fun e w' =>
      e = .returned (.agg (testF s i).1.cells.toArray) ∧ RB w' r s (testF s i).2 nv iv lp ∧ Kp (· = r) w w' := by
  by_cases h3 : (varF s (i, false)).2.2 = false ∧ pk s (varF s (i, false)).2.1 = 58
  · exact test_kind r i s nv iv lp w hs hi h h3.1 h3.2
  · exact test_truth r i s nv iv lp w hs hi h h3
end Go.Proofs.YtellieabhaphhaaGreatDoor
