import Derived.Test.YtellieabhaphhabGreatDoorPPrunedJ
/-
  narrow's run: its variables, its input.
-/
namespace Go.Proofs.YtellieabhaphhabGreatDoor
open Go.RowKit

theorem ntell_c {w : World} {r : Nat} {inp : ByteArray} {m : Mc} (n : Nat) (hn : n < 100) (h : NB w r inp m) (ht : m.tr.size ≤ 100000) (hk : ∀ u ∈ m.l, VW u) :
    Calls Tryz.prog 47 #[.pointer (some ⟨r, 0, none⟩), .int .i64 n] w fun e w' => e = .returned (.tuple #[]) ∧ NB w' r inp { m with tr := m.tr ++ toldB n m.l ++ sp } ∧ Kp (· = r) w w' := by
  obtain ⟨hb, h6⟩ := h
  obtain ⟨l, rd, left, tr, outp, me⟩ := m
  dsimp only at *
  obtain ⟨a, b, c, d, e, f, rfl⟩ := six_of h6
  have hu : ∀ u ∈ [a, b, c, d, e, f], ∀ W, Calls Tryz.prog 85 #[.int .i64 (bit u.k)] W fun e w' => e = .returned (.string (strOfNums [u.k])) ∧ w' = W := fun u hu W => nkindSign_c u.k (hk u hu).k W
  refine (ntell_at r n inp tr outp rd (bit a.k) a.n (bit a.v) (bit b.k) b.n (bit b.v) (bit c.k) c.n (bit c.v) (bit d.k) d.n (bit d.v) (bit e.k) e.n (bit e.v) (bit f.k) f.n (bit f.v) a.k b.k c.k d.k e.k f.k w hn ht hb (hu a (by simp)) (hu b (by simp)) (hu c (by simp)) (hu d (by simp)) (hu e (by simp)) (hu f (by simp))).mono ?_
  rintro x w' ⟨rfl, hb', k'⟩
  exact ⟨rfl, ⟨hb', rfl⟩, k'⟩

set_option maxHeartbeats 800000 in
theorem nvalueOf_0 (r : Nat) (inp tr outp : ByteArray) (rd : Int) (k0 n0 v0 k1 n1 v1 k2 n2 v2 k3 n3 v3 k4 n4 v4 k5 n5 v5 : Int) (w : World) (hb : Blk w r [.int .i64 k0, .int .i64 n0, .int .i64 v0, .int .i64 k1, .int .i64 n1, .int .i64 v1, .int .i64 k2, .int .i64 n2, .int .i64 v2, .int .i64 k3, .int .i64 n3, .int .i64 v3, .int .i64 k4, .int .i64 n4, .int .i64 v4, .int .i64 k5, .int .i64 n5, .int .i64 v5, .string inp, .int .i64 rd, .string tr, .string outp] 91) :
    Calls Tryz.prog 86 #[.pointer (some ⟨r, 0, none⟩), .int .i64 0] w fun e w' => e = .returned (.agg #[.int .i64 k0, .int .i64 n0, .int .i64 v0]) ∧ Kp no w w' := by
  obtain ⟨c0, c1, c2, c3, c4, c5, c6, c7, c8, c9, c10, c11, c12, c13, c14, c15, c16, c17, c18, c19, c20, c21, cf⟩ := hb.c22
  have hr := hb.lt
  clear hb c3 c4 c5 c6 c7 c8 c9 c10 c11 c12 c13 c14 c15 c16 c17 c18 c19 c20 c21
  go_enter Tryz.func86, Tryz.ntmps86
  go_wp2
  refine body_agg (Tb := 66) (b := w.heap.size) (cs := [.int .i64 k0, .int .i64 n0, .int .i64 v0]) (.inr rfl) Tryz.results86 rfl rfl (by (repeat' (first | ((with_reducible show (_ : List Value) = _); rfl) | ((with_reducible refine Blk.newAt _ _ _ ?_); first | with_reducible rfl | (simp; done)) | with_reducible refine Blk.alloc ?_ _ | with_reducible refine Blk.drewN ?_ _ | with_reducible refine Blk.drew ?_ | ((with_reducible refine Blk.other ?_ _ ?_); rotate_left; ((try dsimp only); omega)) | with_reducible refine Blk.setB (cs0 := ?_) ?_ ?_))) Tryz.underlying66 rfl (by kernel_rfl) ?_
  exact ⟨rfl, by (repeat' (first | with_reducible exact Kp.refl _ _ | with_reducible refine Kp.alloc ?_ _ | with_reducible refine Kp.drewN ?_ _ | with_reducible refine Kp.drew ?_ | with_reducible refine Kp.setCell ?_ _ ?_ | (intro hh; first | rfl | exact .inl rfl | exact .inr rfl | (exfalso; (try dsimp only at hh); omega))))⟩

set_option maxHeartbeats 800000 in
theorem nvalueOf_1 (r : Nat) (inp tr outp : ByteArray) (rd : Int) (k0 n0 v0 k1 n1 v1 k2 n2 v2 k3 n3 v3 k4 n4 v4 k5 n5 v5 : Int) (w : World) (hb : Blk w r [.int .i64 k0, .int .i64 n0, .int .i64 v0, .int .i64 k1, .int .i64 n1, .int .i64 v1, .int .i64 k2, .int .i64 n2, .int .i64 v2, .int .i64 k3, .int .i64 n3, .int .i64 v3, .int .i64 k4, .int .i64 n4, .int .i64 v4, .int .i64 k5, .int .i64 n5, .int .i64 v5, .string inp, .int .i64 rd, .string tr, .string outp] 91) :
    Calls Tryz.prog 86 #[.pointer (some ⟨r, 0, none⟩), .int .i64 1] w fun e w' => e = .returned (.agg #[.int .i64 k1, .int .i64 n1, .int .i64 v1]) ∧ Kp no w w' := by
  obtain ⟨c0, c1, c2, c3, c4, c5, c6, c7, c8, c9, c10, c11, c12, c13, c14, c15, c16, c17, c18, c19, c20, c21, cf⟩ := hb.c22
  have hr := hb.lt
  clear hb c0 c1 c2 c6 c7 c8 c9 c10 c11 c12 c13 c14 c15 c16 c17 c18 c19 c20 c21
  go_enter Tryz.func86, Tryz.ntmps86
  go_wp2
  refine body_agg (Tb := 66) (b := w.heap.size) (cs := [.int .i64 k1, .int .i64 n1, .int .i64 v1]) (.inr rfl) Tryz.results86 rfl rfl (by (repeat' (first | ((with_reducible show (_ : List Value) = _); rfl) | ((with_reducible refine Blk.newAt _ _ _ ?_); first | with_reducible rfl | (simp; done)) | with_reducible refine Blk.alloc ?_ _ | with_reducible refine Blk.drewN ?_ _ | with_reducible refine Blk.drew ?_ | ((with_reducible refine Blk.other ?_ _ ?_); rotate_left; ((try dsimp only); omega)) | with_reducible refine Blk.setB (cs0 := ?_) ?_ ?_))) Tryz.underlying66 rfl (by kernel_rfl) ?_
  exact ⟨rfl, by (repeat' (first | with_reducible exact Kp.refl _ _ | with_reducible refine Kp.alloc ?_ _ | with_reducible refine Kp.drewN ?_ _ | with_reducible refine Kp.drew ?_ | with_reducible refine Kp.setCell ?_ _ ?_ | (intro hh; first | rfl | exact .inl rfl | exact .inr rfl | (exfalso; (try dsimp only at hh); omega))))⟩

set_option maxHeartbeats 800000 in
theorem nvalueOf_2 (r : Nat) (inp tr outp : ByteArray) (rd : Int) (k0 n0 v0 k1 n1 v1 k2 n2 v2 k3 n3 v3 k4 n4 v4 k5 n5 v5 : Int) (w : World) (hb : Blk w r [.int .i64 k0, .int .i64 n0, .int .i64 v0, .int .i64 k1, .int .i64 n1, .int .i64 v1, .int .i64 k2, .int .i64 n2, .int .i64 v2, .int .i64 k3, .int .i64 n3, .int .i64 v3, .int .i64 k4, .int .i64 n4, .int .i64 v4, .int .i64 k5, .int .i64 n5, .int .i64 v5, .string inp, .int .i64 rd, .string tr, .string outp] 91) :
    Calls Tryz.prog 86 #[.pointer (some ⟨r, 0, none⟩), .int .i64 2] w fun e w' => e = .returned (.agg #[.int .i64 k2, .int .i64 n2, .int .i64 v2]) ∧ Kp no w w' := by
  obtain ⟨c0, c1, c2, c3, c4, c5, c6, c7, c8, c9, c10, c11, c12, c13, c14, c15, c16, c17, c18, c19, c20, c21, cf⟩ := hb.c22
  have hr := hb.lt
  clear hb c0 c1 c2 c3 c4 c5 c9 c10 c11 c12 c13 c14 c15 c16 c17 c18 c19 c20 c21
  go_enter Tryz.func86, Tryz.ntmps86
  go_wp2
  refine body_agg (Tb := 66) (b := w.heap.size) (cs := [.int .i64 k2, .int .i64 n2, .int .i64 v2]) (.inr rfl) Tryz.results86 rfl rfl (by (repeat' (first | ((with_reducible show (_ : List Value) = _); rfl) | ((with_reducible refine Blk.newAt _ _ _ ?_); first | with_reducible rfl | (simp; done)) | with_reducible refine Blk.alloc ?_ _ | with_reducible refine Blk.drewN ?_ _ | with_reducible refine Blk.drew ?_ | ((with_reducible refine Blk.other ?_ _ ?_); rotate_left; ((try dsimp only); omega)) | with_reducible refine Blk.setB (cs0 := ?_) ?_ ?_))) Tryz.underlying66 rfl (by kernel_rfl) ?_
  exact ⟨rfl, by (repeat' (first | with_reducible exact Kp.refl _ _ | with_reducible refine Kp.alloc ?_ _ | with_reducible refine Kp.drewN ?_ _ | with_reducible refine Kp.drew ?_ | with_reducible refine Kp.setCell ?_ _ ?_ | (intro hh; first | rfl | exact .inl rfl | exact .inr rfl | (exfalso; (try dsimp only at hh); omega))))⟩

set_option maxHeartbeats 800000 in
theorem nvalueOf_3 (r : Nat) (inp tr outp : ByteArray) (rd : Int) (k0 n0 v0 k1 n1 v1 k2 n2 v2 k3 n3 v3 k4 n4 v4 k5 n5 v5 : Int) (w : World) (hb : Blk w r [.int .i64 k0, .int .i64 n0, .int .i64 v0, .int .i64 k1, .int .i64 n1, .int .i64 v1, .int .i64 k2, .int .i64 n2, .int .i64 v2, .int .i64 k3, .int .i64 n3, .int .i64 v3, .int .i64 k4, .int .i64 n4, .int .i64 v4, .int .i64 k5, .int .i64 n5, .int .i64 v5, .string inp, .int .i64 rd, .string tr, .string outp] 91) :
    Calls Tryz.prog 86 #[.pointer (some ⟨r, 0, none⟩), .int .i64 3] w fun e w' => e = .returned (.agg #[.int .i64 k3, .int .i64 n3, .int .i64 v3]) ∧ Kp no w w' := by
  obtain ⟨c0, c1, c2, c3, c4, c5, c6, c7, c8, c9, c10, c11, c12, c13, c14, c15, c16, c17, c18, c19, c20, c21, cf⟩ := hb.c22
  have hr := hb.lt
  clear hb c0 c1 c2 c3 c4 c5 c6 c7 c8 c12 c13 c14 c15 c16 c17 c18 c19 c20 c21
  go_enter Tryz.func86, Tryz.ntmps86
  go_wp2
  refine body_agg (Tb := 66) (b := w.heap.size) (cs := [.int .i64 k3, .int .i64 n3, .int .i64 v3]) (.inr rfl) Tryz.results86 rfl rfl (by (repeat' (first | ((with_reducible show (_ : List Value) = _); rfl) | ((with_reducible refine Blk.newAt _ _ _ ?_); first | with_reducible rfl | (simp; done)) | with_reducible refine Blk.alloc ?_ _ | with_reducible refine Blk.drewN ?_ _ | with_reducible refine Blk.drew ?_ | ((with_reducible refine Blk.other ?_ _ ?_); rotate_left; ((try dsimp only); omega)) | with_reducible refine Blk.setB (cs0 := ?_) ?_ ?_))) Tryz.underlying66 rfl (by kernel_rfl) ?_
  exact ⟨rfl, by (repeat' (first | with_reducible exact Kp.refl _ _ | with_reducible refine Kp.alloc ?_ _ | with_reducible refine Kp.drewN ?_ _ | with_reducible refine Kp.drew ?_ | with_reducible refine Kp.setCell ?_ _ ?_ | (intro hh; first | rfl | exact .inl rfl | exact .inr rfl | (exfalso; (try dsimp only at hh); omega))))⟩

set_option maxHeartbeats 800000 in
theorem nvalueOf_4 (r : Nat) (inp tr outp : ByteArray) (rd : Int) (k0 n0 v0 k1 n1 v1 k2 n2 v2 k3 n3 v3 k4 n4 v4 k5 n5 v5 : Int) (w : World) (hb : Blk w r [.int .i64 k0, .int .i64 n0, .int .i64 v0, .int .i64 k1, .int .i64 n1, .int .i64 v1, .int .i64 k2, .int .i64 n2, .int .i64 v2, .int .i64 k3, .int .i64 n3, .int .i64 v3, .int .i64 k4, .int .i64 n4, .int .i64 v4, .int .i64 k5, .int .i64 n5, .int .i64 v5, .string inp, .int .i64 rd, .string tr, .string outp] 91) :
    Calls Tryz.prog 86 #[.pointer (some ⟨r, 0, none⟩), .int .i64 4] w fun e w' => e = .returned (.agg #[.int .i64 k4, .int .i64 n4, .int .i64 v4]) ∧ Kp no w w' := by
  obtain ⟨c0, c1, c2, c3, c4, c5, c6, c7, c8, c9, c10, c11, c12, c13, c14, c15, c16, c17, c18, c19, c20, c21, cf⟩ := hb.c22
  have hr := hb.lt
  clear hb c0 c1 c2 c3 c4 c5 c6 c7 c8 c9 c10 c11 c15 c16 c17 c18 c19 c20 c21
  go_enter Tryz.func86, Tryz.ntmps86
  go_wp2
  refine body_agg (Tb := 66) (b := w.heap.size) (cs := [.int .i64 k4, .int .i64 n4, .int .i64 v4]) (.inr rfl) Tryz.results86 rfl rfl (by (repeat' (first | ((with_reducible show (_ : List Value) = _); rfl) | ((with_reducible refine Blk.newAt _ _ _ ?_); first | with_reducible rfl | (simp; done)) | with_reducible refine Blk.alloc ?_ _ | with_reducible refine Blk.drewN ?_ _ | with_reducible refine Blk.drew ?_ | ((with_reducible refine Blk.other ?_ _ ?_); rotate_left; ((try dsimp only); omega)) | with_reducible refine Blk.setB (cs0 := ?_) ?_ ?_))) Tryz.underlying66 rfl (by kernel_rfl) ?_
  exact ⟨rfl, by (repeat' (first | with_reducible exact Kp.refl _ _ | with_reducible refine Kp.alloc ?_ _ | with_reducible refine Kp.drewN ?_ _ | with_reducible refine Kp.drew ?_ | with_reducible refine Kp.setCell ?_ _ ?_ | (intro hh; first | rfl | exact .inl rfl | exact .inr rfl | (exfalso; (try dsimp only at hh); omega))))⟩

set_option maxHeartbeats 800000 in
theorem nvalueOf_5 (r : Nat) (inp tr outp : ByteArray) (rd : Int) (k0 n0 v0 k1 n1 v1 k2 n2 v2 k3 n3 v3 k4 n4 v4 k5 n5 v5 : Int) (w : World) (hb : Blk w r [.int .i64 k0, .int .i64 n0, .int .i64 v0, .int .i64 k1, .int .i64 n1, .int .i64 v1, .int .i64 k2, .int .i64 n2, .int .i64 v2, .int .i64 k3, .int .i64 n3, .int .i64 v3, .int .i64 k4, .int .i64 n4, .int .i64 v4, .int .i64 k5, .int .i64 n5, .int .i64 v5, .string inp, .int .i64 rd, .string tr, .string outp] 91) :
    Calls Tryz.prog 86 #[.pointer (some ⟨r, 0, none⟩), .int .i64 5] w fun e w' => e = .returned (.agg #[.int .i64 k5, .int .i64 n5, .int .i64 v5]) ∧ Kp no w w' := by
  obtain ⟨c0, c1, c2, c3, c4, c5, c6, c7, c8, c9, c10, c11, c12, c13, c14, c15, c16, c17, c18, c19, c20, c21, cf⟩ := hb.c22
  have hr := hb.lt
  clear hb c0 c1 c2 c3 c4 c5 c6 c7 c8 c9 c10 c11 c12 c13 c14 c18 c19 c20 c21
  go_enter Tryz.func86, Tryz.ntmps86
  go_wp2
  refine body_agg (Tb := 66) (b := w.heap.size) (cs := [.int .i64 k5, .int .i64 n5, .int .i64 v5]) (.inr rfl) Tryz.results86 rfl rfl (by (repeat' (first | ((with_reducible show (_ : List Value) = _); rfl) | ((with_reducible refine Blk.newAt _ _ _ ?_); first | with_reducible rfl | (simp; done)) | with_reducible refine Blk.alloc ?_ _ | with_reducible refine Blk.drewN ?_ _ | with_reducible refine Blk.drew ?_ | ((with_reducible refine Blk.other ?_ _ ?_); rotate_left; ((try dsimp only); omega)) | with_reducible refine Blk.setB (cs0 := ?_) ?_ ?_))) Tryz.underlying66 rfl (by kernel_rfl) ?_
  exact ⟨rfl, by (repeat' (first | with_reducible exact Kp.refl _ _ | with_reducible refine Kp.alloc ?_ _ | with_reducible refine Kp.drewN ?_ _ | with_reducible refine Kp.drew ?_ | with_reducible refine Kp.setCell ?_ _ ?_ | (intro hh; first | rfl | exact .inl rfl | exact .inr rfl | (exfalso; (try dsimp only at hh); omega))))⟩

set_option maxHeartbeats 800000 in
theorem nset_0 (r : Nat) (inp tr outp : ByteArray) (rd : Int) (k0 n0 v0 k1 n1 v1 k2 n2 v2 k3 n3 v3 k4 n4 v4 k5 n5 v5 a b c : Int) (w : World) (hb : Blk w r [.int .i64 k0, .int .i64 n0, .int .i64 v0, .int .i64 k1, .int .i64 n1, .int .i64 v1, .int .i64 k2, .int .i64 n2, .int .i64 v2, .int .i64 k3, .int .i64 n3, .int .i64 v3, .int .i64 k4, .int .i64 n4, .int .i64 v4, .int .i64 k5, .int .i64 n5, .int .i64 v5, .string inp, .int .i64 rd, .string tr, .string outp] 91) :
    Calls Tryz.prog 90 #[.pointer (some ⟨r, 0, none⟩), .int .i64 0, .agg #[.int .i64 a, .int .i64 b, .int .i64 c]] w fun e w' => e = .returned (.tuple #[]) ∧ Blk w' r [.int .i64 a, .int .i64 b, .int .i64 c, .int .i64 k1, .int .i64 n1, .int .i64 v1, .int .i64 k2, .int .i64 n2, .int .i64 v2, .int .i64 k3, .int .i64 n3, .int .i64 v3, .int .i64 k4, .int .i64 n4, .int .i64 v4, .int .i64 k5, .int .i64 n5, .int .i64 v5, .string inp, .int .i64 rd, .string tr, .string outp] 91 ∧ Kp (· = r) w w' := by
  have hr := hb.lt
  go_enter Tryz.func90, Tryz.ntmps90
  go_wp2
  refine wp_gen (fun W => Blk W r [.int .i64 k0, .int .i64 n0, .int .i64 v0, .int .i64 k1, .int .i64 n1, .int .i64 v1, .int .i64 k2, .int .i64 n2, .int .i64 v2, .int .i64 k3, .int .i64 n3, .int .i64 v3, .int .i64 k4, .int .i64 n4, .int .i64 v4, .int .i64 k5, .int .i64 n5, .int .i64 v5, .string inp, .int .i64 rd, .string tr, .string outp] 91 ∧ Blk W w.heap.size [.int .i64 a, .int .i64 b, .int .i64 c] 66 ∧ Kp (· = r) w W) ⟨by (repeat' (first | ((with_reducible show (_ : List Value) = _); rfl) | with_reducible exact hb | ((with_reducible refine Blk.newAt _ _ _ ?_); first | with_reducible rfl | (simp; done)) | with_reducible refine Blk.alloc ?_ _ | with_reducible refine Blk.drewN ?_ _ | with_reducible refine Blk.drew ?_ | ((with_reducible refine Blk.other ?_ _ ?_); rotate_left; ((try dsimp only); omega)) | with_reducible refine Blk.setB (cs0 := ?_) ?_ ?_)), by (repeat' (first | ((with_reducible show (_ : List Value) = _); rfl) | ((with_reducible refine Blk.newAt _ _ _ ?_); first | with_reducible rfl | (simp; done)) | with_reducible refine Blk.alloc ?_ _ | with_reducible refine Blk.drewN ?_ _ | with_reducible refine Blk.drew ?_ | ((with_reducible refine Blk.other ?_ _ ?_); rotate_left; ((try dsimp only); omega)) | with_reducible refine Blk.setB (cs0 := ?_) ?_ ?_)), by (repeat' (first | with_reducible exact Kp.refl _ _ | with_reducible refine Kp.alloc ?_ _ | with_reducible refine Kp.drewN ?_ _ | with_reducible refine Kp.drew ?_ | with_reducible refine Kp.setCell ?_ _ ?_ | (intro hh; first | rfl | exact .inl rfl | exact .inr rfl | (exfalso; (try dsimp only at hh); omega))))⟩ ?_
  rintro W ⟨hbW, hL, kW⟩
  obtain ⟨c0, c1, c2, c3, c4, c5, c6, c7, c8, c9, c10, c11, c12, c13, c14, c15, c16, c17, c18, c19, c20, c21, cf⟩ := hbW.c22
  obtain ⟨l0, l1, l2, lf⟩ := hL.c3
  have hrW := hbW.lt
  have hlW := hL.lt
  clear hb c3 c4 c5 c6 c7 c8 c9 c10 c11 c12 c13 c14 c15 c16 c17 c18 c19 c20 c21
  go_region
  all_goals
    go_wp2
    go_end0
    exact ⟨rfl, by (repeat' (first | ((with_reducible show (_ : List Value) = _); rfl) | with_reducible exact hbW | ((with_reducible refine Blk.newAt _ _ _ ?_); first | with_reducible rfl | (simp; done)) | with_reducible refine Blk.alloc ?_ _ | with_reducible refine Blk.drewN ?_ _ | with_reducible refine Blk.drew ?_ | ((with_reducible refine Blk.other ?_ _ ?_); rotate_left; ((try dsimp only); omega)) | with_reducible refine Blk.setB (cs0 := ?_) ?_ ?_)), by (repeat' (first | with_reducible exact Kp.refl _ _ | with_reducible refine Kp.alloc ?_ _ | with_reducible refine Kp.drewN ?_ _ | with_reducible refine Kp.drew ?_ | with_reducible refine Kp.setCell ?_ _ ?_ | with_reducible refine Kp.trans ?_ kW (fun _ _ e => e) | (intro hh; first | rfl | exact .inl rfl | exact .inr rfl | (exfalso; (try dsimp only at hh); omega))))⟩

set_option maxHeartbeats 800000 in
theorem nset_1 (r : Nat) (inp tr outp : ByteArray) (rd : Int) (k0 n0 v0 k1 n1 v1 k2 n2 v2 k3 n3 v3 k4 n4 v4 k5 n5 v5 a b c : Int) (w : World) (hb : Blk w r [.int .i64 k0, .int .i64 n0, .int .i64 v0, .int .i64 k1, .int .i64 n1, .int .i64 v1, .int .i64 k2, .int .i64 n2, .int .i64 v2, .int .i64 k3, .int .i64 n3, .int .i64 v3, .int .i64 k4, .int .i64 n4, .int .i64 v4, .int .i64 k5, .int .i64 n5, .int .i64 v5, .string inp, .int .i64 rd, .string tr, .string outp] 91) :
    Calls Tryz.prog 90 #[.pointer (some ⟨r, 0, none⟩), .int .i64 1, .agg #[.int .i64 a, .int .i64 b, .int .i64 c]] w fun e w' => e = .returned (.tuple #[]) ∧ Blk w' r [.int .i64 k0, .int .i64 n0, .int .i64 v0, .int .i64 a, .int .i64 b, .int .i64 c, .int .i64 k2, .int .i64 n2, .int .i64 v2, .int .i64 k3, .int .i64 n3, .int .i64 v3, .int .i64 k4, .int .i64 n4, .int .i64 v4, .int .i64 k5, .int .i64 n5, .int .i64 v5, .string inp, .int .i64 rd, .string tr, .string outp] 91 ∧ Kp (· = r) w w' := by
  have hr := hb.lt
  go_enter Tryz.func90, Tryz.ntmps90
  go_wp2
  refine wp_gen (fun W => Blk W r [.int .i64 k0, .int .i64 n0, .int .i64 v0, .int .i64 k1, .int .i64 n1, .int .i64 v1, .int .i64 k2, .int .i64 n2, .int .i64 v2, .int .i64 k3, .int .i64 n3, .int .i64 v3, .int .i64 k4, .int .i64 n4, .int .i64 v4, .int .i64 k5, .int .i64 n5, .int .i64 v5, .string inp, .int .i64 rd, .string tr, .string outp] 91 ∧ Blk W w.heap.size [.int .i64 a, .int .i64 b, .int .i64 c] 66 ∧ Kp (· = r) w W) ⟨by (repeat' (first | ((with_reducible show (_ : List Value) = _); rfl) | with_reducible exact hb | ((with_reducible refine Blk.newAt _ _ _ ?_); first | with_reducible rfl | (simp; done)) | with_reducible refine Blk.alloc ?_ _ | with_reducible refine Blk.drewN ?_ _ | with_reducible refine Blk.drew ?_ | ((with_reducible refine Blk.other ?_ _ ?_); rotate_left; ((try dsimp only); omega)) | with_reducible refine Blk.setB (cs0 := ?_) ?_ ?_)), by (repeat' (first | ((with_reducible show (_ : List Value) = _); rfl) | ((with_reducible refine Blk.newAt _ _ _ ?_); first | with_reducible rfl | (simp; done)) | with_reducible refine Blk.alloc ?_ _ | with_reducible refine Blk.drewN ?_ _ | with_reducible refine Blk.drew ?_ | ((with_reducible refine Blk.other ?_ _ ?_); rotate_left; ((try dsimp only); omega)) | with_reducible refine Blk.setB (cs0 := ?_) ?_ ?_)), by (repeat' (first | with_reducible exact Kp.refl _ _ | with_reducible refine Kp.alloc ?_ _ | with_reducible refine Kp.drewN ?_ _ | with_reducible refine Kp.drew ?_ | with_reducible refine Kp.setCell ?_ _ ?_ | (intro hh; first | rfl | exact .inl rfl | exact .inr rfl | (exfalso; (try dsimp only at hh); omega))))⟩ ?_
  rintro W ⟨hbW, hL, kW⟩
  obtain ⟨c0, c1, c2, c3, c4, c5, c6, c7, c8, c9, c10, c11, c12, c13, c14, c15, c16, c17, c18, c19, c20, c21, cf⟩ := hbW.c22
  obtain ⟨l0, l1, l2, lf⟩ := hL.c3
  have hrW := hbW.lt
  have hlW := hL.lt
  clear hb c0 c1 c2 c6 c7 c8 c9 c10 c11 c12 c13 c14 c15 c16 c17 c18 c19 c20 c21
  go_region
  all_goals
    go_wp2
    go_end0
    exact ⟨rfl, by (repeat' (first | ((with_reducible show (_ : List Value) = _); rfl) | with_reducible exact hbW | ((with_reducible refine Blk.newAt _ _ _ ?_); first | with_reducible rfl | (simp; done)) | with_reducible refine Blk.alloc ?_ _ | with_reducible refine Blk.drewN ?_ _ | with_reducible refine Blk.drew ?_ | ((with_reducible refine Blk.other ?_ _ ?_); rotate_left; ((try dsimp only); omega)) | with_reducible refine Blk.setB (cs0 := ?_) ?_ ?_)), by (repeat' (first | with_reducible exact Kp.refl _ _ | with_reducible refine Kp.alloc ?_ _ | with_reducible refine Kp.drewN ?_ _ | with_reducible refine Kp.drew ?_ | with_reducible refine Kp.setCell ?_ _ ?_ | with_reducible refine Kp.trans ?_ kW (fun _ _ e => e) | (intro hh; first | rfl | exact .inl rfl | exact .inr rfl | (exfalso; (try dsimp only at hh); omega))))⟩

set_option maxHeartbeats 800000 in
theorem nset_2 (r : Nat) (inp tr outp : ByteArray) (rd : Int) (k0 n0 v0 k1 n1 v1 k2 n2 v2 k3 n3 v3 k4 n4 v4 k5 n5 v5 a b c : Int) (w : World) (hb : Blk w r [.int .i64 k0, .int .i64 n0, .int .i64 v0, .int .i64 k1, .int .i64 n1, .int .i64 v1, .int .i64 k2, .int .i64 n2, .int .i64 v2, .int .i64 k3, .int .i64 n3, .int .i64 v3, .int .i64 k4, .int .i64 n4, .int .i64 v4, .int .i64 k5, .int .i64 n5, .int .i64 v5, .string inp, .int .i64 rd, .string tr, .string outp] 91) :
    Calls Tryz.prog 90 #[.pointer (some ⟨r, 0, none⟩), .int .i64 2, .agg #[.int .i64 a, .int .i64 b, .int .i64 c]] w fun e w' => e = .returned (.tuple #[]) ∧ Blk w' r [.int .i64 k0, .int .i64 n0, .int .i64 v0, .int .i64 k1, .int .i64 n1, .int .i64 v1, .int .i64 a, .int .i64 b, .int .i64 c, .int .i64 k3, .int .i64 n3, .int .i64 v3, .int .i64 k4, .int .i64 n4, .int .i64 v4, .int .i64 k5, .int .i64 n5, .int .i64 v5, .string inp, .int .i64 rd, .string tr, .string outp] 91 ∧ Kp (· = r) w w' := by
  have hr := hb.lt
  go_enter Tryz.func90, Tryz.ntmps90
  go_wp2
  refine wp_gen (fun W => Blk W r [.int .i64 k0, .int .i64 n0, .int .i64 v0, .int .i64 k1, .int .i64 n1, .int .i64 v1, .int .i64 k2, .int .i64 n2, .int .i64 v2, .int .i64 k3, .int .i64 n3, .int .i64 v3, .int .i64 k4, .int .i64 n4, .int .i64 v4, .int .i64 k5, .int .i64 n5, .int .i64 v5, .string inp, .int .i64 rd, .string tr, .string outp] 91 ∧ Blk W w.heap.size [.int .i64 a, .int .i64 b, .int .i64 c] 66 ∧ Kp (· = r) w W) ⟨by (repeat' (first | ((with_reducible show (_ : List Value) = _); rfl) | with_reducible exact hb | ((with_reducible refine Blk.newAt _ _ _ ?_); first | with_reducible rfl | (simp; done)) | with_reducible refine Blk.alloc ?_ _ | with_reducible refine Blk.drewN ?_ _ | with_reducible refine Blk.drew ?_ | ((with_reducible refine Blk.other ?_ _ ?_); rotate_left; ((try dsimp only); omega)) | with_reducible refine Blk.setB (cs0 := ?_) ?_ ?_)), by (repeat' (first | ((with_reducible show (_ : List Value) = _); rfl) | ((with_reducible refine Blk.newAt _ _ _ ?_); first | with_reducible rfl | (simp; done)) | with_reducible refine Blk.alloc ?_ _ | with_reducible refine Blk.drewN ?_ _ | with_reducible refine Blk.drew ?_ | ((with_reducible refine Blk.other ?_ _ ?_); rotate_left; ((try dsimp only); omega)) | with_reducible refine Blk.setB (cs0 := ?_) ?_ ?_)), by (repeat' (first | with_reducible exact Kp.refl _ _ | with_reducible refine Kp.alloc ?_ _ | with_reducible refine Kp.drewN ?_ _ | with_reducible refine Kp.drew ?_ | with_reducible refine Kp.setCell ?_ _ ?_ | (intro hh; first | rfl | exact .inl rfl | exact .inr rfl | (exfalso; (try dsimp only at hh); omega))))⟩ ?_
  rintro W ⟨hbW, hL, kW⟩
  obtain ⟨c0, c1, c2, c3, c4, c5, c6, c7, c8, c9, c10, c11, c12, c13, c14, c15, c16, c17, c18, c19, c20, c21, cf⟩ := hbW.c22
  obtain ⟨l0, l1, l2, lf⟩ := hL.c3
  have hrW := hbW.lt
  have hlW := hL.lt
  clear hb c0 c1 c2 c3 c4 c5 c9 c10 c11 c12 c13 c14 c15 c16 c17 c18 c19 c20 c21
  go_region
  all_goals
    go_wp2
    go_end0
    exact ⟨rfl, by (repeat' (first | ((with_reducible show (_ : List Value) = _); rfl) | with_reducible exact hbW | ((with_reducible refine Blk.newAt _ _ _ ?_); first | with_reducible rfl | (simp; done)) | with_reducible refine Blk.alloc ?_ _ | with_reducible refine Blk.drewN ?_ _ | with_reducible refine Blk.drew ?_ | ((with_reducible refine Blk.other ?_ _ ?_); rotate_left; ((try dsimp only); omega)) | with_reducible refine Blk.setB (cs0 := ?_) ?_ ?_)), by (repeat' (first | with_reducible exact Kp.refl _ _ | with_reducible refine Kp.alloc ?_ _ | with_reducible refine Kp.drewN ?_ _ | with_reducible refine Kp.drew ?_ | with_reducible refine Kp.setCell ?_ _ ?_ | with_reducible refine Kp.trans ?_ kW (fun _ _ e => e) | (intro hh; first | rfl | exact .inl rfl | exact .inr rfl | (exfalso; (try dsimp only at hh); omega))))⟩

set_option maxHeartbeats 800000 in
theorem nset_3 (r : Nat) (inp tr outp : ByteArray) (rd : Int) (k0 n0 v0 k1 n1 v1 k2 n2 v2 k3 n3 v3 k4 n4 v4 k5 n5 v5 a b c : Int) (w : World) (hb : Blk w r [.int .i64 k0, .int .i64 n0, .int .i64 v0, .int .i64 k1, .int .i64 n1, .int .i64 v1, .int .i64 k2, .int .i64 n2, .int .i64 v2, .int .i64 k3, .int .i64 n3, .int .i64 v3, .int .i64 k4, .int .i64 n4, .int .i64 v4, .int .i64 k5, .int .i64 n5, .int .i64 v5, .string inp, .int .i64 rd, .string tr, .string outp] 91) :
    Calls Tryz.prog 90 #[.pointer (some ⟨r, 0, none⟩), .int .i64 3, .agg #[.int .i64 a, .int .i64 b, .int .i64 c]] w fun e w' => e = .returned (.tuple #[]) ∧ Blk w' r [.int .i64 k0, .int .i64 n0, .int .i64 v0, .int .i64 k1, .int .i64 n1, .int .i64 v1, .int .i64 k2, .int .i64 n2, .int .i64 v2, .int .i64 a, .int .i64 b, .int .i64 c, .int .i64 k4, .int .i64 n4, .int .i64 v4, .int .i64 k5, .int .i64 n5, .int .i64 v5, .string inp, .int .i64 rd, .string tr, .string outp] 91 ∧ Kp (· = r) w w' := by
  have hr := hb.lt
  go_enter Tryz.func90, Tryz.ntmps90
  go_wp2
  refine wp_gen (fun W => Blk W r [.int .i64 k0, .int .i64 n0, .int .i64 v0, .int .i64 k1, .int .i64 n1, .int .i64 v1, .int .i64 k2, .int .i64 n2, .int .i64 v2, .int .i64 k3, .int .i64 n3, .int .i64 v3, .int .i64 k4, .int .i64 n4, .int .i64 v4, .int .i64 k5, .int .i64 n5, .int .i64 v5, .string inp, .int .i64 rd, .string tr, .string outp] 91 ∧ Blk W w.heap.size [.int .i64 a, .int .i64 b, .int .i64 c] 66 ∧ Kp (· = r) w W) ⟨by (repeat' (first | ((with_reducible show (_ : List Value) = _); rfl) | with_reducible exact hb | ((with_reducible refine Blk.newAt _ _ _ ?_); first | with_reducible rfl | (simp; done)) | with_reducible refine Blk.alloc ?_ _ | with_reducible refine Blk.drewN ?_ _ | with_reducible refine Blk.drew ?_ | ((with_reducible refine Blk.other ?_ _ ?_); rotate_left; ((try dsimp only); omega)) | with_reducible refine Blk.setB (cs0 := ?_) ?_ ?_)), by (repeat' (first | ((with_reducible show (_ : List Value) = _); rfl) | ((with_reducible refine Blk.newAt _ _ _ ?_); first | with_reducible rfl | (simp; done)) | with_reducible refine Blk.alloc ?_ _ | with_reducible refine Blk.drewN ?_ _ | with_reducible refine Blk.drew ?_ | ((with_reducible refine Blk.other ?_ _ ?_); rotate_left; ((try dsimp only); omega)) | with_reducible refine Blk.setB (cs0 := ?_) ?_ ?_)), by (repeat' (first | with_reducible exact Kp.refl _ _ | with_reducible refine Kp.alloc ?_ _ | with_reducible refine Kp.drewN ?_ _ | with_reducible refine Kp.drew ?_ | with_reducible refine Kp.setCell ?_ _ ?_ | (intro hh; first | rfl | exact .inl rfl | exact .inr rfl | (exfalso; (try dsimp only at hh); omega))))⟩ ?_
  rintro W ⟨hbW, hL, kW⟩
  obtain ⟨c0, c1, c2, c3, c4, c5, c6, c7, c8, c9, c10, c11, c12, c13, c14, c15, c16, c17, c18, c19, c20, c21, cf⟩ := hbW.c22
  obtain ⟨l0, l1, l2, lf⟩ := hL.c3
  have hrW := hbW.lt
  have hlW := hL.lt
  clear hb c0 c1 c2 c3 c4 c5 c6 c7 c8 c12 c13 c14 c15 c16 c17 c18 c19 c20 c21
  go_region
  all_goals
    go_wp2
    go_end0
    exact ⟨rfl, by (repeat' (first | ((with_reducible show (_ : List Value) = _); rfl) | with_reducible exact hbW | ((with_reducible refine Blk.newAt _ _ _ ?_); first | with_reducible rfl | (simp; done)) | with_reducible refine Blk.alloc ?_ _ | with_reducible refine Blk.drewN ?_ _ | with_reducible refine Blk.drew ?_ | ((with_reducible refine Blk.other ?_ _ ?_); rotate_left; ((try dsimp only); omega)) | with_reducible refine Blk.setB (cs0 := ?_) ?_ ?_)), by (repeat' (first | with_reducible exact Kp.refl _ _ | with_reducible refine Kp.alloc ?_ _ | with_reducible refine Kp.drewN ?_ _ | with_reducible refine Kp.drew ?_ | with_reducible refine Kp.setCell ?_ _ ?_ | with_reducible refine Kp.trans ?_ kW (fun _ _ e => e) | (intro hh; first | rfl | exact .inl rfl | exact .inr rfl | (exfalso; (try dsimp only at hh); omega))))⟩

set_option maxHeartbeats 800000 in
theorem nset_4 (r : Nat) (inp tr outp : ByteArray) (rd : Int) (k0 n0 v0 k1 n1 v1 k2 n2 v2 k3 n3 v3 k4 n4 v4 k5 n5 v5 a b c : Int) (w : World) (hb : Blk w r [.int .i64 k0, .int .i64 n0, .int .i64 v0, .int .i64 k1, .int .i64 n1, .int .i64 v1, .int .i64 k2, .int .i64 n2, .int .i64 v2, .int .i64 k3, .int .i64 n3, .int .i64 v3, .int .i64 k4, .int .i64 n4, .int .i64 v4, .int .i64 k5, .int .i64 n5, .int .i64 v5, .string inp, .int .i64 rd, .string tr, .string outp] 91) :
    Calls Tryz.prog 90 #[.pointer (some ⟨r, 0, none⟩), .int .i64 4, .agg #[.int .i64 a, .int .i64 b, .int .i64 c]] w fun e w' => e = .returned (.tuple #[]) ∧ Blk w' r [.int .i64 k0, .int .i64 n0, .int .i64 v0, .int .i64 k1, .int .i64 n1, .int .i64 v1, .int .i64 k2, .int .i64 n2, .int .i64 v2, .int .i64 k3, .int .i64 n3, .int .i64 v3, .int .i64 a, .int .i64 b, .int .i64 c, .int .i64 k5, .int .i64 n5, .int .i64 v5, .string inp, .int .i64 rd, .string tr, .string outp] 91 ∧ Kp (· = r) w w' := by
  have hr := hb.lt
  go_enter Tryz.func90, Tryz.ntmps90
  go_wp2
  refine wp_gen (fun W => Blk W r [.int .i64 k0, .int .i64 n0, .int .i64 v0, .int .i64 k1, .int .i64 n1, .int .i64 v1, .int .i64 k2, .int .i64 n2, .int .i64 v2, .int .i64 k3, .int .i64 n3, .int .i64 v3, .int .i64 k4, .int .i64 n4, .int .i64 v4, .int .i64 k5, .int .i64 n5, .int .i64 v5, .string inp, .int .i64 rd, .string tr, .string outp] 91 ∧ Blk W w.heap.size [.int .i64 a, .int .i64 b, .int .i64 c] 66 ∧ Kp (· = r) w W) ⟨by (repeat' (first | ((with_reducible show (_ : List Value) = _); rfl) | with_reducible exact hb | ((with_reducible refine Blk.newAt _ _ _ ?_); first | with_reducible rfl | (simp; done)) | with_reducible refine Blk.alloc ?_ _ | with_reducible refine Blk.drewN ?_ _ | with_reducible refine Blk.drew ?_ | ((with_reducible refine Blk.other ?_ _ ?_); rotate_left; ((try dsimp only); omega)) | with_reducible refine Blk.setB (cs0 := ?_) ?_ ?_)), by (repeat' (first | ((with_reducible show (_ : List Value) = _); rfl) | ((with_reducible refine Blk.newAt _ _ _ ?_); first | with_reducible rfl | (simp; done)) | with_reducible refine Blk.alloc ?_ _ | with_reducible refine Blk.drewN ?_ _ | with_reducible refine Blk.drew ?_ | ((with_reducible refine Blk.other ?_ _ ?_); rotate_left; ((try dsimp only); omega)) | with_reducible refine Blk.setB (cs0 := ?_) ?_ ?_)), by (repeat' (first | with_reducible exact Kp.refl _ _ | with_reducible refine Kp.alloc ?_ _ | with_reducible refine Kp.drewN ?_ _ | with_reducible refine Kp.drew ?_ | with_reducible refine Kp.setCell ?_ _ ?_ | (intro hh; first | rfl | exact .inl rfl | exact .inr rfl | (exfalso; (try dsimp only at hh); omega))))⟩ ?_
  rintro W ⟨hbW, hL, kW⟩
  obtain ⟨c0, c1, c2, c3, c4, c5, c6, c7, c8, c9, c10, c11, c12, c13, c14, c15, c16, c17, c18, c19, c20, c21, cf⟩ := hbW.c22
  obtain ⟨l0, l1, l2, lf⟩ := hL.c3
  have hrW := hbW.lt
  have hlW := hL.lt
  clear hb c0 c1 c2 c3 c4 c5 c6 c7 c8 c9 c10 c11 c15 c16 c17 c18 c19 c20 c21
  go_region
  all_goals
    go_wp2
    go_end0
    exact ⟨rfl, by (repeat' (first | ((with_reducible show (_ : List Value) = _); rfl) | with_reducible exact hbW | ((with_reducible refine Blk.newAt _ _ _ ?_); first | with_reducible rfl | (simp; done)) | with_reducible refine Blk.alloc ?_ _ | with_reducible refine Blk.drewN ?_ _ | with_reducible refine Blk.drew ?_ | ((with_reducible refine Blk.other ?_ _ ?_); rotate_left; ((try dsimp only); omega)) | with_reducible refine Blk.setB (cs0 := ?_) ?_ ?_)), by (repeat' (first | with_reducible exact Kp.refl _ _ | with_reducible refine Kp.alloc ?_ _ | with_reducible refine Kp.drewN ?_ _ | with_reducible refine Kp.drew ?_ | with_reducible refine Kp.setCell ?_ _ ?_ | with_reducible refine Kp.trans ?_ kW (fun _ _ e => e) | (intro hh; first | rfl | exact .inl rfl | exact .inr rfl | (exfalso; (try dsimp only at hh); omega))))⟩

set_option maxHeartbeats 800000 in
theorem nset_5 (r : Nat) (inp tr outp : ByteArray) (rd : Int) (k0 n0 v0 k1 n1 v1 k2 n2 v2 k3 n3 v3 k4 n4 v4 k5 n5 v5 a b c : Int) (w : World) (hb : Blk w r [.int .i64 k0, .int .i64 n0, .int .i64 v0, .int .i64 k1, .int .i64 n1, .int .i64 v1, .int .i64 k2, .int .i64 n2, .int .i64 v2, .int .i64 k3, .int .i64 n3, .int .i64 v3, .int .i64 k4, .int .i64 n4, .int .i64 v4, .int .i64 k5, .int .i64 n5, .int .i64 v5, .string inp, .int .i64 rd, .string tr, .string outp] 91) :
    Calls Tryz.prog 90 #[.pointer (some ⟨r, 0, none⟩), .int .i64 5, .agg #[.int .i64 a, .int .i64 b, .int .i64 c]] w fun e w' => e = .returned (.tuple #[]) ∧ Blk w' r [.int .i64 k0, .int .i64 n0, .int .i64 v0, .int .i64 k1, .int .i64 n1, .int .i64 v1, .int .i64 k2, .int .i64 n2, .int .i64 v2, .int .i64 k3, .int .i64 n3, .int .i64 v3, .int .i64 k4, .int .i64 n4, .int .i64 v4, .int .i64 a, .int .i64 b, .int .i64 c, .string inp, .int .i64 rd, .string tr, .string outp] 91 ∧ Kp (· = r) w w' := by
  have hr := hb.lt
  go_enter Tryz.func90, Tryz.ntmps90
  go_wp2
  refine wp_gen (fun W => Blk W r [.int .i64 k0, .int .i64 n0, .int .i64 v0, .int .i64 k1, .int .i64 n1, .int .i64 v1, .int .i64 k2, .int .i64 n2, .int .i64 v2, .int .i64 k3, .int .i64 n3, .int .i64 v3, .int .i64 k4, .int .i64 n4, .int .i64 v4, .int .i64 k5, .int .i64 n5, .int .i64 v5, .string inp, .int .i64 rd, .string tr, .string outp] 91 ∧ Blk W w.heap.size [.int .i64 a, .int .i64 b, .int .i64 c] 66 ∧ Kp (· = r) w W) ⟨by (repeat' (first | ((with_reducible show (_ : List Value) = _); rfl) | with_reducible exact hb | ((with_reducible refine Blk.newAt _ _ _ ?_); first | with_reducible rfl | (simp; done)) | with_reducible refine Blk.alloc ?_ _ | with_reducible refine Blk.drewN ?_ _ | with_reducible refine Blk.drew ?_ | ((with_reducible refine Blk.other ?_ _ ?_); rotate_left; ((try dsimp only); omega)) | with_reducible refine Blk.setB (cs0 := ?_) ?_ ?_)), by (repeat' (first | ((with_reducible show (_ : List Value) = _); rfl) | ((with_reducible refine Blk.newAt _ _ _ ?_); first | with_reducible rfl | (simp; done)) | with_reducible refine Blk.alloc ?_ _ | with_reducible refine Blk.drewN ?_ _ | with_reducible refine Blk.drew ?_ | ((with_reducible refine Blk.other ?_ _ ?_); rotate_left; ((try dsimp only); omega)) | with_reducible refine Blk.setB (cs0 := ?_) ?_ ?_)), by (repeat' (first | with_reducible exact Kp.refl _ _ | with_reducible refine Kp.alloc ?_ _ | with_reducible refine Kp.drewN ?_ _ | with_reducible refine Kp.drew ?_ | with_reducible refine Kp.setCell ?_ _ ?_ | (intro hh; first | rfl | exact .inl rfl | exact .inr rfl | (exfalso; (try dsimp only at hh); omega))))⟩ ?_
  rintro W ⟨hbW, hL, kW⟩
  obtain ⟨c0, c1, c2, c3, c4, c5, c6, c7, c8, c9, c10, c11, c12, c13, c14, c15, c16, c17, c18, c19, c20, c21, cf⟩ := hbW.c22
  obtain ⟨l0, l1, l2, lf⟩ := hL.c3
  have hrW := hbW.lt
  have hlW := hL.lt
  clear hb c0 c1 c2 c3 c4 c5 c6 c7 c8 c9 c10 c11 c12 c13 c14 c18 c19 c20 c21
  go_region
  all_goals
    go_wp2
    go_end0
    exact ⟨rfl, by (repeat' (first | ((with_reducible show (_ : List Value) = _); rfl) | with_reducible exact hbW | ((with_reducible refine Blk.newAt _ _ _ ?_); first | with_reducible rfl | (simp; done)) | with_reducible refine Blk.alloc ?_ _ | with_reducible refine Blk.drewN ?_ _ | with_reducible refine Blk.drew ?_ | ((with_reducible refine Blk.other ?_ _ ?_); rotate_left; ((try dsimp only); omega)) | with_reducible refine Blk.setB (cs0 := ?_) ?_ ?_)), by (repeat' (first | with_reducible exact Kp.refl _ _ | with_reducible refine Kp.alloc ?_ _ | with_reducible refine Kp.drewN ?_ _ | with_reducible refine Kp.drew ?_ | with_reducible refine Kp.setCell ?_ _ ?_ | with_reducible refine Kp.trans ?_ kW (fun _ _ e => e) | (intro hh; first | rfl | exact .inl rfl | exact .inr rfl | (exfalso; (try dsimp only at hh); omega))))⟩

end Go.Proofs.YtellieabhaphhabGreatDoor

/-
  narrow's run: what a node gives, which way it goes.
-/
namespace Go.Proofs.YtellieabhaphhabGreatDoor
open Go.RowKit

theorem nvalueOf_c {w : World} {r : Nat} {inp : ByteArray} {m : Mc} (i : Nat) (u : Vl) (h : NB w r inp m) (hu : m.l[i]? = some u) :
    Calls Tryz.prog 86 #[.pointer (some ⟨r, 0, none⟩), .int .i64 i] w fun e w' => e = .returned (.agg #[.int .i64 (bit u.k), .int .i64 u.n, .int .i64 (bit u.v)]) ∧ Kp no w w' := by
  obtain ⟨hb, h6⟩ := h
  obtain ⟨l, rd, left, tr, outp, me⟩ := m
  dsimp only at *
  obtain ⟨a, b, c, d, e, f, rfl⟩ := six_of h6
  have hi := (List.getElem?_eq_some_iff.1 hu).1
  simp only [List.length_cons, List.length_nil] at hi
  rcases (show i = 0 ∨ i = 1 ∨ i = 2 ∨ i = 3 ∨ i = 4 ∨ i = 5 by omega) with rfl | rfl | rfl | rfl | rfl | rfl
  · have hu2 : a = u := by simpa using hu
    rw [← hu2]
    exact nvalueOf_0 r inp tr outp rd (bit a.k) a.n (bit a.v) (bit b.k) b.n (bit b.v) (bit c.k) c.n (bit c.v) (bit d.k) d.n (bit d.v) (bit e.k) e.n (bit e.v) (bit f.k) f.n (bit f.v) w hb
  · have hu2 : b = u := by simpa using hu
    rw [← hu2]
    exact nvalueOf_1 r inp tr outp rd (bit a.k) a.n (bit a.v) (bit b.k) b.n (bit b.v) (bit c.k) c.n (bit c.v) (bit d.k) d.n (bit d.v) (bit e.k) e.n (bit e.v) (bit f.k) f.n (bit f.v) w hb
  · have hu2 : c = u := by simpa using hu
    rw [← hu2]
    exact nvalueOf_2 r inp tr outp rd (bit a.k) a.n (bit a.v) (bit b.k) b.n (bit b.v) (bit c.k) c.n (bit c.v) (bit d.k) d.n (bit d.v) (bit e.k) e.n (bit e.v) (bit f.k) f.n (bit f.v) w hb
  · have hu2 : d = u := by simpa using hu
    rw [← hu2]
    exact nvalueOf_3 r inp tr outp rd (bit a.k) a.n (bit a.v) (bit b.k) b.n (bit b.v) (bit c.k) c.n (bit c.v) (bit d.k) d.n (bit d.v) (bit e.k) e.n (bit e.v) (bit f.k) f.n (bit f.v) w hb
  · have hu2 : e = u := by simpa using hu
    rw [← hu2]
    exact nvalueOf_4 r inp tr outp rd (bit a.k) a.n (bit a.v) (bit b.k) b.n (bit b.v) (bit c.k) c.n (bit c.v) (bit d.k) d.n (bit d.v) (bit e.k) e.n (bit e.v) (bit f.k) f.n (bit f.v) w hb
  · have hu2 : f = u := by simpa using hu
    rw [← hu2]
    exact nvalueOf_5 r inp tr outp rd (bit a.k) a.n (bit a.v) (bit b.k) b.n (bit b.v) (bit c.k) c.n (bit c.v) (bit d.k) d.n (bit d.v) (bit e.k) e.n (bit e.v) (bit f.k) f.n (bit f.v) w hb

theorem nset_c {w : World} {r : Nat} {inp : ByteArray} {m : Mc} (i : Nat) (u : Vl) (h : NB w r inp m) (hi : i < 6) :
    Calls Tryz.prog 90 #[.pointer (some ⟨r, 0, none⟩), .int .i64 i, .agg #[.int .i64 (bit u.k), .int .i64 u.n, .int .i64 (bit u.v)]] w fun e w' => e = .returned (.tuple #[]) ∧ NB w' r inp (putL m i u) ∧ Kp (· = r) w w' := by
  obtain ⟨hb, h6⟩ := h
  obtain ⟨l, rd, left, tr, outp, me⟩ := m
  dsimp only at *
  obtain ⟨a, b, c, d, e, f, rfl⟩ := six_of h6
  rcases (show i = 0 ∨ i = 1 ∨ i = 2 ∨ i = 3 ∨ i = 4 ∨ i = 5 by omega) with rfl | rfl | rfl | rfl | rfl | rfl
  · refine (nset_0 r inp tr outp rd (bit a.k) a.n (bit a.v) (bit b.k) b.n (bit b.v) (bit c.k) c.n (bit c.v) (bit d.k) d.n (bit d.v) (bit e.k) e.n (bit e.v) (bit f.k) f.n (bit f.v) (bit u.k) u.n (bit u.v) w hb).mono ?_
    rintro x w' ⟨rfl, hb', k'⟩
    exact ⟨rfl, ⟨hb', rfl⟩, k'⟩
  · refine (nset_1 r inp tr outp rd (bit a.k) a.n (bit a.v) (bit b.k) b.n (bit b.v) (bit c.k) c.n (bit c.v) (bit d.k) d.n (bit d.v) (bit e.k) e.n (bit e.v) (bit f.k) f.n (bit f.v) (bit u.k) u.n (bit u.v) w hb).mono ?_
    rintro x w' ⟨rfl, hb', k'⟩
    exact ⟨rfl, ⟨hb', rfl⟩, k'⟩
  · refine (nset_2 r inp tr outp rd (bit a.k) a.n (bit a.v) (bit b.k) b.n (bit b.v) (bit c.k) c.n (bit c.v) (bit d.k) d.n (bit d.v) (bit e.k) e.n (bit e.v) (bit f.k) f.n (bit f.v) (bit u.k) u.n (bit u.v) w hb).mono ?_
    rintro x w' ⟨rfl, hb', k'⟩
    exact ⟨rfl, ⟨hb', rfl⟩, k'⟩
  · refine (nset_3 r inp tr outp rd (bit a.k) a.n (bit a.v) (bit b.k) b.n (bit b.v) (bit c.k) c.n (bit c.v) (bit d.k) d.n (bit d.v) (bit e.k) e.n (bit e.v) (bit f.k) f.n (bit f.v) (bit u.k) u.n (bit u.v) w hb).mono ?_
    rintro x w' ⟨rfl, hb', k'⟩
    exact ⟨rfl, ⟨hb', rfl⟩, k'⟩
  · refine (nset_4 r inp tr outp rd (bit a.k) a.n (bit a.v) (bit b.k) b.n (bit b.v) (bit c.k) c.n (bit c.v) (bit d.k) d.n (bit d.v) (bit e.k) e.n (bit e.v) (bit f.k) f.n (bit f.v) (bit u.k) u.n (bit u.v) w hb).mono ?_
    rintro x w' ⟨rfl, hb', k'⟩
    exact ⟨rfl, ⟨hb', rfl⟩, k'⟩
  · refine (nset_5 r inp tr outp rd (bit a.k) a.n (bit a.v) (bit b.k) b.n (bit b.v) (bit c.k) c.n (bit c.v) (bit d.k) d.n (bit d.v) (bit e.k) e.n (bit e.v) (bit f.k) f.n (bit f.v) (bit u.k) u.n (bit u.v) w hb).mono ?_
    rintro x w' ⟨rfl, hb', k'⟩
    exact ⟨rfl, ⟨hb', rfl⟩, k'⟩

set_option maxHeartbeats 1600000 in
theorem nnext_at (r : Nat) (inp tr outp : ByteArray) (rd : Nat) (k0 n0 v0 k1 n1 v1 k2 n2 v2 k3 n3 v3 k4 n4 v4 k5 n5 v5 : Int) (w : World) (hi : inp.size ≤ 40) (hb : Blk w r [.int .i64 k0, .int .i64 n0, .int .i64 v0, .int .i64 k1, .int .i64 n1, .int .i64 v1, .int .i64 k2, .int .i64 n2, .int .i64 v2, .int .i64 k3, .int .i64 n3, .int .i64 v3, .int .i64 k4, .int .i64 n4, .int .i64 v4, .int .i64 k5, .int .i64 n5, .int .i64 v5, .string inp, .int .i64 rd, .string tr, .string outp] 91) :
    Calls Tryz.prog 89 #[.pointer (some ⟨r, 0, none⟩)] w fun e w' => (rd < inp.size → e = .returned (.agg (inVal (pk inp rd)).nc.toArray) ∧ Blk w' r [.int .i64 k0, .int .i64 n0, .int .i64 v0, .int .i64 k1, .int .i64 n1, .int .i64 v1, .int .i64 k2, .int .i64 n2, .int .i64 v2, .int .i64 k3, .int .i64 n3, .int .i64 v3, .int .i64 k4, .int .i64 n4, .int .i64 v4, .int .i64 k5, .int .i64 n5, .int .i64 v5, .string inp, .int .i64 (rd + 1 : Nat), .string tr, .string outp] 91) ∧ (¬ rd < inp.size → e = .returned (.agg (inVal 90).nc.toArray) ∧ Blk w' r [.int .i64 k0, .int .i64 n0, .int .i64 v0, .int .i64 k1, .int .i64 n1, .int .i64 v1, .int .i64 k2, .int .i64 n2, .int .i64 v2, .int .i64 k3, .int .i64 n3, .int .i64 v3, .int .i64 k4, .int .i64 n4, .int .i64 v4, .int .i64 k5, .int .i64 n5, .int .i64 v5, .string inp, .int .i64 rd, .string tr, .string outp] 91) ∧ Kp (· = r) w w' := by
  have hr := hb.lt
  by_cases hlt : rd < inp.size
  · have HP := hide (show pk inp rd = (inp[rd]'hlt).toNat by simp [pk, hlt])
    have HI := hide (fun W => ninputValue_c (pk inp rd) (pk_lt inp rd) W)
    have hpl := pk_lt inp rd
    have HV : Hid ((inVal (pk inp rd)).nc = [.int .i64 (bit (inVal (pk inp rd)).k), .int .i64 (inVal (pk inp rd)).n, .int .i64 (bit (inVal (pk inp rd)).v)]) := rfl
    unfold Vl.nc at HI
    generalize bit (inVal (pk inp rd)).k = ik at HI HV
    generalize (inVal (pk inp rd)).n = inn at HI HV
    generalize bit (inVal (pk inp rd)).v = iv at HI HV
    rw [HP.out] at HI hpl
    go_enter Tryz.func89, Tryz.ntmps89
    go_wp2
    refine wp_gen (fun W => Blk W r [.int .i64 k0, .int .i64 n0, .int .i64 v0, .int .i64 k1, .int .i64 n1, .int .i64 v1, .int .i64 k2, .int .i64 n2, .int .i64 v2, .int .i64 k3, .int .i64 n3, .int .i64 v3, .int .i64 k4, .int .i64 n4, .int .i64 v4, .int .i64 k5, .int .i64 n5, .int .i64 v5, .string inp, .int .i64 rd, .string tr, .string outp] 91 ∧ Blk W w.heap.size [.int .i64 0, .int .i64 0, .int .i64 0] 66 ∧ Kp (· = r) w W) ⟨by (repeat' (first | ((with_reducible show (_ : List Value) = _); rfl) | with_reducible exact hb | ((with_reducible refine Blk.newAt _ _ _ ?_); first | with_reducible rfl | (simp; done)) | with_reducible refine Blk.alloc ?_ _ | with_reducible refine Blk.drewN ?_ _ | with_reducible refine Blk.drew ?_ | ((with_reducible refine Blk.other ?_ _ ?_); rotate_left; ((try dsimp only); omega)) | with_reducible refine Blk.setB (cs0 := ?_) ?_ ?_)), by (repeat' (first | ((with_reducible show (_ : List Value) = _); rfl) | ((with_reducible refine Blk.newAt _ _ _ ?_); first | with_reducible rfl | (simp; done)) | with_reducible refine Blk.alloc ?_ _ | with_reducible refine Blk.drewN ?_ _ | with_reducible refine Blk.drew ?_ | ((with_reducible refine Blk.other ?_ _ ?_); rotate_left; ((try dsimp only); omega)) | with_reducible refine Blk.setB (cs0 := ?_) ?_ ?_)), by (repeat' (first | with_reducible exact Kp.refl _ _ | with_reducible refine Kp.alloc ?_ _ | with_reducible refine Kp.drewN ?_ _ | with_reducible refine Kp.drew ?_ | with_reducible refine Kp.setCell ?_ _ ?_ | (intro hh; first | rfl | exact .inl rfl | exact .inr rfl | (exfalso; (try dsimp only at hh); omega))))⟩ ?_
    rintro W ⟨hbW, hL, kW⟩
    obtain ⟨c0, c1, c2, c3, c4, c5, c6, c7, c8, c9, c10, c11, c12, c13, c14, c15, c16, c17, c18, c19, c20, c21, cf⟩ := hbW.c22
    clear c0 c1 c2 c3 c4 c5 c6 c7 c8 c9 c10 c11 c12 c13 c14 c15 c16 c17
    have hrW := hbW.lt
    have hLl := hL.lt
    go_quiet (fail)
    go_wp2
    go_quiet (fail)
    go_wp2_with fail
    refine (HI.out _).mono ?_
    rintro e w2 ⟨rfl, kp2⟩
    have hL2 : Blk w2 w.heap.size [.int .i64 0, .int .i64 0, .int .i64 0] 66 := kp2.blk (by (repeat' (first | ((with_reducible show (_ : List Value) = _); rfl) | with_reducible exact hL | ((with_reducible refine Blk.newAt _ _ _ ?_); first | with_reducible rfl | (simp; done)) | with_reducible refine Blk.alloc ?_ _ | with_reducible refine Blk.drewN ?_ _ | with_reducible refine Blk.drew ?_ | ((with_reducible refine Blk.other ?_ _ ?_); rotate_left; ((try dsimp only); omega)) | with_reducible refine Blk.setB (cs0 := ?_) ?_ ?_))) no_elim
    have hb2 : Blk w2 r [.int .i64 k0, .int .i64 n0, .int .i64 v0, .int .i64 k1, .int .i64 n1, .int .i64 v1, .int .i64 k2, .int .i64 n2, .int .i64 v2, .int .i64 k3, .int .i64 n3, .int .i64 v3, .int .i64 k4, .int .i64 n4, .int .i64 v4, .int .i64 k5, .int .i64 n5, .int .i64 v5, .string inp, .int .i64 ((rd : Int) + 1), .string tr, .string outp] 91 := kp2.blk (by (repeat' (first | ((with_reducible show (_ : List Value) = _); rfl) | with_reducible exact hbW | ((with_reducible refine Blk.newAt _ _ _ ?_); first | with_reducible rfl | (simp; done)) | with_reducible refine Blk.alloc ?_ _ | with_reducible refine Blk.drewN ?_ _ | with_reducible refine Blk.drew ?_ | ((with_reducible refine Blk.other ?_ _ ?_); rotate_left; ((try dsimp only); omega)) | with_reducible refine Blk.setB (cs0 := ?_) ?_ ?_))) no_elim
    have K2 := kp2.mono (S' := (· = r)) (fun _ e => False.elim e)
    obtain ⟨z0, z1, z2, zf⟩ := hL2.c3
    have hz := hL2.lt
    go_wp2
    refine body_agg (Tb := 66) (b := w.heap.size) (cs := [.int .i64 ik, .int .i64 inn, .int .i64 iv]) (.inr rfl) Tryz.results89 rfl rfl (by (repeat' (first | ((with_reducible show (_ : List Value) = _); rfl) | with_reducible exact hL2 | ((with_reducible refine Blk.newAt _ _ _ ?_); first | with_reducible rfl | (simp; done)) | with_reducible refine Blk.alloc ?_ _ | with_reducible refine Blk.drewN ?_ _ | with_reducible refine Blk.drew ?_ | ((with_reducible refine Blk.other ?_ _ ?_); rotate_left; ((try dsimp only); omega)) | with_reducible refine Blk.setB (cs0 := ?_) ?_ ?_))) Tryz.underlying66 rfl (by kernel_rfl) ?_
    rw [HV.out]
    exact ⟨fun _ => ⟨rfl, by push_cast; (repeat' (first | ((with_reducible show (_ : List Value) = _); rfl) | with_reducible exact hb2 | ((with_reducible refine Blk.newAt _ _ _ ?_); first | with_reducible rfl | (simp; done)) | with_reducible refine Blk.alloc ?_ _ | with_reducible refine Blk.drewN ?_ _ | with_reducible refine Blk.drew ?_ | ((with_reducible refine Blk.other ?_ _ ?_); rotate_left; ((try dsimp only); omega)) | with_reducible refine Blk.setB (cs0 := ?_) ?_ ?_))⟩, fun h => absurd hlt h, by (repeat' (first | with_reducible exact Kp.refl _ _ | with_reducible refine Kp.alloc ?_ _ | with_reducible refine Kp.drewN ?_ _ | with_reducible refine Kp.drew ?_ | with_reducible refine Kp.setCell ?_ _ ?_ | with_reducible refine Kp.trans ?_ kW (fun _ _ e => e) | with_reducible refine Kp.trans ?_ K2 (fun _ _ e => e) | (intro hh; first | rfl | exact .inl rfl | exact .inr rfl | (exfalso; (try dsimp only at hh); omega))))⟩
  · have HV : Hid ((inVal 90).nc = [.int .i64 8, .int .i64 0, .int .i64 0]) := rfl
    go_enter Tryz.func89, Tryz.ntmps89
    go_wp2
    refine wp_gen (fun W => Blk W r [.int .i64 k0, .int .i64 n0, .int .i64 v0, .int .i64 k1, .int .i64 n1, .int .i64 v1, .int .i64 k2, .int .i64 n2, .int .i64 v2, .int .i64 k3, .int .i64 n3, .int .i64 v3, .int .i64 k4, .int .i64 n4, .int .i64 v4, .int .i64 k5, .int .i64 n5, .int .i64 v5, .string inp, .int .i64 rd, .string tr, .string outp] 91 ∧ Blk W w.heap.size [.int .i64 0, .int .i64 0, .int .i64 0] 66 ∧ Kp (· = r) w W) ⟨by (repeat' (first | ((with_reducible show (_ : List Value) = _); rfl) | with_reducible exact hb | ((with_reducible refine Blk.newAt _ _ _ ?_); first | with_reducible rfl | (simp; done)) | with_reducible refine Blk.alloc ?_ _ | with_reducible refine Blk.drewN ?_ _ | with_reducible refine Blk.drew ?_ | ((with_reducible refine Blk.other ?_ _ ?_); rotate_left; ((try dsimp only); omega)) | with_reducible refine Blk.setB (cs0 := ?_) ?_ ?_)), by (repeat' (first | ((with_reducible show (_ : List Value) = _); rfl) | ((with_reducible refine Blk.newAt _ _ _ ?_); first | with_reducible rfl | (simp; done)) | with_reducible refine Blk.alloc ?_ _ | with_reducible refine Blk.drewN ?_ _ | with_reducible refine Blk.drew ?_ | ((with_reducible refine Blk.other ?_ _ ?_); rotate_left; ((try dsimp only); omega)) | with_reducible refine Blk.setB (cs0 := ?_) ?_ ?_)), by (repeat' (first | with_reducible exact Kp.refl _ _ | with_reducible refine Kp.alloc ?_ _ | with_reducible refine Kp.drewN ?_ _ | with_reducible refine Kp.drew ?_ | with_reducible refine Kp.setCell ?_ _ ?_ | (intro hh; first | rfl | exact .inl rfl | exact .inr rfl | (exfalso; (try dsimp only at hh); omega))))⟩ ?_
    rintro W ⟨hbW, hL, kW⟩
    obtain ⟨c0, c1, c2, c3, c4, c5, c6, c7, c8, c9, c10, c11, c12, c13, c14, c15, c16, c17, c18, c19, c20, c21, cf⟩ := hbW.c22
    clear c0 c1 c2 c3 c4 c5 c6 c7 c8 c9 c10 c11 c12 c13 c14 c15 c16 c17
    have hrW := hbW.lt
    have hLl := hL.lt
    obtain ⟨z0, z1, z2, zf⟩ := hL.c3
    go_quiet (fail)
    go_wp2
    refine body_agg (Tb := 66) (b := w.heap.size) (cs := [.int .i64 8, .int .i64 0, .int .i64 0]) (.inr rfl) Tryz.results89 rfl rfl (by (repeat' (first | ((with_reducible show (_ : List Value) = _); rfl) | with_reducible exact hL | ((with_reducible refine Blk.newAt _ _ _ ?_); first | with_reducible rfl | (simp; done)) | with_reducible refine Blk.alloc ?_ _ | with_reducible refine Blk.drewN ?_ _ | with_reducible refine Blk.drew ?_ | ((with_reducible refine Blk.other ?_ _ ?_); rotate_left; ((try dsimp only); omega)) | with_reducible refine Blk.setB (cs0 := ?_) ?_ ?_))) Tryz.underlying66 rfl (by kernel_rfl) ?_
    rw [HV.out]
    exact ⟨fun h => absurd h hlt, fun _ => ⟨rfl, by (repeat' (first | ((with_reducible show (_ : List Value) = _); rfl) | with_reducible exact hbW | ((with_reducible refine Blk.newAt _ _ _ ?_); first | with_reducible rfl | (simp; done)) | with_reducible refine Blk.alloc ?_ _ | with_reducible refine Blk.drewN ?_ _ | with_reducible refine Blk.drew ?_ | ((with_reducible refine Blk.other ?_ _ ?_); rotate_left; ((try dsimp only); omega)) | with_reducible refine Blk.setB (cs0 := ?_) ?_ ?_))⟩, by (repeat' (first | with_reducible exact Kp.refl _ _ | with_reducible refine Kp.alloc ?_ _ | with_reducible refine Kp.drewN ?_ _ | with_reducible refine Kp.drew ?_ | with_reducible refine Kp.setCell ?_ _ ?_ | with_reducible refine Kp.trans ?_ kW (fun _ _ e => e) | (intro hh; first | rfl | exact .inl rfl | exact .inr rfl | (exfalso; (try dsimp only at hh); omega))))⟩

theorem nnext_c {w : World} {r : Nat} {inp : ByteArray} {m : Mc} (h : NB w r inp m) (hi : inp.size ≤ 40) :
    Calls Tryz.prog 89 #[.pointer (some ⟨r, 0, none⟩)] w fun e w' => e = .returned (.agg (nextF inp m).1.nc.toArray) ∧ NB w' r inp (nextF inp m).2 ∧ Kp (· = r) w w' := by
  obtain ⟨hb, h6⟩ := h
  obtain ⟨l, rd, left, tr, outp, me⟩ := m
  dsimp only at *
  obtain ⟨a, b, c, d, e, f, rfl⟩ := six_of h6
  refine (nnext_at r inp tr outp rd (bit a.k) a.n (bit a.v) (bit b.k) b.n (bit b.v) (bit c.k) c.n (bit c.v) (bit d.k) d.n (bit d.v) (bit e.k) e.n (bit e.v) (bit f.k) f.n (bit f.v) w hi hb).mono ?_
  rintro x w' ⟨h1, h2, k'⟩
  by_cases hlt : rd < inp.size
  · obtain ⟨rfl, hb'⟩ := h1 hlt
    rw [nextF, if_pos hlt]
    exact ⟨rfl, ⟨hb', rfl⟩, k'⟩
  · obtain ⟨rfl, hb'⟩ := h2 hlt
    rw [nextF, if_neg hlt]
    exact ⟨rfl, ⟨hb', rfl⟩, k'⟩

set_option maxHeartbeats 1600000 in
theorem ngiven_1 (tx : ByteArray) (nx ny nw ck cn ch kd yes nno yk yn yv wk wn wv : Int) (w : World) :
    Calls Tryz.prog 91 #[.agg #[.string tx, .int .i64 1, .int .i64 nx, .int .i64 ny, .int .i64 nw, .int .i64 ck, .int .i64 cn, .int .i64 ch, .int .i64 kd, .int .i64 yes, .int .i64 nno], .agg #[.int .i64 yk, .int .i64 yn, .int .i64 yv], .agg #[.int .i64 wk, .int .i64 wn, .int .i64 wv]] w fun e w' => e = .returned (.agg #[.int .i64 ck, .int .i64 cn, .int .i64 ch]) ∧ Kp no w w' := by
  go_enter Tryz.func91, Tryz.ntmps91
  go_wp2
  refine body_agg (Tb := 66) (b := w.heap.size + 3) (cs := [.int .i64 ck, .int .i64 cn, .int .i64 ch]) (.inr rfl) Tryz.results91 rfl rfl (by (repeat' (first | ((with_reducible show (_ : List Value) = _); rfl) | ((with_reducible refine Blk.newAt _ _ _ ?_); first | with_reducible rfl | (simp; done)) | with_reducible refine Blk.alloc ?_ _ | with_reducible refine Blk.drewN ?_ _ | with_reducible refine Blk.drew ?_ | ((with_reducible refine Blk.other ?_ _ ?_); rotate_left; ((try dsimp only); omega)) | with_reducible refine Blk.setB (cs0 := ?_) ?_ ?_))) Tryz.underlying66 rfl (by kernel_rfl) ?_
  exact ⟨rfl, by (repeat' (first | with_reducible exact Kp.refl _ _ | with_reducible refine Kp.alloc ?_ _ | with_reducible refine Kp.drewN ?_ _ | with_reducible refine Kp.drew ?_ | with_reducible refine Kp.setCell ?_ _ ?_ | (intro hh; first | rfl | exact .inl rfl | exact .inr rfl | (exfalso; (try dsimp only at hh); omega))))⟩

set_option maxHeartbeats 1600000 in
theorem ngiven_3 (tx : ByteArray) (nx ny nw ck cn ch kd yes nno yk yn yv wk wn wv : Int) (w : World) :
    Calls Tryz.prog 91 #[.agg #[.string tx, .int .i64 3, .int .i64 nx, .int .i64 ny, .int .i64 nw, .int .i64 ck, .int .i64 cn, .int .i64 ch, .int .i64 kd, .int .i64 yes, .int .i64 nno], .agg #[.int .i64 yk, .int .i64 yn, .int .i64 yv], .agg #[.int .i64 wk, .int .i64 wn, .int .i64 wv]] w fun e w' => e = .returned (.agg #[.int .i64 yk, .int .i64 yn, .int .i64 yv]) ∧ Kp no w w' := by
  go_enter Tryz.func91, Tryz.ntmps91
  go_wp2
  refine body_agg (Tb := 66) (b := w.heap.size + 3) (cs := [.int .i64 yk, .int .i64 yn, .int .i64 yv]) (.inr rfl) Tryz.results91 rfl rfl (by (repeat' (first | ((with_reducible show (_ : List Value) = _); rfl) | ((with_reducible refine Blk.newAt _ _ _ ?_); first | with_reducible rfl | (simp; done)) | with_reducible refine Blk.alloc ?_ _ | with_reducible refine Blk.drewN ?_ _ | with_reducible refine Blk.drew ?_ | ((with_reducible refine Blk.other ?_ _ ?_); rotate_left; ((try dsimp only); omega)) | with_reducible refine Blk.setB (cs0 := ?_) ?_ ?_))) Tryz.underlying66 rfl (by kernel_rfl) ?_
  exact ⟨rfl, by (repeat' (first | with_reducible exact Kp.refl _ _ | with_reducible refine Kp.alloc ?_ _ | with_reducible refine Kp.drewN ?_ _ | with_reducible refine Kp.drew ?_ | with_reducible refine Kp.setCell ?_ _ ?_ | (intro hh; first | rfl | exact .inl rfl | exact .inr rfl | (exfalso; (try dsimp only at hh); omega))))⟩

set_option maxHeartbeats 1600000 in
theorem ngiven_6 (tx : ByteArray) (nx ny nw ck cn ch kd yes nno yk yn yv wk wn wv : Int) (w : World) :
    Calls Tryz.prog 91 #[.agg #[.string tx, .int .i64 6, .int .i64 nx, .int .i64 ny, .int .i64 nw, .int .i64 ck, .int .i64 cn, .int .i64 ch, .int .i64 kd, .int .i64 yes, .int .i64 nno], .agg #[.int .i64 yk, .int .i64 yn, .int .i64 yv], .agg #[.int .i64 wk, .int .i64 wn, .int .i64 wv]] w fun e w' => e = .returned (.agg #[.int .i64 16, .int .i64 yn, .int .i64 0]) ∧ Kp no w w' := by
  go_enter Tryz.func91, Tryz.ntmps91
  go_wp2
  refine body_agg (Tb := 66) (b := w.heap.size + 3) (cs := [.int .i64 16, .int .i64 yn, .int .i64 0]) (.inr rfl) Tryz.results91 rfl rfl (by (repeat' (first | ((with_reducible show (_ : List Value) = _); rfl) | ((with_reducible refine Blk.newAt _ _ _ ?_); first | with_reducible rfl | (simp; done)) | with_reducible refine Blk.alloc ?_ _ | with_reducible refine Blk.drewN ?_ _ | with_reducible refine Blk.drew ?_ | ((with_reducible refine Blk.other ?_ _ ?_); rotate_left; ((try dsimp only); omega)) | with_reducible refine Blk.setB (cs0 := ?_) ?_ ?_))) Tryz.underlying66 rfl (by kernel_rfl) ?_
  exact ⟨rfl, by (repeat' (first | with_reducible exact Kp.refl _ _ | with_reducible refine Kp.alloc ?_ _ | with_reducible refine Kp.drewN ?_ _ | with_reducible refine Kp.drew ?_ | with_reducible refine Kp.setCell ?_ _ ?_ | (intro hh; first | rfl | exact .inl rfl | exact .inr rfl | (exfalso; (try dsimp only at hh); omega))))⟩

set_option maxHeartbeats 1600000 in
theorem ngiven_7 (tx : ByteArray) (nx ny nw ck cn ch kd yes nno yk yn yv wk wn wv : Int) (w : World) :
    Calls Tryz.prog 91 #[.agg #[.string tx, .int .i64 7, .int .i64 nx, .int .i64 ny, .int .i64 nw, .int .i64 ck, .int .i64 cn, .int .i64 ch, .int .i64 kd, .int .i64 yes, .int .i64 nno], .agg #[.int .i64 yk, .int .i64 yn, .int .i64 yv], .agg #[.int .i64 wk, .int .i64 wn, .int .i64 wv]] w fun e w' => e = .returned (.agg #[.int .i64 32, .int .i64 0, .int .i64 yk]) ∧ Kp no w w' := by
  go_enter Tryz.func91, Tryz.ntmps91
  go_wp2
  refine body_agg (Tb := 66) (b := w.heap.size + 3) (cs := [.int .i64 32, .int .i64 0, .int .i64 yk]) (.inr rfl) Tryz.results91 rfl rfl (by (repeat' (first | ((with_reducible show (_ : List Value) = _); rfl) | ((with_reducible refine Blk.newAt _ _ _ ?_); first | with_reducible rfl | (simp; done)) | with_reducible refine Blk.alloc ?_ _ | with_reducible refine Blk.drewN ?_ _ | with_reducible refine Blk.drew ?_ | ((with_reducible refine Blk.other ?_ _ ?_); rotate_left; ((try dsimp only); omega)) | with_reducible refine Blk.setB (cs0 := ?_) ?_ ?_))) Tryz.underlying66 rfl (by kernel_rfl) ?_
  exact ⟨rfl, by (repeat' (first | with_reducible exact Kp.refl _ _ | with_reducible refine Kp.alloc ?_ _ | with_reducible refine Kp.drewN ?_ _ | with_reducible refine Kp.drew ?_ | with_reducible refine Kp.setCell ?_ _ ?_ | (intro hh; first | rfl | exact .inl rfl | exact .inr rfl | (exfalso; (try dsimp only at hh); omega))))⟩

set_option maxHeartbeats 1600000 in
theorem ngiven_4 (tx : ByteArray) (nx ny nw ck cn ch kd yes nno yk yn yv wk wn wv : Int) (w : World) (h1 : 0 ≤ yn) (h2 : yn ≤ 999) (h3 : 0 ≤ wn) (h4 : wn ≤ 999) :
    Calls Tryz.prog 91 #[.agg #[.string tx, .int .i64 4, .int .i64 nx, .int .i64 ny, .int .i64 nw, .int .i64 ck, .int .i64 cn, .int .i64 ch, .int .i64 kd, .int .i64 yes, .int .i64 nno], .agg #[.int .i64 yk, .int .i64 yn, .int .i64 yv], .agg #[.int .i64 wk, .int .i64 wn, .int .i64 wv]] w fun e w' => e = .returned (.agg #[.int .i64 1, .int .i64 ((yn + wn) % 1000), .int .i64 0]) ∧ Kp no w w' := by
  have HC := hide (fun W => nsumOf_c yk yn yv wk wn wv W h1 h2 h3 h4)
  go_enter Tryz.func91, Tryz.ntmps91
  go_wp2_with fail
  refine (HC.out _).mono ?_
  rintro e w1 ⟨rfl, k1⟩
  have hR : Blk w1 (w.heap.size + 3) [.int .i64 0, .int .i64 0, .int .i64 0] 66 := k1.blk (by (repeat' (first | ((with_reducible show (_ : List Value) = _); rfl) | ((with_reducible refine Blk.newAt _ _ _ ?_); first | with_reducible rfl | (simp; done)) | with_reducible refine Blk.alloc ?_ _ | with_reducible refine Blk.drewN ?_ _ | with_reducible refine Blk.drew ?_ | ((with_reducible refine Blk.other ?_ _ ?_); rotate_left; ((try dsimp only); omega)) | with_reducible refine Blk.setB (cs0 := ?_) ?_ ?_))) no_elim
  obtain ⟨z0, z1, z2, zf⟩ := hR.c3
  have hz := hR.lt
  go_wp2
  refine body_agg (Tb := 66) (b := w.heap.size + 3) (cs := [.int .i64 1, .int .i64 ((yn + wn) % 1000), .int .i64 0]) (.inr rfl) Tryz.results91 rfl rfl (by (repeat' (first | ((with_reducible show (_ : List Value) = _); rfl) | with_reducible exact hR | ((with_reducible refine Blk.newAt _ _ _ ?_); first | with_reducible rfl | (simp; done)) | with_reducible refine Blk.alloc ?_ _ | with_reducible refine Blk.drewN ?_ _ | with_reducible refine Blk.drew ?_ | ((with_reducible refine Blk.other ?_ _ ?_); rotate_left; ((try dsimp only); omega)) | with_reducible refine Blk.setB (cs0 := ?_) ?_ ?_))) Tryz.underlying66 rfl (by kernel_rfl) ?_
  exact ⟨rfl, by (repeat' (first | with_reducible exact Kp.refl _ _ | with_reducible refine Kp.alloc ?_ _ | with_reducible refine Kp.drewN ?_ _ | with_reducible refine Kp.drew ?_ | with_reducible refine Kp.setCell ?_ _ ?_ | with_reducible refine Kp.trans ?_ k1 (fun _ _ e => e) | (intro hh; first | rfl | exact .inl rfl | exact .inr rfl | (exfalso; (try dsimp only at hh); omega))))⟩

set_option maxHeartbeats 1600000 in
theorem ngiven_5 (tx : ByteArray) (nx ny nw ck cn ch kd yes nno yk yn yv wk wn wv : Int) (w : World) :
    Calls Tryz.prog 91 #[.agg #[.string tx, .int .i64 5, .int .i64 nx, .int .i64 ny, .int .i64 nw, .int .i64 ck, .int .i64 cn, .int .i64 ch, .int .i64 kd, .int .i64 yes, .int .i64 nno], .agg #[.int .i64 yk, .int .i64 yn, .int .i64 yv], .agg #[.int .i64 wk, .int .i64 wn, .int .i64 wv]] w fun e w' => e = .returned (.agg #[.int .i64 (if yn < wn then 2 else 4), .int .i64 0, .int .i64 0]) ∧ Kp no w w' := by
  have HC := hide (fun W => nisBelow_c yk yn yv wk wn wv W)
  generalize (if yn < wn then (2 : Int) else 4) = q at *
  go_enter Tryz.func91, Tryz.ntmps91
  go_wp2_with fail
  refine (HC.out _).mono ?_
  rintro e w1 ⟨rfl, k1⟩
  have hR : Blk w1 (w.heap.size + 3) [.int .i64 0, .int .i64 0, .int .i64 0] 66 := k1.blk (by (repeat' (first | ((with_reducible show (_ : List Value) = _); rfl) | ((with_reducible refine Blk.newAt _ _ _ ?_); first | with_reducible rfl | (simp; done)) | with_reducible refine Blk.alloc ?_ _ | with_reducible refine Blk.drewN ?_ _ | with_reducible refine Blk.drew ?_ | ((with_reducible refine Blk.other ?_ _ ?_); rotate_left; ((try dsimp only); omega)) | with_reducible refine Blk.setB (cs0 := ?_) ?_ ?_))) no_elim
  obtain ⟨z0, z1, z2, zf⟩ := hR.c3
  have hz := hR.lt
  go_wp2
  refine body_agg (Tb := 66) (b := w.heap.size + 3) (cs := [.int .i64 q, .int .i64 0, .int .i64 0]) (.inr rfl) Tryz.results91 rfl rfl (by (repeat' (first | ((with_reducible show (_ : List Value) = _); rfl) | with_reducible exact hR | ((with_reducible refine Blk.newAt _ _ _ ?_); first | with_reducible rfl | (simp; done)) | with_reducible refine Blk.alloc ?_ _ | with_reducible refine Blk.drewN ?_ _ | with_reducible refine Blk.drew ?_ | ((with_reducible refine Blk.other ?_ _ ?_); rotate_left; ((try dsimp only); omega)) | with_reducible refine Blk.setB (cs0 := ?_) ?_ ?_))) Tryz.underlying66 rfl (by kernel_rfl) ?_
  exact ⟨rfl, by (repeat' (first | with_reducible exact Kp.refl _ _ | with_reducible refine Kp.alloc ?_ _ | with_reducible refine Kp.drewN ?_ _ | with_reducible refine Kp.drew ?_ | with_reducible refine Kp.setCell ?_ _ ?_ | with_reducible refine Kp.trans ?_ k1 (fun _ _ e => e) | (intro hh; first | rfl | exact .inl rfl | exact .inr rfl | (exfalso; (try dsimp only at hh); omega))))⟩

set_option maxHeartbeats 1600000 in
theorem ngiven_8 (tx : ByteArray) (nx ny nw ck cn ch kd yes nno yk yn yv wk wn wv : Int) (w : World) :
    Calls Tryz.prog 91 #[.agg #[.string tx, .int .i64 8, .int .i64 nx, .int .i64 ny, .int .i64 nw, .int .i64 ck, .int .i64 cn, .int .i64 ch, .int .i64 kd, .int .i64 yes, .int .i64 nno], .agg #[.int .i64 yk, .int .i64 yn, .int .i64 yv], .agg #[.int .i64 wk, .int .i64 wn, .int .i64 wv]] w fun e w' => e = .returned (.agg #[.int .i64 (if yk = 16 then 1 else yv), .int .i64 (if yk = 16 then yn else 0), .int .i64 0]) ∧ Kp no w w' := by
  have HC := hide (fun W => nheldBy_c yk yn yv W)
  generalize (if yk = 16 then (1 : Int) else yv) = q at *
  generalize (if yk = 16 then yn else (0 : Int)) = q2 at *
  go_enter Tryz.func91, Tryz.ntmps91
  go_wp2_with fail
  refine (HC.out _).mono ?_
  rintro e w1 ⟨rfl, k1⟩
  have hR : Blk w1 (w.heap.size + 3) [.int .i64 0, .int .i64 0, .int .i64 0] 66 := k1.blk (by (repeat' (first | ((with_reducible show (_ : List Value) = _); rfl) | ((with_reducible refine Blk.newAt _ _ _ ?_); first | with_reducible rfl | (simp; done)) | with_reducible refine Blk.alloc ?_ _ | with_reducible refine Blk.drewN ?_ _ | with_reducible refine Blk.drew ?_ | ((with_reducible refine Blk.other ?_ _ ?_); rotate_left; ((try dsimp only); omega)) | with_reducible refine Blk.setB (cs0 := ?_) ?_ ?_))) no_elim
  obtain ⟨z0, z1, z2, zf⟩ := hR.c3
  have hz := hR.lt
  go_wp2
  refine body_agg (Tb := 66) (b := w.heap.size + 3) (cs := [.int .i64 q, .int .i64 q2, .int .i64 0]) (.inr rfl) Tryz.results91 rfl rfl (by (repeat' (first | ((with_reducible show (_ : List Value) = _); rfl) | with_reducible exact hR | ((with_reducible refine Blk.newAt _ _ _ ?_); first | with_reducible rfl | (simp; done)) | with_reducible refine Blk.alloc ?_ _ | with_reducible refine Blk.drewN ?_ _ | with_reducible refine Blk.drew ?_ | ((with_reducible refine Blk.other ?_ _ ?_); rotate_left; ((try dsimp only); omega)) | with_reducible refine Blk.setB (cs0 := ?_) ?_ ?_))) Tryz.underlying66 rfl (by kernel_rfl) ?_
  exact ⟨rfl, by (repeat' (first | with_reducible exact Kp.refl _ _ | with_reducible refine Kp.alloc ?_ _ | with_reducible refine Kp.drewN ?_ _ | with_reducible refine Kp.drew ?_ | with_reducible refine Kp.setCell ?_ _ ?_ | with_reducible refine Kp.trans ?_ k1 (fun _ _ e => e) | (intro hh; first | rfl | exact .inl rfl | exact .inr rfl | (exfalso; (try dsimp only at hh); omega))))⟩

set_option maxHeartbeats 1600000 in
theorem nholds_c (tx : ByteArray) (act nx ny nw ck cn ch kd yes nno yk yn yv : Int) (w : World) :
    Calls Tryz.prog 92 #[.agg #[.string tx, .int .i64 act, .int .i64 nx, .int .i64 ny, .int .i64 nw, .int .i64 ck, .int .i64 cn, .int .i64 ch, .int .i64 kd, .int .i64 yes, .int .i64 nno], .agg #[.int .i64 yk, .int .i64 yn, .int .i64 yv]] w fun e w' => e = .returned (.bool (if act = 12 then (yk != 4 && yk != 8 && (yk != 1 || yn != 0)) else if act = 13 then yk == kd else true)) ∧ Kp no w w' := by
  by_cases h12 : act = 12
  · subst h12
    rw [if_pos rfl]
    have HT := hide (fun W => ntakenAsTrue_c yk yn yv W)
    generalize (yk != 4 && yk != 8 && (yk != 1 || yn != 0)) = q at *
    go_enter Tryz.func92, Tryz.ntmps92
    go_wp2_with fail
    refine (HT.out _).mono ?_
    rintro e w1 ⟨rfl, k1⟩
    go_wp2
    go_ret
    exact ⟨rfl, by (repeat' (first | with_reducible exact Kp.refl _ _ | with_reducible refine Kp.alloc ?_ _ | with_reducible refine Kp.drewN ?_ _ | with_reducible refine Kp.drew ?_ | with_reducible refine Kp.setCell ?_ _ ?_ | with_reducible refine Kp.trans ?_ k1 (fun _ _ e => e) | (intro hh; first | rfl | exact .inl rfl | exact .inr rfl | (exfalso; (try dsimp only at hh); omega))))⟩
  by_cases h13 : act = 13
  · subst h13
    rw [if_neg (by decide), if_pos rfl]
    go_enter Tryz.func92, Tryz.ntmps92
    go_wp2
    go_ret
    exact ⟨rfl, by (repeat' (first | with_reducible exact Kp.refl _ _ | with_reducible refine Kp.alloc ?_ _ | with_reducible refine Kp.drewN ?_ _ | with_reducible refine Kp.drew ?_ | with_reducible refine Kp.setCell ?_ _ ?_ | (intro hh; first | rfl | exact .inl rfl | exact .inr rfl | (exfalso; (try dsimp only at hh); omega))))⟩
  · rw [if_neg h12, if_neg h13]
    have f12 : (act == 12) = false := by simp [h12]
    have f13 : (act == 13) = false := by simp [h13]
    go_enter Tryz.func92, Tryz.ntmps92
    go_wp2
    go_ret
    exact ⟨rfl, by (repeat' (first | with_reducible exact Kp.refl _ _ | with_reducible refine Kp.alloc ?_ _ | with_reducible refine Kp.drewN ?_ _ | with_reducible refine Kp.drew ?_ | with_reducible refine Kp.setCell ?_ _ ?_ | (intro hh; first | rfl | exact .inl rfl | exact .inr rfl | (exfalso; (try dsimp only at hh); omega))))⟩

end Go.Proofs.YtellieabhaphhabGreatDoor
