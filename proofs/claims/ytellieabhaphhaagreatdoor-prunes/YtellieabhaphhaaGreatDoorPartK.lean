import Derived.Test.YtellieabhaphhaaGreatDoorPartJ
import Derived.Test.YtellieabhaphhaaGreatDoorPartE
import Derived.Deep.Cut
/-
  narrow's reader: a line of a graph.
-/
namespace Go.Proofs.YtellieabhaphhaaGreatDoor
open Go.RowKit

set_option maxHeartbeats 400000 in
theorem nisTest_c (a : Int) (w : World) :
    Calls Tryz.prog 99 #[.int .i64 a] w fun e w' => e = .returned (.bool (decide (a = 12 ∨ a = 13))) ∧ w' = w := by
  by_cases h1 : a = 12
  · subst h1
    go_enter Tryz.func99, Tryz.ntmps99
    go_wp2
    go_ret
    exact ⟨rfl, rfl⟩
  by_cases h2 : a = 13
  · subst h2
    go_enter Tryz.func99, Tryz.ntmps99
    go_wp2
    go_ret
    exact ⟨rfl, rfl⟩
  · have g1 : (a == 12) = false := by simp [h1]
    have g2 : (a == 13) = false := by simp [h2]
    rw [show decide (a = 12 ∨ a = 13) = false by simp [h1, h2]]
    go_enter Tryz.func99, Tryz.ntmps99
    go_wp2
    go_ret
    exact ⟨rfl, rfl⟩

theorem gnF_le (s : ByteArray) (i : Nat) (h : i < s.size) : (gnF s (i, false)).2.1 ≤ s.size ∧ i ≤ (gnF s (i, false)).2.1 := by
  rw [(gn_ref s i).1]
  exact ⟨lineN_le s i h, (lineN_ge s i).1⟩

set_option maxHeartbeats 3200000 in
theorem nline_c (r i : Nat) (s : ByteArray) (rest : List Value) (T : TypeId) (w : World) (hs : s.size ≤ 1000) (hi : i < s.size)
    (h : NR w r s (i, false) rest T) :
    Calls Tryz.prog 59 #[.pointer (some ⟨r, 0, none⟩)] w fun e w' => e = .returned (.agg (lnF s (i, false)).1.cells.toArray) ∧ NR w' r s (lnF s (i, false)).2 rest T ∧ Kp (· = r) w w' := by
  have HG := hide (fun W (hW : NR W r s (i, false) rest T) => ngraphNode_c r i s false rest T W hs (by omega) hW)
  obtain ⟨g1, g2⟩ := gnF_le s i hi
  have hr := h.lt
  obtain ⟨h0, h1, h2, hf⟩ := h.c
  have hb : Blk w r (.string s :: .int .i64 i :: .bool false :: rest) T := h
  have HV : Hid (lnF s (i, false) = ((lnW s (lnY s ((gnF s (i, false)).1.setT (sinceB s i (gnF s (i, false)).2.1)) (gnF s (i, false)).2).1 (lnY s ((gnF s (i, false)).1.setT (sinceB s i (gnF s (i, false)).2.1)) (gnF s (i, false)).2).2).1, eatF s (lnW s (lnY s ((gnF s (i, false)).1.setT (sinceB s i (gnF s (i, false)).2.1)) (gnF s (i, false)).2).1 (lnY s ((gnF s (i, false)).1.setT (sinceB s i (gnF s (i, false)).2.1)) (gnF s (i, false)).2).2).2 59)) := rfl
  generalize gnF s (i, false) = g at *
  obtain ⟨⟨tx, act, nx, ny, nw, ck, cn, ch, kd, yes, no⟩, p, b⟩ := g
  dsimp only at *
  unfold NN.cells at HG
  dsimp only at HG
  clear h
  go_enter Tryz.func59, Tryz.ntmps59
  go_wp2_with fail
  refine (HG.out _ (by (show Blk _ _ _ _); (repeat' (first | ((with_reducible show (_ : List Value) = _); rfl) | with_reducible exact hb | ((with_reducible refine Blk.newAt _ _ _ ?_); first | with_reducible rfl | (simp; done)) | with_reducible refine Blk.alloc ?_ _ | with_reducible refine Blk.drewN ?_ _ | with_reducible refine Blk.drew ?_ | ((with_reducible refine Blk.other ?_ _ ?_); rotate_left; ((try dsimp only); omega)) | with_reducible refine Blk.setB (cs0 := ?_) ?_ ?_)))).mono ?_
  rintro e w1 ⟨rfl, hN1, k1⟩
  have hb1 : Blk w1 r (.string s :: .int .i64 p :: .bool b :: rest) T := hN1
  have hr1 := hb1.lt
  have hR1 : Blk w1 w.heap.size [.string ⟨#[]⟩, .int .i64 0, .int .i64 0, .int .i64 0, .int .i64 0, .int .i64 0, .int .i64 0, .int .i64 0, .int .i64 0, .int .i64 0, .int .i64 0] 91 := k1.blk (by (repeat' (first | ((with_reducible show (_ : List Value) = _); rfl) | with_reducible exact hb | ((with_reducible refine Blk.newAt _ _ _ ?_); first | with_reducible rfl | (simp; done)) | with_reducible refine Blk.alloc ?_ _ | with_reducible refine Blk.drewN ?_ _ | with_reducible refine Blk.drew ?_ | ((with_reducible refine Blk.other ?_ _ ?_); rotate_left; ((try dsimp only); omega)) | with_reducible refine Blk.setB (cs0 := ?_) ?_ ?_))) (by omega)
  have hz1 := hR1.lt
  obtain ⟨y1, y2, y3, y4⟩ := NR.c (i := p) (b := b) hb1
  go_wp2_with fail
  refine (nsince_c r p i s b rest T _ hs g1 g2 (by (show Blk _ _ _ _); (repeat' (first | ((with_reducible show (_ : List Value) = _); rfl) | with_reducible exact hb1 | ((with_reducible refine Blk.newAt _ _ _ ?_); first | with_reducible rfl | (simp; done)) | with_reducible refine Blk.alloc ?_ _ | with_reducible refine Blk.drewN ?_ _ | with_reducible refine Blk.drew ?_ | ((with_reducible refine Blk.other ?_ _ ?_); rotate_left; ((try dsimp only); omega)) | with_reducible refine Blk.setB (cs0 := ?_) ?_ ?_)))).mono ?_
  rintro e w2 ⟨rfl, n2, rfl⟩
  generalize sinceB s i p = tx2 at *
  have HI := hide (fun W => nisTest_c act W)
  have HE := hide (fun (q : Nat × Bool) W (hq : q.1 ≤ s.size) (hW : NR W r s q rest T) => nexpect_c r q.1 s ⟨#[59]⟩ q.2 rest T W hs hq (by decide) (by decide) hW)
  by_cases h11 : act = 11
  · subst h11
    rw [show decide ((11 : Int) = 12 ∨ (11 : Int) = 13) = false by decide] at HI
    rw [lnY_11 rfl, lnW_no (show ¬ ((11 : Int) = 12 ∨ (11 : Int) = 13) by decide)] at HV
    go_wp2_with fail
    refine (HI.out _).mono ?_
    rintro e w' ⟨rfl, rfl⟩
    go_wp2_with fail
    refine (HE.out (p, b) _ g1 (by (show Blk _ _ _ _); (repeat' (first | ((with_reducible show (_ : List Value) = _); rfl) | with_reducible exact hb1 | ((with_reducible refine Blk.newAt _ _ _ ?_); first | with_reducible rfl | (simp; done)) | with_reducible refine Blk.alloc ?_ _ | with_reducible refine Blk.drewN ?_ _ | with_reducible refine Blk.drew ?_ | ((with_reducible refine Blk.other ?_ _ ?_); rotate_left; ((try dsimp only); omega)) | with_reducible refine Blk.setB (cs0 := ?_) ?_ ?_)))).mono ?_
    rintro e w3 ⟨rfl, hN3, k3⟩
    have hL3 : Blk w3 w1.heap.size [.string tx2, .int .i64 11, .int .i64 nx, .int .i64 ny, .int .i64 nw, .int .i64 ck, .int .i64 cn, .int .i64 ch, .int .i64 kd, .int .i64 yes, .int .i64 no] 91 := k3.blk (by (repeat' (first | ((with_reducible show (_ : List Value) = _); rfl) | ((with_reducible refine Blk.newAt _ _ _ ?_); first | with_reducible rfl | (simp; done)) | with_reducible refine Blk.alloc ?_ _ | with_reducible refine Blk.drewN ?_ _ | with_reducible refine Blk.drew ?_ | ((with_reducible refine Blk.other ?_ _ ?_); rotate_left; ((try dsimp only); omega)) | with_reducible refine Blk.setB (cs0 := ?_) ?_ ?_))) (by omega)
    have hR3 : Blk w3 w.heap.size [.string ⟨#[]⟩, .int .i64 0, .int .i64 0, .int .i64 0, .int .i64 0, .int .i64 0, .int .i64 0, .int .i64 0, .int .i64 0, .int .i64 0, .int .i64 0] 91 := k3.blk (by (repeat' (first | ((with_reducible show (_ : List Value) = _); rfl) | with_reducible exact hR1 | ((with_reducible refine Blk.newAt _ _ _ ?_); first | with_reducible rfl | (simp; done)) | with_reducible refine Blk.alloc ?_ _ | with_reducible refine Blk.drewN ?_ _ | with_reducible refine Blk.drew ?_ | ((with_reducible refine Blk.other ?_ _ ?_); rotate_left; ((try dsimp only); omega)) | with_reducible refine Blk.setB (cs0 := ?_) ?_ ?_))) (by omega)
    obtain ⟨m_0, m_1, m_2, m_3, m_4, m_5, m_6, m_7, m_8, m_9, m_10, mf⟩ := hL3.c11
    obtain ⟨x_0, x_1, x_2, x_3, x_4, x_5, x_6, x_7, x_8, x_9, x_10, xf⟩ := hR3.c11
    have hLl3 := hL3.lt
    go_wp2
    refine body_agg (Tb := 91) (b := w.heap.size) (cs := [.string tx2, .int .i64 11, .int .i64 nx, .int .i64 ny, .int .i64 nw, .int .i64 ck, .int .i64 cn, .int .i64 ch, .int .i64 kd, .int .i64 yes, .int .i64 no]) (.inr rfl) Tryz.results59 rfl rfl (by (repeat' (first | ((with_reducible show (_ : List Value) = _); rfl) | with_reducible exact hR3 | ((with_reducible refine Blk.newAt _ _ _ ?_); first | with_reducible rfl | (simp; done)) | with_reducible refine Blk.alloc ?_ _ | with_reducible refine Blk.drewN ?_ _ | with_reducible refine Blk.drew ?_ | ((with_reducible refine Blk.other ?_ _ ?_); rotate_left; ((try dsimp only); omega)) | with_reducible refine Blk.setB (cs0 := ?_) ?_ ?_))) Tryz.underlying91 rfl (by kernel_rfl) ?_
    rw [HV.out]
    have hb3 : Blk w3 r (.string s :: .int .i64 (eatF s (p, b) 59).1 :: .bool (eatF s (p, b) 59).2 :: rest) T := hN3
    exact ⟨rfl, by (show Blk _ _ _ _); (repeat' (first | ((with_reducible show (_ : List Value) = _); rfl) | with_reducible exact hb3 | ((with_reducible refine Blk.newAt _ _ _ ?_); first | with_reducible rfl | (simp; done)) | with_reducible refine Blk.alloc ?_ _ | with_reducible refine Blk.drewN ?_ _ | with_reducible refine Blk.drew ?_ | ((with_reducible refine Blk.other ?_ _ ?_); rotate_left; ((try dsimp only); omega)) | with_reducible refine Blk.setB (cs0 := ?_) ?_ ?_)), by (repeat' (first | with_reducible exact Kp.refl _ _ | with_reducible refine Kp.alloc ?_ _ | with_reducible refine Kp.drewN ?_ _ | with_reducible refine Kp.drew ?_ | with_reducible refine Kp.setCell ?_ _ ?_ | with_reducible refine Kp.trans ?_ k1 (fun _ _ e => e) | with_reducible refine Kp.trans ?_ k3 (fun _ _ e => e) | (intro hh; first | rfl | exact .inl rfl | exact .inr rfl | (exfalso; (try dsimp only at hh); omega))))⟩
  have f11 : (act == 11) = false := by simp [h11]
  have HY := hide (fun W (hW : NR W r s (p, b) rest T) => nway_c r p s b rest T W hs g1 hW)
  have hq := wayF_le s (p, b) g1
  rw [lnY_no (show ¬ act = 11 from h11)] at HV
  generalize wayF s (p, b) = q at *
  obtain ⟨y, q⟩ := q
  dsimp only at hq HV HY
  by_cases ht : act = 12 ∨ act = 13
  · rw [decide_eq_true ht] at HI
    have HY2 := hide (fun W (hW : NR W r s q rest T) => nway_c r q.1 s q.2 rest T W hs hq hW)
    have hq2 := wayF_le s q hq
    rw [lnW_t (show act = 12 ∨ act = 13 from ht)] at HV
    rw [show (q.1, q.2) = q from rfl] at HY2
    generalize wayF s q = q2 at *
    obtain ⟨n, q2⟩ := q2
    dsimp only at hq2 HV HY2
    clear ht h11
    go_wp2_with fail
    refine (HY.out _ (by (show Blk _ _ _ _); (repeat' (first | ((with_reducible show (_ : List Value) = _); rfl) | with_reducible exact hb1 | ((with_reducible refine Blk.newAt _ _ _ ?_); first | with_reducible rfl | (simp; done)) | with_reducible refine Blk.alloc ?_ _ | with_reducible refine Blk.drewN ?_ _ | with_reducible refine Blk.drew ?_ | ((with_reducible refine Blk.other ?_ _ ?_); rotate_left; ((try dsimp only); omega)) | with_reducible refine Blk.setB (cs0 := ?_) ?_ ?_)))).mono ?_
    rintro e w3 ⟨rfl, hN3, k3⟩
    have hb3 : Blk w3 r (.string s :: .int .i64 q.1 :: .bool q.2 :: rest) T := hN3
    have hr3 := hb3.lt
    have hL3 : Blk w3 w1.heap.size [.string tx2, .int .i64 act, .int .i64 nx, .int .i64 ny, .int .i64 nw, .int .i64 ck, .int .i64 cn, .int .i64 ch, .int .i64 kd, .int .i64 yes, .int .i64 no] 91 := k3.blk (by (repeat' (first | ((with_reducible show (_ : List Value) = _); rfl) | ((with_reducible refine Blk.newAt _ _ _ ?_); first | with_reducible rfl | (simp; done)) | with_reducible refine Blk.alloc ?_ _ | with_reducible refine Blk.drewN ?_ _ | with_reducible refine Blk.drew ?_ | ((with_reducible refine Blk.other ?_ _ ?_); rotate_left; ((try dsimp only); omega)) | with_reducible refine Blk.setB (cs0 := ?_) ?_ ?_))) (by omega)
    have hR3 : Blk w3 w.heap.size [.string ⟨#[]⟩, .int .i64 0, .int .i64 0, .int .i64 0, .int .i64 0, .int .i64 0, .int .i64 0, .int .i64 0, .int .i64 0, .int .i64 0, .int .i64 0] 91 := k3.blk (by (repeat' (first | ((with_reducible show (_ : List Value) = _); rfl) | with_reducible exact hR1 | ((with_reducible refine Blk.newAt _ _ _ ?_); first | with_reducible rfl | (simp; done)) | with_reducible refine Blk.alloc ?_ _ | with_reducible refine Blk.drewN ?_ _ | with_reducible refine Blk.drew ?_ | ((with_reducible refine Blk.other ?_ _ ?_); rotate_left; ((try dsimp only); omega)) | with_reducible refine Blk.setB (cs0 := ?_) ?_ ?_))) (by omega)
    obtain ⟨m_0, m_1, m_2, m_3, m_4, m_5, m_6, m_7, m_8, m_9, m_10, mf⟩ := hL3.c11
    have hLl3 := hL3.lt
    go_wp2_with fail
    refine (HI.out _).mono ?_
    rintro e w' ⟨rfl, rfl⟩
    go_wp2_with fail
    refine (HY2.out _ (by (show Blk _ _ _ _); (repeat' (first | ((with_reducible show (_ : List Value) = _); rfl) | with_reducible exact hb3 | ((with_reducible refine Blk.newAt _ _ _ ?_); first | with_reducible rfl | (simp; done)) | with_reducible refine Blk.alloc ?_ _ | with_reducible refine Blk.drewN ?_ _ | with_reducible refine Blk.drew ?_ | ((with_reducible refine Blk.other ?_ _ ?_); rotate_left; ((try dsimp only); omega)) | with_reducible refine Blk.setB (cs0 := ?_) ?_ ?_)))).mono ?_
    rintro e w4 ⟨rfl, hN4, k4⟩
    have hb4 : Blk w4 r (.string s :: .int .i64 q2.1 :: .bool q2.2 :: rest) T := hN4
    have hr4 := hb4.lt
    have hL4 : Blk w4 w1.heap.size [.string tx2, .int .i64 act, .int .i64 nx, .int .i64 ny, .int .i64 nw, .int .i64 ck, .int .i64 cn, .int .i64 ch, .int .i64 kd, .int .i64 y, .int .i64 y] 91 := k4.blk (by (repeat' (first | ((with_reducible show (_ : List Value) = _); rfl) | with_reducible exact hL3 | ((with_reducible refine Blk.newAt _ _ _ ?_); first | with_reducible rfl | (simp; done)) | with_reducible refine Blk.alloc ?_ _ | with_reducible refine Blk.drewN ?_ _ | with_reducible refine Blk.drew ?_ | ((with_reducible refine Blk.other ?_ _ ?_); rotate_left; ((try dsimp only); omega)) | with_reducible refine Blk.setB (cs0 := ?_) ?_ ?_))) (by omega)
    have hR4 : Blk w4 w.heap.size [.string ⟨#[]⟩, .int .i64 0, .int .i64 0, .int .i64 0, .int .i64 0, .int .i64 0, .int .i64 0, .int .i64 0, .int .i64 0, .int .i64 0, .int .i64 0] 91 := k4.blk (by (repeat' (first | ((with_reducible show (_ : List Value) = _); rfl) | with_reducible exact hR3 | ((with_reducible refine Blk.newAt _ _ _ ?_); first | with_reducible rfl | (simp; done)) | with_reducible refine Blk.alloc ?_ _ | with_reducible refine Blk.drewN ?_ _ | with_reducible refine Blk.drew ?_ | ((with_reducible refine Blk.other ?_ _ ?_); rotate_left; ((try dsimp only); omega)) | with_reducible refine Blk.setB (cs0 := ?_) ?_ ?_))) (by omega)
    obtain ⟨o_0, o_1, o_2, o_3, o_4, o_5, o_6, o_7, o_8, o_9, o_10, of⟩ := hL4.c11
    have hLl4 := hL4.lt
    go_wp2_with fail
    refine (HE.out q2 _ hq2 (by (show Blk _ _ _ _); (repeat' (first | ((with_reducible show (_ : List Value) = _); rfl) | with_reducible exact hb4 | ((with_reducible refine Blk.newAt _ _ _ ?_); first | with_reducible rfl | (simp; done)) | with_reducible refine Blk.alloc ?_ _ | with_reducible refine Blk.drewN ?_ _ | with_reducible refine Blk.drew ?_ | ((with_reducible refine Blk.other ?_ _ ?_); rotate_left; ((try dsimp only); omega)) | with_reducible refine Blk.setB (cs0 := ?_) ?_ ?_)))).mono ?_
    rintro e w5 ⟨rfl, hN5, k5⟩
    have hL5 : Blk w5 w1.heap.size [.string tx2, .int .i64 act, .int .i64 nx, .int .i64 ny, .int .i64 nw, .int .i64 ck, .int .i64 cn, .int .i64 ch, .int .i64 kd, .int .i64 y, .int .i64 n] 91 := k5.blk (by (repeat' (first | ((with_reducible show (_ : List Value) = _); rfl) | with_reducible exact hL4 | ((with_reducible refine Blk.newAt _ _ _ ?_); first | with_reducible rfl | (simp; done)) | with_reducible refine Blk.alloc ?_ _ | with_reducible refine Blk.drewN ?_ _ | with_reducible refine Blk.drew ?_ | ((with_reducible refine Blk.other ?_ _ ?_); rotate_left; ((try dsimp only); omega)) | with_reducible refine Blk.setB (cs0 := ?_) ?_ ?_))) (by omega)
    have hR5 : Blk w5 w.heap.size [.string ⟨#[]⟩, .int .i64 0, .int .i64 0, .int .i64 0, .int .i64 0, .int .i64 0, .int .i64 0, .int .i64 0, .int .i64 0, .int .i64 0, .int .i64 0] 91 := k5.blk (by (repeat' (first | ((with_reducible show (_ : List Value) = _); rfl) | with_reducible exact hR4 | ((with_reducible refine Blk.newAt _ _ _ ?_); first | with_reducible rfl | (simp; done)) | with_reducible refine Blk.alloc ?_ _ | with_reducible refine Blk.drewN ?_ _ | with_reducible refine Blk.drew ?_ | ((with_reducible refine Blk.other ?_ _ ?_); rotate_left; ((try dsimp only); omega)) | with_reducible refine Blk.setB (cs0 := ?_) ?_ ?_))) (by omega)
    obtain ⟨u_0, u_1, u_2, u_3, u_4, u_5, u_6, u_7, u_8, u_9, u_10, uf⟩ := hL5.c11
    obtain ⟨x_0, x_1, x_2, x_3, x_4, x_5, x_6, x_7, x_8, x_9, x_10, xf⟩ := hR5.c11
    have hLl5 := hL5.lt
    go_wp2
    refine body_agg (Tb := 91) (b := w.heap.size) (cs := [.string tx2, .int .i64 act, .int .i64 nx, .int .i64 ny, .int .i64 nw, .int .i64 ck, .int .i64 cn, .int .i64 ch, .int .i64 kd, .int .i64 y, .int .i64 n]) (.inr rfl) Tryz.results59 rfl rfl (by (repeat' (first | ((with_reducible show (_ : List Value) = _); rfl) | with_reducible exact hR5 | ((with_reducible refine Blk.newAt _ _ _ ?_); first | with_reducible rfl | (simp; done)) | with_reducible refine Blk.alloc ?_ _ | with_reducible refine Blk.drewN ?_ _ | with_reducible refine Blk.drew ?_ | ((with_reducible refine Blk.other ?_ _ ?_); rotate_left; ((try dsimp only); omega)) | with_reducible refine Blk.setB (cs0 := ?_) ?_ ?_))) Tryz.underlying91 rfl (by kernel_rfl) ?_
    rw [HV.out]
    have hb5 : Blk w5 r (.string s :: .int .i64 (eatF s q2 59).1 :: .bool (eatF s q2 59).2 :: rest) T := hN5
    exact ⟨rfl, by (show Blk _ _ _ _); (repeat' (first | ((with_reducible show (_ : List Value) = _); rfl) | with_reducible exact hb5 | ((with_reducible refine Blk.newAt _ _ _ ?_); first | with_reducible rfl | (simp; done)) | with_reducible refine Blk.alloc ?_ _ | with_reducible refine Blk.drewN ?_ _ | with_reducible refine Blk.drew ?_ | ((with_reducible refine Blk.other ?_ _ ?_); rotate_left; ((try dsimp only); omega)) | with_reducible refine Blk.setB (cs0 := ?_) ?_ ?_)), by (repeat' (first | with_reducible exact Kp.refl _ _ | with_reducible refine Kp.alloc ?_ _ | with_reducible refine Kp.drewN ?_ _ | with_reducible refine Kp.drew ?_ | with_reducible refine Kp.setCell ?_ _ ?_ | with_reducible refine Kp.trans ?_ k1 (fun _ _ e => e) | with_reducible refine Kp.trans ?_ k3 (fun _ _ e => e) | with_reducible refine Kp.trans ?_ k4 (fun _ _ e => e) | with_reducible refine Kp.trans ?_ k5 (fun _ _ e => e) | (intro hh; first | rfl | exact .inl rfl | exact .inr rfl | (exfalso; (try dsimp only at hh); omega))))⟩
  · rw [decide_eq_false ht] at HI
    rw [lnW_no (show ¬ (act = 12 ∨ act = 13) from ht)] at HV
    clear ht h11
    go_wp2_with fail
    refine (HY.out _ (by (show Blk _ _ _ _); (repeat' (first | ((with_reducible show (_ : List Value) = _); rfl) | with_reducible exact hb1 | ((with_reducible refine Blk.newAt _ _ _ ?_); first | with_reducible rfl | (simp; done)) | with_reducible refine Blk.alloc ?_ _ | with_reducible refine Blk.drewN ?_ _ | with_reducible refine Blk.drew ?_ | ((with_reducible refine Blk.other ?_ _ ?_); rotate_left; ((try dsimp only); omega)) | with_reducible refine Blk.setB (cs0 := ?_) ?_ ?_)))).mono ?_
    rintro e w3 ⟨rfl, hN3, k3⟩
    have hb3 : Blk w3 r (.string s :: .int .i64 q.1 :: .bool q.2 :: rest) T := hN3
    have hr3 := hb3.lt
    have hL3 : Blk w3 w1.heap.size [.string tx2, .int .i64 act, .int .i64 nx, .int .i64 ny, .int .i64 nw, .int .i64 ck, .int .i64 cn, .int .i64 ch, .int .i64 kd, .int .i64 yes, .int .i64 no] 91 := k3.blk (by (repeat' (first | ((with_reducible show (_ : List Value) = _); rfl) | ((with_reducible refine Blk.newAt _ _ _ ?_); first | with_reducible rfl | (simp; done)) | with_reducible refine Blk.alloc ?_ _ | with_reducible refine Blk.drewN ?_ _ | with_reducible refine Blk.drew ?_ | ((with_reducible refine Blk.other ?_ _ ?_); rotate_left; ((try dsimp only); omega)) | with_reducible refine Blk.setB (cs0 := ?_) ?_ ?_))) (by omega)
    have hR3 : Blk w3 w.heap.size [.string ⟨#[]⟩, .int .i64 0, .int .i64 0, .int .i64 0, .int .i64 0, .int .i64 0, .int .i64 0, .int .i64 0, .int .i64 0, .int .i64 0, .int .i64 0] 91 := k3.blk (by (repeat' (first | ((with_reducible show (_ : List Value) = _); rfl) | with_reducible exact hR1 | ((with_reducible refine Blk.newAt _ _ _ ?_); first | with_reducible rfl | (simp; done)) | with_reducible refine Blk.alloc ?_ _ | with_reducible refine Blk.drewN ?_ _ | with_reducible refine Blk.drew ?_ | ((with_reducible refine Blk.other ?_ _ ?_); rotate_left; ((try dsimp only); omega)) | with_reducible refine Blk.setB (cs0 := ?_) ?_ ?_))) (by omega)
    obtain ⟨m_0, m_1, m_2, m_3, m_4, m_5, m_6, m_7, m_8, m_9, m_10, mf⟩ := hL3.c11
    have hLl3 := hL3.lt
    go_wp2_with fail
    refine (HI.out _).mono ?_
    rintro e w' ⟨rfl, rfl⟩
    go_wp2_with fail
    refine (HE.out q _ hq (by (show Blk _ _ _ _); (repeat' (first | ((with_reducible show (_ : List Value) = _); rfl) | with_reducible exact hb3 | ((with_reducible refine Blk.newAt _ _ _ ?_); first | with_reducible rfl | (simp; done)) | with_reducible refine Blk.alloc ?_ _ | with_reducible refine Blk.drewN ?_ _ | with_reducible refine Blk.drew ?_ | ((with_reducible refine Blk.other ?_ _ ?_); rotate_left; ((try dsimp only); omega)) | with_reducible refine Blk.setB (cs0 := ?_) ?_ ?_)))).mono ?_
    rintro e w5 ⟨rfl, hN5, k5⟩
    have hL5 : Blk w5 w1.heap.size [.string tx2, .int .i64 act, .int .i64 nx, .int .i64 ny, .int .i64 nw, .int .i64 ck, .int .i64 cn, .int .i64 ch, .int .i64 kd, .int .i64 y, .int .i64 y] 91 := k5.blk (by (repeat' (first | ((with_reducible show (_ : List Value) = _); rfl) | with_reducible exact hL3 | ((with_reducible refine Blk.newAt _ _ _ ?_); first | with_reducible rfl | (simp; done)) | with_reducible refine Blk.alloc ?_ _ | with_reducible refine Blk.drewN ?_ _ | with_reducible refine Blk.drew ?_ | ((with_reducible refine Blk.other ?_ _ ?_); rotate_left; ((try dsimp only); omega)) | with_reducible refine Blk.setB (cs0 := ?_) ?_ ?_))) (by omega)
    have hR5 : Blk w5 w.heap.size [.string ⟨#[]⟩, .int .i64 0, .int .i64 0, .int .i64 0, .int .i64 0, .int .i64 0, .int .i64 0, .int .i64 0, .int .i64 0, .int .i64 0, .int .i64 0] 91 := k5.blk (by (repeat' (first | ((with_reducible show (_ : List Value) = _); rfl) | with_reducible exact hR3 | ((with_reducible refine Blk.newAt _ _ _ ?_); first | with_reducible rfl | (simp; done)) | with_reducible refine Blk.alloc ?_ _ | with_reducible refine Blk.drewN ?_ _ | with_reducible refine Blk.drew ?_ | ((with_reducible refine Blk.other ?_ _ ?_); rotate_left; ((try dsimp only); omega)) | with_reducible refine Blk.setB (cs0 := ?_) ?_ ?_))) (by omega)
    obtain ⟨u_0, u_1, u_2, u_3, u_4, u_5, u_6, u_7, u_8, u_9, u_10, uf⟩ := hL5.c11
    obtain ⟨x_0, x_1, x_2, x_3, x_4, x_5, x_6, x_7, x_8, x_9, x_10, xf⟩ := hR5.c11
    have hLl5 := hL5.lt
    go_wp2
    refine body_agg (Tb := 91) (b := w.heap.size) (cs := [.string tx2, .int .i64 act, .int .i64 nx, .int .i64 ny, .int .i64 nw, .int .i64 ck, .int .i64 cn, .int .i64 ch, .int .i64 kd, .int .i64 y, .int .i64 y]) (.inr rfl) Tryz.results59 rfl rfl (by (repeat' (first | ((with_reducible show (_ : List Value) = _); rfl) | with_reducible exact hR5 | ((with_reducible refine Blk.newAt _ _ _ ?_); first | with_reducible rfl | (simp; done)) | with_reducible refine Blk.alloc ?_ _ | with_reducible refine Blk.drewN ?_ _ | with_reducible refine Blk.drew ?_ | ((with_reducible refine Blk.other ?_ _ ?_); rotate_left; ((try dsimp only); omega)) | with_reducible refine Blk.setB (cs0 := ?_) ?_ ?_))) Tryz.underlying91 rfl (by kernel_rfl) ?_
    rw [HV.out]
    have hb5 : Blk w5 r (.string s :: .int .i64 (eatF s q 59).1 :: .bool (eatF s q 59).2 :: rest) T := hN5
    exact ⟨rfl, by (show Blk _ _ _ _); (repeat' (first | ((with_reducible show (_ : List Value) = _); rfl) | with_reducible exact hb5 | ((with_reducible refine Blk.newAt _ _ _ ?_); first | with_reducible rfl | (simp; done)) | with_reducible refine Blk.alloc ?_ _ | with_reducible refine Blk.drewN ?_ _ | with_reducible refine Blk.drew ?_ | ((with_reducible refine Blk.other ?_ _ ?_); rotate_left; ((try dsimp only); omega)) | with_reducible refine Blk.setB (cs0 := ?_) ?_ ?_)), by (repeat' (first | with_reducible exact Kp.refl _ _ | with_reducible refine Kp.alloc ?_ _ | with_reducible refine Kp.drewN ?_ _ | with_reducible refine Kp.drew ?_ | with_reducible refine Kp.setCell ?_ _ ?_ | with_reducible refine Kp.trans ?_ k1 (fun _ _ e => e) | with_reducible refine Kp.trans ?_ k3 (fun _ _ e => e) | with_reducible refine Kp.trans ?_ k5 (fun _ _ e => e) | (intro hh; first | rfl | exact .inl rfl | exact .inr rfl | (exfalso; (try dsimp only at hh); omega))))⟩
end Go.Proofs.YtellieabhaphhaaGreatDoor

/-
  Plain: the nodes of a graph are well made.
-/
namespace Go.Proofs.YtellieabhaphhaaGreatDoor
open Go.RowKit

theorem varF_lt6 (s : ByteArray) (p : Nat × Bool) : (varF s p).1 < 6 := by
  rw [varF_pkb]; split
  · rename_i h; simp at h; show pkb s p - 97 < 6; omega
  · show 0 < 6; decide

theorem kindF_ok (s : ByteArray) (p : Nat × Bool) (h : (kindF s p).2.2 = false) : KOk (kindF s p).1 := by
  rw [kindF_pkb] at h ⊢
  split
  · rename_i h1; rw [if_pos h1] at h; cases h
  · rename_i h1
    show KOk (pkb s p)
    unfold bit at h1
    unfold KOk
    by_cases a : (pkb s p : Int) = 110 <;> by_cases b : (pkb s p : Int) = 116 <;> by_cases c : (pkb s p : Int) = 102 <;> by_cases d : (pkb s p : Int) = 122 <;> by_cases e : (pkb s p : Int) = 65 <;> by_cases f : (pkb s p : Int) = 66 <;> by_cases g : (pkb s p : Int) = 67 <;> simp_all

def opOk (o : Int) : Prop := o = 48 ∨ o = 84 ∨ o = 70 ∨ o = 90 ∨ o = 67 ∨ o = 63 ∨ o = 118 ∨ o = 43 ∨ o = 60 ∨ o = 65 ∨ o = 66 ∨ o = 46 ∨ o = 94 ∨ o = 126 ∨ o = 33 ∨ o = 121 ∨ o = 58 ∨ o = 42

/-- A node, but for its ways. -/
structure Gn (n : Nd) : Prop where
  x : 0 ≤ n.x ∧ n.x < 6
  y : 0 ≤ n.y ∧ n.y < 6
  v : 0 ≤ n.v ∧ n.v < 6
  op : opOk n.op
  k : n.op = 48 → 48 ≤ n.k ∧ n.k ≤ 57
  kd : n.op = 58 ∨ n.op = 126 → KOk n.k
  f : ¬ (n.op = 121 ∨ n.op = 58) → n.f = -1

theorem Gn.nok {n : Nd} (h : Gn n) : NOk n := ⟨h.x, h.y, h.v, h.k⟩

theorem valF_gn (s : ByteArray) (i : Nat) (n : Nd) (hx : 0 ≤ n.x ∧ n.x < 6) (h0 : n.y = 0 ∧ n.v = 0) (hf : n.f = -1) : Gn (valF s i n).1 := by
  have v1 := varF_lt6 s (i + 1, false)
  have v2 := varF_lt6 s (varF s (i + 1, false)).2
  have v3 := varF_lt6 s (i, false)
  obtain ⟨hy, hv⟩ := h0
  unfold valF
  repeat' split
  · exact ⟨hx, by simp [hy], by simp [hv], .inl rfl, fun _ => by dsimp only; omega, fun h => by simp at h, fun _ => hf⟩
  · rename_i _ h
    have h' : pk s i = 84 ∨ pk s i = 70 ∨ pk s i = 90 ∨ pk s i = 67 ∨ pk s i = 63 := by simp [amF] at h; omega
    exact ⟨hx, by simp [hy], by simp [hv], by unfold opOk; dsimp only; omega, fun e => by dsimp only at e; omega, fun e => by dsimp only at e; omega, fun _ => hf⟩
  · rename_i _ _ h
    have h' : pk s i = 43 ∨ pk s i = 60 := by simp [amF] at h; omega
    exact ⟨hx, by dsimp only; omega, by dsimp only; omega, by unfold opOk; dsimp only; omega, fun e => by dsimp only at e; omega, fun e => by dsimp only at e; omega, fun _ => hf⟩
  · rename_i _ _ _ h
    have h' : pk s i = 65 ∨ pk s i = 66 ∨ pk s i = 46 := by simp [amF] at h; omega
    exact ⟨hx, by dsimp only; omega, by simp [hv], by unfold opOk; dsimp only; omega, fun e => by dsimp only at e; omega, fun e => by dsimp only at e; omega, fun _ => hf⟩
  · exact ⟨hx, by dsimp only; omega, by simp [hv], by unfold opOk; dsimp only; omega, fun e => by dsimp only at e; omega, fun e => by dsimp only at e; omega, fun _ => hf⟩

theorem Gn.l {n : Nd} (h : Gn n) (l : Int) : Gn { n with l := l } := ⟨h.x, h.y, h.v, h.op, h.k, h.kd, h.f⟩

theorem simpF_gn (s : ByteArray) (i : Nat) (h : (simpF s i).2.2 = false) : Gn (simpF s i).1 ∧ (simpF s i).1.a = i ∧ (simpF s i).1.l = ((simpF s i).2.1 : Int) - i := by
  have v1 := varF_lt6 s (i + 1, false)
  have v3 := varF_lt6 s (i, false)
  unfold simpF at h ⊢
  repeat' split
  · exact ⟨⟨by simp [nd0], by dsimp only; omega, by simp [nd0], by unfold opOk; dsimp only; omega, fun e => by dsimp only at e; omega, fun e => by dsimp only at e; omega, fun _ => rfl⟩, rfl, rfl⟩
  · exact ⟨⟨by simp [nd0], by simp [nd0], by simp [nd0], by unfold opOk; dsimp only; omega, fun e => by dsimp only at e; omega, fun e => by dsimp only at e; omega, fun _ => rfl⟩, rfl, by push_cast; rfl⟩
  · rename_i h1 h2 h3
    rw [if_neg h1, if_neg h2, if_pos h3] at h
    exact ⟨⟨by dsimp only; omega, by simp [nd0], by simp [nd0], by unfold opOk; dsimp only; omega, fun e => by dsimp only at e; omega, fun _ => kindF_ok s _ h, fun _ => rfl⟩, rfl, rfl⟩
  · rename_i h1 h2 h3 h4
    rw [if_neg h1, if_neg h2, if_neg h3, if_pos h4] at h
    rw [h4] at h; cases h
  · have := valF_gn s (eatF s (varF s (i, false)).2 61).1 { nd0 i with x := (varF s (i, false)).1 } (by dsimp only; omega) ⟨rfl, rfl⟩ rfl
    have k := valF_keeps s (eatF s (varF s (i, false)).2 61).1 { nd0 i with x := (varF s (i, false)).1 }
    exact ⟨this.l _, k.1, rfl⟩

theorem testF_gn (s : ByteArray) (i : Nat) (h : (testF s i).2.2 = false) : Gn (testF s i).1 ∧ (testF s i).1.a = i ∧ (testF s i).1.l = ((testF s i).2.1 : Int) - i := by
  have v3 := varF_lt6 s (i, false)
  unfold testF at h ⊢
  repeat' split
  · rename_i h1
    rw [if_pos h1] at h
    exact ⟨⟨by simp [ty0], by dsimp only; omega, by simp [ty0], by unfold opOk; dsimp only; omega, fun e => by dsimp only at e; omega, fun _ => kindF_ok s _ h, fun e => by simp at e⟩, rfl, rfl⟩
  · exact ⟨⟨by simp [ty0], by dsimp only; omega, by simp [ty0], by unfold opOk; simp [ty0], fun e => by simp [ty0] at e, fun e => by simp [ty0] at e, fun e => by simp [ty0] at e⟩, rfl, rfl⟩

theorem lineN_gn (s : ByteArray) (i : Nat) (h : (lineN s i).2.2 = false) : Gn (lineN s i).1 ∧ (lineN s i).1.a = i ∧ (lineN s i).1.l = ((lineN s i).2.1 : Int) - i := by
  unfold lineN at h ⊢
  repeat' split
  · exact ⟨⟨by simp, by simp, by simp, by unfold opOk; dsimp only; omega, fun e => by simp at e, fun e => by simp at e, fun _ => rfl⟩, rfl, by push_cast; omega⟩
  · rename_i h1 h2; rw [if_neg h1, if_pos h2] at h; exact testF_gn s i h
  · rename_i h1 h2; rw [if_neg h1, if_neg h2] at h; exact simpF_gn s i h

/-- A node of a graph: its text is at hand in s. -/
structure Gd (s : ByteArray) (n : Nd) : Prop where
  g : Gn n
  t3 : n.op = 33 → n.t = -1
  t : n.op ≠ 33 → 0 ≤ n.t ∧ n.t ≤ 99
  f : n.op = 121 ∨ n.op = 58 → 0 ≤ n.f ∧ n.f ≤ 99
  a : 0 ≤ n.a
  l : 0 < n.l
  al : n.a + n.l ≤ s.size

theorem Gd.tf {s : ByteArray} {n : Nd} (h : Gd s n) : (-1 ≤ n.t ∧ n.t ≤ 1000) ∧ (-1 ≤ n.f ∧ n.f ≤ 1000) := by
  refine ⟨?_, ?_⟩
  · by_cases h3 : n.op = 33
    · have := h.t3 h3; omega
    · have := h.t h3; omega
  · by_cases h3 : n.op = 121 ∨ n.op = 58
    · have := h.f h3; omega
    · have := h.g.f h3; omega

/-- A node as narrow holds it, with its text. -/
def encX (s : ByteArray) (n : Nd) : NN := encN n (s.extract n.a.toNat (n.a + n.l).toNat) (yesN n) (noN n)

theorem lineF_gd (s : ByteArray) (st : RS) (hi : st.i < s.size) (hb : (lineF s st).bad = false) :
    ∃ nd, (lineF s st).nodes = st.nodes ++ [nd] ∧ Gd s nd ∧ (lnF s (st.i, false)).1 = encX s nd := by
  have hl := ln_ref s st
  have e0 := lineF_eq s st
  have hle := lineN_le s st.i hi
  have hge := lineN_ge s st.i
  obtain ⟨nd, h1, h2⟩ := hl.2 hb
  by_cases hN : (lineN s st.i).2.2 = true
  · simp only [lineF] at hb
    rw [if_pos hN] at hb
    cases hb
  have hN' : (lineN s st.i).2.2 = false := by simpa using hN
  obtain ⟨g1, g2, g3⟩ := lineN_gn s st.i hN'
  simp only [lineF] at h1
  rw [if_neg hN] at h1
  have e1 := List.append_cancel_left h1
  simp only [List.cons.injEq, and_true] at e1
  subst e1
  have t1 : ∀ p, (lineN s st.i).1.op = 33 → (lineT s (lineN s st.i).1 p).1 = -1 := fun p e => by rw [lineT, if_pos e]
  have t2 : ∀ p, (lineN s st.i).1.op ≠ 33 → 0 ≤ (lineT s (lineN s st.i).1 p).1 ∧ (lineT s (lineN s st.i).1 p).1 ≤ 99 := fun p e => by
    rw [lineT, if_neg e]; have := wayF_lt s p; dsimp only; omega
  have t3 : ∀ p, (lineN s st.i).1.op = 121 ∨ (lineN s st.i).1.op = 58 → 0 ≤ (lineG s (lineN s st.i).1 p).1 ∧ (lineG s (lineN s st.i).1 p).1 ≤ 99 := fun p e => by
    rw [lineG, if_pos e]; have := wayF_lt s p; dsimp only; omega
  have t4 : ∀ p, ¬ ((lineN s st.i).1.op = 121 ∨ (lineN s st.i).1.op = 58) → (lineG s (lineN s st.i).1 p).1 = -1 := fun p e => by
    rw [lineG, if_neg e]; exact g1.f e
  have hgt := hge.2 hN'
  refine ⟨{ (lineN s st.i).1 with t := (lineT s (lineN s st.i).1 (lineN s st.i).2).1, f := (lineG s (lineN s st.i).1 (lineT s (lineN s st.i).1 (lineN s st.i).2).2).1 }, by simp only [lineF]; rw [if_neg hN], ⟨⟨g1.x, g1.y, g1.v, g1.op, g1.k, g1.kd, t4 _⟩, t1 _, t2 _, t3 _, ?_, ?_, ?_⟩, ?_⟩
  · show 0 ≤ (lineN s st.i).1.a; omega
  · show 0 < (lineN s st.i).1.l; omega
  · show (lineN s st.i).1.a + (lineN s st.i).1.l ≤ s.size; omega
  · rw [h2]
    have e2 : sinceB s st.i (lineN s st.i).2.1 = s.extract (lineN s st.i).1.a.toNat ((lineN s st.i).1.a + (lineN s st.i).1.l).toNat := by
      rw [g2, g3, sinceB]; congr 1; omega
    rw [e2]
    rfl
end Go.Proofs.YtellieabhaphhaaGreatDoor

/-
  narrowref's flow: what comes behind a node, and along the ways of a test.
-/
namespace Go.Proofs.YtellieabhaphhaaGreatDoor
open Go.RowKit

set_option maxRecDepth 100000 in
set_option maxHeartbeats 1600000 in
theorem behind_one (n : Nd) (v : Value) (s : St) (w : World) (h : SV w v s) (hs : SOk s) (h0 : s ≠ []) (hg : Gn n) (hG : opG n.op) (ho : ¬ (n.op = 43 ∨ n.op = 60)) :
    Calls Tryz.prog 72 #[.agg #[.int .u8 n.op, .int .i64 n.x, .int .i64 n.y, .int .i64 n.v, .int .u8 n.k, .int .i64 n.t, .int .i64 n.f, .int .i64 n.a, .int .i64 n.l], v] w fun e w' => ∃ u, e = .returned u ∧ SV w' u (behF n s) ∧ New w u ∧ Kp no w w' := by
  obtain ⟨x, hx⟩ := Int.eq_ofNat_of_zero_le hg.x.1
  obtain ⟨y, hy⟩ := Int.eq_ofNat_of_zero_le hg.y.1
  have hx6 : x < 6 := by have := hg.x.2; omega
  have hy6 : y < 6 := by have := hg.y.2; omega
  have hG0 := hG
  unfold opG at hG
  have HE := hide (show behF n s = withS (withS s y (s.getD y 0 &&& tkN n.op)) x (givN n.op (s.getD y 0 &&& tkN n.op)) by
    rw [behF, if_neg (by omega), if_neg (by omega), if_neg (by omega), if_neg (fun e => ho e.2), hx, hy]; rfl)
  rw [HE.out]
  obtain ⟨h6, hm⟩ := hs.resolve_left h0
  have HS := hide h
  obtain ⟨a, cap, rfl⟩ := h.shape
  have h' : Row w (.slice a s.length cap) 9 1 s.length (sgS s) := h
  rw [h6] at h' HS ⊢
  clear h
  have HT := hide (fun W => takes_c n W)
  rw [tak_sg] at HT
  have HV := hide (fun Y W => gives_c n Y W hG0)
  obtain ⟨op, nx, ny, nv, nk, nt, nff, na, nl⟩ := n
  dsimp only at *
  subst hx hy
  obtain ⟨g, rfl, hgl, hgc⟩ := SV.at h' (k := y) hy6
  have HB := hide (fun W => both_c (sgB (s.getD y 0)) (sgB (tkN op)) W (Nat.le_trans (sg_size _) (by decide)) (Nat.le_trans (sg_size _) (by decide)))
  rw [both_sg] at HB
  have HM := hide (and_lt (tkN op) (hs.get y))
  have HGC := hide hgc
  have g1 : (op == 33) = false := by simp; omega
  have g2 : (op == 42) = false := by simp; omega
  have g3 : (op == 94) = false := by simp; omega
  have g4 : (op == 126) = false := by simp; omega
  have g5 : (op == 43) = false := by simp; omega
  have g6 : (op == 60) = false := by simp; omega
  clear hG ho hG0 HE h6 hm
  generalize s.getD y 0 &&& tkN op = m at *
  generalize tkN op = tk at *
  have hsz := sg_size (s.getD y 0)
  generalize sgB (s.getD y 0) = sy at *
  go_enter Tryz.func72, Tryz.ntmps72
  go_wp2_with fail
  refine wp_gen (fun W => Blk W w.heap.size [.int .u8 op, .int .i64 x, .int .i64 y, .int .i64 nv, .int .u8 nk, .int .i64 nt, .int .i64 nff, .int .i64 na, .int .i64 nl] 63 ∧ Kp no w W) ⟨by (repeat' (first | ((with_reducible show (_ : List Value) = _); rfl) | ((with_reducible refine Blk.newAt _ _ _ ?_); first | with_reducible rfl | (simp; done)) | with_reducible refine Blk.alloc ?_ _ | with_reducible refine Blk.drewN ?_ _ | with_reducible refine Blk.drew ?_ | ((with_reducible refine Blk.other ?_ _ ?_); rotate_left; ((try dsimp only); omega)) | with_reducible refine Blk.setB (cs0 := ?_) ?_ ?_)), by (repeat' (first | with_reducible exact Kp.refl _ _ | with_reducible refine Kp.alloc ?_ _ | with_reducible refine Kp.drewN ?_ _ | with_reducible refine Kp.drew ?_ | with_reducible refine Kp.setCell ?_ _ ?_ | (intro hh; first | rfl | exact .inl rfl | exact .inr rfl | (exfalso; (try dsimp only at hh); omega))))⟩ ?_
  rintro W ⟨hN, hk⟩
  obtain ⟨n0, n1, n2, n3, n4, n5, n6, n7, n8, nf⟩ := hN.c9; have hnl := hN.lt
  have nn := hN.cell
  have hc1 := (hk.cell hgl no_elim y).trans HGC.out
  have hg1 := Nat.lt_of_lt_of_le hgl hk.size
  have hyI : (y : Int) < 6 := by omega
  go_cut [6] from 10 (fun yv W5 => yv = .string (sgB m) ∧ Blk W5 w.heap.size [.int .u8 op, .int .i64 x, .int .i64 y, .int .i64 nv, .int .u8 nk, .int .i64 nt, .int .i64 nff, .int .i64 na, .int .i64 nl] 63 ∧ Kp no w W5)
  case first =>
    go_region_with (first | (go_at_call 119; refine (HT.out _).mono ?_; rintro e w5 ⟨rfl, k5⟩; have hN5 := k5.blk (b := w.heap.size) hN no_elim; obtain ⟨n0, n1, n2, n3, n4, n5, n6, n7, n8, nf⟩ := hN5.c9; have hnl := hN5.lt; have hk5 : Kp no w w5 := Kp.trans (by (repeat' (first | with_reducible exact Kp.refl _ _ | with_reducible refine Kp.alloc ?_ _ | with_reducible refine Kp.drewN ?_ _ | with_reducible refine Kp.drew ?_ | with_reducible refine Kp.setCell ?_ _ ?_ | with_reducible refine Kp.trans ?_ hk (fun _ _ e => e) | (intro hh; first | rfl | exact .inl rfl | exact .inr rfl | (exfalso; (try dsimp only at hh); omega))))) k5 (fun _ _ e => e); have hc5 := (hk5.cell hgl no_elim y).trans HGC.out; have hg5 := Nat.lt_of_lt_of_le hgl hk5.size) | (go_at_call 117; refine (HB.out _).mono ?_; rintro e w' ⟨rfl, rfl⟩))
    all_goals
      go_wp2
      go_meet
      case rel => exact ⟨rfl, hN5, by (repeat' (first | with_reducible exact Kp.refl _ _ | with_reducible refine Kp.alloc ?_ _ | with_reducible refine Kp.drewN ?_ _ | with_reducible refine Kp.drew ?_ | with_reducible refine Kp.setCell ?_ _ ?_ | with_reducible refine Kp.trans ?_ hk5 (fun _ _ e => e) | (intro hh; first | rfl | exact .inl rfl | exact .inr rfl | (exfalso; (try dsimp only at hh); omega))))⟩
  case rest =>
    obtain ⟨rfl, hN5, hk5⟩ := hcut
    obtain ⟨p0, p1, p2, p3, p4, p5, p6, p7, p8, pf⟩ := hN5.c9; have hpl := hN5.lt
    clear n0 n1 n2 n3 n4 n5 n6 n7 n8 hnl hN hk nn hc1 hg1
    go_wp2_with fail
    refine (with_c _ s y m _ (Kp.row (S := no) (by (repeat' (first | with_reducible exact Kp.refl _ _ | with_reducible refine Kp.alloc ?_ _ | with_reducible refine Kp.drewN ?_ _ | with_reducible refine Kp.drew ?_ | with_reducible refine Kp.setCell ?_ _ ?_ | with_reducible refine Kp.trans ?_ hk5 (fun _ _ e => e) | (intro hh; first | rfl | exact .inl rfl | exact .inr rfl | (exfalso; (try dsimp only at hh); omega))))) HS.out (fun _ _ => no_elim)) hs hy6 HM.out).mono ?_
    rintro e w6 ⟨u, rfl, hu, hnew, k6⟩
    have hN6 := k6.blk (b := w.heap.size) hN5 no_elim
    have hk6 : Kp no w w6 := Kp.trans (by (repeat' (first | with_reducible exact Kp.refl _ _ | with_reducible refine Kp.alloc ?_ _ | with_reducible refine Kp.drewN ?_ _ | with_reducible refine Kp.drew ?_ | with_reducible refine Kp.setCell ?_ _ ?_ | with_reducible refine Kp.trans ?_ hk5 (fun _ _ e => e) | (intro hh; first | rfl | exact .inl rfl | exact .inr rfl | (exfalso; (try dsimp only at hh); omega))))) k6 (fun _ _ e => e)
    obtain ⟨m0, m1, m2, m3, m4, m5, m6, m7, m8, mf⟩ := hN6.c9; have hml := hN6.lt
    have ok2 := hs.withS y m HM.out
    obtain ⟨au, cu, rfl⟩ := hu.shape
    have HU := hide hu
    have OK2 := hide ok2
    clear hnew hu
    generalize ht0 : withS s y m = t at *
    have HT0 := hide ht0
    clear ht0
    have ht06 : t.length = 0 ∨ t.length = 6 := by
      rcases ok2 with rfl | h
      · exact .inl rfl
      · exact .inr h.1
    rcases ht06 with ht | ht
    all_goals
      rw [ht] at HU ⊢
      clear ht ok2 p0 p1 p2 p3 p4 p5 p6 p7 p8 pf hpl
      go_wp2_with fail
      refine (HV.out m _).mono ?_
      rintro e w7 ⟨rfl, k7⟩
      have hk7 : Kp no w w7 := Kp.trans (by (repeat' (first | with_reducible exact Kp.refl _ _ | with_reducible refine Kp.alloc ?_ _ | with_reducible refine Kp.drewN ?_ _ | with_reducible refine Kp.drew ?_ | with_reducible refine Kp.setCell ?_ _ ?_ | with_reducible refine Kp.trans ?_ hk6 (fun _ _ e => e) | (intro hh; first | rfl | exact .inl rfl | exact .inr rfl | (exfalso; (try dsimp only at hh); omega))))) k7 (fun _ _ e => e)
      have hN7 := k7.blk (b := w.heap.size) hN6 no_elim
      obtain ⟨q0, q1, q2, q3, q4, q5, q6, q7, q8, qf⟩ := hN7.c9; have hql := hN7.lt
      go_wp2_with fail
      refine (with_c _ t x (givN op m) _ (Kp.row (S := no) (by (repeat' (first | with_reducible exact Kp.refl _ _ | with_reducible refine Kp.alloc ?_ _ | with_reducible refine Kp.drewN ?_ _ | with_reducible refine Kp.drew ?_ | with_reducible refine Kp.setCell ?_ _ ?_ | with_reducible refine Kp.trans ?_ k7 (fun _ _ e => e) | (intro hh; first | rfl | exact .inl rfl | exact .inr rfl | (exfalso; (try dsimp only at hh); omega))))) HU.out (fun _ _ => no_elim)) OK2.out hx6 (givN_lt op HM.out)).mono ?_
      rintro e w8 ⟨u2, rfl, hu2, hnew2, k8⟩
      go_wp2
      go_ret
      exact ⟨_, rfl, by rw [HT0.out]; exact hu2, fun b hb => Nat.le_trans hk7.size (hnew2 b hb), Kp.trans (by (repeat' (first | with_reducible exact Kp.refl _ _ | with_reducible refine Kp.alloc ?_ _ | with_reducible refine Kp.drewN ?_ _ | with_reducible refine Kp.drew ?_ | with_reducible refine Kp.setCell ?_ _ ?_ | with_reducible refine Kp.trans ?_ hk7 (fun _ _ e => e) | (intro hh; first | rfl | exact .inl rfl | exact .inr rfl | (exfalso; (try dsimp only at hh); omega))))) k8 (fun _ _ e => e)⟩
end Go.Proofs.YtellieabhaphhaaGreatDoor

/-
  narrowref's flow: what comes behind a node of two operands, a cast, and the others; along the ways of a test.
-/
namespace Go.Proofs.YtellieabhaphhaaGreatDoor
open Go.RowKit

set_option maxRecDepth 100000 in
set_option maxHeartbeats 3200000 in
theorem behind_two (n : Nd) (v : Value) (s : St) (w : World) (h : SV w v s) (hs : SOk s) (h0 : s ≠ []) (hg : Gn n) (ho : n.op = 43 ∨ n.op = 60) :
    Calls Tryz.prog 72 #[.agg #[.int .u8 n.op, .int .i64 n.x, .int .i64 n.y, .int .i64 n.v, .int .u8 n.k, .int .i64 n.t, .int .i64 n.f, .int .i64 n.a, .int .i64 n.l], v] w fun e w' => ∃ u, e = .returned u ∧ SV w' u (behF n s) ∧ New w u ∧ Kp no w w' := by
  obtain ⟨x, hx⟩ := Int.eq_ofNat_of_zero_le hg.x.1
  obtain ⟨y, hy⟩ := Int.eq_ofNat_of_zero_le hg.y.1
  have hx6 : x < 6 := by have := hg.x.2; omega
  have hy6 : y < 6 := by have := hg.y.2; omega
  obtain ⟨z, hz⟩ := Int.eq_ofNat_of_zero_le hg.v.1
  have hz6 : z < 6 := by have := hg.v.2; omega
  have hG0 : opG n.op := by unfold opG; omega
  have HE0 := hide (show withS s y (s.getD y 0 &&& tkN n.op) = [] → behF n s = [] from fun e => by
    rw [behF, if_neg (by omega), if_neg (by omega), if_neg (by omega), hy, Int.toNat_natCast, e, if_neg (by simp)]; simp [withS])
  have HE1 := hide (show withS s y (s.getD y 0 &&& tkN n.op) ≠ [] → behF n s = withS (withS (withS s y (s.getD y 0 &&& tkN n.op)) z ((withS s y (s.getD y 0 &&& tkN n.op)).getD z 0 &&& tkN n.op)) x (givN n.op (s.getD y 0 &&& tkN n.op)) from fun e => by
    rw [behF, if_neg (by omega), if_neg (by omega), if_neg (by omega), hx, hy, hz, Int.toNat_natCast, Int.toNat_natCast, Int.toNat_natCast, if_pos ⟨e, ho⟩])
  generalize behF n s = B at *
  obtain ⟨h6, hm⟩ := hs.resolve_left h0
  have HS := hide h
  obtain ⟨a, cap, rfl⟩ := h.shape
  have h' : Row w (.slice a s.length cap) 9 1 s.length (sgS s) := h
  rw [h6] at h' HS ⊢
  clear h
  have HT := hide (fun W => takes_c n W)
  rw [tak_sg] at HT
  have HV := hide (fun Y W => gives_c n Y W hG0)
  obtain ⟨op, nx, ny, nv, nk, nt, nff, na, nl⟩ := n
  dsimp only at *
  subst hx hy hz
  obtain ⟨g, rfl, hgl, hgc⟩ := SV.at h' (k := y) hy6
  have HB := hide (fun W => both_c (sgB (s.getD y 0)) (sgB (tkN op)) W (Nat.le_trans (sg_size _) (by decide)) (Nat.le_trans (sg_size _) (by decide)))
  rw [both_sg] at HB
  have HM := hide (and_lt (tkN op) (hs.get y))
  have HGC := hide hgc
  have g1 : (op == 33) = false := by simp; omega
  have g2 : (op == 42) = false := by simp; omega
  have g3 : (op == 94) = false := by simp; omega
  have g4 : (op == 126) = false := by simp; omega
  clear hG0 h6 hm
  generalize s.getD y 0 &&& tkN op = m at *
  have HTK := hide (fun a W => both_c (sgB a) (sgB (tkN op)) W (Nat.le_trans (sg_size _) (by decide)) (Nat.le_trans (sg_size _) (by decide)))
  generalize tkN op = tk at *
  have hsz := sg_size (s.getD y 0)
  generalize sgB (s.getD y 0) = sy at *
  have hgg : ((op == 43) = true) ∨ ((op == 43) = false ∧ (op == 60) = true) := by
    rcases ho with rfl | rfl
    · exact .inl rfl
    · exact .inr ⟨rfl, rfl⟩
  clear ho
  rcases hgg with g5 | ⟨g5, g6⟩
  all_goals
    go_enter Tryz.func72, Tryz.ntmps72
    go_wp2_with fail
    refine wp_gen (fun W => Blk W w.heap.size [.int .u8 op, .int .i64 x, .int .i64 y, .int .i64 z, .int .u8 nk, .int .i64 nt, .int .i64 nff, .int .i64 na, .int .i64 nl] 63 ∧ Kp no w W) ⟨by (repeat' (first | ((with_reducible show (_ : List Value) = _); rfl) | ((with_reducible refine Blk.newAt _ _ _ ?_); first | with_reducible rfl | (simp; done)) | with_reducible refine Blk.alloc ?_ _ | with_reducible refine Blk.drewN ?_ _ | with_reducible refine Blk.drew ?_ | ((with_reducible refine Blk.other ?_ _ ?_); rotate_left; ((try dsimp only); omega)) | with_reducible refine Blk.setB (cs0 := ?_) ?_ ?_)), by (repeat' (first | with_reducible exact Kp.refl _ _ | with_reducible refine Kp.alloc ?_ _ | with_reducible refine Kp.drewN ?_ _ | with_reducible refine Kp.drew ?_ | with_reducible refine Kp.setCell ?_ _ ?_ | (intro hh; first | rfl | exact .inl rfl | exact .inr rfl | (exfalso; (try dsimp only at hh); omega))))⟩ ?_
    rintro W ⟨hN, hk⟩
    obtain ⟨n0, n1, n2, n3, n4, n5, n6, n7, n8, nf⟩ := hN.c9; have hnl := hN.lt
    have nn := hN.cell
    have hc1 := (hk.cell hgl no_elim y).trans HGC.out
    have hg1 := Nat.lt_of_lt_of_le hgl hk.size
    have hyI : (y : Int) < 6 := by omega
    go_cut [6] from 10 (fun yv W5 => yv = .string (sgB m) ∧ Blk W5 w.heap.size [.int .u8 op, .int .i64 x, .int .i64 y, .int .i64 z, .int .u8 nk, .int .i64 nt, .int .i64 nff, .int .i64 na, .int .i64 nl] 63 ∧ Kp no w W5)
    case first =>
      go_region_with (first | (go_at_call 119; refine (HT.out _).mono ?_; rintro e w5 ⟨rfl, k5⟩; have hN5 := k5.blk (b := w.heap.size) hN no_elim; obtain ⟨n0, n1, n2, n3, n4, n5, n6, n7, n8, nf⟩ := hN5.c9; have hnl := hN5.lt; have hk5 : Kp no w w5 := Kp.trans (by (repeat' (first | with_reducible exact Kp.refl _ _ | with_reducible refine Kp.alloc ?_ _ | with_reducible refine Kp.drewN ?_ _ | with_reducible refine Kp.drew ?_ | with_reducible refine Kp.setCell ?_ _ ?_ | with_reducible refine Kp.trans ?_ hk (fun _ _ e => e) | (intro hh; first | rfl | exact .inl rfl | exact .inr rfl | (exfalso; (try dsimp only at hh); omega))))) k5 (fun _ _ e => e); have hc5 := (hk5.cell hgl no_elim y).trans HGC.out; have hg5 := Nat.lt_of_lt_of_le hgl hk5.size) | (go_at_call 117; refine (HB.out _).mono ?_; rintro e w' ⟨rfl, rfl⟩))
      all_goals
        go_wp2
        go_meet
        case rel => exact ⟨rfl, hN5, by (repeat' (first | with_reducible exact Kp.refl _ _ | with_reducible refine Kp.alloc ?_ _ | with_reducible refine Kp.drewN ?_ _ | with_reducible refine Kp.drew ?_ | with_reducible refine Kp.setCell ?_ _ ?_ | with_reducible refine Kp.trans ?_ hk5 (fun _ _ e => e) | (intro hh; first | rfl | exact .inl rfl | exact .inr rfl | (exfalso; (try dsimp only at hh); omega))))⟩
    case rest =>
      obtain ⟨rfl, hN5, hk5⟩ := hcut
      obtain ⟨p0, p1, p2, p3, p4, p5, p6, p7, p8, pf⟩ := hN5.c9; have hpl := hN5.lt
      clear n0 n1 n2 n3 n4 n5 n6 n7 n8 hnl hN hk nn hc1 hg1
      go_wp2_with fail
      refine (with_c _ s y m _ (Kp.row (S := no) (by (repeat' (first | with_reducible exact Kp.refl _ _ | with_reducible refine Kp.alloc ?_ _ | with_reducible refine Kp.drewN ?_ _ | with_reducible refine Kp.drew ?_ | with_reducible refine Kp.setCell ?_ _ ?_ | with_reducible refine Kp.trans ?_ hk5 (fun _ _ e => e) | (intro hh; first | rfl | exact .inl rfl | exact .inr rfl | (exfalso; (try dsimp only at hh); omega))))) HS.out (fun _ _ => no_elim)) hs hy6 HM.out).mono ?_
      rintro e w6 ⟨u, rfl, hu, hnew, k6⟩
      have hN6 := k6.blk (b := w.heap.size) hN5 no_elim
      have hk6 : Kp no w w6 := Kp.trans (by (repeat' (first | with_reducible exact Kp.refl _ _ | with_reducible refine Kp.alloc ?_ _ | with_reducible refine Kp.drewN ?_ _ | with_reducible refine Kp.drew ?_ | with_reducible refine Kp.setCell ?_ _ ?_ | with_reducible refine Kp.trans ?_ hk5 (fun _ _ e => e) | (intro hh; first | rfl | exact .inl rfl | exact .inr rfl | (exfalso; (try dsimp only at hh); omega))))) k6 (fun _ _ e => e)
      obtain ⟨m0, m1, m2, m3, m4, m5, m6, m7, m8, mf⟩ := hN6.c9; have hml := hN6.lt
      have ok2 := hs.withS y m HM.out
      obtain ⟨au, cu, rfl⟩ := hu.shape
      have HU := hide hu
      have OK2 := hide ok2
      clear hnew hu
      generalize ht0 : withS s y m = t at *
      have HT0 := hide ht0
      clear ht0
      have ht06 : t.length = 0 ∨ t.length = 6 := by
        rcases ok2 with rfl | h
        · exact .inl rfl
        · exact .inr h.1
      rcases ht06 with ht | ht
      · have ht' : t = [] := List.length_eq_zero_iff.1 ht
        have HE2 := hide (HE0.out ht')
        rw [ht] at HU ⊢
        clear ht ok2 p0 p1 p2 p3 p4 p5 p6 p7 p8 pf hpl
        go_wp2_with fail
        refine (HV.out m _).mono ?_
        rintro e w7 ⟨rfl, k7⟩
        have hk7 : Kp no w w7 := Kp.trans (by (repeat' (first | with_reducible exact Kp.refl _ _ | with_reducible refine Kp.alloc ?_ _ | with_reducible refine Kp.drewN ?_ _ | with_reducible refine Kp.drew ?_ | with_reducible refine Kp.setCell ?_ _ ?_ | with_reducible refine Kp.trans ?_ hk6 (fun _ _ e => e) | (intro hh; first | rfl | exact .inl rfl | exact .inr rfl | (exfalso; (try dsimp only at hh); omega))))) k7 (fun _ _ e => e)
        have hN7 := k7.blk (b := w.heap.size) hN6 no_elim
        obtain ⟨q0, q1, q2, q3, q4, q5, q6, q7, q8, qf⟩ := hN7.c9; have hql := hN7.lt
        go_wp2_with fail
        refine (with_c _ t x (givN _ m) _ (Kp.row (S := no) (by (repeat' (first | with_reducible exact Kp.refl _ _ | with_reducible refine Kp.alloc ?_ _ | with_reducible refine Kp.drewN ?_ _ | with_reducible refine Kp.drew ?_ | with_reducible refine Kp.setCell ?_ _ ?_ | with_reducible refine Kp.trans ?_ k7 (fun _ _ e => e) | (intro hh; first | rfl | exact .inl rfl | exact .inr rfl | (exfalso; (try dsimp only at hh); omega))))) HU.out (fun _ _ => no_elim)) OK2.out hx6 (givN_lt _ HM.out)).mono ?_
        rintro e w8 ⟨u2, rfl, hu2, hnew2, k8⟩
        have hu3 : SV w8 u2 [] := by rw [ht'] at hu2; exact hu2
        go_wp2
        go_ret
        exact ⟨_, rfl, by rw [HE2.out]; exact hu3, fun b hb => Nat.le_trans hk7.size (hnew2 b hb), Kp.trans (by (repeat' (first | with_reducible exact Kp.refl _ _ | with_reducible refine Kp.alloc ?_ _ | with_reducible refine Kp.drewN ?_ _ | with_reducible refine Kp.drew ?_ | with_reducible refine Kp.setCell ?_ _ ?_ | with_reducible refine Kp.trans ?_ hk7 (fun _ _ e => e) | (intro hh; first | rfl | exact .inl rfl | exact .inr rfl | (exfalso; (try dsimp only at hh); omega))))) k8 (fun _ _ e => e)⟩
      · have htne : t ≠ [] := fun e => by rw [e] at ht; cases ht
        have HE2 := hide (HE1.out htne)
        have HUR : Hid (Row w6 (.slice au t.length cu) 9 1 t.length (sgS t)) := HU.out
        rw [ht] at HU HUR ⊢
        obtain ⟨gt, rfl, hgt, hgtc⟩ := SV.at HUR.out (k := z) hz6
        have HC2 := hide hgtc
        have HK6 := hide hk6
        have HM2 := hide (and_lt tk (OK2.out.get z))
        clear ht ok2 p0 p1 p2 p3 p4 p5 p6 p7 p8 pf hpl htne
        generalize hm2 : t.getD z 0 &&& tk = m2' at *
        have HM3 := hide hm2
        clear hm2
        have hzI : (z : Int) < 6 := by omega
        have hst := sg_size (t.getD z 0)
        have HTB : Hid (∀ W, Calls Tryz.prog 117 #[.string (sgB (t.getD z 0)), .string (sgB tk)] W fun e w' => e = .returned (.string (sgB m2')) ∧ w' = W) := fun W => by
          have := HTK.out (t.getD z 0) W
          rw [both_sg, HM3.out] at this
          exact this
        generalize sgB (t.getD z 0) = sz at *
        go_upto_region 13 with fail
        clear m0 m1 m2 m3 m4 m5 m6 m7 m8 mf hml
        refine wp_gen (fun W => Blk W w.heap.size [.int .u8 op, .int .i64 x, .int .i64 y, .int .i64 z, .int .u8 nk, .int .i64 nt, .int .i64 nff, .int .i64 na, .int .i64 nl] 63 ∧ Kp no w6 W) ⟨hN6, by (repeat' (first | with_reducible exact Kp.refl _ _ | with_reducible refine Kp.alloc ?_ _ | with_reducible refine Kp.drewN ?_ _ | with_reducible refine Kp.drew ?_ | with_reducible refine Kp.setCell ?_ _ ?_ | (intro hh; first | rfl | exact .inl rfl | exact .inr rfl | (exfalso; (try dsimp only at hh); omega))))⟩ ?_
        rintro W6 ⟨hN6, hkw⟩
        have hk6' : Kp no w W6 := hk6.trans hkw (fun _ _ e => e)
        clear hk6
        have hk6 := hk6'
        clear hk6'
        obtain ⟨m0, m1, m2, m3, m4, m5, m6, m7, m8, mf⟩ := hN6.c9; have hml := hN6.lt
        have hc6 := (hkw.cell hgt no_elim z).trans HC2.out
        have hg6 := Nat.lt_of_lt_of_le hgt hkw.size
        go_cut [8] from 10 (fun vv W5 => vv = .string (sgB m2') ∧ Blk W5 w.heap.size [.int .u8 op, .int .i64 x, .int .i64 y, .int .i64 z, .int .u8 nk, .int .i64 nt, .int .i64 nff, .int .i64 na, .int .i64 nl] 63 ∧ Kp no w6 W5)
        case first =>
          go_region_with (first | (go_at_call 119; refine (HT.out _).mono ?_; rintro e w5 ⟨rfl, k5⟩; have hN5 := k5.blk (b := w.heap.size) hN6 no_elim; obtain ⟨n0, n1, n2, n3, n4, n5, n6, n7, n8, nf⟩ := hN5.c9; have hnl := hN5.lt; have hk5 : Kp no w6 w5 := Kp.trans (by (repeat' (first | with_reducible exact Kp.refl _ _ | with_reducible refine Kp.alloc ?_ _ | with_reducible refine Kp.drewN ?_ _ | with_reducible refine Kp.drew ?_ | with_reducible refine Kp.setCell ?_ _ ?_ | with_reducible refine Kp.trans ?_ hkw (fun _ _ e => e) | (intro hh; first | rfl | exact .inl rfl | exact .inr rfl | (exfalso; (try dsimp only at hh); omega))))) k5 (fun _ _ e => e); have hc5 := (hk5.cell hgt no_elim z).trans HC2.out; have hg5 := Nat.lt_of_lt_of_le hgt hk5.size) | (go_at_call 117; refine (HTB.out _).mono ?_; rintro e w' ⟨rfl, rfl⟩))
          all_goals
            go_wp2
            go_meet
            case rel => exact ⟨rfl, hN5, by (repeat' (first | with_reducible exact Kp.refl _ _ | with_reducible refine Kp.alloc ?_ _ | with_reducible refine Kp.drewN ?_ _ | with_reducible refine Kp.drew ?_ | with_reducible refine Kp.setCell ?_ _ ?_ | with_reducible refine Kp.trans ?_ hk5 (fun _ _ e => e) | (intro hh; first | rfl | exact .inl rfl | exact .inr rfl | (exfalso; (try dsimp only at hh); omega))))⟩
        case rest =>
          obtain ⟨rfl, hN8, hk8⟩ := hcut
          clear m0 m1 m2 m3 m4 m5 m6 m7 m8 mf hml hN6 hk6 hkw hc6 hg6 hgtc
          obtain ⟨p0, p1, p2, p3, p4, p5, p6, p7, p8, pf⟩ := hN8.c9; have hpl := hN8.lt
          go_wp2_with fail
          refine (with_c _ t z m2' _ (Kp.row (S := no) (by (repeat' (first | with_reducible exact Kp.refl _ _ | with_reducible refine Kp.alloc ?_ _ | with_reducible refine Kp.drewN ?_ _ | with_reducible refine Kp.drew ?_ | with_reducible refine Kp.setCell ?_ _ ?_ | with_reducible refine Kp.trans ?_ hk8 (fun _ _ e => e) | (intro hh; first | rfl | exact .inl rfl | exact .inr rfl | (exfalso; (try dsimp only at hh); omega))))) HU.out (fun _ _ => no_elim)) OK2.out hz6 HM2.out).mono ?_
          rintro e w9 ⟨u3, rfl, hu3, _, k9⟩
          have hk9 : Kp no w6 w9 := Kp.trans (by (repeat' (first | with_reducible exact Kp.refl _ _ | with_reducible refine Kp.alloc ?_ _ | with_reducible refine Kp.drewN ?_ _ | with_reducible refine Kp.drew ?_ | with_reducible refine Kp.setCell ?_ _ ?_ | with_reducible refine Kp.trans ?_ hk8 (fun _ _ e => e) | (intro hh; first | rfl | exact .inl rfl | exact .inr rfl | (exfalso; (try dsimp only at hh); omega))))) k9 (fun _ _ e => e)
          have hN9 := k9.blk (b := w.heap.size) hN8 no_elim
          obtain ⟨m0, m1, m2, m3, m4, m5, m6, m7, m8, mf⟩ := hN9.c9; have hml := hN9.lt
          clear p0 p1 p2 p3 p4 p5 p6 p7 p8 pf hpl
          have HU3 := hide hu3
          have OK3 := hide (OK2.out.withS z m2' HM2.out)
          clear hu3
          generalize ht3 : withS t z m2' = t3 at *
          clear ht3
          go_wp2_with fail
          refine (HV.out m _).mono ?_
          rintro e w10 ⟨rfl, k10⟩
          have hk10 : Kp no w6 w10 := Kp.trans (by (repeat' (first | with_reducible exact Kp.refl _ _ | with_reducible refine Kp.alloc ?_ _ | with_reducible refine Kp.drewN ?_ _ | with_reducible refine Kp.drew ?_ | with_reducible refine Kp.setCell ?_ _ ?_ | with_reducible refine Kp.trans ?_ hk9 (fun _ _ e => e) | (intro hh; first | rfl | exact .inl rfl | exact .inr rfl | (exfalso; (try dsimp only at hh); omega))))) k10 (fun _ _ e => e)
          have hN10 := k10.blk (b := w.heap.size) hN9 no_elim
          obtain ⟨q0, q1, q2, q3, q4, q5, q6, q7, q8, qf⟩ := hN10.c9; have hql := hN10.lt
          go_wp2_with fail
          refine (with_c _ t3 x (givN _ m) _ (Kp.row (S := no) (by (repeat' (first | with_reducible exact Kp.refl _ _ | with_reducible refine Kp.alloc ?_ _ | with_reducible refine Kp.drewN ?_ _ | with_reducible refine Kp.drew ?_ | with_reducible refine Kp.setCell ?_ _ ?_ | with_reducible refine Kp.trans ?_ k10 (fun _ _ e => e) | (intro hh; first | rfl | exact .inl rfl | exact .inr rfl | (exfalso; (try dsimp only at hh); omega))))) HU3.out (fun _ _ => no_elim)) OK3.out hx6 (givN_lt _ HM.out)).mono ?_
          rintro e w11 ⟨u2, rfl, hu2, hnew2, k11⟩
          have hkf : Kp no w6 w11 := Kp.trans (by (repeat' (first | with_reducible exact Kp.refl _ _ | with_reducible refine Kp.alloc ?_ _ | with_reducible refine Kp.drewN ?_ _ | with_reducible refine Kp.drew ?_ | with_reducible refine Kp.setCell ?_ _ ?_ | with_reducible refine Kp.trans ?_ hk10 (fun _ _ e => e) | (intro hh; first | rfl | exact .inl rfl | exact .inr rfl | (exfalso; (try dsimp only at hh); omega))))) k11 (fun _ _ e => e)
          go_wp2
          go_ret
          exact ⟨_, rfl, by rw [HE2.out]; exact hu2, fun b hb => Nat.le_trans (Nat.le_trans HK6.out.size hk10.size) (hnew2 b hb), by (repeat' (first | with_reducible exact Kp.refl _ _ | with_reducible refine Kp.alloc ?_ _ | with_reducible refine Kp.drewN ?_ _ | with_reducible refine Kp.drew ?_ | with_reducible refine Kp.setCell ?_ _ ?_ | with_reducible refine Kp.trans ?_ HK6.out (fun _ _ e => e) | with_reducible refine Kp.trans ?_ hkf (fun _ _ e => e) | (intro hh; first | rfl | exact .inl rfl | exact .inr rfl | (exfalso; (try dsimp only at hh); omega))))⟩
end Go.Proofs.YtellieabhaphhaaGreatDoor

/-
  narrowref's flow: what comes behind a cast and the others; along the ways of a test.
-/
namespace Go.Proofs.YtellieabhaphhaaGreatDoor
open Go.RowKit

set_option maxRecDepth 100000 in
set_option maxHeartbeats 1600000 in
theorem behind_never (n : Nd) (v : Value) (s : St) (w : World) (ho : n.op = 33) :
    Calls Tryz.prog 72 #[.agg #[.int .u8 n.op, .int .i64 n.x, .int .i64 n.y, .int .i64 n.v, .int .u8 n.k, .int .i64 n.t, .int .i64 n.f, .int .i64 n.a, .int .i64 n.l], v] w fun e w' => ∃ u, e = .returned u ∧ SV w' u (behF n s) ∧ (u = v ∨ New w u) ∧ Kp no w w' := by
  have HE := hide (show behF n s = [] by rw [behF, if_pos ho])
  rw [HE.out, ho]
  go_enter Tryz.func72, Tryz.ntmps72
  go_wp2
  go_ret
  exact ⟨_, rfl, SV.nil _, .inr (New.none _), by (repeat' (first | with_reducible exact Kp.refl _ _ | with_reducible refine Kp.alloc ?_ _ | with_reducible refine Kp.drewN ?_ _ | with_reducible refine Kp.drew ?_ | with_reducible refine Kp.setCell ?_ _ ?_ | (intro hh; first | rfl | exact .inl rfl | exact .inr rfl | (exfalso; (try dsimp only at hh); omega))))⟩

set_option maxRecDepth 100000 in
set_option maxHeartbeats 1600000 in
theorem behind_same (n : Nd) (v : Value) (s : St) (w : World) (h : SV w v s) (ho : n.op = 42 ∨ n.op = 94) :
    Calls Tryz.prog 72 #[.agg #[.int .u8 n.op, .int .i64 n.x, .int .i64 n.y, .int .i64 n.v, .int .u8 n.k, .int .i64 n.t, .int .i64 n.f, .int .i64 n.a, .int .i64 n.l], v] w fun e w' => ∃ u, e = .returned u ∧ SV w' u (behF n s) ∧ (u = v ∨ New w u) ∧ Kp no w w' := by
  have HE := hide (show behF n s = s by rw [behF, if_neg (by omega), if_pos ho])
  rw [HE.out]
  have HS := hide h
  clear h
  rcases ho with ho | ho
  all_goals
    rw [ho]
    clear ho
    go_enter Tryz.func72, Tryz.ntmps72
    go_wp2
    go_ret
    exact ⟨_, rfl, Kp.row (S := no) (by (repeat' (first | with_reducible exact Kp.refl _ _ | with_reducible refine Kp.alloc ?_ _ | with_reducible refine Kp.drewN ?_ _ | with_reducible refine Kp.drew ?_ | with_reducible refine Kp.setCell ?_ _ ?_ | (intro hh; first | rfl | exact .inl rfl | exact .inr rfl | (exfalso; (try dsimp only at hh); omega))))) HS.out (fun _ _ => no_elim), .inl rfl, by (repeat' (first | with_reducible exact Kp.refl _ _ | with_reducible refine Kp.alloc ?_ _ | with_reducible refine Kp.drewN ?_ _ | with_reducible refine Kp.drew ?_ | with_reducible refine Kp.setCell ?_ _ ?_ | (intro hh; first | rfl | exact .inl rfl | exact .inr rfl | (exfalso; (try dsimp only at hh); omega))))⟩

theorem conv1d (W : World) (k : Int) (b : Nat) (hb : b = W.heap.size) : (convert 156 9 (.slice (some ⟨b, 0, none⟩) 1 1)).run Tryz.prog (W.alloc (.cells #[.int .u8 k] 5)).drew = .ok (.string (strOfNums [k])) (W.alloc (.cells #[.int .u8 k] 5)).drew := by
  subst hb
  exact conv1 W.drew k

theorem str_sg (k : Int) (h : KOk k) : strOfNums [k] = sgB (bitN k) := by
  unfold KOk at h
  rcases h with rfl | rfl | rfl | rfl | rfl | rfl | rfl <;> decide

set_option maxRecDepth 100000 in
set_option maxHeartbeats 1600000 in
theorem behind_cast (n : Nd) (v : Value) (s : St) (w : World) (h : SV w v s) (hs : SOk s) (h0 : s ≠ []) (hg : Gn n) (ho : n.op = 126) :
    Calls Tryz.prog 72 #[.agg #[.int .u8 n.op, .int .i64 n.x, .int .i64 n.y, .int .i64 n.v, .int .u8 n.k, .int .i64 n.t, .int .i64 n.f, .int .i64 n.a, .int .i64 n.l], v] w fun e w' => ∃ u, e = .returned u ∧ SV w' u (behF n s) ∧ New w u ∧ Kp no w w' := by
  obtain ⟨x, hx⟩ := Int.eq_ofNat_of_zero_le hg.x.1
  have hx6 : x < 6 := by have := hg.x.2; omega
  have HK := hide (str_sg n.k (hg.kd (.inr ho)))
  have HE := hide (show behF n s = withS s x (s.getD x 0 &&& bitN n.k) by
    rw [behF, if_neg (by omega), if_neg (by omega), if_pos ho, hx, Int.toNat_natCast])
  rw [HE.out]
  obtain ⟨h6, hm⟩ := hs.resolve_left h0
  have HS := hide h
  obtain ⟨a, cap, rfl⟩ := h.shape
  have h' : Row w (.slice a s.length cap) 9 1 s.length (sgS s) := h
  rw [h6] at h' HS ⊢
  clear h
  obtain ⟨op, nx, ny, nv, nk, nt, nff, na, nl⟩ := n
  dsimp only at *
  subst hx ho
  obtain ⟨g, rfl, hgl, hgc⟩ := SV.at h' (k := x) hx6
  have HB := hide (fun W => both_c (sgB (s.getD x 0)) (sgB (bitN nk)) W (Nat.le_trans (sg_size _) (by decide)) (Nat.le_trans (sg_size _) (by decide)))
  rw [both_sg] at HB
  have HM := hide (and_lt (bitN nk) (hs.get x))
  have HGC := hide hgc
  rw [← HK.out] at HB
  clear HE h6 hm HK
  generalize s.getD x 0 &&& bitN nk = m at *
  have hsz := sg_size (s.getD x 0)
  generalize sgB (s.getD x 0) = sx at *
  have hc := conv1'
  have hcd := conv1d
  go_enter Tryz.func72, Tryz.ntmps72
  go_wp2_with fail
  refine wp_gen (fun W => Blk W w.heap.size [.int .u8 126, .int .i64 x, .int .i64 ny, .int .i64 nv, .int .u8 nk, .int .i64 nt, .int .i64 nff, .int .i64 na, .int .i64 nl] 63 ∧ Kp no w W) ⟨by (repeat' (first | ((with_reducible show (_ : List Value) = _); rfl) | ((with_reducible refine Blk.newAt _ _ _ ?_); first | with_reducible rfl | (simp; done)) | with_reducible refine Blk.alloc ?_ _ | with_reducible refine Blk.drewN ?_ _ | with_reducible refine Blk.drew ?_ | ((with_reducible refine Blk.other ?_ _ ?_); rotate_left; ((try dsimp only); omega)) | with_reducible refine Blk.setB (cs0 := ?_) ?_ ?_)), by (repeat' (first | with_reducible exact Kp.refl _ _ | with_reducible refine Kp.alloc ?_ _ | with_reducible refine Kp.drewN ?_ _ | with_reducible refine Kp.drew ?_ | with_reducible refine Kp.setCell ?_ _ ?_ | (intro hh; first | rfl | exact .inl rfl | exact .inr rfl | (exfalso; (try dsimp only at hh); omega))))⟩ ?_
  rintro W ⟨hN, hk⟩
  obtain ⟨n0, n1, n2, n3, n4, n5, n6, n7, n8, nf⟩ := hN.c9; have hnl := hN.lt
  have hc1 := (hk.cell hgl no_elim x).trans HGC.out
  have hg1 := Nat.lt_of_lt_of_le hgl hk.size
  have hxI : (x : Int) < 6 := by omega
  go_cut [5] from 10 (fun yv W5 => yv = .string (sgB m) ∧ Blk W5 w.heap.size [.int .u8 126, .int .i64 x, .int .i64 ny, .int .i64 nv, .int .u8 nk, .int .i64 nt, .int .i64 nff, .int .i64 na, .int .i64 nl] 63 ∧ Kp no w W5)
  case first =>
    go_region_with (go_at_call 117; refine (HB.out _).mono ?_; rintro e w' ⟨rfl, rfl⟩)
    all_goals
      go_wp2
      go_meet
      case rel => exact ⟨rfl, by (repeat' (first | ((with_reducible show (_ : List Value) = _); rfl) | with_reducible exact hN | ((with_reducible refine Blk.newAt _ _ _ ?_); first | with_reducible rfl | (simp; done)) | with_reducible refine Blk.alloc ?_ _ | with_reducible refine Blk.drewN ?_ _ | with_reducible refine Blk.drew ?_ | ((with_reducible refine Blk.other ?_ _ ?_); rotate_left; ((try dsimp only); omega)) | with_reducible refine Blk.setB (cs0 := ?_) ?_ ?_)), by (repeat' (first | with_reducible exact Kp.refl _ _ | with_reducible refine Kp.alloc ?_ _ | with_reducible refine Kp.drewN ?_ _ | with_reducible refine Kp.drew ?_ | with_reducible refine Kp.setCell ?_ _ ?_ | with_reducible refine Kp.trans ?_ hk (fun _ _ e => e) | (intro hh; first | rfl | exact .inl rfl | exact .inr rfl | (exfalso; (try dsimp only at hh); omega))))⟩
  case rest =>
    obtain ⟨rfl, hN5, hk5⟩ := hcut
    clear n0 n1 n2 n3 n4 n5 n6 n7 n8 hnl hN hk hc1 hg1
    obtain ⟨p0, p1, p2, p3, p4, p5, p6, p7, p8, pf⟩ := hN5.c9; have hpl := hN5.lt
    go_wp2_with fail
    refine (with_c _ s x m _ (Kp.row (S := no) (by (repeat' (first | with_reducible exact Kp.refl _ _ | with_reducible refine Kp.alloc ?_ _ | with_reducible refine Kp.drewN ?_ _ | with_reducible refine Kp.drew ?_ | with_reducible refine Kp.setCell ?_ _ ?_ | with_reducible refine Kp.trans ?_ hk5 (fun _ _ e => e) | (intro hh; first | rfl | exact .inl rfl | exact .inr rfl | (exfalso; (try dsimp only at hh); omega))))) HS.out (fun _ _ => no_elim)) hs hx6 HM.out).mono ?_
    rintro e w6 ⟨u, rfl, hu, hnew, k6⟩
    go_wp2
    go_ret
    exact ⟨_, rfl, hu, fun b hb => Nat.le_trans hk5.size (hnew b hb), Kp.trans (by (repeat' (first | with_reducible exact Kp.refl _ _ | with_reducible refine Kp.alloc ?_ _ | with_reducible refine Kp.drewN ?_ _ | with_reducible refine Kp.drew ?_ | with_reducible refine Kp.setCell ?_ _ ?_ | with_reducible refine Kp.trans ?_ hk5 (fun _ _ e => e) | (intro hh; first | rfl | exact .inl rfl | exact .inr rfl | (exfalso; (try dsimp only at hh); omega))))) k6 (fun _ _ e => e)⟩

theorem not_sg (k : Int) (h : KOk k) : selB (fun c => !decide ((c : Int) = k)) = sgB (127 ^^^ bitN k) := by
  unfold KOk at h
  rcases h with rfl | rfl | rfl | rfl | rfl | rfl | rfl <;> decide

theorem sg_115 : sgB 115 = ⟨#[110, 116, 65, 66, 67]⟩ := by decide
theorem sg_13 : sgB 13 = ⟨#[110, 102, 122]⟩ := by decide
end Go.Proofs.YtellieabhaphhaaGreatDoor

/-
  narrowref's flow: along the ways of a test.
-/
namespace Go.Proofs.YtellieabhaphhaaGreatDoor
open Go.RowKit

set_option maxRecDepth 100000 in
set_option maxHeartbeats 1600000 in
theorem holds_t1 (n : Nd) (v : Value) (s : St) (w : World) (h : SV w v s) (hs : SOk s) (h0 : s ≠ []) (hg : Gn n) (ho : n.op = 121) :
    Calls Tryz.prog 73 #[.agg #[.int .u8 n.op, .int .i64 n.x, .int .i64 n.y, .int .i64 n.v, .int .u8 n.k, .int .i64 n.t, .int .i64 n.f, .int .i64 n.a, .int .i64 n.l], v, .bool true] w fun e w' => ∃ u, e = .returned u ∧ SV w' u (hldF n true s) ∧ New w u ∧ Kp no w w' := by
  obtain ⟨y, hy⟩ := Int.eq_ofNat_of_zero_le hg.y.1
  have hy6 : y < 6 := by have := hg.y.2; omega
  have HE := hide (show hldF n true s = withS s y (s.getD y 0 &&& 115) by
    rw [hldF, wayM, hy, Int.toNat_natCast, ho]; rfl)
  rw [HE.out]
  obtain ⟨h6, hm⟩ := hs.resolve_left h0
  have HS := hide h
  obtain ⟨a, cap, rfl⟩ := h.shape
  have h' : Row w (.slice a s.length cap) 9 1 s.length (sgS s) := h
  rw [h6] at h' HS ⊢
  clear h
  have HKD := hide hg.kd
  obtain ⟨op, nx, ny, nv, nk, nt, nff, na, nl⟩ := n
  dsimp only at *
  subst hy ho
  obtain ⟨g, rfl, hgl, hgc⟩ := SV.at h' (k := y) hy6
  have HB := hide (fun W => both_c (sgB (s.getD y 0)) (sgB (115)) W (Nat.le_trans (sg_size _) (by decide)) (Nat.le_trans (sg_size _) (by decide)))
  rw [both_sg] at HB
  have HM := hide (and_lt (115) (hs.get y))
  have HGC := hide hgc
  have hyI : (y : Int) < 6 := by omega
  rw [sg_115] at HB
  generalize s.getD y 0 &&& 115 = m at *
  have hsz := sg_size (s.getD y 0)
  generalize sgB (s.getD y 0) = sy at *
  clear HE h6 hm
  go_enter Tryz.func73, Tryz.ntmps73
  go_wp2_with fail
  refine (HB.out _).mono ?_
  rintro e w' ⟨rfl, rfl⟩
  go_wp2_with fail
  refine (with_c _ s y m _ (Kp.row (S := no) (by (repeat' (first | with_reducible exact Kp.refl _ _ | with_reducible refine Kp.alloc ?_ _ | with_reducible refine Kp.drewN ?_ _ | with_reducible refine Kp.drew ?_ | with_reducible refine Kp.setCell ?_ _ ?_ | (intro hh; first | rfl | exact .inl rfl | exact .inr rfl | (exfalso; (try dsimp only at hh); omega))))) HS.out (fun _ _ => no_elim)) hs hy6 HM.out).mono ?_
  rintro e w6 ⟨u, rfl, hu, hnew, k6⟩
  have hkf : Kp no w w6 := Kp.trans (by (repeat' (first | with_reducible exact Kp.refl _ _ | with_reducible refine Kp.alloc ?_ _ | with_reducible refine Kp.drewN ?_ _ | with_reducible refine Kp.drew ?_ | with_reducible refine Kp.setCell ?_ _ ?_ | (intro hh; first | rfl | exact .inl rfl | exact .inr rfl | (exfalso; (try dsimp only at hh); omega))))) k6 (fun _ _ e => e)
  have hnf : New w u := fun b hb => Nat.le_trans (Kp.size (S := no) (by (repeat' (first | with_reducible exact Kp.refl _ _ | with_reducible refine Kp.alloc ?_ _ | with_reducible refine Kp.drewN ?_ _ | with_reducible refine Kp.drew ?_ | with_reducible refine Kp.setCell ?_ _ ?_ | (intro hh; first | rfl | exact .inl rfl | exact .inr rfl | (exfalso; (try dsimp only at hh); omega)))))) (hnew b hb)
  go_wp2
  go_ret
  exact ⟨_, rfl, hu, hnf, hkf⟩

set_option maxRecDepth 100000 in
set_option maxHeartbeats 1600000 in
theorem holds_t0 (n : Nd) (v : Value) (s : St) (w : World) (h : SV w v s) (hs : SOk s) (h0 : s ≠ []) (hg : Gn n) (ho : n.op = 121) :
    Calls Tryz.prog 73 #[.agg #[.int .u8 n.op, .int .i64 n.x, .int .i64 n.y, .int .i64 n.v, .int .u8 n.k, .int .i64 n.t, .int .i64 n.f, .int .i64 n.a, .int .i64 n.l], v, .bool false] w fun e w' => ∃ u, e = .returned u ∧ SV w' u (hldF n false s) ∧ New w u ∧ Kp no w w' := by
  obtain ⟨y, hy⟩ := Int.eq_ofNat_of_zero_le hg.y.1
  have hy6 : y < 6 := by have := hg.y.2; omega
  have HE := hide (show hldF n false s = withS s y (s.getD y 0 &&& 13) by
    rw [hldF, wayM, hy, Int.toNat_natCast, ho]; rfl)
  rw [HE.out]
  obtain ⟨h6, hm⟩ := hs.resolve_left h0
  have HS := hide h
  obtain ⟨a, cap, rfl⟩ := h.shape
  have h' : Row w (.slice a s.length cap) 9 1 s.length (sgS s) := h
  rw [h6] at h' HS ⊢
  clear h
  have HKD := hide hg.kd
  obtain ⟨op, nx, ny, nv, nk, nt, nff, na, nl⟩ := n
  dsimp only at *
  subst hy ho
  obtain ⟨g, rfl, hgl, hgc⟩ := SV.at h' (k := y) hy6
  have HB := hide (fun W => both_c (sgB (s.getD y 0)) (sgB (13)) W (Nat.le_trans (sg_size _) (by decide)) (Nat.le_trans (sg_size _) (by decide)))
  rw [both_sg] at HB
  have HM := hide (and_lt (13) (hs.get y))
  have HGC := hide hgc
  have hyI : (y : Int) < 6 := by omega
  rw [sg_13] at HB
  generalize s.getD y 0 &&& 13 = m at *
  have hsz := sg_size (s.getD y 0)
  generalize sgB (s.getD y 0) = sy at *
  clear HE h6 hm
  go_enter Tryz.func73, Tryz.ntmps73
  go_wp2_with fail
  refine (HB.out _).mono ?_
  rintro e w' ⟨rfl, rfl⟩
  go_wp2_with fail
  refine (with_c _ s y m _ (Kp.row (S := no) (by (repeat' (first | with_reducible exact Kp.refl _ _ | with_reducible refine Kp.alloc ?_ _ | with_reducible refine Kp.drewN ?_ _ | with_reducible refine Kp.drew ?_ | with_reducible refine Kp.setCell ?_ _ ?_ | (intro hh; first | rfl | exact .inl rfl | exact .inr rfl | (exfalso; (try dsimp only at hh); omega))))) HS.out (fun _ _ => no_elim)) hs hy6 HM.out).mono ?_
  rintro e w6 ⟨u, rfl, hu, hnew, k6⟩
  have hkf : Kp no w w6 := Kp.trans (by (repeat' (first | with_reducible exact Kp.refl _ _ | with_reducible refine Kp.alloc ?_ _ | with_reducible refine Kp.drewN ?_ _ | with_reducible refine Kp.drew ?_ | with_reducible refine Kp.setCell ?_ _ ?_ | (intro hh; first | rfl | exact .inl rfl | exact .inr rfl | (exfalso; (try dsimp only at hh); omega))))) k6 (fun _ _ e => e)
  have hnf : New w u := fun b hb => Nat.le_trans (Kp.size (S := no) (by (repeat' (first | with_reducible exact Kp.refl _ _ | with_reducible refine Kp.alloc ?_ _ | with_reducible refine Kp.drewN ?_ _ | with_reducible refine Kp.drew ?_ | with_reducible refine Kp.setCell ?_ _ ?_ | (intro hh; first | rfl | exact .inl rfl | exact .inr rfl | (exfalso; (try dsimp only at hh); omega)))))) (hnew b hb)
  go_wp2
  go_ret
  exact ⟨_, rfl, hu, hnf, hkf⟩

set_option maxRecDepth 100000 in
set_option maxHeartbeats 1600000 in
theorem holds_k1 (n : Nd) (v : Value) (s : St) (w : World) (h : SV w v s) (hs : SOk s) (h0 : s ≠ []) (hg : Gn n) (ho : n.op = 58) :
    Calls Tryz.prog 73 #[.agg #[.int .u8 n.op, .int .i64 n.x, .int .i64 n.y, .int .i64 n.v, .int .u8 n.k, .int .i64 n.t, .int .i64 n.f, .int .i64 n.a, .int .i64 n.l], v, .bool true] w fun e w' => ∃ u, e = .returned u ∧ SV w' u (hldF n true s) ∧ New w u ∧ Kp no w w' := by
  obtain ⟨y, hy⟩ := Int.eq_ofNat_of_zero_le hg.y.1
  have hy6 : y < 6 := by have := hg.y.2; omega
  have HE := hide (show hldF n true s = withS s y (s.getD y 0 &&& bitN n.k) by
    rw [hldF, wayM, hy, Int.toNat_natCast, ho]; rfl)
  rw [HE.out]
  obtain ⟨h6, hm⟩ := hs.resolve_left h0
  have HS := hide h
  obtain ⟨a, cap, rfl⟩ := h.shape
  have h' : Row w (.slice a s.length cap) 9 1 s.length (sgS s) := h
  rw [h6] at h' HS ⊢
  clear h
  have HKD := hide hg.kd
  obtain ⟨op, nx, ny, nv, nk, nt, nff, na, nl⟩ := n
  dsimp only at *
  subst hy ho
  obtain ⟨g, rfl, hgl, hgc⟩ := SV.at h' (k := y) hy6
  have HB := hide (fun W => both_c (sgB (s.getD y 0)) (sgB (bitN nk)) W (Nat.le_trans (sg_size _) (by decide)) (Nat.le_trans (sg_size _) (by decide)))
  rw [both_sg] at HB
  have HM := hide (and_lt (bitN nk) (hs.get y))
  have HGC := hide hgc
  have hyI : (y : Int) < 6 := by omega
  have HKK := hide (str_sg nk (HKD.out (.inl rfl)))
  rw [← HKK.out] at HB
  clear HKK
  have hc := conv1'
  have hcd := conv1d
  generalize s.getD y 0 &&& bitN nk = m at *
  have hsz := sg_size (s.getD y 0)
  generalize sgB (s.getD y 0) = sy at *
  clear HE h6 hm
  go_enter Tryz.func73, Tryz.ntmps73
  go_wp2_with fail
  refine (HB.out _).mono ?_
  rintro e w' ⟨rfl, rfl⟩
  go_wp2_with fail
  refine (with_c _ s y m _ (Kp.row (S := no) (by (repeat' (first | with_reducible exact Kp.refl _ _ | with_reducible refine Kp.alloc ?_ _ | with_reducible refine Kp.drewN ?_ _ | with_reducible refine Kp.drew ?_ | with_reducible refine Kp.setCell ?_ _ ?_ | (intro hh; first | rfl | exact .inl rfl | exact .inr rfl | (exfalso; (try dsimp only at hh); omega))))) HS.out (fun _ _ => no_elim)) hs hy6 HM.out).mono ?_
  rintro e w6 ⟨u, rfl, hu, hnew, k6⟩
  have hkf : Kp no w w6 := Kp.trans (by (repeat' (first | with_reducible exact Kp.refl _ _ | with_reducible refine Kp.alloc ?_ _ | with_reducible refine Kp.drewN ?_ _ | with_reducible refine Kp.drew ?_ | with_reducible refine Kp.setCell ?_ _ ?_ | (intro hh; first | rfl | exact .inl rfl | exact .inr rfl | (exfalso; (try dsimp only at hh); omega))))) k6 (fun _ _ e => e)
  have hnf : New w u := fun b hb => Nat.le_trans (Kp.size (S := no) (by (repeat' (first | with_reducible exact Kp.refl _ _ | with_reducible refine Kp.alloc ?_ _ | with_reducible refine Kp.drewN ?_ _ | with_reducible refine Kp.drew ?_ | with_reducible refine Kp.setCell ?_ _ ?_ | (intro hh; first | rfl | exact .inl rfl | exact .inr rfl | (exfalso; (try dsimp only at hh); omega)))))) (hnew b hb)
  go_wp2
  go_ret
  exact ⟨_, rfl, hu, hnf, hkf⟩

set_option maxRecDepth 100000 in
set_option maxHeartbeats 1600000 in
theorem holds_k0 (n : Nd) (v : Value) (s : St) (w : World) (h : SV w v s) (hs : SOk s) (h0 : s ≠ []) (hg : Gn n) (ho : n.op = 58) :
    Calls Tryz.prog 73 #[.agg #[.int .u8 n.op, .int .i64 n.x, .int .i64 n.y, .int .i64 n.v, .int .u8 n.k, .int .i64 n.t, .int .i64 n.f, .int .i64 n.a, .int .i64 n.l], v, .bool false] w fun e w' => ∃ u, e = .returned u ∧ SV w' u (hldF n false s) ∧ New w u ∧ Kp no w w' := by
  obtain ⟨y, hy⟩ := Int.eq_ofNat_of_zero_le hg.y.1
  have hy6 : y < 6 := by have := hg.y.2; omega
  have HE := hide (show hldF n false s = withS s y (s.getD y 0 &&& (127 ^^^ bitN n.k)) by
    rw [hldF, wayM, hy, Int.toNat_natCast, ho]; rfl)
  rw [HE.out]
  obtain ⟨h6, hm⟩ := hs.resolve_left h0
  have HS := hide h
  obtain ⟨a, cap, rfl⟩ := h.shape
  have h' : Row w (.slice a s.length cap) 9 1 s.length (sgS s) := h
  rw [h6] at h' HS ⊢
  clear h
  have HKD := hide hg.kd
  obtain ⟨op, nx, ny, nv, nk, nt, nff, na, nl⟩ := n
  dsimp only at *
  subst hy ho
  obtain ⟨g, rfl, hgl, hgc⟩ := SV.at h' (k := y) hy6
  have HB := hide (fun W => both_c (sgB (s.getD y 0)) (sgB (127 ^^^ bitN nk)) W (Nat.le_trans (sg_size _) (by decide)) (Nat.le_trans (sg_size _) (by decide)))
  rw [both_sg] at HB
  have HM := hide (and_lt (127 ^^^ bitN nk) (hs.get y))
  have HGC := hide hgc
  have hyI : (y : Int) < 6 := by omega
  have HKK := hide (not_sg nk (HKD.out (.inl rfl)))
  rw [← HKK.out] at HB
  clear HKK
  have hc := conv1'
  have hcd := conv1d
  generalize s.getD y 0 &&& (127 ^^^ bitN nk) = m at *
  have hsz := sg_size (s.getD y 0)
  generalize sgB (s.getD y 0) = sy at *
  clear HE h6 hm
  go_enter Tryz.func73, Tryz.ntmps73
  go_wp2
  go_loopg [7, 8] 7 (fun k kv iv wr => ∃ j : Nat, j ≤ 7 ∧ k = 7 - j ∧ iv = .int .i64 j ∧ kv = .string (selN (fun c => !decide ((c : Int) = nk)) j) ∧ Blk wr w.heap.size [.int .u8 58, .int .i64 nx, .int .i64 y, .int .i64 nv, .int .u8 nk, .int .i64 nt, .int .i64 nff, .int .i64 na, .int .i64 nl] 63 ∧ Kp no w wr)
  case atStart => exact ⟨0, by decide, rfl, rfl, rfl, by (repeat' (first | ((with_reducible show (_ : List Value) = _); rfl) | ((with_reducible refine Blk.newAt _ _ _ ?_); first | with_reducible rfl | (simp; done)) | with_reducible refine Blk.alloc ?_ _ | with_reducible refine Blk.drewN ?_ _ | with_reducible refine Blk.drew ?_ | ((with_reducible refine Blk.other ?_ _ ?_); rotate_left; ((try dsimp only); omega)) | with_reducible refine Blk.setB (cs0 := ?_) ?_ ?_)), by (repeat' (first | with_reducible exact Kp.refl _ _ | with_reducible refine Kp.alloc ?_ _ | with_reducible refine Kp.drewN ?_ _ | with_reducible refine Kp.drew ?_ | with_reducible refine Kp.setCell ?_ _ ?_ | (intro hh; first | rfl | exact .inl rfl | exact .inr rfl | (exfalso; (try dsimp only at hh); omega))))⟩
  case round =>
    obtain ⟨j, hj, hk, rfl, rfl, hN, hkr⟩ := hrel
    have HKK := hide hk
    have HNN := hide hN
    have HKR := hide hkr
    obtain ⟨n0, n1, n2, n3, n4, n5, n6, n7, n8, nf⟩ := hN.c9; have hnl := hN.lt
    have hc1 := (hkr.cell hgl no_elim y).trans HGC.out
    have hg1 := Nat.lt_of_lt_of_le hgl hkr.size
    clear hk hN hkr
    by_cases hlt : j < 7
    · have HY := hide (selN_yes (fun c => !decide ((c : Int) = nk)) j hlt)
      have HN := hide (selN_no (fun c => !decide ((c : Int) = nk)) j hlt)
      have hsz := selN_size (fun c => !decide ((c : Int) = nk)) j
      generalize selN (fun c => !decide ((c : Int) = nk)) j = tj at *
      have hjI : (j : Int) < 7 := by omega
      by_cases he : ((KB[j]'hlt).toNat : Int) = nk
      · have he' : (((KB[j]'hlt).toNat : Int) != nk) = false := by simpa using he
        rw [decide_eq_true he] at HN
        clear HY
        go_wp2
        go_quiet (fail)
        go_wp2
        go_roundg (7 - (j + 1))
        case measure => have := HKK.out; omega
        case rel => exact ⟨j + 1, by omega, rfl, by go_num, by rw [← HN.out rfl], HNN.out, HKR.out.drewN _⟩
      · have he' : (((KB[j]'hlt).toNat : Int) != nk) = true := by simpa using he
        rw [decide_eq_false he] at HY
        clear HN
        go_wp2
        go_quiet (fail)
        go_wp2
        go_roundg (7 - (j + 1))
        case measure => have := HKK.out; omega
        case rel => exact ⟨j + 1, by omega, rfl, by go_num, by rw [← HY.out rfl], HNN.out, HKR.out.drewN _⟩
    · obtain rfl : j = 7 := by omega
      rw [selN_all]
      go_wp2_with fail
      refine (HB.out _).mono ?_
      rintro e w' ⟨rfl, rfl⟩
      go_wp2_with fail
      refine (with_c _ s y m _ (Kp.row (S := no) (by (repeat' (first | with_reducible exact Kp.refl _ _ | with_reducible refine Kp.alloc ?_ _ | with_reducible refine Kp.drewN ?_ _ | with_reducible refine Kp.drew ?_ | with_reducible refine Kp.setCell ?_ _ ?_ | with_reducible refine Kp.trans ?_ HKR.out (fun _ _ e => e) | (intro hh; first | rfl | exact .inl rfl | exact .inr rfl | (exfalso; (try dsimp only at hh); omega))))) HS.out (fun _ _ => no_elim)) hs hy6 HM.out).mono ?_
      rintro e w6 ⟨u, rfl, hu, hnew, k6⟩
      have hkf : Kp no w w6 := Kp.trans (by (repeat' (first | with_reducible exact Kp.refl _ _ | with_reducible refine Kp.alloc ?_ _ | with_reducible refine Kp.drewN ?_ _ | with_reducible refine Kp.drew ?_ | with_reducible refine Kp.setCell ?_ _ ?_ | with_reducible refine Kp.trans ?_ HKR.out (fun _ _ e => e) | (intro hh; first | rfl | exact .inl rfl | exact .inr rfl | (exfalso; (try dsimp only at hh); omega))))) k6 (fun _ _ e => e)
      have hnf : New w u := fun b hb => Nat.le_trans (Kp.size (S := no) (by (repeat' (first | with_reducible exact Kp.refl _ _ | with_reducible refine Kp.alloc ?_ _ | with_reducible refine Kp.drewN ?_ _ | with_reducible refine Kp.drew ?_ | with_reducible refine Kp.setCell ?_ _ ?_ | with_reducible refine Kp.trans ?_ HKR.out (fun _ _ e => e) | (intro hh; first | rfl | exact .inl rfl | exact .inr rfl | (exfalso; (try dsimp only at hh); omega)))))) (hnew b hb)
      go_wp2
      go_ret
      exact ⟨_, rfl, hu, hnf, hkf⟩

theorem fholds_c (n : Nd) (v : Value) (s : St) (b : Bool) (w : World) (h : SV w v s) (hs : SOk s) (h0 : s ≠ []) (hg : Gn n) (ho : n.op = 121 ∨ n.op = 58) :
    Calls Tryz.prog 73 #[.agg #[.int .u8 n.op, .int .i64 n.x, .int .i64 n.y, .int .i64 n.v, .int .u8 n.k, .int .i64 n.t, .int .i64 n.f, .int .i64 n.a, .int .i64 n.l], v, .bool b] w fun e w' => ∃ u, e = .returned u ∧ SV w' u (hldF n b s) ∧ New w u ∧ Kp no w w' := by
  rcases ho with ho | ho <;> cases b
  · exact holds_t0 n v s w h hs h0 hg ho
  · exact holds_t1 n v s w h hs h0 hg ho
  · exact holds_k0 n v s w h hs h0 hg ho
  · exact holds_k1 n v s w h hs h0 hg ho
end Go.Proofs.YtellieabhaphhaaGreatDoor
