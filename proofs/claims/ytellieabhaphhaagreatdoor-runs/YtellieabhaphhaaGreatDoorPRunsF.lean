import Derived.Test.YtellieabhaphhaaGreatDoorPRunsE
/-
  narrow's reader: a node of a graph.
-/
namespace Go.Proofs.YtellieabhaphhaaGreatDoor
open Go.RowKit

theorem nassign_c (r i : Nat) (x : Int) (s : ByteArray) (rest : List Value) (T : TypeId) (w : World) (hs : s.size ≤ 1000) (hi : i ≤ s.size)
    (h : NR w r s (i, false) rest T) :
    Calls Tryz.prog 175 #[.pointer (some ⟨r, 0, none⟩), .int .i64 x] w fun e w' => e = .returned (.agg (assF s i x).1.cells.toArray) ∧ NR w' r s (assF s i x).2 rest T ∧ Kp (· = r) w w' := by
  by_cases h1 : 97 ≤ pk s i ∧ pk s i ≤ 102
  · exact nassign_var r i x s rest T w hs hi h h1
  by_cases h2 : bit (conV (pk s i)).k = 0
  · by_cases h3 : pk s i = 63
    · exact nassign_s63 r i x s rest T w hs hi h h3
    by_cases h4 : pk s i = 43
    · exact nassign_s43 r i x s rest T w hs hi h h4
    by_cases h5 : pk s i = 60
    · exact nassign_s60 r i x s rest T w hs hi h h5
    by_cases h6 : pk s i = 65
    · exact nassign_s65 r i x s rest T w hs hi h h6
    by_cases h7 : pk s i = 66
    · exact nassign_s66 r i x s rest T w hs hi h h7
    by_cases h8 : pk s i = 46
    · exact nassign_s46 r i x s rest T w hs hi h h8
    exact nassign_bad r i x s rest T w hs hi h ⟨h1, h2, by rw [asgA, if_neg h3, if_neg h4, if_neg h5, if_neg h6, if_neg h7, if_neg h8]⟩
  · exact nassign_con r i x s rest T w hs hi h h2

def chgF (s : ByteArray) (p : Nat × Bool) (x : Int) : NN × (Nat × Bool) :=
  if pkb s p = 61 then assF s (p.1 + 1) x
  else if pkb s p = 126 then ({ nn0 with act := 10, x := x, kd := bit (kindF s (p.1 + 1, false)).1 }, (kindF s (p.1 + 1, false)).2)
  else (nn0, (p.1, true))

set_option maxHeartbeats 1600000 in
theorem nchange_c (r i : Nat) (x : Int) (s : ByteArray) (bad : Bool) (rest : List Value) (T : TypeId) (w : World) (hs : s.size ≤ 1000) (hi : i ≤ s.size)
    (h : NR w r s (i, bad) rest T) :
    Calls Tryz.prog 150 #[.pointer (some ⟨r, 0, none⟩), .int .i64 x] w fun e w' => e = .returned (.agg (chgF s (i, bad) x).1.cells.toArray) ∧ NR w' r s (chgF s (i, bad) x).2 rest T ∧ Kp (· = r) w w' := by
  have HP := hide (fun W (hW : NR W r s (i, bad) rest T) => npeek_c r i s bad rest T W hs hi hW)
  have hr := h.lt
  obtain ⟨h0, h1, h2, hf⟩ := h.c
  have hb : Blk w r (.string s :: .int .i64 i :: .bool bad :: rest) T := h
  by_cases hc : pkb s (i, bad) = 61
  · have HV := hide (show chgF s (i, bad) x = assF s (i + 1) x by rw [chgF, if_pos hc])
    obtain ⟨rfl, hi1⟩ := pkb_good (by rw [hc]; decide)
    rw [hc] at HP
    have HK := hide (fun W (hW : NR W r s (i + 1, false) rest T) => nassign_c r (i + 1) x s rest T W hs hi1 hW)
    generalize assF s (i + 1) x = q at *
    obtain ⟨⟨g0, g1, g2, g3, g4, g5, g6, g7, g8, g9, g10⟩, q⟩ := q
    clear h hc
    unfold NN.cells at HK
    dsimp only at HK
    go_enter Tryz.func150, Tryz.ntmps150
    go_wp2_with (go_at_call 92; refine (HP.out _ (by (show Blk _ _ _ _); (repeat' (first | ((with_reducible show (_ : List Value) = _); rfl) | with_reducible exact hb | ((with_reducible refine Blk.newAt _ _ _ ?_); first | with_reducible rfl | (simp; done)) | with_reducible refine Blk.alloc ?_ _ | with_reducible refine Blk.drewN ?_ _ | with_reducible refine Blk.drew ?_ | ((with_reducible refine Blk.other ?_ _ ?_); rotate_left; ((try dsimp only); omega)) | with_reducible refine Blk.setB (cs0 := ?_) ?_ ?_)))).mono ?_; rintro e w' ⟨rfl, n, rfl⟩)
    refine (HK.out _ (by (show Blk _ _ _ _); (repeat' (first | ((with_reducible show (_ : List Value) = _); rfl) | with_reducible exact hb | ((with_reducible refine Blk.newAt _ _ _ ?_); first | with_reducible rfl | (simp; done)) | with_reducible refine Blk.alloc ?_ _ | with_reducible refine Blk.drewN ?_ _ | with_reducible refine Blk.drew ?_ | ((with_reducible refine Blk.other ?_ _ ?_); rotate_left; ((try dsimp only); omega)) | with_reducible refine Blk.setB (cs0 := ?_) ?_ ?_)))).mono ?_
    rintro e w1 ⟨rfl, hNw1, kw1⟩
    have hbw1 : Blk w1 r (.string s :: .int .i64 q.1 :: .bool q.2 :: rest) T := hNw1
    have hrw1 := hbw1.lt
    have hR1 : Blk w1 w.heap.size [.string ⟨#[]⟩, .int .i64 0, .int .i64 0, .int .i64 0, .int .i64 0, .int .i64 0, .int .i64 0, .int .i64 0, .int .i64 0, .int .i64 0, .int .i64 0] 91 := kw1.blk (by (repeat' (first | ((with_reducible show (_ : List Value) = _); rfl) | with_reducible exact hb | ((with_reducible refine Blk.newAt _ _ _ ?_); first | with_reducible rfl | (simp; done)) | with_reducible refine Blk.alloc ?_ _ | with_reducible refine Blk.drewN ?_ _ | with_reducible refine Blk.drew ?_ | ((with_reducible refine Blk.other ?_ _ ?_); rotate_left; ((try dsimp only); omega)) | with_reducible refine Blk.setB (cs0 := ?_) ?_ ?_))) (by omega)
    obtain ⟨z1_0, z1_1, z1_2, z1_3, z1_4, z1_5, z1_6, z1_7, z1_8, z1_9, z1_10, zf1⟩ := hR1.c11
    have hz1 := hR1.lt
    go_wp2
    refine body_agg (Tb := 91) (b := w.heap.size) (cs := [.string g0, .int .i64 g1, .int .i64 g2, .int .i64 g3, .int .i64 g4, .int .i64 g5, .int .i64 g6, .int .i64 g7, .int .i64 g8, .int .i64 g9, .int .i64 g10]) (.inr rfl) Tryz.results150 rfl rfl (by (repeat' (first | ((with_reducible show (_ : List Value) = _); rfl) | with_reducible exact hR1 | ((with_reducible refine Blk.newAt _ _ _ ?_); first | with_reducible rfl | (simp; done)) | with_reducible refine Blk.alloc ?_ _ | with_reducible refine Blk.drewN ?_ _ | with_reducible refine Blk.drew ?_ | ((with_reducible refine Blk.other ?_ _ ?_); rotate_left; ((try dsimp only); omega)) | with_reducible refine Blk.setB (cs0 := ?_) ?_ ?_))) Tryz.underlying91 rfl (by kernel_rfl) ?_
    rw [HV.out]
    exact ⟨rfl, by (show Blk _ _ _ _); (repeat' (first | ((with_reducible show (_ : List Value) = _); rfl) | with_reducible exact hbw1 | ((with_reducible refine Blk.newAt _ _ _ ?_); first | with_reducible rfl | (simp; done)) | with_reducible refine Blk.alloc ?_ _ | with_reducible refine Blk.drewN ?_ _ | with_reducible refine Blk.drew ?_ | ((with_reducible refine Blk.other ?_ _ ?_); rotate_left; ((try dsimp only); omega)) | with_reducible refine Blk.setB (cs0 := ?_) ?_ ?_)), by (repeat' (first | with_reducible exact Kp.refl _ _ | with_reducible refine Kp.alloc ?_ _ | with_reducible refine Kp.drewN ?_ _ | with_reducible refine Kp.drew ?_ | with_reducible refine Kp.setCell ?_ _ ?_ | with_reducible refine Kp.trans ?_ kw1 (fun _ _ e => e) | (intro hh; first | rfl | exact .inl rfl | exact .inr rfl | (exfalso; (try dsimp only at hh); omega))))⟩
  by_cases hc2 : pkb s (i, bad) = 126
  · have HV := hide (show chgF s (i, bad) x = ({ nn0 with act := 10, x := x, kd := bit (kindF s (i + 1, false)).1 }, (kindF s (i + 1, false)).2) by rw [chgF, if_neg hc, if_pos hc2])
    obtain ⟨rfl, hi1⟩ := pkb_good (by rw [hc2]; decide)
    rw [hc2] at HP
    have HK := hide (fun W (hW : NR W r s (i + 1, false) rest T) => nkind_c r (i + 1) s false rest T W hs hi1 hW)
    generalize kindF s (i + 1, false) = q at *
    obtain ⟨k, q⟩ := q
    clear h hc hc2
    go_enter Tryz.func150, Tryz.ntmps150
    go_wp2_with (go_at_call 92; refine (HP.out _ (by (show Blk _ _ _ _); (repeat' (first | ((with_reducible show (_ : List Value) = _); rfl) | with_reducible exact hb | ((with_reducible refine Blk.newAt _ _ _ ?_); first | with_reducible rfl | (simp; done)) | with_reducible refine Blk.alloc ?_ _ | with_reducible refine Blk.drewN ?_ _ | with_reducible refine Blk.drew ?_ | ((with_reducible refine Blk.other ?_ _ ?_); rotate_left; ((try dsimp only); omega)) | with_reducible refine Blk.setB (cs0 := ?_) ?_ ?_)))).mono ?_; rintro e w' ⟨rfl, n, rfl⟩)
    refine (HK.out _ (by (show Blk _ _ _ _); (repeat' (first | ((with_reducible show (_ : List Value) = _); rfl) | with_reducible exact hb | ((with_reducible refine Blk.newAt _ _ _ ?_); first | with_reducible rfl | (simp; done)) | with_reducible refine Blk.alloc ?_ _ | with_reducible refine Blk.drewN ?_ _ | with_reducible refine Blk.drew ?_ | ((with_reducible refine Blk.other ?_ _ ?_); rotate_left; ((try dsimp only); omega)) | with_reducible refine Blk.setB (cs0 := ?_) ?_ ?_)))).mono ?_
    rintro e w1 ⟨rfl, hNw1, kw1⟩
    have hbw1 : Blk w1 r (.string s :: .int .i64 q.1 :: .bool q.2 :: rest) T := hNw1
    have hrw1 := hbw1.lt
    have hR1 : Blk w1 w.heap.size [.string ⟨#[]⟩, .int .i64 0, .int .i64 0, .int .i64 0, .int .i64 0, .int .i64 0, .int .i64 0, .int .i64 0, .int .i64 0, .int .i64 0, .int .i64 0] 91 := kw1.blk (by (repeat' (first | ((with_reducible show (_ : List Value) = _); rfl) | with_reducible exact hb | ((with_reducible refine Blk.newAt _ _ _ ?_); first | with_reducible rfl | (simp; done)) | with_reducible refine Blk.alloc ?_ _ | with_reducible refine Blk.drewN ?_ _ | with_reducible refine Blk.drew ?_ | ((with_reducible refine Blk.other ?_ _ ?_); rotate_left; ((try dsimp only); omega)) | with_reducible refine Blk.setB (cs0 := ?_) ?_ ?_))) (by omega)
    obtain ⟨z1_0, z1_1, z1_2, z1_3, z1_4, z1_5, z1_6, z1_7, z1_8, z1_9, z1_10, zf1⟩ := hR1.c11
    have hz1 := hR1.lt
    go_wp2
    refine body_agg (Tb := 91) (b := w.heap.size) (cs := [.string ⟨#[]⟩, .int .i64 10, .int .i64 x, .int .i64 0, .int .i64 0, .int .i64 0, .int .i64 0, .int .i64 0, .int .i64 (bit k), .int .i64 0, .int .i64 0]) (.inr rfl) Tryz.results150 rfl rfl (by (repeat' (first | ((with_reducible show (_ : List Value) = _); rfl) | with_reducible exact hR1 | ((with_reducible refine Blk.newAt _ _ _ ?_); first | with_reducible rfl | (simp; done)) | with_reducible refine Blk.alloc ?_ _ | with_reducible refine Blk.drewN ?_ _ | with_reducible refine Blk.drew ?_ | ((with_reducible refine Blk.other ?_ _ ?_); rotate_left; ((try dsimp only); omega)) | with_reducible refine Blk.setB (cs0 := ?_) ?_ ?_))) Tryz.underlying91 rfl (by kernel_rfl) ?_
    rw [HV.out]
    exact ⟨rfl, by (show Blk _ _ _ _); (repeat' (first | ((with_reducible show (_ : List Value) = _); rfl) | with_reducible exact hbw1 | ((with_reducible refine Blk.newAt _ _ _ ?_); first | with_reducible rfl | (simp; done)) | with_reducible refine Blk.alloc ?_ _ | with_reducible refine Blk.drewN ?_ _ | with_reducible refine Blk.drew ?_ | ((with_reducible refine Blk.other ?_ _ ?_); rotate_left; ((try dsimp only); omega)) | with_reducible refine Blk.setB (cs0 := ?_) ?_ ?_)), by (repeat' (first | with_reducible exact Kp.refl _ _ | with_reducible refine Kp.alloc ?_ _ | with_reducible refine Kp.drewN ?_ _ | with_reducible refine Kp.drew ?_ | with_reducible refine Kp.setCell ?_ _ ?_ | with_reducible refine Kp.trans ?_ kw1 (fun _ _ e => e) | (intro hh; first | rfl | exact .inl rfl | exact .inr rfl | (exfalso; (try dsimp only at hh); omega))))⟩
  · have HV := hide (show chgF s (i, bad) x = (nn0, (i, true)) by rw [chgF, if_neg hc, if_neg hc2])
    have f61 : ((pkb s (i, bad) : Int) == 61) = false := by simp; omega
    have f126 : ((pkb s (i, bad) : Int) == 126) = false := by simp; omega
    generalize pkb s (i, bad) = d at *
    clear h hc hc2
    go_enter Tryz.func150, Tryz.ntmps150
    go_wp2_with (go_at_call 92; refine (HP.out _ (by (show Blk _ _ _ _); (repeat' (first | ((with_reducible show (_ : List Value) = _); rfl) | with_reducible exact hb | ((with_reducible refine Blk.newAt _ _ _ ?_); first | with_reducible rfl | (simp; done)) | with_reducible refine Blk.alloc ?_ _ | with_reducible refine Blk.drewN ?_ _ | with_reducible refine Blk.drew ?_ | ((with_reducible refine Blk.other ?_ _ ?_); rotate_left; ((try dsimp only); omega)) | with_reducible refine Blk.setB (cs0 := ?_) ?_ ?_)))).mono ?_; rintro e w' ⟨rfl, n, rfl⟩)
    refine body_agg (Tb := 91) (b := w.heap.size) (cs := [.string ⟨#[]⟩, .int .i64 0, .int .i64 0, .int .i64 0, .int .i64 0, .int .i64 0, .int .i64 0, .int .i64 0, .int .i64 0, .int .i64 0, .int .i64 0]) (.inr rfl) Tryz.results150 rfl rfl (by (repeat' (first | ((with_reducible show (_ : List Value) = _); rfl) | ((with_reducible refine Blk.newAt _ _ _ ?_); first | with_reducible rfl | (simp; done)) | with_reducible refine Blk.alloc ?_ _ | with_reducible refine Blk.drewN ?_ _ | with_reducible refine Blk.drew ?_ | ((with_reducible refine Blk.other ?_ _ ?_); rotate_left; ((try dsimp only); omega)) | with_reducible refine Blk.setB (cs0 := ?_) ?_ ?_))) Tryz.underlying91 rfl (by kernel_rfl) ?_
    rw [HV.out]
    exact ⟨rfl, by (show Blk _ _ _ _); (repeat' (first | ((with_reducible show (_ : List Value) = _); rfl) | with_reducible exact hb | ((with_reducible refine Blk.newAt _ _ _ ?_); first | with_reducible rfl | (simp; done)) | with_reducible refine Blk.alloc ?_ _ | with_reducible refine Blk.drewN ?_ _ | with_reducible refine Blk.drew ?_ | ((with_reducible refine Blk.other ?_ _ ?_); rotate_left; ((try dsimp only); omega)) | with_reducible refine Blk.setB (cs0 := ?_) ?_ ?_)), by (repeat' (first | with_reducible exact Kp.refl _ _ | with_reducible refine Kp.alloc ?_ _ | with_reducible refine Kp.drewN ?_ _ | with_reducible refine Kp.drew ?_ | with_reducible refine Kp.setCell ?_ _ ?_ | (intro hh; first | rfl | exact .inl rfl | exact .inr rfl | (exfalso; (try dsimp only at hh); omega))))⟩

def nacF (s : ByteArray) (p : Nat × Bool) : NN × (Nat × Bool) :=
  if pkb s p = 94 then ({ nn0 with act := 9, y := (varF s (p.1 + 1, false)).1, w := (varF s (p.1 + 1, false)).1 }, (varF s (p.1 + 1, false)).2)
  else if pkb s p = 33 then ({ nn0 with act := 11 }, (p.1 + 1, false))
  else chgF s (varF s p).2 (varF s p).1

set_option maxHeartbeats 1600000 in
theorem naction_c (r i : Nat) (s : ByteArray) (bad : Bool) (rest : List Value) (T : TypeId) (w : World) (hs : s.size ≤ 1000) (hi : i ≤ s.size)
    (h : NR w r s (i, bad) rest T) :
    Calls Tryz.prog 138 #[.pointer (some ⟨r, 0, none⟩)] w fun e w' => e = .returned (.agg (nacF s (i, bad)).1.cells.toArray) ∧ NR w' r s (nacF s (i, bad)).2 rest T ∧ Kp (· = r) w w' := by
  have HP := hide (fun W (hW : NR W r s (i, bad) rest T) => npeek_c r i s bad rest T W hs hi hW)
  have hr := h.lt
  obtain ⟨h0, h1, h2, hf⟩ := h.c
  have hb : Blk w r (.string s :: .int .i64 i :: .bool bad :: rest) T := h
  by_cases hc : pkb s (i, bad) = 94
  · have HV := hide (show nacF s (i, bad) = ({ nn0 with act := 9, y := (varF s (i + 1, false)).1, w := (varF s (i + 1, false)).1 }, (varF s (i + 1, false)).2) by rw [nacF, if_pos hc])
    obtain ⟨rfl, hi1⟩ := pkb_good (by rw [hc]; decide)
    rw [hc] at HP
    have HK := hide (fun W (hW : NR W r s (i + 1, false) rest T) => nvariable_c r (i + 1) s false rest T W hs hi1 hW)
    generalize varF s (i + 1, false) = q at *
    obtain ⟨k, q⟩ := q
    clear h hc
    go_enter Tryz.func138, Tryz.ntmps138
    go_wp2_with (go_at_call 92; refine (HP.out _ (by (show Blk _ _ _ _); (repeat' (first | ((with_reducible show (_ : List Value) = _); rfl) | with_reducible exact hb | ((with_reducible refine Blk.newAt _ _ _ ?_); first | with_reducible rfl | (simp; done)) | with_reducible refine Blk.alloc ?_ _ | with_reducible refine Blk.drewN ?_ _ | with_reducible refine Blk.drew ?_ | ((with_reducible refine Blk.other ?_ _ ?_); rotate_left; ((try dsimp only); omega)) | with_reducible refine Blk.setB (cs0 := ?_) ?_ ?_)))).mono ?_; rintro e w' ⟨rfl, n, rfl⟩)
    refine (HK.out _ (by (show Blk _ _ _ _); (repeat' (first | ((with_reducible show (_ : List Value) = _); rfl) | with_reducible exact hb | ((with_reducible refine Blk.newAt _ _ _ ?_); first | with_reducible rfl | (simp; done)) | with_reducible refine Blk.alloc ?_ _ | with_reducible refine Blk.drewN ?_ _ | with_reducible refine Blk.drew ?_ | ((with_reducible refine Blk.other ?_ _ ?_); rotate_left; ((try dsimp only); omega)) | with_reducible refine Blk.setB (cs0 := ?_) ?_ ?_)))).mono ?_
    rintro e w1 ⟨rfl, hNw1, kw1⟩
    have hbw1 : Blk w1 r (.string s :: .int .i64 q.1 :: .bool q.2 :: rest) T := hNw1
    have hrw1 := hbw1.lt
    have hR1 : Blk w1 w.heap.size [.string ⟨#[]⟩, .int .i64 0, .int .i64 0, .int .i64 0, .int .i64 0, .int .i64 0, .int .i64 0, .int .i64 0, .int .i64 0, .int .i64 0, .int .i64 0] 91 := kw1.blk (by (repeat' (first | ((with_reducible show (_ : List Value) = _); rfl) | with_reducible exact hb | ((with_reducible refine Blk.newAt _ _ _ ?_); first | with_reducible rfl | (simp; done)) | with_reducible refine Blk.alloc ?_ _ | with_reducible refine Blk.drewN ?_ _ | with_reducible refine Blk.drew ?_ | ((with_reducible refine Blk.other ?_ _ ?_); rotate_left; ((try dsimp only); omega)) | with_reducible refine Blk.setB (cs0 := ?_) ?_ ?_))) (by omega)
    obtain ⟨z1_0, z1_1, z1_2, z1_3, z1_4, z1_5, z1_6, z1_7, z1_8, z1_9, z1_10, zf1⟩ := hR1.c11
    have hz1 := hR1.lt
    go_wp2
    refine body_agg (Tb := 91) (b := w.heap.size) (cs := [.string ⟨#[]⟩, .int .i64 9, .int .i64 0, .int .i64 k, .int .i64 k, .int .i64 0, .int .i64 0, .int .i64 0, .int .i64 0, .int .i64 0, .int .i64 0]) (.inr rfl) Tryz.results138 rfl rfl (by (repeat' (first | ((with_reducible show (_ : List Value) = _); rfl) | with_reducible exact hR1 | ((with_reducible refine Blk.newAt _ _ _ ?_); first | with_reducible rfl | (simp; done)) | with_reducible refine Blk.alloc ?_ _ | with_reducible refine Blk.drewN ?_ _ | with_reducible refine Blk.drew ?_ | ((with_reducible refine Blk.other ?_ _ ?_); rotate_left; ((try dsimp only); omega)) | with_reducible refine Blk.setB (cs0 := ?_) ?_ ?_))) Tryz.underlying91 rfl (by kernel_rfl) ?_
    rw [HV.out]
    exact ⟨rfl, by (show Blk _ _ _ _); (repeat' (first | ((with_reducible show (_ : List Value) = _); rfl) | with_reducible exact hbw1 | ((with_reducible refine Blk.newAt _ _ _ ?_); first | with_reducible rfl | (simp; done)) | with_reducible refine Blk.alloc ?_ _ | with_reducible refine Blk.drewN ?_ _ | with_reducible refine Blk.drew ?_ | ((with_reducible refine Blk.other ?_ _ ?_); rotate_left; ((try dsimp only); omega)) | with_reducible refine Blk.setB (cs0 := ?_) ?_ ?_)), by (repeat' (first | with_reducible exact Kp.refl _ _ | with_reducible refine Kp.alloc ?_ _ | with_reducible refine Kp.drewN ?_ _ | with_reducible refine Kp.drew ?_ | with_reducible refine Kp.setCell ?_ _ ?_ | with_reducible refine Kp.trans ?_ kw1 (fun _ _ e => e) | (intro hh; first | rfl | exact .inl rfl | exact .inr rfl | (exfalso; (try dsimp only at hh); omega))))⟩
  by_cases hc2 : pkb s (i, bad) = 33
  · have HV := hide (show nacF s (i, bad) = ({ nn0 with act := 11 }, (i + 1, false)) by rw [nacF, if_neg hc, if_pos hc2])
    obtain ⟨rfl, hi1⟩ := pkb_good (by rw [hc2]; decide)
    rw [hc2] at HP
    clear h hc hc2
    go_enter Tryz.func138, Tryz.ntmps138
    go_wp2_with (go_at_call 92; refine (HP.out _ (by (show Blk _ _ _ _); (repeat' (first | ((with_reducible show (_ : List Value) = _); rfl) | with_reducible exact hb | ((with_reducible refine Blk.newAt _ _ _ ?_); first | with_reducible rfl | (simp; done)) | with_reducible refine Blk.alloc ?_ _ | with_reducible refine Blk.drewN ?_ _ | with_reducible refine Blk.drew ?_ | ((with_reducible refine Blk.other ?_ _ ?_); rotate_left; ((try dsimp only); omega)) | with_reducible refine Blk.setB (cs0 := ?_) ?_ ?_)))).mono ?_; rintro e w' ⟨rfl, n, rfl⟩)
    refine body_agg (Tb := 91) (b := w.heap.size) (cs := [.string ⟨#[]⟩, .int .i64 11, .int .i64 0, .int .i64 0, .int .i64 0, .int .i64 0, .int .i64 0, .int .i64 0, .int .i64 0, .int .i64 0, .int .i64 0]) (.inr rfl) Tryz.results138 rfl rfl (by (repeat' (first | ((with_reducible show (_ : List Value) = _); rfl) | ((with_reducible refine Blk.newAt _ _ _ ?_); first | with_reducible rfl | (simp; done)) | with_reducible refine Blk.alloc ?_ _ | with_reducible refine Blk.drewN ?_ _ | with_reducible refine Blk.drew ?_ | ((with_reducible refine Blk.other ?_ _ ?_); rotate_left; ((try dsimp only); omega)) | with_reducible refine Blk.setB (cs0 := ?_) ?_ ?_))) Tryz.underlying91 rfl (by kernel_rfl) ?_
    rw [HV.out]
    exact ⟨rfl, by (show Blk _ _ _ _); (repeat' (first | ((with_reducible show (_ : List Value) = _); rfl) | with_reducible exact hb | ((with_reducible refine Blk.newAt _ _ _ ?_); first | with_reducible rfl | (simp; done)) | with_reducible refine Blk.alloc ?_ _ | with_reducible refine Blk.drewN ?_ _ | with_reducible refine Blk.drew ?_ | ((with_reducible refine Blk.other ?_ _ ?_); rotate_left; ((try dsimp only); omega)) | with_reducible refine Blk.setB (cs0 := ?_) ?_ ?_)), by (repeat' (first | with_reducible exact Kp.refl _ _ | with_reducible refine Kp.alloc ?_ _ | with_reducible refine Kp.drewN ?_ _ | with_reducible refine Kp.drew ?_ | with_reducible refine Kp.setCell ?_ _ ?_ | (intro hh; first | rfl | exact .inl rfl | exact .inr rfl | (exfalso; (try dsimp only at hh); omega))))⟩
  · have HV := hide (show nacF s (i, bad) = chgF s (varF s (i, bad)).2 (varF s (i, bad)).1 by rw [nacF, if_neg hc, if_neg hc2])
    have f94 : ((pkb s (i, bad) : Int) == 94) = false := by simp; omega
    have f33 : ((pkb s (i, bad) : Int) == 33) = false := by simp; omega
    have HK := hide (fun W (hW : NR W r s (i, bad) rest T) => nvariable_c r i s bad rest T W hs hi hW)
    have hq := varF_le s (i, bad) hi
    generalize pkb s (i, bad) = d at *
    have HK2 := hide (fun W (hW : NR W r s (varF s (i, bad)).2 rest T) => nchange_c r (varF s (i, bad)).2.1 (varF s (i, bad)).1 s (varF s (i, bad)).2.2 rest T W hs hq hW)
    generalize varF s (i, bad) = q at *
    obtain ⟨k, q⟩ := q
    dsimp only at HK2 HV HK
    rw [show (q.1, q.2) = q from rfl] at HK2
    generalize chgF s q k = q2 at *
    obtain ⟨⟨g0, g1, g2, g3, g4, g5, g6, g7, g8, g9, g10⟩, q2⟩ := q2
    clear h hc hc2
    unfold NN.cells at HK2
    dsimp only at HK2
    go_enter Tryz.func138, Tryz.ntmps138
    go_wp2_with (go_at_call 92; refine (HP.out _ (by (show Blk _ _ _ _); (repeat' (first | ((with_reducible show (_ : List Value) = _); rfl) | with_reducible exact hb | ((with_reducible refine Blk.newAt _ _ _ ?_); first | with_reducible rfl | (simp; done)) | with_reducible refine Blk.alloc ?_ _ | with_reducible refine Blk.drewN ?_ _ | with_reducible refine Blk.drew ?_ | ((with_reducible refine Blk.other ?_ _ ?_); rotate_left; ((try dsimp only); omega)) | with_reducible refine Blk.setB (cs0 := ?_) ?_ ?_)))).mono ?_; rintro e w' ⟨rfl, n, rfl⟩)
    refine (HK.out _ (by (show Blk _ _ _ _); (repeat' (first | ((with_reducible show (_ : List Value) = _); rfl) | with_reducible exact hb | ((with_reducible refine Blk.newAt _ _ _ ?_); first | with_reducible rfl | (simp; done)) | with_reducible refine Blk.alloc ?_ _ | with_reducible refine Blk.drewN ?_ _ | with_reducible refine Blk.drew ?_ | ((with_reducible refine Blk.other ?_ _ ?_); rotate_left; ((try dsimp only); omega)) | with_reducible refine Blk.setB (cs0 := ?_) ?_ ?_)))).mono ?_
    rintro e w1 ⟨rfl, hNw1, kw1⟩
    have hbw1 : Blk w1 r (.string s :: .int .i64 q.1 :: .bool q.2 :: rest) T := hNw1
    have hrw1 := hbw1.lt
    have hR1 : Blk w1 w.heap.size [.string ⟨#[]⟩, .int .i64 0, .int .i64 0, .int .i64 0, .int .i64 0, .int .i64 0, .int .i64 0, .int .i64 0, .int .i64 0, .int .i64 0, .int .i64 0] 91 := kw1.blk (by (repeat' (first | ((with_reducible show (_ : List Value) = _); rfl) | with_reducible exact hb | ((with_reducible refine Blk.newAt _ _ _ ?_); first | with_reducible rfl | (simp; done)) | with_reducible refine Blk.alloc ?_ _ | with_reducible refine Blk.drewN ?_ _ | with_reducible refine Blk.drew ?_ | ((with_reducible refine Blk.other ?_ _ ?_); rotate_left; ((try dsimp only); omega)) | with_reducible refine Blk.setB (cs0 := ?_) ?_ ?_))) (by omega)
    obtain ⟨z1_0, z1_1, z1_2, z1_3, z1_4, z1_5, z1_6, z1_7, z1_8, z1_9, z1_10, zf1⟩ := hR1.c11
    have hz1 := hR1.lt
    go_wp2_with fail
    refine (HK2.out _ (by (show Blk _ _ _ _); (repeat' (first | ((with_reducible show (_ : List Value) = _); rfl) | with_reducible exact hbw1 | ((with_reducible refine Blk.newAt _ _ _ ?_); first | with_reducible rfl | (simp; done)) | with_reducible refine Blk.alloc ?_ _ | with_reducible refine Blk.drewN ?_ _ | with_reducible refine Blk.drew ?_ | ((with_reducible refine Blk.other ?_ _ ?_); rotate_left; ((try dsimp only); omega)) | with_reducible refine Blk.setB (cs0 := ?_) ?_ ?_)))).mono ?_
    rintro e w2 ⟨rfl, hNw2, kw2⟩
    have hbw2 : Blk w2 r (.string s :: .int .i64 q2.1 :: .bool q2.2 :: rest) T := hNw2
    have hrw2 := hbw2.lt
    have hR2 : Blk w2 w.heap.size [.string ⟨#[]⟩, .int .i64 0, .int .i64 0, .int .i64 0, .int .i64 0, .int .i64 0, .int .i64 0, .int .i64 0, .int .i64 0, .int .i64 0, .int .i64 0] 91 := kw2.blk (by (repeat' (first | ((with_reducible show (_ : List Value) = _); rfl) | with_reducible exact hR1 | ((with_reducible refine Blk.newAt _ _ _ ?_); first | with_reducible rfl | (simp; done)) | with_reducible refine Blk.alloc ?_ _ | with_reducible refine Blk.drewN ?_ _ | with_reducible refine Blk.drew ?_ | ((with_reducible refine Blk.other ?_ _ ?_); rotate_left; ((try dsimp only); omega)) | with_reducible refine Blk.setB (cs0 := ?_) ?_ ?_))) (by omega)
    obtain ⟨z2_0, z2_1, z2_2, z2_3, z2_4, z2_5, z2_6, z2_7, z2_8, z2_9, z2_10, zf2⟩ := hR2.c11
    have hz2 := hR2.lt
    go_wp2
    refine body_agg (Tb := 91) (b := w.heap.size) (cs := [.string g0, .int .i64 g1, .int .i64 g2, .int .i64 g3, .int .i64 g4, .int .i64 g5, .int .i64 g6, .int .i64 g7, .int .i64 g8, .int .i64 g9, .int .i64 g10]) (.inr rfl) Tryz.results138 rfl rfl (by (repeat' (first | ((with_reducible show (_ : List Value) = _); rfl) | with_reducible exact hR2 | ((with_reducible refine Blk.newAt _ _ _ ?_); first | with_reducible rfl | (simp; done)) | with_reducible refine Blk.alloc ?_ _ | with_reducible refine Blk.drewN ?_ _ | with_reducible refine Blk.drew ?_ | ((with_reducible refine Blk.other ?_ _ ?_); rotate_left; ((try dsimp only); omega)) | with_reducible refine Blk.setB (cs0 := ?_) ?_ ?_))) Tryz.underlying91 rfl (by kernel_rfl) ?_
    rw [HV.out]
    exact ⟨rfl, by (show Blk _ _ _ _); (repeat' (first | ((with_reducible show (_ : List Value) = _); rfl) | with_reducible exact hbw2 | ((with_reducible refine Blk.newAt _ _ _ ?_); first | with_reducible rfl | (simp; done)) | with_reducible refine Blk.alloc ?_ _ | with_reducible refine Blk.drewN ?_ _ | with_reducible refine Blk.drew ?_ | ((with_reducible refine Blk.other ?_ _ ?_); rotate_left; ((try dsimp only); omega)) | with_reducible refine Blk.setB (cs0 := ?_) ?_ ?_)), by (repeat' (first | with_reducible exact Kp.refl _ _ | with_reducible refine Kp.alloc ?_ _ | with_reducible refine Kp.drewN ?_ _ | with_reducible refine Kp.drew ?_ | with_reducible refine Kp.setCell ?_ _ ?_ | with_reducible refine Kp.trans ?_ kw1 (fun _ _ e => e) | with_reducible refine Kp.trans ?_ kw2 (fun _ _ e => e) | (intro hh; first | rfl | exact .inl rfl | exact .inr rfl | (exfalso; (try dsimp only at hh); omega))))⟩

end Go.Proofs.YtellieabhaphhaaGreatDoor

/-
  narrowref's reader: the walk of a line.
-/
namespace Go.Proofs.YtellieabhaphhaaGreatDoor
open Go.RowKit

/-- A block that is not the reader's stays. -/
theorem Th.blk {O O' : Nat → Prop} {w w' : World} (h : Th O w O' w') {b : Nat} {cs : List Value} {T : TypeId} (k : Blk w b cs T) (hb : ¬ O b) : Blk w' b cs T ∧ ¬ O' b :=
  ⟨h.1.blk k hb, fun e => hb (h.2 b e k.lt)⟩

end Go.Proofs.YtellieabhaphhaaGreatDoor

/-
  narrowref's machine: values.
-/
namespace Go.Proofs.YtellieabhaphhaaGreatDoor
open Go.RowKit

def partF (y : Vl) : Vl := if y.k = 65 then ⟨110, y.n, 0⟩ else ⟨y.v, 0, 0⟩

set_option maxHeartbeats 800000 in
theorem part_c (y : Vl) (w : World) :
    Calls Tryz.prog 164 #[.agg #[.int .u8 y.k, .int .i64 y.n, .int .u8 y.v]] w fun e w' => e = .returned (.agg (partF y).cells.toArray) ∧ Kp no w w' := by
  by_cases h : y.k = 65
  · have HV := hide (show partF y = ⟨110, y.n, 0⟩ by simp [partF, h])
    rw [h]
    go_enter Tryz.func164, Tryz.ntmps164
    go_wp2
    refine body_agg (Tb := 163) (b := w.heap.size + 1) (cs := [.int .u8 110, .int .i64 y.n, .int .u8 0]) (.inr rfl) Tryz.results164 rfl rfl (by (repeat' (first | ((with_reducible show (_ : List Value) = _); rfl) | ((with_reducible refine Blk.newAt _ _ _ ?_); first | with_reducible rfl | (simp; done)) | with_reducible refine Blk.alloc ?_ _ | with_reducible refine Blk.drewN ?_ _ | with_reducible refine Blk.drew ?_ | ((with_reducible refine Blk.other ?_ _ ?_); rotate_left; ((try dsimp only); omega)) | with_reducible refine Blk.setB (cs0 := ?_) ?_ ?_))) Tryz.underlying163 rfl (by kernel_rfl) ?_
    rw [HV.out]
    exact ⟨rfl, by (repeat' (first | with_reducible exact Kp.refl _ _ | with_reducible refine Kp.alloc ?_ _ | with_reducible refine Kp.drewN ?_ _ | with_reducible refine Kp.drew ?_ | with_reducible refine Kp.setCell ?_ _ ?_ | (intro hh; first | rfl | exact .inl rfl | exact .inr rfl | (exfalso; (try dsimp only at hh); omega))))⟩
  · have HV := hide (show partF y = ⟨y.v, 0, 0⟩ by simp [partF, h])
    have h' : (y.k == 65) = false := by simp [h]
    go_enter Tryz.func164, Tryz.ntmps164
    go_wp2
    refine body_agg (Tb := 163) (b := w.heap.size + 1) (cs := [.int .u8 y.v, .int .i64 0, .int .u8 0]) (.inr rfl) Tryz.results164 rfl rfl (by (repeat' (first | ((with_reducible show (_ : List Value) = _); rfl) | ((with_reducible refine Blk.newAt _ _ _ ?_); first | with_reducible rfl | (simp; done)) | with_reducible refine Blk.alloc ?_ _ | with_reducible refine Blk.drewN ?_ _ | with_reducible refine Blk.drew ?_ | ((with_reducible refine Blk.other ?_ _ ?_); rotate_left; ((try dsimp only); omega)) | with_reducible refine Blk.setB (cs0 := ?_) ?_ ?_))) Tryz.underlying163 rfl (by kernel_rfl) ?_
    rw [HV.out]
    exact ⟨rfl, by (repeat' (first | with_reducible exact Kp.refl _ _ | with_reducible refine Kp.alloc ?_ _ | with_reducible refine Kp.drewN ?_ _ | with_reducible refine Kp.drew ?_ | with_reducible refine Kp.setCell ?_ _ ?_ | (intro hh; first | rfl | exact .inl rfl | exact .inr rfl | (exfalso; (try dsimp only at hh); omega))))⟩

def consF (n : Nd) : Vl :=
  if n.op = 48 then ⟨110, n.k - 48, 0⟩ else if n.op = 84 then ⟨116, 0, 0⟩ else if n.op = 70 then ⟨102, 0, 0⟩ else if n.op = 67 then ⟨67, 0, 0⟩ else ⟨122, 0, 0⟩

set_option maxHeartbeats 1600000 in
theorem constant_c (n : Nd) (w : World) (hk : n.op = 48 → 48 ≤ n.k ∧ n.k ≤ 57) :
    Calls Tryz.prog 165 #[.agg #[.int .u8 n.op, .int .i64 n.x, .int .i64 n.y, .int .i64 n.v, .int .u8 n.k, .int .i64 n.t, .int .i64 n.f, .int .i64 n.a, .int .i64 n.l]] w fun e w' =>
      e = .returned (.agg (consF n).cells.toArray) ∧ Kp no w w' := by
  obtain ⟨o, x, y, v, k, t, f, a, l⟩ := n
  dsimp only at *
  by_cases h1 : o = 48
  · have HV := hide (show consF ⟨o, x, y, v, k, t, f, a, l⟩ = ⟨110, k - 48, 0⟩ by simp [consF, h1])
    obtain ⟨g1, g2⟩ := hk h1
    subst h1
    clear hk
    go_enter Tryz.func165, Tryz.ntmps165
    go_wp2
    refine body_agg (Tb := 163) (b := w.heap.size + 1) (cs := [.int .u8 110, .int .i64 (k - 48), .int .u8 0]) (.inr rfl) Tryz.results165 rfl rfl (by (repeat' (first | ((with_reducible show (_ : List Value) = _); rfl) | ((with_reducible refine Blk.newAt _ _ _ ?_); first | with_reducible rfl | (simp; done)) | with_reducible refine Blk.alloc ?_ _ | with_reducible refine Blk.drewN ?_ _ | with_reducible refine Blk.drew ?_ | ((with_reducible refine Blk.other ?_ _ ?_); rotate_left; ((try dsimp only); omega)) | with_reducible refine Blk.setB (cs0 := ?_) ?_ ?_))) Tryz.underlying163 rfl (by kernel_rfl) ?_
    rw [HV.out]
    exact ⟨rfl, by (repeat' (first | with_reducible exact Kp.refl _ _ | with_reducible refine Kp.alloc ?_ _ | with_reducible refine Kp.drewN ?_ _ | with_reducible refine Kp.drew ?_ | with_reducible refine Kp.setCell ?_ _ ?_ | (intro hh; first | rfl | exact .inl rfl | exact .inr rfl | (exfalso; (try dsimp only at hh); omega))))⟩
  clear hk
  by_cases h2 : o = 84
  · have HV := hide (show consF ⟨o, x, y, v, k, t, f, a, l⟩ = ⟨116, 0, 0⟩ by simp [consF, h2])
    subst h2
    go_enter Tryz.func165, Tryz.ntmps165
    go_wp2
    refine body_agg (Tb := 163) (b := w.heap.size + 1) (cs := [.int .u8 116, .int .i64 0, .int .u8 0]) (.inr rfl) Tryz.results165 rfl rfl (by (repeat' (first | ((with_reducible show (_ : List Value) = _); rfl) | ((with_reducible refine Blk.newAt _ _ _ ?_); first | with_reducible rfl | (simp; done)) | with_reducible refine Blk.alloc ?_ _ | with_reducible refine Blk.drewN ?_ _ | with_reducible refine Blk.drew ?_ | ((with_reducible refine Blk.other ?_ _ ?_); rotate_left; ((try dsimp only); omega)) | with_reducible refine Blk.setB (cs0 := ?_) ?_ ?_))) Tryz.underlying163 rfl (by kernel_rfl) ?_
    rw [HV.out]
    exact ⟨rfl, by (repeat' (first | with_reducible exact Kp.refl _ _ | with_reducible refine Kp.alloc ?_ _ | with_reducible refine Kp.drewN ?_ _ | with_reducible refine Kp.drew ?_ | with_reducible refine Kp.setCell ?_ _ ?_ | (intro hh; first | rfl | exact .inl rfl | exact .inr rfl | (exfalso; (try dsimp only at hh); omega))))⟩
  by_cases h3 : o = 70
  · have HV := hide (show consF ⟨o, x, y, v, k, t, f, a, l⟩ = ⟨102, 0, 0⟩ by simp [consF, h3])
    subst h3
    go_enter Tryz.func165, Tryz.ntmps165
    go_wp2
    refine body_agg (Tb := 163) (b := w.heap.size + 1) (cs := [.int .u8 102, .int .i64 0, .int .u8 0]) (.inr rfl) Tryz.results165 rfl rfl (by (repeat' (first | ((with_reducible show (_ : List Value) = _); rfl) | ((with_reducible refine Blk.newAt _ _ _ ?_); first | with_reducible rfl | (simp; done)) | with_reducible refine Blk.alloc ?_ _ | with_reducible refine Blk.drewN ?_ _ | with_reducible refine Blk.drew ?_ | ((with_reducible refine Blk.other ?_ _ ?_); rotate_left; ((try dsimp only); omega)) | with_reducible refine Blk.setB (cs0 := ?_) ?_ ?_))) Tryz.underlying163 rfl (by kernel_rfl) ?_
    rw [HV.out]
    exact ⟨rfl, by (repeat' (first | with_reducible exact Kp.refl _ _ | with_reducible refine Kp.alloc ?_ _ | with_reducible refine Kp.drewN ?_ _ | with_reducible refine Kp.drew ?_ | with_reducible refine Kp.setCell ?_ _ ?_ | (intro hh; first | rfl | exact .inl rfl | exact .inr rfl | (exfalso; (try dsimp only at hh); omega))))⟩
  by_cases h4 : o = 67
  · have HV := hide (show consF ⟨o, x, y, v, k, t, f, a, l⟩ = ⟨67, 0, 0⟩ by simp [consF, h4])
    subst h4
    go_enter Tryz.func165, Tryz.ntmps165
    go_wp2
    refine body_agg (Tb := 163) (b := w.heap.size + 1) (cs := [.int .u8 67, .int .i64 0, .int .u8 0]) (.inr rfl) Tryz.results165 rfl rfl (by (repeat' (first | ((with_reducible show (_ : List Value) = _); rfl) | ((with_reducible refine Blk.newAt _ _ _ ?_); first | with_reducible rfl | (simp; done)) | with_reducible refine Blk.alloc ?_ _ | with_reducible refine Blk.drewN ?_ _ | with_reducible refine Blk.drew ?_ | ((with_reducible refine Blk.other ?_ _ ?_); rotate_left; ((try dsimp only); omega)) | with_reducible refine Blk.setB (cs0 := ?_) ?_ ?_))) Tryz.underlying163 rfl (by kernel_rfl) ?_
    rw [HV.out]
    exact ⟨rfl, by (repeat' (first | with_reducible exact Kp.refl _ _ | with_reducible refine Kp.alloc ?_ _ | with_reducible refine Kp.drewN ?_ _ | with_reducible refine Kp.drew ?_ | with_reducible refine Kp.setCell ?_ _ ?_ | (intro hh; first | rfl | exact .inl rfl | exact .inr rfl | (exfalso; (try dsimp only at hh); omega))))⟩
  · have HV := hide (show consF ⟨o, x, y, v, k, t, f, a, l⟩ = ⟨122, 0, 0⟩ by simp [consF, h1, h2, h3, h4])
    have g1 : (o == 48) = false := by simp [h1]
    have g2 : (o == 84) = false := by simp [h2]
    have g3 : (o == 70) = false := by simp [h3]
    have g4 : (o == 67) = false := by simp [h4]
    go_enter Tryz.func165, Tryz.ntmps165
    go_wp2
    refine body_agg (Tb := 163) (b := w.heap.size + 1) (cs := [.int .u8 122, .int .i64 0, .int .u8 0]) (.inr rfl) Tryz.results165 rfl rfl (by (repeat' (first | ((with_reducible show (_ : List Value) = _); rfl) | ((with_reducible refine Blk.newAt _ _ _ ?_); first | with_reducible rfl | (simp; done)) | with_reducible refine Blk.alloc ?_ _ | with_reducible refine Blk.drewN ?_ _ | with_reducible refine Blk.drew ?_ | ((with_reducible refine Blk.other ?_ _ ?_); rotate_left; ((try dsimp only); omega)) | with_reducible refine Blk.setB (cs0 := ?_) ?_ ?_))) Tryz.underlying163 rfl (by kernel_rfl) ?_
    rw [HV.out]
    exact ⟨rfl, by (repeat' (first | with_reducible exact Kp.refl _ _ | with_reducible refine Kp.alloc ?_ _ | with_reducible refine Kp.drewN ?_ _ | with_reducible refine Kp.drew ?_ | with_reducible refine Kp.setCell ?_ _ ?_ | (intro hh; first | rfl | exact .inl rfl | exact .inr rfl | (exfalso; (try dsimp only at hh); omega))))⟩

def holdF (n : Nd) (v : Vl) : Bool := if n.op = 58 then v.k == n.k else (v.k != 102 && v.k != 122 && (v.k != 110 || v.n != 0))

theorem MB.vu {w : World} {m lb : Nat} {inp : ByteArray} {st : Mc} (h : MB w m lb inp st) {i : Nat} {u : Vl} (hu : st.l[i]? = some u) :
    i < 6 ∧ w.cell? ⟨lb, i * 3, none⟩ = some (.int .u8 u.k) ∧ w.cell? ⟨lb, i * 3 + 1, none⟩ = some (.int .i64 u.n) ∧ w.cell? ⟨lb, i * 3 + 2, none⟩ = some (.int .u8 u.v) := by
  obtain ⟨hi, rfl⟩ := List.getElem?_eq_some_iff.1 hu
  exact ⟨by have := h.six; omega, h.vs i hi⟩

set_option maxHeartbeats 1600000 in
theorem holds_c {w : World} {m lb : Nat} {inp : ByteArray} {st : Mc} (n : Nd) (y : Nat) (u : Vl) (h : MB w m lb inp st) (hy : n.y = y) (hu : st.l[y]? = some u) :
    Calls Tryz.prog 86 #[.pointer (some ⟨m, 0, none⟩), .agg #[.int .u8 n.op, .int .i64 n.x, .int .i64 n.y, .int .i64 n.v, .int .u8 n.k, .int .i64 n.t, .int .i64 n.f, .int .i64 n.a, .int .i64 n.l]] w fun e w' =>
      e = .returned (.bool (holdF n u)) ∧ Kp no w w' := by
  obtain ⟨o, x, y', v, k, t, f, a, l⟩ := n
  dsimp only at *
  subst hy
  have hlt := h.lt
  obtain ⟨uk, un, uv⟩ := u
  go_enter Tryz.func86, Tryz.ntmps86
  go_wp2
  refine wp_gen (fun W => MB W m lb inp st ∧ Blk W w.heap.size [.int .u8 o, .int .i64 x, .int .i64 y, .int .i64 v, .int .u8 k, .int .i64 t, .int .i64 f, .int .i64 a, .int .i64 l] 63 ∧ Kp no w W) ⟨h.alloc _, by (repeat' (first | ((with_reducible show (_ : List Value) = _); rfl) | ((with_reducible refine Blk.newAt _ _ _ ?_); first | with_reducible rfl | (simp; done)) | with_reducible refine Blk.alloc ?_ _ | with_reducible refine Blk.drewN ?_ _ | with_reducible refine Blk.drew ?_ | ((with_reducible refine Blk.other ?_ _ ?_); rotate_left; ((try dsimp only); omega)) | with_reducible refine Blk.setB (cs0 := ?_) ?_ ?_)), by (repeat' (first | with_reducible exact Kp.refl _ _ | with_reducible refine Kp.alloc ?_ _ | with_reducible refine Kp.drewN ?_ _ | with_reducible refine Kp.drew ?_ | with_reducible refine Kp.setCell ?_ _ ?_ | (intro hh; first | rfl | exact .inl rfl | exact .inr rfl | (exfalso; (try dsimp only at hh); omega))))⟩ ?_
  rintro W ⟨hm, hN, hk⟩
  obtain ⟨d0, d1, d2, d3, d4, d5, d6, df⟩ := hm.c
  obtain ⟨hy6, v0, v1, v2⟩ := hm.vu hu
  obtain ⟨n0, n1, n2, n3, n4, n5, n6, n7, n8, nf⟩ := hN.c9
  have hz1 := hN.lt
  obtain ⟨hz2, hz3⟩ := hm.lt
  have HU := hide hu
  clear hu
  dsimp only at *
  by_cases ho : o = 58
  · have HV := hide (show holdF ⟨o, x, y, v, k, t, f, a, l⟩ ⟨uk, un, uv⟩ = (uk == k) by simp [holdF, ho])
    subst ho
    go_region
    go_wp2
    go_ret
    rw [HV.out]
    exact ⟨rfl, by (repeat' (first | with_reducible exact Kp.refl _ _ | with_reducible refine Kp.alloc ?_ _ | with_reducible refine Kp.drewN ?_ _ | with_reducible refine Kp.drew ?_ | with_reducible refine Kp.setCell ?_ _ ?_ | with_reducible refine Kp.trans ?_ hk (fun _ _ e => e) | (intro hh; first | rfl | exact .inl rfl | exact .inr rfl | (exfalso; (try dsimp only at hh); omega))))⟩
  · have HV := hide (show holdF ⟨o, x, y, v, k, t, f, a, l⟩ ⟨uk, un, uv⟩ = (uk != 102 && uk != 122 && (uk != 110 || un != 0)) by simp [holdF, ho])
    have ho' : (o == 58) = false := by simp [ho]
    clear ho
    by_cases g1 : uk = 102
    · subst g1
      go_region
      go_wp2
      go_ret
      rw [HV.out]
      exact ⟨rfl, by (repeat' (first | with_reducible exact Kp.refl _ _ | with_reducible refine Kp.alloc ?_ _ | with_reducible refine Kp.drewN ?_ _ | with_reducible refine Kp.drew ?_ | with_reducible refine Kp.setCell ?_ _ ?_ | with_reducible refine Kp.trans ?_ hk (fun _ _ e => e) | (intro hh; first | rfl | exact .inl rfl | exact .inr rfl | (exfalso; (try dsimp only at hh); omega))))⟩
    have f1 : (uk == 102) = false := by simp [g1]
    have f1' : (uk != 102) = true := by simp [g1]
    by_cases g2 : uk = 122
    · subst g2
      go_region
      go_wp2
      go_ret
      rw [HV.out]
      exact ⟨rfl, by (repeat' (first | with_reducible exact Kp.refl _ _ | with_reducible refine Kp.alloc ?_ _ | with_reducible refine Kp.drewN ?_ _ | with_reducible refine Kp.drew ?_ | with_reducible refine Kp.setCell ?_ _ ?_ | with_reducible refine Kp.trans ?_ hk (fun _ _ e => e) | (intro hh; first | rfl | exact .inl rfl | exact .inr rfl | (exfalso; (try dsimp only at hh); omega))))⟩
    have f2 : (uk == 122) = false := by simp [g2]
    have f2' : (uk != 122) = true := by simp [g2]
    by_cases g3 : uk = 110
    · subst g3
      by_cases g4 : un = 0
      · subst g4
        go_region
        go_wp2
        go_ret
        rw [HV.out]
        exact ⟨rfl, by (repeat' (first | with_reducible exact Kp.refl _ _ | with_reducible refine Kp.alloc ?_ _ | with_reducible refine Kp.drewN ?_ _ | with_reducible refine Kp.drew ?_ | with_reducible refine Kp.setCell ?_ _ ?_ | with_reducible refine Kp.trans ?_ hk (fun _ _ e => e) | (intro hh; first | rfl | exact .inl rfl | exact .inr rfl | (exfalso; (try dsimp only at hh); omega))))⟩
      · have f4 : (un == 0) = false := by simp [g4]
        have f4' : (un != 0) = true := by simp [g4]
        have G4 := hide g4
        clear g4
        go_region
        go_wp2
        go_ret
        rw [HV.out]
        exact ⟨by simp [G4.out], by (repeat' (first | with_reducible exact Kp.refl _ _ | with_reducible refine Kp.alloc ?_ _ | with_reducible refine Kp.drewN ?_ _ | with_reducible refine Kp.drew ?_ | with_reducible refine Kp.setCell ?_ _ ?_ | with_reducible refine Kp.trans ?_ hk (fun _ _ e => e) | (intro hh; first | rfl | exact .inl rfl | exact .inr rfl | (exfalso; (try dsimp only at hh); omega))))⟩
    · have f3 : (uk == 110) = false := by simp [g3]
      have f3' : (uk != 110) = true := by simp [g3]
      clear g1 g2 g3
      go_region
      go_wp2
      go_ret
      rw [HV.out]
      exact ⟨by simp [f1', f2', f3'], by (repeat' (first | with_reducible exact Kp.refl _ _ | with_reducible refine Kp.alloc ?_ _ | with_reducible refine Kp.drewN ?_ _ | with_reducible refine Kp.drew ?_ | with_reducible refine Kp.setCell ?_ _ ?_ | with_reducible refine Kp.trans ?_ hk (fun _ _ e => e) | (intro hh; first | rfl | exact .inl rfl | exact .inr rfl | (exfalso; (try dsimp only at hh); omega))))⟩
end Go.Proofs.YtellieabhaphhaaGreatDoor

-- The shelf at this dump, by program.
namespace Go.Proofs
open Go.Shelf
def Tryz.laysM171_ren : Go.Shelf.Ren := ⟨fun | 171 => 161 | 243 => 181 | 246 => 188 | 283 => 189 | 284 => 190 | 285 => 191 | 286 => 192 | 129 => 194 | 317 => 193 | 318 => 195 | 319 => 196 | 320 => 197 | 337 => 198 | 338 => 199 | n => n, fun | 3 => 3 | 9 => 9 | 2 => 2 | 4 => 4 | 171 => 204 | 0 => 0 | 53 => 205 | 37 => 156 | 5 => 5 | 173 => 208 | 212 => 211 | 51 => 212 | 20 => 20 | 213 => 213 | 46 => 214 | 232 => 217 | 233 => 218 | n => n, fun | 17 => 0 | 18 => 1 | 19 => 2 | n => n⟩
theorem Tryz.laysM171 : Go.Proofs.LaysM.n171 Tryz.prog Tryz.laysM171_ren := {
  mixed := by kernel_rfl
  f129 := Tryz.func194.trans (congrArg some (by kernel_rfl))
  f171 := Tryz.func161.trans (congrArg some (by kernel_rfl))
  f243 := Tryz.func181.trans (congrArg some (by kernel_rfl))
  f246 := Tryz.func188.trans (congrArg some (by kernel_rfl))
  f283 := Tryz.func189.trans (congrArg some (by kernel_rfl))
  f284 := Tryz.func190.trans (congrArg some (by kernel_rfl))
  f285 := Tryz.func191.trans (congrArg some (by kernel_rfl))
  f286 := Tryz.func192.trans (congrArg some (by kernel_rfl))
  f317 := Tryz.func193.trans (congrArg some (by kernel_rfl))
  f318 := Tryz.func195.trans (congrArg some (by kernel_rfl))
  f319 := Tryz.func196.trans (congrArg some (by kernel_rfl))
  f320 := Tryz.func197.trans (congrArg some (by kernel_rfl))
  f337 := Tryz.func198.trans (congrArg some (by kernel_rfl))
  f338 := Tryz.func199.trans (congrArg some (by kernel_rfl))
  t0 := Tryz.underlying0
  a0 := Tryz.isAgg0
  z0 := Tryz.sizeOf0
  v0 := Tryz.zeroValue0
  t2 := Tryz.underlying2
  a2 := Tryz.isAgg2
  z2 := Tryz.sizeOf2
  v2 := Tryz.zeroValue2
  t3 := Tryz.underlying3
  a3 := Tryz.isAgg3
  z3 := Tryz.sizeOf3
  v3 := Tryz.zeroValue3
  t4 := Tryz.underlying4
  a4 := Tryz.isAgg4
  z4 := Tryz.sizeOf4
  v4 := Tryz.zeroValue4
  t5 := Tryz.underlying5
  a5 := Tryz.isAgg5
  z5 := Tryz.sizeOf5
  v5 := Tryz.zeroValue5
  t9 := Tryz.underlying9
  a9 := Tryz.isAgg9
  z9 := Tryz.sizeOf9
  v9 := Tryz.zeroValue9
  t20 := Tryz.underlying20
  a20 := Tryz.isAgg20
  z20 := Tryz.sizeOf20
  v20 := Tryz.zeroValue20
  t37 := Tryz.underlying156
  a37 := Tryz.isAgg156
  z37 := Tryz.sizeOf156
  v37 := Tryz.zeroValue156
  t46 := Tryz.underlying214
  a46 := Tryz.isAgg214
  z46 := Tryz.sizeOf214
  v46 := Tryz.zeroValue214
  t51 := Tryz.underlying212
  a51 := Tryz.isAgg212
  z51 := Tryz.sizeOf212
  v51 := Tryz.zeroValue212
  t53 := Tryz.underlying205
  a53 := Tryz.isAgg205
  z53 := Tryz.sizeOf205
  v53 := Tryz.zeroValue205
  t171 := Tryz.underlying204
  a171 := Tryz.isAgg204
  z171 := Tryz.sizeOf204
  v171 := Tryz.zeroValue204
  t173 := Tryz.underlying208
  a173 := Tryz.isAgg208
  z173 := Tryz.sizeOf208
  v173 := Tryz.zeroValue208
  t212 := Tryz.underlying211
  a212 := Tryz.isAgg211
  z212 := Tryz.sizeOf211
  v212 := Tryz.zeroValue211
  t213 := Tryz.underlying213
  a213 := Tryz.isAgg213
  z213 := Tryz.sizeOf213
  t232 := Tryz.underlying217
  a232 := Tryz.isAgg217
  z232 := Tryz.sizeOf217
  v232 := Tryz.zeroValue217
  t233 := Tryz.underlying218
  a233 := Tryz.isAgg218
  z233 := Tryz.sizeOf218
  v233 := Tryz.zeroValue218
  g17 := by kernel_rfl
  g18 := by kernel_rfl
  g19 := by kernel_rfl
  i0 := by kernel_rfl
  i2 := by kernel_rfl
  i3 := by kernel_rfl
  i4 := by kernel_rfl
  i5 := by kernel_rfl
  i9 := by kernel_rfl
  i20 := by kernel_rfl
  i37 := by kernel_rfl
  i46 := by kernel_rfl
  i51 := by kernel_rfl
  i53 := by kernel_rfl
  i171 := by kernel_rfl
  i173 := by kernel_rfl
  i212 := by kernel_rfl
  i232 := by kernel_rfl
  i233 := by kernel_rfl
  m17 := by kernel_rfl
  m18 := by kernel_rfl
  m19 := by kernel_rfl }
open Go.RowKit Go.Sort Go.Lib in

theorem Tryz.strconv_Itoa (n : Int) (h0 : -9223372036854775808 ≤ n) (h1 : n ≤ 9223372036854775807) (w : World) (htab : Lib.TabIs Tryz.prog w "internal/strconv.uint64pow10" .u64 Lib.pow10Tab) :
    Calls Tryz.prog 161 #[.int .i64 n] w fun e w' => e = .returned (.string ⟨(Lib.itoa n).toArray⟩) ∧ ∃ k os, w' = grow (w.drewN k) os := Any.strconv_Itoa Tryz.laysM171 n h0 h1 w htab
end Go.Proofs

/-
  narrowref's machine: values as they are put out.
-/
namespace Go.Proofs.YtellieabhaphhaaGreatDoor
open Go.RowKit

/-- The library's table of powers is as it was laid. -/
def Tab (w : World) : Prop := Lib.TabIs Tryz.prog w "internal/strconv.uint64pow10" .u64 Lib.pow10Tab

theorem gtab : Tryz.prog.globalNamed "internal/strconv.uint64pow10" = some 0 := by kernel_rfl

theorem Tab.lt {w : World} (h : Tab w) : 0 < w.heap.size := by
  have h' : w.var? Tryz.prog "internal/strconv.uint64pow10" = some _ := h
  simp only [World.var?, gtab, Option.bind_some] at h'
  rcases Nat.lt_or_ge 0 w.heap.size with hl | hg
  · exact hl
  · rw [Array.getElem?_eq_none hg] at h'; simp at h'

theorem Tab.kp {S : Nat → Prop} {w w' : World} (h : Tab w) (k : Kp S w w') (hS : ¬ S 0) : Tab w' := by
  have h' : w.var? Tryz.prog "internal/strconv.uint64pow10" = some _ := h
  have e := k.block 0 h.lt hS
  show w'.var? Tryz.prog "internal/strconv.uint64pow10" = some _
  simp only [World.var?, gtab, Option.bind_some] at h' ⊢
  rw [e]
  exact h'

def itoaB (n : Int) : ByteArray := ⟨(Lib.itoa n).toArray⟩

theorem grow_kp (w : World) (k : Nat) (os : Array Obj) : Kp no w (Go.Sort.grow (w.drewN k) os) :=
  ⟨rfl, rfl, rfl, by simp [Go.Sort.grow], fun i hi _ => by
    show (w.heap ++ os)[i]? = _
    rw [Array.getElem?_append_left hi]⟩

theorem itoa_c (n : Int) (h0 : 0 ≤ n) (h1 : n ≤ 1000) (w : World) (ht : Tab w) :
    Calls Tryz.prog 161 #[.int .i64 n] w fun e w' => e = .returned (.string (itoaB n)) ∧ Kp no w w' := by
  refine (Tryz.strconv_Itoa n (by omega) (by omega) w ht).mono ?_
  rintro e w' ⟨rfl, k, os, rfl⟩
  exact ⟨rfl, grow_kp w k os⟩

def spellF (v : Vl) : ByteArray :=
  if v.k = 110 then itoaB v.n else if v.k = 65 then ⟨#[65]⟩ ++ itoaB v.n else if v.k = 66 then ⟨#[66]⟩ ++ capF v.v else capF v.k

theorem itoa_size (n : Int) (h0 : 0 ≤ n) (h1 : n ≤ 1000) : (itoaB n).size ≤ 100 := by
  obtain ⟨n, rfl⟩ := Int.eq_ofNat_of_zero_le h0
  have h : ∀ n : Nat, n ≤ 1000 → (itoaB n).size ≤ 100 := by decide +kernel
  exact h n (by omega)

theorem capF_size (k : Int) : (capF k).size = 1 := by unfold capF; repeat' split
                                                      all_goals rfl

set_option maxHeartbeats 1600000 in
theorem spelled_c (v : Vl) (h0 : 0 ≤ v.n) (h1 : v.n ≤ 1000) (w : World) (ht : Tab w) :
    Calls Tryz.prog 131 #[.agg #[.int .u8 v.k, .int .i64 v.n, .int .u8 v.v]] w fun e w' => e = .returned (.string (spellF v)) ∧ Kp no w w' := by
  obtain ⟨k, n, u⟩ := v
  dsimp only at *
  have hi := itoa_size n h0 h1
  by_cases g1 : k = 110
  · have HV := hide (show spellF ⟨k, n, u⟩ = itoaB n by simp [spellF, g1])
    subst g1
    go_enter Tryz.func131, Tryz.ntmps131
    go_wp2_with fail
    refine (itoa_c n h0 h1 _ (ht.kp ((Kp.refl no w).alloc _) no_elim)).mono ?_
    rintro e w1 ⟨rfl, k1⟩
    go_wp2
    go_ret
    rw [HV.out]
    exact ⟨rfl, by (repeat' (first | with_reducible exact Kp.refl _ _ | with_reducible refine Kp.alloc ?_ _ | with_reducible refine Kp.drewN ?_ _ | with_reducible refine Kp.drew ?_ | with_reducible refine Kp.setCell ?_ _ ?_ | with_reducible refine Kp.trans ?_ k1 (fun _ _ e => e) | (intro hh; first | rfl | exact .inl rfl | exact .inr rfl | (exfalso; (try dsimp only at hh); omega))))⟩
  have f1 : (k == 110) = false := by simp [g1]
  by_cases g2 : k = 65
  · have HV := hide (show spellF ⟨k, n, u⟩ = ⟨#[65]⟩ ++ itoaB n by simp [spellF, g2])
    subst g2
    have hsz : (ByteArray.mk #[65]).size = 1 := rfl
    go_enter Tryz.func131, Tryz.ntmps131
    go_wp2_with fail
    refine (itoa_c n h0 h1 _ (ht.kp ((Kp.refl no w).alloc _) no_elim)).mono ?_
    rintro e w1 ⟨rfl, k1⟩
    generalize itoaB n = q at *
    go_wp2
    go_ret
    rw [HV.out]
    exact ⟨rfl, by (repeat' (first | with_reducible exact Kp.refl _ _ | with_reducible refine Kp.alloc ?_ _ | with_reducible refine Kp.drewN ?_ _ | with_reducible refine Kp.drew ?_ | with_reducible refine Kp.setCell ?_ _ ?_ | with_reducible refine Kp.trans ?_ k1 (fun _ _ e => e) | (intro hh; first | rfl | exact .inl rfl | exact .inr rfl | (exfalso; (try dsimp only at hh); omega))))⟩
  have f2 : (k == 65) = false := by simp [g2]
  have hcu := capF_size u
  by_cases g3 : k = 66
  · have HV := hide (show spellF ⟨k, n, u⟩ = ⟨#[66]⟩ ++ capF u by simp [spellF, g3])
    subst g3
    have hsz : (ByteArray.mk #[66]).size = 1 := rfl
    go_enter Tryz.func131, Tryz.ntmps131
    go_wp2_with fail
    refine (capital_c u _).mono ?_
    rintro e w1 ⟨rfl, rfl⟩
    generalize capF u = q at *
    go_wp2
    go_ret
    rw [HV.out]
    exact ⟨rfl, by (repeat' (first | with_reducible exact Kp.refl _ _ | with_reducible refine Kp.alloc ?_ _ | with_reducible refine Kp.drewN ?_ _ | with_reducible refine Kp.drew ?_ | with_reducible refine Kp.setCell ?_ _ ?_ | (intro hh; first | rfl | exact .inl rfl | exact .inr rfl | (exfalso; (try dsimp only at hh); omega))))⟩
  · have HV := hide (show spellF ⟨k, n, u⟩ = capF k by simp [spellF, g1, g2, g3])
    have f3 : (k == 66) = false := by simp [g3]
    go_enter Tryz.func131, Tryz.ntmps131
    go_wp2_with fail
    refine (capital_c k _).mono ?_
    rintro e w1 ⟨rfl, rfl⟩
    go_wp2
    go_ret
    rw [HV.out]
    exact ⟨rfl, by (repeat' (first | with_reducible exact Kp.refl _ _ | with_reducible refine Kp.alloc ?_ _ | with_reducible refine Kp.drewN ?_ _ | with_reducible refine Kp.drew ?_ | with_reducible refine Kp.setCell ?_ _ ?_ | (intro hh; first | rfl | exact .inl rfl | exact .inr rfl | (exfalso; (try dsimp only at hh); omega))))⟩
end Go.Proofs.YtellieabhaphhaaGreatDoor

/-
  narrowref's machine: what x=E is worth.
-/
namespace Go.Proofs.YtellieabhaphhaaGreatDoor
open Go.RowKit

/-- What is asked of a variable's value: its number is small. -/
def VOk (u : Vl) : Prop := 0 ≤ u.n ∧ u.n ≤ 999 ∧ 0 ≤ u.k

def worF (inp : ByteArray) (n : Nd) (y v : Vl) (st : Mc) : Vl × Mc :=
  if n.op = 63 then nextF inp st
  else if n.op = 118 then (y, st)
  else if n.op = 43 then (⟨110, (y.n + v.n) % 1000, 0⟩, st)
  else if n.op = 60 then ((if y.n < v.n then ⟨116, 0, 0⟩ else ⟨102, 0, 0⟩), st)
  else if n.op = 65 then (⟨65, y.n, 0⟩, st)
  else if n.op = 66 then (⟨66, 0, y.k⟩, st)
  else if n.op = 46 then (partF y, st)
  else (consF n, st)

set_option maxHeartbeats 12800000 in
theorem worth_c {w : World} {m lb : Nat} {inp : ByteArray} {st : Mc} (n : Nd) (y v : Nat) (yu vu : Vl) (h : MB w m lb inp st) (hinp : inp.size ≤ 40) (hy : n.y = y) (hv : n.v = v) (hyu : st.l[y]? = some yu) (hvu : st.l[v]? = some vu)
    (oy : VOk yu) (ov : VOk vu) (hk : n.op = 48 → 48 ≤ n.k ∧ n.k ≤ 57) :
    Calls Tryz.prog 132 #[.pointer (some ⟨m, 0, none⟩), .agg #[.int .u8 n.op, .int .i64 n.x, .int .i64 n.y, .int .i64 n.v, .int .u8 n.k, .int .i64 n.t, .int .i64 n.f, .int .i64 n.a, .int .i64 n.l]] w fun e w' =>
      e = .returned (.agg (worF inp n yu vu st).1.cells.toArray) ∧ MB w' m lb inp (worF inp n yu vu st).2 ∧ Kp (MK m lb) w w' := by
  obtain ⟨o, x, y', v', k, t, f, a, l⟩ := n
  dsimp only at *
  subst hy hv
  have hlt := h.lt
  have HC := hide (fun W => constant_c ⟨o, x, y, v, k, t, f, a, l⟩ W hk)
  clear hk
  obtain ⟨yk, yn, yv⟩ := yu
  obtain ⟨vk, vn, vv⟩ := vu
  obtain ⟨oy1, oy2, _⟩ := oy
  obtain ⟨ov1, ov2, _⟩ := ov
  dsimp only at oy1 oy2 ov1 ov2
  go_enter Tryz.func132, Tryz.ntmps132
  go_wp2
  refine wp_gen (fun W => MB W m lb inp st ∧ Blk W w.heap.size [.int .u8 o, .int .i64 x, .int .i64 y, .int .i64 v, .int .u8 k, .int .i64 t, .int .i64 f, .int .i64 a, .int .i64 l] 63 ∧ Blk W (w.heap.size + 1) [.int .u8 0, .int .i64 0, .int .u8 0] 163 ∧ Kp (MK m lb) w W ∧ w.heap.size + 2 ≤ W.heap.size) ⟨by (repeat' (first | with_reducible exact h | with_reducible refine MB.alloc ?_ _ | with_reducible refine MB.drew ?_ | with_reducible refine MB.n ?_ _ | ((with_reducible refine MB.other ?_ _ ?_ ?_); rotate_left; ((try dsimp only); omega); ((try dsimp only); omega)))), by (repeat' (first | ((with_reducible show (_ : List Value) = _); rfl) | ((with_reducible refine Blk.newAt _ _ _ ?_); first | with_reducible rfl | (simp; done)) | with_reducible refine Blk.alloc ?_ _ | with_reducible refine Blk.drewN ?_ _ | with_reducible refine Blk.drew ?_ | ((with_reducible refine Blk.other ?_ _ ?_); rotate_left; ((try dsimp only); omega)) | with_reducible refine Blk.setB (cs0 := ?_) ?_ ?_)), by (repeat' (first | ((with_reducible show (_ : List Value) = _); rfl) | ((with_reducible refine Blk.newAt _ _ _ ?_); first | with_reducible rfl | (simp; done)) | with_reducible refine Blk.alloc ?_ _ | with_reducible refine Blk.drewN ?_ _ | with_reducible refine Blk.drew ?_ | ((with_reducible refine Blk.other ?_ _ ?_); rotate_left; ((try dsimp only); omega)) | with_reducible refine Blk.setB (cs0 := ?_) ?_ ?_)), by (repeat' (first | with_reducible exact Kp.refl _ _ | with_reducible refine Kp.alloc ?_ _ | with_reducible refine Kp.drewN ?_ _ | with_reducible refine Kp.drew ?_ | with_reducible refine Kp.setCell ?_ _ ?_ | (intro hh; first | rfl | exact .inl rfl | exact .inr rfl | (exfalso; (try dsimp only at hh); omega)))), by simp⟩ ?_
  rintro W ⟨hm, hN, hR, hk, hz⟩
  obtain ⟨d0, d1, d2, d3, d4, d5, d6, df⟩ := hm.c
  obtain ⟨hy6, y0, y1, y2⟩ := hm.vu hyu
  obtain ⟨n0, n1, n2, n3, n4, n5, n6, n7, n8, nf⟩ := hN.c9
  have hz1 := hN.lt
  have hz4 := hR.lt
  obtain ⟨hz2, hz3⟩ := hm.lt
  have HVU := hide hvu
  clear hyu hvu
  dsimp only at y0 y1 y2
  obtain ⟨z0, z1, z2, zf⟩ := hR.c3
  by_cases g118 : o = 118
  · have HV := hide (show worF inp ⟨o, x, y, v, k, t, f, a, l⟩ ⟨yk, yn, yv⟩ ⟨vk, vn, vv⟩ st = (⟨yk, yn, yv⟩, st) by simp [worF, g118])
    subst g118
    go_region
    go_wp2
    refine body_agg (Tb := 163) (b := w.heap.size + 1) (cs := [.int .u8 yk, .int .i64 yn, .int .u8 yv]) (.inr rfl) Tryz.results132 rfl rfl (by (repeat' (first | ((with_reducible show (_ : List Value) = _); rfl) | with_reducible exact hR | ((with_reducible refine Blk.newAt _ _ _ ?_); first | with_reducible rfl | (simp; done)) | with_reducible refine Blk.alloc ?_ _ | with_reducible refine Blk.drewN ?_ _ | with_reducible refine Blk.drew ?_ | ((with_reducible refine Blk.other ?_ _ ?_); rotate_left; ((try dsimp only); omega)) | with_reducible refine Blk.setB (cs0 := ?_) ?_ ?_))) Tryz.underlying163 rfl (by kernel_rfl) ?_
    rw [HV.out]
    exact ⟨rfl, by (show MB _ _ _ _ _); (repeat' (first | with_reducible exact hm | with_reducible refine MB.alloc ?_ _ | with_reducible refine MB.drew ?_ | with_reducible refine MB.n ?_ _ | ((with_reducible refine MB.other ?_ _ ?_ ?_); rotate_left; ((try dsimp only); omega); ((try dsimp only); omega)))), by (repeat' (first | with_reducible exact Kp.refl _ _ | with_reducible refine Kp.alloc ?_ _ | with_reducible refine Kp.drewN ?_ _ | with_reducible refine Kp.drew ?_ | with_reducible refine Kp.setCell ?_ _ ?_ | with_reducible refine Kp.trans ?_ hk (fun _ _ e => e) | (intro hh; first | rfl | exact .inl rfl | exact .inr rfl | (exfalso; (try dsimp only at hh); omega))))⟩
  have f118 : (o == 118) = false := by simp [g118]
  by_cases g65 : o = 65
  · have HV := hide (show worF inp ⟨o, x, y, v, k, t, f, a, l⟩ ⟨yk, yn, yv⟩ ⟨vk, vn, vv⟩ st = (⟨65, yn, 0⟩, st) by simp [worF, g65])
    subst g65
    go_region
    go_wp2
    refine body_agg (Tb := 163) (b := w.heap.size + 1) (cs := [.int .u8 65, .int .i64 yn, .int .u8 0]) (.inr rfl) Tryz.results132 rfl rfl (by (repeat' (first | ((with_reducible show (_ : List Value) = _); rfl) | with_reducible exact hR | ((with_reducible refine Blk.newAt _ _ _ ?_); first | with_reducible rfl | (simp; done)) | with_reducible refine Blk.alloc ?_ _ | with_reducible refine Blk.drewN ?_ _ | with_reducible refine Blk.drew ?_ | ((with_reducible refine Blk.other ?_ _ ?_); rotate_left; ((try dsimp only); omega)) | with_reducible refine Blk.setB (cs0 := ?_) ?_ ?_))) Tryz.underlying163 rfl (by kernel_rfl) ?_
    rw [HV.out]
    exact ⟨rfl, by (show MB _ _ _ _ _); (repeat' (first | with_reducible exact hm | with_reducible refine MB.alloc ?_ _ | with_reducible refine MB.drew ?_ | with_reducible refine MB.n ?_ _ | ((with_reducible refine MB.other ?_ _ ?_ ?_); rotate_left; ((try dsimp only); omega); ((try dsimp only); omega)))), by (repeat' (first | with_reducible exact Kp.refl _ _ | with_reducible refine Kp.alloc ?_ _ | with_reducible refine Kp.drewN ?_ _ | with_reducible refine Kp.drew ?_ | with_reducible refine Kp.setCell ?_ _ ?_ | with_reducible refine Kp.trans ?_ hk (fun _ _ e => e) | (intro hh; first | rfl | exact .inl rfl | exact .inr rfl | (exfalso; (try dsimp only at hh); omega))))⟩
  have f65 : (o == 65) = false := by simp [g65]
  by_cases g66 : o = 66
  · have HV := hide (show worF inp ⟨o, x, y, v, k, t, f, a, l⟩ ⟨yk, yn, yv⟩ ⟨vk, vn, vv⟩ st = (⟨66, 0, yk⟩, st) by simp [worF, g66])
    subst g66
    go_region
    go_wp2
    refine body_agg (Tb := 163) (b := w.heap.size + 1) (cs := [.int .u8 66, .int .i64 0, .int .u8 yk]) (.inr rfl) Tryz.results132 rfl rfl (by (repeat' (first | ((with_reducible show (_ : List Value) = _); rfl) | with_reducible exact hR | ((with_reducible refine Blk.newAt _ _ _ ?_); first | with_reducible rfl | (simp; done)) | with_reducible refine Blk.alloc ?_ _ | with_reducible refine Blk.drewN ?_ _ | with_reducible refine Blk.drew ?_ | ((with_reducible refine Blk.other ?_ _ ?_); rotate_left; ((try dsimp only); omega)) | with_reducible refine Blk.setB (cs0 := ?_) ?_ ?_))) Tryz.underlying163 rfl (by kernel_rfl) ?_
    rw [HV.out]
    exact ⟨rfl, by (show MB _ _ _ _ _); (repeat' (first | with_reducible exact hm | with_reducible refine MB.alloc ?_ _ | with_reducible refine MB.drew ?_ | with_reducible refine MB.n ?_ _ | ((with_reducible refine MB.other ?_ _ ?_ ?_); rotate_left; ((try dsimp only); omega); ((try dsimp only); omega)))), by (repeat' (first | with_reducible exact Kp.refl _ _ | with_reducible refine Kp.alloc ?_ _ | with_reducible refine Kp.drewN ?_ _ | with_reducible refine Kp.drew ?_ | with_reducible refine Kp.setCell ?_ _ ?_ | with_reducible refine Kp.trans ?_ hk (fun _ _ e => e) | (intro hh; first | rfl | exact .inl rfl | exact .inr rfl | (exfalso; (try dsimp only at hh); omega))))⟩
  have f66 : (o == 66) = false := by simp [g66]
  by_cases g63 : o = 63
  · have HV := hide (show worF inp ⟨o, x, y, v, k, t, f, a, l⟩ ⟨yk, yn, yv⟩ ⟨vk, vn, vv⟩ st = nextF inp st by simp [worF, g63])
    subst g63
    go_region
    go_wp2_with fail
    refine (next_c (lb := lb) (inp := inp) (st := st) (by (repeat' (first | with_reducible exact hm | with_reducible refine MB.alloc ?_ _ | with_reducible refine MB.drew ?_ | with_reducible refine MB.n ?_ _ | ((with_reducible refine MB.other ?_ _ ?_ ?_); rotate_left; ((try dsimp only); omega); ((try dsimp only); omega))))) hinp).mono ?_
    rintro e w1 ⟨rfl, h1, k1⟩
    have hR1 : Blk w1 (w.heap.size + 1) [.int .u8 0, .int .i64 0, .int .u8 0] 163 := k1.blk (by (repeat' (first | ((with_reducible show (_ : List Value) = _); rfl) | with_reducible exact hR | ((with_reducible refine Blk.newAt _ _ _ ?_); first | with_reducible rfl | (simp; done)) | with_reducible refine Blk.alloc ?_ _ | with_reducible refine Blk.drewN ?_ _ | with_reducible refine Blk.drew ?_ | ((with_reducible refine Blk.other ?_ _ ?_); rotate_left; ((try dsimp only); omega)) | with_reducible refine Blk.setB (cs0 := ?_) ?_ ?_))) (by rintro (e | e) <;> omega)
    obtain ⟨r0, r1, r2, rf⟩ := hR1.c3
    generalize nextF inp st = q at *
    obtain ⟨⟨qk, qn, qv⟩, st'⟩ := q
    dsimp only at h1
    simp only [Vl.cells]
    go_wp2
    refine body_agg (Tb := 163) (b := w.heap.size + 1) (cs := [.int .u8 qk, .int .i64 qn, .int .u8 qv]) (.inr rfl) Tryz.results132 rfl rfl (by (repeat' (first | ((with_reducible show (_ : List Value) = _); rfl) | with_reducible exact hR1 | ((with_reducible refine Blk.newAt _ _ _ ?_); first | with_reducible rfl | (simp; done)) | with_reducible refine Blk.alloc ?_ _ | with_reducible refine Blk.drewN ?_ _ | with_reducible refine Blk.drew ?_ | ((with_reducible refine Blk.other ?_ _ ?_); rotate_left; ((try dsimp only); omega)) | with_reducible refine Blk.setB (cs0 := ?_) ?_ ?_))) Tryz.underlying163 rfl (by kernel_rfl) ?_
    rw [HV.out]
    exact ⟨rfl, by (show MB _ _ _ _ _); (repeat' (first | with_reducible exact h1 | with_reducible refine MB.alloc ?_ _ | with_reducible refine MB.drew ?_ | with_reducible refine MB.n ?_ _ | ((with_reducible refine MB.other ?_ _ ?_ ?_); rotate_left; ((try dsimp only); omega); ((try dsimp only); omega)))), by (repeat' (first | with_reducible exact Kp.refl _ _ | with_reducible refine Kp.alloc ?_ _ | with_reducible refine Kp.drewN ?_ _ | with_reducible refine Kp.drew ?_ | with_reducible refine Kp.setCell ?_ _ ?_ | with_reducible refine Kp.trans ?_ hk (fun _ _ e => e) | with_reducible refine Kp.trans ?_ k1 (fun _ _ e => e) | (intro hh; first | rfl | exact .inl rfl | exact .inr rfl | (exfalso; (try dsimp only at hh); omega))))⟩
  have f63 : (o == 63) = false := by simp [g63]
  by_cases g46 : o = 46
  · have HV := hide (show worF inp ⟨o, x, y, v, k, t, f, a, l⟩ ⟨yk, yn, yv⟩ ⟨vk, vn, vv⟩ st = (partF ⟨yk, yn, yv⟩, st) by simp [worF, g46])
    subst g46
    go_region
    go_wp2_with fail
    refine (part_c ⟨yk, yn, yv⟩ _).mono ?_
    rintro e w1 ⟨rfl, k1⟩
    have h1 : MB w1 m lb inp st := MB.kp (by (repeat' (first | with_reducible exact hm | with_reducible refine MB.alloc ?_ _ | with_reducible refine MB.drew ?_ | with_reducible refine MB.n ?_ _ | ((with_reducible refine MB.other ?_ _ ?_ ?_); rotate_left; ((try dsimp only); omega); ((try dsimp only); omega))))) k1 no_elim no_elim
    have hR1 : Blk w1 (w.heap.size + 1) [.int .u8 0, .int .i64 0, .int .u8 0] 163 := k1.blk (by (repeat' (first | ((with_reducible show (_ : List Value) = _); rfl) | with_reducible exact hR | ((with_reducible refine Blk.newAt _ _ _ ?_); first | with_reducible rfl | (simp; done)) | with_reducible refine Blk.alloc ?_ _ | with_reducible refine Blk.drewN ?_ _ | with_reducible refine Blk.drew ?_ | ((with_reducible refine Blk.other ?_ _ ?_); rotate_left; ((try dsimp only); omega)) | with_reducible refine Blk.setB (cs0 := ?_) ?_ ?_))) no_elim
    obtain ⟨r0, r1, r2, rf⟩ := hR1.c3
    have k1' : Kp (MK m lb) _ w1 := k1.mono (fun _ e => e.elim)
    generalize partF ⟨yk, yn, yv⟩ = q at *
    obtain ⟨qk, qn, qv⟩ := q
    simp only [Vl.cells]
    go_wp2
    refine body_agg (Tb := 163) (b := w.heap.size + 1) (cs := [.int .u8 qk, .int .i64 qn, .int .u8 qv]) (.inr rfl) Tryz.results132 rfl rfl (by (repeat' (first | ((with_reducible show (_ : List Value) = _); rfl) | with_reducible exact hR1 | ((with_reducible refine Blk.newAt _ _ _ ?_); first | with_reducible rfl | (simp; done)) | with_reducible refine Blk.alloc ?_ _ | with_reducible refine Blk.drewN ?_ _ | with_reducible refine Blk.drew ?_ | ((with_reducible refine Blk.other ?_ _ ?_); rotate_left; ((try dsimp only); omega)) | with_reducible refine Blk.setB (cs0 := ?_) ?_ ?_))) Tryz.underlying163 rfl (by kernel_rfl) ?_
    rw [HV.out]
    exact ⟨rfl, by (show MB _ _ _ _ _); (repeat' (first | with_reducible exact h1 | with_reducible refine MB.alloc ?_ _ | with_reducible refine MB.drew ?_ | with_reducible refine MB.n ?_ _ | ((with_reducible refine MB.other ?_ _ ?_ ?_); rotate_left; ((try dsimp only); omega); ((try dsimp only); omega)))), by (repeat' (first | with_reducible exact Kp.refl _ _ | with_reducible refine Kp.alloc ?_ _ | with_reducible refine Kp.drewN ?_ _ | with_reducible refine Kp.drew ?_ | with_reducible refine Kp.setCell ?_ _ ?_ | with_reducible refine Kp.trans ?_ hk (fun _ _ e => e) | with_reducible refine Kp.trans ?_ k1' (fun _ _ e => e) | (intro hh; first | rfl | exact .inl rfl | exact .inr rfl | (exfalso; (try dsimp only at hh); omega))))⟩
  have f46 : (o == 46) = false := by simp [g46]
  by_cases g43 : o = 43
  · have HV := hide (show worF inp ⟨o, x, y, v, k, t, f, a, l⟩ ⟨yk, yn, yv⟩ ⟨vk, vn, vv⟩ st = (⟨110, (yn + vn) % 1000, 0⟩, st) by simp [worF, g43])
    subst g43
    obtain ⟨hv6, v0, v1, v2⟩ := hm.vu HVU.out
    dsimp only at v0 v1 v2
    go_region
    go_wp2
    go_region
    go_wp2
    refine body_agg (Tb := 163) (b := w.heap.size + 1) (cs := [.int .u8 110, .int .i64 ((yn + vn) % 1000), .int .u8 0]) (.inr rfl) Tryz.results132 rfl rfl (by (repeat' (first | ((with_reducible show (_ : List Value) = _); rfl) | with_reducible exact hR | ((with_reducible refine Blk.newAt _ _ _ ?_); first | with_reducible rfl | (simp; done)) | with_reducible refine Blk.alloc ?_ _ | with_reducible refine Blk.drewN ?_ _ | with_reducible refine Blk.drew ?_ | ((with_reducible refine Blk.other ?_ _ ?_); rotate_left; ((try dsimp only); omega)) | with_reducible refine Blk.setB (cs0 := ?_) ?_ ?_))) Tryz.underlying163 rfl (by kernel_rfl) ?_
    rw [HV.out]
    exact ⟨rfl, by (show MB _ _ _ _ _); (repeat' (first | with_reducible exact hm | with_reducible refine MB.alloc ?_ _ | with_reducible refine MB.drew ?_ | with_reducible refine MB.n ?_ _ | ((with_reducible refine MB.other ?_ _ ?_ ?_); rotate_left; ((try dsimp only); omega); ((try dsimp only); omega)))), by (repeat' (first | with_reducible exact Kp.refl _ _ | with_reducible refine Kp.alloc ?_ _ | with_reducible refine Kp.drewN ?_ _ | with_reducible refine Kp.drew ?_ | with_reducible refine Kp.setCell ?_ _ ?_ | with_reducible refine Kp.trans ?_ hk (fun _ _ e => e) | (intro hh; first | rfl | exact .inl rfl | exact .inr rfl | (exfalso; (try dsimp only at hh); omega))))⟩
  have f43 : (o == 43) = false := by simp [g43]
  by_cases g60 : o = 60
  · subst g60
    obtain ⟨hv6, v0, v1, v2⟩ := hm.vu HVU.out
    dsimp only at v0 v1 v2
    by_cases hlt : yn < vn
    · have HV := hide (show worF inp ⟨60, x, y, v, k, t, f, a, l⟩ ⟨yk, yn, yv⟩ ⟨vk, vn, vv⟩ st = (⟨116, 0, 0⟩, st) by simp [worF, hlt])
      go_region
      go_wp2
      go_quiet (fail)
      go_wp2
      refine body_agg (Tb := 163) (b := w.heap.size + 1) (cs := [.int .u8 116, .int .i64 0, .int .u8 0]) (.inr rfl) Tryz.results132 rfl rfl (by (repeat' (first | ((with_reducible show (_ : List Value) = _); rfl) | with_reducible exact hR | ((with_reducible refine Blk.newAt _ _ _ ?_); first | with_reducible rfl | (simp; done)) | with_reducible refine Blk.alloc ?_ _ | with_reducible refine Blk.drewN ?_ _ | with_reducible refine Blk.drew ?_ | ((with_reducible refine Blk.other ?_ _ ?_); rotate_left; ((try dsimp only); omega)) | with_reducible refine Blk.setB (cs0 := ?_) ?_ ?_))) Tryz.underlying163 rfl (by kernel_rfl) ?_
      rw [HV.out]
      exact ⟨rfl, by (show MB _ _ _ _ _); (repeat' (first | with_reducible exact hm | with_reducible refine MB.alloc ?_ _ | with_reducible refine MB.drew ?_ | with_reducible refine MB.n ?_ _ | ((with_reducible refine MB.other ?_ _ ?_ ?_); rotate_left; ((try dsimp only); omega); ((try dsimp only); omega)))), by (repeat' (first | with_reducible exact Kp.refl _ _ | with_reducible refine Kp.alloc ?_ _ | with_reducible refine Kp.drewN ?_ _ | with_reducible refine Kp.drew ?_ | with_reducible refine Kp.setCell ?_ _ ?_ | with_reducible refine Kp.trans ?_ hk (fun _ _ e => e) | (intro hh; first | rfl | exact .inl rfl | exact .inr rfl | (exfalso; (try dsimp only at hh); omega))))⟩
    · have HV := hide (show worF inp ⟨60, x, y, v, k, t, f, a, l⟩ ⟨yk, yn, yv⟩ ⟨vk, vn, vv⟩ st = (⟨102, 0, 0⟩, st) by simp [worF, hlt])
      go_region
      go_wp2
      go_quiet (fail)
      go_wp2
      refine body_agg (Tb := 163) (b := w.heap.size + 1) (cs := [.int .u8 102, .int .i64 0, .int .u8 0]) (.inr rfl) Tryz.results132 rfl rfl (by (repeat' (first | ((with_reducible show (_ : List Value) = _); rfl) | with_reducible exact hR | ((with_reducible refine Blk.newAt _ _ _ ?_); first | with_reducible rfl | (simp; done)) | with_reducible refine Blk.alloc ?_ _ | with_reducible refine Blk.drewN ?_ _ | with_reducible refine Blk.drew ?_ | ((with_reducible refine Blk.other ?_ _ ?_); rotate_left; ((try dsimp only); omega)) | with_reducible refine Blk.setB (cs0 := ?_) ?_ ?_))) Tryz.underlying163 rfl (by kernel_rfl) ?_
      rw [HV.out]
      exact ⟨rfl, by (show MB _ _ _ _ _); (repeat' (first | with_reducible exact hm | with_reducible refine MB.alloc ?_ _ | with_reducible refine MB.drew ?_ | with_reducible refine MB.n ?_ _ | ((with_reducible refine MB.other ?_ _ ?_ ?_); rotate_left; ((try dsimp only); omega); ((try dsimp only); omega)))), by (repeat' (first | with_reducible exact Kp.refl _ _ | with_reducible refine Kp.alloc ?_ _ | with_reducible refine Kp.drewN ?_ _ | with_reducible refine Kp.drew ?_ | with_reducible refine Kp.setCell ?_ _ ?_ | with_reducible refine Kp.trans ?_ hk (fun _ _ e => e) | (intro hh; first | rfl | exact .inl rfl | exact .inr rfl | (exfalso; (try dsimp only at hh); omega))))⟩
  have f60 : (o == 60) = false := by simp [g60]
  have HV := hide (show worF inp ⟨o, x, y, v, k, t, f, a, l⟩ ⟨yk, yn, yv⟩ ⟨vk, vn, vv⟩ st = (consF ⟨o, x, y, v, k, t, f, a, l⟩, st) by simp [worF, g60, g118, g65, g66, g63, g46, g43])
  clear g60 g118 g65 g66 g63 g46 g43
  go_region
  go_wp2_with fail
  refine (HC.out _).mono ?_
  rintro e w1 ⟨rfl, k1⟩
  have h1 : MB w1 m lb inp st := MB.kp (by (repeat' (first | with_reducible exact hm | with_reducible refine MB.alloc ?_ _ | with_reducible refine MB.drew ?_ | with_reducible refine MB.n ?_ _ | ((with_reducible refine MB.other ?_ _ ?_ ?_); rotate_left; ((try dsimp only); omega); ((try dsimp only); omega))))) k1 no_elim no_elim
  have hR1 : Blk w1 (w.heap.size + 1) [.int .u8 0, .int .i64 0, .int .u8 0] 163 := k1.blk (by (repeat' (first | ((with_reducible show (_ : List Value) = _); rfl) | with_reducible exact hR | ((with_reducible refine Blk.newAt _ _ _ ?_); first | with_reducible rfl | (simp; done)) | with_reducible refine Blk.alloc ?_ _ | with_reducible refine Blk.drewN ?_ _ | with_reducible refine Blk.drew ?_ | ((with_reducible refine Blk.other ?_ _ ?_); rotate_left; ((try dsimp only); omega)) | with_reducible refine Blk.setB (cs0 := ?_) ?_ ?_))) no_elim
  obtain ⟨r0, r1, r2, rf⟩ := hR1.c3
  have k1' : Kp (MK m lb) _ w1 := k1.mono (fun _ e => e.elim)
  generalize consF ⟨o, x, y, v, k, t, f, a, l⟩ = q at *
  obtain ⟨qk, qn, qv⟩ := q
  simp only [Vl.cells]
  go_wp2
  refine body_agg (Tb := 163) (b := w.heap.size + 1) (cs := [.int .u8 qk, .int .i64 qn, .int .u8 qv]) (.inr rfl) Tryz.results132 rfl rfl (by (repeat' (first | ((with_reducible show (_ : List Value) = _); rfl) | with_reducible exact hR1 | ((with_reducible refine Blk.newAt _ _ _ ?_); first | with_reducible rfl | (simp; done)) | with_reducible refine Blk.alloc ?_ _ | with_reducible refine Blk.drewN ?_ _ | with_reducible refine Blk.drew ?_ | ((with_reducible refine Blk.other ?_ _ ?_); rotate_left; ((try dsimp only); omega)) | with_reducible refine Blk.setB (cs0 := ?_) ?_ ?_))) Tryz.underlying163 rfl (by kernel_rfl) ?_
  rw [HV.out]
  exact ⟨rfl, by (show MB _ _ _ _ _); (repeat' (first | with_reducible exact h1 | with_reducible refine MB.alloc ?_ _ | with_reducible refine MB.drew ?_ | with_reducible refine MB.n ?_ _ | ((with_reducible refine MB.other ?_ _ ?_ ?_); rotate_left; ((try dsimp only); omega); ((try dsimp only); omega)))), by (repeat' (first | with_reducible exact Kp.refl _ _ | with_reducible refine Kp.alloc ?_ _ | with_reducible refine Kp.drewN ?_ _ | with_reducible refine Kp.drew ?_ | with_reducible refine Kp.setCell ?_ _ ?_ | with_reducible refine Kp.trans ?_ hk (fun _ _ e => e) | with_reducible refine Kp.trans ?_ k1' (fun _ _ e => e) | (intro hh; first | rfl | exact .inl rfl | exact .inr rfl | (exfalso; (try dsimp only at hh); omega))))⟩
end Go.Proofs.YtellieabhaphhaaGreatDoor
