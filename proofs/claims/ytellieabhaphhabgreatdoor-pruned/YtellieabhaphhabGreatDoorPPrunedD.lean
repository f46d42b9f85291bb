import Derived.Test.YtellieabhaphhabGreatDoorPPrunedC
/-
  narrow's reader: a node of a graph.
-/
namespace Go.Proofs.YtellieabhaphhabGreatDoor
open Go.RowKit

theorem nassign_c (r i : Nat) (x : Int) (s : ByteArray) (rest : List Value) (T : TypeId) (w : World) (hs : s.size ≤ 1000) (hi : i ≤ s.size)
    (h : NR w r s (i, false) rest T) :
    Calls Tryz.prog 151 #[.pointer (some ⟨r, 0, none⟩), .int .i64 x] w fun e w' => e = .returned (.agg (assF s i x).1.cells.toArray) ∧ NR w' r s (assF s i x).2 rest T ∧ Kp (· = r) w w' := by
  by_cases h1 : 97 ≤ pk s i ∧ pk s i ≤ 102
  · exact nassign_var r i x s rest T w hs hi h h1
  by_cases h2 : bit (conV (pk s i)).k = 0
  · by_cases h3 : pk s i = 63
    · exact nassign_s63 r i x s rest T w hs hi h h3
    by_cases h4 : pk s i = 43
    · exact nassign_s43 r i x s rest T w hs hi h h4
    by_cases h5 : pk s i = 60
    · exact nassign_s60 r i x s rest T w hs hi h h5
    by_cases h6 : pk s i = 65
    · exact nassign_s65 r i x s rest T w hs hi h h6
    by_cases h7 : pk s i = 66
    · exact nassign_s66 r i x s rest T w hs hi h h7
    by_cases h8 : pk s i = 46
    · exact nassign_s46 r i x s rest T w hs hi h h8
    exact nassign_bad r i x s rest T w hs hi h ⟨h1, h2, by rw [asgA, if_neg h3, if_neg h4, if_neg h5, if_neg h6, if_neg h7, if_neg h8]⟩
  · exact nassign_con r i x s rest T w hs hi h h2

def chgF (s : ByteArray) (p : Nat × Bool) (x : Int) : NN × (Nat × Bool) :=
  if pkb s p = 61 then assF s (p.1 + 1) x
  else if pkb s p = 126 then ({ nn0 with act := 10, x := x, kd := bit (kindF s (p.1 + 1, false)).1 }, (kindF s (p.1 + 1, false)).2)
  else (nn0, (p.1, true))

set_option maxHeartbeats 1600000 in
theorem nchange_c (r i : Nat) (x : Int) (s : ByteArray) (bad : Bool) (rest : List Value) (T : TypeId) (w : World) (hs : s.size ≤ 1000) (hi : i ≤ s.size)
    (h : NR w r s (i, bad) rest T) :
    Calls Tryz.prog 114 #[.pointer (some ⟨r, 0, none⟩), .int .i64 x] w fun e w' => e = .returned (.agg (chgF s (i, bad) x).1.cells.toArray) ∧ NR w' r s (chgF s (i, bad) x).2 rest T ∧ Kp (· = r) w w' := by
  have HP := hide (fun W (hW : NR W r s (i, bad) rest T) => npeek_c r i s bad rest T W hs hi hW)
  have hr := h.lt
  obtain ⟨h0, h1, h2, hf⟩ := h.c
  have hb : Blk w r (.string s :: .int .i64 i :: .bool bad :: rest) T := h
  by_cases hc : pkb s (i, bad) = 61
  · have HV := hide (show chgF s (i, bad) x = assF s (i + 1) x by rw [chgF, if_pos hc])
    obtain ⟨rfl, hi1⟩ := pkb_good (by rw [hc]; decide)
    rw [hc] at HP
    have HK := hide (fun W (hW : NR W r s (i + 1, false) rest T) => nassign_c r (i + 1) x s rest T W hs hi1 hW)
    generalize assF s (i + 1) x = q at *
    obtain ⟨⟨g0, g1, g2, g3, g4, g5, g6, g7, g8, g9, g10⟩, q⟩ := q
    clear h hc
    unfold NN.cells at HK
    dsimp only at HK
    go_enter Tryz.func114, Tryz.ntmps114
    go_wp2_with (go_at_call 79; refine (HP.out _ (by (show Blk _ _ _ _); (repeat' (first | ((with_reducible show (_ : List Value) = _); rfl) | with_reducible exact hb | ((with_reducible refine Blk.newAt _ _ _ ?_); first | with_reducible rfl | (simp; done)) | with_reducible refine Blk.alloc ?_ _ | with_reducible refine Blk.drewN ?_ _ | with_reducible refine Blk.drew ?_ | ((with_reducible refine Blk.other ?_ _ ?_); rotate_left; ((try dsimp only); omega)) | with_reducible refine Blk.setB (cs0 := ?_) ?_ ?_)))).mono ?_; rintro e w' ⟨rfl, n, rfl⟩)
    refine (HK.out _ (by (show Blk _ _ _ _); (repeat' (first | ((with_reducible show (_ : List Value) = _); rfl) | with_reducible exact hb | ((with_reducible refine Blk.newAt _ _ _ ?_); first | with_reducible rfl | (simp; done)) | with_reducible refine Blk.alloc ?_ _ | with_reducible refine Blk.drewN ?_ _ | with_reducible refine Blk.drew ?_ | ((with_reducible refine Blk.other ?_ _ ?_); rotate_left; ((try dsimp only); omega)) | with_reducible refine Blk.setB (cs0 := ?_) ?_ ?_)))).mono ?_
    rintro e w1 ⟨rfl, hNw1, kw1⟩
    have hbw1 : Blk w1 r (.string s :: .int .i64 q.1 :: .bool q.2 :: rest) T := hNw1
    have hrw1 := hbw1.lt
    have hR1 : Blk w1 w.heap.size [.string ⟨#[]⟩, .int .i64 0, .int .i64 0, .int .i64 0, .int .i64 0, .int .i64 0, .int .i64 0, .int .i64 0, .int .i64 0, .int .i64 0, .int .i64 0] 68 := kw1.blk (by (repeat' (first | ((with_reducible show (_ : List Value) = _); rfl) | with_reducible exact hb | ((with_reducible refine Blk.newAt _ _ _ ?_); first | with_reducible rfl | (simp; done)) | with_reducible refine Blk.alloc ?_ _ | with_reducible refine Blk.drewN ?_ _ | with_reducible refine Blk.drew ?_ | ((with_reducible refine Blk.other ?_ _ ?_); rotate_left; ((try dsimp only); omega)) | with_reducible refine Blk.setB (cs0 := ?_) ?_ ?_))) (by omega)
    obtain ⟨z1_0, z1_1, z1_2, z1_3, z1_4, z1_5, z1_6, z1_7, z1_8, z1_9, z1_10, zf1⟩ := hR1.c11
    have hz1 := hR1.lt
    go_wp2
    refine body_agg (Tb := 68) (b := w.heap.size) (cs := [.string g0, .int .i64 g1, .int .i64 g2, .int .i64 g3, .int .i64 g4, .int .i64 g5, .int .i64 g6, .int .i64 g7, .int .i64 g8, .int .i64 g9, .int .i64 g10]) (.inr rfl) Tryz.results114 rfl rfl (by (repeat' (first | ((with_reducible show (_ : List Value) = _); rfl) | with_reducible exact hR1 | ((with_reducible refine Blk.newAt _ _ _ ?_); first | with_reducible rfl | (simp; done)) | with_reducible refine Blk.alloc ?_ _ | with_reducible refine Blk.drewN ?_ _ | with_reducible refine Blk.drew ?_ | ((with_reducible refine Blk.other ?_ _ ?_); rotate_left; ((try dsimp only); omega)) | with_reducible refine Blk.setB (cs0 := ?_) ?_ ?_))) Tryz.underlying68 rfl (by kernel_rfl) ?_
    rw [HV.out]
    exact ⟨rfl, by (show Blk _ _ _ _); (repeat' (first | ((with_reducible show (_ : List Value) = _); rfl) | with_reducible exact hbw1 | ((with_reducible refine Blk.newAt _ _ _ ?_); first | with_reducible rfl | (simp; done)) | with_reducible refine Blk.alloc ?_ _ | with_reducible refine Blk.drewN ?_ _ | with_reducible refine Blk.drew ?_ | ((with_reducible refine Blk.other ?_ _ ?_); rotate_left; ((try dsimp only); omega)) | with_reducible refine Blk.setB (cs0 := ?_) ?_ ?_)), by (repeat' (first | with_reducible exact Kp.refl _ _ | with_reducible refine Kp.alloc ?_ _ | with_reducible refine Kp.drewN ?_ _ | with_reducible refine Kp.drew ?_ | with_reducible refine Kp.setCell ?_ _ ?_ | with_reducible refine Kp.trans ?_ kw1 (fun _ _ e => e) | (intro hh; first | rfl | exact .inl rfl | exact .inr rfl | (exfalso; (try dsimp only at hh); omega))))⟩
  by_cases hc2 : pkb s (i, bad) = 126
  · have HV := hide (show chgF s (i, bad) x = ({ nn0 with act := 10, x := x, kd := bit (kindF s (i + 1, false)).1 }, (kindF s (i + 1, false)).2) by rw [chgF, if_neg hc, if_pos hc2])
    obtain ⟨rfl, hi1⟩ := pkb_good (by rw [hc2]; decide)
    rw [hc2] at HP
    have HK := hide (fun W (hW : NR W r s (i + 1, false) rest T) => nkind_c r (i + 1) s false rest T W hs hi1 hW)
    generalize kindF s (i + 1, false) = q at *
    obtain ⟨k, q⟩ := q
    clear h hc hc2
    go_enter Tryz.func114, Tryz.ntmps114
    go_wp2_with (go_at_call 79; refine (HP.out _ (by (show Blk _ _ _ _); (repeat' (first | ((with_reducible show (_ : List Value) = _); rfl) | with_reducible exact hb | ((with_reducible refine Blk.newAt _ _ _ ?_); first | with_reducible rfl | (simp; done)) | with_reducible refine Blk.alloc ?_ _ | with_reducible refine Blk.drewN ?_ _ | with_reducible refine Blk.drew ?_ | ((with_reducible refine Blk.other ?_ _ ?_); rotate_left; ((try dsimp only); omega)) | with_reducible refine Blk.setB (cs0 := ?_) ?_ ?_)))).mono ?_; rintro e w' ⟨rfl, n, rfl⟩)
    refine (HK.out _ (by (show Blk _ _ _ _); (repeat' (first | ((with_reducible show (_ : List Value) = _); rfl) | with_reducible exact hb | ((with_reducible refine Blk.newAt _ _ _ ?_); first | with_reducible rfl | (simp; done)) | with_reducible refine Blk.alloc ?_ _ | with_reducible refine Blk.drewN ?_ _ | with_reducible refine Blk.drew ?_ | ((with_reducible refine Blk.other ?_ _ ?_); rotate_left; ((try dsimp only); omega)) | with_reducible refine Blk.setB (cs0 := ?_) ?_ ?_)))).mono ?_
    rintro e w1 ⟨rfl, hNw1, kw1⟩
    have hbw1 : Blk w1 r (.string s :: .int .i64 q.1 :: .bool q.2 :: rest) T := hNw1
    have hrw1 := hbw1.lt
    have hR1 : Blk w1 w.heap.size [.string ⟨#[]⟩, .int .i64 0, .int .i64 0, .int .i64 0, .int .i64 0, .int .i64 0, .int .i64 0, .int .i64 0, .int .i64 0, .int .i64 0, .int .i64 0] 68 := kw1.blk (by (repeat' (first | ((with_reducible show (_ : List Value) = _); rfl) | with_reducible exact hb | ((with_reducible refine Blk.newAt _ _ _ ?_); first | with_reducible rfl | (simp; done)) | with_reducible refine Blk.alloc ?_ _ | with_reducible refine Blk.drewN ?_ _ | with_reducible refine Blk.drew ?_ | ((with_reducible refine Blk.other ?_ _ ?_); rotate_left; ((try dsimp only); omega)) | with_reducible refine Blk.setB (cs0 := ?_) ?_ ?_))) (by omega)
    obtain ⟨z1_0, z1_1, z1_2, z1_3, z1_4, z1_5, z1_6, z1_7, z1_8, z1_9, z1_10, zf1⟩ := hR1.c11
    have hz1 := hR1.lt
    go_wp2
    refine body_agg (Tb := 68) (b := w.heap.size) (cs := [.string ⟨#[]⟩, .int .i64 10, .int .i64 x, .int .i64 0, .int .i64 0, .int .i64 0, .int .i64 0, .int .i64 0, .int .i64 (bit k), .int .i64 0, .int .i64 0]) (.inr rfl) Tryz.results114 rfl rfl (by (repeat' (first | ((with_reducible show (_ : List Value) = _); rfl) | with_reducible exact hR1 | ((with_reducible refine Blk.newAt _ _ _ ?_); first | with_reducible rfl | (simp; done)) | with_reducible refine Blk.alloc ?_ _ | with_reducible refine Blk.drewN ?_ _ | with_reducible refine Blk.drew ?_ | ((with_reducible refine Blk.other ?_ _ ?_); rotate_left; ((try dsimp only); omega)) | with_reducible refine Blk.setB (cs0 := ?_) ?_ ?_))) Tryz.underlying68 rfl (by kernel_rfl) ?_
    rw [HV.out]
    exact ⟨rfl, by (show Blk _ _ _ _); (repeat' (first | ((with_reducible show (_ : List Value) = _); rfl) | with_reducible exact hbw1 | ((with_reducible refine Blk.newAt _ _ _ ?_); first | with_reducible rfl | (simp; done)) | with_reducible refine Blk.alloc ?_ _ | with_reducible refine Blk.drewN ?_ _ | with_reducible refine Blk.drew ?_ | ((with_reducible refine Blk.other ?_ _ ?_); rotate_left; ((try dsimp only); omega)) | with_reducible refine Blk.setB (cs0 := ?_) ?_ ?_)), by (repeat' (first | with_reducible exact Kp.refl _ _ | with_reducible refine Kp.alloc ?_ _ | with_reducible refine Kp.drewN ?_ _ | with_reducible refine Kp.drew ?_ | with_reducible refine Kp.setCell ?_ _ ?_ | with_reducible refine Kp.trans ?_ kw1 (fun _ _ e => e) | (intro hh; first | rfl | exact .inl rfl | exact .inr rfl | (exfalso; (try dsimp only at hh); omega))))⟩
  · have HV := hide (show chgF s (i, bad) x = (nn0, (i, true)) by rw [chgF, if_neg hc, if_neg hc2])
    have f61 : ((pkb s (i, bad) : Int) == 61) = false := by simp; omega
    have f126 : ((pkb s (i, bad) : Int) == 126) = false := by simp; omega
    generalize pkb s (i, bad) = d at *
    clear h hc hc2
    go_enter Tryz.func114, Tryz.ntmps114
    go_wp2_with (go_at_call 79; refine (HP.out _ (by (show Blk _ _ _ _); (repeat' (first | ((with_reducible show (_ : List Value) = _); rfl) | with_reducible exact hb | ((with_reducible refine Blk.newAt _ _ _ ?_); first | with_reducible rfl | (simp; done)) | with_reducible refine Blk.alloc ?_ _ | with_reducible refine Blk.drewN ?_ _ | with_reducible refine Blk.drew ?_ | ((with_reducible refine Blk.other ?_ _ ?_); rotate_left; ((try dsimp only); omega)) | with_reducible refine Blk.setB (cs0 := ?_) ?_ ?_)))).mono ?_; rintro e w' ⟨rfl, n, rfl⟩)
    refine body_agg (Tb := 68) (b := w.heap.size) (cs := [.string ⟨#[]⟩, .int .i64 0, .int .i64 0, .int .i64 0, .int .i64 0, .int .i64 0, .int .i64 0, .int .i64 0, .int .i64 0, .int .i64 0, .int .i64 0]) (.inr rfl) Tryz.results114 rfl rfl (by (repeat' (first | ((with_reducible show (_ : List Value) = _); rfl) | ((with_reducible refine Blk.newAt _ _ _ ?_); first | with_reducible rfl | (simp; done)) | with_reducible refine Blk.alloc ?_ _ | with_reducible refine Blk.drewN ?_ _ | with_reducible refine Blk.drew ?_ | ((with_reducible refine Blk.other ?_ _ ?_); rotate_left; ((try dsimp only); omega)) | with_reducible refine Blk.setB (cs0 := ?_) ?_ ?_))) Tryz.underlying68 rfl (by kernel_rfl) ?_
    rw [HV.out]
    exact ⟨rfl, by (show Blk _ _ _ _); (repeat' (first | ((with_reducible show (_ : List Value) = _); rfl) | with_reducible exact hb | ((with_reducible refine Blk.newAt _ _ _ ?_); first | with_reducible rfl | (simp; done)) | with_reducible refine Blk.alloc ?_ _ | with_reducible refine Blk.drewN ?_ _ | with_reducible refine Blk.drew ?_ | ((with_reducible refine Blk.other ?_ _ ?_); rotate_left; ((try dsimp only); omega)) | with_reducible refine Blk.setB (cs0 := ?_) ?_ ?_)), by (repeat' (first | with_reducible exact Kp.refl _ _ | with_reducible refine Kp.alloc ?_ _ | with_reducible refine Kp.drewN ?_ _ | with_reducible refine Kp.drew ?_ | with_reducible refine Kp.setCell ?_ _ ?_ | (intro hh; first | rfl | exact .inl rfl | exact .inr rfl | (exfalso; (try dsimp only at hh); omega))))⟩

def nacF (s : ByteArray) (p : Nat × Bool) : NN × (Nat × Bool) :=
  if pkb s p = 94 then ({ nn0 with act := 9, y := (varF s (p.1 + 1, false)).1, w := (varF s (p.1 + 1, false)).1 }, (varF s (p.1 + 1, false)).2)
  else if pkb s p = 33 then ({ nn0 with act := 11 }, (p.1 + 1, false))
  else chgF s (varF s p).2 (varF s p).1

set_option maxHeartbeats 1600000 in
theorem naction_c (r i : Nat) (s : ByteArray) (bad : Bool) (rest : List Value) (T : TypeId) (w : World) (hs : s.size ≤ 1000) (hi : i ≤ s.size)
    (h : NR w r s (i, bad) rest T) :
    Calls Tryz.prog 112 #[.pointer (some ⟨r, 0, none⟩)] w fun e w' => e = .returned (.agg (nacF s (i, bad)).1.cells.toArray) ∧ NR w' r s (nacF s (i, bad)).2 rest T ∧ Kp (· = r) w w' := by
  have HP := hide (fun W (hW : NR W r s (i, bad) rest T) => npeek_c r i s bad rest T W hs hi hW)
  have hr := h.lt
  obtain ⟨h0, h1, h2, hf⟩ := h.c
  have hb : Blk w r (.string s :: .int .i64 i :: .bool bad :: rest) T := h
  by_cases hc : pkb s (i, bad) = 94
  · have HV := hide (show nacF s (i, bad) = ({ nn0 with act := 9, y := (varF s (i + 1, false)).1, w := (varF s (i + 1, false)).1 }, (varF s (i + 1, false)).2) by rw [nacF, if_pos hc])
    obtain ⟨rfl, hi1⟩ := pkb_good (by rw [hc]; decide)
    rw [hc] at HP
    have HK := hide (fun W (hW : NR W r s (i + 1, false) rest T) => nvariable_c r (i + 1) s false rest T W hs hi1 hW)
    generalize varF s (i + 1, false) = q at *
    obtain ⟨k, q⟩ := q
    clear h hc
    go_enter Tryz.func112, Tryz.ntmps112
    go_wp2_with (go_at_call 79; refine (HP.out _ (by (show Blk _ _ _ _); (repeat' (first | ((with_reducible show (_ : List Value) = _); rfl) | with_reducible exact hb | ((with_reducible refine Blk.newAt _ _ _ ?_); first | with_reducible rfl | (simp; done)) | with_reducible refine Blk.alloc ?_ _ | with_reducible refine Blk.drewN ?_ _ | with_reducible refine Blk.drew ?_ | ((with_reducible refine Blk.other ?_ _ ?_); rotate_left; ((try dsimp only); omega)) | with_reducible refine Blk.setB (cs0 := ?_) ?_ ?_)))).mono ?_; rintro e w' ⟨rfl, n, rfl⟩)
    refine (HK.out _ (by (show Blk _ _ _ _); (repeat' (first | ((with_reducible show (_ : List Value) = _); rfl) | with_reducible exact hb | ((with_reducible refine Blk.newAt _ _ _ ?_); first | with_reducible rfl | (simp; done)) | with_reducible refine Blk.alloc ?_ _ | with_reducible refine Blk.drewN ?_ _ | with_reducible refine Blk.drew ?_ | ((with_reducible refine Blk.other ?_ _ ?_); rotate_left; ((try dsimp only); omega)) | with_reducible refine Blk.setB (cs0 := ?_) ?_ ?_)))).mono ?_
    rintro e w1 ⟨rfl, hNw1, kw1⟩
    have hbw1 : Blk w1 r (.string s :: .int .i64 q.1 :: .bool q.2 :: rest) T := hNw1
    have hrw1 := hbw1.lt
    have hR1 : Blk w1 w.heap.size [.string ⟨#[]⟩, .int .i64 0, .int .i64 0, .int .i64 0, .int .i64 0, .int .i64 0, .int .i64 0, .int .i64 0, .int .i64 0, .int .i64 0, .int .i64 0] 68 := kw1.blk (by (repeat' (first | ((with_reducible show (_ : List Value) = _); rfl) | with_reducible exact hb | ((with_reducible refine Blk.newAt _ _ _ ?_); first | with_reducible rfl | (simp; done)) | with_reducible refine Blk.alloc ?_ _ | with_reducible refine Blk.drewN ?_ _ | with_reducible refine Blk.drew ?_ | ((with_reducible refine Blk.other ?_ _ ?_); rotate_left; ((try dsimp only); omega)) | with_reducible refine Blk.setB (cs0 := ?_) ?_ ?_))) (by omega)
    obtain ⟨z1_0, z1_1, z1_2, z1_3, z1_4, z1_5, z1_6, z1_7, z1_8, z1_9, z1_10, zf1⟩ := hR1.c11
    have hz1 := hR1.lt
    go_wp2
    refine body_agg (Tb := 68) (b := w.heap.size) (cs := [.string ⟨#[]⟩, .int .i64 9, .int .i64 0, .int .i64 k, .int .i64 k, .int .i64 0, .int .i64 0, .int .i64 0, .int .i64 0, .int .i64 0, .int .i64 0]) (.inr rfl) Tryz.results112 rfl rfl (by (repeat' (first | ((with_reducible show (_ : List Value) = _); rfl) | with_reducible exact hR1 | ((with_reducible refine Blk.newAt _ _ _ ?_); first | with_reducible rfl | (simp; done)) | with_reducible refine Blk.alloc ?_ _ | with_reducible refine Blk.drewN ?_ _ | with_reducible refine Blk.drew ?_ | ((with_reducible refine Blk.other ?_ _ ?_); rotate_left; ((try dsimp only); omega)) | with_reducible refine Blk.setB (cs0 := ?_) ?_ ?_))) Tryz.underlying68 rfl (by kernel_rfl) ?_
    rw [HV.out]
    exact ⟨rfl, by (show Blk _ _ _ _); (repeat' (first | ((with_reducible show (_ : List Value) = _); rfl) | with_reducible exact hbw1 | ((with_reducible refine Blk.newAt _ _ _ ?_); first | with_reducible rfl | (simp; done)) | with_reducible refine Blk.alloc ?_ _ | with_reducible refine Blk.drewN ?_ _ | with_reducible refine Blk.drew ?_ | ((with_reducible refine Blk.other ?_ _ ?_); rotate_left; ((try dsimp only); omega)) | with_reducible refine Blk.setB (cs0 := ?_) ?_ ?_)), by (repeat' (first | with_reducible exact Kp.refl _ _ | with_reducible refine Kp.alloc ?_ _ | with_reducible refine Kp.drewN ?_ _ | with_reducible refine Kp.drew ?_ | with_reducible refine Kp.setCell ?_ _ ?_ | with_reducible refine Kp.trans ?_ kw1 (fun _ _ e => e) | (intro hh; first | rfl | exact .inl rfl | exact .inr rfl | (exfalso; (try dsimp only at hh); omega))))⟩
  by_cases hc2 : pkb s (i, bad) = 33
  · have HV := hide (show nacF s (i, bad) = ({ nn0 with act := 11 }, (i + 1, false)) by rw [nacF, if_neg hc, if_pos hc2])
    obtain ⟨rfl, hi1⟩ := pkb_good (by rw [hc2]; decide)
    rw [hc2] at HP
    clear h hc hc2
    go_enter Tryz.func112, Tryz.ntmps112
    go_wp2_with (go_at_call 79; refine (HP.out _ (by (show Blk _ _ _ _); (repeat' (first | ((with_reducible show (_ : List Value) = _); rfl) | with_reducible exact hb | ((with_reducible refine Blk.newAt _ _ _ ?_); first | with_reducible rfl | (simp; done)) | with_reducible refine Blk.alloc ?_ _ | with_reducible refine Blk.drewN ?_ _ | with_reducible refine Blk.drew ?_ | ((with_reducible refine Blk.other ?_ _ ?_); rotate_left; ((try dsimp only); omega)) | with_reducible refine Blk.setB (cs0 := ?_) ?_ ?_)))).mono ?_; rintro e w' ⟨rfl, n, rfl⟩)
    refine body_agg (Tb := 68) (b := w.heap.size) (cs := [.string ⟨#[]⟩, .int .i64 11, .int .i64 0, .int .i64 0, .int .i64 0, .int .i64 0, .int .i64 0, .int .i64 0, .int .i64 0, .int .i64 0, .int .i64 0]) (.inr rfl) Tryz.results112 rfl rfl (by (repeat' (first | ((with_reducible show (_ : List Value) = _); rfl) | ((with_reducible refine Blk.newAt _ _ _ ?_); first | with_reducible rfl | (simp; done)) | with_reducible refine Blk.alloc ?_ _ | with_reducible refine Blk.drewN ?_ _ | with_reducible refine Blk.drew ?_ | ((with_reducible refine Blk.other ?_ _ ?_); rotate_left; ((try dsimp only); omega)) | with_reducible refine Blk.setB (cs0 := ?_) ?_ ?_))) Tryz.underlying68 rfl (by kernel_rfl) ?_
    rw [HV.out]
    exact ⟨rfl, by (show Blk _ _ _ _); (repeat' (first | ((with_reducible show (_ : List Value) = _); rfl) | with_reducible exact hb | ((with_reducible refine Blk.newAt _ _ _ ?_); first | with_reducible rfl | (simp; done)) | with_reducible refine Blk.alloc ?_ _ | with_reducible refine Blk.drewN ?_ _ | with_reducible refine Blk.drew ?_ | ((with_reducible refine Blk.other ?_ _ ?_); rotate_left; ((try dsimp only); omega)) | with_reducible refine Blk.setB (cs0 := ?_) ?_ ?_)), by (repeat' (first | with_reducible exact Kp.refl _ _ | with_reducible refine Kp.alloc ?_ _ | with_reducible refine Kp.drewN ?_ _ | with_reducible refine Kp.drew ?_ | with_reducible refine Kp.setCell ?_ _ ?_ | (intro hh; first | rfl | exact .inl rfl | exact .inr rfl | (exfalso; (try dsimp only at hh); omega))))⟩
  · have HV := hide (show nacF s (i, bad) = chgF s (varF s (i, bad)).2 (varF s (i, bad)).1 by rw [nacF, if_neg hc, if_neg hc2])
    have f94 : ((pkb s (i, bad) : Int) == 94) = false := by simp; omega
    have f33 : ((pkb s (i, bad) : Int) == 33) = false := by simp; omega
    have HK := hide (fun W (hW : NR W r s (i, bad) rest T) => nvariable_c r i s bad rest T W hs hi hW)
    have hq := varF_le s (i, bad) hi
    generalize pkb s (i, bad) = d at *
    have HK2 := hide (fun W (hW : NR W r s (varF s (i, bad)).2 rest T) => nchange_c r (varF s (i, bad)).2.1 (varF s (i, bad)).1 s (varF s (i, bad)).2.2 rest T W hs hq hW)
    generalize varF s (i, bad) = q at *
    obtain ⟨k, q⟩ := q
    dsimp only at HK2 HV HK
    rw [show (q.1, q.2) = q from rfl] at HK2
    generalize chgF s q k = q2 at *
    obtain ⟨⟨g0, g1, g2, g3, g4, g5, g6, g7, g8, g9, g10⟩, q2⟩ := q2
    clear h hc hc2
    unfold NN.cells at HK2
    dsimp only at HK2
    go_enter Tryz.func112, Tryz.ntmps112
    go_wp2_with (go_at_call 79; refine (HP.out _ (by (show Blk _ _ _ _); (repeat' (first | ((with_reducible show (_ : List Value) = _); rfl) | with_reducible exact hb | ((with_reducible refine Blk.newAt _ _ _ ?_); first | with_reducible rfl | (simp; done)) | with_reducible refine Blk.alloc ?_ _ | with_reducible refine Blk.drewN ?_ _ | with_reducible refine Blk.drew ?_ | ((with_reducible refine Blk.other ?_ _ ?_); rotate_left; ((try dsimp only); omega)) | with_reducible refine Blk.setB (cs0 := ?_) ?_ ?_)))).mono ?_; rintro e w' ⟨rfl, n, rfl⟩)
    refine (HK.out _ (by (show Blk _ _ _ _); (repeat' (first | ((with_reducible show (_ : List Value) = _); rfl) | with_reducible exact hb | ((with_reducible refine Blk.newAt _ _ _ ?_); first | with_reducible rfl | (simp; done)) | with_reducible refine Blk.alloc ?_ _ | with_reducible refine Blk.drewN ?_ _ | with_reducible refine Blk.drew ?_ | ((with_reducible refine Blk.other ?_ _ ?_); rotate_left; ((try dsimp only); omega)) | with_reducible refine Blk.setB (cs0 := ?_) ?_ ?_)))).mono ?_
    rintro e w1 ⟨rfl, hNw1, kw1⟩
    have hbw1 : Blk w1 r (.string s :: .int .i64 q.1 :: .bool q.2 :: rest) T := hNw1
    have hrw1 := hbw1.lt
    have hR1 : Blk w1 w.heap.size [.string ⟨#[]⟩, .int .i64 0, .int .i64 0, .int .i64 0, .int .i64 0, .int .i64 0, .int .i64 0, .int .i64 0, .int .i64 0, .int .i64 0, .int .i64 0] 68 := kw1.blk (by (repeat' (first | ((with_reducible show (_ : List Value) = _); rfl) | with_reducible exact hb | ((with_reducible refine Blk.newAt _ _ _ ?_); first | with_reducible rfl | (simp; done)) | with_reducible refine Blk.alloc ?_ _ | with_reducible refine Blk.drewN ?_ _ | with_reducible refine Blk.drew ?_ | ((with_reducible refine Blk.other ?_ _ ?_); rotate_left; ((try dsimp only); omega)) | with_reducible refine Blk.setB (cs0 := ?_) ?_ ?_))) (by omega)
    obtain ⟨z1_0, z1_1, z1_2, z1_3, z1_4, z1_5, z1_6, z1_7, z1_8, z1_9, z1_10, zf1⟩ := hR1.c11
    have hz1 := hR1.lt
    go_wp2_with fail
    refine (HK2.out _ (by (show Blk _ _ _ _); (repeat' (first | ((with_reducible show (_ : List Value) = _); rfl) | with_reducible exact hbw1 | ((with_reducible refine Blk.newAt _ _ _ ?_); first | with_reducible rfl | (simp; done)) | with_reducible refine Blk.alloc ?_ _ | with_reducible refine Blk.drewN ?_ _ | with_reducible refine Blk.drew ?_ | ((with_reducible refine Blk.other ?_ _ ?_); rotate_left; ((try dsimp only); omega)) | with_reducible refine Blk.setB (cs0 := ?_) ?_ ?_)))).mono ?_
    rintro e w2 ⟨rfl, hNw2, kw2⟩
    have hbw2 : Blk w2 r (.string s :: .int .i64 q2.1 :: .bool q2.2 :: rest) T := hNw2
    have hrw2 := hbw2.lt
    have hR2 : Blk w2 w.heap.size [.string ⟨#[]⟩, .int .i64 0, .int .i64 0, .int .i64 0, .int .i64 0, .int .i64 0, .int .i64 0, .int .i64 0, .int .i64 0, .int .i64 0, .int .i64 0] 68 := kw2.blk (by (repeat' (first | ((with_reducible show (_ : List Value) = _); rfl) | with_reducible exact hR1 | ((with_reducible refine Blk.newAt _ _ _ ?_); first | with_reducible rfl | (simp; done)) | with_reducible refine Blk.alloc ?_ _ | with_reducible refine Blk.drewN ?_ _ | with_reducible refine Blk.drew ?_ | ((with_reducible refine Blk.other ?_ _ ?_); rotate_left; ((try dsimp only); omega)) | with_reducible refine Blk.setB (cs0 := ?_) ?_ ?_))) (by omega)
    obtain ⟨z2_0, z2_1, z2_2, z2_3, z2_4, z2_5, z2_6, z2_7, z2_8, z2_9, z2_10, zf2⟩ := hR2.c11
    have hz2 := hR2.lt
    go_wp2
    refine body_agg (Tb := 68) (b := w.heap.size) (cs := [.string g0, .int .i64 g1, .int .i64 g2, .int .i64 g3, .int .i64 g4, .int .i64 g5, .int .i64 g6, .int .i64 g7, .int .i64 g8, .int .i64 g9, .int .i64 g10]) (.inr rfl) Tryz.results112 rfl rfl (by (repeat' (first | ((with_reducible show (_ : List Value) = _); rfl) | with_reducible exact hR2 | ((with_reducible refine Blk.newAt _ _ _ ?_); first | with_reducible rfl | (simp; done)) | with_reducible refine Blk.alloc ?_ _ | with_reducible refine Blk.drewN ?_ _ | with_reducible refine Blk.drew ?_ | ((with_reducible refine Blk.other ?_ _ ?_); rotate_left; ((try dsimp only); omega)) | with_reducible refine Blk.setB (cs0 := ?_) ?_ ?_))) Tryz.underlying68 rfl (by kernel_rfl) ?_
    rw [HV.out]
    exact ⟨rfl, by (show Blk _ _ _ _); (repeat' (first | ((with_reducible show (_ : List Value) = _); rfl) | with_reducible exact hbw2 | ((with_reducible refine Blk.newAt _ _ _ ?_); first | with_reducible rfl | (simp; done)) | with_reducible refine Blk.alloc ?_ _ | with_reducible refine Blk.drewN ?_ _ | with_reducible refine Blk.drew ?_ | ((with_reducible refine Blk.other ?_ _ ?_); rotate_left; ((try dsimp only); omega)) | with_reducible refine Blk.setB (cs0 := ?_) ?_ ?_)), by (repeat' (first | with_reducible exact Kp.refl _ _ | with_reducible refine Kp.alloc ?_ _ | with_reducible refine Kp.drewN ?_ _ | with_reducible refine Kp.drew ?_ | with_reducible refine Kp.setCell ?_ _ ?_ | with_reducible refine Kp.trans ?_ kw1 (fun _ _ e => e) | with_reducible refine Kp.trans ?_ kw2 (fun _ _ e => e) | (intro hh; first | rfl | exact .inl rfl | exact .inr rfl | (exfalso; (try dsimp only at hh); omega))))⟩

def gnF (s : ByteArray) (p : Nat × Bool) : NN × (Nat × Bool) :=
  if pkb s p = 42 then ({ nn0 with act := 14 }, (p.1 + 1, false))
  else if pkb s p = 94 ∨ pkb s p = 33 then nacF s p
  else if pkb s (varF s p).2 = 61 ∨ pkb s (varF s p).2 = 126 then chgF s (varF s p).2 (varF s p).1
  else queF s (varF s p).2 (varF s p).1

set_option maxHeartbeats 1600000 in
theorem ngraphNode_c (r i : Nat) (s : ByteArray) (bad : Bool) (rest : List Value) (T : TypeId) (w : World) (hs : s.size ≤ 1000) (hi : i ≤ s.size)
    (h : NR w r s (i, bad) rest T) :
    Calls Tryz.prog 69 #[.pointer (some ⟨r, 0, none⟩)] w fun e w' => e = .returned (.agg (gnF s (i, bad)).1.cells.toArray) ∧ NR w' r s (gnF s (i, bad)).2 rest T ∧ Kp (· = r) w w' := by
  have HP := hide (fun W (hW : NR W r s (i, bad) rest T) => npeek_c r i s bad rest T W hs hi hW)
  have hr := h.lt
  obtain ⟨h0, h1, h2, hf⟩ := h.c
  have hb : Blk w r (.string s :: .int .i64 i :: .bool bad :: rest) T := h
  by_cases hc : pkb s (i, bad) = 42
  · have HV := hide (show gnF s (i, bad) = ({ nn0 with act := 14 }, (i + 1, false)) by rw [gnF, if_pos hc])
    obtain ⟨rfl, hi1⟩ := pkb_good (by rw [hc]; decide)
    rw [hc] at HP
    clear h hc
    go_enter Tryz.func69, Tryz.ntmps69
    go_wp2_with (go_at_call 79; refine (HP.out _ (by (show Blk _ _ _ _); (repeat' (first | ((with_reducible show (_ : List Value) = _); rfl) | with_reducible exact hb | ((with_reducible refine Blk.newAt _ _ _ ?_); first | with_reducible rfl | (simp; done)) | with_reducible refine Blk.alloc ?_ _ | with_reducible refine Blk.drewN ?_ _ | with_reducible refine Blk.drew ?_ | ((with_reducible refine Blk.other ?_ _ ?_); rotate_left; ((try dsimp only); omega)) | with_reducible refine Blk.setB (cs0 := ?_) ?_ ?_)))).mono ?_; rintro e w' ⟨rfl, n, rfl⟩)
    refine body_agg (Tb := 68) (b := w.heap.size) (cs := [.string ⟨#[]⟩, .int .i64 14, .int .i64 0, .int .i64 0, .int .i64 0, .int .i64 0, .int .i64 0, .int .i64 0, .int .i64 0, .int .i64 0, .int .i64 0]) (.inr rfl) Tryz.results69 rfl rfl (by (repeat' (first | ((with_reducible show (_ : List Value) = _); rfl) | ((with_reducible refine Blk.newAt _ _ _ ?_); first | with_reducible rfl | (simp; done)) | with_reducible refine Blk.alloc ?_ _ | with_reducible refine Blk.drewN ?_ _ | with_reducible refine Blk.drew ?_ | ((with_reducible refine Blk.other ?_ _ ?_); rotate_left; ((try dsimp only); omega)) | with_reducible refine Blk.setB (cs0 := ?_) ?_ ?_))) Tryz.underlying68 rfl (by kernel_rfl) ?_
    rw [HV.out]
    exact ⟨rfl, by (show Blk _ _ _ _); (repeat' (first | ((with_reducible show (_ : List Value) = _); rfl) | with_reducible exact hb | ((with_reducible refine Blk.newAt _ _ _ ?_); first | with_reducible rfl | (simp; done)) | with_reducible refine Blk.alloc ?_ _ | with_reducible refine Blk.drewN ?_ _ | with_reducible refine Blk.drew ?_ | ((with_reducible refine Blk.other ?_ _ ?_); rotate_left; ((try dsimp only); omega)) | with_reducible refine Blk.setB (cs0 := ?_) ?_ ?_)), by (repeat' (first | with_reducible exact Kp.refl _ _ | with_reducible refine Kp.alloc ?_ _ | with_reducible refine Kp.drewN ?_ _ | with_reducible refine Kp.drew ?_ | with_reducible refine Kp.setCell ?_ _ ?_ | (intro hh; first | rfl | exact .inl rfl | exact .inr rfl | (exfalso; (try dsimp only at hh); omega))))⟩
  by_cases hc94 : pkb s (i, bad) = 94
  · have HV := hide (show gnF s (i, bad) = nacF s (i, bad) by rw [gnF, if_neg hc, if_pos (by omega)])
    obtain ⟨rfl, hi1⟩ := pkb_good (by rw [hc94]; decide)
    rw [hc94] at HP
    have HK := hide (fun W (hW : NR W r s (i, false) rest T) => naction_c r i s false rest T W hs hi hW)
    generalize nacF s (i, false) = q at *
    obtain ⟨⟨g0, g1, g2, g3, g4, g5, g6, g7, g8, g9, g10⟩, q⟩ := q
    clear h hc hc94
    unfold NN.cells at HK
    dsimp only at HK
    go_enter Tryz.func69, Tryz.ntmps69
    go_wp2_with (go_at_call 79; refine (HP.out _ (by (show Blk _ _ _ _); (repeat' (first | ((with_reducible show (_ : List Value) = _); rfl) | with_reducible exact hb | ((with_reducible refine Blk.newAt _ _ _ ?_); first | with_reducible rfl | (simp; done)) | with_reducible refine Blk.alloc ?_ _ | with_reducible refine Blk.drewN ?_ _ | with_reducible refine Blk.drew ?_ | ((with_reducible refine Blk.other ?_ _ ?_); rotate_left; ((try dsimp only); omega)) | with_reducible refine Blk.setB (cs0 := ?_) ?_ ?_)))).mono ?_; rintro e w' ⟨rfl, n, rfl⟩)
    refine (HK.out _ (by (show Blk _ _ _ _); (repeat' (first | ((with_reducible show (_ : List Value) = _); rfl) | with_reducible exact hb | ((with_reducible refine Blk.newAt _ _ _ ?_); first | with_reducible rfl | (simp; done)) | with_reducible refine Blk.alloc ?_ _ | with_reducible refine Blk.drewN ?_ _ | with_reducible refine Blk.drew ?_ | ((with_reducible refine Blk.other ?_ _ ?_); rotate_left; ((try dsimp only); omega)) | with_reducible refine Blk.setB (cs0 := ?_) ?_ ?_)))).mono ?_
    rintro e w1 ⟨rfl, hNw1, kw1⟩
    have hbw1 : Blk w1 r (.string s :: .int .i64 q.1 :: .bool q.2 :: rest) T := hNw1
    have hrw1 := hbw1.lt
    have hR1 : Blk w1 w.heap.size [.string ⟨#[]⟩, .int .i64 0, .int .i64 0, .int .i64 0, .int .i64 0, .int .i64 0, .int .i64 0, .int .i64 0, .int .i64 0, .int .i64 0, .int .i64 0] 68 := kw1.blk (by (repeat' (first | ((with_reducible show (_ : List Value) = _); rfl) | with_reducible exact hb | ((with_reducible refine Blk.newAt _ _ _ ?_); first | with_reducible rfl | (simp; done)) | with_reducible refine Blk.alloc ?_ _ | with_reducible refine Blk.drewN ?_ _ | with_reducible refine Blk.drew ?_ | ((with_reducible refine Blk.other ?_ _ ?_); rotate_left; ((try dsimp only); omega)) | with_reducible refine Blk.setB (cs0 := ?_) ?_ ?_))) (by omega)
    obtain ⟨z1_0, z1_1, z1_2, z1_3, z1_4, z1_5, z1_6, z1_7, z1_8, z1_9, z1_10, zf1⟩ := hR1.c11
    have hz1 := hR1.lt
    go_wp2
    refine body_agg (Tb := 68) (b := w.heap.size) (cs := [.string g0, .int .i64 g1, .int .i64 g2, .int .i64 g3, .int .i64 g4, .int .i64 g5, .int .i64 g6, .int .i64 g7, .int .i64 g8, .int .i64 g9, .int .i64 g10]) (.inr rfl) Tryz.results69 rfl rfl (by (repeat' (first | ((with_reducible show (_ : List Value) = _); rfl) | with_reducible exact hR1 | ((with_reducible refine Blk.newAt _ _ _ ?_); first | with_reducible rfl | (simp; done)) | with_reducible refine Blk.alloc ?_ _ | with_reducible refine Blk.drewN ?_ _ | with_reducible refine Blk.drew ?_ | ((with_reducible refine Blk.other ?_ _ ?_); rotate_left; ((try dsimp only); omega)) | with_reducible refine Blk.setB (cs0 := ?_) ?_ ?_))) Tryz.underlying68 rfl (by kernel_rfl) ?_
    rw [HV.out]
    exact ⟨rfl, by (show Blk _ _ _ _); (repeat' (first | ((with_reducible show (_ : List Value) = _); rfl) | with_reducible exact hbw1 | ((with_reducible refine Blk.newAt _ _ _ ?_); first | with_reducible rfl | (simp; done)) | with_reducible refine Blk.alloc ?_ _ | with_reducible refine Blk.drewN ?_ _ | with_reducible refine Blk.drew ?_ | ((with_reducible refine Blk.other ?_ _ ?_); rotate_left; ((try dsimp only); omega)) | with_reducible refine Blk.setB (cs0 := ?_) ?_ ?_)), by (repeat' (first | with_reducible exact Kp.refl _ _ | with_reducible refine Kp.alloc ?_ _ | with_reducible refine Kp.drewN ?_ _ | with_reducible refine Kp.drew ?_ | with_reducible refine Kp.setCell ?_ _ ?_ | with_reducible refine Kp.trans ?_ kw1 (fun _ _ e => e) | (intro hh; first | rfl | exact .inl rfl | exact .inr rfl | (exfalso; (try dsimp only at hh); omega))))⟩
  by_cases hc33 : pkb s (i, bad) = 33
  · have HV := hide (show gnF s (i, bad) = nacF s (i, bad) by rw [gnF, if_neg hc, if_pos (by omega)])
    obtain ⟨rfl, hi1⟩ := pkb_good (by rw [hc33]; decide)
    rw [hc33] at HP
    have HK := hide (fun W (hW : NR W r s (i, false) rest T) => naction_c r i s false rest T W hs hi hW)
    generalize nacF s (i, false) = q at *
    obtain ⟨⟨g0, g1, g2, g3, g4, g5, g6, g7, g8, g9, g10⟩, q⟩ := q
    clear h hc hc94 hc33
    unfold NN.cells at HK
    dsimp only at HK
    go_enter Tryz.func69, Tryz.ntmps69
    go_wp2_with (go_at_call 79; refine (HP.out _ (by (show Blk _ _ _ _); (repeat' (first | ((with_reducible show (_ : List Value) = _); rfl) | with_reducible exact hb | ((with_reducible refine Blk.newAt _ _ _ ?_); first | with_reducible rfl | (simp; done)) | with_reducible refine Blk.alloc ?_ _ | with_reducible refine Blk.drewN ?_ _ | with_reducible refine Blk.drew ?_ | ((with_reducible refine Blk.other ?_ _ ?_); rotate_left; ((try dsimp only); omega)) | with_reducible refine Blk.setB (cs0 := ?_) ?_ ?_)))).mono ?_; rintro e w' ⟨rfl, n, rfl⟩)
    refine (HK.out _ (by (show Blk _ _ _ _); (repeat' (first | ((with_reducible show (_ : List Value) = _); rfl) | with_reducible exact hb | ((with_reducible refine Blk.newAt _ _ _ ?_); first | with_reducible rfl | (simp; done)) | with_reducible refine Blk.alloc ?_ _ | with_reducible refine Blk.drewN ?_ _ | with_reducible refine Blk.drew ?_ | ((with_reducible refine Blk.other ?_ _ ?_); rotate_left; ((try dsimp only); omega)) | with_reducible refine Blk.setB (cs0 := ?_) ?_ ?_)))).mono ?_
    rintro e w1 ⟨rfl, hNw1, kw1⟩
    have hbw1 : Blk w1 r (.string s :: .int .i64 q.1 :: .bool q.2 :: rest) T := hNw1
    have hrw1 := hbw1.lt
    have hR1 : Blk w1 w.heap.size [.string ⟨#[]⟩, .int .i64 0, .int .i64 0, .int .i64 0, .int .i64 0, .int .i64 0, .int .i64 0, .int .i64 0, .int .i64 0, .int .i64 0, .int .i64 0] 68 := kw1.blk (by (repeat' (first | ((with_reducible show (_ : List Value) = _); rfl) | with_reducible exact hb | ((with_reducible refine Blk.newAt _ _ _ ?_); first | with_reducible rfl | (simp; done)) | with_reducible refine Blk.alloc ?_ _ | with_reducible refine Blk.drewN ?_ _ | with_reducible refine Blk.drew ?_ | ((with_reducible refine Blk.other ?_ _ ?_); rotate_left; ((try dsimp only); omega)) | with_reducible refine Blk.setB (cs0 := ?_) ?_ ?_))) (by omega)
    obtain ⟨z1_0, z1_1, z1_2, z1_3, z1_4, z1_5, z1_6, z1_7, z1_8, z1_9, z1_10, zf1⟩ := hR1.c11
    have hz1 := hR1.lt
    go_wp2
    refine body_agg (Tb := 68) (b := w.heap.size) (cs := [.string g0, .int .i64 g1, .int .i64 g2, .int .i64 g3, .int .i64 g4, .int .i64 g5, .int .i64 g6, .int .i64 g7, .int .i64 g8, .int .i64 g9, .int .i64 g10]) (.inr rfl) Tryz.results69 rfl rfl (by (repeat' (first | ((with_reducible show (_ : List Value) = _); rfl) | with_reducible exact hR1 | ((with_reducible refine Blk.newAt _ _ _ ?_); first | with_reducible rfl | (simp; done)) | with_reducible refine Blk.alloc ?_ _ | with_reducible refine Blk.drewN ?_ _ | with_reducible refine Blk.drew ?_ | ((with_reducible refine Blk.other ?_ _ ?_); rotate_left; ((try dsimp only); omega)) | with_reducible refine Blk.setB (cs0 := ?_) ?_ ?_))) Tryz.underlying68 rfl (by kernel_rfl) ?_
    rw [HV.out]
    exact ⟨rfl, by (show Blk _ _ _ _); (repeat' (first | ((with_reducible show (_ : List Value) = _); rfl) | with_reducible exact hbw1 | ((with_reducible refine Blk.newAt _ _ _ ?_); first | with_reducible rfl | (simp; done)) | with_reducible refine Blk.alloc ?_ _ | with_reducible refine Blk.drewN ?_ _ | with_reducible refine Blk.drew ?_ | ((with_reducible refine Blk.other ?_ _ ?_); rotate_left; ((try dsimp only); omega)) | with_reducible refine Blk.setB (cs0 := ?_) ?_ ?_)), by (repeat' (first | with_reducible exact Kp.refl _ _ | with_reducible refine Kp.alloc ?_ _ | with_reducible refine Kp.drewN ?_ _ | with_reducible refine Kp.drew ?_ | with_reducible refine Kp.setCell ?_ _ ?_ | with_reducible refine Kp.trans ?_ kw1 (fun _ _ e => e) | (intro hh; first | rfl | exact .inl rfl | exact .inr rfl | (exfalso; (try dsimp only at hh); omega))))⟩
  have f42 : ((pkb s (i, bad) : Int) == 42) = false := by simp; omega
  have f94 : ((pkb s (i, bad) : Int) == 94) = false := by simp; omega
  have f33 : ((pkb s (i, bad) : Int) == 33) = false := by simp; omega
  have HW : Hid (gnF s (i, bad) = if pkb s (varF s (i, bad)).2 = 61 ∨ pkb s (varF s (i, bad)).2 = 126 then chgF s (varF s (i, bad)).2 (varF s (i, bad)).1 else queF s (varF s (i, bad)).2 (varF s (i, bad)).1) := hide (by rw [gnF, if_neg hc, if_neg (by omega)])
  have HK := hide (fun W (hW : NR W r s (i, bad) rest T) => nvariable_c r i s bad rest T W hs hi hW)
  have hq := varF_le s (i, bad) hi
  generalize pkb s (i, bad) = d at *
  generalize varF s (i, bad) = q at *
  obtain ⟨k, q, qb⟩ := q
  dsimp only at HW HK hq
  have HP2 := hide (fun W (hW : NR W r s (q, qb) rest T) => npeek_c r q s qb rest T W hs hq hW)
  have HC := hide (fun W (hW : NR W r s (q, qb) rest T) => nchange_c r q k s qb rest T W hs hq hW)
  have HQ := hide (fun W (hW : NR W r s (q, qb) rest T) => nquestion_c r q k s qb rest T W hs hq hW)
  clear h hc hc94 hc33
  by_cases hd61 : pkb s (q, qb) = 61
  · have HV := hide (show gnF s (i, bad) = chgF s (q, qb) k by rw [HW.out, if_pos (by omega)])
    rw [hd61] at HP2
    generalize chgF s (q, qb) k = q2 at *
    obtain ⟨⟨g0, g1, g2, g3, g4, g5, g6, g7, g8, g9, g10⟩, q2⟩ := q2
    clear HW HQ hd61
    unfold NN.cells at HC
    dsimp only at HC
    go_enter Tryz.func69, Tryz.ntmps69
    go_wp2_with (go_at_call 79; refine (HP.out _ (by (show Blk _ _ _ _); (repeat' (first | ((with_reducible show (_ : List Value) = _); rfl) | with_reducible exact hb | ((with_reducible refine Blk.newAt _ _ _ ?_); first | with_reducible rfl | (simp; done)) | with_reducible refine Blk.alloc ?_ _ | with_reducible refine Blk.drewN ?_ _ | with_reducible refine Blk.drew ?_ | ((with_reducible refine Blk.other ?_ _ ?_); rotate_left; ((try dsimp only); omega)) | with_reducible refine Blk.setB (cs0 := ?_) ?_ ?_)))).mono ?_; rintro e w' ⟨rfl, n, rfl⟩)
    refine (HK.out _ (by (show Blk _ _ _ _); (repeat' (first | ((with_reducible show (_ : List Value) = _); rfl) | with_reducible exact hb | ((with_reducible refine Blk.newAt _ _ _ ?_); first | with_reducible rfl | (simp; done)) | with_reducible refine Blk.alloc ?_ _ | with_reducible refine Blk.drewN ?_ _ | with_reducible refine Blk.drew ?_ | ((with_reducible refine Blk.other ?_ _ ?_); rotate_left; ((try dsimp only); omega)) | with_reducible refine Blk.setB (cs0 := ?_) ?_ ?_)))).mono ?_
    rintro e w1 ⟨rfl, hNw1, kw1⟩
    have hbw1 : Blk w1 r (.string s :: .int .i64 (q, qb).1 :: .bool (q, qb).2 :: rest) T := hNw1
    have hrw1 := hbw1.lt
    have hR1 : Blk w1 w.heap.size [.string ⟨#[]⟩, .int .i64 0, .int .i64 0, .int .i64 0, .int .i64 0, .int .i64 0, .int .i64 0, .int .i64 0, .int .i64 0, .int .i64 0, .int .i64 0] 68 := kw1.blk (by (repeat' (first | ((with_reducible show (_ : List Value) = _); rfl) | with_reducible exact hb | ((with_reducible refine Blk.newAt _ _ _ ?_); first | with_reducible rfl | (simp; done)) | with_reducible refine Blk.alloc ?_ _ | with_reducible refine Blk.drewN ?_ _ | with_reducible refine Blk.drew ?_ | ((with_reducible refine Blk.other ?_ _ ?_); rotate_left; ((try dsimp only); omega)) | with_reducible refine Blk.setB (cs0 := ?_) ?_ ?_))) (by omega)
    obtain ⟨z1_0, z1_1, z1_2, z1_3, z1_4, z1_5, z1_6, z1_7, z1_8, z1_9, z1_10, zf1⟩ := hR1.c11
    have hz1 := hR1.lt
    go_wp2_with (go_at_call 79; refine (HP2.out _ (by (show Blk _ _ _ _); (repeat' (first | ((with_reducible show (_ : List Value) = _); rfl) | with_reducible exact hbw1 | ((with_reducible refine Blk.newAt _ _ _ ?_); first | with_reducible rfl | (simp; done)) | with_reducible refine Blk.alloc ?_ _ | with_reducible refine Blk.drewN ?_ _ | with_reducible refine Blk.drew ?_ | ((with_reducible refine Blk.other ?_ _ ?_); rotate_left; ((try dsimp only); omega)) | with_reducible refine Blk.setB (cs0 := ?_) ?_ ?_)))).mono ?_; rintro e w' ⟨rfl, n2, rfl⟩)
    refine (HC.out _ (by (show Blk _ _ _ _); (repeat' (first | ((with_reducible show (_ : List Value) = _); rfl) | with_reducible exact hbw1 | ((with_reducible refine Blk.newAt _ _ _ ?_); first | with_reducible rfl | (simp; done)) | with_reducible refine Blk.alloc ?_ _ | with_reducible refine Blk.drewN ?_ _ | with_reducible refine Blk.drew ?_ | ((with_reducible refine Blk.other ?_ _ ?_); rotate_left; ((try dsimp only); omega)) | with_reducible refine Blk.setB (cs0 := ?_) ?_ ?_)))).mono ?_
    rintro e w2 ⟨rfl, hNw2, kw2⟩
    have hbw2 : Blk w2 r (.string s :: .int .i64 q2.1 :: .bool q2.2 :: rest) T := hNw2
    have hrw2 := hbw2.lt
    have hR2 : Blk w2 w.heap.size [.string ⟨#[]⟩, .int .i64 0, .int .i64 0, .int .i64 0, .int .i64 0, .int .i64 0, .int .i64 0, .int .i64 0, .int .i64 0, .int .i64 0, .int .i64 0] 68 := kw2.blk (by (repeat' (first | ((with_reducible show (_ : List Value) = _); rfl) | with_reducible exact hR1 | ((with_reducible refine Blk.newAt _ _ _ ?_); first | with_reducible rfl | (simp; done)) | with_reducible refine Blk.alloc ?_ _ | with_reducible refine Blk.drewN ?_ _ | with_reducible refine Blk.drew ?_ | ((with_reducible refine Blk.other ?_ _ ?_); rotate_left; ((try dsimp only); omega)) | with_reducible refine Blk.setB (cs0 := ?_) ?_ ?_))) (by omega)
    obtain ⟨z2_0, z2_1, z2_2, z2_3, z2_4, z2_5, z2_6, z2_7, z2_8, z2_9, z2_10, zf2⟩ := hR2.c11
    have hz2 := hR2.lt
    go_wp2
    refine body_agg (Tb := 68) (b := w.heap.size) (cs := [.string g0, .int .i64 g1, .int .i64 g2, .int .i64 g3, .int .i64 g4, .int .i64 g5, .int .i64 g6, .int .i64 g7, .int .i64 g8, .int .i64 g9, .int .i64 g10]) (.inr rfl) Tryz.results69 rfl rfl (by (repeat' (first | ((with_reducible show (_ : List Value) = _); rfl) | with_reducible exact hR2 | ((with_reducible refine Blk.newAt _ _ _ ?_); first | with_reducible rfl | (simp; done)) | with_reducible refine Blk.alloc ?_ _ | with_reducible refine Blk.drewN ?_ _ | with_reducible refine Blk.drew ?_ | ((with_reducible refine Blk.other ?_ _ ?_); rotate_left; ((try dsimp only); omega)) | with_reducible refine Blk.setB (cs0 := ?_) ?_ ?_))) Tryz.underlying68 rfl (by kernel_rfl) ?_
    rw [HV.out]
    exact ⟨rfl, by (show Blk _ _ _ _); (repeat' (first | ((with_reducible show (_ : List Value) = _); rfl) | with_reducible exact hbw2 | ((with_reducible refine Blk.newAt _ _ _ ?_); first | with_reducible rfl | (simp; done)) | with_reducible refine Blk.alloc ?_ _ | with_reducible refine Blk.drewN ?_ _ | with_reducible refine Blk.drew ?_ | ((with_reducible refine Blk.other ?_ _ ?_); rotate_left; ((try dsimp only); omega)) | with_reducible refine Blk.setB (cs0 := ?_) ?_ ?_)), by (repeat' (first | with_reducible exact Kp.refl _ _ | with_reducible refine Kp.alloc ?_ _ | with_reducible refine Kp.drewN ?_ _ | with_reducible refine Kp.drew ?_ | with_reducible refine Kp.setCell ?_ _ ?_ | with_reducible refine Kp.trans ?_ kw1 (fun _ _ e => e) | with_reducible refine Kp.trans ?_ kw2 (fun _ _ e => e) | (intro hh; first | rfl | exact .inl rfl | exact .inr rfl | (exfalso; (try dsimp only at hh); omega))))⟩
  by_cases hd126 : pkb s (q, qb) = 126
  · have HV := hide (show gnF s (i, bad) = chgF s (q, qb) k by rw [HW.out, if_pos (by omega)])
    rw [hd126] at HP2
    generalize chgF s (q, qb) k = q2 at *
    obtain ⟨⟨g0, g1, g2, g3, g4, g5, g6, g7, g8, g9, g10⟩, q2⟩ := q2
    clear HW HQ hd61 hd126
    unfold NN.cells at HC
    dsimp only at HC
    go_enter Tryz.func69, Tryz.ntmps69
    go_wp2_with (go_at_call 79; refine (HP.out _ (by (show Blk _ _ _ _); (repeat' (first | ((with_reducible show (_ : List Value) = _); rfl) | with_reducible exact hb | ((with_reducible refine Blk.newAt _ _ _ ?_); first | with_reducible rfl | (simp; done)) | with_reducible refine Blk.alloc ?_ _ | with_reducible refine Blk.drewN ?_ _ | with_reducible refine Blk.drew ?_ | ((with_reducible refine Blk.other ?_ _ ?_); rotate_left; ((try dsimp only); omega)) | with_reducible refine Blk.setB (cs0 := ?_) ?_ ?_)))).mono ?_; rintro e w' ⟨rfl, n, rfl⟩)
    refine (HK.out _ (by (show Blk _ _ _ _); (repeat' (first | ((with_reducible show (_ : List Value) = _); rfl) | with_reducible exact hb | ((with_reducible refine Blk.newAt _ _ _ ?_); first | with_reducible rfl | (simp; done)) | with_reducible refine Blk.alloc ?_ _ | with_reducible refine Blk.drewN ?_ _ | with_reducible refine Blk.drew ?_ | ((with_reducible refine Blk.other ?_ _ ?_); rotate_left; ((try dsimp only); omega)) | with_reducible refine Blk.setB (cs0 := ?_) ?_ ?_)))).mono ?_
    rintro e w1 ⟨rfl, hNw1, kw1⟩
    have hbw1 : Blk w1 r (.string s :: .int .i64 (q, qb).1 :: .bool (q, qb).2 :: rest) T := hNw1
    have hrw1 := hbw1.lt
    have hR1 : Blk w1 w.heap.size [.string ⟨#[]⟩, .int .i64 0, .int .i64 0, .int .i64 0, .int .i64 0, .int .i64 0, .int .i64 0, .int .i64 0, .int .i64 0, .int .i64 0, .int .i64 0] 68 := kw1.blk (by (repeat' (first | ((with_reducible show (_ : List Value) = _); rfl) | with_reducible exact hb | ((with_reducible refine Blk.newAt _ _ _ ?_); first | with_reducible rfl | (simp; done)) | with_reducible refine Blk.alloc ?_ _ | with_reducible refine Blk.drewN ?_ _ | with_reducible refine Blk.drew ?_ | ((with_reducible refine Blk.other ?_ _ ?_); rotate_left; ((try dsimp only); omega)) | with_reducible refine Blk.setB (cs0 := ?_) ?_ ?_))) (by omega)
    obtain ⟨z1_0, z1_1, z1_2, z1_3, z1_4, z1_5, z1_6, z1_7, z1_8, z1_9, z1_10, zf1⟩ := hR1.c11
    have hz1 := hR1.lt
    go_wp2_with (go_at_call 79; refine (HP2.out _ (by (show Blk _ _ _ _); (repeat' (first | ((with_reducible show (_ : List Value) = _); rfl) | with_reducible exact hbw1 | ((with_reducible refine Blk.newAt _ _ _ ?_); first | with_reducible rfl | (simp; done)) | with_reducible refine Blk.alloc ?_ _ | with_reducible refine Blk.drewN ?_ _ | with_reducible refine Blk.drew ?_ | ((with_reducible refine Blk.other ?_ _ ?_); rotate_left; ((try dsimp only); omega)) | with_reducible refine Blk.setB (cs0 := ?_) ?_ ?_)))).mono ?_; rintro e w' ⟨rfl, n2, rfl⟩)
    refine (HC.out _ (by (show Blk _ _ _ _); (repeat' (first | ((with_reducible show (_ : List Value) = _); rfl) | with_reducible exact hbw1 | ((with_reducible refine Blk.newAt _ _ _ ?_); first | with_reducible rfl | (simp; done)) | with_reducible refine Blk.alloc ?_ _ | with_reducible refine Blk.drewN ?_ _ | with_reducible refine Blk.drew ?_ | ((with_reducible refine Blk.other ?_ _ ?_); rotate_left; ((try dsimp only); omega)) | with_reducible refine Blk.setB (cs0 := ?_) ?_ ?_)))).mono ?_
    rintro e w2 ⟨rfl, hNw2, kw2⟩
    have hbw2 : Blk w2 r (.string s :: .int .i64 q2.1 :: .bool q2.2 :: rest) T := hNw2
    have hrw2 := hbw2.lt
    have hR2 : Blk w2 w.heap.size [.string ⟨#[]⟩, .int .i64 0, .int .i64 0, .int .i64 0, .int .i64 0, .int .i64 0, .int .i64 0, .int .i64 0, .int .i64 0, .int .i64 0, .int .i64 0] 68 := kw2.blk (by (repeat' (first | ((with_reducible show (_ : List Value) = _); rfl) | with_reducible exact hR1 | ((with_reducible refine Blk.newAt _ _ _ ?_); first | with_reducible rfl | (simp; done)) | with_reducible refine Blk.alloc ?_ _ | with_reducible refine Blk.drewN ?_ _ | with_reducible refine Blk.drew ?_ | ((with_reducible refine Blk.other ?_ _ ?_); rotate_left; ((try dsimp only); omega)) | with_reducible refine Blk.setB (cs0 := ?_) ?_ ?_))) (by omega)
    obtain ⟨z2_0, z2_1, z2_2, z2_3, z2_4, z2_5, z2_6, z2_7, z2_8, z2_9, z2_10, zf2⟩ := hR2.c11
    have hz2 := hR2.lt
    go_wp2
    refine body_agg (Tb := 68) (b := w.heap.size) (cs := [.string g0, .int .i64 g1, .int .i64 g2, .int .i64 g3, .int .i64 g4, .int .i64 g5, .int .i64 g6, .int .i64 g7, .int .i64 g8, .int .i64 g9, .int .i64 g10]) (.inr rfl) Tryz.results69 rfl rfl (by (repeat' (first | ((with_reducible show (_ : List Value) = _); rfl) | with_reducible exact hR2 | ((with_reducible refine Blk.newAt _ _ _ ?_); first | with_reducible rfl | (simp; done)) | with_reducible refine Blk.alloc ?_ _ | with_reducible refine Blk.drewN ?_ _ | with_reducible refine Blk.drew ?_ | ((with_reducible refine Blk.other ?_ _ ?_); rotate_left; ((try dsimp only); omega)) | with_reducible refine Blk.setB (cs0 := ?_) ?_ ?_))) Tryz.underlying68 rfl (by kernel_rfl) ?_
    rw [HV.out]
    exact ⟨rfl, by (show Blk _ _ _ _); (repeat' (first | ((with_reducible show (_ : List Value) = _); rfl) | with_reducible exact hbw2 | ((with_reducible refine Blk.newAt _ _ _ ?_); first | with_reducible rfl | (simp; done)) | with_reducible refine Blk.alloc ?_ _ | with_reducible refine Blk.drewN ?_ _ | with_reducible refine Blk.drew ?_ | ((with_reducible refine Blk.other ?_ _ ?_); rotate_left; ((try dsimp only); omega)) | with_reducible refine Blk.setB (cs0 := ?_) ?_ ?_)), by (repeat' (first | with_reducible exact Kp.refl _ _ | with_reducible refine Kp.alloc ?_ _ | with_reducible refine Kp.drewN ?_ _ | with_reducible refine Kp.drew ?_ | with_reducible refine Kp.setCell ?_ _ ?_ | with_reducible refine Kp.trans ?_ kw1 (fun _ _ e => e) | with_reducible refine Kp.trans ?_ kw2 (fun _ _ e => e) | (intro hh; first | rfl | exact .inl rfl | exact .inr rfl | (exfalso; (try dsimp only at hh); omega))))⟩
  · have HV := hide (show gnF s (i, bad) = queF s (q, qb) k by rw [HW.out, if_neg (by omega)])
    have f61 : ((pkb s (q, qb) : Int) == 61) = false := by simp; omega
    have f126 : ((pkb s (q, qb) : Int) == 126) = false := by simp; omega
    generalize queF s (q, qb) k = q2 at *
    generalize pkb s (q, qb) = d2 at *
    obtain ⟨⟨g0, g1, g2, g3, g4, g5, g6, g7, g8, g9, g10⟩, q2⟩ := q2
    clear HW HC hd61 hd126
    unfold NN.cells at HQ
    dsimp only at HQ
    go_enter Tryz.func69, Tryz.ntmps69
    go_wp2_with (go_at_call 79; refine (HP.out _ (by (show Blk _ _ _ _); (repeat' (first | ((with_reducible show (_ : List Value) = _); rfl) | with_reducible exact hb | ((with_reducible refine Blk.newAt _ _ _ ?_); first | with_reducible rfl | (simp; done)) | with_reducible refine Blk.alloc ?_ _ | with_reducible refine Blk.drewN ?_ _ | with_reducible refine Blk.drew ?_ | ((with_reducible refine Blk.other ?_ _ ?_); rotate_left; ((try dsimp only); omega)) | with_reducible refine Blk.setB (cs0 := ?_) ?_ ?_)))).mono ?_; rintro e w' ⟨rfl, n, rfl⟩)
    refine (HK.out _ (by (show Blk _ _ _ _); (repeat' (first | ((with_reducible show (_ : List Value) = _); rfl) | with_reducible exact hb | ((with_reducible refine Blk.newAt _ _ _ ?_); first | with_reducible rfl | (simp; done)) | with_reducible refine Blk.alloc ?_ _ | with_reducible refine Blk.drewN ?_ _ | with_reducible refine Blk.drew ?_ | ((with_reducible refine Blk.other ?_ _ ?_); rotate_left; ((try dsimp only); omega)) | with_reducible refine Blk.setB (cs0 := ?_) ?_ ?_)))).mono ?_
    rintro e w1 ⟨rfl, hNw1, kw1⟩
    have hbw1 : Blk w1 r (.string s :: .int .i64 (q, qb).1 :: .bool (q, qb).2 :: rest) T := hNw1
    have hrw1 := hbw1.lt
    have hR1 : Blk w1 w.heap.size [.string ⟨#[]⟩, .int .i64 0, .int .i64 0, .int .i64 0, .int .i64 0, .int .i64 0, .int .i64 0, .int .i64 0, .int .i64 0, .int .i64 0, .int .i64 0] 68 := kw1.blk (by (repeat' (first | ((with_reducible show (_ : List Value) = _); rfl) | with_reducible exact hb | ((with_reducible refine Blk.newAt _ _ _ ?_); first | with_reducible rfl | (simp; done)) | with_reducible refine Blk.alloc ?_ _ | with_reducible refine Blk.drewN ?_ _ | with_reducible refine Blk.drew ?_ | ((with_reducible refine Blk.other ?_ _ ?_); rotate_left; ((try dsimp only); omega)) | with_reducible refine Blk.setB (cs0 := ?_) ?_ ?_))) (by omega)
    obtain ⟨z1_0, z1_1, z1_2, z1_3, z1_4, z1_5, z1_6, z1_7, z1_8, z1_9, z1_10, zf1⟩ := hR1.c11
    have hz1 := hR1.lt
    go_wp2_with (go_at_call 79; refine (HP2.out _ (by (show Blk _ _ _ _); (repeat' (first | ((with_reducible show (_ : List Value) = _); rfl) | with_reducible exact hbw1 | ((with_reducible refine Blk.newAt _ _ _ ?_); first | with_reducible rfl | (simp; done)) | with_reducible refine Blk.alloc ?_ _ | with_reducible refine Blk.drewN ?_ _ | with_reducible refine Blk.drew ?_ | ((with_reducible refine Blk.other ?_ _ ?_); rotate_left; ((try dsimp only); omega)) | with_reducible refine Blk.setB (cs0 := ?_) ?_ ?_)))).mono ?_; rintro e w' ⟨rfl, n2, rfl⟩)
    refine (HQ.out _ (by (show Blk _ _ _ _); (repeat' (first | ((with_reducible show (_ : List Value) = _); rfl) | with_reducible exact hbw1 | ((with_reducible refine Blk.newAt _ _ _ ?_); first | with_reducible rfl | (simp; done)) | with_reducible refine Blk.alloc ?_ _ | with_reducible refine Blk.drewN ?_ _ | with_reducible refine Blk.drew ?_ | ((with_reducible refine Blk.other ?_ _ ?_); rotate_left; ((try dsimp only); omega)) | with_reducible refine Blk.setB (cs0 := ?_) ?_ ?_)))).mono ?_
    rintro e w2 ⟨rfl, hNw2, kw2⟩
    have hbw2 : Blk w2 r (.string s :: .int .i64 q2.1 :: .bool q2.2 :: rest) T := hNw2
    have hrw2 := hbw2.lt
    have hR2 : Blk w2 w.heap.size [.string ⟨#[]⟩, .int .i64 0, .int .i64 0, .int .i64 0, .int .i64 0, .int .i64 0, .int .i64 0, .int .i64 0, .int .i64 0, .int .i64 0, .int .i64 0] 68 := kw2.blk (by (repeat' (first | ((with_reducible show (_ : List Value) = _); rfl) | with_reducible exact hR1 | ((with_reducible refine Blk.newAt _ _ _ ?_); first | with_reducible rfl | (simp; done)) | with_reducible refine Blk.alloc ?_ _ | with_reducible refine Blk.drewN ?_ _ | with_reducible refine Blk.drew ?_ | ((with_reducible refine Blk.other ?_ _ ?_); rotate_left; ((try dsimp only); omega)) | with_reducible refine Blk.setB (cs0 := ?_) ?_ ?_))) (by omega)
    obtain ⟨z2_0, z2_1, z2_2, z2_3, z2_4, z2_5, z2_6, z2_7, z2_8, z2_9, z2_10, zf2⟩ := hR2.c11
    have hz2 := hR2.lt
    go_wp2
    refine body_agg (Tb := 68) (b := w.heap.size) (cs := [.string g0, .int .i64 g1, .int .i64 g2, .int .i64 g3, .int .i64 g4, .int .i64 g5, .int .i64 g6, .int .i64 g7, .int .i64 g8, .int .i64 g9, .int .i64 g10]) (.inr rfl) Tryz.results69 rfl rfl (by (repeat' (first | ((with_reducible show (_ : List Value) = _); rfl) | with_reducible exact hR2 | ((with_reducible refine Blk.newAt _ _ _ ?_); first | with_reducible rfl | (simp; done)) | with_reducible refine Blk.alloc ?_ _ | with_reducible refine Blk.drewN ?_ _ | with_reducible refine Blk.drew ?_ | ((with_reducible refine Blk.other ?_ _ ?_); rotate_left; ((try dsimp only); omega)) | with_reducible refine Blk.setB (cs0 := ?_) ?_ ?_))) Tryz.underlying68 rfl (by kernel_rfl) ?_
    rw [HV.out]
    exact ⟨rfl, by (show Blk _ _ _ _); (repeat' (first | ((with_reducible show (_ : List Value) = _); rfl) | with_reducible exact hbw2 | ((with_reducible refine Blk.newAt _ _ _ ?_); first | with_reducible rfl | (simp; done)) | with_reducible refine Blk.alloc ?_ _ | with_reducible refine Blk.drewN ?_ _ | with_reducible refine Blk.drew ?_ | ((with_reducible refine Blk.other ?_ _ ?_); rotate_left; ((try dsimp only); omega)) | with_reducible refine Blk.setB (cs0 := ?_) ?_ ?_)), by (repeat' (first | with_reducible exact Kp.refl _ _ | with_reducible refine Kp.alloc ?_ _ | with_reducible refine Kp.drewN ?_ _ | with_reducible refine Kp.drew ?_ | with_reducible refine Kp.setCell ?_ _ ?_ | with_reducible refine Kp.trans ?_ kw1 (fun _ _ e => e) | with_reducible refine Kp.trans ?_ kw2 (fun _ _ e => e) | (intro hh; first | rfl | exact .inl rfl | exact .inr rfl | (exfalso; (try dsimp only at hh); omega))))⟩

end Go.Proofs.YtellieabhaphhabGreatDoor

/-
  narrowref's reader: the walk of a line.
-/
namespace Go.Proofs.YtellieabhaphhabGreatDoor
open Go.RowKit

/-- A block that is not the reader's stays. -/
theorem Th.blk {O O' : Nat → Prop} {w w' : World} (h : Th O w O' w') {b : Nat} {cs : List Value} {T : TypeId} (k : Blk w b cs T) (hb : ¬ O b) : Blk w' b cs T ∧ ¬ O' b :=
  ⟨h.1.blk k hb, fun e => hb (h.2 b e k.lt)⟩

def lineR (s : ByteArray) (st : RS) (z : Nd × (Nat × Bool)) : RS :=
  if z.2.2 = true then { st with i := z.2.1, bad := true }
  else { st with i := (eatF s (lineG s z.1 (lineT s z.1 z.2).2).2 59).1, bad := (eatF s (lineG s z.1 (lineT s z.1 z.2).2).2 59).2, nodes := st.nodes ++ [{ z.1 with t := (lineT s z.1 z.2).1, f := (lineG s z.1 (lineT s z.1 z.2).2).1 }] }

theorem lineF_eq (s : ByteArray) (st : RS) : lineF s st = lineR s st (lineN s st.i) := rfl

end Go.Proofs.YtellieabhaphhabGreatDoor

/-
  narrowref's machine: values.
-/
namespace Go.Proofs.YtellieabhaphhabGreatDoor
open Go.RowKit

def partF (y : Vl) : Vl := if y.k = 65 then ⟨110, y.n, 0⟩ else ⟨y.v, 0, 0⟩

def consF (n : Nd) : Vl :=
  if n.op = 48 then ⟨110, n.k - 48, 0⟩ else if n.op = 84 then ⟨116, 0, 0⟩ else if n.op = 70 then ⟨102, 0, 0⟩ else if n.op = 67 then ⟨67, 0, 0⟩ else ⟨122, 0, 0⟩

def holdF (n : Nd) (v : Vl) : Bool := if n.op = 58 then v.k == n.k else (v.k != 102 && v.k != 122 && (v.k != 110 || v.n != 0))

theorem MB.vu {w : World} {m lb : Nat} {inp : ByteArray} {st : Mc} (h : MB w m lb inp st) {i : Nat} {u : Vl} (hu : st.l[i]? = some u) :
    i < 6 ∧ w.cell? ⟨lb, i * 3, none⟩ = some (.int .u8 u.k) ∧ w.cell? ⟨lb, i * 3 + 1, none⟩ = some (.int .i64 u.n) ∧ w.cell? ⟨lb, i * 3 + 2, none⟩ = some (.int .u8 u.v) := by
  obtain ⟨hi, rfl⟩ := List.getElem?_eq_some_iff.1 hu
  exact ⟨by have := h.six; omega, h.vs i hi⟩

end Go.Proofs.YtellieabhaphhabGreatDoor

-- The shelf at this dump, by program.
namespace Go.Proofs
open Go.Shelf
def Tryz.laysM171_ren : Go.Shelf.Ren := ⟨fun | 171 => 128 | 243 => 155 | 246 => 167 | 283 => 170 | 284 => 171 | 285 => 172 | 286 => 173 | 129 => 175 | 317 => 174 | 318 => 176 | 319 => 177 | 320 => 178 | 337 => 179 | 338 => 180 | n => n, fun | 3 => 3 | 9 => 9 | 2 => 2 | 4 => 4 | 171 => 195 | 0 => 0 | 53 => 196 | 37 => 167 | 5 => 5 | 173 => 199 | 212 => 202 | 51 => 203 | 20 => 20 | 213 => 204 | 46 => 205 | 232 => 208 | 233 => 209 | n => n, fun | 17 => 0 | 18 => 1 | 19 => 2 | n => n⟩
theorem Tryz.laysM171 : Go.Proofs.LaysM.n171 Tryz.prog Tryz.laysM171_ren := {
  mixed := by kernel_rfl
  f129 := Tryz.func175.trans (congrArg some (by kernel_rfl))
  f171 := Tryz.func128.trans (congrArg some (by kernel_rfl))
  f243 := Tryz.func155.trans (congrArg some (by kernel_rfl))
  f246 := Tryz.func167.trans (congrArg some (by kernel_rfl))
  f283 := Tryz.func170.trans (congrArg some (by kernel_rfl))
  f284 := Tryz.func171.trans (congrArg some (by kernel_rfl))
  f285 := Tryz.func172.trans (congrArg some (by kernel_rfl))
  f286 := Tryz.func173.trans (congrArg some (by kernel_rfl))
  f317 := Tryz.func174.trans (congrArg some (by kernel_rfl))
  f318 := Tryz.func176.trans (congrArg some (by kernel_rfl))
  f319 := Tryz.func177.trans (congrArg some (by kernel_rfl))
  f320 := Tryz.func178.trans (congrArg some (by kernel_rfl))
  f337 := Tryz.func179.trans (congrArg some (by kernel_rfl))
  f338 := Tryz.func180.trans (congrArg some (by kernel_rfl))
  t0 := Tryz.underlying0
  a0 := Tryz.isAgg0
  z0 := Tryz.sizeOf0
  v0 := Tryz.zeroValue0
  t2 := Tryz.underlying2
  a2 := Tryz.isAgg2
  z2 := Tryz.sizeOf2
  v2 := Tryz.zeroValue2
  t3 := Tryz.underlying3
  a3 := Tryz.isAgg3
  z3 := Tryz.sizeOf3
  v3 := Tryz.zeroValue3
  t4 := Tryz.underlying4
  a4 := Tryz.isAgg4
  z4 := Tryz.sizeOf4
  v4 := Tryz.zeroValue4
  t5 := Tryz.underlying5
  a5 := Tryz.isAgg5
  z5 := Tryz.sizeOf5
  v5 := Tryz.zeroValue5
  t9 := Tryz.underlying9
  a9 := Tryz.isAgg9
  z9 := Tryz.sizeOf9
  v9 := Tryz.zeroValue9
  t20 := Tryz.underlying20
  a20 := Tryz.isAgg20
  z20 := Tryz.sizeOf20
  v20 := Tryz.zeroValue20
  t37 := Tryz.underlying167
  a37 := Tryz.isAgg167
  z37 := Tryz.sizeOf167
  v37 := Tryz.zeroValue167
  t46 := Tryz.underlying205
  a46 := Tryz.isAgg205
  z46 := Tryz.sizeOf205
  v46 := Tryz.zeroValue205
  t51 := Tryz.underlying203
  a51 := Tryz.isAgg203
  z51 := Tryz.sizeOf203
  v51 := Tryz.zeroValue203
  t53 := Tryz.underlying196
  a53 := Tryz.isAgg196
  z53 := Tryz.sizeOf196
  v53 := Tryz.zeroValue196
  t171 := Tryz.underlying195
  a171 := Tryz.isAgg195
  z171 := Tryz.sizeOf195
  v171 := Tryz.zeroValue195
  t173 := Tryz.underlying199
  a173 := Tryz.isAgg199
  z173 := Tryz.sizeOf199
  v173 := Tryz.zeroValue199
  t212 := Tryz.underlying202
  a212 := Tryz.isAgg202
  z212 := Tryz.sizeOf202
  v212 := Tryz.zeroValue202
  t213 := Tryz.underlying204
  a213 := Tryz.isAgg204
  z213 := Tryz.sizeOf204
  t232 := Tryz.underlying208
  a232 := Tryz.isAgg208
  z232 := Tryz.sizeOf208
  v232 := Tryz.zeroValue208
  t233 := Tryz.underlying209
  a233 := Tryz.isAgg209
  z233 := Tryz.sizeOf209
  v233 := Tryz.zeroValue209
  g17 := by kernel_rfl
  g18 := by kernel_rfl
  g19 := by kernel_rfl
  i0 := by kernel_rfl
  i2 := by kernel_rfl
  i3 := by kernel_rfl
  i4 := by kernel_rfl
  i5 := by kernel_rfl
  i9 := by kernel_rfl
  i20 := by kernel_rfl
  i37 := by kernel_rfl
  i46 := by kernel_rfl
  i51 := by kernel_rfl
  i53 := by kernel_rfl
  i171 := by kernel_rfl
  i173 := by kernel_rfl
  i212 := by kernel_rfl
  i232 := by kernel_rfl
  i233 := by kernel_rfl
  m17 := by kernel_rfl
  m18 := by kernel_rfl
  m19 := by kernel_rfl }
open Go.RowKit Go.Sort Go.Lib in

theorem Tryz.strconv_Itoa (n : Int) (h0 : -9223372036854775808 ≤ n) (h1 : n ≤ 9223372036854775807) (w : World) (htab : Lib.TabIs Tryz.prog w "internal/strconv.uint64pow10" .u64 Lib.pow10Tab) :
    Calls Tryz.prog 128 #[.int .i64 n] w fun e w' => e = .returned (.string ⟨(Lib.itoa n).toArray⟩) ∧ ∃ k os, w' = grow (w.drewN k) os := Any.strconv_Itoa Tryz.laysM171 n h0 h1 w htab
end Go.Proofs

/-
  narrowref's machine: values as they are put out.
-/
namespace Go.Proofs.YtellieabhaphhabGreatDoor
open Go.RowKit

/-- The library's table of powers is as it was laid. -/
def Tab (w : World) : Prop := Lib.TabIs Tryz.prog w "internal/strconv.uint64pow10" .u64 Lib.pow10Tab

theorem gtab : Tryz.prog.globalNamed "internal/strconv.uint64pow10" = some 0 := by kernel_rfl

theorem Tab.lt {w : World} (h : Tab w) : 0 < w.heap.size := by
  have h' : w.var? Tryz.prog "internal/strconv.uint64pow10" = some _ := h
  simp only [World.var?, gtab, Option.bind_some] at h'
  rcases Nat.lt_or_ge 0 w.heap.size with hl | hg
  · exact hl
  · rw [Array.getElem?_eq_none hg] at h'; simp at h'

theorem Tab.kp {S : Nat → Prop} {w w' : World} (h : Tab w) (k : Kp S w w') (hS : ¬ S 0) : Tab w' := by
  have h' : w.var? Tryz.prog "internal/strconv.uint64pow10" = some _ := h
  have e := k.block 0 h.lt hS
  show w'.var? Tryz.prog "internal/strconv.uint64pow10" = some _
  simp only [World.var?, gtab, Option.bind_some] at h' ⊢
  rw [e]
  exact h'

def itoaB (n : Int) : ByteArray := ⟨(Lib.itoa n).toArray⟩

theorem grow_kp (w : World) (k : Nat) (os : Array Obj) : Kp no w (Go.Sort.grow (w.drewN k) os) :=
  ⟨rfl, rfl, rfl, by simp [Go.Sort.grow], fun i hi _ => by
    show (w.heap ++ os)[i]? = _
    rw [Array.getElem?_append_left hi]⟩

theorem itoa_c (n : Int) (h0 : 0 ≤ n) (h1 : n ≤ 1000) (w : World) (ht : Tab w) :
    Calls Tryz.prog 128 #[.int .i64 n] w fun e w' => e = .returned (.string (itoaB n)) ∧ Kp no w w' := by
  refine (Tryz.strconv_Itoa n (by omega) (by omega) w ht).mono ?_
  rintro e w' ⟨rfl, k, os, rfl⟩
  exact ⟨rfl, grow_kp w k os⟩

def spellF (v : Vl) : ByteArray :=
  if v.k = 110 then itoaB v.n else if v.k = 65 then ⟨#[65]⟩ ++ itoaB v.n else if v.k = 66 then ⟨#[66]⟩ ++ capF v.v else capF v.k

theorem itoa_size (n : Int) (h0 : 0 ≤ n) (h1 : n ≤ 1000) : (itoaB n).size ≤ 100 := by
  obtain ⟨n, rfl⟩ := Int.eq_ofNat_of_zero_le h0
  have h : ∀ n : Nat, n ≤ 1000 → (itoaB n).size ≤ 100 := by decide +kernel
  exact h n (by omega)

theorem capF_size (k : Int) : (capF k).size = 1 := by unfold capF; repeat' split
                                                      all_goals rfl

end Go.Proofs.YtellieabhaphhabGreatDoor

/-
  narrowref's machine: what x=E is worth.
-/
namespace Go.Proofs.YtellieabhaphhabGreatDoor
open Go.RowKit

/-- What is asked of a variable's value: its number is small. -/
def VOk (u : Vl) : Prop := 0 ≤ u.n ∧ u.n ≤ 999 ∧ 0 ≤ u.k

def worF (inp : ByteArray) (n : Nd) (y v : Vl) (st : Mc) : Vl × Mc :=
  if n.op = 63 then nextF inp st
  else if n.op = 118 then (y, st)
  else if n.op = 43 then (⟨110, (y.n + v.n) % 1000, 0⟩, st)
  else if n.op = 60 then ((if y.n < v.n then ⟨116, 0, 0⟩ else ⟨102, 0, 0⟩), st)
  else if n.op = 65 then (⟨65, y.n, 0⟩, st)
  else if n.op = 66 then (⟨66, 0, y.k⟩, st)
  else if n.op = 46 then (partF y, st)
  else (consF n, st)

end Go.Proofs.YtellieabhaphhabGreatDoor

/-
  narrowref's machine: a node that is no test.
-/
namespace Go.Proofs.YtellieabhaphhabGreatDoor
open Go.RowKit

def inK (op k : Int) : Bool := amF k.toNat (takF op).data.toList

def putL (st : Mc) (x : Nat) (u : Vl) : Mc := { st with l := st.l.set x u }

def doF (inp : ByteArray) (n : Nd) (x : Nat) (xu yu vu : Vl) (st : Mc) : Mc :=
  if n.op = 33 then { st with e := 6 }
  else if inK n.op yu.k = false then { st with e := 5 }
  else if (n.op = 43 ∨ n.op = 60) ∧ inK n.op vu.k = false then { st with e := 5 }
  else if n.op = 42 then st
  else if n.op = 94 then { st with out := st.out ++ spellF yu ++ sp }
  else if n.op = 126 then (if xu.k = n.k then st else { st with e := 7 })
  else putL (worF inp n yu vu st).2 x (worF inp n yu vu st).1

theorem spell_size (v : Vl) (h : VOk v) : (spellF v).size ≤ 200 := by
  have h1 := itoa_size v.n h.1 (by have := h.2.1; omega)
  unfold spellF
  repeat' split
  · omega
  · rw [ByteArray.size_append]; show 1 + _ ≤ _; omega
  · rw [ByteArray.size_append, capF_size]; show 1 + _ ≤ _; omega
  · rw [capF_size]; omega

end Go.Proofs.YtellieabhaphhabGreatDoor

/-
  narrowref's machine, as functions: conditions, loops, blocks.
-/
namespace Go.Proofs.YtellieabhaphhabGreatDoor
open Go.RowKit

/-- A machine within bounds. -/
structure MOk (m : Mc) : Prop where
  left : m.left ≤ 300
  tr : m.tr.size + 9 * m.left ≤ 2700
  out : m.out.size + 300 * m.left ≤ 90000
  v : ∀ u ∈ m.l, VOk u ∧ 0 ≤ u.v
  six : m.l.length = 6

/-- Nodes within bounds. -/
structure NOk (n : Nd) : Prop where
  x : 0 ≤ n.x ∧ n.x < 6
  y : 0 ≤ n.y ∧ n.y < 6
  v : 0 ≤ n.v ∧ n.v < 6
  k : n.op = 48 → 48 ≤ n.k ∧ n.k ≤ 57

theorem told_size (n : Nat) (l : List Vl) : (toldB n l).size = 2 + l.length := by rw [toldB, kindsB_size, twoB_size]

theorem startF_ok {m : Mc} (n : Nat) (h : MOk m) : MOk (startF m n).1 ∧ ((startF m n).2 = true → (startF m n).1.out.size + 300 * (startF m n).1.left + 300 ≤ 90000) ∧ (startF m n).1.l = m.l := by
  have h1 := h.left; have h2 := h.tr; have h3 := h.out; have h6 := h.six
  unfold startF
  split
  · exact ⟨⟨h1, h2, h3, h.v, h6⟩, by simp, rfl⟩
  · refine ⟨⟨?_, ?_, ?_, h.v, h6⟩, fun _ => ?_, rfl⟩
    · simp only []; omega
    · simp only [ByteArray.size_append, told_size, h6]
      have : sp.size = 1 := rfl
      omega
    · simp only []; omega
    · simp only []; omega

theorem inVal_ok (c : Nat) : VOk (inVal c) ∧ 0 ≤ (inVal c).v := by
  unfold inVal VOk
  repeat' split
  all_goals (simp; try omega)

theorem nextF_ok (inp : ByteArray) (m : Mc) : (VOk (nextF inp m).1 ∧ 0 ≤ (nextF inp m).1.v) ∧ (nextF inp m).2.l = m.l ∧ (nextF inp m).2.left = m.left ∧ (nextF inp m).2.tr = m.tr ∧ (nextF inp m).2.out = m.out ∧ (nextF inp m).2.e = m.e := by
  unfold nextF
  split
  · exact ⟨inVal_ok _, rfl, rfl, rfl, rfl, rfl⟩
  · exact ⟨inVal_ok _, rfl, rfl, rfl, rfl, rfl⟩

theorem worF_ok {inp : ByteArray} {n : Nd} {y v : Vl} {m : Mc} (hn : n.op = 48 → 48 ≤ n.k ∧ n.k ≤ 57) (hy : VOk y ∧ 0 ≤ y.v) (hv : VOk v ∧ 0 ≤ v.v) :
    (VOk (worF inp n y v m).1 ∧ 0 ≤ (worF inp n y v m).1.v) ∧ (worF inp n y v m).2.l = m.l ∧ (worF inp n y v m).2.left = m.left ∧ (worF inp n y v m).2.tr = m.tr ∧ (worF inp n y v m).2.out = m.out ∧ (worF inp n y v m).2.e = m.e := by
  obtain ⟨⟨y1, y2, y3⟩, y4⟩ := hy
  obtain ⟨⟨v1, v2, v3⟩, v4⟩ := hv
  have hno := nextF_ok inp m
  unfold worF
  repeat' split
  · exact hno
  · exact ⟨⟨⟨y1, y2, y3⟩, y4⟩, rfl, rfl, rfl, rfl, rfl⟩
  · refine ⟨⟨⟨?_, ?_, ?_⟩, ?_⟩, rfl, rfl, rfl, rfl, rfl⟩ <;> simp only [] <;> omega
  · exact ⟨⟨⟨by simp, by simp, by simp⟩, by simp⟩, rfl, rfl, rfl, rfl, rfl⟩
  · exact ⟨⟨⟨by simp, by simp, by simp⟩, by simp⟩, rfl, rfl, rfl, rfl, rfl⟩
  · exact ⟨⟨⟨y1, y2, by simp⟩, by simp⟩, rfl, rfl, rfl, rfl, rfl⟩
  · exact ⟨⟨⟨by simp, by simp, by simp⟩, y3⟩, rfl, rfl, rfl, rfl, rfl⟩
  · refine ⟨?_, rfl, rfl, rfl, rfl, rfl⟩
    show VOk (partF y) ∧ 0 ≤ (partF y).v
    unfold partF
    split
    · exact ⟨⟨y1, y2, by simp⟩, by simp⟩
    · exact ⟨⟨by simp, by simp, y4⟩, by simp⟩
  · refine ⟨?_, rfl, rfl, rfl, rfl, rfl⟩
    show VOk (consF n) ∧ 0 ≤ (consF n).v
    unfold consF
    repeat' split
    · rename_i h; have := hn h; exact ⟨⟨by simp only []; omega, by simp only []; omega, by simp⟩, by simp⟩
    all_goals exact ⟨⟨by simp, by simp, by simp⟩, by simp⟩

theorem doF_ok {inp : ByteArray} {n : Nd} {x : Nat} {xu yu vu : Vl} {m : Mc} (hn : n.op = 48 → 48 ≤ n.k ∧ n.k ≤ 57) (hy : VOk yu ∧ 0 ≤ yu.v) (hv : VOk vu ∧ 0 ≤ vu.v) (h : MOk m) (ho : m.out.size + 300 * m.left + 300 ≤ 90000) : MOk (doF inp n x xu yu vu m) := by
  have h1 := h.left; have h2 := h.tr; have h3 := h.out; have h6 := h.six
  have hw := worF_ok (inp := inp) (m := m) hn hy hv
  unfold doF
  repeat' split
  · exact ⟨h1, h2, h3, h.v, h6⟩
  · exact ⟨h1, h2, h3, h.v, h6⟩
  · exact ⟨h1, h2, h3, h.v, h6⟩
  · exact h
  · refine ⟨h1, h2, ?_, h.v, h6⟩
    have := spell_size yu hy.1
    have e : sp.size = 1 := rfl
    simp only [ByteArray.size_append, e]; omega
  · exact h
  · exact ⟨h1, h2, h3, h.v, h6⟩
  · obtain ⟨w1, w2, w3, w4, w5, w6⟩ := hw
    refine ⟨?_, ?_, ?_, ?_, ?_⟩
    · show (worF inp n yu vu m).2.left ≤ 300
      rw [w3]; exact h1
    · show (worF inp n yu vu m).2.tr.size + 9 * (worF inp n yu vu m).2.left ≤ 2700
      rw [w3, w4]; exact h2
    · show (worF inp n yu vu m).2.out.size + 300 * (worF inp n yu vu m).2.left ≤ 90000
      rw [w3, w5]; exact h3
    · intro u hu
      simp only [putL, w2] at hu
      rcases List.mem_or_eq_of_mem_set hu with hu | rfl
      · exact h.v u hu
      · exact w1
    · simp only [putL, w2, List.length_set]; exact h6
end Go.Proofs.YtellieabhaphhabGreatDoor

/-
  narrowref's machine: the walk of a condition that is tested.
-/
namespace Go.Proofs.YtellieabhaphhabGreatDoor
open Go.RowKit

theorem Rp.kp {S : Nat → Prop} {w w' : World} {r : Nat} {s : ByteArray} {st : RS} {O : Nat → Prop} (h : Rp w r s st O) (k : Kp S w w') (hS : ∀ b, O b → ¬ S b) : Rp w' r s st O := by
  obtain ⟨nv, iv, hB, hN, hI, d1, d2, d3, rfl⟩ := h
  exact ⟨nv, iv, k.blk hB (hS _ (.inl rfl)), k.row hN (fun b hb => hS b (.inr (.inl hb))), k.row hI (fun b hb => hS b (.inr (.inr hb))), d1, d2, d3, rfl⟩

theorem Rp.node {w : World} {r : Nat} {s : ByteArray} {st : RS} {O : Nat → Prop} (h : Rp w r s st O) {k : Nat} {nd : Nd} (hk : st.nodes[k]? = some nd) :
    ∃ g cap, k < st.nodes.length ∧ O g ∧ w.cell? ⟨r, 3, none⟩ = some (.slice (some ⟨g, 0, none⟩) st.nodes.length cap) ∧ ∀ j, j < 9 → w.cell? ⟨g, k * 9 + j, none⟩ = nd.cells[j]? := by
  obtain ⟨nv, iv, hB, hN, hI, d1, d2, d3, rfl⟩ := h
  obtain ⟨hl, rfl⟩ := List.getElem?_eq_some_iff.1 hk
  obtain ⟨g, cap, rfl, _, hg⟩ := World.ownsRow.form hN (by omega)
  refine ⟨g, cap, hl, .inr (.inl rfl), Blk.cell hB 3, fun j hj => ?_⟩
  rw [Row.cell hN _ (by have := Nat.mul_le_mul_right 9 hl; omega)]
  exact flat_get Nd.cells 9 nd9 st.nodes k j hl hj

/-- The machine and the reader together. -/
structure RM (w : World) (m lb : Nat) (inp : ByteArray) (mc : Mc) (r : Nat) (s : ByteArray) (st : RS) (O : Nat → Prop) : Prop where
  mb : MB w m lb inp mc
  rp : Rp w r s st O
  dm : ¬ O m
  dl : ¬ O lb
  tab : Tab w
  tm : m ≠ 0
  tl : lb ≠ 0
  ok : MOk mc
  nok : ∀ n ∈ st.nodes, NOk n
  inp : inp.size ≤ 40
  li : st.items.length ≤ 1000
  ln : st.nodes.length ≤ 1000

section
variable {w w' : World} {m lb : Nat} {inp : ByteArray} {mc mc' : Mc} {r : Nat} {s : ByteArray} {st : RS} {O : Nat → Prop}

theorem RM.next (h : RM w m lb inp mc r s st O) (hm : MB w' m lb inp mc') (k : Kp (MK m lb) w w') (ok : MOk mc') : RM w' m lb inp mc' r s st O :=
  ⟨hm, h.rp.kp k (fun b hb e => by rcases e with rfl | rfl; exact h.dm hb; exact h.dl hb), h.dm, h.dl, h.tab.kp k (by rintro (e | e); exact h.tm e.symm; exact h.tl e.symm), h.tm, h.tl, ok, h.nok, h.inp, h.li, h.ln⟩
theorem RM.kp (h : RM w m lb inp mc r s st O) (k : Kp no w w') : RM w' m lb inp mc r s st O :=
  h.next (h.mb.kp k no_elim no_elim) (k.mono (fun _ e => e.elim)) h.ok
theorem RM.alloc (h : RM w m lb inp mc r s st O) (o : Obj) : RM (w.alloc o) m lb inp mc r s st O := h.kp ((Kp.refl no w).alloc o)
theorem RM.drew (h : RM w m lb inp mc r s st O) : RM w.drew m lb inp mc r s st O := h.kp ((Kp.refl no w).drew)
theorem RM.drewN (h : RM w m lb inp mc r s st O) (n : Nat) : RM (w.drewN n) m lb inp mc r s st O := h.kp ((Kp.refl no w).drewN n)
end

theorem Blk.c4 {w : World} {b : Nat} {a0 a1 a2 a3 : Value} {T : TypeId} (h : Blk w b [a0, a1, a2, a3] T) :
    w.cell? ⟨b, 0, none⟩ = some a0 ∧ w.cell? ⟨b, 1, none⟩ = some a1 ∧ w.cell? ⟨b, 2, none⟩ = some a2 ∧ w.cell? ⟨b, 3, none⟩ = some a3 ∧ ∀ o, w.frozen? ⟨b, o, none⟩ = false :=
  ⟨h.cell 0, h.cell 1, h.cell 2, h.cell 3, h.frozen⟩

end Go.Proofs.YtellieabhaphhabGreatDoor

/-
  narrowref's reader: a graph.
-/
namespace Go.Proofs.YtellieabhaphhabGreatDoor
open Go.RowKit

def lnsF : Nat → ByteArray → RS → RS
  | 0, _, st => st
  | f + 1, s, st => if st.bad = false ∧ st.i < s.size then (if 90 ≤ st.nodes.length then { st with bad := true } else lnsF f s (lineF s st)) else st

theorem lns_stop (k : Nat) (s : ByteArray) (st : RS) (h : ¬ (st.bad = false ∧ st.i < s.size)) : lnsF k s st = st := by
  cases k with
  | zero => rfl
  | succ k => rw [lnsF, if_neg h]

theorem lineN_ge (s : ByteArray) (i : Nat) : i ≤ (lineN s i).2.1 ∧ ((lineN s i).2.2 = false → i < (lineN s i).2.1) := by
  unfold lineN; repeat' split
  · exact ⟨Nat.le_succ _, fun _ => Nat.lt_succ_self _⟩
  · exact testF_ge s i
  · exact simpF_ge s i

theorem lineN_le (s : ByteArray) (i : Nat) (h : i < s.size) : (lineN s i).2.1 ≤ s.size := by
  unfold lineN; repeat' split
  · exact h
  · exact testF_le s i (by omega)
  · exact simpF_le s i (by omega)

theorem lineT_ge (s : ByteArray) (n : Nd) (p : Nat × Bool) : p.1 ≤ (lineT s n p).2.1 := by
  unfold lineT; split
  · exact Nat.le_refl _
  · exact (wayF_ge s p).1
theorem lineG_ge (s : ByteArray) (n : Nd) (p : Nat × Bool) : p.1 ≤ (lineG s n p).2.1 := by
  unfold lineG; split
  · exact (wayF_ge s p).1
  · exact Nat.le_refl _
theorem lineT_le (s : ByteArray) (n : Nd) (p : Nat × Bool) (h : p.1 ≤ s.size) : (lineT s n p).2.1 ≤ s.size := by
  unfold lineT; split
  · exact h
  · exact wayF_le s p h
theorem lineG_le (s : ByteArray) (n : Nd) (p : Nat × Bool) (h : p.1 ≤ s.size) : (lineG s n p).2.1 ≤ s.size := by
  unfold lineG; split
  · exact wayF_le s p h
  · exact h

theorem lineF_inv (s : ByteArray) (st : RS) (h : st.i < s.size) : (lineF s st).i ≤ s.size ∧ st.i ≤ (lineF s st).i ∧ ((lineF s st).bad = false → st.i < (lineF s st).i) ∧ (lineF s st).nodes.length ≤ st.nodes.length + 1 := by
  have h1 := lineN_ge s st.i
  have h2 := lineN_le s st.i h
  rw [lineF_eq]
  generalize lineN s st.i = z at *
  have t1 := lineT_ge s z.1 z.2
  have t2 := lineT_le s z.1 z.2 h2
  have g1 := lineG_ge s z.1 (lineT s z.1 z.2).2
  have g2 := lineG_le s z.1 (lineT s z.1 z.2).2 t2
  have e1 := eatF_ge s (lineG s z.1 (lineT s z.1 z.2).2).2 59
  have e2 := eatF_le s (lineG s z.1 (lineT s z.1 z.2).2).2 59 (by decide) g2
  unfold lineR
  split
  · exact ⟨h2, h1.1, fun hq => by simp at hq, Nat.le_succ _⟩
  · refine ⟨e2, by simp only []; omega, fun hq => ?_, by simp⟩
    have := e1.2 hq
    simp only []; omega

def graF (s : ByteArray) : RS := lnsF (s.size + 1) s rs0

theorem lnsF_inv : ∀ (f : Nat) (s : ByteArray) (st : RS), st.i ≤ s.size → st.nodes.length ≤ 90 → (lnsF f s st).i ≤ s.size ∧ (lnsF f s st).nodes.length ≤ 90 := by
  intro f
  induction f with
  | zero => intro s st h1 h2; exact ⟨h1, h2⟩
  | succ f ih =>
    intro s st h1 h2
    unfold lnsF
    split
    · rename_i hc
      split
      · exact ⟨h1, h2⟩
      · obtain ⟨a1, a2, a3, a4⟩ := lineF_inv s st hc.2
        exact ih s _ a1 (by omega)
    · exact ⟨h1, h2⟩

theorem graF_inv (s : ByteArray) : (graF s).i ≤ s.size ∧ (graF s).nodes.length ≤ 90 := lnsF_inv _ _ _ (Nat.zero_le _) (by decide)

/-- A way to what there is not. -/
def badLink (l : List Nd) (n : Nd) : Bool := decide ((l.length : Int) < n.t) || decide ((l.length : Int) < n.f)

def linkAt (l : List Nd) : Option Nat := l.findIdx? (badLink l)

def graE (s : ByteArray) : Nat × Nat := if (graF s).bad then (2, (graF s).i) else match linkAt (graF s).nodes with | some i => (3, i) | none => (0, 0)

end Go.Proofs.YtellieabhaphhabGreatDoor
