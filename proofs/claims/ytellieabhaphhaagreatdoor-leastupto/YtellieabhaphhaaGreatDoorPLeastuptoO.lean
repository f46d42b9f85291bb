import Derived.Test.YtellieabhaphhaaGreatDoorPLeastuptoN
/-
  narrow's maker: the nodes of its row.
-/
namespace Go.Proofs.YtellieabhaphhaaGreatDoor
open Go.RowKit

set_option maxHeartbeats 1600000 in
theorem nodesAhead_c {r : Nat} {s : ByteArray} {m : MS} {nv iv : Value} (p : Nat) (w : World) (h : Mo w r s m nv iv) (hl : m.row.length ≤ 2000) :
    Calls Tryz.prog 140 #[.pointer (some ⟨r, 0, none⟩), .int .i64 p] w fun e w' => e = .returned (.int .i64 (ahdM m.row p)) ∧ Kp no w w' := by
  have hr := h.b.lt
  have q3 := h.b.cell 3
  simp only [List.getElem?_cons_zero, List.getElem?_cons_succ] at q3
  have qf := h.b.frozen
  obtain ⟨a, cap, rfl⟩ := h.n.shape
  have HN := hide h.n
  have HF : Hid (ahdM m.row p = ahdA m.row p m.row.length) := rfl
  clear h
  generalize m.row = row at *
  go_enter Tryz.func140, Tryz.ntmps140
  go_wp2
  go_loopg [5, 13] row.length (fun k cv jv wr => ∃ j : Nat, j ≤ row.length ∧ k = row.length - j ∧ jv = .int .i64 j ∧ cv = .int .i64 (ahdA row p j) ∧ Kp no w wr)
  case atStart => exact ⟨0, Nat.zero_le _, rfl, rfl, rfl, Kp.refl _ _⟩
  case round =>
    obtain ⟨j, hj, hk, rfl, rfl, kr⟩ := hrel
    have HK := hide kr
    have HKK := hide hk
    clear kr hk
    by_cases hlt : j < row.length
    · obtain ⟨_, g, rfl, hg, q0, q1, q2, q3, q4, q5, q6, q7, q8, q9, q10⟩ := NRow.at (HK.out.row HN.out (fun _ _ => no_elim)) (List.getElem?_eq_getElem hlt)
      have HS := hide (show ahdA row p (j + 1) = ahdA row p j + (if j < p ∧ row[j].act ≠ 15 then 1 else 0) by rw [ahdA, List.getElem?_eq_getElem hlt])
      have hc := ahdA_le row p j
      clear HN HF
      generalize ahdA row p j = c at *
      generalize row[j] = n at *
      obtain ⟨tx, act, nx, ny, nw, ck, cn, ch, kd, yes, nno⟩ := n
      dsimp only at *
      have hqI : (j : Int) < row.length := by omega
      by_cases b1 : j < p
      · have b1' : (j : Int) < (p : Int) := by omega
        by_cases b2 : act = 15
        · subst b2
          rw [if_neg (fun e => e.2 rfl)] at HS
          clear b1
          go_wp2
          go_roundg (row.length - (j + 1))
          case measure => have := HKK.out; omega
          case rel => exact ⟨j + 1, by omega, rfl, by go_num, by rw [HS.out]; rfl, by have k1 := HK.out; (repeat' (first | with_reducible exact Kp.refl _ _ | with_reducible refine Kp.alloc ?_ _ | with_reducible refine Kp.drewN ?_ _ | with_reducible refine Kp.drew ?_ | with_reducible refine Kp.setCell ?_ _ ?_ | with_reducible refine Kp.trans ?_ k1 (fun _ _ e => e) | (intro hh; first | rfl | exact .inl rfl | exact .inr rfl | (exfalso; (try dsimp only at hh); omega))))⟩
        · have b2' : ((act : Int) != 15) = true := by simp [b2]
          rw [if_pos ⟨b1, b2⟩] at HS
          clear b1 b2
          go_wp2
          go_roundg (row.length - (j + 1))
          case measure => have := HKK.out; omega
          case rel => exact ⟨j + 1, by omega, rfl, by go_num, by rw [HS.out]; go_num, by have k1 := HK.out; (repeat' (first | with_reducible exact Kp.refl _ _ | with_reducible refine Kp.alloc ?_ _ | with_reducible refine Kp.drewN ?_ _ | with_reducible refine Kp.drew ?_ | with_reducible refine Kp.setCell ?_ _ ?_ | with_reducible refine Kp.trans ?_ k1 (fun _ _ e => e) | (intro hh; first | rfl | exact .inl rfl | exact .inr rfl | (exfalso; (try dsimp only at hh); omega))))⟩
      · have b1' : (p : Int) ≤ (j : Int) := by omega
        rw [if_neg (fun e => b1 e.1)] at HS
        go_wp2
        go_roundg (row.length - (j + 1))
        case measure => have := HKK.out; omega
        case rel => exact ⟨j + 1, by omega, rfl, by go_num, by rw [HS.out]; rfl, by have k1 := HK.out; (repeat' (first | with_reducible exact Kp.refl _ _ | with_reducible refine Kp.alloc ?_ _ | with_reducible refine Kp.drewN ?_ _ | with_reducible refine Kp.drew ?_ | with_reducible refine Kp.setCell ?_ _ ?_ | with_reducible refine Kp.trans ?_ k1 (fun _ _ e => e) | (intro hh; first | rfl | exact .inl rfl | exact .inr rfl | (exfalso; (try dsimp only at hh); omega))))⟩
    · obtain rfl : j = row.length := by omega
      go_wp2
      go_ret
      rw [HF.out]
      exact ⟨rfl, HK.out⟩

theorem hopM_none {m : MS} {f p : Nat} (h : ¬ p < m.row.length) : hopM m f p = p := by
  cases f with
  | zero => rfl
  | succ f => rw [hopM, List.getElem?_eq_none (by omega)]
theorem hopM_node {m : MS} {f p : Nat} (h : p < m.row.length) (ha : m.row[p].act ≠ 15) : hopM m f p = p := by
  cases f with
  | zero => rfl
  | succ f => rw [hopM, List.getElem?_eq_getElem h]; simp [ha]
theorem hopM_jump {m : MS} {f p : Nat} (h : p < m.row.length) (ha : m.row[p].act = 15) : hopM m (f + 1) p = hopM m f (plcM m m.row[p].yes) := by
  rw [hopM, List.getElem?_eq_getElem h]; simp [ha]

set_option maxHeartbeats 1600000 in
theorem nodeBehind_c {r : Nat} {s : ByteArray} {m : MS} {nv iv : Value} (k0 : Int) (w : World) (h : Mo w r s m nv iv) (hl : m.row.length ≤ 2000) :
    Calls Tryz.prog 97 #[.pointer (some ⟨r, 0, none⟩), .int .i64 k0] w fun e w' => e = .returned (.int .i64 (nbhM m k0)) ∧ Kp no w w' := by
  have HP := hide (fun k W (hW : Mo W r s m nv iv) => placeOf_c k W hW)
  have HA := hide (fun p W (hW : Mo W r s m nv iv) => nodesAhead_c p W hW hl)
  have HM := hide h
  have HF : Hid (nbhM m k0 = ahdM m.row (hopM m m.row.length (plcM m k0))) := rfl
  obtain ⟨a, cap, rfl⟩ := h.n.shape
  clear h
  go_enter Tryz.func97, Tryz.ntmps97
  go_wp2_with fail
  refine (HP.out k0 _ HM.out).mono ?_
  rintro e w1 ⟨rfl, k1⟩
  generalize plcM m k0 = p0 at *
  go_wp2
  go_loopg [5, 6] m.row.length (fun k pv hv wr => ∃ p j : Nat, j ≤ m.row.length ∧ k = m.row.length - j ∧ hv = .int .i64 j ∧ pv = .int .i64 p ∧ Kp no w wr ∧ hopM m m.row.length p0 = hopM m (m.row.length - j) p)
  case atStart => exact ⟨p0, 0, Nat.zero_le _, rfl, rfl, rfl, k1, rfl⟩
  case round =>
    obtain ⟨p, j, hj, hk, rfl, rfl, kr, hE⟩ := hrel
    have HK := hide kr
    have HKK := hide hk
    have HE := hide hE
    have HMr := hide (HM.out.kp kr)
    have hr := HMr.out.b.lt
    have q3 := HMr.out.b.cell 3
    simp only [List.getElem?_cons_zero, List.getElem?_cons_succ] at q3
    have qf := HMr.out.b.frozen
    clear kr hk hE k1 HM
    by_cases hlt : j < m.row.length
    · by_cases hp : p < m.row.length
      · have hp' : (p : Int) < m.row.length := by omega
        obtain ⟨_, g, rfl, hg, c0, c1, c2, c3, c4, c5, c6, c7, c8, c9, c10⟩ := NRow.at HMr.out.n (List.getElem?_eq_getElem hp)
        have cf := Row.frozen HMr.out.n
        have HNO := hide (fun e : m.row[p].act ≠ 15 => hopM_node (f := m.row.length - j) hp e)
        have HJ := hide (fun e : m.row[p].act = 15 => show hopM m (m.row.length - j) p = hopM m (m.row.length - (j + 1)) (plcM m m.row[p].yes) by
          rw [show m.row.length - j = m.row.length - (j + 1) + 1 by omega]; exact hopM_jump hp e)
        generalize m.row[p] = n at *
        obtain ⟨tx, act, nx, ny, nw, ck, cn, ch, kd, yes, nno⟩ := n
        dsimp only at *
        by_cases b : act = 15
        · subst b
          have HJ' := hide (HJ.out rfl)
          clear HJ HNO
          go_wp2_with fail
          refine (HP.out yes _ (HMr.out.kp (by (repeat' (first | with_reducible exact Kp.refl _ _ | with_reducible refine Kp.alloc ?_ _ | with_reducible refine Kp.drewN ?_ _ | with_reducible refine Kp.drew ?_ | with_reducible refine Kp.setCell ?_ _ ?_ | (intro hh; first | rfl | exact .inl rfl | exact .inr rfl | (exfalso; (try dsimp only at hh); omega))))))).mono ?_
          rintro e w2 ⟨rfl, k2⟩
          go_wp2
          go_roundg (m.row.length - (j + 1))
          case measure => have := HKK.out; omega
          case rel => exact ⟨plcM m yes, j + 1, by omega, rfl, by go_num, rfl, by have k1 := HK.out; (repeat' (first | with_reducible exact Kp.refl _ _ | with_reducible refine Kp.alloc ?_ _ | with_reducible refine Kp.drewN ?_ _ | with_reducible refine Kp.drew ?_ | with_reducible refine Kp.setCell ?_ _ ?_ | with_reducible refine Kp.trans ?_ k1 (fun _ _ e => e) | with_reducible refine Kp.trans ?_ k2 (fun _ _ e => e) | (intro hh; first | rfl | exact .inl rfl | exact .inr rfl | (exfalso; (try dsimp only at hh); omega)))), by rw [HE.out, HJ'.out]⟩
        · have b' : ((act : Int) != 15) = true := by simp [b]
          have HN' := hide (HNO.out b)
          clear HJ HNO b
          go_wp2_with fail
          refine (HA.out p _ (HMr.out.kp (by (repeat' (first | with_reducible exact Kp.refl _ _ | with_reducible refine Kp.alloc ?_ _ | with_reducible refine Kp.drewN ?_ _ | with_reducible refine Kp.drew ?_ | with_reducible refine Kp.setCell ?_ _ ?_ | (intro hh; first | rfl | exact .inl rfl | exact .inr rfl | (exfalso; (try dsimp only at hh); omega))))))).mono ?_
          rintro e w2 ⟨rfl, k2⟩
          go_wp2
          go_ret
          rw [HF.out, HE.out, HN'.out]
          exact ⟨rfl, by have k1 := HK.out; (repeat' (first | with_reducible exact Kp.refl _ _ | with_reducible refine Kp.alloc ?_ _ | with_reducible refine Kp.drewN ?_ _ | with_reducible refine Kp.drew ?_ | with_reducible refine Kp.setCell ?_ _ ?_ | with_reducible refine Kp.trans ?_ k1 (fun _ _ e => e) | with_reducible refine Kp.trans ?_ k2 (fun _ _ e => e) | (intro hh; first | rfl | exact .inl rfl | exact .inr rfl | (exfalso; (try dsimp only at hh); omega))))⟩
      · have HN' := hide (hopM_none (f := m.row.length - j) hp)
        have hp' : (m.row.length : Int) ≤ p := by omega
        clear hp
        go_wp2_with fail
        refine (HA.out p _ (HMr.out.kp (by (repeat' (first | with_reducible exact Kp.refl _ _ | with_reducible refine Kp.alloc ?_ _ | with_reducible refine Kp.drewN ?_ _ | with_reducible refine Kp.drew ?_ | with_reducible refine Kp.setCell ?_ _ ?_ | (intro hh; first | rfl | exact .inl rfl | exact .inr rfl | (exfalso; (try dsimp only at hh); omega))))))).mono ?_
        rintro e w2 ⟨rfl, k2⟩
        go_wp2
        go_ret
        rw [HF.out, HE.out, HN'.out]
        exact ⟨rfl, by have k1 := HK.out; (repeat' (first | with_reducible exact Kp.refl _ _ | with_reducible refine Kp.alloc ?_ _ | with_reducible refine Kp.drewN ?_ _ | with_reducible refine Kp.drew ?_ | with_reducible refine Kp.setCell ?_ _ ?_ | with_reducible refine Kp.trans ?_ k1 (fun _ _ e => e) | with_reducible refine Kp.trans ?_ k2 (fun _ _ e => e) | (intro hh; first | rfl | exact .inl rfl | exact .inr rfl | (exfalso; (try dsimp only at hh); omega))))⟩
    · obtain rfl : j = m.row.length := by omega
      have HN' := hide (show hopM m (m.row.length - m.row.length) p = p by rw [Nat.sub_self]; rfl)
      go_wp2_with fail
      refine (HA.out p _ (HMr.out.kp (by (repeat' (first | with_reducible exact Kp.refl _ _ | with_reducible refine Kp.alloc ?_ _ | with_reducible refine Kp.drewN ?_ _ | with_reducible refine Kp.drew ?_ | with_reducible refine Kp.setCell ?_ _ ?_ | (intro hh; first | rfl | exact .inl rfl | exact .inr rfl | (exfalso; (try dsimp only at hh); omega))))))).mono ?_
      rintro e w2 ⟨rfl, k2⟩
      go_wp2
      go_ret
      rw [HF.out, HE.out, HN'.out]
      exact ⟨rfl, by have k1 := HK.out; (repeat' (first | with_reducible exact Kp.refl _ _ | with_reducible refine Kp.alloc ?_ _ | with_reducible refine Kp.drewN ?_ _ | with_reducible refine Kp.drew ?_ | with_reducible refine Kp.setCell ?_ _ ?_ | with_reducible refine Kp.trans ?_ k1 (fun _ _ e => e) | with_reducible refine Kp.trans ?_ k2 (fun _ _ e => e) | (intro hh; first | rfl | exact .inl rfl | exact .inr rfl | (exfalso; (try dsimp only at hh); omega))))⟩

set_option maxRecDepth 100000 in
set_option maxHeartbeats 1600000 in
theorem mnodes_c {r : Nat} {s : ByteArray} {m : MS} {nv iv : Value} (w : World) (h : Mo w r s m nv iv) (hl : m.row.length ≤ 2000) :
    Calls Tryz.prog 54 #[.pointer (some ⟨r, 0, none⟩)] w fun e w' => ∃ u, e = .returned u ∧ NRow w' u (nodM m) ∧ New w u ∧ Kp no w w' := by
  obtain ⟨i0, hi0, hz0, hz1, hz2⟩ := info_parts info_nn
  have HB := hide (fun k W (hW : Mo W r s m nv iv) => nodeBehind_c k W hW hl)
  have HM := hide h
  have hr := h.b.lt
  have q3 := h.b.cell 3
  simp only [List.getElem?_cons_zero, List.getElem?_cons_succ] at q3
  have qf := h.b.frozen
  obtain ⟨a, cap, rfl⟩ := h.n.shape
  have HF : Hid (nodM m = nodA m m.row.length) := rfl
  clear h
  go_enter Tryz.func54, Tryz.ntmps54
  go_wp2
  go_loopg [3, 12] m.row.length (fun k lv jv wr => ∃ j : Nat, j ≤ m.row.length ∧ k = m.row.length - j ∧ jv = .int .i64 j ∧ KN w wr lv (nodA m j) ∧ Kp no w wr)
  case atStart =>
    refine ⟨0, Nat.zero_le _, rfl, rfl, ⟨⟨rfl, .inr ⟨w.heap.size, 0, #[], rfl, Nat.zero_le _, ?_, Nat.le_refl _, Nat.zero_le _, rfl, rfl⟩⟩, fun b hb => by simp [Value.ownBlock] at hb; omega⟩, by (repeat' (first | with_reducible exact Kp.refl _ _ | with_reducible refine Kp.alloc ?_ _ | with_reducible refine Kp.drewN ?_ _ | with_reducible refine Kp.drew ?_ | with_reducible refine Kp.setCell ?_ _ ?_ | (intro hh; first | rfl | exact .inl rfl | exact .inr rfl | (exfalso; (try dsimp only at hh); omega))))⟩
    have hh : Blk (w.alloc (.cells #[] 91)) w.heap.size [] 91 := by (repeat' (first | ((with_reducible show (_ : List Value) = _); rfl) | ((with_reducible refine Blk.newAt _ _ _ ?_); first | with_reducible rfl | (simp; done)) | with_reducible refine Blk.alloc ?_ _ | with_reducible refine Blk.drewN ?_ _ | with_reducible refine Blk.drew ?_ | ((with_reducible refine Blk.other ?_ _ ?_); rotate_left; ((try dsimp only); omega)) | with_reducible refine Blk.setB (cs0 := ?_) ?_ ?_))
    exact hh
  case round =>
    obtain ⟨j, hj, hk, rfl, hKB, kr⟩ := hrel
    have HKK := hide hk
    have HKB := hide hKB
    have HKR := hide kr
    obtain ⟨la, lc, rfl⟩ := hKB.r.shape
    clear hk hKB kr
    by_cases hlt : j < m.row.length
    · have hqI : (j : Int) < m.row.length := by omega
      have HPL := hide (show nodA m (j + 1) = nodA m j ++ (if m.row[j].act = 15 then [] else [m.row[j].setW (nbhM m m.row[j].yes) (nbhM m m.row[j].no)]) by rw [nodA, List.getElem?_eq_getElem hlt])
      obtain ⟨_, gn, ha, hgn, n0, n1, n2, n3, n4, n5, n6, n7, n8, n9, n10⟩ := NRow.at (HKR.out.row HM.out.n (fun _ _ => no_elim)) (List.getElem?_eq_getElem hlt)
      subst ha
      have hpl := nodA_le m j
      generalize nodA m j = P at *
      generalize m.row[j] = nd at *
      obtain ⟨tx, act, nx, ny, nw, ck, cn, ch, kd, yes, nno⟩ := nd
      dsimp only [NN.setW] at HPL n0 n1 n2 n3 n4 n5 n6 n7 n8 n9 n10
      have HLN : Hid (Value.ownBlock (.slice la P.length lc) ≠ some wr.heap.size) := fun e => by have := Row.lt HKB.out.r e; omega
      clear q3
      by_cases b : act = 15
      · subst b
        rw [if_pos rfl, List.append_nil] at HPL
        go_wp2
        go_roundg (m.row.length - (j + 1))
        case measure => have := HKK.out; omega
        case rel => exact ⟨j + 1, by omega, rfl, by go_num, by rw [HPL.out]; exact HKB.out.kp (by (repeat' (first | with_reducible exact Kp.refl _ _ | with_reducible refine Kp.alloc ?_ _ | with_reducible refine Kp.drewN ?_ _ | with_reducible refine Kp.drew ?_ | with_reducible refine Kp.setCell ?_ _ ?_ | (intro hh; first | rfl | exact .inl rfl | exact .inr rfl | (exfalso; (try dsimp only at hh); omega))))), by have k1 := HKR.out; (repeat' (first | with_reducible exact Kp.refl _ _ | with_reducible refine Kp.alloc ?_ _ | with_reducible refine Kp.drewN ?_ _ | with_reducible refine Kp.drew ?_ | with_reducible refine Kp.setCell ?_ _ ?_ | with_reducible refine Kp.trans ?_ k1 (fun _ _ e => e) | (intro hh; first | rfl | exact .inl rfl | exact .inr rfl | (exfalso; (try dsimp only at hh); omega))))⟩
      · rw [if_neg b] at HPL
        have b' : ((act : Int) == 15) = false := by simp [b]
        clear b
        go_wp2_with fail
        refine (HB.out yes _ (HM.out.kp (by have k1 := HKR.out; (repeat' (first | with_reducible exact Kp.refl _ _ | with_reducible refine Kp.alloc ?_ _ | with_reducible refine Kp.drewN ?_ _ | with_reducible refine Kp.drew ?_ | with_reducible refine Kp.setCell ?_ _ ?_ | with_reducible refine Kp.trans ?_ k1 (fun _ _ e => e) | (intro hh; first | rfl | exact .inl rfl | exact .inr rfl | (exfalso; (try dsimp only at hh); omega))))))).mono ?_
        rintro e w5 ⟨rfl, k5⟩
        have hN5 : Blk w5 wr.heap.size [.string tx, .int .i64 act, .int .i64 nx, .int .i64 ny, .int .i64 nw, .int .i64 ck, .int .i64 cn, .int .i64 ch, .int .i64 kd, .int .i64 yes, .int .i64 nno] 91 := k5.blk (by (repeat' (first | ((with_reducible show (_ : List Value) = _); rfl) | ((with_reducible refine Blk.newAt _ _ _ ?_); first | with_reducible rfl | (simp; done)) | with_reducible refine Blk.alloc ?_ _ | with_reducible refine Blk.drewN ?_ _ | with_reducible refine Blk.drew ?_ | ((with_reducible refine Blk.other ?_ _ ?_); rotate_left; ((try dsimp only); omega)) | with_reducible refine Blk.setB (cs0 := ?_) ?_ ?_))) no_elim
        have HK5 := hide (HKR.out.trans (S' := no) (Kp.trans (by (repeat' (first | with_reducible exact Kp.refl _ _ | with_reducible refine Kp.alloc ?_ _ | with_reducible refine Kp.drewN ?_ _ | with_reducible refine Kp.drew ?_ | with_reducible refine Kp.setCell ?_ _ ?_ | (intro hh; first | rfl | exact .inl rfl | exact .inr rfl | (exfalso; (try dsimp only at hh); omega))))) k5 (fun _ _ e => e)) (fun _ _ e => e))
        have HL5 := hide (HKB.out.kp (Kp.trans (by (repeat' (first | with_reducible exact Kp.refl _ _ | with_reducible refine Kp.alloc ?_ _ | with_reducible refine Kp.drewN ?_ _ | with_reducible refine Kp.drew ?_ | with_reducible refine Kp.setCell ?_ _ ?_ | (intro hh; first | rfl | exact .inl rfl | exact .inr rfl | (exfalso; (try dsimp only at hh); omega))))) k5 (fun _ _ e => e)))
        have hsw := HKR.out.size
        clear k5 n0 n1 n2 n3 n4 n5 n6 n7 n8 n9 n10
        obtain ⟨n0, n1, n2, n3, n4, n5, n6, n7, n8, n9, n10, nf⟩ := hN5.c11; have hnl := hN5.lt
        generalize nbhM m yes = cy at *
        go_wp2_with fail
        have kk5 := HK5.out
        refine (HB.out nno _ (HM.out.kp (by (repeat' (first | with_reducible exact Kp.refl _ _ | with_reducible refine Kp.alloc ?_ _ | with_reducible refine Kp.drewN ?_ _ | with_reducible refine Kp.drew ?_ | with_reducible refine Kp.setCell ?_ _ ?_ | with_reducible refine Kp.trans ?_ kk5 (fun _ _ e => e) | (intro hh; first | rfl | exact .inl rfl | exact .inr rfl | (exfalso; (try dsimp only at hh); omega))))))).mono ?_
        rintro e w8 ⟨rfl, k8⟩
        have hN8 : Blk w8 wr.heap.size [.string tx, .int .i64 act, .int .i64 nx, .int .i64 ny, .int .i64 nw, .int .i64 ck, .int .i64 cn, .int .i64 ch, .int .i64 kd, .int .i64 cy, .int .i64 nno] 91 := k8.blk (by (repeat' (first | ((with_reducible show (_ : List Value) = _); rfl) | with_reducible exact hN5 | ((with_reducible refine Blk.newAt _ _ _ ?_); first | with_reducible rfl | (simp; done)) | with_reducible refine Blk.alloc ?_ _ | with_reducible refine Blk.drewN ?_ _ | with_reducible refine Blk.drew ?_ | ((with_reducible refine Blk.other ?_ _ ?_); rotate_left; ((try dsimp only); omega)) | with_reducible refine Blk.setB (cs0 := ?_) ?_ ?_))) no_elim
        have HK8 := hide (show Kp no w w8 from Kp.trans (by (repeat' (first | with_reducible exact Kp.refl _ _ | with_reducible refine Kp.alloc ?_ _ | with_reducible refine Kp.drewN ?_ _ | with_reducible refine Kp.drew ?_ | with_reducible refine Kp.setCell ?_ _ ?_ | with_reducible refine Kp.trans ?_ kk5 (fun _ _ e => e) | (intro hh; first | rfl | exact .inl rfl | exact .inr rfl | (exfalso; (try dsimp only at hh); omega))))) k8 (fun _ _ e => e))
        have HL8 : Hid (KN w w8 (.slice la P.length lc) P) := KN.kp (by repeat' (first | with_reducible exact HL5.out | with_reducible refine KN.set ?_ _ HLN.out)) k8
        clear k8 hN5 HL5
        clear n0 n1 n2 n3 n4 n5 n6 n7 n8 n9 n10 nf hnl
        obtain ⟨n0, n1, n2, n3, n4, n5, n6, n7, n8, n9, n10, nf⟩ := hN8.c11; have hnl := hN8.lt
        generalize nbhM m nno = cz at *
        have hone : ∀ u ∈ ([.string tx, .int .i64 act, .int .i64 nx, .int .i64 ny, .int .i64 nw, .int .i64 ck, .int .i64 cn, .int .i64 ch, .int .i64 kd, .int .i64 cy, .int .i64 cz] : List Value), u.oneCell' = true := by simp [Value.oneCell']
        have HL9 := hide (HL8.out.set (o := 10) (.int .i64 (cz : Int)) HLN.out)
        go_wp2_with (at_builtin; refine wpList_append_lies _ rfl (.tmp 29) (.tmp 31) 52 rfl 0 91 i0 _ 11 96 Tryz.underlying52 hi0 hz0 hz1 hz2 rfl (by decide) (.slice la P.length lc) P.length (nnCells P) (by simp [Act.eval]) (by exact World.ownsRow.alloc HL9.out.r _) ⟨w8.heap.size, 0, none⟩ 1 1 [.string tx, .int .i64 act, .int .i64 nx, .int .i64 ny, .int .i64 nw, .int .i64 ck, .int .i64 cn, .int .i64 ch, .int .i64 kd, .int .i64 cy, .int .i64 cz] (by simp [Act.eval]) rfl (by exact Blk.news (Blk.newAt _ [.string tx, .int .i64 act, .int .i64 nx, .int .i64 ny, .int .i64 nw, .int .i64 ck, .int .i64 cn, .int .i64 ch, .int .i64 kd, .int .i64 cy, .int .i64 cz] _ (by simp))) hone (by decide) (by unfold maxLen; omega) (by omega) (Nat.zero_le _) _ rfl ?_; intro g cap' w' hown hgrow hat hlt')
        go_roundg (m.row.length - (j + 1))
        case measure => have := HKK.out; omega
        case rel =>
          have kk8 := HK8.out
          have hap := KN.app ⟨tx, act, nx, ny, nw, ck, cn, ch, kd, cy, cz⟩ HL9.out (by (repeat' (first | with_reducible exact Kp.refl _ _ | with_reducible refine Kp.alloc ?_ _ | with_reducible refine Kp.drewN ?_ _ | with_reducible refine Kp.drew ?_ | with_reducible refine Kp.setCell ?_ _ ?_ | with_reducible refine Kp.trans ?_ kk8 (fun _ _ e => e) | (intro hh; first | rfl | exact .inl rfl | exact .inr rfl | (exfalso; (try dsimp only at hh); omega))))) hown hgrow hat
          exact ⟨j + 1, by omega, rfl, by go_num, by rw [HPL.out]; exact hap.1, hap.2⟩
    · obtain rfl : j = m.row.length := by omega
      go_wp2
      go_ret
      rw [HF.out]
      exact ⟨_, rfl, HKB.out.r, HKB.out.o, HKR.out⟩
end Go.Proofs.YtellieabhaphhaaGreatDoor

/-
  narrow's run: its variables, its input.
-/
namespace Go.Proofs.YtellieabhaphhaaGreatDoor
open Go.RowKit

theorem ntell_c {w : World} {r : Nat} {inp : ByteArray} {m : Mc} (n : Nat) (hn : n < 100) (h : NB w r inp m) (ht : m.tr.size ≤ 100000) (hk : ∀ u ∈ m.l, VW u) :
    Calls Tryz.prog 100 #[.pointer (some ⟨r, 0, none⟩), .int .i64 n] w fun e w' => e = .returned (.tuple #[]) ∧ NB w' r inp { m with tr := m.tr ++ toldB n m.l ++ sp } ∧ Kp (· = r) w w' := by
  obtain ⟨hb, h6⟩ := h
  obtain ⟨l, rd, left, tr, outp, me⟩ := m
  dsimp only at *
  obtain ⟨a, b, c, d, e, f, rfl⟩ := six_of h6
  have hu : ∀ u ∈ [a, b, c, d, e, f], ∀ W, Calls Tryz.prog 141 #[.int .i64 (bit u.k)] W fun e w' => e = .returned (.string (strOfNums [u.k])) ∧ w' = W := fun u hu W => nkindSign_c u.k (hk u hu).k W
  refine (ntell_at r n inp tr outp rd (bit a.k) a.n (bit a.v) (bit b.k) b.n (bit b.v) (bit c.k) c.n (bit c.v) (bit d.k) d.n (bit d.v) (bit e.k) e.n (bit e.v) (bit f.k) f.n (bit f.v) a.k b.k c.k d.k e.k f.k w hn ht hb (hu a (by simp)) (hu b (by simp)) (hu c (by simp)) (hu d (by simp)) (hu e (by simp)) (hu f (by simp))).mono ?_
  rintro x w' ⟨rfl, hb', k'⟩
  exact ⟨rfl, ⟨hb', rfl⟩, k'⟩

set_option maxHeartbeats 800000 in
theorem nvalueOf_0 (r : Nat) (inp tr outp : ByteArray) (rd : Int) (k0 n0 v0 k1 n1 v1 k2 n2 v2 k3 n3 v3 k4 n4 v4 k5 n5 v5 : Int) (w : World) (hb : Blk w r [.int .i64 k0, .int .i64 n0, .int .i64 v0, .int .i64 k1, .int .i64 n1, .int .i64 v1, .int .i64 k2, .int .i64 n2, .int .i64 v2, .int .i64 k3, .int .i64 n3, .int .i64 v3, .int .i64 k4, .int .i64 n4, .int .i64 v4, .int .i64 k5, .int .i64 n5, .int .i64 v5, .string inp, .int .i64 rd, .string tr, .string outp] 142) :
    Calls Tryz.prog 142 #[.pointer (some ⟨r, 0, none⟩), .int .i64 0] w fun e w' => e = .returned (.agg #[.int .i64 k0, .int .i64 n0, .int .i64 v0]) ∧ Kp no w w' := by
  obtain ⟨c0, c1, c2, c3, c4, c5, c6, c7, c8, c9, c10, c11, c12, c13, c14, c15, c16, c17, c18, c19, c20, c21, cf⟩ := hb.c22
  have hr := hb.lt
  clear hb c3 c4 c5 c6 c7 c8 c9 c10 c11 c12 c13 c14 c15 c16 c17 c18 c19 c20 c21
  go_enter Tryz.func142, Tryz.ntmps142
  go_wp2
  refine body_agg (Tb := 89) (b := w.heap.size) (cs := [.int .i64 k0, .int .i64 n0, .int .i64 v0]) (.inr rfl) Tryz.results142 rfl rfl (by (repeat' (first | ((with_reducible show (_ : List Value) = _); rfl) | ((with_reducible refine Blk.newAt _ _ _ ?_); first | with_reducible rfl | (simp; done)) | with_reducible refine Blk.alloc ?_ _ | with_reducible refine Blk.drewN ?_ _ | with_reducible refine Blk.drew ?_ | ((with_reducible refine Blk.other ?_ _ ?_); rotate_left; ((try dsimp only); omega)) | with_reducible refine Blk.setB (cs0 := ?_) ?_ ?_))) Tryz.underlying89 rfl (by kernel_rfl) ?_
  exact ⟨rfl, by (repeat' (first | with_reducible exact Kp.refl _ _ | with_reducible refine Kp.alloc ?_ _ | with_reducible refine Kp.drewN ?_ _ | with_reducible refine Kp.drew ?_ | with_reducible refine Kp.setCell ?_ _ ?_ | (intro hh; first | rfl | exact .inl rfl | exact .inr rfl | (exfalso; (try dsimp only at hh); omega))))⟩

set_option maxHeartbeats 800000 in
theorem nvalueOf_1 (r : Nat) (inp tr outp : ByteArray) (rd : Int) (k0 n0 v0 k1 n1 v1 k2 n2 v2 k3 n3 v3 k4 n4 v4 k5 n5 v5 : Int) (w : World) (hb : Blk w r [.int .i64 k0, .int .i64 n0, .int .i64 v0, .int .i64 k1, .int .i64 n1, .int .i64 v1, .int .i64 k2, .int .i64 n2, .int .i64 v2, .int .i64 k3, .int .i64 n3, .int .i64 v3, .int .i64 k4, .int .i64 n4, .int .i64 v4, .int .i64 k5, .int .i64 n5, .int .i64 v5, .string inp, .int .i64 rd, .string tr, .string outp] 142) :
    Calls Tryz.prog 142 #[.pointer (some ⟨r, 0, none⟩), .int .i64 1] w fun e w' => e = .returned (.agg #[.int .i64 k1, .int .i64 n1, .int .i64 v1]) ∧ Kp no w w' := by
  obtain ⟨c0, c1, c2, c3, c4, c5, c6, c7, c8, c9, c10, c11, c12, c13, c14, c15, c16, c17, c18, c19, c20, c21, cf⟩ := hb.c22
  have hr := hb.lt
  clear hb c0 c1 c2 c6 c7 c8 c9 c10 c11 c12 c13 c14 c15 c16 c17 c18 c19 c20 c21
  go_enter Tryz.func142, Tryz.ntmps142
  go_wp2
  refine body_agg (Tb := 89) (b := w.heap.size) (cs := [.int .i64 k1, .int .i64 n1, .int .i64 v1]) (.inr rfl) Tryz.results142 rfl rfl (by (repeat' (first | ((with_reducible show (_ : List Value) = _); rfl) | ((with_reducible refine Blk.newAt _ _ _ ?_); first | with_reducible rfl | (simp; done)) | with_reducible refine Blk.alloc ?_ _ | with_reducible refine Blk.drewN ?_ _ | with_reducible refine Blk.drew ?_ | ((with_reducible refine Blk.other ?_ _ ?_); rotate_left; ((try dsimp only); omega)) | with_reducible refine Blk.setB (cs0 := ?_) ?_ ?_))) Tryz.underlying89 rfl (by kernel_rfl) ?_
  exact ⟨rfl, by (repeat' (first | with_reducible exact Kp.refl _ _ | with_reducible refine Kp.alloc ?_ _ | with_reducible refine Kp.drewN ?_ _ | with_reducible refine Kp.drew ?_ | with_reducible refine Kp.setCell ?_ _ ?_ | (intro hh; first | rfl | exact .inl rfl | exact .inr rfl | (exfalso; (try dsimp only at hh); omega))))⟩

set_option maxHeartbeats 800000 in
theorem nvalueOf_2 (r : Nat) (inp tr outp : ByteArray) (rd : Int) (k0 n0 v0 k1 n1 v1 k2 n2 v2 k3 n3 v3 k4 n4 v4 k5 n5 v5 : Int) (w : World) (hb : Blk w r [.int .i64 k0, .int .i64 n0, .int .i64 v0, .int .i64 k1, .int .i64 n1, .int .i64 v1, .int .i64 k2, .int .i64 n2, .int .i64 v2, .int .i64 k3, .int .i64 n3, .int .i64 v3, .int .i64 k4, .int .i64 n4, .int .i64 v4, .int .i64 k5, .int .i64 n5, .int .i64 v5, .string inp, .int .i64 rd, .string tr, .string outp] 142) :
    Calls Tryz.prog 142 #[.pointer (some ⟨r, 0, none⟩), .int .i64 2] w fun e w' => e = .returned (.agg #[.int .i64 k2, .int .i64 n2, .int .i64 v2]) ∧ Kp no w w' := by
  obtain ⟨c0, c1, c2, c3, c4, c5, c6, c7, c8, c9, c10, c11, c12, c13, c14, c15, c16, c17, c18, c19, c20, c21, cf⟩ := hb.c22
  have hr := hb.lt
  clear hb c0 c1 c2 c3 c4 c5 c9 c10 c11 c12 c13 c14 c15 c16 c17 c18 c19 c20 c21
  go_enter Tryz.func142, Tryz.ntmps142
  go_wp2
  refine body_agg (Tb := 89) (b := w.heap.size) (cs := [.int .i64 k2, .int .i64 n2, .int .i64 v2]) (.inr rfl) Tryz.results142 rfl rfl (by (repeat' (first | ((with_reducible show (_ : List Value) = _); rfl) | ((with_reducible refine Blk.newAt _ _ _ ?_); first | with_reducible rfl | (simp; done)) | with_reducible refine Blk.alloc ?_ _ | with_reducible refine Blk.drewN ?_ _ | with_reducible refine Blk.drew ?_ | ((with_reducible refine Blk.other ?_ _ ?_); rotate_left; ((try dsimp only); omega)) | with_reducible refine Blk.setB (cs0 := ?_) ?_ ?_))) Tryz.underlying89 rfl (by kernel_rfl) ?_
  exact ⟨rfl, by (repeat' (first | with_reducible exact Kp.refl _ _ | with_reducible refine Kp.alloc ?_ _ | with_reducible refine Kp.drewN ?_ _ | with_reducible refine Kp.drew ?_ | with_reducible refine Kp.setCell ?_ _ ?_ | (intro hh; first | rfl | exact .inl rfl | exact .inr rfl | (exfalso; (try dsimp only at hh); omega))))⟩

set_option maxHeartbeats 800000 in
theorem nvalueOf_3 (r : Nat) (inp tr outp : ByteArray) (rd : Int) (k0 n0 v0 k1 n1 v1 k2 n2 v2 k3 n3 v3 k4 n4 v4 k5 n5 v5 : Int) (w : World) (hb : Blk w r [.int .i64 k0, .int .i64 n0, .int .i64 v0, .int .i64 k1, .int .i64 n1, .int .i64 v1, .int .i64 k2, .int .i64 n2, .int .i64 v2, .int .i64 k3, .int .i64 n3, .int .i64 v3, .int .i64 k4, .int .i64 n4, .int .i64 v4, .int .i64 k5, .int .i64 n5, .int .i64 v5, .string inp, .int .i64 rd, .string tr, .string outp] 142) :
    Calls Tryz.prog 142 #[.pointer (some ⟨r, 0, none⟩), .int .i64 3] w fun e w' => e = .returned (.agg #[.int .i64 k3, .int .i64 n3, .int .i64 v3]) ∧ Kp no w w' := by
  obtain ⟨c0, c1, c2, c3, c4, c5, c6, c7, c8, c9, c10, c11, c12, c13, c14, c15, c16, c17, c18, c19, c20, c21, cf⟩ := hb.c22
  have hr := hb.lt
  clear hb c0 c1 c2 c3 c4 c5 c6 c7 c8 c12 c13 c14 c15 c16 c17 c18 c19 c20 c21
  go_enter Tryz.func142, Tryz.ntmps142
  go_wp2
  refine body_agg (Tb := 89) (b := w.heap.size) (cs := [.int .i64 k3, .int .i64 n3, .int .i64 v3]) (.inr rfl) Tryz.results142 rfl rfl (by (repeat' (first | ((with_reducible show (_ : List Value) = _); rfl) | ((with_reducible refine Blk.newAt _ _ _ ?_); first | with_reducible rfl | (simp; done)) | with_reducible refine Blk.alloc ?_ _ | with_reducible refine Blk.drewN ?_ _ | with_reducible refine Blk.drew ?_ | ((with_reducible refine Blk.other ?_ _ ?_); rotate_left; ((try dsimp only); omega)) | with_reducible refine Blk.setB (cs0 := ?_) ?_ ?_))) Tryz.underlying89 rfl (by kernel_rfl) ?_
  exact ⟨rfl, by (repeat' (first | with_reducible exact Kp.refl _ _ | with_reducible refine Kp.alloc ?_ _ | with_reducible refine Kp.drewN ?_ _ | with_reducible refine Kp.drew ?_ | with_reducible refine Kp.setCell ?_ _ ?_ | (intro hh; first | rfl | exact .inl rfl | exact .inr rfl | (exfalso; (try dsimp only at hh); omega))))⟩

set_option maxHeartbeats 800000 in
theorem nvalueOf_4 (r : Nat) (inp tr outp : ByteArray) (rd : Int) (k0 n0 v0 k1 n1 v1 k2 n2 v2 k3 n3 v3 k4 n4 v4 k5 n5 v5 : Int) (w : World) (hb : Blk w r [.int .i64 k0, .int .i64 n0, .int .i64 v0, .int .i64 k1, .int .i64 n1, .int .i64 v1, .int .i64 k2, .int .i64 n2, .int .i64 v2, .int .i64 k3, .int .i64 n3, .int .i64 v3, .int .i64 k4, .int .i64 n4, .int .i64 v4, .int .i64 k5, .int .i64 n5, .int .i64 v5, .string inp, .int .i64 rd, .string tr, .string outp] 142) :
    Calls Tryz.prog 142 #[.pointer (some ⟨r, 0, none⟩), .int .i64 4] w fun e w' => e = .returned (.agg #[.int .i64 k4, .int .i64 n4, .int .i64 v4]) ∧ Kp no w w' := by
  obtain ⟨c0, c1, c2, c3, c4, c5, c6, c7, c8, c9, c10, c11, c12, c13, c14, c15, c16, c17, c18, c19, c20, c21, cf⟩ := hb.c22
  have hr := hb.lt
  clear hb c0 c1 c2 c3 c4 c5 c6 c7 c8 c9 c10 c11 c15 c16 c17 c18 c19 c20 c21
  go_enter Tryz.func142, Tryz.ntmps142
  go_wp2
  refine body_agg (Tb := 89) (b := w.heap.size) (cs := [.int .i64 k4, .int .i64 n4, .int .i64 v4]) (.inr rfl) Tryz.results142 rfl rfl (by (repeat' (first | ((with_reducible show (_ : List Value) = _); rfl) | ((with_reducible refine Blk.newAt _ _ _ ?_); first | with_reducible rfl | (simp; done)) | with_reducible refine Blk.alloc ?_ _ | with_reducible refine Blk.drewN ?_ _ | with_reducible refine Blk.drew ?_ | ((with_reducible refine Blk.other ?_ _ ?_); rotate_left; ((try dsimp only); omega)) | with_reducible refine Blk.setB (cs0 := ?_) ?_ ?_))) Tryz.underlying89 rfl (by kernel_rfl) ?_
  exact ⟨rfl, by (repeat' (first | with_reducible exact Kp.refl _ _ | with_reducible refine Kp.alloc ?_ _ | with_reducible refine Kp.drewN ?_ _ | with_reducible refine Kp.drew ?_ | with_reducible refine Kp.setCell ?_ _ ?_ | (intro hh; first | rfl | exact .inl rfl | exact .inr rfl | (exfalso; (try dsimp only at hh); omega))))⟩

set_option maxHeartbeats 800000 in
theorem nvalueOf_5 (r : Nat) (inp tr outp : ByteArray) (rd : Int) (k0 n0 v0 k1 n1 v1 k2 n2 v2 k3 n3 v3 k4 n4 v4 k5 n5 v5 : Int) (w : World) (hb : Blk w r [.int .i64 k0, .int .i64 n0, .int .i64 v0, .int .i64 k1, .int .i64 n1, .int .i64 v1, .int .i64 k2, .int .i64 n2, .int .i64 v2, .int .i64 k3, .int .i64 n3, .int .i64 v3, .int .i64 k4, .int .i64 n4, .int .i64 v4, .int .i64 k5, .int .i64 n5, .int .i64 v5, .string inp, .int .i64 rd, .string tr, .string outp] 142) :
    Calls Tryz.prog 142 #[.pointer (some ⟨r, 0, none⟩), .int .i64 5] w fun e w' => e = .returned (.agg #[.int .i64 k5, .int .i64 n5, .int .i64 v5]) ∧ Kp no w w' := by
  obtain ⟨c0, c1, c2, c3, c4, c5, c6, c7, c8, c9, c10, c11, c12, c13, c14, c15, c16, c17, c18, c19, c20, c21, cf⟩ := hb.c22
  have hr := hb.lt
  clear hb c0 c1 c2 c3 c4 c5 c6 c7 c8 c9 c10 c11 c12 c13 c14 c18 c19 c20 c21
  go_enter Tryz.func142, Tryz.ntmps142
  go_wp2
  refine body_agg (Tb := 89) (b := w.heap.size) (cs := [.int .i64 k5, .int .i64 n5, .int .i64 v5]) (.inr rfl) Tryz.results142 rfl rfl (by (repeat' (first | ((with_reducible show (_ : List Value) = _); rfl) | ((with_reducible refine Blk.newAt _ _ _ ?_); first | with_reducible rfl | (simp; done)) | with_reducible refine Blk.alloc ?_ _ | with_reducible refine Blk.drewN ?_ _ | with_reducible refine Blk.drew ?_ | ((with_reducible refine Blk.other ?_ _ ?_); rotate_left; ((try dsimp only); omega)) | with_reducible refine Blk.setB (cs0 := ?_) ?_ ?_))) Tryz.underlying89 rfl (by kernel_rfl) ?_
  exact ⟨rfl, by (repeat' (first | with_reducible exact Kp.refl _ _ | with_reducible refine Kp.alloc ?_ _ | with_reducible refine Kp.drewN ?_ _ | with_reducible refine Kp.drew ?_ | with_reducible refine Kp.setCell ?_ _ ?_ | (intro hh; first | rfl | exact .inl rfl | exact .inr rfl | (exfalso; (try dsimp only at hh); omega))))⟩

set_option maxHeartbeats 800000 in
theorem nset_0 (r : Nat) (inp tr outp : ByteArray) (rd : Int) (k0 n0 v0 k1 n1 v1 k2 n2 v2 k3 n3 v3 k4 n4 v4 k5 n5 v5 a b c : Int) (w : World) (hb : Blk w r [.int .i64 k0, .int .i64 n0, .int .i64 v0, .int .i64 k1, .int .i64 n1, .int .i64 v1, .int .i64 k2, .int .i64 n2, .int .i64 v2, .int .i64 k3, .int .i64 n3, .int .i64 v3, .int .i64 k4, .int .i64 n4, .int .i64 v4, .int .i64 k5, .int .i64 n5, .int .i64 v5, .string inp, .int .i64 rd, .string tr, .string outp] 142) :
    Calls Tryz.prog 145 #[.pointer (some ⟨r, 0, none⟩), .int .i64 0, .agg #[.int .i64 a, .int .i64 b, .int .i64 c]] w fun e w' => e = .returned (.tuple #[]) ∧ Blk w' r [.int .i64 a, .int .i64 b, .int .i64 c, .int .i64 k1, .int .i64 n1, .int .i64 v1, .int .i64 k2, .int .i64 n2, .int .i64 v2, .int .i64 k3, .int .i64 n3, .int .i64 v3, .int .i64 k4, .int .i64 n4, .int .i64 v4, .int .i64 k5, .int .i64 n5, .int .i64 v5, .string inp, .int .i64 rd, .string tr, .string outp] 142 ∧ Kp (· = r) w w' := by
  have hr := hb.lt
  go_enter Tryz.func145, Tryz.ntmps145
  go_wp2
  refine wp_gen (fun W => Blk W r [.int .i64 k0, .int .i64 n0, .int .i64 v0, .int .i64 k1, .int .i64 n1, .int .i64 v1, .int .i64 k2, .int .i64 n2, .int .i64 v2, .int .i64 k3, .int .i64 n3, .int .i64 v3, .int .i64 k4, .int .i64 n4, .int .i64 v4, .int .i64 k5, .int .i64 n5, .int .i64 v5, .string inp, .int .i64 rd, .string tr, .string outp] 142 ∧ Blk W w.heap.size [.int .i64 a, .int .i64 b, .int .i64 c] 89 ∧ Kp (· = r) w W) ⟨by (repeat' (first | ((with_reducible show (_ : List Value) = _); rfl) | with_reducible exact hb | ((with_reducible refine Blk.newAt _ _ _ ?_); first | with_reducible rfl | (simp; done)) | with_reducible refine Blk.alloc ?_ _ | with_reducible refine Blk.drewN ?_ _ | with_reducible refine Blk.drew ?_ | ((with_reducible refine Blk.other ?_ _ ?_); rotate_left; ((try dsimp only); omega)) | with_reducible refine Blk.setB (cs0 := ?_) ?_ ?_)), by (repeat' (first | ((with_reducible show (_ : List Value) = _); rfl) | ((with_reducible refine Blk.newAt _ _ _ ?_); first | with_reducible rfl | (simp; done)) | with_reducible refine Blk.alloc ?_ _ | with_reducible refine Blk.drewN ?_ _ | with_reducible refine Blk.drew ?_ | ((with_reducible refine Blk.other ?_ _ ?_); rotate_left; ((try dsimp only); omega)) | with_reducible refine Blk.setB (cs0 := ?_) ?_ ?_)), by (repeat' (first | with_reducible exact Kp.refl _ _ | with_reducible refine Kp.alloc ?_ _ | with_reducible refine Kp.drewN ?_ _ | with_reducible refine Kp.drew ?_ | with_reducible refine Kp.setCell ?_ _ ?_ | (intro hh; first | rfl | exact .inl rfl | exact .inr rfl | (exfalso; (try dsimp only at hh); omega))))⟩ ?_
  rintro W ⟨hbW, hL, kW⟩
  obtain ⟨c0, c1, c2, c3, c4, c5, c6, c7, c8, c9, c10, c11, c12, c13, c14, c15, c16, c17, c18, c19, c20, c21, cf⟩ := hbW.c22
  obtain ⟨l0, l1, l2, lf⟩ := hL.c3
  have hrW := hbW.lt
  have hlW := hL.lt
  clear hb c3 c4 c5 c6 c7 c8 c9 c10 c11 c12 c13 c14 c15 c16 c17 c18 c19 c20 c21
  go_region
  all_goals
    go_wp2
    go_end0
    exact ⟨rfl, by (repeat' (first | ((with_reducible show (_ : List Value) = _); rfl) | with_reducible exact hbW | ((with_reducible refine Blk.newAt _ _ _ ?_); first | with_reducible rfl | (simp; done)) | with_reducible refine Blk.alloc ?_ _ | with_reducible refine Blk.drewN ?_ _ | with_reducible refine Blk.drew ?_ | ((with_reducible refine Blk.other ?_ _ ?_); rotate_left; ((try dsimp only); omega)) | with_reducible refine Blk.setB (cs0 := ?_) ?_ ?_)), by (repeat' (first | with_reducible exact Kp.refl _ _ | with_reducible refine Kp.alloc ?_ _ | with_reducible refine Kp.drewN ?_ _ | with_reducible refine Kp.drew ?_ | with_reducible refine Kp.setCell ?_ _ ?_ | with_reducible refine Kp.trans ?_ kW (fun _ _ e => e) | (intro hh; first | rfl | exact .inl rfl | exact .inr rfl | (exfalso; (try dsimp only at hh); omega))))⟩

set_option maxHeartbeats 800000 in
theorem nset_1 (r : Nat) (inp tr outp : ByteArray) (rd : Int) (k0 n0 v0 k1 n1 v1 k2 n2 v2 k3 n3 v3 k4 n4 v4 k5 n5 v5 a b c : Int) (w : World) (hb : Blk w r [.int .i64 k0, .int .i64 n0, .int .i64 v0, .int .i64 k1, .int .i64 n1, .int .i64 v1, .int .i64 k2, .int .i64 n2, .int .i64 v2, .int .i64 k3, .int .i64 n3, .int .i64 v3, .int .i64 k4, .int .i64 n4, .int .i64 v4, .int .i64 k5, .int .i64 n5, .int .i64 v5, .string inp, .int .i64 rd, .string tr, .string outp] 142) :
    Calls Tryz.prog 145 #[.pointer (some ⟨r, 0, none⟩), .int .i64 1, .agg #[.int .i64 a, .int .i64 b, .int .i64 c]] w fun e w' => e = .returned (.tuple #[]) ∧ Blk w' r [.int .i64 k0, .int .i64 n0, .int .i64 v0, .int .i64 a, .int .i64 b, .int .i64 c, .int .i64 k2, .int .i64 n2, .int .i64 v2, .int .i64 k3, .int .i64 n3, .int .i64 v3, .int .i64 k4, .int .i64 n4, .int .i64 v4, .int .i64 k5, .int .i64 n5, .int .i64 v5, .string inp, .int .i64 rd, .string tr, .string outp] 142 ∧ Kp (· = r) w w' := by
  have hr := hb.lt
  go_enter Tryz.func145, Tryz.ntmps145
  go_wp2
  refine wp_gen (fun W => Blk W r [.int .i64 k0, .int .i64 n0, .int .i64 v0, .int .i64 k1, .int .i64 n1, .int .i64 v1, .int .i64 k2, .int .i64 n2, .int .i64 v2, .int .i64 k3, .int .i64 n3, .int .i64 v3, .int .i64 k4, .int .i64 n4, .int .i64 v4, .int .i64 k5, .int .i64 n5, .int .i64 v5, .string inp, .int .i64 rd, .string tr, .string outp] 142 ∧ Blk W w.heap.size [.int .i64 a, .int .i64 b, .int .i64 c] 89 ∧ Kp (· = r) w W) ⟨by (repeat' (first | ((with_reducible show (_ : List Value) = _); rfl) | with_reducible exact hb | ((with_reducible refine Blk.newAt _ _ _ ?_); first | with_reducible rfl | (simp; done)) | with_reducible refine Blk.alloc ?_ _ | with_reducible refine Blk.drewN ?_ _ | with_reducible refine Blk.drew ?_ | ((with_reducible refine Blk.other ?_ _ ?_); rotate_left; ((try dsimp only); omega)) | with_reducible refine Blk.setB (cs0 := ?_) ?_ ?_)), by (repeat' (first | ((with_reducible show (_ : List Value) = _); rfl) | ((with_reducible refine Blk.newAt _ _ _ ?_); first | with_reducible rfl | (simp; done)) | with_reducible refine Blk.alloc ?_ _ | with_reducible refine Blk.drewN ?_ _ | with_reducible refine Blk.drew ?_ | ((with_reducible refine Blk.other ?_ _ ?_); rotate_left; ((try dsimp only); omega)) | with_reducible refine Blk.setB (cs0 := ?_) ?_ ?_)), by (repeat' (first | with_reducible exact Kp.refl _ _ | with_reducible refine Kp.alloc ?_ _ | with_reducible refine Kp.drewN ?_ _ | with_reducible refine Kp.drew ?_ | with_reducible refine Kp.setCell ?_ _ ?_ | (intro hh; first | rfl | exact .inl rfl | exact .inr rfl | (exfalso; (try dsimp only at hh); omega))))⟩ ?_
  rintro W ⟨hbW, hL, kW⟩
  obtain ⟨c0, c1, c2, c3, c4, c5, c6, c7, c8, c9, c10, c11, c12, c13, c14, c15, c16, c17, c18, c19, c20, c21, cf⟩ := hbW.c22
  obtain ⟨l0, l1, l2, lf⟩ := hL.c3
  have hrW := hbW.lt
  have hlW := hL.lt
  clear hb c0 c1 c2 c6 c7 c8 c9 c10 c11 c12 c13 c14 c15 c16 c17 c18 c19 c20 c21
  go_region
  all_goals
    go_wp2
    go_end0
    exact ⟨rfl, by (repeat' (first | ((with_reducible show (_ : List Value) = _); rfl) | with_reducible exact hbW | ((with_reducible refine Blk.newAt _ _ _ ?_); first | with_reducible rfl | (simp; done)) | with_reducible refine Blk.alloc ?_ _ | with_reducible refine Blk.drewN ?_ _ | with_reducible refine Blk.drew ?_ | ((with_reducible refine Blk.other ?_ _ ?_); rotate_left; ((try dsimp only); omega)) | with_reducible refine Blk.setB (cs0 := ?_) ?_ ?_)), by (repeat' (first | with_reducible exact Kp.refl _ _ | with_reducible refine Kp.alloc ?_ _ | with_reducible refine Kp.drewN ?_ _ | with_reducible refine Kp.drew ?_ | with_reducible refine Kp.setCell ?_ _ ?_ | with_reducible refine Kp.trans ?_ kW (fun _ _ e => e) | (intro hh; first | rfl | exact .inl rfl | exact .inr rfl | (exfalso; (try dsimp only at hh); omega))))⟩

set_option maxHeartbeats 800000 in
theorem nset_2 (r : Nat) (inp tr outp : ByteArray) (rd : Int) (k0 n0 v0 k1 n1 v1 k2 n2 v2 k3 n3 v3 k4 n4 v4 k5 n5 v5 a b c : Int) (w : World) (hb : Blk w r [.int .i64 k0, .int .i64 n0, .int .i64 v0, .int .i64 k1, .int .i64 n1, .int .i64 v1, .int .i64 k2, .int .i64 n2, .int .i64 v2, .int .i64 k3, .int .i64 n3, .int .i64 v3, .int .i64 k4, .int .i64 n4, .int .i64 v4, .int .i64 k5, .int .i64 n5, .int .i64 v5, .string inp, .int .i64 rd, .string tr, .string outp] 142) :
    Calls Tryz.prog 145 #[.pointer (some ⟨r, 0, none⟩), .int .i64 2, .agg #[.int .i64 a, .int .i64 b, .int .i64 c]] w fun e w' => e = .returned (.tuple #[]) ∧ Blk w' r [.int .i64 k0, .int .i64 n0, .int .i64 v0, .int .i64 k1, .int .i64 n1, .int .i64 v1, .int .i64 a, .int .i64 b, .int .i64 c, .int .i64 k3, .int .i64 n3, .int .i64 v3, .int .i64 k4, .int .i64 n4, .int .i64 v4, .int .i64 k5, .int .i64 n5, .int .i64 v5, .string inp, .int .i64 rd, .string tr, .string outp] 142 ∧ Kp (· = r) w w' := by
  have hr := hb.lt
  go_enter Tryz.func145, Tryz.ntmps145
  go_wp2
  refine wp_gen (fun W => Blk W r [.int .i64 k0, .int .i64 n0, .int .i64 v0, .int .i64 k1, .int .i64 n1, .int .i64 v1, .int .i64 k2, .int .i64 n2, .int .i64 v2, .int .i64 k3, .int .i64 n3, .int .i64 v3, .int .i64 k4, .int .i64 n4, .int .i64 v4, .int .i64 k5, .int .i64 n5, .int .i64 v5, .string inp, .int .i64 rd, .string tr, .string outp] 142 ∧ Blk W w.heap.size [.int .i64 a, .int .i64 b, .int .i64 c] 89 ∧ Kp (· = r) w W) ⟨by (repeat' (first | ((with_reducible show (_ : List Value) = _); rfl) | with_reducible exact hb | ((with_reducible refine Blk.newAt _ _ _ ?_); first | with_reducible rfl | (simp; done)) | with_reducible refine Blk.alloc ?_ _ | with_reducible refine Blk.drewN ?_ _ | with_reducible refine Blk.drew ?_ | ((with_reducible refine Blk.other ?_ _ ?_); rotate_left; ((try dsimp only); omega)) | with_reducible refine Blk.setB (cs0 := ?_) ?_ ?_)), by (repeat' (first | ((with_reducible show (_ : List Value) = _); rfl) | ((with_reducible refine Blk.newAt _ _ _ ?_); first | with_reducible rfl | (simp; done)) | with_reducible refine Blk.alloc ?_ _ | with_reducible refine Blk.drewN ?_ _ | with_reducible refine Blk.drew ?_ | ((with_reducible refine Blk.other ?_ _ ?_); rotate_left; ((try dsimp only); omega)) | with_reducible refine Blk.setB (cs0 := ?_) ?_ ?_)), by (repeat' (first | with_reducible exact Kp.refl _ _ | with_reducible refine Kp.alloc ?_ _ | with_reducible refine Kp.drewN ?_ _ | with_reducible refine Kp.drew ?_ | with_reducible refine Kp.setCell ?_ _ ?_ | (intro hh; first | rfl | exact .inl rfl | exact .inr rfl | (exfalso; (try dsimp only at hh); omega))))⟩ ?_
  rintro W ⟨hbW, hL, kW⟩
  obtain ⟨c0, c1, c2, c3, c4, c5, c6, c7, c8, c9, c10, c11, c12, c13, c14, c15, c16, c17, c18, c19, c20, c21, cf⟩ := hbW.c22
  obtain ⟨l0, l1, l2, lf⟩ := hL.c3
  have hrW := hbW.lt
  have hlW := hL.lt
  clear hb c0 c1 c2 c3 c4 c5 c9 c10 c11 c12 c13 c14 c15 c16 c17 c18 c19 c20 c21
  go_region
  all_goals
    go_wp2
    go_end0
    exact ⟨rfl, by (repeat' (first | ((with_reducible show (_ : List Value) = _); rfl) | with_reducible exact hbW | ((with_reducible refine Blk.newAt _ _ _ ?_); first | with_reducible rfl | (simp; done)) | with_reducible refine Blk.alloc ?_ _ | with_reducible refine Blk.drewN ?_ _ | with_reducible refine Blk.drew ?_ | ((with_reducible refine Blk.other ?_ _ ?_); rotate_left; ((try dsimp only); omega)) | with_reducible refine Blk.setB (cs0 := ?_) ?_ ?_)), by (repeat' (first | with_reducible exact Kp.refl _ _ | with_reducible refine Kp.alloc ?_ _ | with_reducible refine Kp.drewN ?_ _ | with_reducible refine Kp.drew ?_ | with_reducible refine Kp.setCell ?_ _ ?_ | with_reducible refine Kp.trans ?_ kW (fun _ _ e => e) | (intro hh; first | rfl | exact .inl rfl | exact .inr rfl | (exfalso; (try dsimp only at hh); omega))))⟩

set_option maxHeartbeats 800000 in
theorem nset_3 (r : Nat) (inp tr outp : ByteArray) (rd : Int) (k0 n0 v0 k1 n1 v1 k2 n2 v2 k3 n3 v3 k4 n4 v4 k5 n5 v5 a b c : Int) (w : World) (hb : Blk w r [.int .i64 k0, .int .i64 n0, .int .i64 v0, .int .i64 k1, .int .i64 n1, .int .i64 v1, .int .i64 k2, .int .i64 n2, .int .i64 v2, .int .i64 k3, .int .i64 n3, .int .i64 v3, .int .i64 k4, .int .i64 n4, .int .i64 v4, .int .i64 k5, .int .i64 n5, .int .i64 v5, .string inp, .int .i64 rd, .string tr, .string outp] 142) :
    Calls Tryz.prog 145 #[.pointer (some ⟨r, 0, none⟩), .int .i64 3, .agg #[.int .i64 a, .int .i64 b, .int .i64 c]] w fun e w' => e = .returned (.tuple #[]) ∧ Blk w' r [.int .i64 k0, .int .i64 n0, .int .i64 v0, .int .i64 k1, .int .i64 n1, .int .i64 v1, .int .i64 k2, .int .i64 n2, .int .i64 v2, .int .i64 a, .int .i64 b, .int .i64 c, .int .i64 k4, .int .i64 n4, .int .i64 v4, .int .i64 k5, .int .i64 n5, .int .i64 v5, .string inp, .int .i64 rd, .string tr, .string outp] 142 ∧ Kp (· = r) w w' := by
  have hr := hb.lt
  go_enter Tryz.func145, Tryz.ntmps145
  go_wp2
  refine wp_gen (fun W => Blk W r [.int .i64 k0, .int .i64 n0, .int .i64 v0, .int .i64 k1, .int .i64 n1, .int .i64 v1, .int .i64 k2, .int .i64 n2, .int .i64 v2, .int .i64 k3, .int .i64 n3, .int .i64 v3, .int .i64 k4, .int .i64 n4, .int .i64 v4, .int .i64 k5, .int .i64 n5, .int .i64 v5, .string inp, .int .i64 rd, .string tr, .string outp] 142 ∧ Blk W w.heap.size [.int .i64 a, .int .i64 b, .int .i64 c] 89 ∧ Kp (· = r) w W) ⟨by (repeat' (first | ((with_reducible show (_ : List Value) = _); rfl) | with_reducible exact hb | ((with_reducible refine Blk.newAt _ _ _ ?_); first | with_reducible rfl | (simp; done)) | with_reducible refine Blk.alloc ?_ _ | with_reducible refine Blk.drewN ?_ _ | with_reducible refine Blk.drew ?_ | ((with_reducible refine Blk.other ?_ _ ?_); rotate_left; ((try dsimp only); omega)) | with_reducible refine Blk.setB (cs0 := ?_) ?_ ?_)), by (repeat' (first | ((with_reducible show (_ : List Value) = _); rfl) | ((with_reducible refine Blk.newAt _ _ _ ?_); first | with_reducible rfl | (simp; done)) | with_reducible refine Blk.alloc ?_ _ | with_reducible refine Blk.drewN ?_ _ | with_reducible refine Blk.drew ?_ | ((with_reducible refine Blk.other ?_ _ ?_); rotate_left; ((try dsimp only); omega)) | with_reducible refine Blk.setB (cs0 := ?_) ?_ ?_)), by (repeat' (first | with_reducible exact Kp.refl _ _ | with_reducible refine Kp.alloc ?_ _ | with_reducible refine Kp.drewN ?_ _ | with_reducible refine Kp.drew ?_ | with_reducible refine Kp.setCell ?_ _ ?_ | (intro hh; first | rfl | exact .inl rfl | exact .inr rfl | (exfalso; (try dsimp only at hh); omega))))⟩ ?_
  rintro W ⟨hbW, hL, kW⟩
  obtain ⟨c0, c1, c2, c3, c4, c5, c6, c7, c8, c9, c10, c11, c12, c13, c14, c15, c16, c17, c18, c19, c20, c21, cf⟩ := hbW.c22
  obtain ⟨l0, l1, l2, lf⟩ := hL.c3
  have hrW := hbW.lt
  have hlW := hL.lt
  clear hb c0 c1 c2 c3 c4 c5 c6 c7 c8 c12 c13 c14 c15 c16 c17 c18 c19 c20 c21
  go_region
  all_goals
    go_wp2
    go_end0
    exact ⟨rfl, by (repeat' (first | ((with_reducible show (_ : List Value) = _); rfl) | with_reducible exact hbW | ((with_reducible refine Blk.newAt _ _ _ ?_); first | with_reducible rfl | (simp; done)) | with_reducible refine Blk.alloc ?_ _ | with_reducible refine Blk.drewN ?_ _ | with_reducible refine Blk.drew ?_ | ((with_reducible refine Blk.other ?_ _ ?_); rotate_left; ((try dsimp only); omega)) | with_reducible refine Blk.setB (cs0 := ?_) ?_ ?_)), by (repeat' (first | with_reducible exact Kp.refl _ _ | with_reducible refine Kp.alloc ?_ _ | with_reducible refine Kp.drewN ?_ _ | with_reducible refine Kp.drew ?_ | with_reducible refine Kp.setCell ?_ _ ?_ | with_reducible refine Kp.trans ?_ kW (fun _ _ e => e) | (intro hh; first | rfl | exact .inl rfl | exact .inr rfl | (exfalso; (try dsimp only at hh); omega))))⟩

set_option maxHeartbeats 800000 in
theorem nset_4 (r : Nat) (inp tr outp : ByteArray) (rd : Int) (k0 n0 v0 k1 n1 v1 k2 n2 v2 k3 n3 v3 k4 n4 v4 k5 n5 v5 a b c : Int) (w : World) (hb : Blk w r [.int .i64 k0, .int .i64 n0, .int .i64 v0, .int .i64 k1, .int .i64 n1, .int .i64 v1, .int .i64 k2, .int .i64 n2, .int .i64 v2, .int .i64 k3, .int .i64 n3, .int .i64 v3, .int .i64 k4, .int .i64 n4, .int .i64 v4, .int .i64 k5, .int .i64 n5, .int .i64 v5, .string inp, .int .i64 rd, .string tr, .string outp] 142) :
    Calls Tryz.prog 145 #[.pointer (some ⟨r, 0, none⟩), .int .i64 4, .agg #[.int .i64 a, .int .i64 b, .int .i64 c]] w fun e w' => e = .returned (.tuple #[]) ∧ Blk w' r [.int .i64 k0, .int .i64 n0, .int .i64 v0, .int .i64 k1, .int .i64 n1, .int .i64 v1, .int .i64 k2, .int .i64 n2, .int .i64 v2, .int .i64 k3, .int .i64 n3, .int .i64 v3, .int .i64 a, .int .i64 b, .int .i64 c, .int .i64 k5, .int .i64 n5, .int .i64 v5, .string inp, .int .i64 rd, .string tr, .string outp] 142 ∧ Kp (· = r) w w' := by
  have hr := hb.lt
  go_enter Tryz.func145, Tryz.ntmps145
  go_wp2
  refine wp_gen (fun W => Blk W r [.int .i64 k0, .int .i64 n0, .int .i64 v0, .int .i64 k1, .int .i64 n1, .int .i64 v1, .int .i64 k2, .int .i64 n2, .int .i64 v2, .int .i64 k3, .int .i64 n3, .int .i64 v3, .int .i64 k4, .int .i64 n4, .int .i64 v4, .int .i64 k5, .int .i64 n5, .int .i64 v5, .string inp, .int .i64 rd, .string tr, .string outp] 142 ∧ Blk W w.heap.size [.int .i64 a, .int .i64 b, .int .i64 c] 89 ∧ Kp (· = r) w W) ⟨by (repeat' (first | ((with_reducible show (_ : List Value) = _); rfl) | with_reducible exact hb | ((with_reducible refine Blk.newAt _ _ _ ?_); first | with_reducible rfl | (simp; done)) | with_reducible refine Blk.alloc ?_ _ | with_reducible refine Blk.drewN ?_ _ | with_reducible refine Blk.drew ?_ | ((with_reducible refine Blk.other ?_ _ ?_); rotate_left; ((try dsimp only); omega)) | with_reducible refine Blk.setB (cs0 := ?_) ?_ ?_)), by (repeat' (first | ((with_reducible show (_ : List Value) = _); rfl) | ((with_reducible refine Blk.newAt _ _ _ ?_); first | with_reducible rfl | (simp; done)) | with_reducible refine Blk.alloc ?_ _ | with_reducible refine Blk.drewN ?_ _ | with_reducible refine Blk.drew ?_ | ((with_reducible refine Blk.other ?_ _ ?_); rotate_left; ((try dsimp only); omega)) | with_reducible refine Blk.setB (cs0 := ?_) ?_ ?_)), by (repeat' (first | with_reducible exact Kp.refl _ _ | with_reducible refine Kp.alloc ?_ _ | with_reducible refine Kp.drewN ?_ _ | with_reducible refine Kp.drew ?_ | with_reducible refine Kp.setCell ?_ _ ?_ | (intro hh; first | rfl | exact .inl rfl | exact .inr rfl | (exfalso; (try dsimp only at hh); omega))))⟩ ?_
  rintro W ⟨hbW, hL, kW⟩
  obtain ⟨c0, c1, c2, c3, c4, c5, c6, c7, c8, c9, c10, c11, c12, c13, c14, c15, c16, c17, c18, c19, c20, c21, cf⟩ := hbW.c22
  obtain ⟨l0, l1, l2, lf⟩ := hL.c3
  have hrW := hbW.lt
  have hlW := hL.lt
  clear hb c0 c1 c2 c3 c4 c5 c6 c7 c8 c9 c10 c11 c15 c16 c17 c18 c19 c20 c21
  go_region
  all_goals
    go_wp2
    go_end0
    exact ⟨rfl, by (repeat' (first | ((with_reducible show (_ : List Value) = _); rfl) | with_reducible exact hbW | ((with_reducible refine Blk.newAt _ _ _ ?_); first | with_reducible rfl | (simp; done)) | with_reducible refine Blk.alloc ?_ _ | with_reducible refine Blk.drewN ?_ _ | with_reducible refine Blk.drew ?_ | ((with_reducible refine Blk.other ?_ _ ?_); rotate_left; ((try dsimp only); omega)) | with_reducible refine Blk.setB (cs0 := ?_) ?_ ?_)), by (repeat' (first | with_reducible exact Kp.refl _ _ | with_reducible refine Kp.alloc ?_ _ | with_reducible refine Kp.drewN ?_ _ | with_reducible refine Kp.drew ?_ | with_reducible refine Kp.setCell ?_ _ ?_ | with_reducible refine Kp.trans ?_ kW (fun _ _ e => e) | (intro hh; first | rfl | exact .inl rfl | exact .inr rfl | (exfalso; (try dsimp only at hh); omega))))⟩

set_option maxHeartbeats 800000 in
theorem nset_5 (r : Nat) (inp tr outp : ByteArray) (rd : Int) (k0 n0 v0 k1 n1 v1 k2 n2 v2 k3 n3 v3 k4 n4 v4 k5 n5 v5 a b c : Int) (w : World) (hb : Blk w r [.int .i64 k0, .int .i64 n0, .int .i64 v0, .int .i64 k1, .int .i64 n1, .int .i64 v1, .int .i64 k2, .int .i64 n2, .int .i64 v2, .int .i64 k3, .int .i64 n3, .int .i64 v3, .int .i64 k4, .int .i64 n4, .int .i64 v4, .int .i64 k5, .int .i64 n5, .int .i64 v5, .string inp, .int .i64 rd, .string tr, .string outp] 142) :
    Calls Tryz.prog 145 #[.pointer (some ⟨r, 0, none⟩), .int .i64 5, .agg #[.int .i64 a, .int .i64 b, .int .i64 c]] w fun e w' => e = .returned (.tuple #[]) ∧ Blk w' r [.int .i64 k0, .int .i64 n0, .int .i64 v0, .int .i64 k1, .int .i64 n1, .int .i64 v1, .int .i64 k2, .int .i64 n2, .int .i64 v2, .int .i64 k3, .int .i64 n3, .int .i64 v3, .int .i64 k4, .int .i64 n4, .int .i64 v4, .int .i64 a, .int .i64 b, .int .i64 c, .string inp, .int .i64 rd, .string tr, .string outp] 142 ∧ Kp (· = r) w w' := by
  have hr := hb.lt
  go_enter Tryz.func145, Tryz.ntmps145
  go_wp2
  refine wp_gen (fun W => Blk W r [.int .i64 k0, .int .i64 n0, .int .i64 v0, .int .i64 k1, .int .i64 n1, .int .i64 v1, .int .i64 k2, .int .i64 n2, .int .i64 v2, .int .i64 k3, .int .i64 n3, .int .i64 v3, .int .i64 k4, .int .i64 n4, .int .i64 v4, .int .i64 k5, .int .i64 n5, .int .i64 v5, .string inp, .int .i64 rd, .string tr, .string outp] 142 ∧ Blk W w.heap.size [.int .i64 a, .int .i64 b, .int .i64 c] 89 ∧ Kp (· = r) w W) ⟨by (repeat' (first | ((with_reducible show (_ : List Value) = _); rfl) | with_reducible exact hb | ((with_reducible refine Blk.newAt _ _ _ ?_); first | with_reducible rfl | (simp; done)) | with_reducible refine Blk.alloc ?_ _ | with_reducible refine Blk.drewN ?_ _ | with_reducible refine Blk.drew ?_ | ((with_reducible refine Blk.other ?_ _ ?_); rotate_left; ((try dsimp only); omega)) | with_reducible refine Blk.setB (cs0 := ?_) ?_ ?_)), by (repeat' (first | ((with_reducible show (_ : List Value) = _); rfl) | ((with_reducible refine Blk.newAt _ _ _ ?_); first | with_reducible rfl | (simp; done)) | with_reducible refine Blk.alloc ?_ _ | with_reducible refine Blk.drewN ?_ _ | with_reducible refine Blk.drew ?_ | ((with_reducible refine Blk.other ?_ _ ?_); rotate_left; ((try dsimp only); omega)) | with_reducible refine Blk.setB (cs0 := ?_) ?_ ?_)), by (repeat' (first | with_reducible exact Kp.refl _ _ | with_reducible refine Kp.alloc ?_ _ | with_reducible refine Kp.drewN ?_ _ | with_reducible refine Kp.drew ?_ | with_reducible refine Kp.setCell ?_ _ ?_ | (intro hh; first | rfl | exact .inl rfl | exact .inr rfl | (exfalso; (try dsimp only at hh); omega))))⟩ ?_
  rintro W ⟨hbW, hL, kW⟩
  obtain ⟨c0, c1, c2, c3, c4, c5, c6, c7, c8, c9, c10, c11, c12, c13, c14, c15, c16, c17, c18, c19, c20, c21, cf⟩ := hbW.c22
  obtain ⟨l0, l1, l2, lf⟩ := hL.c3
  have hrW := hbW.lt
  have hlW := hL.lt
  clear hb c0 c1 c2 c3 c4 c5 c6 c7 c8 c9 c10 c11 c12 c13 c14 c18 c19 c20 c21
  go_region
  all_goals
    go_wp2
    go_end0
    exact ⟨rfl, by (repeat' (first | ((with_reducible show (_ : List Value) = _); rfl) | with_reducible exact hbW | ((with_reducible refine Blk.newAt _ _ _ ?_); first | with_reducible rfl | (simp; done)) | with_reducible refine Blk.alloc ?_ _ | with_reducible refine Blk.drewN ?_ _ | with_reducible refine Blk.drew ?_ | ((with_reducible refine Blk.other ?_ _ ?_); rotate_left; ((try dsimp only); omega)) | with_reducible refine Blk.setB (cs0 := ?_) ?_ ?_)), by (repeat' (first | with_reducible exact Kp.refl _ _ | with_reducible refine Kp.alloc ?_ _ | with_reducible refine Kp.drewN ?_ _ | with_reducible refine Kp.drew ?_ | with_reducible refine Kp.setCell ?_ _ ?_ | with_reducible refine Kp.trans ?_ kW (fun _ _ e => e) | (intro hh; first | rfl | exact .inl rfl | exact .inr rfl | (exfalso; (try dsimp only at hh); omega))))⟩

end Go.Proofs.YtellieabhaphhaaGreatDoor

/-
  narrow's run: what a node gives, which way it goes.
-/
namespace Go.Proofs.YtellieabhaphhaaGreatDoor
open Go.RowKit

theorem nvalueOf_c {w : World} {r : Nat} {inp : ByteArray} {m : Mc} (i : Nat) (u : Vl) (h : NB w r inp m) (hu : m.l[i]? = some u) :
    Calls Tryz.prog 142 #[.pointer (some ⟨r, 0, none⟩), .int .i64 i] w fun e w' => e = .returned (.agg #[.int .i64 (bit u.k), .int .i64 u.n, .int .i64 (bit u.v)]) ∧ Kp no w w' := by
  obtain ⟨hb, h6⟩ := h
  obtain ⟨l, rd, left, tr, outp, me⟩ := m
  dsimp only at *
  obtain ⟨a, b, c, d, e, f, rfl⟩ := six_of h6
  have hi := (List.getElem?_eq_some_iff.1 hu).1
  simp only [List.length_cons, List.length_nil] at hi
  rcases (show i = 0 ∨ i = 1 ∨ i = 2 ∨ i = 3 ∨ i = 4 ∨ i = 5 by omega) with rfl | rfl | rfl | rfl | rfl | rfl
  · have hu2 : a = u := by simpa using hu
    rw [← hu2]
    exact nvalueOf_0 r inp tr outp rd (bit a.k) a.n (bit a.v) (bit b.k) b.n (bit b.v) (bit c.k) c.n (bit c.v) (bit d.k) d.n (bit d.v) (bit e.k) e.n (bit e.v) (bit f.k) f.n (bit f.v) w hb
  · have hu2 : b = u := by simpa using hu
    rw [← hu2]
    exact nvalueOf_1 r inp tr outp rd (bit a.k) a.n (bit a.v) (bit b.k) b.n (bit b.v) (bit c.k) c.n (bit c.v) (bit d.k) d.n (bit d.v) (bit e.k) e.n (bit e.v) (bit f.k) f.n (bit f.v) w hb
  · have hu2 : c = u := by simpa using hu
    rw [← hu2]
    exact nvalueOf_2 r inp tr outp rd (bit a.k) a.n (bit a.v) (bit b.k) b.n (bit b.v) (bit c.k) c.n (bit c.v) (bit d.k) d.n (bit d.v) (bit e.k) e.n (bit e.v) (bit f.k) f.n (bit f.v) w hb
  · have hu2 : d = u := by simpa using hu
    rw [← hu2]
    exact nvalueOf_3 r inp tr outp rd (bit a.k) a.n (bit a.v) (bit b.k) b.n (bit b.v) (bit c.k) c.n (bit c.v) (bit d.k) d.n (bit d.v) (bit e.k) e.n (bit e.v) (bit f.k) f.n (bit f.v) w hb
  · have hu2 : e = u := by simpa using hu
    rw [← hu2]
    exact nvalueOf_4 r inp tr outp rd (bit a.k) a.n (bit a.v) (bit b.k) b.n (bit b.v) (bit c.k) c.n (bit c.v) (bit d.k) d.n (bit d.v) (bit e.k) e.n (bit e.v) (bit f.k) f.n (bit f.v) w hb
  · have hu2 : f = u := by simpa using hu
    rw [← hu2]
    exact nvalueOf_5 r inp tr outp rd (bit a.k) a.n (bit a.v) (bit b.k) b.n (bit b.v) (bit c.k) c.n (bit c.v) (bit d.k) d.n (bit d.v) (bit e.k) e.n (bit e.v) (bit f.k) f.n (bit f.v) w hb

theorem nset_c {w : World} {r : Nat} {inp : ByteArray} {m : Mc} (i : Nat) (u : Vl) (h : NB w r inp m) (hi : i < 6) :
    Calls Tryz.prog 145 #[.pointer (some ⟨r, 0, none⟩), .int .i64 i, .agg #[.int .i64 (bit u.k), .int .i64 u.n, .int .i64 (bit u.v)]] w fun e w' => e = .returned (.tuple #[]) ∧ NB w' r inp (putL m i u) ∧ Kp (· = r) w w' := by
  obtain ⟨hb, h6⟩ := h
  obtain ⟨l, rd, left, tr, outp, me⟩ := m
  dsimp only at *
  obtain ⟨a, b, c, d, e, f, rfl⟩ := six_of h6
  rcases (show i = 0 ∨ i = 1 ∨ i = 2 ∨ i = 3 ∨ i = 4 ∨ i = 5 by omega) with rfl | rfl | rfl | rfl | rfl | rfl
  · refine (nset_0 r inp tr outp rd (bit a.k) a.n (bit a.v) (bit b.k) b.n (bit b.v) (bit c.k) c.n (bit c.v) (bit d.k) d.n (bit d.v) (bit e.k) e.n (bit e.v) (bit f.k) f.n (bit f.v) (bit u.k) u.n (bit u.v) w hb).mono ?_
    rintro x w' ⟨rfl, hb', k'⟩
    exact ⟨rfl, ⟨hb', rfl⟩, k'⟩
  · refine (nset_1 r inp tr outp rd (bit a.k) a.n (bit a.v) (bit b.k) b.n (bit b.v) (bit c.k) c.n (bit c.v) (bit d.k) d.n (bit d.v) (bit e.k) e.n (bit e.v) (bit f.k) f.n (bit f.v) (bit u.k) u.n (bit u.v) w hb).mono ?_
    rintro x w' ⟨rfl, hb', k'⟩
    exact ⟨rfl, ⟨hb', rfl⟩, k'⟩
  · refine (nset_2 r inp tr outp rd (bit a.k) a.n (bit a.v) (bit b.k) b.n (bit b.v) (bit c.k) c.n (bit c.v) (bit d.k) d.n (bit d.v) (bit e.k) e.n (bit e.v) (bit f.k) f.n (bit f.v) (bit u.k) u.n (bit u.v) w hb).mono ?_
    rintro x w' ⟨rfl, hb', k'⟩
    exact ⟨rfl, ⟨hb', rfl⟩, k'⟩
  · refine (nset_3 r inp tr outp rd (bit a.k) a.n (bit a.v) (bit b.k) b.n (bit b.v) (bit c.k) c.n (bit c.v) (bit d.k) d.n (bit d.v) (bit e.k) e.n (bit e.v) (bit f.k) f.n (bit f.v) (bit u.k) u.n (bit u.v) w hb).mono ?_
    rintro x w' ⟨rfl, hb', k'⟩
    exact ⟨rfl, ⟨hb', rfl⟩, k'⟩
  · refine (nset_4 r inp tr outp rd (bit a.k) a.n (bit a.v) (bit b.k) b.n (bit b.v) (bit c.k) c.n (bit c.v) (bit d.k) d.n (bit d.v) (bit e.k) e.n (bit e.v) (bit f.k) f.n (bit f.v) (bit u.k) u.n (bit u.v) w hb).mono ?_
    rintro x w' ⟨rfl, hb', k'⟩
    exact ⟨rfl, ⟨hb', rfl⟩, k'⟩
  · refine (nset_5 r inp tr outp rd (bit a.k) a.n (bit a.v) (bit b.k) b.n (bit b.v) (bit c.k) c.n (bit c.v) (bit d.k) d.n (bit d.v) (bit e.k) e.n (bit e.v) (bit f.k) f.n (bit f.v) (bit u.k) u.n (bit u.v) w hb).mono ?_
    rintro x w' ⟨rfl, hb', k'⟩
    exact ⟨rfl, ⟨hb', rfl⟩, k'⟩

set_option maxHeartbeats 1600000 in
theorem nnext_at (r : Nat) (inp tr outp : ByteArray) (rd : Nat) (k0 n0 v0 k1 n1 v1 k2 n2 v2 k3 n3 v3 k4 n4 v4 k5 n5 v5 : Int) (w : World) (hi : inp.size ≤ 40) (hb : Blk w r [.int .i64 k0, .int .i64 n0, .int .i64 v0, .int .i64 k1, .int .i64 n1, .int .i64 v1, .int .i64 k2, .int .i64 n2, .int .i64 v2, .int .i64 k3, .int .i64 n3, .int .i64 v3, .int .i64 k4, .int .i64 n4, .int .i64 v4, .int .i64 k5, .int .i64 n5, .int .i64 v5, .string inp, .int .i64 rd, .string tr, .string outp] 142) :
    Calls Tryz.prog 144 #[.pointer (some ⟨r, 0, none⟩)] w fun e w' => (rd < inp.size → e = .returned (.agg (inVal (pk inp rd)).nc.toArray) ∧ Blk w' r [.int .i64 k0, .int .i64 n0, .int .i64 v0, .int .i64 k1, .int .i64 n1, .int .i64 v1, .int .i64 k2, .int .i64 n2, .int .i64 v2, .int .i64 k3, .int .i64 n3, .int .i64 v3, .int .i64 k4, .int .i64 n4, .int .i64 v4, .int .i64 k5, .int .i64 n5, .int .i64 v5, .string inp, .int .i64 (rd + 1 : Nat), .string tr, .string outp] 142) ∧ (¬ rd < inp.size → e = .returned (.agg (inVal 90).nc.toArray) ∧ Blk w' r [.int .i64 k0, .int .i64 n0, .int .i64 v0, .int .i64 k1, .int .i64 n1, .int .i64 v1, .int .i64 k2, .int .i64 n2, .int .i64 v2, .int .i64 k3, .int .i64 n3, .int .i64 v3, .int .i64 k4, .int .i64 n4, .int .i64 v4, .int .i64 k5, .int .i64 n5, .int .i64 v5, .string inp, .int .i64 rd, .string tr, .string outp] 142) ∧ Kp (· = r) w w' := by
  have hr := hb.lt
  by_cases hlt : rd < inp.size
  · have HP := hide (show pk inp rd = (inp[rd]'hlt).toNat by simp [pk, hlt])
    have HI := hide (fun W => ninputValue_c (pk inp rd) (pk_lt inp rd) W)
    have hpl := pk_lt inp rd
    have HV : Hid ((inVal (pk inp rd)).nc = [.int .i64 (bit (inVal (pk inp rd)).k), .int .i64 (inVal (pk inp rd)).n, .int .i64 (bit (inVal (pk inp rd)).v)]) := rfl
    unfold Vl.nc at HI
    generalize bit (inVal (pk inp rd)).k = ik at HI HV
    generalize (inVal (pk inp rd)).n = inn at HI HV
    generalize bit (inVal (pk inp rd)).v = iv at HI HV
    rw [HP.out] at HI hpl
    go_enter Tryz.func144, Tryz.ntmps144
    go_wp2
    refine wp_gen (fun W => Blk W r [.int .i64 k0, .int .i64 n0, .int .i64 v0, .int .i64 k1, .int .i64 n1, .int .i64 v1, .int .i64 k2, .int .i64 n2, .int .i64 v2, .int .i64 k3, .int .i64 n3, .int .i64 v3, .int .i64 k4, .int .i64 n4, .int .i64 v4, .int .i64 k5, .int .i64 n5, .int .i64 v5, .string inp, .int .i64 rd, .string tr, .string outp] 142 ∧ Blk W w.heap.size [.int .i64 0, .int .i64 0, .int .i64 0] 89 ∧ Kp (· = r) w W) ⟨by (repeat' (first | ((with_reducible show (_ : List Value) = _); rfl) | with_reducible exact hb | ((with_reducible refine Blk.newAt _ _ _ ?_); first | with_reducible rfl | (simp; done)) | with_reducible refine Blk.alloc ?_ _ | with_reducible refine Blk.drewN ?_ _ | with_reducible refine Blk.drew ?_ | ((with_reducible refine Blk.other ?_ _ ?_); rotate_left; ((try dsimp only); omega)) | with_reducible refine Blk.setB (cs0 := ?_) ?_ ?_)), by (repeat' (first | ((with_reducible show (_ : List Value) = _); rfl) | ((with_reducible refine Blk.newAt _ _ _ ?_); first | with_reducible rfl | (simp; done)) | with_reducible refine Blk.alloc ?_ _ | with_reducible refine Blk.drewN ?_ _ | with_reducible refine Blk.drew ?_ | ((with_reducible refine Blk.other ?_ _ ?_); rotate_left; ((try dsimp only); omega)) | with_reducible refine Blk.setB (cs0 := ?_) ?_ ?_)), by (repeat' (first | with_reducible exact Kp.refl _ _ | with_reducible refine Kp.alloc ?_ _ | with_reducible refine Kp.drewN ?_ _ | with_reducible refine Kp.drew ?_ | with_reducible refine Kp.setCell ?_ _ ?_ | (intro hh; first | rfl | exact .inl rfl | exact .inr rfl | (exfalso; (try dsimp only at hh); omega))))⟩ ?_
    rintro W ⟨hbW, hL, kW⟩
    obtain ⟨c0, c1, c2, c3, c4, c5, c6, c7, c8, c9, c10, c11, c12, c13, c14, c15, c16, c17, c18, c19, c20, c21, cf⟩ := hbW.c22
    clear c0 c1 c2 c3 c4 c5 c6 c7 c8 c9 c10 c11 c12 c13 c14 c15 c16 c17
    have hrW := hbW.lt
    have hLl := hL.lt
    go_quiet (fail)
    go_wp2
    go_quiet (fail)
    go_wp2_with fail
    refine (HI.out _).mono ?_
    rintro e w2 ⟨rfl, kp2⟩
    have hL2 : Blk w2 w.heap.size [.int .i64 0, .int .i64 0, .int .i64 0] 89 := kp2.blk (by (repeat' (first | ((with_reducible show (_ : List Value) = _); rfl) | with_reducible exact hL | ((with_reducible refine Blk.newAt _ _ _ ?_); first | with_reducible rfl | (simp; done)) | with_reducible refine Blk.alloc ?_ _ | with_reducible refine Blk.drewN ?_ _ | with_reducible refine Blk.drew ?_ | ((with_reducible refine Blk.other ?_ _ ?_); rotate_left; ((try dsimp only); omega)) | with_reducible refine Blk.setB (cs0 := ?_) ?_ ?_))) no_elim
    have hb2 : Blk w2 r [.int .i64 k0, .int .i64 n0, .int .i64 v0, .int .i64 k1, .int .i64 n1, .int .i64 v1, .int .i64 k2, .int .i64 n2, .int .i64 v2, .int .i64 k3, .int .i64 n3, .int .i64 v3, .int .i64 k4, .int .i64 n4, .int .i64 v4, .int .i64 k5, .int .i64 n5, .int .i64 v5, .string inp, .int .i64 ((rd : Int) + 1), .string tr, .string outp] 142 := kp2.blk (by (repeat' (first | ((with_reducible show (_ : List Value) = _); rfl) | with_reducible exact hbW | ((with_reducible refine Blk.newAt _ _ _ ?_); first | with_reducible rfl | (simp; done)) | with_reducible refine Blk.alloc ?_ _ | with_reducible refine Blk.drewN ?_ _ | with_reducible refine Blk.drew ?_ | ((with_reducible refine Blk.other ?_ _ ?_); rotate_left; ((try dsimp only); omega)) | with_reducible refine Blk.setB (cs0 := ?_) ?_ ?_))) no_elim
    have K2 := kp2.mono (S' := (· = r)) (fun _ e => False.elim e)
    obtain ⟨z0, z1, z2, zf⟩ := hL2.c3
    have hz := hL2.lt
    go_wp2
    refine body_agg (Tb := 89) (b := w.heap.size) (cs := [.int .i64 ik, .int .i64 inn, .int .i64 iv]) (.inr rfl) Tryz.results144 rfl rfl (by (repeat' (first | ((with_reducible show (_ : List Value) = _); rfl) | with_reducible exact hL2 | ((with_reducible refine Blk.newAt _ _ _ ?_); first | with_reducible rfl | (simp; done)) | with_reducible refine Blk.alloc ?_ _ | with_reducible refine Blk.drewN ?_ _ | with_reducible refine Blk.drew ?_ | ((with_reducible refine Blk.other ?_ _ ?_); rotate_left; ((try dsimp only); omega)) | with_reducible refine Blk.setB (cs0 := ?_) ?_ ?_))) Tryz.underlying89 rfl (by kernel_rfl) ?_
    rw [HV.out]
    exact ⟨fun _ => ⟨rfl, by push_cast; (repeat' (first | ((with_reducible show (_ : List Value) = _); rfl) | with_reducible exact hb2 | ((with_reducible refine Blk.newAt _ _ _ ?_); first | with_reducible rfl | (simp; done)) | with_reducible refine Blk.alloc ?_ _ | with_reducible refine Blk.drewN ?_ _ | with_reducible refine Blk.drew ?_ | ((with_reducible refine Blk.other ?_ _ ?_); rotate_left; ((try dsimp only); omega)) | with_reducible refine Blk.setB (cs0 := ?_) ?_ ?_))⟩, fun h => absurd hlt h, by (repeat' (first | with_reducible exact Kp.refl _ _ | with_reducible refine Kp.alloc ?_ _ | with_reducible refine Kp.drewN ?_ _ | with_reducible refine Kp.drew ?_ | with_reducible refine Kp.setCell ?_ _ ?_ | with_reducible refine Kp.trans ?_ kW (fun _ _ e => e) | with_reducible refine Kp.trans ?_ K2 (fun _ _ e => e) | (intro hh; first | rfl | exact .inl rfl | exact .inr rfl | (exfalso; (try dsimp only at hh); omega))))⟩
  · have HV : Hid ((inVal 90).nc = [.int .i64 8, .int .i64 0, .int .i64 0]) := rfl
    go_enter Tryz.func144, Tryz.ntmps144
    go_wp2
    refine wp_gen (fun W => Blk W r [.int .i64 k0, .int .i64 n0, .int .i64 v0, .int .i64 k1, .int .i64 n1, .int .i64 v1, .int .i64 k2, .int .i64 n2, .int .i64 v2, .int .i64 k3, .int .i64 n3, .int .i64 v3, .int .i64 k4, .int .i64 n4, .int .i64 v4, .int .i64 k5, .int .i64 n5, .int .i64 v5, .string inp, .int .i64 rd, .string tr, .string outp] 142 ∧ Blk W w.heap.size [.int .i64 0, .int .i64 0, .int .i64 0] 89 ∧ Kp (· = r) w W) ⟨by (repeat' (first | ((with_reducible show (_ : List Value) = _); rfl) | with_reducible exact hb | ((with_reducible refine Blk.newAt _ _ _ ?_); first | with_reducible rfl | (simp; done)) | with_reducible refine Blk.alloc ?_ _ | with_reducible refine Blk.drewN ?_ _ | with_reducible refine Blk.drew ?_ | ((with_reducible refine Blk.other ?_ _ ?_); rotate_left; ((try dsimp only); omega)) | with_reducible refine Blk.setB (cs0 := ?_) ?_ ?_)), by (repeat' (first | ((with_reducible show (_ : List Value) = _); rfl) | ((with_reducible refine Blk.newAt _ _ _ ?_); first | with_reducible rfl | (simp; done)) | with_reducible refine Blk.alloc ?_ _ | with_reducible refine Blk.drewN ?_ _ | with_reducible refine Blk.drew ?_ | ((with_reducible refine Blk.other ?_ _ ?_); rotate_left; ((try dsimp only); omega)) | with_reducible refine Blk.setB (cs0 := ?_) ?_ ?_)), by (repeat' (first | with_reducible exact Kp.refl _ _ | with_reducible refine Kp.alloc ?_ _ | with_reducible refine Kp.drewN ?_ _ | with_reducible refine Kp.drew ?_ | with_reducible refine Kp.setCell ?_ _ ?_ | (intro hh; first | rfl | exact .inl rfl | exact .inr rfl | (exfalso; (try dsimp only at hh); omega))))⟩ ?_
    rintro W ⟨hbW, hL, kW⟩
    obtain ⟨c0, c1, c2, c3, c4, c5, c6, c7, c8, c9, c10, c11, c12, c13, c14, c15, c16, c17, c18, c19, c20, c21, cf⟩ := hbW.c22
    clear c0 c1 c2 c3 c4 c5 c6 c7 c8 c9 c10 c11 c12 c13 c14 c15 c16 c17
    have hrW := hbW.lt
    have hLl := hL.lt
    obtain ⟨z0, z1, z2, zf⟩ := hL.c3
    go_quiet (fail)
    go_wp2
    refine body_agg (Tb := 89) (b := w.heap.size) (cs := [.int .i64 8, .int .i64 0, .int .i64 0]) (.inr rfl) Tryz.results144 rfl rfl (by (repeat' (first | ((with_reducible show (_ : List Value) = _); rfl) | with_reducible exact hL | ((with_reducible refine Blk.newAt _ _ _ ?_); first | with_reducible rfl | (simp; done)) | with_reducible refine Blk.alloc ?_ _ | with_reducible refine Blk.drewN ?_ _ | with_reducible refine Blk.drew ?_ | ((with_reducible refine Blk.other ?_ _ ?_); rotate_left; ((try dsimp only); omega)) | with_reducible refine Blk.setB (cs0 := ?_) ?_ ?_))) Tryz.underlying89 rfl (by kernel_rfl) ?_
    rw [HV.out]
    exact ⟨fun h => absurd h hlt, fun _ => ⟨rfl, by (repeat' (first | ((with_reducible show (_ : List Value) = _); rfl) | with_reducible exact hbW | ((with_reducible refine Blk.newAt _ _ _ ?_); first | with_reducible rfl | (simp; done)) | with_reducible refine Blk.alloc ?_ _ | with_reducible refine Blk.drewN ?_ _ | with_reducible refine Blk.drew ?_ | ((with_reducible refine Blk.other ?_ _ ?_); rotate_left; ((try dsimp only); omega)) | with_reducible refine Blk.setB (cs0 := ?_) ?_ ?_))⟩, by (repeat' (first | with_reducible exact Kp.refl _ _ | with_reducible refine Kp.alloc ?_ _ | with_reducible refine Kp.drewN ?_ _ | with_reducible refine Kp.drew ?_ | with_reducible refine Kp.setCell ?_ _ ?_ | with_reducible refine Kp.trans ?_ kW (fun _ _ e => e) | (intro hh; first | rfl | exact .inl rfl | exact .inr rfl | (exfalso; (try dsimp only at hh); omega))))⟩

theorem nnext_c {w : World} {r : Nat} {inp : ByteArray} {m : Mc} (h : NB w r inp m) (hi : inp.size ≤ 40) :
    Calls Tryz.prog 144 #[.pointer (some ⟨r, 0, none⟩)] w fun e w' => e = .returned (.agg (nextF inp m).1.nc.toArray) ∧ NB w' r inp (nextF inp m).2 ∧ Kp (· = r) w w' := by
  obtain ⟨hb, h6⟩ := h
  obtain ⟨l, rd, left, tr, outp, me⟩ := m
  dsimp only at *
  obtain ⟨a, b, c, d, e, f, rfl⟩ := six_of h6
  refine (nnext_at r inp tr outp rd (bit a.k) a.n (bit a.v) (bit b.k) b.n (bit b.v) (bit c.k) c.n (bit c.v) (bit d.k) d.n (bit d.v) (bit e.k) e.n (bit e.v) (bit f.k) f.n (bit f.v) w hi hb).mono ?_
  rintro x w' ⟨h1, h2, k'⟩
  by_cases hlt : rd < inp.size
  · obtain ⟨rfl, hb'⟩ := h1 hlt
    rw [nextF, if_pos hlt]
    exact ⟨rfl, ⟨hb', rfl⟩, k'⟩
  · obtain ⟨rfl, hb'⟩ := h2 hlt
    rw [nextF, if_neg hlt]
    exact ⟨rfl, ⟨hb', rfl⟩, k'⟩

set_option maxHeartbeats 1600000 in
theorem ngiven_1 (tx : ByteArray) (nx ny nw ck cn ch kd yes nno yk yn yv wk wn wv : Int) (w : World) :
    Calls Tryz.prog 146 #[.agg #[.string tx, .int .i64 1, .int .i64 nx, .int .i64 ny, .int .i64 nw, .int .i64 ck, .int .i64 cn, .int .i64 ch, .int .i64 kd, .int .i64 yes, .int .i64 nno], .agg #[.int .i64 yk, .int .i64 yn, .int .i64 yv], .agg #[.int .i64 wk, .int .i64 wn, .int .i64 wv]] w fun e w' => e = .returned (.agg #[.int .i64 ck, .int .i64 cn, .int .i64 ch]) ∧ Kp no w w' := by
  go_enter Tryz.func146, Tryz.ntmps146
  go_wp2
  refine body_agg (Tb := 89) (b := w.heap.size + 3) (cs := [.int .i64 ck, .int .i64 cn, .int .i64 ch]) (.inr rfl) Tryz.results146 rfl rfl (by (repeat' (first | ((with_reducible show (_ : List Value) = _); rfl) | ((with_reducible refine Blk.newAt _ _ _ ?_); first | with_reducible rfl | (simp; done)) | with_reducible refine Blk.alloc ?_ _ | with_reducible refine Blk.drewN ?_ _ | with_reducible refine Blk.drew ?_ | ((with_reducible refine Blk.other ?_ _ ?_); rotate_left; ((try dsimp only); omega)) | with_reducible refine Blk.setB (cs0 := ?_) ?_ ?_))) Tryz.underlying89 rfl (by kernel_rfl) ?_
  exact ⟨rfl, by (repeat' (first | with_reducible exact Kp.refl _ _ | with_reducible refine Kp.alloc ?_ _ | with_reducible refine Kp.drewN ?_ _ | with_reducible refine Kp.drew ?_ | with_reducible refine Kp.setCell ?_ _ ?_ | (intro hh; first | rfl | exact .inl rfl | exact .inr rfl | (exfalso; (try dsimp only at hh); omega))))⟩

set_option maxHeartbeats 1600000 in
theorem ngiven_3 (tx : ByteArray) (nx ny nw ck cn ch kd yes nno yk yn yv wk wn wv : Int) (w : World) :
    Calls Tryz.prog 146 #[.agg #[.string tx, .int .i64 3, .int .i64 nx, .int .i64 ny, .int .i64 nw, .int .i64 ck, .int .i64 cn, .int .i64 ch, .int .i64 kd, .int .i64 yes, .int .i64 nno], .agg #[.int .i64 yk, .int .i64 yn, .int .i64 yv], .agg #[.int .i64 wk, .int .i64 wn, .int .i64 wv]] w fun e w' => e = .returned (.agg #[.int .i64 yk, .int .i64 yn, .int .i64 yv]) ∧ Kp no w w' := by
  go_enter Tryz.func146, Tryz.ntmps146
  go_wp2
  refine body_agg (Tb := 89) (b := w.heap.size + 3) (cs := [.int .i64 yk, .int .i64 yn, .int .i64 yv]) (.inr rfl) Tryz.results146 rfl rfl (by (repeat' (first | ((with_reducible show (_ : List Value) = _); rfl) | ((with_reducible refine Blk.newAt _ _ _ ?_); first | with_reducible rfl | (simp; done)) | with_reducible refine Blk.alloc ?_ _ | with_reducible refine Blk.drewN ?_ _ | with_reducible refine Blk.drew ?_ | ((with_reducible refine Blk.other ?_ _ ?_); rotate_left; ((try dsimp only); omega)) | with_reducible refine Blk.setB (cs0 := ?_) ?_ ?_))) Tryz.underlying89 rfl (by kernel_rfl) ?_
  exact ⟨rfl, by (repeat' (first | with_reducible exact Kp.refl _ _ | with_reducible refine Kp.alloc ?_ _ | with_reducible refine Kp.drewN ?_ _ | with_reducible refine Kp.drew ?_ | with_reducible refine Kp.setCell ?_ _ ?_ | (intro hh; first | rfl | exact .inl rfl | exact .inr rfl | (exfalso; (try dsimp only at hh); omega))))⟩

set_option maxHeartbeats 1600000 in
theorem ngiven_6 (tx : ByteArray) (nx ny nw ck cn ch kd yes nno yk yn yv wk wn wv : Int) (w : World) :
    Calls Tryz.prog 146 #[.agg #[.string tx, .int .i64 6, .int .i64 nx, .int .i64 ny, .int .i64 nw, .int .i64 ck, .int .i64 cn, .int .i64 ch, .int .i64 kd, .int .i64 yes, .int .i64 nno], .agg #[.int .i64 yk, .int .i64 yn, .int .i64 yv], .agg #[.int .i64 wk, .int .i64 wn, .int .i64 wv]] w fun e w' => e = .returned (.agg #[.int .i64 16, .int .i64 yn, .int .i64 0]) ∧ Kp no w w' := by
  go_enter Tryz.func146, Tryz.ntmps146
  go_wp2
  refine body_agg (Tb := 89) (b := w.heap.size + 3) (cs := [.int .i64 16, .int .i64 yn, .int .i64 0]) (.inr rfl) Tryz.results146 rfl rfl (by (repeat' (first | ((with_reducible show (_ : List Value) = _); rfl) | ((with_reducible refine Blk.newAt _ _ _ ?_); first | with_reducible rfl | (simp; done)) | with_reducible refine Blk.alloc ?_ _ | with_reducible refine Blk.drewN ?_ _ | with_reducible refine Blk.drew ?_ | ((with_reducible refine Blk.other ?_ _ ?_); rotate_left; ((try dsimp only); omega)) | with_reducible refine Blk.setB (cs0 := ?_) ?_ ?_))) Tryz.underlying89 rfl (by kernel_rfl) ?_
  exact ⟨rfl, by (repeat' (first | with_reducible exact Kp.refl _ _ | with_reducible refine Kp.alloc ?_ _ | with_reducible refine Kp.drewN ?_ _ | with_reducible refine Kp.drew ?_ | with_reducible refine Kp.setCell ?_ _ ?_ | (intro hh; first | rfl | exact .inl rfl | exact .inr rfl | (exfalso; (try dsimp only at hh); omega))))⟩

set_option maxHeartbeats 1600000 in
theorem ngiven_7 (tx : ByteArray) (nx ny nw ck cn ch kd yes nno yk yn yv wk wn wv : Int) (w : World) :
    Calls Tryz.prog 146 #[.agg #[.string tx, .int .i64 7, .int .i64 nx, .int .i64 ny, .int .i64 nw, .int .i64 ck, .int .i64 cn, .int .i64 ch, .int .i64 kd, .int .i64 yes, .int .i64 nno], .agg #[.int .i64 yk, .int .i64 yn, .int .i64 yv], .agg #[.int .i64 wk, .int .i64 wn, .int .i64 wv]] w fun e w' => e = .returned (.agg #[.int .i64 32, .int .i64 0, .int .i64 yk]) ∧ Kp no w w' := by
  go_enter Tryz.func146, Tryz.ntmps146
  go_wp2
  refine body_agg (Tb := 89) (b := w.heap.size + 3) (cs := [.int .i64 32, .int .i64 0, .int .i64 yk]) (.inr rfl) Tryz.results146 rfl rfl (by (repeat' (first | ((with_reducible show (_ : List Value) = _); rfl) | ((with_reducible refine Blk.newAt _ _ _ ?_); first | with_reducible rfl | (simp; done)) | with_reducible refine Blk.alloc ?_ _ | with_reducible refine Blk.drewN ?_ _ | with_reducible refine Blk.drew ?_ | ((with_reducible refine Blk.other ?_ _ ?_); rotate_left; ((try dsimp only); omega)) | with_reducible refine Blk.setB (cs0 := ?_) ?_ ?_))) Tryz.underlying89 rfl (by kernel_rfl) ?_
  exact ⟨rfl, by (repeat' (first | with_reducible exact Kp.refl _ _ | with_reducible refine Kp.alloc ?_ _ | with_reducible refine Kp.drewN ?_ _ | with_reducible refine Kp.drew ?_ | with_reducible refine Kp.setCell ?_ _ ?_ | (intro hh; first | rfl | exact .inl rfl | exact .inr rfl | (exfalso; (try dsimp only at hh); omega))))⟩

set_option maxHeartbeats 1600000 in
theorem ngiven_4 (tx : ByteArray) (nx ny nw ck cn ch kd yes nno yk yn yv wk wn wv : Int) (w : World) (h1 : 0 ≤ yn) (h2 : yn ≤ 999) (h3 : 0 ≤ wn) (h4 : wn ≤ 999) :
    Calls Tryz.prog 146 #[.agg #[.string tx, .int .i64 4, .int .i64 nx, .int .i64 ny, .int .i64 nw, .int .i64 ck, .int .i64 cn, .int .i64 ch, .int .i64 kd, .int .i64 yes, .int .i64 nno], .agg #[.int .i64 yk, .int .i64 yn, .int .i64 yv], .agg #[.int .i64 wk, .int .i64 wn, .int .i64 wv]] w fun e w' => e = .returned (.agg #[.int .i64 1, .int .i64 ((yn + wn) % 1000), .int .i64 0]) ∧ Kp no w w' := by
  have HC := hide (fun W => nsumOf_c yk yn yv wk wn wv W h1 h2 h3 h4)
  go_enter Tryz.func146, Tryz.ntmps146
  go_wp2_with fail
  refine (HC.out _).mono ?_
  rintro e w1 ⟨rfl, k1⟩
  have hR : Blk w1 (w.heap.size + 3) [.int .i64 0, .int .i64 0, .int .i64 0] 89 := k1.blk (by (repeat' (first | ((with_reducible show (_ : List Value) = _); rfl) | ((with_reducible refine Blk.newAt _ _ _ ?_); first | with_reducible rfl | (simp; done)) | with_reducible refine Blk.alloc ?_ _ | with_reducible refine Blk.drewN ?_ _ | with_reducible refine Blk.drew ?_ | ((with_reducible refine Blk.other ?_ _ ?_); rotate_left; ((try dsimp only); omega)) | with_reducible refine Blk.setB (cs0 := ?_) ?_ ?_))) no_elim
  obtain ⟨z0, z1, z2, zf⟩ := hR.c3
  have hz := hR.lt
  go_wp2
  refine body_agg (Tb := 89) (b := w.heap.size + 3) (cs := [.int .i64 1, .int .i64 ((yn + wn) % 1000), .int .i64 0]) (.inr rfl) Tryz.results146 rfl rfl (by (repeat' (first | ((with_reducible show (_ : List Value) = _); rfl) | with_reducible exact hR | ((with_reducible refine Blk.newAt _ _ _ ?_); first | with_reducible rfl | (simp; done)) | with_reducible refine Blk.alloc ?_ _ | with_reducible refine Blk.drewN ?_ _ | with_reducible refine Blk.drew ?_ | ((with_reducible refine Blk.other ?_ _ ?_); rotate_left; ((try dsimp only); omega)) | with_reducible refine Blk.setB (cs0 := ?_) ?_ ?_))) Tryz.underlying89 rfl (by kernel_rfl) ?_
  exact ⟨rfl, by (repeat' (first | with_reducible exact Kp.refl _ _ | with_reducible refine Kp.alloc ?_ _ | with_reducible refine Kp.drewN ?_ _ | with_reducible refine Kp.drew ?_ | with_reducible refine Kp.setCell ?_ _ ?_ | with_reducible refine Kp.trans ?_ k1 (fun _ _ e => e) | (intro hh; first | rfl | exact .inl rfl | exact .inr rfl | (exfalso; (try dsimp only at hh); omega))))⟩

set_option maxHeartbeats 1600000 in
theorem ngiven_5 (tx : ByteArray) (nx ny nw ck cn ch kd yes nno yk yn yv wk wn wv : Int) (w : World) :
    Calls Tryz.prog 146 #[.agg #[.string tx, .int .i64 5, .int .i64 nx, .int .i64 ny, .int .i64 nw, .int .i64 ck, .int .i64 cn, .int .i64 ch, .int .i64 kd, .int .i64 yes, .int .i64 nno], .agg #[.int .i64 yk, .int .i64 yn, .int .i64 yv], .agg #[.int .i64 wk, .int .i64 wn, .int .i64 wv]] w fun e w' => e = .returned (.agg #[.int .i64 (if yn < wn then 2 else 4), .int .i64 0, .int .i64 0]) ∧ Kp no w w' := by
  have HC := hide (fun W => nisBelow_c yk yn yv wk wn wv W)
  generalize (if yn < wn then (2 : Int) else 4) = q at *
  go_enter Tryz.func146, Tryz.ntmps146
  go_wp2_with fail
  refine (HC.out _).mono ?_
  rintro e w1 ⟨rfl, k1⟩
  have hR : Blk w1 (w.heap.size + 3) [.int .i64 0, .int .i64 0, .int .i64 0] 89 := k1.blk (by (repeat' (first | ((with_reducible show (_ : List Value) = _); rfl) | ((with_reducible refine Blk.newAt _ _ _ ?_); first | with_reducible rfl | (simp; done)) | with_reducible refine Blk.alloc ?_ _ | with_reducible refine Blk.drewN ?_ _ | with_reducible refine Blk.drew ?_ | ((with_reducible refine Blk.other ?_ _ ?_); rotate_left; ((try dsimp only); omega)) | with_reducible refine Blk.setB (cs0 := ?_) ?_ ?_))) no_elim
  obtain ⟨z0, z1, z2, zf⟩ := hR.c3
  have hz := hR.lt
  go_wp2
  refine body_agg (Tb := 89) (b := w.heap.size + 3) (cs := [.int .i64 q, .int .i64 0, .int .i64 0]) (.inr rfl) Tryz.results146 rfl rfl (by (repeat' (first | ((with_reducible show (_ : List Value) = _); rfl) | with_reducible exact hR | ((with_reducible refine Blk.newAt _ _ _ ?_); first | with_reducible rfl | (simp; done)) | with_reducible refine Blk.alloc ?_ _ | with_reducible refine Blk.drewN ?_ _ | with_reducible refine Blk.drew ?_ | ((with_reducible refine Blk.other ?_ _ ?_); rotate_left; ((try dsimp only); omega)) | with_reducible refine Blk.setB (cs0 := ?_) ?_ ?_))) Tryz.underlying89 rfl (by kernel_rfl) ?_
  exact ⟨rfl, by (repeat' (first | with_reducible exact Kp.refl _ _ | with_reducible refine Kp.alloc ?_ _ | with_reducible refine Kp.drewN ?_ _ | with_reducible refine Kp.drew ?_ | with_reducible refine Kp.setCell ?_ _ ?_ | with_reducible refine Kp.trans ?_ k1 (fun _ _ e => e) | (intro hh; first | rfl | exact .inl rfl | exact .inr rfl | (exfalso; (try dsimp only at hh); omega))))⟩

set_option maxHeartbeats 1600000 in
theorem ngiven_8 (tx : ByteArray) (nx ny nw ck cn ch kd yes nno yk yn yv wk wn wv : Int) (w : World) :
    Calls Tryz.prog 146 #[.agg #[.string tx, .int .i64 8, .int .i64 nx, .int .i64 ny, .int .i64 nw, .int .i64 ck, .int .i64 cn, .int .i64 ch, .int .i64 kd, .int .i64 yes, .int .i64 nno], .agg #[.int .i64 yk, .int .i64 yn, .int .i64 yv], .agg #[.int .i64 wk, .int .i64 wn, .int .i64 wv]] w fun e w' => e = .returned (.agg #[.int .i64 (if yk = 16 then 1 else yv), .int .i64 (if yk = 16 then yn else 0), .int .i64 0]) ∧ Kp no w w' := by
  have HC := hide (fun W => nheldBy_c yk yn yv W)
  generalize (if yk = 16 then (1 : Int) else yv) = q at *
  generalize (if yk = 16 then yn else (0 : Int)) = q2 at *
  go_enter Tryz.func146, Tryz.ntmps146
  go_wp2_with fail
  refine (HC.out _).mono ?_
  rintro e w1 ⟨rfl, k1⟩
  have hR : Blk w1 (w.heap.size + 3) [.int .i64 0, .int .i64 0, .int .i64 0] 89 := k1.blk (by (repeat' (first | ((with_reducible show (_ : List Value) = _); rfl) | ((with_reducible refine Blk.newAt _ _ _ ?_); first | with_reducible rfl | (simp; done)) | with_reducible refine Blk.alloc ?_ _ | with_reducible refine Blk.drewN ?_ _ | with_reducible refine Blk.drew ?_ | ((with_reducible refine Blk.other ?_ _ ?_); rotate_left; ((try dsimp only); omega)) | with_reducible refine Blk.setB (cs0 := ?_) ?_ ?_))) no_elim
  obtain ⟨z0, z1, z2, zf⟩ := hR.c3
  have hz := hR.lt
  go_wp2
  refine body_agg (Tb := 89) (b := w.heap.size + 3) (cs := [.int .i64 q, .int .i64 q2, .int .i64 0]) (.inr rfl) Tryz.results146 rfl rfl (by (repeat' (first | ((with_reducible show (_ : List Value) = _); rfl) | with_reducible exact hR | ((with_reducible refine Blk.newAt _ _ _ ?_); first | with_reducible rfl | (simp; done)) | with_reducible refine Blk.alloc ?_ _ | with_reducible refine Blk.drewN ?_ _ | with_reducible refine Blk.drew ?_ | ((with_reducible refine Blk.other ?_ _ ?_); rotate_left; ((try dsimp only); omega)) | with_reducible refine Blk.setB (cs0 := ?_) ?_ ?_))) Tryz.underlying89 rfl (by kernel_rfl) ?_
  exact ⟨rfl, by (repeat' (first | with_reducible exact Kp.refl _ _ | with_reducible refine Kp.alloc ?_ _ | with_reducible refine Kp.drewN ?_ _ | with_reducible refine Kp.drew ?_ | with_reducible refine Kp.setCell ?_ _ ?_ | with_reducible refine Kp.trans ?_ k1 (fun _ _ e => e) | (intro hh; first | rfl | exact .inl rfl | exact .inr rfl | (exfalso; (try dsimp only at hh); omega))))⟩

set_option maxHeartbeats 1600000 in
theorem nholds_c (tx : ByteArray) (act nx ny nw ck cn ch kd yes nno yk yn yv : Int) (w : World) :
    Calls Tryz.prog 147 #[.agg #[.string tx, .int .i64 act, .int .i64 nx, .int .i64 ny, .int .i64 nw, .int .i64 ck, .int .i64 cn, .int .i64 ch, .int .i64 kd, .int .i64 yes, .int .i64 nno], .agg #[.int .i64 yk, .int .i64 yn, .int .i64 yv]] w fun e w' => e = .returned (.bool (if act = 12 then (yk != 4 && yk != 8 && (yk != 1 || yn != 0)) else if act = 13 then yk == kd else true)) ∧ Kp no w w' := by
  by_cases h12 : act = 12
  · subst h12
    rw [if_pos rfl]
    have HT := hide (fun W => ntakenAsTrue_c yk yn yv W)
    generalize (yk != 4 && yk != 8 && (yk != 1 || yn != 0)) = q at *
    go_enter Tryz.func147, Tryz.ntmps147
    go_wp2_with fail
    refine (HT.out _).mono ?_
    rintro e w1 ⟨rfl, k1⟩
    go_wp2
    go_ret
    exact ⟨rfl, by (repeat' (first | with_reducible exact Kp.refl _ _ | with_reducible refine Kp.alloc ?_ _ | with_reducible refine Kp.drewN ?_ _ | with_reducible refine Kp.drew ?_ | with_reducible refine Kp.setCell ?_ _ ?_ | with_reducible refine Kp.trans ?_ k1 (fun _ _ e => e) | (intro hh; first | rfl | exact .inl rfl | exact .inr rfl | (exfalso; (try dsimp only at hh); omega))))⟩
  by_cases h13 : act = 13
  · subst h13
    rw [if_neg (by decide), if_pos rfl]
    go_enter Tryz.func147, Tryz.ntmps147
    go_wp2
    go_ret
    exact ⟨rfl, by (repeat' (first | with_reducible exact Kp.refl _ _ | with_reducible refine Kp.alloc ?_ _ | with_reducible refine Kp.drewN ?_ _ | with_reducible refine Kp.drew ?_ | with_reducible refine Kp.setCell ?_ _ ?_ | (intro hh; first | rfl | exact .inl rfl | exact .inr rfl | (exfalso; (try dsimp only at hh); omega))))⟩
  · rw [if_neg h12, if_neg h13]
    have f12 : (act == 12) = false := by simp [h12]
    have f13 : (act == 13) = false := by simp [h13]
    go_enter Tryz.func147, Tryz.ntmps147
    go_wp2
    go_ret
    exact ⟨rfl, by (repeat' (first | with_reducible exact Kp.refl _ _ | with_reducible refine Kp.alloc ?_ _ | with_reducible refine Kp.drewN ?_ _ | with_reducible refine Kp.drew ?_ | with_reducible refine Kp.setCell ?_ _ ?_ | (intro hh; first | rfl | exact .inl rfl | exact .inr rfl | (exfalso; (try dsimp only at hh); omega))))⟩

end Go.Proofs.YtellieabhaphhaaGreatDoor
