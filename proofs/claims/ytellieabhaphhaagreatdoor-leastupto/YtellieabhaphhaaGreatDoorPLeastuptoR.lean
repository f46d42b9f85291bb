import Derived.Test.YtellieabhaphhaaGreatDoorPLeastuptoQ
/-
  narrow's Prune: the ways that are left.
-/
namespace Go.Proofs.YtellieabhaphhaaGreatDoor
open Go.RowKit

theorem exS_nrm {Z : St} (h : Z6 Z) : exS Z = decide (nrm Z ≠ []) := by
  cases e : exS Z
  · rw [nrm, e]; rfl
  · rw [nrm, e]
    have : Z ≠ [] := fun e => by have := h.len; rw [e] at this; cases this
    simp [this]

/-- A node with the ways that are left. -/
def lwN (n : NN) (y o : St) (en : Int) : NN :=
  if y ≠ [] ∧ o ≠ [] then n else if y ≠ [] then idlN n.yes else if o ≠ [] then idlN n.no else { n with yes := en, no := en }

set_option maxRecDepth 100000 in
set_option maxHeartbeats 1600000 in
theorem withLiveWays_c (nd : Nd) (tx : ByteArray) (yn nn en : Int) (S : St) (w : World) (hg : Gn nd) (hF : Ful S) :
    Calls Tryz.prog 104 #[.agg #[.string tx, .int .i64 (actN nd.op), .int .i64 nd.x, .int .i64 nd.y, .int .i64 (if nd.op = 43 ∨ nd.op = 60 then nd.v else nd.y), .int .i64 (bit (consN nd).k), .int .i64 (consN nd).n, .int .i64 (bit (consN nd).v), .int .i64 (if nd.op = 126 ∨ nd.op = 58 then bit nd.k else 0), .int .i64 yn, .int .i64 nn], .agg (zc S).toArray, .int .i64 en] w
      fun e w' => e = .returned (.agg (lwN (encN nd tx yn nn) (algF nd true S) (algF nd false S) en).cells.toArray) ∧ Kp no w w' := by
  obtain ⟨m0, m1, m2, m3, m4, m5, rfl⟩ := z6_six hF.z
  rw [show Value.agg (zc [m0, m1, m2, m3, m4, m5]).toArray = zv6 m0 m1 m2 m3 m4 m5 from rfl]
  have HAT := hide (fun W => along_c nd tx yn nn [m0, m1, m2, m3, m4, m5] true W hg hF)
  have HAF := hide (fun W => along_c nd tx yn nn [m0, m1, m2, m3, m4, m5] false W hg hF)
  rw [show Value.agg (zc [m0, m1, m2, m3, m4, m5]).toArray = zv6 m0 m1 m2 m3 m4 m5 from rfl] at HAT HAF
  unfold encN
  generalize algF nd true [m0, m1, m2, m3, m4, m5] = Y at *
  generalize algF nd false [m0, m1, m2, m3, m4, m5] = O at *
  generalize actN nd.op = act at *
  generalize (if nd.op = 43 ∨ nd.op = 60 then nd.v else nd.y) = nwv at *
  generalize (if nd.op = 126 ∨ nd.op = 58 then bit nd.k else 0) = kdv at *
  generalize (consN nd).n = cnn at *
  generalize bit (consN nd).k = ckk at *
  generalize bit (consN nd).v = chh at *
  generalize nd.x = nx at *
  generalize nd.y = ny at *
  clear hF hg
  have HR1 := hide (fun (h1 : Y ≠ []) (h2 : O ≠ []) => show lwN ⟨tx, act, nx, ny, nwv, ckk, cnn, chh, kdv, yn, nn⟩ Y O en = ⟨tx, act, nx, ny, nwv, ckk, cnn, chh, kdv, yn, nn⟩ by rw [lwN, if_pos ⟨h1, h2⟩])
  have HR2 := hide (fun (h1 : Y ≠ []) (h2 : O = []) => show lwN ⟨tx, act, nx, ny, nwv, ckk, cnn, chh, kdv, yn, nn⟩ Y O en = idlN yn by rw [lwN, if_neg (fun e => e.2 h2), if_pos h1])
  have HR3 := hide (fun (h1 : Y = []) (h2 : O ≠ []) => show lwN ⟨tx, act, nx, ny, nwv, ckk, cnn, chh, kdv, yn, nn⟩ Y O en = idlN nn by rw [lwN, if_neg (fun e => e.1 h1), if_neg (fun e => e h1), if_pos h2])
  have HR4 := hide (fun (h1 : Y = []) (h2 : O = []) => show lwN ⟨tx, act, nx, ny, nwv, ckk, cnn, chh, kdv, yn, nn⟩ Y O en = ⟨tx, act, nx, ny, nwv, ckk, cnn, chh, kdv, en, en⟩ by rw [lwN, if_neg (fun e => e.1 h1), if_neg (fun e => e h1), if_neg (fun e => e h2)])
  generalize lwN ⟨tx, act, nx, ny, nwv, ckk, cnn, chh, kdv, yn, nn⟩ Y O en = R at *
  have HID := hide (fun k W => idleNode_c k W)
  go_enter Tryz.func104, Tryz.ntmps104
  go_wp2_with fail
  refine (HAT.out _).mono ?_
  rintro e w1 ⟨Z, rfl, hZ6, hZn, k1⟩
  obtain ⟨y0, y1, y2, y3, y4, y5, rfl⟩ := z6_six hZ6
  rw [show Value.agg (zc [y0, y1, y2, y3, y4, y5]).toArray = zv6 y0 y1 y2 y3 y4 y5 from rfl]
  have hN1 : Blk w1 w.heap.size [.string tx, .int .i64 act, .int .i64 nx, .int .i64 ny, .int .i64 nwv, .int .i64 ckk, .int .i64 cnn, .int .i64 chh, .int .i64 kdv, .int .i64 yn, .int .i64 nn] 91 := k1.blk (by (repeat' (first | ((with_reducible show (_ : List Value) = _); rfl) | ((with_reducible refine Blk.newAt _ _ _ ?_); first | with_reducible rfl | (simp; done)) | with_reducible refine Blk.alloc ?_ _ | with_reducible refine Blk.drewN ?_ _ | with_reducible refine Blk.drew ?_ | ((with_reducible refine Blk.other ?_ _ ?_); rotate_left; ((try dsimp only); omega)) | with_reducible refine Blk.setB (cs0 := ?_) ?_ ?_))) no_elim
  have hA1 : Blk w1 (w.heap.size + 1) [.int .i64 m0, .int .i64 m1, .int .i64 m2, .int .i64 m3, .int .i64 m4, .int .i64 m5] 102 := k1.blk (by (repeat' (first | ((with_reducible show (_ : List Value) = _); rfl) | ((with_reducible refine Blk.newAt _ _ _ ?_); first | with_reducible rfl | (simp; done)) | with_reducible refine Blk.alloc ?_ _ | with_reducible refine Blk.drewN ?_ _ | with_reducible refine Blk.drew ?_ | ((with_reducible refine Blk.other ?_ _ ?_); rotate_left; ((try dsimp only); omega)) | with_reducible refine Blk.setB (cs0 := ?_) ?_ ?_))) no_elim
  have hR1 : Blk w1 (w.heap.size + 1 + 1) [.string ⟨#[]⟩, .int .i64 0, .int .i64 0, .int .i64 0, .int .i64 0, .int .i64 0, .int .i64 0, .int .i64 0, .int .i64 0, .int .i64 0, .int .i64 0] 91 := k1.blk (by (repeat' (first | ((with_reducible show (_ : List Value) = _); rfl) | ((with_reducible refine Blk.newAt _ _ _ ?_); first | with_reducible rfl | (simp; done)) | with_reducible refine Blk.alloc ?_ _ | with_reducible refine Blk.drewN ?_ _ | with_reducible refine Blk.drew ?_ | ((with_reducible refine Blk.other ?_ _ ?_); rotate_left; ((try dsimp only); omega)) | with_reducible refine Blk.setB (cs0 := ?_) ?_ ?_))) no_elim
  have HK1 := hide (show Kp no w w1 from Kp.trans (by (repeat' (first | with_reducible exact Kp.refl _ _ | with_reducible refine Kp.alloc ?_ _ | with_reducible refine Kp.drewN ?_ _ | with_reducible refine Kp.drew ?_ | with_reducible refine Kp.setCell ?_ _ ?_ | (intro hh; first | rfl | exact .inl rfl | exact .inr rfl | (exfalso; (try dsimp only at hh); omega))))) k1 (fun _ _ e => e))
  have HEY := hide (exS_nrm hZ6)
  rw [hZn] at HEY
  have HZY := hide hZ6
  clear k1 hZ6 hZn HAT
  obtain ⟨n0, n1, n2, n3, n4, n5, n6, n7, n8, n9, n10, nf⟩ := hN1.c11; have hnl := hN1.lt
  obtain ⟨a0, a1, a2, a3, a4, a5, af, al⟩ := hA1.c6
  go_wp2_with fail
  refine (HAF.out _).mono ?_
  rintro e w2 ⟨Z2, rfl, hZ6, hZn, k2⟩
  obtain ⟨o0, o1, o2, o3, o4, o5, rfl⟩ := z6_six hZ6
  rw [show Value.agg (zc [o0, o1, o2, o3, o4, o5]).toArray = zv6 o0 o1 o2 o3 o4 o5 from rfl]
  have hN2 : Blk w2 w.heap.size [.string tx, .int .i64 act, .int .i64 nx, .int .i64 ny, .int .i64 nwv, .int .i64 ckk, .int .i64 cnn, .int .i64 chh, .int .i64 kdv, .int .i64 yn, .int .i64 nn] 91 := k2.blk (by (repeat' (first | ((with_reducible show (_ : List Value) = _); rfl) | with_reducible exact hN1 | ((with_reducible refine Blk.newAt _ _ _ ?_); first | with_reducible rfl | (simp; done)) | with_reducible refine Blk.alloc ?_ _ | with_reducible refine Blk.drewN ?_ _ | with_reducible refine Blk.drew ?_ | ((with_reducible refine Blk.other ?_ _ ?_); rotate_left; ((try dsimp only); omega)) | with_reducible refine Blk.setB (cs0 := ?_) ?_ ?_))) no_elim
  have hR2 : Blk w2 (w.heap.size + 1 + 1) [.string ⟨#[]⟩, .int .i64 0, .int .i64 0, .int .i64 0, .int .i64 0, .int .i64 0, .int .i64 0, .int .i64 0, .int .i64 0, .int .i64 0, .int .i64 0] 91 := k2.blk (by (repeat' (first | ((with_reducible show (_ : List Value) = _); rfl) | with_reducible exact hR1 | ((with_reducible refine Blk.newAt _ _ _ ?_); first | with_reducible rfl | (simp; done)) | with_reducible refine Blk.alloc ?_ _ | with_reducible refine Blk.drewN ?_ _ | with_reducible refine Blk.drew ?_ | ((with_reducible refine Blk.other ?_ _ ?_); rotate_left; ((try dsimp only); omega)) | with_reducible refine Blk.setB (cs0 := ?_) ?_ ?_))) no_elim
  have hY2 : Blk w2 w1.heap.size [.int .i64 y0, .int .i64 y1, .int .i64 y2, .int .i64 y3, .int .i64 y4, .int .i64 y5] 102 := k2.blk (by (repeat' (first | ((with_reducible show (_ : List Value) = _); rfl) | ((with_reducible refine Blk.newAt _ _ _ ?_); first | with_reducible rfl | (simp; done)) | with_reducible refine Blk.alloc ?_ _ | with_reducible refine Blk.drewN ?_ _ | with_reducible refine Blk.drew ?_ | ((with_reducible refine Blk.other ?_ _ ?_); rotate_left; ((try dsimp only); omega)) | with_reducible refine Blk.setB (cs0 := ?_) ?_ ?_))) no_elim
  have HK2 := hide (HK1.out.trans (S' := no) (Kp.trans (by (repeat' (first | with_reducible exact Kp.refl _ _ | with_reducible refine Kp.alloc ?_ _ | with_reducible refine Kp.drewN ?_ _ | with_reducible refine Kp.drew ?_ | with_reducible refine Kp.setCell ?_ _ ?_ | (intro hh; first | rfl | exact .inl rfl | exact .inr rfl | (exfalso; (try dsimp only at hh); omega))))) k2 (fun _ _ e => e)) (fun _ _ e => e))
  have HEO := hide (exS_nrm hZ6)
  rw [hZn] at HEO
  have HZO := hide hZ6
  clear k2 hZ6 hZn HAF n0 n1 n2 n3 n4 n5 n6 n7 n8 n9 n10 nf hnl a0 a1 a2 a3 a4 a5 af al hN1 hA1 hR1
  obtain ⟨n0, n1, n2, n3, n4, n5, n6, n7, n8, n9, n10, nf⟩ := hN2.c11; have hnl := hN2.lt
  obtain ⟨r0, r1, r2, r3, r4, r5, r6, r7, r8, r9, r10, rf⟩ := hR2.c11; have rl := hR2.lt
  have hyl := hY2.lt
  have HXY := hide (fun W hW => exists_c w1.heap.size [y0, y1, y2, y3, y4, y5] W hW HZY.out)
  have HXO := hide (fun b W hW => exists_c b [o0, o1, o2, o3, o4, o5] W hW HZO.out)
  rw [HEY.out] at HXY
  rw [HEO.out] at HXO
  clear HEY HEO
  by_cases hy : Y = []
  · rw [decide_eq_false (fun e => e hy)] at HXY
    by_cases ho : O = []
    · rw [decide_eq_false (fun e => e ho)] at HXO
      have HRX := hide (HR4.out hy ho)
      clear HR1 HR2 HR3 HR4 hy ho
      go_wp2_with fail
      refine (HXY.out _ (by (show Blk _ _ [.int .i64 y0, .int .i64 y1, .int .i64 y2, .int .i64 y3, .int .i64 y4, .int .i64 y5] _); (repeat' (first | ((with_reducible show (_ : List Value) = _); rfl) | with_reducible exact hY2 | ((with_reducible refine Blk.newAt _ _ _ ?_); first | with_reducible rfl | (simp; done)) | with_reducible refine Blk.alloc ?_ _ | with_reducible refine Blk.drewN ?_ _ | with_reducible refine Blk.drew ?_ | ((with_reducible refine Blk.other ?_ _ ?_); rotate_left; ((try dsimp only); omega)) | with_reducible refine Blk.setB (cs0 := ?_) ?_ ?_)))).mono ?_
      rintro e w' ⟨rfl, rfl⟩
      go_wp2_with fail
      refine (HXO.out _ _ (by (show Blk _ _ [.int .i64 o0, .int .i64 o1, .int .i64 o2, .int .i64 o3, .int .i64 o4, .int .i64 o5] _); (repeat' (first | ((with_reducible show (_ : List Value) = _); rfl) | ((with_reducible refine Blk.newAt _ _ _ ?_); first | with_reducible rfl | (simp; done)) | with_reducible refine Blk.alloc ?_ _ | with_reducible refine Blk.drewN ?_ _ | with_reducible refine Blk.drew ?_ | ((with_reducible refine Blk.other ?_ _ ?_); rotate_left; ((try dsimp only); omega)) | with_reducible refine Blk.setB (cs0 := ?_) ?_ ?_)))).mono ?_
      rintro e w' ⟨rfl, rfl⟩
      have kk := HK2.out
      go_wp2
      have hRR := hR2
      refine body_agg (Tb := 91) (b := w.heap.size + 1 + 1) (cs := [.string tx, .int .i64 act, .int .i64 nx, .int .i64 ny, .int .i64 nwv, .int .i64 ckk, .int .i64 cnn, .int .i64 chh, .int .i64 kdv, .int .i64 en, .int .i64 en]) (.inr rfl) Tryz.results104 rfl rfl (by (repeat' (first | ((with_reducible show (_ : List Value) = _); rfl) | with_reducible exact hRR | ((with_reducible refine Blk.newAt _ _ _ ?_); first | with_reducible rfl | (simp; done)) | with_reducible refine Blk.alloc ?_ _ | with_reducible refine Blk.drewN ?_ _ | with_reducible refine Blk.drew ?_ | ((with_reducible refine Blk.other ?_ _ ?_); rotate_left; ((try dsimp only); omega)) | with_reducible refine Blk.setB (cs0 := ?_) ?_ ?_))) Tryz.underlying91 rfl (by kernel_rfl) ?_
      rw [HRX.out]
      exact ⟨rfl, by (repeat' (first | with_reducible exact Kp.refl _ _ | with_reducible refine Kp.alloc ?_ _ | with_reducible refine Kp.drewN ?_ _ | with_reducible refine Kp.drew ?_ | with_reducible refine Kp.setCell ?_ _ ?_ | with_reducible refine Kp.trans ?_ kk (fun _ _ e => e) | (intro hh; first | rfl | exact .inl rfl | exact .inr rfl | (exfalso; (try dsimp only at hh); omega))))⟩
    · rw [decide_eq_true ho] at HXO
      have HRX := hide (HR3.out hy ho)
      clear HR1 HR2 HR3 HR4 hy ho
      go_wp2_with fail
      refine (HXY.out _ (by (show Blk _ _ [.int .i64 y0, .int .i64 y1, .int .i64 y2, .int .i64 y3, .int .i64 y4, .int .i64 y5] _); (repeat' (first | ((with_reducible show (_ : List Value) = _); rfl) | with_reducible exact hY2 | ((with_reducible refine Blk.newAt _ _ _ ?_); first | with_reducible rfl | (simp; done)) | with_reducible refine Blk.alloc ?_ _ | with_reducible refine Blk.drewN ?_ _ | with_reducible refine Blk.drew ?_ | ((with_reducible refine Blk.other ?_ _ ?_); rotate_left; ((try dsimp only); omega)) | with_reducible refine Blk.setB (cs0 := ?_) ?_ ?_)))).mono ?_
      rintro e w' ⟨rfl, rfl⟩
      go_wp2_with fail
      refine (HXO.out _ _ (by (show Blk _ _ [.int .i64 o0, .int .i64 o1, .int .i64 o2, .int .i64 o3, .int .i64 o4, .int .i64 o5] _); (repeat' (first | ((with_reducible show (_ : List Value) = _); rfl) | ((with_reducible refine Blk.newAt _ _ _ ?_); first | with_reducible rfl | (simp; done)) | with_reducible refine Blk.alloc ?_ _ | with_reducible refine Blk.drewN ?_ _ | with_reducible refine Blk.drew ?_ | ((with_reducible refine Blk.other ?_ _ ?_); rotate_left; ((try dsimp only); omega)) | with_reducible refine Blk.setB (cs0 := ?_) ?_ ?_)))).mono ?_
      rintro e w' ⟨rfl, rfl⟩
      go_wp2_with fail
      refine (HID.out nn _).mono ?_
      rintro e w5 ⟨rfl, k5⟩
      rw [show Value.agg (idlN nn).cells.toArray = .agg #[.string ⟨#[42]⟩, .int .i64 14, .int .i64 0, .int .i64 0, .int .i64 0, .int .i64 0, .int .i64 0, .int .i64 0, .int .i64 0, .int .i64 nn, .int .i64 nn] from rfl]
      have hR5 : Blk w5 (w.heap.size + 1 + 1) [.string ⟨#[]⟩, .int .i64 0, .int .i64 0, .int .i64 0, .int .i64 0, .int .i64 0, .int .i64 0, .int .i64 0, .int .i64 0, .int .i64 0, .int .i64 0] 91 := k5.blk (by (repeat' (first | ((with_reducible show (_ : List Value) = _); rfl) | with_reducible exact hR2 | ((with_reducible refine Blk.newAt _ _ _ ?_); first | with_reducible rfl | (simp; done)) | with_reducible refine Blk.alloc ?_ _ | with_reducible refine Blk.drewN ?_ _ | with_reducible refine Blk.drew ?_ | ((with_reducible refine Blk.other ?_ _ ?_); rotate_left; ((try dsimp only); omega)) | with_reducible refine Blk.setB (cs0 := ?_) ?_ ?_))) no_elim
      have kk : Kp no w w5 := HK2.out.trans (S' := no) (Kp.trans (by (repeat' (first | with_reducible exact Kp.refl _ _ | with_reducible refine Kp.alloc ?_ _ | with_reducible refine Kp.drewN ?_ _ | with_reducible refine Kp.drew ?_ | with_reducible refine Kp.setCell ?_ _ ?_ | (intro hh; first | rfl | exact .inl rfl | exact .inr rfl | (exfalso; (try dsimp only at hh); omega))))) k5 (fun _ _ e => e)) (fun _ _ e => e)
      clear n0 n1 n2 n3 n4 n5 n6 n7 n8 n9 n10 nf hnl r0 r1 r2 r3 r4 r5 r6 r7 r8 r9 r10 rf rl
      obtain ⟨r0, r1, r2, r3, r4, r5, r6, r7, r8, r9, r10, rf⟩ := hR5.c11; have rl := hR5.lt
      go_wp2
      have hRR := hR5
      refine body_agg (Tb := 91) (b := w.heap.size + 1 + 1) (cs := [.string ⟨#[42]⟩, .int .i64 14, .int .i64 0, .int .i64 0, .int .i64 0, .int .i64 0, .int .i64 0, .int .i64 0, .int .i64 0, .int .i64 nn, .int .i64 nn]) (.inr rfl) Tryz.results104 rfl rfl (by (repeat' (first | ((with_reducible show (_ : List Value) = _); rfl) | with_reducible exact hRR | ((with_reducible refine Blk.newAt _ _ _ ?_); first | with_reducible rfl | (simp; done)) | with_reducible refine Blk.alloc ?_ _ | with_reducible refine Blk.drewN ?_ _ | with_reducible refine Blk.drew ?_ | ((with_reducible refine Blk.other ?_ _ ?_); rotate_left; ((try dsimp only); omega)) | with_reducible refine Blk.setB (cs0 := ?_) ?_ ?_))) Tryz.underlying91 rfl (by kernel_rfl) ?_
      rw [HRX.out]
      exact ⟨rfl, by (repeat' (first | with_reducible exact Kp.refl _ _ | with_reducible refine Kp.alloc ?_ _ | with_reducible refine Kp.drewN ?_ _ | with_reducible refine Kp.drew ?_ | with_reducible refine Kp.setCell ?_ _ ?_ | with_reducible refine Kp.trans ?_ kk (fun _ _ e => e) | (intro hh; first | rfl | exact .inl rfl | exact .inr rfl | (exfalso; (try dsimp only at hh); omega))))⟩
  · rw [decide_eq_true hy] at HXY
    by_cases ho : O = []
    · rw [decide_eq_false (fun e => e ho)] at HXO
      have HRX := hide (HR2.out hy ho)
      clear HR1 HR2 HR3 HR4 hy ho
      go_wp2_with fail
      refine (HXY.out _ (by (show Blk _ _ [.int .i64 y0, .int .i64 y1, .int .i64 y2, .int .i64 y3, .int .i64 y4, .int .i64 y5] _); (repeat' (first | ((with_reducible show (_ : List Value) = _); rfl) | with_reducible exact hY2 | ((with_reducible refine Blk.newAt _ _ _ ?_); first | with_reducible rfl | (simp; done)) | with_reducible refine Blk.alloc ?_ _ | with_reducible refine Blk.drewN ?_ _ | with_reducible refine Blk.drew ?_ | ((with_reducible refine Blk.other ?_ _ ?_); rotate_left; ((try dsimp only); omega)) | with_reducible refine Blk.setB (cs0 := ?_) ?_ ?_)))).mono ?_
      rintro e w' ⟨rfl, rfl⟩
      go_wp2_with fail
      refine (HXO.out _ _ (by (show Blk _ _ [.int .i64 o0, .int .i64 o1, .int .i64 o2, .int .i64 o3, .int .i64 o4, .int .i64 o5] _); (repeat' (first | ((with_reducible show (_ : List Value) = _); rfl) | ((with_reducible refine Blk.newAt _ _ _ ?_); first | with_reducible rfl | (simp; done)) | with_reducible refine Blk.alloc ?_ _ | with_reducible refine Blk.drewN ?_ _ | with_reducible refine Blk.drew ?_ | ((with_reducible refine Blk.other ?_ _ ?_); rotate_left; ((try dsimp only); omega)) | with_reducible refine Blk.setB (cs0 := ?_) ?_ ?_)))).mono ?_
      rintro e w' ⟨rfl, rfl⟩
      go_wp2_with fail
      refine (HID.out yn _).mono ?_
      rintro e w5 ⟨rfl, k5⟩
      rw [show Value.agg (idlN yn).cells.toArray = .agg #[.string ⟨#[42]⟩, .int .i64 14, .int .i64 0, .int .i64 0, .int .i64 0, .int .i64 0, .int .i64 0, .int .i64 0, .int .i64 0, .int .i64 yn, .int .i64 yn] from rfl]
      have hR5 : Blk w5 (w.heap.size + 1 + 1) [.string ⟨#[]⟩, .int .i64 0, .int .i64 0, .int .i64 0, .int .i64 0, .int .i64 0, .int .i64 0, .int .i64 0, .int .i64 0, .int .i64 0, .int .i64 0] 91 := k5.blk (by (repeat' (first | ((with_reducible show (_ : List Value) = _); rfl) | with_reducible exact hR2 | ((with_reducible refine Blk.newAt _ _ _ ?_); first | with_reducible rfl | (simp; done)) | with_reducible refine Blk.alloc ?_ _ | with_reducible refine Blk.drewN ?_ _ | with_reducible refine Blk.drew ?_ | ((with_reducible refine Blk.other ?_ _ ?_); rotate_left; ((try dsimp only); omega)) | with_reducible refine Blk.setB (cs0 := ?_) ?_ ?_))) no_elim
      have kk : Kp no w w5 := HK2.out.trans (S' := no) (Kp.trans (by (repeat' (first | with_reducible exact Kp.refl _ _ | with_reducible refine Kp.alloc ?_ _ | with_reducible refine Kp.drewN ?_ _ | with_reducible refine Kp.drew ?_ | with_reducible refine Kp.setCell ?_ _ ?_ | (intro hh; first | rfl | exact .inl rfl | exact .inr rfl | (exfalso; (try dsimp only at hh); omega))))) k5 (fun _ _ e => e)) (fun _ _ e => e)
      clear n0 n1 n2 n3 n4 n5 n6 n7 n8 n9 n10 nf hnl r0 r1 r2 r3 r4 r5 r6 r7 r8 r9 r10 rf rl
      obtain ⟨r0, r1, r2, r3, r4, r5, r6, r7, r8, r9, r10, rf⟩ := hR5.c11; have rl := hR5.lt
      go_wp2
      have hRR := hR5
      refine body_agg (Tb := 91) (b := w.heap.size + 1 + 1) (cs := [.string ⟨#[42]⟩, .int .i64 14, .int .i64 0, .int .i64 0, .int .i64 0, .int .i64 0, .int .i64 0, .int .i64 0, .int .i64 0, .int .i64 yn, .int .i64 yn]) (.inr rfl) Tryz.results104 rfl rfl (by (repeat' (first | ((with_reducible show (_ : List Value) = _); rfl) | with_reducible exact hRR | ((with_reducible refine Blk.newAt _ _ _ ?_); first | with_reducible rfl | (simp; done)) | with_reducible refine Blk.alloc ?_ _ | with_reducible refine Blk.drewN ?_ _ | with_reducible refine Blk.drew ?_ | ((with_reducible refine Blk.other ?_ _ ?_); rotate_left; ((try dsimp only); omega)) | with_reducible refine Blk.setB (cs0 := ?_) ?_ ?_))) Tryz.underlying91 rfl (by kernel_rfl) ?_
      rw [HRX.out]
      exact ⟨rfl, by (repeat' (first | with_reducible exact Kp.refl _ _ | with_reducible refine Kp.alloc ?_ _ | with_reducible refine Kp.drewN ?_ _ | with_reducible refine Kp.drew ?_ | with_reducible refine Kp.setCell ?_ _ ?_ | with_reducible refine Kp.trans ?_ kk (fun _ _ e => e) | (intro hh; first | rfl | exact .inl rfl | exact .inr rfl | (exfalso; (try dsimp only at hh); omega))))⟩
    · rw [decide_eq_true ho] at HXO
      have HRX := hide (HR1.out hy ho)
      clear HR1 HR2 HR3 HR4 hy ho
      go_wp2_with fail
      refine (HXY.out _ (by (show Blk _ _ [.int .i64 y0, .int .i64 y1, .int .i64 y2, .int .i64 y3, .int .i64 y4, .int .i64 y5] _); (repeat' (first | ((with_reducible show (_ : List Value) = _); rfl) | with_reducible exact hY2 | ((with_reducible refine Blk.newAt _ _ _ ?_); first | with_reducible rfl | (simp; done)) | with_reducible refine Blk.alloc ?_ _ | with_reducible refine Blk.drewN ?_ _ | with_reducible refine Blk.drew ?_ | ((with_reducible refine Blk.other ?_ _ ?_); rotate_left; ((try dsimp only); omega)) | with_reducible refine Blk.setB (cs0 := ?_) ?_ ?_)))).mono ?_
      rintro e w' ⟨rfl, rfl⟩
      go_wp2_with fail
      refine (HXO.out _ _ (by (show Blk _ _ [.int .i64 o0, .int .i64 o1, .int .i64 o2, .int .i64 o3, .int .i64 o4, .int .i64 o5] _); (repeat' (first | ((with_reducible show (_ : List Value) = _); rfl) | ((with_reducible refine Blk.newAt _ _ _ ?_); first | with_reducible rfl | (simp; done)) | with_reducible refine Blk.alloc ?_ _ | with_reducible refine Blk.drewN ?_ _ | with_reducible refine Blk.drew ?_ | ((with_reducible refine Blk.other ?_ _ ?_); rotate_left; ((try dsimp only); omega)) | with_reducible refine Blk.setB (cs0 := ?_) ?_ ?_)))).mono ?_
      rintro e w' ⟨rfl, rfl⟩
      have kk := HK2.out
      go_wp2
      have hRR := hR2
      refine body_agg (Tb := 91) (b := w.heap.size + 1 + 1) (cs := [.string tx, .int .i64 act, .int .i64 nx, .int .i64 ny, .int .i64 nwv, .int .i64 ckk, .int .i64 cnn, .int .i64 chh, .int .i64 kdv, .int .i64 yn, .int .i64 nn]) (.inr rfl) Tryz.results104 rfl rfl (by (repeat' (first | ((with_reducible show (_ : List Value) = _); rfl) | with_reducible exact hRR | ((with_reducible refine Blk.newAt _ _ _ ?_); first | with_reducible rfl | (simp; done)) | with_reducible refine Blk.alloc ?_ _ | with_reducible refine Blk.drewN ?_ _ | with_reducible refine Blk.drew ?_ | ((with_reducible refine Blk.other ?_ _ ?_); rotate_left; ((try dsimp only); omega)) | with_reducible refine Blk.setB (cs0 := ?_) ?_ ?_))) Tryz.underlying91 rfl (by kernel_rfl) ?_
      rw [HRX.out]
      exact ⟨rfl, by (repeat' (first | with_reducible exact Kp.refl _ _ | with_reducible refine Kp.alloc ?_ _ | with_reducible refine Kp.drewN ?_ _ | with_reducible refine Kp.drew ?_ | with_reducible refine Kp.setCell ?_ _ ?_ | with_reducible refine Kp.trans ?_ kk (fun _ _ e => e) | (intro hh; first | rfl | exact .inl rfl | exact .inr rfl | (exfalso; (try dsimp only at hh); omega))))⟩
end Go.Proofs.YtellieabhaphhaaGreatDoor

/-
  narrowref's Accept.
-/
namespace Go.Proofs.YtellieabhaphhaaGreatDoor
open Go.RowKit

/-- Does a node take what the state says? -/
def fitF (n : Nd) (S : St) : Bool :=
  decide (S.getD n.y.toNat 0 &&& tkN n.op = S.getD n.y.toNat 0) && ((if n.op = 43 ∨ n.op = 60 then decide (S.getD n.v.toNat 0 &&& tkN n.op = S.getD n.v.toNat 0) else true) && decide (n.op ≠ 33))

/-- Why a node can't take it. -/
def fauF (n : Nd) (S : St) : Int := if S = [] then 0 else if fitF n S then 0 else if n.op = 33 then 6 else 5

/-- The first fault. -/
def accG (n : Nat) (f : Nat → Int) : Int × Nat := match (List.range n).find? (fun i => decide (f i ≠ 0)) with | some i => (f i, i) | none => (0, 0)

theorem accG_at {n : Nat} {f : Nat → Int} {j : Nat} (hj : j < n) (h : f j ≠ 0) (hb : ∀ i, i < j → f i = 0) : accG n f = (f j, j) := by
  have e : (List.range n).find? (fun i => decide (f i ≠ 0)) = some j := by
    rw [List.find?_range_eq_some]
    exact ⟨by simpa using h, by simpa using hj, fun i hi => by simpa using hb i hi⟩
  rw [accG, e]

theorem accG_none {n : Nat} {f : Nat → Int} (hb : ∀ i, i < n → f i = 0) : accG n f = (0, 0) := by
  have e : (List.range n).find? (fun i => decide (f i ≠ 0)) = none := by
    rw [List.find?_range_eq_none]
    exact fun i hi => by simpa using hb i hi
  rw [accG, e]

def fauA (l : List Nd) (T : Tbl) (i : Nat) : Int := match l[i]? with | some n => fauF n (T.getD i []) | none => 0

end Go.Proofs.YtellieabhaphhaaGreatDoor

/-
  Plain: a graph's nodes are well made.
-/
namespace Go.Proofs.YtellieabhaphhaaGreatDoor
open Go.RowKit

theorem lineF_items (s : ByteArray) (st : RS) : (lineF s st).items = st.items := by
  simp only [lineF]; split <;> rfl

theorem lnsF_gd : ∀ (f : Nat) (s : ByteArray) (st : RS), st.bad = false → (∀ n ∈ st.nodes, Gd s n) → (lnsF f s st).items = st.items ∧ ((lnsF f s st).bad = false → ∀ n ∈ (lnsF f s st).nodes, Gd s n) := by
  intro f
  induction f with
  | zero => intro s st _ h; exact ⟨rfl, fun _ => h⟩
  | succ f ih =>
    intro s st hb h
    rw [lnsF]
    split
    · rename_i hc
      split
      · exact ⟨rfl, fun e => by cases e⟩
      · cases hb2 : (lineF s st).bad
        · obtain ⟨nd, h1, h2, _⟩ := lineF_gd s st hc.2 hb2
          have := ih s (lineF s st) hb2 (fun n hn => by
            rw [h1, List.mem_append, List.mem_singleton] at hn
            rcases hn with h' | rfl
            · exact h n h'
            · exact h2)
          exact ⟨this.1.trans (lineF_items s st), this.2⟩
        · rw [lns_stop f s (lineF s st) (by rw [hb2]; simp)]
          exact ⟨lineF_items s st, fun e => by rw [hb2] at e; cases e⟩
    · exact ⟨rfl, fun _ => h⟩

theorem graF_gd (s : ByteArray) : (graF s).items = [] ∧ ((graF s).bad = false → ∀ n ∈ (graF s).nodes, Gd s n) :=
  lnsF_gd _ s rs0 rfl (fun n hn => by simp [rs0] at hn)

theorem graE_zero (s : ByteArray) (h : (graE s).1 = 0) : graE s = (0, 0) ∧ (graF s).bad = false := by
  unfold graE at h ⊢
  split
  · rename_i hb; rw [if_pos hb] at h; simp at h
  · rename_i hb
    rw [if_neg hb] at h
    refine ⟨?_, by simpa using hb⟩
    split
    · rename_i hl; rw [hl] at h; simp at h
    · rfl
end Go.Proofs.YtellieabhaphhaaGreatDoor

/-
  narrow's Accept.
-/
namespace Go.Proofs.YtellieabhaphhaaGreatDoor
open Go.RowKit

theorem sub_not : ∀ a : Fin 128, ∀ t : Fin 128, ((((a : Nat) &&& (127 ^^^ (t : Nat)) : Nat) : Int) != 0) = !decide ((a : Nat) &&& (t : Nat) = (a : Nat)) := by
  intro a t
  have ha := a.2
  have ht := t.2
  have key : ((a : Nat) &&& (127 ^^^ (t : Nat)) = 0) ↔ (a : Nat) &&& (t : Nat) = (a : Nat) := by
    constructor
    · intro h
      refine Nat.eq_of_testBit_eq fun i => ?_
      have hh := congrArg (fun z => z.testBit i) h
      simp only [Nat.testBit_and, Nat.testBit_xor, Nat.zero_testBit] at hh
      rw [Nat.testBit_and]
      by_cases hi : i < 7
      · have h127 : Nat.testBit 127 i = true := by
          rcases (show i = 0 ∨ i = 1 ∨ i = 2 ∨ i = 3 ∨ i = 4 ∨ i = 5 ∨ i = 6 by omega) with rfl | rfl | rfl | rfl | rfl | rfl | rfl <;> decide
        rw [h127] at hh
        revert hh
        cases Nat.testBit (a : Nat) i <;> cases Nat.testBit (t : Nat) i <;> simp
      · have h2 : 128 ≤ 2 ^ i := by
          have : 2 ^ 7 ≤ 2 ^ i := Nat.pow_le_pow_right (by decide) (by omega)
          omega
        rw [Nat.testBit_lt_two_pow (show (a : Nat) < 2 ^ i by omega)]
        simp
    · intro h
      refine Nat.eq_of_testBit_eq fun i => ?_
      have hh := congrArg (fun z => z.testBit i) h
      simp only [Nat.testBit_and] at hh
      rw [Nat.testBit_and, Nat.testBit_xor, Nat.zero_testBit]
      by_cases hi : i < 7
      · have h127 : Nat.testBit 127 i = true := by
          rcases (show i = 0 ∨ i = 1 ∨ i = 2 ∨ i = 3 ∨ i = 4 ∨ i = 5 ∨ i = 6 by omega) with rfl | rfl | rfl | rfl | rfl | rfl | rfl <;> decide
        rw [h127]
        revert hh
        cases Nat.testBit (a : Nat) i <;> cases Nat.testBit (t : Nat) i <;> simp
      · have h2 : 128 ≤ 2 ^ i := by
          have : 2 ^ 7 ≤ 2 ^ i := Nat.pow_le_pow_right (by decide) (by omega)
          omega
        rw [Nat.testBit_lt_two_pow (show (a : Nat) < 2 ^ i by omega)]
        simp
  by_cases h : (a : Nat) &&& (t : Nat) = (a : Nat)
  · rw [decide_eq_true h, key.2 h]; rfl
  · rw [decide_eq_false h]
    have : ¬ ((a : Nat) &&& (127 ^^^ (t : Nat)) = 0) := fun e => h (key.1 e)
    simpa using this

theorem or_sub (a b t : Nat) : ((a ||| b) &&& t = a ||| b) ↔ (a &&& t = a ∧ b &&& t = b) := by
  constructor
  · intro h
    have hb : ∀ i, (a.testBit i || b.testBit i) = true → t.testBit i = true := fun i hi => by
      have hh := congrArg (fun z => z.testBit i) h
      simp only [Nat.testBit_and, Nat.testBit_or] at hh
      rw [hi] at hh
      simpa using hh
    constructor
    · refine Nat.eq_of_testBit_eq fun i => ?_
      rw [Nat.testBit_and]
      cases e : a.testBit i
      · rfl
      · rw [hb i (by rw [e]; rfl)]; rfl
    · refine Nat.eq_of_testBit_eq fun i => ?_
      rw [Nat.testBit_and]
      cases e : b.testBit i
      · rfl
      · rw [hb i (by rw [e, Bool.or_true])]; rfl
  · rintro ⟨h1, h2⟩
    rw [Nat.and_or_distrib_right, h1, h2]

/-- Why narrow says that a node can't take a state. -/
theorem fau_or {n : Nd} {S : St} {y v : Nat} (hy : n.y = y) (hv : n.v = v) (h0 : S ≠ []) (h33 : n.op ≠ 33) :
    fauF n S = if ((S.getD y 0 ||| S.getD (if n.op = 43 ∨ n.op = 60 then v else y) 0) &&& tkN n.op = S.getD y 0 ||| S.getD (if n.op = 43 ∨ n.op = 60 then v else y) 0) then 0 else 5 := by
  rw [fauF, if_neg h0, fitF, hy, hv, Int.toNat_natCast, Int.toNat_natCast, decide_eq_true h33, Bool.and_true, if_neg h33]
  by_cases ht : n.op = 43 ∨ n.op = 60
  · rw [if_pos ht, if_pos ht]
    by_cases h1 : S.getD y 0 &&& tkN n.op = S.getD y 0 ∧ S.getD v 0 &&& tkN n.op = S.getD v 0
    · rw [if_pos ((or_sub _ _ _).2 h1), decide_eq_true h1.1, decide_eq_true h1.2]; rfl
    · rw [if_neg (fun e => h1 ((or_sub _ _ _).1 e)), if_neg]
      intro e
      rw [Bool.and_eq_true, decide_eq_true_iff, decide_eq_true_iff] at e
      exact h1 e
  · rw [if_neg ht, if_neg ht, Nat.or_self, Bool.and_true]
    by_cases h1 : S.getD y 0 &&& tkN n.op = S.getD y 0
    · rw [if_pos h1, decide_eq_true h1]; rfl
    · rw [if_neg h1, decide_eq_false h1]; rfl
end Go.Proofs.YtellieabhaphhaaGreatDoor

/-
  narrow's Accept.
-/
namespace Go.Proofs.YtellieabhaphhaaGreatDoor
open Go.RowKit

set_option maxRecDepth 100000 in
set_option maxHeartbeats 1600000 in
theorem faultOf_c (n : Nd) (tx : ByteArray) (yes nwy : Int) (S : St) (w : World) (hg : Gn n) (hS : SOk S) :
    Calls Tryz.prog 77 #[.agg #[.string tx, .int .i64 (actN n.op), .int .i64 n.x, .int .i64 n.y, .int .i64 (if n.op = 43 ∨ n.op = 60 then n.v else n.y), .int .i64 (bit (consN n).k), .int .i64 (consN n).n, .int .i64 (bit (consN n).v), .int .i64 (if n.op = 126 ∨ n.op = 58 then bit n.k else 0), .int .i64 yes, .int .i64 nwy], .agg (zc (encZ S)).toArray] w
      fun e w' => e = .returned (.int .i64 (fauF n S)) ∧ Kp no w w' := by
  obtain ⟨y, hy⟩ := Int.eq_ofNat_of_zero_le hg.y.1
  obtain ⟨v, hv⟩ := Int.eq_ofNat_of_zero_le hg.v.1
  have hy6 : y < 6 := by have := hg.y.2; omega
  have hv6 : v < 6 := by have := hg.v.2; omega
  have hw : (if n.op = 43 ∨ n.op = 60 then n.v else n.y) = (((if n.op = 43 ∨ n.op = 60 then v else y) : Nat) : Int) := by split <;> assumption
  have hw6 : (if n.op = 43 ∨ n.op = 60 then v else y) < 6 := by split <;> assumption
  obtain ⟨m0, m1, m2, m3, m4, m5, hm⟩ := z6_six (encZ_z6 hS)
  have HZ6 := hide (show Z6 [m0, m1, m2, m3, m4, m5] from hm ▸ encZ_z6 hS)
  have HEX := hide (exS_enc hS)
  have HF0 := hide (fun h0 : S = [] => show fauF n S = 0 by rw [fauF, if_pos h0])
  have HF1 := hide (fun (h0 : S ≠ []) (h33 : n.op = 33) => show fauF n S = 6 by rw [fauF, if_neg h0, fitF, h33]; simp)
  have HF2 := hide (fun (h0 : S ≠ []) h33 => fau_or (n := n) (S := S) hy hv h0 h33)
  have HSM := hide (fun h0 : S ≠ [] => show S = [m0, m1, m2, m3, m4, m5] by rw [← encZ_ful (hS.ful h0)]; exact hm)
  have HTK := hide (fun W => ntakenKinds_c (actN n.op) W)
  rw [tk_of hg.op] at HTK
  have htl := tk_lt n.op
  rw [hm] at HEX ⊢
  rw [show Value.agg (zc [m0, m1, m2, m3, m4, m5]).toArray = zv6 m0 m1 m2 m3 m4 m5 from rfl, hw, hy]
  have HX := hide (fun b W hW => exists_c b [m0, m1, m2, m3, m4, m5] W hW HZ6.out)
  rw [HEX.out] at HX
  have ha33 : n.op = 33 ∧ actN n.op = 11 ∨ n.op ≠ 33 ∧ actN n.op ≠ 11 := by
    have ho := hg.op
    unfold opOk at ho
    generalize n.op = o at *
    rcases ho with rfl | rfl | rfl | rfl | rfl | rfl | rfl | rfl | rfl | rfl | rfl | rfl | rfl | rfl | rfl | rfl | rfl | rfl <;> decide
  clear hm HEX hw hv
  generalize fauF n S = R at *
  generalize (if n.op = 43 ∨ n.op = 60 then v else y) = z at *
  generalize (if n.op = 126 ∨ n.op = 58 then bit n.k else 0) = kdv at *
  generalize (consN n).n = cnn at *
  generalize bit (consN n).k = ckk at *
  generalize bit (consN n).v = chh at *
  generalize n.x = nx at *
  by_cases h0 : S = []
  · rw [decide_eq_false (fun e => e h0)] at HX
    have HR := hide (HF0.out h0)
    generalize actN n.op = act at *
    clear h0 ha33 HF1 HF2 HF0
    go_enter Tryz.func77, Tryz.ntmps77
    go_wp2_with fail
    refine (HX.out _ _ (by (show Blk _ _ [.int .i64 m0, .int .i64 m1, .int .i64 m2, .int .i64 m3, .int .i64 m4, .int .i64 m5] _); (repeat' (first | ((with_reducible show (_ : List Value) = _); rfl) | ((with_reducible refine Blk.newAt _ _ _ ?_); first | with_reducible rfl | (simp; done)) | with_reducible refine Blk.alloc ?_ _ | with_reducible refine Blk.drewN ?_ _ | with_reducible refine Blk.drew ?_ | ((with_reducible refine Blk.other ?_ _ ?_); rotate_left; ((try dsimp only); omega)) | with_reducible refine Blk.setB (cs0 := ?_) ?_ ?_)))).mono ?_
    rintro e w' ⟨rfl, rfl⟩
    go_wp2
    go_ret
    rw [HR.out]
    exact ⟨rfl, by (repeat' (first | with_reducible exact Kp.refl _ _ | with_reducible refine Kp.alloc ?_ _ | with_reducible refine Kp.drewN ?_ _ | with_reducible refine Kp.drew ?_ | with_reducible refine Kp.setCell ?_ _ ?_ | (intro hh; first | rfl | exact .inl rfl | exact .inr rfl | (exfalso; (try dsimp only at hh); omega))))⟩
  · rw [decide_eq_true h0] at HX
    have hSm := HSM.out h0
    rcases ha33 with ⟨h33, h11⟩ | ⟨h33, h11⟩
    · have HR := hide (HF1.out h0 h33)
      rw [h11]
      clear h0 h33 h11 HF1 HF2 HF0 hSm HSM
      go_enter Tryz.func77, Tryz.ntmps77
      go_wp2_with fail
      refine (HX.out _ _ (by (show Blk _ _ [.int .i64 m0, .int .i64 m1, .int .i64 m2, .int .i64 m3, .int .i64 m4, .int .i64 m5] _); (repeat' (first | ((with_reducible show (_ : List Value) = _); rfl) | ((with_reducible refine Blk.newAt _ _ _ ?_); first | with_reducible rfl | (simp; done)) | with_reducible refine Blk.alloc ?_ _ | with_reducible refine Blk.drewN ?_ _ | with_reducible refine Blk.drew ?_ | ((with_reducible refine Blk.other ?_ _ ?_); rotate_left; ((try dsimp only); omega)) | with_reducible refine Blk.setB (cs0 := ?_) ?_ ?_)))).mono ?_
      rintro e w' ⟨rfl, rfl⟩
      go_wp2
      go_ret
      rw [HR.out]
      exact ⟨rfl, by (repeat' (first | with_reducible exact Kp.refl _ _ | with_reducible refine Kp.alloc ?_ _ | with_reducible refine Kp.drewN ?_ _ | with_reducible refine Kp.drew ?_ | with_reducible refine Kp.setCell ?_ _ ?_ | (intro hh; first | rfl | exact .inl rfl | exact .inr rfl | (exfalso; (try dsimp only at hh); omega))))⟩
    · have HR := hide (HF2.out h0 h33)
      have g11 : (actN n.op == 11) = false := by simpa using h11
      subst hSm
      have hby := HZ6.out.get y
      have hbz := HZ6.out.get z
      have HKY := hide (fun b W hW => kindsOf_c b [m0, m1, m2, m3, m4, m5] y W hW HZ6.out hy6)
      have HKZ := hide (fun b W hW => kindsOf_c b [m0, m1, m2, m3, m4, m5] z W hW HZ6.out hw6)
      have hor := bits_or_nat _ _ hby hbz
      have hnt := bits_not_nat _ (tkN n.op) (or_lt hby hbz) htl
      have hsn := sub_not ⟨_, or_lt hby hbz⟩ ⟨tkN n.op, htl⟩
      dsimp only at hsn
      clear h0 h33 h11 HF1 HF2 HF0 HSM
      generalize List.getD [m0, m1, m2, m3, m4, m5] y 0 = my at *
      generalize List.getD [m0, m1, m2, m3, m4, m5] z 0 = mz at *
      generalize tkN n.op = tk at *
      generalize actN n.op = act at *
      have HRR := hide (show R = if decide ((my ||| mz) &&& tk = my ||| mz) then 0 else 5 by rw [HR.out]; by_cases e : (my ||| mz) &&& tk = my ||| mz <;> simp [e])
      clear HR
      generalize decide ((my ||| mz) &&& tk = my ||| mz) = q at *
      generalize (((my ||| mz) &&& (127 ^^^ tk) : Nat) : Int) = nv at *
      generalize ((my ||| mz : Nat) : Int) = ov at *
      cases q
      all_goals
        go_enter Tryz.func77, Tryz.ntmps77
        go_wp2_with fail
        refine (HX.out _ _ (by (show Blk _ _ [.int .i64 m0, .int .i64 m1, .int .i64 m2, .int .i64 m3, .int .i64 m4, .int .i64 m5] _); (repeat' (first | ((with_reducible show (_ : List Value) = _); rfl) | ((with_reducible refine Blk.newAt _ _ _ ?_); first | with_reducible rfl | (simp; done)) | with_reducible refine Blk.alloc ?_ _ | with_reducible refine Blk.drewN ?_ _ | with_reducible refine Blk.drew ?_ | ((with_reducible refine Blk.other ?_ _ ?_); rotate_left; ((try dsimp only); omega)) | with_reducible refine Blk.setB (cs0 := ?_) ?_ ?_)))).mono ?_
        rintro e w' ⟨rfl, rfl⟩
        go_wp2_with fail
        refine (HKY.out _ _ (by (show Blk _ _ [.int .i64 m0, .int .i64 m1, .int .i64 m2, .int .i64 m3, .int .i64 m4, .int .i64 m5] _); (repeat' (first | ((with_reducible show (_ : List Value) = _); rfl) | ((with_reducible refine Blk.newAt _ _ _ ?_); first | with_reducible rfl | (simp; done)) | with_reducible refine Blk.alloc ?_ _ | with_reducible refine Blk.drewN ?_ _ | with_reducible refine Blk.drew ?_ | ((with_reducible refine Blk.other ?_ _ ?_); rotate_left; ((try dsimp only); omega)) | with_reducible refine Blk.setB (cs0 := ?_) ?_ ?_)))).mono ?_
        rintro e w' ⟨rfl, rfl⟩
        go_wp2_with fail
        refine (HKZ.out _ _ (by (show Blk _ _ [.int .i64 m0, .int .i64 m1, .int .i64 m2, .int .i64 m3, .int .i64 m4, .int .i64 m5] _); (repeat' (first | ((with_reducible show (_ : List Value) = _); rfl) | ((with_reducible refine Blk.newAt _ _ _ ?_); first | with_reducible rfl | (simp; done)) | with_reducible refine Blk.alloc ?_ _ | with_reducible refine Blk.drewN ?_ _ | with_reducible refine Blk.drew ?_ | ((with_reducible refine Blk.other ?_ _ ?_); rotate_left; ((try dsimp only); omega)) | with_reducible refine Blk.setB (cs0 := ?_) ?_ ?_)))).mono ?_
        rintro e w' ⟨rfl, rfl⟩
        go_wp2_with fail
        refine (HTK.out _).mono ?_
        rintro e w' ⟨rfl, rfl⟩
        go_wp2
        go_ret
        rw [HRR.out]
        exact ⟨rfl, by (repeat' (first | with_reducible exact Kp.refl _ _ | with_reducible refine Kp.alloc ?_ _ | with_reducible refine Kp.drewN ?_ _ | with_reducible refine Kp.drew ?_ | with_reducible refine Kp.setCell ?_ _ ?_ | (intro hh; first | rfl | exact .inl rfl | exact .inr rfl | (exfalso; (try dsimp only at hh); omega))))⟩
end Go.Proofs.YtellieabhaphhaaGreatDoor

/-
  narrowref's Accept.
-/
namespace Go.Proofs.YtellieabhaphhaaGreatDoor
open Go.RowKit

/-- What Accept says of a graph. -/
def accF (l : List Nd) : Int × Nat := accG l.length (fauA l (lstF l))

def ei2 (c p : Int) : Ending := .returned (.tuple #[.int .i64 c, .int .i64 p])

end Go.Proofs.YtellieabhaphhaaGreatDoor

/-
  Accept: narrow's answer is the answer's.
-/
namespace Go.Proofs.YtellieabhaphhaaGreatDoor
open Go.RowKit

set_option maxRecDepth 100000 in
set_option maxHeartbeats 1600000 in
theorem stateOf_b (tb n : Nat) (T : Tbl) (i : Nat) (w : World) (h : Blk w tb (tCells T) 102) (hl : T.length = n) (hi : i < n) :
    Calls Tryz.prog 76 #[.slice (some ⟨tb, 0, none⟩) n n, .int .i64 i] w fun e w' => e = .returned (.agg (zc (encZ (T.getD i []))).toArray) ∧ Kp no w w' := by
  obtain ⟨m0, m1, m2, m3, m4, m5, hm⟩ : ∃ m0 m1 m2 m3 m4 m5, encZ (T.getD i []) = [m0, m1, m2, m3, m4, m5] := by
    match encZ (T.getD i []), encZ6 (T.getD i []) with
    | [m0, m1, m2, m3, m4, m5], _ => exact ⟨m0, m1, m2, m3, m4, m5, rfl⟩
  obtain ⟨c0, c1, c2, c3, c4, c5⟩ := tb_at h (by rw [hl]; exact hi) hm
  have htl := h.lt
  rw [hm]
  have d0 : decide ((i : Int) < 0) = false := by simp
  have d1 : decide ((n : Int) ≤ i) = false := by simp; omega
  have d2 : (i : Int) < n := by omega
  have d3 : decide (n ≤ i) = false := by simp; omega
  clear h hm hl
  go_enter Tryz.func76, Tryz.ntmps76
  go_wp2
  refine body_agg (Tb := 102) (b := w.heap.size) (cs := [.int .i64 m0, .int .i64 m1, .int .i64 m2, .int .i64 m3, .int .i64 m4, .int .i64 m5]) (.inr rfl) Tryz.results76 rfl rfl (by (repeat' (first | ((with_reducible show (_ : List Value) = _); rfl) | ((with_reducible refine Blk.newAt _ _ _ ?_); first | with_reducible rfl | (simp; done)) | with_reducible refine Blk.alloc ?_ _ | with_reducible refine Blk.drewN ?_ _ | with_reducible refine Blk.drew ?_ | ((with_reducible refine Blk.other ?_ _ ?_); rotate_left; ((try dsimp only); omega)) | with_reducible refine Blk.setB (cs0 := ?_) ?_ ?_))) Tryz.underlying102 rfl (by kernel_rfl) ?_
  exact ⟨rfl, by (repeat' (first | with_reducible exact Kp.refl _ _ | with_reducible refine Kp.alloc ?_ _ | with_reducible refine Kp.drewN ?_ _ | with_reducible refine Kp.drew ?_ | with_reducible refine Kp.setCell ?_ _ ?_ | (intro hh; first | rfl | exact .inl rfl | exact .inr rfl | (exfalso; (try dsimp only at hh); omega))))⟩

set_option maxRecDepth 100000 in
set_option maxHeartbeats 1600000 in
theorem firstFault_c (s : ByteArray) (v : Value) (l : List Nd) (tb : Nat) (T : Tbl) (w : World) (h : NRow w v (l.map (encX s))) (hB : Blk w tb (tCells T) 102) (hTl : T.length = l.length) (hT : TOk T) (hl : l.length ≤ 90) (hg : ∀ n ∈ l, Gd s n) :
    Calls Tryz.prog 46 #[v, .slice (some ⟨tb, 0, none⟩) l.length l.length] w fun e w' => e = ei2 (accG l.length (fauA l T)).1 (accG l.length (fauA l T)).2 ∧ Kp no w w' := by
  obtain ⟨a, cap, rfl⟩ := h.shape
  have HD := hide h
  rw [List.length_map]
  have HB := hide hB
  clear h hB
  generalize hAG : accG l.length (fauA l T) = AG at *
  have HAG := hide hAG
  clear hAG
  go_enter Tryz.func46, Tryz.ntmps46
  go_wp2
  go_loopg [12] l.length (fun k iv wr => ∃ j : Nat, j ≤ l.length ∧ k = l.length - j ∧ iv = .int .i64 j ∧ (∀ i, i < j → fauA l T i = 0) ∧ Kp no w wr)
  case atStart => exact ⟨0, Nat.zero_le _, rfl, rfl, fun i hi => by omega, Kp.refl _ _⟩
  case round =>
    obtain ⟨j, hj, hk, rfl, hz, kr⟩ := hrel
    have HKK := hide hk
    have HZ := hide hz
    have HKR := hide kr
    clear hk hz kr
    by_cases hlt : j < l.length
    · obtain ⟨nd, hnd⟩ : ∃ nd, l[j]? = some nd := ⟨_, List.getElem?_eq_getElem hlt⟩
      have HGD := hide (hg nd (List.mem_of_getElem? hnd))
      have HFA := hide (show fauA l T j = fauF nd (T.getD j []) by rw [fauA, hnd])
      obtain ⟨_, gn, ha, hgn, n0, n1, n2, n3, n4, n5, n6, n7, n8, n9, n10⟩ := NRow.at (HKR.out.row HD.out (fun _ _ => no_elim)) (k := j) (n := encX s nd) (by rw [List.getElem?_map, hnd]; rfl)
      subst ha
      have HSO := hide (hT.get j)
      have HST := hide (fun W hW => stateOf_b tb l.length T j W hW hTl hlt)
      have HFO := hide (fun W => faultOf_c nd (s.extract nd.a.toNat (nd.a + nd.l).toNat) (yesN nd) (noN nd) (T.getD j []) W HGD.out.g HSO.out)
      obtain ⟨m0, m1, m2, m3, m4, m5, hm⟩ := z6_six (encZ_z6 HSO.out)
      rw [hm] at HST HFO
      have HST2 : Hid (∀ W, Blk W tb (tCells T) 102 → Calls Tryz.prog 76 #[.slice (some ⟨tb, 0, none⟩) l.length l.length, .int .i64 j] W fun e w' => e = .returned (zv6 m0 m1 m2 m3 m4 m5) ∧ Kp no W w') := HST.out
      rw [show Value.agg (zc [m0, m1, m2, m3, m4, m5]).toArray = zv6 m0 m1 m2 m3 m4 m5 from rfl] at HFO
      rw [← HFA.out] at HFO
      clear HST hm hnd
      dsimp only [encX, encN] at n0 n1 n2 n3 n4 n5 n6 n7 n8 n9 n10
      generalize s.extract nd.a.toNat (nd.a + nd.l).toNat = tx at *
      generalize yesN nd = yn at *
      generalize noN nd = nn at *
      generalize actN nd.op = act at *
      generalize (if nd.op = 43 ∨ nd.op = 60 then nd.v else nd.y) = nwv at *
      generalize (if nd.op = 126 ∨ nd.op = 58 then bit nd.k else 0) = kdv at *
      generalize (consN nd).n = cnn at *
      generalize bit (consN nd).k = ckk at *
      generalize bit (consN nd).v = chh at *
      have hqI : (j : Int) < l.length := by omega
      have HAT := hide (fun hne => accG_at hlt (f := fauA l T) hne HZ.out)
      generalize hF : fauA l T j = F at *
      have HF := hide hF
      clear hF
      go_wp2_with fail
      refine (HST2.out _ ((HKR.out.blk HB.out no_elim).alloc _)).mono ?_
      rintro e w5 ⟨rfl, k5⟩
      have hN5 : Blk w5 wr.heap.size [.string tx, .int .i64 act, .int .i64 nd.x, .int .i64 nd.y, .int .i64 nwv, .int .i64 ckk, .int .i64 cnn, .int .i64 chh, .int .i64 kdv, .int .i64 yn, .int .i64 nn] 91 := k5.blk (by (repeat' (first | ((with_reducible show (_ : List Value) = _); rfl) | ((with_reducible refine Blk.newAt _ _ _ ?_); first | with_reducible rfl | (simp; done)) | with_reducible refine Blk.alloc ?_ _ | with_reducible refine Blk.drewN ?_ _ | with_reducible refine Blk.drew ?_ | ((with_reducible refine Blk.other ?_ _ ?_); rotate_left; ((try dsimp only); omega)) | with_reducible refine Blk.setB (cs0 := ?_) ?_ ?_))) no_elim
      have HK5 := hide (show Kp no w w5 from HKR.out.trans (S' := no) (Kp.trans (by (repeat' (first | with_reducible exact Kp.refl _ _ | with_reducible refine Kp.alloc ?_ _ | with_reducible refine Kp.drewN ?_ _ | with_reducible refine Kp.drew ?_ | with_reducible refine Kp.setCell ?_ _ ?_ | (intro hh; first | rfl | exact .inl rfl | exact .inr rfl | (exfalso; (try dsimp only at hh); omega))))) k5 (fun _ _ e => e)) (fun _ _ e => e))
      clear k5 n0 n1 n2 n3 n4 n5 n6 n7 n8 n9 n10
      obtain ⟨n0, n1, n2, n3, n4, n5, n6, n7, n8, n9, n10, nf⟩ := hN5.c11; have hnl := hN5.lt
      go_wp2_with fail
      refine (HFO.out _).mono ?_
      rintro e w6 ⟨rfl, k6⟩
      have HK6 := hide ((HK5.out.alloc _).trans k6 (fun _ _ e => e))
      by_cases hF0 : F = 0
      · subst hF0
        go_wp2
        go_roundg (l.length - (j + 1))
        case measure => have := HKK.out; omega
        case rel => exact ⟨j + 1, by omega, rfl, by go_num, fun i hi => by
          rcases Nat.lt_or_ge i j with h1 | h1
          · exact HZ.out i h1
          · obtain rfl : i = j := by omega
            exact HF.out, HK6.out⟩
      · have HR := hide (HAT.out hF0)
        have g0 : (F == 0) = false := by simpa using hF0
        have g1 : (F != 0) = true := by simpa using hF0
        clear hF0
        go_wp2
        go_ret2
        rw [← HAG.out, HR.out]
        exact ⟨rfl, HK6.out⟩
    · obtain rfl : j = l.length := by omega
      have HR := hide (accG_none (f := fauA l T) HZ.out)
      go_wp2
      go_ret2
      rw [← HAG.out, HR.out]
      exact ⟨rfl, HKR.out⟩
set_option maxHeartbeats 1600000 in
theorem naccept_good (s : ByteArray) (w : World) (hs : s.size ≤ 900) (hb : graE s = (0, 0)) :
    Calls Tryz.prog 27 #[.string s] w fun e w' => e = ei2 (accF (graF s).nodes).1 (accF (graF s).nodes).2 ∧ Kp no w w' := by
  have HS := hide (nog_c s w hs)
  have hlen := (graF_inv s).2
  unfold NogPost at HS
  rw [hb] at HS
  clear hb
  generalize graF s = st at *
  have HAC : Hid (accF st.nodes = accG st.nodes.length (fauA st.nodes (lstF st.nodes))) := rfl
  go_enter Tryz.func27, Tryz.ntmps27
  go_wp2_with fail
  refine HS.out.mono ?_
  rintro e w2 ⟨v, rfl, k2, hpost⟩
  obtain ⟨hR, hO, hgd⟩ := hpost trivial
  have HL := hide (leastTable_c s v st.nodes w2 hR hlen hgd)
  have HFF := hide (fun tb W (hW : NRow W v (st.nodes.map (encX s))) hB => firstFault_c s v st.nodes tb (lstF st.nodes) W hW hB (lst_len _) (lst_ok _) hlen hgd)
  have HRR := hide hR
  obtain ⟨a, cap, rfl⟩ := hR.shape
  rw [List.length_map] at HL HFF HRR ⊢
  clear hO hgd hpost HS hR
  go_wp2_with fail
  refine HL.out.mono ?_
  rintro e w3 ⟨tb, rfl, hB, k3⟩
  go_wp2_with fail
  refine (HFF.out tb _ (by exact k3.row HRR.out (fun _ _ => no_elim)) (by exact hB)).mono ?_
  rintro e w4 ⟨rfl, k4⟩
  unfold ei2
  go_wp2
  go_ret2
  rw [HAC.out]
  exact ⟨rfl, (k2.trans k3 (fun _ _ e => e)).trans k4 (fun _ _ e => e)⟩

end Go.Proofs.YtellieabhaphhaaGreatDoor

/-
  narrow's Prune: the nodes that are left.
-/
namespace Go.Proofs.YtellieabhaphhaaGreatDoor
open Go.RowKit

/-- A node that is left. -/
def kpN (s : ByteArray) (T : Tbl) (n : Nd) (S : St) : NN :=
  { lwN (encX s n) (algF n true S) (algF n false S) T.length with
    yes := (cntF T (lwN (encX s n) (algF n true S) (algF n false S) T.length).yes.toNat : Nat)
    no := (cntF T (lwN (encX s n) (algF n true S) (algF n false S) T.length).no.toNat : Nat) }

def kpL (s : ByteArray) (T : Tbl) (l : List Nd) : Nat → List NN
  | 0 => []
  | j + 1 => kpL s T l j ++ (match l[j]? with | some n => if T.getD j [] = [] then [] else [kpN s T n (T.getD j [])] | none => [])

theorem kpL_len (s : ByteArray) (T : Tbl) (l : List Nd) : ∀ j, (kpL s T l j).length ≤ j
  | 0 => Nat.le_refl _
  | j + 1 => by
    have := kpL_len s T l j
    rw [kpL, List.length_append]
    have h2 : (match l[j]? with | some n => if T.getD j [] = [] then [] else [kpN s T n (T.getD j [])] | none => ([] : List NN)).length ≤ 1 := by
      split
      · split <;> simp
      · simp
    omega

set_option maxRecDepth 100000 in
set_option maxHeartbeats 1600000 in
theorem prunedNodes_c (s : ByteArray) (v : Value) (l : List Nd) (tb : Nat) (T : Tbl) (w : World) (h : NRow w v (l.map (encX s))) (hB : Blk w tb (tCells T) 102) (hTl : T.length = l.length) (hT : TOk T) (hl : l.length ≤ 90) (hg : ∀ n ∈ l, Gd s n) :
    Calls Tryz.prog 58 #[v, .slice (some ⟨tb, 0, none⟩) l.length l.length] w fun e w' => ∃ u, e = .returned u ∧ NRow w' u (kpL s T l l.length) ∧ Kp no w w' := by
  obtain ⟨i0, hi0, hz0, hz1, hz2⟩ := info_parts info_nn
  obtain ⟨a, cap, rfl⟩ := h.shape
  have HD := hide h
  rw [List.length_map]
  have HB := hide hB
  clear h hB
  go_enter Tryz.func58, Tryz.ntmps58
  go_wp2
  go_loopg [5, 12] l.length (fun k lv iv wr => ∃ j : Nat, j ≤ l.length ∧ k = l.length - j ∧ iv = .int .i64 j ∧ KN w wr lv (kpL s T l j) ∧ Kp no w wr)
  case atStart =>
    refine ⟨0, Nat.zero_le _, rfl, rfl, ⟨⟨rfl, .inr ⟨w.heap.size, 0, #[], rfl, Nat.zero_le _, ?_, Nat.le_refl _, Nat.zero_le _, rfl, rfl⟩⟩, fun b hb => by simp [Value.ownBlock] at hb; omega⟩, by (repeat' (first | with_reducible exact Kp.refl _ _ | with_reducible refine Kp.alloc ?_ _ | with_reducible refine Kp.drewN ?_ _ | with_reducible refine Kp.drew ?_ | with_reducible refine Kp.setCell ?_ _ ?_ | (intro hh; first | rfl | exact .inl rfl | exact .inr rfl | (exfalso; (try dsimp only at hh); omega))))⟩
    have hh : Blk (w.alloc (.cells #[] 91)) w.heap.size [] 91 := by (repeat' (first | ((with_reducible show (_ : List Value) = _); rfl) | ((with_reducible refine Blk.newAt _ _ _ ?_); first | with_reducible rfl | (simp; done)) | with_reducible refine Blk.alloc ?_ _ | with_reducible refine Blk.drewN ?_ _ | with_reducible refine Blk.drew ?_ | ((with_reducible refine Blk.other ?_ _ ?_); rotate_left; ((try dsimp only); omega)) | with_reducible refine Blk.setB (cs0 := ?_) ?_ ?_))
    exact hh
  case round =>
    obtain ⟨j, hj, hk, rfl, hKB, kr⟩ := hrel
    have HKK := hide hk
    have HKB := hide hKB
    have HKR := hide kr
    obtain ⟨la, lc, rfl⟩ := hKB.r.shape
    clear hk hKB kr
    by_cases hlt : j < l.length
    · obtain ⟨nd, hnd⟩ : ∃ nd, l[j]? = some nd := ⟨_, List.getElem?_eq_getElem hlt⟩
      have HGD := hide (hg nd (List.mem_of_getElem? hnd))
      have HPL := hide (show kpL s T l (j + 1) = kpL s T l j ++ (if T.getD j [] = [] then [] else [kpN s T nd (T.getD j [])]) by rw [kpL, hnd])
      obtain ⟨_, gn, ha, hgn, n0, n1, n2, n3, n4, n5, n6, n7, n8, n9, n10⟩ := NRow.at (HKR.out.row HD.out (fun _ _ => no_elim)) (k := j) (n := encX s nd) (by rw [List.getElem?_map, hnd]; rfl)
      subst ha
      have HSO := hide (hT.get j)
      have hpl := kpL_len s T l j
      have HST := hide (fun W hW => stateOf_b tb l.length T j W hW hTl hlt)
      obtain ⟨m0, m1, m2, m3, m4, m5, hm⟩ := z6_six (encZ_z6 HSO.out)
      have HEX := hide (exS_enc HSO.out)
      have HLW := hide (fun (hF : Ful (T.getD j [])) W => withLiveWays_c nd (s.extract nd.a.toNat (nd.a + nd.l).toNat) (yesN nd) (noN nd) l.length (T.getD j []) W HGD.out.g hF)
      have HFU := hide (fun h0 => HSO.out.ful h0)
      have HSM := hide (fun h0 : T.getD j [] ≠ [] => show T.getD j [] = [m0, m1, m2, m3, m4, m5] by rw [← encZ_ful (HSO.out.ful h0)]; exact hm)
      have HKP := hide (show kpN s T nd (T.getD j []) = { lwN (encN nd (s.extract nd.a.toNat (nd.a + nd.l).toNat) (yesN nd) (noN nd)) (algF nd true (T.getD j [])) (algF nd false (T.getD j [])) l.length with
        yes := (cntF T (lwN (encN nd (s.extract nd.a.toNat (nd.a + nd.l).toNat) (yesN nd) (noN nd)) (algF nd true (T.getD j [])) (algF nd false (T.getD j [])) l.length).yes.toNat : Nat)
        no := (cntF T (lwN (encN nd (s.extract nd.a.toNat (nd.a + nd.l).toNat) (yesN nd) (noN nd)) (algF nd true (T.getD j [])) (algF nd false (T.getD j [])) l.length).no.toNat : Nat) } by rw [kpN, hTl]; rfl)
      have HYN := hide (show 0 ≤ yesN nd ∧ 0 ≤ noN nd by
        have h1 := HGD.out.t
        have h2 := HGD.out.f
        constructor
        · unfold yesN; split; exact Int.le_refl _; exact (h1 (by assumption)).1
        · unfold noN yesN
          split
          · exact (h2 (by assumption)).1
          · split; exact Int.le_refl _; exact (h1 (by assumption)).1)
      have HWY := hide (show 0 ≤ (lwN (encN nd (s.extract nd.a.toNat (nd.a + nd.l).toNat) (yesN nd) (noN nd)) (algF nd true (T.getD j [])) (algF nd false (T.getD j [])) l.length).yes ∧ 0 ≤ (lwN (encN nd (s.extract nd.a.toNat (nd.a + nd.l).toNat) (yesN nd) (noN nd)) (algF nd true (T.getD j [])) (algF nd false (T.getD j [])) l.length).no by
        have h1 := HYN.out
        unfold lwN
        repeat' split
        · exact h1
        · exact ⟨h1.1, h1.1⟩
        · exact ⟨h1.2, h1.2⟩
        · exact ⟨Int.natCast_nonneg _, Int.natCast_nonneg _⟩)
      rw [hm] at HST HEX
      have HST2 : Hid (∀ W, Blk W tb (tCells T) 102 → Calls Tryz.prog 76 #[.slice (some ⟨tb, 0, none⟩) l.length l.length, .int .i64 j] W fun e w' => e = .returned (zv6 m0 m1 m2 m3 m4 m5) ∧ Kp no W w') := HST.out
      have HZ6 := hide (show Z6 [m0, m1, m2, m3, m4, m5] from hm ▸ encZ_z6 HSO.out)
      clear HST hm hnd
      dsimp only [encX, encN] at n0 n1 n2 n3 n4 n5 n6 n7 n8 n9 n10
      generalize s.extract nd.a.toNat (nd.a + nd.l).toNat = tx at *
      generalize lwN (encN nd tx (yesN nd) (noN nd)) (algF nd true (T.getD j [])) (algF nd false (T.getD j [])) l.length = R at *
      generalize kpN s T nd (T.getD j []) = KP at *
      generalize T.getD j [] = S at *
      generalize kpL s T l j = P at *
      generalize yesN nd = yn at *
      generalize noN nd = nn at *
      generalize actN nd.op = act at *
      generalize (if nd.op = 43 ∨ nd.op = 60 then nd.v else nd.y) = nwv at *
      generalize (if nd.op = 126 ∨ nd.op = 58 then bit nd.k else 0) = kdv at *
      generalize (consN nd).n = cnn at *
      generalize bit (consN nd).k = ckk at *
      generalize bit (consN nd).v = chh at *
      generalize nd.x = nx at *
      generalize nd.y = ny at *
      have hqI : (j : Int) < l.length := by omega
      have HX := hide (fun b W hW => exists_c b [m0, m1, m2, m3, m4, m5] W hW HZ6.out)
      rw [HEX.out] at HX
      have HLN : Hid (Value.ownBlock (.slice la P.length lc) ≠ some wr.heap.size) := fun e => by have := Row.lt HKB.out.r e; omega
      go_wp2_with fail
      refine (HST2.out _ ((HKR.out.blk HB.out no_elim).alloc _)).mono ?_
      rintro e w5 ⟨rfl, k5⟩
      have hN5 : Blk w5 wr.heap.size [.string tx, .int .i64 act, .int .i64 nx, .int .i64 ny, .int .i64 nwv, .int .i64 ckk, .int .i64 cnn, .int .i64 chh, .int .i64 kdv, .int .i64 yn, .int .i64 nn] 91 := k5.blk (by (repeat' (first | ((with_reducible show (_ : List Value) = _); rfl) | ((with_reducible refine Blk.newAt _ _ _ ?_); first | with_reducible rfl | (simp; done)) | with_reducible refine Blk.alloc ?_ _ | with_reducible refine Blk.drewN ?_ _ | with_reducible refine Blk.drew ?_ | ((with_reducible refine Blk.other ?_ _ ?_); rotate_left; ((try dsimp only); omega)) | with_reducible refine Blk.setB (cs0 := ?_) ?_ ?_))) no_elim
      have HK5 := hide (HKR.out.trans (S' := no) (Kp.trans (by (repeat' (first | with_reducible exact Kp.refl _ _ | with_reducible refine Kp.alloc ?_ _ | with_reducible refine Kp.drewN ?_ _ | with_reducible refine Kp.drew ?_ | with_reducible refine Kp.setCell ?_ _ ?_ | (intro hh; first | rfl | exact .inl rfl | exact .inr rfl | (exfalso; (try dsimp only at hh); omega))))) k5 (fun _ _ e => e)) (fun _ _ e => e))
      have HL5 := hide (HKB.out.kp (Kp.trans (by (repeat' (first | with_reducible exact Kp.refl _ _ | with_reducible refine Kp.alloc ?_ _ | with_reducible refine Kp.drewN ?_ _ | with_reducible refine Kp.drew ?_ | with_reducible refine Kp.setCell ?_ _ ?_ | (intro hh; first | rfl | exact .inl rfl | exact .inr rfl | (exfalso; (try dsimp only at hh); omega))))) k5 (fun _ _ e => e)))
      clear k5 n0 n1 n2 n3 n4 n5 n6 n7 n8 n9 n10
      obtain ⟨n0, n1, n2, n3, n4, n5, n6, n7, n8, n9, n10, nf⟩ := hN5.c11; have hnl := hN5.lt
      by_cases hS0 : S = []
      · rw [if_pos hS0, List.append_nil] at HPL
        rw [decide_eq_false (fun e => e hS0)] at HX
        clear hS0
        go_wp2_with fail
        refine (HX.out _ _ (by (show Blk _ _ [.int .i64 m0, .int .i64 m1, .int .i64 m2, .int .i64 m3, .int .i64 m4, .int .i64 m5] _); (repeat' (first | ((with_reducible show (_ : List Value) = _); rfl) | ((with_reducible refine Blk.newAt _ _ _ ?_); first | with_reducible rfl | (simp; done)) | with_reducible refine Blk.alloc ?_ _ | with_reducible refine Blk.drewN ?_ _ | with_reducible refine Blk.drew ?_ | ((with_reducible refine Blk.other ?_ _ ?_); rotate_left; ((try dsimp only); omega)) | with_reducible refine Blk.setB (cs0 := ?_) ?_ ?_)))).mono ?_
        rintro e w' ⟨rfl, rfl⟩
        go_wp2
        go_roundg (l.length - (j + 1))
        case measure => have := HKK.out; omega
        case rel => exact ⟨j + 1, by omega, rfl, by go_num, by rw [HPL.out]; exact HL5.out.kp ((Kp.refl _ _).alloc _), HK5.out.alloc _⟩
      · rw [if_neg hS0] at HPL
        rw [decide_eq_true hS0] at HX
        have HLX := hide (HLW.out (HFU.out hS0))
        rw [HSM.out hS0] at HLX
        rw [show Value.agg (zc [m0, m1, m2, m3, m4, m5]).toArray = zv6 m0 m1 m2 m3 m4 m5 from rfl] at HLX
        clear hS0 HLW HFU HSM
        obtain ⟨rtx, ract, rx, ry, rw', rck, rcn, rch, rkd, ryes, rno⟩ := R
        obtain ⟨ryn, hryn⟩ := Int.eq_ofNat_of_zero_le HWY.out.1
        obtain ⟨rnn, hrnn⟩ := Int.eq_ofNat_of_zero_le HWY.out.2
        dsimp only at hryn hrnn
        subst hryn hrnn
        dsimp only [NN.cells] at HLX
        dsimp only at HKP
        rw [Int.toNat_natCast, Int.toNat_natCast] at HKP
        go_wp2_with fail
        refine (HX.out _ _ (by (show Blk _ _ [.int .i64 m0, .int .i64 m1, .int .i64 m2, .int .i64 m3, .int .i64 m4, .int .i64 m5] _); (repeat' (first | ((with_reducible show (_ : List Value) = _); rfl) | ((with_reducible refine Blk.newAt _ _ _ ?_); first | with_reducible rfl | (simp; done)) | with_reducible refine Blk.alloc ?_ _ | with_reducible refine Blk.drewN ?_ _ | with_reducible refine Blk.drew ?_ | ((with_reducible refine Blk.other ?_ _ ?_); rotate_left; ((try dsimp only); omega)) | with_reducible refine Blk.setB (cs0 := ?_) ?_ ?_)))).mono ?_
        rintro e w' ⟨rfl, rfl⟩
        go_wp2_with fail
        refine (HLX.out _).mono ?_
        rintro e w6 ⟨rfl, k6⟩
        have hN6 : Blk w6 wr.heap.size [.string tx, .int .i64 act, .int .i64 nx, .int .i64 ny, .int .i64 nwv, .int .i64 ckk, .int .i64 cnn, .int .i64 chh, .int .i64 kdv, .int .i64 yn, .int .i64 nn] 91 := k6.blk (by (repeat' (first | ((with_reducible show (_ : List Value) = _); rfl) | with_reducible exact hN5 | ((with_reducible refine Blk.newAt _ _ _ ?_); first | with_reducible rfl | (simp; done)) | with_reducible refine Blk.alloc ?_ _ | with_reducible refine Blk.drewN ?_ _ | with_reducible refine Blk.drew ?_ | ((with_reducible refine Blk.other ?_ _ ?_); rotate_left; ((try dsimp only); omega)) | with_reducible refine Blk.setB (cs0 := ?_) ?_ ?_))) no_elim
        have HK6 := hide (HK5.out.trans (S' := no) (Kp.trans (by (repeat' (first | with_reducible exact Kp.refl _ _ | with_reducible refine Kp.alloc ?_ _ | with_reducible refine Kp.drewN ?_ _ | with_reducible refine Kp.drew ?_ | with_reducible refine Kp.setCell ?_ _ ?_ | (intro hh; first | rfl | exact .inl rfl | exact .inr rfl | (exfalso; (try dsimp only at hh); omega))))) k6 (fun _ _ e => e)) (fun _ _ e => e))
        have HL6 := hide (HL5.out.kp (Kp.trans (by (repeat' (first | with_reducible exact Kp.refl _ _ | with_reducible refine Kp.alloc ?_ _ | with_reducible refine Kp.drewN ?_ _ | with_reducible refine Kp.drew ?_ | with_reducible refine Kp.setCell ?_ _ ?_ | (intro hh; first | rfl | exact .inl rfl | exact .inr rfl | (exfalso; (try dsimp only at hh); omega))))) k6 (fun _ _ e => e)))
        have hT6 := HK6.out.blk HB.out no_elim
        have htbl := HB.out.lt
        have hsw := HKR.out.size
        clear k6
        clear n0 n1 n2 n3 n4 n5 n6 n7 n8 n9 n10 nf hnl
        obtain ⟨n0, n1, n2, n3, n4, n5, n6, n7, n8, n9, n10, nf⟩ := hN6.c11; have hnl := hN6.lt
        have HSA := hide (fun i W hW => statesAhead_c tb T i W hW hT (by omega))
        rw [hTl] at HSA
        go_wp2_with fail
        refine (HSA.out ryn _ (by (repeat' (first | ((with_reducible show (_ : List Value) = _); rfl) | with_reducible exact hT6 | ((with_reducible refine Blk.newAt _ _ _ ?_); first | with_reducible rfl | (simp; done)) | with_reducible refine Blk.alloc ?_ _ | with_reducible refine Blk.drewN ?_ _ | with_reducible refine Blk.drew ?_ | ((with_reducible refine Blk.other ?_ _ ?_); rotate_left; ((try dsimp only); omega)) | with_reducible refine Blk.setB (cs0 := ?_) ?_ ?_)))).mono ?_
        rintro e w7 ⟨rfl, k7⟩
        have hN7 : Blk w7 wr.heap.size [.string rtx, .int .i64 ract, .int .i64 rx, .int .i64 ry, .int .i64 rw', .int .i64 rck, .int .i64 rcn, .int .i64 rch, .int .i64 rkd, .int .i64 ryn, .int .i64 rnn] 91 := k7.blk (by (repeat' (first | ((with_reducible show (_ : List Value) = _); rfl) | with_reducible exact hN6 | ((with_reducible refine Blk.newAt _ _ _ ?_); first | with_reducible rfl | (simp; done)) | with_reducible refine Blk.alloc ?_ _ | with_reducible refine Blk.drewN ?_ _ | with_reducible refine Blk.drew ?_ | ((with_reducible refine Blk.other ?_ _ ?_); rotate_left; ((try dsimp only); omega)) | with_reducible refine Blk.setB (cs0 := ?_) ?_ ?_))) no_elim
        have kk6 := HK6.out
        have HK7 := hide (show Kp no w w7 from Kp.trans (by (repeat' (first | with_reducible exact Kp.refl _ _ | with_reducible refine Kp.alloc ?_ _ | with_reducible refine Kp.drewN ?_ _ | with_reducible refine Kp.drew ?_ | with_reducible refine Kp.setCell ?_ _ ?_ | with_reducible refine Kp.trans ?_ kk6 (fun _ _ e => e) | (intro hh; first | rfl | exact .inl rfl | exact .inr rfl | (exfalso; (try dsimp only at hh); omega))))) k7 (fun _ _ e => e))
        have HL7 : Hid (KN w w7 (.slice la P.length lc) P) := KN.kp (by repeat' (first | with_reducible exact HL6.out | with_reducible refine KN.set ?_ _ HLN.out)) k7
        have hT7 := HK7.out.blk HB.out no_elim
        clear k7 hN6 HL6 hT6
        clear n0 n1 n2 n3 n4 n5 n6 n7 n8 n9 n10 nf hnl
        obtain ⟨n0, n1, n2, n3, n4, n5, n6, n7, n8, n9, n10, nf⟩ := hN7.c11; have hnl := hN7.lt
        generalize cntF T ryn = cy at *
        go_wp2_with fail
        refine (HSA.out rnn _ (by (repeat' (first | ((with_reducible show (_ : List Value) = _); rfl) | with_reducible exact hT7 | ((with_reducible refine Blk.newAt _ _ _ ?_); first | with_reducible rfl | (simp; done)) | with_reducible refine Blk.alloc ?_ _ | with_reducible refine Blk.drewN ?_ _ | with_reducible refine Blk.drew ?_ | ((with_reducible refine Blk.other ?_ _ ?_); rotate_left; ((try dsimp only); omega)) | with_reducible refine Blk.setB (cs0 := ?_) ?_ ?_)))).mono ?_
        rintro e w8 ⟨rfl, k8⟩
        have hN8 : Blk w8 wr.heap.size [.string rtx, .int .i64 ract, .int .i64 rx, .int .i64 ry, .int .i64 rw', .int .i64 rck, .int .i64 rcn, .int .i64 rch, .int .i64 rkd, .int .i64 cy, .int .i64 rnn] 91 := k8.blk (by (repeat' (first | ((with_reducible show (_ : List Value) = _); rfl) | with_reducible exact hN7 | ((with_reducible refine Blk.newAt _ _ _ ?_); first | with_reducible rfl | (simp; done)) | with_reducible refine Blk.alloc ?_ _ | with_reducible refine Blk.drewN ?_ _ | with_reducible refine Blk.drew ?_ | ((with_reducible refine Blk.other ?_ _ ?_); rotate_left; ((try dsimp only); omega)) | with_reducible refine Blk.setB (cs0 := ?_) ?_ ?_))) no_elim
        have kk7 := HK7.out
        have HK8 := hide (show Kp no w w8 from Kp.trans (by (repeat' (first | with_reducible exact Kp.refl _ _ | with_reducible refine Kp.alloc ?_ _ | with_reducible refine Kp.drewN ?_ _ | with_reducible refine Kp.drew ?_ | with_reducible refine Kp.setCell ?_ _ ?_ | with_reducible refine Kp.trans ?_ kk7 (fun _ _ e => e) | (intro hh; first | rfl | exact .inl rfl | exact .inr rfl | (exfalso; (try dsimp only at hh); omega))))) k8 (fun _ _ e => e))
        have HL8 : Hid (KN w w8 (.slice la P.length lc) P) := KN.kp (by repeat' (first | with_reducible exact HL7.out | with_reducible refine KN.set ?_ _ HLN.out)) k8
        clear k8 hN7 HL7 hT7
        clear n0 n1 n2 n3 n4 n5 n6 n7 n8 n9 n10 nf hnl
        obtain ⟨n0, n1, n2, n3, n4, n5, n6, n7, n8, n9, n10, nf⟩ := hN8.c11; have hnl := hN8.lt
        generalize cntF T rnn = cz at *
        have hone : ∀ u ∈ ([.string rtx, .int .i64 ract, .int .i64 rx, .int .i64 ry, .int .i64 rw', .int .i64 rck, .int .i64 rcn, .int .i64 rch, .int .i64 rkd, .int .i64 cy, .int .i64 cz] : List Value), u.oneCell' = true := by simp [Value.oneCell']
        have HL9 := hide (HL8.out.set (o := 10) (.int .i64 (cz : Int)) HLN.out)
        go_wp2_with (at_builtin; refine wpList_append_lies _ rfl (.tmp 37) (.tmp 39) 52 rfl 0 91 i0 _ 11 96 Tryz.underlying52 hi0 hz0 hz1 hz2 rfl (by decide) (.slice la P.length lc) P.length (nnCells P) (by simp [Act.eval]) (by exact World.ownsRow.alloc HL9.out.r _) ⟨w8.heap.size, 0, none⟩ 1 1 [.string rtx, .int .i64 ract, .int .i64 rx, .int .i64 ry, .int .i64 rw', .int .i64 rck, .int .i64 rcn, .int .i64 rch, .int .i64 rkd, .int .i64 cy, .int .i64 cz] (by simp [Act.eval]) rfl (by exact Blk.news (Blk.newAt _ [.string rtx, .int .i64 ract, .int .i64 rx, .int .i64 ry, .int .i64 rw', .int .i64 rck, .int .i64 rcn, .int .i64 rch, .int .i64 rkd, .int .i64 cy, .int .i64 cz] _ (by simp))) hone (by decide) (by unfold maxLen; omega) (by omega) (Nat.zero_le _) _ rfl ?_; intro g cap' w' hown hgrow hat hlt')
        go_roundg (l.length - (j + 1))
        case measure => have := HKK.out; omega
        case rel =>
          have kk8 := HK8.out
          have hap := KN.app ⟨rtx, ract, rx, ry, rw', rck, rcn, rch, rkd, cy, cz⟩ HL9.out (by (repeat' (first | with_reducible exact Kp.refl _ _ | with_reducible refine Kp.alloc ?_ _ | with_reducible refine Kp.drewN ?_ _ | with_reducible refine Kp.drew ?_ | with_reducible refine Kp.setCell ?_ _ ?_ | with_reducible refine Kp.trans ?_ kk8 (fun _ _ e => e) | (intro hh; first | rfl | exact .inl rfl | exact .inr rfl | (exfalso; (try dsimp only at hh); omega))))) hown hgrow hat
          exact ⟨j + 1, by omega, rfl, by go_num, by rw [HPL.out, HKP.out]; exact hap.1, hap.2⟩
    · obtain rfl : j = l.length := by omega
      go_wp2
      go_ret
      exact ⟨_, rfl, HKB.out.r, HKR.out⟩
end Go.Proofs.YtellieabhaphhaaGreatDoor

/-
  narrow.Prune.
-/
namespace Go.Proofs.YtellieabhaphhaaGreatDoor
open Go.RowKit

theorem ext_size {s : ByteArray} {n : Nd} (hs : s.size ≤ 900) : (s.extract n.a.toNat (n.a + n.l).toNat).size ≤ 1000 := by
  rw [ByteArray.size_extract]; omega

theorem lwN_tx {n : NN} (y o : St) (en : Int) (h : n.tx.size ≤ 1000) : (lwN n y o en).tx.size ≤ 1000 := by
  unfold lwN
  repeat' split
  · exact h
  · show (ByteArray.mk #[42]).size ≤ 1000; decide
  · show (ByteArray.mk #[42]).size ≤ 1000; decide
  · exact h

theorem kpN_ln {s : ByteArray} {T : Tbl} {n : Nd} (S : St) (hs : s.size ≤ 900) (hT : T.length ≤ 90) : Ln (kpN s T n S) := by
  have h1 := cnt_le T (lwN (encX s n) (algF n true S) (algF n false S) T.length).yes.toNat
  have h2 := cnt_le T (lwN (encX s n) (algF n true S) (algF n false S) T.length).no.toNat
  refine ⟨lwN_tx _ _ _ (ext_size hs), fun _ => ?_, fun _ => ?_⟩
  · show 0 ≤ ((cntF T _ : Nat) : Int) ∧ ((cntF T _ : Nat) : Int) < 100; omega
  · show 0 ≤ ((cntF T _ : Nat) : Int) ∧ ((cntF T _ : Nat) : Int) < 100; omega

theorem kpL_ln {s : ByteArray} {T : Tbl} {l : List Nd} (hs : s.size ≤ 900) (hT : T.length ≤ 90) : ∀ j, ∀ n ∈ kpL s T l j, Ln n
  | 0, n, hn => by simp [kpL] at hn
  | j + 1, n, hn => by
    rw [kpL, List.mem_append] at hn
    rcases hn with hn | hn
    · exact kpL_ln hs hT j n hn
    · split at hn
      · split at hn
        · simp at hn
        · obtain rfl : n = _ := by simpa using hn
          exact kpN_ln _ hs hT
      · simp at hn

set_option maxHeartbeats 1600000 in
theorem nprune_good (s : ByteArray) (w : World) (hs : s.size ≤ 900) (hb : graE s = (0, 0)) :
    Calls Tryz.prog 34 #[.string s] w fun e w' => e = .returned (.tuple #[.string (graT (kpL s (lstF (graF s).nodes) (graF s).nodes (graF s).nodes.length)), .int .i64 0]) ∧ Kp no w w' := by
  have HS := hide (nog_c s w hs)
  have hlen := (graF_inv s).2
  unfold NogPost at HS
  rw [hb] at HS
  clear hb
  generalize graF s = st at *
  go_enter Tryz.func34, Tryz.ntmps34
  go_wp2_with fail
  refine HS.out.mono ?_
  rintro e w2 ⟨v, rfl, k2, hpost⟩
  obtain ⟨hR, hO, hgd⟩ := hpost trivial
  have HL := hide (leastTable_c s v st.nodes w2 hR hlen hgd)
  have HPN := hide (fun tb W (hW : NRow W v (st.nodes.map (encX s))) hB => prunedNodes_c s v st.nodes tb (lstF st.nodes) W hW hB (lst_len _) (lst_ok _) hlen hgd)
  have HGT := hide (fun u W hW => graphText_c u (kpL s (lstF st.nodes) st.nodes st.nodes.length) W hW (Nat.le_trans (kpL_len _ _ _ _) (by omega)) (kpL_ln hs (by rw [lst_len]; exact hlen) _))
  have HRR := hide hR
  obtain ⟨a, cap, rfl⟩ := hR.shape
  rw [List.length_map] at HL HPN HRR ⊢
  clear hO hgd hpost HS hR
  go_wp2_with fail
  refine HL.out.mono ?_
  rintro e w3 ⟨tb, rfl, hB, k3⟩
  go_wp2_with fail
  refine (HPN.out tb _ (by exact k3.row HRR.out (fun _ _ => no_elim)) (by exact hB)).mono ?_
  rintro e w4 ⟨u, rfl, hu, k4⟩
  have HU := hide hu
  obtain ⟨ua, uc, rfl⟩ := hu.shape
  go_wp2_with fail
  refine (HGT.out _ _ (by exact HU.out)).mono ?_
  rintro e w5 ⟨rfl, k5⟩
  go_wp2
  go_ret2
  exact ⟨rfl, ((k2.trans k3 (fun _ _ e => e)).trans k4 (fun _ _ e => e)).trans k5 (fun _ _ e => e)⟩
end Go.Proofs.YtellieabhaphhaaGreatDoor

/-
  Flow: narrow's answer is the answer's.
-/
namespace Go.Proofs.YtellieabhaphhaaGreatDoor
open Go.RowKit

set_option maxHeartbeats 1600000 in
theorem nflow_long (s : ByteArray) (w : World) (hm : s.size ≤ maxLen) (hs : 900 < s.size) :
    Calls Tryz.prog 22 #[.string s] w fun e w' => e = em2 1 ∧ Kp no w w' := by
  have HS := hide (nog_long s w hm hs)
  go_enter Tryz.func22, Tryz.ntmps22
  go_wp2_with fail
  refine HS.out.mono ?_
  rintro e w1 ⟨rfl, k1⟩
  go_wp2
  go_ret2
  exact ⟨rfl, k1⟩

set_option maxHeartbeats 1600000 in
theorem nflow_bad (s : ByteArray) (w : World) (hs : s.size ≤ 900) (hb : (graE s).1 ≠ 0) :
    Calls Tryz.prog 22 #[.string s] w fun e w' => e = em2 (graE s).1 ∧ Kp no w w' := by
  have HS := hide (nog_c s w hs)
  have hb' : (((graE s).1 : Int) == 0) = false := by simp; omega
  unfold NogPost at HS
  generalize graE s = ge at *
  obtain ⟨ge1, ge2⟩ := ge
  dsimp only at *
  clear hb
  go_enter Tryz.func22, Tryz.ntmps22
  go_wp2_with fail
  refine HS.out.mono ?_
  rintro e w1 ⟨v, rfl, k1, _⟩
  go_wp2
  go_ret2
  exact ⟨rfl, k1⟩

set_option maxHeartbeats 1600000 in
theorem nflow_good (s : ByteArray) (w : World) (hs : s.size ≤ 900) (hb : graE s = (0, 0)) :
    Calls Tryz.prog 22 #[.string s] w fun e w' => e = .returned (.tuple #[.string (splB (lstF (graF s).nodes)), .int .i64 0]) ∧ Kp no w w' := by
  have HS := hide (nog_c s w hs)
  have hlen := (graF_inv s).2
  unfold NogPost at HS
  rw [hb] at HS
  clear hb
  generalize graF s = st at *
  go_enter Tryz.func22, Tryz.ntmps22
  go_wp2_with fail
  refine HS.out.mono ?_
  rintro e w2 ⟨v, rfl, k2, hpost⟩
  obtain ⟨hR, hO, hgd⟩ := hpost trivial
  have HL := hide (leastTable_c s v st.nodes w2 hR hlen hgd)
  obtain ⟨a, cap, rfl⟩ := hR.shape
  rw [List.length_map] at HL ⊢
  clear hO hgd hpost HS hR
  go_wp2_with fail
  refine HL.out.mono ?_
  rintro e w3 ⟨tb, rfl, hB, k3⟩
  have HT := hide (fun W hW => tableText_c tb (lstF st.nodes) W hW (lst_ok st.nodes) (by rw [lst_len]; exact hlen))
  rw [lst_len] at HT
  go_wp2_with fail
  refine (HT.out _ (by exact hB)).mono ?_
  rintro e w4 ⟨rfl, k4⟩
  go_wp2
  go_ret2
  exact ⟨rfl, (k2.trans k3 (fun _ _ e => e)).trans k4 (fun _ _ e => e)⟩

end Go.Proofs.YtellieabhaphhaaGreatDoor

/-
  The example of the laws: what the calls answer at the fixed texts.
-/
namespace Go.Proofs.YtellieabhaphhaaGreatDoor
open Go.RowKit

def aS : ByteArray := ⟨#[97, 61, 63, 59, 40, 97, 58, 110, 123, 98, 61, 43, 97, 97, 59, 94, 98, 59, 125, 123, 94, 97, 59, 125, 41]⟩
def aG : ByteArray := ⟨#[91, 38, 97, 33, 98, 123, 62, 59, 125, 93]⟩
def aP : ByteArray := ⟨#[97, 61, 49, 44, 48, 49, 59, 97, 58, 110, 44, 48, 50, 44, 48, 51, 59, 94, 97, 44, 48, 52, 59, 33, 59]⟩

def an0 : Nd := { op := 63, x := 0, y := 0, v := 0, k := 0, t := 1, f := -1, a := 0, l := 3 }
def an1 : Nd := { op := 58, x := 0, y := 0, v := 0, k := 110, t := 2, f := 4, a := 5, l := 3 }
def an2 : Nd := { op := 43, x := 1, y := 0, v := 0, k := 0, t := 3, f := -1, a := 9, l := 5 }
def an3 : Nd := { op := 94, x := 0, y := 1, v := 0, k := 0, t := 5, f := -1, a := 15, l := 2 }
def an4 : Nd := { op := 94, x := 0, y := 0, v := 0, k := 0, t := 5, f := -1, a := 20, l := 2 }

theorem ali_nodes : nodM (srM aS) = [encN an0 ⟨#[97, 61, 63]⟩ 1 1, encN an1 ⟨#[97, 58, 110]⟩ 2 4, encN an2 ⟨#[98, 61, 43, 97, 97]⟩ 3 3, encN an3 ⟨#[94, 98]⟩ 5 5, encN an4 ⟨#[94, 97]⟩ 5 5] := by kernel_rfl
theorem ali_ok : srE aS = (0, 0) := by kernel_rfl
theorem ali_gok : srE aG = (0, 0) := by kernel_rfl
theorem ali_graph : graT (nodM (srM aG)) = ⟨#[97, 44, 48, 49, 44, 48, 50, 59, 98, 44, 48, 50, 44, 48, 50, 59]⟩ := by kernel_rfl
theorem ali_wk : (wkF 20 [an0, an1, an2, an3, an4] ⟨#[55]⟩ (mc0 9) 0).map (fun m => (m.out, m.e)) = some (⟨#[49, 52, 32]⟩, 8) := by kernel_rfl
theorem ali_pok : graE aP = (0, 0) := by kernel_rfl

def aT : Tbl := (itF (graF aP).nodes 6 (tR (graF aP).nodes.length)).take (graF aP).nodes.length

theorem ali_lst : lstF (graF aP).nodes = aT := by
  unfold lstF aT
  rw [it_rest _ _ 6 (by kernel_rfl) 4000 (by decide)]
theorem ali_prune : graT (kpL aP aT (graF aP).nodes (graF aP).nodes.length) = ⟨#[97, 61, 49, 44, 48, 49, 59, 42, 44, 48, 50, 59, 94, 97, 44, 48, 51, 59]⟩ := by kernel_rfl
theorem ali_flow : (splB aT).size = 41 := by kernel_rfl
theorem ali_acc : (accF (graF aP).nodes).1 = 0 := by
  unfold accF
  rw [ali_lst]
  kernel_rfl

theorem ali_neq : NEq (nodM (srM aS)) [an0, an1, an2, an3, an4] := by
  rw [ali_nodes]
  refine ⟨rfl, fun i nd h => ?_⟩
  match i with
  | 0 =>
    obtain rfl : an0 = nd := by simpa using h
    exact ⟨⟨by decide, by decide, by decide, by unfold opOk; decide, by decide, fun e => absurd e (by decide), by decide⟩, _, _, _, rfl, by decide, by decide⟩
  | 1 =>
    obtain rfl : an1 = nd := by simpa using h
    exact ⟨⟨by decide, by decide, by decide, by unfold opOk; decide, by decide, fun _ => by unfold KOk; decide, by decide⟩, _, _, _, rfl, by decide, by decide⟩
  | 2 =>
    obtain rfl : an2 = nd := by simpa using h
    exact ⟨⟨by decide, by decide, by decide, by unfold opOk; decide, by decide, fun e => absurd e (by decide), by decide⟩, _, _, _, rfl, by decide, by decide⟩
  | 3 =>
    obtain rfl : an3 = nd := by simpa using h
    exact ⟨⟨by decide, by decide, by decide, by unfold opOk; decide, by decide, fun e => absurd e (by decide), by decide⟩, _, _, _, rfl, by decide, by decide⟩
  | 4 =>
    obtain rfl : an4 = nd := by simpa using h
    exact ⟨⟨by decide, by decide, by decide, by unfold opOk; decide, by decide, fun e => absurd e (by decide), by decide⟩, _, _, _, rfl, by decide, by decide⟩
  | i + 5 => simp at h

theorem ali_run (w : World) (ht : Tab w) : Calls Tryz.prog 32 #[.string aS, .string ⟨#[55]⟩, .int .i64 9] w fun e w' => (∃ t, e = .returned (.tuple #[.string t, .string ⟨#[49, 52, 32]⟩, .int .i64 0])) ∧ Kp no w w' := by
  have h := ali_wk
  cases hm : wkF 20 [an0, an1, an2, an3, an4] ⟨#[55]⟩ (mc0 9) 0 with
  | none => rw [hm] at h; cases h
  | some mc' =>
    rw [hm] at h
    simp only [Option.map_some, Option.some.injEq, Prod.mk.injEq] at h
    refine (nrun_good aS ⟨#[55]⟩ 9 w (by decide) (by decide) (by decide) (by rw [ali_ok]) ht _ ali_neq (by decide) 20 mc' hm).mono ?_
    rintro e w' ⟨rfl, k⟩
    rw [h.1, h.2]
    exact ⟨⟨_, rfl⟩, k⟩

theorem ali_graphc (w : World) : Calls Tryz.prog 16 #[.string aG] w fun e w' => e = .returned (.tuple #[.string ⟨#[97, 44, 48, 49, 44, 48, 50, 59, 98, 44, 48, 50, 44, 48, 50, 59]⟩, .int .i64 0, .int .i64 0]) ∧ Kp no w w' := by
  have h := ngraph_good aG w (by decide) (by rw [ali_gok])
  rw [ali_graph] at h
  exact h
theorem ali_prunec (w : World) : Calls Tryz.prog 34 #[.string aP] w fun e w' => e = .returned (.tuple #[.string ⟨#[97, 61, 49, 44, 48, 49, 59, 42, 44, 48, 50, 59, 94, 97, 44, 48, 51, 59]⟩, .int .i64 0]) ∧ Kp no w w' := by
  have h := nprune_good aP w (by decide) ali_pok
  rw [ali_lst, ali_prune] at h
  exact h
theorem ali_flowc (w : World) : Calls Tryz.prog 22 #[.string aP] w fun e w' => (∃ t, t.size = 41 ∧ e = .returned (.tuple #[.string t, .int .i64 0])) ∧ Kp no w w' := by
  have h := nflow_good aP w (by decide) ali_pok
  rw [ali_lst] at h
  exact h.mono fun e w' ⟨h1, h2⟩ => ⟨⟨_, ali_flow, h1⟩, h2⟩
theorem ali_accc (w : World) : Calls Tryz.prog 27 #[.string aP] w fun e w' => (∃ p : Int, e = .returned (.tuple #[.int .i64 0, .int .i64 p])) ∧ Kp no w w' := by
  have h := naccept_good aP w (by decide) ali_pok
  rw [ali_acc] at h
  exact h.mono fun e w' ⟨h1, h2⟩ => ⟨⟨_, h1⟩, h2⟩

set_option maxRecDepth 100000 in
set_option maxHeartbeats 1600000 in
theorem alive_c (w : World) (ht : Tab w) : Calls Tryz.prog 20 #[] w fun e w' => e = .returned (.bool true) ∧ Kp no w w' := by
  have HNU := hide (fun W => lnum_c 0 W)
  go_enter Tryz.func20, Tryz.ntmps20
  go_wp2_with fail
  refine (ali_run w ht).mono ?_
  rintro e w1 ⟨⟨t1, rfl⟩, k1⟩
  go_wp2_with fail
  refine (ali_graphc _).mono ?_
  rintro e w2 ⟨rfl, k2⟩
  go_wp2_with fail
  refine (ali_prunec _).mono ?_
  rintro e w3 ⟨rfl, k3⟩
  go_wp2_with fail
  refine (ali_flowc _).mono ?_
  rintro e w4 ⟨⟨t4, ht4, rfl⟩, k4⟩
  go_wp2_with fail
  refine (ali_accc _).mono ?_
  rintro e w5 ⟨⟨p5, rfl⟩, k5⟩
  have hk := hide ((((k1.trans k2 (fun _ _ e => e)).trans k3 (fun _ _ e => e)).trans k4 (fun _ _ e => e)).trans k5 (fun _ _ e => e))
  have h4 : t4.toList.isEmpty = false := by
    rw [ByteArray.toList_eq, List.isEmpty_eq_false_iff]
    intro e
    have h0 : t4.data.toList.length = 41 := ht4
    rw [e] at h0
    exact absurd h0 (by decide)
  have h5 : ¬ t4.toList = [] := by rw [List.isEmpty_eq_false_iff] at h4; exact h4
  clear k1 k2 k3 k4 k5
  go_wp2_with (go_at_call 18; refine (HNU.out _).mono ?_; rintro e w' ⟨rfl, rfl⟩)
  go_ret
  refine ⟨?_, hk.out⟩
  simp
end Go.Proofs.YtellieabhaphhaaGreatDoor

/-
  Obeys: every step.
-/
namespace Go.Proofs.YtellieabhaphhaaGreatDoor
open Go.RowKit

/-- A graph that is none: both say so. -/
def ObBad (s : ByteArray) (c : Int) : Prop := c ≠ 0 ∧ (∀ W, Calls Tryz.prog 22 #[.string s] W fun e w' => (∃ t, e = .returned (.tuple #[.string t, .int .i64 c])) ∧ Kp no W w') ∧
    (∀ W, Calls Tryz.prog 23 #[.string s] W fun e w' => (∃ r p, e = .returned (.tuple #[.pointer (some ⟨r, 0, none⟩), .int .i64 c, .int .i64 p])) ∧ Kp no W w')

def LinG (l : List Nd) (W : World) (e : Ending) (w' : World) : Prop :=
  ∃ r a cap, e = .returned (.tuple #[.pointer (some ⟨r, 0, none⟩), .int .i64 0, .int .i64 0]) ∧ w'.cell? ⟨r, 3, none⟩ = some (.slice a l.length cap) ∧ DRow w' (.slice a l.length cap) l ∧ r < w'.heap.size ∧ Kp no W w'

def ObGood (s t : ByteArray) (l : List Nd) : Prop := (∀ W, Calls Tryz.prog 22 #[.string s] W fun e w' => e = .returned (.tuple #[.string t, .int .i64 0]) ∧ Kp no W w') ∧
    (∀ W, Calls Tryz.prog 23 #[.string s] W fun e w' => LinG l W e w')

theorem lin_good (s : ByteArray) (hs : s.size ≤ 900) (hb : graE s = (0, 0)) (W : World) : Calls Tryz.prog 23 #[.string s] W fun e w' => LinG (graF s).nodes W e w' :=
  (lines_c s W hs).mono fun e w' h => by
    obtain ⟨r, O, h1, h2, h3, _⟩ := h
    rw [hb] at h1
    obtain ⟨a, cap, n3, hD, hrl⟩ := rp_drow h2
    exact ⟨r, a, cap, h1, n3, hD, hrl, h3⟩

theorem lin_bad (s : ByteArray) (hs : s.size ≤ 900) (W : World) : Calls Tryz.prog 23 #[.string s] W fun e w' => (∃ r p, e = .returned (.tuple #[.pointer (some ⟨r, 0, none⟩), .int .i64 (graE s).1, .int .i64 p])) ∧ Kp no W w' :=
  (lines_c s W hs).mono fun e w' h => by
    obtain ⟨r, O, h1, h2, h3, _⟩ := h
    exact ⟨⟨r, _, h1⟩, h3⟩

theorem ob_cases (s : ByteArray) (hs : s.size ≤ maxLen) : (∃ c, ObBad s c) ∨ (s.size ≤ 900 ∧ graE s = (0, 0) ∧ (∀ n ∈ (graF s).nodes, Gd s n) ∧ (graF s).bad = false ∧ ObGood s (splB (lstF (graF s).nodes)) (graF s).nodes) := by
  by_cases h9 : s.size ≤ 900
  · by_cases hb : (graE s).1 = 0
    · obtain ⟨e1, e2⟩ := graE_zero s hb
      exact .inr ⟨h9, e1, (graF_gd s).2 e2, e2, fun W => nflow_good s W h9 e1, fun W => lin_good s h9 e1 W⟩
    · exact .inl ⟨(graE s).1, by omega, fun W => (nflow_bad s W h9 hb).mono fun e w' h => ⟨⟨_, h.1⟩, h.2⟩, fun W => lin_bad s h9 W⟩
  · exact .inl ⟨1, by decide, fun W => (nflow_long s W hs (by omega)).mono fun e w' h => ⟨⟨_, h.1⟩, h.2⟩, fun W => (lines_long s W hs (by omega)).mono fun e w' h => by
      obtain ⟨⟨r, h1⟩, h2⟩ := h
      exact ⟨⟨r, 0, h1⟩, h2⟩⟩

end Go.Proofs.YtellieabhaphhaaGreatDoor
