import Derived.Test.YtellieabhaphhaaGreatDoorPObeysK
/-
  narrowref's flow: along the ways of a test.
-/
namespace Go.Proofs.YtellieabhaphhaaGreatDoor
open Go.RowKit

set_option maxRecDepth 100000 in
set_option maxHeartbeats 1600000 in
theorem holds_t1 (n : Nd) (v : Value) (s : St) (w : World) (h : SV w v s) (hs : SOk s) (h0 : s ≠ []) (hg : Gn n) (ho : n.op = 121) :
    Calls Tryz.prog 73 #[.agg #[.int .u8 n.op, .int .i64 n.x, .int .i64 n.y, .int .i64 n.v, .int .u8 n.k, .int .i64 n.t, .int .i64 n.f, .int .i64 n.a, .int .i64 n.l], v, .bool true] w fun e w' => ∃ u, e = .returned u ∧ SV w' u (hldF n true s) ∧ New w u ∧ Kp no w w' := by
  obtain ⟨y, hy⟩ := Int.eq_ofNat_of_zero_le hg.y.1
  have hy6 : y < 6 := by have := hg.y.2; omega
  have HE := hide (show hldF n true s = withS s y (s.getD y 0 &&& 115) by
    rw [hldF, wayM, hy, Int.toNat_natCast, ho]; rfl)
  rw [HE.out]
  obtain ⟨h6, hm⟩ := hs.resolve_left h0
  have HS := hide h
  obtain ⟨a, cap, rfl⟩ := h.shape
  have h' : Row w (.slice a s.length cap) 9 1 s.length (sgS s) := h
  rw [h6] at h' HS ⊢
  clear h
  have HKD := hide hg.kd
  obtain ⟨op, nx, ny, nv, nk, nt, nff, na, nl⟩ := n
  dsimp only at *
  subst hy ho
  obtain ⟨g, rfl, hgl, hgc⟩ := SV.at h' (k := y) hy6
  have HB := hide (fun W => both_c (sgB (s.getD y 0)) (sgB (115)) W (Nat.le_trans (sg_size _) (by decide)) (Nat.le_trans (sg_size _) (by decide)))
  rw [both_sg] at HB
  have HM := hide (and_lt (115) (hs.get y))
  have HGC := hide hgc
  have hyI : (y : Int) < 6 := by omega
  rw [sg_115] at HB
  generalize s.getD y 0 &&& 115 = m at *
  have hsz := sg_size (s.getD y 0)
  generalize sgB (s.getD y 0) = sy at *
  clear HE h6 hm
  go_enter Tryz.func73, Tryz.ntmps73
  go_wp2_with fail
  refine (HB.out _).mono ?_
  rintro e w' ⟨rfl, rfl⟩
  go_wp2_with fail
  refine (with_c _ s y m _ (Kp.row (S := no) (by (repeat' (first | with_reducible exact Kp.refl _ _ | with_reducible refine Kp.alloc ?_ _ | with_reducible refine Kp.drewN ?_ _ | with_reducible refine Kp.drew ?_ | with_reducible refine Kp.setCell ?_ _ ?_ | (intro hh; first | rfl | exact .inl rfl | exact .inr rfl | (exfalso; (try dsimp only at hh); omega))))) HS.out (fun _ _ => no_elim)) hs hy6 HM.out).mono ?_
  rintro e w6 ⟨u, rfl, hu, hnew, k6⟩
  have hkf : Kp no w w6 := Kp.trans (by (repeat' (first | with_reducible exact Kp.refl _ _ | with_reducible refine Kp.alloc ?_ _ | with_reducible refine Kp.drewN ?_ _ | with_reducible refine Kp.drew ?_ | with_reducible refine Kp.setCell ?_ _ ?_ | (intro hh; first | rfl | exact .inl rfl | exact .inr rfl | (exfalso; (try dsimp only at hh); omega))))) k6 (fun _ _ e => e)
  have hnf : New w u := fun b hb => Nat.le_trans (Kp.size (S := no) (by (repeat' (first | with_reducible exact Kp.refl _ _ | with_reducible refine Kp.alloc ?_ _ | with_reducible refine Kp.drewN ?_ _ | with_reducible refine Kp.drew ?_ | with_reducible refine Kp.setCell ?_ _ ?_ | (intro hh; first | rfl | exact .inl rfl | exact .inr rfl | (exfalso; (try dsimp only at hh); omega)))))) (hnew b hb)
  go_wp2
  go_ret
  exact ⟨_, rfl, hu, hnf, hkf⟩

set_option maxRecDepth 100000 in
set_option maxHeartbeats 1600000 in
theorem holds_t0 (n : Nd) (v : Value) (s : St) (w : World) (h : SV w v s) (hs : SOk s) (h0 : s ≠ []) (hg : Gn n) (ho : n.op = 121) :
    Calls Tryz.prog 73 #[.agg #[.int .u8 n.op, .int .i64 n.x, .int .i64 n.y, .int .i64 n.v, .int .u8 n.k, .int .i64 n.t, .int .i64 n.f, .int .i64 n.a, .int .i64 n.l], v, .bool false] w fun e w' => ∃ u, e = .returned u ∧ SV w' u (hldF n false s) ∧ New w u ∧ Kp no w w' := by
  obtain ⟨y, hy⟩ := Int.eq_ofNat_of_zero_le hg.y.1
  have hy6 : y < 6 := by have := hg.y.2; omega
  have HE := hide (show hldF n false s = withS s y (s.getD y 0 &&& 13) by
    rw [hldF, wayM, hy, Int.toNat_natCast, ho]; rfl)
  rw [HE.out]
  obtain ⟨h6, hm⟩ := hs.resolve_left h0
  have HS := hide h
  obtain ⟨a, cap, rfl⟩ := h.shape
  have h' : Row w (.slice a s.length cap) 9 1 s.length (sgS s) := h
  rw [h6] at h' HS ⊢
  clear h
  have HKD := hide hg.kd
  obtain ⟨op, nx, ny, nv, nk, nt, nff, na, nl⟩ := n
  dsimp only at *
  subst hy ho
  obtain ⟨g, rfl, hgl, hgc⟩ := SV.at h' (k := y) hy6
  have HB := hide (fun W => both_c (sgB (s.getD y 0)) (sgB (13)) W (Nat.le_trans (sg_size _) (by decide)) (Nat.le_trans (sg_size _) (by decide)))
  rw [both_sg] at HB
  have HM := hide (and_lt (13) (hs.get y))
  have HGC := hide hgc
  have hyI : (y : Int) < 6 := by omega
  rw [sg_13] at HB
  generalize s.getD y 0 &&& 13 = m at *
  have hsz := sg_size (s.getD y 0)
  generalize sgB (s.getD y 0) = sy at *
  clear HE h6 hm
  go_enter Tryz.func73, Tryz.ntmps73
  go_wp2_with fail
  refine (HB.out _).mono ?_
  rintro e w' ⟨rfl, rfl⟩
  go_wp2_with fail
  refine (with_c _ s y m _ (Kp.row (S := no) (by (repeat' (first | with_reducible exact Kp.refl _ _ | with_reducible refine Kp.alloc ?_ _ | with_reducible refine Kp.drewN ?_ _ | with_reducible refine Kp.drew ?_ | with_reducible refine Kp.setCell ?_ _ ?_ | (intro hh; first | rfl | exact .inl rfl | exact .inr rfl | (exfalso; (try dsimp only at hh); omega))))) HS.out (fun _ _ => no_elim)) hs hy6 HM.out).mono ?_
  rintro e w6 ⟨u, rfl, hu, hnew, k6⟩
  have hkf : Kp no w w6 := Kp.trans (by (repeat' (first | with_reducible exact Kp.refl _ _ | with_reducible refine Kp.alloc ?_ _ | with_reducible refine Kp.drewN ?_ _ | with_reducible refine Kp.drew ?_ | with_reducible refine Kp.setCell ?_ _ ?_ | (intro hh; first | rfl | exact .inl rfl | exact .inr rfl | (exfalso; (try dsimp only at hh); omega))))) k6 (fun _ _ e => e)
  have hnf : New w u := fun b hb => Nat.le_trans (Kp.size (S := no) (by (repeat' (first | with_reducible exact Kp.refl _ _ | with_reducible refine Kp.alloc ?_ _ | with_reducible refine Kp.drewN ?_ _ | with_reducible refine Kp.drew ?_ | with_reducible refine Kp.setCell ?_ _ ?_ | (intro hh; first | rfl | exact .inl rfl | exact .inr rfl | (exfalso; (try dsimp only at hh); omega)))))) (hnew b hb)
  go_wp2
  go_ret
  exact ⟨_, rfl, hu, hnf, hkf⟩

set_option maxRecDepth 100000 in
set_option maxHeartbeats 1600000 in
theorem holds_k1 (n : Nd) (v : Value) (s : St) (w : World) (h : SV w v s) (hs : SOk s) (h0 : s ≠ []) (hg : Gn n) (ho : n.op = 58) :
    Calls Tryz.prog 73 #[.agg #[.int .u8 n.op, .int .i64 n.x, .int .i64 n.y, .int .i64 n.v, .int .u8 n.k, .int .i64 n.t, .int .i64 n.f, .int .i64 n.a, .int .i64 n.l], v, .bool true] w fun e w' => ∃ u, e = .returned u ∧ SV w' u (hldF n true s) ∧ New w u ∧ Kp no w w' := by
  obtain ⟨y, hy⟩ := Int.eq_ofNat_of_zero_le hg.y.1
  have hy6 : y < 6 := by have := hg.y.2; omega
  have HE := hide (show hldF n true s = withS s y (s.getD y 0 &&& bitN n.k) by
    rw [hldF, wayM, hy, Int.toNat_natCast, ho]; rfl)
  rw [HE.out]
  obtain ⟨h6, hm⟩ := hs.resolve_left h0
  have HS := hide h
  obtain ⟨a, cap, rfl⟩ := h.shape
  have h' : Row w (.slice a s.length cap) 9 1 s.length (sgS s) := h
  rw [h6] at h' HS ⊢
  clear h
  have HKD := hide hg.kd
  obtain ⟨op, nx, ny, nv, nk, nt, nff, na, nl⟩ := n
  dsimp only at *
  subst hy ho
  obtain ⟨g, rfl, hgl, hgc⟩ := SV.at h' (k := y) hy6
  have HB := hide (fun W => both_c (sgB (s.getD y 0)) (sgB (bitN nk)) W (Nat.le_trans (sg_size _) (by decide)) (Nat.le_trans (sg_size _) (by decide)))
  rw [both_sg] at HB
  have HM := hide (and_lt (bitN nk) (hs.get y))
  have HGC := hide hgc
  have hyI : (y : Int) < 6 := by omega
  have HKK := hide (str_sg nk (HKD.out (.inl rfl)))
  rw [← HKK.out] at HB
  clear HKK
  have hc := conv1'
  have hcd := conv1d
  generalize s.getD y 0 &&& bitN nk = m at *
  have hsz := sg_size (s.getD y 0)
  generalize sgB (s.getD y 0) = sy at *
  clear HE h6 hm
  go_enter Tryz.func73, Tryz.ntmps73
  go_wp2_with fail
  refine (HB.out _).mono ?_
  rintro e w' ⟨rfl, rfl⟩
  go_wp2_with fail
  refine (with_c _ s y m _ (Kp.row (S := no) (by (repeat' (first | with_reducible exact Kp.refl _ _ | with_reducible refine Kp.alloc ?_ _ | with_reducible refine Kp.drewN ?_ _ | with_reducible refine Kp.drew ?_ | with_reducible refine Kp.setCell ?_ _ ?_ | (intro hh; first | rfl | exact .inl rfl | exact .inr rfl | (exfalso; (try dsimp only at hh); omega))))) HS.out (fun _ _ => no_elim)) hs hy6 HM.out).mono ?_
  rintro e w6 ⟨u, rfl, hu, hnew, k6⟩
  have hkf : Kp no w w6 := Kp.trans (by (repeat' (first | with_reducible exact Kp.refl _ _ | with_reducible refine Kp.alloc ?_ _ | with_reducible refine Kp.drewN ?_ _ | with_reducible refine Kp.drew ?_ | with_reducible refine Kp.setCell ?_ _ ?_ | (intro hh; first | rfl | exact .inl rfl | exact .inr rfl | (exfalso; (try dsimp only at hh); omega))))) k6 (fun _ _ e => e)
  have hnf : New w u := fun b hb => Nat.le_trans (Kp.size (S := no) (by (repeat' (first | with_reducible exact Kp.refl _ _ | with_reducible refine Kp.alloc ?_ _ | with_reducible refine Kp.drewN ?_ _ | with_reducible refine Kp.drew ?_ | with_reducible refine Kp.setCell ?_ _ ?_ | (intro hh; first | rfl | exact .inl rfl | exact .inr rfl | (exfalso; (try dsimp only at hh); omega)))))) (hnew b hb)
  go_wp2
  go_ret
  exact ⟨_, rfl, hu, hnf, hkf⟩

set_option maxRecDepth 100000 in
set_option maxHeartbeats 1600000 in
theorem holds_k0 (n : Nd) (v : Value) (s : St) (w : World) (h : SV w v s) (hs : SOk s) (h0 : s ≠ []) (hg : Gn n) (ho : n.op = 58) :
    Calls Tryz.prog 73 #[.agg #[.int .u8 n.op, .int .i64 n.x, .int .i64 n.y, .int .i64 n.v, .int .u8 n.k, .int .i64 n.t, .int .i64 n.f, .int .i64 n.a, .int .i64 n.l], v, .bool false] w fun e w' => ∃ u, e = .returned u ∧ SV w' u (hldF n false s) ∧ New w u ∧ Kp no w w' := by
  obtain ⟨y, hy⟩ := Int.eq_ofNat_of_zero_le hg.y.1
  have hy6 : y < 6 := by have := hg.y.2; omega
  have HE := hide (show hldF n false s = withS s y (s.getD y 0 &&& (127 ^^^ bitN n.k)) by
    rw [hldF, wayM, hy, Int.toNat_natCast, ho]; rfl)
  rw [HE.out]
  obtain ⟨h6, hm⟩ := hs.resolve_left h0
  have HS := hide h
  obtain ⟨a, cap, rfl⟩ := h.shape
  have h' : Row w (.slice a s.length cap) 9 1 s.length (sgS s) := h
  rw [h6] at h' HS ⊢
  clear h
  have HKD := hide hg.kd
  obtain ⟨op, nx, ny, nv, nk, nt, nff, na, nl⟩ := n
  dsimp only at *
  subst hy ho
  obtain ⟨g, rfl, hgl, hgc⟩ := SV.at h' (k := y) hy6
  have HB := hide (fun W => both_c (sgB (s.getD y 0)) (sgB (127 ^^^ bitN nk)) W (Nat.le_trans (sg_size _) (by decide)) (Nat.le_trans (sg_size _) (by decide)))
  rw [both_sg] at HB
  have HM := hide (and_lt (127 ^^^ bitN nk) (hs.get y))
  have HGC := hide hgc
  have hyI : (y : Int) < 6 := by omega
  have HKK := hide (not_sg nk (HKD.out (.inl rfl)))
  rw [← HKK.out] at HB
  clear HKK
  have hc := conv1'
  have hcd := conv1d
  generalize s.getD y 0 &&& (127 ^^^ bitN nk) = m at *
  have hsz := sg_size (s.getD y 0)
  generalize sgB (s.getD y 0) = sy at *
  clear HE h6 hm
  go_enter Tryz.func73, Tryz.ntmps73
  go_wp2
  go_loopg [7, 8] 7 (fun k kv iv wr => ∃ j : Nat, j ≤ 7 ∧ k = 7 - j ∧ iv = .int .i64 j ∧ kv = .string (selN (fun c => !decide ((c : Int) = nk)) j) ∧ Blk wr w.heap.size [.int .u8 58, .int .i64 nx, .int .i64 y, .int .i64 nv, .int .u8 nk, .int .i64 nt, .int .i64 nff, .int .i64 na, .int .i64 nl] 63 ∧ Kp no w wr)
  case atStart => exact ⟨0, by decide, rfl, rfl, rfl, by (repeat' (first | ((with_reducible show (_ : List Value) = _); rfl) | ((with_reducible refine Blk.newAt _ _ _ ?_); first | with_reducible rfl | (simp; done)) | with_reducible refine Blk.alloc ?_ _ | with_reducible refine Blk.drewN ?_ _ | with_reducible refine Blk.drew ?_ | ((with_reducible refine Blk.other ?_ _ ?_); rotate_left; ((try dsimp only); omega)) | with_reducible refine Blk.setB (cs0 := ?_) ?_ ?_)), by (repeat' (first | with_reducible exact Kp.refl _ _ | with_reducible refine Kp.alloc ?_ _ | with_reducible refine Kp.drewN ?_ _ | with_reducible refine Kp.drew ?_ | with_reducible refine Kp.setCell ?_ _ ?_ | (intro hh; first | rfl | exact .inl rfl | exact .inr rfl | (exfalso; (try dsimp only at hh); omega))))⟩
  case round =>
    obtain ⟨j, hj, hk, rfl, rfl, hN, hkr⟩ := hrel
    have HKK := hide hk
    have HNN := hide hN
    have HKR := hide hkr
    obtain ⟨n0, n1, n2, n3, n4, n5, n6, n7, n8, nf⟩ := hN.c9; have hnl := hN.lt
    have hc1 := (hkr.cell hgl no_elim y).trans HGC.out
    have hg1 := Nat.lt_of_lt_of_le hgl hkr.size
    clear hk hN hkr
    by_cases hlt : j < 7
    · have HY := hide (selN_yes (fun c => !decide ((c : Int) = nk)) j hlt)
      have HN := hide (selN_no (fun c => !decide ((c : Int) = nk)) j hlt)
      have hsz := selN_size (fun c => !decide ((c : Int) = nk)) j
      generalize selN (fun c => !decide ((c : Int) = nk)) j = tj at *
      have hjI : (j : Int) < 7 := by omega
      by_cases he : ((KB[j]'hlt).toNat : Int) = nk
      · have he' : (((KB[j]'hlt).toNat : Int) != nk) = false := by simpa using he
        rw [decide_eq_true he] at HN
        clear HY
        go_wp2
        go_quiet (fail)
        go_wp2
        go_roundg (7 - (j + 1))
        case measure => have := HKK.out; omega
        case rel => exact ⟨j + 1, by omega, rfl, by go_num, by rw [← HN.out rfl], HNN.out, HKR.out.drewN _⟩
      · have he' : (((KB[j]'hlt).toNat : Int) != nk) = true := by simpa using he
        rw [decide_eq_false he] at HY
        clear HN
        go_wp2
        go_quiet (fail)
        go_wp2
        go_roundg (7 - (j + 1))
        case measure => have := HKK.out; omega
        case rel => exact ⟨j + 1, by omega, rfl, by go_num, by rw [← HY.out rfl], HNN.out, HKR.out.drewN _⟩
    · obtain rfl : j = 7 := by omega
      rw [selN_all]
      go_wp2_with fail
      refine (HB.out _).mono ?_
      rintro e w' ⟨rfl, rfl⟩
      go_wp2_with fail
      refine (with_c _ s y m _ (Kp.row (S := no) (by (repeat' (first | with_reducible exact Kp.refl _ _ | with_reducible refine Kp.alloc ?_ _ | with_reducible refine Kp.drewN ?_ _ | with_reducible refine Kp.drew ?_ | with_reducible refine Kp.setCell ?_ _ ?_ | with_reducible refine Kp.trans ?_ HKR.out (fun _ _ e => e) | (intro hh; first | rfl | exact .inl rfl | exact .inr rfl | (exfalso; (try dsimp only at hh); omega))))) HS.out (fun _ _ => no_elim)) hs hy6 HM.out).mono ?_
      rintro e w6 ⟨u, rfl, hu, hnew, k6⟩
      have hkf : Kp no w w6 := Kp.trans (by (repeat' (first | with_reducible exact Kp.refl _ _ | with_reducible refine Kp.alloc ?_ _ | with_reducible refine Kp.drewN ?_ _ | with_reducible refine Kp.drew ?_ | with_reducible refine Kp.setCell ?_ _ ?_ | with_reducible refine Kp.trans ?_ HKR.out (fun _ _ e => e) | (intro hh; first | rfl | exact .inl rfl | exact .inr rfl | (exfalso; (try dsimp only at hh); omega))))) k6 (fun _ _ e => e)
      have hnf : New w u := fun b hb => Nat.le_trans (Kp.size (S := no) (by (repeat' (first | with_reducible exact Kp.refl _ _ | with_reducible refine Kp.alloc ?_ _ | with_reducible refine Kp.drewN ?_ _ | with_reducible refine Kp.drew ?_ | with_reducible refine Kp.setCell ?_ _ ?_ | with_reducible refine Kp.trans ?_ HKR.out (fun _ _ e => e) | (intro hh; first | rfl | exact .inl rfl | exact .inr rfl | (exfalso; (try dsimp only at hh); omega)))))) (hnew b hb)
      go_wp2
      go_ret
      exact ⟨_, rfl, hu, hnf, hkf⟩

theorem fholds_c (n : Nd) (v : Value) (s : St) (b : Bool) (w : World) (h : SV w v s) (hs : SOk s) (h0 : s ≠ []) (hg : Gn n) (ho : n.op = 121 ∨ n.op = 58) :
    Calls Tryz.prog 73 #[.agg #[.int .u8 n.op, .int .i64 n.x, .int .i64 n.y, .int .i64 n.v, .int .u8 n.k, .int .i64 n.t, .int .i64 n.f, .int .i64 n.a, .int .i64 n.l], v, .bool b] w fun e w' => ∃ u, e = .returned u ∧ SV w' u (hldF n b s) ∧ New w u ∧ Kp no w w' := by
  rcases ho with ho | ho <;> cases b
  · exact holds_t0 n v s w h hs h0 hg ho
  · exact holds_t1 n v s w h hs h0 hg ho
  · exact holds_k0 n v s w h hs h0 hg ho
  · exact holds_k1 n v s w h hs h0 hg ho
end Go.Proofs.YtellieabhaphhaaGreatDoor

/-
  narrowref's flow: tables.
-/
namespace Go.Proofs.YtellieabhaphhaaGreatDoor
open Go.RowKit

theorem fbehind_c (n : Nd) (v : Value) (s : St) (w : World) (h : SV w v s) (hs : SOk s) (h0 : s ≠ []) (hg : Gn n) (ho : ¬ (n.op = 121 ∨ n.op = 58)) :
    Calls Tryz.prog 72 #[.agg #[.int .u8 n.op, .int .i64 n.x, .int .i64 n.y, .int .i64 n.v, .int .u8 n.k, .int .i64 n.t, .int .i64 n.f, .int .i64 n.a, .int .i64 n.l], v] w fun e w' => ∃ u, e = .returned u ∧ SV w' u (behF n s) ∧ (u = v ∨ New w u) ∧ Kp no w w' := by
  have hop := hg.op
  unfold opOk at hop
  by_cases h33 : n.op = 33
  · exact behind_never n v s w h33
  by_cases h42 : n.op = 42 ∨ n.op = 94
  · exact behind_same n v s w h h42
  by_cases h126 : n.op = 126
  · exact (behind_cast n v s w h hs h0 hg h126).mono fun e w' ⟨u, h1, h2, h3, h4⟩ => ⟨u, h1, h2, .inr h3, h4⟩
  by_cases h43 : n.op = 43 ∨ n.op = 60
  · exact (behind_two n v s w h hs h0 hg h43).mono fun e w' ⟨u, h1, h2, h3, h4⟩ => ⟨u, h1, h2, .inr h3, h4⟩
  · exact (behind_one n v s w h hs h0 hg (by unfold opG; omega) h43).mono fun e w' ⟨u, h1, h2, h3, h4⟩ => ⟨u, h1, h2, .inr h3, h4⟩

/-- A table at work. -/
structure TbR (w : World) (tp tb n : Nat) (T : Tbl) (g : Bool) : Prop where
  p : Blk w tp [.slice (some ⟨tb, 0, none⟩) n n, .bool g] 174
  ne : tp ≠ tb
  len : T.length = n
  ex : ∃ vs : List Value, vs.length = n ∧ Blk w tb vs 65 ∧ ∀ i v, vs[i]? = some v → SV w v (T.getD i []) ∧ v.ownBlock ≠ some tp ∧ v.ownBlock ≠ some tb

theorem TbR.kp {w w' : World} {tp tb n : Nat} {T : Tbl} {g : Bool} (h : TbR w tp tb n T g) (k : Kp no w w') : TbR w' tp tb n T g := by
  obtain ⟨vs, h1, h2, h3⟩ := h.ex
  exact ⟨k.blk h.p no_elim, h.ne, h.len, vs, h1, k.blk h2 no_elim, fun i v hv => ⟨k.row (h3 i v hv).1 (fun _ _ => no_elim), (h3 i v hv).2⟩⟩

def TK (tp tb : Nat) (b : Nat) : Prop := b = tp ∨ b = tb

theorem TbR.set {w : World} {tp tb n : Nat} {T : Tbl} {g : Bool} (h : TbR w tp tb n T g) {i : Nat} (hi : i < n) {u : Value} {s : St} (hu : SV w u s) (h1 : u.ownBlock ≠ some tp) (h2 : u.ownBlock ≠ some tb) :
    TbR (w.setCell ⟨tb, i, none⟩ u) tp tb n (T.set i s) g := by
  obtain ⟨vs, e1, e2, e3⟩ := h.ex
  refine ⟨Blk.other h.p _ (fun e => h.ne e), h.ne, by rw [List.length_set]; exact h.len, vs.set i u, by simpa using e1, e2.set i u, ?_⟩
  intro j v hv
  by_cases hj : j = i
  · subst hj
    rw [List.getElem?_set_self (by omega)] at hv
    obtain rfl : u = v := by simpa using hv
    refine ⟨?_, h1, h2⟩
    rw [List.getD_eq_getElem?_getD, List.getElem?_set_self (by rw [h.len]; exact hi)]
    exact Row.set hu _ h2
  · rw [List.getElem?_set_ne (Ne.symm hj)] at hv
    obtain ⟨a1, a2, a3⟩ := e3 j v hv
    refine ⟨?_, a2, a3⟩
    rw [List.getD_eq_getElem?_getD, List.getElem?_set_ne (Ne.symm hj), ← List.getD_eq_getElem?_getD]
    exact Row.set a1 _ a3

theorem TbR.turn {w : World} {tp tb n : Nat} {T : Tbl} {g : Bool} (h : TbR w tp tb n T g) (b : Bool) : TbR (w.setCell ⟨tp, 1, none⟩ (.bool b)) tp tb n T b := by
  obtain ⟨vs, e1, e2, e3⟩ := h.ex
  refine ⟨h.p.set 1 (.bool b), h.ne, h.len, vs, e1, Blk.other e2 _ (fun e => h.ne e.symm), fun j v hv => ?_⟩
  obtain ⟨a1, a2, a3⟩ := e3 j v hv
  exact ⟨Row.set a1 _ a2, a2, a3⟩

theorem TbR.drew {w : World} {tp tb n : Nat} {T : Tbl} {g : Bool} (h : TbR w tp tb n T g) : TbR w.drew tp tb n T g := h.kp (Kp.refl _ _).drew
theorem TbR.drewN {w : World} {tp tb n : Nat} {T : Tbl} {g : Bool} (h : TbR w tp tb n T g) (k : Nat) : TbR (w.drewN k) tp tb n T g := h.kp ((Kp.refl _ _).drewN k)

theorem TbR.c {w : World} {tp tb n : Nat} {T : Tbl} {g : Bool} (h : TbR w tp tb n T g) : w.cell? ⟨tp, 0, none⟩ = some (.slice (some ⟨tb, 0, none⟩) n n) ∧ w.cell? ⟨tp, 1, none⟩ = some (.bool g) ∧ (∀ o, w.frozen? ⟨tp, o, none⟩ = false) ∧ (∀ o, w.frozen? ⟨tb, o, none⟩ = false) ∧ tp < w.heap.size ∧ tb < w.heap.size := by
  obtain ⟨vs, e1, e2, e3⟩ := h.ex
  exact ⟨h.p.cell 0, h.p.cell 1, h.p.frozen, e2.frozen, h.p.lt, e2.lt⟩

theorem TbR.at {w : World} {tp tb n : Nat} {T : Tbl} {g : Bool} (h : TbR w tp tb n T g) {i : Nat} (hi : i < n) :
    ∃ a cap, w.cell? ⟨tb, i, none⟩ = some (.slice a (T.getD i []).length cap) ∧ SV w (.slice a (T.getD i []).length cap) (T.getD i []) ∧ Value.ownBlock (.slice a (T.getD i []).length cap) ≠ some tp ∧ Value.ownBlock (.slice a (T.getD i []).length cap) ≠ some tb := by
  obtain ⟨vs, e1, e2, e3⟩ := h.ex
  obtain ⟨v, hv⟩ : ∃ v, vs[i]? = some v := ⟨_, List.getElem?_eq_getElem (by omega)⟩
  obtain ⟨a1, a2, a3⟩ := e3 i v hv
  obtain ⟨a, cap, rfl⟩ := SV.shape a1
  exact ⟨a, cap, (e2.cell i).trans hv, a1, a2, a3⟩

end Go.Proofs.YtellieabhaphhaaGreatDoor

/-
  narrowref's flow: the least table.
-/
namespace Go.Proofs.YtellieabhaphhaaGreatDoor
open Go.RowKit

abbrev DRow (w : World) (v : Value) (l : List Nd) : Prop := Row w v 63 9 l.length (nCells l)

theorem DRow.shape {w : World} {v : Value} {l : List Nd} (h : DRow w v l) : ∃ a cap, v = .slice a l.length cap := by
  rcases h.2 with ⟨rfl, h0⟩ | ⟨g, cap, cur, rfl, _⟩
  · exact ⟨none, 0, by rw [h0]⟩
  · exact ⟨_, _, rfl⟩

theorem DRow.at {w : World} {a : Option Addr} {cap : Nat} {l : List Nd} (h : DRow w (.slice a l.length cap) l) {k : Nat} {n : Nd} (hk : l[k]? = some n) :
    k < l.length ∧ ∃ g, a = some ⟨g, 0, none⟩ ∧ g < w.heap.size ∧ w.cell? ⟨g, k * 9, none⟩ = some (.int .u8 n.op) ∧ w.cell? ⟨g, k * 9 + 1, none⟩ = some (.int .i64 n.x) ∧ w.cell? ⟨g, k * 9 + 2, none⟩ = some (.int .i64 n.y) ∧ w.cell? ⟨g, k * 9 + 3, none⟩ = some (.int .i64 n.v) ∧ w.cell? ⟨g, k * 9 + 4, none⟩ = some (.int .u8 n.k) ∧ w.cell? ⟨g, k * 9 + 5, none⟩ = some (.int .i64 n.t) ∧ w.cell? ⟨g, k * 9 + 6, none⟩ = some (.int .i64 n.f) ∧ w.cell? ⟨g, k * 9 + 7, none⟩ = some (.int .i64 n.a) ∧ w.cell? ⟨g, k * 9 + 8, none⟩ = some (.int .i64 n.l) := by
  obtain ⟨hl, rfl⟩ := List.getElem?_eq_some_iff.1 hk
  obtain ⟨g, cap', e, _, hg⟩ := World.ownsRow.form h (by omega)
  injection e with e1 e2 e3
  subst e1
  have hc : ∀ j, j < 9 → w.cell? ⟨g, k * 9 + j, none⟩ = l[k].cells[j]? := fun j hj => by
    rw [Row.cell h _ (by have := Nat.mul_le_mul_right 9 hl; omega)]
    exact flat_get Nd.cells 9 nd9 l k j hl hj
  have hlt := Row.lt h (b := g) rfl
  exact ⟨hl, g, rfl, hlt, hc 0 (by decide), hc 1 (by decide), hc 2 (by decide), hc 3 (by decide), hc 4 (by decide), hc 5 (by decide), hc 6 (by decide), hc 7 (by decide), hc 8 (by decide)⟩

theorem DRow.at2 {w : World} {g cap : Nat} {l : List Nd} (h : DRow w (.slice (some ⟨g, 0, none⟩) l.length cap) l) {k : Nat} {n : Nd} (hk : l[k]? = some n) :
    g < w.heap.size ∧ w.cell? ⟨g, k * 9, none⟩ = some (.int .u8 n.op) ∧ w.cell? ⟨g, k * 9 + 1, none⟩ = some (.int .i64 n.x) ∧ w.cell? ⟨g, k * 9 + 2, none⟩ = some (.int .i64 n.y) ∧ w.cell? ⟨g, k * 9 + 3, none⟩ = some (.int .i64 n.v) ∧ w.cell? ⟨g, k * 9 + 4, none⟩ = some (.int .u8 n.k) ∧ w.cell? ⟨g, k * 9 + 5, none⟩ = some (.int .i64 n.t) ∧ w.cell? ⟨g, k * 9 + 6, none⟩ = some (.int .i64 n.f) ∧ w.cell? ⟨g, k * 9 + 7, none⟩ = some (.int .i64 n.a) ∧ w.cell? ⟨g, k * 9 + 8, none⟩ = some (.int .i64 n.l) := by
  obtain ⟨_, g', e, h2⟩ := DRow.at h hk
  injection e with e
  injection e with e
  subst e
  exact h2

/-- The table and the nodes. -/
structure LSc (w : World) (tp tb n : Nat) (T : Tbl) (g : Bool) (v : Value) (l : List Nd) : Prop where
  t : TbR w tp tb n T g
  r : DRow w v l
  o1 : v.ownBlock ≠ some tp
  o2 : v.ownBlock ≠ some tb

theorem LSc.kp {w w' : World} {tp tb n : Nat} {T : Tbl} {g : Bool} {v : Value} {l : List Nd} (h : LSc w tp tb n T g v l) (k : Kp no w w') : LSc w' tp tb n T g v l :=
  ⟨h.t.kp k, k.row h.r (fun _ _ => no_elim), h.o1, h.o2⟩

theorem LSc.tk {w w' : World} {tp tb n : Nat} {T T' : Tbl} {g g' : Bool} {v : Value} {l : List Nd} (h : LSc w tp tb n T g v l) (k : Kp (TK tp tb) w w') (t : TbR w' tp tb n T' g') : LSc w' tp tb n T' g' v l :=
  ⟨t, k.row h.r (fun b hb e => by rcases e with rfl | rfl; exact h.o1 hb; exact h.o2 hb), h.o1, h.o2⟩

theorem LSc.turn {w : World} {tp tb n : Nat} {T : Tbl} {g : Bool} {v : Value} {l : List Nd} (h : LSc w tp tb n T g v l) (b : Bool) : LSc (w.setCell ⟨tp, 1, none⟩ (.bool b)) tp tb n T b v l :=
  ⟨h.t.turn b, Row.set h.r _ h.o1, h.o1, h.o2⟩

theorem start_s (w : World) :
    Calls Tryz.prog 41 #[] w fun e w' => ∃ au cu, e = .returned (.slice au 6 cu) ∧ SV w' (.slice au 6 cu) [8, 8, 8, 8, 8, 8] ∧ New w (.slice au 6 cu) ∧ Kp no w w' :=
  (start_c w).mono fun e w' ⟨u, h1, h2, h3, h4⟩ => by
    obtain ⟨a, c, rfl⟩ := h2.shape
    exact ⟨a, c, h1, h2, h3, h4⟩

theorem New.ne {w : World} {v : Value} {b : Nat} (h : New w v) (hb : b < w.heap.size) : v.ownBlock ≠ some b := fun e => by have := h b e; omega

/-- A state beside the table. -/
def SB (w : World) (tp tb : Nat) (u : Value) (s : St) : Prop := SV w u s ∧ u.ownBlock ≠ some tp ∧ u.ownBlock ≠ some tb

theorem SB.tk {w w' : World} {tp tb : Nat} {u : Value} {s : St} (h : SB w tp tb u s) (k : Kp (TK tp tb) w w') : SB w' tp tb u s :=
  ⟨k.row h.1 (fun b hb e => by rcases e with rfl | rfl; exact h.2.1 hb; exact h.2.2 hb), h.2⟩
theorem SB.kp {w w' : World} {tp tb : Nat} {u : Value} {s : St} (h : SB w tp tb u s) (k : Kp no w w') : SB w' tp tb u s := ⟨k.row h.1 (fun _ _ => no_elim), h.2⟩

end Go.Proofs.YtellieabhaphhaaGreatDoor

/-
  narrowref's flow: a table as a text; Flow.
-/
namespace Go.Proofs.YtellieabhaphhaaGreatDoor
open Go.RowKit

def stB (a : ByteArray) (s : St) : ByteArray := s.foldl (fun a m => a ++ sgB m ++ ⟨#[46]⟩) a
def rowB (a : ByteArray) (s : St) : ByteArray := stB (if s = [] then a ++ ⟨#[63]⟩ else a) s ++ ⟨#[59]⟩
def splB (T : Tbl) : ByteArray := T.foldl rowB ⟨#[]⟩

theorem stB_take (a : ByteArray) (s : St) (j : Nat) (h : j < s.length) : stB a (s.take (j + 1)) = stB a (s.take j) ++ sgB (s.getD j 0) ++ ⟨#[46]⟩ := by
  rw [List.take_succ_eq_append_getElem h]
  unfold stB
  rw [List.foldl_append, List.getD_eq_getElem?_getD, List.getElem?_eq_getElem h]
  rfl

theorem splB_take (T : Tbl) (j : Nat) (h : j < T.length) : splB (T.take (j + 1)) = rowB (splB (T.take j)) (T.getD j []) := by
  rw [List.take_succ_eq_append_getElem h]
  unfold splB
  rw [List.foldl_append, List.getD_eq_getElem?_getD, List.getElem?_eq_getElem h]
  rfl

theorem stB_size (a : ByteArray) (s : St) : (stB a s).size ≤ a.size + 8 * s.length := by
  unfold stB
  induction s generalizing a with
  | nil => simp
  | cons m s ih =>
    have h1 := ih (a ++ sgB m ++ ⟨#[46]⟩)
    have h2 := sg_size m
    rw [ByteArray.size_append, ByteArray.size_append, show (ByteArray.mk #[46]).size = 1 from rfl] at h1
    rw [List.foldl_cons, List.length_cons]
    omega

theorem rowB_size (a : ByteArray) (s : St) (hs : SOk s) : (rowB a s).size ≤ a.size + 50 := by
  unfold rowB
  have h6 : s.length ≤ 6 := by rcases hs with rfl | h; exact Nat.zero_le _; omega
  have h1 := stB_size (if s = [] then a ++ ⟨#[63]⟩ else a) s
  have h2 : (if s = [] then a ++ ⟨#[63]⟩ else a).size ≤ a.size + 1 := by
    split
    · rw [ByteArray.size_append]; exact Nat.le_refl _
    · omega
  rw [ByteArray.size_append, show (ByteArray.mk #[59]).size = 1 from rfl]
  omega

theorem splB_size (T : Tbl) (h : TOk T) : (splB T).size ≤ 50 * T.length := by
  have key : ∀ (T : Tbl) (a : ByteArray), TOk T → (T.foldl rowB a).size ≤ a.size + 50 * T.length := by
    intro T
    induction T with
    | nil => intro a _; simp
    | cons s T ih =>
      intro a h
      have h1 := ih (rowB a s) (fun z hz => h z (List.mem_cons_of_mem _ hz))
      have h2 := rowB_size a s (h s (List.mem_cons_self ..))
      rw [List.foldl_cons, List.length_cons]
      omega
  have := key T ⟨#[]⟩ h
  rw [show (ByteArray.mk #[]).size = 0 from rfl, Nat.zero_add] at this
  exact this

theorem TOk.take {T : Tbl} (h : TOk T) (j : Nat) : TOk (T.take j) := fun s hs => h s (List.mem_of_mem_take hs)

/-- The reader's nodes. -/
theorem rp_drow {w : World} {r : Nat} {s : ByteArray} {st : RS} {O : Nat → Prop} (h : Rp w r s st O) : ∃ a cap, w.cell? ⟨r, 3, none⟩ = some (.slice a st.nodes.length cap) ∧ DRow w (.slice a st.nodes.length cap) st.nodes ∧ r < w.heap.size := by
  obtain ⟨nv, iv, hB, hN, hI, _⟩ := h
  obtain ⟨a, cap, rfl⟩ := DRow.shape (l := st.nodes) hN
  exact ⟨a, cap, Blk.cell hB 3, hN, Blk.lt hB⟩

def em2 (c : Int) : Ending := .returned (.tuple #[.string ByteArray.empty, .int .i64 c])

end Go.Proofs.YtellieabhaphhaaGreatDoor

/-
  narrow's flow: a table as a text.
-/
namespace Go.Proofs.YtellieabhaphhaaGreatDoor
open Go.RowKit

theorem and_pow0 : ∀ m, m < 128 → (((m &&& 1 : Nat) : Int) != 0) = m.testBit 0 := by decide
theorem and_pow1 : ∀ m, m < 128 → (((m &&& 2 : Nat) : Int) != 0) = m.testBit 1 := by decide
theorem and_pow2 : ∀ m, m < 128 → (((m &&& 4 : Nat) : Int) != 0) = m.testBit 2 := by decide
theorem and_pow3 : ∀ m, m < 128 → (((m &&& 8 : Nat) : Int) != 0) = m.testBit 3 := by decide
theorem and_pow4 : ∀ m, m < 128 → (((m &&& 16 : Nat) : Int) != 0) = m.testBit 4 := by decide
theorem and_pow5 : ∀ m, m < 128 → (((m &&& 32 : Nat) : Int) != 0) = m.testBit 5 := by decide
theorem and_pow6 : ∀ m, m < 128 → (((m &&& 64 : Nat) : Int) != 0) = m.testBit 6 := by decide

set_option maxRecDepth 100000 in
set_option maxHeartbeats 1600000 in
theorem kindsText_c (m : Nat) (w : World) (hm : m < 128) :
    Calls Tryz.prog 112 #[.int .i64 (m : Int)] w fun e w' => e = .returned (.string (sgB m)) ∧ w' = w := by
  go_enter Tryz.func112, Tryz.ntmps112
  go_wp2
  go_loopg [3, 4] 7 (fun k tv kv wr => ∃ j : Nat, j ≤ 7 ∧ k = 7 - j ∧ kv = .int .i64 ((2 ^ j : Nat) : Int) ∧ tv = .string (selN (fun c => m.testBit (kix c)) j) ∧ wr = w)
  case atStart => exact ⟨0, by decide, rfl, rfl, rfl, rfl⟩
  case round =>
    obtain ⟨j, hj, hk, rfl, rfl, rfl⟩ := hrel
    have HKK := hide hk
    clear hk
    rcases (show j = 7 ∨ j = 0 ∨ j = 1 ∨ j = 2 ∨ j = 3 ∨ j = 4 ∨ j = 5 ∨ j = 6 by omega) with rfl | rfl | rfl | rfl | rfl | rfl | rfl | rfl
    · go_wp2
      go_ret
      exact ⟨rfl, rfl⟩
    · have HY := hide (selN_yes (fun c => m.testBit (kix c)) 0 (by decide))
      have HN := hide (selN_no (fun c => m.testBit (kix c)) 0 (by decide))
      have hsz := selN_size (fun c => m.testBit (kix c)) 0
      have HKS := hide (fun W => nkindSign_c 110 (by unfold KOk; omega) W)
      have hb : bits .and .i64 (m : Int) 1 = ((m &&& 1 : Nat) : Int) := bits_and_nat m 1 hm (by decide)
      have hq := and_pow0 m hm
      have HY2 : Hid (m.testBit 0 = true → selN (fun c => m.testBit (kix c)) 0 ++ strOfNums [110] = selN (fun c => m.testBit (kix c)) 1) := HY.out
      have HN2 : Hid (m.testBit 0 = false → selN (fun c => m.testBit (kix c)) 0 = selN (fun c => m.testBit (kix c)) 1) := HN.out
      have HKS2 : Hid (∀ W, Calls Tryz.prog 141 #[.int .i64 1] W fun e w' => e = .returned (.string (strOfNums [110])) ∧ w' = W) := HKS.out
      have hs1 := str1 110
      clear HY HN HKS
      generalize ((m &&& 1 : Nat) : Int) = v at *
      generalize m.testBit 0 = p at *
      generalize selN (fun c => m.testBit (kix c)) 0 = tj at *
      cases p
      all_goals
        go_wp2_with (go_at_call 141; refine (HKS2.out _).mono ?_; rintro e w' ⟨rfl, rfl⟩)
        go_roundg (7 - 1)
        case measure => have := HKK.out; omega
        case rel => exact ⟨1, by decide, rfl, rfl, by first | (rw [← HN2.out (by first | rfl | trivial)]; done) | (rw [← HY2.out (by first | rfl | trivial)]; done), rfl⟩
    · have HY := hide (selN_yes (fun c => m.testBit (kix c)) 1 (by decide))
      have HN := hide (selN_no (fun c => m.testBit (kix c)) 1 (by decide))
      have hsz := selN_size (fun c => m.testBit (kix c)) 1
      have HKS := hide (fun W => nkindSign_c 116 (by unfold KOk; omega) W)
      have hb : bits .and .i64 (m : Int) 2 = ((m &&& 2 : Nat) : Int) := bits_and_nat m 2 hm (by decide)
      have hq := and_pow1 m hm
      have HY2 : Hid (m.testBit 1 = true → selN (fun c => m.testBit (kix c)) 1 ++ strOfNums [116] = selN (fun c => m.testBit (kix c)) 2) := HY.out
      have HN2 : Hid (m.testBit 1 = false → selN (fun c => m.testBit (kix c)) 1 = selN (fun c => m.testBit (kix c)) 2) := HN.out
      have HKS2 : Hid (∀ W, Calls Tryz.prog 141 #[.int .i64 2] W fun e w' => e = .returned (.string (strOfNums [116])) ∧ w' = W) := HKS.out
      have hs1 := str1 116
      clear HY HN HKS
      generalize ((m &&& 2 : Nat) : Int) = v at *
      generalize m.testBit 1 = p at *
      generalize selN (fun c => m.testBit (kix c)) 1 = tj at *
      cases p
      all_goals
        go_wp2_with (go_at_call 141; refine (HKS2.out _).mono ?_; rintro e w' ⟨rfl, rfl⟩)
        go_roundg (7 - 2)
        case measure => have := HKK.out; omega
        case rel => exact ⟨2, by decide, rfl, rfl, by first | (rw [← HN2.out (by first | rfl | trivial)]; done) | (rw [← HY2.out (by first | rfl | trivial)]; done), rfl⟩
    · have HY := hide (selN_yes (fun c => m.testBit (kix c)) 2 (by decide))
      have HN := hide (selN_no (fun c => m.testBit (kix c)) 2 (by decide))
      have hsz := selN_size (fun c => m.testBit (kix c)) 2
      have HKS := hide (fun W => nkindSign_c 102 (by unfold KOk; omega) W)
      have hb : bits .and .i64 (m : Int) 4 = ((m &&& 4 : Nat) : Int) := bits_and_nat m 4 hm (by decide)
      have hq := and_pow2 m hm
      have HY2 : Hid (m.testBit 2 = true → selN (fun c => m.testBit (kix c)) 2 ++ strOfNums [102] = selN (fun c => m.testBit (kix c)) 3) := HY.out
      have HN2 : Hid (m.testBit 2 = false → selN (fun c => m.testBit (kix c)) 2 = selN (fun c => m.testBit (kix c)) 3) := HN.out
      have HKS2 : Hid (∀ W, Calls Tryz.prog 141 #[.int .i64 4] W fun e w' => e = .returned (.string (strOfNums [102])) ∧ w' = W) := HKS.out
      have hs1 := str1 102
      clear HY HN HKS
      generalize ((m &&& 4 : Nat) : Int) = v at *
      generalize m.testBit 2 = p at *
      generalize selN (fun c => m.testBit (kix c)) 2 = tj at *
      cases p
      all_goals
        go_wp2_with (go_at_call 141; refine (HKS2.out _).mono ?_; rintro e w' ⟨rfl, rfl⟩)
        go_roundg (7 - 3)
        case measure => have := HKK.out; omega
        case rel => exact ⟨3, by decide, rfl, rfl, by first | (rw [← HN2.out (by first | rfl | trivial)]; done) | (rw [← HY2.out (by first | rfl | trivial)]; done), rfl⟩
    · have HY := hide (selN_yes (fun c => m.testBit (kix c)) 3 (by decide))
      have HN := hide (selN_no (fun c => m.testBit (kix c)) 3 (by decide))
      have hsz := selN_size (fun c => m.testBit (kix c)) 3
      have HKS := hide (fun W => nkindSign_c 122 (by unfold KOk; omega) W)
      have hb : bits .and .i64 (m : Int) 8 = ((m &&& 8 : Nat) : Int) := bits_and_nat m 8 hm (by decide)
      have hq := and_pow3 m hm
      have HY2 : Hid (m.testBit 3 = true → selN (fun c => m.testBit (kix c)) 3 ++ strOfNums [122] = selN (fun c => m.testBit (kix c)) 4) := HY.out
      have HN2 : Hid (m.testBit 3 = false → selN (fun c => m.testBit (kix c)) 3 = selN (fun c => m.testBit (kix c)) 4) := HN.out
      have HKS2 : Hid (∀ W, Calls Tryz.prog 141 #[.int .i64 8] W fun e w' => e = .returned (.string (strOfNums [122])) ∧ w' = W) := HKS.out
      have hs1 := str1 122
      clear HY HN HKS
      generalize ((m &&& 8 : Nat) : Int) = v at *
      generalize m.testBit 3 = p at *
      generalize selN (fun c => m.testBit (kix c)) 3 = tj at *
      cases p
      all_goals
        go_wp2_with (go_at_call 141; refine (HKS2.out _).mono ?_; rintro e w' ⟨rfl, rfl⟩)
        go_roundg (7 - 4)
        case measure => have := HKK.out; omega
        case rel => exact ⟨4, by decide, rfl, rfl, by first | (rw [← HN2.out (by first | rfl | trivial)]; done) | (rw [← HY2.out (by first | rfl | trivial)]; done), rfl⟩
    · have HY := hide (selN_yes (fun c => m.testBit (kix c)) 4 (by decide))
      have HN := hide (selN_no (fun c => m.testBit (kix c)) 4 (by decide))
      have hsz := selN_size (fun c => m.testBit (kix c)) 4
      have HKS := hide (fun W => nkindSign_c 65 (by unfold KOk; omega) W)
      have hb : bits .and .i64 (m : Int) 16 = ((m &&& 16 : Nat) : Int) := bits_and_nat m 16 hm (by decide)
      have hq := and_pow4 m hm
      have HY2 : Hid (m.testBit 4 = true → selN (fun c => m.testBit (kix c)) 4 ++ strOfNums [65] = selN (fun c => m.testBit (kix c)) 5) := HY.out
      have HN2 : Hid (m.testBit 4 = false → selN (fun c => m.testBit (kix c)) 4 = selN (fun c => m.testBit (kix c)) 5) := HN.out
      have HKS2 : Hid (∀ W, Calls Tryz.prog 141 #[.int .i64 16] W fun e w' => e = .returned (.string (strOfNums [65])) ∧ w' = W) := HKS.out
      have hs1 := str1 65
      clear HY HN HKS
      generalize ((m &&& 16 : Nat) : Int) = v at *
      generalize m.testBit 4 = p at *
      generalize selN (fun c => m.testBit (kix c)) 4 = tj at *
      cases p
      all_goals
        go_wp2_with (go_at_call 141; refine (HKS2.out _).mono ?_; rintro e w' ⟨rfl, rfl⟩)
        go_roundg (7 - 5)
        case measure => have := HKK.out; omega
        case rel => exact ⟨5, by decide, rfl, rfl, by first | (rw [← HN2.out (by first | rfl | trivial)]; done) | (rw [← HY2.out (by first | rfl | trivial)]; done), rfl⟩
    · have HY := hide (selN_yes (fun c => m.testBit (kix c)) 5 (by decide))
      have HN := hide (selN_no (fun c => m.testBit (kix c)) 5 (by decide))
      have hsz := selN_size (fun c => m.testBit (kix c)) 5
      have HKS := hide (fun W => nkindSign_c 66 (by unfold KOk; omega) W)
      have hb : bits .and .i64 (m : Int) 32 = ((m &&& 32 : Nat) : Int) := bits_and_nat m 32 hm (by decide)
      have hq := and_pow5 m hm
      have HY2 : Hid (m.testBit 5 = true → selN (fun c => m.testBit (kix c)) 5 ++ strOfNums [66] = selN (fun c => m.testBit (kix c)) 6) := HY.out
      have HN2 : Hid (m.testBit 5 = false → selN (fun c => m.testBit (kix c)) 5 = selN (fun c => m.testBit (kix c)) 6) := HN.out
      have HKS2 : Hid (∀ W, Calls Tryz.prog 141 #[.int .i64 32] W fun e w' => e = .returned (.string (strOfNums [66])) ∧ w' = W) := HKS.out
      have hs1 := str1 66
      clear HY HN HKS
      generalize ((m &&& 32 : Nat) : Int) = v at *
      generalize m.testBit 5 = p at *
      generalize selN (fun c => m.testBit (kix c)) 5 = tj at *
      cases p
      all_goals
        go_wp2_with (go_at_call 141; refine (HKS2.out _).mono ?_; rintro e w' ⟨rfl, rfl⟩)
        go_roundg (7 - 6)
        case measure => have := HKK.out; omega
        case rel => exact ⟨6, by decide, rfl, rfl, by first | (rw [← HN2.out (by first | rfl | trivial)]; done) | (rw [← HY2.out (by first | rfl | trivial)]; done), rfl⟩
    · have HY := hide (selN_yes (fun c => m.testBit (kix c)) 6 (by decide))
      have HN := hide (selN_no (fun c => m.testBit (kix c)) 6 (by decide))
      have hsz := selN_size (fun c => m.testBit (kix c)) 6
      have HKS := hide (fun W => nkindSign_c 67 (by unfold KOk; omega) W)
      have hb : bits .and .i64 (m : Int) 64 = ((m &&& 64 : Nat) : Int) := bits_and_nat m 64 hm (by decide)
      have hq := and_pow6 m hm
      have HY2 : Hid (m.testBit 6 = true → selN (fun c => m.testBit (kix c)) 6 ++ strOfNums [67] = selN (fun c => m.testBit (kix c)) 7) := HY.out
      have HN2 : Hid (m.testBit 6 = false → selN (fun c => m.testBit (kix c)) 6 = selN (fun c => m.testBit (kix c)) 7) := HN.out
      have HKS2 : Hid (∀ W, Calls Tryz.prog 141 #[.int .i64 64] W fun e w' => e = .returned (.string (strOfNums [67])) ∧ w' = W) := HKS.out
      have hs1 := str1 67
      clear HY HN HKS
      generalize ((m &&& 64 : Nat) : Int) = v at *
      generalize m.testBit 6 = p at *
      generalize selN (fun c => m.testBit (kix c)) 6 = tj at *
      cases p
      all_goals
        go_wp2_with (go_at_call 141; refine (HKS2.out _).mono ?_; rintro e w' ⟨rfl, rfl⟩)
        go_roundg (7 - 7)
        case measure => have := HKK.out; omega
        case rel => exact ⟨7, by decide, rfl, rfl, by first | (rw [← HN2.out (by first | rfl | trivial)]; done) | (rw [← HY2.out (by first | rfl | trivial)]; done), rfl⟩
/-- A state's text. -/
def txS (s : St) : ByteArray := if s = [] then ⟨#[63]⟩ else stB ⟨#[]⟩ s

theorem stB_acc (a : ByteArray) (s : St) : stB a s = a ++ stB ⟨#[]⟩ s := by
  have key : ∀ (s : St) (a b : ByteArray), stB (a ++ b) s = a ++ stB b s := by
    intro s
    induction s with
    | nil => intro a b; rfl
    | cons m s ih =>
      intro a b
      show stB (a ++ b ++ sgB m ++ ⟨#[46]⟩) s = a ++ stB (b ++ sgB m ++ ⟨#[46]⟩) s
      rw [← ih, ba_assoc, ba_assoc]
  have := key s a ⟨#[]⟩
  rw [show a ++ (⟨#[]⟩ : ByteArray) = a from ByteArray.append_empty] at this
  exact this

theorem rowB_tx (a : ByteArray) (s : St) : rowB a s = a ++ (txS s ++ ⟨#[59]⟩) := by
  unfold rowB txS
  split
  · rename_i h; subst h
    show a ++ ⟨#[63]⟩ ++ ⟨#[59]⟩ = _
    rw [ba_assoc]
  · rw [stB_acc, ba_assoc]

theorem txS_size (s : St) (h : SOk s) : (txS s).size ≤ 48 := by
  unfold txS
  split
  · decide
  · rename_i h0
    have h1 := stB_size ⟨#[]⟩ s
    have h2 := (h.resolve_left h0).1
    have h3 : (ByteArray.mk #[]).size = 0 := rfl
    omega

set_option maxRecDepth 100000 in
set_option maxHeartbeats 1600000 in
theorem stateText_c (s : St) (w : World) (h : SOk s) :
    Calls Tryz.prog 64 #[.agg (zc (encZ s)).toArray] w fun e w' => e = .returned (.string (txS s)) ∧ Kp no w w' := by
  obtain ⟨m0, m1, m2, m3, m4, m5, hm⟩ := z6_six (encZ_z6 h)
  have HZ6 := hide (show Z6 [m0, m1, m2, m3, m4, m5] from hm ▸ encZ_z6 h)
  have HEX := hide (exS_enc h)
  rw [hm] at HEX ⊢
  rw [show Value.agg (zc [m0, m1, m2, m3, m4, m5]).toArray = zv6 m0 m1 m2 m3 m4 m5 from rfl]
  have HX := hide (fun b W hW => exists_c b [m0, m1, m2, m3, m4, m5] W hW HZ6.out)
  rw [HEX.out] at HX
  by_cases h0 : s = []
  · rw [decide_eq_false (fun e => e h0)] at HX
    have HT := hide (show txS s = ⟨#[63]⟩ by rw [txS, if_pos h0])
    clear h0 hm HEX
    go_enter Tryz.func64, Tryz.ntmps64
    go_wp2_with fail
    refine (HX.out _ _ (by (show Blk _ _ [.int .i64 m0, .int .i64 m1, .int .i64 m2, .int .i64 m3, .int .i64 m4, .int .i64 m5] _); (repeat' (first | ((with_reducible show (_ : List Value) = _); rfl) | ((with_reducible refine Blk.newAt _ _ _ ?_); first | with_reducible rfl | (simp; done)) | with_reducible refine Blk.alloc ?_ _ | with_reducible refine Blk.drewN ?_ _ | with_reducible refine Blk.drew ?_ | ((with_reducible refine Blk.other ?_ _ ?_); rotate_left; ((try dsimp only); omega)) | with_reducible refine Blk.setB (cs0 := ?_) ?_ ?_)))).mono ?_
    rintro e w' ⟨rfl, rfl⟩
    go_wp2
    go_ret
    rw [HT.out]
    exact ⟨rfl, by (repeat' (first | with_reducible exact Kp.refl _ _ | with_reducible refine Kp.alloc ?_ _ | with_reducible refine Kp.drewN ?_ _ | with_reducible refine Kp.drew ?_ | with_reducible refine Kp.setCell ?_ _ ?_ | (intro hh; first | rfl | exact .inl rfl | exact .inr rfl | (exfalso; (try dsimp only at hh); omega))))⟩
  · rw [decide_eq_true h0] at HX
    have hF := h.ful h0
    have hs : s = [m0, m1, m2, m3, m4, m5] := by rw [← encZ_ful hF]; exact hm
    have HT := hide (show txS s = stB ⟨#[]⟩ [m0, m1, m2, m3, m4, m5] by rw [txS, if_neg h0, hs])
    have HIX := hide (fun W j hj => zIx W m0 m1 m2 m3 m4 m5 j hj)
    have HST := hide (fun j hj => stB_take ⟨#[]⟩ [m0, m1, m2, m3, m4, m5] j hj)
    have HSZ := hide (fun j => stB_size ⟨#[]⟩ (List.take j [m0, m1, m2, m3, m4, m5]))
    have HKT := hide (fun j W => kindsText_c (List.getD [m0, m1, m2, m3, m4, m5] j 0) W (HZ6.out.get j))
    clear h0 hm HEX hF hs h
    go_enter Tryz.func64, Tryz.ntmps64
    go_wp2_with fail
    refine (HX.out _ _ (by (show Blk _ _ [.int .i64 m0, .int .i64 m1, .int .i64 m2, .int .i64 m3, .int .i64 m4, .int .i64 m5] _); (repeat' (first | ((with_reducible show (_ : List Value) = _); rfl) | ((with_reducible refine Blk.newAt _ _ _ ?_); first | with_reducible rfl | (simp; done)) | with_reducible refine Blk.alloc ?_ _ | with_reducible refine Blk.drewN ?_ _ | with_reducible refine Blk.drew ?_ | ((with_reducible refine Blk.other ?_ _ ?_); rotate_left; ((try dsimp only); omega)) | with_reducible refine Blk.setB (cs0 := ?_) ?_ ?_)))).mono ?_
    rintro e w' ⟨rfl, rfl⟩
    clear HX
    go_wp2
    go_loopg [3, 11] 6 (fun k tv iv wr => ∃ j : Nat, j ≤ 6 ∧ k = 6 - j ∧ iv = .int .i64 j ∧ tv = .string (stB ⟨#[]⟩ (List.take j [m0, m1, m2, m3, m4, m5])) ∧ Kp no w wr)
    case atStart => exact ⟨0, by decide, rfl, rfl, rfl, by (repeat' (first | with_reducible exact Kp.refl _ _ | with_reducible refine Kp.alloc ?_ _ | with_reducible refine Kp.drewN ?_ _ | with_reducible refine Kp.drew ?_ | with_reducible refine Kp.setCell ?_ _ ?_ | (intro hh; first | rfl | exact .inl rfl | exact .inr rfl | (exfalso; (try dsimp only at hh); omega))))⟩
    case round =>
      obtain ⟨j, hj, hk, rfl, rfl, kr⟩ := hrel
      have HKK := hide hk
      have HKR := hide kr
      clear hk kr
      by_cases hlt : j < 6
      · have hix := HIX.out wr j hlt
        have HS2 := hide (HST.out j hlt)
        have hz2 := HSZ.out j
        have hz3 : (stB ⟨#[]⟩ (List.take j [m0, m1, m2, m3, m4, m5])).size ≤ 48 := Nat.le_trans hz2 (by rw [List.length_take, show (ByteArray.mk #[]).size = 0 from rfl]; simp; omega)
        have HK2 := hide (HKT.out j)
        have hs4 := sg_size (List.getD [m0, m1, m2, m3, m4, m5] j 0)
        have e46 : (ByteArray.mk #[46]).size = 1 := rfl
        clear hz2 HIX HST HSZ HKT
        generalize hgd : List.getD [m0, m1, m2, m3, m4, m5] j 0 = mj at *
        clear hgd
        generalize stB ⟨#[]⟩ (List.take j [m0, m1, m2, m3, m4, m5]) = acc at *
        generalize sgB mj = sg at *
        go_wp2_with (go_at_call 112; refine (HK2.out _).mono ?_; rintro e w' ⟨rfl, rfl⟩)
        go_roundg (6 - (j + 1))
        case measure => have := HKK.out; omega
        case rel => exact ⟨j + 1, by omega, rfl, by go_num, by rw [HS2.out, ba_assoc], HKR.out⟩
      · obtain rfl : j = 6 := by omega
        go_wp2
        go_ret
        rw [HT.out]
        exact ⟨rfl, HKR.out⟩

/-- A table's block. -/
theorem tb_at {w : World} {tb : Nat} {T : Tbl} (h : Blk w tb (tCells T) 102) {i : Nat} (hi : i < T.length) {m0 m1 m2 m3 m4 m5 : Nat} (hm : encZ (T.getD i []) = [m0, m1, m2, m3, m4, m5]) :
    w.cell? ⟨tb, i * 6, none⟩ = some (.int .i64 m0) ∧ w.cell? ⟨tb, i * 6 + 1, none⟩ = some (.int .i64 m1) ∧ w.cell? ⟨tb, i * 6 + 2, none⟩ = some (.int .i64 m2) ∧ w.cell? ⟨tb, i * 6 + 3, none⟩ = some (.int .i64 m3) ∧ w.cell? ⟨tb, i * 6 + 4, none⟩ = some (.int .i64 m4) ∧ w.cell? ⟨tb, i * 6 + 5, none⟩ = some (.int .i64 m5) := by
  rw [List.getD_eq_getElem?_getD, List.getElem?_eq_getElem hi, Option.getD_some] at hm
  have hc : ∀ j, j < 6 → w.cell? ⟨tb, i * 6 + j, none⟩ = (zc [m0, m1, m2, m3, m4, m5])[j]? := fun j hj => by
    rw [h.cell, tCells, flat_get (fun s => zc (encZ s)) 6 zce6 T i j hi hj, hm]
  exact ⟨hc 0 (by decide), hc 1 (by decide), hc 2 (by decide), hc 3 (by decide), hc 4 (by decide), hc 5 (by decide)⟩

set_option maxRecDepth 100000 in
set_option maxHeartbeats 1600000 in
theorem tableText_c (tb : Nat) (T : Tbl) (w : World) (h : Blk w tb (tCells T) 102) (hT : TOk T) (hl : T.length ≤ 90) :
    Calls Tryz.prog 38 #[.slice (some ⟨tb, 0, none⟩) T.length T.length] w fun e w' => e = .returned (.string (splB T)) ∧ Kp no w w' := by
  have HB := hide h
  clear h
  go_enter Tryz.func38, Tryz.ntmps38
  go_wp2
  go_loopg [3, 9] T.length (fun k sv iv wr => ∃ j : Nat, j ≤ T.length ∧ k = T.length - j ∧ iv = .int .i64 j ∧ sv = .string (splB (T.take j)) ∧ Kp no w wr)
  case atStart => exact ⟨0, Nat.zero_le _, rfl, rfl, rfl, Kp.refl _ _⟩
  case round =>
    obtain ⟨j, hj, hk, rfl, rfl, kr⟩ := hrel
    have HKK := hide hk
    have HKR := hide kr
    clear hk kr
    by_cases hlt : j < T.length
    · have HRW := hide (splB_take T j hlt)
      have hsz := Nat.le_trans (splB_size _ (hT.take j)) (Nat.mul_le_mul_left 50 (show (T.take j).length ≤ 90 by rw [List.length_take]; omega))
      have hSO := hT.get j
      obtain ⟨m0, m1, m2, m3, m4, m5, hm⟩ := z6_six (encZ_z6 hSO)
      have hbr := HKR.out.blk HB.out no_elim
      obtain ⟨c0, c1, c2, c3, c4, c5⟩ := tb_at hbr hlt hm
      have hbl := hbr.lt
      have HTX := hide (fun W => stateText_c (T.getD j []) W hSO)
      rw [hm] at HTX
      have HTX2 : Hid (∀ W, Calls Tryz.prog 64 #[zv6 m0 m1 m2 m3 m4 m5] W fun e w' => e = .returned (.string (txS (T.getD j []))) ∧ Kp no W w') := HTX.out
      have hs2 := txS_size _ hSO
      rw [rowB_tx] at HRW
      have e59 : (ByteArray.mk #[59]).size = 1 := rfl
      clear hbr hSO hm HTX
      generalize txS (T.getD j []) = tx at *
      generalize splB (T.take j) = acc at *
      have hjI : (j : Int) < T.length := by omega
      go_wp2_with fail
      refine (HTX2.out _).mono ?_
      rintro e w5 ⟨rfl, k5⟩
      go_wp2
      go_roundg (T.length - (j + 1))
      case measure => have := HKK.out; omega
      case rel => exact ⟨j + 1, by omega, rfl, by go_num, by rw [HRW.out], (HKR.out.alloc _).trans k5 (fun _ _ e => e)⟩
    · obtain rfl : j = T.length := by omega
      rw [List.take_length]
      go_wp2
      go_ret
      exact ⟨rfl, HKR.out⟩
end Go.Proofs.YtellieabhaphhaaGreatDoor

/-
  The outright laws: states within states.
-/
namespace Go.Proofs.YtellieabhaphhaaGreatDoor
open Go.RowKit

/-- The state a lies within b (nothing lies within everything). -/
def SubS (a b : St) : Prop := a = [] ∨ (a.length = 6 ∧ b.length = 6 ∧ ∀ v, v < 6 → a.getD v 0 &&& b.getD v 0 = a.getD v 0)

theorem sv_of {w : World} {v : Value} {s : St} (h : StrR w v (s.map sgB)) : SV w v s := by
  have h' : Row w v 9 1 (s.map sgB).length ((s.map sgB).map Value.string) := h
  rw [List.length_map, List.map_map] at h'
  exact h'

set_option maxHeartbeats 800000 in
theorem inside_t (sv tv : Value) (S T : St) (w : World) (hs : SV w sv S) (ht : SV w tv T) (h : SubS S T) (oS : SOk S) :
    Calls Tryz.prog 44 #[sv, tv] w fun e w' => e = .returned (.bool true) ∧ Kp no w w' := by
  rcases h with h | ⟨h6, t6, hv⟩
  · subst h
    obtain ⟨a, cap, rfl⟩ := hs.shape
    obtain ⟨a2, cap2, rfl⟩ := ht.shape
    go_enter Tryz.func44, Tryz.ntmps44
    go_wp2
    go_ret
    exact ⟨rfl, Kp.refl _ _⟩
  · obtain ⟨a, cap, rfl⟩ := hs.shape
    obtain ⟨a2, cap2, rfl⟩ := ht.shape
    have hs' : Row w (.slice a S.length cap) 9 1 S.length (sgS S) := hs
    have ht' : Row w (.slice a2 T.length cap2) 9 1 T.length (sgS T) := ht
    rw [h6] at hs' ⊢
    rw [t6] at ht' ⊢
    have HW := hide (fun v (hv6 : v < 6) (W : World) => show Calls Tryz.prog 75 #[.string (sgB (S.getD v 0)), .string (sgB (T.getD v 0))] W fun e w' => e = .returned (.bool true) ∧ w' = W by
      have := within_c (sgB (S.getD v 0)) (sgB (T.getD v 0)) W (Nat.le_trans (sg_size _) (by decide)) (Nat.le_trans (sg_size _) (by decide))
      rw [sub_sg _ _ (oS.get v), decide_eq_true (hv v hv6)] at this
      exact this)
    have HS := hide hs'
    have HT := hide ht'
    clear hs ht hs' ht' h6 t6 hv
    go_enter Tryz.func44, Tryz.ntmps44
    go_wp2
    go_loopg [5] 6 (fun k iv wr => ∃ j : Nat, j ≤ 6 ∧ k = 6 - j ∧ iv = .int .i64 j ∧ Kp no w wr)
    case atStart => exact ⟨0, Nat.zero_le _, rfl, rfl, Kp.refl _ _⟩
    case round =>
      obtain ⟨j, hj, hk, rfl, kr⟩ := hrel
      have HK := hide hk
      have HKR := hide kr
      clear hk
      by_cases hlt : j < 6
      · obtain ⟨g, rfl, hg, q⟩ := SV.at (kr.row HS.out (fun _ _ => no_elim)) hlt
        obtain ⟨g2, rfl, hg2, q2⟩ := SV.at (kr.row HT.out (fun _ _ => no_elim)) hlt
        have HWJ := hide (HW.out j hlt)
        clear kr HS HT HW
        generalize sgB (S.getD j 0) = za at *
        generalize sgB (T.getD j 0) = zb at *
        go_wp2_with fail
        go_quiet ((go_at_call 75; exact Calls.quiet_of_same (HWJ.out _)))
        go_wp2
        go_roundg (6 - (j + 1))
        case measure => have := HK.out; omega
        case rel => exact ⟨j + 1, by omega, rfl, by go_num, HKR.out.drewN _⟩
      · go_wp2
        go_ret
        exact ⟨rfl, HKR.out⟩

/-- The text of a table. -/
structure TT (u : ByteArray) (T : Tbl) : Prop where
  cel : ∀ i, i < T.length → celF u i = some (txS (T.getD i []))
  stop : celF u T.length = none
  sz : u.size ≤ 100000
  len : T.length ≤ 90
  ok : TOk T
  sta : ∀ i, i < T.length → staF (txS (T.getD i [])) = ((T.getD i []).map sgB, true)

set_option maxHeartbeats 800000 in
theorem reaches_t (a : Option Addr) (cap : Nat) (u : ByteArray) (j : Int) (sv : Value) (S : St) (T : Tbl) (w : World) (hs : SV w sv S) (oS : SOk S) (hT : TT u T)
    (h : j < 0 ∨ (T.length : Int) ≤ j ∨ S = [] ∨ SubS S (T.getD j.toNat [])) :
    Calls Tryz.prog 40 #[.slice a T.length cap, .string u, .int .i64 j, sv] w fun e w' => e = .returned (.bool true) ∧ Kp no w w' := by
  obtain ⟨sa, sc, rfl⟩ := hs.shape
  by_cases h1 : j < 0
  · clear hs hT h
    go_enter Tryz.func40, Tryz.ntmps40
    go_wp2
    go_ret
    exact ⟨rfl, Kp.refl _ _⟩
  by_cases h2 : (T.length : Int) ≤ j
  · clear hs hT h
    go_enter Tryz.func40, Tryz.ntmps40
    go_wp2
    go_ret
    exact ⟨rfl, Kp.refl _ _⟩
  by_cases h3 : S = []
  · subst h3
    have d1 : decide (j < 0) = false := by simp; omega
    have d2 : decide ((T.length : Int) ≤ j) = false := by simp; omega
    clear hs hT h h1 h2
    go_enter Tryz.func40, Tryz.ntmps40
    go_wp2
    go_ret
    exact ⟨rfl, Kp.refl _ _⟩
  · have hsub : SubS S (T.getD j.toNat []) := by
      rcases h with h | h | h | h
      · exact absurd h h1
      · exact absurd h h2
      · exact absurd h h3
      · exact h
    obtain ⟨j, rfl⟩ := Int.eq_ofNat_of_zero_le (Int.not_lt.1 h1)
    rw [Int.toNat_natCast] at hsub
    have hj : j < T.length := by omega
    have h6 : (S.length : Int) = 6 := by have := (oS.resolve_left h3).1; omega
    have HC := hide (fun W => cell_c u j W hT.sz (by have := hT.len; omega))
    rw [hT.cel j hj] at HC
    have HS := hide (fun W => state_c (txS (T.getD j [])) W (Nat.le_trans (txS_size _ (hT.ok.get j)) (by decide)))
    rw [hT.sta j hj] at HS
    have HIN := hide (fun tv W (h1 : SV W (.slice sa S.length sc) S) (h2 : SV W tv (T.getD j [])) => inside_t (.slice sa S.length sc) tv S (T.getD j []) W h1 h2 hsub oS)
    have HSS := hide hs
    clear hs hT h h1 h3 hsub oS
    generalize txS (T.getD j []) = tx at *
    generalize T.getD j [] = R at *
    go_enter Tryz.func40, Tryz.ntmps40
    go_wp2_with fail
    refine (HC.out _).mono ?_
    rintro e w' ⟨rfl, hw⟩
    obtain rfl := hw.symm
    go_wp2_with fail
    refine (HS.out _).mono ?_
    rintro e w1 ⟨tv, rfl, ht, _, k1⟩
    have HT1 := hide (sv_of ht)
    obtain ⟨ta, tc, rfl⟩ := ht.shape
    have HS1 := hide (k1.row HSS.out (fun _ _ => no_elim))
    rw [List.length_map] at HT1 ⊢
    clear ht
    go_wp2_with fail
    trace_state
    refine (HIN.out _ _ HS1.out HT1.out).mono ?_
    rintro e w2 ⟨rfl, k2⟩
    go_wp2
    go_ret
    exact ⟨rfl, k1.trans k2 (fun _ _ e => e)⟩
end Go.Proofs.YtellieabhaphhaaGreatDoor

/-
  The outright laws: what a table says behind a node.
-/
namespace Go.Proofs.YtellieabhaphhaaGreatDoor
open Go.RowKit

/-- The state s comes to no more than the table says of place j. -/
def Rch (T : Tbl) (j : Int) (s : St) : Prop := j < 0 ∨ (T.length : Int) ≤ j ∨ s = [] ∨ SubS s (T.getD j.toNat [])

def Keeps (nd : Nd) (T : Tbl) (S : St) : Prop :=
  S = [] ∨ ((¬ (nd.op = 121 ∨ nd.op = 58) → Rch T nd.t (behF nd S)) ∧ (nd.op = 121 ∨ nd.op = 58 → Rch T nd.t (hldF nd true S) ∧ Rch T nd.f (hldF nd false S)))

set_option maxRecDepth 100000 in
set_option maxHeartbeats 1600000 in
theorem keeps_t (a : Option Addr) (cap : Nat) (l : List Nd) (u : ByteArray) (i : Nat) (nd : Nd) (T : Tbl) (w : World) (hD : DRow w (.slice a l.length cap) l) (hTl : T.length = l.length) (hT : TT u T) (hnd : l[i]? = some nd) (hg : Gn nd) (hk : Keeps nd T (T.getD i [])) :
    Calls Tryz.prog 42 #[.slice a l.length cap, .string u, .int .i64 i] w fun e w' => e = .returned (.bool true) ∧ Kp no w w' := by
  have hi : i < l.length := (List.getElem?_eq_some_iff.1 hnd).1
  have HC := hide (fun W => cell_c u i W hT.sz (by have := hT.len; omega))
  rw [hT.cel i (by omega)] at HC
  have HS := hide (fun W => state_c (txS (T.getD i [])) W (Nat.le_trans (txS_size _ (hT.ok.get i)) (by decide)))
  rw [hT.sta i (by omega)] at HS
  have HSO := hide (hT.ok.get i)
  obtain ⟨_, g, rfl, _⟩ := DRow.at hD hnd
  have HR := hide (fun j sv s W hs os (h : Rch T j s) => reaches_t (some ⟨g, 0, none⟩) cap u j sv s T W hs os hT h)
  rw [hTl] at HR
  have HDD := hide hD
  have HND := hide hnd
  have HTL := hide hTl
  clear hD hnd hT hTl
  generalize txS (T.getD i []) = tx at *
  generalize T.getD i [] = S at *
  have hiI : (i : Int) < l.length := by omega
  go_enter Tryz.func42, Tryz.ntmps42
  go_wp2_with fail
  refine (HC.out _).mono ?_
  rintro e w' ⟨rfl, hw⟩
  obtain rfl := hw.symm
  go_wp2_with fail
  refine (HS.out _).mono ?_
  rintro e w1 ⟨tv, rfl, ht, _, k1⟩
  have HT1 := hide (sv_of ht)
  obtain ⟨ta, tc, rfl⟩ := ht.shape
  rw [List.length_map] at HT1 ⊢
  clear ht
  by_cases hS0 : S = []
  · subst hS0
    go_wp2
    go_ret
    exact ⟨rfl, k1⟩
  · have h6 : S.length = 6 := (HSO.out.resolve_left hS0).1
    have hSI : ((S.length : Int) == 0) = false := by rw [h6]; rfl
    obtain ⟨hk1, hk2⟩ := hk.resolve_left hS0
    have HK1 := hide k1
    have HD1 := hide (k1.row HDD.out (fun _ _ => no_elim))
    obtain ⟨gnl, n0, n1, n2, n3, n4, n5, n6, n7, n8⟩ := DRow.at2 HD1.out HND.out
    clear k1 h6
    have HTE := hide (fun W => ftest_c nd W)
    by_cases hT : nd.op = 121 ∨ nd.op = 58
    · rw [decide_eq_true hT] at HTE
      have HH := hide (fun b W (hW : SV W (.slice ta S.length tc) S) => fholds_c nd (.slice ta S.length tc) S b W hW HSO.out hS0 hg hT)
      have HRT := hide (hk2 hT).1
      have HRF := hide (hk2 hT).2
      have HO1 := hide (HSO.out.hld nd true)
      have HO2 := hide (HSO.out.hld nd false)
      clear hk hk1 hk2 hT hg hS0
      obtain ⟨nop, nx, ny, nv, nk, nt, nff, na, nl⟩ := nd
      dsimp only at n0 n1 n2 n3 n4 n5 n6 n7 n8 HTE HH HRT HRF
      go_wp2_with fail
      refine (HTE.out _).mono ?_
      rintro e w2 ⟨rfl, k2⟩
      have hN2 : Blk w2 w1.heap.size [.int .u8 nop, .int .i64 nx, .int .i64 ny, .int .i64 nv, .int .u8 nk, .int .i64 nt, .int .i64 nff, .int .i64 na, .int .i64 nl] 63 := k2.blk (by (repeat' (first | ((with_reducible show (_ : List Value) = _); rfl) | ((with_reducible refine Blk.newAt _ _ _ ?_); first | with_reducible rfl | (simp; done)) | with_reducible refine Blk.alloc ?_ _ | with_reducible refine Blk.drewN ?_ _ | with_reducible refine Blk.drew ?_ | ((with_reducible refine Blk.other ?_ _ ?_); rotate_left; ((try dsimp only); omega)) | with_reducible refine Blk.setB (cs0 := ?_) ?_ ?_))) no_elim
      have HK2 := hide (show Kp no w1 w2 by (repeat' (first | with_reducible exact Kp.refl _ _ | with_reducible refine Kp.alloc ?_ _ | with_reducible refine Kp.drewN ?_ _ | with_reducible refine Kp.drew ?_ | with_reducible refine Kp.setCell ?_ _ ?_ | with_reducible refine Kp.trans ?_ k2 (fun _ _ e => e) | (intro hh; first | rfl | exact .inl rfl | exact .inr rfl | (exfalso; (try dsimp only at hh); omega)))))
      have HT2 := hide (HK2.out.row HT1.out (fun _ _ => no_elim))
      clear k2 n0 n1 n2 n3 n4 n5 n6 n7 n8
      obtain ⟨n0, n1, n2, n3, n4, n5, n6, n7, n8, nf⟩ := hN2.c9; have hnl := hN2.lt
      go_wp2_with fail
      refine (HH.out true _ HT2.out).mono ?_
      rintro e w3 ⟨u3, rfl, h3, _, k3⟩
      have H3 := hide h3
      obtain ⟨ua, uc, rfl⟩ := h3.shape
      have hN3 : Blk w3 w1.heap.size [.int .u8 nop, .int .i64 nx, .int .i64 ny, .int .i64 nv, .int .u8 nk, .int .i64 nt, .int .i64 nff, .int .i64 na, .int .i64 nl] 63 := k3.blk hN2 no_elim
      have HT3 := hide (k3.row HT2.out (fun _ _ => no_elim))
      have HK3 := hide (HK2.out.trans k3 (fun _ _ e => e))
      clear k3 h3 n0 n1 n2 n3 n4 n5 n6 n7 n8 nf hnl
      obtain ⟨n0, n1, n2, n3, n4, n5, n6, n7, n8, nf⟩ := hN3.c9; have hnl := hN3.lt
      go_wp2_with fail
      refine (HH.out false _ HT3.out).mono ?_
      rintro e w4 ⟨u4, rfl, h4, _, k4⟩
      have H4 := hide h4
      have H34 := hide (k4.row H3.out (fun _ _ => no_elim))
      obtain ⟨ub, ud, rfl⟩ := h4.shape
      have hN4 : Blk w4 w1.heap.size [.int .u8 nop, .int .i64 nx, .int .i64 ny, .int .i64 nv, .int .u8 nk, .int .i64 nt, .int .i64 nff, .int .i64 na, .int .i64 nl] 63 := k4.blk hN3 no_elim
      have HK4 := hide (HK3.out.trans k4 (fun _ _ e => e))
      clear k4 h4 n0 n1 n2 n3 n4 n5 n6 n7 n8 nf hnl
      obtain ⟨n0, n1, n2, n3, n4, n5, n6, n7, n8, nf⟩ := hN4.c9; have hnl := hN4.lt
      go_wp2_with fail
      refine (HR.out nt _ _ _ H34.out HO1.out HRT.out).mono ?_
      rintro e w5 ⟨rfl, k5⟩
      have H5 := hide (k5.row H4.out (fun _ _ => no_elim))
      have hN5 : Blk w5 w1.heap.size [.int .u8 nop, .int .i64 nx, .int .i64 ny, .int .i64 nv, .int .u8 nk, .int .i64 nt, .int .i64 nff, .int .i64 na, .int .i64 nl] 63 := k5.blk hN4 no_elim
      have HK5 := hide (HK4.out.trans k5 (fun _ _ e => e))
      clear k5 n0 n1 n2 n3 n4 n5 n6 n7 n8 nf hnl
      obtain ⟨n0, n1, n2, n3, n4, n5, n6, n7, n8, nf⟩ := hN5.c9; have hnl := hN5.lt
      go_wp2_with fail
      refine (HR.out nff _ _ _ H5.out HO2.out HRF.out).mono ?_
      rintro e w6 ⟨rfl, k6⟩
      go_wp2
      go_ret
      exact ⟨rfl, (HK1.out.trans HK5.out (fun _ _ e => e)).trans k6 (fun _ _ e => e)⟩
    · rw [decide_eq_false hT] at HTE
      have HH := hide (fun W (hW : SV W (.slice ta S.length tc) S) => fbehind_c nd (.slice ta S.length tc) S W hW HSO.out hS0 hg hT)
      have HRT := hide (hk1 hT)
      have HO1 := hide (HSO.out.beh nd)
      clear hk hk1 hk2 hT hg hS0
      obtain ⟨nop, nx, ny, nv, nk, nt, nff, na, nl⟩ := nd
      dsimp only at n0 n1 n2 n3 n4 n5 n6 n7 n8 HTE HH HRT
      go_wp2_with fail
      refine (HTE.out _).mono ?_
      rintro e w2 ⟨rfl, k2⟩
      have hN2 : Blk w2 w1.heap.size [.int .u8 nop, .int .i64 nx, .int .i64 ny, .int .i64 nv, .int .u8 nk, .int .i64 nt, .int .i64 nff, .int .i64 na, .int .i64 nl] 63 := k2.blk (by (repeat' (first | ((with_reducible show (_ : List Value) = _); rfl) | ((with_reducible refine Blk.newAt _ _ _ ?_); first | with_reducible rfl | (simp; done)) | with_reducible refine Blk.alloc ?_ _ | with_reducible refine Blk.drewN ?_ _ | with_reducible refine Blk.drew ?_ | ((with_reducible refine Blk.other ?_ _ ?_); rotate_left; ((try dsimp only); omega)) | with_reducible refine Blk.setB (cs0 := ?_) ?_ ?_))) no_elim
      have HK2 := hide (show Kp no w1 w2 by (repeat' (first | with_reducible exact Kp.refl _ _ | with_reducible refine Kp.alloc ?_ _ | with_reducible refine Kp.drewN ?_ _ | with_reducible refine Kp.drew ?_ | with_reducible refine Kp.setCell ?_ _ ?_ | with_reducible refine Kp.trans ?_ k2 (fun _ _ e => e) | (intro hh; first | rfl | exact .inl rfl | exact .inr rfl | (exfalso; (try dsimp only at hh); omega)))))
      have HT2 := hide (HK2.out.row HT1.out (fun _ _ => no_elim))
      clear k2 n0 n1 n2 n3 n4 n5 n6 n7 n8
      obtain ⟨n0, n1, n2, n3, n4, n5, n6, n7, n8, nf⟩ := hN2.c9; have hnl := hN2.lt
      go_wp2_with fail
      refine (HH.out _ HT2.out).mono ?_
      rintro e w3 ⟨u3, rfl, h3, _, k3⟩
      have H3 := hide h3
      obtain ⟨ua, uc, rfl⟩ := h3.shape
      have hN3 : Blk w3 w1.heap.size [.int .u8 nop, .int .i64 nx, .int .i64 ny, .int .i64 nv, .int .u8 nk, .int .i64 nt, .int .i64 nff, .int .i64 na, .int .i64 nl] 63 := k3.blk hN2 no_elim
      have HK3 := hide (HK2.out.trans k3 (fun _ _ e => e))
      clear k3 h3 n0 n1 n2 n3 n4 n5 n6 n7 n8 nf hnl
      obtain ⟨n0, n1, n2, n3, n4, n5, n6, n7, n8, nf⟩ := hN3.c9; have hnl := hN3.lt
      go_wp2_with fail
      refine (HR.out nt _ _ _ H3.out HO1.out HRT.out).mono ?_
      rintro e w5 ⟨rfl, k5⟩
      go_wp2
      go_ret
      exact ⟨rfl, (HK1.out.trans HK3.out (fun _ _ e => e)).trans k5 (fun _ _ e => e)⟩
end Go.Proofs.YtellieabhaphhaaGreatDoor

/-
  The outright laws: a table that obeys.
-/
namespace Go.Proofs.YtellieabhaphhaaGreatDoor
open Go.RowKit

set_option maxRecDepth 100000 in
set_option maxHeartbeats 1600000 in
theorem obeys_t (a : Option Addr) (cap : Nat) (l : List Nd) (u : ByteArray) (T : Tbl) (w : World) (hD : DRow w (.slice a l.length cap) l) (hTl : T.length = l.length) (hT : TT u T) (hg : ∀ n ∈ l, Gn n)
    (h0 : l = [] → u = ⟨#[]⟩) (hst : l ≠ [] → Rch T 0 [8, 8, 8, 8, 8, 8]) (hk : ∀ i nd, l[i]? = some nd → Keeps nd T (T.getD i [])) :
    Calls Tryz.prog 24 #[.slice a l.length cap, .string u] w fun e w' => e = .returned (.bool true) ∧ Kp no w w' := by
  by_cases hl : l = []
  · subst hl
    have hu := h0 rfl
    subst hu
    clear hD hTl hT hg h0 hst hk
    go_enter Tryz.func24, Tryz.ntmps24
    go_wp2
    go_ret
    exact ⟨rfl, Kp.refl _ _⟩
  · have hll : 0 < l.length := List.length_pos_iff.2 hl
    have hlI : ((l.length : Int) == 0) = false := by simp; omega
    have HST := hide (hst hl)
    have HR := hide (fun j sv s W hs os (h : Rch T j s) => reaches_t a cap u j sv s T W hs os hT h)
    rw [hTl] at HR
    have HKP := hide (fun i nd W (hW : DRow W (.slice a l.length cap) l) (hnd : l[i]? = some nd) => keeps_t a cap l u i nd T W hW hTl hT hnd (hg nd (List.mem_of_getElem? hnd)) (hk i nd hnd))
    have HC := hide (fun W => cell_c u l.length W hT.sz (by have := hT.len; omega))
    have hstop := hT.stop
    rw [hTl] at hstop
    rw [hstop] at HC
    have hl90 : l.length ≤ 90 := by have := hT.len; omega
    have HDD := hide hD
    have HO : Hid (SOk [8, 8, 8, 8, 8, 8]) := .inr ⟨rfl, by decide⟩
    clear hD hT hg h0 hst hk hstop hTl hl
    go_enter Tryz.func24, Tryz.ntmps24
    go_wp2_with fail
    refine (start_s _).mono ?_
    rintro e w1 ⟨sa, sc, rfl, hs1, _, k1⟩
    have HS1 := hide hs1
    clear hs1
    go_wp2_with fail
    refine (HR.out 0 _ _ _ HS1.out HO.out HST.out).mono ?_
    rintro e w2 ⟨rfl, k2⟩
    have HK2 := hide (k1.trans k2 (fun _ _ e => e))
    clear k1 k2 HR HST
    go_wp2
    go_loopg [6] l.length (fun k iv wr => ∃ j : Nat, j ≤ l.length ∧ k = l.length - j ∧ iv = .int .i64 j ∧ Kp no w wr)
    case atStart => exact ⟨0, Nat.zero_le _, rfl, rfl, HK2.out⟩
    case round =>
      obtain ⟨j, hj, hkk, rfl, kr⟩ := hrel
      have HK := hide hkk
      have HKR := hide kr
      clear hkk kr
      by_cases hlt : j < l.length
      · have HKJ := hide (HKP.out j l[j] wr (HKR.out.row HDD.out (fun _ _ => no_elim)) (List.getElem?_eq_getElem hlt))
        go_wp2_with fail
        refine HKJ.out.mono ?_
        rintro e w3 ⟨rfl, k3⟩
        go_wp2
        go_roundg (l.length - (j + 1))
        case measure => have := HK.out; omega
        case rel => exact ⟨j + 1, by omega, rfl, by go_num, HKR.out.trans k3 (fun _ _ e => e)⟩
      · go_wp2_with fail
        refine (HC.out _).mono ?_
        rintro e w3 ⟨rfl, rfl⟩
        go_wp2
        go_ret
        exact ⟨rfl, HKR.out⟩
end Go.Proofs.YtellieabhaphhaaGreatDoor

/-
  Plain: the least table is at rest; its text.
-/
namespace Go.Proofs.YtellieabhaphhaaGreatDoor
open Go.RowKit

theorem it_flag (l : List Nd) (T : Tbl) (hT : TOk T) : ∀ j, (∃ i, i < j ∧ (swpF l 0 (itF l i T)).2 = false) ∨ j ≤ mT (itF l j T)
  | 0 => .inr (Nat.zero_le _)
  | j + 1 => by
    rcases it_flag l T hT j with ⟨i, h1, h2⟩ | h
    · exact .inl ⟨i, by omega, h2⟩
    · cases hf : (swpF l 0 (itF l j T)).2
      · exact .inl ⟨j, Nat.lt_succ_self _, hf⟩
      · refine .inr ?_
        have := (swp_le (l := l) (i := 0) (TOk.it (l := l) (k := j) hT)).2 hf
        rw [it_succ]
        omega

theorem lst_rest (l : List Nd) (hl : l.length ≤ 90) : (swpF l 0 (lstF l)).2 = false := by
  rw [lst_tN]
  rcases it_flag l (tN l.length) (tN_ok _) 4000 with ⟨i, h1, h2⟩ | h
  · rw [it_rest l _ i (swp_same h2) 4000 (by omega)]
    exact h2
  · have h2 := mT_le (TOk.it (l := l) (k := 4000) (tN_ok l.length))
    rw [it_len, tN_len] at h2
    omega

theorem swp_pas : ∀ (l : List Nd) (i : Nat) (T : Tbl), (swpF l i T).2 = false → ∀ k nd, l[k]? = some nd → (pasF nd (i + k) T).2 = false
  | [], _, _, _, k, nd, h => by simp at h
  | n :: l, i, T, h, k, nd, hk => by
    rw [swpF, Bool.or_eq_false_iff] at h
    cases k with
    | zero =>
      obtain rfl : n = nd := by simpa using hk
      exact h.1
    | succ k =>
      have h2 := h.2
      rw [pas_same h.1] at h2
      have := swp_pas l (i + 1) T h2 k nd (by simpa using hk)
      rw [show i + (k + 1) = i + 1 + k by omega]
      exact this

theorem or_and {a b : Nat} (h : a ||| b = a) : b &&& a = b := by
  apply Nat.eq_of_testBit_eq
  intro i
  have := congrArg (fun x => x.testBit i) h
  simp only [Nat.testBit_or] at this
  rw [Nat.testBit_and]
  cases ha : a.testBit i <;> cases hb : b.testBit i <;> simp [ha, hb] at this ⊢

theorem zip_get (a b : St) (v : Nat) (ha : v < a.length) (hb : v < b.length) : (List.zipWith (· ||| ·) a b).getD v 0 = a.getD v 0 ||| b.getD v 0 := by
  rw [List.getD_eq_getElem?_getD, List.getD_eq_getElem?_getD, List.getD_eq_getElem?_getD, List.getElem?_zipWith, List.getElem?_eq_getElem ha, List.getElem?_eq_getElem hb]
  rfl

theorem into_rch {T : Tbl} {j : Int} {s : St} (hT : TOk T) (hs : SOk s) (h : (intoF T j s).2 = false) : Rch T j s := by
  unfold intoF at h
  split at h
  · rename_i hc
    dsimp only at h
    unfold joinR at h
    split at h
    · rename_i h0; exact .inr (.inr (.inl h0))
    · rename_i h0
      split at h
      · cases h
      · rename_i h1
        have e : List.zipWith (· ||| ·) (T.getD j.toNat []) s = T.getD j.toNat [] := by simpa using h
        have l1 := ((hT.get j.toNat).resolve_left h1).1
        have l2 := (hs.resolve_left h0).1
        refine .inr (.inr (.inr (.inr ⟨l2, l1, fun v hv => ?_⟩)))
        have := zip_get (T.getD j.toNat []) s v (by omega) (by omega)
        rw [e] at this
        exact or_and this.symm
  · rename_i hc
    unfold Rch
    omega

theorem lst_keeps (l : List Nd) (hl : l.length ≤ 90) (i : Nat) (nd : Nd) (h : l[i]? = some nd) : Keeps nd (lstF l) ((lstF l).getD i []) := by
  have hp := swp_pas l 0 (lstF l) (lst_rest l hl) i nd h
  rw [Nat.zero_add] at hp
  have ok := lst_ok l
  generalize lstF l = T at *
  unfold pasF at hp
  split at hp
  · rename_i h0; exact .inl h0
  · rename_i h0
    refine .inr ⟨fun ht => ?_, fun ht => ?_⟩
    · rw [if_neg ht] at hp
      exact into_rch ok ((ok.get i).beh nd) hp
    · rw [if_pos ht, Bool.or_eq_false_iff] at hp
      have h2 := hp.2
      rw [into_same hp.1] at h2
      exact ⟨into_rch ok ((ok.get i).hld nd true) hp.1, into_rch ok ((ok.get i).hld nd false) h2⟩

-- the first state stays
theorem SubS.join {s a : St} (b : St) (hs : s ≠ []) (h : SubS s a) (hb : SOk b) : SubS s (joinR a b).1 := by
  rcases h with h | ⟨h1, h2, h3⟩
  · exact absurd h hs
  · unfold joinR
    split
    · exact .inr ⟨h1, h2, h3⟩
    · rename_i hb0
      rw [if_neg (fun e => by rw [e] at h2; cases h2)]
      have l2 := (hb.resolve_left hb0).1
      refine .inr ⟨h1, by simp [List.length_zipWith, h2, l2], fun v hv => ?_⟩
      show s.getD v 0 &&& (List.zipWith (· ||| ·) a b).getD v 0 = _
      rw [zip_get a b v (by omega) (by omega), Nat.and_or_distrib_left, h3 v hv]
      apply Nat.eq_of_testBit_eq
      intro i
      rw [Nat.testBit_or, Nat.testBit_and]
      cases (s.getD v 0).testBit i <;> simp

theorem sub_into {T : Tbl} {s : St} (hs : s ≠ []) (h : SubS s (T.getD 0 [])) (i : Int) {b : St} (hb : SOk b) : SubS s ((intoF T i b).1.getD 0 []) := by
  unfold intoF
  split
  · rename_i hc
    by_cases h0 : i.toNat = 0
    · show SubS s ((T.set i.toNat _).getD 0 [])
      rw [h0, List.getD_eq_getElem?_getD, List.getElem?_set_self (by omega)]
      rw [h0] at *
      exact h.join b hs hb
    · show SubS s ((T.set i.toNat _).getD 0 [])
      rw [List.getD_eq_getElem?_getD, List.getElem?_set_ne (by omega), ← List.getD_eq_getElem?_getD]
      exact h
  · exact h

theorem sub_pas {T : Tbl} {s : St} (hs : s ≠ []) (hT : TOk T) (h : SubS s (T.getD 0 [])) (n : Nd) (i : Nat) : SubS s ((pasF n i T).1.getD 0 []) := by
  unfold pasF
  split
  · exact h
  · split
    · exact sub_into hs (sub_into hs h _ ((hT.get i).hld n true)) _ ((hT.get i).hld n false)
    · exact sub_into hs h _ ((hT.get i).beh n)

theorem sub_swp : ∀ (l : List Nd) (i : Nat) (T : Tbl) {s : St}, s ≠ [] → TOk T → SubS s (T.getD 0 []) → SubS s ((swpF l i T).1.getD 0 [])
  | [], _, _, _, _, _, h => h
  | n :: l, i, T, s, hs, hT, h => by
    rw [swpF]
    exact sub_swp l (i + 1) _ hs (hT.pas n i) (sub_pas hs hT h n i)

theorem sub_it (l : List Nd) : ∀ (k : Nat) (T : Tbl) {s : St}, s ≠ [] → TOk T → SubS s (T.getD 0 []) → SubS s ((itF l k T).getD 0 [])
  | 0, _, _, _, _, h => h
  | k + 1, T, s, hs, hT, h => by
    rw [itF]
    exact sub_it l k _ hs hT.swp (sub_swp l 0 T hs hT h)

theorem lst_start (l : List Nd) (h : l ≠ []) : Rch (lstF l) 0 [8, 8, 8, 8, 8, 8] := by
  refine .inr (.inr (.inr ?_))
  rw [lst_tN]
  refine sub_it l 4000 _ (by decide) (tN_ok _) ?_
  obtain ⟨n, l', rfl⟩ := List.exists_cons_of_ne_nil h
  exact .inr ⟨rfl, rfl, fun v _ => by show st0.getD v 0 &&& st0.getD v 0 = st0.getD v 0; exact Nat.and_self _⟩

-- the text
def flT (T : Tbl) : List UInt8 := T.flatMap (fun s => (txS s).data.toList ++ [59])

theorem spl_flat (T : Tbl) : (splB T).data.toList = flT T := by
  have key : ∀ (T : Tbl) (a : ByteArray), (T.foldl rowB a).data.toList = a.data.toList ++ flT T := by
    intro T
    induction T with
    | nil => intro a; simp [flT]
    | cons s T ih =>
      intro a
      rw [List.foldl_cons, ih, rowB_tx]
      simp [flT]
  exact (key T ⟨#[]⟩).trans (by simp)

theorem cel_skip : ∀ (l : List UInt8) (rest acc : List UInt8) (i : Nat), (∀ c ∈ l, ¬ c = 59) → celL (l ++ rest) acc i = celL rest (acc ++ l) i
  | [], rest, acc, i, _ => by simp
  | c :: l, rest, acc, i, h => by
    rw [List.cons_append, celL_ne (h c (List.mem_cons_self ..)), cel_skip l rest _ i (fun x hx => h x (List.mem_cons_of_mem _ hx)), List.append_assoc, List.singleton_append]

theorem cel_flat : ∀ (T : Tbl) (i : Nat), (∀ s ∈ T, ∀ c ∈ (txS s).data.toList, ¬ c = 59) → celL (flT T) [] i = (T[i]?).map (fun s => (txS s).data.toList)
  | [], i, _ => by simp [flT, celL]
  | s :: T, i, h => by
    have e : flT (s :: T) = (txS s).data.toList ++ (59 :: flT T) := by simp [flT]
    rw [e, cel_skip _ _ _ _ (h s (List.mem_cons_self ..))]
    cases i with
    | zero => rw [celL_zero]; simp
    | succ i => rw [celL_end, cel_flat T i (fun x hx => h x (List.mem_cons_of_mem _ hx))]; simp

theorem sg_mem {m : Nat} {c : UInt8} (h : c ∈ (sgB m).data.toList) : c ∈ KS := by
  have h' : c ∈ KS.filter (fun u => m.testBit (kix u.toNat)) := h
  exact (List.mem_filter.1 h').1

theorem stB_flat : ∀ (s : St) (a : ByteArray), (stB a s).data.toList = a.data.toList ++ s.flatMap (fun m => (sgB m).data.toList ++ [46])
  | [], a => by simp [stB]
  | m :: s, a => by
    show (stB (a ++ sgB m ++ ⟨#[46]⟩) s).data.toList = _
    rw [stB_flat s]
    simp

theorem tx_no (s : St) : ∀ c ∈ (txS s).data.toList, ¬ c = 59 := by
  intro c hc
  unfold txS at hc
  split at hc
  · obtain rfl : c = 63 := by simpa using hc
    decide
  · rw [stB_flat] at hc
    obtain ⟨m, _, h2⟩ := List.mem_flatMap.1 (show c ∈ s.flatMap (fun m => (sgB m).data.toList ++ [46]) by simpa using hc)
    rcases List.mem_append.1 h2 with h | h
    · have := sg_mem h
      intro e
      rw [e] at this
      exact absurd this (by decide)
    · obtain rfl : c = 46 := by simpa using h
      decide

theorem sta_skip : ∀ (l rest : List UInt8) (ss : List ByteArray) (cur : ByteArray), (∀ c ∈ l, c ∈ KS) → staB (l ++ rest) ss cur = staB rest ss ⟨cur.data ++ l.toArray⟩
  | [], rest, ss, cur, _ => by simp
  | c :: l, rest, ss, cur, h => by
    have hc := h c (List.mem_cons_self ..)
    have h46 : ¬ c = 46 := fun e => by rw [e] at hc; exact absurd hc (by decide)
    have ha : amF c.toNat KS = true := by
      unfold amF
      rw [List.any_eq_true]
      exact ⟨c, hc, by simp⟩
    rw [List.cons_append, staB_in h46 ha, sta_skip l rest ss _ (fun x hx => h x (List.mem_cons_of_mem _ hx))]
    congr 1
    apply ByteArray.ext
    show (cur.data.push c) ++ l.toArray = cur.data ++ (c :: l).toArray
    apply Array.ext'
    simp

theorem sta_sets : ∀ (s : St) (ss : List ByteArray), staB (s.flatMap (fun m => (sgB m).data.toList ++ [46])) ss ⟨#[]⟩ = some (ss ++ s.map sgB, ⟨#[]⟩)
  | [], ss => by simp [staB]
  | m :: s, ss => by
    have e : (m :: s).flatMap (fun m => (sgB m).data.toList ++ [46]) = (sgB m).data.toList ++ (46 :: s.flatMap (fun m => (sgB m).data.toList ++ [46])) := by simp
    rw [e, sta_skip _ _ _ _ (fun c hc => sg_mem hc), staB_dot, sta_sets s]
    have e2 : (⟨(⟨#[]⟩ : ByteArray).data ++ (sgB m).data.toList.toArray⟩ : ByteArray) = sgB m := by
      apply ByteArray.ext
      simp
    rw [e2]
    simp

theorem sta_tx {s : St} (h : SOk s) : staF (txS s) = (s.map sgB, true) := by
  unfold staF txS
  by_cases h0 : s = []
  · subst h0; rfl
  · rw [if_neg h0]
    have h6 := (h.resolve_left h0).1
    have hf := stB_flat s ⟨#[]⟩
    have hne : ¬ stB ⟨#[]⟩ s = ⟨#[63]⟩ := by
      intro e
      have hm : (46 : UInt8) ∈ (stB ⟨#[]⟩ s).data.toList := by
        rw [hf]
        obtain ⟨m, s', rfl⟩ := List.exists_cons_of_ne_nil h0
        simp
      rw [e] at hm
      exact absurd hm (by decide)
    rw [if_neg hne, hf]
    show (match staB (s.flatMap (fun m => (sgB m).data.toList ++ [46])) [] ⟨#[]⟩ with | none => (([] : List ByteArray), false) | some (ss, cur) => (ss, decide (ss.length = 6 ∧ cur = (⟨#[]⟩ : ByteArray)))) = _
    rw [sta_sets]
    show (([] : List ByteArray) ++ s.map sgB, decide ((([] : List ByteArray) ++ s.map sgB).length = 6 ∧ (⟨#[]⟩ : ByteArray) = ⟨#[]⟩)) = _
    rw [List.nil_append]
    congr 1
    rw [decide_eq_true_iff]
    exact ⟨by rw [List.length_map]; exact h6, rfl⟩

theorem spl_size (T : Tbl) (h : TOk T) : (splB T).size ≤ 49 * T.length := by
  have e : (splB T).size = (flT T).length := by rw [← spl_flat]; rfl
  rw [e]
  clear e
  induction T with
  | nil => exact Nat.le_refl _
  | cons s T ih =>
    have h1 := txS_size s (h s (List.mem_cons_self ..))
    have h2 := ih (fun x hx => h x (List.mem_cons_of_mem _ hx))
    have e : (flT (s :: T)).length = (txS s).size + 1 + (flT T).length := by
      show ((s :: T).flatMap _).length = _
      rw [List.flatMap_cons, List.length_append, List.length_append]
      rfl
    rw [e, List.length_cons]
    omega

theorem tt_spl {T : Tbl} (h : TOk T) (hl : T.length ≤ 90) : TT (splB T) T := by
  have hc : ∀ i, celF (splB T) i = (T[i]?).map txS := by
    intro i
    unfold celF
    rw [spl_flat, cel_flat T i (fun s _ => tx_no s)]
    cases T[i]? with
    | none => rfl
    | some s => rfl
  refine ⟨fun i hi => ?_, ?_, ?_, hl, h, fun i _ => sta_tx (h.get i)⟩
  · rw [hc, List.getD_eq_getElem?_getD, List.getElem?_eq_getElem hi]; rfl
  · rw [hc, List.getElem?_eq_none (Nat.le_refl _)]; rfl
  · have := spl_size T h; omega
end Go.Proofs.YtellieabhaphhaaGreatDoor
