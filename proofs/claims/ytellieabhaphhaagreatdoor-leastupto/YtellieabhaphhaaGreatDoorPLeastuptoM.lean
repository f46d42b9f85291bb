import Derived.Test.YtellieabhaphhaaGreatDoorPLeastuptoL
/-
  Least: what comes behind a cast and the others.
-/
namespace Go.Proofs.YtellieabhaphhaaGreatDoor
open Go.RowKit

set_option maxRecDepth 100000 in
set_option maxHeartbeats 1600000 in
theorem rbehind_never (n : Nd) (v : Value) (s : List ByteArray) (w : World) (ho : n.op = 33) :
    Calls Tryz.prog 72 #[.agg #[.int .u8 n.op, .int .i64 n.x, .int .i64 n.y, .int .i64 n.v, .int .u8 n.k, .int .i64 n.t, .int .i64 n.f, .int .i64 n.a, .int .i64 n.l], v] w fun e w' => ∃ u, e = .returned u ∧ RV w' u (behR n s) ∧ (u = v ∨ New w u) ∧ Kp no w w' := by
  have HE := hide (show behR n s = [] by rw [behR, if_pos ho])
  rw [HE.out, ho]
  go_enter Tryz.func72, Tryz.ntmps72
  go_wp2
  go_ret
  exact ⟨_, rfl, RV.nil _, .inr (New.none _), by (repeat' (first | with_reducible exact Kp.refl _ _ | with_reducible refine Kp.alloc ?_ _ | with_reducible refine Kp.drewN ?_ _ | with_reducible refine Kp.drew ?_ | with_reducible refine Kp.setCell ?_ _ ?_ | (intro hh; first | rfl | exact .inl rfl | exact .inr rfl | (exfalso; (try dsimp only at hh); omega))))⟩

set_option maxRecDepth 100000 in
set_option maxHeartbeats 1600000 in
theorem rbehind_same (n : Nd) (v : Value) (s : List ByteArray) (w : World) (h : RV w v s) (ho : n.op = 42 ∨ n.op = 94) :
    Calls Tryz.prog 72 #[.agg #[.int .u8 n.op, .int .i64 n.x, .int .i64 n.y, .int .i64 n.v, .int .u8 n.k, .int .i64 n.t, .int .i64 n.f, .int .i64 n.a, .int .i64 n.l], v] w fun e w' => ∃ u, e = .returned u ∧ RV w' u (behR n s) ∧ (u = v ∨ New w u) ∧ Kp no w w' := by
  have HE := hide (show behR n s = s by rw [behR, if_neg (by omega), if_pos ho])
  rw [HE.out]
  have HS := hide h
  clear h
  rcases ho with ho | ho
  all_goals
    rw [ho]
    clear ho
    go_enter Tryz.func72, Tryz.ntmps72
    go_wp2
    go_ret
    exact ⟨_, rfl, Kp.row (S := no) (by (repeat' (first | with_reducible exact Kp.refl _ _ | with_reducible refine Kp.alloc ?_ _ | with_reducible refine Kp.drewN ?_ _ | with_reducible refine Kp.drew ?_ | with_reducible refine Kp.setCell ?_ _ ?_ | (intro hh; first | rfl | exact .inl rfl | exact .inr rfl | (exfalso; (try dsimp only at hh); omega))))) HS.out (fun _ _ => no_elim), .inl rfl, by (repeat' (first | with_reducible exact Kp.refl _ _ | with_reducible refine Kp.alloc ?_ _ | with_reducible refine Kp.drewN ?_ _ | with_reducible refine Kp.drew ?_ | with_reducible refine Kp.setCell ?_ _ ?_ | (intro hh; first | rfl | exact .inl rfl | exact .inr rfl | (exfalso; (try dsimp only at hh); omega))))⟩

set_option maxRecDepth 100000 in
set_option maxHeartbeats 1600000 in
theorem rbehind_cast (n : Nd) (v : Value) (s : List ByteArray) (w : World) (h : RV w v s) (hs : ROk s) (h0 : s ≠ []) (hg : Gn n) (ho : n.op = 126) :
    Calls Tryz.prog 72 #[.agg #[.int .u8 n.op, .int .i64 n.x, .int .i64 n.y, .int .i64 n.v, .int .u8 n.k, .int .i64 n.t, .int .i64 n.f, .int .i64 n.a, .int .i64 n.l], v] w fun e w' => ∃ u, e = .returned u ∧ RV w' u (behR n s) ∧ New w u ∧ Kp no w w' := by
  obtain ⟨x, hx⟩ := Int.eq_ofNat_of_zero_le hg.x.1
  have hx6 : x < 6 := by have := hg.x.2; omega
  have HK := hide (str_sg n.k (hg.kd (.inr ho)))
  have HE := hide (show behR n s = withR s x (mkB (rg s x) &&& bitN n.k) by
    rw [behR, if_neg (by omega), if_neg (by omega), if_pos ho, hx, Int.toNat_natCast])
  rw [HE.out]
  obtain ⟨h6, hm⟩ := hs.resolve_left h0
  have HS := hide h
  obtain ⟨a, cap, rfl⟩ := h.shape
  have h' : Row w (.slice a s.length cap) 9 1 s.length (strS s) := h
  rw [h6] at h' HS ⊢
  clear h
  obtain ⟨op, nx, ny, nv, nk, nt, nff, na, nl⟩ := n
  dsimp only at *
  subst hx ho
  obtain ⟨g, rfl, hgl, hgc⟩ := RV.at h' (k := x) hx6
  have HB := hide (fun W => rboth_c (rg s x) (bitN nk) W (ROk.sz hs x))
  have HM := hide (and_lt (bitN nk) (hs.get x))
  have HGC := hide hgc
  rw [← HK.out] at HB
  clear HE h6 hm HK
  generalize mkB (rg s x) &&& bitN nk = m at *
  have hsz := ROk.sz hs x
  generalize (rg s x) = sx at *
  have hc := conv1'
  have hcd := conv1d
  go_enter Tryz.func72, Tryz.ntmps72
  go_wp2_with fail
  refine wp_gen (fun W => Blk W w.heap.size [.int .u8 126, .int .i64 x, .int .i64 ny, .int .i64 nv, .int .u8 nk, .int .i64 nt, .int .i64 nff, .int .i64 na, .int .i64 nl] 63 ∧ Kp no w W) ⟨by (repeat' (first | ((with_reducible show (_ : List Value) = _); rfl) | ((with_reducible refine Blk.newAt _ _ _ ?_); first | with_reducible rfl | (simp; done)) | with_reducible refine Blk.alloc ?_ _ | with_reducible refine Blk.drewN ?_ _ | with_reducible refine Blk.drew ?_ | ((with_reducible refine Blk.other ?_ _ ?_); rotate_left; ((try dsimp only); omega)) | with_reducible refine Blk.setB (cs0 := ?_) ?_ ?_)), by (repeat' (first | with_reducible exact Kp.refl _ _ | with_reducible refine Kp.alloc ?_ _ | with_reducible refine Kp.drewN ?_ _ | with_reducible refine Kp.drew ?_ | with_reducible refine Kp.setCell ?_ _ ?_ | (intro hh; first | rfl | exact .inl rfl | exact .inr rfl | (exfalso; (try dsimp only at hh); omega))))⟩ ?_
  rintro W ⟨hN, hk⟩
  obtain ⟨n0, n1, n2, n3, n4, n5, n6, n7, n8, nf⟩ := hN.c9; have hnl := hN.lt
  have hc1 := (hk.cell hgl no_elim x).trans HGC.out
  have hg1 := Nat.lt_of_lt_of_le hgl hk.size
  have hxI : (x : Int) < 6 := by omega
  go_cut [5] from 10 (fun yv W5 => yv = .string (sgB m) ∧ Blk W5 w.heap.size [.int .u8 126, .int .i64 x, .int .i64 ny, .int .i64 nv, .int .u8 nk, .int .i64 nt, .int .i64 nff, .int .i64 na, .int .i64 nl] 63 ∧ Kp no w W5)
  case first =>
    go_region_with (go_at_call 117; refine (HB.out _).mono ?_; rintro e w' ⟨rfl, rfl⟩)
    all_goals
      go_wp2
      go_meet
      case rel => exact ⟨rfl, by (repeat' (first | ((with_reducible show (_ : List Value) = _); rfl) | with_reducible exact hN | ((with_reducible refine Blk.newAt _ _ _ ?_); first | with_reducible rfl | (simp; done)) | with_reducible refine Blk.alloc ?_ _ | with_reducible refine Blk.drewN ?_ _ | with_reducible refine Blk.drew ?_ | ((with_reducible refine Blk.other ?_ _ ?_); rotate_left; ((try dsimp only); omega)) | with_reducible refine Blk.setB (cs0 := ?_) ?_ ?_)), by (repeat' (first | with_reducible exact Kp.refl _ _ | with_reducible refine Kp.alloc ?_ _ | with_reducible refine Kp.drewN ?_ _ | with_reducible refine Kp.drew ?_ | with_reducible refine Kp.setCell ?_ _ ?_ | with_reducible refine Kp.trans ?_ hk (fun _ _ e => e) | (intro hh; first | rfl | exact .inl rfl | exact .inr rfl | (exfalso; (try dsimp only at hh); omega))))⟩
  case rest =>
    obtain ⟨rfl, hN5, hk5⟩ := hcut
    clear n0 n1 n2 n3 n4 n5 n6 n7 n8 hnl hN hk hc1 hg1
    obtain ⟨p0, p1, p2, p3, p4, p5, p6, p7, p8, pf⟩ := hN5.c9; have hpl := hN5.lt
    go_wp2_with fail
    refine (rwith_c _ s x m _ (Kp.row (S := no) (by (repeat' (first | with_reducible exact Kp.refl _ _ | with_reducible refine Kp.alloc ?_ _ | with_reducible refine Kp.drewN ?_ _ | with_reducible refine Kp.drew ?_ | with_reducible refine Kp.setCell ?_ _ ?_ | with_reducible refine Kp.trans ?_ hk5 (fun _ _ e => e) | (intro hh; first | rfl | exact .inl rfl | exact .inr rfl | (exfalso; (try dsimp only at hh); omega))))) HS.out (fun _ _ => no_elim)) hs hx6 HM.out).mono ?_
    rintro e w6 ⟨u, rfl, hu, hnew, k6⟩
    go_wp2
    go_ret
    exact ⟨_, rfl, hu, fun b hb => Nat.le_trans hk5.size (hnew b hb), Kp.trans (by (repeat' (first | with_reducible exact Kp.refl _ _ | with_reducible refine Kp.alloc ?_ _ | with_reducible refine Kp.drewN ?_ _ | with_reducible refine Kp.drew ?_ | with_reducible refine Kp.setCell ?_ _ ?_ | with_reducible refine Kp.trans ?_ hk5 (fun _ _ e => e) | (intro hh; first | rfl | exact .inl rfl | exact .inr rfl | (exfalso; (try dsimp only at hh); omega))))) k6 (fun _ _ e => e)⟩

end Go.Proofs.YtellieabhaphhaaGreatDoor

/-
  Least: what comes along the ways of a test.
-/
namespace Go.Proofs.YtellieabhaphhaaGreatDoor
open Go.RowKit

set_option maxRecDepth 100000 in
set_option maxHeartbeats 1600000 in
theorem rholds_t1 (n : Nd) (v : Value) (s : List ByteArray) (w : World) (h : RV w v s) (hs : ROk s) (h0 : s ≠ []) (hg : Gn n) (ho : n.op = 121) :
    Calls Tryz.prog 73 #[.agg #[.int .u8 n.op, .int .i64 n.x, .int .i64 n.y, .int .i64 n.v, .int .u8 n.k, .int .i64 n.t, .int .i64 n.f, .int .i64 n.a, .int .i64 n.l], v, .bool true] w fun e w' => ∃ u, e = .returned u ∧ RV w' u (hldR n true s) ∧ New w u ∧ Kp no w w' := by
  obtain ⟨y, hy⟩ := Int.eq_ofNat_of_zero_le hg.y.1
  have hy6 : y < 6 := by have := hg.y.2; omega
  have HE := hide (show hldR n true s = withR s y (mkB (rg s y) &&& 115) by
    rw [hldR, wayM, hy, Int.toNat_natCast, ho]; rfl)
  rw [HE.out]
  obtain ⟨h6, hm⟩ := hs.resolve_left h0
  have HS := hide h
  obtain ⟨a, cap, rfl⟩ := h.shape
  have h' : Row w (.slice a s.length cap) 9 1 s.length (strS s) := h
  rw [h6] at h' HS ⊢
  clear h
  have HKD := hide hg.kd
  obtain ⟨op, nx, ny, nv, nk, nt, nff, na, nl⟩ := n
  dsimp only at *
  subst hy ho
  obtain ⟨g, rfl, hgl, hgc⟩ := RV.at h' (k := y) hy6
  have HB := hide (fun W => rboth_c (rg s y) (115) W (ROk.sz hs y))
  have HM := hide (and_lt (115) (hs.get y))
  have HGC := hide hgc
  have hyI : (y : Int) < 6 := by omega
  rw [sg_115] at HB
  generalize mkB (rg s y) &&& 115 = m at *
  have hsz := ROk.sz hs y
  generalize (rg s y) = sy at *
  clear HE h6 hm
  go_enter Tryz.func73, Tryz.ntmps73
  go_wp2_with fail
  refine (HB.out _).mono ?_
  rintro e w' ⟨rfl, rfl⟩
  go_wp2_with fail
  refine (rwith_c _ s y m _ (Kp.row (S := no) (by (repeat' (first | with_reducible exact Kp.refl _ _ | with_reducible refine Kp.alloc ?_ _ | with_reducible refine Kp.drewN ?_ _ | with_reducible refine Kp.drew ?_ | with_reducible refine Kp.setCell ?_ _ ?_ | (intro hh; first | rfl | exact .inl rfl | exact .inr rfl | (exfalso; (try dsimp only at hh); omega))))) HS.out (fun _ _ => no_elim)) hs hy6 HM.out).mono ?_
  rintro e w6 ⟨u, rfl, hu, hnew, k6⟩
  have hkf : Kp no w w6 := Kp.trans (by (repeat' (first | with_reducible exact Kp.refl _ _ | with_reducible refine Kp.alloc ?_ _ | with_reducible refine Kp.drewN ?_ _ | with_reducible refine Kp.drew ?_ | with_reducible refine Kp.setCell ?_ _ ?_ | (intro hh; first | rfl | exact .inl rfl | exact .inr rfl | (exfalso; (try dsimp only at hh); omega))))) k6 (fun _ _ e => e)
  have hnf : New w u := fun b hb => Nat.le_trans (Kp.size (S := no) (by (repeat' (first | with_reducible exact Kp.refl _ _ | with_reducible refine Kp.alloc ?_ _ | with_reducible refine Kp.drewN ?_ _ | with_reducible refine Kp.drew ?_ | with_reducible refine Kp.setCell ?_ _ ?_ | (intro hh; first | rfl | exact .inl rfl | exact .inr rfl | (exfalso; (try dsimp only at hh); omega)))))) (hnew b hb)
  go_wp2
  go_ret
  exact ⟨_, rfl, hu, hnf, hkf⟩

set_option maxRecDepth 100000 in
set_option maxHeartbeats 1600000 in
theorem rholds_t0 (n : Nd) (v : Value) (s : List ByteArray) (w : World) (h : RV w v s) (hs : ROk s) (h0 : s ≠ []) (hg : Gn n) (ho : n.op = 121) :
    Calls Tryz.prog 73 #[.agg #[.int .u8 n.op, .int .i64 n.x, .int .i64 n.y, .int .i64 n.v, .int .u8 n.k, .int .i64 n.t, .int .i64 n.f, .int .i64 n.a, .int .i64 n.l], v, .bool false] w fun e w' => ∃ u, e = .returned u ∧ RV w' u (hldR n false s) ∧ New w u ∧ Kp no w w' := by
  obtain ⟨y, hy⟩ := Int.eq_ofNat_of_zero_le hg.y.1
  have hy6 : y < 6 := by have := hg.y.2; omega
  have HE := hide (show hldR n false s = withR s y (mkB (rg s y) &&& 13) by
    rw [hldR, wayM, hy, Int.toNat_natCast, ho]; rfl)
  rw [HE.out]
  obtain ⟨h6, hm⟩ := hs.resolve_left h0
  have HS := hide h
  obtain ⟨a, cap, rfl⟩ := h.shape
  have h' : Row w (.slice a s.length cap) 9 1 s.length (strS s) := h
  rw [h6] at h' HS ⊢
  clear h
  have HKD := hide hg.kd
  obtain ⟨op, nx, ny, nv, nk, nt, nff, na, nl⟩ := n
  dsimp only at *
  subst hy ho
  obtain ⟨g, rfl, hgl, hgc⟩ := RV.at h' (k := y) hy6
  have HB := hide (fun W => rboth_c (rg s y) (13) W (ROk.sz hs y))
  have HM := hide (and_lt (13) (hs.get y))
  have HGC := hide hgc
  have hyI : (y : Int) < 6 := by omega
  rw [sg_13] at HB
  generalize mkB (rg s y) &&& 13 = m at *
  have hsz := ROk.sz hs y
  generalize (rg s y) = sy at *
  clear HE h6 hm
  go_enter Tryz.func73, Tryz.ntmps73
  go_wp2_with fail
  refine (HB.out _).mono ?_
  rintro e w' ⟨rfl, rfl⟩
  go_wp2_with fail
  refine (rwith_c _ s y m _ (Kp.row (S := no) (by (repeat' (first | with_reducible exact Kp.refl _ _ | with_reducible refine Kp.alloc ?_ _ | with_reducible refine Kp.drewN ?_ _ | with_reducible refine Kp.drew ?_ | with_reducible refine Kp.setCell ?_ _ ?_ | (intro hh; first | rfl | exact .inl rfl | exact .inr rfl | (exfalso; (try dsimp only at hh); omega))))) HS.out (fun _ _ => no_elim)) hs hy6 HM.out).mono ?_
  rintro e w6 ⟨u, rfl, hu, hnew, k6⟩
  have hkf : Kp no w w6 := Kp.trans (by (repeat' (first | with_reducible exact Kp.refl _ _ | with_reducible refine Kp.alloc ?_ _ | with_reducible refine Kp.drewN ?_ _ | with_reducible refine Kp.drew ?_ | with_reducible refine Kp.setCell ?_ _ ?_ | (intro hh; first | rfl | exact .inl rfl | exact .inr rfl | (exfalso; (try dsimp only at hh); omega))))) k6 (fun _ _ e => e)
  have hnf : New w u := fun b hb => Nat.le_trans (Kp.size (S := no) (by (repeat' (first | with_reducible exact Kp.refl _ _ | with_reducible refine Kp.alloc ?_ _ | with_reducible refine Kp.drewN ?_ _ | with_reducible refine Kp.drew ?_ | with_reducible refine Kp.setCell ?_ _ ?_ | (intro hh; first | rfl | exact .inl rfl | exact .inr rfl | (exfalso; (try dsimp only at hh); omega)))))) (hnew b hb)
  go_wp2
  go_ret
  exact ⟨_, rfl, hu, hnf, hkf⟩

set_option maxRecDepth 100000 in
set_option maxHeartbeats 1600000 in
theorem rholds_k1 (n : Nd) (v : Value) (s : List ByteArray) (w : World) (h : RV w v s) (hs : ROk s) (h0 : s ≠ []) (hg : Gn n) (ho : n.op = 58) :
    Calls Tryz.prog 73 #[.agg #[.int .u8 n.op, .int .i64 n.x, .int .i64 n.y, .int .i64 n.v, .int .u8 n.k, .int .i64 n.t, .int .i64 n.f, .int .i64 n.a, .int .i64 n.l], v, .bool true] w fun e w' => ∃ u, e = .returned u ∧ RV w' u (hldR n true s) ∧ New w u ∧ Kp no w w' := by
  obtain ⟨y, hy⟩ := Int.eq_ofNat_of_zero_le hg.y.1
  have hy6 : y < 6 := by have := hg.y.2; omega
  have HE := hide (show hldR n true s = withR s y (mkB (rg s y) &&& bitN n.k) by
    rw [hldR, wayM, hy, Int.toNat_natCast, ho]; rfl)
  rw [HE.out]
  obtain ⟨h6, hm⟩ := hs.resolve_left h0
  have HS := hide h
  obtain ⟨a, cap, rfl⟩ := h.shape
  have h' : Row w (.slice a s.length cap) 9 1 s.length (strS s) := h
  rw [h6] at h' HS ⊢
  clear h
  have HKD := hide hg.kd
  obtain ⟨op, nx, ny, nv, nk, nt, nff, na, nl⟩ := n
  dsimp only at *
  subst hy ho
  obtain ⟨g, rfl, hgl, hgc⟩ := RV.at h' (k := y) hy6
  have HB := hide (fun W => rboth_c (rg s y) (bitN nk) W (ROk.sz hs y))
  have HM := hide (and_lt (bitN nk) (hs.get y))
  have HGC := hide hgc
  have hyI : (y : Int) < 6 := by omega
  have HKK := hide (str_sg nk (HKD.out (.inl rfl)))
  rw [← HKK.out] at HB
  clear HKK
  have hc := conv1'
  have hcd := conv1d
  generalize mkB (rg s y) &&& bitN nk = m at *
  have hsz := ROk.sz hs y
  generalize (rg s y) = sy at *
  clear HE h6 hm
  go_enter Tryz.func73, Tryz.ntmps73
  go_wp2_with fail
  refine (HB.out _).mono ?_
  rintro e w' ⟨rfl, rfl⟩
  go_wp2_with fail
  refine (rwith_c _ s y m _ (Kp.row (S := no) (by (repeat' (first | with_reducible exact Kp.refl _ _ | with_reducible refine Kp.alloc ?_ _ | with_reducible refine Kp.drewN ?_ _ | with_reducible refine Kp.drew ?_ | with_reducible refine Kp.setCell ?_ _ ?_ | (intro hh; first | rfl | exact .inl rfl | exact .inr rfl | (exfalso; (try dsimp only at hh); omega))))) HS.out (fun _ _ => no_elim)) hs hy6 HM.out).mono ?_
  rintro e w6 ⟨u, rfl, hu, hnew, k6⟩
  have hkf : Kp no w w6 := Kp.trans (by (repeat' (first | with_reducible exact Kp.refl _ _ | with_reducible refine Kp.alloc ?_ _ | with_reducible refine Kp.drewN ?_ _ | with_reducible refine Kp.drew ?_ | with_reducible refine Kp.setCell ?_ _ ?_ | (intro hh; first | rfl | exact .inl rfl | exact .inr rfl | (exfalso; (try dsimp only at hh); omega))))) k6 (fun _ _ e => e)
  have hnf : New w u := fun b hb => Nat.le_trans (Kp.size (S := no) (by (repeat' (first | with_reducible exact Kp.refl _ _ | with_reducible refine Kp.alloc ?_ _ | with_reducible refine Kp.drewN ?_ _ | with_reducible refine Kp.drew ?_ | with_reducible refine Kp.setCell ?_ _ ?_ | (intro hh; first | rfl | exact .inl rfl | exact .inr rfl | (exfalso; (try dsimp only at hh); omega)))))) (hnew b hb)
  go_wp2
  go_ret
  exact ⟨_, rfl, hu, hnf, hkf⟩

set_option maxRecDepth 100000 in
set_option maxHeartbeats 1600000 in
theorem rholds_k0 (n : Nd) (v : Value) (s : List ByteArray) (w : World) (h : RV w v s) (hs : ROk s) (h0 : s ≠ []) (hg : Gn n) (ho : n.op = 58) :
    Calls Tryz.prog 73 #[.agg #[.int .u8 n.op, .int .i64 n.x, .int .i64 n.y, .int .i64 n.v, .int .u8 n.k, .int .i64 n.t, .int .i64 n.f, .int .i64 n.a, .int .i64 n.l], v, .bool false] w fun e w' => ∃ u, e = .returned u ∧ RV w' u (hldR n false s) ∧ New w u ∧ Kp no w w' := by
  obtain ⟨y, hy⟩ := Int.eq_ofNat_of_zero_le hg.y.1
  have hy6 : y < 6 := by have := hg.y.2; omega
  have HE := hide (show hldR n false s = withR s y (mkB (rg s y) &&& (127 ^^^ bitN n.k)) by
    rw [hldR, wayM, hy, Int.toNat_natCast, ho]; rfl)
  rw [HE.out]
  obtain ⟨h6, hm⟩ := hs.resolve_left h0
  have HS := hide h
  obtain ⟨a, cap, rfl⟩ := h.shape
  have h' : Row w (.slice a s.length cap) 9 1 s.length (strS s) := h
  rw [h6] at h' HS ⊢
  clear h
  have HKD := hide hg.kd
  obtain ⟨op, nx, ny, nv, nk, nt, nff, na, nl⟩ := n
  dsimp only at *
  subst hy ho
  obtain ⟨g, rfl, hgl, hgc⟩ := RV.at h' (k := y) hy6
  have HB := hide (fun W => rboth_c (rg s y) (127 ^^^ bitN nk) W (ROk.sz hs y))
  have HM := hide (and_lt (127 ^^^ bitN nk) (hs.get y))
  have HGC := hide hgc
  have hyI : (y : Int) < 6 := by omega
  have HKK := hide (not_sg nk (HKD.out (.inl rfl)))
  rw [← HKK.out] at HB
  clear HKK
  have hc := conv1'
  have hcd := conv1d
  generalize mkB (rg s y) &&& (127 ^^^ bitN nk) = m at *
  have hsz := ROk.sz hs y
  generalize (rg s y) = sy at *
  clear HE h6 hm
  go_enter Tryz.func73, Tryz.ntmps73
  go_wp2
  go_loopg [7, 8] 7 (fun k kv iv wr => ∃ j : Nat, j ≤ 7 ∧ k = 7 - j ∧ iv = .int .i64 j ∧ kv = .string (selN (fun c => !decide ((c : Int) = nk)) j) ∧ Blk wr w.heap.size [.int .u8 58, .int .i64 nx, .int .i64 y, .int .i64 nv, .int .u8 nk, .int .i64 nt, .int .i64 nff, .int .i64 na, .int .i64 nl] 63 ∧ Kp no w wr)
  case atStart => exact ⟨0, by decide, rfl, rfl, rfl, by (repeat' (first | ((with_reducible show (_ : List Value) = _); rfl) | ((with_reducible refine Blk.newAt _ _ _ ?_); first | with_reducible rfl | (simp; done)) | with_reducible refine Blk.alloc ?_ _ | with_reducible refine Blk.drewN ?_ _ | with_reducible refine Blk.drew ?_ | ((with_reducible refine Blk.other ?_ _ ?_); rotate_left; ((try dsimp only); omega)) | with_reducible refine Blk.setB (cs0 := ?_) ?_ ?_)), by (repeat' (first | with_reducible exact Kp.refl _ _ | with_reducible refine Kp.alloc ?_ _ | with_reducible refine Kp.drewN ?_ _ | with_reducible refine Kp.drew ?_ | with_reducible refine Kp.setCell ?_ _ ?_ | (intro hh; first | rfl | exact .inl rfl | exact .inr rfl | (exfalso; (try dsimp only at hh); omega))))⟩
  case round =>
    obtain ⟨j, hj, hk, rfl, rfl, hN, hkr⟩ := hrel
    have HKK := hide hk
    have HNN := hide hN
    have HKR := hide hkr
    obtain ⟨n0, n1, n2, n3, n4, n5, n6, n7, n8, nf⟩ := hN.c9; have hnl := hN.lt
    have hc1 := (hkr.cell hgl no_elim y).trans HGC.out
    have hg1 := Nat.lt_of_lt_of_le hgl hkr.size
    clear hk hN hkr
    by_cases hlt : j < 7
    · have HY := hide (selN_yes (fun c => !decide ((c : Int) = nk)) j hlt)
      have HN := hide (selN_no (fun c => !decide ((c : Int) = nk)) j hlt)
      have hsz := selN_size (fun c => !decide ((c : Int) = nk)) j
      generalize selN (fun c => !decide ((c : Int) = nk)) j = tj at *
      have hjI : (j : Int) < 7 := by omega
      by_cases he : ((KB[j]'hlt).toNat : Int) = nk
      · have he' : (((KB[j]'hlt).toNat : Int) != nk) = false := by simpa using he
        rw [decide_eq_true he] at HN
        clear HY
        go_wp2
        go_quiet (fail)
        go_wp2
        go_roundg (7 - (j + 1))
        case measure => have := HKK.out; omega
        case rel => exact ⟨j + 1, by omega, rfl, by go_num, by rw [← HN.out rfl], HNN.out, HKR.out.drewN _⟩
      · have he' : (((KB[j]'hlt).toNat : Int) != nk) = true := by simpa using he
        rw [decide_eq_false he] at HY
        clear HN
        go_wp2
        go_quiet (fail)
        go_wp2
        go_roundg (7 - (j + 1))
        case measure => have := HKK.out; omega
        case rel => exact ⟨j + 1, by omega, rfl, by go_num, by rw [← HY.out rfl], HNN.out, HKR.out.drewN _⟩
    · obtain rfl : j = 7 := by omega
      rw [selN_all]
      go_wp2_with fail
      refine (HB.out _).mono ?_
      rintro e w' ⟨rfl, rfl⟩
      go_wp2_with fail
      refine (rwith_c _ s y m _ (Kp.row (S := no) (by (repeat' (first | with_reducible exact Kp.refl _ _ | with_reducible refine Kp.alloc ?_ _ | with_reducible refine Kp.drewN ?_ _ | with_reducible refine Kp.drew ?_ | with_reducible refine Kp.setCell ?_ _ ?_ | with_reducible refine Kp.trans ?_ HKR.out (fun _ _ e => e) | (intro hh; first | rfl | exact .inl rfl | exact .inr rfl | (exfalso; (try dsimp only at hh); omega))))) HS.out (fun _ _ => no_elim)) hs hy6 HM.out).mono ?_
      rintro e w6 ⟨u, rfl, hu, hnew, k6⟩
      have hkf : Kp no w w6 := Kp.trans (by (repeat' (first | with_reducible exact Kp.refl _ _ | with_reducible refine Kp.alloc ?_ _ | with_reducible refine Kp.drewN ?_ _ | with_reducible refine Kp.drew ?_ | with_reducible refine Kp.setCell ?_ _ ?_ | with_reducible refine Kp.trans ?_ HKR.out (fun _ _ e => e) | (intro hh; first | rfl | exact .inl rfl | exact .inr rfl | (exfalso; (try dsimp only at hh); omega))))) k6 (fun _ _ e => e)
      have hnf : New w u := fun b hb => Nat.le_trans (Kp.size (S := no) (by (repeat' (first | with_reducible exact Kp.refl _ _ | with_reducible refine Kp.alloc ?_ _ | with_reducible refine Kp.drewN ?_ _ | with_reducible refine Kp.drew ?_ | with_reducible refine Kp.setCell ?_ _ ?_ | with_reducible refine Kp.trans ?_ HKR.out (fun _ _ e => e) | (intro hh; first | rfl | exact .inl rfl | exact .inr rfl | (exfalso; (try dsimp only at hh); omega)))))) (hnew b hb)
      go_wp2
      go_ret
      exact ⟨_, rfl, hu, hnf, hkf⟩

theorem rfholds_c (n : Nd) (v : Value) (s : List ByteArray) (b : Bool) (w : World) (h : RV w v s) (hs : ROk s) (h0 : s ≠ []) (hg : Gn n) (ho : n.op = 121 ∨ n.op = 58) :
    Calls Tryz.prog 73 #[.agg #[.int .u8 n.op, .int .i64 n.x, .int .i64 n.y, .int .i64 n.v, .int .u8 n.k, .int .i64 n.t, .int .i64 n.f, .int .i64 n.a, .int .i64 n.l], v, .bool b] w fun e w' => ∃ u, e = .returned u ∧ RV w' u (hldR n b s) ∧ New w u ∧ Kp no w w' := by
  rcases ho with ho | ho <;> cases b
  · exact rholds_t0 n v s w h hs h0 hg ho
  · exact rholds_t1 n v s w h hs h0 hg ho
  · exact rholds_k0 n v s w h hs h0 hg ho
  · exact rholds_k1 n v s w h hs h0 hg ho

end Go.Proofs.YtellieabhaphhaaGreatDoor

/-
  Least: states within states, whatever table a script brings.
-/
namespace Go.Proofs.YtellieabhaphhaaGreatDoor
open Go.RowKit

theorem rfbehind_c (n : Nd) (v : Value) (s : List ByteArray) (w : World) (h : RV w v s) (hs : ROk s) (h0 : s ≠ []) (hg : Gn n) (ho : ¬ (n.op = 121 ∨ n.op = 58)) :
    Calls Tryz.prog 72 #[.agg #[.int .u8 n.op, .int .i64 n.x, .int .i64 n.y, .int .i64 n.v, .int .u8 n.k, .int .i64 n.t, .int .i64 n.f, .int .i64 n.a, .int .i64 n.l], v] w fun e w' => ∃ u, e = .returned u ∧ RV w' u (behR n s) ∧ (u = v ∨ New w u) ∧ Kp no w w' := by
  have hop := hg.op
  unfold opOk at hop
  by_cases h33 : n.op = 33
  · exact rbehind_never n v s w h33
  by_cases h42 : n.op = 42 ∨ n.op = 94
  · exact rbehind_same n v s w h h42
  by_cases h126 : n.op = 126
  · exact (rbehind_cast n v s w h hs h0 hg h126).mono fun e w' ⟨u, h1, h2, h3, h4⟩ => ⟨u, h1, h2, .inr h3, h4⟩
  by_cases h43 : n.op = 43 ∨ n.op = 60
  · exact (rbehind_two n v s w h hs h0 hg h43).mono fun e w' ⟨u, h1, h2, h3, h4⟩ => ⟨u, h1, h2, .inr h3, h4⟩
  · exact (rbehind_one n v s w h hs h0 hg (by unfold opG; omega) h43).mono fun e w' ⟨u, h1, h2, h3, h4⟩ => ⟨u, h1, h2, .inr h3, h4⟩

/-- A bool is returned of which P is said. -/
def RetB (e : Ending) (P : Bool → Prop) : Prop := ∃ b, e = .returned (.bool b) ∧ P b
theorem RetB.mk {b : Bool} {P : Bool → Prop} (h : P b) : RetB (.returned (.bool b)) P := ⟨b, rfl, h⟩

/-- The state S lies within T. -/
def InsP (S T : List ByteArray) : Prop := S = [] ∨ (T.length = 6 ∧ ∀ v, v < 6 → subB (rg S v) (rg T v) = true)

theorem sz_of {s : List ByteArray} (h : ∀ b ∈ s, b.size ≤ 2000000) (x : Nat) : (rg s x).size ≤ 2000000 := by
  unfold rg
  rw [List.getD_eq_getElem?_getD]
  cases hx : s[x]? with
  | none => exact Nat.zero_le _
  | some b => exact h b (List.mem_of_getElem? hx)

set_option maxHeartbeats 800000 in
theorem linside_c (sv tv : Value) (S T : List ByteArray) (w : World) (hs : RV w sv S) (ht : RV w tv T) (oS : ROk S) (oT : ∀ b ∈ T, b.size ≤ 2000000) :
    Calls Tryz.prog 44 #[sv, tv] w fun e w' => RetB e (fun b => b = true ↔ InsP S T) ∧ Kp no w w' := by
  by_cases h0 : S = []
  · subst h0
    obtain ⟨a, cap, rfl⟩ := hs.shape
    obtain ⟨a2, cap2, rfl⟩ := ht.shape
    go_enter Tryz.func44, Tryz.ntmps44
    go_wp2
    go_ret
    exact ⟨RetB.mk (b := true) (⟨fun _ => .inl rfl, fun _ => rfl⟩), Kp.refl _ _⟩
  · have h6 := (oS.resolve_left h0).1
    obtain ⟨a, cap, rfl⟩ := hs.shape
    obtain ⟨a2, cap2, rfl⟩ := ht.shape
    have hs' : Row w (.slice a S.length cap) 9 1 S.length (strS S) := hs
    have ht' : Row w (.slice a2 T.length cap2) 9 1 T.length (strS T) := ht
    rw [h6] at hs' ⊢
    by_cases t6 : T.length = 6
    · rw [t6] at ht' ⊢
      have HW := hide (fun v (W : World) => lwithin_c (rg S v) (rg T v) W (oS.sz v) (sz_of oT v))
      have HS := hide hs'
      have HT := hide ht'
      have HI := hide (show InsP S T ↔ ∀ v, v < 6 → subB (rg S v) (rg T v) = true from ⟨fun h => (h.resolve_left h0).2, fun h => .inr ⟨t6, h⟩⟩)
      have HZS := hide (fun v => oS.sz v)
      have HZT := hide (fun v => sz_of oT v)
      clear hs ht hs' ht' h6 t6 oS oT h0
      go_enter Tryz.func44, Tryz.ntmps44
      go_wp2
      go_loopg [5] 6 (fun k iv wr => ∃ j : Nat, j ≤ 6 ∧ k = 6 - j ∧ iv = .int .i64 j ∧ (∀ v, v < j → subB (rg S v) (rg T v) = true) ∧ Kp no w wr)
      case atStart => exact ⟨0, Nat.zero_le _, rfl, rfl, fun v hv => absurd hv (Nat.not_lt_zero _), Kp.refl _ _⟩
      case round =>
        obtain ⟨j, hj, hk, rfl, hall, kr⟩ := hrel
        have HK := hide hk
        have HKR := hide kr
        have HA := hide hall
        clear hk hall
        by_cases hlt : j < 6
        · obtain ⟨g, rfl, hg, q⟩ := RV.at (kr.row HS.out (fun _ _ => no_elim)) hlt
          obtain ⟨g2, rfl, hg2, q2⟩ := RV.at (kr.row HT.out (fun _ _ => no_elim)) hlt
          have HWJ := hide (HW.out j)
          have HZ : Hid (∀ b, subB (rg S j) (rg T j) = b → subB (rg S j) (rg T j) = b) := fun _ h => h
          have hz1 := HZS.out j
          have hz2 := HZT.out j
          have HF := hide (show subB (rg S j) (rg T j) = false → ¬ InsP S T from fun e h => by rw [HI.out.1 h j hlt] at e; cases e)
          have HT2 := hide (show subB (rg S j) (rg T j) = true → ∀ v, v < j + 1 → subB (rg S v) (rg T v) = true from fun e v hv => by
            rcases Nat.lt_succ_iff_lt_or_eq.1 hv with h | rfl
            · exact HA.out v h
            · exact e)
          clear kr HS HT HW HZS HZT HI HA HZ
          generalize subB (rg S j) (rg T j) = q0 at *
          generalize rg S j = za at *
          generalize rg T j = zb at *
          cases q0
          · go_wp2_with fail
            go_quiet ((go_at_call 75; exact Calls.quiet_of_same (HWJ.out _)))
            go_wp2
            go_ret
            exact ⟨RetB.mk (b := false) (⟨fun h => (by cases h), fun h => absurd h (HF.out trivial)⟩), HKR.out.drewN _⟩
          · go_wp2_with fail
            go_quiet ((go_at_call 75; exact Calls.quiet_of_same (HWJ.out _)))
            go_wp2
            go_roundg (6 - (j + 1))
            case measure => have := HK.out; omega
            case rel => exact ⟨j + 1, by omega, rfl, by go_num, HT2.out trivial, HKR.out.drewN _⟩
        · obtain rfl : j = 6 := by omega
          have HR := hide (HI.out.2 HA.out)
          go_wp2
          go_ret
          exact ⟨RetB.mk (b := true) (⟨fun _ => HR.out, fun _ => rfl⟩), HKR.out⟩
    · have hne : ((T.length : Int) != 6) = true := by simp; omega
      have HI := hide (show ¬ InsP S T from fun h => t6 (h.resolve_left h0).1)
      clear hs ht hs' ht' h6 t6 oS oT h0
      go_enter Tryz.func44, Tryz.ntmps44
      go_wp2
      go_ret
      exact ⟨RetB.mk (b := false) (⟨fun h => (by cases h), fun h => absurd h HI.out⟩), Kp.refl _ _⟩

-- how long lines and sets are
theorem celL_len : ∀ (l acc : List UInt8) (i : Nat) (r : List UInt8), celL l acc i = some r → r.length ≤ acc.length + l.length
  | [], _, _, _, h => by cases h
  | c :: l, acc, i, r, h => by
    by_cases hc : c = 59
    · subst hc
      cases i with
      | zero => rw [celL_zero] at h; obtain rfl := Option.some.inj h; omega
      | succ i => rw [celL_end] at h; have := celL_len l [] i r h; simp at this ⊢; omega
    · rw [celL_ne hc] at h
      have := celL_len l _ i r h
      simp at this ⊢
      omega

theorem celF_size {t line : ByteArray} {i : Nat} (h : celF t i = some line) : line.size ≤ t.size := by
  unfold celF at h
  obtain ⟨r, hr, rfl⟩ := Option.map_eq_some_iff.1 h
  have := celL_len _ _ _ _ hr
  have e1 : t.data.toList.length = t.size := rfl
  have e2 : (⟨r.toArray⟩ : ByteArray).size = r.length := by show r.toArray.size = _; simp
  simp at this
  rw [e2]
  have e3 : t.data.size = t.size := rfl
  omega

theorem staB_size : ∀ (l : List UInt8) (ss : List ByteArray) (cur : ByteArray) (rs : List ByteArray) (c : ByteArray) (N : Nat), staB l ss cur = some (rs, c) → (∀ b ∈ ss, b.size ≤ N) → cur.size + l.length ≤ N → ∀ b ∈ rs, b.size ≤ N
  | [], ss, cur, rs, c, N, h, h1, _ => by
    obtain ⟨rfl, rfl⟩ := Prod.mk.inj (Option.some.inj h)
    exact h1
  | x :: l, ss, cur, rs, c, N, h, h1, h2 => by
    rw [List.length_cons] at h2
    by_cases hx : x = 46
    · subst hx
      rw [staB_dot] at h
      refine staB_size l _ _ rs c N h (fun b hb => ?_) (by show 0 + l.length ≤ N; omega)
      rcases List.mem_append.1 hb with hb | hb
      · exact h1 b hb
      · obtain rfl : b = cur := by simpa using hb
        omega
    · cases ha : amF x.toNat KS with
      | false => rw [staB_no hx ha] at h; cases h
      | true =>
        rw [staB_in hx ha] at h
        exact staB_size l _ _ rs c N h h1 (by rw [ByteArray.size_push]; omega)

theorem staF_size (t : ByteArray) : ∀ b ∈ (staF t).1, b.size ≤ t.size := by
  unfold staF
  split
  · intro b hb; cases hb
  · cases h : staB t.data.toList [] ⟨#[]⟩ with
    | none => intro b hb; cases hb
    | some p =>
      obtain ⟨ss, cur⟩ := p
      exact staB_size _ _ _ _ _ t.size h (fun b hb => by cases hb) (by have : t.data.toList.length = t.size := rfl; show 0 + _ ≤ _; omega)

theorem staF_six {t : ByteArray} (h : (staF t).2 = true) : (staF t).1 = [] ∨ (staF t).1.length = 6 := by
  unfold staF at h ⊢
  split
  · exact .inl rfl
  · rename_i h1
    rw [if_neg h1] at h
    cases h2 : staB t.data.toList [] ⟨#[]⟩ with
    | none => exact .inl rfl
    | some p =>
      obtain ⟨ss, cur⟩ := p
      rw [h2] at h
      exact .inr (of_decide_eq_true h).1

theorem staF_ok {t : ByteArray} (h : (staF t).2 = true) (hs : t.size ≤ 2000000) : ROk (staF t).1 := by
  rcases staF_six h with h | h
  · exact .inl h
  · exact .inr ⟨h, fun b hb => Nat.le_trans (staF_size t b hb) hs⟩

theorem rv_of {w : World} {v : Value} {s : List ByteArray} (h : StrR w v s) : RV w v s := h

/-- What 'reaches' says, if it says yes. -/
def RchU (n : Nat) (u : ByteArray) (j : Int) (S : List ByteArray) : Prop :=
  j < 0 ∨ (n : Int) ≤ j ∨ S = [] ∨ ∃ line, celF u j.toNat = some line ∧ (staF line).2 = true ∧ InsP S (staF line).1

set_option maxHeartbeats 800000 in
theorem lreaches_c (a : Option Addr) (cap n : Nat) (u : ByteArray) (j : Int) (sv : Value) (S : List ByteArray) (w : World) (hn : n ≤ 90) (hu : u.size ≤ 2000000) (hs : RV w sv S) (oS : ROk S) :
    Calls Tryz.prog 40 #[.slice a n cap, .string u, .int .i64 j, sv] w fun e w' => RetB e (fun b => b = true → RchU n u j S) ∧ Kp no w w' := by
  obtain ⟨sa, sc, rfl⟩ := hs.shape
  by_cases h1 : j < 0
  · have HR := hide (show RchU n u j S from .inl h1)
    clear hs oS
    go_enter Tryz.func40, Tryz.ntmps40
    go_wp2
    go_ret
    exact ⟨RetB.mk (b := true) (fun _ => HR.out), Kp.refl _ _⟩
  by_cases h2 : (n : Int) ≤ j
  · have HR := hide (show RchU n u j S from .inr (.inl h2))
    clear hs oS
    go_enter Tryz.func40, Tryz.ntmps40
    go_wp2
    go_ret
    exact ⟨RetB.mk (b := true) (fun _ => HR.out), Kp.refl _ _⟩
  by_cases h3 : S = []
  · subst h3
    have HR := hide (show RchU n u j [] from .inr (.inr (.inl rfl)))
    have d1 : decide (j < 0) = false := by simp; omega
    have d2 : decide ((n : Int) ≤ j) = false := by simp; omega
    clear hs oS h1 h2
    go_enter Tryz.func40, Tryz.ntmps40
    go_wp2
    go_ret
    exact ⟨RetB.mk (b := true) (fun _ => HR.out), Kp.refl _ _⟩
  · obtain ⟨j, rfl⟩ := Int.eq_ofNat_of_zero_le (Int.not_lt.1 h1)
    have hj : j < n := by omega
    have h6 : (S.length : Int) = 6 := by have := (oS.resolve_left h3).1; omega
    have HC := hide (fun W => lcell_c u j W hu (by omega))
    have HSS := hide hs
    cases hcl : celF u j with
    | none =>
      rw [hcl] at HC
      have HS := hide (fun W => lstate_c ⟨#[]⟩ W (by decide))
      have hst : staF ⟨#[]⟩ = ([], false) := by decide
      rw [hst] at HS
      clear hs oS h1 h3 hcl hst
      go_enter Tryz.func40, Tryz.ntmps40
      go_wp2_with fail
      refine (HC.out _).mono ?_
      rintro e w' ⟨rfl, hw⟩
      obtain rfl := hw.symm
      go_wp2_with fail
      refine (HS.out _).mono ?_
      rintro e w1 ⟨tv, rfl, ht, _, k1⟩
      obtain ⟨ta, tc, rfl⟩ := ht.shape
      clear ht
      go_wp2
      go_ret
      exact ⟨RetB.mk (b := false) (fun h => (by cases h)), k1⟩
    | some line =>
      rw [hcl] at HC
      have hls : line.size ≤ 2000000 := Nat.le_trans (celF_size hcl) hu
      have HS := hide (fun W => lstate_c line W hls)
      cases hgd : (staF line).2 with
      | false =>
        rw [hgd] at HS
        clear hs oS h1 h3 hcl hgd
        go_enter Tryz.func40, Tryz.ntmps40
        go_wp2_with fail
        refine (HC.out _).mono ?_
        rintro e w' ⟨rfl, hw⟩
        obtain rfl := hw.symm
        go_wp2_with fail
        refine (HS.out _).mono ?_
        rintro e w1 ⟨tv, rfl, ht, _, k1⟩
        obtain ⟨ta, tc, rfl⟩ := ht.shape
        clear ht
        go_wp2
        go_ret
        exact ⟨RetB.mk (b := false) (fun h => (by cases h)), k1⟩
      | true =>
        rw [hgd] at HS
        have HR := hide (show InsP S (staF line).1 → RchU n u j S from fun h => .inr (.inr (.inr ⟨line, by rw [Int.toNat_natCast]; exact hcl, hgd, h⟩)))
        have HZT := hide (show ∀ b ∈ (staF line).1, b.size ≤ 2000000 from fun b hb => Nat.le_trans (staF_size line b hb) hls)
        have HIN := hide (fun tv W (q1 : RV W (.slice sa S.length sc) S) (q2 : RV W tv (staF line).1) => linside_c (.slice sa S.length sc) tv S (staF line).1 W q1 q2 oS HZT.out)
        clear hs oS h1 h3 hcl hgd
        generalize (staF line).1 = T at *
        go_enter Tryz.func40, Tryz.ntmps40
        go_wp2_with fail
        refine (HC.out _).mono ?_
        rintro e w' ⟨rfl, hw⟩
        obtain rfl := hw.symm
        go_wp2_with fail
        refine (HS.out _).mono ?_
        rintro e w1 ⟨tv, rfl, ht, _, k1⟩
        have HT1 := hide (rv_of ht)
        obtain ⟨ta, tc, rfl⟩ := ht.shape
        have HS1 := hide (k1.row HSS.out (fun _ _ => no_elim))
        clear ht
        go_wp2_with fail
        refine (HIN.out _ _ HS1.out HT1.out).mono ?_
        rintro e w2 ⟨⟨b, rfl, hb⟩, k2⟩
        have HB := hide hb
        clear hb
        go_wp2
        go_ret
        exact ⟨RetB.mk (b := b) (fun h => HR.out (HB.out.1 h)), k1.trans k2 (fun _ _ e => e)⟩
end Go.Proofs.YtellieabhaphhaaGreatDoor

/-
  Least: whatever table a script brings: does it obey?
-/
namespace Go.Proofs.YtellieabhaphhaaGreatDoor
open Go.RowKit

/-- What 'keeps' says, if it says yes. -/
def KpU (n : Nat) (u : ByteArray) (nd : Nd) (i : Nat) : Prop :=
  ∃ line, celF u i = some line ∧ (staF line).2 = true ∧ ((staF line).1 = [] ∨ ((¬ (nd.op = 121 ∨ nd.op = 58) → RchU n u nd.t (behR nd (staF line).1)) ∧ (nd.op = 121 ∨ nd.op = 58 → RchU n u nd.t (hldR nd true (staF line).1) ∧ RchU n u nd.f (hldR nd false (staF line).1))))

set_option maxRecDepth 100000 in
set_option maxHeartbeats 3200000 in
theorem lkeeps_no (g cap : Nat) (l : List Nd) (u : ByteArray) (i : Nat) (w : World) (hi : i ≤ 1000) (hu : u.size ≤ 2000000) (h : ∀ line, celF u i = some line → (staF line).2 = false) :
    Calls Tryz.prog 42 #[.slice (some ⟨g, 0, none⟩) l.length cap, .string u, .int .i64 i] w fun e w' => e = .returned (.bool false) ∧ Kp no w w' := by
  have HC := hide (fun W => lcell_c u i W hu hi)
  cases hcl : celF u i with
  | none =>
    rw [hcl] at HC
    have HS := hide (fun W => lstate_c ⟨#[]⟩ W (by decide))
    have hst : staF ⟨#[]⟩ = ([], false) := by decide
    rw [hst] at HS
    clear hcl h hst
    go_enter Tryz.func42, Tryz.ntmps42
    go_wp2_with fail
    refine (HC.out _).mono ?_
    rintro e w' ⟨rfl, hw⟩
    obtain rfl := hw.symm
    go_wp2_with fail
    refine (HS.out _).mono ?_
    rintro e w1 ⟨tv, rfl, ht, _, k1⟩
    obtain ⟨ta, tc, rfl⟩ := ht.shape
    clear ht
    go_wp2
    go_ret
    exact ⟨rfl, k1⟩
  | some line =>
    rw [hcl] at HC
    have HS := hide (fun W => lstate_c line W (Nat.le_trans (celF_size hcl) hu))
    rw [h line hcl] at HS
    clear hcl h
    go_enter Tryz.func42, Tryz.ntmps42
    go_wp2_with fail
    refine (HC.out _).mono ?_
    rintro e w' ⟨rfl, hw⟩
    obtain rfl := hw.symm
    go_wp2_with fail
    refine (HS.out _).mono ?_
    rintro e w1 ⟨tv, rfl, ht, _, k1⟩
    obtain ⟨ta, tc, rfl⟩ := ht.shape
    clear ht
    go_wp2
    go_ret
    exact ⟨rfl, k1⟩

set_option maxRecDepth 100000 in
set_option maxHeartbeats 3200000 in
theorem lkeeps_yes (g cap : Nat) (l : List Nd) (u line : ByteArray) (i : Nat) (nd : Nd) (w : World) (hD : DRow w (.slice (some ⟨g, 0, none⟩) l.length cap) l) (hl : l.length ≤ 90) (hnd : l[i]? = some nd) (hg : Gn nd) (hu : u.size ≤ 2000000) (hcl : celF u i = some line) (hgd : (staF line).2 = true) :
    Calls Tryz.prog 42 #[.slice (some ⟨g, 0, none⟩) l.length cap, .string u, .int .i64 i] w fun e w' => RetB e (fun b => b = true → KpU l.length u nd i) ∧ Kp no w w' := by
  have hi : i < l.length := (List.getElem?_eq_some_iff.1 hnd).1
  have HC := hide (fun W => lcell_c u i W hu (by omega))
  rw [hcl] at HC
  have hls : line.size ≤ 2000000 := Nat.le_trans (celF_size hcl) hu
  have HS := hide (fun W => lstate_c line W hls)
  rw [hgd] at HS
  have HSO := hide (staF_ok hgd hls)
  have HR := hide (fun j sv s W hs os => lreaches_c (some ⟨g, 0, none⟩) cap l.length u j sv s W hl hu hs os)
  have HP := hide (show ((staF line).1 = [] ∨ ((¬ (nd.op = 121 ∨ nd.op = 58) → RchU l.length u nd.t (behR nd (staF line).1)) ∧ (nd.op = 121 ∨ nd.op = 58 → RchU l.length u nd.t (hldR nd true (staF line).1) ∧ RchU l.length u nd.f (hldR nd false (staF line).1)))) → KpU l.length u nd i from fun h => ⟨line, hcl, hgd, h⟩)
  have HDD := hide hD
  have HND := hide hnd
  clear hD hnd hcl hgd
  generalize (staF line).1 = S at *
  have hiI : (i : Int) < l.length := by omega
  generalize KpU l.length u nd i = KPP at *
  go_enter Tryz.func42, Tryz.ntmps42
  go_wp2_with fail
  refine (HC.out _).mono ?_
  rintro e w' ⟨rfl, hw⟩
  obtain rfl := hw.symm
  go_wp2_with fail
  refine (HS.out _).mono ?_
  rintro e w1 ⟨tv, rfl, ht, _, k1⟩
  have HT1 := hide (rv_of ht)
  obtain ⟨ta, tc, rfl⟩ := ht.shape
  clear ht
  by_cases hS0 : S = []
  · subst hS0
    have HP1 := hide (HP.out (.inl rfl))
    go_wp2
    go_ret
    exact ⟨RetB.mk (b := true) (fun _ => HP1.out), k1⟩
  · have h6 : S.length = 6 := (HSO.out.resolve_left hS0).1
    have hSI : ((S.length : Int) == 0) = false := by rw [h6]; rfl
    have HK1 := hide k1
    have HD1 := hide (k1.row HDD.out (fun _ _ => no_elim))
    obtain ⟨gnl, n0, n1, n2, n3, n4, n5, n6, n7, n8⟩ := DRow.at2 HD1.out HND.out
    clear k1 h6
    have HTE := hide (fun W => ftest_c nd W)
    by_cases hT : nd.op = 121 ∨ nd.op = 58
    · rw [decide_eq_true hT] at HTE
      have HH := hide (fun b W (hW : RV W (.slice ta S.length tc) S) => rfholds_c nd (.slice ta S.length tc) S b W hW HSO.out hS0 hg hT)
      have HP1 : Hid (RchU l.length u nd.t (hldR nd true S) → RchU l.length u nd.f (hldR nd false S) → KPP) := fun a b => HP.out (.inr ⟨fun h => absurd hT h, fun _ => ⟨a, b⟩⟩)
      have HO1 := hide (HSO.out.hld nd true)
      have HO2 := hide (HSO.out.hld nd false)
      clear hT hg hS0 HP
      obtain ⟨nop, nx, ny, nv, nk, nt, nff, na, nl⟩ := nd
      dsimp only at n0 n1 n2 n3 n4 n5 n6 n7 n8 HTE HH HP1
      go_wp2_with fail
      refine (HTE.out _).mono ?_
      rintro e w2 ⟨rfl, k2⟩
      have hN2 : Blk w2 w1.heap.size [.int .u8 nop, .int .i64 nx, .int .i64 ny, .int .i64 nv, .int .u8 nk, .int .i64 nt, .int .i64 nff, .int .i64 na, .int .i64 nl] 63 := k2.blk (by (repeat' (first | ((with_reducible show (_ : List Value) = _); rfl) | ((with_reducible refine Blk.newAt _ _ _ ?_); first | with_reducible rfl | (simp; done)) | with_reducible refine Blk.alloc ?_ _ | with_reducible refine Blk.drewN ?_ _ | with_reducible refine Blk.drew ?_ | ((with_reducible refine Blk.other ?_ _ ?_); rotate_left; ((try dsimp only); omega)) | with_reducible refine Blk.setB (cs0 := ?_) ?_ ?_))) no_elim
      have HK2 := hide (show Kp no w1 w2 by (repeat' (first | with_reducible exact Kp.refl _ _ | with_reducible refine Kp.alloc ?_ _ | with_reducible refine Kp.drewN ?_ _ | with_reducible refine Kp.drew ?_ | with_reducible refine Kp.setCell ?_ _ ?_ | with_reducible refine Kp.trans ?_ k2 (fun _ _ e => e) | (intro hh; first | rfl | exact .inl rfl | exact .inr rfl | (exfalso; (try dsimp only at hh); omega)))))
      have HT2 := hide (HK2.out.row HT1.out (fun _ _ => no_elim))
      clear k2 n0 n1 n2 n3 n4 n5 n6 n7 n8
      obtain ⟨n0, n1, n2, n3, n4, n5, n6, n7, n8, nf⟩ := hN2.c9; have hnl := hN2.lt
      go_wp2_with fail
      refine (HH.out true _ HT2.out).mono ?_
      rintro e w3 ⟨u3, rfl, h3, _, k3⟩
      have H3 := hide h3
      obtain ⟨ua, uc, rfl⟩ := h3.shape
      have hN3 : Blk w3 w1.heap.size [.int .u8 nop, .int .i64 nx, .int .i64 ny, .int .i64 nv, .int .u8 nk, .int .i64 nt, .int .i64 nff, .int .i64 na, .int .i64 nl] 63 := k3.blk hN2 no_elim
      have HT3 := hide (k3.row HT2.out (fun _ _ => no_elim))
      have HK3 := hide (HK2.out.trans k3 (fun _ _ e => e))
      clear k3 h3 n0 n1 n2 n3 n4 n5 n6 n7 n8 nf hnl
      obtain ⟨n0, n1, n2, n3, n4, n5, n6, n7, n8, nf⟩ := hN3.c9; have hnl := hN3.lt
      go_wp2_with fail
      refine (HH.out false _ HT3.out).mono ?_
      rintro e w4 ⟨u4, rfl, h4, _, k4⟩
      have H4 := hide h4
      have H34 := hide (k4.row H3.out (fun _ _ => no_elim))
      obtain ⟨ub, ud, rfl⟩ := h4.shape
      have hN4 : Blk w4 w1.heap.size [.int .u8 nop, .int .i64 nx, .int .i64 ny, .int .i64 nv, .int .u8 nk, .int .i64 nt, .int .i64 nff, .int .i64 na, .int .i64 nl] 63 := k4.blk hN3 no_elim
      have HK4 := hide (HK3.out.trans k4 (fun _ _ e => e))
      clear k4 h4 n0 n1 n2 n3 n4 n5 n6 n7 n8 nf hnl
      obtain ⟨n0, n1, n2, n3, n4, n5, n6, n7, n8, nf⟩ := hN4.c9; have hnl := hN4.lt
      go_wp2_with fail
      refine (HR.out nt _ _ _ H34.out HO1.out).mono ?_
      rintro e w5 ⟨⟨b1, rfl, hb1⟩, k5⟩
      have HB1 := hide hb1
      have H5 := hide (k5.row H4.out (fun _ _ => no_elim))
      have hN5 : Blk w5 w1.heap.size [.int .u8 nop, .int .i64 nx, .int .i64 ny, .int .i64 nv, .int .u8 nk, .int .i64 nt, .int .i64 nff, .int .i64 na, .int .i64 nl] 63 := k5.blk hN4 no_elim
      have HK5 := hide (HK4.out.trans k5 (fun _ _ e => e))
      clear k5 hb1 n0 n1 n2 n3 n4 n5 n6 n7 n8 nf hnl
      obtain ⟨n0, n1, n2, n3, n4, n5, n6, n7, n8, nf⟩ := hN5.c9; have hnl := hN5.lt
      go_wp2_with fail
      refine (HR.out nff _ _ _ H5.out HO2.out).mono ?_
      rintro e w6 ⟨⟨b2, rfl, hb2⟩, k6⟩
      have HB2 := hide hb2
      clear hb2
      cases b1
      · go_wp2
        go_ret
        exact ⟨RetB.mk (b := false) (fun h => (by cases h)), (HK1.out.trans HK5.out (fun _ _ e => e)).trans k6 (fun _ _ e => e)⟩
      · go_wp2
        go_ret
        exact ⟨RetB.mk (b := b2) (fun h => HP1.out (HB1.out trivial) (HB2.out h)), (HK1.out.trans HK5.out (fun _ _ e => e)).trans k6 (fun _ _ e => e)⟩
    · rw [decide_eq_false hT] at HTE
      have HH := hide (fun W (hW : RV W (.slice ta S.length tc) S) => rfbehind_c nd (.slice ta S.length tc) S W hW HSO.out hS0 hg hT)
      have HP1 : Hid (RchU l.length u nd.t (behR nd S) → KPP) := fun a => HP.out (.inr ⟨fun _ => a, fun h => absurd h hT⟩)
      have HO1 := hide (HSO.out.beh nd)
      clear hT hg hS0 HP
      obtain ⟨nop, nx, ny, nv, nk, nt, nff, na, nl⟩ := nd
      dsimp only at n0 n1 n2 n3 n4 n5 n6 n7 n8 HTE HH HP1
      go_wp2_with fail
      refine (HTE.out _).mono ?_
      rintro e w2 ⟨rfl, k2⟩
      have hN2 : Blk w2 w1.heap.size [.int .u8 nop, .int .i64 nx, .int .i64 ny, .int .i64 nv, .int .u8 nk, .int .i64 nt, .int .i64 nff, .int .i64 na, .int .i64 nl] 63 := k2.blk (by (repeat' (first | ((with_reducible show (_ : List Value) = _); rfl) | ((with_reducible refine Blk.newAt _ _ _ ?_); first | with_reducible rfl | (simp; done)) | with_reducible refine Blk.alloc ?_ _ | with_reducible refine Blk.drewN ?_ _ | with_reducible refine Blk.drew ?_ | ((with_reducible refine Blk.other ?_ _ ?_); rotate_left; ((try dsimp only); omega)) | with_reducible refine Blk.setB (cs0 := ?_) ?_ ?_))) no_elim
      have HK2 := hide (show Kp no w1 w2 by (repeat' (first | with_reducible exact Kp.refl _ _ | with_reducible refine Kp.alloc ?_ _ | with_reducible refine Kp.drewN ?_ _ | with_reducible refine Kp.drew ?_ | with_reducible refine Kp.setCell ?_ _ ?_ | with_reducible refine Kp.trans ?_ k2 (fun _ _ e => e) | (intro hh; first | rfl | exact .inl rfl | exact .inr rfl | (exfalso; (try dsimp only at hh); omega)))))
      have HT2 := hide (HK2.out.row HT1.out (fun _ _ => no_elim))
      clear k2 n0 n1 n2 n3 n4 n5 n6 n7 n8
      obtain ⟨n0, n1, n2, n3, n4, n5, n6, n7, n8, nf⟩ := hN2.c9; have hnl := hN2.lt
      go_wp2_with fail
      refine (HH.out _ HT2.out).mono ?_
      rintro e w3 ⟨u3, rfl, h3, _, k3⟩
      have H3 := hide h3
      obtain ⟨ua, uc, rfl⟩ := h3.shape
      have hN3 : Blk w3 w1.heap.size [.int .u8 nop, .int .i64 nx, .int .i64 ny, .int .i64 nv, .int .u8 nk, .int .i64 nt, .int .i64 nff, .int .i64 na, .int .i64 nl] 63 := k3.blk hN2 no_elim
      have HK3 := hide (HK2.out.trans k3 (fun _ _ e => e))
      clear k3 h3 n0 n1 n2 n3 n4 n5 n6 n7 n8 nf hnl
      obtain ⟨n0, n1, n2, n3, n4, n5, n6, n7, n8, nf⟩ := hN3.c9; have hnl := hN3.lt
      go_wp2_with fail
      refine (HR.out nt _ _ _ H3.out HO1.out).mono ?_
      rintro e w5 ⟨⟨b1, rfl, hb1⟩, k5⟩
      have HB1 := hide hb1
      clear hb1
      go_wp2
      go_ret
      exact ⟨RetB.mk (b := b1) (fun h => HP1.out (HB1.out h)), (HK1.out.trans HK3.out (fun _ _ e => e)).trans k5 (fun _ _ e => e)⟩

theorem lkeeps_c (a : Option Addr) (cap : Nat) (l : List Nd) (u : ByteArray) (i : Nat) (nd : Nd) (w : World) (hD : DRow w (.slice a l.length cap) l) (hl : l.length ≤ 90) (hnd : l[i]? = some nd) (hg : Gn nd) (hu : u.size ≤ 2000000) :
    Calls Tryz.prog 42 #[.slice a l.length cap, .string u, .int .i64 i] w fun e w' => RetB e (fun b => b = true → KpU l.length u nd i) ∧ Kp no w w' := by
  have hi : i < l.length := (List.getElem?_eq_some_iff.1 hnd).1
  obtain ⟨_, g, rfl, _⟩ := DRow.at hD hnd
  by_cases h : ∀ line, celF u i = some line → (staF line).2 = false
  · exact (lkeeps_no g cap l u i w (by omega) hu h).mono fun e w' h => ⟨⟨false, h.1, fun h => (by cases h)⟩, h.2⟩
  · obtain ⟨line, h1⟩ := Classical.not_forall.1 h
    obtain ⟨h2, h3⟩ := Classical.not_imp.1 h1
    exact lkeeps_yes g cap l u line i nd w hD hl hnd hg hu h2 (by simpa using h3)

/-- What 'obeys' says, if it says yes. -/
def ObU (l : List Nd) (u : ByteArray) : Prop :=
  l ≠ [] → RchU l.length u 0 ([8, 8, 8, 8, 8, 8].map sgB) ∧ ∀ i nd, l[i]? = some nd → KpU l.length u nd i

theorem sv_rv {w : World} {v : Value} {s : St} (h : SV w v s) : RV w v (s.map sgB) := by
  show Row w v 9 1 (s.map sgB).length ((s.map sgB).map Value.string)
  rw [List.length_map, List.map_map]
  exact h

set_option maxRecDepth 100000 in
set_option maxHeartbeats 3200000 in
theorem lobeys_c (a : Option Addr) (cap : Nat) (l : List Nd) (u : ByteArray) (w : World) (hD : DRow w (.slice a l.length cap) l) (hl90 : l.length ≤ 90) (hg : ∀ n ∈ l, Gn n) (hu : u.size ≤ 2000000) :
    Calls Tryz.prog 24 #[.slice a l.length cap, .string u] w fun e w' => RetB e (fun b => b = true → ObU l u) ∧ Kp no w w' := by
  by_cases hl : l = []
  · subst hl
    clear hD hg
    by_cases hz : u.toList = []
    all_goals
      have HO : Hid (ObU [] u) := fun h => absurd rfl h
      go_enter Tryz.func24, Tryz.ntmps24
      go_wp2
      go_ret
      exact ⟨RetB.mk (fun _ => HO.out), Kp.refl _ _⟩
  · have hll : 0 < l.length := List.length_pos_iff.2 hl
    have hlI : ((l.length : Int) == 0) = false := by simp; omega
    have HR := hide (fun j sv s W hs os => lreaches_c a cap l.length u j sv s W hl90 hu hs os)
    have HKP := hide (fun i nd W (hW : DRow W (.slice a l.length cap) l) (hnd : l[i]? = some nd) => lkeeps_c a cap l u i nd W hW hl90 hnd (hg nd (List.mem_of_getElem? hnd)) hu)
    have HC := hide (fun W => lcell_c u l.length W hu (by omega))
    have HDD := hide hD
    have HO : Hid (ROk ([8, 8, 8, 8, 8, 8].map sgB)) := .inr ⟨rfl, fun b hb => by
      obtain ⟨m, _, rfl⟩ := List.mem_map.1 hb
      exact Nat.le_trans (sg_size _) (by decide)⟩
    have HOB : Hid (RchU l.length u 0 ([8, 8, 8, 8, 8, 8].map sgB) → (∀ i nd, l[i]? = some nd → KpU l.length u nd i) → ObU l u) := fun a b _ => ⟨a, b⟩
    clear hD hg hl
    generalize ObU l u = OB at *
    go_enter Tryz.func24, Tryz.ntmps24
    go_wp2_with fail
    refine (start_s _).mono ?_
    rintro e w1 ⟨sa, sc, rfl, hs1, _, k1⟩
    have HS1 := hide (sv_rv hs1)
    clear hs1
    go_wp2_with fail
    refine (HR.out 0 _ _ _ HS1.out HO.out).mono ?_
    rintro e w2 ⟨⟨b0, rfl, hb0⟩, k2⟩
    have HK2 := hide (k1.trans k2 (fun _ _ e => e))
    clear k1 k2 HR
    cases b0
    · go_wp2
      go_ret
      exact ⟨RetB.mk (b := false) (fun h => (by cases h)), HK2.out⟩
    have HB0 := hide (hb0 rfl)
    clear hb0
    go_wp2
    go_loopg [6] l.length (fun k iv wr => ∃ j : Nat, j ≤ l.length ∧ k = l.length - j ∧ iv = .int .i64 j ∧ (∀ i nd, i < j → l[i]? = some nd → KpU l.length u nd i) ∧ Kp no w wr)
    case atStart => exact ⟨0, Nat.zero_le _, rfl, rfl, fun i _ h => absurd h (Nat.not_lt_zero _), HK2.out⟩
    case round =>
      obtain ⟨j, hj, hkk, rfl, hall, kr⟩ := hrel
      have HK := hide hkk
      have HKR := hide kr
      have HA := hide hall
      clear hkk kr hall
      by_cases hlt : j < l.length
      · have HKJ := hide (HKP.out j l[j] wr (HKR.out.row HDD.out (fun _ _ => no_elim)) (List.getElem?_eq_getElem hlt))
        have HA2 := hide (show KpU l.length u l[j] j → ∀ i nd, i < j + 1 → l[i]? = some nd → KpU l.length u nd i from fun h i nd hi e => by
          rcases Nat.lt_succ_iff_lt_or_eq.1 hi with h' | rfl
          · exact HA.out i nd h' e
          · rw [List.getElem?_eq_getElem hlt] at e
            rw [← Option.some.inj e]
            exact h)
        clear HKP HOB HC
        generalize KpU l.length u l[j] j = KJ at *
        go_wp2_with fail
        refine HKJ.out.mono ?_
        rintro e w3 ⟨⟨b, rfl, hb⟩, k3⟩
        cases b
        · go_wp2
          go_ret
          exact ⟨RetB.mk (b := false) (fun h => (by cases h)), HKR.out.trans k3 (fun _ _ e => e)⟩
        · have HB := hide (hb rfl)
          clear hb
          go_wp2
          go_roundg (l.length - (j + 1))
          case measure => have := HK.out; omega
          case rel => exact ⟨j + 1, by omega, rfl, by go_num, HA2.out HB.out, HKR.out.trans k3 (fun _ _ e => e)⟩
      · have HF := hide (HOB.out HB0.out (fun i nd e => HA.out i nd (by have := (List.getElem?_eq_some_iff.1 e).1; omega) e))
        clear HKP HOB HA HB0
        generalize celF u l.length = cf at *
        go_wp2_with fail
        refine (HC.out _).mono ?_
        rintro e w3 ⟨rfl, rfl⟩
        go_wp2
        go_ret
        exact ⟨RetB.mk (fun _ => HF.out), HKR.out⟩

/-- The states of the table u, as numbers. -/
def tuS (u : ByteArray) (i : Nat) : St := match celF u i with | none => [] | some line => (staF line).1.map mkB

theorem ins_sub {S T : List ByteArray} (h : InsP S T) (hS : S = [] ∨ S.length = 6) : SubS (S.map mkB) (T.map mkB) := by
  rcases h with rfl | ⟨h1, h2⟩
  · exact .inl rfl
  · rcases hS with rfl | h6
    · exact .inl rfl
    · refine .inr ⟨by rw [List.length_map]; exact h6, by rw [List.length_map]; exact h1, fun v hv => ?_⟩
      rw [rg_map, rg_map]
      exact sub_mk (h2 v hv)

theorem rch_of {n : Nat} {u : ByteArray} {j : Int} {S : List ByteArray} (h : RchU n u j S) (hS : S = [] ∨ S.length = 6) : RchR n (tuS u) j (S.map mkB) := by
  rcases h with h | h | rfl | ⟨line, h1, h2, h3⟩
  · exact .inl h
  · exact .inr (.inl h)
  · exact .inr (.inr (.inl rfl))
  · refine .inr (.inr (.inr ?_))
    unfold tuS
    rw [h1]
    exact ins_sub h3 hS

theorem ROk.six {S : List ByteArray} (h : ROk S) : S = [] ∨ S.length = 6 := h.imp id And.left

theorem ob_of {l : List Nd} {u : ByteArray} (h : ObU l u) (hu : u.size ≤ 2000000) : ObR l (tuS u) := by
  constructor
  · intro hl
    have h0 := rch_of (h hl).1 (.inr rfl)
    have e : ([8, 8, 8, 8, 8, 8].map sgB).map mkB = st0 := by
      rw [List.map_map]
      simp only [List.map_cons, List.map_nil, Function.comp, mk_sg (show 8 < 128 by decide)]
    rw [e] at h0
    rcases h0 with h0 | h0 | h0 | h0
    · exact absurd h0 (by decide)
    · have := List.length_pos_iff.2 hl; omega
    · cases h0
    · exact h0
  · intro i nd hnd
    obtain ⟨line, h1, h2, h3⟩ := (h (fun e => by rw [e] at hnd; cases hnd)).2 i nd hnd
    have hr : tuS u i = (staF line).1.map mkB := by unfold tuS; rw [h1]
    have hok := staF_ok h2 (Nat.le_trans (celF_size h1) hu)
    rw [hr]
    rcases h3 with h3 | ⟨h3, h4⟩
    · rw [h3]; exact .inl rfl
    · refine .inr ⟨fun ht => ?_, fun ht => ⟨?_, ?_⟩⟩
      · rw [← beh_map]; exact rch_of (h3 ht) (hok.beh nd).six
      · rw [← hld_map]; exact rch_of (h4 ht).1 (hok.hld nd true).six
      · rw [← hld_map]; exact rch_of (h4 ht).2 (hok.hld nd false).six

/-- What 'lower' looks at, of a table that obeys. -/
theorem low_of {l : List Nd} {u : ByteArray} (h : ObU l u) (hu : u.size ≤ 2000000) (i : Nat) (hi : i < l.length) :
    ∃ line, celF u i = some line ∧ (staF line).2 = true ∧ InsP (((lstF l).getD i []).map sgB) (staF line).1 := by
  obtain ⟨line, h1, h2, _⟩ := (h (fun e => by rw [e] at hi; exact absurd hi (Nat.not_lt_zero _))).2 i l[i] (List.getElem?_eq_getElem hi)
  have hs := lst_least (ob_of h hu) i hi
  have hr : tuS u i = (staF line).1.map mkB := by unfold tuS; rw [h1]
  rw [hr] at hs
  refine ⟨line, h1, h2, ?_⟩
  rcases hs with hs | ⟨s1, s2, s3⟩
  · rw [hs]; exact .inl rfl
  · rw [List.length_map] at s2
    refine .inr ⟨s2, fun v hv => ?_⟩
    have := s3 v hv
    rw [rg_map] at this
    have e : rg (((lstF l).getD i []).map sgB) v = sgB (((lstF l).getD i []).getD v 0) := by
      unfold rg
      simp only [List.getD_eq_getElem?_getD, List.getElem?_map]
      have hv' : v < ((lstF l).getD i []).length := by omega
      simp only [List.getD_eq_getElem?_getD] at hv'
      rw [List.getElem?_eq_getElem hv']
      rfl
    rw [e]
    exact sub_mk' this
end Go.Proofs.YtellieabhaphhaaGreatDoor

/-
  narrow's maker: what it lays: nodes and marks.
-/
namespace Go.Proofs.YtellieabhaphhaaGreatDoor
open Go.RowKit

/-- The maker at work: where it reads, its row, its marks. -/
structure MS where
  p : Nat × Bool
  row : List NN
  marks : List Nat

def mCells (l : List Nat) : List Value := l.map (fun (k : Nat) => Value.int .i64 k)

abbrev MRow (w : World) (v : Value) (l : List Nat) : Prop := Row w v 3 1 l.length (mCells l)

/-- Its block and its two rows; O: the blocks that are its own. -/
def Mp (w : World) (r : Nat) (s : ByteArray) (m : MS) (O : Nat → Prop) : Prop :=
  ∃ nv iv, NR w r s m.p [nv, iv] 84 ∧ NRow w nv m.row ∧ MRow w iv m.marks ∧
    nv.ownBlock ≠ some r ∧ iv.ownBlock ≠ some r ∧ (∀ b, nv.ownBlock = some b → iv.ownBlock ≠ some b) ∧ O = Own r nv iv

def MWent (w : World) (O : Nat → Prop) (r : Nat) (s : ByteArray) (m : MS) (w' : World) : Prop := ∃ O', Mp w' r s m O' ∧ Th O w O' w'

theorem MWent.drew {w w' : World} {O : Nat → Prop} {r : Nat} {s : ByteArray} {m : MS} (h : MWent w O r s m w') : MWent w O r s m w'.drew :=
  let ⟨O', h1, h2⟩ := h
  ⟨O', h1, h2.drew⟩

section
variable {w : World} {r : Nat} {s : ByteArray} {m : MS} {O : Nat → Prop}
theorem Mp.n (h : Mp w r s m O) (n : Nat) : Mp (w.drewN n) r s m O := h
theorem Mp.drew (h : Mp w r s m O) : Mp w.drew r s m O := h
theorem Mp.own (h : Mp w r s m O) : O r := by
  obtain ⟨nv, iv, hB, hN, hI, d1, d2, d3, rfl⟩ := h; exact .inl rfl
theorem Mp.lt (h : Mp w r s m O) : ∀ b, O b → b < w.heap.size := by
  obtain ⟨nv, iv, hB, hN, hI, d1, d2, d3, rfl⟩ := h
  rintro b (h | h | h)
  · subst h; exact hB.lt
  · exact Row.lt hN h
  · exact Row.lt hI h
theorem Mp.c (h : Mp w r s m O) : w.cell? ⟨r, 0, none⟩ = some (.string s) ∧ w.cell? ⟨r, 1, none⟩ = some (.int .i64 m.p.1) ∧ w.cell? ⟨r, 2, none⟩ = some (.bool m.p.2) ∧ ∀ o, w.frozen? ⟨r, o, none⟩ = false := by
  obtain ⟨nv, iv, hB, hN, hI, d1, d2, d3, rfl⟩ := h
  exact ⟨Blk.cell hB 0, Blk.cell hB 1, Blk.cell hB 2, Blk.frozen hB⟩
theorem Mp.alloc (h : Mp w r s m O) (o : Obj) : Mp (w.alloc o) r s m O := by
  obtain ⟨nv, iv, hB, hN, hI, d1, d2, d3, rfl⟩ := h
  exact ⟨nv, iv, Blk.alloc hB o, World.ownsRow.alloc hN o, World.ownsRow.alloc hI o, d1, d2, d3, rfl⟩
theorem Mp.other (h : Mp w r s m O) {b o : Nat} (v : Value) (hb : ¬ O b) : Mp (w.setCell ⟨b, o, none⟩ v) r s m O := by
  obtain ⟨nv, iv, hB, hN, hI, d1, d2, d3, rfl⟩ := h
  exact ⟨nv, iv, Blk.other hB v (fun e => hb (.inl e.symm)), Row.set hN v (fun e => hb (.inr (.inl e))), Row.set hI v (fun e => hb (.inr (.inr e))), d1, d2, d3, rfl⟩
theorem Mp.setBad (h : Mp w r s m O) : Mp (w.setCell ⟨r, 2, none⟩ (.bool true)) r s { m with p := (m.p.1, true) } O := by
  obtain ⟨nv, iv, hB, hN, hI, d1, d2, d3, rfl⟩ := h
  exact ⟨nv, iv, Blk.set hB 2 _, Row.set hN _ d1, Row.set hI _ d2, d1, d2, d3, rfl⟩

theorem mwent_rb {w' : World} {nv iv : Value} {p : Nat × Bool} (hN : NRow w nv m.row) (hI : MRow w iv m.marks)
    (d1 : nv.ownBlock ≠ some r) (d2 : iv.ownBlock ≠ some r) (d3 : ∀ b, nv.ownBlock = some b → iv.ownBlock ≠ some b)
    (hB' : NR w' r s p [nv, iv] 84) (hk : Kp (· = r) w w') : MWent w (Own r nv iv) r s { m with p := p } w' :=
  ⟨_, ⟨nv, iv, hB', hk.row hN (fun b hb e => d1 (by rw [hb, e])), hk.row hI (fun b hb e => d2 (by rw [hb, e])), d1, d2, d3, rfl⟩, hk.mono (fun _ e => .inl e), fun _ h _ => h⟩

def expM (s : ByteArray) (m : MS) (l : List UInt8) : MS := { m with p := expF s m.p l }

theorem mpeek_w (h : Mp w r s m O) (hs : s.size ≤ 1000) (hi : m.p.1 ≤ s.size) : Calls Tryz.prog 92 #[.pointer (some ⟨r, 0, none⟩)] w fun e w' => e = .returned (.int .u8 (pkb s m.p)) ∧ ∃ n, w' = w.drewN n := by
  obtain ⟨nv, iv, hB, hN, hI, d1, d2, d3, rfl⟩ := h
  exact npeek_c r m.p.1 s m.p.2 _ _ w hs hi hB

theorem mexpect_w (h : Mp w r s m O) (u : ByteArray) (hs : s.size ≤ 1000) (hi : m.p.1 ≤ s.size) (hu : u.size ≤ 10) (hz : ∀ k (h : k < u.size), (u[k]).toNat ≠ 0) :
    Calls Tryz.prog 109 #[.pointer (some ⟨r, 0, none⟩), .string u] w fun e w' => e = .returned (.tuple #[]) ∧ MWent w O r s (expM s m u.data.toList) w' := by
  obtain ⟨nv, iv, hB, hN, hI, d1, d2, d3, rfl⟩ := h
  exact (nexpect_c r m.p.1 s u m.p.2 _ _ w hs hi hu hz hB).mono fun e w' ⟨h1, h2, h3⟩ => ⟨h1, mwent_rb hN hI d1 d2 d3 h2 h3⟩

theorem maction_w (h : Mp w r s m O) (hs : s.size ≤ 1000) (hi : m.p.1 ≤ s.size) :
    Calls Tryz.prog 138 #[.pointer (some ⟨r, 0, none⟩)] w fun e w' => e = .returned (.agg (nacF s m.p).1.cells.toArray) ∧ MWent w O r s { m with p := (nacF s m.p).2 } w' := by
  obtain ⟨nv, iv, hB, hN, hI, d1, d2, d3, rfl⟩ := h
  exact (naction_c r m.p.1 s m.p.2 _ _ w hs hi hB).mono fun e w' ⟨h1, h2, h3⟩ => ⟨h1, mwent_rb hN hI d1 d2 d3 h2 h3⟩

theorem msince_w (h : Mp w r s m O) (a : Nat) (hs : s.size ≤ 1000) (hi : m.p.1 ≤ s.size) (ha : a ≤ m.p.1) :
    Calls Tryz.prog 107 #[.pointer (some ⟨r, 0, none⟩), .int .i64 a] w fun e w' => e = .returned (.string (sinceB s a m.p.1)) ∧ ∃ n, w' = w.drewN n := by
  obtain ⟨nv, iv, hB, hN, hI, d1, d2, d3, rfl⟩ := h
  exact nsince_c r m.p.1 a s m.p.2 _ _ w hs hi ha hB
end

/-- A test, as a function. -/
def tstF (s : ByteArray) (p : Nat × Bool) : NN × (Nat × Bool) := queF s (varF s p).2 (varF s p).1

set_option maxHeartbeats 800000 in
theorem nrtest_c (r i : Nat) (s : ByteArray) (bad : Bool) (rest : List Value) (T : TypeId) (w : World) (hs : s.size ≤ 1000) (hi : i ≤ s.size)
    (h : NR w r s (i, bad) rest T) :
    Calls Tryz.prog 167 #[.pointer (some ⟨r, 0, none⟩)] w fun e w' => e = .returned (.agg (tstF s (i, bad)).1.cells.toArray) ∧ NR w' r s (tstF s (i, bad)).2 rest T ∧ Kp (· = r) w w' := by
  have HV : Hid (tstF s (i, bad) = queF s (varF s (i, bad)).2 (varF s (i, bad)).1) := rfl
  have hr := h.lt
  have hb : Blk w r (.string s :: .int .i64 i :: .bool bad :: rest) T := h
  have HK := hide (fun W (hW : NR W r s (i, bad) rest T) => nvariable_c r i s bad rest T W hs hi hW)
  have hq := varF_le s (i, bad) hi
  have HK2 := hide (fun W (hW : NR W r s (varF s (i, bad)).2 rest T) => nquestion_c r (varF s (i, bad)).2.1 (varF s (i, bad)).1 s (varF s (i, bad)).2.2 rest T W hs hq hW)
  generalize varF s (i, bad) = q at *
  obtain ⟨k, q⟩ := q
  dsimp only at HK2 HV HK
  rw [show (q.1, q.2) = q from rfl] at HK2
  generalize queF s q k = q2 at *
  obtain ⟨⟨g0, g1, g2, g3, g4, g5, g6, g7, g8, g9, g10⟩, q2⟩ := q2
  clear h
  unfold NN.cells at HK2
  dsimp only at HK2
  go_enter Tryz.func167, Tryz.ntmps167
  go_wp2_with fail
  refine (HK.out _ (by (show Blk _ _ _ _); (repeat' (first | ((with_reducible show (_ : List Value) = _); rfl) | with_reducible exact hb | ((with_reducible refine Blk.newAt _ _ _ ?_); first | with_reducible rfl | (simp; done)) | with_reducible refine Blk.alloc ?_ _ | with_reducible refine Blk.drewN ?_ _ | with_reducible refine Blk.drew ?_ | ((with_reducible refine Blk.other ?_ _ ?_); rotate_left; ((try dsimp only); omega)) | with_reducible refine Blk.setB (cs0 := ?_) ?_ ?_)))).mono ?_
  rintro e w1 ⟨rfl, hNw1, kw1⟩
  have hbw1 : Blk w1 r (.string s :: .int .i64 q.1 :: .bool q.2 :: rest) T := hNw1
  have hrw1 := hbw1.lt
  have hR1 : Blk w1 w.heap.size [.string ⟨#[]⟩, .int .i64 0, .int .i64 0, .int .i64 0, .int .i64 0, .int .i64 0, .int .i64 0, .int .i64 0, .int .i64 0, .int .i64 0, .int .i64 0] 91 := kw1.blk (by (repeat' (first | ((with_reducible show (_ : List Value) = _); rfl) | with_reducible exact hb | ((with_reducible refine Blk.newAt _ _ _ ?_); first | with_reducible rfl | (simp; done)) | with_reducible refine Blk.alloc ?_ _ | with_reducible refine Blk.drewN ?_ _ | with_reducible refine Blk.drew ?_ | ((with_reducible refine Blk.other ?_ _ ?_); rotate_left; ((try dsimp only); omega)) | with_reducible refine Blk.setB (cs0 := ?_) ?_ ?_))) (by omega)
  obtain ⟨z1_0, z1_1, z1_2, z1_3, z1_4, z1_5, z1_6, z1_7, z1_8, z1_9, z1_10, zf1⟩ := hR1.c11
  have hz1 := hR1.lt
  go_wp2_with fail
  refine (HK2.out _ (by (show Blk _ _ _ _); (repeat' (first | ((with_reducible show (_ : List Value) = _); rfl) | with_reducible exact hbw1 | ((with_reducible refine Blk.newAt _ _ _ ?_); first | with_reducible rfl | (simp; done)) | with_reducible refine Blk.alloc ?_ _ | with_reducible refine Blk.drewN ?_ _ | with_reducible refine Blk.drew ?_ | ((with_reducible refine Blk.other ?_ _ ?_); rotate_left; ((try dsimp only); omega)) | with_reducible refine Blk.setB (cs0 := ?_) ?_ ?_)))).mono ?_
  rintro e w2 ⟨rfl, hNw2, kw2⟩
  have hbw2 : Blk w2 r (.string s :: .int .i64 q2.1 :: .bool q2.2 :: rest) T := hNw2
  have hrw2 := hbw2.lt
  have hR2 : Blk w2 w.heap.size [.string ⟨#[]⟩, .int .i64 0, .int .i64 0, .int .i64 0, .int .i64 0, .int .i64 0, .int .i64 0, .int .i64 0, .int .i64 0, .int .i64 0, .int .i64 0] 91 := kw2.blk (by (repeat' (first | ((with_reducible show (_ : List Value) = _); rfl) | with_reducible exact hR1 | ((with_reducible refine Blk.newAt _ _ _ ?_); first | with_reducible rfl | (simp; done)) | with_reducible refine Blk.alloc ?_ _ | with_reducible refine Blk.drewN ?_ _ | with_reducible refine Blk.drew ?_ | ((with_reducible refine Blk.other ?_ _ ?_); rotate_left; ((try dsimp only); omega)) | with_reducible refine Blk.setB (cs0 := ?_) ?_ ?_))) (by omega)
  obtain ⟨z2_0, z2_1, z2_2, z2_3, z2_4, z2_5, z2_6, z2_7, z2_8, z2_9, z2_10, zf2⟩ := hR2.c11
  have hz2 := hR2.lt
  go_wp2
  refine body_agg (Tb := 91) (b := w.heap.size) (cs := [.string g0, .int .i64 g1, .int .i64 g2, .int .i64 g3, .int .i64 g4, .int .i64 g5, .int .i64 g6, .int .i64 g7, .int .i64 g8, .int .i64 g9, .int .i64 g10]) (.inr rfl) Tryz.results167 rfl rfl (by (repeat' (first | ((with_reducible show (_ : List Value) = _); rfl) | with_reducible exact hR2 | ((with_reducible refine Blk.newAt _ _ _ ?_); first | with_reducible rfl | (simp; done)) | with_reducible refine Blk.alloc ?_ _ | with_reducible refine Blk.drewN ?_ _ | with_reducible refine Blk.drew ?_ | ((with_reducible refine Blk.other ?_ _ ?_); rotate_left; ((try dsimp only); omega)) | with_reducible refine Blk.setB (cs0 := ?_) ?_ ?_))) Tryz.underlying91 rfl (by kernel_rfl) ?_
  rw [HV.out]
  exact ⟨rfl, by (show Blk _ _ _ _); (repeat' (first | ((with_reducible show (_ : List Value) = _); rfl) | with_reducible exact hbw2 | ((with_reducible refine Blk.newAt _ _ _ ?_); first | with_reducible rfl | (simp; done)) | with_reducible refine Blk.alloc ?_ _ | with_reducible refine Blk.drewN ?_ _ | with_reducible refine Blk.drew ?_ | ((with_reducible refine Blk.other ?_ _ ?_); rotate_left; ((try dsimp only); omega)) | with_reducible refine Blk.setB (cs0 := ?_) ?_ ?_)), by (repeat' (first | with_reducible exact Kp.refl _ _ | with_reducible refine Kp.alloc ?_ _ | with_reducible refine Kp.drewN ?_ _ | with_reducible refine Kp.drew ?_ | with_reducible refine Kp.setCell ?_ _ ?_ | with_reducible refine Kp.trans ?_ kw1 (fun _ _ e => e) | with_reducible refine Kp.trans ?_ kw2 (fun _ _ e => e) | (intro hh; first | rfl | exact .inl rfl | exact .inr rfl | (exfalso; (try dsimp only at hh); omega))))⟩

theorem mtest_w {w : World} {r : Nat} {s : ByteArray} {m : MS} {O : Nat → Prop} (h : Mp w r s m O) (hs : s.size ≤ 1000) (hi : m.p.1 ≤ s.size) :
    Calls Tryz.prog 167 #[.pointer (some ⟨r, 0, none⟩)] w fun e w' => e = .returned (.agg (tstF s m.p).1.cells.toArray) ∧ MWent w O r s { m with p := (tstF s m.p).2 } w' := by
  obtain ⟨nv, iv, hB, hN, hI, d1, d2, d3, rfl⟩ := h
  exact (nrtest_c r m.p.1 s m.p.2 _ _ w hs hi hB).mono fun e w' ⟨h1, h2, h3⟩ => ⟨h1, mwent_rb hN hI d1 d2 d3 h2 h3⟩

theorem info_mint : (Tryz.prog.info? 3).map (fun i => (i.zero, i.size, i.bytes)) = some (some (.int .i64 0), 1, 8) := by kernel_rfl

theorem mwent_row {w W w' : World} {r : Nat} {s : ByteArray} {m : MS} {nv iv : Value} {n : NN} {g cap H : Nat}
    (hB : NR w r s m.p [nv, iv] 84) (hI : MRow w iv m.marks)
    (d1 : nv.ownBlock ≠ some r) (d2 : iv.ownBlock ≠ some r) (d3 : ∀ b, nv.ownBlock = some b → iv.ownBlock ≠ some b) (hk : Kp no w W)
    (hown : w'.ownsRow 0 91 11 (.slice (some ⟨g, 0, none⟩) (m.row.length + 1) cap) (m.row.length + 1) (nnCells m.row ++ n.cells))
    (hgrow : W.grownBy w' nv.ownBlock) (hat : nv.ownBlock = some g ∨ g = H) (hH : w.heap.size ≤ H) :
    MWent w (Own r nv iv) r s { m with row := m.row ++ [n] } (w'.setCell ⟨r, 3, none⟩ (.slice (some ⟨g, 0, none⟩) (m.row.length + 1) cap)) := by
  have hr := hB.lt
  have hg : g ≠ r := by
    rcases hat with h | h
    · exact fun e => d1 (by rw [h, e])
    · omega
  have hIW : MRow W iv m.marks := hk.row hI (fun _ _ => no_elim)
  refine ⟨Own r (.slice (some ⟨g, 0, none⟩) (m.row.length + 1) cap) iv, ⟨_, iv, ?_, ?_, ?_, ?_, d2, ?_, rfl⟩, ?_, ?_⟩
  · exact Blk.set (grown_blk hgrow (hk.blk hB no_elim) d1) 3 _
  · have e1 : nnCells (m.row ++ [n]) = nnCells m.row ++ n.cells := by simp [nnCells]
    have e2 : (m.row ++ [n]).length = m.row.length + 1 := by simp
    show Row _ _ _ _ (m.row ++ [n]).length (nnCells (m.row ++ [n]))
    rw [e1, e2]
    exact Row.set hown _ (by simpa [Value.ownBlock] using hg)
  · refine Row.set (World.ownsRow.kept hIW hgrow ?_) _ d2
    cases hv : iv.ownBlock with
    | none => exact .inl rfl
    | some b => exact .inr (fun e => d3 b e.symm hv)
  · simpa [Value.ownBlock] using hg
  · intro b hb hv
    have hb' : g = b := by simpa [Value.ownBlock] using hb
    subst hb'
    rcases hat with h | h
    · exact d3 _ h hv
    · have := Row.lt hI hv; omega
  · exact ((hk.mono (fun _ e => e.elim)).grown hgrow (fun k _ e => .inr (.inl e))).setCell _ (fun _ => .inl rfl)
  · rintro b (h | h | h) hlt
    · exact .inl h
    · have hb' : g = b := by simpa [Value.ownBlock] using h
      subst hb'
      rcases hat with h | h
      · exact .inr (.inl h)
      · omega
    · exact .inr (.inr h)

theorem mwent_marks {w W w' : World} {r : Nat} {s : ByteArray} {m : MS} {nv iv : Value} {g cap H : Nat}
    (hB : NR w r s m.p [nv, iv] 84) (hN : NRow w nv m.row)
    (d1 : nv.ownBlock ≠ some r) (d2 : iv.ownBlock ≠ some r) (d3 : ∀ b, nv.ownBlock = some b → iv.ownBlock ≠ some b) (hk : Kp no w W)
    (hown : w'.ownsRow 0 3 1 (.slice (some ⟨g, 0, none⟩) (m.marks.length + 1) cap) (m.marks.length + 1) (mCells m.marks ++ [.int .i64 0]))
    (hgrow : W.grownBy w' iv.ownBlock) (hat : iv.ownBlock = some g ∨ g = H) (hH : w.heap.size ≤ H) :
    MWent w (Own r nv iv) r s { m with marks := m.marks ++ [0] } (w'.setCell ⟨r, 4, none⟩ (.slice (some ⟨g, 0, none⟩) (m.marks.length + 1) cap)) := by
  have hr := hB.lt
  have hg : g ≠ r := by
    rcases hat with h | h
    · exact fun e => d2 (by rw [h, e])
    · omega
  have hNW : NRow W nv m.row := hk.row hN (fun _ _ => no_elim)
  refine ⟨Own r nv (.slice (some ⟨g, 0, none⟩) (m.marks.length + 1) cap), ⟨nv, _, ?_, ?_, ?_, d1, ?_, ?_, rfl⟩, ?_, ?_⟩
  · exact Blk.set (grown_blk hgrow (hk.blk hB no_elim) d2) 4 _
  · refine Row.set (World.ownsRow.kept hNW hgrow ?_) _ d1
    cases hv : nv.ownBlock with
    | none => exact .inl rfl
    | some b => exact .inr (fun e => d3 b hv e.symm)
  · have e1 : mCells (m.marks ++ [0]) = mCells m.marks ++ [.int .i64 0] := by simp [mCells]
    have e2 : (m.marks ++ [0]).length = m.marks.length + 1 := by simp
    show Row _ _ _ _ (m.marks ++ [0]).length (mCells (m.marks ++ [0]))
    rw [e1, e2]
    exact Row.set hown _ (by simpa [Value.ownBlock] using hg)
  · simpa [Value.ownBlock] using hg
  · intro b hb hv
    have hb' : g = b := by simpa [Value.ownBlock] using hv
    subst hb'
    rcases hat with h | h
    · exact d3 _ hb h
    · have := Row.lt hN hb; omega
  · exact ((hk.mono (fun _ e => e.elim)).grown hgrow (fun k _ e => .inr (.inr e))).setCell _ (fun _ => .inl rfl)
  · rintro b (h | h | h) hlt
    · exact .inl h
    · exact .inr (.inl h)
    · have hb' : g = b := by simpa [Value.ownBlock] using h
      subst hb'
      rcases hat with h | h
      · exact .inr (.inr h)
      · omega

def newM (m : MS) : MS := { m with marks := m.marks ++ [0] }
def layM (m : MS) (k : Nat) : MS := { m with marks := m.marks.set k m.row.length }
def jumpN (k : Int) : NN := { nn0 with act := 15, yes := k, no := k }
def jmpM (m : MS) (k : Int) : MS := { m with row := m.row ++ [jumpN k] }

set_option maxHeartbeats 1600000 in
theorem nnewMark_c {r : Nat} {s : ByteArray} {m : MS} {O : Nat → Prop} {w : World} (hn : m.marks.length ≤ 2000) (h : Mp w r s m O) :
    Calls Tryz.prog 134 #[.pointer (some ⟨r, 0, none⟩)] w fun e w' => e = .returned (.int .i64 m.marks.length) ∧ MWent w O r s (newM m) w' := by
  obtain ⟨nv, iv, hB, hN, hI, d1, d2, d3, rfl⟩ := h
  obtain ⟨i0, hi, hz0, hz1, hz2⟩ := info_parts info_mint
  have hr := hB.lt
  have hb : Blk w r [.string s, .int .i64 m.p.1, .bool m.p.2, nv, iv] 84 := hB
  have q4 := hb.cell 4
  simp only [List.getElem?_cons_zero, List.getElem?_cons_succ] at q4
  have qf := hb.frozen
  have hone : ∀ u ∈ [Value.int .i64 0], u.oneCell' = true := by simp [Value.oneCell']
  go_enter Tryz.func134, Tryz.ntmps134
  go_wp2_with (at_builtin; refine wpList_append_lies _ rfl (.tmp 7) (.tmp 8) 82 rfl 0 3 i0 _ 1 8 Tryz.underlying82 hi hz0 hz1 hz2 rfl (by decide) iv m.marks.length (mCells m.marks) (by simp [Act.eval]) (by exact World.ownsRow.alloc hI _) ⟨w.heap.size, 0, none⟩ 1 1 [Value.int .i64 0] (by simp [Act.eval]) rfl (by exact Blk.news (Blk.new w [Value.int .i64 0] _)) hone (by decide) (by unfold maxLen; omega) (by omega) (Nat.zero_le _) _ rfl ?_; intro g cap w' hown hgrow hat hlt; have hb' := grown_blk hgrow (Blk.alloc hb _) d2; have q4' := hb'.cell 4; have qf' := hb'.frozen; simp only [List.getElem?_cons_zero, List.getElem?_cons_succ] at q4')
  go_ret
  exact ⟨ret_i64 (by push_cast; omega), mwent_marks hB hN d1 d2 d3 (W := w.alloc _) ((Kp.refl _ _).alloc _) hown hgrow hat (by simp)⟩

set_option maxHeartbeats 1600000 in
theorem njump_c {r : Nat} {s : ByteArray} {m : MS} {O : Nat → Prop} {w : World} (k : Int) (hn : m.row.length ≤ 2000) (h : Mp w r s m O) :
    Calls Tryz.prog 137 #[.pointer (some ⟨r, 0, none⟩), .int .i64 k] w fun e w' => e = .returned (.tuple #[]) ∧ MWent w O r s (jmpM m k) w' := by
  obtain ⟨nv, iv, hB, hN, hI, d1, d2, d3, rfl⟩ := h
  obtain ⟨i0, hi, hz0, hz1, hz2⟩ := info_parts info_nn
  have hr := hB.lt
  have hb : Blk w r [.string s, .int .i64 m.p.1, .bool m.p.2, nv, iv] 84 := hB
  have q3 := hb.cell 3
  simp only [List.getElem?_cons_zero, List.getElem?_cons_succ] at q3
  have qf := hb.frozen
  have hone : ∀ u ∈ (jumpN k).cells, u.oneCell' = true := by simp [jumpN, NN.cells, Value.oneCell']
  go_enter Tryz.func137, Tryz.ntmps137
  go_wp2_with (at_builtin; refine wpList_append_lies _ rfl (.tmp 8) (.tmp 12) 52 rfl 0 91 i0 _ 11 96 Tryz.underlying52 hi hz0 hz1 hz2 rfl (by decide) nv m.row.length (nnCells m.row) (by simp [Act.eval]) (by exact World.ownsRow.alloc hN _) ⟨w.heap.size, 0, none⟩ 1 1 (jumpN k).cells (by simp [Act.eval]) rfl (by exact Blk.news (Blk.new w (jumpN k).cells _)) hone (by decide) (by unfold maxLen; omega) (by omega) (Nat.zero_le _) _ rfl ?_; intro g cap w' hown hgrow hat hlt; have hb' := grown_blk hgrow (Blk.alloc hb _) d1; have q3' := hb'.cell 3; have qf' := hb'.frozen; simp only [List.getElem?_cons_zero, List.getElem?_cons_succ] at q3')
  go_end0
  exact ⟨rfl, mwent_row hB hI d1 d2 d3 (W := w.alloc _) ((Kp.refl _ _).alloc _) hown hgrow hat (by simp)⟩

set_option maxHeartbeats 1600000 in
theorem nlayMark_c {r : Nat} {s : ByteArray} {m : MS} {O : Nat → Prop} {w : World} (k : Nat) (hn : m.marks.length ≤ 2000) (_ : m.row.length ≤ 2000) (hk : k < m.marks.length) (h : Mp w r s m O) :
    Calls Tryz.prog 136 #[.pointer (some ⟨r, 0, none⟩), .int .i64 k] w fun e w' => e = .returned (.tuple #[]) ∧ MWent w O r s (layM m k) w' := by
  obtain ⟨nv, iv, hB, hN, hI, d1, d2, d3, rfl⟩ := h
  have hr := hB.lt
  have hb : Blk w r [.string s, .int .i64 m.p.1, .bool m.p.2, nv, iv] 84 := hB
  obtain ⟨g, cap, rfl, _, hg⟩ := World.ownsRow.form hI (by omega)
  obtain ⟨a, cap2, rfl⟩ := hN.shape
  have q3 := hb.cell 3
  have q4 := hb.cell 4
  simp only [List.getElem?_cons_zero, List.getElem?_cons_succ] at q3 q4
  have qf := hb.frozen
  have hgr : r ≠ g := fun e => d2 (by simp [Value.ownBlock, e])
  have ck : w.cell? ⟨g, k, none⟩ = some (.int .i64 m.marks[k]) := by
    have := Row.cell hI k (by omega)
    rw [this, mCells, List.getElem?_map, List.getElem?_eq_getElem hk]; rfl
  have cf := Row.frozen hI
  have hW : Hid (MWent w (Own r (.slice a m.row.length cap2) (.slice (some ⟨g, 0, none⟩) m.marks.length cap)) r s (layM m k) (w.setCell ⟨g, k, none⟩ (.int .i64 m.row.length))) := by
    refine ⟨_, ⟨.slice a m.row.length cap2, .slice (some ⟨g, 0, none⟩) m.marks.length cap, Blk.other hB _ hgr, Row.set hN _ (fun e => d3 g e rfl), ?_, d1, d2, d3, rfl⟩, (Kp.refl _ _).setCell _ (fun _ => .inr (.inr rfl)), fun b h _ => h⟩
    show Row _ _ _ _ (m.marks.set k m.row.length).length (mCells (m.marks.set k m.row.length))
    rw [List.length_set, mCells, List.map_set]
    exact hI.setIn _ _
  clear hI hN hB
  generalize m.marks[k] = mk at *
  go_enter Tryz.func136, Tryz.ntmps136
  go_wp2
  go_region
  all_goals
    go_wp2
    go_end0
    exact ⟨rfl, hW.out.drew⟩
end Go.Proofs.YtellieabhaphhaaGreatDoor

/-
  Plain: the maker, as a function of the text.
-/
namespace Go.Proofs.YtellieabhaphhaaGreatDoor
open Go.RowKit

def addM (m : MS) (n : NN) : MS := { m with row := m.row ++ [n] }
def putP (m : MS) (p : Nat × Bool) : MS := { m with p := p }

def tstM (s : ByteArray) (yes no : Int) (m : MS) : MS :=
  addM (putP m (tstF s m.p).2) (((tstF s m.p).1.setT (sinceB s m.p.1 (tstF s m.p).2.1)).setW yes no)

def condM : Nat → ByteArray → Int → Int → MS → MS
  | 0, _, _, _, m => m
  | f + 1, s, yes, no, m =>
    if pkb s m.p = 33 then condM f s no yes (expM s m [33])
    else if pkb s m.p = 38 then condM f s yes no (layM (condM f s m.marks.length no (newM (expM s m [38]))) m.marks.length)
    else if pkb s m.p = 124 then condM f s yes no (layM (condM f s yes m.marks.length (newM (expM s m [124]))) m.marks.length)
    else tstM s yes no m

def actM (s : ByteArray) (m : MS) : MS :=
  layM (addM (newM (expM s (putP m (nacF s m.p).2) [59])) (((nacF s m.p).1.setT (sinceB s m.p.1 (nacF s m.p).2.1)).setW m.marks.length m.marks.length)) m.marks.length

def lepM (s : ByteArray) (l : List UInt8) (k : Int) (m : MS) : MS := if k = -1 then putP m (m.p.1, true) else jmpM (expM s m l) k

def new3 (m : MS) : MS := newM (newM (newM m))

def choM (f : Nat) (S : Int → Int → MS → MS) (s : ByteArray) (h b : Int) (m : MS) : MS :=
  let L := m.marks.length
  layM (expM s (S h b (layM (jmpM (expM s (S h b (layM (expM s (condM f s L (L + 1 : Nat) (expM s (new3 m) [40])) [123]) L)) [125, 123]) (L + 2 : Nat)) (L + 1))) [125, 41]) (L + 2)

def lopM (f : Nat) (S : Int → Int → MS → MS) (s : ByteArray) (m : MS) : MS :=
  let L := m.marks.length
  layM (jmpM (expM s (S L (L + 2 : Nat) (layM (expM s (condM f s (L + 1 : Nat) (L + 2 : Nat) (layM (expM s (new3 m) [91]) L)) [123]) (L + 1))) [125, 93]) L) (L + 2)

def stM (f : Nat) (S : Int → Int → MS → MS) (s : ByteArray) (h b : Int) (m : MS) : MS :=
  if pkb s m.p = 40 then choM f S s h b m
  else if pkb s m.p = 91 then lopM f S s m
  else if pkb s m.p = 62 then lepM s [62, 59] b m
  else if pkb s m.p = 60 then lepM s [60, 59] h m
  else actM s m

def stmM : Nat → ByteArray → Int → Int → MS → MS
  | 0, _, _, _, m => m
  | f + 1, s, h, b, m => if pkb s m.p ≠ 125 ∧ pkb s m.p ≠ 0 then stmM f s h b (stM f (stmM f s) s h b m) else m

def bc (p : Nat × Bool) : Nat := cond p.2 1 0

/-- How far, and how much. -/
structure MG (s : ByteArray) (m m' : MS) : Prop where
  i : m'.p.1 ≤ s.size
  lo : m.p.1 ≤ m'.p.1
  row : m'.row.length + 3 * m.p.1 + bc m.p ≤ m.row.length + 3 * m'.p.1 + bc m'.p
  mm : m'.marks.length + 3 * m.p.1 + bc m.p ≤ m.marks.length + 3 * m'.p.1 + bc m'.p
  bad : bc m.p ≤ bc m'.p
  le : m.marks.length ≤ m'.marks.length

theorem bc_le (p : Nat × Bool) : bc p ≤ 1 := by unfold bc; cases p.2 <;> decide

theorem MG.refl {s : ByteArray} {m : MS} (h : m.p.1 ≤ s.size) : MG s m m := ⟨h, Nat.le_refl _, Nat.le_refl _, Nat.le_refl _, Nat.le_refl _, Nat.le_refl _⟩
theorem MG.trans {s : ByteArray} {a b c : MS} (h : MG s a b) (k : MG s b c) : MG s a c := by
  have h1 := h.row; have h2 := h.mm; have h3 := h.lo; have h4 := h.bad; have h5 := h.le
  have k1 := k.row; have k2 := k.mm; have k3 := k.lo; have k4 := k.bad; have k5 := k.le
  exact ⟨k.i, by omega, by omega, by omega, by omega, by omega⟩

/-- Of a condition. -/
structure MC (s : ByteArray) (m m' : MS) : Prop where
  i : m'.p.1 ≤ s.size
  lo : m.p.1 ≤ m'.p.1
  row : m'.row.length + m.p.1 ≤ m.row.length + m'.p.1 + 1
  mm : m'.marks.length + m.p.1 ≤ m.marks.length + m'.p.1
  bad : bc m.p ≤ bc m'.p
  le : m.marks.length ≤ m'.marks.length

theorem eatF_bc (s : ByteArray) (p : Nat × Bool) (c : Nat) : bc p ≤ bc (eatF s p c) ∧ p.1 ≤ (eatF s p c).1 := by
  unfold eatF bc
  obtain ⟨i, b⟩ := p
  cases b
  · exact ⟨Nat.zero_le _, by split <;> simp⟩
  · simp

theorem expF_bc (s : ByteArray) : ∀ (l : List UInt8) (p : Nat × Bool), l.all (fun u => u.toNat != 0) = true → p.1 ≤ s.size → bc p ≤ bc (expF s p l) ∧ p.1 ≤ (expF s p l).1 ∧ (expF s p l).1 ≤ s.size
  | [], p, _, h => ⟨Nat.le_refl _, Nat.le_refl _, h⟩
  | c :: l, p, hz, h => by
    rw [List.all_cons, Bool.and_eq_true] at hz
    have e1 := eatF_bc s p c.toNat
    have e2 := eatF_le s p c.toNat (by simpa using hz.1) h
    have := expF_bc s l (eatF s p c.toNat) hz.2 e2
    exact ⟨Nat.le_trans e1.1 this.1, Nat.le_trans e1.2 this.2.1, this.2.2⟩

theorem expM_mg {s : ByteArray} {m : MS} {l : List UInt8} (hz : l.all (fun u => u.toNat != 0) = true) (h : m.p.1 ≤ s.size) : MG s m (expM s m l) := by
  have e := expF_bc s l m.p hz h
  exact ⟨e.2.2, e.2.1, by show m.row.length + _ + _ ≤ m.row.length + 3 * (expF s m.p l).1 + bc (expF s m.p l); omega, by show m.marks.length + _ + _ ≤ m.marks.length + 3 * (expF s m.p l).1 + bc (expF s m.p l); omega, e.1, Nat.le_refl _⟩

theorem layM_mg {s : ByteArray} {m : MS} {k : Nat} (h : m.p.1 ≤ s.size) : MG s m (layM m k) :=
  ⟨h, Nat.le_refl _, Nat.le_refl _, by show (m.marks.set k m.row.length).length + _ + _ ≤ _; rw [List.length_set]; exact Nat.le_refl _, Nat.le_refl _, by show _ ≤ (m.marks.set k m.row.length).length; rw [List.length_set]; exact Nat.le_refl _⟩

theorem layM_len (m : MS) (k : Nat) : (layM m k).marks.length = m.marks.length := List.length_set
theorem newM_len (m : MS) : (newM m).marks.length = m.marks.length + 1 := by simp [newM]
theorem new3_len (m : MS) : (new3 m).marks.length = m.marks.length + 3 := by simp [new3, newM]

theorem eat_at {s : ByteArray} {p : Nat × Bool} {c : UInt8} (h : pkb s p = c.toNat) (hc : c.toNat ≠ 0) : expF s p [c] = (p.1 + 1, false) ∧ p.1 < s.size ∧ p.2 = false := by
  have g := pkb_good (s := s) (i := p.1) (b := p.2) (by show pkb s p ≠ 0; rw [h]; exact hc)
  refine ⟨?_, g.2, g.1⟩
  rw [expF_one, eatF_pkb s p c.toNat hc, if_pos h]

theorem varF_bc (s : ByteArray) (p : Nat × Bool) : bc p ≤ bc (varF s p).2 := by
  rw [varF_pkb]
  split
  · rename_i h
    have : pkb s p ≠ 0 := by simp at h; omega
    have := (pkb_good (s := s) (i := p.1) (b := p.2) this).1
    simp [bc, this]
  · exact bc_le p

theorem queF_bc (s : ByteArray) (p : Nat × Bool) (y : Int) (hp : p.1 ≤ s.size) : bc p ≤ bc (queF s p y).2 ∧ p.1 ≤ (queF s p y).2.1 ∧ (queF s p y).2.1 ≤ s.size := by
  unfold queF
  split
  · rename_i h
    have g := pkb_good (s := s) (i := p.1) (b := p.2) (by show pkb s p ≠ 0; rw [h]; decide)
    have k := kindF_ge s (p.1 + 1, false)
    have l := kindF_le s (p.1 + 1, false) g.2
    refine ⟨?_, ?_, l⟩
    · rw [show bc p = 0 by simp [bc, g.1]]; exact Nat.zero_le _
    · show p.1 ≤ (kindF s (p.1 + 1, false)).2.1
      have := k.1
      simp only at this
      omega
  · exact ⟨Nat.le_refl _, Nat.le_refl _, hp⟩

theorem tstF_bc (s : ByteArray) (p : Nat × Bool) (hp : p.1 ≤ s.size) : bc p ≤ bc (tstF s p).2 ∧ p.1 ≤ (tstF s p).2.1 ∧ (tstF s p).2.1 ≤ s.size := by
  have a := varF_bc s p
  have b := varF_ge s p
  have c := varF_le s p hp
  have d := queF_bc s (varF s p).2 (varF s p).1 c
  exact ⟨Nat.le_trans a d.1, Nat.le_trans b.1 d.2.1, d.2.2⟩

theorem tstM_mc {s : ByteArray} {m : MS} {yes no : Int} (h : m.p.1 ≤ s.size) : MC s m (tstM s yes no m) := by
  have e := tstF_bc s m.p h
  exact ⟨e.2.2, e.2.1, by show (m.row ++ [_]).length + _ ≤ m.row.length + (tstF s m.p).2.1 + 1; rw [List.length_append, List.length_singleton]; omega, by show m.marks.length + _ ≤ m.marks.length + (tstF s m.p).2.1; omega, e.1, Nat.le_refl _⟩

theorem condM_mc : ∀ (f : Nat) (s : ByteArray) (yes no : Int) (m : MS), s.size - m.p.1 < f → m.p.1 ≤ s.size → MC s m (condM f s yes no m)
  | 0, _, _, _, _, h, _ => by omega
  | f + 1, s, yes, no, m, hf, h => by
    rw [condM]
    split
    · rename_i hc
      obtain ⟨e1, e2, e3⟩ := eat_at (c := 33) hc (by decide)
      have g := condM_mc f s no yes (expM s m [33]) (by show s.size - (expF s m.p [33]).1 < f; rw [e1]; omega) (by show (expF s m.p [33]).1 ≤ s.size; rw [e1]; exact e2)
      have e4 : (expM s m [33]).p = (m.p.1 + 1, false) := e1
      have g1 := g.lo; have g2 := g.row; have g3 := g.mm; have g4 := g.le
      rw [e4] at g1 g2 g3
      dsimp only at g1 g2 g3
      exact ⟨g.i, by omega, by have : (expM s m [33]).row = m.row := rfl; rw [this] at g2; omega, by have : (expM s m [33]).marks = m.marks := rfl; rw [this] at g3; omega, by simp [bc, e3], g4⟩
    split
    · rename_i _ hc
      obtain ⟨e1, e2, e3⟩ := eat_at (c := 38) hc (by decide)
      have e4 : (newM (expM s m [38])).p = (m.p.1 + 1, false) := e1
      have g := condM_mc f s m.marks.length no (newM (expM s m [38])) (by rw [e4]; show s.size - (m.p.1 + 1) < f; omega) (by rw [e4]; exact e2)
      generalize condM f s m.marks.length no (newM (expM s m [38])) = m1 at *
      have g0 := g.lo
      rw [e4] at g0
      dsimp only at g0
      have k := condM_mc f s yes no (layM m1 m.marks.length) (by show s.size - m1.p.1 < f; omega) g.i
      have g2 := g.row; have g3 := g.mm; have g4 := g.le
      have k1 := k.lo; have k2 := k.row; have k3 := k.mm; have k4 := k.le
      rw [layM_len] at k3 k4
      rw [newM_len] at g3 g4
      rw [e4] at g2 g3
      have a1 : (layM m1 m.marks.length).p = m1.p := rfl
      have a2 : (layM m1 m.marks.length).row = m1.row := rfl
      have a3 : (newM (expM s m [38])).row = m.row := rfl
      have a4 : (expM s m [38]).marks = m.marks := rfl
      rw [a1] at k1 k2 k3
      rw [a2] at k2
      rw [a3] at g2
      rw [a4] at g3 g4
      dsimp only at g2 g3
      exact ⟨k.i, by omega, by omega, by omega, by simp [bc, e3], by omega⟩
    split
    · rename_i _ _ hc
      obtain ⟨e1, e2, e3⟩ := eat_at (c := 124) hc (by decide)
      have e4 : (newM (expM s m [124])).p = (m.p.1 + 1, false) := e1
      have g := condM_mc f s yes m.marks.length (newM (expM s m [124])) (by rw [e4]; show s.size - (m.p.1 + 1) < f; omega) (by rw [e4]; exact e2)
      generalize condM f s yes m.marks.length (newM (expM s m [124])) = m1 at *
      have g0 := g.lo
      rw [e4] at g0
      dsimp only at g0
      have k := condM_mc f s yes no (layM m1 m.marks.length) (by show s.size - m1.p.1 < f; omega) g.i
      have g2 := g.row; have g3 := g.mm; have g4 := g.le
      have k1 := k.lo; have k2 := k.row; have k3 := k.mm; have k4 := k.le
      rw [layM_len] at k3 k4
      rw [newM_len] at g3 g4
      rw [e4] at g2 g3
      have a1 : (layM m1 m.marks.length).p = m1.p := rfl
      have a2 : (layM m1 m.marks.length).row = m1.row := rfl
      have a3 : (newM (expM s m [124])).row = m.row := rfl
      have a4 : (expM s m [124]).marks = m.marks := rfl
      rw [a1] at k1 k2 k3
      rw [a2] at k2
      rw [a3] at g2
      rw [a4] at g3 g4
      dsimp only at g2 g3
      exact ⟨k.i, by omega, by omega, by omega, by simp [bc, e3], by omega⟩
    · exact tstM_mc h

end Go.Proofs.YtellieabhaphhaaGreatDoor
