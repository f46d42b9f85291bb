import Derived.Test.YtellieabhaphhabGreatDoorPPrunedN
/-
  narrow's maker: a test and an action: the walks.
-/
namespace Go.Proofs.YtellieabhaphhabGreatDoor
open Go.RowKit

set_option maxRecDepth 100000 in
set_option maxHeartbeats 1600000 in
theorem cond_leaf {r : Nat} {s : ByteArray} {yes nay : Int} {m : MS} (hs : s.size ≤ 1000) (hi : m.p.1 ≤ s.size) (hrow : m.row.length ≤ 2000) (g1 : pkb s m.p ≠ 33) (g2 : pkb s m.p ≠ 38) (g3 : pkb s m.p ≠ 124) :
    MStep r s 123 #[.pointer (some ⟨r, 0, none⟩), .int .i64 yes, .int .i64 nay] (.tuple #[]) m (tstM s yes nay m) := by
  intro w O h0
  obtain ⟨i0, hi0, hz0, hz1, hz2⟩ := info_parts info_nn
  have HP := hide (mpeek_w h0 hs hi)
  have HT := hide (fun W (hW : Mp W r s m O) => mtest_w hW hs hi)
  have hq := tstF_bc s m.p hi
  have HV : Hid (tstM s yes nay m = addM (putP m (tstF s m.p).2) (((tstF s m.p).1.setT (sinceB s m.p.1 (tstF s m.p).2.1)).setW yes nay)) := rfl
  have f1 : ((pkb s m.p : Int) == 33) = false := by simp; omega
  have f2 : ((pkb s m.p : Int) == 38) = false := by simp; omega
  have f3 : ((pkb s m.p : Int) == 124) = false := by simp; omega
  obtain ⟨c0, c1, c2, cf⟩ := h0.c
  generalize pkb s m.p = d at *
  generalize tstF s m.p = q at *
  obtain ⟨⟨u0, u1, u2, u3, u4, u5, u6, u7, u8, u9, u10⟩, q⟩ := q
  dsimp only [NN.setT, NN.setW] at HV hq HT
  have HSI := hide (fun W O' (hW : Mp W r s (putP m q) O') => msince_w hW m.p.1 hs hq.2.2 hq.2.1)
  rw [putP_p] at HSI
  generalize sinceB s m.p.1 q.1 = tx2 at *
  unfold NN.cells at HT
  dsimp only at HT
  clear g1 g2 g3 hq
  go_enter Tryz.func123, Tryz.ntmps123
  go_wp2_with fail
  refine HP.out.mono ?_
  rintro e w1 ⟨rfl, nq, rfl⟩
  go_wp2_with fail
  refine (HT.out _ (h0.n nq)).mono ?_
  rintro e w2 ⟨rfl, O2, h2, t2⟩
  have HT2 := hide (((Th.refl O w).n nq).trans t2)
  clear t2
  have h2lt := h2.lt _ h2.own
  have hno : ¬ O2 w2.heap.size := fun e => Nat.lt_irrefl _ (h2.lt _ e)
  go_wp2_with fail
  refine (HSI.out _ O2 (h2.alloc _)).mono ?_
  rintro e w3 ⟨rfl, n3, hw3⟩
  obtain ⟨nv, iv, hB, hN, hI, d1, d2, d3, rfl⟩ := h2
  have hb : Blk w2 r [.string s, .int .i64 q.1, .bool q.2, nv, iv] 86 := hB
  have hA3 : Blk w3 w2.heap.size [.string u0, .int .i64 u1, .int .i64 u2, .int .i64 u3, .int .i64 u4, .int .i64 u5, .int .i64 u6, .int .i64 u7, .int .i64 u8, .int .i64 u9, .int .i64 u10] 68 := by rw [hw3]; (repeat' (first | ((with_reducible show (_ : List Value) = _); rfl) | ((with_reducible refine Blk.newAt _ _ _ ?_); first | with_reducible rfl | (simp; done)) | with_reducible refine Blk.alloc ?_ _ | with_reducible refine Blk.drewN ?_ _ | with_reducible refine Blk.drew ?_ | ((with_reducible refine Blk.other ?_ _ ?_); rotate_left; ((try dsimp only); omega)) | with_reducible refine Blk.setB (cs0 := ?_) ?_ ?_))
  have hr3 : Blk w3 r [.string s, .int .i64 q.1, .bool q.2, nv, iv] 86 := by rw [hw3]; (repeat' (first | ((with_reducible show (_ : List Value) = _); rfl) | with_reducible exact hb | ((with_reducible refine Blk.newAt _ _ _ ?_); first | with_reducible rfl | (simp; done)) | with_reducible refine Blk.alloc ?_ _ | with_reducible refine Blk.drewN ?_ _ | with_reducible refine Blk.drew ?_ | ((with_reducible refine Blk.other ?_ _ ?_); rotate_left; ((try dsimp only); omega)) | with_reducible refine Blk.setB (cs0 := ?_) ?_ ?_))
  have hk3 : Kp no w2 w3 := by rw [hw3]; (repeat' (first | with_reducible exact Kp.refl _ _ | with_reducible refine Kp.alloc ?_ _ | with_reducible refine Kp.drewN ?_ _ | with_reducible refine Kp.drew ?_ | with_reducible refine Kp.setCell ?_ _ ?_ | (intro hh; first | rfl | exact .inl rfl | exact .inr rfl | (exfalso; (try dsimp only at hh); omega))))
  clear hw3 HSI HP HT
  have HN3 := hide (hk3.row hN (fun _ _ => no_elim))
  have HK3 := hide hk3
  have hs3 := hk3.size
  have hal := hA3.lt
  have hrl := hr3.lt
  clear hk3 hno
  obtain ⟨a0, a1, a2, a3, a4, a5, a6, a7, a8, a9, a10, af⟩ := hA3.c11
  have q3 := hr3.cell 3
  simp only [List.getElem?_cons_zero, List.getElem?_cons_succ] at q3
  have qf := hr3.frozen
  have hone : ∀ u ∈ ([.string tx2, .int .i64 u1, .int .i64 u2, .int .i64 u3, .int .i64 u4, .int .i64 u5, .int .i64 u6, .int .i64 u7, .int .i64 u8, .int .i64 yes, .int .i64 nay] : List Value), u.oneCell' = true := by simp [Value.oneCell']
  have hnn : nv.ownBlock ≠ some w2.heap.size := fun e => by have := Row.lt hN e; omega
  have HRW : Hid (NRow (((w3.setCell ⟨w2.heap.size, 0, none⟩ (.string tx2)).setCell ⟨w2.heap.size, 9, none⟩ (.int .i64 yes)).setCell ⟨w2.heap.size, 10, none⟩ (.int .i64 nay)) nv m.row) := Row.set (Row.set (Row.set HN3.out _ hnn) _ hnn) _ hnn
  go_wp2
  have hk3 := HK3.out
  refine wp_gen (fun W => Blk W w2.heap.size [.string tx2, .int .i64 u1, .int .i64 u2, .int .i64 u3, .int .i64 u4, .int .i64 u5, .int .i64 u6, .int .i64 u7, .int .i64 u8, .int .i64 yes, .int .i64 nay] 68 ∧ Blk W r [.string s, .int .i64 q.1, .bool q.2, nv, iv] 86 ∧ NRow W nv m.row ∧ Kp no w2 W) ⟨by (repeat' (first | ((with_reducible show (_ : List Value) = _); rfl) | with_reducible exact hA3 | ((with_reducible refine Blk.newAt _ _ _ ?_); first | with_reducible rfl | (simp; done)) | with_reducible refine Blk.alloc ?_ _ | with_reducible refine Blk.drewN ?_ _ | with_reducible refine Blk.drew ?_ | ((with_reducible refine Blk.other ?_ _ ?_); rotate_left; ((try dsimp only); omega)) | with_reducible refine Blk.setB (cs0 := ?_) ?_ ?_)), by (repeat' (first | ((with_reducible show (_ : List Value) = _); rfl) | with_reducible exact hr3 | ((with_reducible refine Blk.newAt _ _ _ ?_); first | with_reducible rfl | (simp; done)) | with_reducible refine Blk.alloc ?_ _ | with_reducible refine Blk.drewN ?_ _ | with_reducible refine Blk.drew ?_ | ((with_reducible refine Blk.other ?_ _ ?_); rotate_left; ((try dsimp only); omega)) | with_reducible refine Blk.setB (cs0 := ?_) ?_ ?_)), HRW.out, by (repeat' (first | with_reducible exact Kp.refl _ _ | with_reducible refine Kp.alloc ?_ _ | with_reducible refine Kp.drewN ?_ _ | with_reducible refine Kp.drew ?_ | with_reducible refine Kp.setCell ?_ _ ?_ | with_reducible refine Kp.trans ?_ hk3 (fun _ _ e => e) | (intro hh; first | rfl | exact .inl rfl | exact .inr rfl | (exfalso; (try dsimp only at hh); omega))))⟩ ?_
  clear a0 a1 a2 a3 a4 a5 a6 a7 a8 a9 a10 af q3 qf hal hrl hs3 hA3 hr3 HRW HN3 HK3 hk3 hnn
  rintro W ⟨hA, hR, hRW, hkW⟩
  have hs3 := hkW.size
  have hal := hA.lt
  have hrl := hR.lt
  obtain ⟨a0, a1, a2, a3, a4, a5, a6, a7, a8, a9, a10, af⟩ := hA.c11
  have q3 := hR.cell 3
  simp only [List.getElem?_cons_zero, List.getElem?_cons_succ] at q3
  have qf := hR.frozen
  go_region_law (refine step_append_lies _ rfl (.tmp 37) (.tmp 39) 43 rfl 0 68 i0 _ 11 96 Tryz.underlying43 hi0 hz0 hz1 hz2 rfl (by decide) nv m.row.length (nnCells m.row) (by simp [Act.eval]) (by exact World.ownsRow.alloc (w := W.drew) hRW _) ⟨W.heap.size, 0, none⟩ 1 1 [.string tx2, .int .i64 u1, .int .i64 u2, .int .i64 u3, .int .i64 u4, .int .i64 u5, .int .i64 u6, .int .i64 u7, .int .i64 u8, .int .i64 yes, .int .i64 nay] (by simp [Act.eval]) rfl (by exact Blk.news (Blk.new W.drew [.string tx2, .int .i64 u1, .int .i64 u2, .int .i64 u3, .int .i64 u4, .int .i64 u5, .int .i64 u6, .int .i64 u7, .int .i64 u8, .int .i64 yes, .int .i64 nay] _)) hone (by decide) (by unfold maxLen; omega) (by omega) (Nat.zero_le _) _ rfl ?_; intro g cap' w' hown hgrow hat hlt'; have hb' := grown_blk hgrow (Blk.alloc (Blk.drew hR) _) d1; have q3' := hb'.cell 3; have qf' := hb'.frozen; simp only [List.getElem?_cons_zero, List.getElem?_cons_succ] at q3')
  all_goals
    go_wp2
    go_end0
    have hM := mwent_row (s := s) (m := putP m q) (n := ⟨tx2, u1, u2, u3, u4, u5, u6, u7, u8, yes, nay⟩) hB hI d1 d2 d3 (W := W.drew.alloc _) (hkW.drew.alloc _) hown hgrow hat (by simp; omega)
    obtain ⟨O4, h4, t4⟩ := hM
    refine ⟨rfl, O4, ?_, HT2.out.trans t4⟩
    rw [HV.out]
    exact h4

set_option maxRecDepth 100000 in
set_option maxHeartbeats 3200000 in
theorem act_step {r : Nat} {s : ByteArray} {m : MS} (hs : s.size ≤ 180) (hMI : MI s m) (hp : pkb s m.p ≠ 0) :
    MStep r s 83 #[.pointer (some ⟨r, 0, none⟩)] (.tuple #[]) m (actM s m) := by
  intro w O h0
  obtain ⟨i0, hi0, hz0, hz1, hz2⟩ := info_parts info_nn
  have n1 := hMI.row; have n2 := hMI.mm; have n3 := hMI.i; have nb := bc_le m.p
  have a := nacF_bc hp
  have HT := hide (fun W (hW : Mp W r s m O) => maction_w hW (by omega) n3)
  have HV : Hid (actM s m = layM (addM (newM (expM s (putP m (nacF s m.p).2) [59])) (((nacF s m.p).1.setT (sinceB s m.p.1 (nacF s m.p).2.1)).setW m.marks.length m.marks.length)) m.marks.length) := rfl
  obtain ⟨c0, c1, c2, cf⟩ := h0.c
  clear hp hMI
  generalize nacF s m.p = q at *
  obtain ⟨⟨u0, u1, u2, u3, u4, u5, u6, u7, u8, u9, u10⟩, q⟩ := q
  dsimp only [NN.setT, NN.setW] at HV a HT
  have HSI := hide (fun W O' (hW : Mp W r s (putP m q) O') => msince_w hW m.p.1 (by omega) a.2.1 a.1)
  rw [putP_p] at HSI
  generalize sinceB s m.p.1 q.1 = tx2 at *
  unfold NN.cells at HT
  dsimp only at HT
  have S1 : Hid (MStep r s 73 #[.pointer (some ⟨r, 0, none⟩), .string ⟨#[59]⟩] (.tuple #[]) (putP m q) (expM s (putP m q) [59])) := exp_step ⟨#[59]⟩ (by omega) a.2.1 (by decide) (by decide)
  have xr : (expM s (putP m q) [59]).row = m.row := rfl
  have xm : (expM s (putP m q) [59]).marks = m.marks := rfl
  generalize expM s (putP m q) [59] = x at *
  have S2 : Hid (MStep r s 122 #[.pointer (some ⟨r, 0, none⟩)] (.int .i64 m.marks.length) x (newM x)) := by
    have h := new_step (r := r) (s := s) (m := x) (by rw [xm]; omega)
    rw [xm] at h
    exact h
  have S3 : Hid (∀ n : NN, MStep r s 124 #[.pointer (some ⟨r, 0, none⟩), .int .i64 m.marks.length] (.tuple #[]) (addM (newM x) n) (layM (addM (newM x) n) m.marks.length)) :=
    fun n => lay_step m.marks.length (by rw [addM_marks, newM_len, xm]; omega) (by rw [addM_row, newM_row, xr]; omega) (by rw [addM_marks, newM_len, xm]; omega)
  have hyl : (newM x).row.length ≤ 2000 := by rw [newM_row, xr]; omega
  clear xr xm
  generalize newM x = y at *
  generalize m.marks.length = L at *
  go_enter Tryz.func83, Tryz.ntmps83
  go_wp2_with fail
  refine (HT.out _ h0).mono ?_
  rintro e w2 ⟨rfl, O2, h2, t2⟩
  have hno : ¬ O2 w2.heap.size := fun e => Nat.lt_irrefl _ (h2.lt _ e)
  have hrH := h2.lt _ h2.own
  have hsw := t2.1.size
  go_wp2_with fail
  refine (HSI.out _ O2 (h2.alloc _)).mono ?_
  rintro e w3 ⟨rfl, nq, hw3⟩
  have H3 : Hid (Mp w3 r s (putP m q) O2) := by show Mp _ _ _ _ _; rw [hw3]; exact (h2.alloc _).n _
  have T3 : Hid (Th O w O2 w3) := by show Th _ _ _ _; rw [hw3]; exact (t2.alloc _).n _
  have hA3 : Blk w3 w2.heap.size [.string u0, .int .i64 u1, .int .i64 u2, .int .i64 u3, .int .i64 u4, .int .i64 u5, .int .i64 u6, .int .i64 u7, .int .i64 u8, .int .i64 u9, .int .i64 u10] 68 := by rw [hw3]; (repeat' (first | ((with_reducible show (_ : List Value) = _); rfl) | ((with_reducible refine Blk.newAt _ _ _ ?_); first | with_reducible rfl | (simp; done)) | with_reducible refine Blk.alloc ?_ _ | with_reducible refine Blk.drewN ?_ _ | with_reducible refine Blk.drew ?_ | ((with_reducible refine Blk.other ?_ _ ?_); rotate_left; ((try dsimp only); omega)) | with_reducible refine Blk.setB (cs0 := ?_) ?_ ?_))
  clear hw3 t2 h2 HT HSI c0 c1 c2 cf
  have hal := hA3.lt
  obtain ⟨a0, a1, a2, a3, a4, a5, a6, a7, a8, a9, a10, af⟩ := hA3.c11
  go_wp2_with fail
  refine (S1.out _ O2 (H3.out.other _ hno)).mono ?_
  rintro e w4 ⟨rfl, O4, h4, t4⟩
  have hA4 := t4.blk (b := w2.heap.size) (cs := [.string tx2, .int .i64 u1, .int .i64 u2, .int .i64 u3, .int .i64 u4, .int .i64 u5, .int .i64 u6, .int .i64 u7, .int .i64 u8, .int .i64 u9, .int .i64 u10]) (T := 68) (by (repeat' (first | ((with_reducible show (_ : List Value) = _); rfl) | with_reducible exact hA3 | ((with_reducible refine Blk.newAt _ _ _ ?_); first | with_reducible rfl | (simp; done)) | with_reducible refine Blk.alloc ?_ _ | with_reducible refine Blk.drewN ?_ _ | with_reducible refine Blk.drew ?_ | ((with_reducible refine Blk.other ?_ _ ?_); rotate_left; ((try dsimp only); omega)) | with_reducible refine Blk.setB (cs0 := ?_) ?_ ?_))) hno
  have T4 := hide ((T3.out.set _ (.inr hsw)).trans t4)
  clear t4 T3 H3 hA3 a0 a1 a2 a3 a4 a5 a6 a7 a8 a9 a10 af hal hno
  go_wp2_with fail
  refine (S2.out _ O4 h4).mono ?_
  rintro e w5 ⟨rfl, O5, h5, t5⟩
  have hA5 := t5.blk hA4.1 hA4.2
  have T5 := hide (T4.out.trans t5)
  clear t5 T4 hA4 h4
  obtain ⟨nv, iv, hB, hN, hI, d1, d2, d3, rfl⟩ := h5
  obtain ⟨hA5, hnO⟩ := hA5
  have hb : Blk w5 r [.string s, .int .i64 y.p.1, .bool y.p.2, nv, iv] 86 := hB
  have hnn : nv.ownBlock ≠ some w2.heap.size := fun e => hnO (.inr (.inl e))
  have hni : iv.ownBlock ≠ some w2.heap.size := fun e => hnO (.inr (.inr e))
  have hal := hA5.lt
  have hrl := hb.lt
  obtain ⟨a0, a1, a2, a3, a4, a5, a6, a7, a8, a9, a10, af⟩ := hA5.c11
  have q3 := hb.cell 3
  simp only [List.getElem?_cons_zero, List.getElem?_cons_succ] at q3
  have qf := hb.frozen
  have hone : ∀ u ∈ ([.string tx2, .int .i64 u1, .int .i64 u2, .int .i64 u3, .int .i64 u4, .int .i64 u5, .int .i64 u6, .int .i64 u7, .int .i64 u8, .int .i64 L, .int .i64 L] : List Value), u.oneCell' = true := by simp [Value.oneCell']
  go_wp2
  refine wp_gen (fun W => Blk W w2.heap.size [.string tx2, .int .i64 u1, .int .i64 u2, .int .i64 u3, .int .i64 u4, .int .i64 u5, .int .i64 u6, .int .i64 u7, .int .i64 u8, .int .i64 L, .int .i64 L] 68 ∧ Blk W r [.string s, .int .i64 y.p.1, .bool y.p.2, nv, iv] 86 ∧ NRow W nv y.row ∧ MRow W iv y.marks ∧ Th O w (Own r nv iv) W) ⟨by (repeat' (first | ((with_reducible show (_ : List Value) = _); rfl) | with_reducible exact hA5 | ((with_reducible refine Blk.newAt _ _ _ ?_); first | with_reducible rfl | (simp; done)) | with_reducible refine Blk.alloc ?_ _ | with_reducible refine Blk.drewN ?_ _ | with_reducible refine Blk.drew ?_ | ((with_reducible refine Blk.other ?_ _ ?_); rotate_left; ((try dsimp only); omega)) | with_reducible refine Blk.setB (cs0 := ?_) ?_ ?_)), by (repeat' (first | ((with_reducible show (_ : List Value) = _); rfl) | with_reducible exact hb | ((with_reducible refine Blk.newAt _ _ _ ?_); first | with_reducible rfl | (simp; done)) | with_reducible refine Blk.alloc ?_ _ | with_reducible refine Blk.drewN ?_ _ | with_reducible refine Blk.drew ?_ | ((with_reducible refine Blk.other ?_ _ ?_); rotate_left; ((try dsimp only); omega)) | with_reducible refine Blk.setB (cs0 := ?_) ?_ ?_)), Row.set (Row.set hN _ hnn) _ hnn, Row.set (Row.set hI _ hni) _ hni, (T5.out.set _ (.inr hsw)).set _ (.inr hsw)⟩ ?_
  clear a0 a1 a2 a3 a4 a5 a6 a7 a8 a9 a10 af q3 qf hal hrl hA5
  rintro W ⟨hA, hR, hRW, hIW, htW⟩
  have HTW := hide htW
  have hal := hA.lt
  have hrl := hR.lt
  obtain ⟨a0, a1, a2, a3, a4, a5, a6, a7, a8, a9, a10, af⟩ := hA.c11
  have q3 := hR.cell 3
  simp only [List.getElem?_cons_zero, List.getElem?_cons_succ] at q3
  have qf := hR.frozen
  go_region_law (refine step_append_lies _ rfl (.tmp 34) (.tmp 36) 43 rfl 0 68 i0 _ 11 96 Tryz.underlying43 hi0 hz0 hz1 hz2 rfl (by decide) nv y.row.length (nnCells y.row) (by simp [Act.eval]) (by exact World.ownsRow.alloc (w := W.drew) hRW _) ⟨W.heap.size, 0, none⟩ 1 1 [.string tx2, .int .i64 u1, .int .i64 u2, .int .i64 u3, .int .i64 u4, .int .i64 u5, .int .i64 u6, .int .i64 u7, .int .i64 u8, .int .i64 L, .int .i64 L] (by simp [Act.eval]) rfl (by exact Blk.news (Blk.new W.drew [.string tx2, .int .i64 u1, .int .i64 u2, .int .i64 u3, .int .i64 u4, .int .i64 u5, .int .i64 u6, .int .i64 u7, .int .i64 u8, .int .i64 L, .int .i64 L] _)) hone (by decide) (by unfold maxLen; omega) (by omega) (Nat.zero_le _) _ rfl ?_; intro g cap' w' hown hgrow hat hlt'; have hb' := grown_blk hgrow (Blk.alloc (Blk.drew hR) _) d1; have q3' := hb'.cell 3; have qf' := hb'.frozen; simp only [List.getElem?_cons_zero, List.getElem?_cons_succ] at q3')
  all_goals
    have hM := hide (mwent_row (s := s) (m := y) (n := ⟨tx2, u1, u2, u3, u4, u5, u6, u7, u8, L, L⟩) (w := W) hR hIW d1 d2 d3 (W := W.drew.alloc _) ((Kp.refl no W).drew.alloc _) hown hgrow hat (by simp))
    go_wp2_with fail
    obtain ⟨O6, h6, t6⟩ := hM.out
    refine (S3.out _ _ O6 h6).mono ?_
    rintro e w7 ⟨rfl, O7, h7, t7⟩
    go_wp2
    go_end0
    refine ⟨rfl, O7, ?_, (HTW.out.trans t6).trans t7⟩
    rw [HV.out]
    exact h7
end Go.Proofs.YtellieabhaphhabGreatDoor

/-
  narrow's maker: conditions, choices, loops, leaps: the walks put together.
-/
namespace Go.Proofs.YtellieabhaphhabGreatDoor
open Go.RowKit

def CndSaid (f : Nat) : Prop := ∀ (r : Nat) (s : ByteArray) (yes no : Int) (m : MS), s.size ≤ 180 → s.size - m.p.1 < f → m.p.1 ≤ s.size → m.row.length + s.size ≤ m.p.1 + 1900 → m.marks.length + s.size ≤ m.p.1 + 1900 →
    MStep r s 123 #[.pointer (some ⟨r, 0, none⟩), .int .i64 yes, .int .i64 no] (.tuple #[]) m (condM f s yes no m)

theorem cnd_all : ∀ f, CndSaid f
  | 0 => fun _ _ _ _ _ _ h => by omega
  | f + 1 => fun r s yes no m hs hf hi hr hm => by
    have IH := cnd_all f
    rw [condM]
    split
    · rename_i hc
      obtain ⟨e1, e2, e3⟩ := eat_at (c := 33) hc (by decide)
      have e4 : (expM s m [33]).p = (m.p.1 + 1, false) := e1
      have x1 : (expM s m [33]).p.1 = m.p.1 + 1 := by rw [e4]
      exact cond_not (by omega) hi hc (exp_step ⟨#[33]⟩ (by omega) hi (by decide) (by decide)) (IH r s no yes (expM s m [33]) hs (by omega) (by omega) (by rw [expM_row]; omega) (by rw [expM_marks]; omega))
    split
    · rename_i _ hc
      obtain ⟨e1, e2, e3⟩ := eat_at (c := 38) hc (by decide)
      have e4 : (newM (expM s m [38])).p = (m.p.1 + 1, false) := e1
      have x1 : (newM (expM s m [38])).p.1 = m.p.1 + 1 := by rw [e4]
      have x2 : (newM (expM s m [38])).marks.length = m.marks.length + 1 := newM_len _
      have x3 : (newM (expM s m [38])).row = m.row := rfl
      have g := condM_mc f s m.marks.length no (newM (expM s m [38])) (by omega) (by omega)
      have S3 := IH r s m.marks.length no (newM (expM s m [38])) hs (by omega) (by omega) (by rw [x3]; omega) (by omega)
      have S1 : MStep r s 73 #[.pointer (some ⟨r, 0, none⟩), .string ⟨#[38]⟩] (.tuple #[]) m (expM s m [38]) := exp_step ⟨#[38]⟩ (by omega) hi (by decide) (by decide)
      have S2 : MStep r s 122 #[.pointer (some ⟨r, 0, none⟩)] (.int .i64 m.marks.length) (expM s m [38]) (newM (expM s m [38])) := new_step (by rw [expM_marks]; omega)
      generalize condM f s m.marks.length no (newM (expM s m [38])) = y3 at *
      have g1 := g.lo; have g2 := g.row; have g3 := g.mm; have g4 := g.le; have g5 := g.i
      rw [x3] at g2
      exact cond_and (by omega) hi hc S1 S2 S3 (lay_step m.marks.length (by omega) (by omega) (by omega)) (IH r s yes no (layM y3 m.marks.length) hs (by rw [layM_p]; omega) (by rw [layM_p]; omega) (by rw [layM_p, layM_row]; omega) (by rw [layM_p, layM_len]; omega))
    split
    · rename_i _ _ hc
      obtain ⟨e1, e2, e3⟩ := eat_at (c := 124) hc (by decide)
      have e4 : (newM (expM s m [124])).p = (m.p.1 + 1, false) := e1
      have x1 : (newM (expM s m [124])).p.1 = m.p.1 + 1 := by rw [e4]
      have x2 : (newM (expM s m [124])).marks.length = m.marks.length + 1 := newM_len _
      have x3 : (newM (expM s m [124])).row = m.row := rfl
      have g := condM_mc f s yes m.marks.length (newM (expM s m [124])) (by omega) (by omega)
      have S3 := IH r s yes m.marks.length (newM (expM s m [124])) hs (by omega) (by omega) (by rw [x3]; omega) (by omega)
      have S1 : MStep r s 73 #[.pointer (some ⟨r, 0, none⟩), .string ⟨#[124]⟩] (.tuple #[]) m (expM s m [124]) := exp_step ⟨#[124]⟩ (by omega) hi (by decide) (by decide)
      have S2 : MStep r s 122 #[.pointer (some ⟨r, 0, none⟩)] (.int .i64 m.marks.length) (expM s m [124]) (newM (expM s m [124])) := new_step (by rw [expM_marks]; omega)
      generalize condM f s yes m.marks.length (newM (expM s m [124])) = y3 at *
      have g1 := g.lo; have g2 := g.row; have g3 := g.mm; have g4 := g.le; have g5 := g.i
      rw [x3] at g2
      exact cond_or (by omega) hi hc S1 S2 S3 (lay_step m.marks.length (by omega) (by omega) (by omega)) (IH r s yes no (layM y3 m.marks.length) hs (by rw [layM_p]; omega) (by rw [layM_p]; omega) (by rw [layM_p, layM_row]; omega) (by rw [layM_p, layM_len]; omega))
    · rename_i g1 g2 g3
      exact cond_leaf (by omega) hi (by omega) g1 g2 g3

def StmSaid (f : Nat) : Prop := ∀ (r : Nat) (s : ByteArray) (h b : Int) (m : MS), s.size ≤ 180 → (m.p.2 = false → s.size - m.p.1 < f) → MI s m →
    MStep r s 45 #[.pointer (some ⟨r, 0, none⟩), .int .i64 h, .int .i64 b] (.tuple #[]) m (stmM f s h b m)

theorem cho_step {f : Nat} (ih : StmSaid f) {r : Nat} {s : ByteArray} {h b : Int} {m : MS} (hs : s.size ≤ 180) (hc : pkb s m.p = 40) (hf : s.size - m.p.1 < f + 1) (hI : MI s m) :
    MStep r s 80 #[.pointer (some ⟨r, 0, none⟩), .int .i64 h, .int .i64 b] (.tuple #[]) m (choM f (stmM f s) s h b m) := by
  obtain ⟨e1, e2, e3⟩ := eat_at (c := 40) hc (by decide)
  have b0 := bc_live e3
  have n1 := hI.row; have n2 := hI.mm; have n3 := hI.i
  unfold choM
  dsimp only
  have S1 : MStep r s 122 #[.pointer (some ⟨r, 0, none⟩)] (.int .i64 m.marks.length) m (newM m) := new_step (by omega)
  have S2 : MStep r s 122 #[.pointer (some ⟨r, 0, none⟩)] (.int .i64 (m.marks.length + 1 : Nat)) (newM m) (newM (newM m)) := by rw [← newM_len]; exact new_step (by rw [newM_len]; omega)
  have S3 : MStep r s 122 #[.pointer (some ⟨r, 0, none⟩)] (.int .i64 (m.marks.length + 2 : Nat)) (newM (newM m)) (new3 m) := by
    have e : m.marks.length + 2 = (newM (newM m)).marks.length := by rw [newM_len, newM_len]
    rw [e]; exact new_step (by rw [newM_len, newM_len]; omega)
  have S4 : MStep r s 73 #[.pointer (some ⟨r, 0, none⟩), .string ⟨#[40]⟩] (.tuple #[]) (new3 m) (expM s (new3 m) [40]) := exp_step ⟨#[40]⟩ (by omega) n3 (by decide) (by decide)
  have p1 : (expM s (new3 m) [40]).p = (m.p.1 + 1, false) := e1
  have r1 : (expM s (new3 m) [40]).row = m.row := rfl
  have m1 : (expM s (new3 m) [40]).marks.length = m.marks.length + 3 := new3_len m
  generalize expM s (new3 m) [40] = x1 at *
  have q1 : x1.p.1 = m.p.1 + 1 := by rw [p1]
  have b1 : bc x1.p = 0 := by rw [p1]; rfl
  clear p1 e1
  have g2 := condM_mc f s m.marks.length (m.marks.length + 1 : Nat) x1 (by omega) (by omega)
  have S5 := cnd_all f r s m.marks.length (m.marks.length + 1 : Nat) x1 hs (by omega) (by omega) (by rw [r1]; omega) (by omega)
  generalize condM f s m.marks.length (m.marks.length + 1 : Nat) x1 = x2 at *
  have u1 := g2.row; have u2 := g2.mm; have u3 := g2.lo; have u4 := g2.le; have u5 := g2.bad
  rw [r1] at u1
  have g3 := expM_mg (l := [123]) (by decide) g2.i
  have S6 : MStep r s 73 #[.pointer (some ⟨r, 0, none⟩), .string ⟨#[123]⟩] (.tuple #[]) x2 (expM s x2 [123]) := exp_step ⟨#[123]⟩ (by omega) g2.i (by decide) (by decide)
  have i3 : MI s (expM s x2 [123]) := MI.mg ⟨g2.i, by omega, by omega⟩ g3
  generalize expM s x2 [123] = x3 at *
  have v1 := g3.lo; have v4 := g3.le; have vb := bc_le x3.p
  have a1 := i3.row; have a2 := i3.mm; have a3 := i3.i
  have g4 := layM_mg (k := m.marks.length) g3.i
  have S7 : MStep r s 124 #[.pointer (some ⟨r, 0, none⟩), .int .i64 m.marks.length] (.tuple #[]) x3 (layM x3 m.marks.length) := lay_step m.marks.length (by omega) (by omega) (by omega)
  have i4 := i3.mg g4
  generalize layM x3 m.marks.length = x4 at *
  have lo4 : x1.p.1 ≤ x4.p.1 := Nat.le_trans g2.lo (Nat.le_trans g3.lo g4.lo)
  have w4 := g4.le; have w5 := g4.i
  have g5 := stmM_mg f s h b x4 g4.i (fun _ => by omega)
  have S8 := ih r s h b x4 hs (fun _ => by omega) i4
  have i5 := i4.mg g5
  generalize stmM f s h b x4 = x5 at *
  have g6 := expM_mg (l := [125, 123]) (by decide) g5.i
  have S9 : MStep r s 73 #[.pointer (some ⟨r, 0, none⟩), .string ⟨#[125, 123]⟩] (.tuple #[]) x5 (expM s x5 [125, 123]) := exp_step ⟨#[125, 123]⟩ (by omega) g5.i (by decide) (by decide)
  have i6 := i5.mg g6
  have gA := (g3.trans g4).trans (g5.trans g6)
  generalize expM s x5 [125, 123] = x6 at *
  have c1 := i6.row; have c2 := i6.mm; have c3 := i6.i; have cb := bc_le x6.p
  have c4 := gA.le; have c5 := gA.lo; have c6 := gA.row; have c7 := gA.mm; have c8 := gA.bad
  have T1 : MStep r s 125 #[.pointer (some ⟨r, 0, none⟩), .int .i64 (m.marks.length + 2 : Nat)] (.tuple #[]) x6 (jmpM x6 (m.marks.length + 2 : Nat)) := jump_step _ (by omega)
  have p7 := jmpM_p x6 (m.marks.length + 2 : Nat)
  have r7 := jmpM_row x6 (m.marks.length + 2 : Nat)
  have m7 := jmpM_marks x6 (m.marks.length + 2 : Nat)
  generalize jmpM x6 (m.marks.length + 2 : Nat) = x7 at *
  have g8 := layM_mg (s := s) (m := x7) (k := m.marks.length + 1) (by rw [p7]; exact g6.i)
  have T2 : MStep r s 124 #[.pointer (some ⟨r, 0, none⟩), .int .i64 (m.marks.length + 1 : Nat)] (.tuple #[]) x7 (layM x7 (m.marks.length + 1)) := lay_step (m.marks.length + 1) (by rw [m7]; omega) (by omega) (by rw [m7]; omega)
  generalize layM x7 (m.marks.length + 1) = x8 at *
  have d1 := g8.row; have d2 := g8.mm; have d3 := g8.lo; have d4 := g8.le; have d5 := g8.i
  rw [p7] at d1 d2 d3
  rw [m7] at d2 d4
  have i8 : MI s x8 := ⟨d5, by omega, by omega⟩
  have g9 := stmM_mg f s h b x8 g8.i (fun _ => by omega)
  have T3 := ih r s h b x8 hs (fun _ => by omega) i8
  have i9 := i8.mg g9
  generalize stmM f s h b x8 = x9 at *
  have g10 := expM_mg (l := [125, 41]) (by decide) g9.i
  have T4 : MStep r s 73 #[.pointer (some ⟨r, 0, none⟩), .string ⟨#[125, 41]⟩] (.tuple #[]) x9 (expM s x9 [125, 41]) := exp_step ⟨#[125, 41]⟩ (by omega) g9.i (by decide) (by decide)
  have i10 := i9.mg g10
  have gB := g9.trans g10
  generalize expM s x9 [125, 41] = x10 at *
  have f1 := i10.row; have f2 := i10.mm; have f3 := i10.i; have f4 := gB.le; have fb := bc_le x10.p
  have T5 : MStep r s 124 #[.pointer (some ⟨r, 0, none⟩), .int .i64 (m.marks.length + 2 : Nat)] (.tuple #[]) x10 (layM x10 (m.marks.length + 2)) := lay_step (m.marks.length + 2) (by omega) (by omega) (by omega)
  exact choice_walk S1 S2 S3 S4 S5 S6 S7 S8 S9 T1 T2 T3 T4 T5

theorem lop_step {f : Nat} (ih : StmSaid f) {r : Nat} {s : ByteArray} {m : MS} (hs : s.size ≤ 180) (hc : pkb s m.p = 91) (hf : s.size - m.p.1 < f + 1) (hI : MI s m) :
    MStep r s 81 #[.pointer (some ⟨r, 0, none⟩)] (.tuple #[]) m (lopM f (stmM f s) s m) := by
  obtain ⟨e1, e2, e3⟩ := eat_at (c := 91) hc (by decide)
  have b0 := bc_live e3
  have n1 := hI.row; have n2 := hI.mm; have n3 := hI.i
  unfold lopM
  dsimp only
  have S1 : MStep r s 122 #[.pointer (some ⟨r, 0, none⟩)] (.int .i64 m.marks.length) m (newM m) := new_step (by omega)
  have S2 : MStep r s 122 #[.pointer (some ⟨r, 0, none⟩)] (.int .i64 (m.marks.length + 1 : Nat)) (newM m) (newM (newM m)) := by rw [← newM_len]; exact new_step (by rw [newM_len]; omega)
  have S3 : MStep r s 122 #[.pointer (some ⟨r, 0, none⟩)] (.int .i64 (m.marks.length + 2 : Nat)) (newM (newM m)) (new3 m) := by
    have e : m.marks.length + 2 = (newM (newM m)).marks.length := by rw [newM_len, newM_len]
    rw [e]; exact new_step (by rw [newM_len, newM_len]; omega)
  have S4 : MStep r s 73 #[.pointer (some ⟨r, 0, none⟩), .string ⟨#[91]⟩] (.tuple #[]) (new3 m) (expM s (new3 m) [91]) := exp_step ⟨#[91]⟩ (by omega) n3 (by decide) (by decide)
  have p1 : (expM s (new3 m) [91]).p = (m.p.1 + 1, false) := e1
  have r1 : (expM s (new3 m) [91]).row = m.row := rfl
  have m1 : (expM s (new3 m) [91]).marks.length = m.marks.length + 3 := new3_len m
  generalize expM s (new3 m) [91] = x0 at *
  have S5 : MStep r s 124 #[.pointer (some ⟨r, 0, none⟩), .int .i64 m.marks.length] (.tuple #[]) x0 (layM x0 m.marks.length) := lay_step m.marks.length (by omega) (by rw [r1]; omega) (by omega)
  have p1' : (layM x0 m.marks.length).p = (m.p.1 + 1, false) := p1
  have r1' : (layM x0 m.marks.length).row = m.row := r1
  have m1' : (layM x0 m.marks.length).marks.length = m.marks.length + 3 := by rw [layM_len]; exact m1
  generalize layM x0 m.marks.length = x1 at *
  have q1 : x1.p.1 = m.p.1 + 1 := by rw [p1']
  have b1 : bc x1.p = 0 := by rw [p1']; rfl
  clear p1 p1' e1 r1 m1
  have g2 := condM_mc f s (m.marks.length + 1 : Nat) (m.marks.length + 2 : Nat) x1 (by omega) (by omega)
  have S6 := cnd_all f r s (m.marks.length + 1 : Nat) (m.marks.length + 2 : Nat) x1 hs (by omega) (by omega) (by rw [r1']; omega) (by omega)
  generalize condM f s (m.marks.length + 1 : Nat) (m.marks.length + 2 : Nat) x1 = x2 at *
  have u1 := g2.row; have u2 := g2.mm; have u3 := g2.lo; have u4 := g2.le; have u5 := g2.bad
  rw [r1'] at u1
  have g3 := expM_mg (l := [123]) (by decide) g2.i
  have S7 : MStep r s 73 #[.pointer (some ⟨r, 0, none⟩), .string ⟨#[123]⟩] (.tuple #[]) x2 (expM s x2 [123]) := exp_step ⟨#[123]⟩ (by omega) g2.i (by decide) (by decide)
  have i3 : MI s (expM s x2 [123]) := MI.mg ⟨g2.i, by omega, by omega⟩ g3
  generalize expM s x2 [123] = x3 at *
  have v1 := g3.lo; have v4 := g3.le; have vb := bc_le x3.p
  have a1 := i3.row; have a2 := i3.mm; have a3 := i3.i
  have g4 := layM_mg (k := m.marks.length + 1) g3.i
  have S8 : MStep r s 124 #[.pointer (some ⟨r, 0, none⟩), .int .i64 (m.marks.length + 1 : Nat)] (.tuple #[]) x3 (layM x3 (m.marks.length + 1)) := lay_step (m.marks.length + 1) (by omega) (by omega) (by omega)
  have i4 := i3.mg g4
  generalize layM x3 (m.marks.length + 1) = x4 at *
  have lo4 : x1.p.1 ≤ x4.p.1 := Nat.le_trans g2.lo (Nat.le_trans g3.lo g4.lo)
  have w4 := g4.le; have w5 := g4.i
  have g5 := stmM_mg f s m.marks.length (m.marks.length + 2 : Nat) x4 g4.i (fun _ => by omega)
  have S9 := ih r s m.marks.length (m.marks.length + 2 : Nat) x4 hs (fun _ => by omega) i4
  have i5 := i4.mg g5
  generalize stmM f s m.marks.length (m.marks.length + 2 : Nat) x4 = x5 at *
  have g6 := expM_mg (l := [125, 93]) (by decide) g5.i
  have T1 : MStep r s 73 #[.pointer (some ⟨r, 0, none⟩), .string ⟨#[125, 93]⟩] (.tuple #[]) x5 (expM s x5 [125, 93]) := exp_step ⟨#[125, 93]⟩ (by omega) g5.i (by decide) (by decide)
  have i6 := i5.mg g6
  have gA := (g3.trans g4).trans (g5.trans g6)
  generalize expM s x5 [125, 93] = x6 at *
  have c1 := i6.row; have c2 := i6.mm; have c3 := i6.i; have cb := bc_le x6.p
  have c4 := gA.le
  have T2 : MStep r s 125 #[.pointer (some ⟨r, 0, none⟩), .int .i64 m.marks.length] (.tuple #[]) x6 (jmpM x6 m.marks.length) := jump_step _ (by omega)
  have r7 := jmpM_row x6 m.marks.length
  have m7 := jmpM_marks x6 m.marks.length
  generalize jmpM x6 m.marks.length = x7 at *
  have T3 : MStep r s 124 #[.pointer (some ⟨r, 0, none⟩), .int .i64 (m.marks.length + 2 : Nat)] (.tuple #[]) x7 (layM x7 (m.marks.length + 2)) := lay_step (m.marks.length + 2) (by rw [m7]; omega) (by omega) (by rw [m7]; omega)
  exact loop_walk S1 S2 S3 S4 S5 S6 S7 S8 S9 T1 T2 T3

theorem lep_step {r : Nat} {s : ByteArray} {m : MS} (u : ByteArray) (k : Int) (hs : s.size ≤ 180) (hu : u.size ≤ 10) (hz : ∀ k (h : k < u.size), (u[k]).toNat ≠ 0) (hI : MI s m) :
    MStep r s 82 #[.pointer (some ⟨r, 0, none⟩), .string u, .int .i64 k] (.tuple #[]) m (lepM s u.data.toList k m) := by
  have n1 := hI.row; have n3 := hI.i; have nb := bc_le m.p
  unfold lepM
  split
  · rename_i hk
    subst hk
    exact leap_bad u
  · rename_i hk
    exact leap_walk hk (exp_step u (by omega) n3 hu hz) (jump_step k (by rw [expM_row]; omega))
end Go.Proofs.YtellieabhaphhabGreatDoor

/-
  narrow's maker: the walk of statements.
-/
namespace Go.Proofs.YtellieabhaphhabGreatDoor
open Go.RowKit

theorem pkb_bad {s : ByteArray} {m : MS} (h : m.p.2 = true) : pkb s m.p = 0 := by simp [pkb, h]

set_option maxHeartbeats 3200000 in
theorem statements_m {f : Nat} (ih : ∀ k, k < f → StmSaid k) : StmSaid f := by
  intro r s h b m hs hf hI w O hM
  have IH := hide ih
  clear ih
  go_enter Tryz.func45, Tryz.ntmps45
  go_wp2
  go_loopg [] f (fun k wr => ∃ m' O', Mp wr r s m' O' ∧ Th O w O' wr ∧ MI s m' ∧ (m'.p.2 = false → s.size - m'.p.1 < k) ∧ k ≤ f ∧ stmM f s h b m = stmM k s h b m')
  case atStart => exact ⟨m, O, hM, Th.refl O w, hI, hf, Nat.le_refl _, rfl⟩
  case round =>
    obtain ⟨m', O', h', T', hI', hk, hkf, hE⟩ := hrel
    have HE := hide hE
    have HI' := hide hI'
    have HT := hide T'
    have HK := hide hk
    have HKF := hide hkf
    have HP := hide (mpeek_w h' (by omega) hI'.i)
    obtain ⟨c0, c1, c2, cf⟩ := h'.c
    clear hE hI' T' hk hkf hI hf hM
    cases hb' : m'.p.2
    · rw [hb'] at c2
      by_cases hstop : pkb s m'.p = 125 ∨ pkb s m'.p = 0
      · have HS := hide (stmM_stop gk s h b m' hstop)
        generalize pkb s m'.p = d at *
        rcases hstop with rfl | rfl
        all_goals
          go_wp2_with fail
          refine HP.out.mono ?_
          rintro x w2 ⟨rfl, nq, rfl⟩
          go_wp2
          refine bodyPost_ret (results_none rfl _ _ _) rfl ?_
          rw [HE.out, HS.out]
          exact ⟨rfl, O', h'.n _, HT.out.n _⟩
      · have hk0 := HK.out hb'
        obtain ⟨k, rfl⟩ : ∃ k, gk = k + 1 := ⟨gk - 1, by omega⟩
        have HR := hide (show stmM (k + 1) s h b m' = stmM k s h b (stM k (stmM k s) s h b m') by rw [stmM, if_pos (by omega)])
        have HG := hide (stM_mg (h := h) (b := b) (stmM_mg k s) (fun e => hstop (.inr e)) hk0)
        have hIH := IH.out k (by have := HKF.out; omega)
        by_cases h1 : pkb s m'.p = 40
        · have HX := hide (show MStep r s 80 #[.pointer (some ⟨r, 0, none⟩), .int .i64 h, .int .i64 b] (.tuple #[]) m' (stM k (stmM k s) s h b m') by rw [stM, if_pos h1]; exact cho_step hIH hs h1 hk0 HI'.out)
          rw [h1] at HP
          generalize stM k (stmM k s) s h b m' = m2 at *
          clear h1 hstop hIH
          go_wp2_with fail
          refine HP.out.mono ?_
          rintro x w2 ⟨rfl, nq, rfl⟩
          go_wp2_with fail
          refine (HX.out _ _ (h'.n nq)).mono ?_
          rintro x w3 ⟨rfl, O3, h3, t3⟩
          go_wp2
          go_roundg k
          case measure => omega
          case rel => exact ⟨m2, O3, h3, (HT.out.n nq).trans t3, HI'.out.mg HG.out.1, fun hb2 => by have := HG.out.2 hb2; have := HG.out.1.i; omega, by have := HKF.out; omega, by rw [HE.out, HR.out]⟩
        by_cases h2 : pkb s m'.p = 91
        · have HX := hide (show MStep r s 81 #[.pointer (some ⟨r, 0, none⟩)] (.tuple #[]) m' (stM k (stmM k s) s h b m') by rw [stM, if_neg h1, if_pos h2]; exact lop_step hIH hs h2 hk0 HI'.out)
          rw [h2] at HP
          generalize stM k (stmM k s) s h b m' = m2 at *
          clear h1 h2 hstop hIH
          go_wp2_with fail
          refine HP.out.mono ?_
          rintro x w2 ⟨rfl, nq, rfl⟩
          go_wp2_with fail
          refine (HX.out _ _ (h'.n nq)).mono ?_
          rintro x w3 ⟨rfl, O3, h3, t3⟩
          go_wp2
          go_roundg k
          case measure => omega
          case rel => exact ⟨m2, O3, h3, (HT.out.n nq).trans t3, HI'.out.mg HG.out.1, fun hb2 => by have := HG.out.2 hb2; have := HG.out.1.i; omega, by have := HKF.out; omega, by rw [HE.out, HR.out]⟩
        by_cases h3 : pkb s m'.p = 62
        · have HX := hide (show MStep r s 82 #[.pointer (some ⟨r, 0, none⟩), .string ⟨#[62, 59]⟩, .int .i64 b] (.tuple #[]) m' (stM k (stmM k s) s h b m') by rw [stM, if_neg h1, if_neg h2, if_pos h3]; exact lep_step ⟨#[62, 59]⟩ b hs (by decide) (by decide) HI'.out)
          rw [h3] at HP
          generalize stM k (stmM k s) s h b m' = m2 at *
          clear h1 h2 h3 hstop hIH
          go_wp2_with fail
          refine HP.out.mono ?_
          rintro x w2 ⟨rfl, nq, rfl⟩
          go_wp2_with fail
          refine (HX.out _ _ (h'.n nq)).mono ?_
          rintro x w3 ⟨rfl, O3, h3, t3⟩
          go_wp2
          go_roundg k
          case measure => omega
          case rel => exact ⟨m2, O3, h3, (HT.out.n nq).trans t3, HI'.out.mg HG.out.1, fun hb2 => by have := HG.out.2 hb2; have := HG.out.1.i; omega, by have := HKF.out; omega, by rw [HE.out, HR.out]⟩
        by_cases h4 : pkb s m'.p = 60
        · have HX := hide (show MStep r s 82 #[.pointer (some ⟨r, 0, none⟩), .string ⟨#[60, 59]⟩, .int .i64 h] (.tuple #[]) m' (stM k (stmM k s) s h b m') by rw [stM, if_neg h1, if_neg h2, if_neg h3, if_pos h4]; exact lep_step ⟨#[60, 59]⟩ h hs (by decide) (by decide) HI'.out)
          rw [h4] at HP
          generalize stM k (stmM k s) s h b m' = m2 at *
          clear h1 h2 h3 h4 hstop hIH
          go_wp2_with fail
          refine HP.out.mono ?_
          rintro x w2 ⟨rfl, nq, rfl⟩
          go_wp2_with fail
          refine (HX.out _ _ (h'.n nq)).mono ?_
          rintro x w3 ⟨rfl, O3, h3, t3⟩
          go_wp2
          go_roundg k
          case measure => omega
          case rel => exact ⟨m2, O3, h3, (HT.out.n nq).trans t3, HI'.out.mg HG.out.1, fun hb2 => by have := HG.out.2 hb2; have := HG.out.1.i; omega, by have := HKF.out; omega, by rw [HE.out, HR.out]⟩
        · have hbc := bc_le m'.p
          have HX := hide (show MStep r s 83 #[.pointer (some ⟨r, 0, none⟩)] (.tuple #[]) m' (stM k (stmM k s) s h b m') by rw [stM, if_neg h1, if_neg h2, if_neg h3, if_neg h4]; exact act_step (by omega) HI'.out (fun e => hstop (.inr e)))
          have f1 : ((pkb s m'.p : Int) == 40) = false := by simp; omega
          have f2 : ((pkb s m'.p : Int) == 91) = false := by simp; omega
          have f3 : ((pkb s m'.p : Int) == 62) = false := by simp; omega
          have f4 : ((pkb s m'.p : Int) == 60) = false := by simp; omega
          have f5 : ((pkb s m'.p : Int) == 125) = false := by simp; omega
          have f6 : ((pkb s m'.p : Int) == 0) = false := by simp; omega
          generalize stM k (stmM k s) s h b m' = m2 at *
          generalize pkb s m'.p = d at *
          clear h1 h2 h3 h4 hstop hIH hbc
          go_wp2_with fail
          refine HP.out.mono ?_
          rintro x w2 ⟨rfl, nq, rfl⟩
          go_wp2_with fail
          refine (HX.out _ _ (h'.n nq)).mono ?_
          rintro x w3 ⟨rfl, O3, h3, t3⟩
          go_wp2
          go_roundg k
          case measure => omega
          case rel => exact ⟨m2, O3, h3, (HT.out.n nq).trans t3, HI'.out.mg HG.out.1, fun hb2 => by have := HG.out.2 hb2; have := HG.out.1.i; omega, by have := HKF.out; omega, by rw [HE.out, HR.out]⟩
    · rw [hb'] at c2
      have HS := hide (stmM_stop gk s h b m' (.inr (pkb_bad hb')))
      generalize pkb s m'.p = d at *
      go_wp2
      go_end0
      rw [HE.out, HS.out]
      exact ⟨rfl, O', h', HT.out⟩

theorem stm_all : ∀ f, StmSaid f := by
  intro f
  induction f using Nat.strongRecOn with
  | _ f ih => exact statements_m ih
end Go.Proofs.YtellieabhaphhabGreatDoor

/-
  narrow's maker: places, and the nodes ahead of them.
-/
namespace Go.Proofs.YtellieabhaphhabGreatDoor
open Go.RowKit

def plcM (m : MS) (k : Int) : Nat := if k < 0 ∨ (m.marks.length : Int) ≤ k then m.row.length else m.marks.getD k.toNat 0

/-- How many nodes of the first j stand ahead of the place p. -/
def ahdA (row : List NN) (p : Nat) : Nat → Nat
  | 0 => 0
  | j + 1 => ahdA row p j + (match row[j]? with | some n => if j < p ∧ n.act ≠ 15 then 1 else 0 | none => 0)

def ahdM (row : List NN) (p : Nat) : Nat := ahdA row p row.length

def hopM (m : MS) : Nat → Nat → Nat
  | 0, p => p
  | f + 1, p => match m.row[p]? with | none => p | some n => if n.act = 15 then hopM m f (plcM m n.yes) else p

def nbhM (m : MS) (k : Int) : Nat := ahdM m.row (hopM m m.row.length (plcM m k))

def nodA (m : MS) : Nat → List NN
  | 0 => []
  | j + 1 => nodA m j ++ (match m.row[j]? with | some n => if n.act = 15 then [] else [n.setW (nbhM m n.yes) (nbhM m n.no)] | none => [])

/-- The nodes of the row. -/
def nodM (m : MS) : List NN := nodA m m.row.length

theorem ahdA_le (row : List NN) (p : Nat) : ∀ j, ahdA row p j ≤ j
  | 0 => Nat.le_refl _
  | j + 1 => by
    have := ahdA_le row p j
    rw [ahdA]
    have h2 : (match row[j]? with | some n => if j < p ∧ n.act ≠ 15 then 1 else 0 | none => 0) ≤ 1 := by
      split
      · split <;> decide
      · decide
    omega

theorem nodA_le (m : MS) : ∀ j, (nodA m j).length ≤ j
  | 0 => Nat.le_refl _
  | j + 1 => by
    have := nodA_le m j
    rw [nodA, List.length_append]
    have h2 : (match m.row[j]? with | some n => if n.act = 15 then [] else [n.setW (nbhM m n.yes) (nbhM m n.no)] | none => ([] : List NN)).length ≤ 1 := by
      split
      · split <;> simp
      · simp
    omega

theorem MRow.shape {w : World} {v : Value} {l : List Nat} (h : MRow w v l) : ∃ a cap, v = .slice a l.length cap := by
  rcases h.2 with ⟨rfl, h0⟩ | ⟨g, cap, cur, rfl, _⟩
  · exact ⟨none, 0, by rw [h0]⟩
  · exact ⟨_, _, rfl⟩

/-- The maker, opened: its block and its rows, read alone. -/
structure Mo (w : World) (r : Nat) (s : ByteArray) (m : MS) (nv iv : Value) : Prop where
  b : Blk w r [.string s, .int .i64 m.p.1, .bool m.p.2, nv, iv] 86
  n : NRow w nv m.row
  i : MRow w iv m.marks

theorem Mo.kp {w w' : World} {r : Nat} {s : ByteArray} {m : MS} {nv iv : Value} (h : Mo w r s m nv iv) (k : Kp no w w') : Mo w' r s m nv iv :=
  ⟨k.blk h.b no_elim, k.row h.n (fun _ _ => no_elim), k.row h.i (fun _ _ => no_elim)⟩

set_option maxHeartbeats 800000 in
theorem placeOf_c {r : Nat} {s : ByteArray} {m : MS} {nv iv : Value} (k : Int) (w : World) (h : Mo w r s m nv iv) :
    Calls Tryz.prog 126 #[.pointer (some ⟨r, 0, none⟩), .int .i64 k] w fun e w' => e = .returned (.int .i64 (plcM m k)) ∧ Kp no w w' := by
  have hr := h.b.lt
  have q3 := h.b.cell 3
  have q4 := h.b.cell 4
  simp only [List.getElem?_cons_zero, List.getElem?_cons_succ] at q3 q4
  have qf := h.b.frozen
  obtain ⟨a, cap, rfl⟩ := h.n.shape
  by_cases h0 : k < 0
  · have HV := hide (show plcM m k = m.row.length by rw [plcM, if_pos (.inl h0)])
    obtain ⟨a2, cap2, rfl⟩ := h.i.shape
    clear h
    go_enter Tryz.func126, Tryz.ntmps126
    go_wp2
    go_ret
    rw [HV.out]
    exact ⟨rfl, by (repeat' (first | with_reducible exact Kp.refl _ _ | with_reducible refine Kp.alloc ?_ _ | with_reducible refine Kp.drewN ?_ _ | with_reducible refine Kp.drew ?_ | with_reducible refine Kp.setCell ?_ _ ?_ | (intro hh; first | rfl | exact .inl rfl | exact .inr rfl | (exfalso; (try dsimp only at hh); omega))))⟩
  by_cases h1 : (m.marks.length : Int) ≤ k
  · have HV := hide (show plcM m k = m.row.length by rw [plcM, if_pos (.inr h1)])
    obtain ⟨a2, cap2, rfl⟩ := h.i.shape
    clear h
    go_enter Tryz.func126, Tryz.ntmps126
    go_wp2
    go_ret
    rw [HV.out]
    exact ⟨rfl, by (repeat' (first | with_reducible exact Kp.refl _ _ | with_reducible refine Kp.alloc ?_ _ | with_reducible refine Kp.drewN ?_ _ | with_reducible refine Kp.drew ?_ | with_reducible refine Kp.setCell ?_ _ ?_ | (intro hh; first | rfl | exact .inl rfl | exact .inr rfl | (exfalso; (try dsimp only at hh); omega))))⟩
  · obtain ⟨k, rfl⟩ := Int.eq_ofNat_of_zero_le (Int.not_lt.1 h0)
    have hk : k < m.marks.length := by omega
    obtain ⟨g, cap2, rfl, _, hg⟩ := World.ownsRow.form h.i (by omega)
    have HV := hide (show plcM m k = m.marks[k] by rw [plcM, if_neg (by omega), Int.toNat_natCast, List.getD_eq_getElem?_getD, List.getElem?_eq_getElem hk]; rfl)
    have ck : w.cell? ⟨g, k, none⟩ = some (.int .i64 m.marks[k]) := by
      have := Row.cell h.i k (by omega)
      rw [this, mCells, List.getElem?_map, List.getElem?_eq_getElem hk]; rfl
    have cf := Row.frozen h.i
    clear h
    generalize m.marks[k] = mk at *
    go_enter Tryz.func126, Tryz.ntmps126
    go_wp2
    go_ret
    rw [HV.out]
    exact ⟨rfl, by (repeat' (first | with_reducible exact Kp.refl _ _ | with_reducible refine Kp.alloc ?_ _ | with_reducible refine Kp.drewN ?_ _ | with_reducible refine Kp.drew ?_ | with_reducible refine Kp.setCell ?_ _ ?_ | (intro hh; first | rfl | exact .inl rfl | exact .inr rfl | (exfalso; (try dsimp only at hh); omega))))⟩
end Go.Proofs.YtellieabhaphhabGreatDoor

/-
  narrow's maker: the nodes of its row.
-/
namespace Go.Proofs.YtellieabhaphhabGreatDoor
open Go.RowKit

set_option maxHeartbeats 1600000 in
theorem nodesAhead_c {r : Nat} {s : ByteArray} {m : MS} {nv iv : Value} (p : Nat) (w : World) (h : Mo w r s m nv iv) (hl : m.row.length ≤ 2000) :
    Calls Tryz.prog 127 #[.pointer (some ⟨r, 0, none⟩), .int .i64 p] w fun e w' => e = .returned (.int .i64 (ahdM m.row p)) ∧ Kp no w w' := by
  have hr := h.b.lt
  have q3 := h.b.cell 3
  simp only [List.getElem?_cons_zero, List.getElem?_cons_succ] at q3
  have qf := h.b.frozen
  obtain ⟨a, cap, rfl⟩ := h.n.shape
  have HN := hide h.n
  have HF : Hid (ahdM m.row p = ahdA m.row p m.row.length) := rfl
  clear h
  generalize m.row = row at *
  go_enter Tryz.func127, Tryz.ntmps127
  go_wp2
  go_loopg [5, 13] row.length (fun k cv jv wr => ∃ j : Nat, j ≤ row.length ∧ k = row.length - j ∧ jv = .int .i64 j ∧ cv = .int .i64 (ahdA row p j) ∧ Kp no w wr)
  case atStart => exact ⟨0, Nat.zero_le _, rfl, rfl, rfl, Kp.refl _ _⟩
  case round =>
    obtain ⟨j, hj, hk, rfl, rfl, kr⟩ := hrel
    have HK := hide kr
    have HKK := hide hk
    clear kr hk
    by_cases hlt : j < row.length
    · obtain ⟨_, g, rfl, hg, q0, q1, q2, q3, q4, q5, q6, q7, q8, q9, q10⟩ := NRow.at (HK.out.row HN.out (fun _ _ => no_elim)) (List.getElem?_eq_getElem hlt)
      have HS := hide (show ahdA row p (j + 1) = ahdA row p j + (if j < p ∧ row[j].act ≠ 15 then 1 else 0) by rw [ahdA, List.getElem?_eq_getElem hlt])
      have hc := ahdA_le row p j
      clear HN HF
      generalize ahdA row p j = c at *
      generalize row[j] = n at *
      obtain ⟨tx, act, nx, ny, nw, ck, cn, ch, kd, yes, nno⟩ := n
      dsimp only at *
      have hqI : (j : Int) < row.length := by omega
      by_cases b1 : j < p
      · have b1' : (j : Int) < (p : Int) := by omega
        by_cases b2 : act = 15
        · subst b2
          rw [if_neg (fun e => e.2 rfl)] at HS
          clear b1
          go_wp2
          go_roundg (row.length - (j + 1))
          case measure => have := HKK.out; omega
          case rel => exact ⟨j + 1, by omega, rfl, by go_num, by rw [HS.out]; rfl, by have k1 := HK.out; (repeat' (first | with_reducible exact Kp.refl _ _ | with_reducible refine Kp.alloc ?_ _ | with_reducible refine Kp.drewN ?_ _ | with_reducible refine Kp.drew ?_ | with_reducible refine Kp.setCell ?_ _ ?_ | with_reducible refine Kp.trans ?_ k1 (fun _ _ e => e) | (intro hh; first | rfl | exact .inl rfl | exact .inr rfl | (exfalso; (try dsimp only at hh); omega))))⟩
        · have b2' : ((act : Int) != 15) = true := by simp [b2]
          rw [if_pos ⟨b1, b2⟩] at HS
          clear b1 b2
          go_wp2
          go_roundg (row.length - (j + 1))
          case measure => have := HKK.out; omega
          case rel => exact ⟨j + 1, by omega, rfl, by go_num, by rw [HS.out]; go_num, by have k1 := HK.out; (repeat' (first | with_reducible exact Kp.refl _ _ | with_reducible refine Kp.alloc ?_ _ | with_reducible refine Kp.drewN ?_ _ | with_reducible refine Kp.drew ?_ | with_reducible refine Kp.setCell ?_ _ ?_ | with_reducible refine Kp.trans ?_ k1 (fun _ _ e => e) | (intro hh; first | rfl | exact .inl rfl | exact .inr rfl | (exfalso; (try dsimp only at hh); omega))))⟩
      · have b1' : (p : Int) ≤ (j : Int) := by omega
        rw [if_neg (fun e => b1 e.1)] at HS
        go_wp2
        go_roundg (row.length - (j + 1))
        case measure => have := HKK.out; omega
        case rel => exact ⟨j + 1, by omega, rfl, by go_num, by rw [HS.out]; rfl, by have k1 := HK.out; (repeat' (first | with_reducible exact Kp.refl _ _ | with_reducible refine Kp.alloc ?_ _ | with_reducible refine Kp.drewN ?_ _ | with_reducible refine Kp.drew ?_ | with_reducible refine Kp.setCell ?_ _ ?_ | with_reducible refine Kp.trans ?_ k1 (fun _ _ e => e) | (intro hh; first | rfl | exact .inl rfl | exact .inr rfl | (exfalso; (try dsimp only at hh); omega))))⟩
    · obtain rfl : j = row.length := by omega
      go_wp2
      go_ret
      rw [HF.out]
      exact ⟨rfl, HK.out⟩

theorem hopM_none {m : MS} {f p : Nat} (h : ¬ p < m.row.length) : hopM m f p = p := by
  cases f with
  | zero => rfl
  | succ f => rw [hopM, List.getElem?_eq_none (by omega)]
theorem hopM_node {m : MS} {f p : Nat} (h : p < m.row.length) (ha : m.row[p].act ≠ 15) : hopM m f p = p := by
  cases f with
  | zero => rfl
  | succ f => rw [hopM, List.getElem?_eq_getElem h]; simp [ha]
theorem hopM_jump {m : MS} {f p : Nat} (h : p < m.row.length) (ha : m.row[p].act = 15) : hopM m (f + 1) p = hopM m f (plcM m m.row[p].yes) := by
  rw [hopM, List.getElem?_eq_getElem h]; simp [ha]

set_option maxHeartbeats 1600000 in
theorem nodeBehind_c {r : Nat} {s : ByteArray} {m : MS} {nv iv : Value} (k0 : Int) (w : World) (h : Mo w r s m nv iv) (hl : m.row.length ≤ 2000) :
    Calls Tryz.prog 84 #[.pointer (some ⟨r, 0, none⟩), .int .i64 k0] w fun e w' => e = .returned (.int .i64 (nbhM m k0)) ∧ Kp no w w' := by
  have HP := hide (fun k W (hW : Mo W r s m nv iv) => placeOf_c k W hW)
  have HA := hide (fun p W (hW : Mo W r s m nv iv) => nodesAhead_c p W hW hl)
  have HM := hide h
  have HF : Hid (nbhM m k0 = ahdM m.row (hopM m m.row.length (plcM m k0))) := rfl
  obtain ⟨a, cap, rfl⟩ := h.n.shape
  clear h
  go_enter Tryz.func84, Tryz.ntmps84
  go_wp2_with fail
  refine (HP.out k0 _ HM.out).mono ?_
  rintro e w1 ⟨rfl, k1⟩
  generalize plcM m k0 = p0 at *
  go_wp2
  go_loopg [5, 6] m.row.length (fun k pv hv wr => ∃ p j : Nat, j ≤ m.row.length ∧ k = m.row.length - j ∧ hv = .int .i64 j ∧ pv = .int .i64 p ∧ Kp no w wr ∧ hopM m m.row.length p0 = hopM m (m.row.length - j) p)
  case atStart => exact ⟨p0, 0, Nat.zero_le _, rfl, rfl, rfl, k1, rfl⟩
  case round =>
    obtain ⟨p, j, hj, hk, rfl, rfl, kr, hE⟩ := hrel
    have HK := hide kr
    have HKK := hide hk
    have HE := hide hE
    have HMr := hide (HM.out.kp kr)
    have hr := HMr.out.b.lt
    have q3 := HMr.out.b.cell 3
    simp only [List.getElem?_cons_zero, List.getElem?_cons_succ] at q3
    have qf := HMr.out.b.frozen
    clear kr hk hE k1 HM
    by_cases hlt : j < m.row.length
    · by_cases hp : p < m.row.length
      · have hp' : (p : Int) < m.row.length := by omega
        obtain ⟨_, g, rfl, hg, c0, c1, c2, c3, c4, c5, c6, c7, c8, c9, c10⟩ := NRow.at HMr.out.n (List.getElem?_eq_getElem hp)
        have cf := Row.frozen HMr.out.n
        have HNO := hide (fun e : m.row[p].act ≠ 15 => hopM_node (f := m.row.length - j) hp e)
        have HJ := hide (fun e : m.row[p].act = 15 => show hopM m (m.row.length - j) p = hopM m (m.row.length - (j + 1)) (plcM m m.row[p].yes) by
          rw [show m.row.length - j = m.row.length - (j + 1) + 1 by omega]; exact hopM_jump hp e)
        generalize m.row[p] = n at *
        obtain ⟨tx, act, nx, ny, nw, ck, cn, ch, kd, yes, nno⟩ := n
        dsimp only at *
        by_cases b : act = 15
        · subst b
          have HJ' := hide (HJ.out rfl)
          clear HJ HNO
          go_wp2_with fail
          refine (HP.out yes _ (HMr.out.kp (by (repeat' (first | with_reducible exact Kp.refl _ _ | with_reducible refine Kp.alloc ?_ _ | with_reducible refine Kp.drewN ?_ _ | with_reducible refine Kp.drew ?_ | with_reducible refine Kp.setCell ?_ _ ?_ | (intro hh; first | rfl | exact .inl rfl | exact .inr rfl | (exfalso; (try dsimp only at hh); omega))))))).mono ?_
          rintro e w2 ⟨rfl, k2⟩
          go_wp2
          go_roundg (m.row.length - (j + 1))
          case measure => have := HKK.out; omega
          case rel => exact ⟨plcM m yes, j + 1, by omega, rfl, by go_num, rfl, by have k1 := HK.out; (repeat' (first | with_reducible exact Kp.refl _ _ | with_reducible refine Kp.alloc ?_ _ | with_reducible refine Kp.drewN ?_ _ | with_reducible refine Kp.drew ?_ | with_reducible refine Kp.setCell ?_ _ ?_ | with_reducible refine Kp.trans ?_ k1 (fun _ _ e => e) | with_reducible refine Kp.trans ?_ k2 (fun _ _ e => e) | (intro hh; first | rfl | exact .inl rfl | exact .inr rfl | (exfalso; (try dsimp only at hh); omega)))), by rw [HE.out, HJ'.out]⟩
        · have b' : ((act : Int) != 15) = true := by simp [b]
          have HN' := hide (HNO.out b)
          clear HJ HNO b
          go_wp2_with fail
          refine (HA.out p _ (HMr.out.kp (by (repeat' (first | with_reducible exact Kp.refl _ _ | with_reducible refine Kp.alloc ?_ _ | with_reducible refine Kp.drewN ?_ _ | with_reducible refine Kp.drew ?_ | with_reducible refine Kp.setCell ?_ _ ?_ | (intro hh; first | rfl | exact .inl rfl | exact .inr rfl | (exfalso; (try dsimp only at hh); omega))))))).mono ?_
          rintro e w2 ⟨rfl, k2⟩
          go_wp2
          go_ret
          rw [HF.out, HE.out, HN'.out]
          exact ⟨rfl, by have k1 := HK.out; (repeat' (first | with_reducible exact Kp.refl _ _ | with_reducible refine Kp.alloc ?_ _ | with_reducible refine Kp.drewN ?_ _ | with_reducible refine Kp.drew ?_ | with_reducible refine Kp.setCell ?_ _ ?_ | with_reducible refine Kp.trans ?_ k1 (fun _ _ e => e) | with_reducible refine Kp.trans ?_ k2 (fun _ _ e => e) | (intro hh; first | rfl | exact .inl rfl | exact .inr rfl | (exfalso; (try dsimp only at hh); omega))))⟩
      · have HN' := hide (hopM_none (f := m.row.length - j) hp)
        have hp' : (m.row.length : Int) ≤ p := by omega
        clear hp
        go_wp2_with fail
        refine (HA.out p _ (HMr.out.kp (by (repeat' (first | with_reducible exact Kp.refl _ _ | with_reducible refine Kp.alloc ?_ _ | with_reducible refine Kp.drewN ?_ _ | with_reducible refine Kp.drew ?_ | with_reducible refine Kp.setCell ?_ _ ?_ | (intro hh; first | rfl | exact .inl rfl | exact .inr rfl | (exfalso; (try dsimp only at hh); omega))))))).mono ?_
        rintro e w2 ⟨rfl, k2⟩
        go_wp2
        go_ret
        rw [HF.out, HE.out, HN'.out]
        exact ⟨rfl, by have k1 := HK.out; (repeat' (first | with_reducible exact Kp.refl _ _ | with_reducible refine Kp.alloc ?_ _ | with_reducible refine Kp.drewN ?_ _ | with_reducible refine Kp.drew ?_ | with_reducible refine Kp.setCell ?_ _ ?_ | with_reducible refine Kp.trans ?_ k1 (fun _ _ e => e) | with_reducible refine Kp.trans ?_ k2 (fun _ _ e => e) | (intro hh; first | rfl | exact .inl rfl | exact .inr rfl | (exfalso; (try dsimp only at hh); omega))))⟩
    · obtain rfl : j = m.row.length := by omega
      have HN' := hide (show hopM m (m.row.length - m.row.length) p = p by rw [Nat.sub_self]; rfl)
      go_wp2_with fail
      refine (HA.out p _ (HMr.out.kp (by (repeat' (first | with_reducible exact Kp.refl _ _ | with_reducible refine Kp.alloc ?_ _ | with_reducible refine Kp.drewN ?_ _ | with_reducible refine Kp.drew ?_ | with_reducible refine Kp.setCell ?_ _ ?_ | (intro hh; first | rfl | exact .inl rfl | exact .inr rfl | (exfalso; (try dsimp only at hh); omega))))))).mono ?_
      rintro e w2 ⟨rfl, k2⟩
      go_wp2
      go_ret
      rw [HF.out, HE.out, HN'.out]
      exact ⟨rfl, by have k1 := HK.out; (repeat' (first | with_reducible exact Kp.refl _ _ | with_reducible refine Kp.alloc ?_ _ | with_reducible refine Kp.drewN ?_ _ | with_reducible refine Kp.drew ?_ | with_reducible refine Kp.setCell ?_ _ ?_ | with_reducible refine Kp.trans ?_ k1 (fun _ _ e => e) | with_reducible refine Kp.trans ?_ k2 (fun _ _ e => e) | (intro hh; first | rfl | exact .inl rfl | exact .inr rfl | (exfalso; (try dsimp only at hh); omega))))⟩

set_option maxRecDepth 100000 in
set_option maxHeartbeats 1600000 in
theorem mnodes_c {r : Nat} {s : ByteArray} {m : MS} {nv iv : Value} (w : World) (h : Mo w r s m nv iv) (hl : m.row.length ≤ 2000) :
    Calls Tryz.prog 46 #[.pointer (some ⟨r, 0, none⟩)] w fun e w' => ∃ u, e = .returned u ∧ NRow w' u (nodM m) ∧ New w u ∧ Kp no w w' := by
  obtain ⟨i0, hi0, hz0, hz1, hz2⟩ := info_parts info_nn
  have HB := hide (fun k W (hW : Mo W r s m nv iv) => nodeBehind_c k W hW hl)
  have HM := hide h
  have hr := h.b.lt
  have q3 := h.b.cell 3
  simp only [List.getElem?_cons_zero, List.getElem?_cons_succ] at q3
  have qf := h.b.frozen
  obtain ⟨a, cap, rfl⟩ := h.n.shape
  have HF : Hid (nodM m = nodA m m.row.length) := rfl
  clear h
  go_enter Tryz.func46, Tryz.ntmps46
  go_wp2
  go_loopg [3, 12] m.row.length (fun k lv jv wr => ∃ j : Nat, j ≤ m.row.length ∧ k = m.row.length - j ∧ jv = .int .i64 j ∧ KN w wr lv (nodA m j) ∧ Kp no w wr)
  case atStart =>
    refine ⟨0, Nat.zero_le _, rfl, rfl, ⟨⟨rfl, .inr ⟨w.heap.size, 0, #[], rfl, Nat.zero_le _, ?_, Nat.le_refl _, Nat.zero_le _, rfl, rfl⟩⟩, fun b hb => by simp [Value.ownBlock] at hb; omega⟩, by (repeat' (first | with_reducible exact Kp.refl _ _ | with_reducible refine Kp.alloc ?_ _ | with_reducible refine Kp.drewN ?_ _ | with_reducible refine Kp.drew ?_ | with_reducible refine Kp.setCell ?_ _ ?_ | (intro hh; first | rfl | exact .inl rfl | exact .inr rfl | (exfalso; (try dsimp only at hh); omega))))⟩
    have hh : Blk (w.alloc (.cells #[] 68)) w.heap.size [] 68 := by (repeat' (first | ((with_reducible show (_ : List Value) = _); rfl) | ((with_reducible refine Blk.newAt _ _ _ ?_); first | with_reducible rfl | (simp; done)) | with_reducible refine Blk.alloc ?_ _ | with_reducible refine Blk.drewN ?_ _ | with_reducible refine Blk.drew ?_ | ((with_reducible refine Blk.other ?_ _ ?_); rotate_left; ((try dsimp only); omega)) | with_reducible refine Blk.setB (cs0 := ?_) ?_ ?_))
    exact hh
  case round =>
    obtain ⟨j, hj, hk, rfl, hKB, kr⟩ := hrel
    have HKK := hide hk
    have HKB := hide hKB
    have HKR := hide kr
    obtain ⟨la, lc, rfl⟩ := hKB.r.shape
    clear hk hKB kr
    by_cases hlt : j < m.row.length
    · have hqI : (j : Int) < m.row.length := by omega
      have HPL := hide (show nodA m (j + 1) = nodA m j ++ (if m.row[j].act = 15 then [] else [m.row[j].setW (nbhM m m.row[j].yes) (nbhM m m.row[j].no)]) by rw [nodA, List.getElem?_eq_getElem hlt])
      obtain ⟨_, gn, ha, hgn, n0, n1, n2, n3, n4, n5, n6, n7, n8, n9, n10⟩ := NRow.at (HKR.out.row HM.out.n (fun _ _ => no_elim)) (List.getElem?_eq_getElem hlt)
      subst ha
      have hpl := nodA_le m j
      generalize nodA m j = P at *
      generalize m.row[j] = nd at *
      obtain ⟨tx, act, nx, ny, nw, ck, cn, ch, kd, yes, nno⟩ := nd
      dsimp only [NN.setW] at HPL n0 n1 n2 n3 n4 n5 n6 n7 n8 n9 n10
      have HLN : Hid (Value.ownBlock (.slice la P.length lc) ≠ some wr.heap.size) := fun e => by have := Row.lt HKB.out.r e; omega
      clear q3
      by_cases b : act = 15
      · subst b
        rw [if_pos rfl, List.append_nil] at HPL
        go_wp2
        go_roundg (m.row.length - (j + 1))
        case measure => have := HKK.out; omega
        case rel => exact ⟨j + 1, by omega, rfl, by go_num, by rw [HPL.out]; exact HKB.out.kp (by (repeat' (first | with_reducible exact Kp.refl _ _ | with_reducible refine Kp.alloc ?_ _ | with_reducible refine Kp.drewN ?_ _ | with_reducible refine Kp.drew ?_ | with_reducible refine Kp.setCell ?_ _ ?_ | (intro hh; first | rfl | exact .inl rfl | exact .inr rfl | (exfalso; (try dsimp only at hh); omega))))), by have k1 := HKR.out; (repeat' (first | with_reducible exact Kp.refl _ _ | with_reducible refine Kp.alloc ?_ _ | with_reducible refine Kp.drewN ?_ _ | with_reducible refine Kp.drew ?_ | with_reducible refine Kp.setCell ?_ _ ?_ | with_reducible refine Kp.trans ?_ k1 (fun _ _ e => e) | (intro hh; first | rfl | exact .inl rfl | exact .inr rfl | (exfalso; (try dsimp only at hh); omega))))⟩
      · rw [if_neg b] at HPL
        have b' : ((act : Int) == 15) = false := by simp [b]
        clear b
        go_wp2_with fail
        refine (HB.out yes _ (HM.out.kp (by have k1 := HKR.out; (repeat' (first | with_reducible exact Kp.refl _ _ | with_reducible refine Kp.alloc ?_ _ | with_reducible refine Kp.drewN ?_ _ | with_reducible refine Kp.drew ?_ | with_reducible refine Kp.setCell ?_ _ ?_ | with_reducible refine Kp.trans ?_ k1 (fun _ _ e => e) | (intro hh; first | rfl | exact .inl rfl | exact .inr rfl | (exfalso; (try dsimp only at hh); omega))))))).mono ?_
        rintro e w5 ⟨rfl, k5⟩
        have hN5 : Blk w5 wr.heap.size [.string tx, .int .i64 act, .int .i64 nx, .int .i64 ny, .int .i64 nw, .int .i64 ck, .int .i64 cn, .int .i64 ch, .int .i64 kd, .int .i64 yes, .int .i64 nno] 68 := k5.blk (by (repeat' (first | ((with_reducible show (_ : List Value) = _); rfl) | ((with_reducible refine Blk.newAt _ _ _ ?_); first | with_reducible rfl | (simp; done)) | with_reducible refine Blk.alloc ?_ _ | with_reducible refine Blk.drewN ?_ _ | with_reducible refine Blk.drew ?_ | ((with_reducible refine Blk.other ?_ _ ?_); rotate_left; ((try dsimp only); omega)) | with_reducible refine Blk.setB (cs0 := ?_) ?_ ?_))) no_elim
        have HK5 := hide (HKR.out.trans (S' := no) (Kp.trans (by (repeat' (first | with_reducible exact Kp.refl _ _ | with_reducible refine Kp.alloc ?_ _ | with_reducible refine Kp.drewN ?_ _ | with_reducible refine Kp.drew ?_ | with_reducible refine Kp.setCell ?_ _ ?_ | (intro hh; first | rfl | exact .inl rfl | exact .inr rfl | (exfalso; (try dsimp only at hh); omega))))) k5 (fun _ _ e => e)) (fun _ _ e => e))
        have HL5 := hide (HKB.out.kp (Kp.trans (by (repeat' (first | with_reducible exact Kp.refl _ _ | with_reducible refine Kp.alloc ?_ _ | with_reducible refine Kp.drewN ?_ _ | with_reducible refine Kp.drew ?_ | with_reducible refine Kp.setCell ?_ _ ?_ | (intro hh; first | rfl | exact .inl rfl | exact .inr rfl | (exfalso; (try dsimp only at hh); omega))))) k5 (fun _ _ e => e)))
        have hsw := HKR.out.size
        clear k5 n0 n1 n2 n3 n4 n5 n6 n7 n8 n9 n10
        obtain ⟨n0, n1, n2, n3, n4, n5, n6, n7, n8, n9, n10, nf⟩ := hN5.c11; have hnl := hN5.lt
        generalize nbhM m yes = cy at *
        go_wp2_with fail
        have kk5 := HK5.out
        refine (HB.out nno _ (HM.out.kp (by (repeat' (first | with_reducible exact Kp.refl _ _ | with_reducible refine Kp.alloc ?_ _ | with_reducible refine Kp.drewN ?_ _ | with_reducible refine Kp.drew ?_ | with_reducible refine Kp.setCell ?_ _ ?_ | with_reducible refine Kp.trans ?_ kk5 (fun _ _ e => e) | (intro hh; first | rfl | exact .inl rfl | exact .inr rfl | (exfalso; (try dsimp only at hh); omega))))))).mono ?_
        rintro e w8 ⟨rfl, k8⟩
        have hN8 : Blk w8 wr.heap.size [.string tx, .int .i64 act, .int .i64 nx, .int .i64 ny, .int .i64 nw, .int .i64 ck, .int .i64 cn, .int .i64 ch, .int .i64 kd, .int .i64 cy, .int .i64 nno] 68 := k8.blk (by (repeat' (first | ((with_reducible show (_ : List Value) = _); rfl) | with_reducible exact hN5 | ((with_reducible refine Blk.newAt _ _ _ ?_); first | with_reducible rfl | (simp; done)) | with_reducible refine Blk.alloc ?_ _ | with_reducible refine Blk.drewN ?_ _ | with_reducible refine Blk.drew ?_ | ((with_reducible refine Blk.other ?_ _ ?_); rotate_left; ((try dsimp only); omega)) | with_reducible refine Blk.setB (cs0 := ?_) ?_ ?_))) no_elim
        have HK8 := hide (show Kp no w w8 from Kp.trans (by (repeat' (first | with_reducible exact Kp.refl _ _ | with_reducible refine Kp.alloc ?_ _ | with_reducible refine Kp.drewN ?_ _ | with_reducible refine Kp.drew ?_ | with_reducible refine Kp.setCell ?_ _ ?_ | with_reducible refine Kp.trans ?_ kk5 (fun _ _ e => e) | (intro hh; first | rfl | exact .inl rfl | exact .inr rfl | (exfalso; (try dsimp only at hh); omega))))) k8 (fun _ _ e => e))
        have HL8 : Hid (KN w w8 (.slice la P.length lc) P) := KN.kp (by repeat' (first | with_reducible exact HL5.out | with_reducible refine KN.set ?_ _ HLN.out)) k8
        clear k8 hN5 HL5
        clear n0 n1 n2 n3 n4 n5 n6 n7 n8 n9 n10 nf hnl
        obtain ⟨n0, n1, n2, n3, n4, n5, n6, n7, n8, n9, n10, nf⟩ := hN8.c11; have hnl := hN8.lt
        generalize nbhM m nno = cz at *
        have hone : ∀ u ∈ ([.string tx, .int .i64 act, .int .i64 nx, .int .i64 ny, .int .i64 nw, .int .i64 ck, .int .i64 cn, .int .i64 ch, .int .i64 kd, .int .i64 cy, .int .i64 cz] : List Value), u.oneCell' = true := by simp [Value.oneCell']
        have HL9 := hide (HL8.out.set (o := 10) (.int .i64 (cz : Int)) HLN.out)
        go_wp2_with (at_builtin; refine wpList_append_lies _ rfl (.tmp 29) (.tmp 31) 43 rfl 0 68 i0 _ 11 96 Tryz.underlying43 hi0 hz0 hz1 hz2 rfl (by decide) (.slice la P.length lc) P.length (nnCells P) (by simp [Act.eval]) (by exact World.ownsRow.alloc HL9.out.r _) ⟨w8.heap.size, 0, none⟩ 1 1 [.string tx, .int .i64 act, .int .i64 nx, .int .i64 ny, .int .i64 nw, .int .i64 ck, .int .i64 cn, .int .i64 ch, .int .i64 kd, .int .i64 cy, .int .i64 cz] (by simp [Act.eval]) rfl (by exact Blk.news (Blk.newAt _ [.string tx, .int .i64 act, .int .i64 nx, .int .i64 ny, .int .i64 nw, .int .i64 ck, .int .i64 cn, .int .i64 ch, .int .i64 kd, .int .i64 cy, .int .i64 cz] _ (by simp))) hone (by decide) (by unfold maxLen; omega) (by omega) (Nat.zero_le _) _ rfl ?_; intro g cap' w' hown hgrow hat hlt')
        go_roundg (m.row.length - (j + 1))
        case measure => have := HKK.out; omega
        case rel =>
          have kk8 := HK8.out
          have hap := KN.app ⟨tx, act, nx, ny, nw, ck, cn, ch, kd, cy, cz⟩ HL9.out (by (repeat' (first | with_reducible exact Kp.refl _ _ | with_reducible refine Kp.alloc ?_ _ | with_reducible refine Kp.drewN ?_ _ | with_reducible refine Kp.drew ?_ | with_reducible refine Kp.setCell ?_ _ ?_ | with_reducible refine Kp.trans ?_ kk8 (fun _ _ e => e) | (intro hh; first | rfl | exact .inl rfl | exact .inr rfl | (exfalso; (try dsimp only at hh); omega))))) hown hgrow hat
          exact ⟨j + 1, by omega, rfl, by go_num, by rw [HPL.out]; exact hap.1, hap.2⟩
    · obtain rfl : j = m.row.length := by omega
      go_wp2
      go_ret
      rw [HF.out]
      exact ⟨_, rfl, HKB.out.r, HKB.out.o, HKR.out⟩
end Go.Proofs.YtellieabhaphhabGreatDoor

/-
  narrow: the nodes of a source.
-/
namespace Go.Proofs.YtellieabhaphhabGreatDoor
open Go.RowKit

def SrcP (s : ByteArray) (w : World) (e : Ending) (w' : World) : Prop :=
  ∃ v, e = .returned (.tuple #[v, .int .i64 (srE s).1, .int .i64 (srE s).2]) ∧ Kp no w w' ∧ ((srE s).1 = 0 → NRow w' v (nodM (srM s)) ∧ New w v)

set_option maxHeartbeats 1600000 in
theorem nos_c (s : ByteArray) (w : World) (hs : s.size ≤ 180) :
    Calls Tryz.prog 24 #[.string s] w fun e w' => SrcP s w e w' := by
  have HS := hide (fun W r O (hM : Mp W r s ms0 O) => stm_all (s.size + 1) r s (-1) (-1) ms0 hs (fun _ => by show s.size - 0 < _; omega) ⟨Nat.zero_le _, Nat.zero_le _, Nat.zero_le _⟩ W O hM)
  have HF : Hid (srM s = stmM (s.size + 1) s (-1) (-1) ms0) := rfl
  have hI := srM_mi s
  have n1 := hI.row; have n2 := hI.mm; have n3 := hI.i; have nb := bc_le (srM s).p
  clear hI
  have HE : Hid (srE s = if (srM s).p.2 = true ∨ (srM s).p.1 ≠ s.size then (2, ((srM s).p.1 : Int)) else (0, 0)) := rfl
  go_enter Tryz.func24, Tryz.ntmps24
  go_wp2_with fail
  have h0 : Mp (w.alloc (.cells #[.string s, .int .i64 0, .bool false, .slice none 0 0, .slice none 0 0] 86)) w.heap.size s ms0 (Own w.heap.size (.slice none 0 0) (.slice none 0 0)) :=
    ⟨_, _, Blk.new w [.string s, .int .i64 0, .bool false, .slice none 0 0, .slice none 0 0] _, World.ownsRow_nil _ _ _ _, World.ownsRow_nil _ _ _ _, by simp [Value.ownBlock], by simp [Value.ownBlock], by simp [Value.ownBlock], rfl⟩
  refine (HS.out _ w.heap.size _ h0).mono ?_
  rw [← HF.out]
  rintro e w1 ⟨rfl, O1, h1, t1⟩
  generalize hst : srM s = m at h1 n1 n2 n3 nb HE
  have HST := hide hst
  clear hst
  have hk : Kp no w w1 := ((Kp.refl no w).alloc _).trans t1.1 (fun x hx e => by
    rcases e with e | e | e
    · omega
    · simp [Value.ownBlock] at e
    · simp [Value.ownBlock] at e)
  obtain ⟨c0, c1, c2, cf⟩ := h1.c
  have HMO : Hid (∃ nv iv, Mo w1 w.heap.size s m nv iv) := by
    obtain ⟨nv, iv, hB, hN, hI, d1, d2, d3, _⟩ := h1
    exact ⟨nv, iv, hB, hN, hI⟩
  have HK := hide hk
  have hsz := hk.size
  clear hk t1 h1 h0 HS HF
  cases hb : m.p.2
  · rw [hb] at c2
    by_cases hi : m.p.1 = s.size
    · have e1 : srE s = (0, 0) := by rw [HE.out, if_neg (by rw [hb]; simp [hi])]
      obtain ⟨nv, iv, hMo⟩ := HMO.out
      have HN := hide (mnodes_c w1 hMo (by omega))
      have hi' : ((m.p.1 : Int) != (s.size : Int)) = false := by simp [hi]
      have E1 := hide e1
      clear hMo e1 HE hb hi
      generalize m.p.1 = pi at *
      go_wp2_with fail
      refine HN.out.mono ?_
      rintro e w2 ⟨u, rfl, hu, ho, k2⟩
      have HU := hide hu
      have HO := hide ho
      obtain ⟨ua, uc, rfl⟩ := hu.shape
      clear hu ho
      go_wp2
      go_ret3
      exact ⟨_, by rw [E1.out]; rfl, HK.out.trans k2 (fun _ _ e => e), fun _ => ⟨by rw [HST.out]; exact HU.out, fun b hb => by have := HO.out b hb; omega⟩⟩
    · have e1 : srE s = (2, (m.p.1 : Int)) := by rw [HE.out, if_pos (.inr hi)]
      have hi' : ((m.p.1 : Int) != (s.size : Int)) = true := by simp; omega
      have E1 := hide e1
      clear e1 HE hb hi HMO
      generalize m.p.1 = pi at *
      go_wp2
      go_quiet (fail)
      go_wp2
      go_ret3
      exact ⟨_, by rw [E1.out]; rfl, HK.out.drewN _, fun h => absurd h (by rw [E1.out]; show ¬ (2 : Int) = 0; decide)⟩
  · rw [hb] at c2
    have e1 : srE s = (2, (m.p.1 : Int)) := by rw [HE.out, if_pos (.inl hb)]
    have E1 := hide e1
    clear e1 HE hb HMO
    generalize m.p.1 = pi at *
    go_wp2
    go_quiet (fail)
    go_wp2
    go_ret3
    exact ⟨_, by rw [E1.out]; rfl, HK.out.drewN _, fun h => absurd h (by rw [E1.out]; show ¬ (2 : Int) = 0; decide)⟩
end Go.Proofs.YtellieabhaphhabGreatDoor

/-
  narrow.Run, narrow.Graph.
-/
namespace Go.Proofs.YtellieabhaphhabGreatDoor
open Go.RowKit

theorem nj_take (row : List NN) (j : Nat) : nj (row.take (j + 1)) = nj (row.take j) + (match row[j]? with | some n => if n.act ≠ 15 then 1 else 0 | none => 0) := by
  unfold nj
  rw [List.take_add_one, List.countP_append]
  cases row[j]? with
  | none => rfl
  | some n =>
    show _ + List.countP _ [n] = _ + _
    rw [List.countP_cons, List.countP_nil, Nat.zero_add]
    by_cases h : n.act = 15 <;> simp [h]

theorem ahdA_nj (row : List NN) (p : Nat) : ∀ j, ahdA row p j ≤ nj (row.take j)
  | 0 => Nat.zero_le _
  | j + 1 => by
    have := ahdA_nj row p j
    rw [ahdA, nj_take]
    cases row[j]? with
    | none => exact this
    | some n =>
      dsimp only
      by_cases h : n.act = 15
      · rw [if_neg (fun e => e.2 h), if_neg (fun e => e h)]; exact this
      · rw [if_pos h]
        split <;> omega

theorem nbhM_le (m : MS) (k : Int) : nbhM m k ≤ nj m.row := by
  have := ahdA_nj m.row (hopM m m.row.length (plcM m k)) m.row.length
  rw [List.take_length] at this
  exact this

theorem nodA_nj (m : MS) : ∀ j, (nodA m j).length = nj (m.row.take j)
  | 0 => rfl
  | j + 1 => by
    have := nodA_nj m j
    rw [nodA, nj_take, List.length_append, this]
    cases m.row[j]? with
    | none => rfl
    | some n =>
      dsimp only
      by_cases h : n.act = 15
      · rw [if_pos h, if_neg (fun e => e h)]; rfl
      · rw [if_neg h, if_pos h]; rfl

theorem nodM_nj (m : MS) : (nodM m).length = nj m.row := by
  have := nodA_nj m m.row.length
  rw [List.take_length] at this
  exact this

theorem nodA_mem (m : MS) : ∀ j n, n ∈ nodA m j → ∃ n0 ∈ m.row, n0.act ≠ 15 ∧ n = n0.setW (nbhM m n0.yes) (nbhM m n0.no)
  | 0, n, h => by cases h
  | j + 1, n, h => by
    rw [nodA] at h
    rcases List.mem_append.1 h with h | h
    · exact nodA_mem m j n h
    · cases hj : m.row[j]? with
      | none => rw [hj] at h; cases h
      | some n0 =>
        rw [hj] at h
        dsimp only at h
        by_cases ha : n0.act = 15
        · rw [if_pos ha] at h; cases h
        · rw [if_neg ha] at h
          obtain rfl : n = _ := by simpa using h
          exact ⟨n0, List.mem_of_getElem? hj, ha, rfl⟩

/-- A node as the maker leaves it. -/
def SN (n : NN) : Prop := ∃ nd tx y z, n = encN nd tx y z ∧ Gn nd ∧ tx.size ≤ 1000 ∧ (0 ≤ y ∧ y ≤ 90) ∧ (0 ≤ z ∧ z ≤ 90) ∧ TxP nd tx

theorem src_nodes {s : ByteArray} (hs : s.size ≤ 180) (h : (srE s).1 = 0) : (∀ n ∈ nodM (srM s), SN n) ∧ (nodM (srM s)).length ≤ 90 := by
  obtain ⟨_, g2, g3, _⟩ := srM_good hs h
  refine ⟨fun n hn => ?_, by rw [nodM_nj]; exact g2⟩
  obtain ⟨n0, h1, h2, rfl⟩ := nodA_mem (srM s) _ n hn
  rcases g3 n0 h1 with h3 | ⟨_, nd, tx, y, z, rfl, hg, ht, hp⟩
  · exact absurd h3 h2
  · have b1 := nbhM_le (srM s) (encN nd tx y z).yes
    have b2 := nbhM_le (srM s) (encN nd tx y z).no
    exact ⟨nd, tx, _, _, encW nd tx y z _ _, hg, ht, ⟨Int.natCast_nonneg _, by omega⟩, ⟨Int.natCast_nonneg _, by omega⟩, hp⟩

set_option maxRecDepth 100000 in
set_option maxHeartbeats 1600000 in
theorem nrun_good (s inp : ByteArray) (fuel : Nat) (w : World) (hm : inp.size ≤ 40) (h : fuel ≤ 300) (hs : s.size ≤ 180) (hb : (srE s).1 = 0) (ht : Tab w) (nds : List Nd) (hq : NEq (nodM (srM s)) nds) (hl : nds.length ≤ 100) (F : Nat) (mc' : Mc) (hE : wkF F nds inp (mc0 fuel) 0 = some mc') :
    Calls Tryz.prog 13 #[.string s, .string inp, .int .i64 fuel] w fun e w' => e = .returned (.tuple #[.string mc'.tr, .string mc'.out, .int .i64 (endE mc'.e)]) ∧ Kp no w w' := by
  have hm2 : inp.size ≤ maxLen := by unfold maxLen; omega
  have HG := hide (nwithin_c inp fuel w hm2)
  rw [decide_eq_true (by omega)] at HG
  have HS := hide (nos_c s w hs)
  unfold SrcP at HS
  rw [hb] at HS
  have HE := hide hE
  have HQ := hide hq
  clear hb hE hq
  go_enter Tryz.func13, Tryz.ntmps13
  go_wp2_with fail
  refine HG.out.mono ?_
  rintro e w1 ⟨rfl, rfl⟩
  go_wp2_with fail
  refine HS.out.mono ?_
  rintro e w2 ⟨v, rfl, k2, hpost⟩
  obtain ⟨hR, hO⟩ := hpost trivial
  have HW := hide (nwalk_c v _ _ inp fuel w2 hR HQ.out hl hm h (ht.kp k2 no_elim) F mc' HE.out)
  clear hO hpost HE HS HG HQ
  generalize nodM (srM s) = L at *
  obtain ⟨a, cap, rfl⟩ := hR.shape
  clear hR
  go_wp2_with fail
  refine HW.out.mono ?_
  rintro e w3 ⟨rfl, k3⟩
  go_wp2
  go_ret3
  exact ⟨rfl, k2.trans k3 (fun _ _ e => e)⟩

def gr3 (t : ByteArray) (e p : Int) : Ending := .returned (.tuple #[.string t, .int .i64 e, .int .i64 p])

theorem SN.ln {n : NN} (h : SN n) : Ln n := by
  obtain ⟨nd, tx, y, z, rfl, _, ht, hy, hz, _⟩ := h
  exact ⟨ht, fun _ => by show 0 ≤ y ∧ y < 100; omega, fun _ => by show 0 ≤ z ∧ z < 100; omega⟩

set_option maxHeartbeats 1600000 in
theorem ngraph_good (s : ByteArray) (w : World) (hs : s.size ≤ 180) (hb : (srE s).1 = 0) :
    Calls Tryz.prog 14 #[.string s] w fun e w' => e = gr3 (graT (nodM (srM s))) 0 0 ∧ Kp no w w' := by
  have HS := hide (nos_c s w hs)
  obtain ⟨hsn, hlen⟩ := src_nodes hs hb
  unfold SrcP at HS
  rw [hb] at HS
  have HGT := hide (fun u W hW => graphText_c u (nodM (srM s)) W hW (by omega) (fun n hn => (hsn n hn).ln))
  clear hb hsn
  generalize nodM (srM s) = L at *
  go_enter Tryz.func14, Tryz.ntmps14
  go_wp2_with fail
  refine HS.out.mono ?_
  rintro e w2 ⟨v, rfl, k2, hpost⟩
  obtain ⟨hR, hO⟩ := hpost trivial
  have HR := hide hR
  obtain ⟨a, cap, rfl⟩ := hR.shape
  clear hO hpost HS hR
  go_wp2_with fail
  refine (HGT.out _ _ (by exact HR.out)).mono ?_
  rintro e w5 ⟨rfl, k5⟩
  go_wp2
  go_ret3
  exact ⟨rfl, k2.trans k5 (fun _ _ e => e)⟩
end Go.Proofs.YtellieabhaphhabGreatDoor

/-
  Plain: a graph that is written, read again.
-/
namespace Go.Proofs.YtellieabhaphhabGreatDoor
open Go.RowKit

/-- The bytes C lie in g at p. -/
def At (g : ByteArray) (p : Nat) (C : List UInt8) : Prop := ∀ k u, C[k]? = some u → pk g (p + k) = u.toNat

theorem At.left {g : ByteArray} {p : Nat} {C D : List UInt8} (h : At g p (C ++ D)) : At g p C := fun k u hk => h k u (by
  rw [List.getElem?_append_left (List.getElem?_eq_some_iff.1 hk).1]; exact hk)
theorem At.right {g : ByteArray} {p : Nat} {C D : List UInt8} (h : At g p (C ++ D)) : At g (p + C.length) D := fun k u hk => by
  have := h (C.length + k) u (by rw [List.getElem?_append_right (by omega)]; simpa using hk)
  rw [show p + C.length + k = p + (C.length + k) by omega]
  exact this
theorem At.head {g : ByteArray} {p : Nat} {u : UInt8} {D : List UInt8} (h : At g p (u :: D)) : pk g p = u.toNat := h 0 u rfl
theorem At.tail {g : ByteArray} {p : Nat} {u : UInt8} {D : List UInt8} (h : At g p (u :: D)) : At g (p + 1) D := At.right (C := [u]) h

theorem At.self (g : ByteArray) : At g 0 g.data.toList := fun k u hk => by
  obtain ⟨h1, h2⟩ := List.getElem?_eq_some_iff.1 hk
  have hk' : k < g.size := h1
  unfold pk
  rw [Nat.zero_add, dif_pos hk', ← h2]
  rfl

theorem at_since {s g : ByteArray} {i j p : Nat} (hij : i ≤ j) (hj : j ≤ s.size) (h : At g p (sinceB s i j).data.toList) : Sb s i g p (j - i) ∧ (sinceB s i j).data.toList.length = j - i := by
  have e : (sinceB s i j).data.toList = (s.data.toList.take j).drop i := ext_list s i j
  have hlen : s.data.toList.length = s.size := rfl
  refine ⟨fun k hk => ?_, by rw [e, List.length_drop, List.length_take]; omega⟩
  have hik : i + k < s.data.toList.length := by omega
  have hg : (sinceB s i j).data.toList[k]? = some s.data.toList[i + k] := by
    rw [e, List.getElem?_drop, List.getElem?_take_of_lt (by omega), List.getElem?_eq_getElem hik]
  rw [h k _ hg]
  unfold pk
  rw [dif_pos (show i + k < s.size from hik)]
  rfl

theorem test_op {s : ByteArray} {i j : Nat} {nd : Nd} (h : testF s i = (nd, (j, false))) : nd.op = 121 ∨ nd.op = 58 := by
  unfold testF at h
  split at h
  · rw [← (Prod.mk.inj h).1]; exact .inr rfl
  · rw [← (Prod.mk.inj h).1]; exact .inl rfl

theorem two_list (y : Nat) (h : y < 100) : ∃ a b : UInt8, (twoB y).data.toList = [a, b] ∧ a.toNat = 48 + y / 10 ∧ b.toNat = 48 + y % 10 := by
  refine ⟨UInt8.ofNat (48 + (y : Int) / 10).toNat, UInt8.ofNat (48 + (y : Int) % 10).toNat, rfl, ?_, ?_⟩
  · rw [UInt8.toNat_ofNat']; omega
  · rw [UInt8.toNat_ofNat']; omega

theorem way_read {g : ByteArray} {q : Nat} {y : Int} (h0 : 0 ≤ y) (h1 : y ≤ 90) (h : At g q ((⟨#[44]⟩ : ByteArray) ++ twoB y.toNat).data.toList) : wayF g (q, false) = (y.toNat, (q + 3, false)) := by
  obtain ⟨a, b, e, ea, eb⟩ := two_list y.toNat (by omega)
  have e2 : ((⟨#[44]⟩ : ByteArray) ++ twoB y.toNat).data.toList = [44, a, b] := by
    rw [ByteArray.data_append, Array.toList_append, e]; rfl
  rw [e2] at h
  have p0 : pk g q = 44 := h.head
  have p1 : pk g (q + 1) = a.toNat := h.tail.head
  have p2 : pk g (q + 1 + 1) = b.toNat := h.tail.tail.head
  have d1 : digF g (q + 1, false) = (y.toNat / 10, (q + 1 + 1, false)) := by
    unfold digF
    rw [p1, ea, if_neg (by simp; omega)]
    refine Prod.ext ?_ rfl
    show 48 + y.toNat / 10 - 48 = _; omega
  have d2 : digF g (q + 1 + 1, false) = (y.toNat % 10, (q + 1 + 1 + 1, false)) := by
    unfold digF
    rw [p2, eb, if_neg (by simp; omega)]
    refine Prod.ext ?_ rfl
    show 48 + y.toNat % 10 - 48 = _; omega
  have e0 : eatF g (q, false) 44 = (q + 1, false) := by rw [eatF_pkb g _ 44 (by decide), pkb_false, if_pos p0]
  unfold wayF
  rw [e0, d1]
  dsimp only
  rw [d2]
  refine Prod.ext ?_ rfl
  show 10 * (y.toNat / 10) + y.toNat % 10 = _; omega

def nlB (n : NN) : List UInt8 := (lnTx n).data.toList

/-- The node as it is read again at p. -/
def reN (nd : Nd) (p : Nat) (y z : Int) : Nd := { nd with a := p, t := if nd.op = 33 then -1 else y, f := if nd.op = 121 ∨ nd.op = 58 then z else nd.f }

theorem line_read {g : ByteArray} {st : RS} {nd : Nd} {tx : ByteArray} {y z : Int} (hp : TxP nd tx) (hy : 0 ≤ y ∧ y ≤ 90) (hz : 0 ≤ z ∧ z ≤ 90) (h : At g st.i (nlB (encN nd tx y z))) :
    lineF g st = { st with i := st.i + (nlB (encN nd tx y z)).length, bad := false, nodes := st.nodes ++ [reN nd st.i y z] } := by
  obtain ⟨s, i, j, rfl, hij, hj, hsrc⟩ := hp
  have hact : (encN nd (sinceB s i j) y z).act = actN nd.op := rfl
  have e : nlB (encN nd (sinceB s i j) y z) = (sinceB s i j).data.toList ++ ((if nd.op = 33 then [] else ((⟨#[44]⟩ : ByteArray) ++ twoB y.toNat).data.toList) ++ ((if nd.op = 121 ∨ nd.op = 58 then ((⟨#[44]⟩ : ByteArray) ++ twoB z.toNat).data.toList else []) ++ [59])) := by
    have a1 := actN_11 nd.op
    have a2 := actN_t nd.op
    unfold nlB lnTx
    rw [hact]
    show (sinceB s i j ++ (if actN nd.op = 11 then ⟨#[]⟩ else ⟨#[44]⟩ ++ twoB y.toNat) ++ (if actN nd.op = 12 ∨ actN nd.op = 13 then ⟨#[44]⟩ ++ twoB z.toNat else ⟨#[]⟩) ++ ⟨#[59]⟩ : ByteArray).data.toList = _
    by_cases h1 : nd.op = 33 <;> by_cases h2 : nd.op = 121 ∨ nd.op = 58
    · omega
    · rw [if_pos (a1.2 h1), if_neg (fun e => h2 (a2.1 e)), if_pos h1, if_neg h2]; simp
    · rw [if_neg (fun e => h1 (a1.1 e)), if_pos (a2.2 h2), if_neg h1, if_pos h2]; simp
    · rw [if_neg (fun e => h1 (a1.1 e)), if_neg (fun e => h2 (a2.1 e)), if_neg h1, if_neg h2]; simp
  rw [e] at h ⊢
  have hA := h.left
  have hB := h.right
  obtain ⟨hsb, hlen⟩ := at_since hij hj hA
  rw [hlen] at hB
  have hw : ∀ (q : Nat) (v : Int), ((⟨#[44]⟩ : ByteArray) ++ twoB v.toNat).data.toList.length = 3 := fun q v => by
    rw [ByteArray.data_append, Array.toList_append]; rfl
  have hL : lineN g st.i = ({ nd with a := st.i }, (st.i + (j - i), false)) := by
    rcases hsrc with hs | hs
    · obtain ⟨_, l2, l3⟩ := simp_loc hs hsb
      unfold lineN
      rw [if_neg (by omega), if_neg (by omega)]
      exact l2
    · have ht := test_op hs
      rw [if_neg (by omega)] at hB
      have hc : pk g (st.i + (j - i)) = 44 := by
        have := hB.left
        rw [ByteArray.data_append, Array.toList_append] at this
        exact this.left.head
      obtain ⟨_, l2, l3, l4, l5, l6⟩ := test_loc hs hsb hc
      unfold lineN
      rw [if_neg (by omega), if_pos ⟨l3, l4, l5, l6⟩]
      exact l2
  rw [lineF_eq, hL]
  unfold lineR lineT lineG
  rw [if_neg (by show ¬ (false = true); decide)]
  dsimp only
  by_cases h1 : nd.op = 33
  · have h2 : ¬ (nd.op = 121 ∨ nd.op = 58) := by omega
    rw [if_pos h1, if_neg h2] at hB ⊢
    rw [if_pos h1, if_neg h2]
    have p59 : pk g (st.i + (j - i)) = 59 := hB.head
    have e59 : eatF g (st.i + (j - i), false) 59 = (st.i + (j - i) + 1, false) := by rw [eatF_pkb g _ 59 (by decide), pkb_false, if_pos p59]
    dsimp only
    rw [e59]
    unfold reN
    rw [if_pos h1, if_neg h2]
    simp only [List.length_append, hlen, List.length_nil, List.length_singleton]
    congr 1
  · rw [if_neg h1] at hB ⊢
    rw [if_neg h1]
    have w1 := way_read hy.1 hy.2 hB.left
    have hB2 := hB.right
    rw [hw 0 y] at hB2
    rw [w1]
    dsimp only
    by_cases h2 : nd.op = 121 ∨ nd.op = 58
    · rw [if_pos h2] at hB2 ⊢
      rw [if_pos h2]
      have w2 := way_read hz.1 hz.2 hB2.left
      have hB3 := hB2.right
      rw [hw 0 z] at hB3
      rw [w2]
      dsimp only
      have p59 : pk g (st.i + (j - i) + 3 + 3) = 59 := hB3.head
      have e59 : eatF g (st.i + (j - i) + 3 + 3, false) 59 = (st.i + (j - i) + 3 + 3 + 1, false) := by rw [eatF_pkb g _ 59 (by decide), pkb_false, if_pos p59]
      rw [e59]
      unfold reN
      rw [if_neg h1, if_pos h2]
      simp only [List.length_append, hlen, hw 0 y, hw 0 z, List.length_singleton, Int.toNat_of_nonneg hy.1, Int.toNat_of_nonneg hz.1]
      congr 1
    · rw [if_neg h2] at hB2 ⊢
      rw [if_neg h2]
      have p59 : pk g (st.i + (j - i) + 3) = 59 := hB2.head
      have e59 : eatF g (st.i + (j - i) + 3, false) 59 = (st.i + (j - i) + 3 + 1, false) := by rw [eatF_pkb g _ 59 (by decide), pkb_false, if_pos p59]
      rw [e59]
      unfold reN
      rw [if_neg h1, if_neg h2]
      simp only [List.length_append, hlen, hw 0 y, List.length_nil, List.length_singleton, Int.toNat_of_nonneg hy.1]
      congr 1
end Go.Proofs.YtellieabhaphhabGreatDoor

/-
  Longer: its helpers.
-/
namespace Go.Proofs.YtellieabhaphhabGreatDoor
open Go.RowKit

/-- One call of Walk. -/
def WlkIs (s inp : ByteArray) (fuel : Int) (t u : ByteArray) (c : Int) : Prop :=
  ∀ W, Tab W → Calls Tryz.prog 22 #[.string s, .string inp, .int .i64 fuel] W fun e w' => e = .returned (.tuple #[.string t, .string u, .int .i64 c]) ∧ Kp no W w'

/-- The first with less fuel, the second with more. -/
def Fur (t u : ByteArray) (c : Int) (t' u' : ByteArray) (c' : Int) : Prop := (c ≠ 4 → t' = t ∧ u' = u ∧ c' = c) ∧ (c = 4 → Pre t t' ∧ Pre u u')
theorem Fur.refl (t u : ByteArray) (c : Int) : Fur t u c t u c := ⟨fun _ => ⟨rfl, rfl, rfl⟩, fun _ => ⟨Pre.refl _, Pre.refl _⟩⟩

end Go.Proofs.YtellieabhaphhabGreatDoor

/-
  narrowref's Prune.
-/
namespace Go.Proofs.YtellieabhaphhabGreatDoor
open Go.RowKit

theorem TV.kp {w w' : World} {v : Value} {T : Tbl} (h : TV w v T) (k : Kp no w w') : TV w' v T := by
  obtain ⟨tb, cap, rfl, htb, hat⟩ := h
  refine ⟨tb, cap, rfl, Nat.lt_of_lt_of_le htb k.size, fun i hi => ?_⟩
  obtain ⟨a, c, h1, h2⟩ := hat i hi
  exact ⟨a, c, (k.cell htb no_elim i).trans h1, k.row h2 (fun _ _ => no_elim)⟩

/-- The nodes that are left so far. -/
structure LB (w0 w : World) (v : Value) (l : List Nd) : Prop where
  r : DRow w v l
  o : New w0 v

theorem LB.kp {w0 w w' : World} {v : Value} {l : List Nd} (h : LB w0 w v l) (k : Kp no w w') : LB w0 w' v l := ⟨k.row h.r (fun _ _ => no_elim), h.o⟩
theorem LB.set {w0 w : World} {v : Value} {l : List Nd} (h : LB w0 w v l) {b o : Nat} (u : Value) (hb : v.ownBlock ≠ some b) : LB w0 (w.setCell ⟨b, o, none⟩ u) v l := ⟨Row.set h.r _ hb, h.o⟩

theorem ncells_snoc {l : List Nd} {n : Nd} : nCells (l ++ [n]) = nCells l ++ n.cells := by
  rw [nCells, List.flatMap_append, ← nCells, List.flatMap_cons, List.flatMap_nil, List.append_nil]

theorem drow_snoc {W' : World} {l : List Nd} {n : Nd} {g cap : Nat}
    (hown : W'.ownsRow 0 111 9 (.slice (some ⟨g, 0, none⟩) (l.length + 1) cap) (l.length + 1) (nCells l ++ n.cells)) : DRow W' (.slice (some ⟨g, 0, none⟩) (l.length + 1) cap) (l ++ [n]) := by
  have e4 : (l ++ [n]).length = l.length + 1 := List.length_append
  show World.ownsRow W' 0 111 9 _ (l ++ [n]).length (nCells (l ++ [n]))
  rw [ncells_snoc, e4]
  exact hown

/-- A node is appended. -/
theorem LB.app {w0 W W' : World} {v : Value} {l : List Nd} {o : Obj} {g cap : Nat} (n : Nd) (h : LB w0 W v l) (hk : Kp no w0 W)
    (hown : W'.ownsRow 0 111 9 (.slice (some ⟨g, 0, none⟩) (l.length + 1) cap) (l.length + 1) (nCells l ++ n.cells)) (hgrow : (W.alloc o).grownBy W' v.ownBlock) (hat : v.ownBlock = some g ∨ g = (W.alloc o).heap.size) :
    LB w0 W' (.slice (some ⟨g, 0, none⟩) (l.length + 1) cap) (l ++ [n]) ∧ Kp no w0 W' :=
  ⟨⟨drow_snoc hown, (app_step h.o hk hgrow hat (l.length + 1) cap).1⟩, (app_step h.o hk hgrow hat (l.length + 1) cap).2⟩

end Go.Proofs.YtellieabhaphhabGreatDoor
