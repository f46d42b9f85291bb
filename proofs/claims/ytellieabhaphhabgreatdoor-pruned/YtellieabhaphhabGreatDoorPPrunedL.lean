import Derived.Test.YtellieabhaphhabGreatDoorPPrunedK
/-
  narrow's run: a step.
-/
namespace Go.Proofs.YtellieabhaphhabGreatDoor
open Go.RowKit

theorem NB.outC {w : World} {r : Nat} {inp : ByteArray} {m : Mc} (h : NB w r inp m) : w.cell? ⟨r, 21, none⟩ = some (.string m.out) := by
  obtain ⟨hb, h6⟩ := h
  obtain ⟨l, rd, left, tr, outp, me⟩ := m
  dsimp only at *
  obtain ⟨a, b, c, d, e, f, rfl⟩ := six_of h6
  exact hb.cell 21

theorem NB.setOut {w : World} {r : Nat} {inp : ByteArray} {m : Mc} (h : NB w r inp m) (o : ByteArray) : NB (w.setCell ⟨r, 21, none⟩ (.string o)) r inp { m with out := o } := by
  obtain ⟨hb, h6⟩ := h
  obtain ⟨l, rd, left, tr, outp, me⟩ := m
  dsimp only at *
  obtain ⟨a, b, c, d, e, f, rfl⟩ := six_of h6
  exact ⟨hb.set 21 _, rfl⟩

set_option maxHeartbeats 1600000 in
theorem nway_of {w : World} {r : Nat} {inp : ByteArray} {m : Mc} (tx : ByteArray) (act nx nw ck cn ch kd yes nno : Int) (y : Nat) (u : Vl) (h : NB w r inp m) (hu : m.l[y]? = some u) (q : Bool)
    (hq : (if act = 12 then (bit u.k != 4 && bit u.k != 8 && (bit u.k != 1 || u.n != 0)) else if act = 13 then bit u.k == kd else true) = q) :
    Calls Tryz.prog 49 #[.pointer (some ⟨r, 0, none⟩), .agg #[.string tx, .int .i64 act, .int .i64 nx, .int .i64 y, .int .i64 nw, .int .i64 ck, .int .i64 cn, .int .i64 ch, .int .i64 kd, .int .i64 yes, .int .i64 nno]] w fun e w' =>
      e = .returned (.int .i64 (if q then yes else nno)) ∧ Kp no w w' := by
  have HV := hide (fun W (hW : NB W r inp m) => nvalueOf_c y u hW hu)
  have HH := hide (fun W => nholds_c tx act nx y nw ck cn ch kd yes nno (bit u.k) u.n (bit u.v) W)
  rw [hq] at HH
  have HB := hide h.b
  clear hq
  generalize bit u.k = uk at *
  generalize bit u.v = uv at *
  generalize u.n = un at *
  go_enter Tryz.func49, Tryz.ntmps49
  go_wp2_with fail
  refine (HV.out _ ⟨by exact Blk.alloc HB.out _, h.six⟩).mono ?_
  rintro e w1 ⟨rfl, k1⟩
  have hN : Blk w1 w.heap.size [.string tx, .int .i64 act, .int .i64 nx, .int .i64 y, .int .i64 nw, .int .i64 ck, .int .i64 cn, .int .i64 ch, .int .i64 kd, .int .i64 yes, .int .i64 nno] 68 := k1.blk (by (repeat' (first | ((with_reducible show (_ : List Value) = _); rfl) | ((with_reducible refine Blk.newAt _ _ _ ?_); first | with_reducible rfl | (simp; done)) | with_reducible refine Blk.alloc ?_ _ | with_reducible refine Blk.drewN ?_ _ | with_reducible refine Blk.drew ?_ | ((with_reducible refine Blk.other ?_ _ ?_); rotate_left; ((try dsimp only); omega)) | with_reducible refine Blk.setB (cs0 := ?_) ?_ ?_))) no_elim
  obtain ⟨d0, d1, d2, d3, d4, d5, d6, d7, d8, d9, d10, df⟩ := hN.c11
  have hz := hN.lt
  go_wp2_with fail
  refine (HH.out _).mono ?_
  rintro e w2 ⟨rfl, k2⟩
  have hN2 : Blk w2 w.heap.size [.string tx, .int .i64 act, .int .i64 nx, .int .i64 y, .int .i64 nw, .int .i64 ck, .int .i64 cn, .int .i64 ch, .int .i64 kd, .int .i64 yes, .int .i64 nno] 68 := k2.blk (by (repeat' (first | ((with_reducible show (_ : List Value) = _); rfl) | with_reducible exact hN | ((with_reducible refine Blk.newAt _ _ _ ?_); first | with_reducible rfl | (simp; done)) | with_reducible refine Blk.alloc ?_ _ | with_reducible refine Blk.drewN ?_ _ | with_reducible refine Blk.drew ?_ | ((with_reducible refine Blk.other ?_ _ ?_); rotate_left; ((try dsimp only); omega)) | with_reducible refine Blk.setB (cs0 := ?_) ?_ ?_))) no_elim
  obtain ⟨e0, e1, e2, e3, e4, e5, e6, e7, e8, e9, e10, ef⟩ := hN2.c11
  cases q
  · go_wp2
    go_ret
    exact ⟨rfl, by (repeat' (first | with_reducible exact Kp.refl _ _ | with_reducible refine Kp.alloc ?_ _ | with_reducible refine Kp.drewN ?_ _ | with_reducible refine Kp.drew ?_ | with_reducible refine Kp.setCell ?_ _ ?_ | with_reducible refine Kp.trans ?_ k1 (fun _ _ e => e) | with_reducible refine Kp.trans ?_ k2 (fun _ _ e => e) | (intro hh; first | rfl | exact .inl rfl | exact .inr rfl | (exfalso; (try dsimp only at hh); omega))))⟩
  · go_wp2
    go_ret
    exact ⟨rfl, by (repeat' (first | with_reducible exact Kp.refl _ _ | with_reducible refine Kp.alloc ?_ _ | with_reducible refine Kp.drewN ?_ _ | with_reducible refine Kp.drew ?_ | with_reducible refine Kp.setCell ?_ _ ?_ | with_reducible refine Kp.trans ?_ k1 (fun _ _ e => e) | with_reducible refine Kp.trans ?_ k2 (fun _ _ e => e) | (intro hh; first | rfl | exact .inl rfl | exact .inr rfl | (exfalso; (try dsimp only at hh); omega))))⟩

set_option maxHeartbeats 3200000 in
theorem nstep_k1 {w : World} {r : Nat} {inp : ByteArray} {m : Mc} (tx : ByteArray) (act ck cn ch kd yes nno : Int) (x y v : Nat) (yu vu : Vl) (h : NB w r inp m) (hyu : m.l[y]? = some yu) (hvu : m.l[v]? = some vu)
    (hb1 : (bits BinOp.and IntKind.i64 (bit yu.k) (tkM act) == 0) = true) :
    Calls Tryz.prog 48 #[.pointer (some ⟨r, 0, none⟩), .agg #[.string tx, .int .i64 act, .int .i64 x, .int .i64 y, .int .i64 v, .int .i64 ck, .int .i64 cn, .int .i64 ch, .int .i64 kd, .int .i64 yes, .int .i64 nno]] w fun e w' => e = .returned (.int .i64 5) ∧ NB w' r inp m ∧ Kp (· = r) w w' := by
  have HV := hide (fun W (hW : NB W r inp m) => nvalueOf_c y yu hW hyu)
  have HW := hide (fun W (hW : NB W r inp m) => nvalueOf_c v vu hW hvu)
  have HT := hide (fun W => ntakenKinds_c act W)
  have hr := h.b.lt
  have HB := hide h
  clear h
  generalize bit yu.k = yk at *
  generalize bit yu.v = yv at *
  generalize bit vu.k = wk at *
  generalize bit vu.v = wv at *
  generalize hyn : yu.n = yn at *
  generalize hwn : vu.n = wn at *
  generalize tkM act = tk at *
  have HYN := hide hyn
  have HWN := hide hwn
  clear hyn hwn
  go_enter Tryz.func48, Tryz.ntmps48
  go_wp2_with fail
  refine (HV.out _ ⟨Blk.alloc HB.out.b _, HB.out.six⟩).mono ?_
  rintro e w1 ⟨rfl, k1⟩
  have hN : Blk w1 w.heap.size [.string tx, .int .i64 act, .int .i64 x, .int .i64 y, .int .i64 v, .int .i64 ck, .int .i64 cn, .int .i64 ch, .int .i64 kd, .int .i64 yes, .int .i64 nno] 68 := k1.blk (by (repeat' (first | ((with_reducible show (_ : List Value) = _); rfl) | ((with_reducible refine Blk.newAt _ _ _ ?_); first | with_reducible rfl | (simp; done)) | with_reducible refine Blk.alloc ?_ _ | with_reducible refine Blk.drewN ?_ _ | with_reducible refine Blk.drew ?_ | ((with_reducible refine Blk.other ?_ _ ?_); rotate_left; ((try dsimp only); omega)) | with_reducible refine Blk.setB (cs0 := ?_) ?_ ?_))) no_elim
  obtain ⟨d0, d1, d2, d3, d4, d5, d6, d7, d8, d9, d10, df⟩ := hN.c11
  have hz := hN.lt
  have hB1 := k1.blk (Blk.alloc HB.out.b _) no_elim
  have hr1 := hB1.lt
  go_wp2_with fail
  refine (HW.out _ ⟨Blk.alloc hB1 _, HB.out.six⟩).mono ?_
  rintro e w2 ⟨rfl, k2⟩
  have hN2 : Blk w2 w.heap.size [.string tx, .int .i64 act, .int .i64 x, .int .i64 y, .int .i64 v, .int .i64 ck, .int .i64 cn, .int .i64 ch, .int .i64 kd, .int .i64 yes, .int .i64 nno] 68 := k2.blk (by (repeat' (first | ((with_reducible show (_ : List Value) = _); rfl) | with_reducible exact hN | ((with_reducible refine Blk.newAt _ _ _ ?_); first | with_reducible rfl | (simp; done)) | with_reducible refine Blk.alloc ?_ _ | with_reducible refine Blk.drewN ?_ _ | with_reducible refine Blk.drew ?_ | ((with_reducible refine Blk.other ?_ _ ?_); rotate_left; ((try dsimp only); omega)) | with_reducible refine Blk.setB (cs0 := ?_) ?_ ?_))) no_elim
  have hY2 : Blk w2 w1.heap.size [.int .i64 yk, .int .i64 yn, .int .i64 yv] 66 := k2.blk (by (repeat' (first | ((with_reducible show (_ : List Value) = _); rfl) | ((with_reducible refine Blk.newAt _ _ _ ?_); first | with_reducible rfl | (simp; done)) | with_reducible refine Blk.alloc ?_ _ | with_reducible refine Blk.drewN ?_ _ | with_reducible refine Blk.drew ?_ | ((with_reducible refine Blk.other ?_ _ ?_); rotate_left; ((try dsimp only); omega)) | with_reducible refine Blk.setB (cs0 := ?_) ?_ ?_))) no_elim
  obtain ⟨e0, e1, e2, e3, e4, e5, e6, e7, e8, e9, e10, ef⟩ := hN2.c11
  obtain ⟨y0, y1, y2, yf⟩ := hY2.c3
  have hB2 := k2.blk (Blk.alloc hB1 _) no_elim
  have hz2 := hY2.lt
  have hz3 := hN2.lt
  have hr2 := hB2.lt
  have hr3 : r ≠ w.heap.size := by omega
  have hr4 : r ≠ w1.heap.size := by omega
  have hr5 : r ≠ w2.heap.size := by omega
  have kk : Kp no w w2 := by (repeat' (first | with_reducible exact Kp.refl _ _ | with_reducible refine Kp.alloc ?_ _ | with_reducible refine Kp.drewN ?_ _ | with_reducible refine Kp.drew ?_ | with_reducible refine Kp.setCell ?_ _ ?_ | with_reducible refine Kp.trans ?_ k1 (fun _ _ e => e) | with_reducible refine Kp.trans ?_ k2 (fun _ _ e => e) | (intro hh; first | rfl | exact .inl rfl | exact .inr rfl | (exfalso; (try dsimp only at hh); omega))))
  clear d0 d1 d2 d3 d4 d5 d6 d7 d8 d9 d10 df
  go_wp2_with fail
  refine (HT.out _).mono ?_
  rintro e w3 ⟨rfl, rfl⟩
  go_wp2_with fail
  go_ret
  have K := kk.mono (S' := (· = r)) (fun _ e => False.elim e)
  exact ⟨rfl, ⟨Blk.alloc hB2 _, HB.out.six⟩, by (repeat' (first | with_reducible exact Kp.refl _ _ | with_reducible refine Kp.alloc ?_ _ | with_reducible refine Kp.drewN ?_ _ | with_reducible refine Kp.drew ?_ | with_reducible refine Kp.setCell ?_ _ ?_ | with_reducible refine Kp.trans ?_ K (fun _ _ e => e) | (intro hh; first | rfl | exact .inl rfl | exact .inr rfl | (exfalso; (try dsimp only at hh); omega))))⟩

set_option maxHeartbeats 3200000 in
theorem nstep_k2 {w : World} {r : Nat} {inp : ByteArray} {m : Mc} (tx : ByteArray) (act ck cn ch kd yes nno : Int) (x y v : Nat) (yu vu : Vl) (h : NB w r inp m) (hyu : m.l[y]? = some yu) (hvu : m.l[v]? = some vu)
    (hb1 : (bits BinOp.and IntKind.i64 (bit yu.k) (tkM act) == 0) = false) (hb2 : (bits BinOp.and IntKind.i64 (bit vu.k) (tkM act) == 0) = true) :
    Calls Tryz.prog 48 #[.pointer (some ⟨r, 0, none⟩), .agg #[.string tx, .int .i64 act, .int .i64 x, .int .i64 y, .int .i64 v, .int .i64 ck, .int .i64 cn, .int .i64 ch, .int .i64 kd, .int .i64 yes, .int .i64 nno]] w fun e w' => e = .returned (.int .i64 5) ∧ NB w' r inp m ∧ Kp (· = r) w w' := by
  have HV := hide (fun W (hW : NB W r inp m) => nvalueOf_c y yu hW hyu)
  have HW := hide (fun W (hW : NB W r inp m) => nvalueOf_c v vu hW hvu)
  have HT := hide (fun W => ntakenKinds_c act W)
  have hr := h.b.lt
  have HB := hide h
  clear h
  generalize bit yu.k = yk at *
  generalize bit yu.v = yv at *
  generalize bit vu.k = wk at *
  generalize bit vu.v = wv at *
  generalize hyn : yu.n = yn at *
  generalize hwn : vu.n = wn at *
  generalize tkM act = tk at *
  have HYN := hide hyn
  have HWN := hide hwn
  clear hyn hwn
  go_enter Tryz.func48, Tryz.ntmps48
  go_wp2_with fail
  refine (HV.out _ ⟨Blk.alloc HB.out.b _, HB.out.six⟩).mono ?_
  rintro e w1 ⟨rfl, k1⟩
  have hN : Blk w1 w.heap.size [.string tx, .int .i64 act, .int .i64 x, .int .i64 y, .int .i64 v, .int .i64 ck, .int .i64 cn, .int .i64 ch, .int .i64 kd, .int .i64 yes, .int .i64 nno] 68 := k1.blk (by (repeat' (first | ((with_reducible show (_ : List Value) = _); rfl) | ((with_reducible refine Blk.newAt _ _ _ ?_); first | with_reducible rfl | (simp; done)) | with_reducible refine Blk.alloc ?_ _ | with_reducible refine Blk.drewN ?_ _ | with_reducible refine Blk.drew ?_ | ((with_reducible refine Blk.other ?_ _ ?_); rotate_left; ((try dsimp only); omega)) | with_reducible refine Blk.setB (cs0 := ?_) ?_ ?_))) no_elim
  obtain ⟨d0, d1, d2, d3, d4, d5, d6, d7, d8, d9, d10, df⟩ := hN.c11
  have hz := hN.lt
  have hB1 := k1.blk (Blk.alloc HB.out.b _) no_elim
  have hr1 := hB1.lt
  go_wp2_with fail
  refine (HW.out _ ⟨Blk.alloc hB1 _, HB.out.six⟩).mono ?_
  rintro e w2 ⟨rfl, k2⟩
  have hN2 : Blk w2 w.heap.size [.string tx, .int .i64 act, .int .i64 x, .int .i64 y, .int .i64 v, .int .i64 ck, .int .i64 cn, .int .i64 ch, .int .i64 kd, .int .i64 yes, .int .i64 nno] 68 := k2.blk (by (repeat' (first | ((with_reducible show (_ : List Value) = _); rfl) | with_reducible exact hN | ((with_reducible refine Blk.newAt _ _ _ ?_); first | with_reducible rfl | (simp; done)) | with_reducible refine Blk.alloc ?_ _ | with_reducible refine Blk.drewN ?_ _ | with_reducible refine Blk.drew ?_ | ((with_reducible refine Blk.other ?_ _ ?_); rotate_left; ((try dsimp only); omega)) | with_reducible refine Blk.setB (cs0 := ?_) ?_ ?_))) no_elim
  have hY2 : Blk w2 w1.heap.size [.int .i64 yk, .int .i64 yn, .int .i64 yv] 66 := k2.blk (by (repeat' (first | ((with_reducible show (_ : List Value) = _); rfl) | ((with_reducible refine Blk.newAt _ _ _ ?_); first | with_reducible rfl | (simp; done)) | with_reducible refine Blk.alloc ?_ _ | with_reducible refine Blk.drewN ?_ _ | with_reducible refine Blk.drew ?_ | ((with_reducible refine Blk.other ?_ _ ?_); rotate_left; ((try dsimp only); omega)) | with_reducible refine Blk.setB (cs0 := ?_) ?_ ?_))) no_elim
  obtain ⟨e0, e1, e2, e3, e4, e5, e6, e7, e8, e9, e10, ef⟩ := hN2.c11
  obtain ⟨y0, y1, y2, yf⟩ := hY2.c3
  have hB2 := k2.blk (Blk.alloc hB1 _) no_elim
  have hz2 := hY2.lt
  have hz3 := hN2.lt
  have hr2 := hB2.lt
  have hr3 : r ≠ w.heap.size := by omega
  have hr4 : r ≠ w1.heap.size := by omega
  have hr5 : r ≠ w2.heap.size := by omega
  have kk : Kp no w w2 := by (repeat' (first | with_reducible exact Kp.refl _ _ | with_reducible refine Kp.alloc ?_ _ | with_reducible refine Kp.drewN ?_ _ | with_reducible refine Kp.drew ?_ | with_reducible refine Kp.setCell ?_ _ ?_ | with_reducible refine Kp.trans ?_ k1 (fun _ _ e => e) | with_reducible refine Kp.trans ?_ k2 (fun _ _ e => e) | (intro hh; first | rfl | exact .inl rfl | exact .inr rfl | (exfalso; (try dsimp only at hh); omega))))
  clear d0 d1 d2 d3 d4 d5 d6 d7 d8 d9 d10 df
  go_wp2_with fail
  refine (HT.out _).mono ?_
  rintro e w3 ⟨rfl, rfl⟩
  go_wp2_with fail
  go_ret
  have K := kk.mono (S' := (· = r)) (fun _ e => False.elim e)
  exact ⟨rfl, ⟨Blk.alloc hB2 _, HB.out.six⟩, by (repeat' (first | with_reducible exact Kp.refl _ _ | with_reducible refine Kp.alloc ?_ _ | with_reducible refine Kp.drewN ?_ _ | with_reducible refine Kp.drew ?_ | with_reducible refine Kp.setCell ?_ _ ?_ | with_reducible refine Kp.trans ?_ K (fun _ _ e => e) | (intro hh; first | rfl | exact .inl rfl | exact .inr rfl | (exfalso; (try dsimp only at hh); omega))))⟩

set_option maxHeartbeats 3200000 in
theorem nstep_11 {w : World} {r : Nat} {inp : ByteArray} {m : Mc} (tx : ByteArray) ( ck cn ch kd yes nno : Int) (x y v : Nat) (yu vu : Vl) (h : NB w r inp m) (hyu : m.l[y]? = some yu) (hvu : m.l[v]? = some vu)
    (hb1 : (bits BinOp.and IntKind.i64 (bit yu.k) (tkM 11) == 0) = false) (hb2 : (bits BinOp.and IntKind.i64 (bit vu.k) (tkM 11) == 0) = false) :
    Calls Tryz.prog 48 #[.pointer (some ⟨r, 0, none⟩), .agg #[.string tx, .int .i64 11, .int .i64 x, .int .i64 y, .int .i64 v, .int .i64 ck, .int .i64 cn, .int .i64 ch, .int .i64 kd, .int .i64 yes, .int .i64 nno]] w fun e w' => e = .returned (.int .i64 6) ∧ NB w' r inp m ∧ Kp (· = r) w w' := by
  have HV := hide (fun W (hW : NB W r inp m) => nvalueOf_c y yu hW hyu)
  have HW := hide (fun W (hW : NB W r inp m) => nvalueOf_c v vu hW hvu)
  have HT := hide (fun W => ntakenKinds_c 11 W)
  have hr := h.b.lt
  have HB := hide h
  clear h
  generalize bit yu.k = yk at *
  generalize bit yu.v = yv at *
  generalize bit vu.k = wk at *
  generalize bit vu.v = wv at *
  generalize hyn : yu.n = yn at *
  generalize hwn : vu.n = wn at *
  generalize tkM 11 = tk at *
  have HYN := hide hyn
  have HWN := hide hwn
  clear hyn hwn
  go_enter Tryz.func48, Tryz.ntmps48
  go_wp2_with fail
  refine (HV.out _ ⟨Blk.alloc HB.out.b _, HB.out.six⟩).mono ?_
  rintro e w1 ⟨rfl, k1⟩
  have hN : Blk w1 w.heap.size [.string tx, .int .i64 11, .int .i64 x, .int .i64 y, .int .i64 v, .int .i64 ck, .int .i64 cn, .int .i64 ch, .int .i64 kd, .int .i64 yes, .int .i64 nno] 68 := k1.blk (by (repeat' (first | ((with_reducible show (_ : List Value) = _); rfl) | ((with_reducible refine Blk.newAt _ _ _ ?_); first | with_reducible rfl | (simp; done)) | with_reducible refine Blk.alloc ?_ _ | with_reducible refine Blk.drewN ?_ _ | with_reducible refine Blk.drew ?_ | ((with_reducible refine Blk.other ?_ _ ?_); rotate_left; ((try dsimp only); omega)) | with_reducible refine Blk.setB (cs0 := ?_) ?_ ?_))) no_elim
  obtain ⟨d0, d1, d2, d3, d4, d5, d6, d7, d8, d9, d10, df⟩ := hN.c11
  have hz := hN.lt
  have hB1 := k1.blk (Blk.alloc HB.out.b _) no_elim
  have hr1 := hB1.lt
  go_wp2_with fail
  refine (HW.out _ ⟨Blk.alloc hB1 _, HB.out.six⟩).mono ?_
  rintro e w2 ⟨rfl, k2⟩
  have hN2 : Blk w2 w.heap.size [.string tx, .int .i64 11, .int .i64 x, .int .i64 y, .int .i64 v, .int .i64 ck, .int .i64 cn, .int .i64 ch, .int .i64 kd, .int .i64 yes, .int .i64 nno] 68 := k2.blk (by (repeat' (first | ((with_reducible show (_ : List Value) = _); rfl) | with_reducible exact hN | ((with_reducible refine Blk.newAt _ _ _ ?_); first | with_reducible rfl | (simp; done)) | with_reducible refine Blk.alloc ?_ _ | with_reducible refine Blk.drewN ?_ _ | with_reducible refine Blk.drew ?_ | ((with_reducible refine Blk.other ?_ _ ?_); rotate_left; ((try dsimp only); omega)) | with_reducible refine Blk.setB (cs0 := ?_) ?_ ?_))) no_elim
  have hY2 : Blk w2 w1.heap.size [.int .i64 yk, .int .i64 yn, .int .i64 yv] 66 := k2.blk (by (repeat' (first | ((with_reducible show (_ : List Value) = _); rfl) | ((with_reducible refine Blk.newAt _ _ _ ?_); first | with_reducible rfl | (simp; done)) | with_reducible refine Blk.alloc ?_ _ | with_reducible refine Blk.drewN ?_ _ | with_reducible refine Blk.drew ?_ | ((with_reducible refine Blk.other ?_ _ ?_); rotate_left; ((try dsimp only); omega)) | with_reducible refine Blk.setB (cs0 := ?_) ?_ ?_))) no_elim
  obtain ⟨e0, e1, e2, e3, e4, e5, e6, e7, e8, e9, e10, ef⟩ := hN2.c11
  obtain ⟨y0, y1, y2, yf⟩ := hY2.c3
  have hB2 := k2.blk (Blk.alloc hB1 _) no_elim
  have hz2 := hY2.lt
  have hz3 := hN2.lt
  have hr2 := hB2.lt
  have hr3 : r ≠ w.heap.size := by omega
  have hr4 : r ≠ w1.heap.size := by omega
  have hr5 : r ≠ w2.heap.size := by omega
  have kk : Kp no w w2 := by (repeat' (first | with_reducible exact Kp.refl _ _ | with_reducible refine Kp.alloc ?_ _ | with_reducible refine Kp.drewN ?_ _ | with_reducible refine Kp.drew ?_ | with_reducible refine Kp.setCell ?_ _ ?_ | with_reducible refine Kp.trans ?_ k1 (fun _ _ e => e) | with_reducible refine Kp.trans ?_ k2 (fun _ _ e => e) | (intro hh; first | rfl | exact .inl rfl | exact .inr rfl | (exfalso; (try dsimp only at hh); omega))))
  clear d0 d1 d2 d3 d4 d5 d6 d7 d8 d9 d10 df
  go_wp2_with fail
  refine (HT.out _).mono ?_
  rintro e w3 ⟨rfl, rfl⟩
  go_wp2_with fail
  go_ret
  have K := kk.mono (S' := (· = r)) (fun _ e => False.elim e)
  exact ⟨rfl, ⟨Blk.alloc hB2 _, HB.out.six⟩, by (repeat' (first | with_reducible exact Kp.refl _ _ | with_reducible refine Kp.alloc ?_ _ | with_reducible refine Kp.drewN ?_ _ | with_reducible refine Kp.drew ?_ | with_reducible refine Kp.setCell ?_ _ ?_ | with_reducible refine Kp.trans ?_ K (fun _ _ e => e) | (intro hh; first | rfl | exact .inl rfl | exact .inr rfl | (exfalso; (try dsimp only at hh); omega))))⟩

set_option maxHeartbeats 3200000 in
theorem nstep_12 {w : World} {r : Nat} {inp : ByteArray} {m : Mc} (tx : ByteArray) ( ck cn ch kd yes nno : Int) (x y v : Nat) (yu vu : Vl) (h : NB w r inp m) (hyu : m.l[y]? = some yu) (hvu : m.l[v]? = some vu)
    (hb1 : (bits BinOp.and IntKind.i64 (bit yu.k) (tkM 12) == 0) = false) (hb2 : (bits BinOp.and IntKind.i64 (bit vu.k) (tkM 12) == 0) = false) :
    Calls Tryz.prog 48 #[.pointer (some ⟨r, 0, none⟩), .agg #[.string tx, .int .i64 12, .int .i64 x, .int .i64 y, .int .i64 v, .int .i64 ck, .int .i64 cn, .int .i64 ch, .int .i64 kd, .int .i64 yes, .int .i64 nno]] w fun e w' => e = .returned (.int .i64 0) ∧ NB w' r inp m ∧ Kp (· = r) w w' := by
  have HV := hide (fun W (hW : NB W r inp m) => nvalueOf_c y yu hW hyu)
  have HW := hide (fun W (hW : NB W r inp m) => nvalueOf_c v vu hW hvu)
  have HT := hide (fun W => ntakenKinds_c 12 W)
  have hr := h.b.lt
  have HB := hide h
  clear h
  generalize bit yu.k = yk at *
  generalize bit yu.v = yv at *
  generalize bit vu.k = wk at *
  generalize bit vu.v = wv at *
  generalize hyn : yu.n = yn at *
  generalize hwn : vu.n = wn at *
  generalize tkM 12 = tk at *
  have HYN := hide hyn
  have HWN := hide hwn
  clear hyn hwn
  go_enter Tryz.func48, Tryz.ntmps48
  go_wp2_with fail
  refine (HV.out _ ⟨Blk.alloc HB.out.b _, HB.out.six⟩).mono ?_
  rintro e w1 ⟨rfl, k1⟩
  have hN : Blk w1 w.heap.size [.string tx, .int .i64 12, .int .i64 x, .int .i64 y, .int .i64 v, .int .i64 ck, .int .i64 cn, .int .i64 ch, .int .i64 kd, .int .i64 yes, .int .i64 nno] 68 := k1.blk (by (repeat' (first | ((with_reducible show (_ : List Value) = _); rfl) | ((with_reducible refine Blk.newAt _ _ _ ?_); first | with_reducible rfl | (simp; done)) | with_reducible refine Blk.alloc ?_ _ | with_reducible refine Blk.drewN ?_ _ | with_reducible refine Blk.drew ?_ | ((with_reducible refine Blk.other ?_ _ ?_); rotate_left; ((try dsimp only); omega)) | with_reducible refine Blk.setB (cs0 := ?_) ?_ ?_))) no_elim
  obtain ⟨d0, d1, d2, d3, d4, d5, d6, d7, d8, d9, d10, df⟩ := hN.c11
  have hz := hN.lt
  have hB1 := k1.blk (Blk.alloc HB.out.b _) no_elim
  have hr1 := hB1.lt
  go_wp2_with fail
  refine (HW.out _ ⟨Blk.alloc hB1 _, HB.out.six⟩).mono ?_
  rintro e w2 ⟨rfl, k2⟩
  have hN2 : Blk w2 w.heap.size [.string tx, .int .i64 12, .int .i64 x, .int .i64 y, .int .i64 v, .int .i64 ck, .int .i64 cn, .int .i64 ch, .int .i64 kd, .int .i64 yes, .int .i64 nno] 68 := k2.blk (by (repeat' (first | ((with_reducible show (_ : List Value) = _); rfl) | with_reducible exact hN | ((with_reducible refine Blk.newAt _ _ _ ?_); first | with_reducible rfl | (simp; done)) | with_reducible refine Blk.alloc ?_ _ | with_reducible refine Blk.drewN ?_ _ | with_reducible refine Blk.drew ?_ | ((with_reducible refine Blk.other ?_ _ ?_); rotate_left; ((try dsimp only); omega)) | with_reducible refine Blk.setB (cs0 := ?_) ?_ ?_))) no_elim
  have hY2 : Blk w2 w1.heap.size [.int .i64 yk, .int .i64 yn, .int .i64 yv] 66 := k2.blk (by (repeat' (first | ((with_reducible show (_ : List Value) = _); rfl) | ((with_reducible refine Blk.newAt _ _ _ ?_); first | with_reducible rfl | (simp; done)) | with_reducible refine Blk.alloc ?_ _ | with_reducible refine Blk.drewN ?_ _ | with_reducible refine Blk.drew ?_ | ((with_reducible refine Blk.other ?_ _ ?_); rotate_left; ((try dsimp only); omega)) | with_reducible refine Blk.setB (cs0 := ?_) ?_ ?_))) no_elim
  obtain ⟨e0, e1, e2, e3, e4, e5, e6, e7, e8, e9, e10, ef⟩ := hN2.c11
  obtain ⟨y0, y1, y2, yf⟩ := hY2.c3
  have hB2 := k2.blk (Blk.alloc hB1 _) no_elim
  have hz2 := hY2.lt
  have hz3 := hN2.lt
  have hr2 := hB2.lt
  have hr3 : r ≠ w.heap.size := by omega
  have hr4 : r ≠ w1.heap.size := by omega
  have hr5 : r ≠ w2.heap.size := by omega
  have kk : Kp no w w2 := by (repeat' (first | with_reducible exact Kp.refl _ _ | with_reducible refine Kp.alloc ?_ _ | with_reducible refine Kp.drewN ?_ _ | with_reducible refine Kp.drew ?_ | with_reducible refine Kp.setCell ?_ _ ?_ | with_reducible refine Kp.trans ?_ k1 (fun _ _ e => e) | with_reducible refine Kp.trans ?_ k2 (fun _ _ e => e) | (intro hh; first | rfl | exact .inl rfl | exact .inr rfl | (exfalso; (try dsimp only at hh); omega))))
  clear d0 d1 d2 d3 d4 d5 d6 d7 d8 d9 d10 df
  go_wp2_with fail
  refine (HT.out _).mono ?_
  rintro e w3 ⟨rfl, rfl⟩
  go_wp2_with fail
  go_ret
  have K := kk.mono (S' := (· = r)) (fun _ e => False.elim e)
  exact ⟨rfl, ⟨Blk.alloc hB2 _, HB.out.six⟩, by (repeat' (first | with_reducible exact Kp.refl _ _ | with_reducible refine Kp.alloc ?_ _ | with_reducible refine Kp.drewN ?_ _ | with_reducible refine Kp.drew ?_ | with_reducible refine Kp.setCell ?_ _ ?_ | with_reducible refine Kp.trans ?_ K (fun _ _ e => e) | (intro hh; first | rfl | exact .inl rfl | exact .inr rfl | (exfalso; (try dsimp only at hh); omega))))⟩

set_option maxHeartbeats 3200000 in
theorem nstep_13 {w : World} {r : Nat} {inp : ByteArray} {m : Mc} (tx : ByteArray) ( ck cn ch kd yes nno : Int) (x y v : Nat) (yu vu : Vl) (h : NB w r inp m) (hyu : m.l[y]? = some yu) (hvu : m.l[v]? = some vu)
    (hb1 : (bits BinOp.and IntKind.i64 (bit yu.k) (tkM 13) == 0) = false) (hb2 : (bits BinOp.and IntKind.i64 (bit vu.k) (tkM 13) == 0) = false) :
    Calls Tryz.prog 48 #[.pointer (some ⟨r, 0, none⟩), .agg #[.string tx, .int .i64 13, .int .i64 x, .int .i64 y, .int .i64 v, .int .i64 ck, .int .i64 cn, .int .i64 ch, .int .i64 kd, .int .i64 yes, .int .i64 nno]] w fun e w' => e = .returned (.int .i64 0) ∧ NB w' r inp m ∧ Kp (· = r) w w' := by
  have HV := hide (fun W (hW : NB W r inp m) => nvalueOf_c y yu hW hyu)
  have HW := hide (fun W (hW : NB W r inp m) => nvalueOf_c v vu hW hvu)
  have HT := hide (fun W => ntakenKinds_c 13 W)
  have hr := h.b.lt
  have HB := hide h
  clear h
  generalize bit yu.k = yk at *
  generalize bit yu.v = yv at *
  generalize bit vu.k = wk at *
  generalize bit vu.v = wv at *
  generalize hyn : yu.n = yn at *
  generalize hwn : vu.n = wn at *
  generalize tkM 13 = tk at *
  have HYN := hide hyn
  have HWN := hide hwn
  clear hyn hwn
  go_enter Tryz.func48, Tryz.ntmps48
  go_wp2_with fail
  refine (HV.out _ ⟨Blk.alloc HB.out.b _, HB.out.six⟩).mono ?_
  rintro e w1 ⟨rfl, k1⟩
  have hN : Blk w1 w.heap.size [.string tx, .int .i64 13, .int .i64 x, .int .i64 y, .int .i64 v, .int .i64 ck, .int .i64 cn, .int .i64 ch, .int .i64 kd, .int .i64 yes, .int .i64 nno] 68 := k1.blk (by (repeat' (first | ((with_reducible show (_ : List Value) = _); rfl) | ((with_reducible refine Blk.newAt _ _ _ ?_); first | with_reducible rfl | (simp; done)) | with_reducible refine Blk.alloc ?_ _ | with_reducible refine Blk.drewN ?_ _ | with_reducible refine Blk.drew ?_ | ((with_reducible refine Blk.other ?_ _ ?_); rotate_left; ((try dsimp only); omega)) | with_reducible refine Blk.setB (cs0 := ?_) ?_ ?_))) no_elim
  obtain ⟨d0, d1, d2, d3, d4, d5, d6, d7, d8, d9, d10, df⟩ := hN.c11
  have hz := hN.lt
  have hB1 := k1.blk (Blk.alloc HB.out.b _) no_elim
  have hr1 := hB1.lt
  go_wp2_with fail
  refine (HW.out _ ⟨Blk.alloc hB1 _, HB.out.six⟩).mono ?_
  rintro e w2 ⟨rfl, k2⟩
  have hN2 : Blk w2 w.heap.size [.string tx, .int .i64 13, .int .i64 x, .int .i64 y, .int .i64 v, .int .i64 ck, .int .i64 cn, .int .i64 ch, .int .i64 kd, .int .i64 yes, .int .i64 nno] 68 := k2.blk (by (repeat' (first | ((with_reducible show (_ : List Value) = _); rfl) | with_reducible exact hN | ((with_reducible refine Blk.newAt _ _ _ ?_); first | with_reducible rfl | (simp; done)) | with_reducible refine Blk.alloc ?_ _ | with_reducible refine Blk.drewN ?_ _ | with_reducible refine Blk.drew ?_ | ((with_reducible refine Blk.other ?_ _ ?_); rotate_left; ((try dsimp only); omega)) | with_reducible refine Blk.setB (cs0 := ?_) ?_ ?_))) no_elim
  have hY2 : Blk w2 w1.heap.size [.int .i64 yk, .int .i64 yn, .int .i64 yv] 66 := k2.blk (by (repeat' (first | ((with_reducible show (_ : List Value) = _); rfl) | ((with_reducible refine Blk.newAt _ _ _ ?_); first | with_reducible rfl | (simp; done)) | with_reducible refine Blk.alloc ?_ _ | with_reducible refine Blk.drewN ?_ _ | with_reducible refine Blk.drew ?_ | ((with_reducible refine Blk.other ?_ _ ?_); rotate_left; ((try dsimp only); omega)) | with_reducible refine Blk.setB (cs0 := ?_) ?_ ?_))) no_elim
  obtain ⟨e0, e1, e2, e3, e4, e5, e6, e7, e8, e9, e10, ef⟩ := hN2.c11
  obtain ⟨y0, y1, y2, yf⟩ := hY2.c3
  have hB2 := k2.blk (Blk.alloc hB1 _) no_elim
  have hz2 := hY2.lt
  have hz3 := hN2.lt
  have hr2 := hB2.lt
  have hr3 : r ≠ w.heap.size := by omega
  have hr4 : r ≠ w1.heap.size := by omega
  have hr5 : r ≠ w2.heap.size := by omega
  have kk : Kp no w w2 := by (repeat' (first | with_reducible exact Kp.refl _ _ | with_reducible refine Kp.alloc ?_ _ | with_reducible refine Kp.drewN ?_ _ | with_reducible refine Kp.drew ?_ | with_reducible refine Kp.setCell ?_ _ ?_ | with_reducible refine Kp.trans ?_ k1 (fun _ _ e => e) | with_reducible refine Kp.trans ?_ k2 (fun _ _ e => e) | (intro hh; first | rfl | exact .inl rfl | exact .inr rfl | (exfalso; (try dsimp only at hh); omega))))
  clear d0 d1 d2 d3 d4 d5 d6 d7 d8 d9 d10 df
  go_wp2_with fail
  refine (HT.out _).mono ?_
  rintro e w3 ⟨rfl, rfl⟩
  go_wp2_with fail
  go_ret
  have K := kk.mono (S' := (· = r)) (fun _ e => False.elim e)
  exact ⟨rfl, ⟨Blk.alloc hB2 _, HB.out.six⟩, by (repeat' (first | with_reducible exact Kp.refl _ _ | with_reducible refine Kp.alloc ?_ _ | with_reducible refine Kp.drewN ?_ _ | with_reducible refine Kp.drew ?_ | with_reducible refine Kp.setCell ?_ _ ?_ | with_reducible refine Kp.trans ?_ K (fun _ _ e => e) | (intro hh; first | rfl | exact .inl rfl | exact .inr rfl | (exfalso; (try dsimp only at hh); omega))))⟩

set_option maxHeartbeats 3200000 in
theorem nstep_14 {w : World} {r : Nat} {inp : ByteArray} {m : Mc} (tx : ByteArray) ( ck cn ch kd yes nno : Int) (x y v : Nat) (yu vu : Vl) (h : NB w r inp m) (hyu : m.l[y]? = some yu) (hvu : m.l[v]? = some vu)
    (hb1 : (bits BinOp.and IntKind.i64 (bit yu.k) (tkM 14) == 0) = false) (hb2 : (bits BinOp.and IntKind.i64 (bit vu.k) (tkM 14) == 0) = false) :
    Calls Tryz.prog 48 #[.pointer (some ⟨r, 0, none⟩), .agg #[.string tx, .int .i64 14, .int .i64 x, .int .i64 y, .int .i64 v, .int .i64 ck, .int .i64 cn, .int .i64 ch, .int .i64 kd, .int .i64 yes, .int .i64 nno]] w fun e w' => e = .returned (.int .i64 0) ∧ NB w' r inp m ∧ Kp (· = r) w w' := by
  have HV := hide (fun W (hW : NB W r inp m) => nvalueOf_c y yu hW hyu)
  have HW := hide (fun W (hW : NB W r inp m) => nvalueOf_c v vu hW hvu)
  have HT := hide (fun W => ntakenKinds_c 14 W)
  have hr := h.b.lt
  have HB := hide h
  clear h
  generalize bit yu.k = yk at *
  generalize bit yu.v = yv at *
  generalize bit vu.k = wk at *
  generalize bit vu.v = wv at *
  generalize hyn : yu.n = yn at *
  generalize hwn : vu.n = wn at *
  generalize tkM 14 = tk at *
  have HYN := hide hyn
  have HWN := hide hwn
  clear hyn hwn
  go_enter Tryz.func48, Tryz.ntmps48
  go_wp2_with fail
  refine (HV.out _ ⟨Blk.alloc HB.out.b _, HB.out.six⟩).mono ?_
  rintro e w1 ⟨rfl, k1⟩
  have hN : Blk w1 w.heap.size [.string tx, .int .i64 14, .int .i64 x, .int .i64 y, .int .i64 v, .int .i64 ck, .int .i64 cn, .int .i64 ch, .int .i64 kd, .int .i64 yes, .int .i64 nno] 68 := k1.blk (by (repeat' (first | ((with_reducible show (_ : List Value) = _); rfl) | ((with_reducible refine Blk.newAt _ _ _ ?_); first | with_reducible rfl | (simp; done)) | with_reducible refine Blk.alloc ?_ _ | with_reducible refine Blk.drewN ?_ _ | with_reducible refine Blk.drew ?_ | ((with_reducible refine Blk.other ?_ _ ?_); rotate_left; ((try dsimp only); omega)) | with_reducible refine Blk.setB (cs0 := ?_) ?_ ?_))) no_elim
  obtain ⟨d0, d1, d2, d3, d4, d5, d6, d7, d8, d9, d10, df⟩ := hN.c11
  have hz := hN.lt
  have hB1 := k1.blk (Blk.alloc HB.out.b _) no_elim
  have hr1 := hB1.lt
  go_wp2_with fail
  refine (HW.out _ ⟨Blk.alloc hB1 _, HB.out.six⟩).mono ?_
  rintro e w2 ⟨rfl, k2⟩
  have hN2 : Blk w2 w.heap.size [.string tx, .int .i64 14, .int .i64 x, .int .i64 y, .int .i64 v, .int .i64 ck, .int .i64 cn, .int .i64 ch, .int .i64 kd, .int .i64 yes, .int .i64 nno] 68 := k2.blk (by (repeat' (first | ((with_reducible show (_ : List Value) = _); rfl) | with_reducible exact hN | ((with_reducible refine Blk.newAt _ _ _ ?_); first | with_reducible rfl | (simp; done)) | with_reducible refine Blk.alloc ?_ _ | with_reducible refine Blk.drewN ?_ _ | with_reducible refine Blk.drew ?_ | ((with_reducible refine Blk.other ?_ _ ?_); rotate_left; ((try dsimp only); omega)) | with_reducible refine Blk.setB (cs0 := ?_) ?_ ?_))) no_elim
  have hY2 : Blk w2 w1.heap.size [.int .i64 yk, .int .i64 yn, .int .i64 yv] 66 := k2.blk (by (repeat' (first | ((with_reducible show (_ : List Value) = _); rfl) | ((with_reducible refine Blk.newAt _ _ _ ?_); first | with_reducible rfl | (simp; done)) | with_reducible refine Blk.alloc ?_ _ | with_reducible refine Blk.drewN ?_ _ | with_reducible refine Blk.drew ?_ | ((with_reducible refine Blk.other ?_ _ ?_); rotate_left; ((try dsimp only); omega)) | with_reducible refine Blk.setB (cs0 := ?_) ?_ ?_))) no_elim
  obtain ⟨e0, e1, e2, e3, e4, e5, e6, e7, e8, e9, e10, ef⟩ := hN2.c11
  obtain ⟨y0, y1, y2, yf⟩ := hY2.c3
  have hB2 := k2.blk (Blk.alloc hB1 _) no_elim
  have hz2 := hY2.lt
  have hz3 := hN2.lt
  have hr2 := hB2.lt
  have hr3 : r ≠ w.heap.size := by omega
  have hr4 : r ≠ w1.heap.size := by omega
  have hr5 : r ≠ w2.heap.size := by omega
  have kk : Kp no w w2 := by (repeat' (first | with_reducible exact Kp.refl _ _ | with_reducible refine Kp.alloc ?_ _ | with_reducible refine Kp.drewN ?_ _ | with_reducible refine Kp.drew ?_ | with_reducible refine Kp.setCell ?_ _ ?_ | with_reducible refine Kp.trans ?_ k1 (fun _ _ e => e) | with_reducible refine Kp.trans ?_ k2 (fun _ _ e => e) | (intro hh; first | rfl | exact .inl rfl | exact .inr rfl | (exfalso; (try dsimp only at hh); omega))))
  clear d0 d1 d2 d3 d4 d5 d6 d7 d8 d9 d10 df
  go_wp2_with fail
  refine (HT.out _).mono ?_
  rintro e w3 ⟨rfl, rfl⟩
  go_wp2_with fail
  go_ret
  have K := kk.mono (S' := (· = r)) (fun _ e => False.elim e)
  exact ⟨rfl, ⟨Blk.alloc hB2 _, HB.out.six⟩, by (repeat' (first | with_reducible exact Kp.refl _ _ | with_reducible refine Kp.alloc ?_ _ | with_reducible refine Kp.drewN ?_ _ | with_reducible refine Kp.drew ?_ | with_reducible refine Kp.setCell ?_ _ ?_ | with_reducible refine Kp.trans ?_ K (fun _ _ e => e) | (intro hh; first | rfl | exact .inl rfl | exact .inr rfl | (exfalso; (try dsimp only at hh); omega))))⟩

set_option maxHeartbeats 3200000 in
theorem nstep_cast {w : World} {r : Nat} {inp : ByteArray} {m : Mc} (tx : ByteArray) ( ck cn ch kd yes nno : Int) (x y v : Nat) (yu vu : Vl) (h : NB w r inp m) (hyu : m.l[y]? = some yu) (hvu : m.l[v]? = some vu)
    (hb1 : (bits BinOp.and IntKind.i64 (bit yu.k) (tkM 10) == 0) = false) (hb2 : (bits BinOp.and IntKind.i64 (bit vu.k) (tkM 10) == 0) = false) (xu : Vl) (hxu : m.l[x]? = some xu) (hk : (bit xu.k == kd) = true) :
    Calls Tryz.prog 48 #[.pointer (some ⟨r, 0, none⟩), .agg #[.string tx, .int .i64 10, .int .i64 x, .int .i64 y, .int .i64 v, .int .i64 ck, .int .i64 cn, .int .i64 ch, .int .i64 kd, .int .i64 yes, .int .i64 nno]] w fun e w' => e = .returned (.int .i64 0) ∧ NB w' r inp m ∧ Kp (· = r) w w' := by
  have HV := hide (fun W (hW : NB W r inp m) => nvalueOf_c y yu hW hyu)
  have HW := hide (fun W (hW : NB W r inp m) => nvalueOf_c v vu hW hvu)
  have HT := hide (fun W => ntakenKinds_c 10 W)
  have hr := h.b.lt
  have HB := hide h
  clear h
  have HX := hide (fun W (hW : NB W r inp m) => nvalueOf_c x xu hW hxu)
  generalize bit xu.k = xk at *
  generalize bit xu.v = xv at *
  generalize xu.n = xn at *
  generalize bit yu.k = yk at *
  generalize bit yu.v = yv at *
  generalize bit vu.k = wk at *
  generalize bit vu.v = wv at *
  generalize hyn : yu.n = yn at *
  generalize hwn : vu.n = wn at *
  generalize tkM 10 = tk at *
  have HYN := hide hyn
  have HWN := hide hwn
  clear hyn hwn
  go_enter Tryz.func48, Tryz.ntmps48
  go_wp2_with fail
  refine (HV.out _ ⟨Blk.alloc HB.out.b _, HB.out.six⟩).mono ?_
  rintro e w1 ⟨rfl, k1⟩
  have hN : Blk w1 w.heap.size [.string tx, .int .i64 10, .int .i64 x, .int .i64 y, .int .i64 v, .int .i64 ck, .int .i64 cn, .int .i64 ch, .int .i64 kd, .int .i64 yes, .int .i64 nno] 68 := k1.blk (by (repeat' (first | ((with_reducible show (_ : List Value) = _); rfl) | ((with_reducible refine Blk.newAt _ _ _ ?_); first | with_reducible rfl | (simp; done)) | with_reducible refine Blk.alloc ?_ _ | with_reducible refine Blk.drewN ?_ _ | with_reducible refine Blk.drew ?_ | ((with_reducible refine Blk.other ?_ _ ?_); rotate_left; ((try dsimp only); omega)) | with_reducible refine Blk.setB (cs0 := ?_) ?_ ?_))) no_elim
  obtain ⟨d0, d1, d2, d3, d4, d5, d6, d7, d8, d9, d10, df⟩ := hN.c11
  have hz := hN.lt
  have hB1 := k1.blk (Blk.alloc HB.out.b _) no_elim
  have hr1 := hB1.lt
  go_wp2_with fail
  refine (HW.out _ ⟨Blk.alloc hB1 _, HB.out.six⟩).mono ?_
  rintro e w2 ⟨rfl, k2⟩
  have hN2 : Blk w2 w.heap.size [.string tx, .int .i64 10, .int .i64 x, .int .i64 y, .int .i64 v, .int .i64 ck, .int .i64 cn, .int .i64 ch, .int .i64 kd, .int .i64 yes, .int .i64 nno] 68 := k2.blk (by (repeat' (first | ((with_reducible show (_ : List Value) = _); rfl) | with_reducible exact hN | ((with_reducible refine Blk.newAt _ _ _ ?_); first | with_reducible rfl | (simp; done)) | with_reducible refine Blk.alloc ?_ _ | with_reducible refine Blk.drewN ?_ _ | with_reducible refine Blk.drew ?_ | ((with_reducible refine Blk.other ?_ _ ?_); rotate_left; ((try dsimp only); omega)) | with_reducible refine Blk.setB (cs0 := ?_) ?_ ?_))) no_elim
  have hY2 : Blk w2 w1.heap.size [.int .i64 yk, .int .i64 yn, .int .i64 yv] 66 := k2.blk (by (repeat' (first | ((with_reducible show (_ : List Value) = _); rfl) | ((with_reducible refine Blk.newAt _ _ _ ?_); first | with_reducible rfl | (simp; done)) | with_reducible refine Blk.alloc ?_ _ | with_reducible refine Blk.drewN ?_ _ | with_reducible refine Blk.drew ?_ | ((with_reducible refine Blk.other ?_ _ ?_); rotate_left; ((try dsimp only); omega)) | with_reducible refine Blk.setB (cs0 := ?_) ?_ ?_))) no_elim
  obtain ⟨e0, e1, e2, e3, e4, e5, e6, e7, e8, e9, e10, ef⟩ := hN2.c11
  obtain ⟨y0, y1, y2, yf⟩ := hY2.c3
  have hB2 := k2.blk (Blk.alloc hB1 _) no_elim
  have hz2 := hY2.lt
  have hz3 := hN2.lt
  have hr2 := hB2.lt
  have hr3 : r ≠ w.heap.size := by omega
  have hr4 : r ≠ w1.heap.size := by omega
  have hr5 : r ≠ w2.heap.size := by omega
  have kk : Kp no w w2 := by (repeat' (first | with_reducible exact Kp.refl _ _ | with_reducible refine Kp.alloc ?_ _ | with_reducible refine Kp.drewN ?_ _ | with_reducible refine Kp.drew ?_ | with_reducible refine Kp.setCell ?_ _ ?_ | with_reducible refine Kp.trans ?_ k1 (fun _ _ e => e) | with_reducible refine Kp.trans ?_ k2 (fun _ _ e => e) | (intro hh; first | rfl | exact .inl rfl | exact .inr rfl | (exfalso; (try dsimp only at hh); omega))))
  clear d0 d1 d2 d3 d4 d5 d6 d7 d8 d9 d10 df
  go_wp2_with fail
  refine (HT.out _).mono ?_
  rintro e w3 ⟨rfl, rfl⟩
  go_wp2_with fail
  refine (HX.out _ ⟨Blk.alloc hB2 _, HB.out.six⟩).mono ?_
  rintro e w4 ⟨rfl, k4⟩
  have hB4 := k4.blk (Blk.alloc hB2 _) no_elim
  have hN4 : Blk w4 w.heap.size [.string tx, .int .i64 10, .int .i64 x, .int .i64 y, .int .i64 v, .int .i64 ck, .int .i64 cn, .int .i64 ch, .int .i64 kd, .int .i64 yes, .int .i64 nno] 68 := k4.blk (by (repeat' (first | ((with_reducible show (_ : List Value) = _); rfl) | with_reducible exact hN2 | ((with_reducible refine Blk.newAt _ _ _ ?_); first | with_reducible rfl | (simp; done)) | with_reducible refine Blk.alloc ?_ _ | with_reducible refine Blk.drewN ?_ _ | with_reducible refine Blk.drew ?_ | ((with_reducible refine Blk.other ?_ _ ?_); rotate_left; ((try dsimp only); omega)) | with_reducible refine Blk.setB (cs0 := ?_) ?_ ?_))) no_elim
  obtain ⟨f0, f1, f2, f3, f4, f5, f6, f7, f8, f9, f10, ff⟩ := hN4.c11
  have hz4 := hN4.lt
  go_wp2
  go_ret
  have K := kk.mono (S' := (· = r)) (fun _ e => False.elim e)
  have K4 := k4.mono (S' := (· = r)) (fun _ e => False.elim e)
  exact ⟨rfl, ⟨Blk.alloc hB4 _, HB.out.six⟩, by (repeat' (first | with_reducible exact Kp.refl _ _ | with_reducible refine Kp.alloc ?_ _ | with_reducible refine Kp.drewN ?_ _ | with_reducible refine Kp.drew ?_ | with_reducible refine Kp.setCell ?_ _ ?_ | with_reducible refine Kp.trans ?_ K (fun _ _ e => e) | with_reducible refine Kp.trans ?_ K4 (fun _ _ e => e) | (intro hh; first | rfl | exact .inl rfl | exact .inr rfl | (exfalso; (try dsimp only at hh); omega))))⟩

set_option maxHeartbeats 3200000 in
theorem nstep_castno {w : World} {r : Nat} {inp : ByteArray} {m : Mc} (tx : ByteArray) ( ck cn ch kd yes nno : Int) (x y v : Nat) (yu vu : Vl) (h : NB w r inp m) (hyu : m.l[y]? = some yu) (hvu : m.l[v]? = some vu)
    (hb1 : (bits BinOp.and IntKind.i64 (bit yu.k) (tkM 10) == 0) = false) (hb2 : (bits BinOp.and IntKind.i64 (bit vu.k) (tkM 10) == 0) = false) (xu : Vl) (hxu : m.l[x]? = some xu) (hk : (bit xu.k == kd) = false) :
    Calls Tryz.prog 48 #[.pointer (some ⟨r, 0, none⟩), .agg #[.string tx, .int .i64 10, .int .i64 x, .int .i64 y, .int .i64 v, .int .i64 ck, .int .i64 cn, .int .i64 ch, .int .i64 kd, .int .i64 yes, .int .i64 nno]] w fun e w' => e = .returned (.int .i64 7) ∧ NB w' r inp m ∧ Kp (· = r) w w' := by
  have HV := hide (fun W (hW : NB W r inp m) => nvalueOf_c y yu hW hyu)
  have HW := hide (fun W (hW : NB W r inp m) => nvalueOf_c v vu hW hvu)
  have HT := hide (fun W => ntakenKinds_c 10 W)
  have hr := h.b.lt
  have HB := hide h
  clear h
  have HX := hide (fun W (hW : NB W r inp m) => nvalueOf_c x xu hW hxu)
  generalize bit xu.k = xk at *
  generalize bit xu.v = xv at *
  generalize xu.n = xn at *
  generalize bit yu.k = yk at *
  generalize bit yu.v = yv at *
  generalize bit vu.k = wk at *
  generalize bit vu.v = wv at *
  generalize hyn : yu.n = yn at *
  generalize hwn : vu.n = wn at *
  generalize tkM 10 = tk at *
  have HYN := hide hyn
  have HWN := hide hwn
  clear hyn hwn
  go_enter Tryz.func48, Tryz.ntmps48
  go_wp2_with fail
  refine (HV.out _ ⟨Blk.alloc HB.out.b _, HB.out.six⟩).mono ?_
  rintro e w1 ⟨rfl, k1⟩
  have hN : Blk w1 w.heap.size [.string tx, .int .i64 10, .int .i64 x, .int .i64 y, .int .i64 v, .int .i64 ck, .int .i64 cn, .int .i64 ch, .int .i64 kd, .int .i64 yes, .int .i64 nno] 68 := k1.blk (by (repeat' (first | ((with_reducible show (_ : List Value) = _); rfl) | ((with_reducible refine Blk.newAt _ _ _ ?_); first | with_reducible rfl | (simp; done)) | with_reducible refine Blk.alloc ?_ _ | with_reducible refine Blk.drewN ?_ _ | with_reducible refine Blk.drew ?_ | ((with_reducible refine Blk.other ?_ _ ?_); rotate_left; ((try dsimp only); omega)) | with_reducible refine Blk.setB (cs0 := ?_) ?_ ?_))) no_elim
  obtain ⟨d0, d1, d2, d3, d4, d5, d6, d7, d8, d9, d10, df⟩ := hN.c11
  have hz := hN.lt
  have hB1 := k1.blk (Blk.alloc HB.out.b _) no_elim
  have hr1 := hB1.lt
  go_wp2_with fail
  refine (HW.out _ ⟨Blk.alloc hB1 _, HB.out.six⟩).mono ?_
  rintro e w2 ⟨rfl, k2⟩
  have hN2 : Blk w2 w.heap.size [.string tx, .int .i64 10, .int .i64 x, .int .i64 y, .int .i64 v, .int .i64 ck, .int .i64 cn, .int .i64 ch, .int .i64 kd, .int .i64 yes, .int .i64 nno] 68 := k2.blk (by (repeat' (first | ((with_reducible show (_ : List Value) = _); rfl) | with_reducible exact hN | ((with_reducible refine Blk.newAt _ _ _ ?_); first | with_reducible rfl | (simp; done)) | with_reducible refine Blk.alloc ?_ _ | with_reducible refine Blk.drewN ?_ _ | with_reducible refine Blk.drew ?_ | ((with_reducible refine Blk.other ?_ _ ?_); rotate_left; ((try dsimp only); omega)) | with_reducible refine Blk.setB (cs0 := ?_) ?_ ?_))) no_elim
  have hY2 : Blk w2 w1.heap.size [.int .i64 yk, .int .i64 yn, .int .i64 yv] 66 := k2.blk (by (repeat' (first | ((with_reducible show (_ : List Value) = _); rfl) | ((with_reducible refine Blk.newAt _ _ _ ?_); first | with_reducible rfl | (simp; done)) | with_reducible refine Blk.alloc ?_ _ | with_reducible refine Blk.drewN ?_ _ | with_reducible refine Blk.drew ?_ | ((with_reducible refine Blk.other ?_ _ ?_); rotate_left; ((try dsimp only); omega)) | with_reducible refine Blk.setB (cs0 := ?_) ?_ ?_))) no_elim
  obtain ⟨e0, e1, e2, e3, e4, e5, e6, e7, e8, e9, e10, ef⟩ := hN2.c11
  obtain ⟨y0, y1, y2, yf⟩ := hY2.c3
  have hB2 := k2.blk (Blk.alloc hB1 _) no_elim
  have hz2 := hY2.lt
  have hz3 := hN2.lt
  have hr2 := hB2.lt
  have hr3 : r ≠ w.heap.size := by omega
  have hr4 : r ≠ w1.heap.size := by omega
  have hr5 : r ≠ w2.heap.size := by omega
  have kk : Kp no w w2 := by (repeat' (first | with_reducible exact Kp.refl _ _ | with_reducible refine Kp.alloc ?_ _ | with_reducible refine Kp.drewN ?_ _ | with_reducible refine Kp.drew ?_ | with_reducible refine Kp.setCell ?_ _ ?_ | with_reducible refine Kp.trans ?_ k1 (fun _ _ e => e) | with_reducible refine Kp.trans ?_ k2 (fun _ _ e => e) | (intro hh; first | rfl | exact .inl rfl | exact .inr rfl | (exfalso; (try dsimp only at hh); omega))))
  clear d0 d1 d2 d3 d4 d5 d6 d7 d8 d9 d10 df
  go_wp2_with fail
  refine (HT.out _).mono ?_
  rintro e w3 ⟨rfl, rfl⟩
  go_wp2_with fail
  refine (HX.out _ ⟨Blk.alloc hB2 _, HB.out.six⟩).mono ?_
  rintro e w4 ⟨rfl, k4⟩
  have hB4 := k4.blk (Blk.alloc hB2 _) no_elim
  have hN4 : Blk w4 w.heap.size [.string tx, .int .i64 10, .int .i64 x, .int .i64 y, .int .i64 v, .int .i64 ck, .int .i64 cn, .int .i64 ch, .int .i64 kd, .int .i64 yes, .int .i64 nno] 68 := k4.blk (by (repeat' (first | ((with_reducible show (_ : List Value) = _); rfl) | with_reducible exact hN2 | ((with_reducible refine Blk.newAt _ _ _ ?_); first | with_reducible rfl | (simp; done)) | with_reducible refine Blk.alloc ?_ _ | with_reducible refine Blk.drewN ?_ _ | with_reducible refine Blk.drew ?_ | ((with_reducible refine Blk.other ?_ _ ?_); rotate_left; ((try dsimp only); omega)) | with_reducible refine Blk.setB (cs0 := ?_) ?_ ?_))) no_elim
  obtain ⟨f0, f1, f2, f3, f4, f5, f6, f7, f8, f9, f10, ff⟩ := hN4.c11
  have hz4 := hN4.lt
  go_wp2
  go_ret
  have K := kk.mono (S' := (· = r)) (fun _ e => False.elim e)
  have K4 := k4.mono (S' := (· = r)) (fun _ e => False.elim e)
  exact ⟨rfl, ⟨Blk.alloc hB4 _, HB.out.six⟩, by (repeat' (first | with_reducible exact Kp.refl _ _ | with_reducible refine Kp.alloc ?_ _ | with_reducible refine Kp.drewN ?_ _ | with_reducible refine Kp.drew ?_ | with_reducible refine Kp.setCell ?_ _ ?_ | with_reducible refine Kp.trans ?_ K (fun _ _ e => e) | with_reducible refine Kp.trans ?_ K4 (fun _ _ e => e) | (intro hh; first | rfl | exact .inl rfl | exact .inr rfl | (exfalso; (try dsimp only at hh); omega))))⟩

set_option maxHeartbeats 3200000 in
theorem nstep_put {w : World} {r : Nat} {inp : ByteArray} {m : Mc} (tx : ByteArray) ( ck cn ch kd yes nno : Int) (x y v : Nat) (yu vu : Vl) (h : NB w r inp m) (hyu : m.l[y]? = some yu) (hvu : m.l[v]? = some vu)
    (hb1 : (bits BinOp.and IntKind.i64 (bit yu.k) (tkM 9) == 0) = false) (hb2 : (bits BinOp.and IntKind.i64 (bit vu.k) (tkM 9) == 0) = false) (hvw : VW yu) (htab : Tab w) (hsz : (spellF yu).size ≤ 200) (hout : m.out.size ≤ 100000) :
    Calls Tryz.prog 48 #[.pointer (some ⟨r, 0, none⟩), .agg #[.string tx, .int .i64 9, .int .i64 x, .int .i64 y, .int .i64 v, .int .i64 ck, .int .i64 cn, .int .i64 ch, .int .i64 kd, .int .i64 yes, .int .i64 nno]] w fun e w' => e = .returned (.int .i64 0) ∧ NB w' r inp { m with out := m.out ++ spellF yu ++ sp } ∧ Kp (· = r) w w' := by
  have HV := hide (fun W (hW : NB W r inp m) => nvalueOf_c y yu hW hyu)
  have HW := hide (fun W (hW : NB W r inp m) => nvalueOf_c v vu hW hvu)
  have HT := hide (fun W => ntakenKinds_c 9 W)
  have hr := h.b.lt
  have HB := hide h
  clear h
  have HS := hide (fun W (hW : Tab W) => nvalueText_c yu hvw W hW)
  clear hvw
  have hsp : (ByteArray.mk #[32]).size = 1 := rfl
  generalize spellF yu = sb at *
  generalize bit yu.k = yk at *
  generalize bit yu.v = yv at *
  generalize bit vu.k = wk at *
  generalize bit vu.v = wv at *
  generalize hyn : yu.n = yn at *
  generalize hwn : vu.n = wn at *
  generalize tkM 9 = tk at *
  have HYN := hide hyn
  have HWN := hide hwn
  clear hyn hwn
  go_enter Tryz.func48, Tryz.ntmps48
  go_wp2_with fail
  refine (HV.out _ ⟨Blk.alloc HB.out.b _, HB.out.six⟩).mono ?_
  rintro e w1 ⟨rfl, k1⟩
  have hN : Blk w1 w.heap.size [.string tx, .int .i64 9, .int .i64 x, .int .i64 y, .int .i64 v, .int .i64 ck, .int .i64 cn, .int .i64 ch, .int .i64 kd, .int .i64 yes, .int .i64 nno] 68 := k1.blk (by (repeat' (first | ((with_reducible show (_ : List Value) = _); rfl) | ((with_reducible refine Blk.newAt _ _ _ ?_); first | with_reducible rfl | (simp; done)) | with_reducible refine Blk.alloc ?_ _ | with_reducible refine Blk.drewN ?_ _ | with_reducible refine Blk.drew ?_ | ((with_reducible refine Blk.other ?_ _ ?_); rotate_left; ((try dsimp only); omega)) | with_reducible refine Blk.setB (cs0 := ?_) ?_ ?_))) no_elim
  obtain ⟨d0, d1, d2, d3, d4, d5, d6, d7, d8, d9, d10, df⟩ := hN.c11
  have hz := hN.lt
  have hB1 := k1.blk (Blk.alloc HB.out.b _) no_elim
  have hr1 := hB1.lt
  go_wp2_with fail
  refine (HW.out _ ⟨Blk.alloc hB1 _, HB.out.six⟩).mono ?_
  rintro e w2 ⟨rfl, k2⟩
  have hN2 : Blk w2 w.heap.size [.string tx, .int .i64 9, .int .i64 x, .int .i64 y, .int .i64 v, .int .i64 ck, .int .i64 cn, .int .i64 ch, .int .i64 kd, .int .i64 yes, .int .i64 nno] 68 := k2.blk (by (repeat' (first | ((with_reducible show (_ : List Value) = _); rfl) | with_reducible exact hN | ((with_reducible refine Blk.newAt _ _ _ ?_); first | with_reducible rfl | (simp; done)) | with_reducible refine Blk.alloc ?_ _ | with_reducible refine Blk.drewN ?_ _ | with_reducible refine Blk.drew ?_ | ((with_reducible refine Blk.other ?_ _ ?_); rotate_left; ((try dsimp only); omega)) | with_reducible refine Blk.setB (cs0 := ?_) ?_ ?_))) no_elim
  have hY2 : Blk w2 w1.heap.size [.int .i64 yk, .int .i64 yn, .int .i64 yv] 66 := k2.blk (by (repeat' (first | ((with_reducible show (_ : List Value) = _); rfl) | ((with_reducible refine Blk.newAt _ _ _ ?_); first | with_reducible rfl | (simp; done)) | with_reducible refine Blk.alloc ?_ _ | with_reducible refine Blk.drewN ?_ _ | with_reducible refine Blk.drew ?_ | ((with_reducible refine Blk.other ?_ _ ?_); rotate_left; ((try dsimp only); omega)) | with_reducible refine Blk.setB (cs0 := ?_) ?_ ?_))) no_elim
  obtain ⟨e0, e1, e2, e3, e4, e5, e6, e7, e8, e9, e10, ef⟩ := hN2.c11
  obtain ⟨y0, y1, y2, yf⟩ := hY2.c3
  have hB2 := k2.blk (Blk.alloc hB1 _) no_elim
  have hz2 := hY2.lt
  have hz3 := hN2.lt
  have hr2 := hB2.lt
  have hr3 : r ≠ w.heap.size := by omega
  have hr4 : r ≠ w1.heap.size := by omega
  have hr5 : r ≠ w2.heap.size := by omega
  have kk : Kp no w w2 := by (repeat' (first | with_reducible exact Kp.refl _ _ | with_reducible refine Kp.alloc ?_ _ | with_reducible refine Kp.drewN ?_ _ | with_reducible refine Kp.drew ?_ | with_reducible refine Kp.setCell ?_ _ ?_ | with_reducible refine Kp.trans ?_ k1 (fun _ _ e => e) | with_reducible refine Kp.trans ?_ k2 (fun _ _ e => e) | (intro hh; first | rfl | exact .inl rfl | exact .inr rfl | (exfalso; (try dsimp only at hh); omega))))
  clear d0 d1 d2 d3 d4 d5 d6 d7 d8 d9 d10 df
  go_wp2_with fail
  refine (HT.out _).mono ?_
  rintro e w3 ⟨rfl, rfl⟩
  go_wp2_with fail
  refine wp_gen (fun W => NB W r inp m ∧ Blk W w1.heap.size [.int .i64 yk, .int .i64 yn, .int .i64 yv] 66 ∧ Kp (· = r) w W ∧ Tab W) ⟨⟨Blk.alloc hB2 _, HB.out.six⟩, by (repeat' (first | ((with_reducible show (_ : List Value) = _); rfl) | with_reducible exact hY2 | ((with_reducible refine Blk.newAt _ _ _ ?_); first | with_reducible rfl | (simp; done)) | with_reducible refine Blk.alloc ?_ _ | with_reducible refine Blk.drewN ?_ _ | with_reducible refine Blk.drew ?_ | ((with_reducible refine Blk.other ?_ _ ?_); rotate_left; ((try dsimp only); omega)) | with_reducible refine Blk.setB (cs0 := ?_) ?_ ?_)), ?_, (htab.kp kk no_elim).kp ((Kp.refl no _).alloc _) no_elim⟩ ?_
  · have K := kk.mono (S' := (· = r)) (fun _ e => False.elim e)
    (repeat' (first | with_reducible exact Kp.refl _ _ | with_reducible refine Kp.alloc ?_ _ | with_reducible refine Kp.drewN ?_ _ | with_reducible refine Kp.drew ?_ | with_reducible refine Kp.setCell ?_ _ ?_ | with_reducible refine Kp.trans ?_ K (fun _ _ e => e) | (intro hh; first | rfl | exact .inl rfl | exact .inr rfl | (exfalso; (try dsimp only at hh); omega))))
  clear e0 e1 e2 e3 e4 e5 e6 e7 e8 e9 e10 ef y0 y1 y2 yf
  rintro W ⟨hm, hY, hk, htW⟩
  have o1 := hm.outC
  have of := hm.b.frozen
  have hrW := hm.b.lt
  obtain ⟨y0, y1, y2, yf⟩ := hY.c3
  have hyl := hY.lt
  go_region_with (go_at_call 88; refine (HS.out _ (by exact htW)).mono ?_; rintro e w5 ⟨rfl, k5⟩; have h5 : NB w5 r inp m := ⟨k5.blk (by exact hm.b) no_elim, hm.six⟩; have p1 := h5.outC; have pf := h5.b.frozen; have hr6 := h5.b.lt)
  all_goals
    go_wp2
    go_ret
    have q := h5.setOut (m.out ++ (sb ++ sp))
    have K5 := k5.mono (S' := (· = r)) (fun _ e => False.elim e)
    rw [← ba_assoc]
    exact ⟨rfl, q, by (repeat' (first | with_reducible exact Kp.refl _ _ | with_reducible refine Kp.alloc ?_ _ | with_reducible refine Kp.drewN ?_ _ | with_reducible refine Kp.drew ?_ | with_reducible refine Kp.setCell ?_ _ ?_ | with_reducible refine Kp.trans ?_ hk (fun _ _ e => e) | with_reducible refine Kp.trans ?_ K5 (fun _ _ e => e) | (intro hh; first | rfl | exact .inl rfl | exact .inr rfl | (exfalso; (try dsimp only at hh); omega))))⟩

set_option maxHeartbeats 3200000 in
theorem nstep_set {w : World} {r : Nat} {inp : ByteArray} {m : Mc} (tx : ByteArray) (act ck cn ch kd yes nno : Int) (x y v : Nat) (yu vu : Vl) (h : NB w r inp m) (hyu : m.l[y]? = some yu) (hvu : m.l[v]? = some vu)
    (hb1 : (bits BinOp.and IntKind.i64 (bit yu.k) (tkM act) == 0) = false) (hb2 : (bits BinOp.and IntKind.i64 (bit vu.k) (tkM act) == 0) = false) (f11 : (act == 11) = false) (f10 : (act == 10) = false) (f9 : (act == 9) = false) (f2 : (act == 2) = false) (f12 : (act == 12) = false) (f13 : (act == 13) = false) (f14 : (act == 14) = false) (u : Vl) (hx6 : x < 6) (hg : ∀ W, Calls Tryz.prog 91 #[.agg #[.string tx, .int .i64 act, .int .i64 x, .int .i64 y, .int .i64 v, .int .i64 ck, .int .i64 cn, .int .i64 ch, .int .i64 kd, .int .i64 yes, .int .i64 nno], .agg #[.int .i64 (bit yu.k), .int .i64 yu.n, .int .i64 (bit yu.v)], .agg #[.int .i64 (bit vu.k), .int .i64 vu.n, .int .i64 (bit vu.v)]] W fun e w' => e = .returned (.agg #[.int .i64 (bit u.k), .int .i64 u.n, .int .i64 (bit u.v)]) ∧ Kp no W w') :
    Calls Tryz.prog 48 #[.pointer (some ⟨r, 0, none⟩), .agg #[.string tx, .int .i64 act, .int .i64 x, .int .i64 y, .int .i64 v, .int .i64 ck, .int .i64 cn, .int .i64 ch, .int .i64 kd, .int .i64 yes, .int .i64 nno]] w fun e w' => e = .returned (.int .i64 0) ∧ NB w' r inp (putL m x u) ∧ Kp (· = r) w w' := by
  have HV := hide (fun W (hW : NB W r inp m) => nvalueOf_c y yu hW hyu)
  have HW := hide (fun W (hW : NB W r inp m) => nvalueOf_c v vu hW hvu)
  have HT := hide (fun W => ntakenKinds_c act W)
  have hr := h.b.lt
  have HB := hide h
  clear h
  have HG := hide hg
  have HS := hide (fun W (hW : NB W r inp m) => nset_c x u hW hx6)
  clear hg
  generalize bit u.k = uk at *
  generalize bit u.v = uv at *
  generalize hun : u.n = un at *
  have HUN := hide hun
  clear hun
  generalize bit yu.k = yk at *
  generalize bit yu.v = yv at *
  generalize bit vu.k = wk at *
  generalize bit vu.v = wv at *
  generalize hyn : yu.n = yn at *
  generalize hwn : vu.n = wn at *
  generalize tkM act = tk at *
  have HYN := hide hyn
  have HWN := hide hwn
  clear hyn hwn
  go_enter Tryz.func48, Tryz.ntmps48
  go_wp2_with fail
  refine (HV.out _ ⟨Blk.alloc HB.out.b _, HB.out.six⟩).mono ?_
  rintro e w1 ⟨rfl, k1⟩
  have hN : Blk w1 w.heap.size [.string tx, .int .i64 act, .int .i64 x, .int .i64 y, .int .i64 v, .int .i64 ck, .int .i64 cn, .int .i64 ch, .int .i64 kd, .int .i64 yes, .int .i64 nno] 68 := k1.blk (by (repeat' (first | ((with_reducible show (_ : List Value) = _); rfl) | ((with_reducible refine Blk.newAt _ _ _ ?_); first | with_reducible rfl | (simp; done)) | with_reducible refine Blk.alloc ?_ _ | with_reducible refine Blk.drewN ?_ _ | with_reducible refine Blk.drew ?_ | ((with_reducible refine Blk.other ?_ _ ?_); rotate_left; ((try dsimp only); omega)) | with_reducible refine Blk.setB (cs0 := ?_) ?_ ?_))) no_elim
  obtain ⟨d0, d1, d2, d3, d4, d5, d6, d7, d8, d9, d10, df⟩ := hN.c11
  have hz := hN.lt
  have hB1 := k1.blk (Blk.alloc HB.out.b _) no_elim
  have hr1 := hB1.lt
  go_wp2_with fail
  refine (HW.out _ ⟨Blk.alloc hB1 _, HB.out.six⟩).mono ?_
  rintro e w2 ⟨rfl, k2⟩
  have hN2 : Blk w2 w.heap.size [.string tx, .int .i64 act, .int .i64 x, .int .i64 y, .int .i64 v, .int .i64 ck, .int .i64 cn, .int .i64 ch, .int .i64 kd, .int .i64 yes, .int .i64 nno] 68 := k2.blk (by (repeat' (first | ((with_reducible show (_ : List Value) = _); rfl) | with_reducible exact hN | ((with_reducible refine Blk.newAt _ _ _ ?_); first | with_reducible rfl | (simp; done)) | with_reducible refine Blk.alloc ?_ _ | with_reducible refine Blk.drewN ?_ _ | with_reducible refine Blk.drew ?_ | ((with_reducible refine Blk.other ?_ _ ?_); rotate_left; ((try dsimp only); omega)) | with_reducible refine Blk.setB (cs0 := ?_) ?_ ?_))) no_elim
  have hY2 : Blk w2 w1.heap.size [.int .i64 yk, .int .i64 yn, .int .i64 yv] 66 := k2.blk (by (repeat' (first | ((with_reducible show (_ : List Value) = _); rfl) | ((with_reducible refine Blk.newAt _ _ _ ?_); first | with_reducible rfl | (simp; done)) | with_reducible refine Blk.alloc ?_ _ | with_reducible refine Blk.drewN ?_ _ | with_reducible refine Blk.drew ?_ | ((with_reducible refine Blk.other ?_ _ ?_); rotate_left; ((try dsimp only); omega)) | with_reducible refine Blk.setB (cs0 := ?_) ?_ ?_))) no_elim
  obtain ⟨e0, e1, e2, e3, e4, e5, e6, e7, e8, e9, e10, ef⟩ := hN2.c11
  obtain ⟨y0, y1, y2, yf⟩ := hY2.c3
  have hB2 := k2.blk (Blk.alloc hB1 _) no_elim
  have hz2 := hY2.lt
  have hz3 := hN2.lt
  have hr2 := hB2.lt
  have hr3 : r ≠ w.heap.size := by omega
  have hr4 : r ≠ w1.heap.size := by omega
  have hr5 : r ≠ w2.heap.size := by omega
  have kk : Kp no w w2 := by (repeat' (first | with_reducible exact Kp.refl _ _ | with_reducible refine Kp.alloc ?_ _ | with_reducible refine Kp.drewN ?_ _ | with_reducible refine Kp.drew ?_ | with_reducible refine Kp.setCell ?_ _ ?_ | with_reducible refine Kp.trans ?_ k1 (fun _ _ e => e) | with_reducible refine Kp.trans ?_ k2 (fun _ _ e => e) | (intro hh; first | rfl | exact .inl rfl | exact .inr rfl | (exfalso; (try dsimp only at hh); omega))))
  clear d0 d1 d2 d3 d4 d5 d6 d7 d8 d9 d10 df
  go_wp2_with fail
  refine (HT.out _).mono ?_
  rintro e w3 ⟨rfl, rfl⟩
  have hW2 : Blk (w2.alloc (.cells #[.int .i64 wk, .int .i64 wn, .int .i64 wv] 66)) w2.heap.size [.int .i64 wk, .int .i64 wn, .int .i64 wv] 66 := by (repeat' (first | ((with_reducible show (_ : List Value) = _); rfl) | ((with_reducible refine Blk.newAt _ _ _ ?_); first | with_reducible rfl | (simp; done)) | with_reducible refine Blk.alloc ?_ _ | with_reducible refine Blk.drewN ?_ _ | with_reducible refine Blk.drew ?_ | ((with_reducible refine Blk.other ?_ _ ?_); rotate_left; ((try dsimp only); omega)) | with_reducible refine Blk.setB (cs0 := ?_) ?_ ?_))
  go_wp2_with fail
  refine (HG.out _).mono ?_
  rintro e w4 ⟨rfl, k4⟩
  have hB4 := k4.blk (Blk.alloc hB2 _) no_elim
  have hr6 := hB4.lt
  have hN4 : Blk w4 w.heap.size [.string tx, .int .i64 act, .int .i64 x, .int .i64 y, .int .i64 v, .int .i64 ck, .int .i64 cn, .int .i64 ch, .int .i64 kd, .int .i64 yes, .int .i64 nno] 68 := k4.blk (by (repeat' (first | ((with_reducible show (_ : List Value) = _); rfl) | with_reducible exact hN2 | ((with_reducible refine Blk.newAt _ _ _ ?_); first | with_reducible rfl | (simp; done)) | with_reducible refine Blk.alloc ?_ _ | with_reducible refine Blk.drewN ?_ _ | with_reducible refine Blk.drew ?_ | ((with_reducible refine Blk.other ?_ _ ?_); rotate_left; ((try dsimp only); omega)) | with_reducible refine Blk.setB (cs0 := ?_) ?_ ?_))) no_elim
  obtain ⟨g0, g1, g2, g3, g4, g5, g6, g7, g8, g9, g10, gf⟩ := hN4.c11
  have hz4 := hN4.lt
  go_wp2_with fail
  refine (HS.out _ ⟨Blk.alloc hB4 _, HB.out.six⟩).mono ?_
  rintro e w5 ⟨rfl, h5, k5⟩
  go_wp2
  go_ret
  have K := kk.mono (S' := (· = r)) (fun _ e => False.elim e)
  have K4 := k4.mono (S' := (· = r)) (fun _ e => False.elim e)
  exact ⟨rfl, h5, by (repeat' (first | with_reducible exact Kp.refl _ _ | with_reducible refine Kp.alloc ?_ _ | with_reducible refine Kp.drewN ?_ _ | with_reducible refine Kp.drew ?_ | with_reducible refine Kp.setCell ?_ _ ?_ | with_reducible refine Kp.trans ?_ K (fun _ _ e => e) | with_reducible refine Kp.trans ?_ K4 (fun _ _ e => e) | with_reducible refine Kp.trans ?_ k5 (fun _ _ e => e) | (intro hh; first | rfl | exact .inl rfl | exact .inr rfl | (exfalso; (try dsimp only at hh); omega))))⟩

set_option maxHeartbeats 3200000 in
theorem nstep_in {w : World} {r : Nat} {inp : ByteArray} {m : Mc} (tx : ByteArray) ( ck cn ch kd yes nno : Int) (x y v : Nat) (yu vu : Vl) (h : NB w r inp m) (hyu : m.l[y]? = some yu) (hvu : m.l[v]? = some vu)
    (hb1 : (bits BinOp.and IntKind.i64 (bit yu.k) (tkM 2) == 0) = false) (hb2 : (bits BinOp.and IntKind.i64 (bit vu.k) (tkM 2) == 0) = false) (hinp : inp.size ≤ 40) (hx6 : x < 6) :
    Calls Tryz.prog 48 #[.pointer (some ⟨r, 0, none⟩), .agg #[.string tx, .int .i64 2, .int .i64 x, .int .i64 y, .int .i64 v, .int .i64 ck, .int .i64 cn, .int .i64 ch, .int .i64 kd, .int .i64 yes, .int .i64 nno]] w fun e w' => e = .returned (.int .i64 0) ∧ NB w' r inp (putL (nextF inp m).2 x (nextF inp m).1) ∧ Kp (· = r) w w' := by
  have HV := hide (fun W (hW : NB W r inp m) => nvalueOf_c y yu hW hyu)
  have HW := hide (fun W (hW : NB W r inp m) => nvalueOf_c v vu hW hvu)
  have HT := hide (fun W => ntakenKinds_c 2 W)
  have hr := h.b.lt
  have HB := hide h
  clear h
  have HG := hide (fun W (hW : NB W r inp m) => nnext_c hW hinp)
  unfold Vl.nc at HG
  have HS := hide (fun W (hW : NB W r inp (nextF inp m).2) => nset_c x (nextF inp m).1 hW hx6)
  have h62 : Hid ((nextF inp m).2.l.length = 6) := hide (by have := HB.out.six; unfold nextF; split <;> exact this)
  generalize nextF inp m = nf at *
  obtain ⟨u, m2⟩ := nf
  dsimp only at *
  generalize bit u.k = uk at *
  generalize bit u.v = uv at *
  generalize hun : u.n = un at *
  have HUN := hide hun
  clear hun
  generalize bit yu.k = yk at *
  generalize bit yu.v = yv at *
  generalize bit vu.k = wk at *
  generalize bit vu.v = wv at *
  generalize hyn : yu.n = yn at *
  generalize hwn : vu.n = wn at *
  generalize tkM 2 = tk at *
  have HYN := hide hyn
  have HWN := hide hwn
  clear hyn hwn
  go_enter Tryz.func48, Tryz.ntmps48
  go_wp2_with fail
  refine (HV.out _ ⟨Blk.alloc HB.out.b _, HB.out.six⟩).mono ?_
  rintro e w1 ⟨rfl, k1⟩
  have hN : Blk w1 w.heap.size [.string tx, .int .i64 2, .int .i64 x, .int .i64 y, .int .i64 v, .int .i64 ck, .int .i64 cn, .int .i64 ch, .int .i64 kd, .int .i64 yes, .int .i64 nno] 68 := k1.blk (by (repeat' (first | ((with_reducible show (_ : List Value) = _); rfl) | ((with_reducible refine Blk.newAt _ _ _ ?_); first | with_reducible rfl | (simp; done)) | with_reducible refine Blk.alloc ?_ _ | with_reducible refine Blk.drewN ?_ _ | with_reducible refine Blk.drew ?_ | ((with_reducible refine Blk.other ?_ _ ?_); rotate_left; ((try dsimp only); omega)) | with_reducible refine Blk.setB (cs0 := ?_) ?_ ?_))) no_elim
  obtain ⟨d0, d1, d2, d3, d4, d5, d6, d7, d8, d9, d10, df⟩ := hN.c11
  have hz := hN.lt
  have hB1 := k1.blk (Blk.alloc HB.out.b _) no_elim
  have hr1 := hB1.lt
  go_wp2_with fail
  refine (HW.out _ ⟨Blk.alloc hB1 _, HB.out.six⟩).mono ?_
  rintro e w2 ⟨rfl, k2⟩
  have hN2 : Blk w2 w.heap.size [.string tx, .int .i64 2, .int .i64 x, .int .i64 y, .int .i64 v, .int .i64 ck, .int .i64 cn, .int .i64 ch, .int .i64 kd, .int .i64 yes, .int .i64 nno] 68 := k2.blk (by (repeat' (first | ((with_reducible show (_ : List Value) = _); rfl) | with_reducible exact hN | ((with_reducible refine Blk.newAt _ _ _ ?_); first | with_reducible rfl | (simp; done)) | with_reducible refine Blk.alloc ?_ _ | with_reducible refine Blk.drewN ?_ _ | with_reducible refine Blk.drew ?_ | ((with_reducible refine Blk.other ?_ _ ?_); rotate_left; ((try dsimp only); omega)) | with_reducible refine Blk.setB (cs0 := ?_) ?_ ?_))) no_elim
  have hY2 : Blk w2 w1.heap.size [.int .i64 yk, .int .i64 yn, .int .i64 yv] 66 := k2.blk (by (repeat' (first | ((with_reducible show (_ : List Value) = _); rfl) | ((with_reducible refine Blk.newAt _ _ _ ?_); first | with_reducible rfl | (simp; done)) | with_reducible refine Blk.alloc ?_ _ | with_reducible refine Blk.drewN ?_ _ | with_reducible refine Blk.drew ?_ | ((with_reducible refine Blk.other ?_ _ ?_); rotate_left; ((try dsimp only); omega)) | with_reducible refine Blk.setB (cs0 := ?_) ?_ ?_))) no_elim
  obtain ⟨e0, e1, e2, e3, e4, e5, e6, e7, e8, e9, e10, ef⟩ := hN2.c11
  obtain ⟨y0, y1, y2, yf⟩ := hY2.c3
  have hB2 := k2.blk (Blk.alloc hB1 _) no_elim
  have hz2 := hY2.lt
  have hz3 := hN2.lt
  have hr2 := hB2.lt
  have hr3 : r ≠ w.heap.size := by omega
  have hr4 : r ≠ w1.heap.size := by omega
  have hr5 : r ≠ w2.heap.size := by omega
  have kk : Kp no w w2 := by (repeat' (first | with_reducible exact Kp.refl _ _ | with_reducible refine Kp.alloc ?_ _ | with_reducible refine Kp.drewN ?_ _ | with_reducible refine Kp.drew ?_ | with_reducible refine Kp.setCell ?_ _ ?_ | with_reducible refine Kp.trans ?_ k1 (fun _ _ e => e) | with_reducible refine Kp.trans ?_ k2 (fun _ _ e => e) | (intro hh; first | rfl | exact .inl rfl | exact .inr rfl | (exfalso; (try dsimp only at hh); omega))))
  clear d0 d1 d2 d3 d4 d5 d6 d7 d8 d9 d10 df
  go_wp2_with fail
  refine (HT.out _).mono ?_
  rintro e w3 ⟨rfl, rfl⟩
  go_wp2_with fail
  refine (HG.out _ ⟨Blk.alloc hB2 _, HB.out.six⟩).mono ?_
  rintro e w4 ⟨rfl, h4, k4⟩
  have hB4 := h4.b
  have hr6 := hB4.lt
  have hN4 : Blk w4 w.heap.size [.string tx, .int .i64 2, .int .i64 x, .int .i64 y, .int .i64 v, .int .i64 ck, .int .i64 cn, .int .i64 ch, .int .i64 kd, .int .i64 yes, .int .i64 nno] 68 := k4.blk (by (repeat' (first | ((with_reducible show (_ : List Value) = _); rfl) | with_reducible exact hN2 | ((with_reducible refine Blk.newAt _ _ _ ?_); first | with_reducible rfl | (simp; done)) | with_reducible refine Blk.alloc ?_ _ | with_reducible refine Blk.drewN ?_ _ | with_reducible refine Blk.drew ?_ | ((with_reducible refine Blk.other ?_ _ ?_); rotate_left; ((try dsimp only); omega)) | with_reducible refine Blk.setB (cs0 := ?_) ?_ ?_))) (by omega)
  obtain ⟨g0, g1, g2, g3, g4, g5, g6, g7, g8, g9, g10, gf⟩ := hN4.c11
  have hz4 := hN4.lt
  go_wp2_with fail
  refine (HS.out _ ⟨Blk.alloc hB4 _, h62.out⟩).mono ?_
  rintro e w5 ⟨rfl, h5, k5⟩
  go_wp2
  go_ret
  have K := kk.mono (S' := (· = r)) (fun _ e => False.elim e)
  exact ⟨rfl, h5, by (repeat' (first | with_reducible exact Kp.refl _ _ | with_reducible refine Kp.alloc ?_ _ | with_reducible refine Kp.drewN ?_ _ | with_reducible refine Kp.drew ?_ | with_reducible refine Kp.setCell ?_ _ ?_ | with_reducible refine Kp.trans ?_ K (fun _ _ e => e) | with_reducible refine Kp.trans ?_ k4 (fun _ _ e => e) | with_reducible refine Kp.trans ?_ k5 (fun _ _ e => e) | (intro hh; first | rfl | exact .inl rfl | exact .inr rfl | (exfalso; (try dsimp only at hh); omega))))⟩

end Go.Proofs.YtellieabhaphhabGreatDoor

/-
  narrowref.Run.
-/
namespace Go.Proofs.YtellieabhaphhabGreatDoor
open Go.RowKit

def zv : Vl := ⟨122, 0, 0⟩
def zz : Vl := ⟨0, 0, 0⟩
def lj (j : Nat) : List Vl := List.replicate j zv ++ List.replicate (6 - j) zz

def mc0 (fuel : Nat) : Mc := { l := lj 6, rd := 0, left := fuel, tr := ByteArray.empty, out := ByteArray.empty, e := 8 }

theorem mc0_ok (fuel : Nat) (h : fuel ≤ 300) : MOk (mc0 fuel) := by
  refine ⟨h, ?_, ?_, ?_, rfl⟩
  · show 0 + 9 * fuel ≤ 2700; omega
  · show 0 + 300 * fuel ≤ 90000; omega
  · intro u hu
    have : u = zv := by
      have hu' : u ∈ List.replicate 6 zv ++ List.replicate 0 zz := hu
      simpa using hu'
    subst this
    exact ⟨⟨by decide, by decide, by decide⟩, by decide⟩

def endE (e : Int) : Int := if e = 8 then 0 else e

end Go.Proofs.YtellieabhaphhabGreatDoor

/-
  narrow's run: a step is the answer's.
-/
namespace Go.Proofs.YtellieabhaphhabGreatDoor
open Go.RowKit

set_option maxHeartbeats 3200000 in
theorem bits_in (op k : Int) (ho : opOk op) (hk : KOk k) : (bits BinOp.and IntKind.i64 (bit k) (tkM (actN op)) == 0) = !inK op k := by
  unfold opOk at ho
  unfold KOk at hk
  rcases ho with rfl | rfl | rfl | rfl | rfl | rfl | rfl | rfl | rfl | rfl | rfl | rfl | rfl | rfl | rfl | rfl | rfl | rfl <;> rcases hk with rfl | rfl | rfl | rfl | rfl | rfl | rfl <;> decide

theorem inK_66 {k : Int} (h : KOk k) (hi : inK 66 k = true) : k = 116 ∨ k = 102 ∨ k = 122 := by
  unfold KOk at h
  rcases h with rfl | rfl | rfl | rfl | rfl | rfl | rfl <;> revert hi <;> decide
theorem inK_46 {k : Int} (h : KOk k) (hi : inK 46 k = true) : k = 65 ∨ k = 66 := by
  unfold KOk at h
  rcases h with rfl | rfl | rfl | rfl | rfl | rfl | rfl <;> revert hi <;> decide
theorem inK_all {op k : Int} (h : KOk k) (ho : op ≠ 43) (h2 : op ≠ 60) (h3 : op ≠ 65) (h4 : op ≠ 66) (h5 : op ≠ 46) : inK op k = true := by
  unfold inK takF
  rw [if_neg (by omega), if_neg h4, if_neg h5]
  unfold KOk at h
  rcases h with rfl | rfl | rfl | rfl | rfl | rfl | rfl <;> decide

theorem VW.plain {k : Int} (h : k = 116 ∨ k = 102 ∨ k = 122 ∨ k = 67) : VW ⟨k, 0, 0⟩ :=
  ⟨by unfold KOk; dsimp only; omega, by simp, by simp, fun e => by dsimp only at e; omega, fun _ => rfl⟩
theorem VW.num {n : Int} (h0 : 0 ≤ n) (h1 : n ≤ 999) : VW ⟨110, n, 0⟩ := ⟨.inl rfl, h0, h1, fun e => by simp at e, fun _ => rfl⟩
theorem VW.recA {n : Int} (h0 : 0 ≤ n) (h1 : n ≤ 999) : VW ⟨65, n, 0⟩ := ⟨by unfold KOk; dsimp only; omega, h0, h1, fun e => by simp at e, fun _ => rfl⟩
theorem VW.recB {k : Int} (h : k = 116 ∨ k = 102 ∨ k = 122) : VW ⟨66, 0, k⟩ := ⟨by unfold KOk; dsimp only; omega, by simp, by simp, fun _ => h, fun e => absurd rfl e⟩

theorem inVal_vw (c : Nat) : VW (inVal c) := by
  unfold inVal
  repeat' split
  · exact VW.num (by omega) (by omega)
  · exact VW.plain (by decide)
  · exact VW.plain (by decide)
  · exact VW.recA (by decide) (by decide)
  · exact VW.recB (by decide)
  · exact VW.plain (by decide)
  · exact VW.plain (by decide)

theorem consF_vw (n : Nd) (h : Gn n) : VW (consF n) := by
  unfold consF
  repeat' split
  · rename_i h1; have := h.k h1; exact VW.num (by omega) (by omega)
  · exact VW.plain (by decide)
  · exact VW.plain (by decide)
  · exact VW.plain (by decide)
  · exact VW.plain (by decide)

theorem partF_vw {y : Vl} (h : VW y) (hi : y.k = 65 ∨ y.k = 66) : VW (partF y) := by
  unfold partF
  split
  · exact VW.num h.n0 h.n1
  · rename_i h1
    have := h.b (by omega)
    exact VW.plain (by omega)

theorem worF_vw {inp : ByteArray} {n : Nd} {y v : Vl} {m : Mc} (hn : Gn n) (hy : VW y) (hv : VW v) (hi : inK n.op y.k = true) : VW (worF inp n y v m).1 := by
  unfold worF
  repeat' split
  · unfold nextF
    split
    · exact inVal_vw (pk inp m.rd)
    · exact inVal_vw 90
  · exact hy
  · exact VW.num (by have := hy.n0; have := hv.n0; omega) (by omega)
  · exact VW.plain (by decide)
  · exact VW.plain (by decide)
  · exact VW.recA hy.n0 hy.n1
  · rename_i h66; rw [h66] at hi; exact VW.recB (inK_66 hy.k hi)
  · rename_i h46; rw [h46] at hi; exact partF_vw hy (inK_46 hy.k hi)
  · exact consF_vw n hn

theorem nextF_l (inp : ByteArray) (m : Mc) : (nextF inp m).2.l = m.l ∧ (nextF inp m).2.e = m.e := by unfold nextF; split <;> exact ⟨rfl, rfl⟩
theorem worF_l (inp : ByteArray) (n : Nd) (y v : Vl) (m : Mc) : (worF inp n y v m).2.l = m.l ∧ (worF inp n y v m).2.e = m.e := by
  unfold worF
  repeat' split
  · exact nextF_l inp m
  all_goals exact ⟨rfl, rfl⟩

theorem doF_vw {inp : ByteArray} {n : Nd} {x : Nat} {xu yu vu : Vl} {m : Mc} (hn : Gn n) (hm : ∀ u ∈ m.l, VW u) (hy : VW yu) (hv : VW vu) : ∀ u ∈ (doF inp n x xu yu vu m).l, VW u := by
  unfold doF
  repeat' split
  · exact hm
  · exact hm
  · exact hm
  · exact hm
  · exact hm
  · exact hm
  · exact hm
  · rename_i h2 _ _ _ _
    intro u hu
    have hu' : u ∈ (worF inp n yu vu m).2.l.set x (worF inp n yu vu m).1 := hu
    rw [(worF_l inp n yu vu m).1] at hu'
    rcases List.mem_or_eq_of_mem_set hu' with h | rfl
    · exact hm u h
    · exact worF_vw hn hy hv (by simpa using h2)

theorem NB.e {w : World} {r : Nat} {inp : ByteArray} {m : Mc} (h : NB w r inp m) (c : Int) : NB w r inp { m with e := c } := ⟨h.b, h.six⟩

/-- A step's premises. -/
structure StPre (w : World) (r : Nat) (inp : ByteArray) (m : Mc) (nd : Nd) (x y v : Nat) (xu yu vu : Vl) : Prop where
  nb : NB w r inp m
  g : Gn nd
  inp : inp.size ≤ 40
  hx : nd.x = x
  hy : nd.y = y
  hv : nd.v = v
  gx : m.l[x]? = some xu
  gy : m.l[y]? = some yu
  gv : m.l[v]? = some vu
  vw : ∀ u ∈ m.l, VW u
  out : m.out.size ≤ 100000
  tab : Tab w
  e : m.e = 8

theorem StPre.x6 {w : World} {r : Nat} {inp : ByteArray} {m : Mc} {nd : Nd} {x y v : Nat} {xu yu vu : Vl} (p : StPre w r inp m nd x y v xu yu vu) : x < 6 := by have := p.g.x; have := p.hx; omega

set_option maxHeartbeats 3200000 in
theorem nstep_c {w : World} {r : Nat} {inp : ByteArray} {m : Mc} {nd : Nd} {x y v : Nat} {xu yu vu : Vl} (tx : ByteArray) (yes no : Int) (p : StPre w r inp m nd x y v xu yu vu) (ht : ¬ (nd.op = 121 ∨ nd.op = 58)) :
    Calls Tryz.prog 48 #[.pointer (some ⟨r, 0, none⟩), .agg (encN nd tx yes no).cells.toArray] w fun e w' =>
      e = .returned (.int .i64 (endE (doF inp nd x xu yu vu m).e)) ∧ NB w' r inp (doF inp nd x xu yu vu m) ∧ Kp (· = r) w w' := by
  have hx6 := p.x6
  obtain ⟨nb, g, hinp, hx, hy, hv, gx, gy, gv, vw, hout, htab, he⟩ := p
  have vy := vw yu (List.mem_of_getElem? gy)
  have vv := vw vu (List.mem_of_getElem? gv)
  have vx := vw xu (List.mem_of_getElem? gx)
  have hop := g.op
  have by1 := bits_in nd.op yu.k hop vy.k
  have bv1 := bits_in nd.op vu.k hop vv.k
  have gk := g.k
  have gkd := g.kd
  have hw := worF_l inp nd yu vu m
  obtain ⟨op, nx, ny, nv, k, t, f, a, l⟩ := nd
  dsimp only at *
  subst hx hy hv
  by_cases c33 : op = 33
  · subst c33
    have ib := inK_all (op := 33) vy.k (by decide) (by decide) (by decide) (by decide) (by decide)
    rw [ib] at by1
    have e1 : doF inp ⟨33, x, y, v, k, t, f, a, l⟩ x xu yu vu m = { m with e := 6 } := by rw [doF, if_pos rfl]
    rw [e1]
    refine (nstep_11 tx 0 0 0 0 yes no x y y yu yu nb gy gy by1 by1).mono ?_
    rintro e w' ⟨rfl, h1, k1⟩
    exact ⟨rfl, h1.e 6, k1⟩
  by_cases ci : inK op yu.k = false
  · rw [ci] at by1
    have e1 : doF inp ⟨op, x, y, v, k, t, f, a, l⟩ x xu yu vu m = { m with e := 5 } := by rw [doF, if_neg (by exact c33), if_pos (by exact ci)]
    rw [e1]
    by_cases c2 : op = 43 ∨ op = 60
    · have e2 : (encN ⟨op, x, y, v, k, t, f, a, l⟩ tx yes no).w = v := if_pos c2
      refine (show Calls _ _ #[_, .agg #[.string tx, .int .i64 (actN op), .int .i64 x, .int .i64 y, .int .i64 (encN ⟨op, x, y, v, k, t, f, a, l⟩ tx yes no).w, _, _, _, _, _, _]] _ _ from by rw [e2]; exact (nstep_k1 tx (actN op) _ _ _ _ yes no x y v yu vu nb gy gv by1)).mono ?_
      rintro e w' ⟨rfl, h1, k1⟩
      exact ⟨rfl, h1.e 5, k1⟩
    · have e2 : (encN ⟨op, x, y, v, k, t, f, a, l⟩ tx yes no).w = y := if_neg c2
      refine (show Calls _ _ #[_, .agg #[.string tx, .int .i64 (actN op), .int .i64 x, .int .i64 y, .int .i64 (encN ⟨op, x, y, v, k, t, f, a, l⟩ tx yes no).w, _, _, _, _, _, _]] _ _ from by rw [e2]; exact (nstep_k1 tx (actN op) _ _ _ _ yes no x y y yu yu nb gy gy by1)).mono ?_
      rintro e w' ⟨rfl, h1, k1⟩
      exact ⟨rfl, h1.e 5, k1⟩
  have ci' : inK op yu.k = true := by simpa using ci
  rw [ci'] at by1
  have e0 : doF inp ⟨op, x, y, v, k, t, f, a, l⟩ x xu yu vu m = if (op = 43 ∨ op = 60) ∧ inK op vu.k = false then { m with e := 5 } else if op = 42 then m else if op = 94 then { m with out := m.out ++ spellF yu ++ sp } else if op = 126 then (if xu.k = k then m else { m with e := 7 }) else putL (worF inp ⟨op, x, y, v, k, t, f, a, l⟩ yu vu m).2 x (worF inp ⟨op, x, y, v, k, t, f, a, l⟩ yu vu m).1 := by
    rw [doF, if_neg (by exact c33), if_neg (by exact ci)]
  rw [e0]
  have f8 : endE 8 = 0 := rfl
  by_cases c42 : op = 42
  · subst c42
    rw [if_neg (by omega), if_pos rfl, he, f8]
    exact nstep_14 tx 0 0 0 0 yes no x y y yu yu nb gy gy by1 by1
  by_cases c94 : op = 94
  · subst c94
    rw [if_neg (by omega), if_neg (by decide), if_pos rfl]
    show Calls _ _ _ _ fun e w' => e = .returned (.int .i64 (endE m.e)) ∧ _
    rw [show endE m.e = 0 by rw [he]; rfl]
    exact nstep_put tx 0 0 0 0 yes no x y y yu yu nb gy gy by1 by1 vy htab (spell_size yu ⟨vy.n0, vy.n1, by have := vy.k; unfold KOk at this; omega⟩) hout
  by_cases c126 : op = 126
  · subst c126
    rw [if_neg (by omega), if_neg (by decide), if_neg (by decide), if_pos rfl]
    have kok := gkd (.inr rfl)
    by_cases ck : xu.k = k
    · rw [if_pos ck, he, f8]
      exact nstep_cast tx 0 0 0 (bit k) yes no x y y yu yu nb gy gy by1 by1 xu gx (by rw [ck]; simp)
    · rw [if_neg ck]
      have hne : (bit xu.k == bit k) = false := by
        have h1 := vx.k
        unfold KOk at h1 kok
        rcases h1 with e | e | e | e | e | e | e <;> rcases kok with e' | e' | e' | e' | e' | e' | e' <;> rw [e, e'] <;> first | decide | (exfalso; omega)
      refine (nstep_castno tx 0 0 0 (bit k) yes no x y y yu yu nb gy gy by1 by1 xu gx hne).mono ?_
      rintro e w' ⟨rfl, h1, k1⟩
      exact ⟨rfl, h1.e 7, k1⟩
  by_cases c63 : op = 63
  · subst c63
    rw [if_neg (by omega), if_neg (by decide), if_neg (by decide), if_neg (by decide)]
    have e1 : worF inp ⟨63, x, y, v, k, t, f, a, l⟩ yu vu m = nextF inp m := by rw [worF, if_pos rfl]
    rw [e1]
    show Calls _ _ _ _ fun e w' => e = .returned (.int .i64 (endE (nextF inp m).2.e)) ∧ _
    rw [(nextF_l inp m).2, he, f8]
    exact nstep_in tx 0 0 0 0 yes no x y y yu yu nb gy gy by1 by1 hinp hx6
  by_cases c2 : op = 43 ∨ op = 60
  · have e2 : (encN ⟨op, x, y, v, k, t, f, a, l⟩ tx yes no).w = v := if_pos c2
    by_cases cv : inK op vu.k = false
    · rw [cv] at bv1
      rw [if_pos ⟨c2, cv⟩]
      refine (show Calls _ _ #[_, .agg #[.string tx, .int .i64 (actN op), .int .i64 x, .int .i64 y, .int .i64 (encN ⟨op, x, y, v, k, t, f, a, l⟩ tx yes no).w, _, _, _, _, _, _]] _ _ from by rw [e2]; exact (nstep_k2 tx (actN op) _ _ _ _ yes no x y v yu vu nb gy gv by1 bv1)).mono ?_
      rintro e w' ⟨rfl, h1, k1⟩
      exact ⟨rfl, h1.e 5, k1⟩
    · have cv' : inK op vu.k = true := by simpa using cv
      rw [cv'] at bv1
      rw [if_neg (fun h => cv h.2), if_neg c42, if_neg c94, if_neg c126]
      show Calls _ _ _ _ fun e w' => e = .returned (.int .i64 (endE (worF inp ⟨op, x, y, v, k, t, f, a, l⟩ yu vu m).2.e)) ∧ _
      rw [hw.2, he, f8]
      have hwm : (worF inp ⟨op, x, y, v, k, t, f, a, l⟩ yu vu m).2 = m := by
        rcases c2 with rfl | rfl <;> rfl
      rw [hwm]
      rcases c2 with rfl | rfl
      · exact nstep_set tx 4 0 0 0 0 yes no x y v yu vu nb gy gv by1 bv1 rfl rfl rfl rfl rfl rfl rfl ⟨110, (yu.n + vu.n) % 1000, 0⟩ hx6 (fun W => ngiven_4 tx x y v 0 0 0 0 yes no _ _ _ _ _ _ W vy.n0 vy.n1 vv.n0 vv.n1)
      · have e5 : (worF inp ⟨60, x, y, v, k, t, f, a, l⟩ yu vu m).1 = (if yu.n < vu.n then ⟨116, 0, 0⟩ else ⟨102, 0, 0⟩) := rfl
        rw [e5]
        refine nstep_set tx 5 0 0 0 0 yes no x y v yu vu nb gy gv by1 bv1 rfl rfl rfl rfl rfl rfl rfl (if yu.n < vu.n then ⟨116, 0, 0⟩ else ⟨102, 0, 0⟩) hx6 (fun W => ?_)
        refine (ngiven_5 tx x y v 0 0 0 0 yes no _ yu.n _ _ vu.n _ W).mono ?_
        rintro e w' ⟨rfl, k1⟩
        refine ⟨?_, k1⟩
        split <;> rfl
  rw [if_neg (fun h => c2 h.1), if_neg c42, if_neg c94, if_neg c126]
  show Calls _ _ _ _ fun e w' => e = .returned (.int .i64 (endE (worF inp ⟨op, x, y, v, k, t, f, a, l⟩ yu vu m).2.e)) ∧ _
  rw [hw.2, he, f8]
  have hwm : (worF inp ⟨op, x, y, v, k, t, f, a, l⟩ yu vu m).2 = m := by
    unfold opOk at hop
    rcases hop with rfl | rfl | rfl | rfl | rfl | rfl | rfl | rfl | rfl | rfl | rfl | rfl | rfl | rfl | rfl | rfl | rfl | rfl <;> first | rfl | exact absurd rfl c63
  rw [hwm]
  by_cases c118 : op = 118
  · subst c118
    exact nstep_set tx 3 0 0 0 0 yes no x y y yu yu nb gy gy by1 by1 rfl rfl rfl rfl rfl rfl rfl yu hx6 (fun W => ngiven_3 tx x y y 0 0 0 0 yes no _ _ _ _ _ _ W)
  by_cases c65 : op = 65
  · subst c65
    exact nstep_set tx 6 0 0 0 0 yes no x y y yu yu nb gy gy by1 by1 rfl rfl rfl rfl rfl rfl rfl ⟨65, yu.n, 0⟩ hx6 (fun W => ngiven_6 tx x y y 0 0 0 0 yes no _ _ _ _ _ _ W)
  by_cases c66 : op = 66
  · subst c66
    exact nstep_set tx 7 0 0 0 0 yes no x y y yu yu nb gy gy by1 by1 rfl rfl rfl rfl rfl rfl rfl ⟨66, 0, yu.k⟩ hx6 (fun W => ngiven_7 tx x y y 0 0 0 0 yes no _ _ _ _ _ _ W)
  by_cases c46 : op = 46
  · subst c46
    have e5 : (worF inp ⟨46, x, y, v, k, t, f, a, l⟩ yu vu m).1 = partF yu := rfl
    rw [e5]
    refine nstep_set tx 8 0 0 0 0 yes no x y y yu yu nb gy gy by1 by1 rfl rfl rfl rfl rfl rfl rfl (partF yu) hx6 (fun W => ?_)
    refine (ngiven_8 tx x y y 0 0 0 0 yes no (bit yu.k) yu.n (bit yu.v) _ _ _ W).mono ?_
    rintro e w' ⟨rfl, k1⟩
    refine ⟨?_, k1⟩
    have h16 := bit_65 vy.k
    unfold partF
    by_cases c : yu.k = 65
    · rw [if_pos (h16.2 c), if_pos (h16.2 c), if_pos c]; rfl
    · rw [if_neg (fun e => c (h16.1 e)), if_neg (fun e => c (h16.1 e)), if_neg c]; rfl
  · have e5 : (worF inp ⟨op, x, y, v, k, t, f, a, l⟩ yu vu m).1 = consF ⟨op, x, y, v, k, t, f, a, l⟩ := by
      rw [worF, if_neg (by exact c63), if_neg (by exact c118), if_neg (fun e => c2 (.inl e)), if_neg (fun e => c2 (.inr e)), if_neg (by exact c65), if_neg (by exact c66), if_neg (by exact c46)]
    have ea : actN op = 1 := by unfold opOk at hop; unfold actN; rw [if_pos (by omega)]
    have ew : (encN ⟨op, x, y, v, k, t, f, a, l⟩ tx yes no).w = y := if_neg c2
    have ec : consN ⟨op, x, y, v, k, t, f, a, l⟩ = consF ⟨op, x, y, v, k, t, f, a, l⟩ := by rw [consN, if_pos ea]
    rw [e5]
    generalize consF ⟨op, x, y, v, k, t, f, a, l⟩ = cu at *
    have en : (encN ⟨op, x, y, v, k, t, f, a, l⟩ tx yes no).cells = [.string tx, .int .i64 1, .int .i64 x, .int .i64 y, .int .i64 y, .int .i64 (bit cu.k), .int .i64 cu.n, .int .i64 (bit cu.v), .int .i64 (if op = 126 ∨ op = 58 then bit k else 0), .int .i64 yes, .int .i64 no] := by
      unfold NN.cells
      rw [ew]
      unfold encN
      dsimp only
      rw [ea, ec]
    rw [en]
    rw [ea] at by1
    exact nstep_set tx 1 _ _ _ _ yes no x y y yu yu nb gy gy by1 by1 rfl rfl rfl rfl rfl rfl rfl cu hx6 (fun W => ngiven_1 tx x y y _ _ _ _ yes no _ _ _ _ _ _ W)

end Go.Proofs.YtellieabhaphhabGreatDoor

/-
  narrowref.Walk.
-/
namespace Go.Proofs.YtellieabhaphhabGreatDoor
open Go.RowKit

/-- A walk from node a on. -/
def wkF : Nat → List Nd → ByteArray → Mc → Int → Option Mc
  | 0, _, _, _, _ => none
  | f + 1, ND, inp, m, a =>
    if a < ND.length ∧ m.e = 8 then
      (if 0 ≤ a ∧ a < 100 then
        match ND[a.toNat]? with
        | none => none
        | some nd =>
          match m.l[nd.x.toNat]?, m.l[nd.y.toNat]?, m.l[nd.v.toNat]? with
          | some xu, some yu, some vu =>
            if (startF m a.toNat).2 then
              (if nd.op = 121 ∨ nd.op = 58 then wkF f ND inp (startF m a.toNat).1 (if holdF nd yu then nd.t else nd.f)
              else wkF f ND inp (doF inp nd nd.x.toNat xu yu vu (startF m a.toNat).1) nd.t)
            else wkF f ND inp (startF m a.toNat).1 a
          | _, _, _ => none
      else none)
    else some m

end Go.Proofs.YtellieabhaphhabGreatDoor
