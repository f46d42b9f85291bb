import Derived.Test.YtellieabhaphhaaGreatDoorPRunsF
/-
  narrowref's machine: a node that is no test.
-/
namespace Go.Proofs.YtellieabhaphhaaGreatDoor
open Go.RowKit

def inK (op k : Int) : Bool := amF k.toNat (takF op).data.toList

def putL (st : Mc) (x : Nat) (u : Vl) : Mc := { st with l := st.l.set x u }

def doF (inp : ByteArray) (n : Nd) (x : Nat) (xu yu vu : Vl) (st : Mc) : Mc :=
  if n.op = 33 then { st with e := 6 }
  else if inK n.op yu.k = false then { st with e := 5 }
  else if (n.op = 43 ∨ n.op = 60) ∧ inK n.op vu.k = false then { st with e := 5 }
  else if n.op = 42 then st
  else if n.op = 94 then { st with out := st.out ++ spellF yu ++ sp }
  else if n.op = 126 then (if xu.k = n.k then st else { st with e := 7 })
  else putL (worF inp n yu vu st).2 x (worF inp n yu vu st).1

theorem takF_size (o : Int) : (takF o).size ≤ 7 := by
  unfold takF; repeat' split
  all_goals decide

/-- What a step of the machine is asked. -/
structure DoPre (w : World) (m lb : Nat) (inp : ByteArray) (st : Mc) (n : Nd) (x y v : Nat) (xu yu vu : Vl) : Prop where
  mb : MB w m lb inp st
  inp : inp.size ≤ 40
  hx : n.x = x
  hy : n.y = y
  hv : n.v = v
  gx : st.l[x]? = some xu
  gy : st.l[y]? = some yu
  gv : st.l[v]? = some vu
  oy : VOk yu
  ov : VOk vu
  k : n.op = 48 → 48 ≤ n.k ∧ n.k ≤ 57
  out : st.out.size ≤ 100000
  tab : Tab w
  tm : m ≠ 0
  tl : lb ≠ 0

set_option maxHeartbeats 6400000 in
theorem do_never {w : World} {m lb : Nat} {inp : ByteArray} {st : Mc} {n : Nd} {x y v : Nat} {xu yu vu : Vl} (p : DoPre w m lb inp st n x y v xu yu vu) (h1 : n.op = 33) :
    Calls Tryz.prog 87 #[.pointer (some ⟨m, 0, none⟩), .agg #[.int .u8 n.op, .int .i64 n.x, .int .i64 n.y, .int .i64 n.v, .int .u8 n.k, .int .i64 n.t, .int .i64 n.f, .int .i64 n.a, .int .i64 n.l]] w fun e w' => e = .returned (.tuple #[]) ∧ MB w' m lb inp (doF inp n x xu yu vu st) ∧ Kp (MK m lb) w w' := by
  obtain ⟨hmb, hinp, hx, hy, hv, hxu, hyu, hvu, oy, ov, hkk, hout, htab, tm, tl⟩ := p
  obtain ⟨o, x', y', v', k, t, f, a, l⟩ := n
  dsimp only at *
  subst hx hy hv
  have HV := hide (show doF inp ⟨o, x, y, v, k, t, f, a, l⟩ x xu yu vu st = { st with e := 6 } by simp [doF, h1])
  subst h1
  have hlt := hmb.lt
  obtain ⟨d0, d1, d2, d3, d4, d5, d6, df⟩ := hmb.c
  go_enter Tryz.func87, Tryz.ntmps87
  go_wp2
  refine bodyPost_ret (results_none rfl _ _ _) rfl ?_
  rw [HV.out]
  exact ⟨rfl, (hmb.setE 6).alloc _, by (repeat' (first | with_reducible exact Kp.refl _ _ | with_reducible refine Kp.alloc ?_ _ | with_reducible refine Kp.drewN ?_ _ | with_reducible refine Kp.drew ?_ | with_reducible refine Kp.setCell ?_ _ ?_ | (intro hh; first | rfl | exact .inl rfl | exact .inr rfl | (exfalso; (try dsimp only at hh); omega))))⟩

set_option maxHeartbeats 6400000 in
theorem do_kind1 {w : World} {m lb : Nat} {inp : ByteArray} {st : Mc} {n : Nd} {x y v : Nat} {xu yu vu : Vl} (p : DoPre w m lb inp st n x y v xu yu vu) (h1 : n.op ≠ 33) (h2 : inK n.op yu.k = false) :
    Calls Tryz.prog 87 #[.pointer (some ⟨m, 0, none⟩), .agg #[.int .u8 n.op, .int .i64 n.x, .int .i64 n.y, .int .i64 n.v, .int .u8 n.k, .int .i64 n.t, .int .i64 n.f, .int .i64 n.a, .int .i64 n.l]] w fun e w' => e = .returned (.tuple #[]) ∧ MB w' m lb inp (doF inp n x xu yu vu st) ∧ Kp (MK m lb) w w' := by
  obtain ⟨hmb, hinp, hx, hy, hv, hxu, hyu, hvu, oy, ov, hkk, hout, htab, tm, tl⟩ := p
  obtain ⟨o, x', y', v', k, t, f, a, l⟩ := n
  dsimp only at *
  subst hx hy hv
  have HV := hide (show doF inp ⟨o, x, y, v, k, t, f, a, l⟩ x xu yu vu st = { st with e := 5 } by simp [doF, h1, h2])
  have f33 : (o == 33) = false := by simp [h1]
  clear h1
  have hlt := hmb.lt
  obtain ⟨yk, yn, yv⟩ := yu
  obtain ⟨vk, vn, vv⟩ := vu
  obtain ⟨xk, xn, xv⟩ := xu
  obtain ⟨oy1, oy2, oy3⟩ := oy
  obtain ⟨ov1, ov2, ov3⟩ := ov
  dsimp only at *
  obtain ⟨yk, rfl⟩ := Int.eq_ofNat_of_zero_le oy3
  obtain ⟨vk, rfl⟩ := Int.eq_ofNat_of_zero_le ov3
  clear oy3 ov3
  have hts := takF_size o
  have HT := hide (takes_c ⟨o, x, y, v, k, t, f, a, l⟩ (w.alloc (.cells #[.int .u8 o, .int .i64 x, .int .i64 y, .int .i64 v, .int .u8 k, .int .i64 t, .int .i64 f, .int .i64 a, .int .i64 l] 63)))
  dsimp only at HT
  have hin : amF yk (takF o).data.toList = false := h2
  clear h2
  generalize takF o = T at *
  go_enter Tryz.func87, Tryz.ntmps87
  go_wp2_with fail
  refine HT.out.mono ?_
  rintro e w1 ⟨rfl, k1⟩
  go_wp2
  refine wp_gen (fun W => MB W m lb inp st ∧ Blk W w.heap.size [.int .u8 o, .int .i64 x, .int .i64 y, .int .i64 v, .int .u8 k, .int .i64 t, .int .i64 f, .int .i64 a, .int .i64 l] 63 ∧ Kp (MK m lb) w W ∧ Tab W) ⟨MB.kp (by (repeat' (first | with_reducible exact hmb | with_reducible refine MB.alloc ?_ _ | with_reducible refine MB.drew ?_ | with_reducible refine MB.n ?_ _ | ((with_reducible refine MB.other ?_ _ ?_ ?_); rotate_left; ((try dsimp only); omega); ((try dsimp only); omega))))) k1 no_elim no_elim, k1.blk (by (repeat' (first | ((with_reducible show (_ : List Value) = _); rfl) | ((with_reducible refine Blk.newAt _ _ _ ?_); first | with_reducible rfl | (simp; done)) | with_reducible refine Blk.alloc ?_ _ | with_reducible refine Blk.drewN ?_ _ | with_reducible refine Blk.drew ?_ | ((with_reducible refine Blk.other ?_ _ ?_); rotate_left; ((try dsimp only); omega)) | with_reducible refine Blk.setB (cs0 := ?_) ?_ ?_))) no_elim, Kp.trans (by (repeat' (first | with_reducible exact Kp.refl _ _ | with_reducible refine Kp.alloc ?_ _ | with_reducible refine Kp.drewN ?_ _ | with_reducible refine Kp.drew ?_ | with_reducible refine Kp.setCell ?_ _ ?_ | (intro hh; first | rfl | exact .inl rfl | exact .inr rfl | (exfalso; (try dsimp only at hh); omega))))) k1 (fun _ _ e => e.elim), (htab.kp ((Kp.refl no w).alloc _) no_elim).kp k1 no_elim⟩ ?_
  rintro W ⟨hm, hN, hk, htW⟩
  obtain ⟨d0, d1, d2, d3, d4, d5, d6, df⟩ := hm.c
  obtain ⟨hy6, y0, y1, y2⟩ := hm.vu hyu
  obtain ⟨hv6, v0, v1, v2⟩ := hm.vu hvu
  obtain ⟨hx6, x0, x1, x2⟩ := hm.vu hxu
  obtain ⟨n0, n1, n2, n3, n4, n5, n6, n7, n8, nf⟩ := hN.c9
  have hz1 := hN.lt
  obtain ⟨hz2, hz3⟩ := hm.lt
  dsimp only at y0 y1 y2 v0 v1 v2 x0 x1 x2
  go_quiet ((go_at_call 74; exact Calls.quiet_of_same (in_c _ _ _ (by omega))))
  go_wp2
  refine bodyPost_ret (results_none rfl _ _ _) rfl ?_
  rw [HV.out]
  exact ⟨rfl, (hm.n _).setE 5, by (repeat' (first | with_reducible exact Kp.refl _ _ | with_reducible refine Kp.alloc ?_ _ | with_reducible refine Kp.drewN ?_ _ | with_reducible refine Kp.drew ?_ | with_reducible refine Kp.setCell ?_ _ ?_ | with_reducible refine Kp.trans ?_ hk (fun _ _ e => e) | (intro hh; first | rfl | exact .inl rfl | exact .inr rfl | (exfalso; (try dsimp only at hh); omega))))⟩

set_option maxHeartbeats 6400000 in
theorem do_kind2_43 {w : World} {m lb : Nat} {inp : ByteArray} {st : Mc} {n : Nd} {x y v : Nat} {xu yu vu : Vl} (p : DoPre w m lb inp st n x y v xu yu vu) (h0 : n.op = 43) (h2 : inK n.op yu.k = true) (h3 : inK n.op vu.k = false) :
    Calls Tryz.prog 87 #[.pointer (some ⟨m, 0, none⟩), .agg #[.int .u8 n.op, .int .i64 n.x, .int .i64 n.y, .int .i64 n.v, .int .u8 n.k, .int .i64 n.t, .int .i64 n.f, .int .i64 n.a, .int .i64 n.l]] w fun e w' => e = .returned (.tuple #[]) ∧ MB w' m lb inp (doF inp n x xu yu vu st) ∧ Kp (MK m lb) w w' := by
  obtain ⟨hmb, hinp, hx, hy, hv, hxu, hyu, hvu, oy, ov, hkk, hout, htab, tm, tl⟩ := p
  obtain ⟨o, x', y', v', k, t, f, a, l⟩ := n
  dsimp only at *
  subst hx hy hv
  subst h0
  have HV := hide (show doF inp ⟨43, x, y, v, k, t, f, a, l⟩ x xu yu vu st = { st with e := 5 } by simp [doF, h2, h3])
  have f33 : ((43 : Int) == 33) = false := by decide
  have hlt := hmb.lt
  obtain ⟨yk, yn, yv⟩ := yu
  obtain ⟨vk, vn, vv⟩ := vu
  obtain ⟨xk, xn, xv⟩ := xu
  obtain ⟨oy1, oy2, oy3⟩ := oy
  obtain ⟨ov1, ov2, ov3⟩ := ov
  dsimp only at *
  obtain ⟨yk, rfl⟩ := Int.eq_ofNat_of_zero_le oy3
  obtain ⟨vk, rfl⟩ := Int.eq_ofNat_of_zero_le ov3
  clear oy3 ov3
  have hts := takF_size 43
  have HT := hide (takes_c ⟨43, x, y, v, k, t, f, a, l⟩ (w.alloc (.cells #[.int .u8 43, .int .i64 x, .int .i64 y, .int .i64 v, .int .u8 k, .int .i64 t, .int .i64 f, .int .i64 a, .int .i64 l] 63)))
  dsimp only at HT
  have hin : amF yk (takF 43).data.toList = true := h2
  have hin2 : amF vk (takF 43).data.toList = false := h3
  clear h2 h3
  generalize takF 43 = T at *
  go_enter Tryz.func87, Tryz.ntmps87
  go_wp2_with fail
  refine HT.out.mono ?_
  rintro e w1 ⟨rfl, k1⟩
  go_wp2
  refine wp_gen (fun W => MB W m lb inp st ∧ Blk W w.heap.size [.int .u8 43, .int .i64 x, .int .i64 y, .int .i64 v, .int .u8 k, .int .i64 t, .int .i64 f, .int .i64 a, .int .i64 l] 63 ∧ Kp (MK m lb) w W ∧ Tab W) ⟨MB.kp (by (repeat' (first | with_reducible exact hmb | with_reducible refine MB.alloc ?_ _ | with_reducible refine MB.drew ?_ | with_reducible refine MB.n ?_ _ | ((with_reducible refine MB.other ?_ _ ?_ ?_); rotate_left; ((try dsimp only); omega); ((try dsimp only); omega))))) k1 no_elim no_elim, k1.blk (by (repeat' (first | ((with_reducible show (_ : List Value) = _); rfl) | ((with_reducible refine Blk.newAt _ _ _ ?_); first | with_reducible rfl | (simp; done)) | with_reducible refine Blk.alloc ?_ _ | with_reducible refine Blk.drewN ?_ _ | with_reducible refine Blk.drew ?_ | ((with_reducible refine Blk.other ?_ _ ?_); rotate_left; ((try dsimp only); omega)) | with_reducible refine Blk.setB (cs0 := ?_) ?_ ?_))) no_elim, Kp.trans (by (repeat' (first | with_reducible exact Kp.refl _ _ | with_reducible refine Kp.alloc ?_ _ | with_reducible refine Kp.drewN ?_ _ | with_reducible refine Kp.drew ?_ | with_reducible refine Kp.setCell ?_ _ ?_ | (intro hh; first | rfl | exact .inl rfl | exact .inr rfl | (exfalso; (try dsimp only at hh); omega))))) k1 (fun _ _ e => e.elim), (htab.kp ((Kp.refl no w).alloc _) no_elim).kp k1 no_elim⟩ ?_
  rintro W ⟨hm, hN, hk, htW⟩
  obtain ⟨d0, d1, d2, d3, d4, d5, d6, df⟩ := hm.c
  obtain ⟨hy6, y0, y1, y2⟩ := hm.vu hyu
  obtain ⟨hv6, v0, v1, v2⟩ := hm.vu hvu
  obtain ⟨hx6, x0, x1, x2⟩ := hm.vu hxu
  obtain ⟨n0, n1, n2, n3, n4, n5, n6, n7, n8, nf⟩ := hN.c9
  have hz1 := hN.lt
  obtain ⟨hz2, hz3⟩ := hm.lt
  dsimp only at y0 y1 y2 v0 v1 v2 x0 x1 x2
  go_quiet ((go_at_call 74; exact Calls.quiet_of_same (in_c _ _ _ (by omega))))
  go_wp2
  refine wp_gen (fun W' => MB W' m lb inp st ∧ Blk W' w.heap.size [.int .u8 43, .int .i64 x, .int .i64 y, .int .i64 v, .int .u8 k, .int .i64 t, .int .i64 f, .int .i64 a, .int .i64 l] 63 ∧ Kp (MK m lb) w W' ∧ Tab W') ⟨hm.n _, hN, hk.drewN _, htW⟩ ?_
  clear d0 d1 d2 d3 d4 d5 d6 df y0 y1 y2 v0 v1 v2 x0 x1 x2 n0 n1 n2 n3 n4 n5 n6 n7 n8 nf hz1 hz2 hz3 hm hN hk htW
  rintro W2 ⟨hm, hN, hk, htW⟩
  obtain ⟨d0, d1, d2, d3, d4, d5, d6, df⟩ := hm.c
  obtain ⟨hy6, y0, y1, y2⟩ := hm.vu hyu
  obtain ⟨hv6, v0, v1, v2⟩ := hm.vu hvu
  obtain ⟨hx6, x0, x1, x2⟩ := hm.vu hxu
  obtain ⟨n0, n1, n2, n3, n4, n5, n6, n7, n8, nf⟩ := hN.c9
  have hz1 := hN.lt
  obtain ⟨hz2, hz3⟩ := hm.lt
  dsimp only at y0 y1 y2 v0 v1 v2 x0 x1 x2
  go_quiet ((go_at_call 74; exact Calls.quiet_of_same (in_c _ _ _ (by omega))))
  go_wp2
  refine bodyPost_ret (results_none rfl _ _ _) rfl ?_
  rw [HV.out]
  exact ⟨rfl, (hm.n _).setE 5, by (repeat' (first | with_reducible exact Kp.refl _ _ | with_reducible refine Kp.alloc ?_ _ | with_reducible refine Kp.drewN ?_ _ | with_reducible refine Kp.drew ?_ | with_reducible refine Kp.setCell ?_ _ ?_ | with_reducible refine Kp.trans ?_ hk (fun _ _ e => e) | (intro hh; first | rfl | exact .inl rfl | exact .inr rfl | (exfalso; (try dsimp only at hh); omega))))⟩

set_option maxHeartbeats 6400000 in
theorem do_kind2_60 {w : World} {m lb : Nat} {inp : ByteArray} {st : Mc} {n : Nd} {x y v : Nat} {xu yu vu : Vl} (p : DoPre w m lb inp st n x y v xu yu vu) (h0 : n.op = 60) (h2 : inK n.op yu.k = true) (h3 : inK n.op vu.k = false) :
    Calls Tryz.prog 87 #[.pointer (some ⟨m, 0, none⟩), .agg #[.int .u8 n.op, .int .i64 n.x, .int .i64 n.y, .int .i64 n.v, .int .u8 n.k, .int .i64 n.t, .int .i64 n.f, .int .i64 n.a, .int .i64 n.l]] w fun e w' => e = .returned (.tuple #[]) ∧ MB w' m lb inp (doF inp n x xu yu vu st) ∧ Kp (MK m lb) w w' := by
  obtain ⟨hmb, hinp, hx, hy, hv, hxu, hyu, hvu, oy, ov, hkk, hout, htab, tm, tl⟩ := p
  obtain ⟨o, x', y', v', k, t, f, a, l⟩ := n
  dsimp only at *
  subst hx hy hv
  subst h0
  have HV := hide (show doF inp ⟨60, x, y, v, k, t, f, a, l⟩ x xu yu vu st = { st with e := 5 } by simp [doF, h2, h3])
  have f33 : ((60 : Int) == 33) = false := by decide
  have hlt := hmb.lt
  obtain ⟨yk, yn, yv⟩ := yu
  obtain ⟨vk, vn, vv⟩ := vu
  obtain ⟨xk, xn, xv⟩ := xu
  obtain ⟨oy1, oy2, oy3⟩ := oy
  obtain ⟨ov1, ov2, ov3⟩ := ov
  dsimp only at *
  obtain ⟨yk, rfl⟩ := Int.eq_ofNat_of_zero_le oy3
  obtain ⟨vk, rfl⟩ := Int.eq_ofNat_of_zero_le ov3
  clear oy3 ov3
  have hts := takF_size 60
  have HT := hide (takes_c ⟨60, x, y, v, k, t, f, a, l⟩ (w.alloc (.cells #[.int .u8 60, .int .i64 x, .int .i64 y, .int .i64 v, .int .u8 k, .int .i64 t, .int .i64 f, .int .i64 a, .int .i64 l] 63)))
  dsimp only at HT
  have hin : amF yk (takF 60).data.toList = true := h2
  have hin2 : amF vk (takF 60).data.toList = false := h3
  clear h2 h3
  generalize takF 60 = T at *
  go_enter Tryz.func87, Tryz.ntmps87
  go_wp2_with fail
  refine HT.out.mono ?_
  rintro e w1 ⟨rfl, k1⟩
  go_wp2
  refine wp_gen (fun W => MB W m lb inp st ∧ Blk W w.heap.size [.int .u8 60, .int .i64 x, .int .i64 y, .int .i64 v, .int .u8 k, .int .i64 t, .int .i64 f, .int .i64 a, .int .i64 l] 63 ∧ Kp (MK m lb) w W ∧ Tab W) ⟨MB.kp (by (repeat' (first | with_reducible exact hmb | with_reducible refine MB.alloc ?_ _ | with_reducible refine MB.drew ?_ | with_reducible refine MB.n ?_ _ | ((with_reducible refine MB.other ?_ _ ?_ ?_); rotate_left; ((try dsimp only); omega); ((try dsimp only); omega))))) k1 no_elim no_elim, k1.blk (by (repeat' (first | ((with_reducible show (_ : List Value) = _); rfl) | ((with_reducible refine Blk.newAt _ _ _ ?_); first | with_reducible rfl | (simp; done)) | with_reducible refine Blk.alloc ?_ _ | with_reducible refine Blk.drewN ?_ _ | with_reducible refine Blk.drew ?_ | ((with_reducible refine Blk.other ?_ _ ?_); rotate_left; ((try dsimp only); omega)) | with_reducible refine Blk.setB (cs0 := ?_) ?_ ?_))) no_elim, Kp.trans (by (repeat' (first | with_reducible exact Kp.refl _ _ | with_reducible refine Kp.alloc ?_ _ | with_reducible refine Kp.drewN ?_ _ | with_reducible refine Kp.drew ?_ | with_reducible refine Kp.setCell ?_ _ ?_ | (intro hh; first | rfl | exact .inl rfl | exact .inr rfl | (exfalso; (try dsimp only at hh); omega))))) k1 (fun _ _ e => e.elim), (htab.kp ((Kp.refl no w).alloc _) no_elim).kp k1 no_elim⟩ ?_
  rintro W ⟨hm, hN, hk, htW⟩
  obtain ⟨d0, d1, d2, d3, d4, d5, d6, df⟩ := hm.c
  obtain ⟨hy6, y0, y1, y2⟩ := hm.vu hyu
  obtain ⟨hv6, v0, v1, v2⟩ := hm.vu hvu
  obtain ⟨hx6, x0, x1, x2⟩ := hm.vu hxu
  obtain ⟨n0, n1, n2, n3, n4, n5, n6, n7, n8, nf⟩ := hN.c9
  have hz1 := hN.lt
  obtain ⟨hz2, hz3⟩ := hm.lt
  dsimp only at y0 y1 y2 v0 v1 v2 x0 x1 x2
  go_quiet ((go_at_call 74; exact Calls.quiet_of_same (in_c _ _ _ (by omega))))
  go_wp2
  refine wp_gen (fun W' => MB W' m lb inp st ∧ Blk W' w.heap.size [.int .u8 60, .int .i64 x, .int .i64 y, .int .i64 v, .int .u8 k, .int .i64 t, .int .i64 f, .int .i64 a, .int .i64 l] 63 ∧ Kp (MK m lb) w W' ∧ Tab W') ⟨hm.n _, hN, hk.drewN _, htW⟩ ?_
  clear d0 d1 d2 d3 d4 d5 d6 df y0 y1 y2 v0 v1 v2 x0 x1 x2 n0 n1 n2 n3 n4 n5 n6 n7 n8 nf hz1 hz2 hz3 hm hN hk htW
  rintro W2 ⟨hm, hN, hk, htW⟩
  obtain ⟨d0, d1, d2, d3, d4, d5, d6, df⟩ := hm.c
  obtain ⟨hy6, y0, y1, y2⟩ := hm.vu hyu
  obtain ⟨hv6, v0, v1, v2⟩ := hm.vu hvu
  obtain ⟨hx6, x0, x1, x2⟩ := hm.vu hxu
  obtain ⟨n0, n1, n2, n3, n4, n5, n6, n7, n8, nf⟩ := hN.c9
  have hz1 := hN.lt
  obtain ⟨hz2, hz3⟩ := hm.lt
  dsimp only at y0 y1 y2 v0 v1 v2 x0 x1 x2
  go_quiet ((go_at_call 74; exact Calls.quiet_of_same (in_c _ _ _ (by omega))))
  go_wp2
  refine bodyPost_ret (results_none rfl _ _ _) rfl ?_
  rw [HV.out]
  exact ⟨rfl, (hm.n _).setE 5, by (repeat' (first | with_reducible exact Kp.refl _ _ | with_reducible refine Kp.alloc ?_ _ | with_reducible refine Kp.drewN ?_ _ | with_reducible refine Kp.drew ?_ | with_reducible refine Kp.setCell ?_ _ ?_ | with_reducible refine Kp.trans ?_ hk (fun _ _ e => e) | (intro hh; first | rfl | exact .inl rfl | exact .inr rfl | (exfalso; (try dsimp only at hh); omega))))⟩

set_option maxHeartbeats 6400000 in
theorem do_same {w : World} {m lb : Nat} {inp : ByteArray} {st : Mc} {n : Nd} {x y v : Nat} {xu yu vu : Vl} (p : DoPre w m lb inp st n x y v xu yu vu) (h4 : n.op = 42) (h2 : inK n.op yu.k = true) :
    Calls Tryz.prog 87 #[.pointer (some ⟨m, 0, none⟩), .agg #[.int .u8 n.op, .int .i64 n.x, .int .i64 n.y, .int .i64 n.v, .int .u8 n.k, .int .i64 n.t, .int .i64 n.f, .int .i64 n.a, .int .i64 n.l]] w fun e w' => e = .returned (.tuple #[]) ∧ MB w' m lb inp (doF inp n x xu yu vu st) ∧ Kp (MK m lb) w w' := by
  obtain ⟨hmb, hinp, hx, hy, hv, hxu, hyu, hvu, oy, ov, hkk, hout, htab, tm, tl⟩ := p
  obtain ⟨o, x', y', v', k, t, f, a, l⟩ := n
  dsimp only at *
  subst hx hy hv
  subst h4
  have HV := hide (show doF inp ⟨42, x, y, v, k, t, f, a, l⟩ x xu yu vu st = st by simp [doF, h2])
  have f33 : ((42 : Int) == 33) = false := by decide
  have hlt := hmb.lt
  obtain ⟨yk, yn, yv⟩ := yu
  obtain ⟨vk, vn, vv⟩ := vu
  obtain ⟨xk, xn, xv⟩ := xu
  obtain ⟨oy1, oy2, oy3⟩ := oy
  obtain ⟨ov1, ov2, ov3⟩ := ov
  dsimp only at *
  obtain ⟨yk, rfl⟩ := Int.eq_ofNat_of_zero_le oy3
  obtain ⟨vk, rfl⟩ := Int.eq_ofNat_of_zero_le ov3
  clear oy3 ov3
  have hts := takF_size 42
  have HT := hide (takes_c ⟨42, x, y, v, k, t, f, a, l⟩ (w.alloc (.cells #[.int .u8 42, .int .i64 x, .int .i64 y, .int .i64 v, .int .u8 k, .int .i64 t, .int .i64 f, .int .i64 a, .int .i64 l] 63)))
  dsimp only at HT
  have hin : amF yk (takF 42).data.toList = true := h2
  clear h2
  generalize takF 42 = T at *
  go_enter Tryz.func87, Tryz.ntmps87
  go_wp2_with fail
  refine HT.out.mono ?_
  rintro e w1 ⟨rfl, k1⟩
  go_wp2
  refine wp_gen (fun W => MB W m lb inp st ∧ Blk W w.heap.size [.int .u8 42, .int .i64 x, .int .i64 y, .int .i64 v, .int .u8 k, .int .i64 t, .int .i64 f, .int .i64 a, .int .i64 l] 63 ∧ Kp (MK m lb) w W ∧ Tab W) ⟨MB.kp (by (repeat' (first | with_reducible exact hmb | with_reducible refine MB.alloc ?_ _ | with_reducible refine MB.drew ?_ | with_reducible refine MB.n ?_ _ | ((with_reducible refine MB.other ?_ _ ?_ ?_); rotate_left; ((try dsimp only); omega); ((try dsimp only); omega))))) k1 no_elim no_elim, k1.blk (by (repeat' (first | ((with_reducible show (_ : List Value) = _); rfl) | ((with_reducible refine Blk.newAt _ _ _ ?_); first | with_reducible rfl | (simp; done)) | with_reducible refine Blk.alloc ?_ _ | with_reducible refine Blk.drewN ?_ _ | with_reducible refine Blk.drew ?_ | ((with_reducible refine Blk.other ?_ _ ?_); rotate_left; ((try dsimp only); omega)) | with_reducible refine Blk.setB (cs0 := ?_) ?_ ?_))) no_elim, Kp.trans (by (repeat' (first | with_reducible exact Kp.refl _ _ | with_reducible refine Kp.alloc ?_ _ | with_reducible refine Kp.drewN ?_ _ | with_reducible refine Kp.drew ?_ | with_reducible refine Kp.setCell ?_ _ ?_ | (intro hh; first | rfl | exact .inl rfl | exact .inr rfl | (exfalso; (try dsimp only at hh); omega))))) k1 (fun _ _ e => e.elim), (htab.kp ((Kp.refl no w).alloc _) no_elim).kp k1 no_elim⟩ ?_
  rintro W ⟨hm, hN, hk, htW⟩
  obtain ⟨d0, d1, d2, d3, d4, d5, d6, df⟩ := hm.c
  obtain ⟨hy6, y0, y1, y2⟩ := hm.vu hyu
  obtain ⟨hv6, v0, v1, v2⟩ := hm.vu hvu
  obtain ⟨hx6, x0, x1, x2⟩ := hm.vu hxu
  obtain ⟨n0, n1, n2, n3, n4, n5, n6, n7, n8, nf⟩ := hN.c9
  have hz1 := hN.lt
  obtain ⟨hz2, hz3⟩ := hm.lt
  dsimp only at y0 y1 y2 v0 v1 v2 x0 x1 x2
  go_quiet ((go_at_call 74; exact Calls.quiet_of_same (in_c _ _ _ (by omega))))
  go_wp2
  go_quiet ((go_at_call 74; exact Calls.quiet_of_same (in_c _ _ _ (by omega))))
  go_wp2
  go_end0
  rw [HV.out]
  exact ⟨rfl, hm.n _, by (repeat' (first | with_reducible exact Kp.refl _ _ | with_reducible refine Kp.alloc ?_ _ | with_reducible refine Kp.drewN ?_ _ | with_reducible refine Kp.drew ?_ | with_reducible refine Kp.setCell ?_ _ ?_ | with_reducible refine Kp.trans ?_ hk (fun _ _ e => e) | (intro hh; first | rfl | exact .inl rfl | exact .inr rfl | (exfalso; (try dsimp only at hh); omega))))⟩

set_option maxHeartbeats 6400000 in
theorem do_cast {w : World} {m lb : Nat} {inp : ByteArray} {st : Mc} {n : Nd} {x y v : Nat} {xu yu vu : Vl} (p : DoPre w m lb inp st n x y v xu yu vu) (h4 : n.op = 126) (h2 : inK n.op yu.k = true) :
    Calls Tryz.prog 87 #[.pointer (some ⟨m, 0, none⟩), .agg #[.int .u8 n.op, .int .i64 n.x, .int .i64 n.y, .int .i64 n.v, .int .u8 n.k, .int .i64 n.t, .int .i64 n.f, .int .i64 n.a, .int .i64 n.l]] w fun e w' => e = .returned (.tuple #[]) ∧ MB w' m lb inp (doF inp n x xu yu vu st) ∧ Kp (MK m lb) w w' := by
  obtain ⟨hmb, hinp, hx, hy, hv, hxu, hyu, hvu, oy, ov, hkk, hout, htab, tm, tl⟩ := p
  obtain ⟨o, x', y', v', k, t, f, a, l⟩ := n
  dsimp only at *
  subst hx hy hv
  subst h4
  have HV := hide (show doF inp ⟨126, x, y, v, k, t, f, a, l⟩ x xu yu vu st = if xu.k = k then st else { st with e := 7 } by simp [doF, h2])
  have f33 : ((126 : Int) == 33) = false := by decide
  have hlt := hmb.lt
  obtain ⟨yk, yn, yv⟩ := yu
  obtain ⟨vk, vn, vv⟩ := vu
  obtain ⟨xk, xn, xv⟩ := xu
  obtain ⟨oy1, oy2, oy3⟩ := oy
  obtain ⟨ov1, ov2, ov3⟩ := ov
  dsimp only at *
  obtain ⟨yk, rfl⟩ := Int.eq_ofNat_of_zero_le oy3
  obtain ⟨vk, rfl⟩ := Int.eq_ofNat_of_zero_le ov3
  clear oy3 ov3
  have hts := takF_size 126
  have HT := hide (takes_c ⟨126, x, y, v, k, t, f, a, l⟩ (w.alloc (.cells #[.int .u8 126, .int .i64 x, .int .i64 y, .int .i64 v, .int .u8 k, .int .i64 t, .int .i64 f, .int .i64 a, .int .i64 l] 63)))
  dsimp only at HT
  have hin : amF yk (takF 126).data.toList = true := h2
  clear h2
  generalize takF 126 = T at *
  go_enter Tryz.func87, Tryz.ntmps87
  go_wp2_with fail
  refine HT.out.mono ?_
  rintro e w1 ⟨rfl, k1⟩
  go_wp2
  refine wp_gen (fun W => MB W m lb inp st ∧ Blk W w.heap.size [.int .u8 126, .int .i64 x, .int .i64 y, .int .i64 v, .int .u8 k, .int .i64 t, .int .i64 f, .int .i64 a, .int .i64 l] 63 ∧ Kp (MK m lb) w W ∧ Tab W) ⟨MB.kp (by (repeat' (first | with_reducible exact hmb | with_reducible refine MB.alloc ?_ _ | with_reducible refine MB.drew ?_ | with_reducible refine MB.n ?_ _ | ((with_reducible refine MB.other ?_ _ ?_ ?_); rotate_left; ((try dsimp only); omega); ((try dsimp only); omega))))) k1 no_elim no_elim, k1.blk (by (repeat' (first | ((with_reducible show (_ : List Value) = _); rfl) | ((with_reducible refine Blk.newAt _ _ _ ?_); first | with_reducible rfl | (simp; done)) | with_reducible refine Blk.alloc ?_ _ | with_reducible refine Blk.drewN ?_ _ | with_reducible refine Blk.drew ?_ | ((with_reducible refine Blk.other ?_ _ ?_); rotate_left; ((try dsimp only); omega)) | with_reducible refine Blk.setB (cs0 := ?_) ?_ ?_))) no_elim, Kp.trans (by (repeat' (first | with_reducible exact Kp.refl _ _ | with_reducible refine Kp.alloc ?_ _ | with_reducible refine Kp.drewN ?_ _ | with_reducible refine Kp.drew ?_ | with_reducible refine Kp.setCell ?_ _ ?_ | (intro hh; first | rfl | exact .inl rfl | exact .inr rfl | (exfalso; (try dsimp only at hh); omega))))) k1 (fun _ _ e => e.elim), (htab.kp ((Kp.refl no w).alloc _) no_elim).kp k1 no_elim⟩ ?_
  rintro W ⟨hm, hN, hk, htW⟩
  obtain ⟨d0, d1, d2, d3, d4, d5, d6, df⟩ := hm.c
  obtain ⟨hy6, y0, y1, y2⟩ := hm.vu hyu
  obtain ⟨hv6, v0, v1, v2⟩ := hm.vu hvu
  obtain ⟨hx6, x0, x1, x2⟩ := hm.vu hxu
  obtain ⟨n0, n1, n2, n3, n4, n5, n6, n7, n8, nf⟩ := hN.c9
  have hz1 := hN.lt
  obtain ⟨hz2, hz3⟩ := hm.lt
  dsimp only at y0 y1 y2 v0 v1 v2 x0 x1 x2
  go_quiet ((go_at_call 74; exact Calls.quiet_of_same (in_c _ _ _ (by omega))))
  go_wp2
  refine wp_gen (fun W' => MB W' m lb inp st ∧ Blk W' w.heap.size [.int .u8 126, .int .i64 x, .int .i64 y, .int .i64 v, .int .u8 k, .int .i64 t, .int .i64 f, .int .i64 a, .int .i64 l] 63 ∧ Kp (MK m lb) w W' ∧ Tab W') ⟨hm.n _, hN, hk.drewN _, htW⟩ ?_
  clear d0 d1 d2 d3 d4 d5 d6 df y0 y1 y2 v0 v1 v2 x0 x1 x2 n0 n1 n2 n3 n4 n5 n6 n7 n8 nf hz1 hz2 hz3 hm hN hk htW
  rintro W2 ⟨hm, hN, hk, htW⟩
  obtain ⟨d0, d1, d2, d3, d4, d5, d6, df⟩ := hm.c
  obtain ⟨hy6, y0, y1, y2⟩ := hm.vu hyu
  obtain ⟨hv6, v0, v1, v2⟩ := hm.vu hvu
  obtain ⟨hx6, x0, x1, x2⟩ := hm.vu hxu
  obtain ⟨n0, n1, n2, n3, n4, n5, n6, n7, n8, nf⟩ := hN.c9
  have hz1 := hN.lt
  obtain ⟨hz2, hz3⟩ := hm.lt
  dsimp only at y0 y1 y2 v0 v1 v2 x0 x1 x2
  go_quiet ((go_at_call 74; exact Calls.quiet_of_same (in_c _ _ _ (by omega))))
  go_wp2
  refine wp_gen (fun W' => MB W' m lb inp st ∧ Blk W' w.heap.size [.int .u8 126, .int .i64 x, .int .i64 y, .int .i64 v, .int .u8 k, .int .i64 t, .int .i64 f, .int .i64 a, .int .i64 l] 63 ∧ Kp (MK m lb) w W' ∧ Tab W') ⟨hm.n _, hN, hk.drewN _, htW⟩ ?_
  clear d0 d1 d2 d3 d4 d5 d6 df y0 y1 y2 v0 v1 v2 x0 x1 x2 n0 n1 n2 n3 n4 n5 n6 n7 n8 nf hz1 hz2 hz3 hm hN hk htW
  rintro W3 ⟨hm, hN, hk, htW⟩
  obtain ⟨d0, d1, d2, d3, d4, d5, d6, df⟩ := hm.c
  obtain ⟨hy6, y0, y1, y2⟩ := hm.vu hyu
  obtain ⟨hv6, v0, v1, v2⟩ := hm.vu hvu
  obtain ⟨hx6, x0, x1, x2⟩ := hm.vu hxu
  obtain ⟨n0, n1, n2, n3, n4, n5, n6, n7, n8, nf⟩ := hN.c9
  have hz1 := hN.lt
  obtain ⟨hz2, hz3⟩ := hm.lt
  dsimp only at y0 y1 y2 v0 v1 v2 x0 x1 x2
  by_cases hq : xk = k
  · subst hq
    go_quiet (fail)
    go_wp2
    go_end0
    rw [HV.out, if_pos trivial]
    exact ⟨rfl, hm.n _, by (repeat' (first | with_reducible exact Kp.refl _ _ | with_reducible refine Kp.alloc ?_ _ | with_reducible refine Kp.drewN ?_ _ | with_reducible refine Kp.drew ?_ | with_reducible refine Kp.setCell ?_ _ ?_ | with_reducible refine Kp.trans ?_ hk (fun _ _ e => e) | (intro hh; first | rfl | exact .inl rfl | exact .inr rfl | (exfalso; (try dsimp only at hh); omega))))⟩
  · have hq' : (xk == k) = false := by simp [hq]
    have hq'' : (xk != k) = true := by simp [hq]
    have HQ := hide hq
    clear hq
    go_quiet (fail)
    go_wp2
    go_end0
    rw [HV.out, if_neg HQ.out]
    exact ⟨rfl, (hm.n _).setE 7, by (repeat' (first | with_reducible exact Kp.refl _ _ | with_reducible refine Kp.alloc ?_ _ | with_reducible refine Kp.drewN ?_ _ | with_reducible refine Kp.drew ?_ | with_reducible refine Kp.setCell ?_ _ ?_ | with_reducible refine Kp.trans ?_ hk (fun _ _ e => e) | (intro hh; first | rfl | exact .inl rfl | exact .inr rfl | (exfalso; (try dsimp only at hh); omega))))⟩

theorem spell_size (v : Vl) (h : VOk v) : (spellF v).size ≤ 200 := by
  have h1 := itoa_size v.n h.1 (by have := h.2.1; omega)
  unfold spellF
  repeat' split
  · omega
  · rw [ByteArray.size_append]; show 1 + _ ≤ _; omega
  · rw [ByteArray.size_append, capF_size]; show 1 + _ ≤ _; omega
  · rw [capF_size]; omega

set_option maxHeartbeats 6400000 in
theorem do_put {w : World} {m lb : Nat} {inp : ByteArray} {st : Mc} {n : Nd} {x y v : Nat} {xu yu vu : Vl} (p : DoPre w m lb inp st n x y v xu yu vu) (h4 : n.op = 94) (h2 : inK n.op yu.k = true) :
    Calls Tryz.prog 87 #[.pointer (some ⟨m, 0, none⟩), .agg #[.int .u8 n.op, .int .i64 n.x, .int .i64 n.y, .int .i64 n.v, .int .u8 n.k, .int .i64 n.t, .int .i64 n.f, .int .i64 n.a, .int .i64 n.l]] w fun e w' => e = .returned (.tuple #[]) ∧ MB w' m lb inp (doF inp n x xu yu vu st) ∧ Kp (MK m lb) w w' := by
  obtain ⟨hmb, hinp, hx, hy, hv, hxu, hyu, hvu, oy, ov, hkk, hout, htab, tm, tl⟩ := p
  obtain ⟨o, x', y', v', k, t, f, a, l⟩ := n
  dsimp only at *
  subst hx hy hv
  subst h4
  have HV := hide (show doF inp ⟨94, x, y, v, k, t, f, a, l⟩ x xu yu vu st = { st with out := st.out ++ spellF yu ++ sp } by simp [doF, h2])
  have hss := spell_size yu oy
  have HS := hide (fun W (hW : Tab W) => spelled_c yu oy.1 (by have := oy.2.1; omega) W hW)
  generalize spellF yu = S at *
  have f33 : ((94 : Int) == 33) = false := by decide
  have hlt := hmb.lt
  obtain ⟨yk, yn, yv⟩ := yu
  obtain ⟨vk, vn, vv⟩ := vu
  obtain ⟨xk, xn, xv⟩ := xu
  obtain ⟨oy1, oy2, oy3⟩ := oy
  obtain ⟨ov1, ov2, ov3⟩ := ov
  dsimp only at *
  obtain ⟨yk, rfl⟩ := Int.eq_ofNat_of_zero_le oy3
  obtain ⟨vk, rfl⟩ := Int.eq_ofNat_of_zero_le ov3
  clear oy3 ov3
  have hts := takF_size 94
  have HT := hide (takes_c ⟨94, x, y, v, k, t, f, a, l⟩ (w.alloc (.cells #[.int .u8 94, .int .i64 x, .int .i64 y, .int .i64 v, .int .u8 k, .int .i64 t, .int .i64 f, .int .i64 a, .int .i64 l] 63)))
  dsimp only at HT
  have hin : amF yk (takF 94).data.toList = true := h2
  clear h2
  have hsp : (ByteArray.mk #[32]).size = 1 := rfl
  generalize takF 94 = T at *
  go_enter Tryz.func87, Tryz.ntmps87
  go_wp2_with fail
  refine HT.out.mono ?_
  rintro e w1 ⟨rfl, k1⟩
  go_wp2
  refine wp_gen (fun W => MB W m lb inp st ∧ Blk W w.heap.size [.int .u8 94, .int .i64 x, .int .i64 y, .int .i64 v, .int .u8 k, .int .i64 t, .int .i64 f, .int .i64 a, .int .i64 l] 63 ∧ Kp (MK m lb) w W ∧ Tab W) ⟨MB.kp (by (repeat' (first | with_reducible exact hmb | with_reducible refine MB.alloc ?_ _ | with_reducible refine MB.drew ?_ | with_reducible refine MB.n ?_ _ | ((with_reducible refine MB.other ?_ _ ?_ ?_); rotate_left; ((try dsimp only); omega); ((try dsimp only); omega))))) k1 no_elim no_elim, k1.blk (by (repeat' (first | ((with_reducible show (_ : List Value) = _); rfl) | ((with_reducible refine Blk.newAt _ _ _ ?_); first | with_reducible rfl | (simp; done)) | with_reducible refine Blk.alloc ?_ _ | with_reducible refine Blk.drewN ?_ _ | with_reducible refine Blk.drew ?_ | ((with_reducible refine Blk.other ?_ _ ?_); rotate_left; ((try dsimp only); omega)) | with_reducible refine Blk.setB (cs0 := ?_) ?_ ?_))) no_elim, Kp.trans (by (repeat' (first | with_reducible exact Kp.refl _ _ | with_reducible refine Kp.alloc ?_ _ | with_reducible refine Kp.drewN ?_ _ | with_reducible refine Kp.drew ?_ | with_reducible refine Kp.setCell ?_ _ ?_ | (intro hh; first | rfl | exact .inl rfl | exact .inr rfl | (exfalso; (try dsimp only at hh); omega))))) k1 (fun _ _ e => e.elim), (htab.kp ((Kp.refl no w).alloc _) no_elim).kp k1 no_elim⟩ ?_
  rintro W ⟨hm, hN, hk, htW⟩
  obtain ⟨d0, d1, d2, d3, d4, d5, d6, df⟩ := hm.c
  obtain ⟨hy6, y0, y1, y2⟩ := hm.vu hyu
  obtain ⟨hv6, v0, v1, v2⟩ := hm.vu hvu
  obtain ⟨hx6, x0, x1, x2⟩ := hm.vu hxu
  obtain ⟨n0, n1, n2, n3, n4, n5, n6, n7, n8, nf⟩ := hN.c9
  have hz1 := hN.lt
  obtain ⟨hz2, hz3⟩ := hm.lt
  dsimp only at y0 y1 y2 v0 v1 v2 x0 x1 x2
  go_quiet ((go_at_call 74; exact Calls.quiet_of_same (in_c _ _ _ (by omega))))
  go_wp2
  refine wp_gen (fun W' => MB W' m lb inp st ∧ Blk W' w.heap.size [.int .u8 94, .int .i64 x, .int .i64 y, .int .i64 v, .int .u8 k, .int .i64 t, .int .i64 f, .int .i64 a, .int .i64 l] 63 ∧ Kp (MK m lb) w W' ∧ Tab W') ⟨hm.n _, hN, hk.drewN _, htW⟩ ?_
  clear d0 d1 d2 d3 d4 d5 d6 df y0 y1 y2 v0 v1 v2 x0 x1 x2 n0 n1 n2 n3 n4 n5 n6 n7 n8 nf hz1 hz2 hz3 hm hN hk htW
  rintro W2 ⟨hm, hN, hk, htW⟩
  obtain ⟨d0, d1, d2, d3, d4, d5, d6, df⟩ := hm.c
  obtain ⟨hy6, y0, y1, y2⟩ := hm.vu hyu
  obtain ⟨hv6, v0, v1, v2⟩ := hm.vu hvu
  obtain ⟨hx6, x0, x1, x2⟩ := hm.vu hxu
  obtain ⟨n0, n1, n2, n3, n4, n5, n6, n7, n8, nf⟩ := hN.c9
  have hz1 := hN.lt
  obtain ⟨hz2, hz3⟩ := hm.lt
  dsimp only at y0 y1 y2 v0 v1 v2 x0 x1 x2
  go_quiet ((go_at_call 74; exact Calls.quiet_of_same (in_c _ _ _ (by omega))))
  go_wp2
  refine wp_gen (fun W' => MB W' m lb inp st ∧ Blk W' w.heap.size [.int .u8 94, .int .i64 x, .int .i64 y, .int .i64 v, .int .u8 k, .int .i64 t, .int .i64 f, .int .i64 a, .int .i64 l] 63 ∧ Kp (MK m lb) w W' ∧ Tab W') ⟨hm.n _, hN, hk.drewN _, htW⟩ ?_
  clear d0 d1 d2 d3 d4 d5 d6 df y0 y1 y2 v0 v1 v2 x0 x1 x2 n0 n1 n2 n3 n4 n5 n6 n7 n8 nf hz1 hz2 hz3 hm hN hk htW
  rintro W3 ⟨hm, hN, hk, htW⟩
  obtain ⟨d0, d1, d2, d3, d4, d5, d6, df⟩ := hm.c
  obtain ⟨hy6, y0, y1, y2⟩ := hm.vu hyu
  obtain ⟨hv6, v0, v1, v2⟩ := hm.vu hvu
  obtain ⟨hx6, x0, x1, x2⟩ := hm.vu hxu
  obtain ⟨n0, n1, n2, n3, n4, n5, n6, n7, n8, nf⟩ := hN.c9
  have hz1 := hN.lt
  obtain ⟨hz2, hz3⟩ := hm.lt
  dsimp only at y0 y1 y2 v0 v1 v2 x0 x1 x2
  go_region_with (go_at_call 131; refine (HS.out _ (by exact htW)).mono ?_; rintro e w2 ⟨rfl, k2⟩)
  all_goals
    have h2 : MB w2 m lb inp st := MB.kp hm.drew k2 no_elim no_elim
    obtain ⟨e0, e1, e2, e3, e4, e5, e6, ef⟩ := h2.c
    go_wp2
    go_end0
    rw [HV.out]
    exact ⟨rfl, h2.setOut _, ((hk.drew).trans k2 (fun _ _ e => e.elim)).setCell _ (fun _ => .inl rfl)⟩

theorem vset : ∀ (l : List Vl) (x : Nat) (u : Vl), x < l.length → (((vCells l).set (x * 3) (.int .u8 u.k)).set (x * 3 + 1) (.int .i64 u.n)).set (x * 3 + 2) (.int .u8 u.v) = vCells (l.set x u) := by
  intro l x u hx
  have a1 := flat_set Vl.cells 3 vl3 (fun z => { z with k := u.k }) 0 (.int .u8 u.k) (by decide) (fun z => rfl) l x hx
  have a2 := flat_set Vl.cells 3 vl3 (fun z => { z with n := u.n }) 1 (.int .i64 u.n) (by decide) (fun z => rfl) (l.modify x (fun z => { z with k := u.k })) x (by simpa using hx)
  have a3 := flat_set Vl.cells 3 vl3 (fun z => { z with v := u.v }) 2 (.int .u8 u.v) (by decide) (fun z => rfl) ((l.modify x (fun z => { z with k := u.k })).modify x (fun z => { z with n := u.n })) x (by simpa using hx)
  simp only [Nat.add_zero] at a1
  simp only [vCells]
  rw [a1, a2, a3]
  congr 1
  apply List.ext_getElem
  · simp
  · intro i h1 h2
    simp only [List.getElem_modify, List.getElem_set]
    split
    · rfl
    · rfl

theorem MB.setV {w : World} {m lb : Nat} {inp : ByteArray} {st : Mc} (h : MB w m lb inp st) (x : Nat) (u : Vl) (hx : x < 6) :
    MB (((w.setCell ⟨lb, x * 3, none⟩ (.int .u8 u.k)).setCell ⟨lb, x * 3 + 1, none⟩ (.int .i64 u.n)).setCell ⟨lb, x * 3 + 2, none⟩ (.int .u8 u.v)) m lb inp (putL st x u) := by
  have h6 := h.six
  refine ⟨((h.b.other _ h.ne).other _ h.ne).other _ h.ne, ?_, h.ne, by simpa [putL] using h6⟩
  have := ((h.l.set (x * 3) (.int .u8 u.k)).set (x * 3 + 1) (.int .i64 u.n)).set (x * 3 + 2) (.int .u8 u.v)
  rw [vset st.l x u (by omega)] at this
  exact this

end Go.Proofs.YtellieabhaphhaaGreatDoor

/-
  narrowref's machine: a node that sets a variable.
-/
namespace Go.Proofs.YtellieabhaphhaaGreatDoor
open Go.RowKit

set_option maxHeartbeats 6400000 in
theorem do_set {w : World} {m lb : Nat} {inp : ByteArray} {st : Mc} {n : Nd} {x y v : Nat} {xu yu vu : Vl} (p : DoPre w m lb inp st n x y v xu yu vu) (h1 : n.op ≠ 33) (h2 : inK n.op yu.k = true) (h3 : ¬ ((n.op = 43 ∨ n.op = 60) ∧ inK n.op vu.k = false)) (h4 : n.op ≠ 42) (h5 : n.op ≠ 94) (h6 : n.op ≠ 126) :
    Calls Tryz.prog 87 #[.pointer (some ⟨m, 0, none⟩), .agg #[.int .u8 n.op, .int .i64 n.x, .int .i64 n.y, .int .i64 n.v, .int .u8 n.k, .int .i64 n.t, .int .i64 n.f, .int .i64 n.a, .int .i64 n.l]] w fun e w' => e = .returned (.tuple #[]) ∧ MB w' m lb inp (doF inp n x xu yu vu st) ∧ Kp (MK m lb) w w' := by
  obtain ⟨hmb, hinp, hx, hy, hv, hxu, hyu, hvu, oy, ov, hkk, hout, htab, tm, tl⟩ := p
  obtain ⟨o, x', y', v', k, t, f, a, l⟩ := n
  dsimp only at *
  subst hx hy hv
  have HV := hide (show doF inp ⟨o, x, y, v, k, t, f, a, l⟩ x xu yu vu st = putL (worF inp ⟨o, x, y, v, k, t, f, a, l⟩ yu vu st).2 x (worF inp ⟨o, x, y, v, k, t, f, a, l⟩ yu vu st).1 by
    unfold doF
    rw [if_neg h1, if_neg (by simp [h2]), if_neg h3, if_neg h4, if_neg h5, if_neg h6])
  have HW := hide (fun W (hW : MB W m lb inp st) => worth_c (w := W) ⟨o, x, y, v, k, t, f, a, l⟩ y v yu vu hW hinp rfl rfl hyu hvu oy ov hkk)
  clear hkk
  have f42 : (o == 42) = false := by simp [h4]
  have f94 : (o == 94) = false := by simp [h5]
  have f126 : (o == 126) = false := by simp [h6]
  clear h4 h5 h6
  have h3' : (o = 43 ∧ inK o vu.k = true) ∨ (o = 60 ∧ inK o vu.k = true) ∨ ((o == 43) = false ∧ (o == 60) = false) := by
    by_cases q1 : o = 43
    · exact .inl ⟨q1, by cases hq : inK o vu.k; exact absurd ⟨.inl q1, hq⟩ h3; rfl⟩
    by_cases q2 : o = 60
    · exact .inr (.inl ⟨q2, by cases hq : inK o vu.k; exact absurd ⟨.inr q2, hq⟩ h3; rfl⟩)
    · exact .inr (.inr ⟨by simp [q1], by simp [q2]⟩)
  generalize worF inp ⟨o, x, y, v, k, t, f, a, l⟩ yu vu st = R at *
  obtain ⟨⟨rk, rn, rv⟩, st'⟩ := R
  have f33 : (o == 33) = false := by simp [h1]
  clear h1
  have hlt := hmb.lt
  obtain ⟨yk, yn, yv⟩ := yu
  obtain ⟨vk, vn, vv⟩ := vu
  obtain ⟨xk, xn, xv⟩ := xu
  obtain ⟨oy1, oy2, oy3⟩ := oy
  obtain ⟨ov1, ov2, ov3⟩ := ov
  dsimp only at *
  obtain ⟨yk, rfl⟩ := Int.eq_ofNat_of_zero_le oy3
  obtain ⟨vk, rfl⟩ := Int.eq_ofNat_of_zero_le ov3
  clear oy3 ov3
  have hts := takF_size o
  have HT := hide (takes_c ⟨o, x, y, v, k, t, f, a, l⟩ (w.alloc (.cells #[.int .u8 o, .int .i64 x, .int .i64 y, .int .i64 v, .int .u8 k, .int .i64 t, .int .i64 f, .int .i64 a, .int .i64 l] 63)))
  dsimp only at HT
  have hin : amF yk (takF o).data.toList = true := h2
  have h3'' : (o = 43 ∧ amF vk (takF o).data.toList = true) ∨ (o = 60 ∧ amF vk (takF o).data.toList = true) ∨ ((o == 43) = false ∧ (o == 60) = false) := h3'
  clear h2 h3 h3'
  generalize takF o = T at *
  go_enter Tryz.func87, Tryz.ntmps87
  go_wp2_with fail
  refine HT.out.mono ?_
  rintro e w1 ⟨rfl, k1⟩
  go_wp2
  refine wp_gen (fun W => MB W m lb inp st ∧ Blk W w.heap.size [.int .u8 o, .int .i64 x, .int .i64 y, .int .i64 v, .int .u8 k, .int .i64 t, .int .i64 f, .int .i64 a, .int .i64 l] 63 ∧ Kp (MK m lb) w W ∧ Tab W) ⟨MB.kp (by (repeat' (first | with_reducible exact hmb | with_reducible refine MB.alloc ?_ _ | with_reducible refine MB.drew ?_ | with_reducible refine MB.n ?_ _ | ((with_reducible refine MB.other ?_ _ ?_ ?_); rotate_left; ((try dsimp only); omega); ((try dsimp only); omega))))) k1 no_elim no_elim, k1.blk (by (repeat' (first | ((with_reducible show (_ : List Value) = _); rfl) | ((with_reducible refine Blk.newAt _ _ _ ?_); first | with_reducible rfl | (simp; done)) | with_reducible refine Blk.alloc ?_ _ | with_reducible refine Blk.drewN ?_ _ | with_reducible refine Blk.drew ?_ | ((with_reducible refine Blk.other ?_ _ ?_); rotate_left; ((try dsimp only); omega)) | with_reducible refine Blk.setB (cs0 := ?_) ?_ ?_))) no_elim, Kp.trans (by (repeat' (first | with_reducible exact Kp.refl _ _ | with_reducible refine Kp.alloc ?_ _ | with_reducible refine Kp.drewN ?_ _ | with_reducible refine Kp.drew ?_ | with_reducible refine Kp.setCell ?_ _ ?_ | (intro hh; first | rfl | exact .inl rfl | exact .inr rfl | (exfalso; (try dsimp only at hh); omega))))) k1 (fun _ _ e => e.elim), (htab.kp ((Kp.refl no w).alloc _) no_elim).kp k1 no_elim⟩ ?_
  rintro W ⟨hm, hN, hk, htW⟩
  obtain ⟨d0, d1, d2, d3, d4, d5, d6, df⟩ := hm.c
  obtain ⟨hy6, y0, y1, y2⟩ := hm.vu hyu
  obtain ⟨hv6, v0, v1, v2⟩ := hm.vu hvu
  obtain ⟨hx6, x0, x1, x2⟩ := hm.vu hxu
  obtain ⟨n0, n1, n2, n3, n4, n5, n6, n7, n8, nf⟩ := hN.c9
  have hz1 := hN.lt
  obtain ⟨hz2, hz3⟩ := hm.lt
  dsimp only at y0 y1 y2 v0 v1 v2 x0 x1 x2
  go_quiet ((go_at_call 74; exact Calls.quiet_of_same (in_c _ _ _ (by omega))))
  go_wp2
  refine wp_gen (fun W' => MB W' m lb inp st ∧ Blk W' w.heap.size [.int .u8 o, .int .i64 x, .int .i64 y, .int .i64 v, .int .u8 k, .int .i64 t, .int .i64 f, .int .i64 a, .int .i64 l] 63 ∧ Kp (MK m lb) w W' ∧ Tab W') ⟨hm.n _, hN, hk.drewN _, htW⟩ ?_
  clear d0 d1 d2 d3 d4 d5 d6 df y0 y1 y2 v0 v1 v2 x0 x1 x2 n0 n1 n2 n3 n4 n5 n6 n7 n8 nf hz1 hz2 hz3 hm hN hk htW
  rintro W2 ⟨hm, hN, hk, htW⟩
  obtain ⟨d0, d1, d2, d3, d4, d5, d6, df⟩ := hm.c
  obtain ⟨hy6, y0, y1, y2⟩ := hm.vu hyu
  obtain ⟨hv6, v0, v1, v2⟩ := hm.vu hvu
  obtain ⟨hx6, x0, x1, x2⟩ := hm.vu hxu
  obtain ⟨n0, n1, n2, n3, n4, n5, n6, n7, n8, nf⟩ := hN.c9
  have hz1 := hN.lt
  obtain ⟨hz2, hz3⟩ := hm.lt
  dsimp only at y0 y1 y2 v0 v1 v2 x0 x1 x2
  rcases h3'' with ⟨rfl, hq⟩ | ⟨rfl, hq⟩ | ⟨hq, hq2⟩
  all_goals
    go_quiet ((go_at_call 74; exact Calls.quiet_of_same (in_c _ _ _ (by omega))))
    go_wp2_with fail
    refine (HW.out _ (hm.n _)).mono ?_
    rintro e w2 ⟨rfl, h2, k2⟩
    have hN2 : Blk w2 w.heap.size [.int .u8 _, .int .i64 x, .int .i64 y, .int .i64 v, .int .u8 k, .int .i64 t, .int .i64 f, .int .i64 a, .int .i64 l] 63 := k2.blk hN (by rintro (e | e) <;> omega)
    simp only [Vl.cells]
    go_wp2
    refine wp_gen (fun W' => MB W' m lb inp st' ∧ Blk W' w.heap.size [.int .u8 _, .int .i64 x, .int .i64 y, .int .i64 v, .int .u8 k, .int .i64 t, .int .i64 f, .int .i64 a, .int .i64 l] 63 ∧ Blk W' w2.heap.size [.int .u8 rk, .int .i64 rn, .int .u8 rv] 163 ∧ Kp (MK m lb) w W') ⟨by (repeat' (first | with_reducible exact h2 | with_reducible refine MB.alloc ?_ _ | with_reducible refine MB.drew ?_ | with_reducible refine MB.n ?_ _ | ((with_reducible refine MB.other ?_ _ ?_ ?_); rotate_left; ((try dsimp only); omega); ((try dsimp only); omega)))), by (repeat' (first | ((with_reducible show (_ : List Value) = _); rfl) | with_reducible exact hN2 | ((with_reducible refine Blk.newAt _ _ _ ?_); first | with_reducible rfl | (simp; done)) | with_reducible refine Blk.alloc ?_ _ | with_reducible refine Blk.drewN ?_ _ | with_reducible refine Blk.drew ?_ | ((with_reducible refine Blk.other ?_ _ ?_); rotate_left; ((try dsimp only); omega)) | with_reducible refine Blk.setB (cs0 := ?_) ?_ ?_)), by (repeat' (first | ((with_reducible show (_ : List Value) = _); rfl) | ((with_reducible refine Blk.newAt _ _ _ ?_); first | with_reducible rfl | (simp; done)) | with_reducible refine Blk.alloc ?_ _ | with_reducible refine Blk.drewN ?_ _ | with_reducible refine Blk.drew ?_ | ((with_reducible refine Blk.other ?_ _ ?_); rotate_left; ((try dsimp only); omega)) | with_reducible refine Blk.setB (cs0 := ?_) ?_ ?_)), by (repeat' (first | with_reducible exact Kp.refl _ _ | with_reducible refine Kp.alloc ?_ _ | with_reducible refine Kp.drewN ?_ _ | with_reducible refine Kp.drew ?_ | with_reducible refine Kp.setCell ?_ _ ?_ | with_reducible refine Kp.trans ?_ hk (fun _ _ e => e) | with_reducible refine Kp.trans ?_ k2 (fun _ _ e => e) | (intro hh; first | rfl | exact .inl rfl | exact .inr rfl | (exfalso; (try dsimp only at hh); omega))))⟩ ?_
    rintro W4 ⟨hm4, hN4, hu4, hk4⟩
    obtain ⟨a0, _, _, _, _, _, _, af⟩ := hm4.c
    obtain ⟨_, b1, _, _, _, _, _, _, _, bf⟩ := hN4.c9
    obtain ⟨u0, u1, u2, uf⟩ := hu4.c3
    obtain ⟨g0, g1, g2⟩ := hm4.vs x (by have := hm4.six; omega)
    have gf := hm4.l.frozen
    have g6 := hm4.six
    go_region
    all_goals
      go_wp2
      go_end0
      rw [HV.out]
      refine ⟨rfl, (hm4.setV x ⟨rk, rn, rv⟩ hx6).drew, by (repeat' (first | with_reducible exact Kp.refl _ _ | with_reducible refine Kp.alloc ?_ _ | with_reducible refine Kp.drewN ?_ _ | with_reducible refine Kp.drew ?_ | with_reducible refine Kp.setCell ?_ _ ?_ | with_reducible refine Kp.trans ?_ hk4 (fun _ _ e => e) | (intro hh; first | rfl | exact .inl rfl | exact .inr rfl | (exfalso; (try dsimp only at hh); omega))))⟩

theorem do_c {w : World} {m lb : Nat} {inp : ByteArray} {st : Mc} {n : Nd} {x y v : Nat} {xu yu vu : Vl} (p : DoPre w m lb inp st n x y v xu yu vu) :
    Calls Tryz.prog 87 #[.pointer (some ⟨m, 0, none⟩), .agg #[.int .u8 n.op, .int .i64 n.x, .int .i64 n.y, .int .i64 n.v, .int .u8 n.k, .int .i64 n.t, .int .i64 n.f, .int .i64 n.a, .int .i64 n.l]] w fun e w' => e = .returned (.tuple #[]) ∧ MB w' m lb inp (doF inp n x xu yu vu st) ∧ Kp (MK m lb) w w' := by
  by_cases h1 : n.op = 33
  · exact do_never p h1
  cases h2 : inK n.op yu.k
  · exact do_kind1 p h1 h2
  by_cases h3 : (n.op = 43 ∨ n.op = 60) ∧ inK n.op vu.k = false
  · rcases h3.1 with q | q
    · exact do_kind2_43 p q h2 h3.2
    · exact do_kind2_60 p q h2 h3.2
  by_cases h4 : n.op = 42
  · exact do_same p h4 h2
  by_cases h5 : n.op = 94
  · exact do_put p h5 h2
  by_cases h6 : n.op = 126
  · exact do_cast p h6 h2
  · exact do_set p h1 h2 h3 h4 h5 h6
end Go.Proofs.YtellieabhaphhaaGreatDoor

/-
  narrowref's machine, as functions: conditions, loops, blocks.
-/
namespace Go.Proofs.YtellieabhaphhaaGreatDoor
open Go.RowKit

/-- A condition at piece i. -/
def decF : Nat → List It → List Nd → Mc → Nat → Option (Mc × Bool)
  | 0, _, _, _, _ => none
  | f + 1, IT, ND, m, i =>
    match IT[i]? with
    | none => none
    | some it =>
      if it.k = 99 then
        (if 0 ≤ it.n ∧ it.n < 100 then
          match ND[it.n.toNat]? with
          | none => none
          | some nd =>
            match m.l[nd.y.toNat]? with
            | none => none
            | some u => if (startF m it.n.toNat).2 then some ((startF m it.n.toNat).1, holdF nd u) else some ((startF m it.n.toNat).1, false)
        else none)
      else
        match decF f IT ND m (i + 1) with
        | none => none
        | some (m1, a) =>
          if m1.e ≠ 8 then some (m1, false)
          else if it.k = 33 then some (m1, !a)
          else if (it.k == 38) != a then some (m1, a)
          else
            match IT[i + 1]? with
            | none => none
            | some it1 => if 0 ≤ it1.en ∧ it1.en ≤ 1000 then decF f IT ND m1 it1.en.toNat else none

/-- A step at a node that is no test. -/
def stepF (inp : ByteArray) (ND : List Nd) (m : Mc) (it : It) : Option Mc :=
  if 0 ≤ it.n ∧ it.n < 100 then
    match ND[it.n.toNat]? with
    | none => none
    | some nd =>
      match m.l[nd.x.toNat]?, m.l[nd.y.toNat]?, m.l[nd.v.toNat]? with
      | some xu, some yu, some vu => if (startF m it.n.toNat).2 then some (doF inp nd nd.x.toNat xu yu vu (startF m it.n.toNat).1) else some (startF m it.n.toNat).1
      | _, _, _ => none
  else none

/-- true: the while at piece i; false: the pieces from i up to en. -/
def exR : Nat → List It → List Nd → ByteArray → Mc → Bool → Nat → Nat → Option (Mc × Nat)
  | 0, _, _, _, _, _, _, _ => none
  | f + 1, IT, ND, inp, m, true, i, _ =>
    if m.e ≠ 8 then some (m, 0)
    else
      match decF f IT ND m (i + 1) with
      | none => none
      | some (m1, c) =>
        if m1.e ≠ 8 ∨ c = false then some (m1, 0)
        else
          match IT[i + 1]?, IT[i]? with
          | some a, some b =>
            if 0 ≤ a.en ∧ a.en ≤ 1000 ∧ 0 ≤ b.en ∧ b.en ≤ 1000 then
              match exR f IT ND inp m1 false a.en.toNat b.en.toNat with
              | none => none
              | some (m2, w) => if w = 1 then some (m2, 0) else exR f IT ND inp m2 true i 0
            else none
          | _, _ => none
  | f + 1, IT, ND, inp, m, false, i, en =>
    if i < en ∧ m.e = 8 then
      match IT[i]? with
      | none => none
      | some it =>
        if 0 ≤ it.en ∧ it.en ≤ 1000 then
          (if it.k = 115 then
            match stepF inp ND m it with
            | none => none
            | some m1 => exR f IT ND inp m1 false it.en.toNat en
          else if it.k = 62 then some (m, 1)
          else if it.k = 60 then some (m, 2)
          else if it.k = 119 then
            match exR f IT ND inp m true i 0 with
            | none => none
            | some (m1, _) => exR f IT ND inp m1 false it.en.toNat en
          else if it.k = 105 then
            match decF f IT ND m (i + 1) with
            | none => none
            | some (m1, c) =>
              if m1.e ≠ 8 then exR f IT ND inp m1 false it.en.toNat en
              else
                match IT[i + 1]? with
                | none => none
                | some it1 =>
                  if 0 ≤ it1.en ∧ it1.en ≤ 1000 ∧ 0 ≤ it.els ∧ it.els ≤ 1000 then
                    match exR f IT ND inp m1 false (if c then it1.en.toNat else it.els.toNat) (if c then it.els.toNat else it.en.toNat) with
                    | none => none
                    | some (m2, w) => if w ≠ 0 then some (m2, w) else exR f IT ND inp m2 false it.en.toNat en
                  else none
          else exR f IT ND inp m false it.en.toNat en)
        else none
    else some (m, 0)

/-- A machine within bounds. -/
structure MOk (m : Mc) : Prop where
  left : m.left ≤ 300
  tr : m.tr.size + 9 * m.left ≤ 2700
  out : m.out.size + 300 * m.left ≤ 90000
  v : ∀ u ∈ m.l, VOk u ∧ 0 ≤ u.v
  six : m.l.length = 6

/-- Nodes within bounds. -/
structure NOk (n : Nd) : Prop where
  x : 0 ≤ n.x ∧ n.x < 6
  y : 0 ≤ n.y ∧ n.y < 6
  v : 0 ≤ n.v ∧ n.v < 6
  k : n.op = 48 → 48 ≤ n.k ∧ n.k ≤ 57

theorem told_size (n : Nat) (l : List Vl) : (toldB n l).size = 2 + l.length := by rw [toldB, kindsB_size, twoB_size]

theorem startF_ok {m : Mc} (n : Nat) (h : MOk m) : MOk (startF m n).1 ∧ ((startF m n).2 = true → (startF m n).1.out.size + 300 * (startF m n).1.left + 300 ≤ 90000) ∧ (startF m n).1.l = m.l := by
  have h1 := h.left; have h2 := h.tr; have h3 := h.out; have h6 := h.six
  unfold startF
  split
  · exact ⟨⟨h1, h2, h3, h.v, h6⟩, by simp, rfl⟩
  · refine ⟨⟨?_, ?_, ?_, h.v, h6⟩, fun _ => ?_, rfl⟩
    · simp only []; omega
    · simp only [ByteArray.size_append, told_size, h6]
      have : sp.size = 1 := rfl
      omega
    · simp only []; omega
    · simp only []; omega

theorem inVal_ok (c : Nat) : VOk (inVal c) ∧ 0 ≤ (inVal c).v := by
  unfold inVal VOk
  repeat' split
  all_goals (simp; try omega)

theorem nextF_ok (inp : ByteArray) (m : Mc) : (VOk (nextF inp m).1 ∧ 0 ≤ (nextF inp m).1.v) ∧ (nextF inp m).2.l = m.l ∧ (nextF inp m).2.left = m.left ∧ (nextF inp m).2.tr = m.tr ∧ (nextF inp m).2.out = m.out ∧ (nextF inp m).2.e = m.e := by
  unfold nextF
  split
  · exact ⟨inVal_ok _, rfl, rfl, rfl, rfl, rfl⟩
  · exact ⟨inVal_ok _, rfl, rfl, rfl, rfl, rfl⟩

theorem worF_ok {inp : ByteArray} {n : Nd} {y v : Vl} {m : Mc} (hn : n.op = 48 → 48 ≤ n.k ∧ n.k ≤ 57) (hy : VOk y ∧ 0 ≤ y.v) (hv : VOk v ∧ 0 ≤ v.v) :
    (VOk (worF inp n y v m).1 ∧ 0 ≤ (worF inp n y v m).1.v) ∧ (worF inp n y v m).2.l = m.l ∧ (worF inp n y v m).2.left = m.left ∧ (worF inp n y v m).2.tr = m.tr ∧ (worF inp n y v m).2.out = m.out ∧ (worF inp n y v m).2.e = m.e := by
  obtain ⟨⟨y1, y2, y3⟩, y4⟩ := hy
  obtain ⟨⟨v1, v2, v3⟩, v4⟩ := hv
  have hno := nextF_ok inp m
  unfold worF
  repeat' split
  · exact hno
  · exact ⟨⟨⟨y1, y2, y3⟩, y4⟩, rfl, rfl, rfl, rfl, rfl⟩
  · refine ⟨⟨⟨?_, ?_, ?_⟩, ?_⟩, rfl, rfl, rfl, rfl, rfl⟩ <;> simp only [] <;> omega
  · exact ⟨⟨⟨by simp, by simp, by simp⟩, by simp⟩, rfl, rfl, rfl, rfl, rfl⟩
  · exact ⟨⟨⟨by simp, by simp, by simp⟩, by simp⟩, rfl, rfl, rfl, rfl, rfl⟩
  · exact ⟨⟨⟨y1, y2, by simp⟩, by simp⟩, rfl, rfl, rfl, rfl, rfl⟩
  · exact ⟨⟨⟨by simp, by simp, by simp⟩, y3⟩, rfl, rfl, rfl, rfl, rfl⟩
  · refine ⟨?_, rfl, rfl, rfl, rfl, rfl⟩
    show VOk (partF y) ∧ 0 ≤ (partF y).v
    unfold partF
    split
    · exact ⟨⟨y1, y2, by simp⟩, by simp⟩
    · exact ⟨⟨by simp, by simp, y4⟩, by simp⟩
  · refine ⟨?_, rfl, rfl, rfl, rfl, rfl⟩
    show VOk (consF n) ∧ 0 ≤ (consF n).v
    unfold consF
    repeat' split
    · rename_i h; have := hn h; exact ⟨⟨by simp only []; omega, by simp only []; omega, by simp⟩, by simp⟩
    all_goals exact ⟨⟨by simp, by simp, by simp⟩, by simp⟩

theorem doF_ok {inp : ByteArray} {n : Nd} {x : Nat} {xu yu vu : Vl} {m : Mc} (hn : n.op = 48 → 48 ≤ n.k ∧ n.k ≤ 57) (hy : VOk yu ∧ 0 ≤ yu.v) (hv : VOk vu ∧ 0 ≤ vu.v) (h : MOk m) (ho : m.out.size + 300 * m.left + 300 ≤ 90000) : MOk (doF inp n x xu yu vu m) := by
  have h1 := h.left; have h2 := h.tr; have h3 := h.out; have h6 := h.six
  have hw := worF_ok (inp := inp) (m := m) hn hy hv
  unfold doF
  repeat' split
  · exact ⟨h1, h2, h3, h.v, h6⟩
  · exact ⟨h1, h2, h3, h.v, h6⟩
  · exact ⟨h1, h2, h3, h.v, h6⟩
  · exact h
  · refine ⟨h1, h2, ?_, h.v, h6⟩
    have := spell_size yu hy.1
    have e : sp.size = 1 := rfl
    simp only [ByteArray.size_append, e]; omega
  · exact h
  · exact ⟨h1, h2, h3, h.v, h6⟩
  · obtain ⟨w1, w2, w3, w4, w5, w6⟩ := hw
    refine ⟨?_, ?_, ?_, ?_, ?_⟩
    · show (worF inp n yu vu m).2.left ≤ 300
      rw [w3]; exact h1
    · show (worF inp n yu vu m).2.tr.size + 9 * (worF inp n yu vu m).2.left ≤ 2700
      rw [w3, w4]; exact h2
    · show (worF inp n yu vu m).2.out.size + 300 * (worF inp n yu vu m).2.left ≤ 90000
      rw [w3, w5]; exact h3
    · intro u hu
      simp only [putL, w2] at hu
      rcases List.mem_or_eq_of_mem_set hu with hu | rfl
      · exact h.v u hu
      · exact w1
    · simp only [putL, w2, List.length_set]; exact h6
end Go.Proofs.YtellieabhaphhaaGreatDoor

/-
  narrowref's machine: the walk of a condition that is tested.
-/
namespace Go.Proofs.YtellieabhaphhaaGreatDoor
open Go.RowKit

theorem Rp.kp {S : Nat → Prop} {w w' : World} {r : Nat} {s : ByteArray} {st : RS} {O : Nat → Prop} (h : Rp w r s st O) (k : Kp S w w') (hS : ∀ b, O b → ¬ S b) : Rp w' r s st O := by
  obtain ⟨nv, iv, hB, hN, hI, d1, d2, d3, rfl⟩ := h
  exact ⟨nv, iv, k.blk hB (hS _ (.inl rfl)), k.row hN (fun b hb => hS b (.inr (.inl hb))), k.row hI (fun b hb => hS b (.inr (.inr hb))), d1, d2, d3, rfl⟩

theorem Rp.node {w : World} {r : Nat} {s : ByteArray} {st : RS} {O : Nat → Prop} (h : Rp w r s st O) {k : Nat} {nd : Nd} (hk : st.nodes[k]? = some nd) :
    ∃ g cap, k < st.nodes.length ∧ O g ∧ w.cell? ⟨r, 3, none⟩ = some (.slice (some ⟨g, 0, none⟩) st.nodes.length cap) ∧ ∀ j, j < 9 → w.cell? ⟨g, k * 9 + j, none⟩ = nd.cells[j]? := by
  obtain ⟨nv, iv, hB, hN, hI, d1, d2, d3, rfl⟩ := h
  obtain ⟨hl, rfl⟩ := List.getElem?_eq_some_iff.1 hk
  obtain ⟨g, cap, rfl, _, hg⟩ := World.ownsRow.form hN (by omega)
  refine ⟨g, cap, hl, .inr (.inl rfl), Blk.cell hB 3, fun j hj => ?_⟩
  rw [Row.cell hN _ (by have := Nat.mul_le_mul_right 9 hl; omega)]
  exact flat_get Nd.cells 9 nd9 st.nodes k j hl hj

theorem Rp.itemAt {w : World} {r : Nat} {s : ByteArray} {st : RS} {O : Nat → Prop} (h : Rp w r s st O) {k : Nat} {it : It} (hk : st.items[k]? = some it) :
    ∃ g cap, k < st.items.length ∧ O g ∧ w.cell? ⟨r, 4, none⟩ = some (.slice (some ⟨g, 0, none⟩) st.items.length cap) ∧ w.cell? ⟨g, k * 4, none⟩ = some (.int .u8 it.k) ∧ w.cell? ⟨g, k * 4 + 1, none⟩ = some (.int .i64 it.n) ∧ w.cell? ⟨g, k * 4 + 2, none⟩ = some (.int .i64 it.els) ∧ w.cell? ⟨g, k * 4 + 3, none⟩ = some (.int .i64 it.en) := by
  obtain ⟨hl, rfl⟩ := List.getElem?_eq_some_iff.1 hk
  obtain ⟨g, cap, h4, hc, _, ho, _⟩ := h.item hl
  exact ⟨g, cap, hl, ho, h4, hc 0 (by decide), hc 1 (by decide), hc 2 (by decide), hc 3 (by decide)⟩

/-- The machine and the reader together. -/
structure RM (w : World) (m lb : Nat) (inp : ByteArray) (mc : Mc) (r : Nat) (s : ByteArray) (st : RS) (O : Nat → Prop) : Prop where
  mb : MB w m lb inp mc
  rp : Rp w r s st O
  dm : ¬ O m
  dl : ¬ O lb
  tab : Tab w
  tm : m ≠ 0
  tl : lb ≠ 0
  ok : MOk mc
  nok : ∀ n ∈ st.nodes, NOk n
  inp : inp.size ≤ 40
  li : st.items.length ≤ 1000
  ln : st.nodes.length ≤ 1000

section
variable {w w' : World} {m lb : Nat} {inp : ByteArray} {mc mc' : Mc} {r : Nat} {s : ByteArray} {st : RS} {O : Nat → Prop}

theorem RM.next (h : RM w m lb inp mc r s st O) (hm : MB w' m lb inp mc') (k : Kp (MK m lb) w w') (ok : MOk mc') : RM w' m lb inp mc' r s st O :=
  ⟨hm, h.rp.kp k (fun b hb e => by rcases e with rfl | rfl; exact h.dm hb; exact h.dl hb), h.dm, h.dl, h.tab.kp k (by rintro (e | e); exact h.tm e.symm; exact h.tl e.symm), h.tm, h.tl, ok, h.nok, h.inp, h.li, h.ln⟩
theorem RM.kp (h : RM w m lb inp mc r s st O) (k : Kp no w w') : RM w' m lb inp mc r s st O :=
  h.next (h.mb.kp k no_elim no_elim) (k.mono (fun _ e => e.elim)) h.ok
theorem RM.alloc (h : RM w m lb inp mc r s st O) (o : Obj) : RM (w.alloc o) m lb inp mc r s st O := h.kp ((Kp.refl no w).alloc o)
theorem RM.drew (h : RM w m lb inp mc r s st O) : RM w.drew m lb inp mc r s st O := h.kp ((Kp.refl no w).drew)
theorem RM.drewN (h : RM w m lb inp mc r s st O) (n : Nat) : RM (w.drewN n) m lb inp mc r s st O := h.kp ((Kp.refl no w).drewN n)
end

theorem Blk.c4 {w : World} {b : Nat} {a0 a1 a2 a3 : Value} {T : TypeId} (h : Blk w b [a0, a1, a2, a3] T) :
    w.cell? ⟨b, 0, none⟩ = some a0 ∧ w.cell? ⟨b, 1, none⟩ = some a1 ∧ w.cell? ⟨b, 2, none⟩ = some a2 ∧ w.cell? ⟨b, 3, none⟩ = some a3 ∧ ∀ o, w.frozen? ⟨b, o, none⟩ = false :=
  ⟨h.cell 0, h.cell 1, h.cell 2, h.cell 3, h.frozen⟩

theorem decF_ok : ∀ (f : Nat) (IT : List It) (ND : List Nd) (m : Mc) (i : Nat) (m' : Mc) (b : Bool), decF f IT ND m i = some (m', b) → MOk m → MOk m' := by
  intro f
  induction f with
  | zero => intro IT ND m i m' b h; simp [decF] at h
  | succ f ih =>
    intro IT ND m i m' b h hm
    rw [decF] at h
    repeat' split at h
    all_goals (try (simp only [Option.some.injEq, Prod.mk.injEq, reduceCtorEq] at h))
    · obtain ⟨rfl, _⟩ := h; exact (startF_ok _ hm).1
    · obtain ⟨rfl, _⟩ := h; exact (startF_ok _ hm).1
    · rename_i h1 _; obtain ⟨rfl, _⟩ := h; exact ih _ _ _ _ _ _ h1 hm
    · rename_i h1 _ _; obtain ⟨rfl, _⟩ := h; exact ih _ _ _ _ _ _ h1 hm
    · rename_i h1 _ _ _; obtain ⟨rfl, _⟩ := h; exact ih _ _ _ _ _ _ h1 hm
    · rename_i h1 _ _ _ _ _ _ _; exact ih _ _ _ _ _ _ h (ih _ _ _ _ _ _ h1 hm)

set_option maxHeartbeats 3200000 in
theorem dec_no {w : World} {m lb : Nat} {inp : ByteArray} {mc : Mc} {r : Nat} {s : ByteArray} {st : RS} {O : Nat → Prop} (h : RM w m lb inp mc r s st O) (i : Nat) (it : It) (nd : Nd) (u : Vl) (hit : st.items[i]? = some it) (hk : it.k = 99) (hn : 0 ≤ it.n) (hn' : it.n < 100) (hnd : st.nodes[it.n.toNat]? = some nd) (_ : mc.l[nd.y.toNat]? = some u) (mc1 : Mc) (hst : startF mc it.n.toNat = (mc1, false)) :
    Calls Tryz.prog 126 #[.pointer (some ⟨m, 0, none⟩), .pointer (some ⟨r, 0, none⟩), .int .i64 i] w fun e w' =>
      e = .returned (.bool false) ∧ MB w' m lb inp mc1 ∧ Kp (MK m lb) w w' := by
  obtain ⟨g, cap, hi, hog, q4, i0, i1, i2, i3⟩ := h.rp.itemAt hit
  have hli := h.li
  have hgl := h.rp.lt g hog
  have hrl := h.rp.lt r h.rp.own
  obtain ⟨ik, n, ie, ien⟩ := it
  dsimp only at *
  subst hk
  obtain ⟨n, rfl⟩ := Int.eq_ofNat_of_zero_le hn
  rw [Int.toNat_natCast] at *
  have hso := startF_ok n h.ok
  have hlt := h.mb.lt
  go_enter Tryz.func126, Tryz.ntmps126
  go_wp2_with fail
  refine (starts_c (st := mc) n (by omega) (h.mb.alloc _) (by have := h.ok.tr; omega) (by have := h.ok.left; omega)).mono ?_
  rw [hst] at *
  rintro e w1 ⟨rfl, h1, k1⟩
  dsimp only at *
  clear hst
  go_wp2
  go_ret
  exact ⟨rfl, h1, by (repeat' (first | with_reducible exact Kp.refl _ _ | with_reducible refine Kp.alloc ?_ _ | with_reducible refine Kp.drewN ?_ _ | with_reducible refine Kp.drew ?_ | with_reducible refine Kp.setCell ?_ _ ?_ | with_reducible refine Kp.trans ?_ k1 (fun _ _ e => e) | (intro hh; first | rfl | exact .inl rfl | exact .inr rfl | (exfalso; (try dsimp only at hh); omega))))⟩

set_option maxHeartbeats 3200000 in
theorem dec_yes {w : World} {m lb : Nat} {inp : ByteArray} {mc : Mc} {r : Nat} {s : ByteArray} {st : RS} {O : Nat → Prop} (h : RM w m lb inp mc r s st O) (i : Nat) (it : It) (nd : Nd) (u : Vl) (hit : st.items[i]? = some it) (hk : it.k = 99) (hn : 0 ≤ it.n) (hn' : it.n < 100) (hnd : st.nodes[it.n.toNat]? = some nd) (hu : mc.l[nd.y.toNat]? = some u) (mc1 : Mc) (hst : startF mc it.n.toNat = (mc1, true)) :
    Calls Tryz.prog 126 #[.pointer (some ⟨m, 0, none⟩), .pointer (some ⟨r, 0, none⟩), .int .i64 i] w fun e w' =>
      e = .returned (.bool (holdF nd u)) ∧ MB w' m lb inp mc1 ∧ Kp (MK m lb) w w' := by
  obtain ⟨g, cap, hi, hog, q4, i0, i1, i2, i3⟩ := h.rp.itemAt hit
  have hli := h.li
  have hgl := h.rp.lt g hog
  have hrl := h.rp.lt r h.rp.own
  obtain ⟨ik, n, ie, ien⟩ := it
  dsimp only at *
  subst hk
  obtain ⟨n, rfl⟩ := Int.eq_ofNat_of_zero_le hn
  rw [Int.toNat_natCast] at *
  have hso := startF_ok n h.ok
  have hlt := h.mb.lt
  go_enter Tryz.func126, Tryz.ntmps126
  go_wp2_with fail
  refine (starts_c (st := mc) n (by omega) (h.mb.alloc _) (by have := h.ok.tr; omega) (by have := h.ok.left; omega)).mono ?_
  rw [hst] at *
  rintro e w1 ⟨rfl, h1, k1⟩
  dsimp only at *
  clear hst
  have R1 := (h.alloc _).next h1 k1 hso.1
  have hL : Blk w1 w.heap.size [.int .u8 99, .int .i64 n, .int .i64 ie, .int .i64 ien] 165 := k1.blk (by (repeat' (first | ((with_reducible show (_ : List Value) = _); rfl) | ((with_reducible refine Blk.newAt _ _ _ ?_); first | with_reducible rfl | (simp; done)) | with_reducible refine Blk.alloc ?_ _ | with_reducible refine Blk.drewN ?_ _ | with_reducible refine Blk.drew ?_ | ((with_reducible refine Blk.other ?_ _ ?_); rotate_left; ((try dsimp only); omega)) | with_reducible refine Blk.setB (cs0 := ?_) ?_ ?_))) (by rintro (e | e) <;> omega)
  obtain ⟨l0, l1, l2, l3, lf⟩ := hL.c4
  obtain ⟨g2, cap2, hn2, _, q3, qc⟩ := R1.rp.node hnd
  have e0 := qc 0 (by decide); have e1 := qc 1 (by decide); have e2 := qc 2 (by decide); have e3 := qc 3 (by decide); have e4 := qc 4 (by decide); have e5 := qc 5 (by decide); have e6 := qc 6 (by decide); have e7 := qc 7 (by decide); have e8 := qc 8 (by decide)
  clear qc
  simp only [Nd.cells, List.getElem?_cons_zero, List.getElem?_cons_succ, Nat.add_zero] at e0 e1 e2 e3 e4 e5 e6 e7 e8
  have hln := R1.ln
  have hyy : 0 ≤ nd.y ∧ nd.y < 6 := (h.nok nd (List.mem_of_getElem? hnd)).y
  have HH := hide (fun W (hW : MB W m lb inp mc1) => holds_c (w := W) nd nd.y.toNat u hW (by omega) (by rw [hso.2.2]; exact hu))
  have hso' := hide hso
  clear hso hnd hu
  obtain ⟨uo, ux, uy, uv, uk, ut, uf, ua, ul⟩ := nd
  dsimp only at *
  go_wp2
  go_region_with (go_at_call 86; refine (HH.out _ (by exact h1.drew)).mono ?_; rintro e w2 ⟨rfl, k2⟩)
  all_goals
    go_wp2
    go_ret
    exact ⟨rfl, h1.drew.kp k2 no_elim no_elim, ((Kp.trans (by (repeat' (first | with_reducible exact Kp.refl _ _ | with_reducible refine Kp.alloc ?_ _ | with_reducible refine Kp.drewN ?_ _ | with_reducible refine Kp.drew ?_ | with_reducible refine Kp.setCell ?_ _ ?_ | (intro hh; first | rfl | exact .inl rfl | exact .inr rfl | (exfalso; (try dsimp only at hh); omega))))) k1 (fun _ _ e => e)).drew).trans k2 (fun _ _ e => e.elim)⟩
end Go.Proofs.YtellieabhaphhaaGreatDoor

/-
  Plain: what narrow's reader reads is what the answer's reads.
-/
namespace Go.Proofs.YtellieabhaphhaaGreatDoor
open Go.RowKit

def actN (op : Int) : Int :=
  if op = 48 ∨ op = 84 ∨ op = 70 ∨ op = 90 ∨ op = 67 then 1 else if op = 63 then 2 else if op = 118 then 3 else if op = 43 then 4 else if op = 60 then 5 else if op = 65 then 6 else if op = 66 then 7 else if op = 46 then 8
  else if op = 94 then 9 else if op = 126 then 10 else if op = 33 then 11 else if op = 121 then 12 else if op = 58 then 13 else if op = 42 then 14 else 0

def consN (n : Nd) : Vl := if actN n.op = 1 then consF n else ⟨0, 0, 0⟩

/-- A node of the answer, as narrow holds it. -/
def encN (n : Nd) (tx : ByteArray) (yes no : Int) : NN :=
  ⟨tx, actN n.op, n.x, n.y, if n.op = 43 ∨ n.op = 60 then n.v else n.y, bit (consN n).k, (consN n).n, bit (consN n).v, if n.op = 126 ∨ n.op = 58 then bit n.k else 0, yes, no⟩

abbrev em : ByteArray := ⟨#[]⟩

theorem varF_no (s : ByteArray) (i : Nat) (h : ¬ (97 ≤ pk s i ∧ pk s i ≤ 102)) : varF s (i, false) = (0, (i, true)) := by
  rw [varF_pkb, pkb_false, if_neg (by simp; omega)]

theorem ass_ref (s : ByteArray) (i : Nat) (x : Int) (n : Nd) (hx : n.x = x) (h0 : n.y = 0 ∧ n.v = 0) :
    (assF s i x).2 = (valF s i n).2 ∧ ((valF s i n).2.2 = false → (assF s i x).1 = encN (valF s i n).1 em 0 0) := by
  subst hx
  by_cases hv : 97 ≤ pk s i ∧ pk s i ≤ 102
  · rw [assF, if_pos hv, valF, if_neg (by omega), if_neg (by simp [amF]; omega), if_neg (by simp [amF]; omega), if_neg (by simp [amF]; omega)]
    exact ⟨rfl, fun _ => rfl⟩
  by_cases hd : 48 ≤ pk s i ∧ pk s i ≤ 57
  · have e1 : conV (pk s i) = ⟨110, (pk s i : Int) - 48, 0⟩ := by rw [conV, if_pos hd]
    rw [assF, if_neg hv, if_pos (by rw [e1]; show ¬ bit 110 = 0; decide), e1, valF, if_pos hd]
    refine ⟨rfl, fun _ => ?_⟩
    simp [encN, consN, actN, consF, h0]
  have hnv := varF_no s i hv
  unfold assF valF
  rw [if_neg hv, if_neg hd, hnv]
  generalize varF s (varF s (i + 1, false)).2 = q2
  generalize varF s (i + 1, false) = q1
  have H : ∀ c : Nat, ¬ (97 ≤ c ∧ c ≤ 102) → ¬ (48 ≤ c ∧ c ≤ 57) → (c = 84 ∨ c = 70 ∨ c = 90 ∨ c = 67 ∨ c = 63 ∨ c = 43 ∨ c = 60 ∨ c = 65 ∨ c = 66 ∨ c = 46) ∨ (bit (conV c).k = 0 ∧ asgA c = 0 ∧ amF c [84, 70, 90, 67, 63] = false ∧ amF c [43, 60] = false ∧ amF c [65, 66, 46] = false) := by
    intro c h1 h2
    by_cases g : c = 84 ∨ c = 70 ∨ c = 90 ∨ c = 67 ∨ c = 63 ∨ c = 43 ∨ c = 60 ∨ c = 65 ∨ c = 66 ∨ c = 46
    · exact .inl g
    · refine .inr ⟨(bit_con c).2 (by omega), ?_, ?_, ?_, ?_⟩
      · rw [asgA, if_neg (by omega), if_neg (by omega), if_neg (by omega), if_neg (by omega), if_neg (by omega), if_neg (by omega)]
      all_goals (simp [amF]; omega)
  obtain ⟨ny, nv⟩ := h0
  rcases H _ hv hd with h | ⟨h1, h2, h3, h4, h5⟩
  · generalize pk s i = c at *
    rcases h with rfl | rfl | rfl | rfl | rfl | rfl | rfl | rfl | rfl | rfl
    all_goals
      refine ⟨rfl, fun _ => ?_⟩
      simp [encN, consN, actN, consF, ny, asgA, conV, amF, bit]
  · rw [if_neg (by rw [h1]; simp), if_pos h2, if_neg (by rw [h3]; decide), if_neg (by rw [h4]; decide), if_neg (by rw [h5]; decide)]
    exact ⟨rfl, fun h => by cases h⟩

theorem eatF_good (s : ByteArray) (p : Nat × Bool) (c : Nat) (h : (eatF s p c).2 = false) : p.2 = false ∧ pk s p.1 = c ∧ eatF s p c = (p.1 + 1, false) := by
  unfold eatF at h ⊢
  split at h
  · cases h
  · rename_i h1
    rw [if_neg h1]
    simp at h1
    exact ⟨h1.1, h1.2, rfl⟩

theorem nac_ref (s : ByteArray) (i : Nat) :
    (nacF s (i, false)).2 = (simpF s i).2 ∧ ((simpF s i).2.2 = false → (nacF s (i, false)).1 = encN (simpF s i).1 em 0 0) := by
  by_cases h1 : pk s i = 94
  · rw [nacF, pkb_false, if_pos h1, simpF, if_pos h1]
    exact ⟨rfl, fun _ => rfl⟩
  by_cases h2 : pk s i = 33
  · rw [nacF, pkb_false, if_neg h1, if_pos h2, simpF, if_neg h1, if_pos h2]
    exact ⟨rfl, fun _ => rfl⟩
  rw [nacF, pkb_false, if_neg h1, if_neg h2, simpF, if_neg h1, if_neg h2]
  generalize varF s (i, false) = q
  obtain ⟨k, q, b⟩ := q
  dsimp only
  cases b
  · by_cases h3 : pk s q = 126
    · rw [if_pos ⟨rfl, h3⟩, chgF, pkb_false, if_neg (by omega), if_pos h3]
      exact ⟨rfl, fun _ => rfl⟩
    · rw [if_neg (fun e => h3 e.2), chgF, pkb_false, if_neg h3]
      by_cases h4 : pk s q = 61
      · have e1 : eatF s (q, false) 61 = (q + 1, false) := by rw [eatF_pkb s _ _ (by decide), pkb_false, if_pos h4]
        rw [if_pos h4, e1, if_neg (by simp)]
        have := ass_ref s (q + 1) k { nd0 i with x := k } rfl ⟨rfl, rfl⟩
        exact ⟨this.1, fun h => this.2 h⟩
      · have e1 : eatF s (q, false) 61 = (q, true) := by rw [eatF_pkb s _ _ (by decide), pkb_false, if_neg h4]
        rw [if_neg h4, e1, if_pos rfl]
        exact ⟨rfl, fun h => by cases h⟩
  · rw [if_neg (fun e => by cases e.1), chgF, pkb_true, if_neg (by decide), if_neg (by decide)]
    have e1 : eatF s (q, true) 61 = (q, true) := by rw [eatF_pkb s _ _ (by decide), pkb_true, if_neg (by decide)]
    rw [e1, if_pos rfl]
    exact ⟨rfl, fun h => by cases h⟩

/-- A line. -/
def NN.setT (n : NN) (t : ByteArray) : NN := { n with tx := t }
def NN.setW (n : NN) (a b : Int) : NN := { n with yes := a, no := b }
theorem encW (n : Nd) (t : ByteArray) (y z y' z' : Int) : (encN n t y z).setW y' z' = encN n t y' z' := rfl

theorem actN_t (o : Int) : (actN o = 12 ∨ actN o = 13) ↔ (o = 121 ∨ o = 58) := by
  unfold actN
  repeat' split
  all_goals omega

/-- The ways of a node, as narrow holds them. -/
def yesN (n : Nd) : Int := if n.op = 33 then 0 else n.t
def noN (n : Nd) : Int := if n.op = 121 ∨ n.op = 58 then n.f else yesN n

end Go.Proofs.YtellieabhaphhaaGreatDoor

/-
  Plain: the nodes of a graph are well made.
-/
namespace Go.Proofs.YtellieabhaphhaaGreatDoor
open Go.RowKit

theorem varF_lt6 (s : ByteArray) (p : Nat × Bool) : (varF s p).1 < 6 := by
  rw [varF_pkb]; split
  · rename_i h; simp at h; show pkb s p - 97 < 6; omega
  · show 0 < 6; decide

theorem kindF_ok (s : ByteArray) (p : Nat × Bool) (h : (kindF s p).2.2 = false) : KOk (kindF s p).1 := by
  rw [kindF_pkb] at h ⊢
  split
  · rename_i h1; rw [if_pos h1] at h; cases h
  · rename_i h1
    show KOk (pkb s p)
    unfold bit at h1
    unfold KOk
    by_cases a : (pkb s p : Int) = 110 <;> by_cases b : (pkb s p : Int) = 116 <;> by_cases c : (pkb s p : Int) = 102 <;> by_cases d : (pkb s p : Int) = 122 <;> by_cases e : (pkb s p : Int) = 65 <;> by_cases f : (pkb s p : Int) = 66 <;> by_cases g : (pkb s p : Int) = 67 <;> simp_all

def opOk (o : Int) : Prop := o = 48 ∨ o = 84 ∨ o = 70 ∨ o = 90 ∨ o = 67 ∨ o = 63 ∨ o = 118 ∨ o = 43 ∨ o = 60 ∨ o = 65 ∨ o = 66 ∨ o = 46 ∨ o = 94 ∨ o = 126 ∨ o = 33 ∨ o = 121 ∨ o = 58 ∨ o = 42

/-- A node, but for its ways. -/
structure Gn (n : Nd) : Prop where
  x : 0 ≤ n.x ∧ n.x < 6
  y : 0 ≤ n.y ∧ n.y < 6
  v : 0 ≤ n.v ∧ n.v < 6
  op : opOk n.op
  k : n.op = 48 → 48 ≤ n.k ∧ n.k ≤ 57
  kd : n.op = 58 ∨ n.op = 126 → KOk n.k
  f : ¬ (n.op = 121 ∨ n.op = 58) → n.f = -1

theorem Gn.nok {n : Nd} (h : Gn n) : NOk n := ⟨h.x, h.y, h.v, h.k⟩

theorem valF_gn (s : ByteArray) (i : Nat) (n : Nd) (hx : 0 ≤ n.x ∧ n.x < 6) (h0 : n.y = 0 ∧ n.v = 0) (hf : n.f = -1) : Gn (valF s i n).1 := by
  have v1 := varF_lt6 s (i + 1, false)
  have v2 := varF_lt6 s (varF s (i + 1, false)).2
  have v3 := varF_lt6 s (i, false)
  obtain ⟨hy, hv⟩ := h0
  unfold valF
  repeat' split
  · exact ⟨hx, by simp [hy], by simp [hv], .inl rfl, fun _ => by dsimp only; omega, fun h => by simp at h, fun _ => hf⟩
  · rename_i _ h
    have h' : pk s i = 84 ∨ pk s i = 70 ∨ pk s i = 90 ∨ pk s i = 67 ∨ pk s i = 63 := by simp [amF] at h; omega
    exact ⟨hx, by simp [hy], by simp [hv], by unfold opOk; dsimp only; omega, fun e => by dsimp only at e; omega, fun e => by dsimp only at e; omega, fun _ => hf⟩
  · rename_i _ _ h
    have h' : pk s i = 43 ∨ pk s i = 60 := by simp [amF] at h; omega
    exact ⟨hx, by dsimp only; omega, by dsimp only; omega, by unfold opOk; dsimp only; omega, fun e => by dsimp only at e; omega, fun e => by dsimp only at e; omega, fun _ => hf⟩
  · rename_i _ _ _ h
    have h' : pk s i = 65 ∨ pk s i = 66 ∨ pk s i = 46 := by simp [amF] at h; omega
    exact ⟨hx, by dsimp only; omega, by simp [hv], by unfold opOk; dsimp only; omega, fun e => by dsimp only at e; omega, fun e => by dsimp only at e; omega, fun _ => hf⟩
  · exact ⟨hx, by dsimp only; omega, by simp [hv], by unfold opOk; dsimp only; omega, fun e => by dsimp only at e; omega, fun e => by dsimp only at e; omega, fun _ => hf⟩

theorem Gn.l {n : Nd} (h : Gn n) (l : Int) : Gn { n with l := l } := ⟨h.x, h.y, h.v, h.op, h.k, h.kd, h.f⟩

theorem simpF_gn (s : ByteArray) (i : Nat) (h : (simpF s i).2.2 = false) : Gn (simpF s i).1 ∧ (simpF s i).1.a = i ∧ (simpF s i).1.l = ((simpF s i).2.1 : Int) - i := by
  have v1 := varF_lt6 s (i + 1, false)
  have v3 := varF_lt6 s (i, false)
  unfold simpF at h ⊢
  repeat' split
  · exact ⟨⟨by simp [nd0], by dsimp only; omega, by simp [nd0], by unfold opOk; dsimp only; omega, fun e => by dsimp only at e; omega, fun e => by dsimp only at e; omega, fun _ => rfl⟩, rfl, rfl⟩
  · exact ⟨⟨by simp [nd0], by simp [nd0], by simp [nd0], by unfold opOk; dsimp only; omega, fun e => by dsimp only at e; omega, fun e => by dsimp only at e; omega, fun _ => rfl⟩, rfl, by push_cast; rfl⟩
  · rename_i h1 h2 h3
    rw [if_neg h1, if_neg h2, if_pos h3] at h
    exact ⟨⟨by dsimp only; omega, by simp [nd0], by simp [nd0], by unfold opOk; dsimp only; omega, fun e => by dsimp only at e; omega, fun _ => kindF_ok s _ h, fun _ => rfl⟩, rfl, rfl⟩
  · rename_i h1 h2 h3 h4
    rw [if_neg h1, if_neg h2, if_neg h3, if_pos h4] at h
    rw [h4] at h; cases h
  · have := valF_gn s (eatF s (varF s (i, false)).2 61).1 { nd0 i with x := (varF s (i, false)).1 } (by dsimp only; omega) ⟨rfl, rfl⟩ rfl
    have k := valF_keeps s (eatF s (varF s (i, false)).2 61).1 { nd0 i with x := (varF s (i, false)).1 }
    exact ⟨this.l _, k.1, rfl⟩

theorem testF_gn (s : ByteArray) (i : Nat) (h : (testF s i).2.2 = false) : Gn (testF s i).1 ∧ (testF s i).1.a = i ∧ (testF s i).1.l = ((testF s i).2.1 : Int) - i := by
  have v3 := varF_lt6 s (i, false)
  unfold testF at h ⊢
  repeat' split
  · rename_i h1
    rw [if_pos h1] at h
    exact ⟨⟨by simp [ty0], by dsimp only; omega, by simp [ty0], by unfold opOk; dsimp only; omega, fun e => by dsimp only at e; omega, fun _ => kindF_ok s _ h, fun e => by simp at e⟩, rfl, rfl⟩
  · exact ⟨⟨by simp [ty0], by dsimp only; omega, by simp [ty0], by unfold opOk; simp [ty0], fun e => by simp [ty0] at e, fun e => by simp [ty0] at e, fun e => by simp [ty0] at e⟩, rfl, rfl⟩

/-- A node of a graph: its text is at hand in s. -/
structure Gd (s : ByteArray) (n : Nd) : Prop where
  g : Gn n
  t3 : n.op = 33 → n.t = -1
  t : n.op ≠ 33 → 0 ≤ n.t ∧ n.t ≤ 99
  f : n.op = 121 ∨ n.op = 58 → 0 ≤ n.f ∧ n.f ≤ 99
  a : 0 ≤ n.a
  l : 0 < n.l
  al : n.a + n.l ≤ s.size

theorem Gd.tf {s : ByteArray} {n : Nd} (h : Gd s n) : (-1 ≤ n.t ∧ n.t ≤ 1000) ∧ (-1 ≤ n.f ∧ n.f ≤ 1000) := by
  refine ⟨?_, ?_⟩
  · by_cases h3 : n.op = 33
    · have := h.t3 h3; omega
    · have := h.t h3; omega
  · by_cases h3 : n.op = 121 ∨ n.op = 58
    · have := h.f h3; omega
    · have := h.g.f h3; omega

/-- A node as narrow holds it, with its text. -/
def encX (s : ByteArray) (n : Nd) : NN := encN n (s.extract n.a.toNat (n.a + n.l).toNat) (yesN n) (noN n)

end Go.Proofs.YtellieabhaphhaaGreatDoor

/-
  narrow's reader: a graph.
-/
namespace Go.Proofs.YtellieabhaphhaaGreatDoor
open Go.RowKit

def nnCells (l : List NN) : List Value := l.flatMap NN.cells
theorem nn11 (x : NN) : x.cells.length = 11 := rfl

theorem info_nn : (Tryz.prog.info? 91).map (fun i => (i.zero, i.size, i.bytes)) = some (some (.agg #[.string ⟨#[]⟩, .int .i64 0, .int .i64 0, .int .i64 0, .int .i64 0, .int .i64 0, .int .i64 0, .int .i64 0, .int .i64 0, .int .i64 0, .int .i64 0]), 11, 96) := by kernel_rfl

/-- The row of narrow's nodes. -/
abbrev NRow (w : World) (v : Value) (L : List NN) : Prop := Row w v 91 11 L.length (nnCells L)

theorem NRow.shape {w : World} {v : Value} {L : List NN} (h : NRow w v L) : ∃ a cap, v = .slice a L.length cap := by
  rcases h.2 with ⟨rfl, h0⟩ | ⟨g, cap, cur, rfl, _⟩
  · exact ⟨none, 0, by rw [h0]⟩
  · exact ⟨_, _, rfl⟩

theorem NRow.at {w : World} {a : Option Addr} {cap : Nat} {L : List NN} (h : NRow w (.slice a L.length cap) L) {k : Nat} {n : NN} (hk : L[k]? = some n) :
    k < L.length ∧ ∃ g, a = some ⟨g, 0, none⟩ ∧ g < w.heap.size ∧ w.cell? ⟨g, k * 11, none⟩ = some (.string n.tx) ∧ w.cell? ⟨g, k * 11 + 1, none⟩ = some (.int .i64 n.act) ∧ w.cell? ⟨g, k * 11 + 2, none⟩ = some (.int .i64 n.x) ∧ w.cell? ⟨g, k * 11 + 3, none⟩ = some (.int .i64 n.y) ∧ w.cell? ⟨g, k * 11 + 4, none⟩ = some (.int .i64 n.w) ∧ w.cell? ⟨g, k * 11 + 5, none⟩ = some (.int .i64 n.ck) ∧ w.cell? ⟨g, k * 11 + 6, none⟩ = some (.int .i64 n.cn) ∧ w.cell? ⟨g, k * 11 + 7, none⟩ = some (.int .i64 n.ch) ∧ w.cell? ⟨g, k * 11 + 8, none⟩ = some (.int .i64 n.kd) ∧ w.cell? ⟨g, k * 11 + 9, none⟩ = some (.int .i64 n.yes) ∧ w.cell? ⟨g, k * 11 + 10, none⟩ = some (.int .i64 n.no) := by
  obtain ⟨hl, rfl⟩ := List.getElem?_eq_some_iff.1 hk
  obtain ⟨g, cap', e, _, hg⟩ := World.ownsRow.form h (by omega)
  injection e with e1 e2 e3
  subst e1
  have hc : ∀ j, j < 11 → w.cell? ⟨g, k * 11 + j, none⟩ = L[k].cells[j]? := fun j hj => by
    rw [Row.cell h _ (by have := Nat.mul_le_mul_right 11 hl; omega)]
    exact flat_get NN.cells 11 nn11 L k j hl hj
  have hlt := Row.lt h (b := g) rfl
  exact ⟨hl, g, rfl, hlt, hc 0 (by decide), hc 1 (by decide), hc 2 (by decide), hc 3 (by decide), hc 4 (by decide), hc 5 (by decide), hc 6 (by decide), hc 7 (by decide), hc 8 (by decide), hc 9 (by decide), hc 10 (by decide)⟩

theorem NRow.len {w : World} {v : Value} {s : ByteArray} {l : List Nd} (h : NRow w v (l.map (encX s))) : Row w v 91 11 l.length (nnCells (l.map (encX s))) := by
  have h' : Row w v 91 11 (l.map (encX s)).length (nnCells (l.map (encX s))) := h
  rwa [List.length_map] at h'

end Go.Proofs.YtellieabhaphhaaGreatDoor
