import Derived.Test.YtellieabhaphhaaGreatDoorPLeastuptoI
/-
  narrow's flow: what comes along a way of a node.
-/
namespace Go.Proofs.YtellieabhaphhaaGreatDoor
open Go.RowKit

def waZ (act : Int) (kd : Nat) (b : Bool) : Nat := if act = 12 then (if b then 115 else 13) else (if b then kd else 127 &&& (127 ^^^ kd))

theorem waZ_lt (act : Int) (kd : Nat) (b : Bool) (h : kd < 128) : waZ act kd b < 128 := by
  unfold waZ
  repeat' split
  all_goals first | exact h | exact and_lt _ (by decide) | decide

set_option maxHeartbeats 1600000 in
theorem kindsAlong_c (n : NN) (kd : Nat) (b : Bool) (w : World) (hk : n.kd = (kd : Int)) (hk2 : kd < 128) (h : n.act = 12 ∨ n.act = 13) :
    Calls Tryz.prog 154 #[.agg #[.string n.tx, .int .i64 n.act, .int .i64 n.x, .int .i64 n.y, .int .i64 n.w, .int .i64 n.ck, .int .i64 n.cn, .int .i64 n.ch, .int .i64 n.kd, .int .i64 n.yes, .int .i64 n.no], .bool b] w fun e w' => e = .returned (.int .i64 (waZ n.act kd b : Nat)) ∧ Kp no w w' := by
  have b1 : bits .andNot .i64 127 (kd : Int) = ((127 &&& (127 ^^^ kd) : Nat) : Int) := bits_not_nat 127 kd (by decide) hk2
  obtain ⟨tx, act, nx, ny, nw, ck, cn, ch, kd', yes, no⟩ := n
  dsimp only at *
  subst hk
  rcases h with rfl | rfl <;> cases b
  all_goals
    unfold waZ
    simp only [if_true, Bool.false_eq_true, if_false, Int.reduceEq]
    generalize 127 &&& (127 ^^^ kd) = nk at *
    go_enter Tryz.func154, Tryz.ntmps154
    go_wp2
    go_ret
    exact ⟨rfl, by (repeat' (first | with_reducible exact Kp.refl _ _ | with_reducible refine Kp.alloc ?_ _ | with_reducible refine Kp.drewN ?_ _ | with_reducible refine Kp.drew ?_ | with_reducible refine Kp.setCell ?_ _ ?_ | (intro hh; first | rfl | exact .inl rfl | exact .inr rfl | (exfalso; (try dsimp only at hh); omega))))⟩

def keZ (S : St) (v m : Nat) : St := S.set v (S.getD v 0 &&& m)

theorem Z6.ke {S : St} (h : Z6 S) (v m : Nat) : Z6 (keZ S v m) := h.set v (and_lt m (h.get v))

structure AS (w : World) (H : Nat) (nc : List Value) (S : St) : Prop where
  n : Blk w H nc 91
  r : ZB w (H + 1 + 1) [0, 0, 0, 0, 0, 0]
  s : ZB w (H + 1 + 1 + 1) S

theorem AS.r' {w : World} {H : Nat} {nc : List Value} {S : St} (h : AS w H nc S) : Blk w (H + 1 + 1) [.int .i64 0, .int .i64 0, .int .i64 0, .int .i64 0, .int .i64 0, .int .i64 0] 102 := h.r
theorem AS.s' {w : World} {H : Nat} {nc : List Value} {t0 t1 t2 t3 t4 t5 : Nat} (h : AS w H nc [t0, t1, t2, t3, t4, t5]) (_ _ _ _ _ _ : Nat) : Blk w (H + 1 + 1 + 1) [.int .i64 t0, .int .i64 t1, .int .i64 t2, .int .i64 t3, .int .i64 t4, .int .i64 t5] 102 := h.s
theorem AS.kn {w w' : World} {H : Nat} {nc : List Value} {S : St} (h : AS w H nc S) (k : Kp no w w') : AS w' H nc S := ⟨k.blk h.n no_elim, k.blk h.r no_elim, k.blk h.s no_elim⟩
theorem AS.ks {w w' : World} {H : Nat} {nc : List Value} {S S' : St} (h : AS w H nc S) (k : Kp (· = H + 1 + 1 + 1) w w') (hz : ZB w' (H + 1 + 1 + 1) S') : AS w' H nc S' :=
  ⟨k.blk h.n (by omega), k.blk h.r (by omega), hz⟩

/-- What is set behind what stays. -/
def alZ (act : Int) (gi : Nat → Nat) (S : St) (x y : Nat) : St := if exS S && setF act then S.set x (gi (S.getD y 0)) else S

set_option maxRecDepth 100000 in
set_option maxHeartbeats 3200000 in
theorem stateAlong_o (tx : ByteArray) (act ck cn ch yes nwy : Int) (x y v kd : Nat) (s0 s1 s2 s3 s4 s5 : Nat) (b : Bool) (w : World) (hs : Z6 [s0, s1, s2, s3, s4, s5]) (hx6 : x < 6) (hy6 : y < 6) (hv6 : v < 6)
    (h0 : 0 ≤ act) (h14 : act ≤ 14) (hn : act ≠ 10 ∧ act ≠ 11 ∧ act ≠ 12 ∧ act ≠ 13) (tk : Nat) (htk : tkM act = (tk : Int)) (htk2 : tk < 128) (gi : Nat → Nat) (hg : ∀ u, u < 128 → giZ act ck u = ((gi u : Nat) : Int)) (hgl : ∀ u, u < 128 → gi u < 128) :
    Calls Tryz.prog 111 #[.agg #[.string tx, .int .i64 act, .int .i64 x, .int .i64 y, .int .i64 v, .int .i64 ck, .int .i64 cn, .int .i64 ch, .int .i64 kd, .int .i64 yes, .int .i64 nwy], zv6 s0 s1 s2 s3 s4 s5, .bool b] w fun e w' => e = .returned (.agg (zc (alZ act gi (keZ (keZ [s0, s1, s2, s3, s4, s5] y tk) v tk) x y)).toArray) ∧ Kp no w w' := by
  have HT := hide (fun W => ntakenKinds_c act W)
  rw [htk] at HT
  have HSV := hide (fun W => setsVariable_c act W h0 h14)
  have HGV := hide (fun u hu W => kindsGiven_c ⟨tx, act, x, y, v, ck, cn, ch, kd, yes, nwy⟩ u W hu h0 h14)
  have HGV2 : Hid (∀ u : Nat, u < 128 → ∀ W, Calls Tryz.prog 156 #[.agg #[.string tx, .int .i64 act, .int .i64 x, .int .i64 y, .int .i64 v, .int .i64 ck, .int .i64 cn, .int .i64 ch, .int .i64 kd, .int .i64 yes, .int .i64 nwy], .int .i64 (u : Int)] W fun e w' => e = .returned (.int .i64 (gi u : Nat)) ∧ Kp no W w') := fun u hu W => by
    have := HGV.out u hu W
    rw [show giZ (NN.mk tx act x y v ck cn ch kd yes nwy).act (NN.mk tx act x y v ck cn ch kd yes nwy).ck u = ((gi u : Nat) : Int) from hg u hu] at this
    exact this
  clear HGV
  have HGV := HGV2
  clear HGV2 hg htk
  have g10 : (act == 10) = false := by simp; omega
  have g11 : (act == 11) = false := by simp; omega
  have g12 : (act == 12) = false := by simp; omega
  have g13 : (act == 13) = false := by simp; omega
  have HK1 := hide (fun W h => keep_c (w.heap.size + 1 + 1 + 1) [s0, s1, s2, s3, s4, s5] y tk W h hs hy6 htk2)
  have H61 := hide (hs.ke y tk)
  have HK2 := hide (fun W h => keep_c (w.heap.size + 1 + 1 + 1) (keZ [s0, s1, s2, s3, s4, s5] y tk) v tk W h H61.out hv6 htk2)
  have H62 := hide (H61.out.ke v tk)
  go_enter Tryz.func111, Tryz.ntmps111
  go_wp2_with (go_at_call 123; refine (HT.out _).mono ?_; rintro e w' ⟨rfl, rfl⟩)
  have hsb : Blk (((((w.alloc (.cells #[.string tx, .int .i64 act, .int .i64 x, .int .i64 y, .int .i64 v, .int .i64 ck, .int .i64 cn, .int .i64 ch, .int .i64 kd, .int .i64 yes, .int .i64 nwy] 91)).alloc (.cells #[.int .i64 s0, .int .i64 s1, .int .i64 s2, .int .i64 s3, .int .i64 s4, .int .i64 s5] 102)).alloc (.cells #[.int .i64 0, .int .i64 0, .int .i64 0, .int .i64 0, .int .i64 0, .int .i64 0] 102)).alloc (.cells #[.int .i64 s0, .int .i64 s1, .int .i64 s2, .int .i64 s3, .int .i64 s4, .int .i64 s5] 102))) (w.heap.size + 1 + 1 + 1) [.int .i64 s0, .int .i64 s1, .int .i64 s2, .int .i64 s3, .int .i64 s4, .int .i64 s5] 102 := by (repeat' (first | ((with_reducible show (_ : List Value) = _); rfl) | ((with_reducible refine Blk.newAt _ _ _ ?_); first | with_reducible rfl | (simp; done)) | with_reducible refine Blk.alloc ?_ _ | with_reducible refine Blk.drewN ?_ _ | with_reducible refine Blk.drew ?_ | ((with_reducible refine Blk.other ?_ _ ?_); rotate_left; ((try dsimp only); omega)) | with_reducible refine Blk.setB (cs0 := ?_) ?_ ?_))
  have hrb : Blk (((((w.alloc (.cells #[.string tx, .int .i64 act, .int .i64 x, .int .i64 y, .int .i64 v, .int .i64 ck, .int .i64 cn, .int .i64 ch, .int .i64 kd, .int .i64 yes, .int .i64 nwy] 91)).alloc (.cells #[.int .i64 s0, .int .i64 s1, .int .i64 s2, .int .i64 s3, .int .i64 s4, .int .i64 s5] 102)).alloc (.cells #[.int .i64 0, .int .i64 0, .int .i64 0, .int .i64 0, .int .i64 0, .int .i64 0] 102)).alloc (.cells #[.int .i64 s0, .int .i64 s1, .int .i64 s2, .int .i64 s3, .int .i64 s4, .int .i64 s5] 102))) (w.heap.size + 1 + 1) [.int .i64 0, .int .i64 0, .int .i64 0, .int .i64 0, .int .i64 0, .int .i64 0] 102 := by (repeat' (first | ((with_reducible show (_ : List Value) = _); rfl) | ((with_reducible refine Blk.newAt _ _ _ ?_); first | with_reducible rfl | (simp; done)) | with_reducible refine Blk.alloc ?_ _ | with_reducible refine Blk.drewN ?_ _ | with_reducible refine Blk.drew ?_ | ((with_reducible refine Blk.other ?_ _ ?_); rotate_left; ((try dsimp only); omega)) | with_reducible refine Blk.setB (cs0 := ?_) ?_ ?_))
  have hnb : Blk (((((w.alloc (.cells #[.string tx, .int .i64 act, .int .i64 x, .int .i64 y, .int .i64 v, .int .i64 ck, .int .i64 cn, .int .i64 ch, .int .i64 kd, .int .i64 yes, .int .i64 nwy] 91)).alloc (.cells #[.int .i64 s0, .int .i64 s1, .int .i64 s2, .int .i64 s3, .int .i64 s4, .int .i64 s5] 102)).alloc (.cells #[.int .i64 0, .int .i64 0, .int .i64 0, .int .i64 0, .int .i64 0, .int .i64 0] 102)).alloc (.cells #[.int .i64 s0, .int .i64 s1, .int .i64 s2, .int .i64 s3, .int .i64 s4, .int .i64 s5] 102))) w.heap.size [.string tx, .int .i64 act, .int .i64 x, .int .i64 y, .int .i64 v, .int .i64 ck, .int .i64 cn, .int .i64 ch, .int .i64 kd, .int .i64 yes, .int .i64 nwy] 91 := by (repeat' (first | ((with_reducible show (_ : List Value) = _); rfl) | ((with_reducible refine Blk.newAt _ _ _ ?_); first | with_reducible rfl | (simp; done)) | with_reducible refine Blk.alloc ?_ _ | with_reducible refine Blk.drewN ?_ _ | with_reducible refine Blk.drew ?_ | ((with_reducible refine Blk.other ?_ _ ?_); rotate_left; ((try dsimp only); omega)) | with_reducible refine Blk.setB (cs0 := ?_) ?_ ?_))
  have hkk : Kp no w (((((w.alloc (.cells #[.string tx, .int .i64 act, .int .i64 x, .int .i64 y, .int .i64 v, .int .i64 ck, .int .i64 cn, .int .i64 ch, .int .i64 kd, .int .i64 yes, .int .i64 nwy] 91)).alloc (.cells #[.int .i64 s0, .int .i64 s1, .int .i64 s2, .int .i64 s3, .int .i64 s4, .int .i64 s5] 102)).alloc (.cells #[.int .i64 0, .int .i64 0, .int .i64 0, .int .i64 0, .int .i64 0, .int .i64 0] 102)).alloc (.cells #[.int .i64 s0, .int .i64 s1, .int .i64 s2, .int .i64 s3, .int .i64 s4, .int .i64 s5] 102))) := by (repeat' (first | with_reducible exact Kp.refl _ _ | with_reducible refine Kp.alloc ?_ _ | with_reducible refine Kp.drewN ?_ _ | with_reducible refine Kp.drew ?_ | with_reducible refine Kp.setCell ?_ _ ?_ | (intro hh; first | rfl | exact .inl rfl | exact .inr rfl | (exfalso; (try dsimp only at hh); omega))))
  have HA0 := hide (AS.mk hnb hrb hsb : AS _ _ _ [s0, s1, s2, s3, s4, s5])
  have HKK0 := hide hkk
  clear hnb hrb hsb hkk
  refine (HK1.out _ HA0.out.s).mono ?_
  rintro e w1 ⟨rfl, hz1, k1⟩
  have HA1 := hide (HA0.out.ks k1 hz1)
  have HKK1 := hide (HKK0.out.trans k1 (fun z hz e => by omega))
  clear hz1 k1 HA0 HKK0
  obtain ⟨n0, n1, n2, n3, n4, n5, n6, n7, n8, n9, n10, nf⟩ := HA1.out.n.c11; have hnl := HA1.out.n.lt
  go_wp2_with fail
  refine (HK2.out _ HA1.out.s).mono ?_
  rintro e w2 ⟨rfl, hz2, k2⟩
  have HA2 := hide (HA1.out.ks k2 hz2)
  have HKK2 := hide (HKK1.out.trans k2 (fun z hz e => by omega))
  clear hz2 k2 HA1 HKK1
  clear n0 n1 n2 n3 n4 n5 n6 n7 n8 n9 n10 nf hnl
  obtain ⟨n0, n1, n2, n3, n4, n5, n6, n7, n8, n9, n10, nf⟩ := HA2.out.n.c11; have hnl := HA2.out.n.lt
  change Hid (AS _ _ _ (keZ (keZ [s0, s1, s2, s3, s4, s5] y tk) v tk)) at HA2
  generalize hSE : keZ (keZ [s0, s1, s2, s3, s4, s5] y tk) v tk = S3 at *
  have HSE := hide hSE
  clear hSE
  have HA3 := HA2
  have HKK := HKK2
  have H63 := H62
  obtain ⟨t0, t1, t2, t3, t4, t5, hS⟩ := zb_six HA3.out.s H63.out
  rw [hS] at HA3 H63 HSE
  clear hS
  have HXX := hide (fun b W h => exists_c b [t0, t1, t2, t3, t4, t5] W h H63.out)
  go_wp2_with fail
  refine (HXX.out _ _ HA3.out.s).mono ?_
  rintro e w' ⟨rfl, rfl⟩
  cases hE : exS [t0, t1, t2, t3, t4, t5]
  · have HR := hide (show alZ act gi [t0, t1, t2, t3, t4, t5] x y = [t0, t1, t2, t3, t4, t5] by rw [alZ, hE]; rfl)
    clear hE
    obtain ⟨n0, n1, n2, n3, n4, n5, n6, n7, n8, n9, n10, nf⟩ := HA3.out.n.c11; have hnl := HA3.out.n.lt; obtain ⟨c0, c1, c2, c3, c4, c5, cf, cl⟩ := Blk.c6 (HA3.out.s' t0 t1 t2 t3 t4 t5); obtain ⟨d0, d1, d2, d3, d4, d5, df, dl⟩ := HA3.out.r'.c6
    go_wp2
    have hb := HA3.out.r'
    have kk := HKK.out
    refine body_agg (Tb := 102) (b := w.heap.size + 1 + 1) (cs := [.int .i64 t0, .int .i64 t1, .int .i64 t2, .int .i64 t3, .int .i64 t4, .int .i64 t5]) (.inr rfl) Tryz.results111 rfl rfl (by (repeat' (first | ((with_reducible show (_ : List Value) = _); rfl) | with_reducible exact hb | ((with_reducible refine Blk.newAt _ _ _ ?_); first | with_reducible rfl | (simp; done)) | with_reducible refine Blk.alloc ?_ _ | with_reducible refine Blk.drewN ?_ _ | with_reducible refine Blk.drew ?_ | ((with_reducible refine Blk.other ?_ _ ?_); rotate_left; ((try dsimp only); omega)) | with_reducible refine Blk.setB (cs0 := ?_) ?_ ?_))) Tryz.underlying102 rfl (by kernel_rfl) ?_
    rw [HSE.out, HR.out]
    exact ⟨rfl, by (repeat' (first | with_reducible exact Kp.refl _ _ | with_reducible refine Kp.alloc ?_ _ | with_reducible refine Kp.drewN ?_ _ | with_reducible refine Kp.drew ?_ | with_reducible refine Kp.setCell ?_ _ ?_ | with_reducible refine Kp.trans ?_ kk (fun _ _ e => e) | (intro hh; first | rfl | exact .inl rfl | exact .inr rfl | (exfalso; (try dsimp only at hh); omega))))⟩
  · obtain ⟨n0, n1, n2, n3, n4, n5, n6, n7, n8, n9, n10, nf⟩ := HA3.out.n.c11; have hnl := HA3.out.n.lt; obtain ⟨c0, c1, c2, c3, c4, c5, cf, cl⟩ := Blk.c6 (HA3.out.s' t0 t1 t2 t3 t4 t5); obtain ⟨d0, d1, d2, d3, d4, d5, df, dl⟩ := HA3.out.r'.c6
    go_wp2_with fail
    refine (HSV.out _).mono ?_
    rintro e w' ⟨rfl, rfl⟩
    cases hF : setF act
    · have HR := hide (show alZ act gi [t0, t1, t2, t3, t4, t5] x y = [t0, t1, t2, t3, t4, t5] by rw [alZ, hF, Bool.and_false]; rfl)
      clear hE hF
      go_wp2
      have hb := HA3.out.r'
      have kk := HKK.out
      refine body_agg (Tb := 102) (b := w.heap.size + 1 + 1) (cs := [.int .i64 t0, .int .i64 t1, .int .i64 t2, .int .i64 t3, .int .i64 t4, .int .i64 t5]) (.inr rfl) Tryz.results111 rfl rfl (by (repeat' (first | ((with_reducible show (_ : List Value) = _); rfl) | with_reducible exact hb | ((with_reducible refine Blk.newAt _ _ _ ?_); first | with_reducible rfl | (simp; done)) | with_reducible refine Blk.alloc ?_ _ | with_reducible refine Blk.drewN ?_ _ | with_reducible refine Blk.drew ?_ | ((with_reducible refine Blk.other ?_ _ ?_); rotate_left; ((try dsimp only); omega)) | with_reducible refine Blk.setB (cs0 := ?_) ?_ ?_))) Tryz.underlying102 rfl (by kernel_rfl) ?_
      rw [HSE.out, HR.out]
      exact ⟨rfl, by (repeat' (first | with_reducible exact Kp.refl _ _ | with_reducible refine Kp.alloc ?_ _ | with_reducible refine Kp.drewN ?_ _ | with_reducible refine Kp.drew ?_ | with_reducible refine Kp.setCell ?_ _ ?_ | with_reducible refine Kp.trans ?_ kk (fun _ _ e => e) | (intro hh; first | rfl | exact .inl rfl | exact .inr rfl | (exfalso; (try dsimp only at hh); omega))))⟩
    · have HR := hide (show alZ act gi [t0, t1, t2, t3, t4, t5] x y = List.set [t0, t1, t2, t3, t4, t5] x (gi (List.getD [t0, t1, t2, t3, t4, t5] y 0)) by rw [alZ, hE, hF]; rfl)
      have HKO := hide (fun W h => kindsOf_c (w.heap.size + 1 + 1 + 1) [t0, t1, t2, t3, t4, t5] y W h H63.out hy6)
      have HGU := hide (H63.out.get y)
      have H64 := hide (H63.out.set x (hgl _ (H63.out.get y)))
      have HZS := hide (fun W h => zset_c (w.heap.size + 1 + 1 + 1) [t0, t1, t2, t3, t4, t5] x (gi (List.getD [t0, t1, t2, t3, t4, t5] y 0)) W h H63.out hx6)
      clear hE hF
      generalize hgy : List.getD [t0, t1, t2, t3, t4, t5] y 0 = uy at *
      clear hgy
      clear n0 n1 n2 n3 n4 n5 n6 n7 n8 n9 n10 nf hnl c0 c1 c2 c3 c4 c5 cf cl d0 d1 d2 d3 d4 d5 df dl
      obtain ⟨n0, n1, n2, n3, n4, n5, n6, n7, n8, n9, n10, nf⟩ := HA3.out.n.c11; have hnl := HA3.out.n.lt; obtain ⟨c0, c1, c2, c3, c4, c5, cf, cl⟩ := Blk.c6 (HA3.out.s' t0 t1 t2 t3 t4 t5); obtain ⟨d0, d1, d2, d3, d4, d5, df, dl⟩ := HA3.out.r'.c6
      go_wp2_with fail
      refine (HKO.out _ HA3.out.s).mono ?_
      rintro e w' ⟨rfl, rfl⟩
      go_wp2_with fail
      refine (HGV.out uy HGU.out _).mono ?_
      rintro e w7 ⟨rfl, k7⟩
      have HA4 := hide (HA3.out.kn k7)
      have HK4 := hide (HKK.out.trans k7 (fun _ _ e => e))
      clear k7
      clear n0 n1 n2 n3 n4 n5 n6 n7 n8 n9 n10 nf hnl c0 c1 c2 c3 c4 c5 cf cl d0 d1 d2 d3 d4 d5 df dl
      obtain ⟨n0, n1, n2, n3, n4, n5, n6, n7, n8, n9, n10, nf⟩ := HA4.out.n.c11; have hnl := HA4.out.n.lt; obtain ⟨c0, c1, c2, c3, c4, c5, cf, cl⟩ := Blk.c6 (HA4.out.s' t0 t1 t2 t3 t4 t5); obtain ⟨d0, d1, d2, d3, d4, d5, df, dl⟩ := HA4.out.r'.c6
      go_wp2_with fail
      refine (HZS.out _ HA4.out.s).mono ?_
      rintro e w8 ⟨rfl, hz8, k8⟩
      have HA5 := hide (HA4.out.ks k8 hz8)
      have HK5 := hide (HK4.out.trans k8 (fun z hz e => by omega))
      clear hz8 k8
      clear n0 n1 n2 n3 n4 n5 n6 n7 n8 n9 n10 nf hnl c0 c1 c2 c3 c4 c5 cf cl d0 d1 d2 d3 d4 d5 df dl
      obtain ⟨r0, r1, r2, r3, r4, r5, hS⟩ := zb_six HA5.out.s H64.out
      rw [hS] at HA5 H64 HR
      clear hS
      obtain ⟨n0, n1, n2, n3, n4, n5, n6, n7, n8, n9, n10, nf⟩ := HA5.out.n.c11; have hnl := HA5.out.n.lt; obtain ⟨c0, c1, c2, c3, c4, c5, cf, cl⟩ := Blk.c6 (HA5.out.s' r0 r1 r2 r3 r4 r5); obtain ⟨d0, d1, d2, d3, d4, d5, df, dl⟩ := HA5.out.r'.c6
      go_wp2
      have hb := HA5.out.r'
      have kk := HK5.out
      refine body_agg (Tb := 102) (b := w.heap.size + 1 + 1) (cs := [.int .i64 r0, .int .i64 r1, .int .i64 r2, .int .i64 r3, .int .i64 r4, .int .i64 r5]) (.inr rfl) Tryz.results111 rfl rfl (by (repeat' (first | ((with_reducible show (_ : List Value) = _); rfl) | with_reducible exact hb | ((with_reducible refine Blk.newAt _ _ _ ?_); first | with_reducible rfl | (simp; done)) | with_reducible refine Blk.alloc ?_ _ | with_reducible refine Blk.drewN ?_ _ | with_reducible refine Blk.drew ?_ | ((with_reducible refine Blk.other ?_ _ ?_); rotate_left; ((try dsimp only); omega)) | with_reducible refine Blk.setB (cs0 := ?_) ?_ ?_))) Tryz.underlying102 rfl (by kernel_rfl) ?_
      rw [HSE.out, HR.out]
      exact ⟨rfl, by (repeat' (first | with_reducible exact Kp.refl _ _ | with_reducible refine Kp.alloc ?_ _ | with_reducible refine Kp.drewN ?_ _ | with_reducible refine Kp.drew ?_ | with_reducible refine Kp.setCell ?_ _ ?_ | with_reducible refine Kp.trans ?_ kk (fun _ _ e => e) | (intro hh; first | rfl | exact .inl rfl | exact .inr rfl | (exfalso; (try dsimp only at hh); omega))))⟩

set_option maxRecDepth 100000 in
set_option maxHeartbeats 3200000 in
theorem stateAlong_k (tx : ByteArray) (act ck cn ch yes nwy : Int) (x y v kd : Nat) (s0 s1 s2 s3 s4 s5 : Nat) (b : Bool) (w : World) (hs : Z6 [s0, s1, s2, s3, s4, s5]) (hk2 : kd < 128) (hx6 : x < 6) (hy6 : y < 6) (hv6 : v < 6)
    (h0 : 0 ≤ act) (h14 : act ≤ 14) (hn : act = 10) (tk : Nat) (htk : tkM act = (tk : Int)) (htk2 : tk < 128) (gi : Nat → Nat) (hg : ∀ u, u < 128 → giZ act ck u = ((gi u : Nat) : Int)) (hgl : ∀ u, u < 128 → gi u < 128) :
    Calls Tryz.prog 111 #[.agg #[.string tx, .int .i64 act, .int .i64 x, .int .i64 y, .int .i64 v, .int .i64 ck, .int .i64 cn, .int .i64 ch, .int .i64 kd, .int .i64 yes, .int .i64 nwy], zv6 s0 s1 s2 s3 s4 s5, .bool b] w fun e w' => e = .returned (.agg (zc (alZ act gi (keZ (keZ (keZ [s0, s1, s2, s3, s4, s5] y tk) v tk) x kd) x y)).toArray) ∧ Kp no w w' := by
  have HT := hide (fun W => ntakenKinds_c act W)
  rw [htk] at HT
  have HSV := hide (fun W => setsVariable_c act W h0 h14)
  have HGV := hide (fun u hu W => kindsGiven_c ⟨tx, act, x, y, v, ck, cn, ch, kd, yes, nwy⟩ u W hu h0 h14)
  have HGV2 : Hid (∀ u : Nat, u < 128 → ∀ W, Calls Tryz.prog 156 #[.agg #[.string tx, .int .i64 act, .int .i64 x, .int .i64 y, .int .i64 v, .int .i64 ck, .int .i64 cn, .int .i64 ch, .int .i64 kd, .int .i64 yes, .int .i64 nwy], .int .i64 (u : Int)] W fun e w' => e = .returned (.int .i64 (gi u : Nat)) ∧ Kp no W w') := fun u hu W => by
    have := HGV.out u hu W
    rw [show giZ (NN.mk tx act x y v ck cn ch kd yes nwy).act (NN.mk tx act x y v ck cn ch kd yes nwy).ck u = ((gi u : Nat) : Int) from hg u hu] at this
    exact this
  clear HGV
  have HGV := HGV2
  clear HGV2 hg htk
  have g10 : (act == 10) = true := by simp [hn]
  have g11 : (act == 11) = false := by simp [hn]
  clear hn
  have HK1 := hide (fun W h => keep_c (w.heap.size + 1 + 1 + 1) [s0, s1, s2, s3, s4, s5] y tk W h hs hy6 htk2)
  have H61 := hide (hs.ke y tk)
  have HK2 := hide (fun W h => keep_c (w.heap.size + 1 + 1 + 1) (keZ [s0, s1, s2, s3, s4, s5] y tk) v tk W h H61.out hv6 htk2)
  have H62 := hide (H61.out.ke v tk)
  have HK3 := hide (fun W h => keep_c (w.heap.size + 1 + 1 + 1) (keZ (keZ [s0, s1, s2, s3, s4, s5] y tk) v tk) x kd W h H62.out hx6 hk2)
  have H63 := hide (H62.out.ke x kd)
  go_enter Tryz.func111, Tryz.ntmps111
  go_wp2_with (go_at_call 123; refine (HT.out _).mono ?_; rintro e w' ⟨rfl, rfl⟩)
  have hsb : Blk (((((w.alloc (.cells #[.string tx, .int .i64 act, .int .i64 x, .int .i64 y, .int .i64 v, .int .i64 ck, .int .i64 cn, .int .i64 ch, .int .i64 kd, .int .i64 yes, .int .i64 nwy] 91)).alloc (.cells #[.int .i64 s0, .int .i64 s1, .int .i64 s2, .int .i64 s3, .int .i64 s4, .int .i64 s5] 102)).alloc (.cells #[.int .i64 0, .int .i64 0, .int .i64 0, .int .i64 0, .int .i64 0, .int .i64 0] 102)).alloc (.cells #[.int .i64 s0, .int .i64 s1, .int .i64 s2, .int .i64 s3, .int .i64 s4, .int .i64 s5] 102))) (w.heap.size + 1 + 1 + 1) [.int .i64 s0, .int .i64 s1, .int .i64 s2, .int .i64 s3, .int .i64 s4, .int .i64 s5] 102 := by (repeat' (first | ((with_reducible show (_ : List Value) = _); rfl) | ((with_reducible refine Blk.newAt _ _ _ ?_); first | with_reducible rfl | (simp; done)) | with_reducible refine Blk.alloc ?_ _ | with_reducible refine Blk.drewN ?_ _ | with_reducible refine Blk.drew ?_ | ((with_reducible refine Blk.other ?_ _ ?_); rotate_left; ((try dsimp only); omega)) | with_reducible refine Blk.setB (cs0 := ?_) ?_ ?_))
  have hrb : Blk (((((w.alloc (.cells #[.string tx, .int .i64 act, .int .i64 x, .int .i64 y, .int .i64 v, .int .i64 ck, .int .i64 cn, .int .i64 ch, .int .i64 kd, .int .i64 yes, .int .i64 nwy] 91)).alloc (.cells #[.int .i64 s0, .int .i64 s1, .int .i64 s2, .int .i64 s3, .int .i64 s4, .int .i64 s5] 102)).alloc (.cells #[.int .i64 0, .int .i64 0, .int .i64 0, .int .i64 0, .int .i64 0, .int .i64 0] 102)).alloc (.cells #[.int .i64 s0, .int .i64 s1, .int .i64 s2, .int .i64 s3, .int .i64 s4, .int .i64 s5] 102))) (w.heap.size + 1 + 1) [.int .i64 0, .int .i64 0, .int .i64 0, .int .i64 0, .int .i64 0, .int .i64 0] 102 := by (repeat' (first | ((with_reducible show (_ : List Value) = _); rfl) | ((with_reducible refine Blk.newAt _ _ _ ?_); first | with_reducible rfl | (simp; done)) | with_reducible refine Blk.alloc ?_ _ | with_reducible refine Blk.drewN ?_ _ | with_reducible refine Blk.drew ?_ | ((with_reducible refine Blk.other ?_ _ ?_); rotate_left; ((try dsimp only); omega)) | with_reducible refine Blk.setB (cs0 := ?_) ?_ ?_))
  have hnb : Blk (((((w.alloc (.cells #[.string tx, .int .i64 act, .int .i64 x, .int .i64 y, .int .i64 v, .int .i64 ck, .int .i64 cn, .int .i64 ch, .int .i64 kd, .int .i64 yes, .int .i64 nwy] 91)).alloc (.cells #[.int .i64 s0, .int .i64 s1, .int .i64 s2, .int .i64 s3, .int .i64 s4, .int .i64 s5] 102)).alloc (.cells #[.int .i64 0, .int .i64 0, .int .i64 0, .int .i64 0, .int .i64 0, .int .i64 0] 102)).alloc (.cells #[.int .i64 s0, .int .i64 s1, .int .i64 s2, .int .i64 s3, .int .i64 s4, .int .i64 s5] 102))) w.heap.size [.string tx, .int .i64 act, .int .i64 x, .int .i64 y, .int .i64 v, .int .i64 ck, .int .i64 cn, .int .i64 ch, .int .i64 kd, .int .i64 yes, .int .i64 nwy] 91 := by (repeat' (first | ((with_reducible show (_ : List Value) = _); rfl) | ((with_reducible refine Blk.newAt _ _ _ ?_); first | with_reducible rfl | (simp; done)) | with_reducible refine Blk.alloc ?_ _ | with_reducible refine Blk.drewN ?_ _ | with_reducible refine Blk.drew ?_ | ((with_reducible refine Blk.other ?_ _ ?_); rotate_left; ((try dsimp only); omega)) | with_reducible refine Blk.setB (cs0 := ?_) ?_ ?_))
  have hkk : Kp no w (((((w.alloc (.cells #[.string tx, .int .i64 act, .int .i64 x, .int .i64 y, .int .i64 v, .int .i64 ck, .int .i64 cn, .int .i64 ch, .int .i64 kd, .int .i64 yes, .int .i64 nwy] 91)).alloc (.cells #[.int .i64 s0, .int .i64 s1, .int .i64 s2, .int .i64 s3, .int .i64 s4, .int .i64 s5] 102)).alloc (.cells #[.int .i64 0, .int .i64 0, .int .i64 0, .int .i64 0, .int .i64 0, .int .i64 0] 102)).alloc (.cells #[.int .i64 s0, .int .i64 s1, .int .i64 s2, .int .i64 s3, .int .i64 s4, .int .i64 s5] 102))) := by (repeat' (first | with_reducible exact Kp.refl _ _ | with_reducible refine Kp.alloc ?_ _ | with_reducible refine Kp.drewN ?_ _ | with_reducible refine Kp.drew ?_ | with_reducible refine Kp.setCell ?_ _ ?_ | (intro hh; first | rfl | exact .inl rfl | exact .inr rfl | (exfalso; (try dsimp only at hh); omega))))
  have HA0 := hide (AS.mk hnb hrb hsb : AS _ _ _ [s0, s1, s2, s3, s4, s5])
  have HKK0 := hide hkk
  clear hnb hrb hsb hkk
  refine (HK1.out _ HA0.out.s).mono ?_
  rintro e w1 ⟨rfl, hz1, k1⟩
  have HA1 := hide (HA0.out.ks k1 hz1)
  have HKK1 := hide (HKK0.out.trans k1 (fun z hz e => by omega))
  clear hz1 k1 HA0 HKK0
  obtain ⟨n0, n1, n2, n3, n4, n5, n6, n7, n8, n9, n10, nf⟩ := HA1.out.n.c11; have hnl := HA1.out.n.lt
  go_wp2_with fail
  refine (HK2.out _ HA1.out.s).mono ?_
  rintro e w2 ⟨rfl, hz2, k2⟩
  have HA2 := hide (HA1.out.ks k2 hz2)
  have HKK2 := hide (HKK1.out.trans k2 (fun z hz e => by omega))
  clear hz2 k2 HA1 HKK1
  clear n0 n1 n2 n3 n4 n5 n6 n7 n8 n9 n10 nf hnl
  obtain ⟨n0, n1, n2, n3, n4, n5, n6, n7, n8, n9, n10, nf⟩ := HA2.out.n.c11; have hnl := HA2.out.n.lt
  change Hid (AS _ _ _ (keZ (keZ [s0, s1, s2, s3, s4, s5] y tk) v tk)) at HA2
  go_wp2_with fail
  refine (HK3.out _ HA2.out.s).mono ?_
  rintro e w3 ⟨rfl, hz3, k3⟩
  have HA3 := hide (HA2.out.ks k3 hz3)
  have HKK := hide (HKK2.out.trans k3 (fun z hz e => by omega))
  clear hz3 k3 HA2 HKK2
  clear n0 n1 n2 n3 n4 n5 n6 n7 n8 n9 n10 nf hnl
  change Hid (AS _ _ _ (keZ (keZ (keZ [s0, s1, s2, s3, s4, s5] y tk) v tk) x kd)) at HA3
  generalize hSE : keZ (keZ (keZ [s0, s1, s2, s3, s4, s5] y tk) v tk) x kd = S3 at *
  have HSE := hide hSE
  clear hSE
  obtain ⟨t0, t1, t2, t3, t4, t5, hS⟩ := zb_six HA3.out.s H63.out
  rw [hS] at HA3 H63 HSE
  clear hS
  have HXX := hide (fun b W h => exists_c b [t0, t1, t2, t3, t4, t5] W h H63.out)
  go_wp2_with fail
  refine (HXX.out _ _ HA3.out.s).mono ?_
  rintro e w' ⟨rfl, rfl⟩
  cases hE : exS [t0, t1, t2, t3, t4, t5]
  · have HR := hide (show alZ act gi [t0, t1, t2, t3, t4, t5] x y = [t0, t1, t2, t3, t4, t5] by rw [alZ, hE]; rfl)
    clear hE
    obtain ⟨n0, n1, n2, n3, n4, n5, n6, n7, n8, n9, n10, nf⟩ := HA3.out.n.c11; have hnl := HA3.out.n.lt; obtain ⟨c0, c1, c2, c3, c4, c5, cf, cl⟩ := Blk.c6 (HA3.out.s' t0 t1 t2 t3 t4 t5); obtain ⟨d0, d1, d2, d3, d4, d5, df, dl⟩ := HA3.out.r'.c6
    go_wp2
    have hb := HA3.out.r'
    have kk := HKK.out
    refine body_agg (Tb := 102) (b := w.heap.size + 1 + 1) (cs := [.int .i64 t0, .int .i64 t1, .int .i64 t2, .int .i64 t3, .int .i64 t4, .int .i64 t5]) (.inr rfl) Tryz.results111 rfl rfl (by (repeat' (first | ((with_reducible show (_ : List Value) = _); rfl) | with_reducible exact hb | ((with_reducible refine Blk.newAt _ _ _ ?_); first | with_reducible rfl | (simp; done)) | with_reducible refine Blk.alloc ?_ _ | with_reducible refine Blk.drewN ?_ _ | with_reducible refine Blk.drew ?_ | ((with_reducible refine Blk.other ?_ _ ?_); rotate_left; ((try dsimp only); omega)) | with_reducible refine Blk.setB (cs0 := ?_) ?_ ?_))) Tryz.underlying102 rfl (by kernel_rfl) ?_
    rw [HSE.out, HR.out]
    exact ⟨rfl, by (repeat' (first | with_reducible exact Kp.refl _ _ | with_reducible refine Kp.alloc ?_ _ | with_reducible refine Kp.drewN ?_ _ | with_reducible refine Kp.drew ?_ | with_reducible refine Kp.setCell ?_ _ ?_ | with_reducible refine Kp.trans ?_ kk (fun _ _ e => e) | (intro hh; first | rfl | exact .inl rfl | exact .inr rfl | (exfalso; (try dsimp only at hh); omega))))⟩
  · obtain ⟨n0, n1, n2, n3, n4, n5, n6, n7, n8, n9, n10, nf⟩ := HA3.out.n.c11; have hnl := HA3.out.n.lt; obtain ⟨c0, c1, c2, c3, c4, c5, cf, cl⟩ := Blk.c6 (HA3.out.s' t0 t1 t2 t3 t4 t5); obtain ⟨d0, d1, d2, d3, d4, d5, df, dl⟩ := HA3.out.r'.c6
    go_wp2_with fail
    refine (HSV.out _).mono ?_
    rintro e w' ⟨rfl, rfl⟩
    cases hF : setF act
    · have HR := hide (show alZ act gi [t0, t1, t2, t3, t4, t5] x y = [t0, t1, t2, t3, t4, t5] by rw [alZ, hF, Bool.and_false]; rfl)
      clear hE hF
      go_wp2
      have hb := HA3.out.r'
      have kk := HKK.out
      refine body_agg (Tb := 102) (b := w.heap.size + 1 + 1) (cs := [.int .i64 t0, .int .i64 t1, .int .i64 t2, .int .i64 t3, .int .i64 t4, .int .i64 t5]) (.inr rfl) Tryz.results111 rfl rfl (by (repeat' (first | ((with_reducible show (_ : List Value) = _); rfl) | with_reducible exact hb | ((with_reducible refine Blk.newAt _ _ _ ?_); first | with_reducible rfl | (simp; done)) | with_reducible refine Blk.alloc ?_ _ | with_reducible refine Blk.drewN ?_ _ | with_reducible refine Blk.drew ?_ | ((with_reducible refine Blk.other ?_ _ ?_); rotate_left; ((try dsimp only); omega)) | with_reducible refine Blk.setB (cs0 := ?_) ?_ ?_))) Tryz.underlying102 rfl (by kernel_rfl) ?_
      rw [HSE.out, HR.out]
      exact ⟨rfl, by (repeat' (first | with_reducible exact Kp.refl _ _ | with_reducible refine Kp.alloc ?_ _ | with_reducible refine Kp.drewN ?_ _ | with_reducible refine Kp.drew ?_ | with_reducible refine Kp.setCell ?_ _ ?_ | with_reducible refine Kp.trans ?_ kk (fun _ _ e => e) | (intro hh; first | rfl | exact .inl rfl | exact .inr rfl | (exfalso; (try dsimp only at hh); omega))))⟩
    · have HR := hide (show alZ act gi [t0, t1, t2, t3, t4, t5] x y = List.set [t0, t1, t2, t3, t4, t5] x (gi (List.getD [t0, t1, t2, t3, t4, t5] y 0)) by rw [alZ, hE, hF]; rfl)
      have HKO := hide (fun W h => kindsOf_c (w.heap.size + 1 + 1 + 1) [t0, t1, t2, t3, t4, t5] y W h H63.out hy6)
      have HGU := hide (H63.out.get y)
      have H64 := hide (H63.out.set x (hgl _ (H63.out.get y)))
      have HZS := hide (fun W h => zset_c (w.heap.size + 1 + 1 + 1) [t0, t1, t2, t3, t4, t5] x (gi (List.getD [t0, t1, t2, t3, t4, t5] y 0)) W h H63.out hx6)
      clear hE hF
      generalize hgy : List.getD [t0, t1, t2, t3, t4, t5] y 0 = uy at *
      clear hgy
      clear n0 n1 n2 n3 n4 n5 n6 n7 n8 n9 n10 nf hnl c0 c1 c2 c3 c4 c5 cf cl d0 d1 d2 d3 d4 d5 df dl
      obtain ⟨n0, n1, n2, n3, n4, n5, n6, n7, n8, n9, n10, nf⟩ := HA3.out.n.c11; have hnl := HA3.out.n.lt; obtain ⟨c0, c1, c2, c3, c4, c5, cf, cl⟩ := Blk.c6 (HA3.out.s' t0 t1 t2 t3 t4 t5); obtain ⟨d0, d1, d2, d3, d4, d5, df, dl⟩ := HA3.out.r'.c6
      go_wp2_with fail
      refine (HKO.out _ HA3.out.s).mono ?_
      rintro e w' ⟨rfl, rfl⟩
      go_wp2_with fail
      refine (HGV.out uy HGU.out _).mono ?_
      rintro e w7 ⟨rfl, k7⟩
      have HA4 := hide (HA3.out.kn k7)
      have HK4 := hide (HKK.out.trans k7 (fun _ _ e => e))
      clear k7
      clear n0 n1 n2 n3 n4 n5 n6 n7 n8 n9 n10 nf hnl c0 c1 c2 c3 c4 c5 cf cl d0 d1 d2 d3 d4 d5 df dl
      obtain ⟨n0, n1, n2, n3, n4, n5, n6, n7, n8, n9, n10, nf⟩ := HA4.out.n.c11; have hnl := HA4.out.n.lt; obtain ⟨c0, c1, c2, c3, c4, c5, cf, cl⟩ := Blk.c6 (HA4.out.s' t0 t1 t2 t3 t4 t5); obtain ⟨d0, d1, d2, d3, d4, d5, df, dl⟩ := HA4.out.r'.c6
      go_wp2_with fail
      refine (HZS.out _ HA4.out.s).mono ?_
      rintro e w8 ⟨rfl, hz8, k8⟩
      have HA5 := hide (HA4.out.ks k8 hz8)
      have HK5 := hide (HK4.out.trans k8 (fun z hz e => by omega))
      clear hz8 k8
      clear n0 n1 n2 n3 n4 n5 n6 n7 n8 n9 n10 nf hnl c0 c1 c2 c3 c4 c5 cf cl d0 d1 d2 d3 d4 d5 df dl
      obtain ⟨r0, r1, r2, r3, r4, r5, hS⟩ := zb_six HA5.out.s H64.out
      rw [hS] at HA5 H64 HR
      clear hS
      obtain ⟨n0, n1, n2, n3, n4, n5, n6, n7, n8, n9, n10, nf⟩ := HA5.out.n.c11; have hnl := HA5.out.n.lt; obtain ⟨c0, c1, c2, c3, c4, c5, cf, cl⟩ := Blk.c6 (HA5.out.s' r0 r1 r2 r3 r4 r5); obtain ⟨d0, d1, d2, d3, d4, d5, df, dl⟩ := HA5.out.r'.c6
      go_wp2
      have hb := HA5.out.r'
      have kk := HK5.out
      refine body_agg (Tb := 102) (b := w.heap.size + 1 + 1) (cs := [.int .i64 r0, .int .i64 r1, .int .i64 r2, .int .i64 r3, .int .i64 r4, .int .i64 r5]) (.inr rfl) Tryz.results111 rfl rfl (by (repeat' (first | ((with_reducible show (_ : List Value) = _); rfl) | with_reducible exact hb | ((with_reducible refine Blk.newAt _ _ _ ?_); first | with_reducible rfl | (simp; done)) | with_reducible refine Blk.alloc ?_ _ | with_reducible refine Blk.drewN ?_ _ | with_reducible refine Blk.drew ?_ | ((with_reducible refine Blk.other ?_ _ ?_); rotate_left; ((try dsimp only); omega)) | with_reducible refine Blk.setB (cs0 := ?_) ?_ ?_))) Tryz.underlying102 rfl (by kernel_rfl) ?_
      rw [HSE.out, HR.out]
      exact ⟨rfl, by (repeat' (first | with_reducible exact Kp.refl _ _ | with_reducible refine Kp.alloc ?_ _ | with_reducible refine Kp.drewN ?_ _ | with_reducible refine Kp.drew ?_ | with_reducible refine Kp.setCell ?_ _ ?_ | with_reducible refine Kp.trans ?_ kk (fun _ _ e => e) | (intro hh; first | rfl | exact .inl rfl | exact .inr rfl | (exfalso; (try dsimp only at hh); omega))))⟩

set_option maxRecDepth 100000 in
set_option maxHeartbeats 3200000 in
theorem stateAlong_t (tx : ByteArray) (act ck cn ch yes nwy : Int) (x y v kd : Nat) (s0 s1 s2 s3 s4 s5 : Nat) (b : Bool) (w : World) (hs : Z6 [s0, s1, s2, s3, s4, s5]) (hk2 : kd < 128) (hx6 : x < 6) (hy6 : y < 6) (hv6 : v < 6)
    (h0 : 0 ≤ act) (h14 : act ≤ 14) (hn : act = 12 ∨ act = 13) (tk : Nat) (htk : tkM act = (tk : Int)) (htk2 : tk < 128) (gi : Nat → Nat) (hg : ∀ u, u < 128 → giZ act ck u = ((gi u : Nat) : Int)) (hgl : ∀ u, u < 128 → gi u < 128) :
    Calls Tryz.prog 111 #[.agg #[.string tx, .int .i64 act, .int .i64 x, .int .i64 y, .int .i64 v, .int .i64 ck, .int .i64 cn, .int .i64 ch, .int .i64 kd, .int .i64 yes, .int .i64 nwy], zv6 s0 s1 s2 s3 s4 s5, .bool b] w fun e w' => e = .returned (.agg (zc (alZ act gi (keZ (keZ (keZ [s0, s1, s2, s3, s4, s5] y tk) v tk) y (waZ act kd b)) x y)).toArray) ∧ Kp no w w' := by
  have HT := hide (fun W => ntakenKinds_c act W)
  rw [htk] at HT
  have HSV := hide (fun W => setsVariable_c act W h0 h14)
  have HGV := hide (fun u hu W => kindsGiven_c ⟨tx, act, x, y, v, ck, cn, ch, kd, yes, nwy⟩ u W hu h0 h14)
  have HGV2 : Hid (∀ u : Nat, u < 128 → ∀ W, Calls Tryz.prog 156 #[.agg #[.string tx, .int .i64 act, .int .i64 x, .int .i64 y, .int .i64 v, .int .i64 ck, .int .i64 cn, .int .i64 ch, .int .i64 kd, .int .i64 yes, .int .i64 nwy], .int .i64 (u : Int)] W fun e w' => e = .returned (.int .i64 (gi u : Nat)) ∧ Kp no W w') := fun u hu W => by
    have := HGV.out u hu W
    rw [show giZ (NN.mk tx act x y v ck cn ch kd yes nwy).act (NN.mk tx act x y v ck cn ch kd yes nwy).ck u = ((gi u : Nat) : Int) from hg u hu] at this
    exact this
  clear HGV
  have HGV := HGV2
  clear HGV2 hg htk
  have g10 : (act == 10) = false := by rcases hn with e | e <;> simp [e]
  have g11 : (act == 11) = false := by rcases hn with e | e <;> simp [e]
  have gt : ((act == 12) = true) ∨ ((act == 12) = false ∧ (act == 13) = true) := by
    rcases hn with e | e
    · exact .inl (by simp [e])
    · exact .inr ⟨by simp [e], by simp [e]⟩
  have HKA := hide (fun W => kindsAlong_c ⟨tx, act, x, y, v, ck, cn, ch, kd, yes, nwy⟩ kd b W rfl hk2 hn)
  dsimp only at HKA
  have HWL := hide (waZ_lt act kd b hk2)
  have HK1 := hide (fun W h => keep_c (w.heap.size + 1 + 1 + 1) [s0, s1, s2, s3, s4, s5] y tk W h hs hy6 htk2)
  have H61 := hide (hs.ke y tk)
  have HK2 := hide (fun W h => keep_c (w.heap.size + 1 + 1 + 1) (keZ [s0, s1, s2, s3, s4, s5] y tk) v tk W h H61.out hv6 htk2)
  have H62 := hide (H61.out.ke v tk)
  have HK3 := hide (fun W h => keep_c (w.heap.size + 1 + 1 + 1) (keZ (keZ [s0, s1, s2, s3, s4, s5] y tk) v tk) y (waZ act kd b) W h H62.out hy6 HWL.out)
  have H63 := hide (H62.out.ke y (waZ act kd b))
  go_enter Tryz.func111, Tryz.ntmps111
  go_wp2_with (go_at_call 123; refine (HT.out _).mono ?_; rintro e w' ⟨rfl, rfl⟩)
  have hsb : Blk (((((w.alloc (.cells #[.string tx, .int .i64 act, .int .i64 x, .int .i64 y, .int .i64 v, .int .i64 ck, .int .i64 cn, .int .i64 ch, .int .i64 kd, .int .i64 yes, .int .i64 nwy] 91)).alloc (.cells #[.int .i64 s0, .int .i64 s1, .int .i64 s2, .int .i64 s3, .int .i64 s4, .int .i64 s5] 102)).alloc (.cells #[.int .i64 0, .int .i64 0, .int .i64 0, .int .i64 0, .int .i64 0, .int .i64 0] 102)).alloc (.cells #[.int .i64 s0, .int .i64 s1, .int .i64 s2, .int .i64 s3, .int .i64 s4, .int .i64 s5] 102))) (w.heap.size + 1 + 1 + 1) [.int .i64 s0, .int .i64 s1, .int .i64 s2, .int .i64 s3, .int .i64 s4, .int .i64 s5] 102 := by (repeat' (first | ((with_reducible show (_ : List Value) = _); rfl) | ((with_reducible refine Blk.newAt _ _ _ ?_); first | with_reducible rfl | (simp; done)) | with_reducible refine Blk.alloc ?_ _ | with_reducible refine Blk.drewN ?_ _ | with_reducible refine Blk.drew ?_ | ((with_reducible refine Blk.other ?_ _ ?_); rotate_left; ((try dsimp only); omega)) | with_reducible refine Blk.setB (cs0 := ?_) ?_ ?_))
  have hrb : Blk (((((w.alloc (.cells #[.string tx, .int .i64 act, .int .i64 x, .int .i64 y, .int .i64 v, .int .i64 ck, .int .i64 cn, .int .i64 ch, .int .i64 kd, .int .i64 yes, .int .i64 nwy] 91)).alloc (.cells #[.int .i64 s0, .int .i64 s1, .int .i64 s2, .int .i64 s3, .int .i64 s4, .int .i64 s5] 102)).alloc (.cells #[.int .i64 0, .int .i64 0, .int .i64 0, .int .i64 0, .int .i64 0, .int .i64 0] 102)).alloc (.cells #[.int .i64 s0, .int .i64 s1, .int .i64 s2, .int .i64 s3, .int .i64 s4, .int .i64 s5] 102))) (w.heap.size + 1 + 1) [.int .i64 0, .int .i64 0, .int .i64 0, .int .i64 0, .int .i64 0, .int .i64 0] 102 := by (repeat' (first | ((with_reducible show (_ : List Value) = _); rfl) | ((with_reducible refine Blk.newAt _ _ _ ?_); first | with_reducible rfl | (simp; done)) | with_reducible refine Blk.alloc ?_ _ | with_reducible refine Blk.drewN ?_ _ | with_reducible refine Blk.drew ?_ | ((with_reducible refine Blk.other ?_ _ ?_); rotate_left; ((try dsimp only); omega)) | with_reducible refine Blk.setB (cs0 := ?_) ?_ ?_))
  have hnb : Blk (((((w.alloc (.cells #[.string tx, .int .i64 act, .int .i64 x, .int .i64 y, .int .i64 v, .int .i64 ck, .int .i64 cn, .int .i64 ch, .int .i64 kd, .int .i64 yes, .int .i64 nwy] 91)).alloc (.cells #[.int .i64 s0, .int .i64 s1, .int .i64 s2, .int .i64 s3, .int .i64 s4, .int .i64 s5] 102)).alloc (.cells #[.int .i64 0, .int .i64 0, .int .i64 0, .int .i64 0, .int .i64 0, .int .i64 0] 102)).alloc (.cells #[.int .i64 s0, .int .i64 s1, .int .i64 s2, .int .i64 s3, .int .i64 s4, .int .i64 s5] 102))) w.heap.size [.string tx, .int .i64 act, .int .i64 x, .int .i64 y, .int .i64 v, .int .i64 ck, .int .i64 cn, .int .i64 ch, .int .i64 kd, .int .i64 yes, .int .i64 nwy] 91 := by (repeat' (first | ((with_reducible show (_ : List Value) = _); rfl) | ((with_reducible refine Blk.newAt _ _ _ ?_); first | with_reducible rfl | (simp; done)) | with_reducible refine Blk.alloc ?_ _ | with_reducible refine Blk.drewN ?_ _ | with_reducible refine Blk.drew ?_ | ((with_reducible refine Blk.other ?_ _ ?_); rotate_left; ((try dsimp only); omega)) | with_reducible refine Blk.setB (cs0 := ?_) ?_ ?_))
  have hkk : Kp no w (((((w.alloc (.cells #[.string tx, .int .i64 act, .int .i64 x, .int .i64 y, .int .i64 v, .int .i64 ck, .int .i64 cn, .int .i64 ch, .int .i64 kd, .int .i64 yes, .int .i64 nwy] 91)).alloc (.cells #[.int .i64 s0, .int .i64 s1, .int .i64 s2, .int .i64 s3, .int .i64 s4, .int .i64 s5] 102)).alloc (.cells #[.int .i64 0, .int .i64 0, .int .i64 0, .int .i64 0, .int .i64 0, .int .i64 0] 102)).alloc (.cells #[.int .i64 s0, .int .i64 s1, .int .i64 s2, .int .i64 s3, .int .i64 s4, .int .i64 s5] 102))) := by (repeat' (first | with_reducible exact Kp.refl _ _ | with_reducible refine Kp.alloc ?_ _ | with_reducible refine Kp.drewN ?_ _ | with_reducible refine Kp.drew ?_ | with_reducible refine Kp.setCell ?_ _ ?_ | (intro hh; first | rfl | exact .inl rfl | exact .inr rfl | (exfalso; (try dsimp only at hh); omega))))
  have HA0 := hide (AS.mk hnb hrb hsb : AS _ _ _ [s0, s1, s2, s3, s4, s5])
  have HKK0 := hide hkk
  clear hnb hrb hsb hkk
  refine (HK1.out _ HA0.out.s).mono ?_
  rintro e w1 ⟨rfl, hz1, k1⟩
  have HA1 := hide (HA0.out.ks k1 hz1)
  have HKK1 := hide (HKK0.out.trans k1 (fun z hz e => by omega))
  clear hz1 k1 HA0 HKK0
  obtain ⟨n0, n1, n2, n3, n4, n5, n6, n7, n8, n9, n10, nf⟩ := HA1.out.n.c11; have hnl := HA1.out.n.lt
  go_wp2_with fail
  refine (HK2.out _ HA1.out.s).mono ?_
  rintro e w2 ⟨rfl, hz2, k2⟩
  have HA2 := hide (HA1.out.ks k2 hz2)
  have HKK2 := hide (HKK1.out.trans k2 (fun z hz e => by omega))
  clear hz2 k2 HA1 HKK1
  clear n0 n1 n2 n3 n4 n5 n6 n7 n8 n9 n10 nf hnl
  obtain ⟨n0, n1, n2, n3, n4, n5, n6, n7, n8, n9, n10, nf⟩ := HA2.out.n.c11; have hnl := HA2.out.n.lt
  change Hid (AS _ _ _ (keZ (keZ [s0, s1, s2, s3, s4, s5] y tk) v tk)) at HA2
  rcases gt with g12 | ⟨g12, g13⟩
  all_goals
    go_wp2_with fail
    refine (HKA.out _).mono ?_
    rintro e w9 ⟨rfl, k9⟩
    have HA9 := hide (HA2.out.kn k9)
    have HKK9 := hide (HKK2.out.trans k9 (fun _ _ e => e))
    clear k9 HA2 HKK2
    clear n0 n1 n2 n3 n4 n5 n6 n7 n8 n9 n10 nf hnl
    obtain ⟨n0, n1, n2, n3, n4, n5, n6, n7, n8, n9, n10, nf⟩ := HA9.out.n.c11; have hnl := HA9.out.n.lt
    go_wp2_with fail
    refine (HK3.out _ HA9.out.s).mono ?_
    rintro e w3 ⟨rfl, hz3, k3⟩
    have HA3 := hide (HA9.out.ks k3 hz3)
    have HKK := hide (HKK9.out.trans k3 (fun z hz e => by omega))
    clear hz3 k3 HA9 HKK9
    clear n0 n1 n2 n3 n4 n5 n6 n7 n8 n9 n10 nf hnl
    change Hid (AS _ _ _ (keZ (keZ (keZ [s0, s1, s2, s3, s4, s5] y tk) v tk) y (waZ act kd b))) at HA3
    generalize hSE : keZ (keZ (keZ [s0, s1, s2, s3, s4, s5] y tk) v tk) y (waZ act kd b) = S3 at *
    have HSE := hide hSE
    clear hSE
    obtain ⟨t0, t1, t2, t3, t4, t5, hS⟩ := zb_six HA3.out.s H63.out
    rw [hS] at HA3 H63 HSE
    clear hS
    have HXX := hide (fun b W h => exists_c b [t0, t1, t2, t3, t4, t5] W h H63.out)
    go_wp2_with fail
    refine (HXX.out _ _ HA3.out.s).mono ?_
    rintro e w' ⟨rfl, rfl⟩
    cases hE : exS [t0, t1, t2, t3, t4, t5]
    · have HR := hide (show alZ act gi [t0, t1, t2, t3, t4, t5] x y = [t0, t1, t2, t3, t4, t5] by rw [alZ, hE]; rfl)
      clear hE
      obtain ⟨n0, n1, n2, n3, n4, n5, n6, n7, n8, n9, n10, nf⟩ := HA3.out.n.c11; have hnl := HA3.out.n.lt; obtain ⟨c0, c1, c2, c3, c4, c5, cf, cl⟩ := Blk.c6 (HA3.out.s' t0 t1 t2 t3 t4 t5); obtain ⟨d0, d1, d2, d3, d4, d5, df, dl⟩ := HA3.out.r'.c6
      go_wp2
      have hb := HA3.out.r'
      have kk := HKK.out
      refine body_agg (Tb := 102) (b := w.heap.size + 1 + 1) (cs := [.int .i64 t0, .int .i64 t1, .int .i64 t2, .int .i64 t3, .int .i64 t4, .int .i64 t5]) (.inr rfl) Tryz.results111 rfl rfl (by (repeat' (first | ((with_reducible show (_ : List Value) = _); rfl) | with_reducible exact hb | ((with_reducible refine Blk.newAt _ _ _ ?_); first | with_reducible rfl | (simp; done)) | with_reducible refine Blk.alloc ?_ _ | with_reducible refine Blk.drewN ?_ _ | with_reducible refine Blk.drew ?_ | ((with_reducible refine Blk.other ?_ _ ?_); rotate_left; ((try dsimp only); omega)) | with_reducible refine Blk.setB (cs0 := ?_) ?_ ?_))) Tryz.underlying102 rfl (by kernel_rfl) ?_
      rw [HSE.out, HR.out]
      exact ⟨rfl, by (repeat' (first | with_reducible exact Kp.refl _ _ | with_reducible refine Kp.alloc ?_ _ | with_reducible refine Kp.drewN ?_ _ | with_reducible refine Kp.drew ?_ | with_reducible refine Kp.setCell ?_ _ ?_ | with_reducible refine Kp.trans ?_ kk (fun _ _ e => e) | (intro hh; first | rfl | exact .inl rfl | exact .inr rfl | (exfalso; (try dsimp only at hh); omega))))⟩
    · obtain ⟨n0, n1, n2, n3, n4, n5, n6, n7, n8, n9, n10, nf⟩ := HA3.out.n.c11; have hnl := HA3.out.n.lt; obtain ⟨c0, c1, c2, c3, c4, c5, cf, cl⟩ := Blk.c6 (HA3.out.s' t0 t1 t2 t3 t4 t5); obtain ⟨d0, d1, d2, d3, d4, d5, df, dl⟩ := HA3.out.r'.c6
      go_wp2_with fail
      refine (HSV.out _).mono ?_
      rintro e w' ⟨rfl, rfl⟩
      cases hF : setF act
      · have HR := hide (show alZ act gi [t0, t1, t2, t3, t4, t5] x y = [t0, t1, t2, t3, t4, t5] by rw [alZ, hF, Bool.and_false]; rfl)
        clear hE hF
        go_wp2
        have hb := HA3.out.r'
        have kk := HKK.out
        refine body_agg (Tb := 102) (b := w.heap.size + 1 + 1) (cs := [.int .i64 t0, .int .i64 t1, .int .i64 t2, .int .i64 t3, .int .i64 t4, .int .i64 t5]) (.inr rfl) Tryz.results111 rfl rfl (by (repeat' (first | ((with_reducible show (_ : List Value) = _); rfl) | with_reducible exact hb | ((with_reducible refine Blk.newAt _ _ _ ?_); first | with_reducible rfl | (simp; done)) | with_reducible refine Blk.alloc ?_ _ | with_reducible refine Blk.drewN ?_ _ | with_reducible refine Blk.drew ?_ | ((with_reducible refine Blk.other ?_ _ ?_); rotate_left; ((try dsimp only); omega)) | with_reducible refine Blk.setB (cs0 := ?_) ?_ ?_))) Tryz.underlying102 rfl (by kernel_rfl) ?_
        rw [HSE.out, HR.out]
        exact ⟨rfl, by (repeat' (first | with_reducible exact Kp.refl _ _ | with_reducible refine Kp.alloc ?_ _ | with_reducible refine Kp.drewN ?_ _ | with_reducible refine Kp.drew ?_ | with_reducible refine Kp.setCell ?_ _ ?_ | with_reducible refine Kp.trans ?_ kk (fun _ _ e => e) | (intro hh; first | rfl | exact .inl rfl | exact .inr rfl | (exfalso; (try dsimp only at hh); omega))))⟩
      · have HR := hide (show alZ act gi [t0, t1, t2, t3, t4, t5] x y = List.set [t0, t1, t2, t3, t4, t5] x (gi (List.getD [t0, t1, t2, t3, t4, t5] y 0)) by rw [alZ, hE, hF]; rfl)
        have HKO := hide (fun W h => kindsOf_c (w.heap.size + 1 + 1 + 1) [t0, t1, t2, t3, t4, t5] y W h H63.out hy6)
        have HGU := hide (H63.out.get y)
        have H64 := hide (H63.out.set x (hgl _ (H63.out.get y)))
        have HZS := hide (fun W h => zset_c (w.heap.size + 1 + 1 + 1) [t0, t1, t2, t3, t4, t5] x (gi (List.getD [t0, t1, t2, t3, t4, t5] y 0)) W h H63.out hx6)
        clear hE hF
        generalize hgy : List.getD [t0, t1, t2, t3, t4, t5] y 0 = uy at *
        clear hgy
        clear n0 n1 n2 n3 n4 n5 n6 n7 n8 n9 n10 nf hnl c0 c1 c2 c3 c4 c5 cf cl d0 d1 d2 d3 d4 d5 df dl
        obtain ⟨n0, n1, n2, n3, n4, n5, n6, n7, n8, n9, n10, nf⟩ := HA3.out.n.c11; have hnl := HA3.out.n.lt; obtain ⟨c0, c1, c2, c3, c4, c5, cf, cl⟩ := Blk.c6 (HA3.out.s' t0 t1 t2 t3 t4 t5); obtain ⟨d0, d1, d2, d3, d4, d5, df, dl⟩ := HA3.out.r'.c6
        go_wp2_with fail
        refine (HKO.out _ HA3.out.s).mono ?_
        rintro e w' ⟨rfl, rfl⟩
        go_wp2_with fail
        refine (HGV.out uy HGU.out _).mono ?_
        rintro e w7 ⟨rfl, k7⟩
        have HA4 := hide (HA3.out.kn k7)
        have HK4 := hide (HKK.out.trans k7 (fun _ _ e => e))
        clear k7
        clear n0 n1 n2 n3 n4 n5 n6 n7 n8 n9 n10 nf hnl c0 c1 c2 c3 c4 c5 cf cl d0 d1 d2 d3 d4 d5 df dl
        obtain ⟨n0, n1, n2, n3, n4, n5, n6, n7, n8, n9, n10, nf⟩ := HA4.out.n.c11; have hnl := HA4.out.n.lt; obtain ⟨c0, c1, c2, c3, c4, c5, cf, cl⟩ := Blk.c6 (HA4.out.s' t0 t1 t2 t3 t4 t5); obtain ⟨d0, d1, d2, d3, d4, d5, df, dl⟩ := HA4.out.r'.c6
        go_wp2_with fail
        refine (HZS.out _ HA4.out.s).mono ?_
        rintro e w8 ⟨rfl, hz8, k8⟩
        have HA5 := hide (HA4.out.ks k8 hz8)
        have HK5 := hide (HK4.out.trans k8 (fun z hz e => by omega))
        clear hz8 k8
        clear n0 n1 n2 n3 n4 n5 n6 n7 n8 n9 n10 nf hnl c0 c1 c2 c3 c4 c5 cf cl d0 d1 d2 d3 d4 d5 df dl
        obtain ⟨r0, r1, r2, r3, r4, r5, hS⟩ := zb_six HA5.out.s H64.out
        rw [hS] at HA5 H64 HR
        clear hS
        obtain ⟨n0, n1, n2, n3, n4, n5, n6, n7, n8, n9, n10, nf⟩ := HA5.out.n.c11; have hnl := HA5.out.n.lt; obtain ⟨c0, c1, c2, c3, c4, c5, cf, cl⟩ := Blk.c6 (HA5.out.s' r0 r1 r2 r3 r4 r5); obtain ⟨d0, d1, d2, d3, d4, d5, df, dl⟩ := HA5.out.r'.c6
        go_wp2
        have hb := HA5.out.r'
        have kk := HK5.out
        refine body_agg (Tb := 102) (b := w.heap.size + 1 + 1) (cs := [.int .i64 r0, .int .i64 r1, .int .i64 r2, .int .i64 r3, .int .i64 r4, .int .i64 r5]) (.inr rfl) Tryz.results111 rfl rfl (by (repeat' (first | ((with_reducible show (_ : List Value) = _); rfl) | with_reducible exact hb | ((with_reducible refine Blk.newAt _ _ _ ?_); first | with_reducible rfl | (simp; done)) | with_reducible refine Blk.alloc ?_ _ | with_reducible refine Blk.drewN ?_ _ | with_reducible refine Blk.drew ?_ | ((with_reducible refine Blk.other ?_ _ ?_); rotate_left; ((try dsimp only); omega)) | with_reducible refine Blk.setB (cs0 := ?_) ?_ ?_))) Tryz.underlying102 rfl (by kernel_rfl) ?_
        rw [HSE.out, HR.out]
        exact ⟨rfl, by (repeat' (first | with_reducible exact Kp.refl _ _ | with_reducible refine Kp.alloc ?_ _ | with_reducible refine Kp.drewN ?_ _ | with_reducible refine Kp.drew ?_ | with_reducible refine Kp.setCell ?_ _ ?_ | with_reducible refine Kp.trans ?_ kk (fun _ _ e => e) | (intro hh; first | rfl | exact .inl rfl | exact .inr rfl | (exfalso; (try dsimp only at hh); omega))))⟩

set_option maxRecDepth 100000 in
set_option maxHeartbeats 3200000 in
theorem stateAlong_n (tx : ByteArray) (act ck cn ch yes nwy : Int) (x y v kd : Nat) (s0 s1 s2 s3 s4 s5 : Nat) (b : Bool) (w : World) (hs : Z6 [s0, s1, s2, s3, s4, s5]) (hy6 : y < 6) (hv6 : v < 6)
    (hn : act = 11) (tk : Nat) (htk : tkM act = (tk : Int)) (htk2 : tk < 128) :
    Calls Tryz.prog 111 #[.agg #[.string tx, .int .i64 act, .int .i64 x, .int .i64 y, .int .i64 v, .int .i64 ck, .int .i64 cn, .int .i64 ch, .int .i64 kd, .int .i64 yes, .int .i64 nwy], zv6 s0 s1 s2 s3 s4 s5, .bool b] w fun e w' => e = .returned (.agg (zc ([0, 0, 0, 0, 0, 0])).toArray) ∧ Kp no w w' := by
  have HT := hide (fun W => ntakenKinds_c act W)
  rw [htk] at HT
  have g11 : (act == 11) = true := by simp [hn]
  clear hn
  have HK1 := hide (fun W h => keep_c (w.heap.size + 1 + 1 + 1) [s0, s1, s2, s3, s4, s5] y tk W h hs hy6 htk2)
  have H61 := hide (hs.ke y tk)
  have HK2 := hide (fun W h => keep_c (w.heap.size + 1 + 1 + 1) (keZ [s0, s1, s2, s3, s4, s5] y tk) v tk W h H61.out hv6 htk2)
  go_enter Tryz.func111, Tryz.ntmps111
  go_wp2_with (go_at_call 123; refine (HT.out _).mono ?_; rintro e w' ⟨rfl, rfl⟩)
  have hsb : Blk (((((w.alloc (.cells #[.string tx, .int .i64 act, .int .i64 x, .int .i64 y, .int .i64 v, .int .i64 ck, .int .i64 cn, .int .i64 ch, .int .i64 kd, .int .i64 yes, .int .i64 nwy] 91)).alloc (.cells #[.int .i64 s0, .int .i64 s1, .int .i64 s2, .int .i64 s3, .int .i64 s4, .int .i64 s5] 102)).alloc (.cells #[.int .i64 0, .int .i64 0, .int .i64 0, .int .i64 0, .int .i64 0, .int .i64 0] 102)).alloc (.cells #[.int .i64 s0, .int .i64 s1, .int .i64 s2, .int .i64 s3, .int .i64 s4, .int .i64 s5] 102))) (w.heap.size + 1 + 1 + 1) [.int .i64 s0, .int .i64 s1, .int .i64 s2, .int .i64 s3, .int .i64 s4, .int .i64 s5] 102 := by (repeat' (first | ((with_reducible show (_ : List Value) = _); rfl) | ((with_reducible refine Blk.newAt _ _ _ ?_); first | with_reducible rfl | (simp; done)) | with_reducible refine Blk.alloc ?_ _ | with_reducible refine Blk.drewN ?_ _ | with_reducible refine Blk.drew ?_ | ((with_reducible refine Blk.other ?_ _ ?_); rotate_left; ((try dsimp only); omega)) | with_reducible refine Blk.setB (cs0 := ?_) ?_ ?_))
  have hrb : Blk (((((w.alloc (.cells #[.string tx, .int .i64 act, .int .i64 x, .int .i64 y, .int .i64 v, .int .i64 ck, .int .i64 cn, .int .i64 ch, .int .i64 kd, .int .i64 yes, .int .i64 nwy] 91)).alloc (.cells #[.int .i64 s0, .int .i64 s1, .int .i64 s2, .int .i64 s3, .int .i64 s4, .int .i64 s5] 102)).alloc (.cells #[.int .i64 0, .int .i64 0, .int .i64 0, .int .i64 0, .int .i64 0, .int .i64 0] 102)).alloc (.cells #[.int .i64 s0, .int .i64 s1, .int .i64 s2, .int .i64 s3, .int .i64 s4, .int .i64 s5] 102))) (w.heap.size + 1 + 1) [.int .i64 0, .int .i64 0, .int .i64 0, .int .i64 0, .int .i64 0, .int .i64 0] 102 := by (repeat' (first | ((with_reducible show (_ : List Value) = _); rfl) | ((with_reducible refine Blk.newAt _ _ _ ?_); first | with_reducible rfl | (simp; done)) | with_reducible refine Blk.alloc ?_ _ | with_reducible refine Blk.drewN ?_ _ | with_reducible refine Blk.drew ?_ | ((with_reducible refine Blk.other ?_ _ ?_); rotate_left; ((try dsimp only); omega)) | with_reducible refine Blk.setB (cs0 := ?_) ?_ ?_))
  have hnb : Blk (((((w.alloc (.cells #[.string tx, .int .i64 act, .int .i64 x, .int .i64 y, .int .i64 v, .int .i64 ck, .int .i64 cn, .int .i64 ch, .int .i64 kd, .int .i64 yes, .int .i64 nwy] 91)).alloc (.cells #[.int .i64 s0, .int .i64 s1, .int .i64 s2, .int .i64 s3, .int .i64 s4, .int .i64 s5] 102)).alloc (.cells #[.int .i64 0, .int .i64 0, .int .i64 0, .int .i64 0, .int .i64 0, .int .i64 0] 102)).alloc (.cells #[.int .i64 s0, .int .i64 s1, .int .i64 s2, .int .i64 s3, .int .i64 s4, .int .i64 s5] 102))) w.heap.size [.string tx, .int .i64 act, .int .i64 x, .int .i64 y, .int .i64 v, .int .i64 ck, .int .i64 cn, .int .i64 ch, .int .i64 kd, .int .i64 yes, .int .i64 nwy] 91 := by (repeat' (first | ((with_reducible show (_ : List Value) = _); rfl) | ((with_reducible refine Blk.newAt _ _ _ ?_); first | with_reducible rfl | (simp; done)) | with_reducible refine Blk.alloc ?_ _ | with_reducible refine Blk.drewN ?_ _ | with_reducible refine Blk.drew ?_ | ((with_reducible refine Blk.other ?_ _ ?_); rotate_left; ((try dsimp only); omega)) | with_reducible refine Blk.setB (cs0 := ?_) ?_ ?_))
  have hkk : Kp no w (((((w.alloc (.cells #[.string tx, .int .i64 act, .int .i64 x, .int .i64 y, .int .i64 v, .int .i64 ck, .int .i64 cn, .int .i64 ch, .int .i64 kd, .int .i64 yes, .int .i64 nwy] 91)).alloc (.cells #[.int .i64 s0, .int .i64 s1, .int .i64 s2, .int .i64 s3, .int .i64 s4, .int .i64 s5] 102)).alloc (.cells #[.int .i64 0, .int .i64 0, .int .i64 0, .int .i64 0, .int .i64 0, .int .i64 0] 102)).alloc (.cells #[.int .i64 s0, .int .i64 s1, .int .i64 s2, .int .i64 s3, .int .i64 s4, .int .i64 s5] 102))) := by (repeat' (first | with_reducible exact Kp.refl _ _ | with_reducible refine Kp.alloc ?_ _ | with_reducible refine Kp.drewN ?_ _ | with_reducible refine Kp.drew ?_ | with_reducible refine Kp.setCell ?_ _ ?_ | (intro hh; first | rfl | exact .inl rfl | exact .inr rfl | (exfalso; (try dsimp only at hh); omega))))
  have HA0 := hide (AS.mk hnb hrb hsb : AS _ _ _ [s0, s1, s2, s3, s4, s5])
  have HKK0 := hide hkk
  clear hnb hrb hsb hkk
  refine (HK1.out _ HA0.out.s).mono ?_
  rintro e w1 ⟨rfl, hz1, k1⟩
  have HA1 := hide (HA0.out.ks k1 hz1)
  have HKK1 := hide (HKK0.out.trans k1 (fun z hz e => by omega))
  clear hz1 k1 HA0 HKK0
  obtain ⟨n0, n1, n2, n3, n4, n5, n6, n7, n8, n9, n10, nf⟩ := HA1.out.n.c11; have hnl := HA1.out.n.lt
  go_wp2_with fail
  refine (HK2.out _ HA1.out.s).mono ?_
  rintro e w2 ⟨rfl, hz2, k2⟩
  have HA2 := hide (HA1.out.ks k2 hz2)
  have HKK2 := hide (HKK1.out.trans k2 (fun z hz e => by omega))
  clear hz2 k2 HA1 HKK1
  clear n0 n1 n2 n3 n4 n5 n6 n7 n8 n9 n10 nf hnl
  obtain ⟨n0, n1, n2, n3, n4, n5, n6, n7, n8, n9, n10, nf⟩ := HA2.out.n.c11; have hnl := HA2.out.n.lt
  change Hid (AS _ _ _ (keZ (keZ [s0, s1, s2, s3, s4, s5] y tk) v tk)) at HA2
  obtain ⟨d0, d1, d2, d3, d4, d5, df, dl⟩ := HA2.out.r'.c6
  go_wp2
  have hb := HA2.out.r'
  have kk := HKK2.out
  refine body_agg (Tb := 102) (b := w.heap.size + 1 + 1) (cs := [.int .i64 0, .int .i64 0, .int .i64 0, .int .i64 0, .int .i64 0, .int .i64 0]) (.inr rfl) Tryz.results111 rfl rfl (by (repeat' (first | ((with_reducible show (_ : List Value) = _); rfl) | with_reducible exact hb | ((with_reducible refine Blk.newAt _ _ _ ?_); first | with_reducible rfl | (simp; done)) | with_reducible refine Blk.alloc ?_ _ | with_reducible refine Blk.drewN ?_ _ | with_reducible refine Blk.drew ?_ | ((with_reducible refine Blk.other ?_ _ ?_); rotate_left; ((try dsimp only); omega)) | with_reducible refine Blk.setB (cs0 := ?_) ?_ ?_))) Tryz.underlying102 rfl (by kernel_rfl) ?_
  exact ⟨rfl, by (repeat' (first | with_reducible exact Kp.refl _ _ | with_reducible refine Kp.alloc ?_ _ | with_reducible refine Kp.drewN ?_ _ | with_reducible refine Kp.drew ?_ | with_reducible refine Kp.setCell ?_ _ ?_ | with_reducible refine Kp.trans ?_ kk (fun _ _ e => e) | (intro hh; first | rfl | exact .inl rfl | exact .inr rfl | (exfalso; (try dsimp only at hh); omega))))⟩

end Go.Proofs.YtellieabhaphhaaGreatDoor

/-
  narrowref's flow: sets.
-/
namespace Go.Proofs.YtellieabhaphhaaGreatDoor
open Go.RowKit

set_option maxHeartbeats 400000 in
theorem fin_c (c : Nat) (s : ByteArray) (w : World) (hs : s.size ≤ 1000) :
    Calls Tryz.prog 74 #[.string s, .int .u8 c] w fun e w' => e = .returned (.bool (amF c s.data.toList)) ∧ w' = w := by
  go_enter Tryz.func74, Tryz.ntmps74
  go_wp2_with (go_at_call 121; refine (among_c c _ _ hs).mono ?_; rintro e w' ⟨rfl, rfl⟩)
  go_ret
  exact ⟨rfl, rfl⟩

/-- The signs chosen among the first j. -/
def selN (p : Nat → Bool) (j : Nat) : ByteArray := ⟨((KS.take j).filter (fun u => p u.toNat)).toArray⟩

theorem selN_all (p : Nat → Bool) : selN p 7 = selB p := rfl

theorem selN_yes (p : Nat → Bool) (j : Nat) (hj : j < 7) (h : p (KB[j]'hj).toNat = true) : selN p j ++ KB.extract j (j + 1) = selN p (j + 1) := by
  have h : p (KS[j]'hj).toNat = true := h
  have e : KB.extract j (j + 1) = ⟨#[KS[j]'hj]⟩ := by
    rcases (show j = 0 ∨ j = 1 ∨ j = 2 ∨ j = 3 ∨ j = 4 ∨ j = 5 ∨ j = 6 by omega) with rfl | rfl | rfl | rfl | rfl | rfl | rfl <;> rfl
  rw [e]
  unfold selN
  rw [List.take_succ_eq_append_getElem hj, List.filter_append]
  simp only [List.filter_cons, h, if_true, List.filter_nil]
  apply ByteArray.ext
  simp

theorem selN_no (p : Nat → Bool) (j : Nat) (hj : j < 7) (h : p (KB[j]'hj).toNat = false) : selN p j = selN p (j + 1) := by
  have h : p (KS[j]'hj).toNat = false := h
  unfold selN
  rw [List.take_succ_eq_append_getElem hj, List.filter_append]
  simp [h]

theorem selN_size (p : Nat → Bool) (j : Nat) : (selN p j).size ≤ 7 := by
  show (List.filter _ _).toArray.size ≤ 7
  rw [List.size_toArray]
  exact Nat.le_trans (List.length_filter_le _ _) (by rw [List.length_take]; exact Nat.min_le_right _ _)

theorem sub_take (a b : ByteArray) (k : Nat) (h : k < a.size) : ((a.data.toList.take (k + 1)).all (fun u => amF u.toNat b.data.toList)) = ((a.data.toList.take k).all (fun u => amF u.toNat b.data.toList) && amF (a[k]).toNat b.data.toList) := by
  rw [List.take_succ_eq_append_getElem (by simpa using h), List.all_append]; simp; rfl
theorem sub_mono (a b : ByteArray) (k : Nat) (h : ((a.data.toList.take k).all (fun u => amF u.toNat b.data.toList)) = false) : subB a b = false := by
  simp only [subB, List.all_eq_false] at h ⊢
  obtain ⟨x, hx, e⟩ := h
  exact ⟨x, List.mem_of_mem_take hx, e⟩

end Go.Proofs.YtellieabhaphhaaGreatDoor

/-
  narrowref's flow: states.
-/
namespace Go.Proofs.YtellieabhaphhaaGreatDoor
open Go.RowKit

theorem info_str : (Tryz.prog.info? 9).map (fun i => (i.zero, i.size, i.bytes)) = some (some (.string ⟨#[]⟩), 1, 16) := by kernel_rfl

/-- A state's slice. -/
abbrev SV (w : World) (v : Value) (s : St) : Prop := Row w v 9 1 s.length (sgS s)

theorem sgS_len (s : St) : (sgS s).length = s.length := by simp [sgS]

theorem SV.shape {w : World} {v : Value} {s : St} (h : SV w v s) : ∃ a cap, v = .slice a s.length cap := by
  rcases h.2 with ⟨rfl, h0⟩ | ⟨g, cap, cur, rfl, _⟩
  · exact ⟨none, 0, by rw [h0]⟩
  · exact ⟨_, _, rfl⟩

theorem SV.nil (w : World) : SV w (.slice none 0 0) [] := ⟨rfl, .inl ⟨rfl, rfl⟩⟩

theorem SV.at {w : World} {a : Option Addr} {cap n : Nat} {s : St} (h : Row w (.slice a n cap) 9 1 n (sgS s)) {k : Nat} (hk : k < n) :
    ∃ g, a = some ⟨g, 0, none⟩ ∧ g < w.heap.size ∧ w.cell? ⟨g, k, none⟩ = some (.string (sgB (s.getD k 0))) := by
  obtain ⟨g, cap', e, _, hg⟩ := World.ownsRow.form h (by omega)
  injection e with e1 e2 e3
  subst e1
  have hk : k < s.length := by have := h.1; rw [sgS_len] at this; omega
  refine ⟨g, rfl, Row.lt h (b := g) rfl, ?_⟩
  rw [Row.cell h _ (by omega)]
  simp [sgS, List.getD_eq_getElem?_getD, List.getElem?_eq_getElem hk]

/-- A value's block is a new one. -/
def New (w : World) (v : Value) : Prop := ∀ b, v.ownBlock = some b → w.heap.size ≤ b

theorem New.none (w : World) : New w (.slice none 0 0) := fun b h => by cases h

/-- Behind an append of a string. -/
theorem app_step {w wr w' : World} {tv : Value} {o : Obj} {g : Nat} (HN : New w tv) (HK : Kp no w wr) (hgrow : (wr.alloc o).grownBy w' tv.ownBlock) (hat : tv.ownBlock = some g ∨ g = (wr.alloc o).heap.size) (n cap : Nat) :
    New w (.slice (some ⟨g, 0, none⟩) n cap) ∧ Kp no w w' := by
  have hsz := HK.size
  refine ⟨fun b hb => ?_, (HK.alloc _).grown hgrow (fun k hk e => by have := HN k e; omega)⟩
  have hb' : g = b := by simpa [Value.ownBlock] using hb
  subst hb'
  rcases hat with h | h
  · exact HN _ h
  · simp at h; omega

end Go.Proofs.YtellieabhaphhaaGreatDoor

/-
  narrowref's flow: the first state, and the join of two.
-/
namespace Go.Proofs.YtellieabhaphhaaGreatDoor
open Go.RowKit

theorem sg_z : sgB 8 = ⟨#[122]⟩ := by decide

set_option maxRecDepth 100000 in
set_option maxHeartbeats 1600000 in
theorem start_c (w : World) :
    Calls Tryz.prog 41 #[] w fun e w' => ∃ u, e = .returned u ∧ SV w' u [8, 8, 8, 8, 8, 8] ∧ New w u ∧ Kp no w w' := by
  obtain ⟨i0, hi, hz0, hz1, hz2⟩ := info_parts info_str
  have HX := hide (show ∀ j, j < 6 → ∃ l : List Value, (sgS [8, 8, 8, 8, 8, 8]).take j = l ∧ (sgS [8, 8, 8, 8, 8, 8]).take (j + 1) = l ++ [.string ⟨#[122]⟩] from fun j hj => ⟨_, rfl, by
    rw [← sg_z]
    rcases (show j = 0 ∨ j = 1 ∨ j = 2 ∨ j = 3 ∨ j = 4 ∨ j = 5 by omega) with rfl | rfl | rfl | rfl | rfl | rfl <;> rfl⟩)
  have HXL := hide (show (sgS [8, 8, 8, 8, 8, 8]).take 6 = sgS [8, 8, 8, 8, 8, 8] from rfl)
  generalize hR : sgS [8, 8, 8, 8, 8, 8] = R at *
  have HRR := hide hR
  clear hR
  go_enter Tryz.func41, Tryz.ntmps41
  go_wp2
  go_loopg [1, 2] 6 (fun k tv iv wr => ∃ j : Nat, j ≤ 6 ∧ k = 6 - j ∧ iv = .int .i64 j ∧ Row wr tv 9 1 j (R.take j) ∧ New w tv ∧ Kp no w wr)
  case atStart => exact ⟨0, Nat.zero_le _, rfl, rfl, ⟨rfl, .inl ⟨rfl, rfl⟩⟩, New.none _, Kp.refl _ _⟩
  case round =>
    obtain ⟨j, hj, hk, rfl, hrow, hnew, kr⟩ := hrel
    have HKK := hide hk
    have HR := hide hrow
    have HN := hide hnew
    have HK := hide kr
    clear hk hrow hnew kr
    by_cases hlt : j < 6
    · obtain ⟨l, e1, e2⟩ := HX.out j hlt
      rw [e1] at HR
      have HE3 := hide e2
      clear e1 e2 HX
      have hone : ∀ u ∈ [Value.string ⟨#[122]⟩], u.oneCell' = true := by simp [Value.oneCell']
      go_wp2_with (at_builtin; refine wpList_append_lies _ rfl (.tmp 7) (.tmp 8) 65 rfl 0 9 i0 _ 1 16 Tryz.underlying65 hi hz0 hz1 hz2 rfl (by decide) _ j l (by simp [Act.eval]; rfl) (by exact World.ownsRow.alloc HR.out _) ⟨wr.heap.size, 0, none⟩ 1 1 [.string ⟨#[122]⟩] (by simp [Act.eval]) rfl (by exact Blk.news (Blk.new wr [.string ⟨#[122]⟩] _)) hone (by decide) (by unfold maxLen; omega) (by omega) (Nat.zero_le _) _ rfl ?_; intro g cap w' hown hgrow hat hlt)
      go_roundg (6 - (j + 1))
      case measure => have := HKK.out; omega
      case rel =>
        have ha := app_step HN.out HK.out hgrow hat (j + 1) cap
        exact ⟨j + 1, by omega, rfl, by go_num, by rw [HE3.out]; exact hown, ha.1, ha.2⟩
    · obtain rfl : j = 6 := by omega
      go_wp2
      go_ret
      refine ⟨_, rfl, ?_, HN.out, HK.out⟩
      have := HR.out
      rw [HXL.out] at this
      show Row _ _ _ _ 6 (sgS [8, 8, 8, 8, 8, 8])
      rw [HRR.out]
      exact this

end Go.Proofs.YtellieabhaphhaaGreatDoor

/-
  narrowref's flow: what a node gives, what comes behind it.
-/
namespace Go.Proofs.YtellieabhaphhaaGreatDoor
open Go.RowKit

set_option maxHeartbeats 400000 in
theorem ftest_c (n : Nd) (w : World) :
    Calls Tryz.prog 71 #[.agg #[.int .u8 n.op, .int .i64 n.x, .int .i64 n.y, .int .i64 n.v, .int .u8 n.k, .int .i64 n.t, .int .i64 n.f, .int .i64 n.a, .int .i64 n.l]] w fun e w' => e = .returned (.bool (decide (n.op = 121 ∨ n.op = 58))) ∧ Kp no w w' := by
  generalize n.op = o
  by_cases h1 : o = 121
  · subst h1
    go_enter Tryz.func71, Tryz.ntmps71
    go_wp2
    all_goals
      go_ret
      exact ⟨rfl, by (repeat' (first | with_reducible exact Kp.refl _ _ | with_reducible refine Kp.alloc ?_ _ | with_reducible refine Kp.drewN ?_ _ | with_reducible refine Kp.drew ?_ | with_reducible refine Kp.setCell ?_ _ ?_ | (intro hh; first | rfl | exact .inl rfl | exact .inr rfl | (exfalso; (try dsimp only at hh); omega))))⟩
  by_cases h2 : o = 58
  · subst h2
    go_enter Tryz.func71, Tryz.ntmps71
    go_wp2
    all_goals
      go_ret
      exact ⟨rfl, by (repeat' (first | with_reducible exact Kp.refl _ _ | with_reducible refine Kp.alloc ?_ _ | with_reducible refine Kp.drewN ?_ _ | with_reducible refine Kp.drew ?_ | with_reducible refine Kp.setCell ?_ _ ?_ | (intro hh; first | rfl | exact .inl rfl | exact .inr rfl | (exfalso; (try dsimp only at hh); omega))))⟩
  · have g1 : (o == 121) = false := by simp [h1]
    have g2 : (o == 58) = false := by simp [h2]
    rw [decide_eq_false (by simp [h1, h2])]
    go_enter Tryz.func71, Tryz.ntmps71
    go_wp2
    all_goals
      go_ret
      exact ⟨rfl, by (repeat' (first | with_reducible exact Kp.refl _ _ | with_reducible refine Kp.alloc ?_ _ | with_reducible refine Kp.drewN ?_ _ | with_reducible refine Kp.drew ?_ | with_reducible refine Kp.setCell ?_ _ ?_ | (intro hh; first | rfl | exact .inl rfl | exact .inr rfl | (exfalso; (try dsimp only at hh); omega))))⟩

theorem sg_1 : sgB 1 = ⟨#[110]⟩ := by decide
theorem sg_2 : sgB 2 = ⟨#[116]⟩ := by decide
theorem sg_4 : sgB 4 = ⟨#[102]⟩ := by decide
theorem sg_6 : sgB 6 = ⟨#[116, 102]⟩ := by decide
theorem sg_127 : sgB 127 = ⟨#[110, 116, 102, 122, 65, 66, 67]⟩ := by decide
theorem sg_16 : sgB 16 = ⟨#[65]⟩ := by decide
theorem sg_32 : sgB 32 = ⟨#[66]⟩ := by decide
theorem sg_64 : sgB 64 = ⟨#[67]⟩ := by decide
theorem sg_14 : sgB 14 = ⟨#[116, 102, 122]⟩ := by decide
theorem sg_48 : sgB 48 = ⟨#[65, 66]⟩ := by decide

theorem tak_sg (op : Int) : takF op = sgB (tkN op) := by
  unfold takF tkN
  repeat' split
  · exact sg_1.symm
  · exact sg_14.symm
  · exact sg_48.symm
  · exact sg_127.symm

theorem conv1' (W : World) (k : Int) (b : Nat) (hb : b = W.heap.size) : (convert 156 9 (.slice (some ⟨b, 0, none⟩) 1 1)).run Tryz.prog (W.alloc (.cells #[.int .u8 k] 5)) = .ok (.string (strOfNums [k])) (W.alloc (.cells #[.int .u8 k] 5)) := by
  subst hb; exact conv1 W k

/-- The ops of nodes that give a variable a value. -/
def opG (o : Int) : Prop := o = 48 ∨ o = 84 ∨ o = 70 ∨ o = 90 ∨ o = 67 ∨ o = 63 ∨ o = 118 ∨ o = 43 ∨ o = 60 ∨ o = 65 ∨ o = 66 ∨ o = 46

set_option maxRecDepth 100000 in
set_option maxHeartbeats 3200000 in
theorem gives_c (n : Nd) (y : Nat) (w : World) (ho : opG n.op) :
    Calls Tryz.prog 120 #[.agg #[.int .u8 n.op, .int .i64 n.x, .int .i64 n.y, .int .i64 n.v, .int .u8 n.k, .int .i64 n.t, .int .i64 n.f, .int .i64 n.a, .int .i64 n.l], .string (sgB y)] w fun e w' => e = .returned (.string (sgB (givN n.op y))) ∧ Kp no w w' := by
  have hA := hide (am_sg y 65 (by decide))
  have hB := hide (am_sg y 66 (by decide))
  have HI := hide (fun c W => fin_c c (sgB y) W (Nat.le_trans (sg_size _) (by decide)))
  have hsz := sg_size y
  have hc := conv1'
  generalize n.op = o at *
  unfold opG at ho
  rcases ho with rfl | rfl | rfl | rfl | rfl | rfl | rfl | rfl | rfl | rfl | rfl | rfl
  · rw [show sgB (givN 48 y) = ⟨#[110]⟩ from sg_1]
    generalize sgB y = z at *
    go_enter Tryz.func120, Tryz.ntmps120
    go_wp2
    go_ret
    exact ⟨rfl, by (repeat' (first | with_reducible exact Kp.refl _ _ | with_reducible refine Kp.alloc ?_ _ | with_reducible refine Kp.drewN ?_ _ | with_reducible refine Kp.drew ?_ | with_reducible refine Kp.setCell ?_ _ ?_ | (intro hh; first | rfl | exact .inl rfl | exact .inr rfl | (exfalso; (try dsimp only at hh); omega))))⟩
  · rw [show sgB (givN 84 y) = ⟨#[116]⟩ from sg_2]
    generalize sgB y = z at *
    go_enter Tryz.func120, Tryz.ntmps120
    go_wp2
    go_ret
    exact ⟨rfl, by (repeat' (first | with_reducible exact Kp.refl _ _ | with_reducible refine Kp.alloc ?_ _ | with_reducible refine Kp.drewN ?_ _ | with_reducible refine Kp.drew ?_ | with_reducible refine Kp.setCell ?_ _ ?_ | (intro hh; first | rfl | exact .inl rfl | exact .inr rfl | (exfalso; (try dsimp only at hh); omega))))⟩
  · rw [show sgB (givN 70 y) = ⟨#[102]⟩ from sg_4]
    generalize sgB y = z at *
    go_enter Tryz.func120, Tryz.ntmps120
    go_wp2
    go_ret
    exact ⟨rfl, by (repeat' (first | with_reducible exact Kp.refl _ _ | with_reducible refine Kp.alloc ?_ _ | with_reducible refine Kp.drewN ?_ _ | with_reducible refine Kp.drew ?_ | with_reducible refine Kp.setCell ?_ _ ?_ | (intro hh; first | rfl | exact .inl rfl | exact .inr rfl | (exfalso; (try dsimp only at hh); omega))))⟩
  · rw [show sgB (givN 90 y) = ⟨#[122]⟩ from sg_z]
    generalize sgB y = z at *
    go_enter Tryz.func120, Tryz.ntmps120
    go_wp2
    go_ret
    exact ⟨rfl, by (repeat' (first | with_reducible exact Kp.refl _ _ | with_reducible refine Kp.alloc ?_ _ | with_reducible refine Kp.drewN ?_ _ | with_reducible refine Kp.drew ?_ | with_reducible refine Kp.setCell ?_ _ ?_ | (intro hh; first | rfl | exact .inl rfl | exact .inr rfl | (exfalso; (try dsimp only at hh); omega))))⟩
  · rw [show sgB (givN 67 y) = strOfNums [67] from sg_64.trans (by decide)]
    generalize sgB y = z at *
    go_enter Tryz.func120, Tryz.ntmps120
    go_wp2
    go_ret
    exact ⟨rfl, by (repeat' (first | with_reducible exact Kp.refl _ _ | with_reducible refine Kp.alloc ?_ _ | with_reducible refine Kp.drewN ?_ _ | with_reducible refine Kp.drew ?_ | with_reducible refine Kp.setCell ?_ _ ?_ | (intro hh; first | rfl | exact .inl rfl | exact .inr rfl | (exfalso; (try dsimp only at hh); omega))))⟩
  · rw [show sgB (givN 63 y) = ⟨#[110, 116, 102, 122, 65, 66, 67]⟩ from sg_127]
    generalize sgB y = z at *
    go_enter Tryz.func120, Tryz.ntmps120
    go_wp2
    go_ret
    exact ⟨rfl, by (repeat' (first | with_reducible exact Kp.refl _ _ | with_reducible refine Kp.alloc ?_ _ | with_reducible refine Kp.drewN ?_ _ | with_reducible refine Kp.drew ?_ | with_reducible refine Kp.setCell ?_ _ ?_ | (intro hh; first | rfl | exact .inl rfl | exact .inr rfl | (exfalso; (try dsimp only at hh); omega))))⟩
  · rw [show sgB (givN 118 y) = sgB y from rfl]
    generalize sgB y = z at *
    go_enter Tryz.func120, Tryz.ntmps120
    go_wp2
    go_ret
    exact ⟨rfl, by (repeat' (first | with_reducible exact Kp.refl _ _ | with_reducible refine Kp.alloc ?_ _ | with_reducible refine Kp.drewN ?_ _ | with_reducible refine Kp.drew ?_ | with_reducible refine Kp.setCell ?_ _ ?_ | (intro hh; first | rfl | exact .inl rfl | exact .inr rfl | (exfalso; (try dsimp only at hh); omega))))⟩
  · rw [show sgB (givN 43 y) = ⟨#[110]⟩ from sg_1]
    generalize sgB y = z at *
    go_enter Tryz.func120, Tryz.ntmps120
    go_wp2
    go_ret
    exact ⟨rfl, by (repeat' (first | with_reducible exact Kp.refl _ _ | with_reducible refine Kp.alloc ?_ _ | with_reducible refine Kp.drewN ?_ _ | with_reducible refine Kp.drew ?_ | with_reducible refine Kp.setCell ?_ _ ?_ | (intro hh; first | rfl | exact .inl rfl | exact .inr rfl | (exfalso; (try dsimp only at hh); omega))))⟩
  · rw [show sgB (givN 60 y) = ⟨#[116, 102]⟩ from sg_6]
    generalize sgB y = z at *
    go_enter Tryz.func120, Tryz.ntmps120
    go_wp2
    go_ret
    exact ⟨rfl, by (repeat' (first | with_reducible exact Kp.refl _ _ | with_reducible refine Kp.alloc ?_ _ | with_reducible refine Kp.drewN ?_ _ | with_reducible refine Kp.drew ?_ | with_reducible refine Kp.setCell ?_ _ ?_ | (intro hh; first | rfl | exact .inl rfl | exact .inr rfl | (exfalso; (try dsimp only at hh); omega))))⟩
  · rw [show sgB (givN 65 y) = strOfNums [65] from sg_16.trans (by decide)]
    generalize sgB y = z at *
    go_enter Tryz.func120, Tryz.ntmps120
    go_wp2
    go_ret
    exact ⟨rfl, by (repeat' (first | with_reducible exact Kp.refl _ _ | with_reducible refine Kp.alloc ?_ _ | with_reducible refine Kp.drewN ?_ _ | with_reducible refine Kp.drew ?_ | with_reducible refine Kp.setCell ?_ _ ?_ | (intro hh; first | rfl | exact .inl rfl | exact .inr rfl | (exfalso; (try dsimp only at hh); omega))))⟩
  · rw [show sgB (givN 66 y) = strOfNums [66] from sg_32.trans (by decide)]
    generalize sgB y = z at *
    go_enter Tryz.func120, Tryz.ntmps120
    go_wp2
    go_ret
    exact ⟨rfl, by (repeat' (first | with_reducible exact Kp.refl _ _ | with_reducible refine Kp.alloc ?_ _ | with_reducible refine Kp.drewN ?_ _ | with_reducible refine Kp.drew ?_ | with_reducible refine Kp.setCell ?_ _ ?_ | (intro hh; first | rfl | exact .inl rfl | exact .inr rfl | (exfalso; (try dsimp only at hh); omega))))⟩
  · have HG := hide (show sgB (givN 46 y) = sgB ((if y.testBit 4 then 1 else 0) ||| (if y.testBit 5 then 14 else 0)) from rfl)
    rw [HG.out]
    have HA : Hid (amF 65 (sgB y).data.toList = y.testBit 4) := hA.out
    have HB : Hid (amF 66 (sgB y).data.toList = y.testBit 5) := hB.out
    have HIA := hide (fun W => HI.out 65 W)
    have HIB := hide (fun W => HI.out 66 W)
    rw [HA.out] at HIA
    rw [HB.out] at HIB
    clear hA hB HA HB HI HG
    generalize sgB y = z at *
    generalize y.testBit 4 = p at *
    generalize y.testBit 5 = q at *
    have HF := hide (show sgB ((if p = true then 1 else 0) ||| (if q = true then 14 else 0)) = (if p then ⟨#[110]⟩ else ⟨#[]⟩) ++ (if q then ⟨#[116, 102, 122]⟩ else ⟨#[]⟩) by cases p <;> cases q <;> decide)
    rw [HF.out]
    clear HF
    cases p <;> cases q
    all_goals
      simp only [if_true, Bool.false_eq_true, if_false]
      go_enter Tryz.func120, Tryz.ntmps120
      go_wp2_with (first | (go_at_call_of 0 (z); fail) | (go_at_call 74; first | (refine (HIA.out _).mono ?_; rintro e w' ⟨rfl, rfl⟩) | (refine (HIB.out _).mono ?_; rintro e w' ⟨rfl, rfl⟩)))
      go_ret
      exact ⟨rfl, by (repeat' (first | with_reducible exact Kp.refl _ _ | with_reducible refine Kp.alloc ?_ _ | with_reducible refine Kp.drewN ?_ _ | with_reducible refine Kp.drew ?_ | with_reducible refine Kp.setCell ?_ _ ?_ | (intro hh; first | rfl | exact .inl rfl | exact .inr rfl | (exfalso; (try dsimp only at hh); omega))))⟩
end Go.Proofs.YtellieabhaphhaaGreatDoor

/-
  narrow's flow: what comes along a way is what the answer says.
-/
namespace Go.Proofs.YtellieabhaphhaaGreatDoor
open Go.RowKit

/-- What comes along a way of a node. -/
def algF (n : Nd) (b : Bool) (S : St) : St := if n.op = 121 ∨ n.op = 58 then hldF n b S else behF n S

/-- Six sets, none empty. -/
structure Ful (S : St) : Prop where
  z : Z6 S
  ne : ∀ i, i < 6 → S.getD i 0 ≠ 0

theorem SOk.ful {S : St} (h : SOk S) (h0 : S ≠ []) : Ful S := by
  obtain ⟨h6, hm⟩ := h.resolve_left h0
  refine ⟨⟨h6, fun m hm' => (hm m hm').2⟩, fun i hi => ?_⟩
  rw [List.getD_eq_getElem?_getD, List.getElem?_eq_getElem (by omega), Option.getD_some]
  exact (hm _ (List.getElem_mem _)).1

theorem Ful.ex {S : St} (h : Ful S) : exS S = true := exS_yes (fun i hi => h.ne i (by rw [h.z.len] at hi; exact hi))
theorem Ful.nrm {S : St} (h : Ful S) : nrm S = S := by rw [Go.Proofs.YtellieabhaphhaaGreatDoor.nrm, h.ex]; rfl
theorem Ful.nil {S : St} (h : Ful S) : S ≠ [] := fun e => by have := h.z.len; rw [e] at this; cases this

theorem getD_set_self {S : St} {y m : Nat} (h : y < S.length) : (S.set y m).getD y 0 = m := by
  rw [List.getD_eq_getElem?_getD, List.getElem?_set_self h]; rfl
theorem getD_set_ne {S : St} {y z m : Nat} (h : y ≠ z) : (S.set y m).getD z 0 = S.getD z 0 := by
  rw [List.getD_eq_getElem?_getD, List.getElem?_set_ne h, ← List.getD_eq_getElem?_getD]

theorem Ful.set {S : St} (h : Ful S) (y : Nat) {m : Nat} (hm : m < 128) (h0 : m ≠ 0) (hy : y < 6) : Ful (S.set y m) := by
  refine ⟨h.z.set y hm, fun i hi => ?_⟩
  by_cases e : y = i
  · subst e; rw [getD_set_self (by rw [h.z.len]; exact hy)]; exact h0
  · rw [getD_set_ne e]; exact h.ne i hi

theorem nrm_zero {S : St} {y : Nat} (hy : y < S.length) (h : S.getD y 0 = 0) : nrm S = [] := by
  rw [nrm, exS_no hy h]; rfl

/-- A set that is set: the state is as 'with' says. -/
theorem nrm_set {S : St} (h : Ful S) {y m : Nat} (hy : y < 6) (hm : m < 128) : nrm (S.set y m) = withS S y m := by
  have hl := h.z.len
  by_cases h0 : m = 0
  · subst h0
    rw [nrm_zero (y := y) (by rw [List.length_set]; omega) (getD_set_self (by omega)), withS, if_pos (.inr rfl)]
  · rw [(h.set y hm h0 hy).nrm, withS, if_neg (by simp [h0, h.nil])]

theorem nrm_keep {S : St} (h : Ful S) {y m : Nat} (hy : y < 6) : nrm (keZ S y m) = withS S y (S.getD y 0 &&& m) := nrm_set h hy (and_lt m (h.z.get y))

theorem and_127 {m : Nat} (h : m < 128) : m &&& 127 = m := by
  have := Nat.and_two_pow_sub_one_eq_mod m 7
  rw [show 2 ^ 7 - 1 = 127 from rfl] at this
  rw [this]
  exact Nat.mod_eq_of_lt h

theorem set_self {S : St} {y : Nat} (h : y < S.length) : S.set y (S.getD y 0) = S := by
  rw [List.getD_eq_getElem?_getD, List.getElem?_eq_getElem h, Option.getD_some, List.set_getElem_self]

theorem keep_all {S : St} (h : Z6 S) {y : Nat} (hy : y < 6) : keZ S y 127 = S := by
  rw [keZ, and_127 (h.get y), set_self (by rw [h.len]; exact hy)]

theorem keep_twice {S : St} (h : Z6 S) {y m : Nat} (hy : y < 6) : keZ (keZ S y m) y m = keZ S y m := by
  have e : (keZ S y m).getD y 0 = S.getD y 0 &&& m := getD_set_self (by rw [h.len]; exact hy)
  rw [keZ, e, Nat.and_assoc, Nat.and_self]
  exact List.set_set ..

/-- What a node gives, by its op. -/
def giN (op : Int) (u : Nat) : Nat := if op = 94 ∨ op = 42 ∨ op = 121 ∨ op = 58 ∨ op = 126 then u else givN op u

theorem tk_of {op : Int} (h : opOk op) : tkM (actN op) = ((tkN op : Nat) : Int) := by
  unfold opOk at h
  rcases h with rfl | rfl | rfl | rfl | rfl | rfl | rfl | rfl | rfl | rfl | rfl | rfl | rfl | rfl | rfl | rfl | rfl | rfl <;> rfl
theorem tk_lt (op : Int) : tkN op < 128 := by unfold tkN; repeat' split
                                              all_goals decide

theorem gi_of {n : Nd} (h : opOk n.op) (h33 : n.op ≠ 33) (u : Nat) : giZ (actN n.op) (bit (consN n).k) u = ((giN n.op u : Nat) : Int) := by
  obtain ⟨op, nx, ny, nv, nk, nt, nf, na, nl⟩ := n
  dsimp only at *
  unfold opOk at h
  rcases h with rfl | rfl | rfl | rfl | rfl | rfl | rfl | rfl | rfl | rfl | rfl | rfl | rfl | rfl | rfl | rfl | rfl | rfl
  all_goals first | rfl | exact absurd rfl h33

theorem gi_lt (op : Int) (u : Nat) (h : u < 128) : giN op u < 128 := by
  unfold giN
  split
  · exact h
  · exact givN_lt op h

theorem act_le {op : Int} (h : opOk op) : 0 ≤ actN op ∧ actN op ≤ 14 := by
  unfold opOk at h
  rcases h with rfl | rfl | rfl | rfl | rfl | rfl | rfl | rfl | rfl | rfl | rfl | rfl | rfl | rfl | rfl | rfl | rfl | rfl <;> decide

theorem Z6.al {S : St} (h : Z6 S) (act : Int) (gi : Nat → Nat) (hg : ∀ u, u < 128 → gi u < 128) (x y : Nat) : Z6 (alZ act gi S x y) := by
  unfold alZ
  split
  · exact h.set x (hg _ (h.get y))
  · exact h

/-- Nodes that give a value. -/
theorem al_give {n : Nd} {S : St} (h : Ful S) {x y v : Nat} (hx : n.x = x) (hy : n.y = y) (hv : n.v = v) (hx6 : x < 6) (hy6 : y < 6) (hv6 : v < 6) (ho : opG n.op) :
    nrm (alZ (actN n.op) (giN n.op) (keZ (keZ S y (tkN n.op)) (if n.op = 43 ∨ n.op = 60 then v else y) (tkN n.op)) x y) = behF n S := by
  have hset : setF (actN n.op) = true := by
    unfold opG at ho
    rcases ho with e | e | e | e | e | e | e | e | e | e | e | e <;> rw [e] <;> rfl
  have hgi : giN n.op = givN n.op := by
    unfold opG at ho
    funext u
    rw [giN, if_neg (by omega)]
  have htk := tk_lt n.op
  have hm : S.getD y 0 &&& tkN n.op < 128 := and_lt _ (h.z.get y)
  rw [hgi]
  unfold opG at ho
  have hB : behF n S = withS (if withS S y (S.getD y 0 &&& tkN n.op) ≠ [] ∧ (n.op = 43 ∨ n.op = 60) then withS (withS S y (S.getD y 0 &&& tkN n.op)) v ((withS S y (S.getD y 0 &&& tkN n.op)).getD v 0 &&& tkN n.op) else withS S y (S.getD y 0 &&& tkN n.op)) x (givN n.op (S.getD y 0 &&& tkN n.op)) := by
    rw [behF, if_neg (by omega), if_neg (by omega), if_neg (by omega), hx, hy, hv, Int.toNat_natCast, Int.toNat_natCast, Int.toNat_natCast]
  rw [hB]
  clear hB
  have hl := h.z.len
  by_cases h0 : S.getD y 0 &&& tkN n.op = 0
  · -- nothing is left of y
    have hw : withS S y (S.getD y 0 &&& tkN n.op) = [] := by rw [withS, if_pos (.inr h0)]
    rw [hw, if_neg (fun e : ([] : St) ≠ [] ∧ _ => e.1 rfl)]
    have h1 : (keZ S y (tkN n.op)).getD y 0 = 0 := by rw [keZ, getD_set_self (by omega), h0]
    have hl1 : (keZ S y (tkN n.op)).length = 6 := (h.z.ke y _).len
    have h2 : (keZ (keZ S y (tkN n.op)) (if n.op = 43 ∨ n.op = 60 then v else y) (tkN n.op)).getD y 0 = 0 := by
      generalize (if n.op = 43 ∨ n.op = 60 then v else y) = z
      rw [keZ]
      by_cases e : z = y
      · subst e; rw [getD_set_self (by omega), h1, Nat.zero_and]
      · rw [getD_set_ne e, h1]
    have hl2 : (keZ (keZ S y (tkN n.op)) (if n.op = 43 ∨ n.op = 60 then v else y) (tkN n.op)).length = 6 := ((h.z.ke y _).ke _ _).len
    rw [alZ, exS_no (by omega) h2, Bool.false_and]
    rw [if_neg (by decide), nrm_zero (by omega) h2]
    simp [withS]
  · have hw : withS S y (S.getD y 0 &&& tkN n.op) = keZ S y (tkN n.op) := by rw [withS, if_neg (fun e => e.elim h.nil h0)]; rfl
    have hF1 : Ful (keZ S y (tkN n.op)) := h.set y hm h0 hy6
    rw [hw]
    by_cases ht : n.op = 43 ∨ n.op = 60
    · rw [if_pos ht, if_pos ⟨hF1.nil, ht⟩]
      generalize hS1 : keZ S y (tkN n.op) = S1 at *
      have hm2 : S1.getD v 0 &&& tkN n.op < 128 := and_lt _ (hF1.z.get v)
      by_cases h02 : S1.getD v 0 &&& tkN n.op = 0
      · have hw2 : withS S1 v (S1.getD v 0 &&& tkN n.op) = [] := by rw [withS, if_pos (.inr h02)]
        have h2 : (keZ S1 v (tkN n.op)).getD v 0 = 0 := by rw [keZ, getD_set_self (by rw [hF1.z.len]; exact hv6), h02]
        have hl2 : (keZ S1 v (tkN n.op)).length = 6 := (hF1.z.ke v _).len
        rw [hw2, alZ, exS_no (by omega) h2, Bool.false_and, if_neg (by decide), nrm_zero (by omega) h2]
        simp [withS]
      · have hw2 : withS S1 v (S1.getD v 0 &&& tkN n.op) = keZ S1 v (tkN n.op) := by rw [withS, if_neg (fun e => e.elim hF1.nil h02)]; rfl
        have hF2 : Ful (keZ S1 v (tkN n.op)) := hF1.set v hm2 h02 hv6
        have hgy : ∀ u, givN n.op u = givN n.op (S.getD y 0 &&& tkN n.op) := by
          intro u
          rcases ht with e | e <;> rw [e] <;> rfl
        rw [hw2, alZ, hF2.ex, hset, Bool.true_and, if_pos rfl, nrm_set hF2 hx6 (givN_lt _ (hF2.z.get y)), hgy]
    · rw [if_neg ht, if_neg (fun e => ht e.2), keep_twice h.z hy6]
      have hgy : (keZ S y (tkN n.op)).getD y 0 = S.getD y 0 &&& tkN n.op := getD_set_self (by omega)
      rw [alZ, hF1.ex, hset, Bool.true_and, if_pos rfl, nrm_set hF1 hx6 (givN_lt _ (hF1.z.get y)), hgy]
end Go.Proofs.YtellieabhaphhaaGreatDoor

/-
  narrow's flow: a node's ways; tables.
-/
namespace Go.Proofs.YtellieabhaphhaaGreatDoor
open Go.RowKit

theorem z6_six {Z : St} (h6 : Z6 Z) : ∃ m0 m1 m2 m3 m4 m5 : Nat, Z = [m0, m1, m2, m3, m4, m5] := by
  match Z, h6.len with
  | [m0, m1, m2, m3, m4, m5], _ => exact ⟨m0, m1, m2, m3, m4, m5, rfl⟩

theorem bitN_cast (k : Int) : ((bitN k : Nat) : Int) = bit k := by
  unfold bitN bit; repeat' split
  all_goals rfl

def kdN (n : Nd) : Nat := if n.op = 126 ∨ n.op = 58 then bitN n.k else 0
theorem kdN_lt (n : Nd) : kdN n < 128 := by unfold kdN; split; exact bitN_lt _; decide
theorem kdN_cast (n : Nd) : ((kdN n : Nat) : Int) = (if n.op = 126 ∨ n.op = 58 then bit n.k else 0) := by
  unfold kdN; split
  · exact bitN_cast _
  · rfl

theorem way_of {n : Nd} (hg : Gn n) (ht : n.op = 121 ∨ n.op = 58) (b : Bool) : waZ (actN n.op) (kdN n) b = wayM n b := by
  rcases ht with e | e
  · rw [waZ, wayM, e]; cases b <;> rfl
  · have hk := hg.kd (.inl e)
    rw [waZ, wayM, kdN, e]
    unfold KOk at hk
    rcases hk with h | h | h | h | h | h | h <;> rw [h] <;> cases b <;> rfl

theorem act_class {op : Int} (h : opOk op) : (op = 126 ∧ actN op = 10) ∨ (op = 33 ∧ actN op = 11) ∨ ((op = 121 ∨ op = 58) ∧ (actN op = 12 ∨ actN op = 13)) ∨
    ((op = 94 ∨ op = 42 ∨ opG op) ∧ actN op ≠ 10 ∧ actN op ≠ 11 ∧ actN op ≠ 12 ∧ actN op ≠ 13) := by
  unfold opOk at h
  unfold opG
  rcases h with rfl | rfl | rfl | rfl | rfl | rfl | rfl | rfl | rfl | rfl | rfl | rfl | rfl | rfl | rfl | rfl | rfl | rfl <;> decide

theorem nrm_no : nrm [0, 0, 0, 0, 0, 0] = [] := rfl
theorem no_z6 : Z6 [0, 0, 0, 0, 0, 0] := ⟨rfl, by decide⟩

theorem al_plain {op : Int} {S : St} (gi : Nat → Nat) (x y : Nat) (hs : setF (actN op) = false) : alZ (actN op) gi S x y = S := by rw [alZ, hs, Bool.and_false]; rfl

theorem along_c (n : Nd) (tx : ByteArray) (yes nwy : Int) (S : St) (b : Bool) (w : World) (hg : Gn n) (hS : Ful S) :
    Calls Tryz.prog 111 #[.agg #[.string tx, .int .i64 (actN n.op), .int .i64 n.x, .int .i64 n.y, .int .i64 (if n.op = 43 ∨ n.op = 60 then n.v else n.y), .int .i64 (bit (consN n).k), .int .i64 (consN n).n, .int .i64 (bit (consN n).v), .int .i64 (if n.op = 126 ∨ n.op = 58 then bit n.k else 0), .int .i64 yes, .int .i64 nwy], .agg (zc S).toArray, .bool b] w
      fun e w' => ∃ Z, e = .returned (.agg (zc Z).toArray) ∧ Z6 Z ∧ nrm Z = algF n b S ∧ Kp no w w' := by
  obtain ⟨x, hx⟩ := Int.eq_ofNat_of_zero_le hg.x.1
  obtain ⟨y, hy⟩ := Int.eq_ofNat_of_zero_le hg.y.1
  obtain ⟨v, hv⟩ := Int.eq_ofNat_of_zero_le hg.v.1
  have hx6 : x < 6 := by have := hg.x.2; omega
  have hy6 : y < 6 := by have := hg.y.2; omega
  have hv6 : v < 6 := by have := hg.v.2; omega
  obtain ⟨a0, a14⟩ := act_le hg.op
  have htk := tk_of hg.op
  have htl := tk_lt n.op
  have hw : (if n.op = 43 ∨ n.op = 60 then n.v else n.y) = (((if n.op = 43 ∨ n.op = 60 then v else y) : Nat) : Int) := by split <;> assumption
  have hw6 : (if n.op = 43 ∨ n.op = 60 then v else y) < 6 := by split <;> assumption
  have hk := kdN_cast n
  have hkl := kdN_lt n
  obtain ⟨s0, s1, s2, s3, s4, s5, hs⟩ := z6_six hS.z
  have hz := hS.z
  rw [hw, ← hk, hx, hy]
  rcases act_class hg.op with ⟨ho, ha⟩ | ⟨ho, ha⟩ | ⟨ho, ha⟩ | ⟨ho, ha⟩
  · -- a cast
    have hgi := gi_of hg.op (by omega)
    have h127 : tkN n.op = 127 := by rw [ho]; rfl
    have key := stateAlong_k tx (actN n.op) (bit (consN n).k) (consN n).n (bit (consN n).v) yes nwy x y (if n.op = 43 ∨ n.op = 60 then v else y) (kdN n) s0 s1 s2 s3 s4 s5 b w (hs ▸ hz) hkl hx6 hy6 hw6 a0 a14 ha (tkN n.op) htk htl (giN n.op) (fun u _ => hgi u) (gi_lt n.op)
    rw [← hs] at key
    subst hs
    refine key.mono fun e w' ⟨h1, h2⟩ => ⟨_, h1, (((hz.ke y _).ke _ _).ke _ _).al _ _ (gi_lt n.op) _ _, ?_, h2⟩
    rw [h127, keep_all hz hy6, keep_all hz hw6, alZ, show setF (actN n.op) = false by rw [ha]; rfl, Bool.and_false, if_neg (by decide), nrm_keep hS hx6]
    rw [algF, if_neg (by omega), behF, if_neg (by omega), if_neg (by omega), if_pos ho, hx, Int.toNat_natCast, kdN, if_pos (.inl ho)]
  · -- never
    have key := stateAlong_n tx (actN n.op) (bit (consN n).k) (consN n).n (bit (consN n).v) yes nwy x y (if n.op = 43 ∨ n.op = 60 then v else y) (kdN n) s0 s1 s2 s3 s4 s5 b w (hs ▸ hz) hy6 hw6 ha (tkN n.op) htk htl
    subst hs
    refine key.mono fun e w' ⟨h1, h2⟩ => ⟨_, h1, no_z6, ?_, h2⟩
    rw [nrm_no, algF, if_neg (by omega), behF, if_pos ho]
  · -- a test
    have hgi := gi_of hg.op (by omega)
    have h127 : tkN n.op = 127 := by rcases ho with e | e <;> rw [e] <;> rfl
    have key := stateAlong_t tx (actN n.op) (bit (consN n).k) (consN n).n (bit (consN n).v) yes nwy x y (if n.op = 43 ∨ n.op = 60 then v else y) (kdN n) s0 s1 s2 s3 s4 s5 b w (hs ▸ hz) hkl hx6 hy6 hw6 a0 a14 ha (tkN n.op) htk htl (giN n.op) (fun u _ => hgi u) (gi_lt n.op)
    rw [← hs] at key
    subst hs
    refine key.mono fun e w' ⟨h1, h2⟩ => ⟨_, h1, (((hz.ke y _).ke _ _).ke _ _).al _ _ (gi_lt n.op) _ _, ?_, h2⟩
    rw [h127, keep_all hz hy6, keep_all hz hw6, alZ, show setF (actN n.op) = false by rcases ha with e | e <;> rw [e] <;> rfl, Bool.and_false, if_neg (by decide), nrm_keep hS hy6, way_of hg ho]
    rw [algF, if_pos ho, hldF, hy, Int.toNat_natCast]
  · have hgi := gi_of hg.op (by unfold opG at ho; omega)
    have key := stateAlong_o tx (actN n.op) (bit (consN n).k) (consN n).n (bit (consN n).v) yes nwy x y (if n.op = 43 ∨ n.op = 60 then v else y) (kdN n) s0 s1 s2 s3 s4 s5 b w (hs ▸ hz) hx6 hy6 hw6 a0 a14 ha (tkN n.op) htk htl (giN n.op) (fun u _ => hgi u) (gi_lt n.op)
    rw [← hs] at key
    subst hs
    refine key.mono fun e w' ⟨h1, h2⟩ => ⟨_, h1, ((hz.ke y _).ke _ _).al _ _ (gi_lt n.op) _ _, ?_, h2⟩
    rcases ho with e | e | e
    · have h127 : tkN n.op = 127 := by rw [e]; rfl
      rw [h127, keep_all hz hy6, keep_all hz hw6, al_plain _ _ _ (by rw [e]; rfl), hS.nrm, algF, if_neg (by omega), behF, if_neg (by omega), if_pos (.inr e)]
    · have h127 : tkN n.op = 127 := by rw [e]; rfl
      rw [h127, keep_all hz hy6, keep_all hz hw6, al_plain _ _ _ (by rw [e]; rfl), hS.nrm, algF, if_neg (by omega), behF, if_neg (by omega), if_pos (.inl e)]
    · rw [al_give hS hx hy hv hx6 hy6 hv6 e, algF, if_neg (by unfold opG at e; omega)]
end Go.Proofs.YtellieabhaphhaaGreatDoor
