import Derived.Test.YtellieabhaphhaaGreatDoorPLeastuptoF
/-
  narrowref's reader: the walk of a line.
-/
namespace Go.Proofs.YtellieabhaphhaaGreatDoor
open Go.RowKit

theorem way_w {w : World} {r : Nat} {s : ByteArray} {st : RS} {O : Nat → Prop} (h : Rp w r s st O) (hs : s.size ≤ 1000) (hi : st.i ≤ s.size) :
    Calls Tryz.prog 68 #[.pointer (some ⟨r, 0, none⟩)] w fun e w' => e = .returned (.int .i64 (wayF s (st.i, st.bad)).1) ∧ Went w O r s { st with i := (wayF s (st.i, st.bad)).2.1, bad := (wayF s (st.i, st.bad)).2.2 } w' := by
  obtain ⟨nv, iv, hB, hN, hI, d1, d2, d3, rfl⟩ := h
  exact (way_c r st.i s st.bad nv iv st.loops w hs hi hB).mono fun e w' ⟨h1, h2, h3⟩ => ⟨h1, went_rb hN hI d1 d2 d3 h2 h3⟩

theorem then_gen {K : Act → World → Prop} {Q : Exit → Act → World → Prop} {e : Exit} {a : Act} {W : World} (G : World → Prop) (hG : G W) (h : ∀ W', G W' → Exit.then K Q e a W') : Exit.then K Q e a W := h W hG

/-- A block that is not the reader's stays. -/
theorem Th.blk {O O' : Nat → Prop} {w w' : World} (h : Th O w O' w') {b : Nat} {cs : List Value} {T : TypeId} (k : Blk w b cs T) (hb : ¬ O b) : Blk w' b cs T ∧ ¬ O' b :=
  ⟨h.1.blk k hb, fun e => hb (h.2 b e k.lt)⟩

set_option maxHeartbeats 6400000 in
theorem line_star {w : World} {r : Nat} {s : ByteArray} {st : RS} {O : Nat → Prop} (hs : s.size ≤ 900) (h : Rp w r s st O) (hb : st.bad = false) (hi : st.i < s.size) (hn : st.nodes.length ≤ 950) (h1 : pk s st.i = 42) :
    Calls Tryz.prog 39 #[.pointer (some ⟨r, 0, none⟩)] w fun e w' => e = .returned (.tuple #[]) ∧ Went w O r s (lineF s st) w' := by
  have HP := hide (peek_w h)
  have hO := h.lt
  have hrl := h.lt r h.own
  have HV := hide (show lineF s st = { st with i := (eatF s (wayF s (st.i + 1, false)).2 59).1, bad := (eatF s (wayF s (st.i + 1, false)).2 59).2, nodes := st.nodes ++ [{ op := 42, x := 0, y := 0, v := 0, k := 0, t := ((wayF s (st.i + 1, false)).1 : Nat), f := -1, a := st.i, l := 1 }] } by simp [lineF, lineN, lineT, lineG, h1])
  have hw1 := wayF_le s (st.i + 1, false) hi
  have HD := hide (show ∀ hq : st.i + 1 < s.size, pk s (st.i + 1) = (s[st.i + 1]'hq).toNat from fun hq => by simp [pk, hq])
  have HD0 := hide (show ¬ st.i + 1 < s.size → pk s (st.i + 1) = 0 from fun hq => by simp [pk, hq])
  generalize hd1 : pk s st.i = c at *
  generalize hd2 : pk s (st.i + 1) = d at *
  clear hd1 hd2
  obtain ⟨c0, c1, c2, c5, cf⟩ := h.c
  rw [hb] at c2
  go_enter Tryz.func39, Tryz.ntmps39
  go_wp2_with fail
  refine HP.out.mono ?_
  rintro e w1 ⟨rfl, nq, rfl⟩
  go_wp2
  refine wp_gen (fun W => Rp W r s st O ∧ Th O w O W) ⟨h.n _, (Th.refl _ _).n _⟩ ?_
  clear c0 c1 c2 c5 cf
  rintro W ⟨hW, tW⟩
  obtain ⟨c0, c1, c2, c5, cf⟩ := hW.c
  rw [hb] at c2
  have hz4 : IntKind.i64.wrap ((st.i : Int) + 1) = (st.i : Int) + 1 := by rw [IntKind.wrap_i64]; omega
  by_cases hq : st.i + 1 < s.size
  · rw [HD.out hq] at *
    clear HD HD0
    go_quiet (fail)
    go_wp2
    refine wp_gen (fun W' => Rp W' r s st O ∧ Th O w O W') ⟨hW.n _, tW.n _⟩ ?_
    clear c0 c1 c2 c5 cf
    rintro W2 ⟨hW2, tW2⟩
    obtain ⟨c0, c1, c2, c5, cf⟩ := hW2.c
    rw [hb] at c2
    have hz1 : (st.i : Int) + 1 < (s.size : Int) := by omega
    have hz2 : 0 ≤ (st.i : Int) + 1 := by omega
    have hz6 : ((st.i : Int) + 1).toNat = st.i + 1 := by omega
    go_quiet (fail)
    refine then_gen (fun W' => Rp W' r s st O ∧ Th O w O W') ⟨hW2.n _, tW2.n _⟩ ?_
    clear c0 c1 c2 c5 cf
    rintro W3 ⟨hW3, tW3⟩
    obtain ⟨c0, c1, c2, c5, cf⟩ := hW3.c
    rw [hb] at c2
    have hrW := hW3.lt r hW3.own
    have hOW := hW3.lt
    generalize (s[st.i + 1]'hq).toNat = d at *
    subst h1
    go_wp2_with fail
    refine (way_w (st := nextI st) (hW3.next.alloc _) (by omega) hi).mono ?_
    rintro e v1 ⟨rfl, O1, h1, t1⟩
    have T1 := hide (((tW3.set _ (.inl hW3.own)).alloc _).trans t1)
    obtain ⟨L1, n1⟩ := Th.blk t1 (b := W3.heap.size) (cs := [.int .u8 42, .int .i64 0, .int .i64 0, .int .i64 0, .int .u8 0, .int .i64 (-1), .int .i64 (-1), .int .i64 st.i, .int .i64 1]) (T := 63) (by (repeat' (first | ((with_reducible show (_ : List Value) = _); rfl) | ((with_reducible refine Blk.newAt _ _ _ ?_); first | with_reducible rfl | (simp; done)) | with_reducible refine Blk.alloc ?_ _ | with_reducible refine Blk.drewN ?_ _ | with_reducible refine Blk.drew ?_ | ((with_reducible refine Blk.other ?_ _ ?_); rotate_left; ((try dsimp only); omega)) | with_reducible refine Blk.setB (cs0 := ?_) ?_ ?_))) (fun e => by have := hOW _ e; omega)
    obtain ⟨x10, x11, x12, x13, x14, x15, x16, x17, x18, x1f⟩ := L1.c9
    rw [show (nextI st).bad = false from hb, show (nextI st).i = st.i + 1 from rfl] at *
    generalize wayF s (st.i + 1, false) = q at *
    obtain ⟨t1, i1, b1⟩ := q
    dsimp only at hw1
    go_wp2_with fail
    refine (eat_w (h1.other _ n1) 59 (by omega) hw1).mono ?_
    rintro e v2 ⟨rfl, O2, h2, t2⟩
    have T2 := hide ((T1.out.set _ (.inr (by have := tW3.1.size; omega))).trans t2)
    obtain ⟨L2, n2⟩ := Th.blk t2 (b := W3.heap.size) (cs := [.int .u8 42, .int .i64 0, .int .i64 0, .int .i64 0, .int .u8 0, .int .i64 t1, .int .i64 (-1), .int .i64 st.i, .int .i64 1]) (T := 63) (by (repeat' (first | ((with_reducible show (_ : List Value) = _); rfl) | with_reducible exact L1 | ((with_reducible refine Blk.newAt _ _ _ ?_); first | with_reducible rfl | (simp; done)) | with_reducible refine Blk.alloc ?_ _ | with_reducible refine Blk.drewN ?_ _ | with_reducible refine Blk.drew ?_ | ((with_reducible refine Blk.other ?_ _ ?_); rotate_left; ((try dsimp only); omega)) | with_reducible refine Blk.setB (cs0 := ?_) ?_ ?_))) n1
    obtain ⟨y0, y1, y2, y3, y4, y5, y6, y7, y8, yf⟩ := L2.c9
    go_wp2_with fail
    refine (add_c r s _ O2 ⟨42, 0, 0, 0, 0, t1, (-1), st.i, 1⟩ _ (by show st.nodes.length ≤ 1000; omega) h2).mono ?_
    rintro e v3 ⟨rfl, O3, h3, t3⟩
    go_wp2
    go_end0
    refine ⟨rfl, went_th (O' := O3) ?_ (T2.out.trans t3)⟩
    rw [HV.out]
    exact h3
  · have hd0 := HD0.out hq
    subst hd0
    clear HD HD0
    go_quiet (fail)
    refine then_gen (fun W' => Rp W' r s st O ∧ Th O w O W') ⟨hW.n _, tW.n _⟩ ?_
    clear c0 c1 c2 c5 cf
    rintro W3 ⟨hW3, tW3⟩
    obtain ⟨c0, c1, c2, c5, cf⟩ := hW3.c
    rw [hb] at c2
    have hrW := hW3.lt r hW3.own
    have hOW := hW3.lt
    subst h1
    go_wp2_with fail
    refine (way_w (st := nextI st) (hW3.next.alloc _) (by omega) hi).mono ?_
    rintro e v1 ⟨rfl, O1, h1, t1⟩
    have T1 := hide (((tW3.set _ (.inl hW3.own)).alloc _).trans t1)
    obtain ⟨L1, n1⟩ := Th.blk t1 (b := W3.heap.size) (cs := [.int .u8 42, .int .i64 0, .int .i64 0, .int .i64 0, .int .u8 0, .int .i64 (-1), .int .i64 (-1), .int .i64 st.i, .int .i64 1]) (T := 63) (by (repeat' (first | ((with_reducible show (_ : List Value) = _); rfl) | ((with_reducible refine Blk.newAt _ _ _ ?_); first | with_reducible rfl | (simp; done)) | with_reducible refine Blk.alloc ?_ _ | with_reducible refine Blk.drewN ?_ _ | with_reducible refine Blk.drew ?_ | ((with_reducible refine Blk.other ?_ _ ?_); rotate_left; ((try dsimp only); omega)) | with_reducible refine Blk.setB (cs0 := ?_) ?_ ?_))) (fun e => by have := hOW _ e; omega)
    obtain ⟨x10, x11, x12, x13, x14, x15, x16, x17, x18, x1f⟩ := L1.c9
    rw [show (nextI st).bad = false from hb, show (nextI st).i = st.i + 1 from rfl] at *
    generalize wayF s (st.i + 1, false) = q at *
    obtain ⟨t1, i1, b1⟩ := q
    dsimp only at hw1
    go_wp2_with fail
    refine (eat_w (h1.other _ n1) 59 (by omega) hw1).mono ?_
    rintro e v2 ⟨rfl, O2, h2, t2⟩
    have T2 := hide ((T1.out.set _ (.inr (by have := tW3.1.size; omega))).trans t2)
    obtain ⟨L2, n2⟩ := Th.blk t2 (b := W3.heap.size) (cs := [.int .u8 42, .int .i64 0, .int .i64 0, .int .i64 0, .int .u8 0, .int .i64 t1, .int .i64 (-1), .int .i64 st.i, .int .i64 1]) (T := 63) (by (repeat' (first | ((with_reducible show (_ : List Value) = _); rfl) | with_reducible exact L1 | ((with_reducible refine Blk.newAt _ _ _ ?_); first | with_reducible rfl | (simp; done)) | with_reducible refine Blk.alloc ?_ _ | with_reducible refine Blk.drewN ?_ _ | with_reducible refine Blk.drew ?_ | ((with_reducible refine Blk.other ?_ _ ?_); rotate_left; ((try dsimp only); omega)) | with_reducible refine Blk.setB (cs0 := ?_) ?_ ?_))) n1
    obtain ⟨y0, y1, y2, y3, y4, y5, y6, y7, y8, yf⟩ := L2.c9
    go_wp2_with fail
    refine (add_c r s _ O2 ⟨42, 0, 0, 0, 0, t1, (-1), st.i, 1⟩ _ (by show st.nodes.length ≤ 1000; omega) h2).mono ?_
    rintro e v3 ⟨rfl, O3, h3, t3⟩
    go_wp2
    go_end0
    refine ⟨rfl, went_th (O' := O3) ?_ (T2.out.trans t3)⟩
    rw [HV.out]
    exact h3

def lineR (s : ByteArray) (st : RS) (z : Nd × (Nat × Bool)) : RS :=
  if z.2.2 = true then { st with i := z.2.1, bad := true }
  else { st with i := (eatF s (lineG s z.1 (lineT s z.1 z.2).2).2 59).1, bad := (eatF s (lineG s z.1 (lineT s z.1 z.2).2).2 59).2, nodes := st.nodes ++ [{ z.1 with t := (lineT s z.1 z.2).1, f := (lineG s z.1 (lineT s z.1 z.2).2).1 }] }

theorem lineF_eq (s : ByteArray) (st : RS) : lineF s st = lineR s st (lineN s st.i) := rfl

set_option maxHeartbeats 6400000 in
theorem line_test {w : World} {r : Nat} {s : ByteArray} {st : RS} {O : Nat → Prop} (hs : s.size ≤ 900) (h : Rp w r s st O) (hb : st.bad = false) (hi : st.i < s.size) (hn : st.nodes.length ≤ 950) (h1 : pk s st.i ≠ 42) (h2 : 97 ≤ pk s st.i ∧ pk s st.i ≤ 102 ∧ pk s (st.i + 1) ≠ 61 ∧ pk s (st.i + 1) ≠ 126) :
    Calls Tryz.prog 39 #[.pointer (some ⟨r, 0, none⟩)] w fun e w' => e = .returned (.tuple #[]) ∧ Went w O r s (lineF s st) w' := by
  have HP := hide (peek_w h)
  have hO := h.lt
  have hrl := h.lt r h.own
  have HV := hide (show lineF s st = lineR s st (testF s st.i) by rw [lineF_eq, lineN, if_neg h1, if_pos h2])
  have HD := hide (show ∀ hq : st.i + 1 < s.size, pk s (st.i + 1) = (s[st.i + 1]'hq).toNat from fun hq => by simp [pk, hq])
  have HD0 := hide (show ¬ st.i + 1 < s.size → pk s (st.i + 1) = 0 from fun hq => by simp [pk, hq])
  generalize hd1 : pk s st.i = c at *
  generalize hd2 : pk s (st.i + 1) = d at *
  clear hd1 hd2
  obtain ⟨c0, c1, c2, c5, cf⟩ := h.c
  rw [hb] at c2
  go_enter Tryz.func39, Tryz.ntmps39
  go_wp2_with fail
  refine HP.out.mono ?_
  rintro e w1 ⟨rfl, nq, rfl⟩
  go_wp2
  refine wp_gen (fun W => Rp W r s st O ∧ Th O w O W) ⟨h.n _, (Th.refl _ _).n _⟩ ?_
  clear c0 c1 c2 c5 cf
  rintro W ⟨hW, tW⟩
  obtain ⟨c0, c1, c2, c5, cf⟩ := hW.c
  rw [hb] at c2
  have hz4 : IntKind.i64.wrap ((st.i : Int) + 1) = (st.i : Int) + 1 := by rw [IntKind.wrap_i64]; omega
  by_cases hq : st.i + 1 < s.size
  · rw [HD.out hq] at *
    clear HD HD0
    go_quiet (fail)
    go_wp2
    refine wp_gen (fun W' => Rp W' r s st O ∧ Th O w O W') ⟨hW.n _, tW.n _⟩ ?_
    clear c0 c1 c2 c5 cf
    rintro W2 ⟨hW2, tW2⟩
    obtain ⟨c0, c1, c2, c5, cf⟩ := hW2.c
    rw [hb] at c2
    have hz1 : (st.i : Int) + 1 < (s.size : Int) := by omega
    have hz2 : 0 ≤ (st.i : Int) + 1 := by omega
    have hz6 : ((st.i : Int) + 1).toNat = st.i + 1 := by omega
    go_quiet (fail)
    refine then_gen (fun W' => Rp W' r s st O ∧ Th O w O W') ⟨hW2.n _, tW2.n _⟩ ?_
    clear c0 c1 c2 c5 cf
    rintro W3 ⟨hW3, tW3⟩
    obtain ⟨c0, c1, c2, c5, cf⟩ := hW3.c
    rw [hb] at c2
    have hrW := hW3.lt r hW3.own
    have hOW := hW3.lt
    generalize (s[st.i + 1]'hq).toNat = d at *
    have f42 : ((c : Int) == 42) = false := by simp; omega
    obtain ⟨g1, g2, g3, g4⟩ := h2
    have f61 : ((d : Int) == 61) = false := by first | (simp; done) | (simp; omega)
    have f126 : ((d : Int) == 126) = false := by first | (simp; done) | (simp; omega)
    have f61' : ((d : Int) != 61) = true := by first | (simp; done) | (simp; omega)
    have f126' : ((d : Int) != 126) = true := by first | (simp; done) | (simp; omega)
    clear h1 g3 g4
    go_wp2_with fail
    refine (test_w (hW3.alloc _) hb (by omega) (by omega)).mono ?_
    rintro e v0 ⟨rfl, O0, h0, t0⟩
    have T0 := hide ((tW3.alloc _).trans t0)
    have hsz := tW3.1.size
    obtain ⟨L0, n0⟩ := Th.blk t0 (b := W3.heap.size) (cs := [.int .u8 0, .int .i64 0, .int .i64 0, .int .i64 0, .int .u8 0, .int .i64 0, .int .i64 (-1), .int .i64 0, .int .i64 0]) (T := 63) (by (repeat' (first | ((with_reducible show (_ : List Value) = _); rfl) | ((with_reducible refine Blk.newAt _ _ _ ?_); first | with_reducible rfl | (simp; done)) | with_reducible refine Blk.alloc ?_ _ | with_reducible refine Blk.drewN ?_ _ | with_reducible refine Blk.drew ?_ | ((with_reducible refine Blk.other ?_ _ ?_); rotate_left; ((try dsimp only); omega)) | with_reducible refine Blk.setB (cs0 := ?_) ?_ ?_))) (fun e => by have := hOW _ e; omega)
    obtain ⟨z0, z1, z2, z3, z4, z5, z6, z7, z8, zf⟩ := L0.c9
    obtain ⟨p0, p1, p2, p5, pf⟩ := h0.c
    dsimp only at p1 p2
    have hq1 := testF_le s st.i (by omega)
    have hop := testF_op s st.i
    generalize testF s st.i = q at *
    obtain ⟨⟨uo, ux, uy, uv, uk, ut, uf, ua, ul⟩, qi, qb⟩ := q
    dsimp only at *
    simp only [Nd.cells]
    have hb0 : ∀ (W' : World), Rp W' r s { st with i := qi, bad := qb } O0 → ∀ o v, Rp (W'.setCell ⟨W3.heap.size, o, none⟩ v) r s { st with i := qi, bad := qb } O0 := fun W' hW' o v => hW'.other v n0
    have HB0 := hide hb0
    clear hb0
    cases qb
    case true =>
      go_wp2
      refine bodyPost_ret (results_none rfl _ _ _) rfl ?_
      rw [HV.out, show lineR s st (⟨uo, ux, uy, uv, uk, ut, uf, ua, ul⟩, qi, true) = { st with i := qi, bad := true } by simp [lineR]]
      exact ⟨rfl, went_th (O' := O0) (by repeat' (first | with_reducible exact h0 | with_reducible refine HB0.out _ ?_ _ _)) (by repeat' (first | with_reducible exact T0.out | ((with_reducible refine Th.set ?_ _ ?_); rotate_left; (exact .inr (by (try dsimp only); omega)))))⟩
    case false =>
      rcases hop with rfl | rfl
      · skip
        go_wp2_with fail
        refine (way_w (st := { st with i := qi, bad := false }) (by repeat' (first | with_reducible exact h0 | with_reducible refine HB0.out _ ?_ _ _)) (by omega) hq1).mono ?_
        rintro e v1 ⟨rfl, O1, h1, t1⟩
        have T1 := hide (p := Th O w O1 v1) (Th.trans (by repeat' (first | with_reducible exact T0.out | ((with_reducible refine Th.set ?_ _ ?_); rotate_left; (exact .inr (by (try dsimp only); omega))))) t1)
        obtain ⟨L1, n1⟩ := Th.blk t1 (b := W3.heap.size) (cs := [.int .u8 121, .int .i64 ux, .int .i64 uy, .int .i64 uv, .int .u8 uk, .int .i64 (-1), .int .i64 uf, .int .i64 ua, .int .i64 ul]) (T := 63) (by (repeat' (first | ((with_reducible show (_ : List Value) = _); rfl) | with_reducible exact L0 | ((with_reducible refine Blk.newAt _ _ _ ?_); first | with_reducible rfl | (simp; done)) | with_reducible refine Blk.alloc ?_ _ | with_reducible refine Blk.drewN ?_ _ | with_reducible refine Blk.drew ?_ | ((with_reducible refine Blk.other ?_ _ ?_); rotate_left; ((try dsimp only); omega)) | with_reducible refine Blk.setB (cs0 := ?_) ?_ ?_))) n0
        obtain ⟨x10, x11, x12, x13, x14, x15, x16, x17, x18, x1f⟩ := L1.c9
        have hw1 := wayF_le s (qi, false) hq1
        have HW1 : Hid (wayF s (qi, false) = wayF s (qi, false)) := rfl
        generalize hg1 : wayF s (qi, false) = g1 at *
        have HG1 := hide hg1
        clear hg1 HW1
        obtain ⟨t1, i1, b1⟩ := g1
        dsimp only at hw1
        go_wp2_with fail
        refine (way_w (st := { st with i := i1, bad := b1 }) (h1.other _ n1) (by omega) hw1).mono ?_
        rintro e v2 ⟨rfl, O2, h2, t2⟩
        have T2 := hide (p := Th O w O2 v2) (Th.trans (T1.out.set _ (.inr (by (try dsimp only); omega))) t2)
        obtain ⟨L2, n2⟩ := Th.blk t2 (b := W3.heap.size) (cs := [.int .u8 121, .int .i64 ux, .int .i64 uy, .int .i64 uv, .int .u8 uk, .int .i64 t1, .int .i64 uf, .int .i64 ua, .int .i64 ul]) (T := 63) (by (repeat' (first | ((with_reducible show (_ : List Value) = _); rfl) | with_reducible exact L1 | ((with_reducible refine Blk.newAt _ _ _ ?_); first | with_reducible rfl | (simp; done)) | with_reducible refine Blk.alloc ?_ _ | with_reducible refine Blk.drewN ?_ _ | with_reducible refine Blk.drew ?_ | ((with_reducible refine Blk.other ?_ _ ?_); rotate_left; ((try dsimp only); omega)) | with_reducible refine Blk.setB (cs0 := ?_) ?_ ?_))) n1
        obtain ⟨x20, x21, x22, x23, x24, x25, x26, x27, x28, x2f⟩ := L2.c9
        have hw2 := wayF_le s (i1, b1) hw1
        generalize hg2 : wayF s (i1, b1) = g2 at *
        have HG2 := hide hg2
        clear hg2
        obtain ⟨t2', i2, b2⟩ := g2
        dsimp only at hw2
        go_wp2_with fail
        refine (eat_w (h2.other _ n2) 59 (by omega) hw2).mono ?_
        rintro e v8 ⟨rfl, O8, h8, t8⟩
        have T8 := hide (p := Th O w O8 v8) (Th.trans (T2.out.set _ (.inr (by (try dsimp only); omega))) t8)
        obtain ⟨L8, n8⟩ := Th.blk t8 (b := W3.heap.size) (cs := [.int .u8 121, .int .i64 ux, .int .i64 uy, .int .i64 uv, .int .u8 uk, .int .i64 t1, .int .i64 t2', .int .i64 ua, .int .i64 ul]) (T := 63) (by (repeat' (first | ((with_reducible show (_ : List Value) = _); rfl) | with_reducible exact L2 | ((with_reducible refine Blk.newAt _ _ _ ?_); first | with_reducible rfl | (simp; done)) | with_reducible refine Blk.alloc ?_ _ | with_reducible refine Blk.drewN ?_ _ | with_reducible refine Blk.drew ?_ | ((with_reducible refine Blk.other ?_ _ ?_); rotate_left; ((try dsimp only); omega)) | with_reducible refine Blk.setB (cs0 := ?_) ?_ ?_))) n2
        obtain ⟨y0, y1, y2, y3, y4, y5, y6, y7, y8, yf⟩ := L8.c9
        go_wp2_with fail
        refine (add_c r s _ O8 ⟨121, ux, uy, uv, uk, t1, t2', ua, ul⟩ _ (by show st.nodes.length ≤ 1000; omega) h8).mono ?_
        rintro e v9 ⟨rfl, O9, h9, t9⟩
        go_wp2
        go_end0
        refine ⟨rfl, went_th (O' := O9) ?_ (T8.out.trans t9)⟩
        rw [HV.out, show lineR s st (⟨121, ux, uy, uv, uk, ut, uf, ua, ul⟩, qi, false) = { st with i := (eatF s (i2, b2) 59).1, bad := (eatF s (i2, b2) 59).2, nodes := st.nodes ++ [⟨121, ux, uy, uv, uk, t1, t2', ua, ul⟩] } by simp [lineR, lineT, lineG, HG1.out, HG2.out]]
        exact h9
      · skip
        go_wp2_with fail
        refine (way_w (st := { st with i := qi, bad := false }) (by repeat' (first | with_reducible exact h0 | with_reducible refine HB0.out _ ?_ _ _)) (by omega) hq1).mono ?_
        rintro e v1 ⟨rfl, O1, h1, t1⟩
        have T1 := hide (p := Th O w O1 v1) (Th.trans (by repeat' (first | with_reducible exact T0.out | ((with_reducible refine Th.set ?_ _ ?_); rotate_left; (exact .inr (by (try dsimp only); omega))))) t1)
        obtain ⟨L1, n1⟩ := Th.blk t1 (b := W3.heap.size) (cs := [.int .u8 58, .int .i64 ux, .int .i64 uy, .int .i64 uv, .int .u8 uk, .int .i64 (-1), .int .i64 uf, .int .i64 ua, .int .i64 ul]) (T := 63) (by (repeat' (first | ((with_reducible show (_ : List Value) = _); rfl) | with_reducible exact L0 | ((with_reducible refine Blk.newAt _ _ _ ?_); first | with_reducible rfl | (simp; done)) | with_reducible refine Blk.alloc ?_ _ | with_reducible refine Blk.drewN ?_ _ | with_reducible refine Blk.drew ?_ | ((with_reducible refine Blk.other ?_ _ ?_); rotate_left; ((try dsimp only); omega)) | with_reducible refine Blk.setB (cs0 := ?_) ?_ ?_))) n0
        obtain ⟨x10, x11, x12, x13, x14, x15, x16, x17, x18, x1f⟩ := L1.c9
        have hw1 := wayF_le s (qi, false) hq1
        have HW1 : Hid (wayF s (qi, false) = wayF s (qi, false)) := rfl
        generalize hg1 : wayF s (qi, false) = g1 at *
        have HG1 := hide hg1
        clear hg1 HW1
        obtain ⟨t1, i1, b1⟩ := g1
        dsimp only at hw1
        go_wp2_with fail
        refine (way_w (st := { st with i := i1, bad := b1 }) (h1.other _ n1) (by omega) hw1).mono ?_
        rintro e v2 ⟨rfl, O2, h2, t2⟩
        have T2 := hide (p := Th O w O2 v2) (Th.trans (T1.out.set _ (.inr (by (try dsimp only); omega))) t2)
        obtain ⟨L2, n2⟩ := Th.blk t2 (b := W3.heap.size) (cs := [.int .u8 58, .int .i64 ux, .int .i64 uy, .int .i64 uv, .int .u8 uk, .int .i64 t1, .int .i64 uf, .int .i64 ua, .int .i64 ul]) (T := 63) (by (repeat' (first | ((with_reducible show (_ : List Value) = _); rfl) | with_reducible exact L1 | ((with_reducible refine Blk.newAt _ _ _ ?_); first | with_reducible rfl | (simp; done)) | with_reducible refine Blk.alloc ?_ _ | with_reducible refine Blk.drewN ?_ _ | with_reducible refine Blk.drew ?_ | ((with_reducible refine Blk.other ?_ _ ?_); rotate_left; ((try dsimp only); omega)) | with_reducible refine Blk.setB (cs0 := ?_) ?_ ?_))) n1
        obtain ⟨x20, x21, x22, x23, x24, x25, x26, x27, x28, x2f⟩ := L2.c9
        have hw2 := wayF_le s (i1, b1) hw1
        generalize hg2 : wayF s (i1, b1) = g2 at *
        have HG2 := hide hg2
        clear hg2
        obtain ⟨t2', i2, b2⟩ := g2
        dsimp only at hw2
        go_wp2_with fail
        refine (eat_w (h2.other _ n2) 59 (by omega) hw2).mono ?_
        rintro e v8 ⟨rfl, O8, h8, t8⟩
        have T8 := hide (p := Th O w O8 v8) (Th.trans (T2.out.set _ (.inr (by (try dsimp only); omega))) t8)
        obtain ⟨L8, n8⟩ := Th.blk t8 (b := W3.heap.size) (cs := [.int .u8 58, .int .i64 ux, .int .i64 uy, .int .i64 uv, .int .u8 uk, .int .i64 t1, .int .i64 t2', .int .i64 ua, .int .i64 ul]) (T := 63) (by (repeat' (first | ((with_reducible show (_ : List Value) = _); rfl) | with_reducible exact L2 | ((with_reducible refine Blk.newAt _ _ _ ?_); first | with_reducible rfl | (simp; done)) | with_reducible refine Blk.alloc ?_ _ | with_reducible refine Blk.drewN ?_ _ | with_reducible refine Blk.drew ?_ | ((with_reducible refine Blk.other ?_ _ ?_); rotate_left; ((try dsimp only); omega)) | with_reducible refine Blk.setB (cs0 := ?_) ?_ ?_))) n2
        obtain ⟨y0, y1, y2, y3, y4, y5, y6, y7, y8, yf⟩ := L8.c9
        go_wp2_with fail
        refine (add_c r s _ O8 ⟨58, ux, uy, uv, uk, t1, t2', ua, ul⟩ _ (by show st.nodes.length ≤ 1000; omega) h8).mono ?_
        rintro e v9 ⟨rfl, O9, h9, t9⟩
        go_wp2
        go_end0
        refine ⟨rfl, went_th (O' := O9) ?_ (T8.out.trans t9)⟩
        rw [HV.out, show lineR s st (⟨58, ux, uy, uv, uk, ut, uf, ua, ul⟩, qi, false) = { st with i := (eatF s (i2, b2) 59).1, bad := (eatF s (i2, b2) 59).2, nodes := st.nodes ++ [⟨58, ux, uy, uv, uk, t1, t2', ua, ul⟩] } by simp [lineR, lineT, lineG, HG1.out, HG2.out]]
        exact h9
  · have hd0 := HD0.out hq
    subst hd0
    clear HD HD0
    go_quiet (fail)
    refine then_gen (fun W' => Rp W' r s st O ∧ Th O w O W') ⟨hW.n _, tW.n _⟩ ?_
    clear c0 c1 c2 c5 cf
    rintro W3 ⟨hW3, tW3⟩
    obtain ⟨c0, c1, c2, c5, cf⟩ := hW3.c
    rw [hb] at c2
    have hrW := hW3.lt r hW3.own
    have hOW := hW3.lt
    have f42 : ((c : Int) == 42) = false := by simp; omega
    obtain ⟨g1, g2, g3, g4⟩ := h2
    have f61 : ((0 : Int) == 61) = false := by first | (simp; done) | (simp; omega)
    have f126 : ((0 : Int) == 126) = false := by first | (simp; done) | (simp; omega)
    have f61' : ((0 : Int) != 61) = true := by first | (simp; done) | (simp; omega)
    have f126' : ((0 : Int) != 126) = true := by first | (simp; done) | (simp; omega)
    clear h1 g3 g4
    go_wp2_with fail
    refine (test_w (hW3.alloc _) hb (by omega) (by omega)).mono ?_
    rintro e v0 ⟨rfl, O0, h0, t0⟩
    have T0 := hide ((tW3.alloc _).trans t0)
    have hsz := tW3.1.size
    obtain ⟨L0, n0⟩ := Th.blk t0 (b := W3.heap.size) (cs := [.int .u8 0, .int .i64 0, .int .i64 0, .int .i64 0, .int .u8 0, .int .i64 0, .int .i64 (-1), .int .i64 0, .int .i64 0]) (T := 63) (by (repeat' (first | ((with_reducible show (_ : List Value) = _); rfl) | ((with_reducible refine Blk.newAt _ _ _ ?_); first | with_reducible rfl | (simp; done)) | with_reducible refine Blk.alloc ?_ _ | with_reducible refine Blk.drewN ?_ _ | with_reducible refine Blk.drew ?_ | ((with_reducible refine Blk.other ?_ _ ?_); rotate_left; ((try dsimp only); omega)) | with_reducible refine Blk.setB (cs0 := ?_) ?_ ?_))) (fun e => by have := hOW _ e; omega)
    obtain ⟨z0, z1, z2, z3, z4, z5, z6, z7, z8, zf⟩ := L0.c9
    obtain ⟨p0, p1, p2, p5, pf⟩ := h0.c
    dsimp only at p1 p2
    have hq1 := testF_le s st.i (by omega)
    have hop := testF_op s st.i
    generalize testF s st.i = q at *
    obtain ⟨⟨uo, ux, uy, uv, uk, ut, uf, ua, ul⟩, qi, qb⟩ := q
    dsimp only at *
    simp only [Nd.cells]
    have hb0 : ∀ (W' : World), Rp W' r s { st with i := qi, bad := qb } O0 → ∀ o v, Rp (W'.setCell ⟨W3.heap.size, o, none⟩ v) r s { st with i := qi, bad := qb } O0 := fun W' hW' o v => hW'.other v n0
    have HB0 := hide hb0
    clear hb0
    cases qb
    case true =>
      go_wp2
      refine bodyPost_ret (results_none rfl _ _ _) rfl ?_
      rw [HV.out, show lineR s st (⟨uo, ux, uy, uv, uk, ut, uf, ua, ul⟩, qi, true) = { st with i := qi, bad := true } by simp [lineR]]
      exact ⟨rfl, went_th (O' := O0) (by repeat' (first | with_reducible exact h0 | with_reducible refine HB0.out _ ?_ _ _)) (by repeat' (first | with_reducible exact T0.out | ((with_reducible refine Th.set ?_ _ ?_); rotate_left; (exact .inr (by (try dsimp only); omega)))))⟩
    case false =>
      rcases hop with rfl | rfl
      · skip
        go_wp2_with fail
        refine (way_w (st := { st with i := qi, bad := false }) (by repeat' (first | with_reducible exact h0 | with_reducible refine HB0.out _ ?_ _ _)) (by omega) hq1).mono ?_
        rintro e v1 ⟨rfl, O1, h1, t1⟩
        have T1 := hide (p := Th O w O1 v1) (Th.trans (by repeat' (first | with_reducible exact T0.out | ((with_reducible refine Th.set ?_ _ ?_); rotate_left; (exact .inr (by (try dsimp only); omega))))) t1)
        obtain ⟨L1, n1⟩ := Th.blk t1 (b := W3.heap.size) (cs := [.int .u8 121, .int .i64 ux, .int .i64 uy, .int .i64 uv, .int .u8 uk, .int .i64 (-1), .int .i64 uf, .int .i64 ua, .int .i64 ul]) (T := 63) (by (repeat' (first | ((with_reducible show (_ : List Value) = _); rfl) | with_reducible exact L0 | ((with_reducible refine Blk.newAt _ _ _ ?_); first | with_reducible rfl | (simp; done)) | with_reducible refine Blk.alloc ?_ _ | with_reducible refine Blk.drewN ?_ _ | with_reducible refine Blk.drew ?_ | ((with_reducible refine Blk.other ?_ _ ?_); rotate_left; ((try dsimp only); omega)) | with_reducible refine Blk.setB (cs0 := ?_) ?_ ?_))) n0
        obtain ⟨x10, x11, x12, x13, x14, x15, x16, x17, x18, x1f⟩ := L1.c9
        have hw1 := wayF_le s (qi, false) hq1
        have HW1 : Hid (wayF s (qi, false) = wayF s (qi, false)) := rfl
        generalize hg1 : wayF s (qi, false) = g1 at *
        have HG1 := hide hg1
        clear hg1 HW1
        obtain ⟨t1, i1, b1⟩ := g1
        dsimp only at hw1
        go_wp2_with fail
        refine (way_w (st := { st with i := i1, bad := b1 }) (h1.other _ n1) (by omega) hw1).mono ?_
        rintro e v2 ⟨rfl, O2, h2, t2⟩
        have T2 := hide (p := Th O w O2 v2) (Th.trans (T1.out.set _ (.inr (by (try dsimp only); omega))) t2)
        obtain ⟨L2, n2⟩ := Th.blk t2 (b := W3.heap.size) (cs := [.int .u8 121, .int .i64 ux, .int .i64 uy, .int .i64 uv, .int .u8 uk, .int .i64 t1, .int .i64 uf, .int .i64 ua, .int .i64 ul]) (T := 63) (by (repeat' (first | ((with_reducible show (_ : List Value) = _); rfl) | with_reducible exact L1 | ((with_reducible refine Blk.newAt _ _ _ ?_); first | with_reducible rfl | (simp; done)) | with_reducible refine Blk.alloc ?_ _ | with_reducible refine Blk.drewN ?_ _ | with_reducible refine Blk.drew ?_ | ((with_reducible refine Blk.other ?_ _ ?_); rotate_left; ((try dsimp only); omega)) | with_reducible refine Blk.setB (cs0 := ?_) ?_ ?_))) n1
        obtain ⟨x20, x21, x22, x23, x24, x25, x26, x27, x28, x2f⟩ := L2.c9
        have hw2 := wayF_le s (i1, b1) hw1
        generalize hg2 : wayF s (i1, b1) = g2 at *
        have HG2 := hide hg2
        clear hg2
        obtain ⟨t2', i2, b2⟩ := g2
        dsimp only at hw2
        go_wp2_with fail
        refine (eat_w (h2.other _ n2) 59 (by omega) hw2).mono ?_
        rintro e v8 ⟨rfl, O8, h8, t8⟩
        have T8 := hide (p := Th O w O8 v8) (Th.trans (T2.out.set _ (.inr (by (try dsimp only); omega))) t8)
        obtain ⟨L8, n8⟩ := Th.blk t8 (b := W3.heap.size) (cs := [.int .u8 121, .int .i64 ux, .int .i64 uy, .int .i64 uv, .int .u8 uk, .int .i64 t1, .int .i64 t2', .int .i64 ua, .int .i64 ul]) (T := 63) (by (repeat' (first | ((with_reducible show (_ : List Value) = _); rfl) | with_reducible exact L2 | ((with_reducible refine Blk.newAt _ _ _ ?_); first | with_reducible rfl | (simp; done)) | with_reducible refine Blk.alloc ?_ _ | with_reducible refine Blk.drewN ?_ _ | with_reducible refine Blk.drew ?_ | ((with_reducible refine Blk.other ?_ _ ?_); rotate_left; ((try dsimp only); omega)) | with_reducible refine Blk.setB (cs0 := ?_) ?_ ?_))) n2
        obtain ⟨y0, y1, y2, y3, y4, y5, y6, y7, y8, yf⟩ := L8.c9
        go_wp2_with fail
        refine (add_c r s _ O8 ⟨121, ux, uy, uv, uk, t1, t2', ua, ul⟩ _ (by show st.nodes.length ≤ 1000; omega) h8).mono ?_
        rintro e v9 ⟨rfl, O9, h9, t9⟩
        go_wp2
        go_end0
        refine ⟨rfl, went_th (O' := O9) ?_ (T8.out.trans t9)⟩
        rw [HV.out, show lineR s st (⟨121, ux, uy, uv, uk, ut, uf, ua, ul⟩, qi, false) = { st with i := (eatF s (i2, b2) 59).1, bad := (eatF s (i2, b2) 59).2, nodes := st.nodes ++ [⟨121, ux, uy, uv, uk, t1, t2', ua, ul⟩] } by simp [lineR, lineT, lineG, HG1.out, HG2.out]]
        exact h9
      · skip
        go_wp2_with fail
        refine (way_w (st := { st with i := qi, bad := false }) (by repeat' (first | with_reducible exact h0 | with_reducible refine HB0.out _ ?_ _ _)) (by omega) hq1).mono ?_
        rintro e v1 ⟨rfl, O1, h1, t1⟩
        have T1 := hide (p := Th O w O1 v1) (Th.trans (by repeat' (first | with_reducible exact T0.out | ((with_reducible refine Th.set ?_ _ ?_); rotate_left; (exact .inr (by (try dsimp only); omega))))) t1)
        obtain ⟨L1, n1⟩ := Th.blk t1 (b := W3.heap.size) (cs := [.int .u8 58, .int .i64 ux, .int .i64 uy, .int .i64 uv, .int .u8 uk, .int .i64 (-1), .int .i64 uf, .int .i64 ua, .int .i64 ul]) (T := 63) (by (repeat' (first | ((with_reducible show (_ : List Value) = _); rfl) | with_reducible exact L0 | ((with_reducible refine Blk.newAt _ _ _ ?_); first | with_reducible rfl | (simp; done)) | with_reducible refine Blk.alloc ?_ _ | with_reducible refine Blk.drewN ?_ _ | with_reducible refine Blk.drew ?_ | ((with_reducible refine Blk.other ?_ _ ?_); rotate_left; ((try dsimp only); omega)) | with_reducible refine Blk.setB (cs0 := ?_) ?_ ?_))) n0
        obtain ⟨x10, x11, x12, x13, x14, x15, x16, x17, x18, x1f⟩ := L1.c9
        have hw1 := wayF_le s (qi, false) hq1
        have HW1 : Hid (wayF s (qi, false) = wayF s (qi, false)) := rfl
        generalize hg1 : wayF s (qi, false) = g1 at *
        have HG1 := hide hg1
        clear hg1 HW1
        obtain ⟨t1, i1, b1⟩ := g1
        dsimp only at hw1
        go_wp2_with fail
        refine (way_w (st := { st with i := i1, bad := b1 }) (h1.other _ n1) (by omega) hw1).mono ?_
        rintro e v2 ⟨rfl, O2, h2, t2⟩
        have T2 := hide (p := Th O w O2 v2) (Th.trans (T1.out.set _ (.inr (by (try dsimp only); omega))) t2)
        obtain ⟨L2, n2⟩ := Th.blk t2 (b := W3.heap.size) (cs := [.int .u8 58, .int .i64 ux, .int .i64 uy, .int .i64 uv, .int .u8 uk, .int .i64 t1, .int .i64 uf, .int .i64 ua, .int .i64 ul]) (T := 63) (by (repeat' (first | ((with_reducible show (_ : List Value) = _); rfl) | with_reducible exact L1 | ((with_reducible refine Blk.newAt _ _ _ ?_); first | with_reducible rfl | (simp; done)) | with_reducible refine Blk.alloc ?_ _ | with_reducible refine Blk.drewN ?_ _ | with_reducible refine Blk.drew ?_ | ((with_reducible refine Blk.other ?_ _ ?_); rotate_left; ((try dsimp only); omega)) | with_reducible refine Blk.setB (cs0 := ?_) ?_ ?_))) n1
        obtain ⟨x20, x21, x22, x23, x24, x25, x26, x27, x28, x2f⟩ := L2.c9
        have hw2 := wayF_le s (i1, b1) hw1
        generalize hg2 : wayF s (i1, b1) = g2 at *
        have HG2 := hide hg2
        clear hg2
        obtain ⟨t2', i2, b2⟩ := g2
        dsimp only at hw2
        go_wp2_with fail
        refine (eat_w (h2.other _ n2) 59 (by omega) hw2).mono ?_
        rintro e v8 ⟨rfl, O8, h8, t8⟩
        have T8 := hide (p := Th O w O8 v8) (Th.trans (T2.out.set _ (.inr (by (try dsimp only); omega))) t8)
        obtain ⟨L8, n8⟩ := Th.blk t8 (b := W3.heap.size) (cs := [.int .u8 58, .int .i64 ux, .int .i64 uy, .int .i64 uv, .int .u8 uk, .int .i64 t1, .int .i64 t2', .int .i64 ua, .int .i64 ul]) (T := 63) (by (repeat' (first | ((with_reducible show (_ : List Value) = _); rfl) | with_reducible exact L2 | ((with_reducible refine Blk.newAt _ _ _ ?_); first | with_reducible rfl | (simp; done)) | with_reducible refine Blk.alloc ?_ _ | with_reducible refine Blk.drewN ?_ _ | with_reducible refine Blk.drew ?_ | ((with_reducible refine Blk.other ?_ _ ?_); rotate_left; ((try dsimp only); omega)) | with_reducible refine Blk.setB (cs0 := ?_) ?_ ?_))) n2
        obtain ⟨y0, y1, y2, y3, y4, y5, y6, y7, y8, yf⟩ := L8.c9
        go_wp2_with fail
        refine (add_c r s _ O8 ⟨58, ux, uy, uv, uk, t1, t2', ua, ul⟩ _ (by show st.nodes.length ≤ 1000; omega) h8).mono ?_
        rintro e v9 ⟨rfl, O9, h9, t9⟩
        go_wp2
        go_end0
        refine ⟨rfl, went_th (O' := O9) ?_ (T8.out.trans t9)⟩
        rw [HV.out, show lineR s st (⟨58, ux, uy, uv, uk, ut, uf, ua, ul⟩, qi, false) = { st with i := (eatF s (i2, b2) 59).1, bad := (eatF s (i2, b2) 59).2, nodes := st.nodes ++ [⟨58, ux, uy, uv, uk, t1, t2', ua, ul⟩] } by simp [lineR, lineT, lineG, HG1.out, HG2.out]]
        exact h9
end Go.Proofs.YtellieabhaphhaaGreatDoor

/-
  narrowref's reader: the walk of a line that is no test.
-/
namespace Go.Proofs.YtellieabhaphhaaGreatDoor
open Go.RowKit

set_option maxHeartbeats 6400000 in
theorem line_simple {w : World} {r : Nat} {s : ByteArray} {st : RS} {O : Nat → Prop} (hs : s.size ≤ 900) (h : Rp w r s st O) (hb : st.bad = false) (hi : st.i < s.size) (hn : st.nodes.length ≤ 950) (h1 : pk s st.i ≠ 42) (h2 : pk s st.i < 97 ∨ (97 ≤ pk s st.i ∧ 102 < pk s st.i) ∨ (97 ≤ pk s st.i ∧ pk s st.i ≤ 102 ∧ pk s (st.i + 1) = 61) ∨ (97 ≤ pk s st.i ∧ pk s st.i ≤ 102 ∧ pk s (st.i + 1) ≠ 61 ∧ pk s (st.i + 1) = 126)) :
    Calls Tryz.prog 39 #[.pointer (some ⟨r, 0, none⟩)] w fun e w' => e = .returned (.tuple #[]) ∧ Went w O r s (lineF s st) w' := by
  have HP := hide (peek_w h)
  have hO := h.lt
  have hrl := h.lt r h.own
  have HV := hide (show lineF s st = lineR s st (simpF s st.i) by rw [lineF_eq, lineN, if_neg h1, if_neg (by omega)])
  have HD := hide (show ∀ hq : st.i + 1 < s.size, pk s (st.i + 1) = (s[st.i + 1]'hq).toNat from fun hq => by simp [pk, hq])
  have HD0 := hide (show ¬ st.i + 1 < s.size → pk s (st.i + 1) = 0 from fun hq => by simp [pk, hq])
  generalize hd1 : pk s st.i = c at *
  generalize hd2 : pk s (st.i + 1) = d at *
  clear hd1 hd2
  obtain ⟨c0, c1, c2, c5, cf⟩ := h.c
  rw [hb] at c2
  go_enter Tryz.func39, Tryz.ntmps39
  go_wp2_with fail
  refine HP.out.mono ?_
  rintro e w1 ⟨rfl, nq, rfl⟩
  go_wp2
  refine wp_gen (fun W => Rp W r s st O ∧ Th O w O W) ⟨h.n _, (Th.refl _ _).n _⟩ ?_
  clear c0 c1 c2 c5 cf
  rintro W ⟨hW, tW⟩
  obtain ⟨c0, c1, c2, c5, cf⟩ := hW.c
  rw [hb] at c2
  have hz4 : IntKind.i64.wrap ((st.i : Int) + 1) = (st.i : Int) + 1 := by rw [IntKind.wrap_i64]; omega
  by_cases hq : st.i + 1 < s.size
  · rw [HD.out hq] at *
    clear HD HD0
    go_quiet (fail)
    go_wp2
    refine wp_gen (fun W' => Rp W' r s st O ∧ Th O w O W') ⟨hW.n _, tW.n _⟩ ?_
    clear c0 c1 c2 c5 cf
    rintro W2 ⟨hW2, tW2⟩
    obtain ⟨c0, c1, c2, c5, cf⟩ := hW2.c
    rw [hb] at c2
    have hz1 : (st.i : Int) + 1 < (s.size : Int) := by omega
    have hz2 : 0 ≤ (st.i : Int) + 1 := by omega
    have hz6 : ((st.i : Int) + 1).toNat = st.i + 1 := by omega
    go_quiet (fail)
    refine then_gen (fun W' => Rp W' r s st O ∧ Th O w O W') ⟨hW2.n _, tW2.n _⟩ ?_
    clear c0 c1 c2 c5 cf
    rintro W3 ⟨hW3, tW3⟩
    obtain ⟨c0, c1, c2, c5, cf⟩ := hW3.c
    rw [hb] at c2
    have hrW := hW3.lt r hW3.own
    have hOW := hW3.lt
    generalize (s[st.i + 1]'hq).toNat = d at *
    have f42 : ((c : Int) == 42) = false := by simp; omega
    clear h1
    rcases h2 with h2 | ⟨h2, h3⟩ | ⟨h2, h3, h4⟩ | ⟨h2, h3, h5, h4⟩
    all_goals (try (exfalso; revert h4; decide))
    all_goals (try subst h4)
    all_goals
      go_wp2_with fail
      refine (simple_w (hW3.alloc _) hb (by omega) (by omega)).mono ?_
      rintro e v0 ⟨rfl, O0, h0, t0⟩
      have T0 := hide ((tW3.alloc _).trans t0)
      have hsz := tW3.1.size
      obtain ⟨L0, n0⟩ := Th.blk t0 (b := W3.heap.size) (cs := [.int .u8 0, .int .i64 0, .int .i64 0, .int .i64 0, .int .u8 0, .int .i64 0, .int .i64 (-1), .int .i64 0, .int .i64 0]) (T := 63) (by (repeat' (first | ((with_reducible show (_ : List Value) = _); rfl) | ((with_reducible refine Blk.newAt _ _ _ ?_); first | with_reducible rfl | (simp; done)) | with_reducible refine Blk.alloc ?_ _ | with_reducible refine Blk.drewN ?_ _ | with_reducible refine Blk.drew ?_ | ((with_reducible refine Blk.other ?_ _ ?_); rotate_left; ((try dsimp only); omega)) | with_reducible refine Blk.setB (cs0 := ?_) ?_ ?_))) (fun e => by have := hOW _ e; omega)
      obtain ⟨z0, z1, z2, z3, z4, z5, z6, z7, z8, zf⟩ := L0.c9
      obtain ⟨p0, p1, p2, p5, pf⟩ := h0.c
      dsimp only at p1 p2
      have hq1 := simpF_le s st.i (by omega)
      have hop := simpF_op s st.i
      generalize simpF s st.i = q at *
      obtain ⟨⟨uo, ux, uy, uv, uk, ut, uf, ua, ul⟩, qi, qb⟩ := q
      dsimp only at *
      simp only [Nd.cells]
      have hb0 : ∀ (W' : World), Rp W' r s { st with i := qi, bad := qb } O0 → ∀ o v, Rp (W'.setCell ⟨W3.heap.size, o, none⟩ v) r s { st with i := qi, bad := qb } O0 := fun W' hW' o v => hW'.other v n0
      have HB0 := hide hb0
      clear hb0
      cases qb
      case true =>
        go_wp2
        refine bodyPost_ret (results_none rfl _ _ _) rfl ?_
        rw [HV.out, show lineR s st (⟨uo, ux, uy, uv, uk, ut, uf, ua, ul⟩, qi, true) = { st with i := qi, bad := true } by simp [lineR]]
        exact ⟨rfl, went_th (O' := O0) (by repeat' (first | with_reducible exact h0 | with_reducible refine HB0.out _ ?_ _ _)) (by repeat' (first | with_reducible exact T0.out | ((with_reducible refine Th.set ?_ _ ?_); rotate_left; (exact .inr (by (try dsimp only); omega)))))⟩
      case false =>
        by_cases h33 : uo = 33
        · subst h33
          go_wp2_with fail
          refine (eat_w (st := { st with i := qi, bad := false }) (by repeat' (first | with_reducible exact h0 | with_reducible refine HB0.out _ ?_ _ _)) 59 (by omega) hq1).mono ?_
          rintro e v8 ⟨rfl, O8, h8, t8⟩
          have T8 := hide (p := Th O w O8 v8) (Th.trans (by repeat' (first | with_reducible exact T0.out | ((with_reducible refine Th.set ?_ _ ?_); rotate_left; (exact .inr (by (try dsimp only); omega))))) t8)
          obtain ⟨L8, n8⟩ := Th.blk t8 (b := W3.heap.size) (cs := [.int .u8 33, .int .i64 ux, .int .i64 uy, .int .i64 uv, .int .u8 uk, .int .i64 (-1), .int .i64 uf, .int .i64 ua, .int .i64 ul]) (T := 63) (by (repeat' (first | ((with_reducible show (_ : List Value) = _); rfl) | with_reducible exact L0 | ((with_reducible refine Blk.newAt _ _ _ ?_); first | with_reducible rfl | (simp; done)) | with_reducible refine Blk.alloc ?_ _ | with_reducible refine Blk.drewN ?_ _ | with_reducible refine Blk.drew ?_ | ((with_reducible refine Blk.other ?_ _ ?_); rotate_left; ((try dsimp only); omega)) | with_reducible refine Blk.setB (cs0 := ?_) ?_ ?_))) n0
          obtain ⟨y0, y1, y2, y3, y4, y5, y6, y7, y8, yf⟩ := L8.c9
          go_wp2_with fail
          refine (add_c r s _ O8 ⟨33, ux, uy, uv, uk, (-1), uf, ua, ul⟩ _ (by show st.nodes.length ≤ 1000; omega) h8).mono ?_
          rintro e v9 ⟨rfl, O9, h9, t9⟩
          go_wp2
          go_end0
          refine ⟨rfl, went_th (O' := O9) ?_ (T8.out.trans t9)⟩
          rw [HV.out, show lineR s st (⟨33, ux, uy, uv, uk, ut, uf, ua, ul⟩, qi, false) = { st with i := (eatF s (qi, false) 59).1, bad := (eatF s (qi, false) 59).2, nodes := st.nodes ++ [⟨33, ux, uy, uv, uk, -1, uf, ua, ul⟩] } by simp [lineR, lineT, lineG]]
          exact h9
        · have f33 : (uo == 33) = false := by simp [h33]
          have f33' : (uo != 33) = true := by simp [h33]
          have f121 : (uo == 121) = false := by simp [hop.1]
          have f58 : (uo == 58) = false := by simp [hop.2]
          have HOP : Hid (¬ uo = 33 ∧ ¬ uo = 121 ∧ ¬ uo = 58) := ⟨h33, hop⟩
          clear h33 hop
          go_wp2_with fail
          refine (way_w (st := { st with i := qi, bad := false }) (by repeat' (first | with_reducible exact h0 | with_reducible refine HB0.out _ ?_ _ _)) (by omega) hq1).mono ?_
          rintro e v1 ⟨rfl, O1, h1, t1⟩
          have T1 := hide (p := Th O w O1 v1) (Th.trans (by repeat' (first | with_reducible exact T0.out | ((with_reducible refine Th.set ?_ _ ?_); rotate_left; (exact .inr (by (try dsimp only); omega))))) t1)
          obtain ⟨L1, n1⟩ := Th.blk t1 (b := W3.heap.size) (cs := [.int .u8 uo, .int .i64 ux, .int .i64 uy, .int .i64 uv, .int .u8 uk, .int .i64 (-1), .int .i64 uf, .int .i64 ua, .int .i64 ul]) (T := 63) (by (repeat' (first | ((with_reducible show (_ : List Value) = _); rfl) | with_reducible exact L0 | ((with_reducible refine Blk.newAt _ _ _ ?_); first | with_reducible rfl | (simp; done)) | with_reducible refine Blk.alloc ?_ _ | with_reducible refine Blk.drewN ?_ _ | with_reducible refine Blk.drew ?_ | ((with_reducible refine Blk.other ?_ _ ?_); rotate_left; ((try dsimp only); omega)) | with_reducible refine Blk.setB (cs0 := ?_) ?_ ?_))) n0
          obtain ⟨x10, x11, x12, x13, x14, x15, x16, x17, x18, x1f⟩ := L1.c9
          have hw1 := wayF_le s (qi, false) hq1
          generalize hg1 : wayF s (qi, false) = g1 at *
          have HG1 := hide hg1
          clear hg1
          obtain ⟨t1, i1, b1⟩ := g1
          dsimp only at hw1
          go_wp2_with fail
          refine (eat_w (h1.other _ n1) 59 (by omega) hw1).mono ?_
          rintro e v8 ⟨rfl, O8, h8, t8⟩
          have T8 := hide (p := Th O w O8 v8) (Th.trans (T1.out.set _ (.inr (by (try dsimp only); omega))) t8)
          obtain ⟨L8, n8⟩ := Th.blk t8 (b := W3.heap.size) (cs := [.int .u8 uo, .int .i64 ux, .int .i64 uy, .int .i64 uv, .int .u8 uk, .int .i64 t1, .int .i64 uf, .int .i64 ua, .int .i64 ul]) (T := 63) (by (repeat' (first | ((with_reducible show (_ : List Value) = _); rfl) | with_reducible exact L1 | ((with_reducible refine Blk.newAt _ _ _ ?_); first | with_reducible rfl | (simp; done)) | with_reducible refine Blk.alloc ?_ _ | with_reducible refine Blk.drewN ?_ _ | with_reducible refine Blk.drew ?_ | ((with_reducible refine Blk.other ?_ _ ?_); rotate_left; ((try dsimp only); omega)) | with_reducible refine Blk.setB (cs0 := ?_) ?_ ?_))) n1
          obtain ⟨y0, y1, y2, y3, y4, y5, y6, y7, y8, yf⟩ := L8.c9
          go_wp2_with fail
          refine (add_c r s _ O8 ⟨uo, ux, uy, uv, uk, t1, uf, ua, ul⟩ _ (by show st.nodes.length ≤ 1000; omega) h8).mono ?_
          rintro e v9 ⟨rfl, O9, h9, t9⟩
          go_wp2
          go_end0
          refine ⟨rfl, went_th (O' := O9) ?_ (T8.out.trans t9)⟩
          rw [HV.out, show lineR s st (⟨uo, ux, uy, uv, uk, ut, uf, ua, ul⟩, qi, false) = { st with i := (eatF s (i1, b1) 59).1, bad := (eatF s (i1, b1) 59).2, nodes := st.nodes ++ [⟨uo, ux, uy, uv, uk, t1, uf, ua, ul⟩] } by simp [lineR, lineT, lineG, HG1.out, HOP.out]]
          exact h9
  · have hd0 := HD0.out hq
    subst hd0
    clear HD HD0
    go_quiet (fail)
    refine then_gen (fun W' => Rp W' r s st O ∧ Th O w O W') ⟨hW.n _, tW.n _⟩ ?_
    clear c0 c1 c2 c5 cf
    rintro W3 ⟨hW3, tW3⟩
    obtain ⟨c0, c1, c2, c5, cf⟩ := hW3.c
    rw [hb] at c2
    have hrW := hW3.lt r hW3.own
    have hOW := hW3.lt
    have f42 : ((c : Int) == 42) = false := by simp; omega
    clear h1
    rcases h2 with h2 | ⟨h2, h3⟩ | ⟨h2, h3, h4⟩ | ⟨h2, h3, h5, h4⟩
    all_goals (try (exfalso; revert h4; decide))
    all_goals (try subst h4)
    all_goals
      go_wp2_with fail
      refine (simple_w (hW3.alloc _) hb (by omega) (by omega)).mono ?_
      rintro e v0 ⟨rfl, O0, h0, t0⟩
      have T0 := hide ((tW3.alloc _).trans t0)
      have hsz := tW3.1.size
      obtain ⟨L0, n0⟩ := Th.blk t0 (b := W3.heap.size) (cs := [.int .u8 0, .int .i64 0, .int .i64 0, .int .i64 0, .int .u8 0, .int .i64 0, .int .i64 (-1), .int .i64 0, .int .i64 0]) (T := 63) (by (repeat' (first | ((with_reducible show (_ : List Value) = _); rfl) | ((with_reducible refine Blk.newAt _ _ _ ?_); first | with_reducible rfl | (simp; done)) | with_reducible refine Blk.alloc ?_ _ | with_reducible refine Blk.drewN ?_ _ | with_reducible refine Blk.drew ?_ | ((with_reducible refine Blk.other ?_ _ ?_); rotate_left; ((try dsimp only); omega)) | with_reducible refine Blk.setB (cs0 := ?_) ?_ ?_))) (fun e => by have := hOW _ e; omega)
      obtain ⟨z0, z1, z2, z3, z4, z5, z6, z7, z8, zf⟩ := L0.c9
      obtain ⟨p0, p1, p2, p5, pf⟩ := h0.c
      dsimp only at p1 p2
      have hq1 := simpF_le s st.i (by omega)
      have hop := simpF_op s st.i
      generalize simpF s st.i = q at *
      obtain ⟨⟨uo, ux, uy, uv, uk, ut, uf, ua, ul⟩, qi, qb⟩ := q
      dsimp only at *
      simp only [Nd.cells]
      have hb0 : ∀ (W' : World), Rp W' r s { st with i := qi, bad := qb } O0 → ∀ o v, Rp (W'.setCell ⟨W3.heap.size, o, none⟩ v) r s { st with i := qi, bad := qb } O0 := fun W' hW' o v => hW'.other v n0
      have HB0 := hide hb0
      clear hb0
      cases qb
      case true =>
        go_wp2
        refine bodyPost_ret (results_none rfl _ _ _) rfl ?_
        rw [HV.out, show lineR s st (⟨uo, ux, uy, uv, uk, ut, uf, ua, ul⟩, qi, true) = { st with i := qi, bad := true } by simp [lineR]]
        exact ⟨rfl, went_th (O' := O0) (by repeat' (first | with_reducible exact h0 | with_reducible refine HB0.out _ ?_ _ _)) (by repeat' (first | with_reducible exact T0.out | ((with_reducible refine Th.set ?_ _ ?_); rotate_left; (exact .inr (by (try dsimp only); omega)))))⟩
      case false =>
        by_cases h33 : uo = 33
        · subst h33
          go_wp2_with fail
          refine (eat_w (st := { st with i := qi, bad := false }) (by repeat' (first | with_reducible exact h0 | with_reducible refine HB0.out _ ?_ _ _)) 59 (by omega) hq1).mono ?_
          rintro e v8 ⟨rfl, O8, h8, t8⟩
          have T8 := hide (p := Th O w O8 v8) (Th.trans (by repeat' (first | with_reducible exact T0.out | ((with_reducible refine Th.set ?_ _ ?_); rotate_left; (exact .inr (by (try dsimp only); omega))))) t8)
          obtain ⟨L8, n8⟩ := Th.blk t8 (b := W3.heap.size) (cs := [.int .u8 33, .int .i64 ux, .int .i64 uy, .int .i64 uv, .int .u8 uk, .int .i64 (-1), .int .i64 uf, .int .i64 ua, .int .i64 ul]) (T := 63) (by (repeat' (first | ((with_reducible show (_ : List Value) = _); rfl) | with_reducible exact L0 | ((with_reducible refine Blk.newAt _ _ _ ?_); first | with_reducible rfl | (simp; done)) | with_reducible refine Blk.alloc ?_ _ | with_reducible refine Blk.drewN ?_ _ | with_reducible refine Blk.drew ?_ | ((with_reducible refine Blk.other ?_ _ ?_); rotate_left; ((try dsimp only); omega)) | with_reducible refine Blk.setB (cs0 := ?_) ?_ ?_))) n0
          obtain ⟨y0, y1, y2, y3, y4, y5, y6, y7, y8, yf⟩ := L8.c9
          go_wp2_with fail
          refine (add_c r s _ O8 ⟨33, ux, uy, uv, uk, (-1), uf, ua, ul⟩ _ (by show st.nodes.length ≤ 1000; omega) h8).mono ?_
          rintro e v9 ⟨rfl, O9, h9, t9⟩
          go_wp2
          go_end0
          refine ⟨rfl, went_th (O' := O9) ?_ (T8.out.trans t9)⟩
          rw [HV.out, show lineR s st (⟨33, ux, uy, uv, uk, ut, uf, ua, ul⟩, qi, false) = { st with i := (eatF s (qi, false) 59).1, bad := (eatF s (qi, false) 59).2, nodes := st.nodes ++ [⟨33, ux, uy, uv, uk, -1, uf, ua, ul⟩] } by simp [lineR, lineT, lineG]]
          exact h9
        · have f33 : (uo == 33) = false := by simp [h33]
          have f33' : (uo != 33) = true := by simp [h33]
          have f121 : (uo == 121) = false := by simp [hop.1]
          have f58 : (uo == 58) = false := by simp [hop.2]
          have HOP : Hid (¬ uo = 33 ∧ ¬ uo = 121 ∧ ¬ uo = 58) := ⟨h33, hop⟩
          clear h33 hop
          go_wp2_with fail
          refine (way_w (st := { st with i := qi, bad := false }) (by repeat' (first | with_reducible exact h0 | with_reducible refine HB0.out _ ?_ _ _)) (by omega) hq1).mono ?_
          rintro e v1 ⟨rfl, O1, h1, t1⟩
          have T1 := hide (p := Th O w O1 v1) (Th.trans (by repeat' (first | with_reducible exact T0.out | ((with_reducible refine Th.set ?_ _ ?_); rotate_left; (exact .inr (by (try dsimp only); omega))))) t1)
          obtain ⟨L1, n1⟩ := Th.blk t1 (b := W3.heap.size) (cs := [.int .u8 uo, .int .i64 ux, .int .i64 uy, .int .i64 uv, .int .u8 uk, .int .i64 (-1), .int .i64 uf, .int .i64 ua, .int .i64 ul]) (T := 63) (by (repeat' (first | ((with_reducible show (_ : List Value) = _); rfl) | with_reducible exact L0 | ((with_reducible refine Blk.newAt _ _ _ ?_); first | with_reducible rfl | (simp; done)) | with_reducible refine Blk.alloc ?_ _ | with_reducible refine Blk.drewN ?_ _ | with_reducible refine Blk.drew ?_ | ((with_reducible refine Blk.other ?_ _ ?_); rotate_left; ((try dsimp only); omega)) | with_reducible refine Blk.setB (cs0 := ?_) ?_ ?_))) n0
          obtain ⟨x10, x11, x12, x13, x14, x15, x16, x17, x18, x1f⟩ := L1.c9
          have hw1 := wayF_le s (qi, false) hq1
          generalize hg1 : wayF s (qi, false) = g1 at *
          have HG1 := hide hg1
          clear hg1
          obtain ⟨t1, i1, b1⟩ := g1
          dsimp only at hw1
          go_wp2_with fail
          refine (eat_w (h1.other _ n1) 59 (by omega) hw1).mono ?_
          rintro e v8 ⟨rfl, O8, h8, t8⟩
          have T8 := hide (p := Th O w O8 v8) (Th.trans (T1.out.set _ (.inr (by (try dsimp only); omega))) t8)
          obtain ⟨L8, n8⟩ := Th.blk t8 (b := W3.heap.size) (cs := [.int .u8 uo, .int .i64 ux, .int .i64 uy, .int .i64 uv, .int .u8 uk, .int .i64 t1, .int .i64 uf, .int .i64 ua, .int .i64 ul]) (T := 63) (by (repeat' (first | ((with_reducible show (_ : List Value) = _); rfl) | with_reducible exact L1 | ((with_reducible refine Blk.newAt _ _ _ ?_); first | with_reducible rfl | (simp; done)) | with_reducible refine Blk.alloc ?_ _ | with_reducible refine Blk.drewN ?_ _ | with_reducible refine Blk.drew ?_ | ((with_reducible refine Blk.other ?_ _ ?_); rotate_left; ((try dsimp only); omega)) | with_reducible refine Blk.setB (cs0 := ?_) ?_ ?_))) n1
          obtain ⟨y0, y1, y2, y3, y4, y5, y6, y7, y8, yf⟩ := L8.c9
          go_wp2_with fail
          refine (add_c r s _ O8 ⟨uo, ux, uy, uv, uk, t1, uf, ua, ul⟩ _ (by show st.nodes.length ≤ 1000; omega) h8).mono ?_
          rintro e v9 ⟨rfl, O9, h9, t9⟩
          go_wp2
          go_end0
          refine ⟨rfl, went_th (O' := O9) ?_ (T8.out.trans t9)⟩
          rw [HV.out, show lineR s st (⟨uo, ux, uy, uv, uk, ut, uf, ua, ul⟩, qi, false) = { st with i := (eatF s (i1, b1) 59).1, bad := (eatF s (i1, b1) 59).2, nodes := st.nodes ++ [⟨uo, ux, uy, uv, uk, t1, uf, ua, ul⟩] } by simp [lineR, lineT, lineG, HG1.out, HOP.out]]
          exact h9

theorem line_c {w : World} {r : Nat} {s : ByteArray} {st : RS} {O : Nat → Prop} (hs : s.size ≤ 900) (h : Rp w r s st O) (hb : st.bad = false) (hi : st.i < s.size) (hn : st.nodes.length ≤ 950) :
    Calls Tryz.prog 39 #[.pointer (some ⟨r, 0, none⟩)] w fun e w' => e = .returned (.tuple #[]) ∧ Went w O r s (lineF s st) w' := by
  by_cases h1 : pk s st.i = 42
  · exact line_star hs h hb hi hn h1
  by_cases h2 : 97 ≤ pk s st.i ∧ pk s st.i ≤ 102 ∧ pk s (st.i + 1) ≠ 61 ∧ pk s (st.i + 1) ≠ 126
  · exact line_test hs h hb hi hn h1 h2
  · exact line_simple hs h hb hi hn h1 (by omega)
end Go.Proofs.YtellieabhaphhaaGreatDoor

/-
  narrowref's machine: values.
-/
namespace Go.Proofs.YtellieabhaphhaaGreatDoor
open Go.RowKit

def partF (y : Vl) : Vl := if y.k = 65 then ⟨110, y.n, 0⟩ else ⟨y.v, 0, 0⟩

def consF (n : Nd) : Vl :=
  if n.op = 48 then ⟨110, n.k - 48, 0⟩ else if n.op = 84 then ⟨116, 0, 0⟩ else if n.op = 70 then ⟨102, 0, 0⟩ else if n.op = 67 then ⟨67, 0, 0⟩ else ⟨122, 0, 0⟩

def holdF (n : Nd) (v : Vl) : Bool := if n.op = 58 then v.k == n.k else (v.k != 102 && v.k != 122 && (v.k != 110 || v.n != 0))

theorem MB.vu {w : World} {m lb : Nat} {inp : ByteArray} {st : Mc} (h : MB w m lb inp st) {i : Nat} {u : Vl} (hu : st.l[i]? = some u) :
    i < 6 ∧ w.cell? ⟨lb, i * 3, none⟩ = some (.int .u8 u.k) ∧ w.cell? ⟨lb, i * 3 + 1, none⟩ = some (.int .i64 u.n) ∧ w.cell? ⟨lb, i * 3 + 2, none⟩ = some (.int .u8 u.v) := by
  obtain ⟨hi, rfl⟩ := List.getElem?_eq_some_iff.1 hu
  exact ⟨by have := h.six; omega, h.vs i hi⟩

end Go.Proofs.YtellieabhaphhaaGreatDoor

-- The shelf at this dump, by program.
namespace Go.Proofs
open Go.Shelf
def Tryz.laysM171_ren : Go.Shelf.Ren := ⟨fun | 171 => 161 | 243 => 181 | 246 => 188 | 283 => 189 | 284 => 190 | 285 => 191 | 286 => 192 | 129 => 194 | 317 => 193 | 318 => 195 | 319 => 196 | 320 => 197 | 337 => 198 | 338 => 199 | n => n, fun | 3 => 3 | 9 => 9 | 2 => 2 | 4 => 4 | 171 => 204 | 0 => 0 | 53 => 205 | 37 => 156 | 5 => 5 | 173 => 208 | 212 => 211 | 51 => 212 | 20 => 20 | 213 => 213 | 46 => 214 | 232 => 217 | 233 => 218 | n => n, fun | 17 => 0 | 18 => 1 | 19 => 2 | n => n⟩
theorem Tryz.laysM171 : Go.Proofs.LaysM.n171 Tryz.prog Tryz.laysM171_ren := {
  mixed := by kernel_rfl
  f129 := Tryz.func194.trans (congrArg some (by kernel_rfl))
  f171 := Tryz.func161.trans (congrArg some (by kernel_rfl))
  f243 := Tryz.func181.trans (congrArg some (by kernel_rfl))
  f246 := Tryz.func188.trans (congrArg some (by kernel_rfl))
  f283 := Tryz.func189.trans (congrArg some (by kernel_rfl))
  f284 := Tryz.func190.trans (congrArg some (by kernel_rfl))
  f285 := Tryz.func191.trans (congrArg some (by kernel_rfl))
  f286 := Tryz.func192.trans (congrArg some (by kernel_rfl))
  f317 := Tryz.func193.trans (congrArg some (by kernel_rfl))
  f318 := Tryz.func195.trans (congrArg some (by kernel_rfl))
  f319 := Tryz.func196.trans (congrArg some (by kernel_rfl))
  f320 := Tryz.func197.trans (congrArg some (by kernel_rfl))
  f337 := Tryz.func198.trans (congrArg some (by kernel_rfl))
  f338 := Tryz.func199.trans (congrArg some (by kernel_rfl))
  t0 := Tryz.underlying0
  a0 := Tryz.isAgg0
  z0 := Tryz.sizeOf0
  v0 := Tryz.zeroValue0
  t2 := Tryz.underlying2
  a2 := Tryz.isAgg2
  z2 := Tryz.sizeOf2
  v2 := Tryz.zeroValue2
  t3 := Tryz.underlying3
  a3 := Tryz.isAgg3
  z3 := Tryz.sizeOf3
  v3 := Tryz.zeroValue3
  t4 := Tryz.underlying4
  a4 := Tryz.isAgg4
  z4 := Tryz.sizeOf4
  v4 := Tryz.zeroValue4
  t5 := Tryz.underlying5
  a5 := Tryz.isAgg5
  z5 := Tryz.sizeOf5
  v5 := Tryz.zeroValue5
  t9 := Tryz.underlying9
  a9 := Tryz.isAgg9
  z9 := Tryz.sizeOf9
  v9 := Tryz.zeroValue9
  t20 := Tryz.underlying20
  a20 := Tryz.isAgg20
  z20 := Tryz.sizeOf20
  v20 := Tryz.zeroValue20
  t37 := Tryz.underlying156
  a37 := Tryz.isAgg156
  z37 := Tryz.sizeOf156
  v37 := Tryz.zeroValue156
  t46 := Tryz.underlying214
  a46 := Tryz.isAgg214
  z46 := Tryz.sizeOf214
  v46 := Tryz.zeroValue214
  t51 := Tryz.underlying212
  a51 := Tryz.isAgg212
  z51 := Tryz.sizeOf212
  v51 := Tryz.zeroValue212
  t53 := Tryz.underlying205
  a53 := Tryz.isAgg205
  z53 := Tryz.sizeOf205
  v53 := Tryz.zeroValue205
  t171 := Tryz.underlying204
  a171 := Tryz.isAgg204
  z171 := Tryz.sizeOf204
  v171 := Tryz.zeroValue204
  t173 := Tryz.underlying208
  a173 := Tryz.isAgg208
  z173 := Tryz.sizeOf208
  v173 := Tryz.zeroValue208
  t212 := Tryz.underlying211
  a212 := Tryz.isAgg211
  z212 := Tryz.sizeOf211
  v212 := Tryz.zeroValue211
  t213 := Tryz.underlying213
  a213 := Tryz.isAgg213
  z213 := Tryz.sizeOf213
  t232 := Tryz.underlying217
  a232 := Tryz.isAgg217
  z232 := Tryz.sizeOf217
  v232 := Tryz.zeroValue217
  t233 := Tryz.underlying218
  a233 := Tryz.isAgg218
  z233 := Tryz.sizeOf218
  v233 := Tryz.zeroValue218
  g17 := by kernel_rfl
  g18 := by kernel_rfl
  g19 := by kernel_rfl
  i0 := by kernel_rfl
  i2 := by kernel_rfl
  i3 := by kernel_rfl
  i4 := by kernel_rfl
  i5 := by kernel_rfl
  i9 := by kernel_rfl
  i20 := by kernel_rfl
  i37 := by kernel_rfl
  i46 := by kernel_rfl
  i51 := by kernel_rfl
  i53 := by kernel_rfl
  i171 := by kernel_rfl
  i173 := by kernel_rfl
  i212 := by kernel_rfl
  i232 := by kernel_rfl
  i233 := by kernel_rfl
  m17 := by kernel_rfl
  m18 := by kernel_rfl
  m19 := by kernel_rfl }
open Go.RowKit Go.Sort Go.Lib in

theorem Tryz.strconv_Itoa (n : Int) (h0 : -9223372036854775808 ≤ n) (h1 : n ≤ 9223372036854775807) (w : World) (htab : Lib.TabIs Tryz.prog w "internal/strconv.uint64pow10" .u64 Lib.pow10Tab) :
    Calls Tryz.prog 161 #[.int .i64 n] w fun e w' => e = .returned (.string ⟨(Lib.itoa n).toArray⟩) ∧ ∃ k os, w' = grow (w.drewN k) os := Any.strconv_Itoa Tryz.laysM171 n h0 h1 w htab
end Go.Proofs

/-
  narrowref's machine: values as they are put out.
-/
namespace Go.Proofs.YtellieabhaphhaaGreatDoor
open Go.RowKit

/-- The library's table of powers is as it was laid. -/
def Tab (w : World) : Prop := Lib.TabIs Tryz.prog w "internal/strconv.uint64pow10" .u64 Lib.pow10Tab

theorem gtab : Tryz.prog.globalNamed "internal/strconv.uint64pow10" = some 0 := by kernel_rfl

theorem Tab.lt {w : World} (h : Tab w) : 0 < w.heap.size := by
  have h' : w.var? Tryz.prog "internal/strconv.uint64pow10" = some _ := h
  simp only [World.var?, gtab, Option.bind_some] at h'
  rcases Nat.lt_or_ge 0 w.heap.size with hl | hg
  · exact hl
  · rw [Array.getElem?_eq_none hg] at h'; simp at h'

theorem Tab.kp {S : Nat → Prop} {w w' : World} (h : Tab w) (k : Kp S w w') (hS : ¬ S 0) : Tab w' := by
  have h' : w.var? Tryz.prog "internal/strconv.uint64pow10" = some _ := h
  have e := k.block 0 h.lt hS
  show w'.var? Tryz.prog "internal/strconv.uint64pow10" = some _
  simp only [World.var?, gtab, Option.bind_some] at h' ⊢
  rw [e]
  exact h'

def itoaB (n : Int) : ByteArray := ⟨(Lib.itoa n).toArray⟩

theorem grow_kp (w : World) (k : Nat) (os : Array Obj) : Kp no w (Go.Sort.grow (w.drewN k) os) :=
  ⟨rfl, rfl, rfl, by simp [Go.Sort.grow], fun i hi _ => by
    show (w.heap ++ os)[i]? = _
    rw [Array.getElem?_append_left hi]⟩

theorem itoa_c (n : Int) (h0 : 0 ≤ n) (h1 : n ≤ 1000) (w : World) (ht : Tab w) :
    Calls Tryz.prog 161 #[.int .i64 n] w fun e w' => e = .returned (.string (itoaB n)) ∧ Kp no w w' := by
  refine (Tryz.strconv_Itoa n (by omega) (by omega) w ht).mono ?_
  rintro e w' ⟨rfl, k, os, rfl⟩
  exact ⟨rfl, grow_kp w k os⟩

def spellF (v : Vl) : ByteArray :=
  if v.k = 110 then itoaB v.n else if v.k = 65 then ⟨#[65]⟩ ++ itoaB v.n else if v.k = 66 then ⟨#[66]⟩ ++ capF v.v else capF v.k

theorem itoa_size (n : Int) (h0 : 0 ≤ n) (h1 : n ≤ 1000) : (itoaB n).size ≤ 100 := by
  obtain ⟨n, rfl⟩ := Int.eq_ofNat_of_zero_le h0
  have h : ∀ n : Nat, n ≤ 1000 → (itoaB n).size ≤ 100 := by decide +kernel
  exact h n (by omega)

theorem capF_size (k : Int) : (capF k).size = 1 := by unfold capF; repeat' split
                                                      all_goals rfl

end Go.Proofs.YtellieabhaphhaaGreatDoor

/-
  narrowref's machine: what x=E is worth.
-/
namespace Go.Proofs.YtellieabhaphhaaGreatDoor
open Go.RowKit

/-- What is asked of a variable's value: its number is small. -/
def VOk (u : Vl) : Prop := 0 ≤ u.n ∧ u.n ≤ 999 ∧ 0 ≤ u.k

def worF (inp : ByteArray) (n : Nd) (y v : Vl) (st : Mc) : Vl × Mc :=
  if n.op = 63 then nextF inp st
  else if n.op = 118 then (y, st)
  else if n.op = 43 then (⟨110, (y.n + v.n) % 1000, 0⟩, st)
  else if n.op = 60 then ((if y.n < v.n then ⟨116, 0, 0⟩ else ⟨102, 0, 0⟩), st)
  else if n.op = 65 then (⟨65, y.n, 0⟩, st)
  else if n.op = 66 then (⟨66, 0, y.k⟩, st)
  else if n.op = 46 then (partF y, st)
  else (consF n, st)

end Go.Proofs.YtellieabhaphhaaGreatDoor

/-
  narrowref's machine: a node that is no test.
-/
namespace Go.Proofs.YtellieabhaphhaaGreatDoor
open Go.RowKit

def inK (op k : Int) : Bool := amF k.toNat (takF op).data.toList

def putL (st : Mc) (x : Nat) (u : Vl) : Mc := { st with l := st.l.set x u }

def doF (inp : ByteArray) (n : Nd) (x : Nat) (xu yu vu : Vl) (st : Mc) : Mc :=
  if n.op = 33 then { st with e := 6 }
  else if inK n.op yu.k = false then { st with e := 5 }
  else if (n.op = 43 ∨ n.op = 60) ∧ inK n.op vu.k = false then { st with e := 5 }
  else if n.op = 42 then st
  else if n.op = 94 then { st with out := st.out ++ spellF yu ++ sp }
  else if n.op = 126 then (if xu.k = n.k then st else { st with e := 7 })
  else putL (worF inp n yu vu st).2 x (worF inp n yu vu st).1

theorem spell_size (v : Vl) (h : VOk v) : (spellF v).size ≤ 200 := by
  have h1 := itoa_size v.n h.1 (by have := h.2.1; omega)
  unfold spellF
  repeat' split
  · omega
  · rw [ByteArray.size_append]; show 1 + _ ≤ _; omega
  · rw [ByteArray.size_append, capF_size]; show 1 + _ ≤ _; omega
  · rw [capF_size]; omega

end Go.Proofs.YtellieabhaphhaaGreatDoor

/-
  narrowref's machine, as functions: conditions, loops, blocks.
-/
namespace Go.Proofs.YtellieabhaphhaaGreatDoor
open Go.RowKit

/-- A machine within bounds. -/
structure MOk (m : Mc) : Prop where
  left : m.left ≤ 300
  tr : m.tr.size + 9 * m.left ≤ 2700
  out : m.out.size + 300 * m.left ≤ 90000
  v : ∀ u ∈ m.l, VOk u ∧ 0 ≤ u.v
  six : m.l.length = 6

/-- Nodes within bounds. -/
structure NOk (n : Nd) : Prop where
  x : 0 ≤ n.x ∧ n.x < 6
  y : 0 ≤ n.y ∧ n.y < 6
  v : 0 ≤ n.v ∧ n.v < 6
  k : n.op = 48 → 48 ≤ n.k ∧ n.k ≤ 57

theorem told_size (n : Nat) (l : List Vl) : (toldB n l).size = 2 + l.length := by rw [toldB, kindsB_size, twoB_size]

theorem startF_ok {m : Mc} (n : Nat) (h : MOk m) : MOk (startF m n).1 ∧ ((startF m n).2 = true → (startF m n).1.out.size + 300 * (startF m n).1.left + 300 ≤ 90000) ∧ (startF m n).1.l = m.l := by
  have h1 := h.left; have h2 := h.tr; have h3 := h.out; have h6 := h.six
  unfold startF
  split
  · exact ⟨⟨h1, h2, h3, h.v, h6⟩, by simp, rfl⟩
  · refine ⟨⟨?_, ?_, ?_, h.v, h6⟩, fun _ => ?_, rfl⟩
    · simp only []; omega
    · simp only [ByteArray.size_append, told_size, h6]
      have : sp.size = 1 := rfl
      omega
    · simp only []; omega
    · simp only []; omega

theorem inVal_ok (c : Nat) : VOk (inVal c) ∧ 0 ≤ (inVal c).v := by
  unfold inVal VOk
  repeat' split
  all_goals (simp; try omega)

theorem nextF_ok (inp : ByteArray) (m : Mc) : (VOk (nextF inp m).1 ∧ 0 ≤ (nextF inp m).1.v) ∧ (nextF inp m).2.l = m.l ∧ (nextF inp m).2.left = m.left ∧ (nextF inp m).2.tr = m.tr ∧ (nextF inp m).2.out = m.out ∧ (nextF inp m).2.e = m.e := by
  unfold nextF
  split
  · exact ⟨inVal_ok _, rfl, rfl, rfl, rfl, rfl⟩
  · exact ⟨inVal_ok _, rfl, rfl, rfl, rfl, rfl⟩

theorem worF_ok {inp : ByteArray} {n : Nd} {y v : Vl} {m : Mc} (hn : n.op = 48 → 48 ≤ n.k ∧ n.k ≤ 57) (hy : VOk y ∧ 0 ≤ y.v) (hv : VOk v ∧ 0 ≤ v.v) :
    (VOk (worF inp n y v m).1 ∧ 0 ≤ (worF inp n y v m).1.v) ∧ (worF inp n y v m).2.l = m.l ∧ (worF inp n y v m).2.left = m.left ∧ (worF inp n y v m).2.tr = m.tr ∧ (worF inp n y v m).2.out = m.out ∧ (worF inp n y v m).2.e = m.e := by
  obtain ⟨⟨y1, y2, y3⟩, y4⟩ := hy
  obtain ⟨⟨v1, v2, v3⟩, v4⟩ := hv
  have hno := nextF_ok inp m
  unfold worF
  repeat' split
  · exact hno
  · exact ⟨⟨⟨y1, y2, y3⟩, y4⟩, rfl, rfl, rfl, rfl, rfl⟩
  · refine ⟨⟨⟨?_, ?_, ?_⟩, ?_⟩, rfl, rfl, rfl, rfl, rfl⟩ <;> simp only [] <;> omega
  · exact ⟨⟨⟨by simp, by simp, by simp⟩, by simp⟩, rfl, rfl, rfl, rfl, rfl⟩
  · exact ⟨⟨⟨by simp, by simp, by simp⟩, by simp⟩, rfl, rfl, rfl, rfl, rfl⟩
  · exact ⟨⟨⟨y1, y2, by simp⟩, by simp⟩, rfl, rfl, rfl, rfl, rfl⟩
  · exact ⟨⟨⟨by simp, by simp, by simp⟩, y3⟩, rfl, rfl, rfl, rfl, rfl⟩
  · refine ⟨?_, rfl, rfl, rfl, rfl, rfl⟩
    show VOk (partF y) ∧ 0 ≤ (partF y).v
    unfold partF
    split
    · exact ⟨⟨y1, y2, by simp⟩, by simp⟩
    · exact ⟨⟨by simp, by simp, y4⟩, by simp⟩
  · refine ⟨?_, rfl, rfl, rfl, rfl, rfl⟩
    show VOk (consF n) ∧ 0 ≤ (consF n).v
    unfold consF
    repeat' split
    · rename_i h; have := hn h; exact ⟨⟨by simp only []; omega, by simp only []; omega, by simp⟩, by simp⟩
    all_goals exact ⟨⟨by simp, by simp, by simp⟩, by simp⟩

theorem doF_ok {inp : ByteArray} {n : Nd} {x : Nat} {xu yu vu : Vl} {m : Mc} (hn : n.op = 48 → 48 ≤ n.k ∧ n.k ≤ 57) (hy : VOk yu ∧ 0 ≤ yu.v) (hv : VOk vu ∧ 0 ≤ vu.v) (h : MOk m) (ho : m.out.size + 300 * m.left + 300 ≤ 90000) : MOk (doF inp n x xu yu vu m) := by
  have h1 := h.left; have h2 := h.tr; have h3 := h.out; have h6 := h.six
  have hw := worF_ok (inp := inp) (m := m) hn hy hv
  unfold doF
  repeat' split
  · exact ⟨h1, h2, h3, h.v, h6⟩
  · exact ⟨h1, h2, h3, h.v, h6⟩
  · exact ⟨h1, h2, h3, h.v, h6⟩
  · exact h
  · refine ⟨h1, h2, ?_, h.v, h6⟩
    have := spell_size yu hy.1
    have e : sp.size = 1 := rfl
    simp only [ByteArray.size_append, e]; omega
  · exact h
  · exact ⟨h1, h2, h3, h.v, h6⟩
  · obtain ⟨w1, w2, w3, w4, w5, w6⟩ := hw
    refine ⟨?_, ?_, ?_, ?_, ?_⟩
    · show (worF inp n yu vu m).2.left ≤ 300
      rw [w3]; exact h1
    · show (worF inp n yu vu m).2.tr.size + 9 * (worF inp n yu vu m).2.left ≤ 2700
      rw [w3, w4]; exact h2
    · show (worF inp n yu vu m).2.out.size + 300 * (worF inp n yu vu m).2.left ≤ 90000
      rw [w3, w5]; exact h3
    · intro u hu
      simp only [putL, w2] at hu
      rcases List.mem_or_eq_of_mem_set hu with hu | rfl
      · exact h.v u hu
      · exact w1
    · simp only [putL, w2, List.length_set]; exact h6
end Go.Proofs.YtellieabhaphhaaGreatDoor

/-
  narrowref's machine: the walk of a condition that is tested.
-/
namespace Go.Proofs.YtellieabhaphhaaGreatDoor
open Go.RowKit

theorem Rp.kp {S : Nat → Prop} {w w' : World} {r : Nat} {s : ByteArray} {st : RS} {O : Nat → Prop} (h : Rp w r s st O) (k : Kp S w w') (hS : ∀ b, O b → ¬ S b) : Rp w' r s st O := by
  obtain ⟨nv, iv, hB, hN, hI, d1, d2, d3, rfl⟩ := h
  exact ⟨nv, iv, k.blk hB (hS _ (.inl rfl)), k.row hN (fun b hb => hS b (.inr (.inl hb))), k.row hI (fun b hb => hS b (.inr (.inr hb))), d1, d2, d3, rfl⟩

theorem Rp.node {w : World} {r : Nat} {s : ByteArray} {st : RS} {O : Nat → Prop} (h : Rp w r s st O) {k : Nat} {nd : Nd} (hk : st.nodes[k]? = some nd) :
    ∃ g cap, k < st.nodes.length ∧ O g ∧ w.cell? ⟨r, 3, none⟩ = some (.slice (some ⟨g, 0, none⟩) st.nodes.length cap) ∧ ∀ j, j < 9 → w.cell? ⟨g, k * 9 + j, none⟩ = nd.cells[j]? := by
  obtain ⟨nv, iv, hB, hN, hI, d1, d2, d3, rfl⟩ := h
  obtain ⟨hl, rfl⟩ := List.getElem?_eq_some_iff.1 hk
  obtain ⟨g, cap, rfl, _, hg⟩ := World.ownsRow.form hN (by omega)
  refine ⟨g, cap, hl, .inr (.inl rfl), Blk.cell hB 3, fun j hj => ?_⟩
  rw [Row.cell hN _ (by have := Nat.mul_le_mul_right 9 hl; omega)]
  exact flat_get Nd.cells 9 nd9 st.nodes k j hl hj

/-- The machine and the reader together. -/
structure RM (w : World) (m lb : Nat) (inp : ByteArray) (mc : Mc) (r : Nat) (s : ByteArray) (st : RS) (O : Nat → Prop) : Prop where
  mb : MB w m lb inp mc
  rp : Rp w r s st O
  dm : ¬ O m
  dl : ¬ O lb
  tab : Tab w
  tm : m ≠ 0
  tl : lb ≠ 0
  ok : MOk mc
  nok : ∀ n ∈ st.nodes, NOk n
  inp : inp.size ≤ 40
  li : st.items.length ≤ 1000
  ln : st.nodes.length ≤ 1000

section
variable {w w' : World} {m lb : Nat} {inp : ByteArray} {mc mc' : Mc} {r : Nat} {s : ByteArray} {st : RS} {O : Nat → Prop}

theorem RM.next (h : RM w m lb inp mc r s st O) (hm : MB w' m lb inp mc') (k : Kp (MK m lb) w w') (ok : MOk mc') : RM w' m lb inp mc' r s st O :=
  ⟨hm, h.rp.kp k (fun b hb e => by rcases e with rfl | rfl; exact h.dm hb; exact h.dl hb), h.dm, h.dl, h.tab.kp k (by rintro (e | e); exact h.tm e.symm; exact h.tl e.symm), h.tm, h.tl, ok, h.nok, h.inp, h.li, h.ln⟩
theorem RM.kp (h : RM w m lb inp mc r s st O) (k : Kp no w w') : RM w' m lb inp mc r s st O :=
  h.next (h.mb.kp k no_elim no_elim) (k.mono (fun _ e => e.elim)) h.ok
theorem RM.alloc (h : RM w m lb inp mc r s st O) (o : Obj) : RM (w.alloc o) m lb inp mc r s st O := h.kp ((Kp.refl no w).alloc o)
theorem RM.drew (h : RM w m lb inp mc r s st O) : RM w.drew m lb inp mc r s st O := h.kp ((Kp.refl no w).drew)
theorem RM.drewN (h : RM w m lb inp mc r s st O) (n : Nat) : RM (w.drewN n) m lb inp mc r s st O := h.kp ((Kp.refl no w).drewN n)
end

theorem Blk.c4 {w : World} {b : Nat} {a0 a1 a2 a3 : Value} {T : TypeId} (h : Blk w b [a0, a1, a2, a3] T) :
    w.cell? ⟨b, 0, none⟩ = some a0 ∧ w.cell? ⟨b, 1, none⟩ = some a1 ∧ w.cell? ⟨b, 2, none⟩ = some a2 ∧ w.cell? ⟨b, 3, none⟩ = some a3 ∧ ∀ o, w.frozen? ⟨b, o, none⟩ = false :=
  ⟨h.cell 0, h.cell 1, h.cell 2, h.cell 3, h.frozen⟩

end Go.Proofs.YtellieabhaphhaaGreatDoor

/-
  narrowref's reader: a graph.
-/
namespace Go.Proofs.YtellieabhaphhaaGreatDoor
open Go.RowKit

def lnsF : Nat → ByteArray → RS → RS
  | 0, _, st => st
  | f + 1, s, st => if st.bad = false ∧ st.i < s.size then (if 90 ≤ st.nodes.length then { st with bad := true } else lnsF f s (lineF s st)) else st

theorem lns_stop (k : Nat) (s : ByteArray) (st : RS) (h : ¬ (st.bad = false ∧ st.i < s.size)) : lnsF k s st = st := by
  cases k with
  | zero => rfl
  | succ k => rw [lnsF, if_neg h]

theorem lineN_ge (s : ByteArray) (i : Nat) : i ≤ (lineN s i).2.1 ∧ ((lineN s i).2.2 = false → i < (lineN s i).2.1) := by
  unfold lineN; repeat' split
  · exact ⟨Nat.le_succ _, fun _ => Nat.lt_succ_self _⟩
  · exact testF_ge s i
  · exact simpF_ge s i

theorem lineN_le (s : ByteArray) (i : Nat) (h : i < s.size) : (lineN s i).2.1 ≤ s.size := by
  unfold lineN; repeat' split
  · exact h
  · exact testF_le s i (by omega)
  · exact simpF_le s i (by omega)

theorem lineT_ge (s : ByteArray) (n : Nd) (p : Nat × Bool) : p.1 ≤ (lineT s n p).2.1 := by
  unfold lineT; split
  · exact Nat.le_refl _
  · exact (wayF_ge s p).1
theorem lineG_ge (s : ByteArray) (n : Nd) (p : Nat × Bool) : p.1 ≤ (lineG s n p).2.1 := by
  unfold lineG; split
  · exact (wayF_ge s p).1
  · exact Nat.le_refl _
theorem lineT_le (s : ByteArray) (n : Nd) (p : Nat × Bool) (h : p.1 ≤ s.size) : (lineT s n p).2.1 ≤ s.size := by
  unfold lineT; split
  · exact h
  · exact wayF_le s p h
theorem lineG_le (s : ByteArray) (n : Nd) (p : Nat × Bool) (h : p.1 ≤ s.size) : (lineG s n p).2.1 ≤ s.size := by
  unfold lineG; split
  · exact wayF_le s p h
  · exact h

theorem lineF_inv (s : ByteArray) (st : RS) (h : st.i < s.size) : (lineF s st).i ≤ s.size ∧ st.i ≤ (lineF s st).i ∧ ((lineF s st).bad = false → st.i < (lineF s st).i) ∧ (lineF s st).nodes.length ≤ st.nodes.length + 1 := by
  have h1 := lineN_ge s st.i
  have h2 := lineN_le s st.i h
  rw [lineF_eq]
  generalize lineN s st.i = z at *
  have t1 := lineT_ge s z.1 z.2
  have t2 := lineT_le s z.1 z.2 h2
  have g1 := lineG_ge s z.1 (lineT s z.1 z.2).2
  have g2 := lineG_le s z.1 (lineT s z.1 z.2).2 t2
  have e1 := eatF_ge s (lineG s z.1 (lineT s z.1 z.2).2).2 59
  have e2 := eatF_le s (lineG s z.1 (lineT s z.1 z.2).2).2 59 (by decide) g2
  unfold lineR
  split
  · exact ⟨h2, h1.1, fun hq => by simp at hq, Nat.le_succ _⟩
  · refine ⟨e2, by simp only []; omega, fun hq => ?_, by simp⟩
    have := e1.2 hq
    simp only []; omega

def graF (s : ByteArray) : RS := lnsF (s.size + 1) s rs0

theorem lnsF_inv : ∀ (f : Nat) (s : ByteArray) (st : RS), st.i ≤ s.size → st.nodes.length ≤ 90 → (lnsF f s st).i ≤ s.size ∧ (lnsF f s st).nodes.length ≤ 90 := by
  intro f
  induction f with
  | zero => intro s st h1 h2; exact ⟨h1, h2⟩
  | succ f ih =>
    intro s st h1 h2
    unfold lnsF
    split
    · rename_i hc
      split
      · exact ⟨h1, h2⟩
      · obtain ⟨a1, a2, a3, a4⟩ := lineF_inv s st hc.2
        exact ih s _ a1 (by omega)
    · exact ⟨h1, h2⟩

theorem graF_inv (s : ByteArray) : (graF s).i ≤ s.size ∧ (graF s).nodes.length ≤ 90 := lnsF_inv _ _ _ (Nat.zero_le _) (by decide)

/-- A way to what there is not. -/
def badLink (l : List Nd) (n : Nd) : Bool := decide ((l.length : Int) < n.t) || decide ((l.length : Int) < n.f)

def linkAt (l : List Nd) : Option Nat := l.findIdx? (badLink l)

def graE (s : ByteArray) : Nat × Nat := if (graF s).bad then (2, (graF s).i) else match linkAt (graF s).nodes with | some i => (3, i) | none => (0, 0)

def LinPost (s : ByteArray) (w : World) (e : Ending) (w' : World) : Prop :=
  ∃ r O, e = .returned (.tuple #[.pointer (some ⟨r, 0, none⟩), .int .i64 (graE s).1, .int .i64 (graE s).2]) ∧ Rp w' r s (graF s) O ∧ Kp no w w' ∧ ∀ b, O b → w.heap.size ≤ b

set_option maxHeartbeats 1600000 in
theorem lines_long (s : ByteArray) (w : World) (hm : s.size ≤ maxLen) (hs : 900 < s.size) :
    Calls Tryz.prog 23 #[.string s] w fun e w' => (∃ r, e = .returned (.tuple #[.pointer (some ⟨r, 0, none⟩), .int .i64 1, .int .i64 0])) ∧ Kp no w w' := by
  unfold maxLen at hm
  go_enter Tryz.func23, Tryz.ntmps23
  go_wp2
  go_ret3
  exact ⟨⟨_, rfl⟩, by (repeat' (first | with_reducible exact Kp.refl _ _ | with_reducible refine Kp.alloc ?_ _ | with_reducible refine Kp.drewN ?_ _ | with_reducible refine Kp.drew ?_ | with_reducible refine Kp.setCell ?_ _ ?_ | (intro hh; first | rfl | exact .inl rfl | exact .inr rfl | (exfalso; (try dsimp only at hh); omega))))⟩

theorem rp_nodes {w : World} {r : Nat} {s : ByteArray} {st : RS} {O : Nat → Prop} (h : Rp w r s st O) : ∃ g cap, w.cell? ⟨r, 3, none⟩ = some (.slice g st.nodes.length cap) := by
  obtain ⟨nv, iv, hB, hN, hI, _⟩ := h
  rcases hN.2 with ⟨rfl, h0⟩ | ⟨g, cap, cur, rfl, _⟩
  · exact ⟨none, 0, by rw [h0]; exact Blk.cell hB 3⟩
  · exact ⟨_, cap, Blk.cell hB 3⟩

set_option maxRecDepth 100000 in
set_option maxHeartbeats 6400000 in
theorem lines_c (s : ByteArray) (w : World) (hs : s.size ≤ 900) :
    Calls Tryz.prog 23 #[.string s] w fun e w' => LinPost s w e w' := by
  have h0 : Rp (w.alloc (.cells #[.string s, .int .i64 0, .bool false, .slice none 0 0, .slice none 0 0, .int .i64 0] 45)) w.heap.size s rs0 (Own w.heap.size (.slice none 0 0) (.slice none 0 0)) :=
    ⟨_, _, Blk.new w [.string s, .int .i64 0, .bool false, .slice none 0 0, .slice none 0 0, .int .i64 0] _, World.ownsRow_nil _ _ _ _, World.ownsRow_nil _ _ _ _, by simp [Value.ownBlock], by simp [Value.ownBlock], by simp [Value.ownBlock], rfl⟩
  go_enter Tryz.func23, Tryz.ntmps23
  go_wp2
  go_loopg [38] (s.size + 1) (fun k _ wr => ∃ st O, Rp wr w.heap.size s st O ∧ Kp no w wr ∧ (∀ b, O b → w.heap.size ≤ b) ∧ st.i ≤ s.size ∧ st.nodes.length ≤ 90 ∧ (st.bad = false → s.size - st.i < k) ∧ graF s = lnsF k s st)
  case atStart =>
    refine ⟨rs0, _, h0, (Kp.refl no w).alloc _, ?_, Nat.zero_le _, by decide, fun _ => by show s.size - 0 < _; omega, rfl⟩
    rintro b (e | e | e)
    · omega
    · simp [Value.ownBlock] at e
    · simp [Value.ownBlock] at e
  case round =>
    obtain ⟨st, O, hr, kr, hO, hi, hn, hk, hE⟩ := hrel
    have HE := hide hE
    have HK := hide hk
    have HKR := hide kr
    have HO := hide hO
    clear hE hk kr hO h0
    obtain ⟨c0, c1, c2, c5, cf⟩ := hr.c
    obtain ⟨g3, cap3, c3⟩ := rp_nodes hr
    by_cases hgo : st.bad = false ∧ st.i < s.size
    · obtain ⟨hb, hlt⟩ := hgo
      rw [hb] at c2
      have hk0 := HK.out hb
      obtain ⟨k, rfl⟩ : ∃ k, gk = k + 1 := ⟨gk - 1, by omega⟩
      by_cases h90 : 90 ≤ st.nodes.length
      · have HR := hide (show lnsF (k + 1) s st = { st with bad := true } by rw [lnsF, if_pos ⟨hb, hlt⟩, if_pos h90])
        go_wp2
        go_roundg k
        case measure => omega
        case rel => exact ⟨{ st with bad := true }, O, hr.setBad, HKR.out.setCell _ (fun hl => by simp at hl), HO.out, hi, hn, fun h => by simp at h, by rw [HE.out, HR.out, lns_stop k s _ (by simp)]⟩
      · have HR := hide (show lnsF (k + 1) s st = lnsF k s (lineF s st) by rw [lnsF, if_pos ⟨hb, hlt⟩, if_neg h90])
        have HL := hide (line_c hs hr hb hlt (by omega))
        have HI := hide (lineF_inv s st hlt)
        generalize lineF s st = st2 at *
        go_wp2_with fail
        refine HL.out.mono ?_
        rintro x w2 ⟨rfl, O2, h2, t2⟩
        have k2 : Kp no w w2 := HKR.out.trans t2.1 (fun b hb e => by have := HO.out b e; omega)
        have hO2 : ∀ b, O2 b → w.heap.size ≤ b := fun b hb => by
          rcases Nat.lt_or_ge b w.heap.size with hl | hg
          · have := HO.out b (t2.2 b hb (Nat.lt_of_lt_of_le hl HKR.out.size)); omega
          · exact hg
        have HK2 := hide k2
        have HO2 := hide hO2
        clear k2 hO2
        go_wp2
        go_roundg k
        case measure => omega
        case rel => exact ⟨st2, O2, h2, HK2.out, HO2.out, HI.out.1, by have := HI.out.2.2.2; omega, fun hb2 => by have := HI.out.2.2.1 hb2; have := HI.out.1; omega, by rw [HE.out, HR.out]⟩
    · have HS := hide (show graF s = st by rw [HE.out, lns_stop gk s st hgo])
      have HST := hide (graF_inv s)
      rw [HS.out] at HST
      cases hb : st.bad
      case true =>
        rw [hb] at c2
        have e1 : graE s = (2, st.i) := by rw [graE, HS.out, if_pos hb]
        have HE1 := hide e1
        clear e1 hgo
        go_wp2
        go_quiet (fail)
        go_wp2
        go_ret3
        exact ⟨_, O, by rw [HE1.out]; rfl, by rw [HS.out]; exact hr.n _, HKR.out.drewN _, HO.out⟩
      case false =>
        rw [hb] at c2
        have hge : ¬ st.i < s.size := fun e => hgo ⟨hb, e⟩
        have HB := hide hb
        clear hgo hb
        go_wp2
        go_loopg [6] st.nodes.length (fun k iv wr2 => ∃ j : Nat, j ≤ st.nodes.length ∧ k = st.nodes.length - j ∧ iv = .int .i64 j ∧ Rp wr2 w.heap.size s st O ∧ Kp no w wr2 ∧ ∀ i (hi : i < st.nodes.length), i < j → badLink st.nodes st.nodes[i] = false)
        case atStart => exact ⟨0, Nat.zero_le _, rfl, rfl, hr, HKR.out, fun i _ h => by omega⟩
        case round =>
          clear c0 c1 c2 c5 cf c3 hr
          obtain ⟨j, hj, hk2, rfl, hr, kr2, hno⟩ := hrel
          have HK2 := hide hk2
          have HKR2 := hide kr2
          have HNO := hide hno
          clear hk2 kr2 hno
          obtain ⟨c0, c1, c2, c5, cf⟩ := hr.c
          by_cases hlt : j < st.nodes.length
          · obtain ⟨g2, cap2, hl2, _, q3, qc⟩ := hr.node (List.getElem?_eq_getElem hlt)
            have q5 := qc 5 (by decide); have q6 := qc 6 (by decide)
            clear qc
            simp only [Nd.cells, List.getElem?_cons_zero, List.getElem?_cons_succ] at q5 q6
            have hj1 : (j : Int) < (st.nodes.length : Int) := by omega
            have hYES := hide (fun (hq : badLink st.nodes st.nodes[j] = true) => show graE s = (3, j) by
              have : linkAt st.nodes = some j := by
                unfold linkAt
                rw [List.findIdx?_eq_some_iff_getElem]
                exact ⟨hlt, hq, fun i hi => by rw [HNO.out i (by omega) hi]; simp⟩
              rw [graE, HS.out, HB.out, this]; rfl)
            have hBL : Hid (badLink st.nodes st.nodes[j] = (decide ((st.nodes.length : Int) < st.nodes[j].t) || decide ((st.nodes.length : Int) < st.nodes[j].f))) := rfl
            have hnd := HST.out.2
            generalize hgt : st.nodes[j].t = T at *
            generalize hgf : st.nodes[j].f = F at *
            by_cases b1 : (st.nodes.length : Int) < T
            · have HY := hide (hYES.out (by rw [hBL.out]; simp [b1]))
              clear hgt hgf
              go_wp2
              go_quiet (fail)
              go_wp2
              go_ret3
              exact ⟨_, O, by rw [HY.out]; rfl, by rw [HS.out]; exact hr.n _, HKR2.out.drewN _, HO.out⟩
            · by_cases b2 : (st.nodes.length : Int) < F
              · have HY := hide (hYES.out (by rw [hBL.out]; simp [b2]))
                have b1' : decide ((st.nodes.length : Int) < T) = false := by simp; omega
                clear hgt hgf b1
                go_wp2
                go_quiet (fail)
                go_wp2
                go_ret3
                exact ⟨_, O, by rw [HY.out]; rfl, by rw [HS.out]; exact hr.n _, HKR2.out.drewN _, HO.out⟩
              · have HN := hide (show badLink st.nodes st.nodes[j] = false by rw [hBL.out]; simp; omega)
                have b1' : decide ((st.nodes.length : Int) < T) = false := by simp; omega
                have b2' : decide ((st.nodes.length : Int) < F) = false := by simp; omega
                clear hgt hgf b1 b2
                go_wp2
                go_quiet (fail)
                go_wp2
                go_roundg (st.nodes.length - (j + 1))
                case measure => have := HK2.out; omega
                case rel => exact ⟨j + 1, by omega, rfl, by go_num, hr.n _, HKR2.out.drewN _, fun i hi hij => by
                  rcases Nat.lt_or_ge i j with h1 | h1
                  · exact HNO.out i hi h1
                  · obtain rfl : i = j := by omega
                    exact HN.out⟩
          · have HN := hide (show graE s = (0, 0) by
              have : linkAt st.nodes = none := by
                unfold linkAt
                rw [List.findIdx?_eq_none_iff]
                intro x hx
                obtain ⟨i, hi, rfl⟩ := List.getElem_of_mem hx
                exact HNO.out i hi (by omega)
              rw [graE, HS.out, HB.out, this]; rfl)
            obtain ⟨g3, cap3, c3⟩ := rp_nodes hr
            go_wp2
            go_ret3
            exact ⟨_, O, by rw [HN.out]; rfl, by rw [HS.out]; exact hr, HKR2.out, HO.out⟩
end Go.Proofs.YtellieabhaphhaaGreatDoor
