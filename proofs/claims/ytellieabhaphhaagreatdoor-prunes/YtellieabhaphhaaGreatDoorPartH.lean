import Derived.Test.YtellieabhaphhaaGreatDoorPartE
import Derived.Test.YtellieabhaphhaaGreatDoorPartD
/-
  narrowref's reader: the walk of a line.
-/
namespace Go.Proofs.YtellieabhaphhaaGreatDoor
open Go.RowKit

theorem way_w {w : World} {r : Nat} {s : ByteArray} {st : RS} {O : Nat → Prop} (h : Rp w r s st O) (hs : s.size ≤ 1000) (hi : st.i ≤ s.size) :
    Calls Tryz.prog 68 #[.pointer (some ⟨r, 0, none⟩)] w fun e w' => e = .returned (.int .i64 (wayF s (st.i, st.bad)).1) ∧ Went w O r s { st with i := (wayF s (st.i, st.bad)).2.1, bad := (wayF s (st.i, st.bad)).2.2 } w' := by
  obtain ⟨nv, iv, hB, hN, hI, d1, d2, d3, rfl⟩ := h
  exact (way_c r st.i s st.bad nv iv st.loops w hs hi hB).mono fun e w' ⟨h1, h2, h3⟩ => ⟨h1, went_rb hN hI d1 d2 d3 h2 h3⟩

theorem then_gen {K : Act → World → Prop} {Q : Exit → Act → World → Prop} {e : Exit} {a : Act} {W : World} (G : World → Prop) (hG : G W) (h : ∀ W', G W' → Exit.then K Q e a W') : Exit.then K Q e a W := h W hG

/-- A block that is not the reader's stays. -/
theorem Th.blk {O O' : Nat → Prop} {w w' : World} (h : Th O w O' w') {b : Nat} {cs : List Value} {T : TypeId} (k : Blk w b cs T) (hb : ¬ O b) : Blk w' b cs T ∧ ¬ O' b :=
  ⟨h.1.blk k hb, fun e => hb (h.2 b e k.lt)⟩

set_option maxHeartbeats 6400000 in
theorem line_star {w : World} {r : Nat} {s : ByteArray} {st : RS} {O : Nat → Prop} (hs : s.size ≤ 900) (h : Rp w r s st O) (hb : st.bad = false) (hi : st.i < s.size) (hn : st.nodes.length ≤ 950) (h1 : pk s st.i = 42) :
    Calls Tryz.prog 39 #[.pointer (some ⟨r, 0, none⟩)] w fun e w' => e = .returned (.tuple #[]) ∧ Went w O r s (lineF s st) w' := by
  have HP := hide (peek_w h)
  have hO := h.lt
  have hrl := h.lt r h.own
  have HV := hide (show lineF s st = { st with i := (eatF s (wayF s (st.i + 1, false)).2 59).1, bad := (eatF s (wayF s (st.i + 1, false)).2 59).2, nodes := st.nodes ++ [{ op := 42, x := 0, y := 0, v := 0, k := 0, t := ((wayF s (st.i + 1, false)).1 : Nat), f := -1, a := st.i, l := 1 }] } by simp [lineF, lineN, lineT, lineG, h1])
  have hw1 := wayF_le s (st.i + 1, false) hi
  have HD := hide (show ∀ hq : st.i + 1 < s.size, pk s (st.i + 1) = (s[st.i + 1]'hq).toNat from fun hq => by simp [pk, hq])
  have HD0 := hide (show ¬ st.i + 1 < s.size → pk s (st.i + 1) = 0 from fun hq => by simp [pk, hq])
  generalize hd1 : pk s st.i = c at *
  generalize hd2 : pk s (st.i + 1) = d at *
  clear hd1 hd2
  obtain ⟨c0, c1, c2, c5, cf⟩ := h.c
  rw [hb] at c2
  go_enter Tryz.func39, Tryz.ntmps39
  go_wp2_with fail
  refine HP.out.mono ?_
  rintro e w1 ⟨rfl, nq, rfl⟩
  go_wp2
  refine wp_gen (fun W => Rp W r s st O ∧ Th O w O W) ⟨h.n _, (Th.refl _ _).n _⟩ ?_
  clear c0 c1 c2 c5 cf
  rintro W ⟨hW, tW⟩
  obtain ⟨c0, c1, c2, c5, cf⟩ := hW.c
  rw [hb] at c2
  have hz4 : IntKind.i64.wrap ((st.i : Int) + 1) = (st.i : Int) + 1 := by rw [IntKind.wrap_i64]; omega
  by_cases hq : st.i + 1 < s.size
  · rw [HD.out hq] at *
    clear HD HD0
    go_quiet (fail)
    go_wp2
    refine wp_gen (fun W' => Rp W' r s st O ∧ Th O w O W') ⟨hW.n _, tW.n _⟩ ?_
    clear c0 c1 c2 c5 cf
    rintro W2 ⟨hW2, tW2⟩
    obtain ⟨c0, c1, c2, c5, cf⟩ := hW2.c
    rw [hb] at c2
    have hz1 : (st.i : Int) + 1 < (s.size : Int) := by omega
    have hz2 : 0 ≤ (st.i : Int) + 1 := by omega
    have hz6 : ((st.i : Int) + 1).toNat = st.i + 1 := by omega
    go_quiet (fail)
    refine then_gen (fun W' => Rp W' r s st O ∧ Th O w O W') ⟨hW2.n _, tW2.n _⟩ ?_
    clear c0 c1 c2 c5 cf
    rintro W3 ⟨hW3, tW3⟩
    obtain ⟨c0, c1, c2, c5, cf⟩ := hW3.c
    rw [hb] at c2
    have hrW := hW3.lt r hW3.own
    have hOW := hW3.lt
    generalize (s[st.i + 1]'hq).toNat = d at *
    subst h1
    go_wp2_with fail
    refine (way_w (st := nextI st) (hW3.next.alloc _) (by omega) hi).mono ?_
    rintro e v1 ⟨rfl, O1, h1, t1⟩
    have T1 := hide (((tW3.set _ (.inl hW3.own)).alloc _).trans t1)
    obtain ⟨L1, n1⟩ := Th.blk t1 (b := W3.heap.size) (cs := [.int .u8 42, .int .i64 0, .int .i64 0, .int .i64 0, .int .u8 0, .int .i64 (-1), .int .i64 (-1), .int .i64 st.i, .int .i64 1]) (T := 63) (by (repeat' (first | ((with_reducible show (_ : List Value) = _); rfl) | ((with_reducible refine Blk.newAt _ _ _ ?_); first | with_reducible rfl | (simp; done)) | with_reducible refine Blk.alloc ?_ _ | with_reducible refine Blk.drewN ?_ _ | with_reducible refine Blk.drew ?_ | ((with_reducible refine Blk.other ?_ _ ?_); rotate_left; ((try dsimp only); omega)) | with_reducible refine Blk.setB (cs0 := ?_) ?_ ?_))) (fun e => by have := hOW _ e; omega)
    obtain ⟨x10, x11, x12, x13, x14, x15, x16, x17, x18, x1f⟩ := L1.c9
    rw [show (nextI st).bad = false from hb, show (nextI st).i = st.i + 1 from rfl] at *
    generalize wayF s (st.i + 1, false) = q at *
    obtain ⟨t1, i1, b1⟩ := q
    dsimp only at hw1
    go_wp2_with fail
    refine (eat_w (h1.other _ n1) 59 (by omega) hw1).mono ?_
    rintro e v2 ⟨rfl, O2, h2, t2⟩
    have T2 := hide ((T1.out.set _ (.inr (by have := tW3.1.size; omega))).trans t2)
    obtain ⟨L2, n2⟩ := Th.blk t2 (b := W3.heap.size) (cs := [.int .u8 42, .int .i64 0, .int .i64 0, .int .i64 0, .int .u8 0, .int .i64 t1, .int .i64 (-1), .int .i64 st.i, .int .i64 1]) (T := 63) (by (repeat' (first | ((with_reducible show (_ : List Value) = _); rfl) | with_reducible exact L1 | ((with_reducible refine Blk.newAt _ _ _ ?_); first | with_reducible rfl | (simp; done)) | with_reducible refine Blk.alloc ?_ _ | with_reducible refine Blk.drewN ?_ _ | with_reducible refine Blk.drew ?_ | ((with_reducible refine Blk.other ?_ _ ?_); rotate_left; ((try dsimp only); omega)) | with_reducible refine Blk.setB (cs0 := ?_) ?_ ?_))) n1
    obtain ⟨y0, y1, y2, y3, y4, y5, y6, y7, y8, yf⟩ := L2.c9
    go_wp2_with fail
    refine (add_c r s _ O2 ⟨42, 0, 0, 0, 0, t1, (-1), st.i, 1⟩ _ (by show st.nodes.length ≤ 1000; omega) h2).mono ?_
    rintro e v3 ⟨rfl, O3, h3, t3⟩
    go_wp2
    go_end0
    refine ⟨rfl, went_th (O' := O3) ?_ (T2.out.trans t3)⟩
    rw [HV.out]
    exact h3
  · have hd0 := HD0.out hq
    subst hd0
    clear HD HD0
    go_quiet (fail)
    refine then_gen (fun W' => Rp W' r s st O ∧ Th O w O W') ⟨hW.n _, tW.n _⟩ ?_
    clear c0 c1 c2 c5 cf
    rintro W3 ⟨hW3, tW3⟩
    obtain ⟨c0, c1, c2, c5, cf⟩ := hW3.c
    rw [hb] at c2
    have hrW := hW3.lt r hW3.own
    have hOW := hW3.lt
    subst h1
    go_wp2_with fail
    refine (way_w (st := nextI st) (hW3.next.alloc _) (by omega) hi).mono ?_
    rintro e v1 ⟨rfl, O1, h1, t1⟩
    have T1 := hide (((tW3.set _ (.inl hW3.own)).alloc _).trans t1)
    obtain ⟨L1, n1⟩ := Th.blk t1 (b := W3.heap.size) (cs := [.int .u8 42, .int .i64 0, .int .i64 0, .int .i64 0, .int .u8 0, .int .i64 (-1), .int .i64 (-1), .int .i64 st.i, .int .i64 1]) (T := 63) (by (repeat' (first | ((with_reducible show (_ : List Value) = _); rfl) | ((with_reducible refine Blk.newAt _ _ _ ?_); first | with_reducible rfl | (simp; done)) | with_reducible refine Blk.alloc ?_ _ | with_reducible refine Blk.drewN ?_ _ | with_reducible refine Blk.drew ?_ | ((with_reducible refine Blk.other ?_ _ ?_); rotate_left; ((try dsimp only); omega)) | with_reducible refine Blk.setB (cs0 := ?_) ?_ ?_))) (fun e => by have := hOW _ e; omega)
    obtain ⟨x10, x11, x12, x13, x14, x15, x16, x17, x18, x1f⟩ := L1.c9
    rw [show (nextI st).bad = false from hb, show (nextI st).i = st.i + 1 from rfl] at *
    generalize wayF s (st.i + 1, false) = q at *
    obtain ⟨t1, i1, b1⟩ := q
    dsimp only at hw1
    go_wp2_with fail
    refine (eat_w (h1.other _ n1) 59 (by omega) hw1).mono ?_
    rintro e v2 ⟨rfl, O2, h2, t2⟩
    have T2 := hide ((T1.out.set _ (.inr (by have := tW3.1.size; omega))).trans t2)
    obtain ⟨L2, n2⟩ := Th.blk t2 (b := W3.heap.size) (cs := [.int .u8 42, .int .i64 0, .int .i64 0, .int .i64 0, .int .u8 0, .int .i64 t1, .int .i64 (-1), .int .i64 st.i, .int .i64 1]) (T := 63) (by (repeat' (first | ((with_reducible show (_ : List Value) = _); rfl) | with_reducible exact L1 | ((with_reducible refine Blk.newAt _ _ _ ?_); first | with_reducible rfl | (simp; done)) | with_reducible refine Blk.alloc ?_ _ | with_reducible refine Blk.drewN ?_ _ | with_reducible refine Blk.drew ?_ | ((with_reducible refine Blk.other ?_ _ ?_); rotate_left; ((try dsimp only); omega)) | with_reducible refine Blk.setB (cs0 := ?_) ?_ ?_))) n1
    obtain ⟨y0, y1, y2, y3, y4, y5, y6, y7, y8, yf⟩ := L2.c9
    go_wp2_with fail
    refine (add_c r s _ O2 ⟨42, 0, 0, 0, 0, t1, (-1), st.i, 1⟩ _ (by show st.nodes.length ≤ 1000; omega) h2).mono ?_
    rintro e v3 ⟨rfl, O3, h3, t3⟩
    go_wp2
    go_end0
    refine ⟨rfl, went_th (O' := O3) ?_ (T2.out.trans t3)⟩
    rw [HV.out]
    exact h3

def lineR (s : ByteArray) (st : RS) (z : Nd × (Nat × Bool)) : RS :=
  if z.2.2 = true then { st with i := z.2.1, bad := true }
  else { st with i := (eatF s (lineG s z.1 (lineT s z.1 z.2).2).2 59).1, bad := (eatF s (lineG s z.1 (lineT s z.1 z.2).2).2 59).2, nodes := st.nodes ++ [{ z.1 with t := (lineT s z.1 z.2).1, f := (lineG s z.1 (lineT s z.1 z.2).2).1 }] }

theorem lineF_eq (s : ByteArray) (st : RS) : lineF s st = lineR s st (lineN s st.i) := rfl

set_option maxHeartbeats 6400000 in
theorem line_test {w : World} {r : Nat} {s : ByteArray} {st : RS} {O : Nat → Prop} (hs : s.size ≤ 900) (h : Rp w r s st O) (hb : st.bad = false) (hi : st.i < s.size) (hn : st.nodes.length ≤ 950) (h1 : pk s st.i ≠ 42) (h2 : 97 ≤ pk s st.i ∧ pk s st.i ≤ 102 ∧ pk s (st.i + 1) ≠ 61 ∧ pk s (st.i + 1) ≠ 126) :
    Calls Tryz.prog 39 #[.pointer (some ⟨r, 0, none⟩)] w fun e w' => e = .returned (.tuple #[]) ∧ Went w O r s (lineF s st) w' := by
  have HP := hide (peek_w h)
  have hO := h.lt
  have hrl := h.lt r h.own
  have HV := hide (show lineF s st = lineR s st (testF s st.i) by rw [lineF_eq, lineN, if_neg h1, if_pos h2])
  have HD := hide (show ∀ hq : st.i + 1 < s.size, pk s (st.i + 1) = (s[st.i + 1]'hq).toNat from fun hq => by simp [pk, hq])
  have HD0 := hide (show ¬ st.i + 1 < s.size → pk s (st.i + 1) = 0 from fun hq => by simp [pk, hq])
  generalize hd1 : pk s st.i = c at *
  generalize hd2 : pk s (st.i + 1) = d at *
  clear hd1 hd2
  obtain ⟨c0, c1, c2, c5, cf⟩ := h.c
  rw [hb] at c2
  go_enter Tryz.func39, Tryz.ntmps39
  go_wp2_with fail
  refine HP.out.mono ?_
  rintro e w1 ⟨rfl, nq, rfl⟩
  go_wp2
  refine wp_gen (fun W => Rp W r s st O ∧ Th O w O W) ⟨h.n _, (Th.refl _ _).n _⟩ ?_
  clear c0 c1 c2 c5 cf
  rintro W ⟨hW, tW⟩
  obtain ⟨c0, c1, c2, c5, cf⟩ := hW.c
  rw [hb] at c2
  have hz4 : IntKind.i64.wrap ((st.i : Int) + 1) = (st.i : Int) + 1 := by rw [IntKind.wrap_i64]; omega
  by_cases hq : st.i + 1 < s.size
  · rw [HD.out hq] at *
    clear HD HD0
    go_quiet (fail)
    go_wp2
    refine wp_gen (fun W' => Rp W' r s st O ∧ Th O w O W') ⟨hW.n _, tW.n _⟩ ?_
    clear c0 c1 c2 c5 cf
    rintro W2 ⟨hW2, tW2⟩
    obtain ⟨c0, c1, c2, c5, cf⟩ := hW2.c
    rw [hb] at c2
    have hz1 : (st.i : Int) + 1 < (s.size : Int) := by omega
    have hz2 : 0 ≤ (st.i : Int) + 1 := by omega
    have hz6 : ((st.i : Int) + 1).toNat = st.i + 1 := by omega
    go_quiet (fail)
    refine then_gen (fun W' => Rp W' r s st O ∧ Th O w O W') ⟨hW2.n _, tW2.n _⟩ ?_
    clear c0 c1 c2 c5 cf
    rintro W3 ⟨hW3, tW3⟩
    obtain ⟨c0, c1, c2, c5, cf⟩ := hW3.c
    rw [hb] at c2
    have hrW := hW3.lt r hW3.own
    have hOW := hW3.lt
    generalize (s[st.i + 1]'hq).toNat = d at *
    have f42 : ((c : Int) == 42) = false := by simp; omega
    obtain ⟨g1, g2, g3, g4⟩ := h2
    have f61 : ((d : Int) == 61) = false := by first | (simp; done) | (simp; omega)
    have f126 : ((d : Int) == 126) = false := by first | (simp; done) | (simp; omega)
    have f61' : ((d : Int) != 61) = true := by first | (simp; done) | (simp; omega)
    have f126' : ((d : Int) != 126) = true := by first | (simp; done) | (simp; omega)
    clear h1 g3 g4
    go_wp2_with fail
    refine (test_w (hW3.alloc _) hb (by omega) (by omega)).mono ?_
    rintro e v0 ⟨rfl, O0, h0, t0⟩
    have T0 := hide ((tW3.alloc _).trans t0)
    have hsz := tW3.1.size
    obtain ⟨L0, n0⟩ := Th.blk t0 (b := W3.heap.size) (cs := [.int .u8 0, .int .i64 0, .int .i64 0, .int .i64 0, .int .u8 0, .int .i64 0, .int .i64 (-1), .int .i64 0, .int .i64 0]) (T := 63) (by (repeat' (first | ((with_reducible show (_ : List Value) = _); rfl) | ((with_reducible refine Blk.newAt _ _ _ ?_); first | with_reducible rfl | (simp; done)) | with_reducible refine Blk.alloc ?_ _ | with_reducible refine Blk.drewN ?_ _ | with_reducible refine Blk.drew ?_ | ((with_reducible refine Blk.other ?_ _ ?_); rotate_left; ((try dsimp only); omega)) | with_reducible refine Blk.setB (cs0 := ?_) ?_ ?_))) (fun e => by have := hOW _ e; omega)
    obtain ⟨z0, z1, z2, z3, z4, z5, z6, z7, z8, zf⟩ := L0.c9
    obtain ⟨p0, p1, p2, p5, pf⟩ := h0.c
    dsimp only at p1 p2
    have hq1 := testF_le s st.i (by omega)
    have hop := testF_op s st.i
    generalize testF s st.i = q at *
    obtain ⟨⟨uo, ux, uy, uv, uk, ut, uf, ua, ul⟩, qi, qb⟩ := q
    dsimp only at *
    simp only [Nd.cells]
    have hb0 : ∀ (W' : World), Rp W' r s { st with i := qi, bad := qb } O0 → ∀ o v, Rp (W'.setCell ⟨W3.heap.size, o, none⟩ v) r s { st with i := qi, bad := qb } O0 := fun W' hW' o v => hW'.other v n0
    have HB0 := hide hb0
    clear hb0
    cases qb
    case true =>
      go_wp2
      refine bodyPost_ret (results_none rfl _ _ _) rfl ?_
      rw [HV.out, show lineR s st (⟨uo, ux, uy, uv, uk, ut, uf, ua, ul⟩, qi, true) = { st with i := qi, bad := true } by simp [lineR]]
      exact ⟨rfl, went_th (O' := O0) (by repeat' (first | with_reducible exact h0 | with_reducible refine HB0.out _ ?_ _ _)) (by repeat' (first | with_reducible exact T0.out | ((with_reducible refine Th.set ?_ _ ?_); rotate_left; (exact .inr (by (try dsimp only); omega)))))⟩
    case false =>
      rcases hop with rfl | rfl
      · skip
        go_wp2_with fail
        refine (way_w (st := { st with i := qi, bad := false }) (by repeat' (first | with_reducible exact h0 | with_reducible refine HB0.out _ ?_ _ _)) (by omega) hq1).mono ?_
        rintro e v1 ⟨rfl, O1, h1, t1⟩
        have T1 := hide (p := Th O w O1 v1) (Th.trans (by repeat' (first | with_reducible exact T0.out | ((with_reducible refine Th.set ?_ _ ?_); rotate_left; (exact .inr (by (try dsimp only); omega))))) t1)
        obtain ⟨L1, n1⟩ := Th.blk t1 (b := W3.heap.size) (cs := [.int .u8 121, .int .i64 ux, .int .i64 uy, .int .i64 uv, .int .u8 uk, .int .i64 (-1), .int .i64 uf, .int .i64 ua, .int .i64 ul]) (T := 63) (by (repeat' (first | ((with_reducible show (_ : List Value) = _); rfl) | with_reducible exact L0 | ((with_reducible refine Blk.newAt _ _ _ ?_); first | with_reducible rfl | (simp; done)) | with_reducible refine Blk.alloc ?_ _ | with_reducible refine Blk.drewN ?_ _ | with_reducible refine Blk.drew ?_ | ((with_reducible refine Blk.other ?_ _ ?_); rotate_left; ((try dsimp only); omega)) | with_reducible refine Blk.setB (cs0 := ?_) ?_ ?_))) n0
        obtain ⟨x10, x11, x12, x13, x14, x15, x16, x17, x18, x1f⟩ := L1.c9
        have hw1 := wayF_le s (qi, false) hq1
        have HW1 : Hid (wayF s (qi, false) = wayF s (qi, false)) := rfl
        generalize hg1 : wayF s (qi, false) = g1 at *
        have HG1 := hide hg1
        clear hg1 HW1
        obtain ⟨t1, i1, b1⟩ := g1
        dsimp only at hw1
        go_wp2_with fail
        refine (way_w (st := { st with i := i1, bad := b1 }) (h1.other _ n1) (by omega) hw1).mono ?_
        rintro e v2 ⟨rfl, O2, h2, t2⟩
        have T2 := hide (p := Th O w O2 v2) (Th.trans (T1.out.set _ (.inr (by (try dsimp only); omega))) t2)
        obtain ⟨L2, n2⟩ := Th.blk t2 (b := W3.heap.size) (cs := [.int .u8 121, .int .i64 ux, .int .i64 uy, .int .i64 uv, .int .u8 uk, .int .i64 t1, .int .i64 uf, .int .i64 ua, .int .i64 ul]) (T := 63) (by (repeat' (first | ((with_reducible show (_ : List Value) = _); rfl) | with_reducible exact L1 | ((with_reducible refine Blk.newAt _ _ _ ?_); first | with_reducible rfl | (simp; done)) | with_reducible refine Blk.alloc ?_ _ | with_reducible refine Blk.drewN ?_ _ | with_reducible refine Blk.drew ?_ | ((with_reducible refine Blk.other ?_ _ ?_); rotate_left; ((try dsimp only); omega)) | with_reducible refine Blk.setB (cs0 := ?_) ?_ ?_))) n1
        obtain ⟨x20, x21, x22, x23, x24, x25, x26, x27, x28, x2f⟩ := L2.c9
        have hw2 := wayF_le s (i1, b1) hw1
        generalize hg2 : wayF s (i1, b1) = g2 at *
        have HG2 := hide hg2
        clear hg2
        obtain ⟨t2', i2, b2⟩ := g2
        dsimp only at hw2
        go_wp2_with fail
        refine (eat_w (h2.other _ n2) 59 (by omega) hw2).mono ?_
        rintro e v8 ⟨rfl, O8, h8, t8⟩
        have T8 := hide (p := Th O w O8 v8) (Th.trans (T2.out.set _ (.inr (by (try dsimp only); omega))) t8)
        obtain ⟨L8, n8⟩ := Th.blk t8 (b := W3.heap.size) (cs := [.int .u8 121, .int .i64 ux, .int .i64 uy, .int .i64 uv, .int .u8 uk, .int .i64 t1, .int .i64 t2', .int .i64 ua, .int .i64 ul]) (T := 63) (by (repeat' (first | ((with_reducible show (_ : List Value) = _); rfl) | with_reducible exact L2 | ((with_reducible refine Blk.newAt _ _ _ ?_); first | with_reducible rfl | (simp; done)) | with_reducible refine Blk.alloc ?_ _ | with_reducible refine Blk.drewN ?_ _ | with_reducible refine Blk.drew ?_ | ((with_reducible refine Blk.other ?_ _ ?_); rotate_left; ((try dsimp only); omega)) | with_reducible refine Blk.setB (cs0 := ?_) ?_ ?_))) n2
        obtain ⟨y0, y1, y2, y3, y4, y5, y6, y7, y8, yf⟩ := L8.c9
        go_wp2_with fail
        refine (add_c r s _ O8 ⟨121, ux, uy, uv, uk, t1, t2', ua, ul⟩ _ (by show st.nodes.length ≤ 1000; omega) h8).mono ?_
        rintro e v9 ⟨rfl, O9, h9, t9⟩
        go_wp2
        go_end0
        refine ⟨rfl, went_th (O' := O9) ?_ (T8.out.trans t9)⟩
        rw [HV.out, show lineR s st (⟨121, ux, uy, uv, uk, ut, uf, ua, ul⟩, qi, false) = { st with i := (eatF s (i2, b2) 59).1, bad := (eatF s (i2, b2) 59).2, nodes := st.nodes ++ [⟨121, ux, uy, uv, uk, t1, t2', ua, ul⟩] } by simp [lineR, lineT, lineG, HG1.out, HG2.out]]
        exact h9
      · skip
        go_wp2_with fail
        refine (way_w (st := { st with i := qi, bad := false }) (by repeat' (first | with_reducible exact h0 | with_reducible refine HB0.out _ ?_ _ _)) (by omega) hq1).mono ?_
        rintro e v1 ⟨rfl, O1, h1, t1⟩
        have T1 := hide (p := Th O w O1 v1) (Th.trans (by repeat' (first | with_reducible exact T0.out | ((with_reducible refine Th.set ?_ _ ?_); rotate_left; (exact .inr (by (try dsimp only); omega))))) t1)
        obtain ⟨L1, n1⟩ := Th.blk t1 (b := W3.heap.size) (cs := [.int .u8 58, .int .i64 ux, .int .i64 uy, .int .i64 uv, .int .u8 uk, .int .i64 (-1), .int .i64 uf, .int .i64 ua, .int .i64 ul]) (T := 63) (by (repeat' (first | ((with_reducible show (_ : List Value) = _); rfl) | with_reducible exact L0 | ((with_reducible refine Blk.newAt _ _ _ ?_); first | with_reducible rfl | (simp; done)) | with_reducible refine Blk.alloc ?_ _ | with_reducible refine Blk.drewN ?_ _ | with_reducible refine Blk.drew ?_ | ((with_reducible refine Blk.other ?_ _ ?_); rotate_left; ((try dsimp only); omega)) | with_reducible refine Blk.setB (cs0 := ?_) ?_ ?_))) n0
        obtain ⟨x10, x11, x12, x13, x14, x15, x16, x17, x18, x1f⟩ := L1.c9
        have hw1 := wayF_le s (qi, false) hq1
        have HW1 : Hid (wayF s (qi, false) = wayF s (qi, false)) := rfl
        generalize hg1 : wayF s (qi, false) = g1 at *
        have HG1 := hide hg1
        clear hg1 HW1
        obtain ⟨t1, i1, b1⟩ := g1
        dsimp only at hw1
        go_wp2_with fail
        refine (way_w (st := { st with i := i1, bad := b1 }) (h1.other _ n1) (by omega) hw1).mono ?_
        rintro e v2 ⟨rfl, O2, h2, t2⟩
        have T2 := hide (p := Th O w O2 v2) (Th.trans (T1.out.set _ (.inr (by (try dsimp only); omega))) t2)
        obtain ⟨L2, n2⟩ := Th.blk t2 (b := W3.heap.size) (cs := [.int .u8 58, .int .i64 ux, .int .i64 uy, .int .i64 uv, .int .u8 uk, .int .i64 t1, .int .i64 uf, .int .i64 ua, .int .i64 ul]) (T := 63) (by (repeat' (first | ((with_reducible show (_ : List Value) = _); rfl) | with_reducible exact L1 | ((with_reducible refine Blk.newAt _ _ _ ?_); first | with_reducible rfl | (simp; done)) | with_reducible refine Blk.alloc ?_ _ | with_reducible refine Blk.drewN ?_ _ | with_reducible refine Blk.drew ?_ | ((with_reducible refine Blk.other ?_ _ ?_); rotate_left; ((try dsimp only); omega)) | with_reducible refine Blk.setB (cs0 := ?_) ?_ ?_))) n1
        obtain ⟨x20, x21, x22, x23, x24, x25, x26, x27, x28, x2f⟩ := L2.c9
        have hw2 := wayF_le s (i1, b1) hw1
        generalize hg2 : wayF s (i1, b1) = g2 at *
        have HG2 := hide hg2
        clear hg2
        obtain ⟨t2', i2, b2⟩ := g2
        dsimp only at hw2
        go_wp2_with fail
        refine (eat_w (h2.other _ n2) 59 (by omega) hw2).mono ?_
        rintro e v8 ⟨rfl, O8, h8, t8⟩
        have T8 := hide (p := Th O w O8 v8) (Th.trans (T2.out.set _ (.inr (by (try dsimp only); omega))) t8)
        obtain ⟨L8, n8⟩ := Th.blk t8 (b := W3.heap.size) (cs := [.int .u8 58, .int .i64 ux, .int .i64 uy, .int .i64 uv, .int .u8 uk, .int .i64 t1, .int .i64 t2', .int .i64 ua, .int .i64 ul]) (T := 63) (by (repeat' (first | ((with_reducible show (_ : List Value) = _); rfl) | with_reducible exact L2 | ((with_reducible refine Blk.newAt _ _ _ ?_); first | with_reducible rfl | (simp; done)) | with_reducible refine Blk.alloc ?_ _ | with_reducible refine Blk.drewN ?_ _ | with_reducible refine Blk.drew ?_ | ((with_reducible refine Blk.other ?_ _ ?_); rotate_left; ((try dsimp only); omega)) | with_reducible refine Blk.setB (cs0 := ?_) ?_ ?_))) n2
        obtain ⟨y0, y1, y2, y3, y4, y5, y6, y7, y8, yf⟩ := L8.c9
        go_wp2_with fail
        refine (add_c r s _ O8 ⟨58, ux, uy, uv, uk, t1, t2', ua, ul⟩ _ (by show st.nodes.length ≤ 1000; omega) h8).mono ?_
        rintro e v9 ⟨rfl, O9, h9, t9⟩
        go_wp2
        go_end0
        refine ⟨rfl, went_th (O' := O9) ?_ (T8.out.trans t9)⟩
        rw [HV.out, show lineR s st (⟨58, ux, uy, uv, uk, ut, uf, ua, ul⟩, qi, false) = { st with i := (eatF s (i2, b2) 59).1, bad := (eatF s (i2, b2) 59).2, nodes := st.nodes ++ [⟨58, ux, uy, uv, uk, t1, t2', ua, ul⟩] } by simp [lineR, lineT, lineG, HG1.out, HG2.out]]
        exact h9
  · have hd0 := HD0.out hq
    subst hd0
    clear HD HD0
    go_quiet (fail)
    refine then_gen (fun W' => Rp W' r s st O ∧ Th O w O W') ⟨hW.n _, tW.n _⟩ ?_
    clear c0 c1 c2 c5 cf
    rintro W3 ⟨hW3, tW3⟩
    obtain ⟨c0, c1, c2, c5, cf⟩ := hW3.c
    rw [hb] at c2
    have hrW := hW3.lt r hW3.own
    have hOW := hW3.lt
    have f42 : ((c : Int) == 42) = false := by simp; omega
    obtain ⟨g1, g2, g3, g4⟩ := h2
    have f61 : ((0 : Int) == 61) = false := by first | (simp; done) | (simp; omega)
    have f126 : ((0 : Int) == 126) = false := by first | (simp; done) | (simp; omega)
    have f61' : ((0 : Int) != 61) = true := by first | (simp; done) | (simp; omega)
    have f126' : ((0 : Int) != 126) = true := by first | (simp; done) | (simp; omega)
    clear h1 g3 g4
    go_wp2_with fail
    refine (test_w (hW3.alloc _) hb (by omega) (by omega)).mono ?_
    rintro e v0 ⟨rfl, O0, h0, t0⟩
    have T0 := hide ((tW3.alloc _).trans t0)
    have hsz := tW3.1.size
    obtain ⟨L0, n0⟩ := Th.blk t0 (b := W3.heap.size) (cs := [.int .u8 0, .int .i64 0, .int .i64 0, .int .i64 0, .int .u8 0, .int .i64 0, .int .i64 (-1), .int .i64 0, .int .i64 0]) (T := 63) (by (repeat' (first | ((with_reducible show (_ : List Value) = _); rfl) | ((with_reducible refine Blk.newAt _ _ _ ?_); first | with_reducible rfl | (simp; done)) | with_reducible refine Blk.alloc ?_ _ | with_reducible refine Blk.drewN ?_ _ | with_reducible refine Blk.drew ?_ | ((with_reducible refine Blk.other ?_ _ ?_); rotate_left; ((try dsimp only); omega)) | with_reducible refine Blk.setB (cs0 := ?_) ?_ ?_))) (fun e => by have := hOW _ e; omega)
    obtain ⟨z0, z1, z2, z3, z4, z5, z6, z7, z8, zf⟩ := L0.c9
    obtain ⟨p0, p1, p2, p5, pf⟩ := h0.c
    dsimp only at p1 p2
    have hq1 := testF_le s st.i (by omega)
    have hop := testF_op s st.i
    generalize testF s st.i = q at *
    obtain ⟨⟨uo, ux, uy, uv, uk, ut, uf, ua, ul⟩, qi, qb⟩ := q
    dsimp only at *
    simp only [Nd.cells]
    have hb0 : ∀ (W' : World), Rp W' r s { st with i := qi, bad := qb } O0 → ∀ o v, Rp (W'.setCell ⟨W3.heap.size, o, none⟩ v) r s { st with i := qi, bad := qb } O0 := fun W' hW' o v => hW'.other v n0
    have HB0 := hide hb0
    clear hb0
    cases qb
    case true =>
      go_wp2
      refine bodyPost_ret (results_none rfl _ _ _) rfl ?_
      rw [HV.out, show lineR s st (⟨uo, ux, uy, uv, uk, ut, uf, ua, ul⟩, qi, true) = { st with i := qi, bad := true } by simp [lineR]]
      exact ⟨rfl, went_th (O' := O0) (by repeat' (first | with_reducible exact h0 | with_reducible refine HB0.out _ ?_ _ _)) (by repeat' (first | with_reducible exact T0.out | ((with_reducible refine Th.set ?_ _ ?_); rotate_left; (exact .inr (by (try dsimp only); omega)))))⟩
    case false =>
      rcases hop with rfl | rfl
      · skip
        go_wp2_with fail
        refine (way_w (st := { st with i := qi, bad := false }) (by repeat' (first | with_reducible exact h0 | with_reducible refine HB0.out _ ?_ _ _)) (by omega) hq1).mono ?_
        rintro e v1 ⟨rfl, O1, h1, t1⟩
        have T1 := hide (p := Th O w O1 v1) (Th.trans (by repeat' (first | with_reducible exact T0.out | ((with_reducible refine Th.set ?_ _ ?_); rotate_left; (exact .inr (by (try dsimp only); omega))))) t1)
        obtain ⟨L1, n1⟩ := Th.blk t1 (b := W3.heap.size) (cs := [.int .u8 121, .int .i64 ux, .int .i64 uy, .int .i64 uv, .int .u8 uk, .int .i64 (-1), .int .i64 uf, .int .i64 ua, .int .i64 ul]) (T := 63) (by (repeat' (first | ((with_reducible show (_ : List Value) = _); rfl) | with_reducible exact L0 | ((with_reducible refine Blk.newAt _ _ _ ?_); first | with_reducible rfl | (simp; done)) | with_reducible refine Blk.alloc ?_ _ | with_reducible refine Blk.drewN ?_ _ | with_reducible refine Blk.drew ?_ | ((with_reducible refine Blk.other ?_ _ ?_); rotate_left; ((try dsimp only); omega)) | with_reducible refine Blk.setB (cs0 := ?_) ?_ ?_))) n0
        obtain ⟨x10, x11, x12, x13, x14, x15, x16, x17, x18, x1f⟩ := L1.c9
        have hw1 := wayF_le s (qi, false) hq1
        have HW1 : Hid (wayF s (qi, false) = wayF s (qi, false)) := rfl
        generalize hg1 : wayF s (qi, false) = g1 at *
        have HG1 := hide hg1
        clear hg1 HW1
        obtain ⟨t1, i1, b1⟩ := g1
        dsimp only at hw1
        go_wp2_with fail
        refine (way_w (st := { st with i := i1, bad := b1 }) (h1.other _ n1) (by omega) hw1).mono ?_
        rintro e v2 ⟨rfl, O2, h2, t2⟩
        have T2 := hide (p := Th O w O2 v2) (Th.trans (T1.out.set _ (.inr (by (try dsimp only); omega))) t2)
        obtain ⟨L2, n2⟩ := Th.blk t2 (b := W3.heap.size) (cs := [.int .u8 121, .int .i64 ux, .int .i64 uy, .int .i64 uv, .int .u8 uk, .int .i64 t1, .int .i64 uf, .int .i64 ua, .int .i64 ul]) (T := 63) (by (repeat' (first | ((with_reducible show (_ : List Value) = _); rfl) | with_reducible exact L1 | ((with_reducible refine Blk.newAt _ _ _ ?_); first | with_reducible rfl | (simp; done)) | with_reducible refine Blk.alloc ?_ _ | with_reducible refine Blk.drewN ?_ _ | with_reducible refine Blk.drew ?_ | ((with_reducible refine Blk.other ?_ _ ?_); rotate_left; ((try dsimp only); omega)) | with_reducible refine Blk.setB (cs0 := ?_) ?_ ?_))) n1
        obtain ⟨x20, x21, x22, x23, x24, x25, x26, x27, x28, x2f⟩ := L2.c9
        have hw2 := wayF_le s (i1, b1) hw1
        generalize hg2 : wayF s (i1, b1) = g2 at *
        have HG2 := hide hg2
        clear hg2
        obtain ⟨t2', i2, b2⟩ := g2
        dsimp only at hw2
        go_wp2_with fail
        refine (eat_w (h2.other _ n2) 59 (by omega) hw2).mono ?_
        rintro e v8 ⟨rfl, O8, h8, t8⟩
        have T8 := hide (p := Th O w O8 v8) (Th.trans (T2.out.set _ (.inr (by (try dsimp only); omega))) t8)
        obtain ⟨L8, n8⟩ := Th.blk t8 (b := W3.heap.size) (cs := [.int .u8 121, .int .i64 ux, .int .i64 uy, .int .i64 uv, .int .u8 uk, .int .i64 t1, .int .i64 t2', .int .i64 ua, .int .i64 ul]) (T := 63) (by (repeat' (first | ((with_reducible show (_ : List Value) = _); rfl) | with_reducible exact L2 | ((with_reducible refine Blk.newAt _ _ _ ?_); first | with_reducible rfl | (simp; done)) | with_reducible refine Blk.alloc ?_ _ | with_reducible refine Blk.drewN ?_ _ | with_reducible refine Blk.drew ?_ | ((with_reducible refine Blk.other ?_ _ ?_); rotate_left; ((try dsimp only); omega)) | with_reducible refine Blk.setB (cs0 := ?_) ?_ ?_))) n2
        obtain ⟨y0, y1, y2, y3, y4, y5, y6, y7, y8, yf⟩ := L8.c9
        go_wp2_with fail
        refine (add_c r s _ O8 ⟨121, ux, uy, uv, uk, t1, t2', ua, ul⟩ _ (by show st.nodes.length ≤ 1000; omega) h8).mono ?_
        rintro e v9 ⟨rfl, O9, h9, t9⟩
        go_wp2
        go_end0
        refine ⟨rfl, went_th (O' := O9) ?_ (T8.out.trans t9)⟩
        rw [HV.out, show lineR s st (⟨121, ux, uy, uv, uk, ut, uf, ua, ul⟩, qi, false) = { st with i := (eatF s (i2, b2) 59).1, bad := (eatF s (i2, b2) 59).2, nodes := st.nodes ++ [⟨121, ux, uy, uv, uk, t1, t2', ua, ul⟩] } by simp [lineR, lineT, lineG, HG1.out, HG2.out]]
        exact h9
      · skip
        go_wp2_with fail
        refine (way_w (st := { st with i := qi, bad := false }) (by repeat' (first | with_reducible exact h0 | with_reducible refine HB0.out _ ?_ _ _)) (by omega) hq1).mono ?_
        rintro e v1 ⟨rfl, O1, h1, t1⟩
        have T1 := hide (p := Th O w O1 v1) (Th.trans (by repeat' (first | with_reducible exact T0.out | ((with_reducible refine Th.set ?_ _ ?_); rotate_left; (exact .inr (by (try dsimp only); omega))))) t1)
        obtain ⟨L1, n1⟩ := Th.blk t1 (b := W3.heap.size) (cs := [.int .u8 58, .int .i64 ux, .int .i64 uy, .int .i64 uv, .int .u8 uk, .int .i64 (-1), .int .i64 uf, .int .i64 ua, .int .i64 ul]) (T := 63) (by (repeat' (first | ((with_reducible show (_ : List Value) = _); rfl) | with_reducible exact L0 | ((with_reducible refine Blk.newAt _ _ _ ?_); first | with_reducible rfl | (simp; done)) | with_reducible refine Blk.alloc ?_ _ | with_reducible refine Blk.drewN ?_ _ | with_reducible refine Blk.drew ?_ | ((with_reducible refine Blk.other ?_ _ ?_); rotate_left; ((try dsimp only); omega)) | with_reducible refine Blk.setB (cs0 := ?_) ?_ ?_))) n0
        obtain ⟨x10, x11, x12, x13, x14, x15, x16, x17, x18, x1f⟩ := L1.c9
        have hw1 := wayF_le s (qi, false) hq1
        have HW1 : Hid (wayF s (qi, false) = wayF s (qi, false)) := rfl
        generalize hg1 : wayF s (qi, false) = g1 at *
        have HG1 := hide hg1
        clear hg1 HW1
        obtain ⟨t1, i1, b1⟩ := g1
        dsimp only at hw1
        go_wp2_with fail
        refine (way_w (st := { st with i := i1, bad := b1 }) (h1.other _ n1) (by omega) hw1).mono ?_
        rintro e v2 ⟨rfl, O2, h2, t2⟩
        have T2 := hide (p := Th O w O2 v2) (Th.trans (T1.out.set _ (.inr (by (try dsimp only); omega))) t2)
        obtain ⟨L2, n2⟩ := Th.blk t2 (b := W3.heap.size) (cs := [.int .u8 58, .int .i64 ux, .int .i64 uy, .int .i64 uv, .int .u8 uk, .int .i64 t1, .int .i64 uf, .int .i64 ua, .int .i64 ul]) (T := 63) (by (repeat' (first | ((with_reducible show (_ : List Value) = _); rfl) | with_reducible exact L1 | ((with_reducible refine Blk.newAt _ _ _ ?_); first | with_reducible rfl | (simp; done)) | with_reducible refine Blk.alloc ?_ _ | with_reducible refine Blk.drewN ?_ _ | with_reducible refine Blk.drew ?_ | ((with_reducible refine Blk.other ?_ _ ?_); rotate_left; ((try dsimp only); omega)) | with_reducible refine Blk.setB (cs0 := ?_) ?_ ?_))) n1
        obtain ⟨x20, x21, x22, x23, x24, x25, x26, x27, x28, x2f⟩ := L2.c9
        have hw2 := wayF_le s (i1, b1) hw1
        generalize hg2 : wayF s (i1, b1) = g2 at *
        have HG2 := hide hg2
        clear hg2
        obtain ⟨t2', i2, b2⟩ := g2
        dsimp only at hw2
        go_wp2_with fail
        refine (eat_w (h2.other _ n2) 59 (by omega) hw2).mono ?_
        rintro e v8 ⟨rfl, O8, h8, t8⟩
        have T8 := hide (p := Th O w O8 v8) (Th.trans (T2.out.set _ (.inr (by (try dsimp only); omega))) t8)
        obtain ⟨L8, n8⟩ := Th.blk t8 (b := W3.heap.size) (cs := [.int .u8 58, .int .i64 ux, .int .i64 uy, .int .i64 uv, .int .u8 uk, .int .i64 t1, .int .i64 t2', .int .i64 ua, .int .i64 ul]) (T := 63) (by (repeat' (first | ((with_reducible show (_ : List Value) = _); rfl) | with_reducible exact L2 | ((with_reducible refine Blk.newAt _ _ _ ?_); first | with_reducible rfl | (simp; done)) | with_reducible refine Blk.alloc ?_ _ | with_reducible refine Blk.drewN ?_ _ | with_reducible refine Blk.drew ?_ | ((with_reducible refine Blk.other ?_ _ ?_); rotate_left; ((try dsimp only); omega)) | with_reducible refine Blk.setB (cs0 := ?_) ?_ ?_))) n2
        obtain ⟨y0, y1, y2, y3, y4, y5, y6, y7, y8, yf⟩ := L8.c9
        go_wp2_with fail
        refine (add_c r s _ O8 ⟨58, ux, uy, uv, uk, t1, t2', ua, ul⟩ _ (by show st.nodes.length ≤ 1000; omega) h8).mono ?_
        rintro e v9 ⟨rfl, O9, h9, t9⟩
        go_wp2
        go_end0
        refine ⟨rfl, went_th (O' := O9) ?_ (T8.out.trans t9)⟩
        rw [HV.out, show lineR s st (⟨58, ux, uy, uv, uk, ut, uf, ua, ul⟩, qi, false) = { st with i := (eatF s (i2, b2) 59).1, bad := (eatF s (i2, b2) 59).2, nodes := st.nodes ++ [⟨58, ux, uy, uv, uk, t1, t2', ua, ul⟩] } by simp [lineR, lineT, lineG, HG1.out, HG2.out]]
        exact h9
end Go.Proofs.YtellieabhaphhaaGreatDoor

/-
  narrowref's reader: the walk of a line that is no test.
-/
namespace Go.Proofs.YtellieabhaphhaaGreatDoor
open Go.RowKit

set_option maxHeartbeats 6400000 in
theorem line_simple {w : World} {r : Nat} {s : ByteArray} {st : RS} {O : Nat → Prop} (hs : s.size ≤ 900) (h : Rp w r s st O) (hb : st.bad = false) (hi : st.i < s.size) (hn : st.nodes.length ≤ 950) (h1 : pk s st.i ≠ 42) (h2 : pk s st.i < 97 ∨ (97 ≤ pk s st.i ∧ 102 < pk s st.i) ∨ (97 ≤ pk s st.i ∧ pk s st.i ≤ 102 ∧ pk s (st.i + 1) = 61) ∨ (97 ≤ pk s st.i ∧ pk s st.i ≤ 102 ∧ pk s (st.i + 1) ≠ 61 ∧ pk s (st.i + 1) = 126)) :
    Calls Tryz.prog 39 #[.pointer (some ⟨r, 0, none⟩)] w fun e w' => e = .returned (.tuple #[]) ∧ Went w O r s (lineF s st) w' := by
  have HP := hide (peek_w h)
  have hO := h.lt
  have hrl := h.lt r h.own
  have HV := hide (show lineF s st = lineR s st (simpF s st.i) by rw [lineF_eq, lineN, if_neg h1, if_neg (by omega)])
  have HD := hide (show ∀ hq : st.i + 1 < s.size, pk s (st.i + 1) = (s[st.i + 1]'hq).toNat from fun hq => by simp [pk, hq])
  have HD0 := hide (show ¬ st.i + 1 < s.size → pk s (st.i + 1) = 0 from fun hq => by simp [pk, hq])
  generalize hd1 : pk s st.i = c at *
  generalize hd2 : pk s (st.i + 1) = d at *
  clear hd1 hd2
  obtain ⟨c0, c1, c2, c5, cf⟩ := h.c
  rw [hb] at c2
  go_enter Tryz.func39, Tryz.ntmps39
  go_wp2_with fail
  refine HP.out.mono ?_
  rintro e w1 ⟨rfl, nq, rfl⟩
  go_wp2
  refine wp_gen (fun W => Rp W r s st O ∧ Th O w O W) ⟨h.n _, (Th.refl _ _).n _⟩ ?_
  clear c0 c1 c2 c5 cf
  rintro W ⟨hW, tW⟩
  obtain ⟨c0, c1, c2, c5, cf⟩ := hW.c
  rw [hb] at c2
  have hz4 : IntKind.i64.wrap ((st.i : Int) + 1) = (st.i : Int) + 1 := by rw [IntKind.wrap_i64]; omega
  by_cases hq : st.i + 1 < s.size
  · rw [HD.out hq] at *
    clear HD HD0
    go_quiet (fail)
    go_wp2
    refine wp_gen (fun W' => Rp W' r s st O ∧ Th O w O W') ⟨hW.n _, tW.n _⟩ ?_
    clear c0 c1 c2 c5 cf
    rintro W2 ⟨hW2, tW2⟩
    obtain ⟨c0, c1, c2, c5, cf⟩ := hW2.c
    rw [hb] at c2
    have hz1 : (st.i : Int) + 1 < (s.size : Int) := by omega
    have hz2 : 0 ≤ (st.i : Int) + 1 := by omega
    have hz6 : ((st.i : Int) + 1).toNat = st.i + 1 := by omega
    go_quiet (fail)
    refine then_gen (fun W' => Rp W' r s st O ∧ Th O w O W') ⟨hW2.n _, tW2.n _⟩ ?_
    clear c0 c1 c2 c5 cf
    rintro W3 ⟨hW3, tW3⟩
    obtain ⟨c0, c1, c2, c5, cf⟩ := hW3.c
    rw [hb] at c2
    have hrW := hW3.lt r hW3.own
    have hOW := hW3.lt
    generalize (s[st.i + 1]'hq).toNat = d at *
    have f42 : ((c : Int) == 42) = false := by simp; omega
    clear h1
    rcases h2 with h2 | ⟨h2, h3⟩ | ⟨h2, h3, h4⟩ | ⟨h2, h3, h5, h4⟩
    all_goals (try (exfalso; revert h4; decide))
    all_goals (try subst h4)
    all_goals
      go_wp2_with fail
      refine (simple_w (hW3.alloc _) hb (by omega) (by omega)).mono ?_
      rintro e v0 ⟨rfl, O0, h0, t0⟩
      have T0 := hide ((tW3.alloc _).trans t0)
      have hsz := tW3.1.size
      obtain ⟨L0, n0⟩ := Th.blk t0 (b := W3.heap.size) (cs := [.int .u8 0, .int .i64 0, .int .i64 0, .int .i64 0, .int .u8 0, .int .i64 0, .int .i64 (-1), .int .i64 0, .int .i64 0]) (T := 63) (by (repeat' (first | ((with_reducible show (_ : List Value) = _); rfl) | ((with_reducible refine Blk.newAt _ _ _ ?_); first | with_reducible rfl | (simp; done)) | with_reducible refine Blk.alloc ?_ _ | with_reducible refine Blk.drewN ?_ _ | with_reducible refine Blk.drew ?_ | ((with_reducible refine Blk.other ?_ _ ?_); rotate_left; ((try dsimp only); omega)) | with_reducible refine Blk.setB (cs0 := ?_) ?_ ?_))) (fun e => by have := hOW _ e; omega)
      obtain ⟨z0, z1, z2, z3, z4, z5, z6, z7, z8, zf⟩ := L0.c9
      obtain ⟨p0, p1, p2, p5, pf⟩ := h0.c
      dsimp only at p1 p2
      have hq1 := simpF_le s st.i (by omega)
      have hop := simpF_op s st.i
      generalize simpF s st.i = q at *
      obtain ⟨⟨uo, ux, uy, uv, uk, ut, uf, ua, ul⟩, qi, qb⟩ := q
      dsimp only at *
      simp only [Nd.cells]
      have hb0 : ∀ (W' : World), Rp W' r s { st with i := qi, bad := qb } O0 → ∀ o v, Rp (W'.setCell ⟨W3.heap.size, o, none⟩ v) r s { st with i := qi, bad := qb } O0 := fun W' hW' o v => hW'.other v n0
      have HB0 := hide hb0
      clear hb0
      cases qb
      case true =>
        go_wp2
        refine bodyPost_ret (results_none rfl _ _ _) rfl ?_
        rw [HV.out, show lineR s st (⟨uo, ux, uy, uv, uk, ut, uf, ua, ul⟩, qi, true) = { st with i := qi, bad := true } by simp [lineR]]
        exact ⟨rfl, went_th (O' := O0) (by repeat' (first | with_reducible exact h0 | with_reducible refine HB0.out _ ?_ _ _)) (by repeat' (first | with_reducible exact T0.out | ((with_reducible refine Th.set ?_ _ ?_); rotate_left; (exact .inr (by (try dsimp only); omega)))))⟩
      case false =>
        by_cases h33 : uo = 33
        · subst h33
          go_wp2_with fail
          refine (eat_w (st := { st with i := qi, bad := false }) (by repeat' (first | with_reducible exact h0 | with_reducible refine HB0.out _ ?_ _ _)) 59 (by omega) hq1).mono ?_
          rintro e v8 ⟨rfl, O8, h8, t8⟩
          have T8 := hide (p := Th O w O8 v8) (Th.trans (by repeat' (first | with_reducible exact T0.out | ((with_reducible refine Th.set ?_ _ ?_); rotate_left; (exact .inr (by (try dsimp only); omega))))) t8)
          obtain ⟨L8, n8⟩ := Th.blk t8 (b := W3.heap.size) (cs := [.int .u8 33, .int .i64 ux, .int .i64 uy, .int .i64 uv, .int .u8 uk, .int .i64 (-1), .int .i64 uf, .int .i64 ua, .int .i64 ul]) (T := 63) (by (repeat' (first | ((with_reducible show (_ : List Value) = _); rfl) | with_reducible exact L0 | ((with_reducible refine Blk.newAt _ _ _ ?_); first | with_reducible rfl | (simp; done)) | with_reducible refine Blk.alloc ?_ _ | with_reducible refine Blk.drewN ?_ _ | with_reducible refine Blk.drew ?_ | ((with_reducible refine Blk.other ?_ _ ?_); rotate_left; ((try dsimp only); omega)) | with_reducible refine Blk.setB (cs0 := ?_) ?_ ?_))) n0
          obtain ⟨y0, y1, y2, y3, y4, y5, y6, y7, y8, yf⟩ := L8.c9
          go_wp2_with fail
          refine (add_c r s _ O8 ⟨33, ux, uy, uv, uk, (-1), uf, ua, ul⟩ _ (by show st.nodes.length ≤ 1000; omega) h8).mono ?_
          rintro e v9 ⟨rfl, O9, h9, t9⟩
          go_wp2
          go_end0
          refine ⟨rfl, went_th (O' := O9) ?_ (T8.out.trans t9)⟩
          rw [HV.out, show lineR s st (⟨33, ux, uy, uv, uk, ut, uf, ua, ul⟩, qi, false) = { st with i := (eatF s (qi, false) 59).1, bad := (eatF s (qi, false) 59).2, nodes := st.nodes ++ [⟨33, ux, uy, uv, uk, -1, uf, ua, ul⟩] } by simp [lineR, lineT, lineG]]
          exact h9
        · have f33 : (uo == 33) = false := by simp [h33]
          have f33' : (uo != 33) = true := by simp [h33]
          have f121 : (uo == 121) = false := by simp [hop.1]
          have f58 : (uo == 58) = false := by simp [hop.2]
          have HOP : Hid (¬ uo = 33 ∧ ¬ uo = 121 ∧ ¬ uo = 58) := ⟨h33, hop⟩
          clear h33 hop
          go_wp2_with fail
          refine (way_w (st := { st with i := qi, bad := false }) (by repeat' (first | with_reducible exact h0 | with_reducible refine HB0.out _ ?_ _ _)) (by omega) hq1).mono ?_
          rintro e v1 ⟨rfl, O1, h1, t1⟩
          have T1 := hide (p := Th O w O1 v1) (Th.trans (by repeat' (first | with_reducible exact T0.out | ((with_reducible refine Th.set ?_ _ ?_); rotate_left; (exact .inr (by (try dsimp only); omega))))) t1)
          obtain ⟨L1, n1⟩ := Th.blk t1 (b := W3.heap.size) (cs := [.int .u8 uo, .int .i64 ux, .int .i64 uy, .int .i64 uv, .int .u8 uk, .int .i64 (-1), .int .i64 uf, .int .i64 ua, .int .i64 ul]) (T := 63) (by (repeat' (first | ((with_reducible show (_ : List Value) = _); rfl) | with_reducible exact L0 | ((with_reducible refine Blk.newAt _ _ _ ?_); first | with_reducible rfl | (simp; done)) | with_reducible refine Blk.alloc ?_ _ | with_reducible refine Blk.drewN ?_ _ | with_reducible refine Blk.drew ?_ | ((with_reducible refine Blk.other ?_ _ ?_); rotate_left; ((try dsimp only); omega)) | with_reducible refine Blk.setB (cs0 := ?_) ?_ ?_))) n0
          obtain ⟨x10, x11, x12, x13, x14, x15, x16, x17, x18, x1f⟩ := L1.c9
          have hw1 := wayF_le s (qi, false) hq1
          generalize hg1 : wayF s (qi, false) = g1 at *
          have HG1 := hide hg1
          clear hg1
          obtain ⟨t1, i1, b1⟩ := g1
          dsimp only at hw1
          go_wp2_with fail
          refine (eat_w (h1.other _ n1) 59 (by omega) hw1).mono ?_
          rintro e v8 ⟨rfl, O8, h8, t8⟩
          have T8 := hide (p := Th O w O8 v8) (Th.trans (T1.out.set _ (.inr (by (try dsimp only); omega))) t8)
          obtain ⟨L8, n8⟩ := Th.blk t8 (b := W3.heap.size) (cs := [.int .u8 uo, .int .i64 ux, .int .i64 uy, .int .i64 uv, .int .u8 uk, .int .i64 t1, .int .i64 uf, .int .i64 ua, .int .i64 ul]) (T := 63) (by (repeat' (first | ((with_reducible show (_ : List Value) = _); rfl) | with_reducible exact L1 | ((with_reducible refine Blk.newAt _ _ _ ?_); first | with_reducible rfl | (simp; done)) | with_reducible refine Blk.alloc ?_ _ | with_reducible refine Blk.drewN ?_ _ | with_reducible refine Blk.drew ?_ | ((with_reducible refine Blk.other ?_ _ ?_); rotate_left; ((try dsimp only); omega)) | with_reducible refine Blk.setB (cs0 := ?_) ?_ ?_))) n1
          obtain ⟨y0, y1, y2, y3, y4, y5, y6, y7, y8, yf⟩ := L8.c9
          go_wp2_with fail
          refine (add_c r s _ O8 ⟨uo, ux, uy, uv, uk, t1, uf, ua, ul⟩ _ (by show st.nodes.length ≤ 1000; omega) h8).mono ?_
          rintro e v9 ⟨rfl, O9, h9, t9⟩
          go_wp2
          go_end0
          refine ⟨rfl, went_th (O' := O9) ?_ (T8.out.trans t9)⟩
          rw [HV.out, show lineR s st (⟨uo, ux, uy, uv, uk, ut, uf, ua, ul⟩, qi, false) = { st with i := (eatF s (i1, b1) 59).1, bad := (eatF s (i1, b1) 59).2, nodes := st.nodes ++ [⟨uo, ux, uy, uv, uk, t1, uf, ua, ul⟩] } by simp [lineR, lineT, lineG, HG1.out, HOP.out]]
          exact h9
  · have hd0 := HD0.out hq
    subst hd0
    clear HD HD0
    go_quiet (fail)
    refine then_gen (fun W' => Rp W' r s st O ∧ Th O w O W') ⟨hW.n _, tW.n _⟩ ?_
    clear c0 c1 c2 c5 cf
    rintro W3 ⟨hW3, tW3⟩
    obtain ⟨c0, c1, c2, c5, cf⟩ := hW3.c
    rw [hb] at c2
    have hrW := hW3.lt r hW3.own
    have hOW := hW3.lt
    have f42 : ((c : Int) == 42) = false := by simp; omega
    clear h1
    rcases h2 with h2 | ⟨h2, h3⟩ | ⟨h2, h3, h4⟩ | ⟨h2, h3, h5, h4⟩
    all_goals (try (exfalso; revert h4; decide))
    all_goals (try subst h4)
    all_goals
      go_wp2_with fail
      refine (simple_w (hW3.alloc _) hb (by omega) (by omega)).mono ?_
      rintro e v0 ⟨rfl, O0, h0, t0⟩
      have T0 := hide ((tW3.alloc _).trans t0)
      have hsz := tW3.1.size
      obtain ⟨L0, n0⟩ := Th.blk t0 (b := W3.heap.size) (cs := [.int .u8 0, .int .i64 0, .int .i64 0, .int .i64 0, .int .u8 0, .int .i64 0, .int .i64 (-1), .int .i64 0, .int .i64 0]) (T := 63) (by (repeat' (first | ((with_reducible show (_ : List Value) = _); rfl) | ((with_reducible refine Blk.newAt _ _ _ ?_); first | with_reducible rfl | (simp; done)) | with_reducible refine Blk.alloc ?_ _ | with_reducible refine Blk.drewN ?_ _ | with_reducible refine Blk.drew ?_ | ((with_reducible refine Blk.other ?_ _ ?_); rotate_left; ((try dsimp only); omega)) | with_reducible refine Blk.setB (cs0 := ?_) ?_ ?_))) (fun e => by have := hOW _ e; omega)
      obtain ⟨z0, z1, z2, z3, z4, z5, z6, z7, z8, zf⟩ := L0.c9
      obtain ⟨p0, p1, p2, p5, pf⟩ := h0.c
      dsimp only at p1 p2
      have hq1 := simpF_le s st.i (by omega)
      have hop := simpF_op s st.i
      generalize simpF s st.i = q at *
      obtain ⟨⟨uo, ux, uy, uv, uk, ut, uf, ua, ul⟩, qi, qb⟩ := q
      dsimp only at *
      simp only [Nd.cells]
      have hb0 : ∀ (W' : World), Rp W' r s { st with i := qi, bad := qb } O0 → ∀ o v, Rp (W'.setCell ⟨W3.heap.size, o, none⟩ v) r s { st with i := qi, bad := qb } O0 := fun W' hW' o v => hW'.other v n0
      have HB0 := hide hb0
      clear hb0
      cases qb
      case true =>
        go_wp2
        refine bodyPost_ret (results_none rfl _ _ _) rfl ?_
        rw [HV.out, show lineR s st (⟨uo, ux, uy, uv, uk, ut, uf, ua, ul⟩, qi, true) = { st with i := qi, bad := true } by simp [lineR]]
        exact ⟨rfl, went_th (O' := O0) (by repeat' (first | with_reducible exact h0 | with_reducible refine HB0.out _ ?_ _ _)) (by repeat' (first | with_reducible exact T0.out | ((with_reducible refine Th.set ?_ _ ?_); rotate_left; (exact .inr (by (try dsimp only); omega)))))⟩
      case false =>
        by_cases h33 : uo = 33
        · subst h33
          go_wp2_with fail
          refine (eat_w (st := { st with i := qi, bad := false }) (by repeat' (first | with_reducible exact h0 | with_reducible refine HB0.out _ ?_ _ _)) 59 (by omega) hq1).mono ?_
          rintro e v8 ⟨rfl, O8, h8, t8⟩
          have T8 := hide (p := Th O w O8 v8) (Th.trans (by repeat' (first | with_reducible exact T0.out | ((with_reducible refine Th.set ?_ _ ?_); rotate_left; (exact .inr (by (try dsimp only); omega))))) t8)
          obtain ⟨L8, n8⟩ := Th.blk t8 (b := W3.heap.size) (cs := [.int .u8 33, .int .i64 ux, .int .i64 uy, .int .i64 uv, .int .u8 uk, .int .i64 (-1), .int .i64 uf, .int .i64 ua, .int .i64 ul]) (T := 63) (by (repeat' (first | ((with_reducible show (_ : List Value) = _); rfl) | with_reducible exact L0 | ((with_reducible refine Blk.newAt _ _ _ ?_); first | with_reducible rfl | (simp; done)) | with_reducible refine Blk.alloc ?_ _ | with_reducible refine Blk.drewN ?_ _ | with_reducible refine Blk.drew ?_ | ((with_reducible refine Blk.other ?_ _ ?_); rotate_left; ((try dsimp only); omega)) | with_reducible refine Blk.setB (cs0 := ?_) ?_ ?_))) n0
          obtain ⟨y0, y1, y2, y3, y4, y5, y6, y7, y8, yf⟩ := L8.c9
          go_wp2_with fail
          refine (add_c r s _ O8 ⟨33, ux, uy, uv, uk, (-1), uf, ua, ul⟩ _ (by show st.nodes.length ≤ 1000; omega) h8).mono ?_
          rintro e v9 ⟨rfl, O9, h9, t9⟩
          go_wp2
          go_end0
          refine ⟨rfl, went_th (O' := O9) ?_ (T8.out.trans t9)⟩
          rw [HV.out, show lineR s st (⟨33, ux, uy, uv, uk, ut, uf, ua, ul⟩, qi, false) = { st with i := (eatF s (qi, false) 59).1, bad := (eatF s (qi, false) 59).2, nodes := st.nodes ++ [⟨33, ux, uy, uv, uk, -1, uf, ua, ul⟩] } by simp [lineR, lineT, lineG]]
          exact h9
        · have f33 : (uo == 33) = false := by simp [h33]
          have f33' : (uo != 33) = true := by simp [h33]
          have f121 : (uo == 121) = false := by simp [hop.1]
          have f58 : (uo == 58) = false := by simp [hop.2]
          have HOP : Hid (¬ uo = 33 ∧ ¬ uo = 121 ∧ ¬ uo = 58) := ⟨h33, hop⟩
          clear h33 hop
          go_wp2_with fail
          refine (way_w (st := { st with i := qi, bad := false }) (by repeat' (first | with_reducible exact h0 | with_reducible refine HB0.out _ ?_ _ _)) (by omega) hq1).mono ?_
          rintro e v1 ⟨rfl, O1, h1, t1⟩
          have T1 := hide (p := Th O w O1 v1) (Th.trans (by repeat' (first | with_reducible exact T0.out | ((with_reducible refine Th.set ?_ _ ?_); rotate_left; (exact .inr (by (try dsimp only); omega))))) t1)
          obtain ⟨L1, n1⟩ := Th.blk t1 (b := W3.heap.size) (cs := [.int .u8 uo, .int .i64 ux, .int .i64 uy, .int .i64 uv, .int .u8 uk, .int .i64 (-1), .int .i64 uf, .int .i64 ua, .int .i64 ul]) (T := 63) (by (repeat' (first | ((with_reducible show (_ : List Value) = _); rfl) | with_reducible exact L0 | ((with_reducible refine Blk.newAt _ _ _ ?_); first | with_reducible rfl | (simp; done)) | with_reducible refine Blk.alloc ?_ _ | with_reducible refine Blk.drewN ?_ _ | with_reducible refine Blk.drew ?_ | ((with_reducible refine Blk.other ?_ _ ?_); rotate_left; ((try dsimp only); omega)) | with_reducible refine Blk.setB (cs0 := ?_) ?_ ?_))) n0
          obtain ⟨x10, x11, x12, x13, x14, x15, x16, x17, x18, x1f⟩ := L1.c9
          have hw1 := wayF_le s (qi, false) hq1
          generalize hg1 : wayF s (qi, false) = g1 at *
          have HG1 := hide hg1
          clear hg1
          obtain ⟨t1, i1, b1⟩ := g1
          dsimp only at hw1
          go_wp2_with fail
          refine (eat_w (h1.other _ n1) 59 (by omega) hw1).mono ?_
          rintro e v8 ⟨rfl, O8, h8, t8⟩
          have T8 := hide (p := Th O w O8 v8) (Th.trans (T1.out.set _ (.inr (by (try dsimp only); omega))) t8)
          obtain ⟨L8, n8⟩ := Th.blk t8 (b := W3.heap.size) (cs := [.int .u8 uo, .int .i64 ux, .int .i64 uy, .int .i64 uv, .int .u8 uk, .int .i64 t1, .int .i64 uf, .int .i64 ua, .int .i64 ul]) (T := 63) (by (repeat' (first | ((with_reducible show (_ : List Value) = _); rfl) | with_reducible exact L1 | ((with_reducible refine Blk.newAt _ _ _ ?_); first | with_reducible rfl | (simp; done)) | with_reducible refine Blk.alloc ?_ _ | with_reducible refine Blk.drewN ?_ _ | with_reducible refine Blk.drew ?_ | ((with_reducible refine Blk.other ?_ _ ?_); rotate_left; ((try dsimp only); omega)) | with_reducible refine Blk.setB (cs0 := ?_) ?_ ?_))) n1
          obtain ⟨y0, y1, y2, y3, y4, y5, y6, y7, y8, yf⟩ := L8.c9
          go_wp2_with fail
          refine (add_c r s _ O8 ⟨uo, ux, uy, uv, uk, t1, uf, ua, ul⟩ _ (by show st.nodes.length ≤ 1000; omega) h8).mono ?_
          rintro e v9 ⟨rfl, O9, h9, t9⟩
          go_wp2
          go_end0
          refine ⟨rfl, went_th (O' := O9) ?_ (T8.out.trans t9)⟩
          rw [HV.out, show lineR s st (⟨uo, ux, uy, uv, uk, ut, uf, ua, ul⟩, qi, false) = { st with i := (eatF s (i1, b1) 59).1, bad := (eatF s (i1, b1) 59).2, nodes := st.nodes ++ [⟨uo, ux, uy, uv, uk, t1, uf, ua, ul⟩] } by simp [lineR, lineT, lineG, HG1.out, HOP.out]]
          exact h9

theorem line_c {w : World} {r : Nat} {s : ByteArray} {st : RS} {O : Nat → Prop} (hs : s.size ≤ 900) (h : Rp w r s st O) (hb : st.bad = false) (hi : st.i < s.size) (hn : st.nodes.length ≤ 950) :
    Calls Tryz.prog 39 #[.pointer (some ⟨r, 0, none⟩)] w fun e w' => e = .returned (.tuple #[]) ∧ Went w O r s (lineF s st) w' := by
  by_cases h1 : pk s st.i = 42
  · exact line_star hs h hb hi hn h1
  by_cases h2 : 97 ≤ pk s st.i ∧ pk s st.i ≤ 102 ∧ pk s (st.i + 1) ≠ 61 ∧ pk s (st.i + 1) ≠ 126
  · exact line_test hs h hb hi hn h1 h2
  · exact line_simple hs h hb hi hn h1 (by omega)
end Go.Proofs.YtellieabhaphhaaGreatDoor

/-
  narrowref's machine: values.
-/
namespace Go.Proofs.YtellieabhaphhaaGreatDoor
open Go.RowKit

def Vl.val (x : Vl) : Value := .agg #[.int .u8 x.k, .int .i64 x.n, .int .u8 x.v]

def partF (y : Vl) : Vl := if y.k = 65 then ⟨110, y.n, 0⟩ else ⟨y.v, 0, 0⟩

set_option maxHeartbeats 800000 in
theorem part_c (y : Vl) (w : World) :
    Calls Tryz.prog 164 #[.agg #[.int .u8 y.k, .int .i64 y.n, .int .u8 y.v]] w fun e w' => e = .returned (.agg (partF y).cells.toArray) ∧ Kp no w w' := by
  by_cases h : y.k = 65
  · have HV := hide (show partF y = ⟨110, y.n, 0⟩ by simp [partF, h])
    rw [h]
    go_enter Tryz.func164, Tryz.ntmps164
    go_wp2
    refine body_agg (Tb := 163) (b := w.heap.size + 1) (cs := [.int .u8 110, .int .i64 y.n, .int .u8 0]) (.inr rfl) Tryz.results164 rfl rfl (by (repeat' (first | ((with_reducible show (_ : List Value) = _); rfl) | ((with_reducible refine Blk.newAt _ _ _ ?_); first | with_reducible rfl | (simp; done)) | with_reducible refine Blk.alloc ?_ _ | with_reducible refine Blk.drewN ?_ _ | with_reducible refine Blk.drew ?_ | ((with_reducible refine Blk.other ?_ _ ?_); rotate_left; ((try dsimp only); omega)) | with_reducible refine Blk.setB (cs0 := ?_) ?_ ?_))) Tryz.underlying163 rfl (by kernel_rfl) ?_
    rw [HV.out]
    exact ⟨rfl, by (repeat' (first | with_reducible exact Kp.refl _ _ | with_reducible refine Kp.alloc ?_ _ | with_reducible refine Kp.drewN ?_ _ | with_reducible refine Kp.drew ?_ | with_reducible refine Kp.setCell ?_ _ ?_ | (intro hh; first | rfl | exact .inl rfl | exact .inr rfl | (exfalso; (try dsimp only at hh); omega))))⟩
  · have HV := hide (show partF y = ⟨y.v, 0, 0⟩ by simp [partF, h])
    have h' : (y.k == 65) = false := by simp [h]
    go_enter Tryz.func164, Tryz.ntmps164
    go_wp2
    refine body_agg (Tb := 163) (b := w.heap.size + 1) (cs := [.int .u8 y.v, .int .i64 0, .int .u8 0]) (.inr rfl) Tryz.results164 rfl rfl (by (repeat' (first | ((with_reducible show (_ : List Value) = _); rfl) | ((with_reducible refine Blk.newAt _ _ _ ?_); first | with_reducible rfl | (simp; done)) | with_reducible refine Blk.alloc ?_ _ | with_reducible refine Blk.drewN ?_ _ | with_reducible refine Blk.drew ?_ | ((with_reducible refine Blk.other ?_ _ ?_); rotate_left; ((try dsimp only); omega)) | with_reducible refine Blk.setB (cs0 := ?_) ?_ ?_))) Tryz.underlying163 rfl (by kernel_rfl) ?_
    rw [HV.out]
    exact ⟨rfl, by (repeat' (first | with_reducible exact Kp.refl _ _ | with_reducible refine Kp.alloc ?_ _ | with_reducible refine Kp.drewN ?_ _ | with_reducible refine Kp.drew ?_ | with_reducible refine Kp.setCell ?_ _ ?_ | (intro hh; first | rfl | exact .inl rfl | exact .inr rfl | (exfalso; (try dsimp only at hh); omega))))⟩

def consF (n : Nd) : Vl :=
  if n.op = 48 then ⟨110, n.k - 48, 0⟩ else if n.op = 84 then ⟨116, 0, 0⟩ else if n.op = 70 then ⟨102, 0, 0⟩ else if n.op = 67 then ⟨67, 0, 0⟩ else ⟨122, 0, 0⟩

set_option maxHeartbeats 1600000 in
theorem constant_c (n : Nd) (w : World) (hk : n.op = 48 → 48 ≤ n.k ∧ n.k ≤ 57) :
    Calls Tryz.prog 165 #[.agg #[.int .u8 n.op, .int .i64 n.x, .int .i64 n.y, .int .i64 n.v, .int .u8 n.k, .int .i64 n.t, .int .i64 n.f, .int .i64 n.a, .int .i64 n.l]] w fun e w' =>
      e = .returned (.agg (consF n).cells.toArray) ∧ Kp no w w' := by
  obtain ⟨o, x, y, v, k, t, f, a, l⟩ := n
  dsimp only at *
  by_cases h1 : o = 48
  · have HV := hide (show consF ⟨o, x, y, v, k, t, f, a, l⟩ = ⟨110, k - 48, 0⟩ by simp [consF, h1])
    obtain ⟨g1, g2⟩ := hk h1
    subst h1
    clear hk
    go_enter Tryz.func165, Tryz.ntmps165
    go_wp2
    refine body_agg (Tb := 163) (b := w.heap.size + 1) (cs := [.int .u8 110, .int .i64 (k - 48), .int .u8 0]) (.inr rfl) Tryz.results165 rfl rfl (by (repeat' (first | ((with_reducible show (_ : List Value) = _); rfl) | ((with_reducible refine Blk.newAt _ _ _ ?_); first | with_reducible rfl | (simp; done)) | with_reducible refine Blk.alloc ?_ _ | with_reducible refine Blk.drewN ?_ _ | with_reducible refine Blk.drew ?_ | ((with_reducible refine Blk.other ?_ _ ?_); rotate_left; ((try dsimp only); omega)) | with_reducible refine Blk.setB (cs0 := ?_) ?_ ?_))) Tryz.underlying163 rfl (by kernel_rfl) ?_
    rw [HV.out]
    exact ⟨rfl, by (repeat' (first | with_reducible exact Kp.refl _ _ | with_reducible refine Kp.alloc ?_ _ | with_reducible refine Kp.drewN ?_ _ | with_reducible refine Kp.drew ?_ | with_reducible refine Kp.setCell ?_ _ ?_ | (intro hh; first | rfl | exact .inl rfl | exact .inr rfl | (exfalso; (try dsimp only at hh); omega))))⟩
  clear hk
  by_cases h2 : o = 84
  · have HV := hide (show consF ⟨o, x, y, v, k, t, f, a, l⟩ = ⟨116, 0, 0⟩ by simp [consF, h2])
    subst h2
    go_enter Tryz.func165, Tryz.ntmps165
    go_wp2
    refine body_agg (Tb := 163) (b := w.heap.size + 1) (cs := [.int .u8 116, .int .i64 0, .int .u8 0]) (.inr rfl) Tryz.results165 rfl rfl (by (repeat' (first | ((with_reducible show (_ : List Value) = _); rfl) | ((with_reducible refine Blk.newAt _ _ _ ?_); first | with_reducible rfl | (simp; done)) | with_reducible refine Blk.alloc ?_ _ | with_reducible refine Blk.drewN ?_ _ | with_reducible refine Blk.drew ?_ | ((with_reducible refine Blk.other ?_ _ ?_); rotate_left; ((try dsimp only); omega)) | with_reducible refine Blk.setB (cs0 := ?_) ?_ ?_))) Tryz.underlying163 rfl (by kernel_rfl) ?_
    rw [HV.out]
    exact ⟨rfl, by (repeat' (first | with_reducible exact Kp.refl _ _ | with_reducible refine Kp.alloc ?_ _ | with_reducible refine Kp.drewN ?_ _ | with_reducible refine Kp.drew ?_ | with_reducible refine Kp.setCell ?_ _ ?_ | (intro hh; first | rfl | exact .inl rfl | exact .inr rfl | (exfalso; (try dsimp only at hh); omega))))⟩
  by_cases h3 : o = 70
  · have HV := hide (show consF ⟨o, x, y, v, k, t, f, a, l⟩ = ⟨102, 0, 0⟩ by simp [consF, h3])
    subst h3
    go_enter Tryz.func165, Tryz.ntmps165
    go_wp2
    refine body_agg (Tb := 163) (b := w.heap.size + 1) (cs := [.int .u8 102, .int .i64 0, .int .u8 0]) (.inr rfl) Tryz.results165 rfl rfl (by (repeat' (first | ((with_reducible show (_ : List Value) = _); rfl) | ((with_reducible refine Blk.newAt _ _ _ ?_); first | with_reducible rfl | (simp; done)) | with_reducible refine Blk.alloc ?_ _ | with_reducible refine Blk.drewN ?_ _ | with_reducible refine Blk.drew ?_ | ((with_reducible refine Blk.other ?_ _ ?_); rotate_left; ((try dsimp only); omega)) | with_reducible refine Blk.setB (cs0 := ?_) ?_ ?_))) Tryz.underlying163 rfl (by kernel_rfl) ?_
    rw [HV.out]
    exact ⟨rfl, by (repeat' (first | with_reducible exact Kp.refl _ _ | with_reducible refine Kp.alloc ?_ _ | with_reducible refine Kp.drewN ?_ _ | with_reducible refine Kp.drew ?_ | with_reducible refine Kp.setCell ?_ _ ?_ | (intro hh; first | rfl | exact .inl rfl | exact .inr rfl | (exfalso; (try dsimp only at hh); omega))))⟩
  by_cases h4 : o = 67
  · have HV := hide (show consF ⟨o, x, y, v, k, t, f, a, l⟩ = ⟨67, 0, 0⟩ by simp [consF, h4])
    subst h4
    go_enter Tryz.func165, Tryz.ntmps165
    go_wp2
    refine body_agg (Tb := 163) (b := w.heap.size + 1) (cs := [.int .u8 67, .int .i64 0, .int .u8 0]) (.inr rfl) Tryz.results165 rfl rfl (by (repeat' (first | ((with_reducible show (_ : List Value) = _); rfl) | ((with_reducible refine Blk.newAt _ _ _ ?_); first | with_reducible rfl | (simp; done)) | with_reducible refine Blk.alloc ?_ _ | with_reducible refine Blk.drewN ?_ _ | with_reducible refine Blk.drew ?_ | ((with_reducible refine Blk.other ?_ _ ?_); rotate_left; ((try dsimp only); omega)) | with_reducible refine Blk.setB (cs0 := ?_) ?_ ?_))) Tryz.underlying163 rfl (by kernel_rfl) ?_
    rw [HV.out]
    exact ⟨rfl, by (repeat' (first | with_reducible exact Kp.refl _ _ | with_reducible refine Kp.alloc ?_ _ | with_reducible refine Kp.drewN ?_ _ | with_reducible refine Kp.drew ?_ | with_reducible refine Kp.setCell ?_ _ ?_ | (intro hh; first | rfl | exact .inl rfl | exact .inr rfl | (exfalso; (try dsimp only at hh); omega))))⟩
  · have HV := hide (show consF ⟨o, x, y, v, k, t, f, a, l⟩ = ⟨122, 0, 0⟩ by simp [consF, h1, h2, h3, h4])
    have g1 : (o == 48) = false := by simp [h1]
    have g2 : (o == 84) = false := by simp [h2]
    have g3 : (o == 70) = false := by simp [h3]
    have g4 : (o == 67) = false := by simp [h4]
    go_enter Tryz.func165, Tryz.ntmps165
    go_wp2
    refine body_agg (Tb := 163) (b := w.heap.size + 1) (cs := [.int .u8 122, .int .i64 0, .int .u8 0]) (.inr rfl) Tryz.results165 rfl rfl (by (repeat' (first | ((with_reducible show (_ : List Value) = _); rfl) | ((with_reducible refine Blk.newAt _ _ _ ?_); first | with_reducible rfl | (simp; done)) | with_reducible refine Blk.alloc ?_ _ | with_reducible refine Blk.drewN ?_ _ | with_reducible refine Blk.drew ?_ | ((with_reducible refine Blk.other ?_ _ ?_); rotate_left; ((try dsimp only); omega)) | with_reducible refine Blk.setB (cs0 := ?_) ?_ ?_))) Tryz.underlying163 rfl (by kernel_rfl) ?_
    rw [HV.out]
    exact ⟨rfl, by (repeat' (first | with_reducible exact Kp.refl _ _ | with_reducible refine Kp.alloc ?_ _ | with_reducible refine Kp.drewN ?_ _ | with_reducible refine Kp.drew ?_ | with_reducible refine Kp.setCell ?_ _ ?_ | (intro hh; first | rfl | exact .inl rfl | exact .inr rfl | (exfalso; (try dsimp only at hh); omega))))⟩

def holdF (n : Nd) (v : Vl) : Bool := if n.op = 58 then v.k == n.k else (v.k != 102 && v.k != 122 && (v.k != 110 || v.n != 0))

theorem MB.vu {w : World} {m lb : Nat} {inp : ByteArray} {st : Mc} (h : MB w m lb inp st) {i : Nat} {u : Vl} (hu : st.l[i]? = some u) :
    i < 6 ∧ w.cell? ⟨lb, i * 3, none⟩ = some (.int .u8 u.k) ∧ w.cell? ⟨lb, i * 3 + 1, none⟩ = some (.int .i64 u.n) ∧ w.cell? ⟨lb, i * 3 + 2, none⟩ = some (.int .u8 u.v) := by
  obtain ⟨hi, rfl⟩ := List.getElem?_eq_some_iff.1 hu
  exact ⟨by have := h.six; omega, h.vs i hi⟩

set_option maxHeartbeats 1600000 in
theorem holds_c {w : World} {m lb : Nat} {inp : ByteArray} {st : Mc} (n : Nd) (y : Nat) (u : Vl) (h : MB w m lb inp st) (hy : n.y = y) (hu : st.l[y]? = some u) :
    Calls Tryz.prog 86 #[.pointer (some ⟨m, 0, none⟩), .agg #[.int .u8 n.op, .int .i64 n.x, .int .i64 n.y, .int .i64 n.v, .int .u8 n.k, .int .i64 n.t, .int .i64 n.f, .int .i64 n.a, .int .i64 n.l]] w fun e w' =>
      e = .returned (.bool (holdF n u)) ∧ Kp no w w' := by
  obtain ⟨o, x, y', v, k, t, f, a, l⟩ := n
  dsimp only at *
  subst hy
  have hlt := h.lt
  obtain ⟨uk, un, uv⟩ := u
  go_enter Tryz.func86, Tryz.ntmps86
  go_wp2
  refine wp_gen (fun W => MB W m lb inp st ∧ Blk W w.heap.size [.int .u8 o, .int .i64 x, .int .i64 y, .int .i64 v, .int .u8 k, .int .i64 t, .int .i64 f, .int .i64 a, .int .i64 l] 63 ∧ Kp no w W) ⟨h.alloc _, by (repeat' (first | ((with_reducible show (_ : List Value) = _); rfl) | ((with_reducible refine Blk.newAt _ _ _ ?_); first | with_reducible rfl | (simp; done)) | with_reducible refine Blk.alloc ?_ _ | with_reducible refine Blk.drewN ?_ _ | with_reducible refine Blk.drew ?_ | ((with_reducible refine Blk.other ?_ _ ?_); rotate_left; ((try dsimp only); omega)) | with_reducible refine Blk.setB (cs0 := ?_) ?_ ?_)), by (repeat' (first | with_reducible exact Kp.refl _ _ | with_reducible refine Kp.alloc ?_ _ | with_reducible refine Kp.drewN ?_ _ | with_reducible refine Kp.drew ?_ | with_reducible refine Kp.setCell ?_ _ ?_ | (intro hh; first | rfl | exact .inl rfl | exact .inr rfl | (exfalso; (try dsimp only at hh); omega))))⟩ ?_
  rintro W ⟨hm, hN, hk⟩
  obtain ⟨d0, d1, d2, d3, d4, d5, d6, df⟩ := hm.c
  obtain ⟨hy6, v0, v1, v2⟩ := hm.vu hu
  obtain ⟨n0, n1, n2, n3, n4, n5, n6, n7, n8, nf⟩ := hN.c9
  have hz1 := hN.lt
  obtain ⟨hz2, hz3⟩ := hm.lt
  have HU := hide hu
  clear hu
  dsimp only at *
  by_cases ho : o = 58
  · have HV := hide (show holdF ⟨o, x, y, v, k, t, f, a, l⟩ ⟨uk, un, uv⟩ = (uk == k) by simp [holdF, ho])
    subst ho
    go_region
    go_wp2
    go_ret
    rw [HV.out]
    exact ⟨rfl, by (repeat' (first | with_reducible exact Kp.refl _ _ | with_reducible refine Kp.alloc ?_ _ | with_reducible refine Kp.drewN ?_ _ | with_reducible refine Kp.drew ?_ | with_reducible refine Kp.setCell ?_ _ ?_ | with_reducible refine Kp.trans ?_ hk (fun _ _ e => e) | (intro hh; first | rfl | exact .inl rfl | exact .inr rfl | (exfalso; (try dsimp only at hh); omega))))⟩
  · have HV := hide (show holdF ⟨o, x, y, v, k, t, f, a, l⟩ ⟨uk, un, uv⟩ = (uk != 102 && uk != 122 && (uk != 110 || un != 0)) by simp [holdF, ho])
    have ho' : (o == 58) = false := by simp [ho]
    clear ho
    by_cases g1 : uk = 102
    · subst g1
      go_region
      go_wp2
      go_ret
      rw [HV.out]
      exact ⟨rfl, by (repeat' (first | with_reducible exact Kp.refl _ _ | with_reducible refine Kp.alloc ?_ _ | with_reducible refine Kp.drewN ?_ _ | with_reducible refine Kp.drew ?_ | with_reducible refine Kp.setCell ?_ _ ?_ | with_reducible refine Kp.trans ?_ hk (fun _ _ e => e) | (intro hh; first | rfl | exact .inl rfl | exact .inr rfl | (exfalso; (try dsimp only at hh); omega))))⟩
    have f1 : (uk == 102) = false := by simp [g1]
    have f1' : (uk != 102) = true := by simp [g1]
    by_cases g2 : uk = 122
    · subst g2
      go_region
      go_wp2
      go_ret
      rw [HV.out]
      exact ⟨rfl, by (repeat' (first | with_reducible exact Kp.refl _ _ | with_reducible refine Kp.alloc ?_ _ | with_reducible refine Kp.drewN ?_ _ | with_reducible refine Kp.drew ?_ | with_reducible refine Kp.setCell ?_ _ ?_ | with_reducible refine Kp.trans ?_ hk (fun _ _ e => e) | (intro hh; first | rfl | exact .inl rfl | exact .inr rfl | (exfalso; (try dsimp only at hh); omega))))⟩
    have f2 : (uk == 122) = false := by simp [g2]
    have f2' : (uk != 122) = true := by simp [g2]
    by_cases g3 : uk = 110
    · subst g3
      by_cases g4 : un = 0
      · subst g4
        go_region
        go_wp2
        go_ret
        rw [HV.out]
        exact ⟨rfl, by (repeat' (first | with_reducible exact Kp.refl _ _ | with_reducible refine Kp.alloc ?_ _ | with_reducible refine Kp.drewN ?_ _ | with_reducible refine Kp.drew ?_ | with_reducible refine Kp.setCell ?_ _ ?_ | with_reducible refine Kp.trans ?_ hk (fun _ _ e => e) | (intro hh; first | rfl | exact .inl rfl | exact .inr rfl | (exfalso; (try dsimp only at hh); omega))))⟩
      · have f4 : (un == 0) = false := by simp [g4]
        have f4' : (un != 0) = true := by simp [g4]
        have G4 := hide g4
        clear g4
        go_region
        go_wp2
        go_ret
        rw [HV.out]
        exact ⟨by simp [G4.out], by (repeat' (first | with_reducible exact Kp.refl _ _ | with_reducible refine Kp.alloc ?_ _ | with_reducible refine Kp.drewN ?_ _ | with_reducible refine Kp.drew ?_ | with_reducible refine Kp.setCell ?_ _ ?_ | with_reducible refine Kp.trans ?_ hk (fun _ _ e => e) | (intro hh; first | rfl | exact .inl rfl | exact .inr rfl | (exfalso; (try dsimp only at hh); omega))))⟩
    · have f3 : (uk == 110) = false := by simp [g3]
      have f3' : (uk != 110) = true := by simp [g3]
      clear g1 g2 g3
      go_region
      go_wp2
      go_ret
      rw [HV.out]
      exact ⟨by simp [f1', f2', f3'], by (repeat' (first | with_reducible exact Kp.refl _ _ | with_reducible refine Kp.alloc ?_ _ | with_reducible refine Kp.drewN ?_ _ | with_reducible refine Kp.drew ?_ | with_reducible refine Kp.setCell ?_ _ ?_ | with_reducible refine Kp.trans ?_ hk (fun _ _ e => e) | (intro hh; first | rfl | exact .inl rfl | exact .inr rfl | (exfalso; (try dsimp only at hh); omega))))⟩
end Go.Proofs.YtellieabhaphhaaGreatDoor
