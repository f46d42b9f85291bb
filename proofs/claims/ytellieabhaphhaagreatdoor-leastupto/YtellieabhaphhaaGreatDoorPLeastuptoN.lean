import Derived.Test.YtellieabhaphhaaGreatDoorPLeastuptoM
/-
  Plain: the maker's bounds.
-/
namespace Go.Proofs.YtellieabhaphhaaGreatDoor
open Go.RowKit

theorem layM_p (m : MS) (k : Nat) : (layM m k).p = m.p := rfl
theorem layM_row (m : MS) (k : Nat) : (layM m k).row = m.row := rfl
theorem newM_p (m : MS) : (newM m).p = m.p := rfl
theorem newM_row (m : MS) : (newM m).row = m.row := rfl
theorem new3_p (m : MS) : (new3 m).p = m.p := rfl
theorem jmpM_p (m : MS) (k : Int) : (jmpM m k).p = m.p := rfl
theorem jmpM_row (m : MS) (k : Int) : (jmpM m k).row.length = m.row.length + 1 := by simp [jmpM]
theorem jmpM_marks (m : MS) (k : Int) : (jmpM m k).marks = m.marks := rfl
theorem addM_p (m : MS) (n : NN) : (addM m n).p = m.p := rfl
theorem addM_row (m : MS) (n : NN) : (addM m n).row.length = m.row.length + 1 := by simp [addM]
theorem addM_marks (m : MS) (n : NN) : (addM m n).marks = m.marks := rfl
theorem expM_row (s : ByteArray) (m : MS) (l : List UInt8) : (expM s m l).row = m.row := rfl
theorem expM_marks (s : ByteArray) (m : MS) (l : List UInt8) : (expM s m l).marks = m.marks := rfl
theorem expM_p (s : ByteArray) (m : MS) (l : List UInt8) : (expM s m l).p = expF s m.p l := rfl
theorem putP_p (m : MS) (p : Nat × Bool) : (putP m p).p = p := rfl
theorem putP_row (m : MS) (p : Nat × Bool) : (putP m p).row = m.row := rfl
theorem putP_marks (m : MS) (p : Nat × Bool) : (putP m p).marks = m.marks := rfl

/-- The bounds as they stand between statements. -/
structure MI (s : ByteArray) (m : MS) : Prop where
  i : m.p.1 ≤ s.size
  row : m.row.length ≤ 3 * m.p.1 + bc m.p
  mm : m.marks.length ≤ 3 * m.p.1 + bc m.p

theorem MI.mg {s : ByteArray} {m m' : MS} (h : MI s m) (g : MG s m m') : MI s m' := by
  have h1 := h.row; have h2 := h.mm; have g1 := g.row; have g2 := g.mm
  exact ⟨g.i, by omega, by omega⟩

theorem pkb_live {s : ByteArray} {p : Nat × Bool} (h : pkb s p ≠ 0) : p.2 = false ∧ p.1 < s.size := pkb_good (s := s) (i := p.1) (b := p.2) h

theorem bc_live {p : Nat × Bool} (h : p.2 = false) : bc p = 0 := by simp [bc, h]

theorem nacF_bc {s : ByteArray} {p : Nat × Bool} (h : pkb s p ≠ 0) : p.1 ≤ (nacF s p).2.1 ∧ (nacF s p).2.1 ≤ s.size ∧ p.1 + 1 ≤ (nacF s p).2.1 + bc (nacF s p).2 := by
  obtain ⟨h1, h2⟩ := pkb_live h
  obtain ⟨i, b⟩ := p
  subst h1
  rw [(nac_ref s i).1]
  have a := simpF_ge s i
  have b := simpF_le s i (Nat.le_of_lt h2)
  refine ⟨a.1, b, ?_⟩
  generalize (simpF s i).2 = q at *
  obtain ⟨q1, q2⟩ := q
  cases q2
  · have := a.2 rfl; simp [bc]; omega
  · have := a.1; simp [bc]; omega

theorem actM_mg {s : ByteArray} {m : MS} (h : pkb s m.p ≠ 0) : MG s m (actM s m) ∧ ((actM s m).p.2 = false → m.p.1 < (actM s m).p.1) := by
  obtain ⟨h1, h2⟩ := pkb_live h
  have a := nacF_bc h
  have b0 := bc_live h1
  unfold actM
  generalize (nacF s m.p).1 = n
  generalize (nacF s m.p).2 = q at *
  have e := expM_mg (s := s) (m := putP m q) (l := [59]) (by decide) a.2.1
  have e1 := e.lo; have e2 := e.bad; have e3 := e.i
  rw [putP_p] at e1 e2
  generalize hx : expM s (putP m q) [59] = x at *
  have xr : x.row = m.row := by rw [← hx]; rfl
  have xm : x.marks = m.marks := by rw [← hx]; rfl
  have hb := bc_le x.p
  refine ⟨⟨e3, ?_, ?_, ?_, ?_, ?_⟩, ?_⟩
  · rw [layM_p, addM_p, newM_p]; omega
  · rw [layM_p, addM_p, newM_p, layM_row, addM_row, newM_row, xr]; omega
  · rw [layM_p, addM_p, newM_p, layM_len, addM_marks, newM_len, xm]; omega
  · rw [layM_p, addM_p, newM_p]; omega
  · rw [layM_len, addM_marks, newM_len, xm]; omega
  · rw [layM_p, addM_p, newM_p]
    intro hx2
    have := bc_live hx2
    omega

theorem exp_head {s : ByteArray} {p : Nat × Bool} {c : UInt8} {l : List UInt8} (h : pkb s p = c.toNat) (hc : c.toNat ≠ 0) : expF s p (c :: l) = expF s (p.1 + 1, false) l := by
  have := (eat_at h hc).1
  rw [expF_one] at this
  show expF s (eatF s p c.toNat) l = _
  rw [this]

theorem lepM_mg {s : ByteArray} {m : MS} {c : UInt8} {l : List UInt8} {k : Int} (hc : pkb s m.p = c.toNat) (h0 : c.toNat ≠ 0) (hz : l.all (fun u => u.toNat != 0) = true) :
    MG s m (lepM s (c :: l) k m) ∧ ((lepM s (c :: l) k m).p.2 = false → m.p.1 < (lepM s (c :: l) k m).p.1) := by
  obtain ⟨e1, e2, e3⟩ := eat_at hc h0
  have b0 := bc_live e3
  unfold lepM
  split
  · refine ⟨⟨Nat.le_of_lt e2, Nat.le_refl _, ?_, ?_, ?_, Nat.le_refl _⟩, ?_⟩
    · rw [putP_p, putP_row]; simp [bc, e3]
    · rw [putP_p, putP_marks]; simp [bc, e3]
    · rw [putP_p]; simp [bc, e3]
    · intro h; cases h
  · have e := expF_bc s l (m.p.1 + 1, false) hz e2
    rw [← exp_head hc h0] at e
    dsimp only at e
    refine ⟨⟨?_, ?_, ?_, ?_, ?_, ?_⟩, ?_⟩
    · rw [jmpM_p, expM_p]; omega
    · rw [jmpM_p, expM_p]; omega
    · rw [jmpM_p, expM_p, jmpM_row, expM_row]; omega
    · rw [jmpM_p, expM_p, jmpM_marks, expM_marks]; omega
    · rw [jmpM_p, expM_p]; omega
    · rw [jmpM_marks, expM_marks]; exact Nat.le_refl _
    · rw [jmpM_p, expM_p]; intro _; omega

/-- What is asked of the statements within. -/
def SMG (s : ByteArray) (n : Nat) (S : Int → Int → MS → MS) : Prop := ∀ h b m, m.p.1 ≤ s.size → (m.p.2 = false → s.size - m.p.1 < n) → MG s m (S h b m)

theorem choM_mg {f : Nat} {s : ByteArray} {S : Int → Int → MS → MS} {h b : Int} {m : MS} (hS : SMG s f S) (hc : pkb s m.p = 40) (hf : s.size - m.p.1 < f + 1) :
    MG s m (choM f S s h b m) ∧ m.p.1 < (choM f S s h b m).p.1 := by
  obtain ⟨e1, e2, e3⟩ := eat_at (c := 40) hc (by decide)
  have b0 := bc_live e3
  unfold choM
  dsimp only
  have p1 : (expM s (new3 m) [40]).p = (m.p.1 + 1, false) := e1
  have r1 : (expM s (new3 m) [40]).row = m.row := rfl
  have m1 : (expM s (new3 m) [40]).marks.length = m.marks.length + 3 := new3_len m
  generalize expM s (new3 m) [40] = x1 at *
  have q1 : x1.p.1 = m.p.1 + 1 := by rw [p1]
  have b1 : bc x1.p = 0 := by rw [p1]; rfl
  clear p1 e1
  have g2 := condM_mc f s m.marks.length (m.marks.length + 1 : Nat) x1 (by omega) (by omega)
  generalize condM f s m.marks.length (m.marks.length + 1 : Nat) x1 = x2 at *
  have g3 := expM_mg (l := [123]) (by decide) g2.i
  generalize expM s x2 [123] = x3 at *
  have g4 := layM_mg (k := m.marks.length) g3.i
  generalize layM x3 m.marks.length = x4 at *
  have lo4 : x1.p.1 ≤ x4.p.1 := Nat.le_trans g2.lo (Nat.le_trans g3.lo g4.lo)
  have g5 := hS h b x4 g4.i (fun _ => by have := g4.i; omega)
  generalize S h b x4 = x5 at *
  have g6 := expM_mg (l := [125, 123]) (by decide) g5.i
  generalize expM s x5 [125, 123] = x6 at *
  have p7 := jmpM_p x6 (m.marks.length + 2 : Nat)
  have r7 := jmpM_row x6 (m.marks.length + 2 : Nat)
  have m7 := jmpM_marks x6 (m.marks.length + 2 : Nat)
  generalize jmpM x6 (m.marks.length + 2 : Nat) = x7 at *
  have g8 := layM_mg (s := s) (m := x7) (k := m.marks.length + 1) (by rw [p7]; exact g6.i)
  generalize layM x7 (m.marks.length + 1) = x8 at *
  have lo8 : x4.p.1 ≤ x8.p.1 := Nat.le_trans g5.lo (Nat.le_trans g6.lo (by rw [← p7]; exact g8.lo))
  have g9 := hS h b x8 g8.i (fun _ => by have := g8.i; omega)
  generalize S h b x8 = x9 at *
  have g10 := expM_mg (l := [125, 41]) (by decide) g9.i
  generalize expM s x9 [125, 41] = x10 at *
  have g11 := layM_mg (k := m.marks.length + 2) g10.i
  generalize layM x10 (m.marks.length + 2) = x11 at *
  have gb := (g9.trans g10).trans g11
  have ga := (g3.trans g4).trans (g5.trans g6)
  clear g3 g4 g5 g6 g9 g10 g11
  have u1 := g2.row; have u2 := g2.mm; have u3 := g2.lo; have u4 := g2.le; have u5 := g2.bad
  have v1 := ga.row; have v2 := ga.mm; have v3 := ga.lo; have v4 := ga.le; have v5 := ga.bad
  have y1 := g8.row; have y2 := g8.mm; have y3 := g8.lo; have y4 := g8.le; have y5 := g8.bad
  have z1 := gb.row; have z2 := gb.mm; have z3 := gb.lo; have z4 := gb.le; have z5 := gb.bad
  rw [p7] at y1 y2 y3 y5
  rw [m7] at y2 y4
  rw [r1] at u1
  refine ⟨⟨gb.i, by omega, by omega, by omega, by omega, by omega⟩, by omega⟩

theorem lopM_mg {f : Nat} {s : ByteArray} {S : Int → Int → MS → MS} {m : MS} (hS : SMG s f S) (hc : pkb s m.p = 91) (hf : s.size - m.p.1 < f + 1) :
    MG s m (lopM f S s m) ∧ m.p.1 < (lopM f S s m).p.1 := by
  obtain ⟨e1, e2, e3⟩ := eat_at (c := 91) hc (by decide)
  have b0 := bc_live e3
  unfold lopM
  dsimp only
  have p1 : (layM (expM s (new3 m) [91]) m.marks.length).p = (m.p.1 + 1, false) := e1
  have r1 : (layM (expM s (new3 m) [91]) m.marks.length).row = m.row := rfl
  have m1 : (layM (expM s (new3 m) [91]) m.marks.length).marks.length = m.marks.length + 3 := by rw [layM_len]; exact new3_len m
  generalize layM (expM s (new3 m) [91]) m.marks.length = x1 at *
  have q1 : x1.p.1 = m.p.1 + 1 := by rw [p1]
  have b1 : bc x1.p = 0 := by rw [p1]; rfl
  clear p1 e1
  have g2 := condM_mc f s (m.marks.length + 1 : Nat) (m.marks.length + 2 : Nat) x1 (by omega) (by omega)
  generalize condM f s (m.marks.length + 1 : Nat) (m.marks.length + 2 : Nat) x1 = x2 at *
  have g3 := expM_mg (l := [123]) (by decide) g2.i
  generalize expM s x2 [123] = x3 at *
  have g4 := layM_mg (k := m.marks.length + 1) g3.i
  generalize layM x3 (m.marks.length + 1) = x4 at *
  have lo4 : x1.p.1 ≤ x4.p.1 := Nat.le_trans g2.lo (Nat.le_trans g3.lo g4.lo)
  have g5 := hS m.marks.length (m.marks.length + 2 : Nat) x4 g4.i (fun _ => by have := g4.i; omega)
  generalize S m.marks.length (m.marks.length + 2 : Nat) x4 = x5 at *
  have g6 := expM_mg (l := [125, 93]) (by decide) g5.i
  generalize expM s x5 [125, 93] = x6 at *
  have p7 := jmpM_p x6 m.marks.length
  have r7 := jmpM_row x6 m.marks.length
  have m7 := jmpM_marks x6 m.marks.length
  generalize jmpM x6 m.marks.length = x7 at *
  have g8 := layM_mg (s := s) (m := x7) (k := m.marks.length + 2) (by rw [p7]; exact g6.i)
  generalize layM x7 (m.marks.length + 2) = x8 at *
  have ga := (g3.trans g4).trans (g5.trans g6)
  clear g3 g4 g5 g6
  have u1 := g2.row; have u2 := g2.mm; have u3 := g2.lo; have u4 := g2.le; have u5 := g2.bad
  have v1 := ga.row; have v2 := ga.mm; have v3 := ga.lo; have v4 := ga.le; have v5 := ga.bad
  have y1 := g8.row; have y2 := g8.mm; have y3 := g8.lo; have y4 := g8.le; have y5 := g8.bad
  rw [p7] at y1 y2 y3 y5
  rw [m7] at y2 y4
  rw [r1] at u1
  refine ⟨⟨g8.i, by omega, by omega, by omega, by omega, by omega⟩, by omega⟩

theorem stM_mg {f : Nat} {s : ByteArray} {S : Int → Int → MS → MS} {h b : Int} {m : MS} (hS : SMG s f S) (hp : pkb s m.p ≠ 0) (hf : s.size - m.p.1 < f + 1) :
    MG s m (stM f S s h b m) ∧ ((stM f S s h b m).p.2 = false → m.p.1 < (stM f S s h b m).p.1) := by
  unfold stM
  split
  · rename_i hc
    exact ⟨(choM_mg hS hc hf).1, fun _ => (choM_mg hS hc hf).2⟩
  split
  · rename_i hc
    exact ⟨(lopM_mg hS hc hf).1, fun _ => (lopM_mg hS hc hf).2⟩
  split
  · rename_i hc
    exact lepM_mg (c := 62) hc (by decide) (by decide)
  split
  · rename_i hc
    exact lepM_mg (c := 60) hc (by decide) (by decide)
  · exact actM_mg hp

theorem stmM_mg : ∀ (f : Nat) (s : ByteArray), SMG s f (stmM f s)
  | 0, s => fun h b m hi _ => MG.refl hi
  | f + 1, s => fun h b m hi hf => by
    rw [stmM]
    split
    · rename_i hc
      have hl := pkb_live hc.2
      have g := stM_mg (h := h) (b := b) (stmM_mg f s) hc.2 (hf hl.1)
      have hl2 := hf hl.1
      generalize stM f (stmM f s) s h b m = x at *
      exact g.1.trans (stmM_mg f s h b x g.1.i (fun hb => by have := g.2 hb; have := g.1.i; omega))
    · exact MG.refl hi

theorem stmM_stop (f : Nat) (s : ByteArray) (h b : Int) (m : MS) (hp : pkb s m.p = 125 ∨ pkb s m.p = 0) : stmM f s h b m = m := by
  cases f with
  | zero => rfl
  | succ f => rw [stmM, if_neg (by omega)]
end Go.Proofs.YtellieabhaphhaaGreatDoor

/-
  narrow's maker: the walks of its parts, one step behind the other.
-/
namespace Go.Proofs.YtellieabhaphhaaGreatDoor
open Go.RowKit

/-- A call that brings the maker from m to m'. -/
def MStep (r : Nat) (s : ByteArray) (F : Nat) (args : Array Value) (res : Value) (m m' : MS) : Prop :=
  ∀ (W : World) (O : Nat → Prop), Mp W r s m O → Calls Tryz.prog F args W fun e w' => e = .returned res ∧ MWent W O r s m' w'

section
variable {r : Nat} {s : ByteArray}
theorem new_step {m : MS} (hn : m.marks.length ≤ 2000) : MStep r s 134 #[.pointer (some ⟨r, 0, none⟩)] (.int .i64 m.marks.length) m (newM m) := fun _ _ h => nnewMark_c hn h
theorem jump_step {m : MS} (k : Int) (hn : m.row.length ≤ 2000) : MStep r s 137 #[.pointer (some ⟨r, 0, none⟩), .int .i64 k] (.tuple #[]) m (jmpM m k) := fun _ _ h => njump_c k hn h
theorem lay_step {m : MS} (k : Nat) (hn : m.marks.length ≤ 2000) (h2 : m.row.length ≤ 2000) (hk : k < m.marks.length) : MStep r s 136 #[.pointer (some ⟨r, 0, none⟩), .int .i64 k] (.tuple #[]) m (layM m k) := fun _ _ h => nlayMark_c k hn h2 hk h
theorem exp_step {m : MS} (u : ByteArray) (hs : s.size ≤ 1000) (hi : m.p.1 ≤ s.size) (hu : u.size ≤ 10) (hz : ∀ k (h : k < u.size), (u[k]).toNat ≠ 0) :
    MStep r s 109 #[.pointer (some ⟨r, 0, none⟩), .string u] (.tuple #[]) m (expM s m u.data.toList) := fun _ _ h => mexpect_w h u hs hi hu hz

set_option maxHeartbeats 1600000 in
theorem choice_walk {h b L0 L1 L2 : Int} {m y1 y2 y3 y4 y5 y6 y7 y8 y9 z1 z2 z3 z4 z5 : MS}
    (s1 : MStep r s 134 #[.pointer (some ⟨r, 0, none⟩)] (.int .i64 L0) m y1)
    (s2 : MStep r s 134 #[.pointer (some ⟨r, 0, none⟩)] (.int .i64 L1) y1 y2)
    (s3 : MStep r s 134 #[.pointer (some ⟨r, 0, none⟩)] (.int .i64 L2) y2 y3)
    (s4 : MStep r s 109 #[.pointer (some ⟨r, 0, none⟩), .string ⟨#[40]⟩] (.tuple #[]) y3 y4)
    (s5 : MStep r s 135 #[.pointer (some ⟨r, 0, none⟩), .int .i64 L0, .int .i64 L1] (.tuple #[]) y4 y5)
    (s6 : MStep r s 109 #[.pointer (some ⟨r, 0, none⟩), .string ⟨#[123]⟩] (.tuple #[]) y5 y6)
    (s7 : MStep r s 136 #[.pointer (some ⟨r, 0, none⟩), .int .i64 L0] (.tuple #[]) y6 y7)
    (s8 : MStep r s 53 #[.pointer (some ⟨r, 0, none⟩), .int .i64 h, .int .i64 b] (.tuple #[]) y7 y8)
    (s9 : MStep r s 109 #[.pointer (some ⟨r, 0, none⟩), .string ⟨#[125, 123]⟩] (.tuple #[]) y8 y9)
    (t1 : MStep r s 137 #[.pointer (some ⟨r, 0, none⟩), .int .i64 L2] (.tuple #[]) y9 z1)
    (t2 : MStep r s 136 #[.pointer (some ⟨r, 0, none⟩), .int .i64 L1] (.tuple #[]) z1 z2)
    (t3 : MStep r s 53 #[.pointer (some ⟨r, 0, none⟩), .int .i64 h, .int .i64 b] (.tuple #[]) z2 z3)
    (t4 : MStep r s 109 #[.pointer (some ⟨r, 0, none⟩), .string ⟨#[125, 41]⟩] (.tuple #[]) z3 z4)
    (t5 : MStep r s 136 #[.pointer (some ⟨r, 0, none⟩), .int .i64 L2] (.tuple #[]) z4 z5) :
    MStep r s 93 #[.pointer (some ⟨r, 0, none⟩), .int .i64 h, .int .i64 b] (.tuple #[]) m z5 := by
  intro w O h0
  have S1 := hide s1; have S2 := hide s2; have S3 := hide s3; have S4 := hide s4; have S5 := hide s5; have S6 := hide s6; have S7 := hide s7; have S8 := hide s8; have S9 := hide s9
  have T1 := hide t1; have T2 := hide t2; have T3 := hide t3; have T4 := hide t4; have T5 := hide t5
  clear s1 s2 s3 s4 s5 s6 s7 s8 s9 t1 t2 t3 t4 t5
  go_enter Tryz.func93, Tryz.ntmps93
  go_wp2_with fail
  refine (S1.out _ _ h0).mono ?_
  rintro e w1 ⟨rfl, O1, h1, T⟩
  go_wp2_with fail
  refine (S2.out _ _ h1).mono ?_
  rintro e w2 ⟨rfl, O2, h2, t2⟩
  replace T := T.trans t2; clear t2 h1
  go_wp2_with fail
  refine (S3.out _ _ h2).mono ?_
  rintro e w3 ⟨rfl, O3, h3, t3⟩
  replace T := T.trans t3; clear t3 h2
  go_wp2_with fail
  refine (S4.out _ _ h3).mono ?_
  rintro e w4 ⟨rfl, O4, h4, t4⟩
  replace T := T.trans t4; clear t4 h3
  go_wp2_with fail
  refine (S5.out _ _ h4).mono ?_
  rintro e w5 ⟨rfl, O5, h5, t5⟩
  replace T := T.trans t5; clear t5 h4
  go_wp2_with fail
  refine (S6.out _ _ h5).mono ?_
  rintro e w6 ⟨rfl, O6, h6, t6⟩
  replace T := T.trans t6; clear t6 h5
  go_wp2_with fail
  refine (S7.out _ _ h6).mono ?_
  rintro e w7 ⟨rfl, O7, h7, t7⟩
  replace T := T.trans t7; clear t7 h6
  go_wp2_with fail
  refine (S8.out _ _ h7).mono ?_
  rintro e w8 ⟨rfl, O8, h8, t8⟩
  replace T := T.trans t8; clear t8 h7
  go_wp2_with fail
  refine (S9.out _ _ h8).mono ?_
  rintro e w9 ⟨rfl, O9, h9, t9⟩
  replace T := T.trans t9; clear t9 h8
  go_wp2_with fail
  refine (T1.out _ _ h9).mono ?_
  rintro e v1 ⟨rfl, P1, k1, t1⟩
  replace T := T.trans t1; clear t1 h9
  go_wp2_with fail
  refine (T2.out _ _ k1).mono ?_
  rintro e v2 ⟨rfl, P2, k2, t2⟩
  replace T := T.trans t2; clear t2 k1
  go_wp2_with fail
  refine (T3.out _ _ k2).mono ?_
  rintro e v3 ⟨rfl, P3, k3, t3⟩
  replace T := T.trans t3; clear t3 k2
  go_wp2_with fail
  refine (T4.out _ _ k3).mono ?_
  rintro e v4 ⟨rfl, P4, k4, t4⟩
  replace T := T.trans t4; clear t4 k3
  go_wp2_with fail
  refine (T5.out _ _ k4).mono ?_
  rintro e v5 ⟨rfl, P5, k5, t5⟩
  replace T := T.trans t5; clear t5 k4
  go_wp2
  go_end0
  exact ⟨rfl, P5, k5, T⟩

set_option maxHeartbeats 1600000 in
theorem loop_walk {L0 L1 L2 : Int} {m y1 y2 y3 y4 y5 y6 y7 y8 y9 z1 z2 z3 : MS}
    (s1 : MStep r s 134 #[.pointer (some ⟨r, 0, none⟩)] (.int .i64 L0) m y1)
    (s2 : MStep r s 134 #[.pointer (some ⟨r, 0, none⟩)] (.int .i64 L1) y1 y2)
    (s3 : MStep r s 134 #[.pointer (some ⟨r, 0, none⟩)] (.int .i64 L2) y2 y3)
    (s4 : MStep r s 109 #[.pointer (some ⟨r, 0, none⟩), .string ⟨#[91]⟩] (.tuple #[]) y3 y4)
    (s5 : MStep r s 136 #[.pointer (some ⟨r, 0, none⟩), .int .i64 L0] (.tuple #[]) y4 y5)
    (s6 : MStep r s 135 #[.pointer (some ⟨r, 0, none⟩), .int .i64 L1, .int .i64 L2] (.tuple #[]) y5 y6)
    (s7 : MStep r s 109 #[.pointer (some ⟨r, 0, none⟩), .string ⟨#[123]⟩] (.tuple #[]) y6 y7)
    (s8 : MStep r s 136 #[.pointer (some ⟨r, 0, none⟩), .int .i64 L1] (.tuple #[]) y7 y8)
    (s9 : MStep r s 53 #[.pointer (some ⟨r, 0, none⟩), .int .i64 L0, .int .i64 L2] (.tuple #[]) y8 y9)
    (t1 : MStep r s 109 #[.pointer (some ⟨r, 0, none⟩), .string ⟨#[125, 93]⟩] (.tuple #[]) y9 z1)
    (t2 : MStep r s 137 #[.pointer (some ⟨r, 0, none⟩), .int .i64 L0] (.tuple #[]) z1 z2)
    (t3 : MStep r s 136 #[.pointer (some ⟨r, 0, none⟩), .int .i64 L2] (.tuple #[]) z2 z3) :
    MStep r s 94 #[.pointer (some ⟨r, 0, none⟩)] (.tuple #[]) m z3 := by
  intro w O h0
  have S1 := hide s1; have S2 := hide s2; have S3 := hide s3; have S4 := hide s4; have S5 := hide s5; have S6 := hide s6; have S7 := hide s7; have S8 := hide s8; have S9 := hide s9
  have T1 := hide t1; have T2 := hide t2; have T3 := hide t3
  clear s1 s2 s3 s4 s5 s6 s7 s8 s9 t1 t2 t3
  go_enter Tryz.func94, Tryz.ntmps94
  go_wp2_with fail
  refine (S1.out _ _ h0).mono ?_
  rintro e w1 ⟨rfl, O1, h1, T⟩
  go_wp2_with fail
  refine (S2.out _ _ h1).mono ?_
  rintro e w2 ⟨rfl, O2, h2, t2⟩
  replace T := T.trans t2; clear t2 h1
  go_wp2_with fail
  refine (S3.out _ _ h2).mono ?_
  rintro e w3 ⟨rfl, O3, h3, t3⟩
  replace T := T.trans t3; clear t3 h2
  go_wp2_with fail
  refine (S4.out _ _ h3).mono ?_
  rintro e w4 ⟨rfl, O4, h4, t4⟩
  replace T := T.trans t4; clear t4 h3
  go_wp2_with fail
  refine (S5.out _ _ h4).mono ?_
  rintro e w5 ⟨rfl, O5, h5, t5⟩
  replace T := T.trans t5; clear t5 h4
  go_wp2_with fail
  refine (S6.out _ _ h5).mono ?_
  rintro e w6 ⟨rfl, O6, h6, t6⟩
  replace T := T.trans t6; clear t6 h5
  go_wp2_with fail
  refine (S7.out _ _ h6).mono ?_
  rintro e w7 ⟨rfl, O7, h7, t7⟩
  replace T := T.trans t7; clear t7 h6
  go_wp2_with fail
  refine (S8.out _ _ h7).mono ?_
  rintro e w8 ⟨rfl, O8, h8, t8⟩
  replace T := T.trans t8; clear t8 h7
  go_wp2_with fail
  refine (S9.out _ _ h8).mono ?_
  rintro e w9 ⟨rfl, O9, h9, t9⟩
  replace T := T.trans t9; clear t9 h8
  go_wp2_with fail
  refine (T1.out _ _ h9).mono ?_
  rintro e v1 ⟨rfl, P1, k1, t1⟩
  replace T := T.trans t1; clear t1 h9
  go_wp2_with fail
  refine (T2.out _ _ k1).mono ?_
  rintro e v2 ⟨rfl, P2, k2, t2⟩
  replace T := T.trans t2; clear t2 k1
  go_wp2_with fail
  refine (T3.out _ _ k2).mono ?_
  rintro e v3 ⟨rfl, P3, k3, t3⟩
  replace T := T.trans t3; clear t3 k2
  go_wp2
  go_end0
  exact ⟨rfl, P3, k3, T⟩

set_option maxHeartbeats 1600000 in
theorem leap_bad {m : MS} (u : ByteArray) : MStep r s 95 #[.pointer (some ⟨r, 0, none⟩), .string u, .int .i64 (-1)] (.tuple #[]) m (putP m (m.p.1, true)) := by
  intro w O h0
  obtain ⟨c0, c1, c2, cf⟩ := h0.c
  go_enter Tryz.func95, Tryz.ntmps95
  go_wp2
  refine bodyPost_ret (results_none rfl _ _ _) rfl ?_
  exact ⟨rfl, O, h0.setBad, (Th.refl O w).set _ (.inl h0.own)⟩

set_option maxHeartbeats 1600000 in
theorem leap_walk {m y1 y2 : MS} {u : ByteArray} {k : Int} (hk : k ≠ -1)
    (s1 : MStep r s 109 #[.pointer (some ⟨r, 0, none⟩), .string u] (.tuple #[]) m y1)
    (s2 : MStep r s 137 #[.pointer (some ⟨r, 0, none⟩), .int .i64 k] (.tuple #[]) y1 y2) :
    MStep r s 95 #[.pointer (some ⟨r, 0, none⟩), .string u, .int .i64 k] (.tuple #[]) m y2 := by
  intro w O h0
  have hk' : ((k : Int) == -1) = false := by simp; omega
  have S1 := hide s1; have S2 := hide s2
  clear s1 s2 hk
  go_enter Tryz.func95, Tryz.ntmps95
  go_wp2_with fail
  refine (S1.out _ _ h0).mono ?_
  rintro e w1 ⟨rfl, O1, h1, T⟩
  go_wp2_with fail
  refine (S2.out _ _ h1).mono ?_
  rintro e w2 ⟨rfl, O2, h2, t2⟩
  replace T := T.trans t2; clear t2 h1
  go_wp2
  go_end0
  exact ⟨rfl, O2, h2, T⟩

set_option maxHeartbeats 1600000 in
theorem cond_not {yes no : Int} {m y1 y2 : MS} (hs : s.size ≤ 1000) (hi : m.p.1 ≤ s.size) (hc : pkb s m.p = 33)
    (s1 : MStep r s 109 #[.pointer (some ⟨r, 0, none⟩), .string ⟨#[33]⟩] (.tuple #[]) m y1)
    (s2 : MStep r s 135 #[.pointer (some ⟨r, 0, none⟩), .int .i64 no, .int .i64 yes] (.tuple #[]) y1 y2) :
    MStep r s 135 #[.pointer (some ⟨r, 0, none⟩), .int .i64 yes, .int .i64 no] (.tuple #[]) m y2 := by
  intro w O h0
  have HP := hide (mpeek_w h0 hs hi)
  rw [hc] at HP
  have S1 := hide s1; have S2 := hide s2
  clear s1 s2 hc
  go_enter Tryz.func135, Tryz.ntmps135
  go_wp2_with fail
  refine HP.out.mono ?_
  rintro e w1 ⟨rfl, nq, rfl⟩
  go_wp2_with fail
  refine (S1.out _ _ (h0.n nq)).mono ?_
  rintro e w1 ⟨rfl, O1, h1, T⟩
  replace T := ((Th.refl O w).n nq).trans T
  go_wp2_with fail
  refine (S2.out _ _ h1).mono ?_
  rintro e w2 ⟨rfl, O2, h2, t2⟩
  replace T := T.trans t2; clear t2 h1
  go_wp2
  go_end0
  exact ⟨rfl, O2, h2, T⟩

set_option maxHeartbeats 1600000 in
theorem cond_and {yes no L : Int} {m y1 y2 y3 y4 y5 : MS} (hs : s.size ≤ 1000) (hi : m.p.1 ≤ s.size) (hc : pkb s m.p = 38)
    (s1 : MStep r s 109 #[.pointer (some ⟨r, 0, none⟩), .string ⟨#[38]⟩] (.tuple #[]) m y1)
    (s2 : MStep r s 134 #[.pointer (some ⟨r, 0, none⟩)] (.int .i64 L) y1 y2)
    (s3 : MStep r s 135 #[.pointer (some ⟨r, 0, none⟩), .int .i64 L, .int .i64 no] (.tuple #[]) y2 y3)
    (s4 : MStep r s 136 #[.pointer (some ⟨r, 0, none⟩), .int .i64 L] (.tuple #[]) y3 y4)
    (s5 : MStep r s 135 #[.pointer (some ⟨r, 0, none⟩), .int .i64 yes, .int .i64 no] (.tuple #[]) y4 y5) :
    MStep r s 135 #[.pointer (some ⟨r, 0, none⟩), .int .i64 yes, .int .i64 no] (.tuple #[]) m y5 := by
  intro w O h0
  have HP := hide (mpeek_w h0 hs hi)
  rw [hc] at HP
  have S1 := hide s1; have S2 := hide s2; have S3 := hide s3; have S4 := hide s4; have S5 := hide s5
  clear s1 s2 s3 s4 s5 hc
  go_enter Tryz.func135, Tryz.ntmps135
  go_wp2_with fail
  refine HP.out.mono ?_
  rintro e w1 ⟨rfl, nq, rfl⟩
  go_wp2_with fail
  refine (S1.out _ _ (h0.n nq)).mono ?_
  rintro e w1 ⟨rfl, O1, h1, T⟩
  replace T := ((Th.refl O w).n nq).trans T
  go_wp2_with fail
  refine (S2.out _ _ h1).mono ?_
  rintro e w2 ⟨rfl, O2, h2, t2⟩
  replace T := T.trans t2; clear t2 h1
  go_wp2_with fail
  refine (S3.out _ _ h2).mono ?_
  rintro e w3 ⟨rfl, O3, h3, t3⟩
  replace T := T.trans t3; clear t3 h2
  go_wp2_with fail
  refine (S4.out _ _ h3).mono ?_
  rintro e w4 ⟨rfl, O4, h4, t4⟩
  replace T := T.trans t4; clear t4 h3
  go_wp2_with fail
  refine (S5.out _ _ h4).mono ?_
  rintro e w5 ⟨rfl, O5, h5, t5⟩
  replace T := T.trans t5; clear t5 h4
  go_wp2
  go_end0
  exact ⟨rfl, O5, h5, T⟩

set_option maxHeartbeats 1600000 in
theorem cond_or {yes no L : Int} {m y1 y2 y3 y4 y5 : MS} (hs : s.size ≤ 1000) (hi : m.p.1 ≤ s.size) (hc : pkb s m.p = 124)
    (s1 : MStep r s 109 #[.pointer (some ⟨r, 0, none⟩), .string ⟨#[124]⟩] (.tuple #[]) m y1)
    (s2 : MStep r s 134 #[.pointer (some ⟨r, 0, none⟩)] (.int .i64 L) y1 y2)
    (s3 : MStep r s 135 #[.pointer (some ⟨r, 0, none⟩), .int .i64 yes, .int .i64 L] (.tuple #[]) y2 y3)
    (s4 : MStep r s 136 #[.pointer (some ⟨r, 0, none⟩), .int .i64 L] (.tuple #[]) y3 y4)
    (s5 : MStep r s 135 #[.pointer (some ⟨r, 0, none⟩), .int .i64 yes, .int .i64 no] (.tuple #[]) y4 y5) :
    MStep r s 135 #[.pointer (some ⟨r, 0, none⟩), .int .i64 yes, .int .i64 no] (.tuple #[]) m y5 := by
  intro w O h0
  have HP := hide (mpeek_w h0 hs hi)
  rw [hc] at HP
  have S1 := hide s1; have S2 := hide s2; have S3 := hide s3; have S4 := hide s4; have S5 := hide s5
  clear s1 s2 s3 s4 s5 hc
  go_enter Tryz.func135, Tryz.ntmps135
  go_wp2_with fail
  refine HP.out.mono ?_
  rintro e w1 ⟨rfl, nq, rfl⟩
  go_wp2_with fail
  refine (S1.out _ _ (h0.n nq)).mono ?_
  rintro e w1 ⟨rfl, O1, h1, T⟩
  replace T := ((Th.refl O w).n nq).trans T
  go_wp2_with fail
  refine (S2.out _ _ h1).mono ?_
  rintro e w2 ⟨rfl, O2, h2, t2⟩
  replace T := T.trans t2; clear t2 h1
  go_wp2_with fail
  refine (S3.out _ _ h2).mono ?_
  rintro e w3 ⟨rfl, O3, h3, t3⟩
  replace T := T.trans t3; clear t3 h2
  go_wp2_with fail
  refine (S4.out _ _ h3).mono ?_
  rintro e w4 ⟨rfl, O4, h4, t4⟩
  replace T := T.trans t4; clear t4 h3
  go_wp2_with fail
  refine (S5.out _ _ h4).mono ?_
  rintro e w5 ⟨rfl, O5, h5, t5⟩
  replace T := T.trans t5; clear t5 h4
  go_wp2
  go_end0
  exact ⟨rfl, O5, h5, T⟩
end
end Go.Proofs.YtellieabhaphhaaGreatDoor

/-
  narrow's maker: a test and an action: the walks.
-/
namespace Go.Proofs.YtellieabhaphhaaGreatDoor
open Go.RowKit

set_option maxRecDepth 100000 in
set_option maxHeartbeats 1600000 in
theorem cond_leaf {r : Nat} {s : ByteArray} {yes nay : Int} {m : MS} (hs : s.size ≤ 1000) (hi : m.p.1 ≤ s.size) (hrow : m.row.length ≤ 2000) (g1 : pkb s m.p ≠ 33) (g2 : pkb s m.p ≠ 38) (g3 : pkb s m.p ≠ 124) :
    MStep r s 135 #[.pointer (some ⟨r, 0, none⟩), .int .i64 yes, .int .i64 nay] (.tuple #[]) m (tstM s yes nay m) := by
  intro w O h0
  obtain ⟨i0, hi0, hz0, hz1, hz2⟩ := info_parts info_nn
  have HP := hide (mpeek_w h0 hs hi)
  have HT := hide (fun W (hW : Mp W r s m O) => mtest_w hW hs hi)
  have hq := tstF_bc s m.p hi
  have HV : Hid (tstM s yes nay m = addM (putP m (tstF s m.p).2) (((tstF s m.p).1.setT (sinceB s m.p.1 (tstF s m.p).2.1)).setW yes nay)) := rfl
  have f1 : ((pkb s m.p : Int) == 33) = false := by simp; omega
  have f2 : ((pkb s m.p : Int) == 38) = false := by simp; omega
  have f3 : ((pkb s m.p : Int) == 124) = false := by simp; omega
  obtain ⟨c0, c1, c2, cf⟩ := h0.c
  generalize pkb s m.p = d at *
  generalize tstF s m.p = q at *
  obtain ⟨⟨u0, u1, u2, u3, u4, u5, u6, u7, u8, u9, u10⟩, q⟩ := q
  dsimp only [NN.setT, NN.setW] at HV hq HT
  have HSI := hide (fun W O' (hW : Mp W r s (putP m q) O') => msince_w hW m.p.1 hs hq.2.2 hq.2.1)
  rw [putP_p] at HSI
  generalize sinceB s m.p.1 q.1 = tx2 at *
  unfold NN.cells at HT
  dsimp only at HT
  clear g1 g2 g3 hq
  go_enter Tryz.func135, Tryz.ntmps135
  go_wp2_with fail
  refine HP.out.mono ?_
  rintro e w1 ⟨rfl, nq, rfl⟩
  go_wp2_with fail
  refine (HT.out _ (h0.n nq)).mono ?_
  rintro e w2 ⟨rfl, O2, h2, t2⟩
  have HT2 := hide (((Th.refl O w).n nq).trans t2)
  clear t2
  have h2lt := h2.lt _ h2.own
  have hno : ¬ O2 w2.heap.size := fun e => Nat.lt_irrefl _ (h2.lt _ e)
  go_wp2_with fail
  refine (HSI.out _ O2 (h2.alloc _)).mono ?_
  rintro e w3 ⟨rfl, n3, hw3⟩
  obtain ⟨nv, iv, hB, hN, hI, d1, d2, d3, rfl⟩ := h2
  have hb : Blk w2 r [.string s, .int .i64 q.1, .bool q.2, nv, iv] 84 := hB
  have hA3 : Blk w3 w2.heap.size [.string u0, .int .i64 u1, .int .i64 u2, .int .i64 u3, .int .i64 u4, .int .i64 u5, .int .i64 u6, .int .i64 u7, .int .i64 u8, .int .i64 u9, .int .i64 u10] 91 := by rw [hw3]; (repeat' (first | ((with_reducible show (_ : List Value) = _); rfl) | ((with_reducible refine Blk.newAt _ _ _ ?_); first | with_reducible rfl | (simp; done)) | with_reducible refine Blk.alloc ?_ _ | with_reducible refine Blk.drewN ?_ _ | with_reducible refine Blk.drew ?_ | ((with_reducible refine Blk.other ?_ _ ?_); rotate_left; ((try dsimp only); omega)) | with_reducible refine Blk.setB (cs0 := ?_) ?_ ?_))
  have hr3 : Blk w3 r [.string s, .int .i64 q.1, .bool q.2, nv, iv] 84 := by rw [hw3]; (repeat' (first | ((with_reducible show (_ : List Value) = _); rfl) | with_reducible exact hb | ((with_reducible refine Blk.newAt _ _ _ ?_); first | with_reducible rfl | (simp; done)) | with_reducible refine Blk.alloc ?_ _ | with_reducible refine Blk.drewN ?_ _ | with_reducible refine Blk.drew ?_ | ((with_reducible refine Blk.other ?_ _ ?_); rotate_left; ((try dsimp only); omega)) | with_reducible refine Blk.setB (cs0 := ?_) ?_ ?_))
  have hk3 : Kp no w2 w3 := by rw [hw3]; (repeat' (first | with_reducible exact Kp.refl _ _ | with_reducible refine Kp.alloc ?_ _ | with_reducible refine Kp.drewN ?_ _ | with_reducible refine Kp.drew ?_ | with_reducible refine Kp.setCell ?_ _ ?_ | (intro hh; first | rfl | exact .inl rfl | exact .inr rfl | (exfalso; (try dsimp only at hh); omega))))
  clear hw3 HSI HP HT
  have HN3 := hide (hk3.row hN (fun _ _ => no_elim))
  have HK3 := hide hk3
  have hs3 := hk3.size
  have hal := hA3.lt
  have hrl := hr3.lt
  clear hk3 hno
  obtain ⟨a0, a1, a2, a3, a4, a5, a6, a7, a8, a9, a10, af⟩ := hA3.c11
  have q3 := hr3.cell 3
  simp only [List.getElem?_cons_zero, List.getElem?_cons_succ] at q3
  have qf := hr3.frozen
  have hone : ∀ u ∈ ([.string tx2, .int .i64 u1, .int .i64 u2, .int .i64 u3, .int .i64 u4, .int .i64 u5, .int .i64 u6, .int .i64 u7, .int .i64 u8, .int .i64 yes, .int .i64 nay] : List Value), u.oneCell' = true := by simp [Value.oneCell']
  have hnn : nv.ownBlock ≠ some w2.heap.size := fun e => by have := Row.lt hN e; omega
  have HRW : Hid (NRow (((w3.setCell ⟨w2.heap.size, 0, none⟩ (.string tx2)).setCell ⟨w2.heap.size, 9, none⟩ (.int .i64 yes)).setCell ⟨w2.heap.size, 10, none⟩ (.int .i64 nay)) nv m.row) := Row.set (Row.set (Row.set HN3.out _ hnn) _ hnn) _ hnn
  go_wp2
  have hk3 := HK3.out
  refine wp_gen (fun W => Blk W w2.heap.size [.string tx2, .int .i64 u1, .int .i64 u2, .int .i64 u3, .int .i64 u4, .int .i64 u5, .int .i64 u6, .int .i64 u7, .int .i64 u8, .int .i64 yes, .int .i64 nay] 91 ∧ Blk W r [.string s, .int .i64 q.1, .bool q.2, nv, iv] 84 ∧ NRow W nv m.row ∧ Kp no w2 W) ⟨by (repeat' (first | ((with_reducible show (_ : List Value) = _); rfl) | with_reducible exact hA3 | ((with_reducible refine Blk.newAt _ _ _ ?_); first | with_reducible rfl | (simp; done)) | with_reducible refine Blk.alloc ?_ _ | with_reducible refine Blk.drewN ?_ _ | with_reducible refine Blk.drew ?_ | ((with_reducible refine Blk.other ?_ _ ?_); rotate_left; ((try dsimp only); omega)) | with_reducible refine Blk.setB (cs0 := ?_) ?_ ?_)), by (repeat' (first | ((with_reducible show (_ : List Value) = _); rfl) | with_reducible exact hr3 | ((with_reducible refine Blk.newAt _ _ _ ?_); first | with_reducible rfl | (simp; done)) | with_reducible refine Blk.alloc ?_ _ | with_reducible refine Blk.drewN ?_ _ | with_reducible refine Blk.drew ?_ | ((with_reducible refine Blk.other ?_ _ ?_); rotate_left; ((try dsimp only); omega)) | with_reducible refine Blk.setB (cs0 := ?_) ?_ ?_)), HRW.out, by (repeat' (first | with_reducible exact Kp.refl _ _ | with_reducible refine Kp.alloc ?_ _ | with_reducible refine Kp.drewN ?_ _ | with_reducible refine Kp.drew ?_ | with_reducible refine Kp.setCell ?_ _ ?_ | with_reducible refine Kp.trans ?_ hk3 (fun _ _ e => e) | (intro hh; first | rfl | exact .inl rfl | exact .inr rfl | (exfalso; (try dsimp only at hh); omega))))⟩ ?_
  clear a0 a1 a2 a3 a4 a5 a6 a7 a8 a9 a10 af q3 qf hal hrl hs3 hA3 hr3 HRW HN3 HK3 hk3 hnn
  rintro W ⟨hA, hR, hRW, hkW⟩
  have hs3 := hkW.size
  have hal := hA.lt
  have hrl := hR.lt
  obtain ⟨a0, a1, a2, a3, a4, a5, a6, a7, a8, a9, a10, af⟩ := hA.c11
  have q3 := hR.cell 3
  simp only [List.getElem?_cons_zero, List.getElem?_cons_succ] at q3
  have qf := hR.frozen
  go_region_law (refine step_append_lies _ rfl (.tmp 37) (.tmp 39) 52 rfl 0 91 i0 _ 11 96 Tryz.underlying52 hi0 hz0 hz1 hz2 rfl (by decide) nv m.row.length (nnCells m.row) (by simp [Act.eval]) (by exact World.ownsRow.alloc (w := W.drew) hRW _) ⟨W.heap.size, 0, none⟩ 1 1 [.string tx2, .int .i64 u1, .int .i64 u2, .int .i64 u3, .int .i64 u4, .int .i64 u5, .int .i64 u6, .int .i64 u7, .int .i64 u8, .int .i64 yes, .int .i64 nay] (by simp [Act.eval]) rfl (by exact Blk.news (Blk.new W.drew [.string tx2, .int .i64 u1, .int .i64 u2, .int .i64 u3, .int .i64 u4, .int .i64 u5, .int .i64 u6, .int .i64 u7, .int .i64 u8, .int .i64 yes, .int .i64 nay] _)) hone (by decide) (by unfold maxLen; omega) (by omega) (Nat.zero_le _) _ rfl ?_; intro g cap' w' hown hgrow hat hlt'; have hb' := grown_blk hgrow (Blk.alloc (Blk.drew hR) _) d1; have q3' := hb'.cell 3; have qf' := hb'.frozen; simp only [List.getElem?_cons_zero, List.getElem?_cons_succ] at q3')
  all_goals
    go_wp2
    go_end0
    have hM := mwent_row (s := s) (m := putP m q) (n := ⟨tx2, u1, u2, u3, u4, u5, u6, u7, u8, yes, nay⟩) hB hI d1 d2 d3 (W := W.drew.alloc _) (hkW.drew.alloc _) hown hgrow hat (by simp; omega)
    obtain ⟨O4, h4, t4⟩ := hM
    refine ⟨rfl, O4, ?_, HT2.out.trans t4⟩
    rw [HV.out]
    exact h4

set_option maxRecDepth 100000 in
set_option maxHeartbeats 3200000 in
theorem act_step {r : Nat} {s : ByteArray} {m : MS} (hs : s.size ≤ 180) (hMI : MI s m) (hp : pkb s m.p ≠ 0) :
    MStep r s 96 #[.pointer (some ⟨r, 0, none⟩)] (.tuple #[]) m (actM s m) := by
  intro w O h0
  obtain ⟨i0, hi0, hz0, hz1, hz2⟩ := info_parts info_nn
  have n1 := hMI.row; have n2 := hMI.mm; have n3 := hMI.i; have nb := bc_le m.p
  have a := nacF_bc hp
  have HT := hide (fun W (hW : Mp W r s m O) => maction_w hW (by omega) n3)
  have HV : Hid (actM s m = layM (addM (newM (expM s (putP m (nacF s m.p).2) [59])) (((nacF s m.p).1.setT (sinceB s m.p.1 (nacF s m.p).2.1)).setW m.marks.length m.marks.length)) m.marks.length) := rfl
  obtain ⟨c0, c1, c2, cf⟩ := h0.c
  clear hp hMI
  generalize nacF s m.p = q at *
  obtain ⟨⟨u0, u1, u2, u3, u4, u5, u6, u7, u8, u9, u10⟩, q⟩ := q
  dsimp only [NN.setT, NN.setW] at HV a HT
  have HSI := hide (fun W O' (hW : Mp W r s (putP m q) O') => msince_w hW m.p.1 (by omega) a.2.1 a.1)
  rw [putP_p] at HSI
  generalize sinceB s m.p.1 q.1 = tx2 at *
  unfold NN.cells at HT
  dsimp only at HT
  have S1 : Hid (MStep r s 109 #[.pointer (some ⟨r, 0, none⟩), .string ⟨#[59]⟩] (.tuple #[]) (putP m q) (expM s (putP m q) [59])) := exp_step ⟨#[59]⟩ (by omega) a.2.1 (by decide) (by decide)
  have xr : (expM s (putP m q) [59]).row = m.row := rfl
  have xm : (expM s (putP m q) [59]).marks = m.marks := rfl
  generalize expM s (putP m q) [59] = x at *
  have S2 : Hid (MStep r s 134 #[.pointer (some ⟨r, 0, none⟩)] (.int .i64 m.marks.length) x (newM x)) := by
    have h := new_step (r := r) (s := s) (m := x) (by rw [xm]; omega)
    rw [xm] at h
    exact h
  have S3 : Hid (∀ n : NN, MStep r s 136 #[.pointer (some ⟨r, 0, none⟩), .int .i64 m.marks.length] (.tuple #[]) (addM (newM x) n) (layM (addM (newM x) n) m.marks.length)) :=
    fun n => lay_step m.marks.length (by rw [addM_marks, newM_len, xm]; omega) (by rw [addM_row, newM_row, xr]; omega) (by rw [addM_marks, newM_len, xm]; omega)
  have hyl : (newM x).row.length ≤ 2000 := by rw [newM_row, xr]; omega
  clear xr xm
  generalize newM x = y at *
  generalize m.marks.length = L at *
  go_enter Tryz.func96, Tryz.ntmps96
  go_wp2_with fail
  refine (HT.out _ h0).mono ?_
  rintro e w2 ⟨rfl, O2, h2, t2⟩
  have hno : ¬ O2 w2.heap.size := fun e => Nat.lt_irrefl _ (h2.lt _ e)
  have hrH := h2.lt _ h2.own
  have hsw := t2.1.size
  go_wp2_with fail
  refine (HSI.out _ O2 (h2.alloc _)).mono ?_
  rintro e w3 ⟨rfl, nq, hw3⟩
  have H3 : Hid (Mp w3 r s (putP m q) O2) := by show Mp _ _ _ _ _; rw [hw3]; exact (h2.alloc _).n _
  have T3 : Hid (Th O w O2 w3) := by show Th _ _ _ _; rw [hw3]; exact (t2.alloc _).n _
  have hA3 : Blk w3 w2.heap.size [.string u0, .int .i64 u1, .int .i64 u2, .int .i64 u3, .int .i64 u4, .int .i64 u5, .int .i64 u6, .int .i64 u7, .int .i64 u8, .int .i64 u9, .int .i64 u10] 91 := by rw [hw3]; (repeat' (first | ((with_reducible show (_ : List Value) = _); rfl) | ((with_reducible refine Blk.newAt _ _ _ ?_); first | with_reducible rfl | (simp; done)) | with_reducible refine Blk.alloc ?_ _ | with_reducible refine Blk.drewN ?_ _ | with_reducible refine Blk.drew ?_ | ((with_reducible refine Blk.other ?_ _ ?_); rotate_left; ((try dsimp only); omega)) | with_reducible refine Blk.setB (cs0 := ?_) ?_ ?_))
  clear hw3 t2 h2 HT HSI c0 c1 c2 cf
  have hal := hA3.lt
  obtain ⟨a0, a1, a2, a3, a4, a5, a6, a7, a8, a9, a10, af⟩ := hA3.c11
  go_wp2_with fail
  refine (S1.out _ O2 (H3.out.other _ hno)).mono ?_
  rintro e w4 ⟨rfl, O4, h4, t4⟩
  have hA4 := t4.blk (b := w2.heap.size) (cs := [.string tx2, .int .i64 u1, .int .i64 u2, .int .i64 u3, .int .i64 u4, .int .i64 u5, .int .i64 u6, .int .i64 u7, .int .i64 u8, .int .i64 u9, .int .i64 u10]) (T := 91) (by (repeat' (first | ((with_reducible show (_ : List Value) = _); rfl) | with_reducible exact hA3 | ((with_reducible refine Blk.newAt _ _ _ ?_); first | with_reducible rfl | (simp; done)) | with_reducible refine Blk.alloc ?_ _ | with_reducible refine Blk.drewN ?_ _ | with_reducible refine Blk.drew ?_ | ((with_reducible refine Blk.other ?_ _ ?_); rotate_left; ((try dsimp only); omega)) | with_reducible refine Blk.setB (cs0 := ?_) ?_ ?_))) hno
  have T4 := hide ((T3.out.set _ (.inr hsw)).trans t4)
  clear t4 T3 H3 hA3 a0 a1 a2 a3 a4 a5 a6 a7 a8 a9 a10 af hal hno
  go_wp2_with fail
  refine (S2.out _ O4 h4).mono ?_
  rintro e w5 ⟨rfl, O5, h5, t5⟩
  have hA5 := t5.blk hA4.1 hA4.2
  have T5 := hide (T4.out.trans t5)
  clear t5 T4 hA4 h4
  obtain ⟨nv, iv, hB, hN, hI, d1, d2, d3, rfl⟩ := h5
  obtain ⟨hA5, hnO⟩ := hA5
  have hb : Blk w5 r [.string s, .int .i64 y.p.1, .bool y.p.2, nv, iv] 84 := hB
  have hnn : nv.ownBlock ≠ some w2.heap.size := fun e => hnO (.inr (.inl e))
  have hni : iv.ownBlock ≠ some w2.heap.size := fun e => hnO (.inr (.inr e))
  have hal := hA5.lt
  have hrl := hb.lt
  obtain ⟨a0, a1, a2, a3, a4, a5, a6, a7, a8, a9, a10, af⟩ := hA5.c11
  have q3 := hb.cell 3
  simp only [List.getElem?_cons_zero, List.getElem?_cons_succ] at q3
  have qf := hb.frozen
  have hone : ∀ u ∈ ([.string tx2, .int .i64 u1, .int .i64 u2, .int .i64 u3, .int .i64 u4, .int .i64 u5, .int .i64 u6, .int .i64 u7, .int .i64 u8, .int .i64 L, .int .i64 L] : List Value), u.oneCell' = true := by simp [Value.oneCell']
  go_wp2
  refine wp_gen (fun W => Blk W w2.heap.size [.string tx2, .int .i64 u1, .int .i64 u2, .int .i64 u3, .int .i64 u4, .int .i64 u5, .int .i64 u6, .int .i64 u7, .int .i64 u8, .int .i64 L, .int .i64 L] 91 ∧ Blk W r [.string s, .int .i64 y.p.1, .bool y.p.2, nv, iv] 84 ∧ NRow W nv y.row ∧ MRow W iv y.marks ∧ Th O w (Own r nv iv) W) ⟨by (repeat' (first | ((with_reducible show (_ : List Value) = _); rfl) | with_reducible exact hA5 | ((with_reducible refine Blk.newAt _ _ _ ?_); first | with_reducible rfl | (simp; done)) | with_reducible refine Blk.alloc ?_ _ | with_reducible refine Blk.drewN ?_ _ | with_reducible refine Blk.drew ?_ | ((with_reducible refine Blk.other ?_ _ ?_); rotate_left; ((try dsimp only); omega)) | with_reducible refine Blk.setB (cs0 := ?_) ?_ ?_)), by (repeat' (first | ((with_reducible show (_ : List Value) = _); rfl) | with_reducible exact hb | ((with_reducible refine Blk.newAt _ _ _ ?_); first | with_reducible rfl | (simp; done)) | with_reducible refine Blk.alloc ?_ _ | with_reducible refine Blk.drewN ?_ _ | with_reducible refine Blk.drew ?_ | ((with_reducible refine Blk.other ?_ _ ?_); rotate_left; ((try dsimp only); omega)) | with_reducible refine Blk.setB (cs0 := ?_) ?_ ?_)), Row.set (Row.set hN _ hnn) _ hnn, Row.set (Row.set hI _ hni) _ hni, (T5.out.set _ (.inr hsw)).set _ (.inr hsw)⟩ ?_
  clear a0 a1 a2 a3 a4 a5 a6 a7 a8 a9 a10 af q3 qf hal hrl hA5
  rintro W ⟨hA, hR, hRW, hIW, htW⟩
  have HTW := hide htW
  have hal := hA.lt
  have hrl := hR.lt
  obtain ⟨a0, a1, a2, a3, a4, a5, a6, a7, a8, a9, a10, af⟩ := hA.c11
  have q3 := hR.cell 3
  simp only [List.getElem?_cons_zero, List.getElem?_cons_succ] at q3
  have qf := hR.frozen
  go_region_law (refine step_append_lies _ rfl (.tmp 34) (.tmp 36) 52 rfl 0 91 i0 _ 11 96 Tryz.underlying52 hi0 hz0 hz1 hz2 rfl (by decide) nv y.row.length (nnCells y.row) (by simp [Act.eval]) (by exact World.ownsRow.alloc (w := W.drew) hRW _) ⟨W.heap.size, 0, none⟩ 1 1 [.string tx2, .int .i64 u1, .int .i64 u2, .int .i64 u3, .int .i64 u4, .int .i64 u5, .int .i64 u6, .int .i64 u7, .int .i64 u8, .int .i64 L, .int .i64 L] (by simp [Act.eval]) rfl (by exact Blk.news (Blk.new W.drew [.string tx2, .int .i64 u1, .int .i64 u2, .int .i64 u3, .int .i64 u4, .int .i64 u5, .int .i64 u6, .int .i64 u7, .int .i64 u8, .int .i64 L, .int .i64 L] _)) hone (by decide) (by unfold maxLen; omega) (by omega) (Nat.zero_le _) _ rfl ?_; intro g cap' w' hown hgrow hat hlt'; have hb' := grown_blk hgrow (Blk.alloc (Blk.drew hR) _) d1; have q3' := hb'.cell 3; have qf' := hb'.frozen; simp only [List.getElem?_cons_zero, List.getElem?_cons_succ] at q3')
  all_goals
    have hM := hide (mwent_row (s := s) (m := y) (n := ⟨tx2, u1, u2, u3, u4, u5, u6, u7, u8, L, L⟩) (w := W) hR hIW d1 d2 d3 (W := W.drew.alloc _) ((Kp.refl no W).drew.alloc _) hown hgrow hat (by simp))
    go_wp2_with fail
    obtain ⟨O6, h6, t6⟩ := hM.out
    refine (S3.out _ _ O6 h6).mono ?_
    rintro e w7 ⟨rfl, O7, h7, t7⟩
    go_wp2
    go_end0
    refine ⟨rfl, O7, ?_, (HTW.out.trans t6).trans t7⟩
    rw [HV.out]
    exact h7
end Go.Proofs.YtellieabhaphhaaGreatDoor

/-
  narrow's maker: conditions, choices, loops, leaps: the walks put together.
-/
namespace Go.Proofs.YtellieabhaphhaaGreatDoor
open Go.RowKit

def CndSaid (f : Nat) : Prop := ∀ (r : Nat) (s : ByteArray) (yes no : Int) (m : MS), s.size ≤ 180 → s.size - m.p.1 < f → m.p.1 ≤ s.size → m.row.length + s.size ≤ m.p.1 + 1900 → m.marks.length + s.size ≤ m.p.1 + 1900 →
    MStep r s 135 #[.pointer (some ⟨r, 0, none⟩), .int .i64 yes, .int .i64 no] (.tuple #[]) m (condM f s yes no m)

theorem cnd_all : ∀ f, CndSaid f
  | 0 => fun _ _ _ _ _ _ h => by omega
  | f + 1 => fun r s yes no m hs hf hi hr hm => by
    have IH := cnd_all f
    rw [condM]
    split
    · rename_i hc
      obtain ⟨e1, e2, e3⟩ := eat_at (c := 33) hc (by decide)
      have e4 : (expM s m [33]).p = (m.p.1 + 1, false) := e1
      have x1 : (expM s m [33]).p.1 = m.p.1 + 1 := by rw [e4]
      exact cond_not (by omega) hi hc (exp_step ⟨#[33]⟩ (by omega) hi (by decide) (by decide)) (IH r s no yes (expM s m [33]) hs (by omega) (by omega) (by rw [expM_row]; omega) (by rw [expM_marks]; omega))
    split
    · rename_i _ hc
      obtain ⟨e1, e2, e3⟩ := eat_at (c := 38) hc (by decide)
      have e4 : (newM (expM s m [38])).p = (m.p.1 + 1, false) := e1
      have x1 : (newM (expM s m [38])).p.1 = m.p.1 + 1 := by rw [e4]
      have x2 : (newM (expM s m [38])).marks.length = m.marks.length + 1 := newM_len _
      have x3 : (newM (expM s m [38])).row = m.row := rfl
      have g := condM_mc f s m.marks.length no (newM (expM s m [38])) (by omega) (by omega)
      have S3 := IH r s m.marks.length no (newM (expM s m [38])) hs (by omega) (by omega) (by rw [x3]; omega) (by omega)
      have S1 : MStep r s 109 #[.pointer (some ⟨r, 0, none⟩), .string ⟨#[38]⟩] (.tuple #[]) m (expM s m [38]) := exp_step ⟨#[38]⟩ (by omega) hi (by decide) (by decide)
      have S2 : MStep r s 134 #[.pointer (some ⟨r, 0, none⟩)] (.int .i64 m.marks.length) (expM s m [38]) (newM (expM s m [38])) := new_step (by rw [expM_marks]; omega)
      generalize condM f s m.marks.length no (newM (expM s m [38])) = y3 at *
      have g1 := g.lo; have g2 := g.row; have g3 := g.mm; have g4 := g.le; have g5 := g.i
      rw [x3] at g2
      exact cond_and (by omega) hi hc S1 S2 S3 (lay_step m.marks.length (by omega) (by omega) (by omega)) (IH r s yes no (layM y3 m.marks.length) hs (by rw [layM_p]; omega) (by rw [layM_p]; omega) (by rw [layM_p, layM_row]; omega) (by rw [layM_p, layM_len]; omega))
    split
    · rename_i _ _ hc
      obtain ⟨e1, e2, e3⟩ := eat_at (c := 124) hc (by decide)
      have e4 : (newM (expM s m [124])).p = (m.p.1 + 1, false) := e1
      have x1 : (newM (expM s m [124])).p.1 = m.p.1 + 1 := by rw [e4]
      have x2 : (newM (expM s m [124])).marks.length = m.marks.length + 1 := newM_len _
      have x3 : (newM (expM s m [124])).row = m.row := rfl
      have g := condM_mc f s yes m.marks.length (newM (expM s m [124])) (by omega) (by omega)
      have S3 := IH r s yes m.marks.length (newM (expM s m [124])) hs (by omega) (by omega) (by rw [x3]; omega) (by omega)
      have S1 : MStep r s 109 #[.pointer (some ⟨r, 0, none⟩), .string ⟨#[124]⟩] (.tuple #[]) m (expM s m [124]) := exp_step ⟨#[124]⟩ (by omega) hi (by decide) (by decide)
      have S2 : MStep r s 134 #[.pointer (some ⟨r, 0, none⟩)] (.int .i64 m.marks.length) (expM s m [124]) (newM (expM s m [124])) := new_step (by rw [expM_marks]; omega)
      generalize condM f s yes m.marks.length (newM (expM s m [124])) = y3 at *
      have g1 := g.lo; have g2 := g.row; have g3 := g.mm; have g4 := g.le; have g5 := g.i
      rw [x3] at g2
      exact cond_or (by omega) hi hc S1 S2 S3 (lay_step m.marks.length (by omega) (by omega) (by omega)) (IH r s yes no (layM y3 m.marks.length) hs (by rw [layM_p]; omega) (by rw [layM_p]; omega) (by rw [layM_p, layM_row]; omega) (by rw [layM_p, layM_len]; omega))
    · rename_i g1 g2 g3
      exact cond_leaf (by omega) hi (by omega) g1 g2 g3

def StmSaid (f : Nat) : Prop := ∀ (r : Nat) (s : ByteArray) (h b : Int) (m : MS), s.size ≤ 180 → (m.p.2 = false → s.size - m.p.1 < f) → MI s m →
    MStep r s 53 #[.pointer (some ⟨r, 0, none⟩), .int .i64 h, .int .i64 b] (.tuple #[]) m (stmM f s h b m)

theorem cho_step {f : Nat} (ih : StmSaid f) {r : Nat} {s : ByteArray} {h b : Int} {m : MS} (hs : s.size ≤ 180) (hc : pkb s m.p = 40) (hf : s.size - m.p.1 < f + 1) (hI : MI s m) :
    MStep r s 93 #[.pointer (some ⟨r, 0, none⟩), .int .i64 h, .int .i64 b] (.tuple #[]) m (choM f (stmM f s) s h b m) := by
  obtain ⟨e1, e2, e3⟩ := eat_at (c := 40) hc (by decide)
  have b0 := bc_live e3
  have n1 := hI.row; have n2 := hI.mm; have n3 := hI.i
  unfold choM
  dsimp only
  have S1 : MStep r s 134 #[.pointer (some ⟨r, 0, none⟩)] (.int .i64 m.marks.length) m (newM m) := new_step (by omega)
  have S2 : MStep r s 134 #[.pointer (some ⟨r, 0, none⟩)] (.int .i64 (m.marks.length + 1 : Nat)) (newM m) (newM (newM m)) := by rw [← newM_len]; exact new_step (by rw [newM_len]; omega)
  have S3 : MStep r s 134 #[.pointer (some ⟨r, 0, none⟩)] (.int .i64 (m.marks.length + 2 : Nat)) (newM (newM m)) (new3 m) := by
    have e : m.marks.length + 2 = (newM (newM m)).marks.length := by rw [newM_len, newM_len]
    rw [e]; exact new_step (by rw [newM_len, newM_len]; omega)
  have S4 : MStep r s 109 #[.pointer (some ⟨r, 0, none⟩), .string ⟨#[40]⟩] (.tuple #[]) (new3 m) (expM s (new3 m) [40]) := exp_step ⟨#[40]⟩ (by omega) n3 (by decide) (by decide)
  have p1 : (expM s (new3 m) [40]).p = (m.p.1 + 1, false) := e1
  have r1 : (expM s (new3 m) [40]).row = m.row := rfl
  have m1 : (expM s (new3 m) [40]).marks.length = m.marks.length + 3 := new3_len m
  generalize expM s (new3 m) [40] = x1 at *
  have q1 : x1.p.1 = m.p.1 + 1 := by rw [p1]
  have b1 : bc x1.p = 0 := by rw [p1]; rfl
  clear p1 e1
  have g2 := condM_mc f s m.marks.length (m.marks.length + 1 : Nat) x1 (by omega) (by omega)
  have S5 := cnd_all f r s m.marks.length (m.marks.length + 1 : Nat) x1 hs (by omega) (by omega) (by rw [r1]; omega) (by omega)
  generalize condM f s m.marks.length (m.marks.length + 1 : Nat) x1 = x2 at *
  have u1 := g2.row; have u2 := g2.mm; have u3 := g2.lo; have u4 := g2.le; have u5 := g2.bad
  rw [r1] at u1
  have g3 := expM_mg (l := [123]) (by decide) g2.i
  have S6 : MStep r s 109 #[.pointer (some ⟨r, 0, none⟩), .string ⟨#[123]⟩] (.tuple #[]) x2 (expM s x2 [123]) := exp_step ⟨#[123]⟩ (by omega) g2.i (by decide) (by decide)
  have i3 : MI s (expM s x2 [123]) := MI.mg ⟨g2.i, by omega, by omega⟩ g3
  generalize expM s x2 [123] = x3 at *
  have v1 := g3.lo; have v4 := g3.le; have vb := bc_le x3.p
  have a1 := i3.row; have a2 := i3.mm; have a3 := i3.i
  have g4 := layM_mg (k := m.marks.length) g3.i
  have S7 : MStep r s 136 #[.pointer (some ⟨r, 0, none⟩), .int .i64 m.marks.length] (.tuple #[]) x3 (layM x3 m.marks.length) := lay_step m.marks.length (by omega) (by omega) (by omega)
  have i4 := i3.mg g4
  generalize layM x3 m.marks.length = x4 at *
  have lo4 : x1.p.1 ≤ x4.p.1 := Nat.le_trans g2.lo (Nat.le_trans g3.lo g4.lo)
  have w4 := g4.le; have w5 := g4.i
  have g5 := stmM_mg f s h b x4 g4.i (fun _ => by omega)
  have S8 := ih r s h b x4 hs (fun _ => by omega) i4
  have i5 := i4.mg g5
  generalize stmM f s h b x4 = x5 at *
  have g6 := expM_mg (l := [125, 123]) (by decide) g5.i
  have S9 : MStep r s 109 #[.pointer (some ⟨r, 0, none⟩), .string ⟨#[125, 123]⟩] (.tuple #[]) x5 (expM s x5 [125, 123]) := exp_step ⟨#[125, 123]⟩ (by omega) g5.i (by decide) (by decide)
  have i6 := i5.mg g6
  have gA := (g3.trans g4).trans (g5.trans g6)
  generalize expM s x5 [125, 123] = x6 at *
  have c1 := i6.row; have c2 := i6.mm; have c3 := i6.i; have cb := bc_le x6.p
  have c4 := gA.le; have c5 := gA.lo; have c6 := gA.row; have c7 := gA.mm; have c8 := gA.bad
  have T1 : MStep r s 137 #[.pointer (some ⟨r, 0, none⟩), .int .i64 (m.marks.length + 2 : Nat)] (.tuple #[]) x6 (jmpM x6 (m.marks.length + 2 : Nat)) := jump_step _ (by omega)
  have p7 := jmpM_p x6 (m.marks.length + 2 : Nat)
  have r7 := jmpM_row x6 (m.marks.length + 2 : Nat)
  have m7 := jmpM_marks x6 (m.marks.length + 2 : Nat)
  generalize jmpM x6 (m.marks.length + 2 : Nat) = x7 at *
  have g8 := layM_mg (s := s) (m := x7) (k := m.marks.length + 1) (by rw [p7]; exact g6.i)
  have T2 : MStep r s 136 #[.pointer (some ⟨r, 0, none⟩), .int .i64 (m.marks.length + 1 : Nat)] (.tuple #[]) x7 (layM x7 (m.marks.length + 1)) := lay_step (m.marks.length + 1) (by rw [m7]; omega) (by omega) (by rw [m7]; omega)
  generalize layM x7 (m.marks.length + 1) = x8 at *
  have d1 := g8.row; have d2 := g8.mm; have d3 := g8.lo; have d4 := g8.le; have d5 := g8.i
  rw [p7] at d1 d2 d3
  rw [m7] at d2 d4
  have i8 : MI s x8 := ⟨d5, by omega, by omega⟩
  have g9 := stmM_mg f s h b x8 g8.i (fun _ => by omega)
  have T3 := ih r s h b x8 hs (fun _ => by omega) i8
  have i9 := i8.mg g9
  generalize stmM f s h b x8 = x9 at *
  have g10 := expM_mg (l := [125, 41]) (by decide) g9.i
  have T4 : MStep r s 109 #[.pointer (some ⟨r, 0, none⟩), .string ⟨#[125, 41]⟩] (.tuple #[]) x9 (expM s x9 [125, 41]) := exp_step ⟨#[125, 41]⟩ (by omega) g9.i (by decide) (by decide)
  have i10 := i9.mg g10
  have gB := g9.trans g10
  generalize expM s x9 [125, 41] = x10 at *
  have f1 := i10.row; have f2 := i10.mm; have f3 := i10.i; have f4 := gB.le; have fb := bc_le x10.p
  have T5 : MStep r s 136 #[.pointer (some ⟨r, 0, none⟩), .int .i64 (m.marks.length + 2 : Nat)] (.tuple #[]) x10 (layM x10 (m.marks.length + 2)) := lay_step (m.marks.length + 2) (by omega) (by omega) (by omega)
  exact choice_walk S1 S2 S3 S4 S5 S6 S7 S8 S9 T1 T2 T3 T4 T5

theorem lop_step {f : Nat} (ih : StmSaid f) {r : Nat} {s : ByteArray} {m : MS} (hs : s.size ≤ 180) (hc : pkb s m.p = 91) (hf : s.size - m.p.1 < f + 1) (hI : MI s m) :
    MStep r s 94 #[.pointer (some ⟨r, 0, none⟩)] (.tuple #[]) m (lopM f (stmM f s) s m) := by
  obtain ⟨e1, e2, e3⟩ := eat_at (c := 91) hc (by decide)
  have b0 := bc_live e3
  have n1 := hI.row; have n2 := hI.mm; have n3 := hI.i
  unfold lopM
  dsimp only
  have S1 : MStep r s 134 #[.pointer (some ⟨r, 0, none⟩)] (.int .i64 m.marks.length) m (newM m) := new_step (by omega)
  have S2 : MStep r s 134 #[.pointer (some ⟨r, 0, none⟩)] (.int .i64 (m.marks.length + 1 : Nat)) (newM m) (newM (newM m)) := by rw [← newM_len]; exact new_step (by rw [newM_len]; omega)
  have S3 : MStep r s 134 #[.pointer (some ⟨r, 0, none⟩)] (.int .i64 (m.marks.length + 2 : Nat)) (newM (newM m)) (new3 m) := by
    have e : m.marks.length + 2 = (newM (newM m)).marks.length := by rw [newM_len, newM_len]
    rw [e]; exact new_step (by rw [newM_len, newM_len]; omega)
  have S4 : MStep r s 109 #[.pointer (some ⟨r, 0, none⟩), .string ⟨#[91]⟩] (.tuple #[]) (new3 m) (expM s (new3 m) [91]) := exp_step ⟨#[91]⟩ (by omega) n3 (by decide) (by decide)
  have p1 : (expM s (new3 m) [91]).p = (m.p.1 + 1, false) := e1
  have r1 : (expM s (new3 m) [91]).row = m.row := rfl
  have m1 : (expM s (new3 m) [91]).marks.length = m.marks.length + 3 := new3_len m
  generalize expM s (new3 m) [91] = x0 at *
  have S5 : MStep r s 136 #[.pointer (some ⟨r, 0, none⟩), .int .i64 m.marks.length] (.tuple #[]) x0 (layM x0 m.marks.length) := lay_step m.marks.length (by omega) (by rw [r1]; omega) (by omega)
  have p1' : (layM x0 m.marks.length).p = (m.p.1 + 1, false) := p1
  have r1' : (layM x0 m.marks.length).row = m.row := r1
  have m1' : (layM x0 m.marks.length).marks.length = m.marks.length + 3 := by rw [layM_len]; exact m1
  generalize layM x0 m.marks.length = x1 at *
  have q1 : x1.p.1 = m.p.1 + 1 := by rw [p1']
  have b1 : bc x1.p = 0 := by rw [p1']; rfl
  clear p1 p1' e1 r1 m1
  have g2 := condM_mc f s (m.marks.length + 1 : Nat) (m.marks.length + 2 : Nat) x1 (by omega) (by omega)
  have S6 := cnd_all f r s (m.marks.length + 1 : Nat) (m.marks.length + 2 : Nat) x1 hs (by omega) (by omega) (by rw [r1']; omega) (by omega)
  generalize condM f s (m.marks.length + 1 : Nat) (m.marks.length + 2 : Nat) x1 = x2 at *
  have u1 := g2.row; have u2 := g2.mm; have u3 := g2.lo; have u4 := g2.le; have u5 := g2.bad
  rw [r1'] at u1
  have g3 := expM_mg (l := [123]) (by decide) g2.i
  have S7 : MStep r s 109 #[.pointer (some ⟨r, 0, none⟩), .string ⟨#[123]⟩] (.tuple #[]) x2 (expM s x2 [123]) := exp_step ⟨#[123]⟩ (by omega) g2.i (by decide) (by decide)
  have i3 : MI s (expM s x2 [123]) := MI.mg ⟨g2.i, by omega, by omega⟩ g3
  generalize expM s x2 [123] = x3 at *
  have v1 := g3.lo; have v4 := g3.le; have vb := bc_le x3.p
  have a1 := i3.row; have a2 := i3.mm; have a3 := i3.i
  have g4 := layM_mg (k := m.marks.length + 1) g3.i
  have S8 : MStep r s 136 #[.pointer (some ⟨r, 0, none⟩), .int .i64 (m.marks.length + 1 : Nat)] (.tuple #[]) x3 (layM x3 (m.marks.length + 1)) := lay_step (m.marks.length + 1) (by omega) (by omega) (by omega)
  have i4 := i3.mg g4
  generalize layM x3 (m.marks.length + 1) = x4 at *
  have lo4 : x1.p.1 ≤ x4.p.1 := Nat.le_trans g2.lo (Nat.le_trans g3.lo g4.lo)
  have w4 := g4.le; have w5 := g4.i
  have g5 := stmM_mg f s m.marks.length (m.marks.length + 2 : Nat) x4 g4.i (fun _ => by omega)
  have S9 := ih r s m.marks.length (m.marks.length + 2 : Nat) x4 hs (fun _ => by omega) i4
  have i5 := i4.mg g5
  generalize stmM f s m.marks.length (m.marks.length + 2 : Nat) x4 = x5 at *
  have g6 := expM_mg (l := [125, 93]) (by decide) g5.i
  have T1 : MStep r s 109 #[.pointer (some ⟨r, 0, none⟩), .string ⟨#[125, 93]⟩] (.tuple #[]) x5 (expM s x5 [125, 93]) := exp_step ⟨#[125, 93]⟩ (by omega) g5.i (by decide) (by decide)
  have i6 := i5.mg g6
  have gA := (g3.trans g4).trans (g5.trans g6)
  generalize expM s x5 [125, 93] = x6 at *
  have c1 := i6.row; have c2 := i6.mm; have c3 := i6.i; have cb := bc_le x6.p
  have c4 := gA.le
  have T2 : MStep r s 137 #[.pointer (some ⟨r, 0, none⟩), .int .i64 m.marks.length] (.tuple #[]) x6 (jmpM x6 m.marks.length) := jump_step _ (by omega)
  have r7 := jmpM_row x6 m.marks.length
  have m7 := jmpM_marks x6 m.marks.length
  generalize jmpM x6 m.marks.length = x7 at *
  have T3 : MStep r s 136 #[.pointer (some ⟨r, 0, none⟩), .int .i64 (m.marks.length + 2 : Nat)] (.tuple #[]) x7 (layM x7 (m.marks.length + 2)) := lay_step (m.marks.length + 2) (by rw [m7]; omega) (by omega) (by rw [m7]; omega)
  exact loop_walk S1 S2 S3 S4 S5 S6 S7 S8 S9 T1 T2 T3

theorem lep_step {r : Nat} {s : ByteArray} {m : MS} (u : ByteArray) (k : Int) (hs : s.size ≤ 180) (hu : u.size ≤ 10) (hz : ∀ k (h : k < u.size), (u[k]).toNat ≠ 0) (hI : MI s m) :
    MStep r s 95 #[.pointer (some ⟨r, 0, none⟩), .string u, .int .i64 k] (.tuple #[]) m (lepM s u.data.toList k m) := by
  have n1 := hI.row; have n3 := hI.i; have nb := bc_le m.p
  unfold lepM
  split
  · rename_i hk
    subst hk
    exact leap_bad u
  · rename_i hk
    exact leap_walk hk (exp_step u (by omega) n3 hu hz) (jump_step k (by rw [expM_row]; omega))
end Go.Proofs.YtellieabhaphhaaGreatDoor

/-
  narrow's maker: the walk of statements.
-/
namespace Go.Proofs.YtellieabhaphhaaGreatDoor
open Go.RowKit

theorem pkb_bad {s : ByteArray} {m : MS} (h : m.p.2 = true) : pkb s m.p = 0 := by simp [pkb, h]

set_option maxHeartbeats 3200000 in
theorem statements_m {f : Nat} (ih : ∀ k, k < f → StmSaid k) : StmSaid f := by
  intro r s h b m hs hf hI w O hM
  have IH := hide ih
  clear ih
  go_enter Tryz.func53, Tryz.ntmps53
  go_wp2
  go_loopg [] f (fun k wr => ∃ m' O', Mp wr r s m' O' ∧ Th O w O' wr ∧ MI s m' ∧ (m'.p.2 = false → s.size - m'.p.1 < k) ∧ k ≤ f ∧ stmM f s h b m = stmM k s h b m')
  case atStart => exact ⟨m, O, hM, Th.refl O w, hI, hf, Nat.le_refl _, rfl⟩
  case round =>
    obtain ⟨m', O', h', T', hI', hk, hkf, hE⟩ := hrel
    have HE := hide hE
    have HI' := hide hI'
    have HT := hide T'
    have HK := hide hk
    have HKF := hide hkf
    have HP := hide (mpeek_w h' (by omega) hI'.i)
    obtain ⟨c0, c1, c2, cf⟩ := h'.c
    clear hE hI' T' hk hkf hI hf hM
    cases hb' : m'.p.2
    · rw [hb'] at c2
      by_cases hstop : pkb s m'.p = 125 ∨ pkb s m'.p = 0
      · have HS := hide (stmM_stop gk s h b m' hstop)
        generalize pkb s m'.p = d at *
        rcases hstop with rfl | rfl
        all_goals
          go_wp2_with fail
          refine HP.out.mono ?_
          rintro x w2 ⟨rfl, nq, rfl⟩
          go_wp2
          refine bodyPost_ret (results_none rfl _ _ _) rfl ?_
          rw [HE.out, HS.out]
          exact ⟨rfl, O', h'.n _, HT.out.n _⟩
      · have hk0 := HK.out hb'
        obtain ⟨k, rfl⟩ : ∃ k, gk = k + 1 := ⟨gk - 1, by omega⟩
        have HR := hide (show stmM (k + 1) s h b m' = stmM k s h b (stM k (stmM k s) s h b m') by rw [stmM, if_pos (by omega)])
        have HG := hide (stM_mg (h := h) (b := b) (stmM_mg k s) (fun e => hstop (.inr e)) hk0)
        have hIH := IH.out k (by have := HKF.out; omega)
        by_cases h1 : pkb s m'.p = 40
        · have HX := hide (show MStep r s 93 #[.pointer (some ⟨r, 0, none⟩), .int .i64 h, .int .i64 b] (.tuple #[]) m' (stM k (stmM k s) s h b m') by rw [stM, if_pos h1]; exact cho_step hIH hs h1 hk0 HI'.out)
          rw [h1] at HP
          generalize stM k (stmM k s) s h b m' = m2 at *
          clear h1 hstop hIH
          go_wp2_with fail
          refine HP.out.mono ?_
          rintro x w2 ⟨rfl, nq, rfl⟩
          go_wp2_with fail
          refine (HX.out _ _ (h'.n nq)).mono ?_
          rintro x w3 ⟨rfl, O3, h3, t3⟩
          go_wp2
          go_roundg k
          case measure => omega
          case rel => exact ⟨m2, O3, h3, (HT.out.n nq).trans t3, HI'.out.mg HG.out.1, fun hb2 => by have := HG.out.2 hb2; have := HG.out.1.i; omega, by have := HKF.out; omega, by rw [HE.out, HR.out]⟩
        by_cases h2 : pkb s m'.p = 91
        · have HX := hide (show MStep r s 94 #[.pointer (some ⟨r, 0, none⟩)] (.tuple #[]) m' (stM k (stmM k s) s h b m') by rw [stM, if_neg h1, if_pos h2]; exact lop_step hIH hs h2 hk0 HI'.out)
          rw [h2] at HP
          generalize stM k (stmM k s) s h b m' = m2 at *
          clear h1 h2 hstop hIH
          go_wp2_with fail
          refine HP.out.mono ?_
          rintro x w2 ⟨rfl, nq, rfl⟩
          go_wp2_with fail
          refine (HX.out _ _ (h'.n nq)).mono ?_
          rintro x w3 ⟨rfl, O3, h3, t3⟩
          go_wp2
          go_roundg k
          case measure => omega
          case rel => exact ⟨m2, O3, h3, (HT.out.n nq).trans t3, HI'.out.mg HG.out.1, fun hb2 => by have := HG.out.2 hb2; have := HG.out.1.i; omega, by have := HKF.out; omega, by rw [HE.out, HR.out]⟩
        by_cases h3 : pkb s m'.p = 62
        · have HX := hide (show MStep r s 95 #[.pointer (some ⟨r, 0, none⟩), .string ⟨#[62, 59]⟩, .int .i64 b] (.tuple #[]) m' (stM k (stmM k s) s h b m') by rw [stM, if_neg h1, if_neg h2, if_pos h3]; exact lep_step ⟨#[62, 59]⟩ b hs (by decide) (by decide) HI'.out)
          rw [h3] at HP
          generalize stM k (stmM k s) s h b m' = m2 at *
          clear h1 h2 h3 hstop hIH
          go_wp2_with fail
          refine HP.out.mono ?_
          rintro x w2 ⟨rfl, nq, rfl⟩
          go_wp2_with fail
          refine (HX.out _ _ (h'.n nq)).mono ?_
          rintro x w3 ⟨rfl, O3, h3, t3⟩
          go_wp2
          go_roundg k
          case measure => omega
          case rel => exact ⟨m2, O3, h3, (HT.out.n nq).trans t3, HI'.out.mg HG.out.1, fun hb2 => by have := HG.out.2 hb2; have := HG.out.1.i; omega, by have := HKF.out; omega, by rw [HE.out, HR.out]⟩
        by_cases h4 : pkb s m'.p = 60
        · have HX := hide (show MStep r s 95 #[.pointer (some ⟨r, 0, none⟩), .string ⟨#[60, 59]⟩, .int .i64 h] (.tuple #[]) m' (stM k (stmM k s) s h b m') by rw [stM, if_neg h1, if_neg h2, if_neg h3, if_pos h4]; exact lep_step ⟨#[60, 59]⟩ h hs (by decide) (by decide) HI'.out)
          rw [h4] at HP
          generalize stM k (stmM k s) s h b m' = m2 at *
          clear h1 h2 h3 h4 hstop hIH
          go_wp2_with fail
          refine HP.out.mono ?_
          rintro x w2 ⟨rfl, nq, rfl⟩
          go_wp2_with fail
          refine (HX.out _ _ (h'.n nq)).mono ?_
          rintro x w3 ⟨rfl, O3, h3, t3⟩
          go_wp2
          go_roundg k
          case measure => omega
          case rel => exact ⟨m2, O3, h3, (HT.out.n nq).trans t3, HI'.out.mg HG.out.1, fun hb2 => by have := HG.out.2 hb2; have := HG.out.1.i; omega, by have := HKF.out; omega, by rw [HE.out, HR.out]⟩
        · have hbc := bc_le m'.p
          have HX := hide (show MStep r s 96 #[.pointer (some ⟨r, 0, none⟩)] (.tuple #[]) m' (stM k (stmM k s) s h b m') by rw [stM, if_neg h1, if_neg h2, if_neg h3, if_neg h4]; exact act_step (by omega) HI'.out (fun e => hstop (.inr e)))
          have f1 : ((pkb s m'.p : Int) == 40) = false := by simp; omega
          have f2 : ((pkb s m'.p : Int) == 91) = false := by simp; omega
          have f3 : ((pkb s m'.p : Int) == 62) = false := by simp; omega
          have f4 : ((pkb s m'.p : Int) == 60) = false := by simp; omega
          have f5 : ((pkb s m'.p : Int) == 125) = false := by simp; omega
          have f6 : ((pkb s m'.p : Int) == 0) = false := by simp; omega
          generalize stM k (stmM k s) s h b m' = m2 at *
          generalize pkb s m'.p = d at *
          clear h1 h2 h3 h4 hstop hIH hbc
          go_wp2_with fail
          refine HP.out.mono ?_
          rintro x w2 ⟨rfl, nq, rfl⟩
          go_wp2_with fail
          refine (HX.out _ _ (h'.n nq)).mono ?_
          rintro x w3 ⟨rfl, O3, h3, t3⟩
          go_wp2
          go_roundg k
          case measure => omega
          case rel => exact ⟨m2, O3, h3, (HT.out.n nq).trans t3, HI'.out.mg HG.out.1, fun hb2 => by have := HG.out.2 hb2; have := HG.out.1.i; omega, by have := HKF.out; omega, by rw [HE.out, HR.out]⟩
    · rw [hb'] at c2
      have HS := hide (stmM_stop gk s h b m' (.inr (pkb_bad hb')))
      generalize pkb s m'.p = d at *
      go_wp2
      go_end0
      rw [HE.out, HS.out]
      exact ⟨rfl, O', h', HT.out⟩

theorem stm_all : ∀ f, StmSaid f := by
  intro f
  induction f using Nat.strongRecOn with
  | _ f ih => exact statements_m ih
end Go.Proofs.YtellieabhaphhaaGreatDoor

/-
  narrow's maker: places, and the nodes ahead of them.
-/
namespace Go.Proofs.YtellieabhaphhaaGreatDoor
open Go.RowKit

def plcM (m : MS) (k : Int) : Nat := if k < 0 ∨ (m.marks.length : Int) ≤ k then m.row.length else m.marks.getD k.toNat 0

/-- How many nodes of the first j stand ahead of the place p. -/
def ahdA (row : List NN) (p : Nat) : Nat → Nat
  | 0 => 0
  | j + 1 => ahdA row p j + (match row[j]? with | some n => if j < p ∧ n.act ≠ 15 then 1 else 0 | none => 0)

def ahdM (row : List NN) (p : Nat) : Nat := ahdA row p row.length

def hopM (m : MS) : Nat → Nat → Nat
  | 0, p => p
  | f + 1, p => match m.row[p]? with | none => p | some n => if n.act = 15 then hopM m f (plcM m n.yes) else p

def nbhM (m : MS) (k : Int) : Nat := ahdM m.row (hopM m m.row.length (plcM m k))

def nodA (m : MS) : Nat → List NN
  | 0 => []
  | j + 1 => nodA m j ++ (match m.row[j]? with | some n => if n.act = 15 then [] else [n.setW (nbhM m n.yes) (nbhM m n.no)] | none => [])

/-- The nodes of the row. -/
def nodM (m : MS) : List NN := nodA m m.row.length

theorem ahdA_le (row : List NN) (p : Nat) : ∀ j, ahdA row p j ≤ j
  | 0 => Nat.le_refl _
  | j + 1 => by
    have := ahdA_le row p j
    rw [ahdA]
    have h2 : (match row[j]? with | some n => if j < p ∧ n.act ≠ 15 then 1 else 0 | none => 0) ≤ 1 := by
      split
      · split <;> decide
      · decide
    omega

theorem nodA_le (m : MS) : ∀ j, (nodA m j).length ≤ j
  | 0 => Nat.le_refl _
  | j + 1 => by
    have := nodA_le m j
    rw [nodA, List.length_append]
    have h2 : (match m.row[j]? with | some n => if n.act = 15 then [] else [n.setW (nbhM m n.yes) (nbhM m n.no)] | none => ([] : List NN)).length ≤ 1 := by
      split
      · split <;> simp
      · simp
    omega

theorem MRow.shape {w : World} {v : Value} {l : List Nat} (h : MRow w v l) : ∃ a cap, v = .slice a l.length cap := by
  rcases h.2 with ⟨rfl, h0⟩ | ⟨g, cap, cur, rfl, _⟩
  · exact ⟨none, 0, by rw [h0]⟩
  · exact ⟨_, _, rfl⟩

/-- The maker, opened: its block and its rows, read alone. -/
structure Mo (w : World) (r : Nat) (s : ByteArray) (m : MS) (nv iv : Value) : Prop where
  b : Blk w r [.string s, .int .i64 m.p.1, .bool m.p.2, nv, iv] 84
  n : NRow w nv m.row
  i : MRow w iv m.marks

theorem Mo.kp {w w' : World} {r : Nat} {s : ByteArray} {m : MS} {nv iv : Value} (h : Mo w r s m nv iv) (k : Kp no w w') : Mo w' r s m nv iv :=
  ⟨k.blk h.b no_elim, k.row h.n (fun _ _ => no_elim), k.row h.i (fun _ _ => no_elim)⟩

set_option maxHeartbeats 800000 in
theorem placeOf_c {r : Nat} {s : ByteArray} {m : MS} {nv iv : Value} (k : Int) (w : World) (h : Mo w r s m nv iv) :
    Calls Tryz.prog 139 #[.pointer (some ⟨r, 0, none⟩), .int .i64 k] w fun e w' => e = .returned (.int .i64 (plcM m k)) ∧ Kp no w w' := by
  have hr := h.b.lt
  have q3 := h.b.cell 3
  have q4 := h.b.cell 4
  simp only [List.getElem?_cons_zero, List.getElem?_cons_succ] at q3 q4
  have qf := h.b.frozen
  obtain ⟨a, cap, rfl⟩ := h.n.shape
  by_cases h0 : k < 0
  · have HV := hide (show plcM m k = m.row.length by rw [plcM, if_pos (.inl h0)])
    obtain ⟨a2, cap2, rfl⟩ := h.i.shape
    clear h
    go_enter Tryz.func139, Tryz.ntmps139
    go_wp2
    go_ret
    rw [HV.out]
    exact ⟨rfl, by (repeat' (first | with_reducible exact Kp.refl _ _ | with_reducible refine Kp.alloc ?_ _ | with_reducible refine Kp.drewN ?_ _ | with_reducible refine Kp.drew ?_ | with_reducible refine Kp.setCell ?_ _ ?_ | (intro hh; first | rfl | exact .inl rfl | exact .inr rfl | (exfalso; (try dsimp only at hh); omega))))⟩
  by_cases h1 : (m.marks.length : Int) ≤ k
  · have HV := hide (show plcM m k = m.row.length by rw [plcM, if_pos (.inr h1)])
    obtain ⟨a2, cap2, rfl⟩ := h.i.shape
    clear h
    go_enter Tryz.func139, Tryz.ntmps139
    go_wp2
    go_ret
    rw [HV.out]
    exact ⟨rfl, by (repeat' (first | with_reducible exact Kp.refl _ _ | with_reducible refine Kp.alloc ?_ _ | with_reducible refine Kp.drewN ?_ _ | with_reducible refine Kp.drew ?_ | with_reducible refine Kp.setCell ?_ _ ?_ | (intro hh; first | rfl | exact .inl rfl | exact .inr rfl | (exfalso; (try dsimp only at hh); omega))))⟩
  · obtain ⟨k, rfl⟩ := Int.eq_ofNat_of_zero_le (Int.not_lt.1 h0)
    have hk : k < m.marks.length := by omega
    obtain ⟨g, cap2, rfl, _, hg⟩ := World.ownsRow.form h.i (by omega)
    have HV := hide (show plcM m k = m.marks[k] by rw [plcM, if_neg (by omega), Int.toNat_natCast, List.getD_eq_getElem?_getD, List.getElem?_eq_getElem hk]; rfl)
    have ck : w.cell? ⟨g, k, none⟩ = some (.int .i64 m.marks[k]) := by
      have := Row.cell h.i k (by omega)
      rw [this, mCells, List.getElem?_map, List.getElem?_eq_getElem hk]; rfl
    have cf := Row.frozen h.i
    clear h
    generalize m.marks[k] = mk at *
    go_enter Tryz.func139, Tryz.ntmps139
    go_wp2
    go_ret
    rw [HV.out]
    exact ⟨rfl, by (repeat' (first | with_reducible exact Kp.refl _ _ | with_reducible refine Kp.alloc ?_ _ | with_reducible refine Kp.drewN ?_ _ | with_reducible refine Kp.drew ?_ | with_reducible refine Kp.setCell ?_ _ ?_ | (intro hh; first | rfl | exact .inl rfl | exact .inr rfl | (exfalso; (try dsimp only at hh); omega))))⟩
end Go.Proofs.YtellieabhaphhaaGreatDoor

/-
  narrow's nodes: a row that grows.
-/
namespace Go.Proofs.YtellieabhaphhaaGreatDoor
open Go.RowKit

/-- The nodes that are left so far. -/
structure KN (w0 w : World) (v : Value) (l : List NN) : Prop where
  r : NRow w v l
  o : New w0 v

theorem KN.kp {w0 w w' : World} {v : Value} {l : List NN} (h : KN w0 w v l) (k : Kp no w w') : KN w0 w' v l := ⟨k.row h.r (fun _ _ => no_elim), h.o⟩
theorem KN.set {w0 w : World} {v : Value} {l : List NN} (h : KN w0 w v l) {b o : Nat} (u : Value) (hb : v.ownBlock ≠ some b) : KN w0 (w.setCell ⟨b, o, none⟩ u) v l := ⟨Row.set h.r _ hb, h.o⟩

theorem nncells_snoc {l : List NN} {n : NN} : nnCells (l ++ [n]) = nnCells l ++ n.cells := by
  rw [nnCells, List.flatMap_append, ← nnCells, List.flatMap_cons, List.flatMap_nil, List.append_nil]

theorem nrow_snoc {W' : World} {l : List NN} {n : NN} {g cap : Nat}
    (hown : W'.ownsRow 0 91 11 (.slice (some ⟨g, 0, none⟩) (l.length + 1) cap) (l.length + 1) (nnCells l ++ n.cells)) : NRow W' (.slice (some ⟨g, 0, none⟩) (l.length + 1) cap) (l ++ [n]) := by
  have e4 : (l ++ [n]).length = l.length + 1 := List.length_append
  show World.ownsRow W' 0 91 11 _ (l ++ [n]).length (nnCells (l ++ [n]))
  rw [nncells_snoc, e4]
  exact hown

theorem KN.app {w0 W W' : World} {v : Value} {l : List NN} {o : Obj} {g cap : Nat} (n : NN) (h : KN w0 W v l) (hk : Kp no w0 W)
    (hown : W'.ownsRow 0 91 11 (.slice (some ⟨g, 0, none⟩) (l.length + 1) cap) (l.length + 1) (nnCells l ++ n.cells)) (hgrow : (W.alloc o).grownBy W' v.ownBlock) (hat : v.ownBlock = some g ∨ g = (W.alloc o).heap.size) :
    KN w0 W' (.slice (some ⟨g, 0, none⟩) (l.length + 1) cap) (l ++ [n]) ∧ Kp no w0 W' :=
  ⟨⟨nrow_snoc hown, (app_step h.o hk hgrow hat (l.length + 1) cap).1⟩, (app_step h.o hk hgrow hat (l.length + 1) cap).2⟩

end Go.Proofs.YtellieabhaphhaaGreatDoor
