import Derived.Test.YtellieabhaphhaaGreatDoorPartC
import Derived.Deep.LoopGhost
/-
  narrowref's reader: statements, as functions.
-/
namespace Go.Proofs.YtellieabhaphhaaGreatDoor
open Go.RowKit

def eatS (s : ByteArray) (st : RS) (c : Nat) : RS := { st with i := (eatF s (st.i, st.bad) c).1, bad := (eatF s (st.i, st.bad) c).2 }

def blkF (S : RS → RS) (s : ByteArray) (st : RS) : RS := eatS s (if (eatS s st 123).bad then eatS s st 123 else S (eatS s st 123)) 125

def elseAt (st : RS) (k : Nat) : RS := { st with items := st.items.modify k (fun x => { x with els := st.items.length }) }

def pushI (st : RS) (k n : Int) : RS := { st with items := st.items ++ [⟨k, n, 0, 0⟩] }
def nextI (st : RS) : RS := { st with i := st.i + 1 }

def ifF (f : Nat) (S : RS → RS) (s : ByteArray) (st : RS) : RS :=
  endAt (eatS s (blkF S s (elseAt (blkF S s (condF f s (pushI (nextI st) 105 0))) st.items.length)) 41) st.items.length

def whF (f : Nat) (S : RS → RS) (s : ByteArray) (st : RS) : RS :=
  let a := condF f s (pushI (nextI st) 119 0)
  let b := blkF S s { a with loops := a.loops + 1 }
  endAt (eatS s { b with loops := b.loops - 1 } 93) st.items.length

def lpF (s : ByteArray) (st : RS) : RS := eatS s (endAt (pushI (nextI st) (pk s st.i) 0) st.items.length) 59

def actF (s : ByteArray) (st : RS) : RS :=
  eatS s (endAt { st with i := (simpF s st.i).2.1, bad := (simpF s st.i).2.2, nodes := st.nodes ++ [(simpF s st.i).1], items := st.items ++ [⟨115, st.nodes.length, 0, 0⟩] } st.items.length) 59

def stF (f : Nat) (S : RS → RS) (s : ByteArray) (st : RS) : RS :=
  if pk s st.i = 40 then ifF f S s st
  else if pk s st.i = 91 then whF f S s st
  else if pk s st.i = 62 ∨ pk s st.i = 60 then (if st.loops = 0 then { st with bad := true } else lpF s st)
  else actF s st

def stmtsF : Nat → ByteArray → Nat → RS → RS
  | 0, _, _, st => st
  | f + 1, s, e, st => if st.bad = false ∧ pk s st.i ≠ e ∧ st.i < s.size then stmtsF f s e (stF f (stmtsF f s 125) s st) else st

/-- What a part of the reader does to bounds. -/
structure Good (s : ByteArray) (st st' : RS) : Prop where
  inv : Inv s st'
  mono : Mono st st'
  loops : st'.loops = st.loops

theorem Good.refl {s : ByteArray} {st : RS} (h : Inv s st) : Good s st st := ⟨h, Mono.refl _, rfl⟩
theorem Good.trans {s : ByteArray} {a b c : RS} (h : Good s a b) (k : Good s b c) : Good s a c := ⟨k.inv, h.mono.trans k.mono, k.loops.trans h.loops⟩

theorem cond_le (b : Bool) : cond b 1 0 ≤ 1 := by cases b <;> decide

theorem eatS_good {s : ByteArray} {st : RS} {c : Nat} (hc : c ≠ 0) (h : Inv s st) : Good s st (eatS s st c) ∧ ((eatS s st c).bad = false → st.i < (eatS s st c).i ∧ st.bad = false) := by
  have h1 := eatF_le s (st.i, st.bad) c hc h.i
  have h2 := eatF_ge s (st.i, st.bad) c
  have hn := h.n; have ht := h.t
  have hm : cond st.bad 1 0 + st.i ≤ cond (eatF s (st.i, st.bad) c).2 1 0 + (eatF s (st.i, st.bad) c).1 := by
    clear h1 hn ht
    generalize eatF s (st.i, st.bad) c = q at h2 ⊢
    obtain ⟨qi, qb⟩ := q
    generalize st.bad = b at h2 ⊢
    cases b <;> cases qb <;> simp at h2 ⊢ <;> omega
  refine ⟨⟨⟨h1, ?_, ?_, Nat.le_trans h.lp h2.1⟩, ⟨h2.1, Nat.le_refl _, Nat.le_refl _⟩, rfl⟩, h2.2⟩
  · show st.nodes.length ≤ (eatF s (st.i, st.bad) c).1 + cond (eatF s (st.i, st.bad) c).2 1 0
    omega
  · show st.items.length ≤ (eatF s (st.i, st.bad) c).1 + cond (eatF s (st.i, st.bad) c).2 1 0
    omega

theorem endAt_good {s : ByteArray} {st : RS} {k : Nat} (h : Inv s st) : Good s st (endAt st k) := ⟨⟨h.i, h.n, by simpa [endAt] using h.t, h.lp⟩, ⟨Nat.le_refl _, Nat.le_refl _, by simp [endAt]⟩, rfl⟩
theorem elseAt_good {s : ByteArray} {st : RS} {k : Nat} (h : Inv s st) : Good s st (elseAt st k) := ⟨⟨h.i, h.n, by simpa [elseAt] using h.t, h.lp⟩, ⟨Nat.le_refl _, Nat.le_refl _, by simp [elseAt]⟩, rfl⟩

theorem pushI_good {s : ByteArray} {st : RS} {k n : Int} (hb : st.bad = false) (hi : st.i < s.size) (h : Inv s st) : Good s st (pushI (nextI st) k n) := by
  have hn := h.n; have ht := h.t
  rw [hb] at hn ht
  simp only [cond_false, Nat.add_zero] at hn ht
  refine ⟨⟨hi, ?_, ?_, Nat.le_succ_of_le h.lp⟩, ⟨Nat.le_succ _, Nat.le_refl _, by simp [pushI, nextI]⟩, rfl⟩
  · simp only [pushI, nextI, hb, cond_false]; omega
  · simp only [pushI, nextI, hb, cond_false, List.length_append, List.length_singleton]; omega

theorem condT_loops (s : ByteArray) (st : RS) : (condT s st).loops = st.loops := rfl
theorem condF_loops : ∀ (f : Nat) (s : ByteArray) (st : RS), (condF f s st).loops = st.loops := by
  intro f
  induction f with
  | zero => intro s st; rfl
  | succ f ih =>
    intro s st
    unfold condF
    split
    · simp only [endAt]
      split
      · rw [ih, ih]
      · rw [ih]
    · rfl

theorem condF_good {f : Nat} {s : ByteArray} {st : RS} (hf : s.size - st.i < f) (hb : st.bad = false) (h : Inv s st) : Good s st (condF f s st) :=
  let ⟨a, b, _, _⟩ := condF_inv f s st hf hb h
  ⟨a, b, condF_loops f s st⟩

/-- What is asked of the statements within. -/
def SGood (s : ByteArray) (n : Nat) (S : RS → RS) : Prop := ∀ st, Inv s st → st.bad = false → s.size - st.i < n → Good s st (S st)

theorem blkF_good {s : ByteArray} {n : Nat} {S : RS → RS} (hS : SGood s n S) {st : RS} (h : Inv s st) (hn : s.size - st.i < n) : Good s st (blkF S s st) := by
  have h1 := eatS_good (c := 123) (by decide) h
  unfold blkF
  split
  · exact h1.1.trans (eatS_good (by decide) h1.1.inv).1
  · rename_i hb
    have h2 := hS _ h1.1.inv (by simpa using hb) (by have := h1.1.mono.i; omega)
    exact (h1.1.trans h2).trans (eatS_good (by decide) h2.inv).1

theorem simpF_ge (s : ByteArray) (i : Nat) : i ≤ (simpF s i).2.1 ∧ ((simpF s i).2.2 = false → i < (simpF s i).2.1) := by
  have h1 := varF_ge s (i, false)
  have h2 := eatF_ge s (varF s (i, false)).2 61
  unfold simpF
  repeat' split
  · have := varF_ge s (i + 1, false); simp only at this ⊢; omega
  · simp
  · have := kindF_ge s ((varF s (i, false)).2.1 + 1, false); simp only at this h1 ⊢; omega
  · simp only at h1 h2 ⊢
    rename_i hq
    exact ⟨by omega, fun h => by rw [h] at hq; cases hq⟩
  · have h3 : (eatF s (varF s (i, false)).2 61).1 ≤ (valF s (eatF s (varF s (i, false)).2 61).1 { nd0 i with x := (varF s (i, false)).1 }).2.1 := by
      generalize (eatF s (varF s (i, false)).2 61).1 = j
      unfold valF
      have g1 := varF_ge s (j + 1, false)
      have g2 := varF_ge s (j, false)
      have g3 := varF_ge s (varF s (j + 1, false)).2
      repeat' split
      all_goals (simp only at g1 g2 g3 ⊢; omega)
    rename_i hq
    have h4 := h2.2 (by simpa using hq)
    simp only at h1 h3 h4 ⊢
    exact ⟨by omega, fun _ => by omega⟩

theorem stF_good {f : Nat} {s : ByteArray} {S : RS → RS} (hS : SGood s f S) {st : RS} (h : Inv s st) (hb : st.bad = false) (hi : st.i < s.size) (hf : s.size - st.i < f + 1) :
    Good s st (stF f S s st) ∧ ((stF f S s st).bad = false → st.i < (stF f S s st).i) := by
  unfold stF
  split
  · have p1 := pushI_good (k := 105) (n := 0) hb hi h
    have e1 : (pushI (nextI st) 105 0).i = st.i + 1 := rfl
    have p2 := condF_good (f := f) (st := pushI (nextI st) 105 0) (by omega) hb p1.inv
    have p3 := blkF_good hS p2.inv (by have := p2.mono.i; omega)
    have p4 := elseAt_good (k := st.items.length) p3.inv
    have p5 := blkF_good hS p4.inv (by have := p2.mono.i; have := p3.mono.i; have := p4.mono.i; omega)
    have p6 := (eatS_good (c := 41) (by decide) p5.inv).1
    have p7 := endAt_good (k := st.items.length) p6.inv
    refine ⟨p1.trans (p2.trans (p3.trans (p4.trans (p5.trans (p6.trans p7))))), fun _ => ?_⟩
    have := (p2.trans (p3.trans (p4.trans (p5.trans (p6.trans p7))))).mono.i
    unfold ifF; omega
  split
  · have p1 := pushI_good (k := 119) (n := 0) hb hi h
    have e1 : (pushI (nextI st) 119 0).i = st.i + 1 := rfl
    have p2 := condF_good (f := f) (st := pushI (nextI st) 119 0) (by omega) hb p1.inv
    unfold whF
    generalize condF f s (pushI (nextI st) 119 0) = a at *
    have ia : Inv s { a with loops := a.loops + 1 } := ⟨p2.inv.i, p2.inv.n, p2.inv.t, by have := p2.loops; have := p1.loops; have := p2.mono.i; have := h.lp; show a.loops + 1 ≤ a.i; omega⟩
    have p3 := blkF_good hS ia (by have := p2.mono.i; simp only []; omega)
    simp only []
    generalize blkF S s { a with loops := a.loops + 1 } = b at *
    have ib : Inv s { b with loops := b.loops - 1 } := ⟨p3.inv.i, p3.inv.n, p3.inv.t, Nat.le_trans (Nat.sub_le _ _) p3.inv.lp⟩
    have p6 := (eatS_good (c := 93) (by decide) ib).1
    have p7 := endAt_good (k := st.items.length) p6.inv
    have m1 : Mono a b := ⟨p3.mono.i, p3.mono.n, p3.mono.t⟩
    have m2 := (p6.trans p7).mono
    have m3 : Mono b (endAt (eatS s { b with loops := b.loops - 1 } 93) st.items.length) := ⟨m2.i, m2.n, m2.t⟩
    refine ⟨⟨p7.inv, p1.mono.trans (p2.mono.trans (m1.trans m3)), ?_⟩, fun _ => ?_⟩
    · have l1 := p3.loops; have l2 := p2.loops; have l3 := p1.loops
      show b.loops - 1 = _
      simp only at l1
      omega
    · have := (p2.mono.trans (m1.trans m3)).i; omega
  split
  · split
    · refine ⟨⟨⟨h.i, ?_, ?_, h.lp⟩, ⟨Nat.le_refl _, Nat.le_refl _, Nat.le_refl _⟩, rfl⟩, fun hq => by simp at hq⟩
      · have := h.n; rw [hb] at this; simp only [cond_false, cond_true] at this ⊢; omega
      · have := h.t; rw [hb] at this; simp only [cond_false, cond_true] at this ⊢; omega
    · have p1 := pushI_good (k := pk s st.i) (n := 0) hb hi h
      have e1 : (pushI (nextI st) (pk s st.i) 0).i = st.i + 1 := rfl
      have p2 := endAt_good (k := st.items.length) p1.inv
      have p3 := (eatS_good (c := 59) (by decide) p2.inv).1
      refine ⟨p1.trans (p2.trans p3), fun _ => ?_⟩
      have := (p2.trans p3).mono.i
      unfold lpF; omega
  · have h1 := simpF_ge s st.i
    have h2 := simpF_le s st.i h.i
    have hn := h.n; have ht := h.t
    rw [hb] at hn ht
    simp only [cond_false, Nat.add_zero] at hn ht
    have p1 : Good s st { st with i := (simpF s st.i).2.1, bad := (simpF s st.i).2.2, nodes := st.nodes ++ [(simpF s st.i).1], items := st.items ++ [⟨115, st.nodes.length, 0, 0⟩] } := by
      refine ⟨⟨h2, ?_, ?_, Nat.le_trans h.lp h1.1⟩, ⟨h1.1, by simp, by simp⟩, rfl⟩
      · simp only [List.length_append, List.length_singleton]
        cases hq : (simpF s st.i).2.2
        · have := h1.2 hq; simp only [cond_false]; omega
        · simp only [cond_true]; omega
      · simp only [List.length_append, List.length_singleton]
        cases hq : (simpF s st.i).2.2
        · have := h1.2 hq; simp only [cond_false]; omega
        · simp only [cond_true]; omega
    have p2 := endAt_good (k := st.items.length) p1.inv
    have p3 := eatS_good (c := 59) (by decide) p2.inv
    refine ⟨p1.trans (p2.trans p3.1), fun hq => ?_⟩
    have q1 := p3.2 hq
    have q2 : (simpF s st.i).2.1 < (actF s st).i := q1.1
    have := h1.1
    omega

theorem stmts_stop (k : Nat) (s : ByteArray) (e : Nat) (st : RS) (h : ¬ (st.bad = false ∧ pk s st.i ≠ e ∧ st.i < s.size)) : stmtsF k s e st = st := by
  cases k with
  | zero => rfl
  | succ k => rw [stmtsF, if_neg h]

theorem stmtsF_good : ∀ (f : Nat) (s : ByteArray) (e : Nat), SGood s f (stmtsF f s e) := by
  intro f
  induction f with
  | zero => intro s e st _ _ h; omega
  | succ f ih =>
    intro s e st h hb hf
    by_cases hc : st.bad = false ∧ pk s st.i ≠ e ∧ st.i < s.size
    · rw [stmtsF, if_pos hc]
      obtain ⟨g1, g2⟩ := stF_good (ih s 125) h hb hc.2.2 hf
      cases hb' : (stF f (stmtsF f s 125) s st).bad
      · have := g2 hb'
        exact g1.trans (ih s e _ g1.inv hb' (by omega))
      · rw [stmts_stop _ _ _ _ (by simp [hb'])]
        exact g1
    · rw [stmts_stop _ _ _ _ hc]
      exact Good.refl h
end Go.Proofs.YtellieabhaphhaaGreatDoor

/-
  narrowref's reader: the walks of blocks and forms.
-/
namespace Go.Proofs.YtellieabhaphhaaGreatDoor
open Go.RowKit

def StmtsSaid (f : Nat) : Prop := ∀ (w : World) (r : Nat) (s : ByteArray) (e : Nat) (st : RS) (O : Nat → Prop), s.size ≤ 900 → e < 256 → s.size - st.i < f → Rp w r s st O → st.bad = false → Inv s st →
    Calls Tryz.prog 124 #[.pointer (some ⟨r, 0, none⟩), .int .u8 e] w fun x w' => x = .returned (.tuple #[]) ∧ Went w O r s (stmtsF f s e st) w'

set_option maxHeartbeats 1600000 in
theorem block_w {f : Nat} (ih : StmtsSaid f) {w : World} {r : Nat} {s : ByteArray} {st : RS} {O : Nat → Prop} (hs : s.size ≤ 900) (hf : s.size - st.i < f) (h : Rp w r s st O) (hI : Inv s st) :
    Calls Tryz.prog 187 #[.pointer (some ⟨r, 0, none⟩)] w fun x w' => x = .returned (.tuple #[]) ∧ Went w O r s (blkF (stmtsF f s 125) s st) w' := by
  have hi := hI.i
  have g1 := (eatS_good (c := 123) (by decide) hI).1
  have HS := hide (fun W O' => ih W r s 125 (eatS s st 123) O' hs (by decide) (by have := g1.mono.i; omega))
  have HG := hide (fun hb => stmtsF_good f s 125 _ g1.inv hb (by have := g1.mono.i; omega))
  have g2 := g1.inv.i
  have G1 := hide g1.inv
  clear g1
  have HE : Hid (blkF (stmtsF f s 125) s st = eatS s (if (eatS s st 123).bad then eatS s st 123 else stmtsF f s 125 (eatS s st 123)) 125) := rfl
  go_enter Tryz.func187, Tryz.ntmps187
  go_wp2_with fail
  refine (eat_w h 123 (by omega) hi).mono ?_
  rintro e w1 ⟨rfl, O1, h1, t1⟩
  have h1 : Rp w1 r s (eatS s st 123) O1 := h1
  have T1 : Hid (Th O w O1 w1) := t1
  clear t1
  generalize eatS s st 123 = st1 at *
  obtain ⟨c0, c1, c2, _, cf⟩ := h1.c
  cases hb : st1.bad
  · rw [hb] at c2
    have g3 := (HG.out hb).inv.i
    go_wp2_with fail
    refine (HS.out _ O1 h1 hb G1.out).mono ?_
    rintro e w2 ⟨rfl, O2, h2, t2⟩
    have T2 := hide (T1.out.trans t2)
    clear t2
    go_wp2_with fail
    refine (eat_w h2 125 (by omega) g3).mono ?_
    rintro e w3 ⟨rfl, O3, h3, t3⟩
    go_wp2
    go_end0
    refine ⟨rfl, went_th (O' := O3) ?_ (T2.out.trans t3)⟩
    rw [HE.out, hb]
    exact h3
  · rw [hb] at c2
    go_wp2_with fail
    refine (eat_w h1 125 (by omega) g2).mono ?_
    rintro e w3 ⟨rfl, O3, h3, t3⟩
    go_wp2
    go_end0
    refine ⟨rfl, went_th (O' := O3) ?_ (T1.out.trans t3)⟩
    rw [HE.out, hb]
    exact h3

theorem Rp.item {w : World} {r : Nat} {s : ByteArray} {st : RS} {O : Nat → Prop} (h : Rp w r s st O) {k : Nat} (hk : k < st.items.length) :
    ∃ g cap, w.cell? ⟨r, 4, none⟩ = some (.slice (some ⟨g, 0, none⟩) st.items.length cap) ∧ (∀ j, j < 4 → w.cell? ⟨g, k * 4 + j, none⟩ = st.items[k].cells[j]?) ∧ (∀ o, w.frozen? ⟨g, o, none⟩ = false) ∧ O g ∧
      ∀ j u m, j < 4 → (∀ x : It, (m x).cells = x.cells.set j u) → Rp (w.setCell ⟨g, k * 4 + j, none⟩ u) r s { st with items := st.items.modify k m } O := by
  obtain ⟨nv, iv, hB, hN, hI, d1, d2, d3, rfl⟩ := h
  obtain ⟨g, cap, rfl, _, hg⟩ := World.ownsRow.form hI (by omega)
  have hgr : r ≠ g := fun e => d2 (by simp [Value.ownBlock, e])
  refine ⟨g, cap, Blk.cell hB 4, fun j hj => item_cell hI k j hk hj, hI.frozen, .inr (.inr rfl), ?_⟩
  intro j u m hj hm
  refine ⟨nv, _, Blk.other hB _ hgr, Row.set hN _ (fun e => d3 g e rfl), ?_, d1, d2, d3, rfl⟩
  show Row _ _ _ _ (st.items.modify k m).length (iCells (st.items.modify k m))
  rw [List.length_modify, iCells, ← flat_set It.cells 4 it4 m j u hj hm st.items k hk]
  exact hI.setIn _ _

theorem inv_len {s : ByteArray} {st : RS} (hs : s.size ≤ 900) (h : Inv s st) : st.items.length ≤ 950 ∧ st.nodes.length ≤ 950 := by
  have h1 := h.i; have h2 := h.n; have h3 := h.t; have h4 := cond_le st.bad
  omega

set_option maxHeartbeats 1600000 in
theorem form_if {f : Nat} (ih : StmtsSaid f) {w : World} {r : Nat} {s : ByteArray} {st : RS} {O : Nat → Prop} (hs : s.size ≤ 900) (hf : s.size - st.i < f + 1) (hi : st.i < s.size) (h : Rp w r s st O) (hb : st.bad = false) (hI : Inv s st) :
    Calls Tryz.prog 178 #[.pointer (some ⟨r, 0, none⟩), .int .u8 40] w fun x w' => x = .returned (.tuple #[]) ∧ Went w O r s (ifF f (stmtsF f s 125) s st) w' := by
  have p1 := pushI_good (k := 105) (n := 0) hb hi hI
  have e1 : (pushI (nextI st) 105 0).i = st.i + 1 := rfl
  have e2 : (pushI (nextI st) 105 0).items.length = st.items.length + 1 := by simp [pushI, nextI]
  have p2 := condF_good (f := f) (st := pushI (nextI st) 105 0) (by omega) hb p1.inv
  have HC := hide (fun W O' (h' : Rp W r s _ O') => condition_w f W r s (pushI (nextI st) 105 0) O' hs (by omega) h' hb p1.inv)
  have n0 := inv_len hs hI
  have HI : Hid (ifF f (stmtsF f s 125) s st = endAt (eatS s (blkF (stmtsF f s 125) s (elseAt (blkF (stmtsF f s 125) s (condF f s (pushI (nextI st) 105 0))) st.items.length)) 41) st.items.length) := rfl
  generalize condF f s (pushI (nextI st) 105 0) = st2 at *
  have p3 := blkF_good (stmtsF_good f s 125) p2.inv (by have := p2.mono.i; omega)
  have HB1 := hide (fun W O' (h' : Rp W r s _ O') => block_w (w := W) (O := O') ih hs (by have := p2.mono.i; omega) h' p2.inv)
  generalize blkF (stmtsF f s 125) s st2 = st3 at *
  have p4 := elseAt_good (k := st.items.length) p3.inv
  have HB2 := hide (fun W O' (h' : Rp W r s _ O') => block_w (w := W) (O := O') ih hs (by have := p2.mono.i; have := p3.mono.i; have := p4.mono.i; omega) h' p4.inv)
  have p5 := blkF_good (stmtsF_good f s 125) p4.inv (by have := p2.mono.i; have := p3.mono.i; have := p4.mono.i; omega)
  generalize hst4 : blkF (stmtsF f s 125) s (elseAt st3 st.items.length) = st5 at *
  clear hst4
  have p6 := (eatS_good (c := 41) (by decide) p5.inv).1
  have n3 : st.items.length < st3.items.length ∧ st3.items.length ≤ 1000 := ⟨by have := p2.mono.t; have := p3.mono.t; omega, by have := (inv_len hs p3.inv).1; omega⟩
  have n5 : st5.i ≤ s.size := p5.inv.i
  have n6 : st.items.length < (eatS s st5 41).items.length ∧ (eatS s st5 41).items.length ≤ 1000 := ⟨by have := p2.mono.t; have := p3.mono.t; have := p4.mono.t; have := p5.mono.t; have := p6.mono.t; omega, by have := (inv_len hs p6.inv).1; omega⟩
  clear p1 p2 p3 p4 p5 p6 e1 e2
  obtain ⟨c0, c1, c2, _, cf⟩ := h.c
  go_enter Tryz.func178, Tryz.ntmps178
  go_wp2_with fail
  refine (item_c r s (nextI st) O 105 0 _ (by show st.items.length ≤ 1000; omega) h.next).mono ?_
  rintro e w1 ⟨rfl, O1, h1, t1⟩
  rw [show (nextI st).items.length = st.items.length from rfl]
  have T1 := hide (((Th.refl O w).set _ (.inl h.own)).trans t1)
  clear t1
  go_wp2_with fail
  refine (HC.out _ O1 h1).mono ?_
  rintro e w2 ⟨rfl, O2, h2, t2⟩
  have T2 := hide (T1.out.trans t2)
  clear t2
  go_wp2_with fail
  refine (HB1.out _ O2 h2).mono ?_
  rintro e w3 ⟨rfl, O3, h3, t3⟩
  have T3 := hide (T2.out.trans t3)
  clear t3
  obtain ⟨g, cap, q4, qc, qf, qo, qs⟩ := h3.item n3.1
  have q2 := qc 2 (by decide)
  simp only [It.cells, List.getElem?_cons_zero, List.getElem?_cons_succ] at q2
  have QS := hide (qs 2 (.int .i64 st3.items.length) (fun x => { x with els := st3.items.length }) (by decide) (fun x => rfl))
  clear qc qs
  go_wp2
  go_region
  all_goals
    go_wp2_with fail
    refine (HB2.out _ O3 QS.out.drew).mono ?_
    rintro e w5 ⟨rfl, O5, h5, t5⟩
    have T5 := hide (((T3.out.set _ (.inl qo)).drew).trans t5)
    clear t5
    go_wp2_with fail
    refine (eat_w h5 41 (by omega) n5).mono ?_
    rintro e w6 ⟨rfl, O6, h6, t6⟩
    have T6 := hide (T5.out.trans t6)
    clear t6
    go_wp2_with fail
    refine (ends_c r s (eatS s st5 41) O6 st.items.length _ n6.2 n6.1 h6).mono ?_
    rintro e w7 ⟨rfl, O7, h7, t7⟩
    go_wp2
    refine bodyPost_ret (results_none rfl _ _ _) rfl ?_
    refine ⟨rfl, went_th (O' := O7) ?_ (T6.out.trans t7)⟩
    rw [HI.out]
    exact h7

set_option maxHeartbeats 1600000 in
theorem form_while {f : Nat} (ih : StmtsSaid f) {w : World} {r : Nat} {s : ByteArray} {st : RS} {O : Nat → Prop} (hs : s.size ≤ 900) (hf : s.size - st.i < f + 1) (hi : st.i < s.size) (h : Rp w r s st O) (hb : st.bad = false) (hI : Inv s st) :
    Calls Tryz.prog 178 #[.pointer (some ⟨r, 0, none⟩), .int .u8 91] w fun x w' => x = .returned (.tuple #[]) ∧ Went w O r s (whF f (stmtsF f s 125) s st) w' := by
  have hl : st.loops ≤ 1000 := by have := hI.lp; omega
  have p1 := pushI_good (k := 119) (n := 0) hb hi hI
  have e1 : (pushI (nextI st) 119 0).i = st.i + 1 := rfl
  have e2 : (pushI (nextI st) 119 0).items.length = st.items.length + 1 := by simp [pushI, nextI]
  have e3 : (pushI (nextI st) 119 0).loops = st.loops := rfl
  have p2 := condF_good (f := f) (st := pushI (nextI st) 119 0) (by omega) hb p1.inv
  have HC := hide (fun W O' (h' : Rp W r s _ O') => condition_w f W r s (pushI (nextI st) 119 0) O' hs (by omega) h' hb p1.inv)
  have n0 := inv_len hs hI
  have HI : Hid (whF f (stmtsF f s 125) s st = endAt (eatS s { blkF (stmtsF f s 125) s { condF f s (pushI (nextI st) 119 0) with loops := (condF f s (pushI (nextI st) 119 0)).loops + 1 } with loops := (blkF (stmtsF f s 125) s { condF f s (pushI (nextI st) 119 0) with loops := (condF f s (pushI (nextI st) 119 0)).loops + 1 }).loops - 1 } 93) st.items.length) := rfl
  generalize condF f s (pushI (nextI st) 119 0) = st2 at *
  have i2 : Inv s { st2 with loops := st2.loops + 1 } := ⟨p2.inv.i, p2.inv.n, p2.inv.t, by have := p2.loops; have := p2.mono.i; have := hI.lp; show st2.loops + 1 ≤ st2.i; omega⟩
  have p3 := blkF_good (stmtsF_good f s 125) i2 (by have := p2.mono.i; simp only []; omega)
  have HB1 := hide (fun W O' (h' : Rp W r s _ O') => block_w (w := W) (O := O') (st := { st2 with loops := st2.loops + 1 }) ih hs (by have := p2.mono.i; simp only []; omega) h' i2)
  generalize blkF (stmtsF f s 125) s { st2 with loops := st2.loops + 1 } = st3 at *
  have i3 : Inv s { st3 with loops := st3.loops - 1 } := ⟨p3.inv.i, p3.inv.n, p3.inv.t, Nat.le_trans (Nat.sub_le _ _) p3.inv.lp⟩
  have p6 := (eatS_good (c := 93) (by decide) i3).1
  have n5 : st3.i ≤ s.size := p3.inv.i
  have n6 : st.items.length < (eatS s { st3 with loops := st3.loops - 1 } 93).items.length ∧ (eatS s { st3 with loops := st3.loops - 1 } 93).items.length ≤ 1000 := ⟨by have := p2.mono.t; have := p3.mono.t; have := p6.mono.t; simp only at *; omega, by have := (inv_len hs p6.inv).1; omega⟩
  have l2 : st2.loops = st.loops := by have := p2.loops; omega
  have l3 : st3.loops = st.loops + 1 := by have := p3.loops; simp only at this; omega
  have L3 := hide l3
  have L2 := hide l2
  have l2' : st2.loops ≤ 1000 := by omega
  have l3' : st3.loops ≤ 1001 := by omega
  have l3'' : 1 ≤ st3.loops := by omega
  clear p1 p2 p3 p6 e1 e2 e3 l2 l3
  obtain ⟨c0, c1, c2, _, cf⟩ := h.c
  go_enter Tryz.func178, Tryz.ntmps178
  go_wp2_with fail
  refine (item_c r s (nextI st) O 119 0 _ (by show st.items.length ≤ 1000; omega) h.next).mono ?_
  rintro e w1 ⟨rfl, O1, h1, t1⟩
  have T1 := hide (((Th.refl O w).set _ (.inl h.own)).trans t1)
  clear t1
  go_wp2_with fail
  refine (HC.out _ O1 h1).mono ?_
  rintro e w2 ⟨rfl, O2, h2, t2⟩
  have T2 := hide (T1.out.trans t2)
  clear t2
  obtain ⟨k0, k1, k2, k5, kf⟩ := h2.c
  go_wp2_with fail
  refine (HB1.out _ O2 (h2.setLoops (st2.loops + 1))).mono ?_
  rintro e w3 ⟨rfl, O3, h3, t3⟩
  have T3 := hide ((T2.out.set _ (.inl h2.own)).trans t3)
  clear t3
  obtain ⟨m0, m1, m2, m5, mf⟩ := h3.c
  go_wp2_with fail
  rw [show ((st3.loops : Int) - 1) = ((st3.loops - 1 : Nat) : Int) by omega]
  refine (eat_w (h3.setLoops (st3.loops - 1)) 93 (by omega) n5).mono ?_
  rintro e w6 ⟨rfl, O6, h6, t6⟩
  have T6 := hide ((T3.out.set _ (.inl h3.own)).trans t6)
  clear t6
  go_wp2_with fail
  refine (ends_c r s (eatS s { st3 with loops := st3.loops - 1 } 93) O6 st.items.length _ n6.2 n6.1 h6).mono ?_
  rintro e w7 ⟨rfl, O7, h7, t7⟩
  go_wp2
  go_end0
  refine ⟨rfl, went_th (O' := O7) ?_ (T6.out.trans t7)⟩
  rw [HI.out]
  exact h7
end Go.Proofs.YtellieabhaphhaaGreatDoor

/-
  narrowref's reader: the walks of statements and of a source.
-/
namespace Go.Proofs.YtellieabhaphhaaGreatDoor
open Go.RowKit

def StmtSaid (f : Nat) : Prop := ∀ (w : World) (r : Nat) (s : ByteArray) (st : RS) (O : Nat → Prop), s.size ≤ 900 → s.size - st.i < f + 1 → st.i < s.size → Rp w r s st O → st.bad = false → Inv s st →
    Calls Tryz.prog 158 #[.pointer (some ⟨r, 0, none⟩)] w fun x w' => x = .returned (.tuple #[]) ∧ Went w O r s (stF f (stmtsF f s 125) s st) w'

set_option maxHeartbeats 1600000 in
theorem stmt_form {f : Nat} (ih : StmtsSaid f) {w : World} {r : Nat} {s : ByteArray} {st : RS} {O : Nat → Prop} (hs : s.size ≤ 900) (hf : s.size - st.i < f + 1) (hi : st.i < s.size) (h : Rp w r s st O) (hb : st.bad = false) (hI : Inv s st)
    (hc : pk s st.i = 40 ∨ pk s st.i = 91) :
    Calls Tryz.prog 158 #[.pointer (some ⟨r, 0, none⟩)] w fun x w' => x = .returned (.tuple #[]) ∧ Went w O r s (stF f (stmtsF f s 125) s st) w' := by
  have HP := hide (peek_w h)
  rcases hc with hc | hc
  · have HE := hide (show stF f (stmtsF f s 125) s st = ifF f (stmtsF f s 125) s st by simp [stF, hc])
    have HF := hide (fun nq => form_if (w := w.drewN nq) ih hs hf hi (h.n nq) hb hI)
    rw [hc] at HP
    clear hc
    go_enter Tryz.func158, Tryz.ntmps158
    go_wp2_with fail
    refine HP.out.mono ?_
    rintro e w1 ⟨rfl, nq, rfl⟩
    go_wp2_with fail
    refine (HF.out nq).mono ?_
    rintro e w2 ⟨rfl, O2, h2, t2⟩
    go_wp2
    refine bodyPost_ret (results_none rfl _ _ _) rfl ?_
    rw [HE.out]
    exact ⟨rfl, went_th h2 (((Th.refl O w).n nq).trans t2)⟩
  · have HE := hide (show stF f (stmtsF f s 125) s st = whF f (stmtsF f s 125) s st by simp [stF, hc])
    have HF := hide (fun nq => form_while (w := w.drewN nq) ih hs hf hi (h.n nq) hb hI)
    rw [hc] at HP
    clear hc
    go_enter Tryz.func158, Tryz.ntmps158
    go_wp2_with fail
    refine HP.out.mono ?_
    rintro e w1 ⟨rfl, nq, rfl⟩
    go_wp2_with fail
    refine (HF.out nq).mono ?_
    rintro e w2 ⟨rfl, O2, h2, t2⟩
    go_wp2
    refine bodyPost_ret (results_none rfl _ _ _) rfl ?_
    rw [HE.out]
    exact ⟨rfl, went_th h2 (((Th.refl O w).n nq).trans t2)⟩

set_option maxHeartbeats 1600000 in
theorem stmt_leap {f : Nat} {w : World} {r : Nat} {s : ByteArray} {st : RS} {O : Nat → Prop} (hs : s.size ≤ 900) (hi : st.i < s.size) (h : Rp w r s st O) (hb : st.bad = false) (hI : Inv s st)
    (hc : pk s st.i = 62 ∨ pk s st.i = 60) :
    Calls Tryz.prog 158 #[.pointer (some ⟨r, 0, none⟩)] w fun x w' => x = .returned (.tuple #[]) ∧ Went w O r s (stF f (stmtsF f s 125) s st) w' := by
  have HP := hide (peek_w h)
  have n0 := inv_len hs hI
  have HE := hide (show stF f (stmtsF f s 125) s st = if st.loops = 0 then { st with bad := true } else lpF s st by
    unfold stF
    rw [if_neg (by omega), if_neg (by omega), if_pos hc])
  have HL : Hid (lpF s st = eatS s (endAt (pushI (nextI st) (pk s st.i) 0) st.items.length) 59) := rfl
  have p1 := pushI_good (k := pk s st.i) (n := 0) hb hi hI
  have p2 := (endAt_good (k := st.items.length) p1.inv).inv.i
  clear p1
  generalize pk s st.i = d at *
  obtain ⟨c0, c1, c2, c5, cf⟩ := h.c
  by_cases hz : st.loops = 0
  · rw [hz] at c5
    have HZ := hide hz
    clear hz
    go_enter Tryz.func158, Tryz.ntmps158
    go_wp2_with fail
    refine HP.out.mono ?_
    rintro e w1 ⟨rfl, nq, rfl⟩
    rcases hc with rfl | rfl
    all_goals
      go_wp2
      refine bodyPost_ret (results_none rfl _ _ _) rfl ?_
      rw [HE.out, if_pos HZ.out]
      exact ⟨rfl, went_th (h.n nq).setBad (((Th.refl O w).n nq).set _ (.inl h.own))⟩
  · have hz' : ((st.loops : Int) == 0) = false := by simp; omega
    have HZ := hide hz
    clear hz
    go_enter Tryz.func158, Tryz.ntmps158
    go_wp2_with fail
    refine HP.out.mono ?_
    rintro e w1 ⟨rfl, nq, rfl⟩
    rcases hc with rfl | rfl
    all_goals
      go_wp2_with fail
      refine (item_c r s (nextI st) O _ 0 _ (by show st.items.length ≤ 1000; omega) (h.n nq).next).mono ?_
      rintro e w1 ⟨rfl, O1, h1, t1⟩
      rw [show (nextI st).items.length = st.items.length from rfl]
      have T1 := hide ((((Th.refl O w).n nq).set _ (.inl h.own)).trans t1)
      clear t1
      go_wp2_with fail
      refine (ends_c r s _ O1 st.items.length _ (by simp only [nextI, List.length_append, List.length_singleton]; omega) (by simp [nextI]) h1).mono ?_
      rintro e w2 ⟨rfl, O2, h2, t2⟩
      have T2 := hide (T1.out.trans t2)
      clear t2
      go_wp2_with fail
      refine (eat_w h2 59 (by omega) p2).mono ?_
      rintro e w3 ⟨rfl, O3, h3, t3⟩
      go_wp2
      go_end0
      refine ⟨rfl, went_th (O' := O3) ?_ (T2.out.trans t3)⟩
      rw [HE.out, if_neg HZ.out, HL.out]
      exact h3

set_option maxHeartbeats 1600000 in
theorem stmt_act {f : Nat} {w : World} {r : Nat} {s : ByteArray} {st : RS} {O : Nat → Prop} (hs : s.size ≤ 900) (h : Rp w r s st O) (hb : st.bad = false) (hI : Inv s st)
    (g1 : pk s st.i ≠ 40) (g2 : pk s st.i ≠ 91) (g3 : pk s st.i ≠ 62) (g4 : pk s st.i ≠ 60) :
    Calls Tryz.prog 158 #[.pointer (some ⟨r, 0, none⟩)] w fun x w' => x = .returned (.tuple #[]) ∧ Went w O r s (stF f (stmtsF f s 125) s st) w' := by
  have HP := hide (peek_w h)
  have n0 := inv_len hs hI
  have hi := hI.i
  have HE := hide (show stF f (stmtsF f s 125) s st = actF s st by simp [stF, g1, g2, g3, g4])
  have HL : Hid (actF s st = eatS s (endAt { st with i := (simpF s st.i).2.1, bad := (simpF s st.i).2.2, nodes := st.nodes ++ [(simpF s st.i).1], items := st.items ++ [⟨115, st.nodes.length, 0, 0⟩] } st.items.length) 59) := rfl
  have k1 : ((pk s st.i : Int) == 40) = false := by simp; omega
  have k2 : ((pk s st.i : Int) == 91) = false := by simp; omega
  have k3 : ((pk s st.i : Int) == 62) = false := by simp; omega
  have k4 : ((pk s st.i : Int) == 60) = false := by simp; omega
  have p2 := simpF_le s st.i hi
  clear g1 g2 g3 g4
  generalize pk s st.i = d at *
  go_enter Tryz.func158, Tryz.ntmps158
  go_wp2_with fail
  refine HP.out.mono ?_
  rintro e w1 ⟨rfl, nq, rfl⟩
  go_wp2_with fail
  refine (simple_w (h.n nq) hb (by omega) hi).mono ?_
  rintro e w1 ⟨rfl, O1, h1, t1⟩
  have T1 := hide (((Th.refl O w).n nq).trans t1)
  clear t1
  generalize simpF s st.i = q at *
  obtain ⟨⟨uo, ux, uy, uv, uk, ut, uf, ua, ul⟩, qi, qb⟩ := q
  simp only [Nd.cells]
  go_wp2_with fail
  refine (add_c r s _ O1 ⟨uo, ux, uy, uv, uk, ut, uf, ua, ul⟩ _ (by simp only []; omega) (h1.alloc _)).mono ?_
  rintro e w2 ⟨rfl, O2, h2, t2⟩
  have T2 := hide ((T1.out.alloc _).trans t2)
  clear t2
  go_wp2_with fail
  refine (item_c r s _ O2 115 st.nodes.length _ (by simp only []; omega) h2).mono ?_
  rintro e w3 ⟨rfl, O3, h3, t3⟩
  have T3 := hide (T2.out.trans t3)
  clear t3
  go_wp2_with fail
  refine (ends_c r s _ O3 st.items.length _ (by simp only [List.length_append, List.length_singleton]; omega) (by simp) h3).mono ?_
  rintro e w4 ⟨rfl, O4, h4, t4⟩
  have T4 := hide (T3.out.trans t4)
  clear t4
  go_wp2_with fail
  refine (eat_w h4 59 (by omega) p2).mono ?_
  rintro e w5 ⟨rfl, O5, h5, t5⟩
  go_wp2
  go_end0
  refine ⟨rfl, went_th (O' := O5) ?_ (T4.out.trans t5)⟩
  rw [HE.out, HL.out]
  exact h5

theorem statement_w {f : Nat} (ih : StmtsSaid f) : StmtSaid f := by
  intro w r s st O hs hf hi h hb hI
  by_cases h1 : pk s st.i = 40 ∨ pk s st.i = 91
  · exact stmt_form ih hs hf hi h hb hI h1
  by_cases h2 : pk s st.i = 62 ∨ pk s st.i = 60
  · exact stmt_leap hs hi h hb hI h2
  · exact stmt_act hs h hb hI (by omega) (by omega) (by omega) (by omega)
end Go.Proofs.YtellieabhaphhaaGreatDoor

/-
  narrowref's reader: the walk of statements, and of a source.
-/
namespace Go.Proofs.YtellieabhaphhaaGreatDoor
open Go.RowKit

set_option maxHeartbeats 3200000 in
theorem statements_w {f : Nat} (ih : ∀ k, k < f → StmtsSaid k) : StmtsSaid f := by
  intro w r s e st O hs he hf h hb hI
  have IH := hide ih
  clear ih
  have HP := hide (peek_w h)
  go_enter Tryz.func124, Tryz.ntmps124
  go_wp2_with fail
  refine HP.out.mono ?_
  rintro x w1 ⟨rfl, nq, rfl⟩
  go_wp2
  go_loopg [4] f (fun k c wr => ∃ st' O', Rp wr r s st' O' ∧ Th O w O' wr ∧ Inv s st' ∧ c = .int .u8 (pk s st'.i) ∧ (st'.bad = false → s.size - st'.i < k) ∧ k ≤ f ∧ stmtsF f s e st = stmtsF k s e st')
  case atStart => exact ⟨st, O, h.n nq, (Th.refl O w).n nq, hI, rfl, fun _ => hf, Nat.le_refl _, rfl⟩
  case round =>
    obtain ⟨st', O', h', T', hI', rfl, hk, hkf, hE⟩ := hrel
    have HE := hide hE
    have HI' := hide hI'
    have HT := hide T'
    have HK := hide hk
    have HKF := hide hkf
    have hi' := hI'.i
    obtain ⟨c0, c1, c2, c5, cf⟩ := h'.c
    clear hE hI' T' hk hkf hI hf
    cases hb' : st'.bad
    · rw [hb'] at c2
      by_cases h2 : pk s st'.i = e
      · have h2' : (((pk s st'.i : Nat) : Int) != (e : Int)) = false := by simp [h2]
        have HS := hide (stmts_stop gk s e st' (by simp [h2]))
        generalize pk s st'.i = d at *
        go_wp2
        go_quiet (fail)
        go_wp2
        go_end0
        rw [HE.out, HS.out]
        exact ⟨rfl, went_th (h'.n _) (HT.out.n _)⟩
      · have h2' : (((pk s st'.i : Nat) : Int) != (e : Int)) = true := by simp; omega
        by_cases h3 : st'.i < s.size
        · have hk0 := HK.out hb'
          obtain ⟨k, rfl⟩ : ∃ k, gk = k + 1 := ⟨gk - 1, by omega⟩
          have HR := hide (show stmtsF (k + 1) s e st' = stmtsF k s e (stF k (stmtsF k s 125) s st') by rw [stmtsF, if_pos ⟨hb', h2, h3⟩])
          have HST := hide (fun W => statement_w (IH.out k (by have := HKF.out; omega)) W r s st' O' hs hk0 h3)
          have HG := hide (stF_good (stmtsF_good k s 125) HI'.out hb' h3 hk0)
          generalize stF k (stmtsF k s 125) s st' = st2 at *
          generalize pk s st'.i = d at *
          go_wp2
          go_quiet (fail)
          go_wp2_with fail
          refine (HST.out _ (h'.n _) hb' HI'.out).mono ?_
          rintro x w2 ⟨rfl, O2, h2, t2⟩
          go_wp2_with fail
          refine (peek_w h2).mono ?_
          rintro x w3 ⟨rfl, nq3, rfl⟩
          go_wp2
          go_roundg k
          case measure => omega
          case rel => exact ⟨st2, O2, h2.n nq3, ((HT.out.n _).trans t2).n nq3, HG.out.1.inv, rfl, fun hb2 => by have := HG.out.2 hb2; have := HG.out.1.inv.i; omega, by have := HKF.out; omega, by rw [HE.out, HR.out]⟩
        · have HS := hide (stmts_stop gk s e st' (by simp [h3]))
          generalize pk s st'.i = d at *
          go_wp2
          go_quiet (fail)
          go_wp2
          go_end0
          rw [HE.out, HS.out]
          exact ⟨rfl, went_th (h'.n _) (HT.out.n _)⟩
    · rw [hb'] at c2
      have HS := hide (stmts_stop gk s e st' (by simp [hb']))
      generalize pk s st'.i = d at *
      go_wp2
      go_quiet (fail)
      go_wp2
      go_end0
      rw [HE.out, HS.out]
      exact ⟨rfl, went_th (h'.n _) (HT.out.n _)⟩

theorem stmts_all : ∀ f, StmtsSaid f := by
  intro f
  induction f using Nat.strongRecOn with
  | _ f ih => exact statements_w ih

def rs0 : RS := { i := 0, bad := false, nodes := [], items := [], loops := 0 }

theorem inv0 (s : ByteArray) : Inv s rs0 := ⟨Nat.zero_le _, Nat.zero_le _, Nat.zero_le _, Nat.zero_le _⟩

/-- The source, as it is read. -/
def srcF (s : ByteArray) : RS := stmtsF (s.size + 1) s 0 rs0

theorem srcF_good (s : ByteArray) : Good s rs0 (srcF s) := stmtsF_good (s.size + 1) s 0 rs0 (inv0 s) rfl (by show s.size - 0 < _; omega)

def srcBad (s : ByteArray) : Bool := (srcF s).bad || decide ((srcF s).i < s.size)

set_option maxHeartbeats 1600000 in
theorem source_long (s : ByteArray) (w : World) (hm : s.size ≤ maxLen) (hs : 180 < s.size) :
    Calls Tryz.prog 79 #[.string s] w fun e w' => (∃ r, e = .returned (.tuple #[.pointer (some ⟨r, 0, none⟩), .int .i64 1, .int .i64 0])) ∧ Kp no w w' := by
  unfold maxLen at hm
  go_enter Tryz.func79, Tryz.ntmps79
  go_wp2
  go_ret3
  exact ⟨⟨_, rfl⟩, by (repeat' (first | with_reducible exact Kp.refl _ _ | with_reducible refine Kp.alloc ?_ _ | with_reducible refine Kp.drewN ?_ _ | with_reducible refine Kp.drew ?_ | with_reducible refine Kp.setCell ?_ _ ?_ | (intro hh; first | rfl | exact .inl rfl | exact .inr rfl | (exfalso; (try dsimp only at hh); omega))))⟩

def SrcPost (s : ByteArray) (w : World) (e : Ending) (w' : World) : Prop :=
  ∃ r O, e = .returned (.tuple #[.pointer (some ⟨r, 0, none⟩), .int .i64 (if srcBad s then 2 else 0), .int .i64 (if srcBad s then (srcF s).i else 0)]) ∧
      Rp w' r s (srcF s) O ∧ Kp no w w' ∧ ∀ b, O b → w.heap.size ≤ b

set_option maxHeartbeats 1600000 in
theorem source_c (s : ByteArray) (w : World) (hs : s.size ≤ 180) :
    Calls Tryz.prog 79 #[.string s] w fun e w' => SrcPost s w e w' := by
  have HS := hide (fun W r O => stmts_all (s.size + 1) W r s 0 rs0 O (by omega) (by decide) (by show s.size - 0 < _; omega))
  have HF : Hid (srcF s = stmtsF (s.size + 1) s 0 rs0) := rfl
  have g := (srcF_good s).inv.i
  have HB : Hid (srcBad s = ((srcF s).bad || decide ((srcF s).i < s.size))) := rfl
  go_enter Tryz.func79, Tryz.ntmps79
  go_wp2_with fail
  have h0 : Rp (w.alloc (.cells #[.string s, .int .i64 0, .bool false, .slice none 0 0, .slice none 0 0, .int .i64 0] 45)) w.heap.size s rs0 (Own w.heap.size (.slice none 0 0) (.slice none 0 0)) :=
    ⟨_, _, Blk.new w [.string s, .int .i64 0, .bool false, .slice none 0 0, .slice none 0 0, .int .i64 0] _, World.ownsRow_nil _ _ _ _, World.ownsRow_nil _ _ _ _, by simp [Value.ownBlock], by simp [Value.ownBlock], by simp [Value.ownBlock], rfl⟩
  refine (HS.out _ w.heap.size _ h0 rfl (inv0 s)).mono ?_
  rw [← HF.out]
  rintro e w1 ⟨rfl, O1, h1, t1⟩
  generalize hst : srcF s = st at h1 g HB
  have HST2 := hide hst
  clear hst
  have hO : ∀ b, O1 b → w.heap.size ≤ b := fun b hb => by
    rcases Nat.lt_or_ge b w.heap.size with hlt | hge
    · rcases t1.2 b hb (by simp; omega) with e | e | e
      · omega
      · simp [Value.ownBlock] at e
      · simp [Value.ownBlock] at e
    · exact hge
  have hk : Kp no w w1 := ((Kp.refl no w).alloc _).trans t1.1 (fun x hx e => by
    rcases e with e | e | e
    · omega
    · simp [Value.ownBlock] at e
    · simp [Value.ownBlock] at e)
  obtain ⟨c0, c1, c2, c5, cf⟩ := h1.c
  have HO := hide hO
  have HK := hide hk
  clear hO hk t1
  cases hb : st.bad
  · rw [hb] at c2
    by_cases hi : st.i < s.size
    · have e1 : srcBad s = true := by rw [HB.out]; simp [hi]
      go_wp2
      go_quiet (fail)
      go_wp2
      go_ret3
      exact ⟨_, O1, by rw [e1, HST2.out]; rfl, by rw [HST2.out]; exact h1.n _, HK.out.drewN _, HO.out⟩
    · have e1 : srcBad s = false := by rw [HB.out]; simp [hb, hi]
      go_wp2
      go_ret3
      exact ⟨_, O1, by rw [e1]; rfl, by rw [HST2.out]; exact h1, HK.out, HO.out⟩
  · rw [hb] at c2
    have e1 : srcBad s = true := by rw [HB.out]; simp [hb]
    go_wp2
    go_quiet (fail)
    go_wp2
    go_ret3
    exact ⟨_, O1, by rw [e1, HST2.out]; rfl, by rw [HST2.out]; exact h1.n _, HK.out.drewN _, HO.out⟩
end Go.Proofs.YtellieabhaphhaaGreatDoor

/-
  narrowref's machine: small parts.
-/
namespace Go.Proofs.YtellieabhaphhaaGreatDoor
open Go.RowKit

set_option maxHeartbeats 400000 in
theorem in_c (s : ByteArray) (c : Nat) (w : World) (hs : s.size ≤ 1000) :
    Calls Tryz.prog 74 #[.string s, .int .u8 c] w fun e w' => e = .returned (.bool (amF c s.data.toList)) ∧ w' = w := by
  go_enter Tryz.func74, Tryz.ntmps74
  go_wp2_with (go_at_call 121; refine (among_c c s _ hs).mono ?_; rintro e w' ⟨rfl, rfl⟩)
  go_ret
  exact ⟨rfl, rfl⟩

def capF (k : Int) : ByteArray := if k = 116 then ⟨#[84]⟩ else if k = 102 then ⟨#[70]⟩ else if k = 122 then ⟨#[90]⟩ else ⟨#[67]⟩

set_option maxHeartbeats 400000 in
theorem capital_c (k : Int) (w : World) :
    Calls Tryz.prog 162 #[.int .u8 k] w fun e w' => e = .returned (.string (capF k)) ∧ w' = w := by
  by_cases h1 : k = 116
  · subst h1
    go_enter Tryz.func162, Tryz.ntmps162
    go_wp2
    go_ret
    exact ⟨rfl, rfl⟩
  by_cases h2 : k = 102
  · subst h2
    go_enter Tryz.func162, Tryz.ntmps162
    go_wp2
    go_ret
    exact ⟨rfl, rfl⟩
  by_cases h3 : k = 122
  · subst h3
    go_enter Tryz.func162, Tryz.ntmps162
    go_wp2
    go_ret
    exact ⟨rfl, rfl⟩
  · have e : capF k = ⟨#[67]⟩ := by simp [capF, h1, h2, h3]
    rw [e]
    have g1 : (k == 116) = false := by simp [h1]
    have g2 : (k == 102) = false := by simp [h2]
    have g3 : (k == 122) = false := by simp [h3]
    go_enter Tryz.func162, Tryz.ntmps162
    go_wp2
    go_ret
    exact ⟨rfl, rfl⟩

theorem conv1 (W : World) (k : Int) : (convert 156 9 (.slice (some ⟨W.heap.size, 0, none⟩) 1 1)).run Tryz.prog (W.alloc (.cells #[.int .u8 k] 5)) = .ok (.string (strOfNums [k])) (W.alloc (.cells #[.int .u8 k] 5)) := by
  refine run_convert_bytes_arg (P := Tryz.prog) _ 156 5 Tryz.underlying156 Tryz.underlying5 W.heap.size 0 1 1 [k] rfl ?_ 9 Tryz.underlying9
  intro i hi
  have h := (Blk.new W [.int .u8 k] 5).cell (0 + i)
  rw [h]
  obtain rfl : i = 0 := by omega
  rfl

theorem conv2 (W : World) (k l : Int) : (convert 156 9 (.slice (some ⟨W.heap.size, 0, none⟩) 2 2)).run Tryz.prog (W.alloc (.cells #[.int .u8 k, .int .u8 l] 5)) = .ok (.string (strOfNums [k, l])) (W.alloc (.cells #[.int .u8 k, .int .u8 l] 5)) := by
  refine run_convert_bytes_arg (P := Tryz.prog) _ 156 5 Tryz.underlying156 Tryz.underlying5 W.heap.size 0 2 2 [k, l] rfl ?_ 9 Tryz.underlying9
  intro i hi
  have h := (Blk.new W [.int .u8 k, .int .u8 l] 5).cell (0 + i)
  rw [h]
  obtain rfl | rfl : i = 0 ∨ i = 1 := by omega
  · rfl
  · rfl

/-- A node's number, in two digits. -/
def twoB (n : Nat) : ByteArray := strOfNums [48 + (n : Int) / 10, 48 + (n : Int) % 10]

set_option maxRecDepth 100000 in
set_option maxHeartbeats 400000 in
theorem two_c (n : Nat) (w : World) (hn : n < 100) :
    Calls Tryz.prog 129 #[.int .i64 n] w fun e w' => e = .returned (.string (twoB n)) ∧ Kp no w w' := by
  have hc := conv2
  unfold twoB
  go_enter Tryz.func129, Tryz.ntmps129
  go_wp2
  go_ret
  exact ⟨rfl, by (repeat' (first | with_reducible exact Kp.refl _ _ | with_reducible refine Kp.alloc ?_ _ | with_reducible refine Kp.drewN ?_ _ | with_reducible refine Kp.drew ?_ | with_reducible refine Kp.setCell ?_ _ ?_ | (intro hh; first | rfl | exact .inl rfl | exact .inr rfl | (exfalso; (try dsimp only at hh); omega))))⟩

def takF (op : Int) : ByteArray :=
  if op = 43 ∨ op = 60 ∨ op = 65 then ⟨#[110]⟩ else if op = 66 then ⟨#[116, 102, 122]⟩ else if op = 46 then ⟨#[65, 66]⟩ else ⟨#[110, 116, 102, 122, 65, 66, 67]⟩

set_option maxHeartbeats 400000 in
theorem takes_c (n : Nd) (w : World) :
    Calls Tryz.prog 119 #[.agg #[.int .u8 n.op, .int .i64 n.x, .int .i64 n.y, .int .i64 n.v, .int .u8 n.k, .int .i64 n.t, .int .i64 n.f, .int .i64 n.a, .int .i64 n.l]] w fun e w' => e = .returned (.string (takF n.op)) ∧ Kp no w w' := by
  generalize n.op = o
  by_cases h1 : o = 43
  · subst h1
    go_enter Tryz.func119, Tryz.ntmps119
    go_wp2
    go_ret
    exact ⟨rfl, by (repeat' (first | with_reducible exact Kp.refl _ _ | with_reducible refine Kp.alloc ?_ _ | with_reducible refine Kp.drewN ?_ _ | with_reducible refine Kp.drew ?_ | with_reducible refine Kp.setCell ?_ _ ?_ | (intro hh; first | rfl | exact .inl rfl | exact .inr rfl | (exfalso; (try dsimp only at hh); omega))))⟩
  by_cases h2 : o = 60
  · subst h2
    go_enter Tryz.func119, Tryz.ntmps119
    go_wp2
    go_ret
    exact ⟨rfl, by (repeat' (first | with_reducible exact Kp.refl _ _ | with_reducible refine Kp.alloc ?_ _ | with_reducible refine Kp.drewN ?_ _ | with_reducible refine Kp.drew ?_ | with_reducible refine Kp.setCell ?_ _ ?_ | (intro hh; first | rfl | exact .inl rfl | exact .inr rfl | (exfalso; (try dsimp only at hh); omega))))⟩
  by_cases h3 : o = 65
  · subst h3
    go_enter Tryz.func119, Tryz.ntmps119
    go_wp2
    go_ret
    exact ⟨rfl, by (repeat' (first | with_reducible exact Kp.refl _ _ | with_reducible refine Kp.alloc ?_ _ | with_reducible refine Kp.drewN ?_ _ | with_reducible refine Kp.drew ?_ | with_reducible refine Kp.setCell ?_ _ ?_ | (intro hh; first | rfl | exact .inl rfl | exact .inr rfl | (exfalso; (try dsimp only at hh); omega))))⟩
  by_cases h4 : o = 66
  · subst h4
    go_enter Tryz.func119, Tryz.ntmps119
    go_wp2
    go_ret
    exact ⟨rfl, by (repeat' (first | with_reducible exact Kp.refl _ _ | with_reducible refine Kp.alloc ?_ _ | with_reducible refine Kp.drewN ?_ _ | with_reducible refine Kp.drew ?_ | with_reducible refine Kp.setCell ?_ _ ?_ | (intro hh; first | rfl | exact .inl rfl | exact .inr rfl | (exfalso; (try dsimp only at hh); omega))))⟩
  by_cases h5 : o = 46
  · subst h5
    go_enter Tryz.func119, Tryz.ntmps119
    go_wp2
    go_ret
    exact ⟨rfl, by (repeat' (first | with_reducible exact Kp.refl _ _ | with_reducible refine Kp.alloc ?_ _ | with_reducible refine Kp.drewN ?_ _ | with_reducible refine Kp.drew ?_ | with_reducible refine Kp.setCell ?_ _ ?_ | (intro hh; first | rfl | exact .inl rfl | exact .inr rfl | (exfalso; (try dsimp only at hh); omega))))⟩
  · have e : takF o = ⟨#[110, 116, 102, 122, 65, 66, 67]⟩ := by simp [takF, h1, h2, h3, h4, h5]
    rw [e]
    have g1 : (o == 43) = false := by simp [h1]
    have g2 : (o == 60) = false := by simp [h2]
    have g3 : (o == 65) = false := by simp [h3]
    have g4 : (o == 66) = false := by simp [h4]
    have g5 : (o == 46) = false := by simp [h5]
    go_enter Tryz.func119, Tryz.ntmps119
    go_wp2
    go_ret
    exact ⟨rfl, by (repeat' (first | with_reducible exact Kp.refl _ _ | with_reducible refine Kp.alloc ?_ _ | with_reducible refine Kp.drewN ?_ _ | with_reducible refine Kp.drew ?_ | with_reducible refine Kp.setCell ?_ _ ?_ | (intro hh; first | rfl | exact .inl rfl | exact .inr rfl | (exfalso; (try dsimp only at hh); omega))))⟩
end Go.Proofs.YtellieabhaphhaaGreatDoor

/-
  narrowref's flow: states.
-/
namespace Go.Proofs.YtellieabhaphhaaGreatDoor
open Go.RowKit

theorem info_str : (Tryz.prog.info? 9).map (fun i => (i.zero, i.size, i.bytes)) = some (some (.string ⟨#[]⟩), 1, 16) := by kernel_rfl

/-- A state's slice. -/
abbrev SV (w : World) (v : Value) (s : St) : Prop := Row w v 9 1 s.length (sgS s)

theorem sgS_len (s : St) : (sgS s).length = s.length := by simp [sgS]

theorem SV.shape {w : World} {v : Value} {s : St} (h : SV w v s) : ∃ a cap, v = .slice a s.length cap := by
  rcases h.2 with ⟨rfl, h0⟩ | ⟨g, cap, cur, rfl, _⟩
  · exact ⟨none, 0, by rw [h0]⟩
  · exact ⟨_, _, rfl⟩

theorem SV.nil (w : World) : SV w (.slice none 0 0) [] := ⟨rfl, .inl ⟨rfl, rfl⟩⟩

theorem SV.at {w : World} {a : Option Addr} {cap n : Nat} {s : St} (h : Row w (.slice a n cap) 9 1 n (sgS s)) {k : Nat} (hk : k < n) :
    ∃ g, a = some ⟨g, 0, none⟩ ∧ g < w.heap.size ∧ w.cell? ⟨g, k, none⟩ = some (.string (sgB (s.getD k 0))) := by
  obtain ⟨g, cap', e, _, hg⟩ := World.ownsRow.form h (by omega)
  injection e with e1 e2 e3
  subst e1
  have hk : k < s.length := by have := h.1; rw [sgS_len] at this; omega
  refine ⟨g, rfl, Row.lt h (b := g) rfl, ?_⟩
  rw [Row.cell h _ (by omega)]
  simp [sgS, List.getD_eq_getElem?_getD, List.getElem?_eq_getElem hk]

theorem set_take (s : St) (x m : Nat) (hx : x < s.length) : (∀ j, j = x → (sgS (s.set x m)).take (j + 1) = (sgS (s.set x m)).take j ++ [.string (sgB m)]) ∧ (∀ j, j < s.length → j ≠ x → (sgS (s.set x m)).take (j + 1) = (sgS (s.set x m)).take j ++ [.string (sgB (s.getD j 0))]) := by
  constructor
  · rintro j rfl
    rw [List.take_succ_eq_append_getElem (by simpa [sgS] using hx)]
    simp [sgS]
  · intro j hj hne
    rw [List.take_succ_eq_append_getElem (by simpa [sgS] using hj)]
    simp [sgS, hj, Ne.symm hne]

/-- A value's block is a new one. -/
def New (w : World) (v : Value) : Prop := ∀ b, v.ownBlock = some b → w.heap.size ≤ b

theorem New.none (w : World) : New w (.slice none 0 0) := fun b h => by cases h

/-- Behind an append of a string. -/
theorem app_step {w wr w' : World} {tv : Value} {o : Obj} {g : Nat} (HN : New w tv) (HK : Kp no w wr) (hgrow : (wr.alloc o).grownBy w' tv.ownBlock) (hat : tv.ownBlock = some g ∨ g = (wr.alloc o).heap.size) (n cap : Nat) :
    New w (.slice (some ⟨g, 0, none⟩) n cap) ∧ Kp no w w' := by
  have hsz := HK.size
  refine ⟨fun b hb => ?_, (HK.alloc _).grown hgrow (fun k hk e => by have := HN k e; omega)⟩
  have hb' : g = b := by simpa [Value.ownBlock] using hb
  subst hb'
  rcases hat with h | h
  · exact HN _ h
  · simp at h; omega

set_option maxRecDepth 100000 in
set_option maxHeartbeats 1600000 in
theorem with_c (v : Value) (s : St) (x m : Nat) (w : World) (h : SV w v s) (hs : SOk s) (hx : x < 6) (hm : m < 128) :
    Calls Tryz.prog 118 #[v, .int .i64 x, .string (sgB m)] w fun e w' => ∃ u, e = .returned u ∧ SV w' u (withS s x m) ∧ New w u ∧ Kp no w w' := by
  obtain ⟨i0, hi, hz0, hz1, hz2⟩ := info_parts info_str
  obtain ⟨a, cap, rfl⟩ := h.shape
  by_cases h0 : s = []
  · subst h0
    have HE := hide (show withS [] x m = [] from rfl)
    go_enter Tryz.func118, Tryz.ntmps118
    go_wp2
    go_ret
    exact ⟨_, rfl, by rw [HE.out]; exact SV.nil _, New.none _, Kp.refl _ _⟩
  by_cases hm0 : m = 0
  · subst hm0
    have HE := hide (show withS s x 0 = [] by simp [withS])
    have h6 := (hs.resolve_left h0).1
    rw [sg_zero]
    go_enter Tryz.func118, Tryz.ntmps118
    go_wp2
    go_ret
    exact ⟨_, rfl, by rw [HE.out]; exact SV.nil _, New.none _, Kp.refl _ _⟩
  · have h6 := (hs.resolve_left h0).1
    have HE := hide (show withS s x m = s.set x m by rw [withS, if_neg (by simp [h0, hm0])])
    have hne : (sgB m).toList.isEmpty = false := by
      have h1 : sgB m ≠ ⟨#[]⟩ := fun e => hm0 ((sg_empty hm).1 e)
      rw [ByteArray.toList_eq]
      cases hl : (sgB m).data.toList with
      | nil => exact absurd (ByteArray.ext (by simpa using hl)) h1
      | cons _ _ => rfl
    have HS := hide (set_take s x m (by omega))
    have hzz : Hid (sgB m = sgB m) := rfl
    have hsz := sg_size m
    have HX := hide (show ∀ j, j < 6 → ∃ l : List Value, (sgS (s.set x m)).take j = l ∧ l.length = j ∧ (j = x → (sgS (s.set x m)).take (j + 1) = l ++ [.string (sgB m)]) ∧ (j ≠ x → (sgS (s.set x m)).take (j + 1) = l ++ [.string (sgB (s.getD j 0))]) from fun j hj => ⟨_, rfl, by simp [sgS]; omega, HS.out.1 j, HS.out.2 j (by omega)⟩)
    have HXL := hide (show (sgS (s.set x m)).take 6 = sgS (s.set x m) from List.take_of_length_le (by simp [sgS]; omega))
    have HL2 := hide (show (s.set x m).length = 6 by simp [h6])
    rw [HE.out]
    clear HS hzz h0 hm0
    generalize sgB m = z at *
    generalize hR : sgS (s.set x m) = R at *
    have HRR := hide hR
    clear hR
    have h' : Row w (.slice a s.length cap) 9 1 s.length (sgS s) := h
    clear h
    rw [h6] at h' ⊢
    have H6 := hide h6
    clear h6
    go_enter Tryz.func118, Tryz.ntmps118
    go_wp2
    go_loopg [7, 8] 6 (fun k tv iv wr => ∃ j : Nat, j ≤ 6 ∧ k = 6 - j ∧ iv = .int .i64 j ∧ Row wr tv 9 1 j (R.take j) ∧ New w tv ∧ Kp no w wr)
    case atStart => exact ⟨0, Nat.zero_le _, rfl, rfl, ⟨rfl, .inl ⟨rfl, rfl⟩⟩, New.none _, Kp.refl _ _⟩
    case round =>
      obtain ⟨j, hj, hk, rfl, hrow, hnew, kr⟩ := hrel
      have HKK := hide hk
      have HR := hide hrow
      have HN := hide hnew
      have HK := hide kr
      clear hk hrow hnew kr
      by_cases hlt : j < 6
      · obtain ⟨l, e1, e2, e3, e4⟩ := HX.out j hlt
        rw [e1] at HR
        have HE3 := hide e3
        have HE4 := hide e4
        have HE2 := hide e2
        clear e1 e2 e3 e4 HX
        by_cases hjx : j = x
        · subst hjx
          have hone : ∀ u ∈ [Value.string z], u.oneCell' = true := by simp [Value.oneCell']
          go_wp2_with (at_builtin; refine wpList_append_lies _ rfl (.tmp 25) (.tmp 27) 65 rfl 0 9 i0 _ 1 16 Tryz.underlying65 hi hz0 hz1 hz2 rfl (by decide) _ j l (by simp [Act.eval]; rfl) (by exact World.ownsRow.alloc HR.out _) ⟨wr.heap.size, 0, none⟩ 1 1 [.string z] (by simp [Act.eval]) rfl (by exact Blk.news (Blk.new wr [.string z] _)) hone (by decide) (by unfold maxLen; omega) (by omega) (Nat.zero_le _) _ rfl ?_; intro g cap w' hown hgrow hat hlt)
          go_roundg (6 - (j + 1))
          case measure => have := HKK.out; omega
          case rel =>
            have ha := app_step HN.out HK.out hgrow hat (j + 1) cap
            exact ⟨j + 1, by omega, rfl, by go_num, by rw [HE3.out trivial]; exact hown, ha.1, ha.2⟩
        · obtain ⟨g0, rfl, hg0, hc0⟩ := SV.at (HK.out.row h' (fun _ _ => no_elim)) (k := j) (by omega)
          have HE5 := hide (HE4.out hjx)
          have hsz := sg_size (s.getD j 0)
          have hjx' : ((j : Int) == x) = false := by simp; omega
          clear HE3 HE4 h'
          generalize sgB (s.getD j 0) = zj at *
          have hone : ∀ u ∈ [Value.string zj], u.oneCell' = true := by simp [Value.oneCell']
          go_wp2_with (at_builtin; refine wpList_append_lies _ rfl (.tmp 29) (.tmp 34) 65 rfl 0 9 i0 _ 1 16 Tryz.underlying65 hi hz0 hz1 hz2 rfl (by decide) _ j l (by simp [Act.eval]; rfl) (by exact World.ownsRow.alloc HR.out _) ⟨wr.heap.size, 0, none⟩ 1 1 [.string zj] (by simp [Act.eval]) rfl (by exact Blk.news (Blk.new wr [.string zj] _)) hone (by decide) (by unfold maxLen; omega) (by omega) (Nat.zero_le _) _ rfl ?_; intro g cap w' hown hgrow hat hlt)
          go_roundg (6 - (j + 1))
          case measure => have := HKK.out; omega
          case rel =>
            have ha := app_step HN.out HK.out hgrow hat (j + 1) cap
            exact ⟨j + 1, by omega, rfl, by go_num, by rw [HE5.out]; exact hown, ha.1, ha.2⟩
      · obtain rfl : j = 6 := by omega
        go_wp2
        go_ret
        refine ⟨_, rfl, ?_, HN.out, HK.out⟩
        have := HR.out
        rw [HXL.out] at this
        show Row _ _ _ _ (s.set x m).length (sgS (s.set x m))
        rw [HL2.out, HRR.out]
        exact this
end Go.Proofs.YtellieabhaphhaaGreatDoor

/-
  narrowref's flow: the first state, and the join of two.
-/
namespace Go.Proofs.YtellieabhaphhaaGreatDoor
open Go.RowKit

theorem sg_z : sgB 8 = ⟨#[122]⟩ := by decide

set_option maxRecDepth 100000 in
set_option maxHeartbeats 1600000 in
theorem start_c (w : World) :
    Calls Tryz.prog 41 #[] w fun e w' => ∃ u, e = .returned u ∧ SV w' u [8, 8, 8, 8, 8, 8] ∧ New w u ∧ Kp no w w' := by
  obtain ⟨i0, hi, hz0, hz1, hz2⟩ := info_parts info_str
  have HX := hide (show ∀ j, j < 6 → ∃ l : List Value, (sgS [8, 8, 8, 8, 8, 8]).take j = l ∧ (sgS [8, 8, 8, 8, 8, 8]).take (j + 1) = l ++ [.string ⟨#[122]⟩] from fun j hj => ⟨_, rfl, by
    rw [← sg_z]
    rcases (show j = 0 ∨ j = 1 ∨ j = 2 ∨ j = 3 ∨ j = 4 ∨ j = 5 by omega) with rfl | rfl | rfl | rfl | rfl | rfl <;> rfl⟩)
  have HXL := hide (show (sgS [8, 8, 8, 8, 8, 8]).take 6 = sgS [8, 8, 8, 8, 8, 8] from rfl)
  generalize hR : sgS [8, 8, 8, 8, 8, 8] = R at *
  have HRR := hide hR
  clear hR
  go_enter Tryz.func41, Tryz.ntmps41
  go_wp2
  go_loopg [1, 2] 6 (fun k tv iv wr => ∃ j : Nat, j ≤ 6 ∧ k = 6 - j ∧ iv = .int .i64 j ∧ Row wr tv 9 1 j (R.take j) ∧ New w tv ∧ Kp no w wr)
  case atStart => exact ⟨0, Nat.zero_le _, rfl, rfl, ⟨rfl, .inl ⟨rfl, rfl⟩⟩, New.none _, Kp.refl _ _⟩
  case round =>
    obtain ⟨j, hj, hk, rfl, hrow, hnew, kr⟩ := hrel
    have HKK := hide hk
    have HR := hide hrow
    have HN := hide hnew
    have HK := hide kr
    clear hk hrow hnew kr
    by_cases hlt : j < 6
    · obtain ⟨l, e1, e2⟩ := HX.out j hlt
      rw [e1] at HR
      have HE3 := hide e2
      clear e1 e2 HX
      have hone : ∀ u ∈ [Value.string ⟨#[122]⟩], u.oneCell' = true := by simp [Value.oneCell']
      go_wp2_with (at_builtin; refine wpList_append_lies _ rfl (.tmp 7) (.tmp 8) 65 rfl 0 9 i0 _ 1 16 Tryz.underlying65 hi hz0 hz1 hz2 rfl (by decide) _ j l (by simp [Act.eval]; rfl) (by exact World.ownsRow.alloc HR.out _) ⟨wr.heap.size, 0, none⟩ 1 1 [.string ⟨#[122]⟩] (by simp [Act.eval]) rfl (by exact Blk.news (Blk.new wr [.string ⟨#[122]⟩] _)) hone (by decide) (by unfold maxLen; omega) (by omega) (Nat.zero_le _) _ rfl ?_; intro g cap w' hown hgrow hat hlt)
      go_roundg (6 - (j + 1))
      case measure => have := HKK.out; omega
      case rel =>
        have ha := app_step HN.out HK.out hgrow hat (j + 1) cap
        exact ⟨j + 1, by omega, rfl, by go_num, by rw [HE3.out]; exact hown, ha.1, ha.2⟩
    · obtain rfl : j = 6 := by omega
      go_wp2
      go_ret
      refine ⟨_, rfl, ?_, HN.out, HK.out⟩
      have := HR.out
      rw [HXL.out] at this
      show Row _ _ _ _ 6 (sgS [8, 8, 8, 8, 8, 8])
      rw [HRR.out]
      exact this

theorem zip_take (a b : St) (h : a.length = b.length) (j : Nat) (hj : j < a.length) :
    (sgS (List.zipWith (· ||| ·) a b)).take (j + 1) = (sgS (List.zipWith (· ||| ·) a b)).take j ++ [.string (sgB (a.getD j 0 ||| b.getD j 0))] ∧
    decide ((List.zipWith (· ||| ·) a b).take (j + 1) ≠ a.take (j + 1)) = (decide ((List.zipWith (· ||| ·) a b).take j ≠ a.take j) || decide (a.getD j 0 ||| b.getD j 0 ≠ a.getD j 0)) := by
  have hb : j < b.length := by omega
  have hz : j < (List.zipWith (· ||| ·) a b).length := by rw [List.length_zipWith]; omega
  constructor
  · rw [List.take_succ_eq_append_getElem (by simpa [sgS] using hz)]
    simp [sgS, hj, hb]
  · rw [List.take_succ_eq_append_getElem hz, List.take_succ_eq_append_getElem hj, List.getElem_zipWith]
    simp only [List.getD_eq_getElem?_getD, List.getElem?_eq_getElem hj, List.getElem?_eq_getElem hb, Option.getD_some]
    by_cases h1 : (List.zipWith (· ||| ·) a b).take j = a.take j
    · rw [h1]
      have e1 : (List.take j a ++ [a[j] ||| b[j]] = List.take j a ++ [a[j]]) ↔ a[j] ||| b[j] = a[j] := ⟨fun e => by simpa using List.append_cancel_left e, fun e => by rw [e]⟩
      have e2 : decide (List.take j a ≠ List.take j a) = false := by simp
      rw [e2, Bool.false_or, decide_eq_decide]
      exact not_congr e1
    · have : ¬ (List.take j (List.zipWith (· ||| ·) a b) ++ [a[j] ||| b[j]] = List.take j a ++ [a[j]]) := fun e => h1 (List.append_inj_left e (by simp; omega))
      rw [decide_eq_true (by exact this), decide_eq_true (by exact h1), Bool.true_or]

theorem bytes_eqb (a b : ByteArray) : (a.toList == b.toList) = decide (a = b) := by
  rw [ByteArray.toList_eq, ByteArray.toList_eq, Bool.eq_iff_iff, beq_iff_eq, decide_eq_true_iff]
  exact ⟨fun e => ByteArray.ext (by simpa using e), fun e => by rw [e]⟩
theorem bytes_ne (a b : ByteArray) : (!(a.toList == b.toList)) = decide (¬ a = b) := by rw [bytes_eqb, decide_not]

set_option maxRecDepth 100000 in
set_option maxHeartbeats 1600000 in
theorem join_c (va vb : Value) (a b : St) (w : World) (ha : SV w va a) (hb : SV w vb b) (oa : SOk a) (ob : SOk b) :
    Calls Tryz.prog 166 #[va, vb] w fun e w' => ∃ u, e = .returned (.tuple #[u, .bool (joinR a b).2]) ∧ SV w' u (joinR a b).1 ∧ (u = va ∨ u = vb ∨ New w u) ∧ Kp no w w' := by
  obtain ⟨i0, hi, hz0, hz1, hz2⟩ := info_parts info_str
  obtain ⟨aa, ca, rfl⟩ := ha.shape
  obtain ⟨ab, cb, rfl⟩ := hb.shape
  by_cases hb0 : b = []
  · subst hb0
    have HE := hide (show joinR a [] = (a, false) from rfl)
    rw [HE.out]
    have HA := hide ha
    clear ha
    go_enter Tryz.func166, Tryz.ntmps166
    go_wp2
    go_ret2
    exact ⟨_, rfl, HA.out, .inl rfl, Kp.refl _ _⟩
  have hb6 := (ob.resolve_left hb0).1
  by_cases ha0 : a = []
  · subst ha0
    have HE := hide (show joinR [] b = (b, true) by simp [joinR, hb0])
    rw [HE.out]
    have HB := hide hb
    clear hb
    have hq : ((b.length : Int) == 0) = false := by rw [hb6]; rfl
    clear hb6
    go_enter Tryz.func166, Tryz.ntmps166
    go_wp2
    go_ret2
    exact ⟨_, rfl, HB.out, .inr (.inl rfl), Kp.refl _ _⟩
  · have ha6 := (oa.resolve_left ha0).1
    have HE := hide (show joinR a b = (List.zipWith (· ||| ·) a b, decide (List.zipWith (· ||| ·) a b ≠ a)) by simp [joinR, hb0, ha0])
    rw [HE.out]
    have HZ := hide (zip_take a b (by omega))
    have HL := hide (show (List.zipWith (· ||| ·) a b).length = 6 by rw [List.length_zipWith]; omega)
    have HAL := hide (show a.length = 6 from ha6)
    generalize hZZ : List.zipWith (· ||| ·) a b = Z at *
    clear hZZ
    have ha' : Row w (.slice aa a.length ca) 9 1 a.length (sgS a) := ha
    have hb' : Row w (.slice ab b.length cb) 9 1 b.length (sgS b) := hb
    rw [ha6] at ha' ⊢
    rw [hb6] at hb' ⊢
    clear ha6 hb6 ha0 hb0 ha hb
    go_enter Tryz.func166, Tryz.ntmps166
    go_wp2
    go_loopg [6, 7, 8] 6 (fun k tv uv iv wr => ∃ j : Nat, j ≤ 6 ∧ k = 6 - j ∧ iv = .int .i64 j ∧ Row wr tv 9 1 j ((sgS Z).take j) ∧ uv = .bool (decide (Z.take j ≠ a.take j)) ∧ New w tv ∧ Kp no w wr)
    case atStart => exact ⟨0, Nat.zero_le _, rfl, rfl, ⟨rfl, .inl ⟨rfl, rfl⟩⟩, rfl, New.none _, Kp.refl _ _⟩
    case round =>
      obtain ⟨j, hj, hk, rfl, hrow, rfl, hnew, kr⟩ := hrel
      have HKK := hide hk
      have HR := hide hrow
      have HN := hide hnew
      have HK := hide kr
      clear hk hrow hnew kr
      by_cases hlt : j < 6
      · obtain ⟨e1, e2⟩ := HZ.out j (by rw [HAL.out]; exact hlt)
        obtain ⟨g1, rfl, hg1w, hc1w⟩ := SV.at ha' (k := j) hlt
        obtain ⟨g2, rfl, hg2w, hc2w⟩ := SV.at hb' (k := j) hlt
        have hc1 := (HK.out.cell hg1w no_elim j).trans hc1w
        have hc2 := (HK.out.cell hg2w no_elim j).trans hc2w
        have HC1 := hide hc1w
        have hg1 := Nat.lt_of_lt_of_le hg1w HK.out.size
        have hg2 := Nat.lt_of_lt_of_le hg2w HK.out.size
        clear hc1w hc2w
        have HEI := hide (fun W => either_c (sgB (a.getD j 0)) (sgB (b.getD j 0)) W (Nat.le_trans (sg_size _) (by decide)) (Nat.le_trans (sg_size _) (by decide)))
        rw [either_sg] at HEI
        have HE1 := hide e1
        have HE2 := hide e2
        clear e1 e2 HZ ha' hb'
        have hjI : (j : Int) < 6 := by omega
        have HV := hide (show (sgB (a.getD j 0 ||| b.getD j 0) = sgB (a.getD j 0)) ↔ a.getD j 0 ||| b.getD j 0 = a.getD j 0 from ⟨fun e => sg_inj (or_lt (oa.get j) (ob.get j)) (oa.get j) e, fun e => by rw [e]⟩)
        have hs1 := sg_size (a.getD j 0 ||| b.getD j 0)
        generalize sgB (a.getD j 0 ||| b.getD j 0) = zc at *
        generalize sgB (a.getD j 0) = za at *
        generalize sgB (b.getD j 0) = zb at *
        generalize hl : (sgS Z).take j = l at *
        generalize hq : decide (Z.take j ≠ a.take j) = q at *
        clear hl hq
        have hone : ∀ u ∈ [Value.string zc], u.oneCell' = true := by simp [Value.oneCell']
        cases q
        all_goals
          go_wp2
          go_quiet ((go_at_call 182; exact Calls.quiet_of_same (HEI.out _)))
          go_wp2_with (at_builtin; refine wpList_append_lies _ rfl (.tmp 33) (.tmp 35) 65 rfl 0 9 i0 _ 1 16 Tryz.underlying65 hi hz0 hz1 hz2 rfl (by decide) _ j l (by simp [Act.eval]; rfl) (by exact World.ownsRow.alloc HR.out _) ⟨wr.heap.size, 0, none⟩ 1 1 [.string zc] (by simp [Act.eval]) rfl (by exact Blk.news (Blk.new _ [.string zc] _)) hone (by decide) (by unfold maxLen; omega) (by omega) (Nat.zero_le _) _ rfl ?_; intro g cap w' hown hgrow hat hlt; have hap := hide (app_step HN.out (HK.out.drewN _) hgrow hat (j + 1) cap); have hc1' := (hap.out.2.cell hg1w no_elim j).trans HC1.out; have hg1' := Nat.lt_of_lt_of_le hg1w hap.out.2.size)
          go_roundg (6 - (j + 1))
          case measure => have := HKK.out; omega
          case rel =>
            refine ⟨j + 1, by omega, rfl, by go_num, by rw [HE1.out]; exact hown, ?_, hap.out.1, hap.out.2⟩
            have h2 := HE2.out
            simp only [Bool.true_or, Bool.false_or] at h2
            rw [h2]
            all_goals rw [bytes_ne, decide_not, decide_not, decide_eq_decide.2 HV.out]
      · obtain rfl : j = 6 := by omega
        go_wp2
        go_ret2
        refine ⟨_, ?_, ?_, .inr (.inr HN.out), HK.out⟩
        · rw [List.take_of_length_le (by rw [HL.out]; exact Nat.le_refl _), List.take_of_length_le (by rw [HAL.out]; exact Nat.le_refl _)]
          rfl
        · have := HR.out
          rw [List.take_of_length_le (by rw [sgS_len, HL.out]; exact Nat.le_refl _)] at this
          show Row _ _ _ _ Z.length (sgS Z)
          rw [HL.out]
          exact this
end Go.Proofs.YtellieabhaphhaaGreatDoor

/-
  narrowref's machine: what it holds; steps told.
-/
namespace Go.Proofs.YtellieabhaphhaaGreatDoor
open Go.RowKit

structure Vl where
  k : Int
  n : Int
  v : Int

def Vl.cells (x : Vl) : List Value := [.int .u8 x.k, .int .i64 x.n, .int .u8 x.v]
def vCells (l : List Vl) : List Value := l.flatMap Vl.cells
theorem vl3 (x : Vl) : x.cells.length = 3 := rfl

structure Mc where
  l : List Vl
  rd : Nat
  left : Nat
  tr : ByteArray
  out : ByteArray
  e : Int

/-- The machine: its block, and the row of its variables. -/
structure MB (w : World) (m lb : Nat) (inp : ByteArray) (st : Mc) : Prop where
  b : Blk w m [.slice (some ⟨lb, 0, none⟩) 6 6, .string inp, .int .i64 st.rd, .int .i64 st.left, .string st.tr, .string st.out, .int .i64 st.e] 128
  l : Blk w lb (vCells st.l) 163
  ne : m ≠ lb
  six : st.l.length = 6

def MK (m lb : Nat) (b : Nat) : Prop := b = m ∨ b = lb

section
variable {w : World} {m lb : Nat} {inp : ByteArray} {st : Mc}

theorem MB.c (h : MB w m lb inp st) : w.cell? ⟨m, 0, none⟩ = some (.slice (some ⟨lb, 0, none⟩) 6 6) ∧ w.cell? ⟨m, 1, none⟩ = some (.string inp) ∧ w.cell? ⟨m, 2, none⟩ = some (.int .i64 st.rd) ∧
    w.cell? ⟨m, 3, none⟩ = some (.int .i64 st.left) ∧ w.cell? ⟨m, 4, none⟩ = some (.string st.tr) ∧ w.cell? ⟨m, 5, none⟩ = some (.string st.out) ∧ w.cell? ⟨m, 6, none⟩ = some (.int .i64 st.e) ∧ ∀ o, w.frozen? ⟨m, o, none⟩ = false :=
  ⟨h.b.cell 0, h.b.cell 1, h.b.cell 2, h.b.cell 3, h.b.cell 4, h.b.cell 5, h.b.cell 6, h.b.frozen⟩

theorem MB.v (h : MB w m lb inp st) (i j : Nat) (hi : i < st.l.length) (hj : j < 3) : w.cell? ⟨lb, i * 3 + j, none⟩ = st.l[i].cells[j]? := by
  rw [h.l.cell]; exact flat_get Vl.cells 3 vl3 st.l i j hi hj

theorem MB.vs (h : MB w m lb inp st) (i : Nat) (hi : i < st.l.length) : w.cell? ⟨lb, i * 3, none⟩ = some (.int .u8 st.l[i].k) ∧ w.cell? ⟨lb, i * 3 + 1, none⟩ = some (.int .i64 st.l[i].n) ∧ w.cell? ⟨lb, i * 3 + 2, none⟩ = some (.int .u8 st.l[i].v) :=
  ⟨h.v i 0 hi (by decide), h.v i 1 hi (by decide), h.v i 2 hi (by decide)⟩

theorem MB.lt (h : MB w m lb inp st) : m < w.heap.size ∧ lb < w.heap.size := ⟨h.b.lt, h.l.lt⟩
theorem MB.n (h : MB w m lb inp st) (n : Nat) : MB (w.drewN n) m lb inp st := ⟨h.b, h.l, h.ne, h.six⟩
theorem MB.drew (h : MB w m lb inp st) : MB w.drew m lb inp st := ⟨h.b, h.l, h.ne, h.six⟩
theorem MB.alloc (h : MB w m lb inp st) (o : Obj) : MB (w.alloc o) m lb inp st := ⟨h.b.alloc o, h.l.alloc o, h.ne, h.six⟩
theorem MB.kp {S : Nat → Prop} {w' : World} (h : MB w m lb inp st) (k : Kp S w w') (h1 : ¬ S m) (h2 : ¬ S lb) : MB w' m lb inp st := ⟨k.blk h.b h1, k.blk h.l h2, h.ne, h.six⟩
theorem MB.other (h : MB w m lb inp st) {a : Addr} (v : Value) (h1 : a.block ≠ m) (h2 : a.block ≠ lb) : MB (w.setCell a v) m lb inp st := ⟨h.b.other v (Ne.symm h1), h.l.other v (Ne.symm h2), h.ne, h.six⟩
theorem MB.setLeft (h : MB w m lb inp st) (n : Nat) : MB (w.setCell ⟨m, 3, none⟩ (.int .i64 n)) m lb inp { st with left := n } := ⟨h.b.set 3 _, h.l.other _ (Ne.symm h.ne), h.ne, h.six⟩
theorem MB.setRd (h : MB w m lb inp st) (n : Nat) : MB (w.setCell ⟨m, 2, none⟩ (.int .i64 n)) m lb inp { st with rd := n } := ⟨h.b.set 2 _, h.l.other _ (Ne.symm h.ne), h.ne, h.six⟩
theorem MB.setTr (h : MB w m lb inp st) (n : ByteArray) : MB (w.setCell ⟨m, 4, none⟩ (.string n)) m lb inp { st with tr := n } := ⟨h.b.set 4 _, h.l.other _ (Ne.symm h.ne), h.ne, h.six⟩
theorem MB.setOut (h : MB w m lb inp st) (n : ByteArray) : MB (w.setCell ⟨m, 5, none⟩ (.string n)) m lb inp { st with out := n } := ⟨h.b.set 5 _, h.l.other _ (Ne.symm h.ne), h.ne, h.six⟩
theorem MB.setE (h : MB w m lb inp st) (n : Int) : MB (w.setCell ⟨m, 6, none⟩ (.int .i64 n)) m lb inp { st with e := n } := ⟨h.b.set 6 _, h.l.other _ (Ne.symm h.ne), h.ne, h.six⟩
end

def kindsB (a : ByteArray) (l : List Vl) : ByteArray := l.foldl (fun a x => a ++ strOfNums [x.k]) a

theorem kindsB_take (a : ByteArray) (l : List Vl) (j : Nat) (h : j < l.length) : kindsB a (l.take (j + 1)) = kindsB a (l.take j) ++ strOfNums [l[j].k] := by
  rw [List.take_succ_eq_append_getElem h, kindsB, List.foldl_append]; rfl

theorem str1 (k : Int) : (strOfNums [k]).size = 1 := by simp [strOfNums_size]

theorem kindsB_size (a : ByteArray) (l : List Vl) : (kindsB a l).size = a.size + l.length := by
  unfold kindsB
  induction l generalizing a with
  | nil => rfl
  | cons x l ih => rw [List.foldl_cons, ih, ByteArray.size_append, str1]; simp; omega

theorem twoB_size (n : Nat) : (twoB n).size = 2 := by simp [twoB, strOfNums_size]

def toldB (n : Nat) (l : List Vl) : ByteArray := kindsB (twoB n) l

def sp : ByteArray := ⟨#[32]⟩

set_option maxRecDepth 100000 in
set_option maxHeartbeats 1600000 in
theorem told_c {w : World} {m lb : Nat} {inp : ByteArray} {st : Mc} (n : Nat) (hn : n < 100) (h : MB w m lb inp st) (ht : st.tr.size ≤ 100000) :
    Calls Tryz.prog 130 #[.pointer (some ⟨m, 0, none⟩), .int .i64 n] w fun e w' => e = .returned (.tuple #[]) ∧ MB w' m lb inp { st with tr := st.tr ++ toldB n st.l ++ sp } ∧ Kp (MK m lb) w w' := by
  have hc := conv1
  have hlt := h.lt
  have h6 := h.six
  go_enter Tryz.func130, Tryz.ntmps130
  go_wp2_with fail
  refine (two_c n _ hn).mono ?_
  rintro e w1 ⟨rfl, k1⟩
  have h1 := h.kp k1 no_elim no_elim
  go_wp2
  go_loopg [4, 5] 6 (fun k s i wr => ∃ j : Nat, j ≤ 6 ∧ k = 6 - j ∧ i = .int .i64 j ∧ s = .string (kindsB (twoB n) (st.l.take j)) ∧ MB wr m lb inp st ∧ Kp no w wr)
  case atStart => exact ⟨0, by decide, rfl, rfl, rfl, h1, k1⟩
  case round =>
    obtain ⟨j, hj, hk, rfl, rfl, hr, kr⟩ := hrel
    have HK := hide hk
    have HKR := hide kr
    clear hk kr
    obtain ⟨c0, c1, c2, c3, c4, c5, c6, cf⟩ := hr.c
    by_cases hlt6 : j < 6
    · obtain ⟨v0, _, _⟩ := hr.vs j (by omega)
      have HT := hide (kindsB_take (twoB n) st.l j (by omega))
      have hs1 := str1 st.l[j].k
      have hsz : (kindsB (twoB n) (st.l.take j)).size ≤ 100 := by rw [kindsB_size, twoB_size, List.length_take]; omega
      generalize kindsB (twoB n) (st.l.take j) = t at *
      go_wp2
      go_roundg (6 - (j + 1))
      case measure => have := HK.out; omega
      case rel => exact ⟨j + 1, by omega, rfl, by go_num, by rw [HT.out], hr.alloc _, HKR.out.alloc _⟩
    · have hsz : (kindsB (twoB n) (st.l.take j)).size ≤ 100 := by rw [kindsB_size, twoB_size, List.length_take]; omega
      have HF := hide (show kindsB (twoB n) (st.l.take j) = toldB n st.l by rw [List.take_of_length_le (by omega)]; rfl)
      have hsp : (ByteArray.mk #[32]).size = 1 := rfl
      generalize kindsB (twoB n) (st.l.take j) = t at *
      go_wp2
      go_end0
      rw [← HF.out]
      exact ⟨rfl, hr.setTr _, (HKR.out.mono (fun _ e => e.elim)).setCell _ (fun _ => .inl rfl)⟩
end Go.Proofs.YtellieabhaphhaaGreatDoor

/-
  narrowref's machine: steps, input.
-/
namespace Go.Proofs.YtellieabhaphhaaGreatDoor
open Go.RowKit

def startF (st : Mc) (n : Nat) : Mc × Bool :=
  if st.left = 0 then ({ st with e := 4 }, false) else ({ st with left := st.left - 1, tr := st.tr ++ toldB n st.l ++ sp }, true)

set_option maxHeartbeats 1600000 in
theorem starts_c {w : World} {m lb : Nat} {inp : ByteArray} {st : Mc} (n : Nat) (hn : n < 100) (h : MB w m lb inp st) (ht : st.tr.size ≤ 100000) (hl : st.left ≤ 1000) :
    Calls Tryz.prog 85 #[.pointer (some ⟨m, 0, none⟩), .int .i64 n] w fun e w' => e = .returned (.bool (startF st n).2) ∧ MB w' m lb inp (startF st n).1 ∧ Kp (MK m lb) w w' := by
  obtain ⟨c0, c1, c2, c3, c4, c5, c6, cf⟩ := h.c
  by_cases hz : st.left = 0
  · have e1 : startF st n = ({ st with e := 4 }, false) := by simp [startF, hz]
    rw [e1]
    rw [hz] at c3
    go_enter Tryz.func85, Tryz.ntmps85
    go_wp2
    go_ret
    exact ⟨rfl, h.setE 4, (Kp.refl _ _).setCell _ (fun _ => .inl rfl)⟩
  · have e1 : startF st n = ({ st with left := st.left - 1, tr := st.tr ++ toldB n st.l ++ sp }, true) := by simp [startF, hz]
    rw [e1]
    have hp : 0 < st.left := by omega
    have HD := hide (show ((st.left : Int) - 1) = ((st.left - 1 : Nat) : Int) by omega)
    clear hz
    go_enter Tryz.func85, Tryz.ntmps85
    go_wp2_with fail
    rw [HD.out]
    refine (told_c (st := { st with left := st.left - 1 }) n hn (h.setLeft _) ht).mono ?_
    rintro e w1 ⟨rfl, h1, k1⟩
    go_wp2
    go_ret
    exact ⟨rfl, h1, Kp.trans ((Kp.refl _ _).setCell _ (fun _ => .inl rfl)) k1 (fun _ _ e => e)⟩

def inVal (c : Nat) : Vl :=
  if 48 ≤ c ∧ c ≤ 57 then ⟨110, (c : Int) - 48, 0⟩ else if c = 84 then ⟨116, 0, 0⟩ else if c = 70 then ⟨102, 0, 0⟩ else if c = 65 then ⟨65, 0, 0⟩ else if c = 66 then ⟨66, 0, 122⟩ else if c = 67 then ⟨67, 0, 0⟩ else ⟨122, 0, 0⟩

def nextF (inp : ByteArray) (st : Mc) : Vl × Mc :=
  if st.rd < inp.size then (inVal (pk inp st.rd), { st with rd := st.rd + 1 }) else (inVal 90, st)

theorem Blk.c3 {w : World} {b : Nat} {a0 a1 a2 : Value} {T : TypeId} (h : Blk w b [a0, a1, a2] T) :
    w.cell? ⟨b, 0, none⟩ = some a0 ∧ w.cell? ⟨b, 1, none⟩ = some a1 ∧ w.cell? ⟨b, 2, none⟩ = some a2 ∧ ∀ o, w.frozen? ⟨b, o, none⟩ = false :=
  ⟨h.cell 0, h.cell 1, h.cell 2, h.frozen⟩

set_option maxHeartbeats 1600000 in
theorem next_end {w : World} {m lb : Nat} {inp : ByteArray} {st : Mc} (h : MB w m lb inp st) (_ : inp.size ≤ 40) (hr : ¬ st.rd < inp.size) :
    Calls Tryz.prog 163 #[.pointer (some ⟨m, 0, none⟩)] w fun e w' => e = .returned (.agg (nextF inp st).1.cells.toArray) ∧ MB w' m lb inp (nextF inp st).2 ∧ Kp (MK m lb) w w' := by
  have HV := hide (show nextF inp st = (⟨122, 0, 0⟩, st) by simp [nextF, hr, inVal])
  obtain ⟨c0, c1, c2, c3, c4, c5, c6, cf⟩ := h.c
  have hlt := h.lt
  go_enter Tryz.func163, Tryz.ntmps163
  go_wp2
  refine wp_gen (fun W => MB W m lb inp st ∧ Blk W w.heap.size [.int .u8 0, .int .i64 0, .int .u8 0] 163 ∧ Kp (MK m lb) w W) ⟨h.alloc _, by exact Blk.new w [.int .u8 0, .int .i64 0, .int .u8 0] _, by (repeat' (first | with_reducible exact Kp.refl _ _ | with_reducible refine Kp.alloc ?_ _ | with_reducible refine Kp.drewN ?_ _ | with_reducible refine Kp.drew ?_ | with_reducible refine Kp.setCell ?_ _ ?_ | (intro hh; first | rfl | exact .inl rfl | exact .inr rfl | (exfalso; (try dsimp only at hh); omega))))⟩ ?_
  rintro W ⟨hm, hR, hk⟩
  obtain ⟨d0, d1, d2, d3, d4, d5, d6, df⟩ := hm.c
  obtain ⟨z0, z1, z2, zf⟩ := hR.c3
  clear c0 c1 c2 c3 c4 c5 c6 cf
  go_quiet (fail)
  go_wp2
  refine body_agg (Tb := 163) (b := w.heap.size) (cs := [.int .u8 122, .int .i64 0, .int .u8 0]) (.inr rfl) Tryz.results163 rfl rfl (by (repeat' (first | ((with_reducible show (_ : List Value) = _); rfl) | with_reducible exact hR | ((with_reducible refine Blk.newAt _ _ _ ?_); first | with_reducible rfl | (simp; done)) | with_reducible refine Blk.alloc ?_ _ | with_reducible refine Blk.drewN ?_ _ | with_reducible refine Blk.drew ?_ | ((with_reducible refine Blk.other ?_ _ ?_); rotate_left; ((try dsimp only); omega)) | with_reducible refine Blk.setB (cs0 := ?_) ?_ ?_))) Tryz.underlying163 rfl (by kernel_rfl) ?_
  rw [HV.out]
  exact ⟨rfl, by (show MB _ _ _ _ st); (repeat' (first | with_reducible exact (hm.n _) | with_reducible refine MB.alloc ?_ _ | with_reducible refine MB.drew ?_ | with_reducible refine MB.n ?_ _ | ((with_reducible refine MB.other ?_ _ ?_ ?_); rotate_left; ((try dsimp only); omega); ((try dsimp only); omega)))), by (repeat' (first | with_reducible exact Kp.refl _ _ | with_reducible refine Kp.alloc ?_ _ | with_reducible refine Kp.drewN ?_ _ | with_reducible refine Kp.drew ?_ | with_reducible refine Kp.setCell ?_ _ ?_ | with_reducible refine Kp.trans ?_ hk (fun _ _ e => e) | (intro hh; first | rfl | exact .inl rfl | exact .inr rfl | (exfalso; (try dsimp only at hh); omega))))⟩

set_option maxHeartbeats 3200000 in
theorem next_in {w : World} {m lb : Nat} {inp : ByteArray} {st : Mc} (h : MB w m lb inp st) (hi : inp.size ≤ 40) (hr : st.rd < inp.size) :
    Calls Tryz.prog 163 #[.pointer (some ⟨m, 0, none⟩)] w fun e w' => e = .returned (.agg (nextF inp st).1.cells.toArray) ∧ MB w' m lb inp (nextF inp st).2 ∧ Kp (MK m lb) w w' := by
  have HV := hide (show nextF inp st = (inVal (pk inp st.rd), { st with rd := st.rd + 1 }) by simp [nextF, hr])
  have HP := hide (show pk inp st.rd = (inp[st.rd]'hr).toNat by simp [pk, hr])
  obtain ⟨c0, c1, c2, c3, c4, c5, c6, cf⟩ := h.c
  have hlt := h.lt
  have hpl := pk_lt inp st.rd
  go_enter Tryz.func163, Tryz.ntmps163
  go_wp2
  refine wp_gen (fun W => MB W m lb inp st ∧ Blk W w.heap.size [.int .u8 0, .int .i64 0, .int .u8 0] 163 ∧ Kp (MK m lb) w W) ⟨h.alloc _, by exact Blk.new w [.int .u8 0, .int .i64 0, .int .u8 0] _, by (repeat' (first | with_reducible exact Kp.refl _ _ | with_reducible refine Kp.alloc ?_ _ | with_reducible refine Kp.drewN ?_ _ | with_reducible refine Kp.drew ?_ | with_reducible refine Kp.setCell ?_ _ ?_ | (intro hh; first | rfl | exact .inl rfl | exact .inr rfl | (exfalso; (try dsimp only at hh); omega))))⟩ ?_
  rintro W ⟨hm, hR, hk⟩
  obtain ⟨d0, d1, d2, d3, d4, d5, d6, df⟩ := hm.c
  obtain ⟨z0, z1, z2, zf⟩ := hR.c3
  clear c0 c1 c2 c3 c4 c5 c6 cf
  go_quiet (fail)
  go_wp2
  go_quiet (fail)
  rw [HP.out] at hpl HV
  generalize (inp[st.rd]'hr).toNat = d at *
  have hm2 : ∀ n1, MB ((W.drewN n1).setCell ⟨m, 2, none⟩ (.int .i64 ((st.rd : Int) + 1))) m lb inp { st with rd := st.rd + 1 } := fun n1 => (hm.n n1).setRd (st.rd + 1)
  by_cases g0 : 48 ≤ d ∧ d ≤ 57
  · obtain ⟨g0, g0'⟩ := g0
    have EV := hide (show inVal d = ⟨110, (d : Int) - 48, 0⟩ by simp [inVal, g0, g0'])
    rw [EV.out] at HV
    go_wp2
    all_goals
      refine body_agg (Tb := 163) (b := w.heap.size) (cs := [.int .u8 110, .int .i64 ((d : Int) - 48), .int .u8 0]) (.inr rfl) Tryz.results163 rfl rfl (by (repeat' (first | ((with_reducible show (_ : List Value) = _); rfl) | with_reducible exact hR | ((with_reducible refine Blk.newAt _ _ _ ?_); first | with_reducible rfl | (simp; done)) | with_reducible refine Blk.alloc ?_ _ | with_reducible refine Blk.drewN ?_ _ | with_reducible refine Blk.drew ?_ | ((with_reducible refine Blk.other ?_ _ ?_); rotate_left; ((try dsimp only); omega)) | with_reducible refine Blk.setB (cs0 := ?_) ?_ ?_))) Tryz.underlying163 rfl (by kernel_rfl) ?_
      rw [HV.out]
      exact ⟨rfl, by (show MB _ _ _ _ { st with rd := st.rd + 1 }); (repeat' (first | with_reducible exact (hm2 _) | with_reducible refine MB.alloc ?_ _ | with_reducible refine MB.drew ?_ | with_reducible refine MB.n ?_ _ | ((with_reducible refine MB.other ?_ _ ?_ ?_); rotate_left; ((try dsimp only); omega); ((try dsimp only); omega)))), by (repeat' (first | with_reducible exact Kp.refl _ _ | with_reducible refine Kp.alloc ?_ _ | with_reducible refine Kp.drewN ?_ _ | with_reducible refine Kp.drew ?_ | with_reducible refine Kp.setCell ?_ _ ?_ | with_reducible refine Kp.trans ?_ hk (fun _ _ e => e) | (intro hh; first | rfl | exact .inl rfl | exact .inr rfl | (exfalso; (try dsimp only at hh); omega))))⟩
  have g0' : ¬ (48 ≤ (d : Int) ∧ (d : Int) ≤ 57) := by omega
  by_cases g84 : d = 84
  · subst g84
    have EV := hide (show inVal 84 = ⟨116, 0, 0⟩ by simp [inVal])
    rw [EV.out] at HV
    go_wp2
    all_goals
      refine body_agg (Tb := 163) (b := w.heap.size) (cs := [.int .u8 116, .int .i64 0, .int .u8 0]) (.inr rfl) Tryz.results163 rfl rfl (by (repeat' (first | ((with_reducible show (_ : List Value) = _); rfl) | with_reducible exact hR | ((with_reducible refine Blk.newAt _ _ _ ?_); first | with_reducible rfl | (simp; done)) | with_reducible refine Blk.alloc ?_ _ | with_reducible refine Blk.drewN ?_ _ | with_reducible refine Blk.drew ?_ | ((with_reducible refine Blk.other ?_ _ ?_); rotate_left; ((try dsimp only); omega)) | with_reducible refine Blk.setB (cs0 := ?_) ?_ ?_))) Tryz.underlying163 rfl (by kernel_rfl) ?_
      rw [HV.out]
      exact ⟨rfl, by (show MB _ _ _ _ { st with rd := st.rd + 1 }); (repeat' (first | with_reducible exact (hm2 _) | with_reducible refine MB.alloc ?_ _ | with_reducible refine MB.drew ?_ | with_reducible refine MB.n ?_ _ | ((with_reducible refine MB.other ?_ _ ?_ ?_); rotate_left; ((try dsimp only); omega); ((try dsimp only); omega)))), by (repeat' (first | with_reducible exact Kp.refl _ _ | with_reducible refine Kp.alloc ?_ _ | with_reducible refine Kp.drewN ?_ _ | with_reducible refine Kp.drew ?_ | with_reducible refine Kp.setCell ?_ _ ?_ | with_reducible refine Kp.trans ?_ hk (fun _ _ e => e) | (intro hh; first | rfl | exact .inl rfl | exact .inr rfl | (exfalso; (try dsimp only at hh); omega))))⟩
  have f84 : ((d : Int) == 84) = false := by simp; omega
  by_cases g70 : d = 70
  · subst g70
    have EV := hide (show inVal 70 = ⟨102, 0, 0⟩ by simp [inVal])
    rw [EV.out] at HV
    go_wp2
    all_goals
      refine body_agg (Tb := 163) (b := w.heap.size) (cs := [.int .u8 102, .int .i64 0, .int .u8 0]) (.inr rfl) Tryz.results163 rfl rfl (by (repeat' (first | ((with_reducible show (_ : List Value) = _); rfl) | with_reducible exact hR | ((with_reducible refine Blk.newAt _ _ _ ?_); first | with_reducible rfl | (simp; done)) | with_reducible refine Blk.alloc ?_ _ | with_reducible refine Blk.drewN ?_ _ | with_reducible refine Blk.drew ?_ | ((with_reducible refine Blk.other ?_ _ ?_); rotate_left; ((try dsimp only); omega)) | with_reducible refine Blk.setB (cs0 := ?_) ?_ ?_))) Tryz.underlying163 rfl (by kernel_rfl) ?_
      rw [HV.out]
      exact ⟨rfl, by (show MB _ _ _ _ { st with rd := st.rd + 1 }); (repeat' (first | with_reducible exact (hm2 _) | with_reducible refine MB.alloc ?_ _ | with_reducible refine MB.drew ?_ | with_reducible refine MB.n ?_ _ | ((with_reducible refine MB.other ?_ _ ?_ ?_); rotate_left; ((try dsimp only); omega); ((try dsimp only); omega)))), by (repeat' (first | with_reducible exact Kp.refl _ _ | with_reducible refine Kp.alloc ?_ _ | with_reducible refine Kp.drewN ?_ _ | with_reducible refine Kp.drew ?_ | with_reducible refine Kp.setCell ?_ _ ?_ | with_reducible refine Kp.trans ?_ hk (fun _ _ e => e) | (intro hh; first | rfl | exact .inl rfl | exact .inr rfl | (exfalso; (try dsimp only at hh); omega))))⟩
  have f70 : ((d : Int) == 70) = false := by simp; omega
  by_cases g65 : d = 65
  · subst g65
    have EV := hide (show inVal 65 = ⟨65, 0, 0⟩ by simp [inVal])
    rw [EV.out] at HV
    go_wp2
    all_goals
      refine body_agg (Tb := 163) (b := w.heap.size) (cs := [.int .u8 65, .int .i64 0, .int .u8 0]) (.inr rfl) Tryz.results163 rfl rfl (by (repeat' (first | ((with_reducible show (_ : List Value) = _); rfl) | with_reducible exact hR | ((with_reducible refine Blk.newAt _ _ _ ?_); first | with_reducible rfl | (simp; done)) | with_reducible refine Blk.alloc ?_ _ | with_reducible refine Blk.drewN ?_ _ | with_reducible refine Blk.drew ?_ | ((with_reducible refine Blk.other ?_ _ ?_); rotate_left; ((try dsimp only); omega)) | with_reducible refine Blk.setB (cs0 := ?_) ?_ ?_))) Tryz.underlying163 rfl (by kernel_rfl) ?_
      rw [HV.out]
      exact ⟨rfl, by (show MB _ _ _ _ { st with rd := st.rd + 1 }); (repeat' (first | with_reducible exact (hm2 _) | with_reducible refine MB.alloc ?_ _ | with_reducible refine MB.drew ?_ | with_reducible refine MB.n ?_ _ | ((with_reducible refine MB.other ?_ _ ?_ ?_); rotate_left; ((try dsimp only); omega); ((try dsimp only); omega)))), by (repeat' (first | with_reducible exact Kp.refl _ _ | with_reducible refine Kp.alloc ?_ _ | with_reducible refine Kp.drewN ?_ _ | with_reducible refine Kp.drew ?_ | with_reducible refine Kp.setCell ?_ _ ?_ | with_reducible refine Kp.trans ?_ hk (fun _ _ e => e) | (intro hh; first | rfl | exact .inl rfl | exact .inr rfl | (exfalso; (try dsimp only at hh); omega))))⟩
  have f65 : ((d : Int) == 65) = false := by simp; omega
  by_cases g66 : d = 66
  · subst g66
    have EV := hide (show inVal 66 = ⟨66, 0, 122⟩ by simp [inVal])
    rw [EV.out] at HV
    go_wp2
    all_goals
      refine body_agg (Tb := 163) (b := w.heap.size) (cs := [.int .u8 66, .int .i64 0, .int .u8 122]) (.inr rfl) Tryz.results163 rfl rfl (by (repeat' (first | ((with_reducible show (_ : List Value) = _); rfl) | with_reducible exact hR | ((with_reducible refine Blk.newAt _ _ _ ?_); first | with_reducible rfl | (simp; done)) | with_reducible refine Blk.alloc ?_ _ | with_reducible refine Blk.drewN ?_ _ | with_reducible refine Blk.drew ?_ | ((with_reducible refine Blk.other ?_ _ ?_); rotate_left; ((try dsimp only); omega)) | with_reducible refine Blk.setB (cs0 := ?_) ?_ ?_))) Tryz.underlying163 rfl (by kernel_rfl) ?_
      rw [HV.out]
      exact ⟨rfl, by (show MB _ _ _ _ { st with rd := st.rd + 1 }); (repeat' (first | with_reducible exact (hm2 _) | with_reducible refine MB.alloc ?_ _ | with_reducible refine MB.drew ?_ | with_reducible refine MB.n ?_ _ | ((with_reducible refine MB.other ?_ _ ?_ ?_); rotate_left; ((try dsimp only); omega); ((try dsimp only); omega)))), by (repeat' (first | with_reducible exact Kp.refl _ _ | with_reducible refine Kp.alloc ?_ _ | with_reducible refine Kp.drewN ?_ _ | with_reducible refine Kp.drew ?_ | with_reducible refine Kp.setCell ?_ _ ?_ | with_reducible refine Kp.trans ?_ hk (fun _ _ e => e) | (intro hh; first | rfl | exact .inl rfl | exact .inr rfl | (exfalso; (try dsimp only at hh); omega))))⟩
  have f66 : ((d : Int) == 66) = false := by simp; omega
  by_cases g67 : d = 67
  · subst g67
    have EV := hide (show inVal 67 = ⟨67, 0, 0⟩ by simp [inVal])
    rw [EV.out] at HV
    go_wp2
    all_goals
      refine body_agg (Tb := 163) (b := w.heap.size) (cs := [.int .u8 67, .int .i64 0, .int .u8 0]) (.inr rfl) Tryz.results163 rfl rfl (by (repeat' (first | ((with_reducible show (_ : List Value) = _); rfl) | with_reducible exact hR | ((with_reducible refine Blk.newAt _ _ _ ?_); first | with_reducible rfl | (simp; done)) | with_reducible refine Blk.alloc ?_ _ | with_reducible refine Blk.drewN ?_ _ | with_reducible refine Blk.drew ?_ | ((with_reducible refine Blk.other ?_ _ ?_); rotate_left; ((try dsimp only); omega)) | with_reducible refine Blk.setB (cs0 := ?_) ?_ ?_))) Tryz.underlying163 rfl (by kernel_rfl) ?_
      rw [HV.out]
      exact ⟨rfl, by (show MB _ _ _ _ { st with rd := st.rd + 1 }); (repeat' (first | with_reducible exact (hm2 _) | with_reducible refine MB.alloc ?_ _ | with_reducible refine MB.drew ?_ | with_reducible refine MB.n ?_ _ | ((with_reducible refine MB.other ?_ _ ?_ ?_); rotate_left; ((try dsimp only); omega); ((try dsimp only); omega)))), by (repeat' (first | with_reducible exact Kp.refl _ _ | with_reducible refine Kp.alloc ?_ _ | with_reducible refine Kp.drewN ?_ _ | with_reducible refine Kp.drew ?_ | with_reducible refine Kp.setCell ?_ _ ?_ | with_reducible refine Kp.trans ?_ hk (fun _ _ e => e) | (intro hh; first | rfl | exact .inl rfl | exact .inr rfl | (exfalso; (try dsimp only at hh); omega))))⟩
  have f67 : ((d : Int) == 67) = false := by simp; omega
  have EV := hide (show inVal d = ⟨122, 0, 0⟩ by simp [inVal, g0, g84, g70, g65, g66, g67])
  rw [EV.out] at HV
  go_wp2
  all_goals
    refine body_agg (Tb := 163) (b := w.heap.size) (cs := [.int .u8 122, .int .i64 0, .int .u8 0]) (.inr rfl) Tryz.results163 rfl rfl (by (repeat' (first | ((with_reducible show (_ : List Value) = _); rfl) | with_reducible exact hR | ((with_reducible refine Blk.newAt _ _ _ ?_); first | with_reducible rfl | (simp; done)) | with_reducible refine Blk.alloc ?_ _ | with_reducible refine Blk.drewN ?_ _ | with_reducible refine Blk.drew ?_ | ((with_reducible refine Blk.other ?_ _ ?_); rotate_left; ((try dsimp only); omega)) | with_reducible refine Blk.setB (cs0 := ?_) ?_ ?_))) Tryz.underlying163 rfl (by kernel_rfl) ?_
    rw [HV.out]
    exact ⟨rfl, by (show MB _ _ _ _ { st with rd := st.rd + 1 }); (repeat' (first | with_reducible exact (hm2 _) | with_reducible refine MB.alloc ?_ _ | with_reducible refine MB.drew ?_ | with_reducible refine MB.n ?_ _ | ((with_reducible refine MB.other ?_ _ ?_ ?_); rotate_left; ((try dsimp only); omega); ((try dsimp only); omega)))), by (repeat' (first | with_reducible exact Kp.refl _ _ | with_reducible refine Kp.alloc ?_ _ | with_reducible refine Kp.drewN ?_ _ | with_reducible refine Kp.drew ?_ | with_reducible refine Kp.setCell ?_ _ ?_ | with_reducible refine Kp.trans ?_ hk (fun _ _ e => e) | (intro hh; first | rfl | exact .inl rfl | exact .inr rfl | (exfalso; (try dsimp only at hh); omega))))⟩

theorem next_c {w : World} {m lb : Nat} {inp : ByteArray} {st : Mc} (h : MB w m lb inp st) (hi : inp.size ≤ 40) :
    Calls Tryz.prog 163 #[.pointer (some ⟨m, 0, none⟩)] w fun e w' => e = .returned (.agg (nextF inp st).1.cells.toArray) ∧ MB w' m lb inp (nextF inp st).2 ∧ Kp (MK m lb) w w' := by
  by_cases hr : st.rd < inp.size
  · exact next_in h hi hr
  · exact next_end h hi hr
end Go.Proofs.YtellieabhaphhaaGreatDoor
