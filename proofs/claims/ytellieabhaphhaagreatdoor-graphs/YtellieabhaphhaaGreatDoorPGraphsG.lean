import Derived.Test.YtellieabhaphhaaGreatDoorPGraphsF
/-
  Plain: both readers come to the same place in a source.
-/
namespace Go.Proofs.YtellieabhaphhaaGreatDoor
open Go.RowKit

/-- Where a condition ends. -/
def cndP : Nat → ByteArray → Nat × Bool → Nat × Bool
  | 0, _, p => p
  | f + 1, s, p => if pkb s p = 33 then cndP f s (p.1 + 1, false) else if pkb s p = 38 ∨ pkb s p = 124 then cndP f s (cndP f s (p.1 + 1, false)) else (tstF s p).2

def stP (f : Nat) (S : Bool → Nat × Bool → Nat × Bool) (s : ByteArray) (lp : Bool) (p : Nat × Bool) : Nat × Bool :=
  if pkb s p = 40 then expF s (S lp (expF s (S lp (expF s (cndP f s (p.1 + 1, false)) [123])) [125, 123])) [125, 41]
  else if pkb s p = 91 then expF s (S true (expF s (cndP f s (p.1 + 1, false)) [123])) [125, 93]
  else if pkb s p = 62 then (if lp then expF s p [62, 59] else (p.1, true))
  else if pkb s p = 60 then (if lp then expF s p [60, 59] else (p.1, true))
  else expF s (nacF s p).2 [59]

def stmP : Nat → ByteArray → Bool → Nat × Bool → Nat × Bool
  | 0, _, _, p => p
  | f + 1, s, lp, p => if pkb s p ≠ 125 ∧ pkb s p ≠ 0 then stmP f s lp (stP f (stmP f s) s lp p) else p

theorem condM_pos : ∀ (f : Nat) (s : ByteArray) (yes no : Int) (m : MS), (condM f s yes no m).p = cndP f s m.p
  | 0, _, _, _, _ => rfl
  | f + 1, s, yes, no, m => by
    rw [condM, cndP]
    split
    · rename_i hc
      rw [condM_pos f, expM_p, (eat_at (c := 33) hc (by decide)).1]
    split
    · rename_i _ hc
      rw [if_pos (.inl hc), condM_pos f, layM_p, condM_pos f, newM_p, expM_p, (eat_at (c := 38) hc (by decide)).1]
    split
    · rename_i _ _ hc
      rw [if_pos (.inr hc), condM_pos f, layM_p, condM_pos f, newM_p, expM_p, (eat_at (c := 124) hc (by decide)).1]
    · rename_i h1 h2 h3
      rw [if_neg (by omega)]
      rfl

def lpOk (lp : Bool) (h b : Int) : Prop := (lp = true ∧ h ≠ -1 ∧ b ≠ -1) ∨ (lp = false ∧ h = -1 ∧ b = -1)

theorem stM_pos {f : Nat} {s : ByteArray} {S : Int → Int → MS → MS} {P : Bool → Nat × Bool → Nat × Bool} {lp : Bool} {h b : Int} {m : MS} (hl : lpOk lp h b)
    (hS : ∀ lp h b m, lpOk lp h b → (S h b m).p = P lp m.p) : (stM f S s h b m).p = stP f P s lp m.p := by
  unfold stM stP
  split
  · rename_i hc
    unfold choM
    dsimp only
    rw [layM_p, expM_p, hS lp h b _ hl, layM_p, jmpM_p, expM_p, hS lp h b _ hl, layM_p, expM_p, condM_pos, expM_p, new3_p, (eat_at (c := 40) hc (by decide)).1]
  split
  · rename_i hc
    unfold lopM
    dsimp only
    rw [layM_p, jmpM_p, expM_p, hS true _ _ _ (.inl ⟨rfl, by omega, by omega⟩), layM_p, expM_p, condM_pos, layM_p, expM_p, new3_p, (eat_at (c := 91) hc (by decide)).1]
  split
  · unfold lepM
    rcases hl with ⟨rfl, _, h2⟩ | ⟨rfl, _, h2⟩
    · rw [if_neg h2, if_pos rfl]; rfl
    · rw [if_pos h2, if_neg (by decide)]; rfl
  split
  · unfold lepM
    rcases hl with ⟨rfl, h2, _⟩ | ⟨rfl, h2, _⟩
    · rw [if_neg h2, if_pos rfl]; rfl
    · rw [if_pos h2, if_neg (by decide)]; rfl
  · rfl

theorem stmM_pos : ∀ (f : Nat) (s : ByteArray) (lp : Bool) (h b : Int) (m : MS), lpOk lp h b → (stmM f s h b m).p = stmP f s lp m.p
  | 0, _, _, _, _, _, _ => rfl
  | f + 1, s, lp, h, b, m, hl => by
    rw [stmM, stmP]
    split
    · rw [stmM_pos f s lp h b _ hl, stM_pos hl (fun lp h b m hl => stmM_pos f s lp h b m hl)]
    · rfl

theorem cndP_ge : ∀ (f : Nat) (s : ByteArray) (p : Nat × Bool), p.1 ≤ (cndP f s p).1
  | 0, _, _ => Nat.le_refl _
  | f + 1, s, p => by
    rw [cndP]
    split
    · have := cndP_ge f s (p.1 + 1, false); simp only at this; omega
    split
    · have h1 := cndP_ge f s (p.1 + 1, false)
      have h2 := cndP_ge f s (cndP f s (p.1 + 1, false))
      simp only at h1; omega
    · have h1 := varF_ge s p
      unfold tstF queF
      split
      · have h2 := kindF_ge s ((varF s p).2.1 + 1, false)
        show p.1 ≤ (kindF s ((varF s p).2.1 + 1, false)).2.1
        simp only at h2; omega
      · exact h1.1

-- the other reader
theorem cndP_bad (f : Nat) (s : ByteArray) (i : Nat) : cndP f s (i, true) = (i, true) := by
  cases f with
  | zero => rfl
  | succ f =>
    rw [cndP, pkb_true, if_neg (by decide), if_neg (by decide)]
    unfold tstF queF varF
    simp [pkb]

theorem condF_pos : ∀ (f : Nat) (s : ByteArray) (st : RS), st.bad = false → s.size - st.i < f → ((condF f s st).i, (condF f s st).bad) = cndP f s (st.i, false)
  | 0, _, _, _, h => by omega
  | f + 1, s, st, hb, hf => by
    rw [condF, cndP, pkb_false]
    cases hop : isOp (pk s st.i)
    · simp only [Bool.false_eq_true, if_false]
      simp only [isOp, Bool.or_eq_false_iff, beq_eq_false_iff_ne] at hop
      obtain ⟨⟨h1, h2⟩, h3⟩ := hop
      rw [if_neg h1, if_neg (by omega), (tst_ref s st.i).1]
      rfl
    · have hin := isOp_in hop
      simp only [if_true]
      have hd : pk s st.i = 33 ∨ pk s st.i = 38 ∨ pk s st.i = 124 := by simp only [isOp, Bool.or_eq_true, beq_iff_eq] at hop; omega
      have ih := condF_pos f s { st with i := st.i + 1, items := st.items ++ [⟨pk s st.i, 0, 0, 0⟩] } hb (by simp only []; omega)
      generalize condF f s { st with i := st.i + 1, items := st.items ++ [⟨pk s st.i, 0, 0, 0⟩] } = c1 at *
      have ih' : (c1.i, c1.bad) = cndP f s (st.i + 1, false) := ih
      by_cases h33 : pk s st.i = 33
      · have e1 : ¬ ((pk s st.i != 33 && !c1.bad) = true) := by simp [h33]
        rw [if_pos h33, if_neg e1]
        exact ih'
      · have e2 : pk s st.i = 38 ∨ pk s st.i = 124 := by omega
        rw [if_neg h33, if_pos e2]
        cases hcb : c1.bad
        · have e3 : (pk s st.i != 33 && !false) = true := by simp [h33]
          rw [if_pos e3, ← ih', hcb]
          have hge : st.i + 1 ≤ c1.i := by
            have := cndP_ge f s (st.i + 1, false)
            rw [← ih'] at this
            exact this
          exact condF_pos f s c1 hcb (by omega)
        · have e3 : ¬ ((pk s st.i != 33 && !true) = true) := by simp
          rw [if_neg e3, ← ih', hcb, cndP_bad]
          show (c1.i, c1.bad) = _
          rw [hcb]

theorem stmP_bad (f : Nat) (s : ByteArray) (lp : Bool) (i : Nat) : stmP f s lp (i, true) = (i, true) := by
  cases f with
  | zero => rfl
  | succ f => rw [stmP, pkb_true, if_neg (by simp)]

/-- The two places: the same, but that one reader stays at a byte that is none, where the other one says so. -/
def Rp2 (s : ByteArray) (p q : Nat × Bool) : Prop := p = q ∨ (∃ i, p = (i, false) ∧ q = (i, true) ∧ pk s i = 0)

theorem Rp2.exp {s : ByteArray} {p q : Nat × Bool} (h : Rp2 s p q) (l : List UInt8) : expF s p (125 :: l) = expF s q (125 :: l) := by
  rcases h with rfl | ⟨i, rfl, rfl, h0⟩
  · rfl
  · show expF s (eatF s (i, false) 125) l = expF s (eatF s (i, true) 125) l
    have e1 : eatF s (i, false) 125 = (i, true) := by rw [eatF_pkb s _ 125 (by decide), pkb_false, h0, if_neg (by decide)]
    have e2 : eatF s (i, true) 125 = (i, true) := by unfold eatF; simp
    rw [e1, e2]

abbrev psn (st : RS) : Nat × Bool := (st.i, st.bad)

/-- What is asked of the two ways to read statements within. -/
def SRl (s : ByteArray) (n : Nat) (S : RS → RS) (P : Bool → Nat × Bool → Nat × Bool) : Prop :=
  ∀ st, Inv s st → st.bad = false → s.size - st.i < n → Rp2 s (P (decide (st.loops ≠ 0)) (psn st)) (psn (S st))

theorem blk_psn {s : ByteArray} {n : Nat} {S : RS → RS} {P : Bool → Nat × Bool → Nat × Bool} (hS : SRl s n S P) (hP : ∀ lp i, P lp (i, true) = (i, true)) {st : RS} (hI : Inv s st) (hn : s.size - st.i < n) (l : List UInt8) :
    expF s (P (decide (st.loops ≠ 0)) (expF s (psn st) [123])) (125 :: l) = expF s (psn (blkF S s st)) l := by
  have h1 := eatS_good (c := 123) (by decide) hI
  have e1 : expF s (psn st) [123] = psn (eatS s st 123) := rfl
  rw [e1]
  unfold blkF
  have hlo : (eatS s st 123).loops = st.loops := rfl
  cases hb : (eatS s st 123).bad
  · rw [if_neg (by decide)]
    have hr := hS (eatS s st 123) h1.1.inv hb (by have := h1.1.mono.i; omega)
    rw [hlo] at hr
    have := hr.exp l
    rw [this]
    rfl
  · rw [if_pos rfl]
    have e2 : psn (eatS s st 123) = ((eatS s st 123).i, true) := Prod.ext rfl hb
    rw [e2, hP]
    show expF s (eatF s ((eatS s st 123).i, true) 125) l = expF s (eatF s (psn (eatS s st 123)) 125) l
    rw [e2]
end Go.Proofs.YtellieabhaphhaaGreatDoor

/-
  Plain: both readers say the same of a source: whether it is one, and where not.
-/
namespace Go.Proofs.YtellieabhaphhaaGreatDoor
open Go.RowKit

theorem blk_mono {s : ByteArray} {n : Nat} {S : RS → RS} (hG : SGood s n S) {st : RS} (hI : Inv s st) (hn : s.size - st.i < n) : Inv s (blkF S s st) ∧ st.i ≤ (blkF S s st).i ∧ (blkF S s st).loops = st.loops :=
  let g := blkF_good hG hI hn
  ⟨g.inv, g.mono.i, g.loops⟩

theorem st_psn {f : Nat} {s : ByteArray} {S : RS → RS} {P : Bool → Nat × Bool → Nat × Bool} (hG : SGood s f S) (hS : SRl s f S P) (hP : ∀ lp i, P lp (i, true) = (i, true)) {st : RS} (hI : Inv s st) (hb : st.bad = false) (hi : st.i < s.size) (hf : s.size - st.i < f + 1) :
    stP f P s (decide (st.loops ≠ 0)) (psn st) = psn (stF f S s st) := by
  have hp : psn st = (st.i, false) := Prod.ext rfl hb
  rw [hp]
  unfold stP stF
  rw [pkb_false]
  by_cases h40 : pk s st.i = 40
  · rw [if_pos h40, if_pos h40]
    unfold ifF
    have i1 := pushI_good (k := 105) (n := 0) hb hi hI
    have c1 := condF_pos f s (pushI (nextI st) 105 0) hb (by show s.size - (st.i + 1) < f; omega)
    have g1 := condF_good (f := f) (st := pushI (nextI st) 105 0) (by show s.size - (st.i + 1) < f; omega) hb i1.inv
    have hlo : (condF f s (pushI (nextI st) 105 0)).loops = st.loops := g1.loops
    have hge : st.i + 1 ≤ (condF f s (pushI (nextI st) 105 0)).i := g1.mono.i
    have c1' : psn (condF f s (pushI (nextI st) 105 0)) = cndP f s (st.i + 1, false) := c1
    have hinv := g1.inv
    generalize condF f s (pushI (nextI st) 105 0) = c at *
    rw [← c1', ← hlo]
    have b1 := blk_psn hS hP hinv (by omega) [123]
    obtain ⟨m1, m2, m3⟩ := blk_mono hG hinv (by omega)
    have e1 := elseAt_good (k := st.items.length) m1
    have hlo2 : (elseAt (blkF S s c) st.items.length).loops = c.loops := m3
    have hge2 : c.i ≤ (elseAt (blkF S s c) st.items.length).i := m2
    have ep : psn (elseAt (blkF S s c) st.items.length) = psn (blkF S s c) := rfl
    have b2 := blk_psn hS hP e1.inv (by omega) [41]
    rw [hlo2, ep] at b2
    rw [b1, b2]
    rfl
  rw [if_neg h40, if_neg h40]
  by_cases h91 : pk s st.i = 91
  · rw [if_pos h91, if_pos h91]
    unfold whF
    dsimp only
    have i1 := pushI_good (k := 119) (n := 0) hb hi hI
    have c1 := condF_pos f s (pushI (nextI st) 119 0) hb (by show s.size - (st.i + 1) < f; omega)
    have g1 := condF_good (f := f) (st := pushI (nextI st) 119 0) (by show s.size - (st.i + 1) < f; omega) hb i1.inv
    have hlo : (condF f s (pushI (nextI st) 119 0)).loops = st.loops := g1.loops
    have hge : st.i + 1 ≤ (condF f s (pushI (nextI st) 119 0)).i := g1.mono.i
    have c1' : psn (condF f s (pushI (nextI st) 119 0)) = cndP f s (st.i + 1, false) := c1
    have hinv := g1.inv
    generalize condF f s (pushI (nextI st) 119 0) = c at *
    have hlp := hI.lp
    have i2 : Inv s { c with loops := c.loops + 1 } := ⟨hinv.i, hinv.n, hinv.t, by show c.loops + 1 ≤ c.i; omega⟩
    have b1 := blk_psn (st := { c with loops := c.loops + 1 }) hS hP i2 (by show s.size - c.i < f; omega) [93]
    have e1 : decide (({ c with loops := c.loops + 1 } : RS).loops ≠ 0) = true := by simp
    have e2 : psn ({ c with loops := c.loops + 1 } : RS) = psn c := rfl
    rw [e1, e2] at b1
    rw [← c1', b1]
    rfl
  rw [if_neg h91, if_neg h91]
  by_cases h62 : pk s st.i = 62
  · have hor : pk s st.i = 62 ∨ pk s st.i = 60 := .inl h62
    rw [if_pos h62, if_pos hor]
    by_cases hl : st.loops = 0
    · have hd : ¬ (decide (st.loops ≠ 0) = true) := by simp [hl]
      rw [if_neg hd, if_pos hl]
    · have hd : decide (st.loops ≠ 0) = true := by simp [hl]
      rw [if_pos hd, if_neg hl, exp_head (s := s) (p := (st.i, false)) (c := 62) (l := [59]) (by rw [pkb_false]; exact h62) (by decide)]
      show expF s (st.i + 1, false) [59] = eatF s (st.i + 1, st.bad) 59
      rw [hb]
      rfl
  rw [if_neg h62]
  by_cases h60 : pk s st.i = 60
  · have hor : pk s st.i = 62 ∨ pk s st.i = 60 := .inr h60
    rw [if_pos h60, if_pos hor]
    by_cases hl : st.loops = 0
    · have hd : ¬ (decide (st.loops ≠ 0) = true) := by simp [hl]
      rw [if_neg hd, if_pos hl]
    · have hd : decide (st.loops ≠ 0) = true := by simp [hl]
      rw [if_pos hd, if_neg hl, exp_head (s := s) (p := (st.i, false)) (c := 60) (l := [59]) (by rw [pkb_false]; exact h60) (by decide)]
      show expF s (st.i + 1, false) [59] = eatF s (st.i + 1, st.bad) 59
      rw [hb]
      rfl
  have hor : ¬ (pk s st.i = 62 ∨ pk s st.i = 60) := by omega
  rw [if_neg h60, if_neg hor, (nac_ref s st.i).1]
  rfl

theorem act_none {s : ByteArray} {st : RS} (h : pk s st.i = 0 ∨ pk s st.i = 125) : psn (actF s st) = (st.i, true) := by
  have hv := varF_no s st.i (by omega)
  have e1 : eatF s (st.i, true) 61 = (st.i, true) := by unfold eatF; simp
  have hs : (simpF s st.i).2 = (st.i, true) := by
    unfold simpF
    rw [if_neg (by omega), if_neg (by omega), hv, if_neg (fun e => by cases e.1), e1, if_pos rfl]
  show eatF s (simpF s st.i).2 59 = _
  rw [hs]
  unfold eatF; simp

theorem stmts_bad (f : Nat) (s : ByteArray) (e : Nat) (st : RS) (h : st.bad = true) : stmtsF f s e st = st := by
  cases f with
  | zero => rfl
  | succ f => rw [stmtsF, if_neg (fun k => by rw [h] at k; cases k.1)]

theorem pk_end {s : ByteArray} {i : Nat} (h : ¬ i < s.size) : pk s i = 0 := by unfold pk; rw [dif_neg h]

theorem stms_psn : ∀ (f : Nat) (s : ByteArray), SRl s f (stmtsF f s 125) (stmP f s)
  | 0, s => fun st _ _ _ => .inl rfl
  | f + 1, s => fun st hI hb hf => by
    have hp : psn st = (st.i, false) := Prod.ext rfl hb
    rw [stmtsF]
    by_cases h125 : pk s st.i = 125
    · rw [if_neg (fun k => k.2.1 h125)]
      refine .inl ?_
      rw [hp, stmP, pkb_false, if_neg (by omega)]
    by_cases hi : st.i < s.size
    · rw [if_pos ⟨hb, h125, hi⟩]
      by_cases h0 : pk s st.i = 0
      · refine .inr ⟨st.i, ?_, ?_, h0⟩
        · rw [hp, stmP, pkb_false, if_neg (by omega)]
        · have e : stF f (stmtsF f s 125) s st = actF s st := by
            unfold stF
            rw [if_neg (by omega), if_neg (by omega), if_neg (by omega)]
          have ha := act_none (st := st) (.inl h0)
          rw [e, stmts_bad f s 125 _ (congrArg Prod.snd ha)]
          exact ha
      · have hs := st_psn (stmtsF_good f s 125) (stms_psn f s) (stmP_bad f s) hI hb hi hf
        have hg := stF_good (stmtsF_good f s 125) hI hb hi hf
        have hl0 : decide (st.loops ≠ 0) = decide ((stF f (stmtsF f s 125) s st).loops ≠ 0) := by rw [hg.1.loops]
        have hstep : stmP (f + 1) s (decide (st.loops ≠ 0)) (psn st) = stmP f s (decide (st.loops ≠ 0)) (psn (stF f (stmtsF f s 125) s st)) := by
          rw [← hs, hp, stmP, pkb_false, if_pos ⟨h125, h0⟩]
        rw [hstep, hl0]
        generalize stF f (stmtsF f s 125) s st = x at *
        cases hxb : x.bad
        · exact stms_psn f s x hg.1.inv hxb (by have := hg.2 hxb; have := hg.1.inv.i; omega)
        · rw [stmts_bad f s 125 x hxb]
          have e : psn x = (x.i, true) := Prod.ext rfl hxb
          rw [e, stmP_bad]
          exact .inl rfl
    · rw [if_neg (fun k => hi k.2.2)]
      refine .inl ?_
      rw [hp, stmP, pkb_false, if_neg (by rw [pk_end hi]; simp)]

theorem top_psn : ∀ (f : Nat) (s : ByteArray) (st : RS), Inv s st → st.bad = false → s.size - st.i < f → st.loops = 0 →
    stmP f s false (psn st) = psn (stmtsF f s 0 st) ∨ (∃ i, stmP f s false (psn st) = (i, false) ∧ psn (stmtsF f s 0 st) = (i, true) ∧ pk s i = 125)
  | 0, s, st, _, _, h, _ => by omega
  | f + 1, s, st, hI, hb, hf, hl => by
    have hp : psn st = (st.i, false) := Prod.ext rfl hb
    rw [stmtsF]
    by_cases h0 : pk s st.i = 0
    · rw [if_neg (fun k => k.2.1 h0)]
      refine .inl ?_
      rw [hp, stmP, pkb_false, if_neg (by omega)]
    have hi := pk_in s st.i h0
    rw [if_pos ⟨hb, h0, hi⟩]
    by_cases h125 : pk s st.i = 125
    · refine .inr ⟨st.i, ?_, ?_, h125⟩
      · rw [hp, stmP, pkb_false, if_neg (by omega)]
      · have e : stF f (stmtsF f s 125) s st = actF s st := by
          unfold stF
          rw [if_neg (by omega), if_neg (by omega), if_neg (by omega)]
        have ha := act_none (st := st) (.inr h125)
        rw [e, stmts_bad f s 0 _ (congrArg Prod.snd ha)]
        exact ha
    · have hs := st_psn (stmtsF_good f s 125) (stms_psn f s) (stmP_bad f s) hI hb hi hf
      have hg := stF_good (stmtsF_good f s 125) hI hb hi hf
      have hd : decide (st.loops ≠ 0) = false := by simp [hl]
      rw [hd] at hs
      have hstep : stmP (f + 1) s false (psn st) = stmP f s false (psn (stF f (stmtsF f s 125) s st)) := by
        rw [← hs, hp, stmP, pkb_false, if_pos ⟨h125, h0⟩]
      rw [hstep]
      have hl2 : (stF f (stmtsF f s 125) s st).loops = 0 := by rw [hg.1.loops]; exact hl
      generalize stF f (stmtsF f s 125) s st = x at *
      cases hxb : x.bad
      · exact top_psn f s x hg.1.inv hxb (by have := hg.2 hxb; have := hg.1.inv.i; omega) hl2
      · rw [stmts_bad f s 0 x hxb]
        have e : psn x = (x.i, true) := Prod.ext rfl hxb
        rw [e, stmP_bad]
        exact .inl rfl

theorem src_same (s : ByteArray) : srE s = ((if srcBad s then 2 else 0), (if srcBad s then ((srcF s).i : Int) else 0)) := by
  have hm : (srM s).p = stmP (s.size + 1) s false (0, false) := stmM_pos (s.size + 1) s false (-1) (-1) ms0 (.inr ⟨rfl, rfl, rfl⟩)
  have ht := top_psn (s.size + 1) s rs0 (inv0 s) rfl (by show s.size - 0 < _; omega) rfl
  have hi := (srcF_good s).inv.i
  have e0 : psn rs0 = (0, false) := rfl
  rw [e0, ← hm] at ht
  unfold srE srcBad
  rcases ht with h | ⟨i, h1, h2, h3⟩
  · have h1 : (srM s).p = ((srcF s).i, (srcF s).bad) := h
    rw [h1]
    dsimp only
    cases hb : (srcF s).bad
    · by_cases hlt : (srcF s).i < s.size
      · rw [if_pos (.inr (by omega))]
        simp [hlt]
      · rw [if_neg (by simp; omega)]
        simp [hlt]
    · rw [if_pos (.inl rfl)]
      simp
  · have h2' : ((srcF s).i, (srcF s).bad) = (i, true) := h2
    have hb : (srcF s).bad = true := congrArg Prod.snd h2'
    have hii : (srcF s).i = i := congrArg Prod.fst h2'
    have hlt := pk_in s i (by omega)
    rw [h1, hb, hii, if_pos (.inr (by show i ≠ s.size; omega))]
    simp
end Go.Proofs.YtellieabhaphhaaGreatDoor

/-
  narrowref.Graph: where a condition begins, where pieces begin.
-/
namespace Go.Proofs.YtellieabhaphhaaGreatDoor
open Go.RowKit

/-- The node at which the condition from item i on begins. -/
def firG : Nat → List It → Nat → Option Int
  | 0, _, _ => none
  | f + 1, IT, i => match IT[i]? with | none => none | some it => if it.k = 99 then some it.n else firG f IT (i + 1)

set_option maxHeartbeats 1600000 in
theorem first_c {r : Nat} {s : ByteArray} {st : RS} {O : Nat → Prop} (F i : Nat) (n : Int) (w : World) (h : Rp w r s st O) (hl : st.items.length ≤ 1000) (hE : firG F st.items i = some n) :
    Calls Tryz.prog 159 #[.pointer (some ⟨r, 0, none⟩), .int .i64 i] w fun e w' => e = .returned (.int .i64 n) ∧ Kp no w w' := by
  have HE := hide hE
  clear hE
  go_enter Tryz.func159, Tryz.ntmps159
  go_wp2
  go_loopg [1] F (fun k iv wr => ∃ j : Nat, iv = .int .i64 j ∧ firG k st.items j = some n ∧ Kp no w wr)
  case atStart => exact ⟨i, rfl, HE.out, Kp.refl _ _⟩
  case round =>
    obtain ⟨j, rfl, hj, kr⟩ := hrel
    have HKR := hide kr
    have hr := h.kp kr (fun _ _ => no_elim)
    obtain ⟨c0, c1, c2, c5, cf⟩ := hr.c
    have hrl := hr.lt r hr.own
    clear kr
    cases gk with
    | zero => simp [firG] at hj
    | succ k =>
      rw [firG] at hj
      cases hit : st.items[j]? with
      | none => rw [hit] at hj; simp at hj
      | some it =>
        rw [hit] at hj
        dsimp only at hj
        obtain ⟨g, cap, hjl, hog, q4, i0, i1, i2, i3⟩ := hr.itemAt hit
        have hgl := hr.lt g hog
        have hjI : (j : Int) < st.items.length := by omega
        obtain ⟨ik, inn, iel, ien⟩ := it
        dsimp only at hj i0 i1 i2 i3
        by_cases hk : ik = 99
        · rw [if_pos hk] at hj
          obtain rfl : inn = n := by simpa using hj
          subst hk
          clear hj hit
          go_wp2
          go_ret
          exact ⟨rfl, HKR.out⟩
        · rw [if_neg hk] at hj
          have hk' : ((ik : Int) != 99) = true := by simp [hk]
          have HJ := hide hj
          clear hj hit hk
          go_wp2
          go_roundg k
          case measure => omega
          case rel => exact ⟨j + 1, by go_num, HJ.out, HKR.out⟩

/-- Where the pieces from i up to e begin. -/
def entO (IT : List It) (i e : Nat) (nx ou ag : Int) : Option Int :=
  if e ≤ i then some nx else match IT[i]? with | none => none | some it => if it.k = 115 then some it.n else if it.k = 62 then some ou else if it.k = 60 then some ag else firG (IT.length + 1) IT (i + 1)

set_option maxRecDepth 100000 in
set_option maxHeartbeats 1600000 in
theorem entry_c {r : Nat} {s : ByteArray} {st : RS} {O : Nat → Prop} (i e : Nat) (nx ou ag n : Int) (w : World) (h : Rp w r s st O) (hl : st.items.length ≤ 1000) (hE : entO st.items i e nx ou ag = some n) :
    Calls Tryz.prog 127 #[.pointer (some ⟨r, 0, none⟩), .int .i64 i, .int .i64 e, .agg #[.int .i64 nx, .int .i64 ou, .int .i64 ag]] w fun x w' => x = .returned (.int .i64 n) ∧ Kp no w w' := by
  unfold entO at hE
  obtain ⟨c0, c1, c2, c5, cf⟩ := h.c
  have hrl := h.lt r h.own
  by_cases hie : e ≤ i
  · rw [if_pos hie] at hE
    obtain rfl : nx = n := by simpa using hE
    have hie' : (e : Int) ≤ i := by omega
    clear hE hie
    go_enter Tryz.func127, Tryz.ntmps127
    go_wp2
    go_ret
    exact ⟨rfl, by (repeat' (first | with_reducible exact Kp.refl _ _ | with_reducible refine Kp.alloc ?_ _ | with_reducible refine Kp.drewN ?_ _ | with_reducible refine Kp.drew ?_ | with_reducible refine Kp.setCell ?_ _ ?_ | (intro hh; first | rfl | exact .inl rfl | exact .inr rfl | (exfalso; (try dsimp only at hh); omega))))⟩
  · rw [if_neg hie] at hE
    have hie' : ¬ (e : Int) ≤ i := by omega
    cases hit : st.items[i]? with
    | none => rw [hit] at hE; simp at hE
    | some it =>
      rw [hit] at hE
      dsimp only at hE
      obtain ⟨g, cap, hjl, hog, q4, i0, i1, i2, i3⟩ := h.itemAt hit
      have hgl := h.lt g hog
      have hjI : (i : Int) < st.items.length := by omega
      obtain ⟨ik, inn, iel, ien⟩ := it
      dsimp only at hE i0 i1 i2 i3
      clear hit hie
      by_cases h1 : ik = 115
      · rw [if_pos h1] at hE
        obtain rfl : inn = n := by simpa using hE
        subst h1
        clear hE
        go_enter Tryz.func127, Tryz.ntmps127
        go_wp2
        go_ret
        exact ⟨rfl, by (repeat' (first | with_reducible exact Kp.refl _ _ | with_reducible refine Kp.alloc ?_ _ | with_reducible refine Kp.drewN ?_ _ | with_reducible refine Kp.drew ?_ | with_reducible refine Kp.setCell ?_ _ ?_ | (intro hh; first | rfl | exact .inl rfl | exact .inr rfl | (exfalso; (try dsimp only at hh); omega))))⟩
      rw [if_neg h1] at hE
      by_cases h2 : ik = 62
      · rw [if_pos h2] at hE
        obtain rfl : ou = n := by simpa using hE
        subst h2
        clear hE
        go_enter Tryz.func127, Tryz.ntmps127
        go_wp2
        go_ret
        exact ⟨rfl, by (repeat' (first | with_reducible exact Kp.refl _ _ | with_reducible refine Kp.alloc ?_ _ | with_reducible refine Kp.drewN ?_ _ | with_reducible refine Kp.drew ?_ | with_reducible refine Kp.setCell ?_ _ ?_ | (intro hh; first | rfl | exact .inl rfl | exact .inr rfl | (exfalso; (try dsimp only at hh); omega))))⟩
      rw [if_neg h2] at hE
      by_cases h3 : ik = 60
      · rw [if_pos h3] at hE
        obtain rfl : ag = n := by simpa using hE
        subst h3
        clear hE
        go_enter Tryz.func127, Tryz.ntmps127
        go_wp2
        go_ret
        exact ⟨rfl, by (repeat' (first | with_reducible exact Kp.refl _ _ | with_reducible refine Kp.alloc ?_ _ | with_reducible refine Kp.drewN ?_ _ | with_reducible refine Kp.drew ?_ | with_reducible refine Kp.setCell ?_ _ ?_ | (intro hh; first | rfl | exact .inl rfl | exact .inr rfl | (exfalso; (try dsimp only at hh); omega))))⟩
      · rw [if_neg h3] at hE
        have k1 : ((ik : Int) == 115) = false := by simp [h1]
        have k2 : ((ik : Int) == 62) = false := by simp [h2]
        have k3 : ((ik : Int) == 60) = false := by simp [h3]
        have HF := hide (fun W (hW : Rp W r s st O) => first_c (st.items.length + 1) (i + 1) n W hW hl hE)
        have hcast : ((i + 1 : Nat) : Int) = (i : Int) + 1 := by omega
        rw [hcast] at HF
        have HH := hide h
        clear hE h1 h2 h3 hcast
        go_enter Tryz.func127, Tryz.ntmps127
        go_wp2_with fail
        refine (HF.out _ (HH.out.alloc _)).mono ?_
        rintro x w1 ⟨rfl, k4⟩
        go_wp2
        go_ret
        exact ⟨rfl, by (repeat' (first | with_reducible exact Kp.refl _ _ | with_reducible refine Kp.alloc ?_ _ | with_reducible refine Kp.drewN ?_ _ | with_reducible refine Kp.drew ?_ | with_reducible refine Kp.setCell ?_ _ ?_ | with_reducible refine Kp.trans ?_ k4 (fun _ _ e => e) | (intro hh; first | rfl | exact .inl rfl | exact .inr rfl | (exfalso; (try dsimp only at hh); omega))))⟩

/-- The nodes with the ways of the condition at item i. -/
def tieO : Nat → List It → Nat → Int → Int → List Nd → Option (List Nd)
  | 0, _, _, _, _, _ => none
  | f + 1, IT, i, t, g, ND =>
    match IT[i]? with
    | none => none
    | some it =>
      if it.k = 99 then (if 0 ≤ it.n ∧ it.n < ND.length then some (ND.modify it.n.toNat (fun x => { x with t := t, f := g })) else none)
      else if it.k = 33 then tieO f IT (i + 1) g t ND
      else match IT[i + 1]? with
        | none => none
        | some i1 =>
          if 0 ≤ i1.en ∧ i1.en ≤ 1000 then
            match firG (IT.length + 1) IT i1.en.toNat with
            | none => none
            | some n =>
              match (if it.k = 38 then tieO f IT (i + 1) n g ND else tieO f IT (i + 1) t n ND) with
              | none => none
              | some N1 => tieO f IT i1.en.toNat t g N1
          else none

theorem Rp.setNode {w : World} {r : Nat} {s : ByteArray} {st : RS} {O : Nat → Prop} (h : Rp w r s st O) {k : Nat} (hk : k < st.nodes.length) :
    ∃ g cap, O g ∧ w.cell? ⟨r, 3, none⟩ = some (.slice (some ⟨g, 0, none⟩) st.nodes.length cap) ∧ (∀ j, j < 9 → w.cell? ⟨g, k * 9 + j, none⟩ = st.nodes[k].cells[j]?) ∧ (∀ o, w.frozen? ⟨g, o, none⟩ = false) ∧
      ∀ j u m, j < 9 → (∀ x : Nd, (m x).cells = x.cells.set j u) → Rp (w.setCell ⟨g, k * 9 + j, none⟩ u) r s { st with nodes := st.nodes.modify k m } O := by
  obtain ⟨nv, iv, hB, hN, hI, d1, d2, d3, rfl⟩ := h
  obtain ⟨g, cap, rfl, _, hg⟩ := World.ownsRow.form hN (by omega)
  have hgr : r ≠ g := fun e => d1 (by simp [Value.ownBlock, e])
  refine ⟨g, cap, .inr (.inl rfl), Blk.cell hB 3, fun j hj => ?_, hN.frozen, ?_⟩
  · rw [Row.cell hN _ (by have := Nat.mul_le_mul_right 9 hk; omega)]
    exact flat_get Nd.cells 9 nd9 st.nodes k j hk hj
  intro j u m hj hm
  refine ⟨_, iv, Blk.other hB _ hgr, ?_, Row.set hI _ (fun e => d3 g rfl e), d1, d2, d3, rfl⟩
  show Row _ _ _ _ (st.nodes.modify k m).length (nCells (st.nodes.modify k m))
  rw [List.length_modify, nCells, ← flat_set Nd.cells 9 nd9 m j u hj hm st.nodes k hk]
  exact hN.setIn _ _
end Go.Proofs.YtellieabhaphhaaGreatDoor

/-
  narrowref.Graph: a condition is tied.
-/
namespace Go.Proofs.YtellieabhaphhaaGreatDoor
open Go.RowKit

def TieSaid (f : Nat) : Prop := ∀ (w : World) (r : Nat) (s : ByteArray) (st : RS) (O : Nat → Prop) (i : Nat) (t g : Int) (ND : List Nd), st.items.length ≤ 1000 → st.nodes.length ≤ 1000 → i ≤ 1000 → Rp w r s st O → tieO f st.items i t g st.nodes = some ND →
    Calls Tryz.prog 160 #[.pointer (some ⟨r, 0, none⟩), .int .i64 i, .int .i64 t, .int .i64 g] w fun x w' => x = .returned (.tuple #[]) ∧ Went w O r s { st with nodes := ND } w'

theorem tieO_len : ∀ (f : Nat) (IT : List It) (i : Nat) (t g : Int) (ND N' : List Nd), tieO f IT i t g ND = some N' → N'.length = ND.length
  | 0, _, _, _, _, _, _, h => by simp [tieO] at h
  | f + 1, IT, i, t, g, ND, N', h => by
    rw [tieO] at h
    cases hit : IT[i]? with
    | none => rw [hit] at h; simp at h
    | some it =>
      rw [hit] at h
      dsimp only at h
      split at h
      · split at h
        · simp only [Option.some.injEq] at h; rw [← h, List.length_modify]
        · simp at h
      split at h
      · exact tieO_len f IT _ _ _ ND N' h
      · cases hi1 : IT[i + 1]? with
        | none => rw [hi1] at h; simp at h
        | some i1 =>
          rw [hi1] at h
          dsimp only at h
          split at h
          · split at h
            · simp at h
            · split at h
              · simp at h
              · rename_i n _ _ N1 hN1
                rw [tieO_len f IT _ _ _ N1 N' h]
                split at hN1
                · exact tieO_len f IT _ _ _ ND N1 hN1
                · exact tieO_len f IT _ _ _ ND N1 hN1
          · simp at h

theorem modify_two (l : List Nd) (k : Nat) (t g : Int) : (l.modify k (fun x => { x with t := t })).modify k (fun x => { x with f := g }) = l.modify k (fun x => { x with t := t, f := g }) := by
  apply List.ext_getElem?
  intro i
  rw [List.getElem?_modify, List.getElem?_modify, List.getElem?_modify]
  by_cases h : k = i <;> simp [h]
  cases l[i]? <;> rfl

set_option maxRecDepth 100000 in
set_option maxHeartbeats 3200000 in
theorem tie_leaf {w : World} {r : Nat} {s : ByteArray} {st : RS} {O : Nat → Prop} {i k : Nat} {t g : Int} {iel ien : Int} (_ : st.items.length ≤ 1000) (h : Rp w r s st O) (hit : st.items[i]? = some ⟨99, k, iel, ien⟩) (hk : k < st.nodes.length) (_ : st.nodes.length ≤ 1000) :
    Calls Tryz.prog 160 #[.pointer (some ⟨r, 0, none⟩), .int .i64 i, .int .i64 t, .int .i64 g] w fun x w' => x = .returned (.tuple #[]) ∧ Went w O r s { st with nodes := st.nodes.modify k (fun x => { x with t := t, f := g }) } w' := by
  obtain ⟨gi, cap, hil, hog, q4, i0, i1, i2, i3⟩ := h.itemAt hit
  obtain ⟨c0, c1, c2, c5, cf⟩ := h.c
  have hrl := h.lt r h.own
  have hgl := h.lt gi hog
  have hiI : (i : Int) < st.items.length := by omega
  have hkI : (k : Int) < st.nodes.length := by omega
  dsimp only at i0 i1 i2 i3
  have hnO : ¬ O w.heap.size := fun e => Nat.lt_irrefl _ (h.lt _ e)
  clear hit
  go_enter Tryz.func160, Tryz.ntmps160
  go_wp2
  refine wp_gen (fun W => Rp W r s st O ∧ Blk W w.heap.size [.int .u8 99, .int .i64 k, .int .i64 iel, .int .i64 ien] 165 ∧ Th O w O W) ⟨h.alloc _, by (repeat' (first | ((with_reducible show (_ : List Value) = _); rfl) | ((with_reducible refine Blk.newAt _ _ _ ?_); first | with_reducible rfl | (simp; done)) | with_reducible refine Blk.alloc ?_ _ | with_reducible refine Blk.drewN ?_ _ | with_reducible refine Blk.drew ?_ | ((with_reducible refine Blk.other ?_ _ ?_); rotate_left; ((try dsimp only); omega)) | with_reducible refine Blk.setB (cs0 := ?_) ?_ ?_)), (Th.refl O w).alloc _⟩ ?_
  clear c0 c1 c2 c5 cf q4 i0 i1 i2 i3 hgl hrl hog hil
  rintro W ⟨hW, hB, hTh⟩
  obtain ⟨gn, cap3, hon, q3, nc, nf, hset⟩ := hW.setNode hk
  obtain ⟨c0, c1, c2, c5, cf⟩ := hW.c
  obtain ⟨b0, b1, b2, b3, bf⟩ := hB.c4
  have hrl := hW.lt r hW.own
  have hnl := hW.lt gn hon
  have hbl := hB.lt
  have hgne : gn ≠ w.heap.size := fun e => hnO (e ▸ hon)
  have n5 : W.cell? ⟨gn, k * 9 + 5, none⟩ = some (.int .i64 st.nodes[k].t) := nc 5 (by decide)
  have H1 := hide (hset 5 (.int .i64 t) (fun x => { x with t := t }) (by decide) (fun x => rfl))
  have HB2 := hide (show Blk (W.setCell ⟨gn, k * 9 + 5, none⟩ (.int .i64 t)) w.heap.size [.int .u8 99, .int .i64 k, .int .i64 iel, .int .i64 ien] 165 from Blk.other hB _ (fun e => hgne e.symm))
  have HT2 := hide (hTh.set (.int .i64 t) (a := ⟨gn, k * 9 + 5, none⟩) (.inl hon))
  clear hset nc
  generalize st.nodes[k].t = ot at *
  go_region
  all_goals
    go_wp2
    refine wp_gen (fun W => Rp W r s { st with nodes := st.nodes.modify k (fun x => { x with t := t }) } O ∧ Blk W w.heap.size [.int .u8 99, .int .i64 k, .int .i64 iel, .int .i64 ien] 165 ∧ Th O w O W) ⟨H1.out.drew, HB2.out.drew, HT2.out.drew⟩ ?_
    clear c0 c1 c2 c5 cf b0 b1 b2 b3 bf q3 nf n5 hrl hnl hbl hgne hon H1 HB2 HT2 hTh hB hW
    rintro V ⟨hV, hBV, hThV⟩
    have hk2 : k < (st.nodes.modify k (fun x => { x with t := t })).length := by rw [List.length_modify]; exact hk
    obtain ⟨gn, cap3, hon, q3, nc, nf, hset⟩ := hV.setNode hk2
    obtain ⟨c0, c1, c2, c5, cf⟩ := hV.c
    obtain ⟨b0, b1, b2, b3, bf⟩ := hBV.c4
    have hrl := hV.lt r hV.own
    have hnl := hV.lt gn hon
    have hbl := hBV.lt
    have hgne : gn ≠ w.heap.size := fun e => hnO (e ▸ hon)
    dsimp only at q3 nc hset
    have n6 : V.cell? ⟨gn, k * 9 + 6, none⟩ = some (.int .i64 ((st.nodes.modify k (fun x => { x with t := t }))[k]).f) := nc 6 (by decide)
    have H1 := hide (hset 6 (.int .i64 g) (fun x => { x with f := g }) (by decide) (fun x => rfl))
    have HT2 := hide (hThV.set (.int .i64 g) (a := ⟨gn, k * 9 + 6, none⟩) (.inl hon))
    rw [modify_two] at H1
    rw [List.length_modify] at q3
    clear hset nc hV hBV hThV
    generalize ((st.nodes.modify k (fun x => { x with t := t }))[k]).f = of at *
    clear hk2
    go_region
    all_goals
      go_wp2
      refine bodyPost_ret (results_none rfl _ _ _) rfl ?_
      exact ⟨rfl, O, H1.out.drew, HT2.out.drew⟩

set_option maxRecDepth 100000 in
set_option maxHeartbeats 3200000 in
theorem tie_not {w : World} {r : Nat} {s : ByteArray} {st : RS} {O : Nat → Prop} {i : Nat} {t g : Int} {inn iel ien : Int} {ND : List Nd} (h : Rp w r s st O) (hi : i ≤ 1000) (hit : st.items[i]? = some ⟨33, inn, iel, ien⟩)
    (hT : ∀ W, Rp W r s st O → Calls Tryz.prog 160 #[.pointer (some ⟨r, 0, none⟩), .int .i64 (i + 1 : Nat), .int .i64 g, .int .i64 t] W fun x w' => x = .returned (.tuple #[]) ∧ Went W O r s { st with nodes := ND } w') :
    Calls Tryz.prog 160 #[.pointer (some ⟨r, 0, none⟩), .int .i64 i, .int .i64 t, .int .i64 g] w fun x w' => x = .returned (.tuple #[]) ∧ Went w O r s { st with nodes := ND } w' := by
  obtain ⟨gi, cap, hil, hog, q4, i0, i1, i2, i3⟩ := h.itemAt hit
  obtain ⟨c0, c1, c2, c5, cf⟩ := h.c
  have hrl := h.lt r h.own
  have hgl := h.lt gi hog
  have hiI : (i : Int) < st.items.length := by omega
  dsimp only at i0 i1 i2 i3
  have hcast : ((i + 1 : Nat) : Int) = (i : Int) + 1 := by omega
  rw [hcast] at hT
  have HT := hide hT
  clear hit hT hcast
  go_enter Tryz.func160, Tryz.ntmps160
  go_wp2_with fail
  refine (HT.out _ (h.alloc _)).mono ?_
  rintro x w1 ⟨rfl, O1, h1, t1⟩
  go_wp2
  refine bodyPost_ret (results_none rfl _ _ _) rfl ?_
  exact ⟨rfl, O1, h1, ((Th.refl O w).alloc _).trans t1⟩

set_option maxRecDepth 100000 in
set_option maxHeartbeats 3200000 in
theorem tie_two {w : World} {r : Nat} {s : ByteArray} {st : RS} {O : Nat → Prop} {i q : Nat} {t g n : Int} {ik inn iel ien : Int} {i1 : It} {N1 ND : List Nd} (h : Rp w r s st O) (hi : i ≤ 1000) (_ : q ≤ 1000) (hit : st.items[i]? = some ⟨ik, inn, iel, ien⟩) (h99 : ik ≠ 99) (h33 : ik ≠ 33)
    (hit1 : st.items[i + 1]? = some i1) (hen : i1.en = q)
    (hF : ∀ W, Rp W r s st O → Calls Tryz.prog 159 #[.pointer (some ⟨r, 0, none⟩), .int .i64 q] W fun x w' => x = .returned (.int .i64 n) ∧ Kp no W w')
    (hT : ∀ W, Rp W r s st O → Calls Tryz.prog 160 #[.pointer (some ⟨r, 0, none⟩), .int .i64 (i + 1 : Nat), .int .i64 (if ik = 38 then n else t), .int .i64 (if ik = 38 then g else n)] W fun x w' => x = .returned (.tuple #[]) ∧ Went W O r s { st with nodes := N1 } w')
    (hU : ∀ W O1, Rp W r s { st with nodes := N1 } O1 → Calls Tryz.prog 160 #[.pointer (some ⟨r, 0, none⟩), .int .i64 q, .int .i64 t, .int .i64 g] W fun x w' => x = .returned (.tuple #[]) ∧ Went W O1 r s { st with nodes := ND } w') :
    Calls Tryz.prog 160 #[.pointer (some ⟨r, 0, none⟩), .int .i64 i, .int .i64 t, .int .i64 g] w fun x w' => x = .returned (.tuple #[]) ∧ Went w O r s { st with nodes := ND } w' := by
  obtain ⟨gi, cap, hil, hog, q4, i0, j1, i2, i3⟩ := h.itemAt hit
  obtain ⟨gi', cap', hil1, _, q4', m0, m1, m2, m3⟩ := h.itemAt hit1
  rw [q4] at q4'
  simp only [Option.some.injEq, Value.slice.injEq, Addr.mk.injEq, and_true] at q4'
  obtain ⟨rfl, _, _⟩ := q4'
  obtain ⟨c0, c1, c2, c5, cf⟩ := h.c
  have hrl := h.lt r h.own
  have hgl := h.lt gi hog
  have hiI : (i : Int) < st.items.length := by omega
  have hiI1 : (i : Int) + 1 < st.items.length := by omega
  rw [hen] at m3
  dsimp only at i0 j1 i2 i3
  have hcast : ((i + 1 : Nat) : Int) = (i : Int) + 1 := by omega
  rw [hcast] at hT
  have e99 : ((ik : Int) == 99) = false := by simp [h99]
  have e33 : ((ik : Int) == 33) = false := by simp [h33]
  have HF := hide hF
  have HU := hide hU
  have hm3 : w.cell? ⟨gi, (i + 1) * 4 + 3, none⟩ = some (.int .i64 q) := m3
  clear hit hit1 hF hU hcast h99 h33 m0 m1 m2
  by_cases h38 : ik = 38
  · subst h38
    rw [if_pos rfl, if_pos rfl] at hT
    have HT := hide hT
    clear hT e99 e33
    go_enter Tryz.func160, Tryz.ntmps160
    go_wp2_with fail
    refine (HF.out _ (h.alloc _)).mono ?_
    rintro x w1 ⟨rfl, k1⟩
    have hB1 : Blk w1 w.heap.size [.int .u8 38, .int .i64 inn, .int .i64 iel, .int .i64 ien] 165 := k1.blk (by (repeat' (first | ((with_reducible show (_ : List Value) = _); rfl) | ((with_reducible refine Blk.newAt _ _ _ ?_); first | with_reducible rfl | (simp; done)) | with_reducible refine Blk.alloc ?_ _ | with_reducible refine Blk.drewN ?_ _ | with_reducible refine Blk.drew ?_ | ((with_reducible refine Blk.other ?_ _ ?_); rotate_left; ((try dsimp only); omega)) | with_reducible refine Blk.setB (cs0 := ?_) ?_ ?_))) no_elim
    obtain ⟨b0, b1, b2, b3, bf⟩ := hB1.c4
    have hbl := hB1.lt
    have h1 : Rp w1 r s st O := (h.alloc _).kp k1 (fun _ _ => no_elim)
    have HTh := hide (show Th O w O w1 from ⟨(((Kp.refl no w).alloc _).trans k1 (fun _ _ e => e)).mono (fun _ e => e.elim), fun _ hb _ => hb⟩)
    clear c0 c1 c2 c5 cf q4 i0 j1 i2 i3 m3 hm3 k1
    go_wp2_with fail
    refine (HT.out _ h1).mono ?_
    rintro x w2 ⟨rfl, O2, h2, t2⟩
    go_wp2_with fail
    refine (HU.out _ _ h2).mono ?_
    rintro x w3 ⟨rfl, O3, h3, t3⟩
    go_wp2
    go_end0
    exact ⟨rfl, O3, h3, (HTh.out.trans t2).trans t3⟩
  · rw [if_neg h38, if_neg h38] at hT
    have e38 : ((ik : Int) == 38) = false := by simp [h38]
    have HT := hide hT
    clear hT h38
    go_enter Tryz.func160, Tryz.ntmps160
    go_wp2_with fail
    refine (HF.out _ (h.alloc _)).mono ?_
    rintro x w1 ⟨rfl, k1⟩
    have hB1 : Blk w1 w.heap.size [.int .u8 ik, .int .i64 inn, .int .i64 iel, .int .i64 ien] 165 := k1.blk (by (repeat' (first | ((with_reducible show (_ : List Value) = _); rfl) | ((with_reducible refine Blk.newAt _ _ _ ?_); first | with_reducible rfl | (simp; done)) | with_reducible refine Blk.alloc ?_ _ | with_reducible refine Blk.drewN ?_ _ | with_reducible refine Blk.drew ?_ | ((with_reducible refine Blk.other ?_ _ ?_); rotate_left; ((try dsimp only); omega)) | with_reducible refine Blk.setB (cs0 := ?_) ?_ ?_))) no_elim
    obtain ⟨b0, b1, b2, b3, bf⟩ := hB1.c4
    have hbl := hB1.lt
    have h1 : Rp w1 r s st O := (h.alloc _).kp k1 (fun _ _ => no_elim)
    have HTh := hide (show Th O w O w1 from ⟨(((Kp.refl no w).alloc _).trans k1 (fun _ _ e => e)).mono (fun _ e => e.elim), fun _ hb _ => hb⟩)
    clear c0 c1 c2 c5 cf q4 i0 j1 i2 i3 m3 hm3 k1
    go_wp2_with fail
    refine (HT.out _ h1).mono ?_
    rintro x w2 ⟨rfl, O2, h2, t2⟩
    go_wp2_with fail
    refine (HU.out _ _ h2).mono ?_
    rintro x w3 ⟨rfl, O3, h3, t3⟩
    go_wp2
    go_end0
    exact ⟨rfl, O3, h3, (HTh.out.trans t2).trans t3⟩

theorem tie_all : ∀ f, TieSaid f
  | 0 => fun _ _ _ _ _ _ _ _ _ _ _ _ _ h => by simp [tieO] at h
  | f + 1 => fun w r s st O i t g ND hl hn hi h hE => by
    have IH := tie_all f
    rw [tieO] at hE
    cases hit : st.items[i]? with
    | none => rw [hit] at hE; simp at hE
    | some it =>
      rw [hit] at hE
      have hil := (List.getElem?_eq_some_iff.1 hit).1
      obtain ⟨ik, inn, iel, ien⟩ := it
      dsimp only at hE
      by_cases h99 : ik = 99
      · rw [if_pos h99] at hE
        subst h99
        by_cases hc : 0 ≤ inn ∧ inn < st.nodes.length
        · rw [if_pos hc] at hE
          obtain ⟨k, rfl⟩ := Int.eq_ofNat_of_zero_le hc.1
          rw [Int.toNat_natCast] at hE
          simp only [Option.some.injEq] at hE
          rw [← hE]
          exact tie_leaf hl h hit (by omega) hn
        · rw [if_neg hc] at hE; simp at hE
      rw [if_neg h99] at hE
      by_cases h33 : ik = 33
      · rw [if_pos h33] at hE
        subst h33
        exact tie_not h hi hit (fun W hW => IH W r s st O (i + 1) g t ND hl hn (by omega) hW hE)
      rw [if_neg h33] at hE
      cases hi1 : st.items[i + 1]? with
      | none => rw [hi1] at hE; simp at hE
      | some i1 =>
        rw [hi1] at hE
        dsimp only at hE
        by_cases hc : 0 ≤ i1.en ∧ i1.en ≤ 1000
        · rw [if_pos hc] at hE
          obtain ⟨q, hq⟩ := Int.eq_ofNat_of_zero_le hc.1
          rw [hq, Int.toNat_natCast] at hE
          cases hf : firG (st.items.length + 1) st.items q with
          | none => rw [hf] at hE; simp at hE
          | some n =>
            rw [hf] at hE
            dsimp only at hE
            cases hN : (if ik = 38 then tieO f st.items (i + 1) n g st.nodes else tieO f st.items (i + 1) t n st.nodes) with
            | none => rw [hN] at hE; simp at hE
            | some N1 =>
              rw [hN] at hE
              dsimp only at hE
              have hlen : N1.length = st.nodes.length := by
                split at hN
                · exact tieO_len f _ _ _ _ _ _ hN
                · exact tieO_len f _ _ _ _ _ _ hN
              have hN2 : tieO f st.items (i + 1) (if ik = 38 then n else t) (if ik = 38 then g else n) st.nodes = some N1 := by
                by_cases h38 : ik = 38
                · rw [if_pos h38] at hN; rw [if_pos h38, if_pos h38]; exact hN
                · rw [if_neg h38] at hN; rw [if_neg h38, if_neg h38]; exact hN
              exact tie_two (q := q) (n := n) (N1 := N1) h hi (by omega) hit h99 h33 hi1 hq (fun W hW => first_c (st.items.length + 1) q n W hW hl hf)
                (fun W hW => IH W r s st O (i + 1) _ _ N1 hl hn (by omega) hW hN2)
                (fun W O1 hW => IH W r s { st with nodes := N1 } O1 q t g ND hl (by show N1.length ≤ 1000; omega) (by omega) hW hE)
        · rw [if_neg hc] at hE; simp at hE
end Go.Proofs.YtellieabhaphhaaGreatDoor

/-
  narrowref.Graph: one piece.
-/
namespace Go.Proofs.YtellieabhaphhaaGreatDoor
open Go.RowKit

/-- The nodes with the ways of the piece at item i. -/
def pieO (f : Nat) (PS : Nat → Nat → Int → Int → Int → List Nd → Option (List Nd)) (IT : List It) (i : Nat) (nx ou ag : Int) (ND : List Nd) : Option (List Nd) :=
  match IT[i]? with
  | none => none
  | some it =>
    if it.k = 115 then (if 0 ≤ it.n ∧ it.n < ND.length then some (ND.modify it.n.toNat (fun x => { x with t := nx })) else none)
    else if it.k = 105 then
      match IT[i + 1]? with
      | none => none
      | some i1 =>
        if (0 ≤ i1.en ∧ i1.en ≤ 1000) ∧ (0 ≤ it.els ∧ it.els ≤ 1000) ∧ (0 ≤ it.en ∧ it.en ≤ 1000) then
          match entO IT i1.en.toNat it.els.toNat nx ou ag, entO IT it.els.toNat it.en.toNat nx ou ag with
          | some t, some g =>
            match tieO f IT (i + 1) t g ND with
            | none => none
            | some N1 =>
              match PS i1.en.toNat it.els.toNat nx ou ag N1 with
              | none => none
              | some N2 => PS it.els.toNat it.en.toNat nx ou ag N2
          | _, _ => none
        else none
    else if it.k = 119 then
      match IT[i + 1]? with
      | none => none
      | some i1 =>
        if (0 ≤ i1.en ∧ i1.en ≤ 1000) ∧ (0 ≤ it.en ∧ it.en ≤ 1000) then
          match firG (IT.length + 1) IT (i + 1) with
          | none => none
          | some st =>
            match entO IT i1.en.toNat it.en.toNat st nx st with
            | none => none
            | some t =>
              match tieO f IT (i + 1) t nx ND with
              | none => none
              | some N1 => PS i1.en.toNat it.en.toNat st nx st N1
        else none
    else some ND

/-- The nodes with the ways of the pieces from i up to e. -/
def psO : Nat → List It → Nat → Nat → Int → Int → Int → List Nd → Option (List Nd)
  | 0, _, _, _, _, _, _, _ => none
  | f + 1, IT, i, e, nx, ou, ag, ND =>
    if i < e then
      match IT[i]? with
      | none => none
      | some it =>
        if 0 ≤ it.en ∧ it.en ≤ 1000 then
          match entO IT it.en.toNat e nx ou ag with
          | none => none
          | some to =>
            match pieO f (psO f IT) IT i to ou ag ND with
            | none => none
            | some N1 => psO f IT it.en.toNat e nx ou ag N1
        else none
    else some ND

def PsSaid (f : Nat) : Prop := ∀ (w : World) (r : Nat) (s : ByteArray) (st : RS) (O : Nat → Prop) (i e : Nat) (nx ou ag : Int) (ND : List Nd), st.items.length ≤ 1000 → st.nodes.length ≤ 1000 → i ≤ 1000 → e ≤ 1000 → Rp w r s st O → psO f st.items i e nx ou ag st.nodes = some ND →
    Calls Tryz.prog 83 #[.pointer (some ⟨r, 0, none⟩), .int .i64 i, .int .i64 e, .agg #[.int .i64 nx, .int .i64 ou, .int .i64 ag]] w fun x w' => x = .returned (.tuple #[]) ∧ Went w O r s { st with nodes := ND } w'

set_option maxRecDepth 100000 in
set_option maxHeartbeats 3200000 in
theorem pie_s {w : World} {r : Nat} {s : ByteArray} {st : RS} {O : Nat → Prop} {i k : Nat} {nx ou ag : Int} {iel ien : Int} (h : Rp w r s st O) (hit : st.items[i]? = some ⟨115, k, iel, ien⟩) (hk : k < st.nodes.length) :
    Calls Tryz.prog 128 #[.pointer (some ⟨r, 0, none⟩), .int .i64 i, .agg #[.int .i64 nx, .int .i64 ou, .int .i64 ag]] w fun x w' => x = .returned (.tuple #[]) ∧ Went w O r s { st with nodes := st.nodes.modify k (fun x => { x with t := nx }) } w' := by
  obtain ⟨gi, cap, hil, hog, q4, i0, i1, i2, i3⟩ := h.itemAt hit
  obtain ⟨c0, c1, c2, c5, cf⟩ := h.c
  have hrl := h.lt r h.own
  have hgl := h.lt gi hog
  have hiI : (i : Int) < st.items.length := by omega
  have hkI : (k : Int) < st.nodes.length := by omega
  dsimp only at i0 i1 i2 i3
  have hnO : ¬ O w.heap.size := fun e => Nat.lt_irrefl _ (h.lt _ e)
  have hnO1 : ¬ O (w.heap.size + 1) := fun e => by have := h.lt _ e; omega
  clear hit
  go_enter Tryz.func128, Tryz.ntmps128
  repeat (first | go_values | go_skip | go_guarded | go_step | go_upon)
  refine wp_gen (fun W => Rp W r s st O ∧ Blk W w.heap.size [.int .i64 nx, .int .i64 ou, .int .i64 ag] 124 ∧ Blk W (w.heap.size + 1) [.int .u8 115, .int .i64 k, .int .i64 iel, .int .i64 ien] 165 ∧ Th O w O W) ⟨(h.alloc _).alloc _, by (repeat' (first | ((with_reducible show (_ : List Value) = _); rfl) | ((with_reducible refine Blk.newAt _ _ _ ?_); first | with_reducible rfl | (simp; done)) | with_reducible refine Blk.alloc ?_ _ | with_reducible refine Blk.drewN ?_ _ | with_reducible refine Blk.drew ?_ | ((with_reducible refine Blk.other ?_ _ ?_); rotate_left; ((try dsimp only); omega)) | with_reducible refine Blk.setB (cs0 := ?_) ?_ ?_)), by (repeat' (first | ((with_reducible show (_ : List Value) = _); rfl) | ((with_reducible refine Blk.newAt _ _ _ ?_); first | with_reducible rfl | (simp; done)) | with_reducible refine Blk.alloc ?_ _ | with_reducible refine Blk.drewN ?_ _ | with_reducible refine Blk.drew ?_ | ((with_reducible refine Blk.other ?_ _ ?_); rotate_left; ((try dsimp only); omega)) | with_reducible refine Blk.setB (cs0 := ?_) ?_ ?_)), ((Th.refl O w).alloc _).alloc _⟩ ?_
  clear c0 c1 c2 c5 cf q4 i0 i1 i2 i3 hgl hrl hog hil
  rintro W ⟨hW, hG, hB, hTh⟩
  obtain ⟨gn, cap3, hon, q3, nc, nf, hset⟩ := hW.setNode hk
  obtain ⟨c0, c1, c2, c5, cf⟩ := hW.c
  obtain ⟨b0, b1, b2, b3, bf⟩ := hB.c4
  obtain ⟨g0, g1, g2, gf⟩ := hG.c3
  have hrl := hW.lt r hW.own
  have hnl := hW.lt gn hon
  have hbl := hB.lt
  have hgl := hG.lt
  have hgne : gn ≠ w.heap.size := fun e => hnO (e ▸ hon)
  have hgne1 : gn ≠ w.heap.size + 1 := fun e => hnO1 (e ▸ hon)
  have n5 : W.cell? ⟨gn, k * 9 + 5, none⟩ = some (.int .i64 st.nodes[k].t) := nc 5 (by decide)
  have H1 := hide (hset 5 (.int .i64 nx) (fun x => { x with t := nx }) (by decide) (fun x => rfl))
  have HT2 := hide (hTh.set (.int .i64 nx) (a := ⟨gn, k * 9 + 5, none⟩) (.inl hon))
  clear hset nc
  generalize st.nodes[k].t = ot at *
  go_region
  all_goals
    repeat (first | go_values | go_skip | go_guarded | go_step | go_upon)
    refine bodyPost_ret (results_none rfl _ _ _) rfl ?_
    exact ⟨rfl, O, H1.out.drew, HT2.out.drew⟩

set_option maxRecDepth 100000 in
set_option maxHeartbeats 3200000 in
theorem pie_none {w : World} {r : Nat} {s : ByteArray} {st : RS} {O : Nat → Prop} {i : Nat} {nx ou ag : Int} {ik inn iel ien : Int} (h : Rp w r s st O) (hit : st.items[i]? = some ⟨ik, inn, iel, ien⟩) (h1 : ik ≠ 115) (h2 : ik ≠ 105) (h3 : ik ≠ 119) :
    Calls Tryz.prog 128 #[.pointer (some ⟨r, 0, none⟩), .int .i64 i, .agg #[.int .i64 nx, .int .i64 ou, .int .i64 ag]] w fun x w' => x = .returned (.tuple #[]) ∧ Went w O r s st w' := by
  obtain ⟨gi, cap, hil, hog, q4, i0, i1, i2, i3⟩ := h.itemAt hit
  obtain ⟨c0, c1, c2, c5, cf⟩ := h.c
  have hrl := h.lt r h.own
  have hgl := h.lt gi hog
  have hiI : (i : Int) < st.items.length := by omega
  dsimp only at i0 i1 i2 i3
  have e1 : ((ik : Int) == 115) = false := by simp [h1]
  have e2 : ((ik : Int) == 105) = false := by simp [h2]
  have e3 : ((ik : Int) == 119) = false := by simp [h3]
  clear hit h1 h2 h3
  go_enter Tryz.func128, Tryz.ntmps128
  repeat (first | go_values | go_skip | go_guarded | go_step | go_upon)
  go_end0
  exact ⟨rfl, O, (h.alloc _).alloc _, ((Th.refl O w).alloc _).alloc _⟩

/-- A call that reads alone; one that ties. -/
def RdS (r : Nat) (s : ByteArray) (st : RS) (F : Nat) (args : Array Value) (v : Value) : Prop := ∀ W O, Rp W r s st O → Calls Tryz.prog F args W fun x w' => x = .returned v ∧ Kp no W w'
def TiS (r : Nat) (s : ByteArray) (st st' : RS) (F : Nat) (args : Array Value) : Prop := ∀ W O, Rp W r s st O → Calls Tryz.prog F args W fun x w' => x = .returned (.tuple #[]) ∧ Went W O r s st' w'

set_option maxRecDepth 100000 in
set_option maxHeartbeats 6400000 in
theorem pie_i {w : World} {r : Nat} {s : ByteArray} {st : RS} {O : Nat → Prop} {i a el en : Nat} {nx ou ag t g : Int} {inn : Int} {i1 : It} {N1 N2 N3 : List Nd} (h : Rp w r s st O) (hi : i ≤ 1000) (hit : st.items[i]? = some ⟨105, inn, el, en⟩)
    (hit1 : st.items[i + 1]? = some i1) (hen : i1.en = a)
    (hE1 : RdS r s st 127 #[.pointer (some ⟨r, 0, none⟩), .int .i64 a, .int .i64 el, .agg #[.int .i64 nx, .int .i64 ou, .int .i64 ag]] (.int .i64 t))
    (hE2 : RdS r s st 127 #[.pointer (some ⟨r, 0, none⟩), .int .i64 el, .int .i64 en, .agg #[.int .i64 nx, .int .i64 ou, .int .i64 ag]] (.int .i64 g))
    (hT : TiS r s st { st with nodes := N1 } 160 #[.pointer (some ⟨r, 0, none⟩), .int .i64 (i + 1 : Nat), .int .i64 t, .int .i64 g])
    (hP1 : TiS r s { st with nodes := N1 } { st with nodes := N2 } 83 #[.pointer (some ⟨r, 0, none⟩), .int .i64 a, .int .i64 el, .agg #[.int .i64 nx, .int .i64 ou, .int .i64 ag]])
    (hP2 : TiS r s { st with nodes := N2 } { st with nodes := N3 } 83 #[.pointer (some ⟨r, 0, none⟩), .int .i64 el, .int .i64 en, .agg #[.int .i64 nx, .int .i64 ou, .int .i64 ag]]) :
    Calls Tryz.prog 128 #[.pointer (some ⟨r, 0, none⟩), .int .i64 i, .agg #[.int .i64 nx, .int .i64 ou, .int .i64 ag]] w fun x w' => x = .returned (.tuple #[]) ∧ Went w O r s { st with nodes := N3 } w' := by
  obtain ⟨gi, cap, hil, hog, q4, i0, j1, i2, i3⟩ := h.itemAt hit
  obtain ⟨gi', cap', hil1, _, q4', m0, m1, m2, m3⟩ := h.itemAt hit1
  rw [q4] at q4'
  simp only [Option.some.injEq, Value.slice.injEq, Addr.mk.injEq, and_true] at q4'
  obtain ⟨rfl, _, _⟩ := q4'
  obtain ⟨c0, c1, c2, c5, cf⟩ := h.c
  have hrl := h.lt r h.own
  have hgl := h.lt gi hog
  have hiI : (i : Int) < st.items.length := by omega
  have hiI1 : (i : Int) + 1 < st.items.length := by omega
  rw [hen] at m3
  dsimp only at i0 j1 i2 i3
  have hcast : ((i + 1 : Nat) : Int) = (i : Int) + 1 := by omega
  rw [hcast] at hT
  have HE1 := hide hE1; have HE2 := hide hE2; have HT := hide hT; have HP1 := hide hP1; have HP2 := hide hP2
  clear hit hit1 hE1 hE2 hT hP1 hP2 hcast m0 m1 m2
  go_enter Tryz.func128, Tryz.ntmps128
  repeat (first | go_values | go_skip | go_guarded | go_step | go_upon)
  refine (HE1.out _ _ ((h.alloc _).alloc _)).mono ?_
  rintro x v1 ⟨rfl, k1⟩
  have hnO : ¬ O w.heap.size := fun e => Nat.lt_irrefl _ (h.lt _ e)
  have hnO1 : ¬ O (w.heap.size + 1) := fun e => by have := h.lt _ e; omega
  have h1 : Rp v1 r s st O := ((h.alloc _).alloc _).kp k1 (fun _ _ => no_elim)
  have G1 : Blk v1 w.heap.size [.int .i64 nx, .int .i64 ou, .int .i64 ag] 124 := k1.blk (by (repeat' (first | ((with_reducible show (_ : List Value) = _); rfl) | ((with_reducible refine Blk.newAt _ _ _ ?_); first | with_reducible rfl | (simp; done)) | with_reducible refine Blk.alloc ?_ _ | with_reducible refine Blk.drewN ?_ _ | with_reducible refine Blk.drew ?_ | ((with_reducible refine Blk.other ?_ _ ?_); rotate_left; ((try dsimp only); omega)) | with_reducible refine Blk.setB (cs0 := ?_) ?_ ?_))) no_elim
  have B1 : Blk v1 (w.heap.size + 1) [.int .u8 105, .int .i64 inn, .int .i64 el, .int .i64 en] 165 := k1.blk (by (repeat' (first | ((with_reducible show (_ : List Value) = _); rfl) | ((with_reducible refine Blk.newAt _ _ _ ?_); first | with_reducible rfl | (simp; done)) | with_reducible refine Blk.alloc ?_ _ | with_reducible refine Blk.drewN ?_ _ | with_reducible refine Blk.drew ?_ | ((with_reducible refine Blk.other ?_ _ ?_); rotate_left; ((try dsimp only); omega)) | with_reducible refine Blk.setB (cs0 := ?_) ?_ ?_))) no_elim
  have HTh := hide (show Th O w O v1 from ⟨((((Kp.refl no w).alloc _).alloc _).trans k1 (fun _ _ e => e)).mono (fun _ e => e.elim), fun _ hb _ => hb⟩)
  clear c0 c1 c2 c5 cf q4 i0 j1 i2 i3 m3 k1
  obtain ⟨b0, b1, b2, b3, bf⟩ := B1.c4; obtain ⟨g0, g1, g2, gf⟩ := G1.c3; have hbl := B1.lt; have hgl1 := G1.lt
  dsimp only
  go_at_K
  repeat (first | go_values | go_skip | go_guarded | go_step | go_upon)
  refine (HE2.out _ _ h1).mono ?_
  rintro x v2 ⟨rfl, k2⟩
  have h2 : Rp v2 r s st O := h1.kp k2 (fun _ _ => no_elim)
  have G2 := k2.blk G1 no_elim
  have B2 := k2.blk B1 no_elim
  have HTh2 := hide (HTh.out.trans (show Th O v1 O v2 from ⟨k2.mono (fun _ e => e.elim), fun _ hb _ => hb⟩))
  clear b0 b1 b2 b3 bf g0 g1 g2 gf hbl hgl1 k2
  obtain ⟨b0, b1, b2, b3, bf⟩ := B2.c4; obtain ⟨g0, g1, g2, gf⟩ := G2.c3; have hbl := B2.lt; have hgl1 := G2.lt
  dsimp only
  go_at_K
  repeat (first | go_values | go_skip | go_guarded | go_step | go_upon)
  refine (HT.out _ _ h2).mono ?_
  rintro x v3 ⟨rfl, O3, h3, t3⟩
  have G3 := Th.blk t3 G2 hnO
  have B3 := Th.blk t3 B2 hnO1
  have HTh3 := hide (HTh2.out.trans t3)
  clear b0 b1 b2 b3 bf g0 g1 g2 gf hbl hgl1 t3
  obtain ⟨b0, b1, b2, b3, bf⟩ := B3.1.c4; obtain ⟨g0, g1, g2, gf⟩ := G3.1.c3; have hbl := B3.1.lt; have hgl1 := G3.1.lt
  dsimp only
  go_at_K
  repeat (first | go_values | go_skip | go_guarded | go_step | go_upon)
  refine (HP1.out _ _ h3).mono ?_
  rintro x v4 ⟨rfl, O4, h4, t4⟩
  have G4 := Th.blk t4 G3.1 G3.2
  have B4 := Th.blk t4 B3.1 B3.2
  have HTh4 := hide (HTh3.out.trans t4)
  clear b0 b1 b2 b3 bf g0 g1 g2 gf hbl hgl1 t4
  obtain ⟨b0, b1, b2, b3, bf⟩ := B4.1.c4; obtain ⟨g0, g1, g2, gf⟩ := G4.1.c3; have hbl := B4.1.lt; have hgl1 := G4.1.lt
  dsimp only
  go_at_K
  repeat (first | go_values | go_skip | go_guarded | go_step | go_upon)
  refine (HP2.out _ _ h4).mono ?_
  rintro x v5 ⟨rfl, O5, h5, t5⟩
  have B5 := Th.blk t5 B4.1 B4.2
  have HTh5 := hide (HTh4.out.trans t5)
  clear b0 b1 b2 b3 bf g0 g1 g2 gf hbl hgl1 t5
  obtain ⟨b0, b1, b2, b3, bf⟩ := B5.1.c4; have hbl := B5.1.lt
  dsimp only
  go_at_K
  repeat (first | go_values | go_skip | go_guarded | go_step | go_upon)
  go_end0
  exact ⟨rfl, O5, h5, HTh5.out⟩
end Go.Proofs.YtellieabhaphhaaGreatDoor

/-
  narrow's maker: the walks of its parts, one step behind the other.
-/
namespace Go.Proofs.YtellieabhaphhaaGreatDoor
open Go.RowKit

/-- A call that brings the maker from m to m'. -/
def MStep (r : Nat) (s : ByteArray) (F : Nat) (args : Array Value) (res : Value) (m m' : MS) : Prop :=
  ∀ (W : World) (O : Nat → Prop), Mp W r s m O → Calls Tryz.prog F args W fun e w' => e = .returned res ∧ MWent W O r s m' w'

section
variable {r : Nat} {s : ByteArray}
theorem new_step {m : MS} (hn : m.marks.length ≤ 2000) : MStep r s 134 #[.pointer (some ⟨r, 0, none⟩)] (.int .i64 m.marks.length) m (newM m) := fun _ _ h => nnewMark_c hn h
theorem jump_step {m : MS} (k : Int) (hn : m.row.length ≤ 2000) : MStep r s 137 #[.pointer (some ⟨r, 0, none⟩), .int .i64 k] (.tuple #[]) m (jmpM m k) := fun _ _ h => njump_c k hn h
theorem lay_step {m : MS} (k : Nat) (hn : m.marks.length ≤ 2000) (h2 : m.row.length ≤ 2000) (hk : k < m.marks.length) : MStep r s 136 #[.pointer (some ⟨r, 0, none⟩), .int .i64 k] (.tuple #[]) m (layM m k) := fun _ _ h => nlayMark_c k hn h2 hk h
theorem exp_step {m : MS} (u : ByteArray) (hs : s.size ≤ 1000) (hi : m.p.1 ≤ s.size) (hu : u.size ≤ 10) (hz : ∀ k (h : k < u.size), (u[k]).toNat ≠ 0) :
    MStep r s 109 #[.pointer (some ⟨r, 0, none⟩), .string u] (.tuple #[]) m (expM s m u.data.toList) := fun _ _ h => mexpect_w h u hs hi hu hz

set_option maxHeartbeats 1600000 in
theorem choice_walk {h b L0 L1 L2 : Int} {m y1 y2 y3 y4 y5 y6 y7 y8 y9 z1 z2 z3 z4 z5 : MS}
    (s1 : MStep r s 134 #[.pointer (some ⟨r, 0, none⟩)] (.int .i64 L0) m y1)
    (s2 : MStep r s 134 #[.pointer (some ⟨r, 0, none⟩)] (.int .i64 L1) y1 y2)
    (s3 : MStep r s 134 #[.pointer (some ⟨r, 0, none⟩)] (.int .i64 L2) y2 y3)
    (s4 : MStep r s 109 #[.pointer (some ⟨r, 0, none⟩), .string ⟨#[40]⟩] (.tuple #[]) y3 y4)
    (s5 : MStep r s 135 #[.pointer (some ⟨r, 0, none⟩), .int .i64 L0, .int .i64 L1] (.tuple #[]) y4 y5)
    (s6 : MStep r s 109 #[.pointer (some ⟨r, 0, none⟩), .string ⟨#[123]⟩] (.tuple #[]) y5 y6)
    (s7 : MStep r s 136 #[.pointer (some ⟨r, 0, none⟩), .int .i64 L0] (.tuple #[]) y6 y7)
    (s8 : MStep r s 53 #[.pointer (some ⟨r, 0, none⟩), .int .i64 h, .int .i64 b] (.tuple #[]) y7 y8)
    (s9 : MStep r s 109 #[.pointer (some ⟨r, 0, none⟩), .string ⟨#[125, 123]⟩] (.tuple #[]) y8 y9)
    (t1 : MStep r s 137 #[.pointer (some ⟨r, 0, none⟩), .int .i64 L2] (.tuple #[]) y9 z1)
    (t2 : MStep r s 136 #[.pointer (some ⟨r, 0, none⟩), .int .i64 L1] (.tuple #[]) z1 z2)
    (t3 : MStep r s 53 #[.pointer (some ⟨r, 0, none⟩), .int .i64 h, .int .i64 b] (.tuple #[]) z2 z3)
    (t4 : MStep r s 109 #[.pointer (some ⟨r, 0, none⟩), .string ⟨#[125, 41]⟩] (.tuple #[]) z3 z4)
    (t5 : MStep r s 136 #[.pointer (some ⟨r, 0, none⟩), .int .i64 L2] (.tuple #[]) z4 z5) :
    MStep r s 93 #[.pointer (some ⟨r, 0, none⟩), .int .i64 h, .int .i64 b] (.tuple #[]) m z5 := by
  intro w O h0
  have S1 := hide s1; have S2 := hide s2; have S3 := hide s3; have S4 := hide s4; have S5 := hide s5; have S6 := hide s6; have S7 := hide s7; have S8 := hide s8; have S9 := hide s9
  have T1 := hide t1; have T2 := hide t2; have T3 := hide t3; have T4 := hide t4; have T5 := hide t5
  clear s1 s2 s3 s4 s5 s6 s7 s8 s9 t1 t2 t3 t4 t5
  go_enter Tryz.func93, Tryz.ntmps93
  go_wp2_with fail
  refine (S1.out _ _ h0).mono ?_
  rintro e w1 ⟨rfl, O1, h1, T⟩
  go_wp2_with fail
  refine (S2.out _ _ h1).mono ?_
  rintro e w2 ⟨rfl, O2, h2, t2⟩
  replace T := T.trans t2; clear t2 h1
  go_wp2_with fail
  refine (S3.out _ _ h2).mono ?_
  rintro e w3 ⟨rfl, O3, h3, t3⟩
  replace T := T.trans t3; clear t3 h2
  go_wp2_with fail
  refine (S4.out _ _ h3).mono ?_
  rintro e w4 ⟨rfl, O4, h4, t4⟩
  replace T := T.trans t4; clear t4 h3
  go_wp2_with fail
  refine (S5.out _ _ h4).mono ?_
  rintro e w5 ⟨rfl, O5, h5, t5⟩
  replace T := T.trans t5; clear t5 h4
  go_wp2_with fail
  refine (S6.out _ _ h5).mono ?_
  rintro e w6 ⟨rfl, O6, h6, t6⟩
  replace T := T.trans t6; clear t6 h5
  go_wp2_with fail
  refine (S7.out _ _ h6).mono ?_
  rintro e w7 ⟨rfl, O7, h7, t7⟩
  replace T := T.trans t7; clear t7 h6
  go_wp2_with fail
  refine (S8.out _ _ h7).mono ?_
  rintro e w8 ⟨rfl, O8, h8, t8⟩
  replace T := T.trans t8; clear t8 h7
  go_wp2_with fail
  refine (S9.out _ _ h8).mono ?_
  rintro e w9 ⟨rfl, O9, h9, t9⟩
  replace T := T.trans t9; clear t9 h8
  go_wp2_with fail
  refine (T1.out _ _ h9).mono ?_
  rintro e v1 ⟨rfl, P1, k1, t1⟩
  replace T := T.trans t1; clear t1 h9
  go_wp2_with fail
  refine (T2.out _ _ k1).mono ?_
  rintro e v2 ⟨rfl, P2, k2, t2⟩
  replace T := T.trans t2; clear t2 k1
  go_wp2_with fail
  refine (T3.out _ _ k2).mono ?_
  rintro e v3 ⟨rfl, P3, k3, t3⟩
  replace T := T.trans t3; clear t3 k2
  go_wp2_with fail
  refine (T4.out _ _ k3).mono ?_
  rintro e v4 ⟨rfl, P4, k4, t4⟩
  replace T := T.trans t4; clear t4 k3
  go_wp2_with fail
  refine (T5.out _ _ k4).mono ?_
  rintro e v5 ⟨rfl, P5, k5, t5⟩
  replace T := T.trans t5; clear t5 k4
  go_wp2
  go_end0
  exact ⟨rfl, P5, k5, T⟩

set_option maxHeartbeats 1600000 in
theorem loop_walk {L0 L1 L2 : Int} {m y1 y2 y3 y4 y5 y6 y7 y8 y9 z1 z2 z3 : MS}
    (s1 : MStep r s 134 #[.pointer (some ⟨r, 0, none⟩)] (.int .i64 L0) m y1)
    (s2 : MStep r s 134 #[.pointer (some ⟨r, 0, none⟩)] (.int .i64 L1) y1 y2)
    (s3 : MStep r s 134 #[.pointer (some ⟨r, 0, none⟩)] (.int .i64 L2) y2 y3)
    (s4 : MStep r s 109 #[.pointer (some ⟨r, 0, none⟩), .string ⟨#[91]⟩] (.tuple #[]) y3 y4)
    (s5 : MStep r s 136 #[.pointer (some ⟨r, 0, none⟩), .int .i64 L0] (.tuple #[]) y4 y5)
    (s6 : MStep r s 135 #[.pointer (some ⟨r, 0, none⟩), .int .i64 L1, .int .i64 L2] (.tuple #[]) y5 y6)
    (s7 : MStep r s 109 #[.pointer (some ⟨r, 0, none⟩), .string ⟨#[123]⟩] (.tuple #[]) y6 y7)
    (s8 : MStep r s 136 #[.pointer (some ⟨r, 0, none⟩), .int .i64 L1] (.tuple #[]) y7 y8)
    (s9 : MStep r s 53 #[.pointer (some ⟨r, 0, none⟩), .int .i64 L0, .int .i64 L2] (.tuple #[]) y8 y9)
    (t1 : MStep r s 109 #[.pointer (some ⟨r, 0, none⟩), .string ⟨#[125, 93]⟩] (.tuple #[]) y9 z1)
    (t2 : MStep r s 137 #[.pointer (some ⟨r, 0, none⟩), .int .i64 L0] (.tuple #[]) z1 z2)
    (t3 : MStep r s 136 #[.pointer (some ⟨r, 0, none⟩), .int .i64 L2] (.tuple #[]) z2 z3) :
    MStep r s 94 #[.pointer (some ⟨r, 0, none⟩)] (.tuple #[]) m z3 := by
  intro w O h0
  have S1 := hide s1; have S2 := hide s2; have S3 := hide s3; have S4 := hide s4; have S5 := hide s5; have S6 := hide s6; have S7 := hide s7; have S8 := hide s8; have S9 := hide s9
  have T1 := hide t1; have T2 := hide t2; have T3 := hide t3
  clear s1 s2 s3 s4 s5 s6 s7 s8 s9 t1 t2 t3
  go_enter Tryz.func94, Tryz.ntmps94
  go_wp2_with fail
  refine (S1.out _ _ h0).mono ?_
  rintro e w1 ⟨rfl, O1, h1, T⟩
  go_wp2_with fail
  refine (S2.out _ _ h1).mono ?_
  rintro e w2 ⟨rfl, O2, h2, t2⟩
  replace T := T.trans t2; clear t2 h1
  go_wp2_with fail
  refine (S3.out _ _ h2).mono ?_
  rintro e w3 ⟨rfl, O3, h3, t3⟩
  replace T := T.trans t3; clear t3 h2
  go_wp2_with fail
  refine (S4.out _ _ h3).mono ?_
  rintro e w4 ⟨rfl, O4, h4, t4⟩
  replace T := T.trans t4; clear t4 h3
  go_wp2_with fail
  refine (S5.out _ _ h4).mono ?_
  rintro e w5 ⟨rfl, O5, h5, t5⟩
  replace T := T.trans t5; clear t5 h4
  go_wp2_with fail
  refine (S6.out _ _ h5).mono ?_
  rintro e w6 ⟨rfl, O6, h6, t6⟩
  replace T := T.trans t6; clear t6 h5
  go_wp2_with fail
  refine (S7.out _ _ h6).mono ?_
  rintro e w7 ⟨rfl, O7, h7, t7⟩
  replace T := T.trans t7; clear t7 h6
  go_wp2_with fail
  refine (S8.out _ _ h7).mono ?_
  rintro e w8 ⟨rfl, O8, h8, t8⟩
  replace T := T.trans t8; clear t8 h7
  go_wp2_with fail
  refine (S9.out _ _ h8).mono ?_
  rintro e w9 ⟨rfl, O9, h9, t9⟩
  replace T := T.trans t9; clear t9 h8
  go_wp2_with fail
  refine (T1.out _ _ h9).mono ?_
  rintro e v1 ⟨rfl, P1, k1, t1⟩
  replace T := T.trans t1; clear t1 h9
  go_wp2_with fail
  refine (T2.out _ _ k1).mono ?_
  rintro e v2 ⟨rfl, P2, k2, t2⟩
  replace T := T.trans t2; clear t2 k1
  go_wp2_with fail
  refine (T3.out _ _ k2).mono ?_
  rintro e v3 ⟨rfl, P3, k3, t3⟩
  replace T := T.trans t3; clear t3 k2
  go_wp2
  go_end0
  exact ⟨rfl, P3, k3, T⟩

set_option maxHeartbeats 1600000 in
theorem leap_bad {m : MS} (u : ByteArray) : MStep r s 95 #[.pointer (some ⟨r, 0, none⟩), .string u, .int .i64 (-1)] (.tuple #[]) m (putP m (m.p.1, true)) := by
  intro w O h0
  obtain ⟨c0, c1, c2, cf⟩ := h0.c
  go_enter Tryz.func95, Tryz.ntmps95
  go_wp2
  refine bodyPost_ret (results_none rfl _ _ _) rfl ?_
  exact ⟨rfl, O, h0.setBad, (Th.refl O w).set _ (.inl h0.own)⟩

set_option maxHeartbeats 1600000 in
theorem leap_walk {m y1 y2 : MS} {u : ByteArray} {k : Int} (hk : k ≠ -1)
    (s1 : MStep r s 109 #[.pointer (some ⟨r, 0, none⟩), .string u] (.tuple #[]) m y1)
    (s2 : MStep r s 137 #[.pointer (some ⟨r, 0, none⟩), .int .i64 k] (.tuple #[]) y1 y2) :
    MStep r s 95 #[.pointer (some ⟨r, 0, none⟩), .string u, .int .i64 k] (.tuple #[]) m y2 := by
  intro w O h0
  have hk' : ((k : Int) == -1) = false := by simp; omega
  have S1 := hide s1; have S2 := hide s2
  clear s1 s2 hk
  go_enter Tryz.func95, Tryz.ntmps95
  go_wp2_with fail
  refine (S1.out _ _ h0).mono ?_
  rintro e w1 ⟨rfl, O1, h1, T⟩
  go_wp2_with fail
  refine (S2.out _ _ h1).mono ?_
  rintro e w2 ⟨rfl, O2, h2, t2⟩
  replace T := T.trans t2; clear t2 h1
  go_wp2
  go_end0
  exact ⟨rfl, O2, h2, T⟩

set_option maxHeartbeats 1600000 in
theorem cond_not {yes no : Int} {m y1 y2 : MS} (hs : s.size ≤ 1000) (hi : m.p.1 ≤ s.size) (hc : pkb s m.p = 33)
    (s1 : MStep r s 109 #[.pointer (some ⟨r, 0, none⟩), .string ⟨#[33]⟩] (.tuple #[]) m y1)
    (s2 : MStep r s 135 #[.pointer (some ⟨r, 0, none⟩), .int .i64 no, .int .i64 yes] (.tuple #[]) y1 y2) :
    MStep r s 135 #[.pointer (some ⟨r, 0, none⟩), .int .i64 yes, .int .i64 no] (.tuple #[]) m y2 := by
  intro w O h0
  have HP := hide (mpeek_w h0 hs hi)
  rw [hc] at HP
  have S1 := hide s1; have S2 := hide s2
  clear s1 s2 hc
  go_enter Tryz.func135, Tryz.ntmps135
  go_wp2_with fail
  refine HP.out.mono ?_
  rintro e w1 ⟨rfl, nq, rfl⟩
  go_wp2_with fail
  refine (S1.out _ _ (h0.n nq)).mono ?_
  rintro e w1 ⟨rfl, O1, h1, T⟩
  replace T := ((Th.refl O w).n nq).trans T
  go_wp2_with fail
  refine (S2.out _ _ h1).mono ?_
  rintro e w2 ⟨rfl, O2, h2, t2⟩
  replace T := T.trans t2; clear t2 h1
  go_wp2
  go_end0
  exact ⟨rfl, O2, h2, T⟩

set_option maxHeartbeats 1600000 in
theorem cond_and {yes no L : Int} {m y1 y2 y3 y4 y5 : MS} (hs : s.size ≤ 1000) (hi : m.p.1 ≤ s.size) (hc : pkb s m.p = 38)
    (s1 : MStep r s 109 #[.pointer (some ⟨r, 0, none⟩), .string ⟨#[38]⟩] (.tuple #[]) m y1)
    (s2 : MStep r s 134 #[.pointer (some ⟨r, 0, none⟩)] (.int .i64 L) y1 y2)
    (s3 : MStep r s 135 #[.pointer (some ⟨r, 0, none⟩), .int .i64 L, .int .i64 no] (.tuple #[]) y2 y3)
    (s4 : MStep r s 136 #[.pointer (some ⟨r, 0, none⟩), .int .i64 L] (.tuple #[]) y3 y4)
    (s5 : MStep r s 135 #[.pointer (some ⟨r, 0, none⟩), .int .i64 yes, .int .i64 no] (.tuple #[]) y4 y5) :
    MStep r s 135 #[.pointer (some ⟨r, 0, none⟩), .int .i64 yes, .int .i64 no] (.tuple #[]) m y5 := by
  intro w O h0
  have HP := hide (mpeek_w h0 hs hi)
  rw [hc] at HP
  have S1 := hide s1; have S2 := hide s2; have S3 := hide s3; have S4 := hide s4; have S5 := hide s5
  clear s1 s2 s3 s4 s5 hc
  go_enter Tryz.func135, Tryz.ntmps135
  go_wp2_with fail
  refine HP.out.mono ?_
  rintro e w1 ⟨rfl, nq, rfl⟩
  go_wp2_with fail
  refine (S1.out _ _ (h0.n nq)).mono ?_
  rintro e w1 ⟨rfl, O1, h1, T⟩
  replace T := ((Th.refl O w).n nq).trans T
  go_wp2_with fail
  refine (S2.out _ _ h1).mono ?_
  rintro e w2 ⟨rfl, O2, h2, t2⟩
  replace T := T.trans t2; clear t2 h1
  go_wp2_with fail
  refine (S3.out _ _ h2).mono ?_
  rintro e w3 ⟨rfl, O3, h3, t3⟩
  replace T := T.trans t3; clear t3 h2
  go_wp2_with fail
  refine (S4.out _ _ h3).mono ?_
  rintro e w4 ⟨rfl, O4, h4, t4⟩
  replace T := T.trans t4; clear t4 h3
  go_wp2_with fail
  refine (S5.out _ _ h4).mono ?_
  rintro e w5 ⟨rfl, O5, h5, t5⟩
  replace T := T.trans t5; clear t5 h4
  go_wp2
  go_end0
  exact ⟨rfl, O5, h5, T⟩

set_option maxHeartbeats 1600000 in
theorem cond_or {yes no L : Int} {m y1 y2 y3 y4 y5 : MS} (hs : s.size ≤ 1000) (hi : m.p.1 ≤ s.size) (hc : pkb s m.p = 124)
    (s1 : MStep r s 109 #[.pointer (some ⟨r, 0, none⟩), .string ⟨#[124]⟩] (.tuple #[]) m y1)
    (s2 : MStep r s 134 #[.pointer (some ⟨r, 0, none⟩)] (.int .i64 L) y1 y2)
    (s3 : MStep r s 135 #[.pointer (some ⟨r, 0, none⟩), .int .i64 yes, .int .i64 L] (.tuple #[]) y2 y3)
    (s4 : MStep r s 136 #[.pointer (some ⟨r, 0, none⟩), .int .i64 L] (.tuple #[]) y3 y4)
    (s5 : MStep r s 135 #[.pointer (some ⟨r, 0, none⟩), .int .i64 yes, .int .i64 no] (.tuple #[]) y4 y5) :
    MStep r s 135 #[.pointer (some ⟨r, 0, none⟩), .int .i64 yes, .int .i64 no] (.tuple #[]) m y5 := by
  intro w O h0
  have HP := hide (mpeek_w h0 hs hi)
  rw [hc] at HP
  have S1 := hide s1; have S2 := hide s2; have S3 := hide s3; have S4 := hide s4; have S5 := hide s5
  clear s1 s2 s3 s4 s5 hc
  go_enter Tryz.func135, Tryz.ntmps135
  go_wp2_with fail
  refine HP.out.mono ?_
  rintro e w1 ⟨rfl, nq, rfl⟩
  go_wp2_with fail
  refine (S1.out _ _ (h0.n nq)).mono ?_
  rintro e w1 ⟨rfl, O1, h1, T⟩
  replace T := ((Th.refl O w).n nq).trans T
  go_wp2_with fail
  refine (S2.out _ _ h1).mono ?_
  rintro e w2 ⟨rfl, O2, h2, t2⟩
  replace T := T.trans t2; clear t2 h1
  go_wp2_with fail
  refine (S3.out _ _ h2).mono ?_
  rintro e w3 ⟨rfl, O3, h3, t3⟩
  replace T := T.trans t3; clear t3 h2
  go_wp2_with fail
  refine (S4.out _ _ h3).mono ?_
  rintro e w4 ⟨rfl, O4, h4, t4⟩
  replace T := T.trans t4; clear t4 h3
  go_wp2_with fail
  refine (S5.out _ _ h4).mono ?_
  rintro e w5 ⟨rfl, O5, h5, t5⟩
  replace T := T.trans t5; clear t5 h4
  go_wp2
  go_end0
  exact ⟨rfl, O5, h5, T⟩
end
end Go.Proofs.YtellieabhaphhaaGreatDoor

/-
  narrow's maker: a test and an action: the walks.
-/
namespace Go.Proofs.YtellieabhaphhaaGreatDoor
open Go.RowKit

set_option maxRecDepth 100000 in
set_option maxHeartbeats 1600000 in
theorem cond_leaf {r : Nat} {s : ByteArray} {yes nay : Int} {m : MS} (hs : s.size ≤ 1000) (hi : m.p.1 ≤ s.size) (hrow : m.row.length ≤ 2000) (g1 : pkb s m.p ≠ 33) (g2 : pkb s m.p ≠ 38) (g3 : pkb s m.p ≠ 124) :
    MStep r s 135 #[.pointer (some ⟨r, 0, none⟩), .int .i64 yes, .int .i64 nay] (.tuple #[]) m (tstM s yes nay m) := by
  intro w O h0
  obtain ⟨i0, hi0, hz0, hz1, hz2⟩ := info_parts info_nn
  have HP := hide (mpeek_w h0 hs hi)
  have HT := hide (fun W (hW : Mp W r s m O) => mtest_w hW hs hi)
  have hq := tstF_bc s m.p hi
  have HV : Hid (tstM s yes nay m = addM (putP m (tstF s m.p).2) (((tstF s m.p).1.setT (sinceB s m.p.1 (tstF s m.p).2.1)).setW yes nay)) := rfl
  have f1 : ((pkb s m.p : Int) == 33) = false := by simp; omega
  have f2 : ((pkb s m.p : Int) == 38) = false := by simp; omega
  have f3 : ((pkb s m.p : Int) == 124) = false := by simp; omega
  obtain ⟨c0, c1, c2, cf⟩ := h0.c
  generalize pkb s m.p = d at *
  generalize tstF s m.p = q at *
  obtain ⟨⟨u0, u1, u2, u3, u4, u5, u6, u7, u8, u9, u10⟩, q⟩ := q
  dsimp only [NN.setT, NN.setW] at HV hq HT
  have HSI := hide (fun W O' (hW : Mp W r s (putP m q) O') => msince_w hW m.p.1 hs hq.2.2 hq.2.1)
  rw [putP_p] at HSI
  generalize sinceB s m.p.1 q.1 = tx2 at *
  unfold NN.cells at HT
  dsimp only at HT
  clear g1 g2 g3 hq
  go_enter Tryz.func135, Tryz.ntmps135
  go_wp2_with fail
  refine HP.out.mono ?_
  rintro e w1 ⟨rfl, nq, rfl⟩
  go_wp2_with fail
  refine (HT.out _ (h0.n nq)).mono ?_
  rintro e w2 ⟨rfl, O2, h2, t2⟩
  have HT2 := hide (((Th.refl O w).n nq).trans t2)
  clear t2
  have h2lt := h2.lt _ h2.own
  have hno : ¬ O2 w2.heap.size := fun e => Nat.lt_irrefl _ (h2.lt _ e)
  go_wp2_with fail
  refine (HSI.out _ O2 (h2.alloc _)).mono ?_
  rintro e w3 ⟨rfl, n3, hw3⟩
  obtain ⟨nv, iv, hB, hN, hI, d1, d2, d3, rfl⟩ := h2
  have hb : Blk w2 r [.string s, .int .i64 q.1, .bool q.2, nv, iv] 84 := hB
  have hA3 : Blk w3 w2.heap.size [.string u0, .int .i64 u1, .int .i64 u2, .int .i64 u3, .int .i64 u4, .int .i64 u5, .int .i64 u6, .int .i64 u7, .int .i64 u8, .int .i64 u9, .int .i64 u10] 91 := by rw [hw3]; (repeat' (first | ((with_reducible show (_ : List Value) = _); rfl) | ((with_reducible refine Blk.newAt _ _ _ ?_); first | with_reducible rfl | (simp; done)) | with_reducible refine Blk.alloc ?_ _ | with_reducible refine Blk.drewN ?_ _ | with_reducible refine Blk.drew ?_ | ((with_reducible refine Blk.other ?_ _ ?_); rotate_left; ((try dsimp only); omega)) | with_reducible refine Blk.setB (cs0 := ?_) ?_ ?_))
  have hr3 : Blk w3 r [.string s, .int .i64 q.1, .bool q.2, nv, iv] 84 := by rw [hw3]; (repeat' (first | ((with_reducible show (_ : List Value) = _); rfl) | with_reducible exact hb | ((with_reducible refine Blk.newAt _ _ _ ?_); first | with_reducible rfl | (simp; done)) | with_reducible refine Blk.alloc ?_ _ | with_reducible refine Blk.drewN ?_ _ | with_reducible refine Blk.drew ?_ | ((with_reducible refine Blk.other ?_ _ ?_); rotate_left; ((try dsimp only); omega)) | with_reducible refine Blk.setB (cs0 := ?_) ?_ ?_))
  have hk3 : Kp no w2 w3 := by rw [hw3]; (repeat' (first | with_reducible exact Kp.refl _ _ | with_reducible refine Kp.alloc ?_ _ | with_reducible refine Kp.drewN ?_ _ | with_reducible refine Kp.drew ?_ | with_reducible refine Kp.setCell ?_ _ ?_ | (intro hh; first | rfl | exact .inl rfl | exact .inr rfl | (exfalso; (try dsimp only at hh); omega))))
  clear hw3 HSI HP HT
  have HN3 := hide (hk3.row hN (fun _ _ => no_elim))
  have HK3 := hide hk3
  have hs3 := hk3.size
  have hal := hA3.lt
  have hrl := hr3.lt
  clear hk3 hno
  obtain ⟨a0, a1, a2, a3, a4, a5, a6, a7, a8, a9, a10, af⟩ := hA3.c11
  have q3 := hr3.cell 3
  simp only [List.getElem?_cons_zero, List.getElem?_cons_succ] at q3
  have qf := hr3.frozen
  have hone : ∀ u ∈ ([.string tx2, .int .i64 u1, .int .i64 u2, .int .i64 u3, .int .i64 u4, .int .i64 u5, .int .i64 u6, .int .i64 u7, .int .i64 u8, .int .i64 yes, .int .i64 nay] : List Value), u.oneCell' = true := by simp [Value.oneCell']
  have hnn : nv.ownBlock ≠ some w2.heap.size := fun e => by have := Row.lt hN e; omega
  have HRW : Hid (NRow (((w3.setCell ⟨w2.heap.size, 0, none⟩ (.string tx2)).setCell ⟨w2.heap.size, 9, none⟩ (.int .i64 yes)).setCell ⟨w2.heap.size, 10, none⟩ (.int .i64 nay)) nv m.row) := Row.set (Row.set (Row.set HN3.out _ hnn) _ hnn) _ hnn
  go_wp2
  have hk3 := HK3.out
  refine wp_gen (fun W => Blk W w2.heap.size [.string tx2, .int .i64 u1, .int .i64 u2, .int .i64 u3, .int .i64 u4, .int .i64 u5, .int .i64 u6, .int .i64 u7, .int .i64 u8, .int .i64 yes, .int .i64 nay] 91 ∧ Blk W r [.string s, .int .i64 q.1, .bool q.2, nv, iv] 84 ∧ NRow W nv m.row ∧ Kp no w2 W) ⟨by (repeat' (first | ((with_reducible show (_ : List Value) = _); rfl) | with_reducible exact hA3 | ((with_reducible refine Blk.newAt _ _ _ ?_); first | with_reducible rfl | (simp; done)) | with_reducible refine Blk.alloc ?_ _ | with_reducible refine Blk.drewN ?_ _ | with_reducible refine Blk.drew ?_ | ((with_reducible refine Blk.other ?_ _ ?_); rotate_left; ((try dsimp only); omega)) | with_reducible refine Blk.setB (cs0 := ?_) ?_ ?_)), by (repeat' (first | ((with_reducible show (_ : List Value) = _); rfl) | with_reducible exact hr3 | ((with_reducible refine Blk.newAt _ _ _ ?_); first | with_reducible rfl | (simp; done)) | with_reducible refine Blk.alloc ?_ _ | with_reducible refine Blk.drewN ?_ _ | with_reducible refine Blk.drew ?_ | ((with_reducible refine Blk.other ?_ _ ?_); rotate_left; ((try dsimp only); omega)) | with_reducible refine Blk.setB (cs0 := ?_) ?_ ?_)), HRW.out, by (repeat' (first | with_reducible exact Kp.refl _ _ | with_reducible refine Kp.alloc ?_ _ | with_reducible refine Kp.drewN ?_ _ | with_reducible refine Kp.drew ?_ | with_reducible refine Kp.setCell ?_ _ ?_ | with_reducible refine Kp.trans ?_ hk3 (fun _ _ e => e) | (intro hh; first | rfl | exact .inl rfl | exact .inr rfl | (exfalso; (try dsimp only at hh); omega))))⟩ ?_
  clear a0 a1 a2 a3 a4 a5 a6 a7 a8 a9 a10 af q3 qf hal hrl hs3 hA3 hr3 HRW HN3 HK3 hk3 hnn
  rintro W ⟨hA, hR, hRW, hkW⟩
  have hs3 := hkW.size
  have hal := hA.lt
  have hrl := hR.lt
  obtain ⟨a0, a1, a2, a3, a4, a5, a6, a7, a8, a9, a10, af⟩ := hA.c11
  have q3 := hR.cell 3
  simp only [List.getElem?_cons_zero, List.getElem?_cons_succ] at q3
  have qf := hR.frozen
  go_region_law (refine step_append_lies _ rfl (.tmp 37) (.tmp 39) 52 rfl 0 91 i0 _ 11 96 Tryz.underlying52 hi0 hz0 hz1 hz2 rfl (by decide) nv m.row.length (nnCells m.row) (by simp [Act.eval]) (by exact World.ownsRow.alloc (w := W.drew) hRW _) ⟨W.heap.size, 0, none⟩ 1 1 [.string tx2, .int .i64 u1, .int .i64 u2, .int .i64 u3, .int .i64 u4, .int .i64 u5, .int .i64 u6, .int .i64 u7, .int .i64 u8, .int .i64 yes, .int .i64 nay] (by simp [Act.eval]) rfl (by exact Blk.news (Blk.new W.drew [.string tx2, .int .i64 u1, .int .i64 u2, .int .i64 u3, .int .i64 u4, .int .i64 u5, .int .i64 u6, .int .i64 u7, .int .i64 u8, .int .i64 yes, .int .i64 nay] _)) hone (by decide) (by unfold maxLen; omega) (by omega) (Nat.zero_le _) _ rfl ?_; intro g cap' w' hown hgrow hat hlt'; have hb' := grown_blk hgrow (Blk.alloc (Blk.drew hR) _) d1; have q3' := hb'.cell 3; have qf' := hb'.frozen; simp only [List.getElem?_cons_zero, List.getElem?_cons_succ] at q3')
  all_goals
    go_wp2
    go_end0
    have hM := mwent_row (s := s) (m := putP m q) (n := ⟨tx2, u1, u2, u3, u4, u5, u6, u7, u8, yes, nay⟩) hB hI d1 d2 d3 (W := W.drew.alloc _) (hkW.drew.alloc _) hown hgrow hat (by simp; omega)
    obtain ⟨O4, h4, t4⟩ := hM
    refine ⟨rfl, O4, ?_, HT2.out.trans t4⟩
    rw [HV.out]
    exact h4

set_option maxRecDepth 100000 in
set_option maxHeartbeats 3200000 in
theorem act_step {r : Nat} {s : ByteArray} {m : MS} (hs : s.size ≤ 180) (hMI : MI s m) (hp : pkb s m.p ≠ 0) :
    MStep r s 96 #[.pointer (some ⟨r, 0, none⟩)] (.tuple #[]) m (actM s m) := by
  intro w O h0
  obtain ⟨i0, hi0, hz0, hz1, hz2⟩ := info_parts info_nn
  have n1 := hMI.row; have n2 := hMI.mm; have n3 := hMI.i; have nb := bc_le m.p
  have a := nacF_bc hp
  have HT := hide (fun W (hW : Mp W r s m O) => maction_w hW (by omega) n3)
  have HV : Hid (actM s m = layM (addM (newM (expM s (putP m (nacF s m.p).2) [59])) (((nacF s m.p).1.setT (sinceB s m.p.1 (nacF s m.p).2.1)).setW m.marks.length m.marks.length)) m.marks.length) := rfl
  obtain ⟨c0, c1, c2, cf⟩ := h0.c
  clear hp hMI
  generalize nacF s m.p = q at *
  obtain ⟨⟨u0, u1, u2, u3, u4, u5, u6, u7, u8, u9, u10⟩, q⟩ := q
  dsimp only [NN.setT, NN.setW] at HV a HT
  have HSI := hide (fun W O' (hW : Mp W r s (putP m q) O') => msince_w hW m.p.1 (by omega) a.2.1 a.1)
  rw [putP_p] at HSI
  generalize sinceB s m.p.1 q.1 = tx2 at *
  unfold NN.cells at HT
  dsimp only at HT
  have S1 : Hid (MStep r s 109 #[.pointer (some ⟨r, 0, none⟩), .string ⟨#[59]⟩] (.tuple #[]) (putP m q) (expM s (putP m q) [59])) := exp_step ⟨#[59]⟩ (by omega) a.2.1 (by decide) (by decide)
  have xr : (expM s (putP m q) [59]).row = m.row := rfl
  have xm : (expM s (putP m q) [59]).marks = m.marks := rfl
  generalize expM s (putP m q) [59] = x at *
  have S2 : Hid (MStep r s 134 #[.pointer (some ⟨r, 0, none⟩)] (.int .i64 m.marks.length) x (newM x)) := by
    have h := new_step (r := r) (s := s) (m := x) (by rw [xm]; omega)
    rw [xm] at h
    exact h
  have S3 : Hid (∀ n : NN, MStep r s 136 #[.pointer (some ⟨r, 0, none⟩), .int .i64 m.marks.length] (.tuple #[]) (addM (newM x) n) (layM (addM (newM x) n) m.marks.length)) :=
    fun n => lay_step m.marks.length (by rw [addM_marks, newM_len, xm]; omega) (by rw [addM_row, newM_row, xr]; omega) (by rw [addM_marks, newM_len, xm]; omega)
  have hyl : (newM x).row.length ≤ 2000 := by rw [newM_row, xr]; omega
  clear xr xm
  generalize newM x = y at *
  generalize m.marks.length = L at *
  go_enter Tryz.func96, Tryz.ntmps96
  go_wp2_with fail
  refine (HT.out _ h0).mono ?_
  rintro e w2 ⟨rfl, O2, h2, t2⟩
  have hno : ¬ O2 w2.heap.size := fun e => Nat.lt_irrefl _ (h2.lt _ e)
  have hrH := h2.lt _ h2.own
  have hsw := t2.1.size
  go_wp2_with fail
  refine (HSI.out _ O2 (h2.alloc _)).mono ?_
  rintro e w3 ⟨rfl, nq, hw3⟩
  have H3 : Hid (Mp w3 r s (putP m q) O2) := by show Mp _ _ _ _ _; rw [hw3]; exact (h2.alloc _).n _
  have T3 : Hid (Th O w O2 w3) := by show Th _ _ _ _; rw [hw3]; exact (t2.alloc _).n _
  have hA3 : Blk w3 w2.heap.size [.string u0, .int .i64 u1, .int .i64 u2, .int .i64 u3, .int .i64 u4, .int .i64 u5, .int .i64 u6, .int .i64 u7, .int .i64 u8, .int .i64 u9, .int .i64 u10] 91 := by rw [hw3]; (repeat' (first | ((with_reducible show (_ : List Value) = _); rfl) | ((with_reducible refine Blk.newAt _ _ _ ?_); first | with_reducible rfl | (simp; done)) | with_reducible refine Blk.alloc ?_ _ | with_reducible refine Blk.drewN ?_ _ | with_reducible refine Blk.drew ?_ | ((with_reducible refine Blk.other ?_ _ ?_); rotate_left; ((try dsimp only); omega)) | with_reducible refine Blk.setB (cs0 := ?_) ?_ ?_))
  clear hw3 t2 h2 HT HSI c0 c1 c2 cf
  have hal := hA3.lt
  obtain ⟨a0, a1, a2, a3, a4, a5, a6, a7, a8, a9, a10, af⟩ := hA3.c11
  go_wp2_with fail
  refine (S1.out _ O2 (H3.out.other _ hno)).mono ?_
  rintro e w4 ⟨rfl, O4, h4, t4⟩
  have hA4 := t4.blk (b := w2.heap.size) (cs := [.string tx2, .int .i64 u1, .int .i64 u2, .int .i64 u3, .int .i64 u4, .int .i64 u5, .int .i64 u6, .int .i64 u7, .int .i64 u8, .int .i64 u9, .int .i64 u10]) (T := 91) (by (repeat' (first | ((with_reducible show (_ : List Value) = _); rfl) | with_reducible exact hA3 | ((with_reducible refine Blk.newAt _ _ _ ?_); first | with_reducible rfl | (simp; done)) | with_reducible refine Blk.alloc ?_ _ | with_reducible refine Blk.drewN ?_ _ | with_reducible refine Blk.drew ?_ | ((with_reducible refine Blk.other ?_ _ ?_); rotate_left; ((try dsimp only); omega)) | with_reducible refine Blk.setB (cs0 := ?_) ?_ ?_))) hno
  have T4 := hide ((T3.out.set _ (.inr hsw)).trans t4)
  clear t4 T3 H3 hA3 a0 a1 a2 a3 a4 a5 a6 a7 a8 a9 a10 af hal hno
  go_wp2_with fail
  refine (S2.out _ O4 h4).mono ?_
  rintro e w5 ⟨rfl, O5, h5, t5⟩
  have hA5 := t5.blk hA4.1 hA4.2
  have T5 := hide (T4.out.trans t5)
  clear t5 T4 hA4 h4
  obtain ⟨nv, iv, hB, hN, hI, d1, d2, d3, rfl⟩ := h5
  obtain ⟨hA5, hnO⟩ := hA5
  have hb : Blk w5 r [.string s, .int .i64 y.p.1, .bool y.p.2, nv, iv] 84 := hB
  have hnn : nv.ownBlock ≠ some w2.heap.size := fun e => hnO (.inr (.inl e))
  have hni : iv.ownBlock ≠ some w2.heap.size := fun e => hnO (.inr (.inr e))
  have hal := hA5.lt
  have hrl := hb.lt
  obtain ⟨a0, a1, a2, a3, a4, a5, a6, a7, a8, a9, a10, af⟩ := hA5.c11
  have q3 := hb.cell 3
  simp only [List.getElem?_cons_zero, List.getElem?_cons_succ] at q3
  have qf := hb.frozen
  have hone : ∀ u ∈ ([.string tx2, .int .i64 u1, .int .i64 u2, .int .i64 u3, .int .i64 u4, .int .i64 u5, .int .i64 u6, .int .i64 u7, .int .i64 u8, .int .i64 L, .int .i64 L] : List Value), u.oneCell' = true := by simp [Value.oneCell']
  go_wp2
  refine wp_gen (fun W => Blk W w2.heap.size [.string tx2, .int .i64 u1, .int .i64 u2, .int .i64 u3, .int .i64 u4, .int .i64 u5, .int .i64 u6, .int .i64 u7, .int .i64 u8, .int .i64 L, .int .i64 L] 91 ∧ Blk W r [.string s, .int .i64 y.p.1, .bool y.p.2, nv, iv] 84 ∧ NRow W nv y.row ∧ MRow W iv y.marks ∧ Th O w (Own r nv iv) W) ⟨by (repeat' (first | ((with_reducible show (_ : List Value) = _); rfl) | with_reducible exact hA5 | ((with_reducible refine Blk.newAt _ _ _ ?_); first | with_reducible rfl | (simp; done)) | with_reducible refine Blk.alloc ?_ _ | with_reducible refine Blk.drewN ?_ _ | with_reducible refine Blk.drew ?_ | ((with_reducible refine Blk.other ?_ _ ?_); rotate_left; ((try dsimp only); omega)) | with_reducible refine Blk.setB (cs0 := ?_) ?_ ?_)), by (repeat' (first | ((with_reducible show (_ : List Value) = _); rfl) | with_reducible exact hb | ((with_reducible refine Blk.newAt _ _ _ ?_); first | with_reducible rfl | (simp; done)) | with_reducible refine Blk.alloc ?_ _ | with_reducible refine Blk.drewN ?_ _ | with_reducible refine Blk.drew ?_ | ((with_reducible refine Blk.other ?_ _ ?_); rotate_left; ((try dsimp only); omega)) | with_reducible refine Blk.setB (cs0 := ?_) ?_ ?_)), Row.set (Row.set hN _ hnn) _ hnn, Row.set (Row.set hI _ hni) _ hni, (T5.out.set _ (.inr hsw)).set _ (.inr hsw)⟩ ?_
  clear a0 a1 a2 a3 a4 a5 a6 a7 a8 a9 a10 af q3 qf hal hrl hA5
  rintro W ⟨hA, hR, hRW, hIW, htW⟩
  have HTW := hide htW
  have hal := hA.lt
  have hrl := hR.lt
  obtain ⟨a0, a1, a2, a3, a4, a5, a6, a7, a8, a9, a10, af⟩ := hA.c11
  have q3 := hR.cell 3
  simp only [List.getElem?_cons_zero, List.getElem?_cons_succ] at q3
  have qf := hR.frozen
  go_region_law (refine step_append_lies _ rfl (.tmp 34) (.tmp 36) 52 rfl 0 91 i0 _ 11 96 Tryz.underlying52 hi0 hz0 hz1 hz2 rfl (by decide) nv y.row.length (nnCells y.row) (by simp [Act.eval]) (by exact World.ownsRow.alloc (w := W.drew) hRW _) ⟨W.heap.size, 0, none⟩ 1 1 [.string tx2, .int .i64 u1, .int .i64 u2, .int .i64 u3, .int .i64 u4, .int .i64 u5, .int .i64 u6, .int .i64 u7, .int .i64 u8, .int .i64 L, .int .i64 L] (by simp [Act.eval]) rfl (by exact Blk.news (Blk.new W.drew [.string tx2, .int .i64 u1, .int .i64 u2, .int .i64 u3, .int .i64 u4, .int .i64 u5, .int .i64 u6, .int .i64 u7, .int .i64 u8, .int .i64 L, .int .i64 L] _)) hone (by decide) (by unfold maxLen; omega) (by omega) (Nat.zero_le _) _ rfl ?_; intro g cap' w' hown hgrow hat hlt'; have hb' := grown_blk hgrow (Blk.alloc (Blk.drew hR) _) d1; have q3' := hb'.cell 3; have qf' := hb'.frozen; simp only [List.getElem?_cons_zero, List.getElem?_cons_succ] at q3')
  all_goals
    have hM := hide (mwent_row (s := s) (m := y) (n := ⟨tx2, u1, u2, u3, u4, u5, u6, u7, u8, L, L⟩) (w := W) hR hIW d1 d2 d3 (W := W.drew.alloc _) ((Kp.refl no W).drew.alloc _) hown hgrow hat (by simp))
    go_wp2_with fail
    obtain ⟨O6, h6, t6⟩ := hM.out
    refine (S3.out _ _ O6 h6).mono ?_
    rintro e w7 ⟨rfl, O7, h7, t7⟩
    go_wp2
    go_end0
    refine ⟨rfl, O7, ?_, (HTW.out.trans t6).trans t7⟩
    rw [HV.out]
    exact h7
end Go.Proofs.YtellieabhaphhaaGreatDoor
