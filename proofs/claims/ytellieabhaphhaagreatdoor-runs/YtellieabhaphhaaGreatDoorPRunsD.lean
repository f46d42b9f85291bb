import Derived.Test.YtellieabhaphhaaGreatDoorPRunsC
/-
  narrowref's reader: the walks of statements and of a source.
-/
namespace Go.Proofs.YtellieabhaphhaaGreatDoor
open Go.RowKit

def StmtSaid (f : Nat) : Prop := ∀ (w : World) (r : Nat) (s : ByteArray) (st : RS) (O : Nat → Prop), s.size ≤ 900 → s.size - st.i < f + 1 → st.i < s.size → Rp w r s st O → st.bad = false → Inv s st →
    Calls Tryz.prog 158 #[.pointer (some ⟨r, 0, none⟩)] w fun x w' => x = .returned (.tuple #[]) ∧ Went w O r s (stF f (stmtsF f s 125) s st) w'

set_option maxHeartbeats 1600000 in
theorem stmt_form {f : Nat} (ih : StmtsSaid f) {w : World} {r : Nat} {s : ByteArray} {st : RS} {O : Nat → Prop} (hs : s.size ≤ 900) (hf : s.size - st.i < f + 1) (hi : st.i < s.size) (h : Rp w r s st O) (hb : st.bad = false) (hI : Inv s st)
    (hc : pk s st.i = 40 ∨ pk s st.i = 91) :
    Calls Tryz.prog 158 #[.pointer (some ⟨r, 0, none⟩)] w fun x w' => x = .returned (.tuple #[]) ∧ Went w O r s (stF f (stmtsF f s 125) s st) w' := by
  have HP := hide (peek_w h)
  rcases hc with hc | hc
  · have HE := hide (show stF f (stmtsF f s 125) s st = ifF f (stmtsF f s 125) s st by simp [stF, hc])
    have HF := hide (fun nq => form_if (w := w.drewN nq) ih hs hf hi (h.n nq) hb hI)
    rw [hc] at HP
    clear hc
    go_enter Tryz.func158, Tryz.ntmps158
    go_wp2_with fail
    refine HP.out.mono ?_
    rintro e w1 ⟨rfl, nq, rfl⟩
    go_wp2_with fail
    refine (HF.out nq).mono ?_
    rintro e w2 ⟨rfl, O2, h2, t2⟩
    go_wp2
    refine bodyPost_ret (results_none rfl _ _ _) rfl ?_
    rw [HE.out]
    exact ⟨rfl, went_th h2 (((Th.refl O w).n nq).trans t2)⟩
  · have HE := hide (show stF f (stmtsF f s 125) s st = whF f (stmtsF f s 125) s st by simp [stF, hc])
    have HF := hide (fun nq => form_while (w := w.drewN nq) ih hs hf hi (h.n nq) hb hI)
    rw [hc] at HP
    clear hc
    go_enter Tryz.func158, Tryz.ntmps158
    go_wp2_with fail
    refine HP.out.mono ?_
    rintro e w1 ⟨rfl, nq, rfl⟩
    go_wp2_with fail
    refine (HF.out nq).mono ?_
    rintro e w2 ⟨rfl, O2, h2, t2⟩
    go_wp2
    refine bodyPost_ret (results_none rfl _ _ _) rfl ?_
    rw [HE.out]
    exact ⟨rfl, went_th h2 (((Th.refl O w).n nq).trans t2)⟩

set_option maxHeartbeats 1600000 in
theorem stmt_leap {f : Nat} {w : World} {r : Nat} {s : ByteArray} {st : RS} {O : Nat → Prop} (hs : s.size ≤ 900) (hi : st.i < s.size) (h : Rp w r s st O) (hb : st.bad = false) (hI : Inv s st)
    (hc : pk s st.i = 62 ∨ pk s st.i = 60) :
    Calls Tryz.prog 158 #[.pointer (some ⟨r, 0, none⟩)] w fun x w' => x = .returned (.tuple #[]) ∧ Went w O r s (stF f (stmtsF f s 125) s st) w' := by
  have HP := hide (peek_w h)
  have n0 := inv_len hs hI
  have HE := hide (show stF f (stmtsF f s 125) s st = if st.loops = 0 then { st with bad := true } else lpF s st by
    unfold stF
    rw [if_neg (by omega), if_neg (by omega), if_pos hc])
  have HL : Hid (lpF s st = eatS s (endAt (pushI (nextI st) (pk s st.i) 0) st.items.length) 59) := rfl
  have p1 := pushI_good (k := pk s st.i) (n := 0) hb hi hI
  have p2 := (endAt_good (k := st.items.length) p1.inv).inv.i
  clear p1
  generalize pk s st.i = d at *
  obtain ⟨c0, c1, c2, c5, cf⟩ := h.c
  by_cases hz : st.loops = 0
  · rw [hz] at c5
    have HZ := hide hz
    clear hz
    go_enter Tryz.func158, Tryz.ntmps158
    go_wp2_with fail
    refine HP.out.mono ?_
    rintro e w1 ⟨rfl, nq, rfl⟩
    rcases hc with rfl | rfl
    all_goals
      go_wp2
      refine bodyPost_ret (results_none rfl _ _ _) rfl ?_
      rw [HE.out, if_pos HZ.out]
      exact ⟨rfl, went_th (h.n nq).setBad (((Th.refl O w).n nq).set _ (.inl h.own))⟩
  · have hz' : ((st.loops : Int) == 0) = false := by simp; omega
    have HZ := hide hz
    clear hz
    go_enter Tryz.func158, Tryz.ntmps158
    go_wp2_with fail
    refine HP.out.mono ?_
    rintro e w1 ⟨rfl, nq, rfl⟩
    rcases hc with rfl | rfl
    all_goals
      go_wp2_with fail
      refine (item_c r s (nextI st) O _ 0 _ (by show st.items.length ≤ 1000; omega) (h.n nq).next).mono ?_
      rintro e w1 ⟨rfl, O1, h1, t1⟩
      rw [show (nextI st).items.length = st.items.length from rfl]
      have T1 := hide ((((Th.refl O w).n nq).set _ (.inl h.own)).trans t1)
      clear t1
      go_wp2_with fail
      refine (ends_c r s _ O1 st.items.length _ (by simp only [nextI, List.length_append, List.length_singleton]; omega) (by simp [nextI]) h1).mono ?_
      rintro e w2 ⟨rfl, O2, h2, t2⟩
      have T2 := hide (T1.out.trans t2)
      clear t2
      go_wp2_with fail
      refine (eat_w h2 59 (by omega) p2).mono ?_
      rintro e w3 ⟨rfl, O3, h3, t3⟩
      go_wp2
      go_end0
      refine ⟨rfl, went_th (O' := O3) ?_ (T2.out.trans t3)⟩
      rw [HE.out, if_neg HZ.out, HL.out]
      exact h3

set_option maxHeartbeats 1600000 in
theorem stmt_act {f : Nat} {w : World} {r : Nat} {s : ByteArray} {st : RS} {O : Nat → Prop} (hs : s.size ≤ 900) (h : Rp w r s st O) (hb : st.bad = false) (hI : Inv s st)
    (g1 : pk s st.i ≠ 40) (g2 : pk s st.i ≠ 91) (g3 : pk s st.i ≠ 62) (g4 : pk s st.i ≠ 60) :
    Calls Tryz.prog 158 #[.pointer (some ⟨r, 0, none⟩)] w fun x w' => x = .returned (.tuple #[]) ∧ Went w O r s (stF f (stmtsF f s 125) s st) w' := by
  have HP := hide (peek_w h)
  have n0 := inv_len hs hI
  have hi := hI.i
  have HE := hide (show stF f (stmtsF f s 125) s st = actF s st by simp [stF, g1, g2, g3, g4])
  have HL : Hid (actF s st = eatS s (endAt { st with i := (simpF s st.i).2.1, bad := (simpF s st.i).2.2, nodes := st.nodes ++ [(simpF s st.i).1], items := st.items ++ [⟨115, st.nodes.length, 0, 0⟩] } st.items.length) 59) := rfl
  have k1 : ((pk s st.i : Int) == 40) = false := by simp; omega
  have k2 : ((pk s st.i : Int) == 91) = false := by simp; omega
  have k3 : ((pk s st.i : Int) == 62) = false := by simp; omega
  have k4 : ((pk s st.i : Int) == 60) = false := by simp; omega
  have p2 := simpF_le s st.i hi
  clear g1 g2 g3 g4
  generalize pk s st.i = d at *
  go_enter Tryz.func158, Tryz.ntmps158
  go_wp2_with fail
  refine HP.out.mono ?_
  rintro e w1 ⟨rfl, nq, rfl⟩
  go_wp2_with fail
  refine (simple_w (h.n nq) hb (by omega) hi).mono ?_
  rintro e w1 ⟨rfl, O1, h1, t1⟩
  have T1 := hide (((Th.refl O w).n nq).trans t1)
  clear t1
  generalize simpF s st.i = q at *
  obtain ⟨⟨uo, ux, uy, uv, uk, ut, uf, ua, ul⟩, qi, qb⟩ := q
  simp only [Nd.cells]
  go_wp2_with fail
  refine (add_c r s _ O1 ⟨uo, ux, uy, uv, uk, ut, uf, ua, ul⟩ _ (by simp only []; omega) (h1.alloc _)).mono ?_
  rintro e w2 ⟨rfl, O2, h2, t2⟩
  have T2 := hide ((T1.out.alloc _).trans t2)
  clear t2
  go_wp2_with fail
  refine (item_c r s _ O2 115 st.nodes.length _ (by simp only []; omega) h2).mono ?_
  rintro e w3 ⟨rfl, O3, h3, t3⟩
  have T3 := hide (T2.out.trans t3)
  clear t3
  go_wp2_with fail
  refine (ends_c r s _ O3 st.items.length _ (by simp only [List.length_append, List.length_singleton]; omega) (by simp) h3).mono ?_
  rintro e w4 ⟨rfl, O4, h4, t4⟩
  have T4 := hide (T3.out.trans t4)
  clear t4
  go_wp2_with fail
  refine (eat_w h4 59 (by omega) p2).mono ?_
  rintro e w5 ⟨rfl, O5, h5, t5⟩
  go_wp2
  go_end0
  refine ⟨rfl, went_th (O' := O5) ?_ (T4.out.trans t5)⟩
  rw [HE.out, HL.out]
  exact h5

theorem statement_w {f : Nat} (ih : StmtsSaid f) : StmtSaid f := by
  intro w r s st O hs hf hi h hb hI
  by_cases h1 : pk s st.i = 40 ∨ pk s st.i = 91
  · exact stmt_form ih hs hf hi h hb hI h1
  by_cases h2 : pk s st.i = 62 ∨ pk s st.i = 60
  · exact stmt_leap hs hi h hb hI h2
  · exact stmt_act hs h hb hI (by omega) (by omega) (by omega) (by omega)
end Go.Proofs.YtellieabhaphhaaGreatDoor

/-
  narrowref's reader: the walk of statements, and of a source.
-/
namespace Go.Proofs.YtellieabhaphhaaGreatDoor
open Go.RowKit

set_option maxHeartbeats 3200000 in
theorem statements_w {f : Nat} (ih : ∀ k, k < f → StmtsSaid k) : StmtsSaid f := by
  intro w r s e st O hs he hf h hb hI
  have IH := hide ih
  clear ih
  have HP := hide (peek_w h)
  go_enter Tryz.func124, Tryz.ntmps124
  go_wp2_with fail
  refine HP.out.mono ?_
  rintro x w1 ⟨rfl, nq, rfl⟩
  go_wp2
  go_loopg [4] f (fun k c wr => ∃ st' O', Rp wr r s st' O' ∧ Th O w O' wr ∧ Inv s st' ∧ c = .int .u8 (pk s st'.i) ∧ (st'.bad = false → s.size - st'.i < k) ∧ k ≤ f ∧ stmtsF f s e st = stmtsF k s e st')
  case atStart => exact ⟨st, O, h.n nq, (Th.refl O w).n nq, hI, rfl, fun _ => hf, Nat.le_refl _, rfl⟩
  case round =>
    obtain ⟨st', O', h', T', hI', rfl, hk, hkf, hE⟩ := hrel
    have HE := hide hE
    have HI' := hide hI'
    have HT := hide T'
    have HK := hide hk
    have HKF := hide hkf
    have hi' := hI'.i
    obtain ⟨c0, c1, c2, c5, cf⟩ := h'.c
    clear hE hI' T' hk hkf hI hf
    cases hb' : st'.bad
    · rw [hb'] at c2
      by_cases h2 : pk s st'.i = e
      · have h2' : (((pk s st'.i : Nat) : Int) != (e : Int)) = false := by simp [h2]
        have HS := hide (stmts_stop gk s e st' (by simp [h2]))
        generalize pk s st'.i = d at *
        go_wp2
        go_quiet (fail)
        go_wp2
        go_end0
        rw [HE.out, HS.out]
        exact ⟨rfl, went_th (h'.n _) (HT.out.n _)⟩
      · have h2' : (((pk s st'.i : Nat) : Int) != (e : Int)) = true := by simp; omega
        by_cases h3 : st'.i < s.size
        · have hk0 := HK.out hb'
          obtain ⟨k, rfl⟩ : ∃ k, gk = k + 1 := ⟨gk - 1, by omega⟩
          have HR := hide (show stmtsF (k + 1) s e st' = stmtsF k s e (stF k (stmtsF k s 125) s st') by rw [stmtsF, if_pos ⟨hb', h2, h3⟩])
          have HST := hide (fun W => statement_w (IH.out k (by have := HKF.out; omega)) W r s st' O' hs hk0 h3)
          have HG := hide (stF_good (stmtsF_good k s 125) HI'.out hb' h3 hk0)
          generalize stF k (stmtsF k s 125) s st' = st2 at *
          generalize pk s st'.i = d at *
          go_wp2
          go_quiet (fail)
          go_wp2_with fail
          refine (HST.out _ (h'.n _) hb' HI'.out).mono ?_
          rintro x w2 ⟨rfl, O2, h2, t2⟩
          go_wp2_with fail
          refine (peek_w h2).mono ?_
          rintro x w3 ⟨rfl, nq3, rfl⟩
          go_wp2
          go_roundg k
          case measure => omega
          case rel => exact ⟨st2, O2, h2.n nq3, ((HT.out.n _).trans t2).n nq3, HG.out.1.inv, rfl, fun hb2 => by have := HG.out.2 hb2; have := HG.out.1.inv.i; omega, by have := HKF.out; omega, by rw [HE.out, HR.out]⟩
        · have HS := hide (stmts_stop gk s e st' (by simp [h3]))
          generalize pk s st'.i = d at *
          go_wp2
          go_quiet (fail)
          go_wp2
          go_end0
          rw [HE.out, HS.out]
          exact ⟨rfl, went_th (h'.n _) (HT.out.n _)⟩
    · rw [hb'] at c2
      have HS := hide (stmts_stop gk s e st' (by simp [hb']))
      generalize pk s st'.i = d at *
      go_wp2
      go_quiet (fail)
      go_wp2
      go_end0
      rw [HE.out, HS.out]
      exact ⟨rfl, went_th (h'.n _) (HT.out.n _)⟩

theorem stmts_all : ∀ f, StmtsSaid f := by
  intro f
  induction f using Nat.strongRecOn with
  | _ f ih => exact statements_w ih

def rs0 : RS := { i := 0, bad := false, nodes := [], items := [], loops := 0 }

theorem inv0 (s : ByteArray) : Inv s rs0 := ⟨Nat.zero_le _, Nat.zero_le _, Nat.zero_le _, Nat.zero_le _⟩

/-- The source, as it is read. -/
def srcF (s : ByteArray) : RS := stmtsF (s.size + 1) s 0 rs0

theorem srcF_good (s : ByteArray) : Good s rs0 (srcF s) := stmtsF_good (s.size + 1) s 0 rs0 (inv0 s) rfl (by show s.size - 0 < _; omega)

def srcBad (s : ByteArray) : Bool := (srcF s).bad || decide ((srcF s).i < s.size)

set_option maxHeartbeats 1600000 in
theorem source_long (s : ByteArray) (w : World) (hm : s.size ≤ maxLen) (hs : 180 < s.size) :
    Calls Tryz.prog 79 #[.string s] w fun e w' => (∃ r, e = .returned (.tuple #[.pointer (some ⟨r, 0, none⟩), .int .i64 1, .int .i64 0])) ∧ Kp no w w' := by
  unfold maxLen at hm
  go_enter Tryz.func79, Tryz.ntmps79
  go_wp2
  go_ret3
  exact ⟨⟨_, rfl⟩, by (repeat' (first | with_reducible exact Kp.refl _ _ | with_reducible refine Kp.alloc ?_ _ | with_reducible refine Kp.drewN ?_ _ | with_reducible refine Kp.drew ?_ | with_reducible refine Kp.setCell ?_ _ ?_ | (intro hh; first | rfl | exact .inl rfl | exact .inr rfl | (exfalso; (try dsimp only at hh); omega))))⟩

def SrcPost (s : ByteArray) (w : World) (e : Ending) (w' : World) : Prop :=
  ∃ r O, e = .returned (.tuple #[.pointer (some ⟨r, 0, none⟩), .int .i64 (if srcBad s then 2 else 0), .int .i64 (if srcBad s then (srcF s).i else 0)]) ∧
      Rp w' r s (srcF s) O ∧ Kp no w w' ∧ ∀ b, O b → w.heap.size ≤ b

set_option maxHeartbeats 1600000 in
theorem source_c (s : ByteArray) (w : World) (hs : s.size ≤ 180) :
    Calls Tryz.prog 79 #[.string s] w fun e w' => SrcPost s w e w' := by
  have HS := hide (fun W r O => stmts_all (s.size + 1) W r s 0 rs0 O (by omega) (by decide) (by show s.size - 0 < _; omega))
  have HF : Hid (srcF s = stmtsF (s.size + 1) s 0 rs0) := rfl
  have g := (srcF_good s).inv.i
  have HB : Hid (srcBad s = ((srcF s).bad || decide ((srcF s).i < s.size))) := rfl
  go_enter Tryz.func79, Tryz.ntmps79
  go_wp2_with fail
  have h0 : Rp (w.alloc (.cells #[.string s, .int .i64 0, .bool false, .slice none 0 0, .slice none 0 0, .int .i64 0] 45)) w.heap.size s rs0 (Own w.heap.size (.slice none 0 0) (.slice none 0 0)) :=
    ⟨_, _, Blk.new w [.string s, .int .i64 0, .bool false, .slice none 0 0, .slice none 0 0, .int .i64 0] _, World.ownsRow_nil _ _ _ _, World.ownsRow_nil _ _ _ _, by simp [Value.ownBlock], by simp [Value.ownBlock], by simp [Value.ownBlock], rfl⟩
  refine (HS.out _ w.heap.size _ h0 rfl (inv0 s)).mono ?_
  rw [← HF.out]
  rintro e w1 ⟨rfl, O1, h1, t1⟩
  generalize hst : srcF s = st at h1 g HB
  have HST2 := hide hst
  clear hst
  have hO : ∀ b, O1 b → w.heap.size ≤ b := fun b hb => by
    rcases Nat.lt_or_ge b w.heap.size with hlt | hge
    · rcases t1.2 b hb (by simp; omega) with e | e | e
      · omega
      · simp [Value.ownBlock] at e
      · simp [Value.ownBlock] at e
    · exact hge
  have hk : Kp no w w1 := ((Kp.refl no w).alloc _).trans t1.1 (fun x hx e => by
    rcases e with e | e | e
    · omega
    · simp [Value.ownBlock] at e
    · simp [Value.ownBlock] at e)
  obtain ⟨c0, c1, c2, c5, cf⟩ := h1.c
  have HO := hide hO
  have HK := hide hk
  clear hO hk t1
  cases hb : st.bad
  · rw [hb] at c2
    by_cases hi : st.i < s.size
    · have e1 : srcBad s = true := by rw [HB.out]; simp [hi]
      go_wp2
      go_quiet (fail)
      go_wp2
      go_ret3
      exact ⟨_, O1, by rw [e1, HST2.out]; rfl, by rw [HST2.out]; exact h1.n _, HK.out.drewN _, HO.out⟩
    · have e1 : srcBad s = false := by rw [HB.out]; simp [hb, hi]
      go_wp2
      go_ret3
      exact ⟨_, O1, by rw [e1]; rfl, by rw [HST2.out]; exact h1, HK.out, HO.out⟩
  · rw [hb] at c2
    have e1 : srcBad s = true := by rw [HB.out]; simp [hb]
    go_wp2
    go_quiet (fail)
    go_wp2
    go_ret3
    exact ⟨_, O1, by rw [e1, HST2.out]; rfl, by rw [HST2.out]; exact h1.n _, HK.out.drewN _, HO.out⟩
end Go.Proofs.YtellieabhaphhaaGreatDoor

/-
  narrowref's machine: small parts.
-/
namespace Go.Proofs.YtellieabhaphhaaGreatDoor
open Go.RowKit

set_option maxHeartbeats 400000 in
theorem in_c (s : ByteArray) (c : Nat) (w : World) (hs : s.size ≤ 1000) :
    Calls Tryz.prog 74 #[.string s, .int .u8 c] w fun e w' => e = .returned (.bool (amF c s.data.toList)) ∧ w' = w := by
  go_enter Tryz.func74, Tryz.ntmps74
  go_wp2_with (go_at_call 121; refine (among_c c s _ hs).mono ?_; rintro e w' ⟨rfl, rfl⟩)
  go_ret
  exact ⟨rfl, rfl⟩

def capF (k : Int) : ByteArray := if k = 116 then ⟨#[84]⟩ else if k = 102 then ⟨#[70]⟩ else if k = 122 then ⟨#[90]⟩ else ⟨#[67]⟩

set_option maxHeartbeats 400000 in
theorem capital_c (k : Int) (w : World) :
    Calls Tryz.prog 162 #[.int .u8 k] w fun e w' => e = .returned (.string (capF k)) ∧ w' = w := by
  by_cases h1 : k = 116
  · subst h1
    go_enter Tryz.func162, Tryz.ntmps162
    go_wp2
    go_ret
    exact ⟨rfl, rfl⟩
  by_cases h2 : k = 102
  · subst h2
    go_enter Tryz.func162, Tryz.ntmps162
    go_wp2
    go_ret
    exact ⟨rfl, rfl⟩
  by_cases h3 : k = 122
  · subst h3
    go_enter Tryz.func162, Tryz.ntmps162
    go_wp2
    go_ret
    exact ⟨rfl, rfl⟩
  · have e : capF k = ⟨#[67]⟩ := by simp [capF, h1, h2, h3]
    rw [e]
    have g1 : (k == 116) = false := by simp [h1]
    have g2 : (k == 102) = false := by simp [h2]
    have g3 : (k == 122) = false := by simp [h3]
    go_enter Tryz.func162, Tryz.ntmps162
    go_wp2
    go_ret
    exact ⟨rfl, rfl⟩

theorem conv1 (W : World) (k : Int) : (convert 156 9 (.slice (some ⟨W.heap.size, 0, none⟩) 1 1)).run Tryz.prog (W.alloc (.cells #[.int .u8 k] 5)) = .ok (.string (strOfNums [k])) (W.alloc (.cells #[.int .u8 k] 5)) := by
  refine run_convert_bytes_arg (P := Tryz.prog) _ 156 5 Tryz.underlying156 Tryz.underlying5 W.heap.size 0 1 1 [k] rfl ?_ 9 Tryz.underlying9
  intro i hi
  have h := (Blk.new W [.int .u8 k] 5).cell (0 + i)
  rw [h]
  obtain rfl : i = 0 := by omega
  rfl

theorem conv2 (W : World) (k l : Int) : (convert 156 9 (.slice (some ⟨W.heap.size, 0, none⟩) 2 2)).run Tryz.prog (W.alloc (.cells #[.int .u8 k, .int .u8 l] 5)) = .ok (.string (strOfNums [k, l])) (W.alloc (.cells #[.int .u8 k, .int .u8 l] 5)) := by
  refine run_convert_bytes_arg (P := Tryz.prog) _ 156 5 Tryz.underlying156 Tryz.underlying5 W.heap.size 0 2 2 [k, l] rfl ?_ 9 Tryz.underlying9
  intro i hi
  have h := (Blk.new W [.int .u8 k, .int .u8 l] 5).cell (0 + i)
  rw [h]
  obtain rfl | rfl : i = 0 ∨ i = 1 := by omega
  · rfl
  · rfl

/-- A node's number, in two digits. -/
def twoB (n : Nat) : ByteArray := strOfNums [48 + (n : Int) / 10, 48 + (n : Int) % 10]

set_option maxRecDepth 100000 in
set_option maxHeartbeats 400000 in
theorem two_c (n : Nat) (w : World) (hn : n < 100) :
    Calls Tryz.prog 129 #[.int .i64 n] w fun e w' => e = .returned (.string (twoB n)) ∧ Kp no w w' := by
  have hc := conv2
  unfold twoB
  go_enter Tryz.func129, Tryz.ntmps129
  go_wp2
  go_ret
  exact ⟨rfl, by (repeat' (first | with_reducible exact Kp.refl _ _ | with_reducible refine Kp.alloc ?_ _ | with_reducible refine Kp.drewN ?_ _ | with_reducible refine Kp.drew ?_ | with_reducible refine Kp.setCell ?_ _ ?_ | (intro hh; first | rfl | exact .inl rfl | exact .inr rfl | (exfalso; (try dsimp only at hh); omega))))⟩

def takF (op : Int) : ByteArray :=
  if op = 43 ∨ op = 60 ∨ op = 65 then ⟨#[110]⟩ else if op = 66 then ⟨#[116, 102, 122]⟩ else if op = 46 then ⟨#[65, 66]⟩ else ⟨#[110, 116, 102, 122, 65, 66, 67]⟩

set_option maxHeartbeats 400000 in
theorem takes_c (n : Nd) (w : World) :
    Calls Tryz.prog 119 #[.agg #[.int .u8 n.op, .int .i64 n.x, .int .i64 n.y, .int .i64 n.v, .int .u8 n.k, .int .i64 n.t, .int .i64 n.f, .int .i64 n.a, .int .i64 n.l]] w fun e w' => e = .returned (.string (takF n.op)) ∧ Kp no w w' := by
  generalize n.op = o
  by_cases h1 : o = 43
  · subst h1
    go_enter Tryz.func119, Tryz.ntmps119
    go_wp2
    go_ret
    exact ⟨rfl, by (repeat' (first | with_reducible exact Kp.refl _ _ | with_reducible refine Kp.alloc ?_ _ | with_reducible refine Kp.drewN ?_ _ | with_reducible refine Kp.drew ?_ | with_reducible refine Kp.setCell ?_ _ ?_ | (intro hh; first | rfl | exact .inl rfl | exact .inr rfl | (exfalso; (try dsimp only at hh); omega))))⟩
  by_cases h2 : o = 60
  · subst h2
    go_enter Tryz.func119, Tryz.ntmps119
    go_wp2
    go_ret
    exact ⟨rfl, by (repeat' (first | with_reducible exact Kp.refl _ _ | with_reducible refine Kp.alloc ?_ _ | with_reducible refine Kp.drewN ?_ _ | with_reducible refine Kp.drew ?_ | with_reducible refine Kp.setCell ?_ _ ?_ | (intro hh; first | rfl | exact .inl rfl | exact .inr rfl | (exfalso; (try dsimp only at hh); omega))))⟩
  by_cases h3 : o = 65
  · subst h3
    go_enter Tryz.func119, Tryz.ntmps119
    go_wp2
    go_ret
    exact ⟨rfl, by (repeat' (first | with_reducible exact Kp.refl _ _ | with_reducible refine Kp.alloc ?_ _ | with_reducible refine Kp.drewN ?_ _ | with_reducible refine Kp.drew ?_ | with_reducible refine Kp.setCell ?_ _ ?_ | (intro hh; first | rfl | exact .inl rfl | exact .inr rfl | (exfalso; (try dsimp only at hh); omega))))⟩
  by_cases h4 : o = 66
  · subst h4
    go_enter Tryz.func119, Tryz.ntmps119
    go_wp2
    go_ret
    exact ⟨rfl, by (repeat' (first | with_reducible exact Kp.refl _ _ | with_reducible refine Kp.alloc ?_ _ | with_reducible refine Kp.drewN ?_ _ | with_reducible refine Kp.drew ?_ | with_reducible refine Kp.setCell ?_ _ ?_ | (intro hh; first | rfl | exact .inl rfl | exact .inr rfl | (exfalso; (try dsimp only at hh); omega))))⟩
  by_cases h5 : o = 46
  · subst h5
    go_enter Tryz.func119, Tryz.ntmps119
    go_wp2
    go_ret
    exact ⟨rfl, by (repeat' (first | with_reducible exact Kp.refl _ _ | with_reducible refine Kp.alloc ?_ _ | with_reducible refine Kp.drewN ?_ _ | with_reducible refine Kp.drew ?_ | with_reducible refine Kp.setCell ?_ _ ?_ | (intro hh; first | rfl | exact .inl rfl | exact .inr rfl | (exfalso; (try dsimp only at hh); omega))))⟩
  · have e : takF o = ⟨#[110, 116, 102, 122, 65, 66, 67]⟩ := by simp [takF, h1, h2, h3, h4, h5]
    rw [e]
    have g1 : (o == 43) = false := by simp [h1]
    have g2 : (o == 60) = false := by simp [h2]
    have g3 : (o == 65) = false := by simp [h3]
    have g4 : (o == 66) = false := by simp [h4]
    have g5 : (o == 46) = false := by simp [h5]
    go_enter Tryz.func119, Tryz.ntmps119
    go_wp2
    go_ret
    exact ⟨rfl, by (repeat' (first | with_reducible exact Kp.refl _ _ | with_reducible refine Kp.alloc ?_ _ | with_reducible refine Kp.drewN ?_ _ | with_reducible refine Kp.drew ?_ | with_reducible refine Kp.setCell ?_ _ ?_ | (intro hh; first | rfl | exact .inl rfl | exact .inr rfl | (exfalso; (try dsimp only at hh); omega))))⟩
end Go.Proofs.YtellieabhaphhaaGreatDoor

/-
  narrowref's machine: what it holds; steps told.
-/
namespace Go.Proofs.YtellieabhaphhaaGreatDoor
open Go.RowKit

structure Vl where
  k : Int
  n : Int
  v : Int

def Vl.cells (x : Vl) : List Value := [.int .u8 x.k, .int .i64 x.n, .int .u8 x.v]
def vCells (l : List Vl) : List Value := l.flatMap Vl.cells
theorem vl3 (x : Vl) : x.cells.length = 3 := rfl

structure Mc where
  l : List Vl
  rd : Nat
  left : Nat
  tr : ByteArray
  out : ByteArray
  e : Int

/-- The machine: its block, and the row of its variables. -/
structure MB (w : World) (m lb : Nat) (inp : ByteArray) (st : Mc) : Prop where
  b : Blk w m [.slice (some ⟨lb, 0, none⟩) 6 6, .string inp, .int .i64 st.rd, .int .i64 st.left, .string st.tr, .string st.out, .int .i64 st.e] 128
  l : Blk w lb (vCells st.l) 163
  ne : m ≠ lb
  six : st.l.length = 6

def MK (m lb : Nat) (b : Nat) : Prop := b = m ∨ b = lb

section
variable {w : World} {m lb : Nat} {inp : ByteArray} {st : Mc}

theorem MB.c (h : MB w m lb inp st) : w.cell? ⟨m, 0, none⟩ = some (.slice (some ⟨lb, 0, none⟩) 6 6) ∧ w.cell? ⟨m, 1, none⟩ = some (.string inp) ∧ w.cell? ⟨m, 2, none⟩ = some (.int .i64 st.rd) ∧
    w.cell? ⟨m, 3, none⟩ = some (.int .i64 st.left) ∧ w.cell? ⟨m, 4, none⟩ = some (.string st.tr) ∧ w.cell? ⟨m, 5, none⟩ = some (.string st.out) ∧ w.cell? ⟨m, 6, none⟩ = some (.int .i64 st.e) ∧ ∀ o, w.frozen? ⟨m, o, none⟩ = false :=
  ⟨h.b.cell 0, h.b.cell 1, h.b.cell 2, h.b.cell 3, h.b.cell 4, h.b.cell 5, h.b.cell 6, h.b.frozen⟩

theorem MB.v (h : MB w m lb inp st) (i j : Nat) (hi : i < st.l.length) (hj : j < 3) : w.cell? ⟨lb, i * 3 + j, none⟩ = st.l[i].cells[j]? := by
  rw [h.l.cell]; exact flat_get Vl.cells 3 vl3 st.l i j hi hj

theorem MB.vs (h : MB w m lb inp st) (i : Nat) (hi : i < st.l.length) : w.cell? ⟨lb, i * 3, none⟩ = some (.int .u8 st.l[i].k) ∧ w.cell? ⟨lb, i * 3 + 1, none⟩ = some (.int .i64 st.l[i].n) ∧ w.cell? ⟨lb, i * 3 + 2, none⟩ = some (.int .u8 st.l[i].v) :=
  ⟨h.v i 0 hi (by decide), h.v i 1 hi (by decide), h.v i 2 hi (by decide)⟩

theorem MB.lt (h : MB w m lb inp st) : m < w.heap.size ∧ lb < w.heap.size := ⟨h.b.lt, h.l.lt⟩
theorem MB.n (h : MB w m lb inp st) (n : Nat) : MB (w.drewN n) m lb inp st := ⟨h.b, h.l, h.ne, h.six⟩
theorem MB.drew (h : MB w m lb inp st) : MB w.drew m lb inp st := ⟨h.b, h.l, h.ne, h.six⟩
theorem MB.alloc (h : MB w m lb inp st) (o : Obj) : MB (w.alloc o) m lb inp st := ⟨h.b.alloc o, h.l.alloc o, h.ne, h.six⟩
theorem MB.kp {S : Nat → Prop} {w' : World} (h : MB w m lb inp st) (k : Kp S w w') (h1 : ¬ S m) (h2 : ¬ S lb) : MB w' m lb inp st := ⟨k.blk h.b h1, k.blk h.l h2, h.ne, h.six⟩
theorem MB.other (h : MB w m lb inp st) {a : Addr} (v : Value) (h1 : a.block ≠ m) (h2 : a.block ≠ lb) : MB (w.setCell a v) m lb inp st := ⟨h.b.other v (Ne.symm h1), h.l.other v (Ne.symm h2), h.ne, h.six⟩
theorem MB.setLeft (h : MB w m lb inp st) (n : Nat) : MB (w.setCell ⟨m, 3, none⟩ (.int .i64 n)) m lb inp { st with left := n } := ⟨h.b.set 3 _, h.l.other _ (Ne.symm h.ne), h.ne, h.six⟩
theorem MB.setRd (h : MB w m lb inp st) (n : Nat) : MB (w.setCell ⟨m, 2, none⟩ (.int .i64 n)) m lb inp { st with rd := n } := ⟨h.b.set 2 _, h.l.other _ (Ne.symm h.ne), h.ne, h.six⟩
theorem MB.setTr (h : MB w m lb inp st) (n : ByteArray) : MB (w.setCell ⟨m, 4, none⟩ (.string n)) m lb inp { st with tr := n } := ⟨h.b.set 4 _, h.l.other _ (Ne.symm h.ne), h.ne, h.six⟩
theorem MB.setOut (h : MB w m lb inp st) (n : ByteArray) : MB (w.setCell ⟨m, 5, none⟩ (.string n)) m lb inp { st with out := n } := ⟨h.b.set 5 _, h.l.other _ (Ne.symm h.ne), h.ne, h.six⟩
theorem MB.setE (h : MB w m lb inp st) (n : Int) : MB (w.setCell ⟨m, 6, none⟩ (.int .i64 n)) m lb inp { st with e := n } := ⟨h.b.set 6 _, h.l.other _ (Ne.symm h.ne), h.ne, h.six⟩
end

def kindsB (a : ByteArray) (l : List Vl) : ByteArray := l.foldl (fun a x => a ++ strOfNums [x.k]) a

theorem kindsB_take (a : ByteArray) (l : List Vl) (j : Nat) (h : j < l.length) : kindsB a (l.take (j + 1)) = kindsB a (l.take j) ++ strOfNums [l[j].k] := by
  rw [List.take_succ_eq_append_getElem h, kindsB, List.foldl_append]; rfl

theorem str1 (k : Int) : (strOfNums [k]).size = 1 := by simp [strOfNums_size]

theorem kindsB_size (a : ByteArray) (l : List Vl) : (kindsB a l).size = a.size + l.length := by
  unfold kindsB
  induction l generalizing a with
  | nil => rfl
  | cons x l ih => rw [List.foldl_cons, ih, ByteArray.size_append, str1]; simp; omega

theorem twoB_size (n : Nat) : (twoB n).size = 2 := by simp [twoB, strOfNums_size]

def toldB (n : Nat) (l : List Vl) : ByteArray := kindsB (twoB n) l

def sp : ByteArray := ⟨#[32]⟩

set_option maxRecDepth 100000 in
set_option maxHeartbeats 1600000 in
theorem told_c {w : World} {m lb : Nat} {inp : ByteArray} {st : Mc} (n : Nat) (hn : n < 100) (h : MB w m lb inp st) (ht : st.tr.size ≤ 100000) :
    Calls Tryz.prog 130 #[.pointer (some ⟨m, 0, none⟩), .int .i64 n] w fun e w' => e = .returned (.tuple #[]) ∧ MB w' m lb inp { st with tr := st.tr ++ toldB n st.l ++ sp } ∧ Kp (MK m lb) w w' := by
  have hc := conv1
  have hlt := h.lt
  have h6 := h.six
  go_enter Tryz.func130, Tryz.ntmps130
  go_wp2_with fail
  refine (two_c n _ hn).mono ?_
  rintro e w1 ⟨rfl, k1⟩
  have h1 := h.kp k1 no_elim no_elim
  go_wp2
  go_loopg [4, 5] 6 (fun k s i wr => ∃ j : Nat, j ≤ 6 ∧ k = 6 - j ∧ i = .int .i64 j ∧ s = .string (kindsB (twoB n) (st.l.take j)) ∧ MB wr m lb inp st ∧ Kp no w wr)
  case atStart => exact ⟨0, by decide, rfl, rfl, rfl, h1, k1⟩
  case round =>
    obtain ⟨j, hj, hk, rfl, rfl, hr, kr⟩ := hrel
    have HK := hide hk
    have HKR := hide kr
    clear hk kr
    obtain ⟨c0, c1, c2, c3, c4, c5, c6, cf⟩ := hr.c
    by_cases hlt6 : j < 6
    · obtain ⟨v0, _, _⟩ := hr.vs j (by omega)
      have HT := hide (kindsB_take (twoB n) st.l j (by omega))
      have hs1 := str1 st.l[j].k
      have hsz : (kindsB (twoB n) (st.l.take j)).size ≤ 100 := by rw [kindsB_size, twoB_size, List.length_take]; omega
      generalize kindsB (twoB n) (st.l.take j) = t at *
      go_wp2
      go_roundg (6 - (j + 1))
      case measure => have := HK.out; omega
      case rel => exact ⟨j + 1, by omega, rfl, by go_num, by rw [HT.out], hr.alloc _, HKR.out.alloc _⟩
    · have hsz : (kindsB (twoB n) (st.l.take j)).size ≤ 100 := by rw [kindsB_size, twoB_size, List.length_take]; omega
      have HF := hide (show kindsB (twoB n) (st.l.take j) = toldB n st.l by rw [List.take_of_length_le (by omega)]; rfl)
      have hsp : (ByteArray.mk #[32]).size = 1 := rfl
      generalize kindsB (twoB n) (st.l.take j) = t at *
      go_wp2
      go_end0
      rw [← HF.out]
      exact ⟨rfl, hr.setTr _, (HKR.out.mono (fun _ e => e.elim)).setCell _ (fun _ => .inl rfl)⟩
end Go.Proofs.YtellieabhaphhaaGreatDoor

/-
  narrowref's machine: steps, input.
-/
namespace Go.Proofs.YtellieabhaphhaaGreatDoor
open Go.RowKit

def startF (st : Mc) (n : Nat) : Mc × Bool :=
  if st.left = 0 then ({ st with e := 4 }, false) else ({ st with left := st.left - 1, tr := st.tr ++ toldB n st.l ++ sp }, true)

set_option maxHeartbeats 1600000 in
theorem starts_c {w : World} {m lb : Nat} {inp : ByteArray} {st : Mc} (n : Nat) (hn : n < 100) (h : MB w m lb inp st) (ht : st.tr.size ≤ 100000) (hl : st.left ≤ 1000) :
    Calls Tryz.prog 85 #[.pointer (some ⟨m, 0, none⟩), .int .i64 n] w fun e w' => e = .returned (.bool (startF st n).2) ∧ MB w' m lb inp (startF st n).1 ∧ Kp (MK m lb) w w' := by
  obtain ⟨c0, c1, c2, c3, c4, c5, c6, cf⟩ := h.c
  by_cases hz : st.left = 0
  · have e1 : startF st n = ({ st with e := 4 }, false) := by simp [startF, hz]
    rw [e1]
    rw [hz] at c3
    go_enter Tryz.func85, Tryz.ntmps85
    go_wp2
    go_ret
    exact ⟨rfl, h.setE 4, (Kp.refl _ _).setCell _ (fun _ => .inl rfl)⟩
  · have e1 : startF st n = ({ st with left := st.left - 1, tr := st.tr ++ toldB n st.l ++ sp }, true) := by simp [startF, hz]
    rw [e1]
    have hp : 0 < st.left := by omega
    have HD := hide (show ((st.left : Int) - 1) = ((st.left - 1 : Nat) : Int) by omega)
    clear hz
    go_enter Tryz.func85, Tryz.ntmps85
    go_wp2_with fail
    rw [HD.out]
    refine (told_c (st := { st with left := st.left - 1 }) n hn (h.setLeft _) ht).mono ?_
    rintro e w1 ⟨rfl, h1, k1⟩
    go_wp2
    go_ret
    exact ⟨rfl, h1, Kp.trans ((Kp.refl _ _).setCell _ (fun _ => .inl rfl)) k1 (fun _ _ e => e)⟩

def inVal (c : Nat) : Vl :=
  if 48 ≤ c ∧ c ≤ 57 then ⟨110, (c : Int) - 48, 0⟩ else if c = 84 then ⟨116, 0, 0⟩ else if c = 70 then ⟨102, 0, 0⟩ else if c = 65 then ⟨65, 0, 0⟩ else if c = 66 then ⟨66, 0, 122⟩ else if c = 67 then ⟨67, 0, 0⟩ else ⟨122, 0, 0⟩

def nextF (inp : ByteArray) (st : Mc) : Vl × Mc :=
  if st.rd < inp.size then (inVal (pk inp st.rd), { st with rd := st.rd + 1 }) else (inVal 90, st)

theorem Blk.c3 {w : World} {b : Nat} {a0 a1 a2 : Value} {T : TypeId} (h : Blk w b [a0, a1, a2] T) :
    w.cell? ⟨b, 0, none⟩ = some a0 ∧ w.cell? ⟨b, 1, none⟩ = some a1 ∧ w.cell? ⟨b, 2, none⟩ = some a2 ∧ ∀ o, w.frozen? ⟨b, o, none⟩ = false :=
  ⟨h.cell 0, h.cell 1, h.cell 2, h.frozen⟩

set_option maxHeartbeats 1600000 in
theorem next_end {w : World} {m lb : Nat} {inp : ByteArray} {st : Mc} (h : MB w m lb inp st) (_ : inp.size ≤ 40) (hr : ¬ st.rd < inp.size) :
    Calls Tryz.prog 163 #[.pointer (some ⟨m, 0, none⟩)] w fun e w' => e = .returned (.agg (nextF inp st).1.cells.toArray) ∧ MB w' m lb inp (nextF inp st).2 ∧ Kp (MK m lb) w w' := by
  have HV := hide (show nextF inp st = (⟨122, 0, 0⟩, st) by simp [nextF, hr, inVal])
  obtain ⟨c0, c1, c2, c3, c4, c5, c6, cf⟩ := h.c
  have hlt := h.lt
  go_enter Tryz.func163, Tryz.ntmps163
  go_wp2
  refine wp_gen (fun W => MB W m lb inp st ∧ Blk W w.heap.size [.int .u8 0, .int .i64 0, .int .u8 0] 163 ∧ Kp (MK m lb) w W) ⟨h.alloc _, by exact Blk.new w [.int .u8 0, .int .i64 0, .int .u8 0] _, by (repeat' (first | with_reducible exact Kp.refl _ _ | with_reducible refine Kp.alloc ?_ _ | with_reducible refine Kp.drewN ?_ _ | with_reducible refine Kp.drew ?_ | with_reducible refine Kp.setCell ?_ _ ?_ | (intro hh; first | rfl | exact .inl rfl | exact .inr rfl | (exfalso; (try dsimp only at hh); omega))))⟩ ?_
  rintro W ⟨hm, hR, hk⟩
  obtain ⟨d0, d1, d2, d3, d4, d5, d6, df⟩ := hm.c
  obtain ⟨z0, z1, z2, zf⟩ := hR.c3
  clear c0 c1 c2 c3 c4 c5 c6 cf
  go_quiet (fail)
  go_wp2
  refine body_agg (Tb := 163) (b := w.heap.size) (cs := [.int .u8 122, .int .i64 0, .int .u8 0]) (.inr rfl) Tryz.results163 rfl rfl (by (repeat' (first | ((with_reducible show (_ : List Value) = _); rfl) | with_reducible exact hR | ((with_reducible refine Blk.newAt _ _ _ ?_); first | with_reducible rfl | (simp; done)) | with_reducible refine Blk.alloc ?_ _ | with_reducible refine Blk.drewN ?_ _ | with_reducible refine Blk.drew ?_ | ((with_reducible refine Blk.other ?_ _ ?_); rotate_left; ((try dsimp only); omega)) | with_reducible refine Blk.setB (cs0 := ?_) ?_ ?_))) Tryz.underlying163 rfl (by kernel_rfl) ?_
  rw [HV.out]
  exact ⟨rfl, by (show MB _ _ _ _ st); (repeat' (first | with_reducible exact (hm.n _) | with_reducible refine MB.alloc ?_ _ | with_reducible refine MB.drew ?_ | with_reducible refine MB.n ?_ _ | ((with_reducible refine MB.other ?_ _ ?_ ?_); rotate_left; ((try dsimp only); omega); ((try dsimp only); omega)))), by (repeat' (first | with_reducible exact Kp.refl _ _ | with_reducible refine Kp.alloc ?_ _ | with_reducible refine Kp.drewN ?_ _ | with_reducible refine Kp.drew ?_ | with_reducible refine Kp.setCell ?_ _ ?_ | with_reducible refine Kp.trans ?_ hk (fun _ _ e => e) | (intro hh; first | rfl | exact .inl rfl | exact .inr rfl | (exfalso; (try dsimp only at hh); omega))))⟩

set_option maxHeartbeats 3200000 in
theorem next_in {w : World} {m lb : Nat} {inp : ByteArray} {st : Mc} (h : MB w m lb inp st) (hi : inp.size ≤ 40) (hr : st.rd < inp.size) :
    Calls Tryz.prog 163 #[.pointer (some ⟨m, 0, none⟩)] w fun e w' => e = .returned (.agg (nextF inp st).1.cells.toArray) ∧ MB w' m lb inp (nextF inp st).2 ∧ Kp (MK m lb) w w' := by
  have HV := hide (show nextF inp st = (inVal (pk inp st.rd), { st with rd := st.rd + 1 }) by simp [nextF, hr])
  have HP := hide (show pk inp st.rd = (inp[st.rd]'hr).toNat by simp [pk, hr])
  obtain ⟨c0, c1, c2, c3, c4, c5, c6, cf⟩ := h.c
  have hlt := h.lt
  have hpl := pk_lt inp st.rd
  go_enter Tryz.func163, Tryz.ntmps163
  go_wp2
  refine wp_gen (fun W => MB W m lb inp st ∧ Blk W w.heap.size [.int .u8 0, .int .i64 0, .int .u8 0] 163 ∧ Kp (MK m lb) w W) ⟨h.alloc _, by exact Blk.new w [.int .u8 0, .int .i64 0, .int .u8 0] _, by (repeat' (first | with_reducible exact Kp.refl _ _ | with_reducible refine Kp.alloc ?_ _ | with_reducible refine Kp.drewN ?_ _ | with_reducible refine Kp.drew ?_ | with_reducible refine Kp.setCell ?_ _ ?_ | (intro hh; first | rfl | exact .inl rfl | exact .inr rfl | (exfalso; (try dsimp only at hh); omega))))⟩ ?_
  rintro W ⟨hm, hR, hk⟩
  obtain ⟨d0, d1, d2, d3, d4, d5, d6, df⟩ := hm.c
  obtain ⟨z0, z1, z2, zf⟩ := hR.c3
  clear c0 c1 c2 c3 c4 c5 c6 cf
  go_quiet (fail)
  go_wp2
  go_quiet (fail)
  rw [HP.out] at hpl HV
  generalize (inp[st.rd]'hr).toNat = d at *
  have hm2 : ∀ n1, MB ((W.drewN n1).setCell ⟨m, 2, none⟩ (.int .i64 ((st.rd : Int) + 1))) m lb inp { st with rd := st.rd + 1 } := fun n1 => (hm.n n1).setRd (st.rd + 1)
  by_cases g0 : 48 ≤ d ∧ d ≤ 57
  · obtain ⟨g0, g0'⟩ := g0
    have EV := hide (show inVal d = ⟨110, (d : Int) - 48, 0⟩ by simp [inVal, g0, g0'])
    rw [EV.out] at HV
    go_wp2
    all_goals
      refine body_agg (Tb := 163) (b := w.heap.size) (cs := [.int .u8 110, .int .i64 ((d : Int) - 48), .int .u8 0]) (.inr rfl) Tryz.results163 rfl rfl (by (repeat' (first | ((with_reducible show (_ : List Value) = _); rfl) | with_reducible exact hR | ((with_reducible refine Blk.newAt _ _ _ ?_); first | with_reducible rfl | (simp; done)) | with_reducible refine Blk.alloc ?_ _ | with_reducible refine Blk.drewN ?_ _ | with_reducible refine Blk.drew ?_ | ((with_reducible refine Blk.other ?_ _ ?_); rotate_left; ((try dsimp only); omega)) | with_reducible refine Blk.setB (cs0 := ?_) ?_ ?_))) Tryz.underlying163 rfl (by kernel_rfl) ?_
      rw [HV.out]
      exact ⟨rfl, by (show MB _ _ _ _ { st with rd := st.rd + 1 }); (repeat' (first | with_reducible exact (hm2 _) | with_reducible refine MB.alloc ?_ _ | with_reducible refine MB.drew ?_ | with_reducible refine MB.n ?_ _ | ((with_reducible refine MB.other ?_ _ ?_ ?_); rotate_left; ((try dsimp only); omega); ((try dsimp only); omega)))), by (repeat' (first | with_reducible exact Kp.refl _ _ | with_reducible refine Kp.alloc ?_ _ | with_reducible refine Kp.drewN ?_ _ | with_reducible refine Kp.drew ?_ | with_reducible refine Kp.setCell ?_ _ ?_ | with_reducible refine Kp.trans ?_ hk (fun _ _ e => e) | (intro hh; first | rfl | exact .inl rfl | exact .inr rfl | (exfalso; (try dsimp only at hh); omega))))⟩
  have g0' : ¬ (48 ≤ (d : Int) ∧ (d : Int) ≤ 57) := by omega
  by_cases g84 : d = 84
  · subst g84
    have EV := hide (show inVal 84 = ⟨116, 0, 0⟩ by simp [inVal])
    rw [EV.out] at HV
    go_wp2
    all_goals
      refine body_agg (Tb := 163) (b := w.heap.size) (cs := [.int .u8 116, .int .i64 0, .int .u8 0]) (.inr rfl) Tryz.results163 rfl rfl (by (repeat' (first | ((with_reducible show (_ : List Value) = _); rfl) | with_reducible exact hR | ((with_reducible refine Blk.newAt _ _ _ ?_); first | with_reducible rfl | (simp; done)) | with_reducible refine Blk.alloc ?_ _ | with_reducible refine Blk.drewN ?_ _ | with_reducible refine Blk.drew ?_ | ((with_reducible refine Blk.other ?_ _ ?_); rotate_left; ((try dsimp only); omega)) | with_reducible refine Blk.setB (cs0 := ?_) ?_ ?_))) Tryz.underlying163 rfl (by kernel_rfl) ?_
      rw [HV.out]
      exact ⟨rfl, by (show MB _ _ _ _ { st with rd := st.rd + 1 }); (repeat' (first | with_reducible exact (hm2 _) | with_reducible refine MB.alloc ?_ _ | with_reducible refine MB.drew ?_ | with_reducible refine MB.n ?_ _ | ((with_reducible refine MB.other ?_ _ ?_ ?_); rotate_left; ((try dsimp only); omega); ((try dsimp only); omega)))), by (repeat' (first | with_reducible exact Kp.refl _ _ | with_reducible refine Kp.alloc ?_ _ | with_reducible refine Kp.drewN ?_ _ | with_reducible refine Kp.drew ?_ | with_reducible refine Kp.setCell ?_ _ ?_ | with_reducible refine Kp.trans ?_ hk (fun _ _ e => e) | (intro hh; first | rfl | exact .inl rfl | exact .inr rfl | (exfalso; (try dsimp only at hh); omega))))⟩
  have f84 : ((d : Int) == 84) = false := by simp; omega
  by_cases g70 : d = 70
  · subst g70
    have EV := hide (show inVal 70 = ⟨102, 0, 0⟩ by simp [inVal])
    rw [EV.out] at HV
    go_wp2
    all_goals
      refine body_agg (Tb := 163) (b := w.heap.size) (cs := [.int .u8 102, .int .i64 0, .int .u8 0]) (.inr rfl) Tryz.results163 rfl rfl (by (repeat' (first | ((with_reducible show (_ : List Value) = _); rfl) | with_reducible exact hR | ((with_reducible refine Blk.newAt _ _ _ ?_); first | with_reducible rfl | (simp; done)) | with_reducible refine Blk.alloc ?_ _ | with_reducible refine Blk.drewN ?_ _ | with_reducible refine Blk.drew ?_ | ((with_reducible refine Blk.other ?_ _ ?_); rotate_left; ((try dsimp only); omega)) | with_reducible refine Blk.setB (cs0 := ?_) ?_ ?_))) Tryz.underlying163 rfl (by kernel_rfl) ?_
      rw [HV.out]
      exact ⟨rfl, by (show MB _ _ _ _ { st with rd := st.rd + 1 }); (repeat' (first | with_reducible exact (hm2 _) | with_reducible refine MB.alloc ?_ _ | with_reducible refine MB.drew ?_ | with_reducible refine MB.n ?_ _ | ((with_reducible refine MB.other ?_ _ ?_ ?_); rotate_left; ((try dsimp only); omega); ((try dsimp only); omega)))), by (repeat' (first | with_reducible exact Kp.refl _ _ | with_reducible refine Kp.alloc ?_ _ | with_reducible refine Kp.drewN ?_ _ | with_reducible refine Kp.drew ?_ | with_reducible refine Kp.setCell ?_ _ ?_ | with_reducible refine Kp.trans ?_ hk (fun _ _ e => e) | (intro hh; first | rfl | exact .inl rfl | exact .inr rfl | (exfalso; (try dsimp only at hh); omega))))⟩
  have f70 : ((d : Int) == 70) = false := by simp; omega
  by_cases g65 : d = 65
  · subst g65
    have EV := hide (show inVal 65 = ⟨65, 0, 0⟩ by simp [inVal])
    rw [EV.out] at HV
    go_wp2
    all_goals
      refine body_agg (Tb := 163) (b := w.heap.size) (cs := [.int .u8 65, .int .i64 0, .int .u8 0]) (.inr rfl) Tryz.results163 rfl rfl (by (repeat' (first | ((with_reducible show (_ : List Value) = _); rfl) | with_reducible exact hR | ((with_reducible refine Blk.newAt _ _ _ ?_); first | with_reducible rfl | (simp; done)) | with_reducible refine Blk.alloc ?_ _ | with_reducible refine Blk.drewN ?_ _ | with_reducible refine Blk.drew ?_ | ((with_reducible refine Blk.other ?_ _ ?_); rotate_left; ((try dsimp only); omega)) | with_reducible refine Blk.setB (cs0 := ?_) ?_ ?_))) Tryz.underlying163 rfl (by kernel_rfl) ?_
      rw [HV.out]
      exact ⟨rfl, by (show MB _ _ _ _ { st with rd := st.rd + 1 }); (repeat' (first | with_reducible exact (hm2 _) | with_reducible refine MB.alloc ?_ _ | with_reducible refine MB.drew ?_ | with_reducible refine MB.n ?_ _ | ((with_reducible refine MB.other ?_ _ ?_ ?_); rotate_left; ((try dsimp only); omega); ((try dsimp only); omega)))), by (repeat' (first | with_reducible exact Kp.refl _ _ | with_reducible refine Kp.alloc ?_ _ | with_reducible refine Kp.drewN ?_ _ | with_reducible refine Kp.drew ?_ | with_reducible refine Kp.setCell ?_ _ ?_ | with_reducible refine Kp.trans ?_ hk (fun _ _ e => e) | (intro hh; first | rfl | exact .inl rfl | exact .inr rfl | (exfalso; (try dsimp only at hh); omega))))⟩
  have f65 : ((d : Int) == 65) = false := by simp; omega
  by_cases g66 : d = 66
  · subst g66
    have EV := hide (show inVal 66 = ⟨66, 0, 122⟩ by simp [inVal])
    rw [EV.out] at HV
    go_wp2
    all_goals
      refine body_agg (Tb := 163) (b := w.heap.size) (cs := [.int .u8 66, .int .i64 0, .int .u8 122]) (.inr rfl) Tryz.results163 rfl rfl (by (repeat' (first | ((with_reducible show (_ : List Value) = _); rfl) | with_reducible exact hR | ((with_reducible refine Blk.newAt _ _ _ ?_); first | with_reducible rfl | (simp; done)) | with_reducible refine Blk.alloc ?_ _ | with_reducible refine Blk.drewN ?_ _ | with_reducible refine Blk.drew ?_ | ((with_reducible refine Blk.other ?_ _ ?_); rotate_left; ((try dsimp only); omega)) | with_reducible refine Blk.setB (cs0 := ?_) ?_ ?_))) Tryz.underlying163 rfl (by kernel_rfl) ?_
      rw [HV.out]
      exact ⟨rfl, by (show MB _ _ _ _ { st with rd := st.rd + 1 }); (repeat' (first | with_reducible exact (hm2 _) | with_reducible refine MB.alloc ?_ _ | with_reducible refine MB.drew ?_ | with_reducible refine MB.n ?_ _ | ((with_reducible refine MB.other ?_ _ ?_ ?_); rotate_left; ((try dsimp only); omega); ((try dsimp only); omega)))), by (repeat' (first | with_reducible exact Kp.refl _ _ | with_reducible refine Kp.alloc ?_ _ | with_reducible refine Kp.drewN ?_ _ | with_reducible refine Kp.drew ?_ | with_reducible refine Kp.setCell ?_ _ ?_ | with_reducible refine Kp.trans ?_ hk (fun _ _ e => e) | (intro hh; first | rfl | exact .inl rfl | exact .inr rfl | (exfalso; (try dsimp only at hh); omega))))⟩
  have f66 : ((d : Int) == 66) = false := by simp; omega
  by_cases g67 : d = 67
  · subst g67
    have EV := hide (show inVal 67 = ⟨67, 0, 0⟩ by simp [inVal])
    rw [EV.out] at HV
    go_wp2
    all_goals
      refine body_agg (Tb := 163) (b := w.heap.size) (cs := [.int .u8 67, .int .i64 0, .int .u8 0]) (.inr rfl) Tryz.results163 rfl rfl (by (repeat' (first | ((with_reducible show (_ : List Value) = _); rfl) | with_reducible exact hR | ((with_reducible refine Blk.newAt _ _ _ ?_); first | with_reducible rfl | (simp; done)) | with_reducible refine Blk.alloc ?_ _ | with_reducible refine Blk.drewN ?_ _ | with_reducible refine Blk.drew ?_ | ((with_reducible refine Blk.other ?_ _ ?_); rotate_left; ((try dsimp only); omega)) | with_reducible refine Blk.setB (cs0 := ?_) ?_ ?_))) Tryz.underlying163 rfl (by kernel_rfl) ?_
      rw [HV.out]
      exact ⟨rfl, by (show MB _ _ _ _ { st with rd := st.rd + 1 }); (repeat' (first | with_reducible exact (hm2 _) | with_reducible refine MB.alloc ?_ _ | with_reducible refine MB.drew ?_ | with_reducible refine MB.n ?_ _ | ((with_reducible refine MB.other ?_ _ ?_ ?_); rotate_left; ((try dsimp only); omega); ((try dsimp only); omega)))), by (repeat' (first | with_reducible exact Kp.refl _ _ | with_reducible refine Kp.alloc ?_ _ | with_reducible refine Kp.drewN ?_ _ | with_reducible refine Kp.drew ?_ | with_reducible refine Kp.setCell ?_ _ ?_ | with_reducible refine Kp.trans ?_ hk (fun _ _ e => e) | (intro hh; first | rfl | exact .inl rfl | exact .inr rfl | (exfalso; (try dsimp only at hh); omega))))⟩
  have f67 : ((d : Int) == 67) = false := by simp; omega
  have EV := hide (show inVal d = ⟨122, 0, 0⟩ by simp [inVal, g0, g84, g70, g65, g66, g67])
  rw [EV.out] at HV
  go_wp2
  all_goals
    refine body_agg (Tb := 163) (b := w.heap.size) (cs := [.int .u8 122, .int .i64 0, .int .u8 0]) (.inr rfl) Tryz.results163 rfl rfl (by (repeat' (first | ((with_reducible show (_ : List Value) = _); rfl) | with_reducible exact hR | ((with_reducible refine Blk.newAt _ _ _ ?_); first | with_reducible rfl | (simp; done)) | with_reducible refine Blk.alloc ?_ _ | with_reducible refine Blk.drewN ?_ _ | with_reducible refine Blk.drew ?_ | ((with_reducible refine Blk.other ?_ _ ?_); rotate_left; ((try dsimp only); omega)) | with_reducible refine Blk.setB (cs0 := ?_) ?_ ?_))) Tryz.underlying163 rfl (by kernel_rfl) ?_
    rw [HV.out]
    exact ⟨rfl, by (show MB _ _ _ _ { st with rd := st.rd + 1 }); (repeat' (first | with_reducible exact (hm2 _) | with_reducible refine MB.alloc ?_ _ | with_reducible refine MB.drew ?_ | with_reducible refine MB.n ?_ _ | ((with_reducible refine MB.other ?_ _ ?_ ?_); rotate_left; ((try dsimp only); omega); ((try dsimp only); omega)))), by (repeat' (first | with_reducible exact Kp.refl _ _ | with_reducible refine Kp.alloc ?_ _ | with_reducible refine Kp.drewN ?_ _ | with_reducible refine Kp.drew ?_ | with_reducible refine Kp.setCell ?_ _ ?_ | with_reducible refine Kp.trans ?_ hk (fun _ _ e => e) | (intro hh; first | rfl | exact .inl rfl | exact .inr rfl | (exfalso; (try dsimp only at hh); omega))))⟩

theorem next_c {w : World} {m lb : Nat} {inp : ByteArray} {st : Mc} (h : MB w m lb inp st) (hi : inp.size ≤ 40) :
    Calls Tryz.prog 163 #[.pointer (some ⟨m, 0, none⟩)] w fun e w' => e = .returned (.agg (nextF inp st).1.cells.toArray) ∧ MB w' m lb inp (nextF inp st).2 ∧ Kp (MK m lb) w w' := by
  by_cases hr : st.rd < inp.size
  · exact next_in h hi hr
  · exact next_end h hi hr
end Go.Proofs.YtellieabhaphhaaGreatDoor

/-
  narrow: kinds, values and signs, against the answer's own.
-/
namespace Go.Proofs.YtellieabhaphhaaGreatDoor
open Go.RowKit

/-- The bit of a kind's sign. -/
def bit (k : Int) : Int := if k = 110 then 1 else if k = 116 then 2 else if k = 102 then 4 else if k = 122 then 8 else if k = 65 then 16 else if k = 66 then 32 else if k = 67 then 64 else 0

def KOk (k : Int) : Prop := k = 110 ∨ k = 116 ∨ k = 102 ∨ k = 122 ∨ k = 65 ∨ k = 66 ∨ k = 67

/-- A value as narrow holds it. -/
def Vl.nc (x : Vl) : List Value := [.int .i64 (bit x.k), .int .i64 x.n, .int .i64 (bit x.v)]

set_option maxHeartbeats 400000 in
theorem nkindSign_c (k : Int) (h : KOk k) (w : World) :
    Calls Tryz.prog 141 #[.int .i64 (bit k)] w fun e w' => e = .returned (.string (strOfNums [k])) ∧ w' = w := by
  rcases h with rfl | rfl | rfl | rfl | rfl | rfl | rfl
  all_goals
    simp only [bit, reduceIte, Int.reduceEq]
    go_enter Tryz.func141, Tryz.ntmps141
    go_wp2
    go_ret
    exact ⟨rfl, rfl⟩

set_option maxHeartbeats 800000 in
theorem nkindOfSign_c (c : Nat) (w : World) :
    Calls Tryz.prog 185 #[.int .u8 c] w fun e w' => e = .returned (.int .i64 (bit c)) ∧ w' = w := by
  by_cases h110 : c = 110
  · subst h110
    go_enter Tryz.func185, Tryz.ntmps185
    go_wp2
    go_ret
    exact ⟨rfl, rfl⟩
  by_cases h116 : c = 116
  · subst h116
    go_enter Tryz.func185, Tryz.ntmps185
    go_wp2
    go_ret
    exact ⟨rfl, rfl⟩
  by_cases h102 : c = 102
  · subst h102
    go_enter Tryz.func185, Tryz.ntmps185
    go_wp2
    go_ret
    exact ⟨rfl, rfl⟩
  by_cases h122 : c = 122
  · subst h122
    go_enter Tryz.func185, Tryz.ntmps185
    go_wp2
    go_ret
    exact ⟨rfl, rfl⟩
  by_cases h65 : c = 65
  · subst h65
    go_enter Tryz.func185, Tryz.ntmps185
    go_wp2
    go_ret
    exact ⟨rfl, rfl⟩
  by_cases h66 : c = 66
  · subst h66
    go_enter Tryz.func185, Tryz.ntmps185
    go_wp2
    go_ret
    exact ⟨rfl, rfl⟩
  by_cases h67 : c = 67
  · subst h67
    go_enter Tryz.func185, Tryz.ntmps185
    go_wp2
    go_ret
    exact ⟨rfl, rfl⟩
  have HV := hide (show bit c = 0 by unfold bit; repeat' (first | rw [if_neg (by omega)] | rfl))
  rw [HV.out]
  have f110 : ((c : Int) == 110) = false := by simp; omega
  have f116 : ((c : Int) == 116) = false := by simp; omega
  have f102 : ((c : Int) == 102) = false := by simp; omega
  have f122 : ((c : Int) == 122) = false := by simp; omega
  have f65 : ((c : Int) == 65) = false := by simp; omega
  have f66 : ((c : Int) == 66) = false := by simp; omega
  have f67 : ((c : Int) == 67) = false := by simp; omega
  go_enter Tryz.func185, Tryz.ntmps185
  go_wp2
  go_ret
  exact ⟨rfl, rfl⟩

/-- What a sign stands for in a node. -/
def conV (c : Nat) : Vl :=
  if 48 ≤ c ∧ c ≤ 57 then ⟨110, (c : Int) - 48, 0⟩ else if c = 84 then ⟨116, 0, 0⟩ else if c = 70 then ⟨102, 0, 0⟩ else if c = 90 then ⟨122, 0, 0⟩ else if c = 67 then ⟨67, 0, 0⟩ else ⟨0, 0, 0⟩

set_option maxHeartbeats 1600000 in
theorem nconstantOfSign_c (c : Nat) (hc : c < 256) (w : World) :
    Calls Tryz.prog 183 #[.int .u8 c] w fun e w' => e = .returned (.agg (conV c).nc.toArray) ∧ Kp no w w' := by
  by_cases g0 : 48 ≤ c ∧ c ≤ 57
  · have HV := hide (show (conV c).nc = [.int .i64 1, .int .i64 ((c : Int) - 48), .int .i64 0] by rw [conV, if_pos g0]; rfl)
    obtain ⟨g0, g0'⟩ := g0
    go_enter Tryz.func183, Tryz.ntmps183
    go_wp2
    refine body_agg (Tb := 89) (b := w.heap.size) (cs := [.int .i64 1, .int .i64 ((c : Int) - 48), .int .i64 0]) (.inr rfl) Tryz.results183 rfl rfl (by (repeat' (first | ((with_reducible show (_ : List Value) = _); rfl) | ((with_reducible refine Blk.newAt _ _ _ ?_); first | with_reducible rfl | (simp; done)) | with_reducible refine Blk.alloc ?_ _ | with_reducible refine Blk.drewN ?_ _ | with_reducible refine Blk.drew ?_ | ((with_reducible refine Blk.other ?_ _ ?_); rotate_left; ((try dsimp only); omega)) | with_reducible refine Blk.setB (cs0 := ?_) ?_ ?_))) Tryz.underlying89 rfl (by kernel_rfl) ?_
    rw [HV.out]
    exact ⟨rfl, by (repeat' (first | with_reducible exact Kp.refl _ _ | with_reducible refine Kp.alloc ?_ _ | with_reducible refine Kp.drewN ?_ _ | with_reducible refine Kp.drew ?_ | with_reducible refine Kp.setCell ?_ _ ?_ | (intro hh; first | rfl | exact .inl rfl | exact .inr rfl | (exfalso; (try dsimp only at hh); omega))))⟩
  have g0' : ¬ (48 ≤ (c : Int) ∧ (c : Int) ≤ 57) := by omega
  by_cases h84 : c = 84
  · subst h84
    have HV := hide (show (conV 84).nc = [.int .i64 2, .int .i64 0, .int .i64 0] by rfl)
    go_enter Tryz.func183, Tryz.ntmps183
    go_wp2
    refine body_agg (Tb := 89) (b := w.heap.size) (cs := [.int .i64 2, .int .i64 0, .int .i64 0]) (.inr rfl) Tryz.results183 rfl rfl (by (repeat' (first | ((with_reducible show (_ : List Value) = _); rfl) | ((with_reducible refine Blk.newAt _ _ _ ?_); first | with_reducible rfl | (simp; done)) | with_reducible refine Blk.alloc ?_ _ | with_reducible refine Blk.drewN ?_ _ | with_reducible refine Blk.drew ?_ | ((with_reducible refine Blk.other ?_ _ ?_); rotate_left; ((try dsimp only); omega)) | with_reducible refine Blk.setB (cs0 := ?_) ?_ ?_))) Tryz.underlying89 rfl (by kernel_rfl) ?_
    rw [HV.out]
    exact ⟨rfl, by (repeat' (first | with_reducible exact Kp.refl _ _ | with_reducible refine Kp.alloc ?_ _ | with_reducible refine Kp.drewN ?_ _ | with_reducible refine Kp.drew ?_ | with_reducible refine Kp.setCell ?_ _ ?_ | (intro hh; first | rfl | exact .inl rfl | exact .inr rfl | (exfalso; (try dsimp only at hh); omega))))⟩
  by_cases h70 : c = 70
  · subst h70
    have HV := hide (show (conV 70).nc = [.int .i64 4, .int .i64 0, .int .i64 0] by rfl)
    go_enter Tryz.func183, Tryz.ntmps183
    go_wp2
    refine body_agg (Tb := 89) (b := w.heap.size) (cs := [.int .i64 4, .int .i64 0, .int .i64 0]) (.inr rfl) Tryz.results183 rfl rfl (by (repeat' (first | ((with_reducible show (_ : List Value) = _); rfl) | ((with_reducible refine Blk.newAt _ _ _ ?_); first | with_reducible rfl | (simp; done)) | with_reducible refine Blk.alloc ?_ _ | with_reducible refine Blk.drewN ?_ _ | with_reducible refine Blk.drew ?_ | ((with_reducible refine Blk.other ?_ _ ?_); rotate_left; ((try dsimp only); omega)) | with_reducible refine Blk.setB (cs0 := ?_) ?_ ?_))) Tryz.underlying89 rfl (by kernel_rfl) ?_
    rw [HV.out]
    exact ⟨rfl, by (repeat' (first | with_reducible exact Kp.refl _ _ | with_reducible refine Kp.alloc ?_ _ | with_reducible refine Kp.drewN ?_ _ | with_reducible refine Kp.drew ?_ | with_reducible refine Kp.setCell ?_ _ ?_ | (intro hh; first | rfl | exact .inl rfl | exact .inr rfl | (exfalso; (try dsimp only at hh); omega))))⟩
  by_cases h90 : c = 90
  · subst h90
    have HV := hide (show (conV 90).nc = [.int .i64 8, .int .i64 0, .int .i64 0] by rfl)
    go_enter Tryz.func183, Tryz.ntmps183
    go_wp2
    refine body_agg (Tb := 89) (b := w.heap.size) (cs := [.int .i64 8, .int .i64 0, .int .i64 0]) (.inr rfl) Tryz.results183 rfl rfl (by (repeat' (first | ((with_reducible show (_ : List Value) = _); rfl) | ((with_reducible refine Blk.newAt _ _ _ ?_); first | with_reducible rfl | (simp; done)) | with_reducible refine Blk.alloc ?_ _ | with_reducible refine Blk.drewN ?_ _ | with_reducible refine Blk.drew ?_ | ((with_reducible refine Blk.other ?_ _ ?_); rotate_left; ((try dsimp only); omega)) | with_reducible refine Blk.setB (cs0 := ?_) ?_ ?_))) Tryz.underlying89 rfl (by kernel_rfl) ?_
    rw [HV.out]
    exact ⟨rfl, by (repeat' (first | with_reducible exact Kp.refl _ _ | with_reducible refine Kp.alloc ?_ _ | with_reducible refine Kp.drewN ?_ _ | with_reducible refine Kp.drew ?_ | with_reducible refine Kp.setCell ?_ _ ?_ | (intro hh; first | rfl | exact .inl rfl | exact .inr rfl | (exfalso; (try dsimp only at hh); omega))))⟩
  by_cases h67 : c = 67
  · subst h67
    have HV := hide (show (conV 67).nc = [.int .i64 64, .int .i64 0, .int .i64 0] by rfl)
    go_enter Tryz.func183, Tryz.ntmps183
    go_wp2
    refine body_agg (Tb := 89) (b := w.heap.size) (cs := [.int .i64 64, .int .i64 0, .int .i64 0]) (.inr rfl) Tryz.results183 rfl rfl (by (repeat' (first | ((with_reducible show (_ : List Value) = _); rfl) | ((with_reducible refine Blk.newAt _ _ _ ?_); first | with_reducible rfl | (simp; done)) | with_reducible refine Blk.alloc ?_ _ | with_reducible refine Blk.drewN ?_ _ | with_reducible refine Blk.drew ?_ | ((with_reducible refine Blk.other ?_ _ ?_); rotate_left; ((try dsimp only); omega)) | with_reducible refine Blk.setB (cs0 := ?_) ?_ ?_))) Tryz.underlying89 rfl (by kernel_rfl) ?_
    rw [HV.out]
    exact ⟨rfl, by (repeat' (first | with_reducible exact Kp.refl _ _ | with_reducible refine Kp.alloc ?_ _ | with_reducible refine Kp.drewN ?_ _ | with_reducible refine Kp.drew ?_ | with_reducible refine Kp.setCell ?_ _ ?_ | (intro hh; first | rfl | exact .inl rfl | exact .inr rfl | (exfalso; (try dsimp only at hh); omega))))⟩
  have HV := hide (show (conV c).nc = [.int .i64 0, .int .i64 0, .int .i64 0] by rw [conV, if_neg g0, if_neg h84, if_neg h70, if_neg h90, if_neg h67]; rfl)
  have f84 : ((c : Int) == 84) = false := by simp; omega
  have f70 : ((c : Int) == 70) = false := by simp; omega
  have f90 : ((c : Int) == 90) = false := by simp; omega
  have f67 : ((c : Int) == 67) = false := by simp; omega
  rcases Nat.lt_or_ge c 48 with q | q
  · go_enter Tryz.func183, Tryz.ntmps183
    go_wp2
    refine body_agg (Tb := 89) (b := w.heap.size) (cs := [.int .i64 0, .int .i64 0, .int .i64 0]) (.inr rfl) Tryz.results183 rfl rfl (by (repeat' (first | ((with_reducible show (_ : List Value) = _); rfl) | ((with_reducible refine Blk.newAt _ _ _ ?_); first | with_reducible rfl | (simp; done)) | with_reducible refine Blk.alloc ?_ _ | with_reducible refine Blk.drewN ?_ _ | with_reducible refine Blk.drew ?_ | ((with_reducible refine Blk.other ?_ _ ?_); rotate_left; ((try dsimp only); omega)) | with_reducible refine Blk.setB (cs0 := ?_) ?_ ?_))) Tryz.underlying89 rfl (by kernel_rfl) ?_
    rw [HV.out]
    exact ⟨rfl, by (repeat' (first | with_reducible exact Kp.refl _ _ | with_reducible refine Kp.alloc ?_ _ | with_reducible refine Kp.drewN ?_ _ | with_reducible refine Kp.drew ?_ | with_reducible refine Kp.setCell ?_ _ ?_ | (intro hh; first | rfl | exact .inl rfl | exact .inr rfl | (exfalso; (try dsimp only at hh); omega))))⟩
  · go_enter Tryz.func183, Tryz.ntmps183
    go_wp2
    refine body_agg (Tb := 89) (b := w.heap.size) (cs := [.int .i64 0, .int .i64 0, .int .i64 0]) (.inr rfl) Tryz.results183 rfl rfl (by (repeat' (first | ((with_reducible show (_ : List Value) = _); rfl) | ((with_reducible refine Blk.newAt _ _ _ ?_); first | with_reducible rfl | (simp; done)) | with_reducible refine Blk.alloc ?_ _ | with_reducible refine Blk.drewN ?_ _ | with_reducible refine Blk.drew ?_ | ((with_reducible refine Blk.other ?_ _ ?_); rotate_left; ((try dsimp only); omega)) | with_reducible refine Blk.setB (cs0 := ?_) ?_ ?_))) Tryz.underlying89 rfl (by kernel_rfl) ?_
    rw [HV.out]
    exact ⟨rfl, by (repeat' (first | with_reducible exact Kp.refl _ _ | with_reducible refine Kp.alloc ?_ _ | with_reducible refine Kp.drewN ?_ _ | with_reducible refine Kp.drew ?_ | with_reducible refine Kp.setCell ?_ _ ?_ | (intro hh; first | rfl | exact .inl rfl | exact .inr rfl | (exfalso; (try dsimp only at hh); omega))))⟩

theorem bit_con (c : Nat) : bit (conV c).k = 0 ↔ ¬ ((48 ≤ c ∧ c ≤ 57) ∨ c = 84 ∨ c = 70 ∨ c = 90 ∨ c = 67) := by
  unfold conV; repeat' split
  all_goals simp [bit]
  all_goals omega

theorem inVal_con (c : Nat) (h : bit (conV c).k ≠ 0) : inVal c = conV c := by
  have h' := mt (bit_con c).2 h
  unfold inVal conV
  repeat' split
  all_goals first | rfl | (exfalso; omega)

theorem inVal_nul (c : Nat) (h : bit (conV c).k = 0) (h1 : c ≠ 65) (h2 : c ≠ 66) : inVal c = ⟨122, 0, 0⟩ := by
  have h' := (bit_con c).1 h
  unfold inVal
  repeat' split
  all_goals first | rfl | (exfalso; omega)

set_option maxHeartbeats 1600000 in
theorem ninputValue_c (c : Nat) (hc : c < 256) (w : World) :
    Calls Tryz.prog 169 #[.int .u8 c] w fun e w' => e = .returned (.agg (inVal c).nc.toArray) ∧ Kp no w w' := by
  by_cases h65 : c = 65
  · subst h65
    have HV := hide (show (inVal 65).nc = [.int .i64 16, .int .i64 0, .int .i64 0] by rfl)
    go_enter Tryz.func169, Tryz.ntmps169
    go_wp2
    refine body_agg (Tb := 89) (b := w.heap.size) (cs := [.int .i64 16, .int .i64 0, .int .i64 0]) (.inr rfl) Tryz.results169 rfl rfl (by (repeat' (first | ((with_reducible show (_ : List Value) = _); rfl) | ((with_reducible refine Blk.newAt _ _ _ ?_); first | with_reducible rfl | (simp; done)) | with_reducible refine Blk.alloc ?_ _ | with_reducible refine Blk.drewN ?_ _ | with_reducible refine Blk.drew ?_ | ((with_reducible refine Blk.other ?_ _ ?_); rotate_left; ((try dsimp only); omega)) | with_reducible refine Blk.setB (cs0 := ?_) ?_ ?_))) Tryz.underlying89 rfl (by kernel_rfl) ?_
    rw [HV.out]
    exact ⟨rfl, by (repeat' (first | with_reducible exact Kp.refl _ _ | with_reducible refine Kp.alloc ?_ _ | with_reducible refine Kp.drewN ?_ _ | with_reducible refine Kp.drew ?_ | with_reducible refine Kp.setCell ?_ _ ?_ | (intro hh; first | rfl | exact .inl rfl | exact .inr rfl | (exfalso; (try dsimp only at hh); omega))))⟩
  by_cases h66 : c = 66
  · subst h66
    have HV := hide (show (inVal 66).nc = [.int .i64 32, .int .i64 0, .int .i64 8] by rfl)
    go_enter Tryz.func169, Tryz.ntmps169
    go_wp2
    refine body_agg (Tb := 89) (b := w.heap.size) (cs := [.int .i64 32, .int .i64 0, .int .i64 8]) (.inr rfl) Tryz.results169 rfl rfl (by (repeat' (first | ((with_reducible show (_ : List Value) = _); rfl) | ((with_reducible refine Blk.newAt _ _ _ ?_); first | with_reducible rfl | (simp; done)) | with_reducible refine Blk.alloc ?_ _ | with_reducible refine Blk.drewN ?_ _ | with_reducible refine Blk.drew ?_ | ((with_reducible refine Blk.other ?_ _ ?_); rotate_left; ((try dsimp only); omega)) | with_reducible refine Blk.setB (cs0 := ?_) ?_ ?_))) Tryz.underlying89 rfl (by kernel_rfl) ?_
    rw [HV.out]
    exact ⟨rfl, by (repeat' (first | with_reducible exact Kp.refl _ _ | with_reducible refine Kp.alloc ?_ _ | with_reducible refine Kp.drewN ?_ _ | with_reducible refine Kp.drew ?_ | with_reducible refine Kp.setCell ?_ _ ?_ | (intro hh; first | rfl | exact .inl rfl | exact .inr rfl | (exfalso; (try dsimp only at hh); omega))))⟩
  have f65 : ((c : Int) == 65) = false := by simp; omega
  have f66 : ((c : Int) == 66) = false := by simp; omega
  have HC := hide (fun W => nconstantOfSign_c c hc W)
  by_cases hb : bit (conV c).k = 0
  · have HV := hide (show (inVal c).nc = [.int .i64 8, .int .i64 0, .int .i64 0] by rw [inVal_nul c hb h65 h66]; rfl)
    unfold Vl.nc at HC
    rw [hb] at HC
    generalize (conV c).n = cn at HC
    generalize bit (conV c).v = cv at HC
    go_enter Tryz.func169, Tryz.ntmps169
    go_wp2_with fail
    refine (HC.out _).mono ?_
    rintro e w1 ⟨rfl, k1⟩
    have hR : Blk w1 w.heap.size [.int .i64 0, .int .i64 0, .int .i64 0] 89 := k1.blk (by (repeat' (first | ((with_reducible show (_ : List Value) = _); rfl) | ((with_reducible refine Blk.newAt _ _ _ ?_); first | with_reducible rfl | (simp; done)) | with_reducible refine Blk.alloc ?_ _ | with_reducible refine Blk.drewN ?_ _ | with_reducible refine Blk.drew ?_ | ((with_reducible refine Blk.other ?_ _ ?_); rotate_left; ((try dsimp only); omega)) | with_reducible refine Blk.setB (cs0 := ?_) ?_ ?_))) no_elim
    have hz := hR.lt
    obtain ⟨z0, z1, z2, zf⟩ := hR.c3
    go_wp2
    refine body_agg (Tb := 89) (b := w.heap.size) (cs := [.int .i64 8, .int .i64 0, .int .i64 0]) (.inr rfl) Tryz.results169 rfl rfl (by (repeat' (first | ((with_reducible show (_ : List Value) = _); rfl) | with_reducible exact hR | ((with_reducible refine Blk.newAt _ _ _ ?_); first | with_reducible rfl | (simp; done)) | with_reducible refine Blk.alloc ?_ _ | with_reducible refine Blk.drewN ?_ _ | with_reducible refine Blk.drew ?_ | ((with_reducible refine Blk.other ?_ _ ?_); rotate_left; ((try dsimp only); omega)) | with_reducible refine Blk.setB (cs0 := ?_) ?_ ?_))) Tryz.underlying89 rfl (by kernel_rfl) ?_
    rw [HV.out]
    exact ⟨rfl, by (repeat' (first | with_reducible exact Kp.refl _ _ | with_reducible refine Kp.alloc ?_ _ | with_reducible refine Kp.drewN ?_ _ | with_reducible refine Kp.drew ?_ | with_reducible refine Kp.setCell ?_ _ ?_ | with_reducible refine Kp.trans ?_ k1 (fun _ _ e => e) | (intro hh; first | rfl | exact .inl rfl | exact .inr rfl | (exfalso; (try dsimp only at hh); omega))))⟩
  · have HV := hide (show (inVal c).nc = [.int .i64 (bit (conV c).k), .int .i64 (conV c).n, .int .i64 (bit (conV c).v)] by rw [inVal_con c hb]; rfl)
    unfold Vl.nc at HC
    have hb' : (bit (conV c).k == 0) = false := by simp [hb]
    generalize bit (conV c).k = ck at *
    generalize (conV c).n = cn at *
    generalize bit (conV c).v = cv at *
    go_enter Tryz.func169, Tryz.ntmps169
    go_wp2_with fail
    refine (HC.out _).mono ?_
    rintro e w1 ⟨rfl, k1⟩
    have hR : Blk w1 w.heap.size [.int .i64 0, .int .i64 0, .int .i64 0] 89 := k1.blk (by (repeat' (first | ((with_reducible show (_ : List Value) = _); rfl) | ((with_reducible refine Blk.newAt _ _ _ ?_); first | with_reducible rfl | (simp; done)) | with_reducible refine Blk.alloc ?_ _ | with_reducible refine Blk.drewN ?_ _ | with_reducible refine Blk.drew ?_ | ((with_reducible refine Blk.other ?_ _ ?_); rotate_left; ((try dsimp only); omega)) | with_reducible refine Blk.setB (cs0 := ?_) ?_ ?_))) no_elim
    have hz := hR.lt
    obtain ⟨z0, z1, z2, zf⟩ := hR.c3
    go_wp2
    refine body_agg (Tb := 89) (b := w.heap.size) (cs := [.int .i64 ck, .int .i64 cn, .int .i64 cv]) (.inr rfl) Tryz.results169 rfl rfl (by (repeat' (first | ((with_reducible show (_ : List Value) = _); rfl) | with_reducible exact hR | ((with_reducible refine Blk.newAt _ _ _ ?_); first | with_reducible rfl | (simp; done)) | with_reducible refine Blk.alloc ?_ _ | with_reducible refine Blk.drewN ?_ _ | with_reducible refine Blk.drew ?_ | ((with_reducible refine Blk.other ?_ _ ?_); rotate_left; ((try dsimp only); omega)) | with_reducible refine Blk.setB (cs0 := ?_) ?_ ?_))) Tryz.underlying89 rfl (by kernel_rfl) ?_
    rw [HV.out]
    exact ⟨rfl, by (repeat' (first | with_reducible exact Kp.refl _ _ | with_reducible refine Kp.alloc ?_ _ | with_reducible refine Kp.drewN ?_ _ | with_reducible refine Kp.drew ?_ | with_reducible refine Kp.setCell ?_ _ ?_ | with_reducible refine Kp.trans ?_ k1 (fun _ _ e => e) | (intro hh; first | rfl | exact .inl rfl | exact .inr rfl | (exfalso; (try dsimp only at hh); omega))))⟩

end Go.Proofs.YtellieabhaphhaaGreatDoor

/-
  narrowref's reader: a line of a graph.
-/
namespace Go.Proofs.YtellieabhaphhaaGreatDoor
open Go.RowKit

theorem testF_op (s : ByteArray) (i : Nat) : (testF s i).1.op = 121 ∨ (testF s i).1.op = 58 := by
  unfold testF; split
  · exact .inr rfl
  · exact .inl rfl

theorem am_ne {c : Nat} {l : List UInt8} (h : amF c l = true) {d : Nat} (hd : amF d l = false) : c ≠ d := fun e => by rw [e] at h; rw [h] at hd; cases hd

theorem valF_op (s : ByteArray) (i : Nat) (n : Nd) : (valF s i n).1.op ≠ 121 ∧ (valF s i n).1.op ≠ 58 ∧ (valF s i n).1.op ≠ 33 := by
  unfold valF
  repeat' split
  · simp
  · rename_i _ h; have h1 := am_ne h (d := 121) (by decide); have h2 := am_ne h (d := 58) (by decide); have h3 := am_ne h (d := 33) (by decide); simp only []; omega
  · rename_i _ _ h; have h1 := am_ne h (d := 121) (by decide); have h2 := am_ne h (d := 58) (by decide); have h3 := am_ne h (d := 33) (by decide); simp only []; omega
  · rename_i _ _ _ h; have h1 := am_ne h (d := 121) (by decide); have h2 := am_ne h (d := 58) (by decide); have h3 := am_ne h (d := 33) (by decide); simp only []; omega
  · simp

theorem simpF_op (s : ByteArray) (i : Nat) : (simpF s i).1.op ≠ 121 ∧ (simpF s i).1.op ≠ 58 := by
  unfold simpF
  repeat' split
  · simp
  · simp
  · simp
  · simp [nd0]
  · have := valF_op s (eatF s (varF s (i, false)).2 61).1 { nd0 i with x := (varF s (i, false)).1 }
    exact ⟨this.1, this.2.1⟩
end Go.Proofs.YtellieabhaphhaaGreatDoor

/-
  narrow's reader: small parts.
-/
namespace Go.Proofs.YtellieabhaphhaaGreatDoor
open Go.RowKit

/-- narrow's reader, at the head of its block. -/
def NR (w : World) (r : Nat) (s : ByteArray) (p : Nat × Bool) (rest : List Value) (T : TypeId) : Prop :=
  Blk w r (.string s :: .int .i64 p.1 :: .bool p.2 :: rest) T

/-- The byte at hand, or 0. -/
def pkb (s : ByteArray) (p : Nat × Bool) : Nat := if p.2 then 0 else pk s p.1

theorem pkb_false (s : ByteArray) (i : Nat) : pkb s (i, false) = pk s i := rfl
theorem pkb_true (s : ByteArray) (i : Nat) : pkb s (i, true) = 0 := rfl
theorem pkb_lt (s : ByteArray) (p : Nat × Bool) : pkb s p < 256 := by unfold pkb; split; decide; exact pk_lt _ _

theorem eatF_pkb (s : ByteArray) (p : Nat × Bool) (c : Nat) (hc : c ≠ 0) : eatF s p c = if pkb s p = c then (p.1 + 1, false) else (p.1, true) := by
  obtain ⟨i, b⟩ := p
  cases b <;> simp [eatF, pkb]
  omega

theorem NR.n {w : World} {r : Nat} {s : ByteArray} {p : Nat × Bool} {rest : List Value} {T : TypeId} (h : NR w r s p rest T) (n : Nat) : NR (w.drewN n) r s p rest T := h
theorem NR.bad {w : World} {r : Nat} {s : ByteArray} {p : Nat × Bool} {rest : List Value} {T : TypeId} (h : NR w r s p rest T) : NR (w.setCell ⟨r, 2, none⟩ (.bool true)) r s (p.1, true) rest T :=
  Blk.set h 2 (.bool true)
theorem NR.next {w : World} {r : Nat} {s : ByteArray} {p : Nat × Bool} {rest : List Value} {T : TypeId} (h : NR w r s p rest T) : NR (w.setCell ⟨r, 1, none⟩ (.int .i64 (p.1 + 1))) r s (p.1 + 1, p.2) rest T :=
  Blk.set h 1 (.int .i64 (p.1 + 1))
theorem NR.c {w : World} {r i : Nat} {s : ByteArray} {b : Bool} {rest : List Value} {T : TypeId} (h : NR w r s (i, b) rest T) :
    w.cell? ⟨r, 0, none⟩ = some (.string s) ∧ w.cell? ⟨r, 1, none⟩ = some (.int .i64 i) ∧ w.cell? ⟨r, 2, none⟩ = some (.bool b) ∧ ∀ o, w.frozen? ⟨r, o, none⟩ = false :=
  ⟨Blk.cell h 0, Blk.cell h 1, Blk.cell h 2, Blk.frozen h⟩
theorem NR.kp {S : Nat → Prop} {w w' : World} {r : Nat} {s : ByteArray} {p : Nat × Bool} {rest : List Value} {T : TypeId} (h : NR w r s p rest T) (k : Kp S w w') (hn : ¬ S r) : NR w' r s p rest T := k.blk h hn
theorem NR.alloc {w : World} {r : Nat} {s : ByteArray} {p : Nat × Bool} {rest : List Value} {T : TypeId} (h : NR w r s p rest T) (o : Obj) : NR (w.alloc o) r s p rest T := Blk.alloc h o
theorem NR.lt {w : World} {r : Nat} {s : ByteArray} {p : Nat × Bool} {rest : List Value} {T : TypeId} (h : NR w r s p rest T) : r < w.heap.size := Blk.lt h

set_option maxHeartbeats 400000 in
theorem npeek_c (r i : Nat) (s : ByteArray) (bad : Bool) (rest : List Value) (T : TypeId) (w : World) (_ : s.size ≤ 1000) (_ : i ≤ s.size)
    (h : NR w r s (i, bad) rest T) :
    Calls Tryz.prog 92 #[.pointer (some ⟨r, 0, none⟩)] w fun e w' => e = .returned (.int .u8 (pkb s (i, bad))) ∧ ∃ n, w' = w.drewN n := by
  obtain ⟨h0, h1, h2, hf⟩ := h.c
  clear h
  cases bad
  · by_cases hi : i < s.size
    · go_enter Tryz.func92, Tryz.ntmps92
      go_wp2
      go_quiet (fail)
      go_wp2
      go_quiet (fail)
      go_wp2
      go_ret
      refine ⟨by simp [pkb, pk, hi], _, drewN2 _ _ _⟩
    · go_enter Tryz.func92, Tryz.ntmps92
      go_wp2
      go_quiet (fail)
      go_wp2
      go_ret
      refine ⟨by simp [pkb, pk, hi], _, rfl⟩
  · go_enter Tryz.func92, Tryz.ntmps92
    go_wp2
    go_quiet (fail)
    go_wp2
    go_ret
    refine ⟨rfl, _, rfl⟩

theorem isVar_c (c : Nat) (w : World) :
    Calls Tryz.prog 174 #[.int .u8 c] w fun e w' => e = .returned (.bool (decide (97 ≤ c) && decide (c ≤ 102))) ∧ w' = w := by
  by_cases h1 : 97 ≤ c
  · by_cases h2 : c ≤ 102
    · go_enter Tryz.func174, Tryz.ntmps174
      go_wp2
      go_ret
      refine ⟨by simp [h1, h2]; omega, rfl⟩
    · go_enter Tryz.func174, Tryz.ntmps174
      go_wp2
      go_ret
      refine ⟨by simp [h1, h2]; omega, rfl⟩
  · go_enter Tryz.func174, Tryz.ntmps174
    go_wp2
    go_ret
    refine ⟨by simp, rfl⟩

theorem varF_pkb (s : ByteArray) (p : Nat × Bool) : varF s p = if (decide (97 ≤ pkb s p) && decide (pkb s p ≤ 102)) = true then (pkb s p - 97, (p.1 + 1, false)) else (0, (p.1, true)) := by
  obtain ⟨i, b⟩ := p
  cases b
  · simp only [varF, pkb_false, Bool.false_or]
    by_cases h1 : 97 ≤ pk s i <;> by_cases h2 : pk s i ≤ 102 <;> simp [h1, h2] <;> omega
  · simp [varF, pkb_true]

set_option maxHeartbeats 400000 in
theorem nvariable_c (r i : Nat) (s : ByteArray) (bad : Bool) (rest : List Value) (T : TypeId) (w : World) (hs : s.size ≤ 1000) (hi : i ≤ s.size)
    (h : NR w r s (i, bad) rest T) :
    Calls Tryz.prog 149 #[.pointer (some ⟨r, 0, none⟩)] w fun e w' => e = .returned (.int .i64 (varF s (i, bad)).1) ∧ NR w' r s (varF s (i, bad)).2 rest T ∧ Kp (· = r) w w' := by
  have HP := hide (npeek_c r i s bad rest T w hs hi h)
  have HB := hide h
  obtain ⟨h0, h1, h2, hf⟩ := h.c
  clear h
  have HV := hide (varF_pkb s (i, bad))
  have hlt := pkb_lt s (i, bad)
  have hbad : bad = true → pkb s (i, bad) = 0 := fun e => by rw [e]; rfl
  generalize pkb s (i, bad) = d at *
  have HI := hide (fun W => isVar_c d W)
  generalize hb : (decide (97 ≤ d) && decide (d ≤ 102)) = b at HV HI
  cases b
  · go_enter Tryz.func149, Tryz.ntmps149
    go_wp2_with (first
      | (go_at_call 92; refine HP.out.mono ?_; rintro e w' ⟨rfl, n, rfl⟩)
      | (go_at_call 174; refine (HI.out _).mono ?_; rintro e w' ⟨rfl, rfl⟩))
    go_ret
    rw [HV.out]
    exact ⟨rfl, (HB.out.n n).bad, ((Kp.refl _ _).drewN n).set _ _⟩
  · simp at hb
    obtain rfl : bad = false := by
      cases bad
      · rfl
      · have := hbad rfl; omega
    clear hbad
    go_enter Tryz.func149, Tryz.ntmps149
    go_wp2_with (first
      | (go_at_call 92; refine HP.out.mono ?_; rintro e w' ⟨rfl, n, rfl⟩)
      | (go_at_call 174; refine (HI.out _).mono ?_; rintro e w' ⟨rfl, rfl⟩))
    go_ret
    rw [HV.out]
    exact ⟨ret_i64 (by simp only [if_true]; omega), (HB.out.n n).next, ((Kp.refl _ _).drewN n).set _ _⟩

theorem am_bit (c : Nat) : amF c [110, 116, 102, 122, 65, 66, 67] = true ↔ ¬ bit c = 0 := by
  simp only [amF, List.any_cons, List.any_nil, Bool.or_false, UInt8.reduceToNat, Bool.or_eq_true, beq_iff_eq]
  unfold bit
  repeat' split
  all_goals simp
  all_goals omega

theorem kindF_pkb (s : ByteArray) (p : Nat × Bool) : kindF s p = if bit (pkb s p) = 0 then (0, (p.1, true)) else (pkb s p, (p.1 + 1, false)) := by
  obtain ⟨i, b⟩ := p
  cases b
  · have := am_bit (pk s i)
    by_cases h : bit (pk s i) = 0
    · rw [if_pos (show bit (pkb s (i, false)) = 0 from h), kindF, if_pos (by simp; exact Bool.eq_false_iff.2 (fun e => this.1 e h))]
    · rw [if_neg (show ¬ bit (pkb s (i, false)) = 0 from h), kindF, if_neg (by simp; exact this.2 h)]; rfl
  · rfl

set_option maxHeartbeats 400000 in
theorem nkind_c (r i : Nat) (s : ByteArray) (bad : Bool) (rest : List Value) (T : TypeId) (w : World) (hs : s.size ≤ 1000) (hi : i ≤ s.size)
    (h : NR w r s (i, bad) rest T) :
    Calls Tryz.prog 176 #[.pointer (some ⟨r, 0, none⟩)] w fun e w' => e = .returned (.int .i64 (bit (kindF s (i, bad)).1)) ∧ NR w' r s (kindF s (i, bad)).2 rest T ∧ Kp (· = r) w w' := by
  have HP := hide (npeek_c r i s bad rest T w hs hi h)
  have HB := hide h
  obtain ⟨h0, h1, h2, hf⟩ := h.c
  clear h
  have HV := hide (kindF_pkb s (i, bad))
  have hbad : bad = true → pkb s (i, bad) = 0 := fun e => by rw [e]; rfl
  generalize pkb s (i, bad) = d at *
  have HI := hide (fun W => nkindOfSign_c d W)
  by_cases hb : bit d = 0
  · rw [hb] at HI
    rw [if_pos hb] at HV
    clear hb
    go_enter Tryz.func176, Tryz.ntmps176
    go_wp2_with (first
      | (go_at_call 92; refine HP.out.mono ?_; rintro e w' ⟨rfl, n, rfl⟩)
      | (go_at_call 185; refine (HI.out _).mono ?_; rintro e w' ⟨rfl, rfl⟩))
    go_ret
    rw [HV.out]
    exact ⟨rfl, (HB.out.n n).bad, ((Kp.refl _ _).drewN n).set _ _⟩
  · rw [if_neg hb] at HV
    obtain rfl : bad = false := by
      cases bad
      · rfl
      · exact absurd (by rw [hbad rfl]; rfl) hb
    have hb' : (bit d == 0) = false := by simp [hb]
    have HBE := hide (show bit (kindF s (i, false)).1 = bit d by rw [HV.out])
    generalize bit d = bd at HI HBE hb'
    clear hbad hb
    go_enter Tryz.func176, Tryz.ntmps176
    go_wp2_with (first
      | (go_at_call 92; refine HP.out.mono ?_; rintro e w' ⟨rfl, n, rfl⟩)
      | (go_at_call 185; refine (HI.out _).mono ?_; rintro e w' ⟨rfl, rfl⟩))
    go_ret
    rw [HBE.out, HV.out]
    exact ⟨rfl, (HB.out.n n).next, ((Kp.refl _ _).drewN n).set _ _⟩

/-- The bytes of a text, one behind the other. -/
def expF (s : ByteArray) (p : Nat × Bool) (l : List UInt8) : Nat × Bool := l.foldl (fun p c => eatF s p c.toNat) p

theorem expF_bad (s : ByteArray) (i : Nat) (l : List UInt8) : expF s (i, true) l = (i, true) := by
  induction l with
  | nil => rfl
  | cons c l ih => show expF s (eatF s (i, true) c.toNat) l = _; rw [show eatF s (i, true) c.toNat = (i, true) by simp [eatF]]; exact ih

theorem expF_take (s : ByteArray) (p : Nat × Bool) (u : ByteArray) (k : Nat) (h : k < u.size) : expF s p (u.data.toList.take (k + 1)) = eatF s (expF s p (u.data.toList.take k)) (u[k]).toNat := by
  rw [List.take_succ_eq_append_getElem (by simpa using h), expF, List.foldl_append]; rfl

theorem expF_stop (s : ByteArray) (p : Nat × Bool) (u : ByteArray) (k i : Nat) (h : expF s p (u.data.toList.take k) = (i, true)) : expF s p u.data.toList = (i, true) := by
  conv => lhs; rw [← List.take_append_drop k u.data.toList]
  rw [expF, List.foldl_append]
  have h' : List.foldl (fun p c => eatF s p c.toNat) p (u.data.toList.take k) = (i, true) := h
  rw [h']; exact expF_bad s i _
end Go.Proofs.YtellieabhaphhaaGreatDoor

/-
  narrow's reader: texts and ways.
-/
namespace Go.Proofs.YtellieabhaphhaaGreatDoor
open Go.RowKit

set_option maxHeartbeats 1600000 in
theorem nexpect_c (r i : Nat) (s u : ByteArray) (bad : Bool) (rest : List Value) (T : TypeId) (w : World) (hs : s.size ≤ 1000) (hi : i ≤ s.size) (hu : u.size ≤ 10) (hz : ∀ k (h : k < u.size), (u[k]).toNat ≠ 0)
    (h : NR w r s (i, bad) rest T) :
    Calls Tryz.prog 109 #[.pointer (some ⟨r, 0, none⟩), .string u] w fun e w' => e = .returned (.tuple #[]) ∧ NR w' r s (expF s (i, bad) u.data.toList) rest T ∧ Kp (· = r) w w' := by
  go_enter Tryz.func109, Tryz.ntmps109
  go_wp2
  go_loopg [4] u.size (fun k iv wr => ∃ j : Nat, j ≤ u.size ∧ k = u.size - j ∧ iv = .int .i64 j ∧ ∃ (q : Nat) (b : Bool), q ≤ s.size ∧ expF s (i, bad) (u.data.toList.take j) = (q, b) ∧ NR wr r s (q, b) rest T ∧ Kp (· = r) w wr)
  case atStart => exact ⟨0, Nat.zero_le _, rfl, rfl, i, bad, hi, rfl, h, Kp.refl _ _⟩
  case round =>
    clear h hi
    obtain ⟨j, hj, hk, rfl, q, b, hq, hE, hR, hK⟩ := hrel
    have HE := hide hE
    have HK := hide hK
    have HR := hide hR
    clear hE hK
    obtain ⟨h0, h1, h2, hf⟩ := hR.c
    clear hR
    by_cases hlt : j < u.size
    · have HT := hide (expF_take s (i, bad) u j hlt)
      have hc := hz j hlt
      have HP := hide (fun n => npeek_c r q s b rest T (wr.drewN n) hs hq (HR.out.n n))
      have HV := hide (eatF_pkb s (q, b) (u[j]).toNat hc)
      have hbad : b = true → pkb s (q, b) = 0 := fun e => by rw [e]; rfl
      have hin : pkb s (q, b) ≠ 0 → q < s.size := fun e => by
        cases b
        · exact pk_in s q e
        · exact absurd rfl e
      rw [HE.out] at HT
      rw [HV.out] at HT
      clear HV hz
      generalize pkb s (q, b) = d at *
      by_cases he : d = (u[j]).toNat
      · rw [if_pos he] at HT
        obtain rfl : b = false := by
          cases b
          · rfl
          · have := hbad rfl; omega
        have hq1 := hin (by omega)
        clear hbad hin
        go_wp2
        go_quiet ((go_at_call 92; exact Calls.quiet_of (HP.out _)))
        go_wp2
        go_roundg (u.size - (j + 1))
        case measure => omega
        case rel => exact ⟨j + 1, by omega, rfl, by go_num, q + 1, false, by omega, HT.out, (HR.out.n _).next, (HK.out.drewN _).set _ _⟩
      · rw [if_neg he] at HT
        have he' : ((d : Int) == ((u[j]).toNat : Int)) = false := by simp; omega
        clear hbad hin
        go_wp2
        go_quiet ((go_at_call 92; exact Calls.quiet_of (HP.out _)))
        go_wp2
        refine bodyPost_ret (results_none rfl _ _ _) rfl ?_
        rw [expF_stop s (i, bad) u (j + 1) q HT.out]
        exact ⟨rfl, (HR.out.n _).bad, (HK.out.drewN _).set _ _⟩
    · go_wp2
      go_end0
      have e1 : expF s (i, bad) u.data.toList = (q, b) := by
        have := HE.out
        rwa [List.take_of_length_le (by simp; omega)] at this
      rw [e1]
      exact ⟨rfl, HR.out, HK.out⟩

theorem expF_one (s : ByteArray) (p : Nat × Bool) (c : UInt8) : expF s p [c] = eatF s p c.toNat := rfl

/-- What was read from place a on. -/
def sinceB (s : ByteArray) (a i : Nat) : ByteArray := s.extract a i

set_option maxHeartbeats 800000 in
theorem nsince_c (r i a : Nat) (s : ByteArray) (bad : Bool) (rest : List Value) (T : TypeId) (w : World) (_ : s.size ≤ 1000) (hi : i ≤ s.size) (ha : a ≤ i)
    (h : NR w r s (i, bad) rest T) :
    Calls Tryz.prog 107 #[.pointer (some ⟨r, 0, none⟩), .int .i64 a] w fun e w' => e = .returned (.string (sinceB s a i)) ∧ ∃ n, w' = w.drewN n := by
  obtain ⟨h0, h1, h2, hf⟩ := h.c
  clear h
  go_enter Tryz.func107, Tryz.ntmps107
  go_wp2
  go_quiet (fail)
  go_wp2
  go_quiet (fail)
  go_wp2
  go_ret
  refine ⟨rfl, _, drewN2 _ _ _⟩
end Go.Proofs.YtellieabhaphhaaGreatDoor
