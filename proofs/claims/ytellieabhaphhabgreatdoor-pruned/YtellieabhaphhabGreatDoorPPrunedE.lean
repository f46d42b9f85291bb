import Derived.Test.YtellieabhaphhabGreatDoorPPrunedD
/-
  Plain: what narrow's reader reads is what the answer's reads.
-/
namespace Go.Proofs.YtellieabhaphhabGreatDoor
open Go.RowKit

def actN (op : Int) : Int :=
  if op = 48 ∨ op = 84 ∨ op = 70 ∨ op = 90 ∨ op = 67 then 1 else if op = 63 then 2 else if op = 118 then 3 else if op = 43 then 4 else if op = 60 then 5 else if op = 65 then 6 else if op = 66 then 7 else if op = 46 then 8
  else if op = 94 then 9 else if op = 126 then 10 else if op = 33 then 11 else if op = 121 then 12 else if op = 58 then 13 else if op = 42 then 14 else 0

def consN (n : Nd) : Vl := if actN n.op = 1 then consF n else ⟨0, 0, 0⟩

/-- A node of the answer, as narrow holds it. -/
def encN (n : Nd) (tx : ByteArray) (yes no : Int) : NN :=
  ⟨tx, actN n.op, n.x, n.y, if n.op = 43 ∨ n.op = 60 then n.v else n.y, bit (consN n).k, (consN n).n, bit (consN n).v, if n.op = 126 ∨ n.op = 58 then bit n.k else 0, yes, no⟩

abbrev em : ByteArray := ⟨#[]⟩

theorem varF_no (s : ByteArray) (i : Nat) (h : ¬ (97 ≤ pk s i ∧ pk s i ≤ 102)) : varF s (i, false) = (0, (i, true)) := by
  rw [varF_pkb, pkb_false, if_neg (by simp; omega)]

theorem varF_yes (s : ByteArray) (i : Nat) (h : 97 ≤ pk s i ∧ pk s i ≤ 102) : varF s (i, false) = (pk s i - 97, (i + 1, false)) := by
  rw [varF_pkb, pkb_false, if_pos (by simp; omega)]

theorem ass_ref (s : ByteArray) (i : Nat) (x : Int) (n : Nd) (hx : n.x = x) (h0 : n.y = 0 ∧ n.v = 0) :
    (assF s i x).2 = (valF s i n).2 ∧ ((valF s i n).2.2 = false → (assF s i x).1 = encN (valF s i n).1 em 0 0) := by
  subst hx
  by_cases hv : 97 ≤ pk s i ∧ pk s i ≤ 102
  · rw [assF, if_pos hv, valF, if_neg (by omega), if_neg (by simp [amF]; omega), if_neg (by simp [amF]; omega), if_neg (by simp [amF]; omega)]
    exact ⟨rfl, fun _ => rfl⟩
  by_cases hd : 48 ≤ pk s i ∧ pk s i ≤ 57
  · have e1 : conV (pk s i) = ⟨110, (pk s i : Int) - 48, 0⟩ := by rw [conV, if_pos hd]
    rw [assF, if_neg hv, if_pos (by rw [e1]; show ¬ bit 110 = 0; decide), e1, valF, if_pos hd]
    refine ⟨rfl, fun _ => ?_⟩
    simp [encN, consN, actN, consF, h0]
  have hnv := varF_no s i hv
  unfold assF valF
  rw [if_neg hv, if_neg hd, hnv]
  generalize varF s (varF s (i + 1, false)).2 = q2
  generalize varF s (i + 1, false) = q1
  have H : ∀ c : Nat, ¬ (97 ≤ c ∧ c ≤ 102) → ¬ (48 ≤ c ∧ c ≤ 57) → (c = 84 ∨ c = 70 ∨ c = 90 ∨ c = 67 ∨ c = 63 ∨ c = 43 ∨ c = 60 ∨ c = 65 ∨ c = 66 ∨ c = 46) ∨ (bit (conV c).k = 0 ∧ asgA c = 0 ∧ amF c [84, 70, 90, 67, 63] = false ∧ amF c [43, 60] = false ∧ amF c [65, 66, 46] = false) := by
    intro c h1 h2
    by_cases g : c = 84 ∨ c = 70 ∨ c = 90 ∨ c = 67 ∨ c = 63 ∨ c = 43 ∨ c = 60 ∨ c = 65 ∨ c = 66 ∨ c = 46
    · exact .inl g
    · refine .inr ⟨(bit_con c).2 (by omega), ?_, ?_, ?_, ?_⟩
      · rw [asgA, if_neg (by omega), if_neg (by omega), if_neg (by omega), if_neg (by omega), if_neg (by omega), if_neg (by omega)]
      all_goals (simp [amF]; omega)
  obtain ⟨ny, nv⟩ := h0
  rcases H _ hv hd with h | ⟨h1, h2, h3, h4, h5⟩
  · generalize pk s i = c at *
    rcases h with rfl | rfl | rfl | rfl | rfl | rfl | rfl | rfl | rfl | rfl
    all_goals
      refine ⟨rfl, fun _ => ?_⟩
      simp [encN, consN, actN, consF, ny, asgA, conV, amF, bit]
  · rw [if_neg (by rw [h1]; simp), if_pos h2, if_neg (by rw [h3]; decide), if_neg (by rw [h4]; decide), if_neg (by rw [h5]; decide)]
    exact ⟨rfl, fun h => by cases h⟩

theorem NN.ext' {a b : NN} (h0 : a.tx = b.tx) (h1 : a.act = b.act) (h2 : a.x = b.x) (h3 : a.y = b.y) (h4 : a.w = b.w) (h5 : a.ck = b.ck) (h6 : a.cn = b.cn) (h7 : a.ch = b.ch) (h8 : a.kd = b.kd) (h9 : a.yes = b.yes) (h10 : a.no = b.no) : a = b := by
  cases a; cases b; simp only [NN.mk.injEq]; exact ⟨h0, h1, h2, h3, h4, h5, h6, h7, h8, h9, h10⟩

theorem eatF_good (s : ByteArray) (p : Nat × Bool) (c : Nat) (h : (eatF s p c).2 = false) : p.2 = false ∧ pk s p.1 = c ∧ eatF s p c = (p.1 + 1, false) := by
  unfold eatF at h ⊢
  split at h
  · cases h
  · rename_i h1
    rw [if_neg h1]
    simp at h1
    exact ⟨h1.1, h1.2, rfl⟩

theorem nac_ref (s : ByteArray) (i : Nat) :
    (nacF s (i, false)).2 = (simpF s i).2 ∧ ((simpF s i).2.2 = false → (nacF s (i, false)).1 = encN (simpF s i).1 em 0 0) := by
  by_cases h1 : pk s i = 94
  · rw [nacF, pkb_false, if_pos h1, simpF, if_pos h1]
    exact ⟨rfl, fun _ => rfl⟩
  by_cases h2 : pk s i = 33
  · rw [nacF, pkb_false, if_neg h1, if_pos h2, simpF, if_neg h1, if_pos h2]
    exact ⟨rfl, fun _ => rfl⟩
  rw [nacF, pkb_false, if_neg h1, if_neg h2, simpF, if_neg h1, if_neg h2]
  generalize varF s (i, false) = q
  obtain ⟨k, q, b⟩ := q
  dsimp only
  cases b
  · by_cases h3 : pk s q = 126
    · rw [if_pos ⟨rfl, h3⟩, chgF, pkb_false, if_neg (by omega), if_pos h3]
      exact ⟨rfl, fun _ => rfl⟩
    · rw [if_neg (fun e => h3 e.2), chgF, pkb_false, if_neg h3]
      by_cases h4 : pk s q = 61
      · have e1 : eatF s (q, false) 61 = (q + 1, false) := by rw [eatF_pkb s _ _ (by decide), pkb_false, if_pos h4]
        rw [if_pos h4, e1, if_neg (by simp)]
        have := ass_ref s (q + 1) k { nd0 i with x := k } rfl ⟨rfl, rfl⟩
        exact ⟨this.1, fun h => this.2 h⟩
      · have e1 : eatF s (q, false) 61 = (q, true) := by rw [eatF_pkb s _ _ (by decide), pkb_false, if_neg h4]
        rw [if_neg h4, e1, if_pos rfl]
        exact ⟨rfl, fun h => by cases h⟩
  · rw [if_neg (fun e => by cases e.1), chgF, pkb_true, if_neg (by decide), if_neg (by decide)]
    have e1 : eatF s (q, true) 61 = (q, true) := by rw [eatF_pkb s _ _ (by decide), pkb_true, if_neg (by decide)]
    rw [e1, if_pos rfl]
    exact ⟨rfl, fun h => by cases h⟩

theorem gn_ref (s : ByteArray) (i : Nat) :
    (gnF s (i, false)).2 = (lineN s i).2 ∧ ((lineN s i).2.2 = false → (gnF s (i, false)).1 = encN (lineN s i).1 em 0 0) := by
  by_cases h0 : pk s i = 42
  · rw [gnF, pkb_false, if_pos h0, lineN, if_pos h0]
    exact ⟨rfl, fun _ => rfl⟩
  rw [lineN, if_neg h0, gnF, pkb_false, if_neg h0]
  by_cases h1 : pk s i = 94 ∨ pk s i = 33
  · rw [if_pos h1, if_neg (by omega)]
    exact nac_ref s i
  rw [if_neg h1]
  by_cases hv : 97 ≤ pk s i ∧ pk s i ≤ 102
  · rw [varF_yes s i hv]
    by_cases h2 : pk s (i + 1) = 61 ∨ pk s (i + 1) = 126
    · rw [if_pos (by exact h2), if_neg (by omega)]
      have := nac_ref s i
      rw [nacF, pkb_false, if_neg (by omega), if_neg (by omega), varF_yes s i hv] at this
      exact this
    · rw [if_neg (by exact h2), if_pos ⟨hv.1, hv.2, by omega, by omega⟩, testF, varF_yes s i hv, queF]
      by_cases h3 : pk s (i + 1) = 58
      · rw [if_pos (by exact h3), if_pos ⟨rfl, h3⟩]
        exact ⟨rfl, fun _ => rfl⟩
      · rw [if_neg (by exact h3), if_neg (fun e => h3 e.2)]
        exact ⟨rfl, fun _ => rfl⟩
  · have hq := varF_no s i hv
    rw [hq, if_neg (by rw [pkb_true]; decide), if_neg (by omega), queF, pkb_true, if_neg (by decide)]
    have e1 : eatF s (i, true) 61 = (i, true) := by rw [eatF_pkb s _ _ (by decide), pkb_true, if_neg (by decide)]
    rw [simpF, if_neg (by omega), if_neg (by omega), hq, if_neg (fun e => by cases e.1), e1, if_pos rfl]
    exact ⟨rfl, fun h => by cases h⟩

/-- A line. -/
def NN.setT (n : NN) (t : ByteArray) : NN := { n with tx := t }
def NN.setW (n : NN) (a b : Int) : NN := { n with yes := a, no := b }
theorem encT (n : Nd) (a t : ByteArray) (y z : Int) : (encN n a y z).setT t = encN n t y z := rfl
theorem encW (n : Nd) (t : ByteArray) (y z y' z' : Int) : (encN n t y z).setW y' z' = encN n t y' z' := rfl

def lnY (s : ByteArray) (n : NN) (p : Nat × Bool) : NN × (Nat × Bool) := if n.act = 11 then (n, p) else (n.setW (wayF s p).1 (wayF s p).1, (wayF s p).2)
def lnW (s : ByteArray) (n : NN) (p : Nat × Bool) : NN × (Nat × Bool) := if n.act = 12 ∨ n.act = 13 then (n.setW n.yes (wayF s p).1, (wayF s p).2) else (n, p)
def lnF (s : ByteArray) (p : Nat × Bool) : NN × (Nat × Bool) :=
  let y := lnY s ((gnF s p).1.setT (sinceB s p.1 (gnF s p).2.1)) (gnF s p).2
  ((lnW s y.1 y.2).1, eatF s (lnW s y.1 y.2).2 59)

theorem lnY_11 {s : ByteArray} {n : NN} {p : Nat × Bool} (h : n.act = 11) : lnY s n p = (n, p) := by rw [lnY, if_pos h]
theorem lnY_no {s : ByteArray} {n : NN} {p : Nat × Bool} (h : ¬ n.act = 11) : lnY s n p = (n.setW (wayF s p).1 (wayF s p).1, (wayF s p).2) := by rw [lnY, if_neg h]
theorem lnW_t {s : ByteArray} {n : NN} {p : Nat × Bool} (h : n.act = 12 ∨ n.act = 13) : lnW s n p = (n.setW n.yes (wayF s p).1, (wayF s p).2) := by rw [lnW, if_pos h]
theorem lnW_no {s : ByteArray} {n : NN} {p : Nat × Bool} (h : ¬ (n.act = 12 ∨ n.act = 13)) : lnW s n p = (n, p) := by rw [lnW, if_neg h]

theorem actN_11 (o : Int) : actN o = 11 ↔ o = 33 := by
  unfold actN
  repeat' split
  all_goals omega
theorem actN_t (o : Int) : (actN o = 12 ∨ actN o = 13) ↔ (o = 121 ∨ o = 58) := by
  unfold actN
  repeat' split
  all_goals omega

/-- The ways of a node, as narrow holds them. -/
def yesN (n : Nd) : Int := if n.op = 33 then 0 else n.t
def noN (n : Nd) : Int := if n.op = 121 ∨ n.op = 58 then n.f else yesN n

theorem lnY_bad (s : ByteArray) (n : NN) (i : Nat) : (lnY s n (i, true)).2 = (i, true) := by unfold lnY; split <;> rfl
theorem lnW_bad (s : ByteArray) (n : NN) (i : Nat) : (lnW s n (i, true)).2 = (i, true) := by unfold lnW; split <;> rfl

theorem ln_ref (s : ByteArray) (st : RS) :
    (lnF s (st.i, false)).2 = ((lineF s st).i, (lineF s st).bad) ∧ ((lineF s st).bad = false → ∃ nd, (lineF s st).nodes = st.nodes ++ [nd] ∧ (lnF s (st.i, false)).1 = encN nd (sinceB s st.i (lineN s st.i).2.1) (yesN nd) (noN nd)) := by
  obtain ⟨g1, g2⟩ := gn_ref s st.i
  by_cases hN : (lineN s st.i).2.2 = true
  · have e1 : lineF s st = { st with i := (lineN s st.i).2.1, bad := true } := by rw [lineF, if_pos hN]
    rw [e1]
    refine ⟨?_, fun h => by cases h⟩
    have e2 : (gnF s (st.i, false)).2 = ((lineN s st.i).2.1, true) := by rw [g1, ← hN]
    simp only [lnF]
    rw [e2, lnY_bad, lnW_bad]
    rfl
  · have hN' : (lineN s st.i).2.2 = false := by simpa using hN
    have e0 : (lineN s st.i).2 = ((lineN s st.i).2.1, false) := by rw [← hN']
    have g3 := g2 hN'
    simp only [lineF]
    rw [if_neg hN]
    simp only [lnF]
    rw [g1, g3]
    generalize lineN s st.i = z at *
    obtain ⟨n, zi, zb⟩ := z
    dsimp only at *
    cases e0
    have a1 := actN_11 n.op
    have a2 := actN_t n.op
    rw [encT]
    by_cases h33 : n.op = 33
    · have t1 : lineT s n (zi, false) = (-1, (zi, false)) := by rw [lineT, if_pos h33]
      have t2 : lineG s n (zi, false) = (n.f, (zi, false)) := by rw [lineG, if_neg (by omega)]
      rw [t1, t2, lnY_11 (show (encN n (sinceB s st.i zi) 0 0).act = 11 from a1.2 h33), lnW_no (show ¬ ((encN n (sinceB s st.i zi) 0 0).act = 12 ∨ (encN n (sinceB s st.i zi) 0 0).act = 13) from fun e => by have := a2.1 e; omega)]
      refine ⟨rfl, fun _ => ⟨_, rfl, ?_⟩⟩
      show encN n _ 0 0 = encN n _ (yesN _) (noN _)
      simp [yesN, noN, h33]
    · have t1 : lineT s n (zi, false) = (((wayF s (zi, false)).1 : Int), (wayF s (zi, false)).2) := by rw [lineT, if_neg h33]
      rw [t1, lnY_no (show ¬ (encN n (sinceB s st.i zi) 0 0).act = 11 from fun e => h33 (a1.1 e)), encW]
      dsimp only
      generalize wayF s (zi, false) = q
      by_cases ht : n.op = 121 ∨ n.op = 58
      · have t2 : lineG s n q.2 = (((wayF s q.2).1 : Int), (wayF s q.2).2) := by rw [lineG, if_pos ht]
        rw [t2, lnW_t (show (encN n (sinceB s st.i zi) q.1 q.1).act = 12 ∨ (encN n (sinceB s st.i zi) q.1 q.1).act = 13 from a2.2 ht), encW]
        refine ⟨rfl, fun _ => ⟨_, rfl, ?_⟩⟩
        show encN n _ q.1 (wayF s q.2).1 = encN n _ (yesN _) (noN _)
        simp only [yesN, noN]
        rw [if_neg h33, if_pos ht]
      · have t2 : lineG s n q.2 = (n.f, q.2) := by rw [lineG, if_neg ht]
        rw [t2, lnW_no (show ¬ ((encN n (sinceB s st.i zi) q.1 q.1).act = 12 ∨ (encN n (sinceB s st.i zi) q.1 q.1).act = 13) from fun e => ht (a2.1 e))]
        refine ⟨rfl, fun _ => ⟨_, rfl, ?_⟩⟩
        show encN n _ q.1 q.1 = encN n _ (yesN _) (noN _)
        simp only [yesN, noN]
        rw [if_neg h33, if_neg ht]
end Go.Proofs.YtellieabhaphhabGreatDoor

/-
  narrow's reader: a line of a graph.
-/
namespace Go.Proofs.YtellieabhaphhabGreatDoor
open Go.RowKit

set_option maxHeartbeats 400000 in
theorem nisTest_c (a : Int) (w : World) :
    Calls Tryz.prog 72 #[.int .i64 a] w fun e w' => e = .returned (.bool (decide (a = 12 ∨ a = 13))) ∧ w' = w := by
  by_cases h1 : a = 12
  · subst h1
    go_enter Tryz.func72, Tryz.ntmps72
    go_wp2
    go_ret
    exact ⟨rfl, rfl⟩
  by_cases h2 : a = 13
  · subst h2
    go_enter Tryz.func72, Tryz.ntmps72
    go_wp2
    go_ret
    exact ⟨rfl, rfl⟩
  · have g1 : (a == 12) = false := by simp [h1]
    have g2 : (a == 13) = false := by simp [h2]
    rw [show decide (a = 12 ∨ a = 13) = false by simp [h1, h2]]
    go_enter Tryz.func72, Tryz.ntmps72
    go_wp2
    go_ret
    exact ⟨rfl, rfl⟩

theorem gnF_le (s : ByteArray) (i : Nat) (h : i < s.size) : (gnF s (i, false)).2.1 ≤ s.size ∧ i ≤ (gnF s (i, false)).2.1 := by
  rw [(gn_ref s i).1]
  exact ⟨lineN_le s i h, (lineN_ge s i).1⟩

set_option maxHeartbeats 3200000 in
theorem nline_c (r i : Nat) (s : ByteArray) (rest : List Value) (T : TypeId) (w : World) (hs : s.size ≤ 1000) (hi : i < s.size)
    (h : NR w r s (i, false) rest T) :
    Calls Tryz.prog 34 #[.pointer (some ⟨r, 0, none⟩)] w fun e w' => e = .returned (.agg (lnF s (i, false)).1.cells.toArray) ∧ NR w' r s (lnF s (i, false)).2 rest T ∧ Kp (· = r) w w' := by
  have HG := hide (fun W (hW : NR W r s (i, false) rest T) => ngraphNode_c r i s false rest T W hs (by omega) hW)
  obtain ⟨g1, g2⟩ := gnF_le s i hi
  have hr := h.lt
  obtain ⟨h0, h1, h2, hf⟩ := h.c
  have hb : Blk w r (.string s :: .int .i64 i :: .bool false :: rest) T := h
  have HV : Hid (lnF s (i, false) = ((lnW s (lnY s ((gnF s (i, false)).1.setT (sinceB s i (gnF s (i, false)).2.1)) (gnF s (i, false)).2).1 (lnY s ((gnF s (i, false)).1.setT (sinceB s i (gnF s (i, false)).2.1)) (gnF s (i, false)).2).2).1, eatF s (lnW s (lnY s ((gnF s (i, false)).1.setT (sinceB s i (gnF s (i, false)).2.1)) (gnF s (i, false)).2).1 (lnY s ((gnF s (i, false)).1.setT (sinceB s i (gnF s (i, false)).2.1)) (gnF s (i, false)).2).2).2 59)) := rfl
  generalize gnF s (i, false) = g at *
  obtain ⟨⟨tx, act, nx, ny, nw, ck, cn, ch, kd, yes, no⟩, p, b⟩ := g
  dsimp only at *
  unfold NN.cells at HG
  dsimp only at HG
  clear h
  go_enter Tryz.func34, Tryz.ntmps34
  go_wp2_with fail
  refine (HG.out _ (by (show Blk _ _ _ _); (repeat' (first | ((with_reducible show (_ : List Value) = _); rfl) | with_reducible exact hb | ((with_reducible refine Blk.newAt _ _ _ ?_); first | with_reducible rfl | (simp; done)) | with_reducible refine Blk.alloc ?_ _ | with_reducible refine Blk.drewN ?_ _ | with_reducible refine Blk.drew ?_ | ((with_reducible refine Blk.other ?_ _ ?_); rotate_left; ((try dsimp only); omega)) | with_reducible refine Blk.setB (cs0 := ?_) ?_ ?_)))).mono ?_
  rintro e w1 ⟨rfl, hN1, k1⟩
  have hb1 : Blk w1 r (.string s :: .int .i64 p :: .bool b :: rest) T := hN1
  have hr1 := hb1.lt
  have hR1 : Blk w1 w.heap.size [.string ⟨#[]⟩, .int .i64 0, .int .i64 0, .int .i64 0, .int .i64 0, .int .i64 0, .int .i64 0, .int .i64 0, .int .i64 0, .int .i64 0, .int .i64 0] 68 := k1.blk (by (repeat' (first | ((with_reducible show (_ : List Value) = _); rfl) | with_reducible exact hb | ((with_reducible refine Blk.newAt _ _ _ ?_); first | with_reducible rfl | (simp; done)) | with_reducible refine Blk.alloc ?_ _ | with_reducible refine Blk.drewN ?_ _ | with_reducible refine Blk.drew ?_ | ((with_reducible refine Blk.other ?_ _ ?_); rotate_left; ((try dsimp only); omega)) | with_reducible refine Blk.setB (cs0 := ?_) ?_ ?_))) (by omega)
  have hz1 := hR1.lt
  obtain ⟨y1, y2, y3, y4⟩ := NR.c (i := p) (b := b) hb1
  go_wp2_with fail
  refine (nsince_c r p i s b rest T _ hs g1 g2 (by (show Blk _ _ _ _); (repeat' (first | ((with_reducible show (_ : List Value) = _); rfl) | with_reducible exact hb1 | ((with_reducible refine Blk.newAt _ _ _ ?_); first | with_reducible rfl | (simp; done)) | with_reducible refine Blk.alloc ?_ _ | with_reducible refine Blk.drewN ?_ _ | with_reducible refine Blk.drew ?_ | ((with_reducible refine Blk.other ?_ _ ?_); rotate_left; ((try dsimp only); omega)) | with_reducible refine Blk.setB (cs0 := ?_) ?_ ?_)))).mono ?_
  rintro e w2 ⟨rfl, n2, rfl⟩
  generalize sinceB s i p = tx2 at *
  have HI := hide (fun W => nisTest_c act W)
  have HE := hide (fun (q : Nat × Bool) W (hq : q.1 ≤ s.size) (hW : NR W r s q rest T) => nexpect_c r q.1 s ⟨#[59]⟩ q.2 rest T W hs hq (by decide) (by decide) hW)
  by_cases h11 : act = 11
  · subst h11
    rw [show decide ((11 : Int) = 12 ∨ (11 : Int) = 13) = false by decide] at HI
    rw [lnY_11 rfl, lnW_no (show ¬ ((11 : Int) = 12 ∨ (11 : Int) = 13) by decide)] at HV
    go_wp2_with fail
    refine (HI.out _).mono ?_
    rintro e w' ⟨rfl, rfl⟩
    go_wp2_with fail
    refine (HE.out (p, b) _ g1 (by (show Blk _ _ _ _); (repeat' (first | ((with_reducible show (_ : List Value) = _); rfl) | with_reducible exact hb1 | ((with_reducible refine Blk.newAt _ _ _ ?_); first | with_reducible rfl | (simp; done)) | with_reducible refine Blk.alloc ?_ _ | with_reducible refine Blk.drewN ?_ _ | with_reducible refine Blk.drew ?_ | ((with_reducible refine Blk.other ?_ _ ?_); rotate_left; ((try dsimp only); omega)) | with_reducible refine Blk.setB (cs0 := ?_) ?_ ?_)))).mono ?_
    rintro e w3 ⟨rfl, hN3, k3⟩
    have hL3 : Blk w3 w1.heap.size [.string tx2, .int .i64 11, .int .i64 nx, .int .i64 ny, .int .i64 nw, .int .i64 ck, .int .i64 cn, .int .i64 ch, .int .i64 kd, .int .i64 yes, .int .i64 no] 68 := k3.blk (by (repeat' (first | ((with_reducible show (_ : List Value) = _); rfl) | ((with_reducible refine Blk.newAt _ _ _ ?_); first | with_reducible rfl | (simp; done)) | with_reducible refine Blk.alloc ?_ _ | with_reducible refine Blk.drewN ?_ _ | with_reducible refine Blk.drew ?_ | ((with_reducible refine Blk.other ?_ _ ?_); rotate_left; ((try dsimp only); omega)) | with_reducible refine Blk.setB (cs0 := ?_) ?_ ?_))) (by omega)
    have hR3 : Blk w3 w.heap.size [.string ⟨#[]⟩, .int .i64 0, .int .i64 0, .int .i64 0, .int .i64 0, .int .i64 0, .int .i64 0, .int .i64 0, .int .i64 0, .int .i64 0, .int .i64 0] 68 := k3.blk (by (repeat' (first | ((with_reducible show (_ : List Value) = _); rfl) | with_reducible exact hR1 | ((with_reducible refine Blk.newAt _ _ _ ?_); first | with_reducible rfl | (simp; done)) | with_reducible refine Blk.alloc ?_ _ | with_reducible refine Blk.drewN ?_ _ | with_reducible refine Blk.drew ?_ | ((with_reducible refine Blk.other ?_ _ ?_); rotate_left; ((try dsimp only); omega)) | with_reducible refine Blk.setB (cs0 := ?_) ?_ ?_))) (by omega)
    obtain ⟨m_0, m_1, m_2, m_3, m_4, m_5, m_6, m_7, m_8, m_9, m_10, mf⟩ := hL3.c11
    obtain ⟨x_0, x_1, x_2, x_3, x_4, x_5, x_6, x_7, x_8, x_9, x_10, xf⟩ := hR3.c11
    have hLl3 := hL3.lt
    go_wp2
    refine body_agg (Tb := 68) (b := w.heap.size) (cs := [.string tx2, .int .i64 11, .int .i64 nx, .int .i64 ny, .int .i64 nw, .int .i64 ck, .int .i64 cn, .int .i64 ch, .int .i64 kd, .int .i64 yes, .int .i64 no]) (.inr rfl) Tryz.results34 rfl rfl (by (repeat' (first | ((with_reducible show (_ : List Value) = _); rfl) | with_reducible exact hR3 | ((with_reducible refine Blk.newAt _ _ _ ?_); first | with_reducible rfl | (simp; done)) | with_reducible refine Blk.alloc ?_ _ | with_reducible refine Blk.drewN ?_ _ | with_reducible refine Blk.drew ?_ | ((with_reducible refine Blk.other ?_ _ ?_); rotate_left; ((try dsimp only); omega)) | with_reducible refine Blk.setB (cs0 := ?_) ?_ ?_))) Tryz.underlying68 rfl (by kernel_rfl) ?_
    rw [HV.out]
    have hb3 : Blk w3 r (.string s :: .int .i64 (eatF s (p, b) 59).1 :: .bool (eatF s (p, b) 59).2 :: rest) T := hN3
    exact ⟨rfl, by (show Blk _ _ _ _); (repeat' (first | ((with_reducible show (_ : List Value) = _); rfl) | with_reducible exact hb3 | ((with_reducible refine Blk.newAt _ _ _ ?_); first | with_reducible rfl | (simp; done)) | with_reducible refine Blk.alloc ?_ _ | with_reducible refine Blk.drewN ?_ _ | with_reducible refine Blk.drew ?_ | ((with_reducible refine Blk.other ?_ _ ?_); rotate_left; ((try dsimp only); omega)) | with_reducible refine Blk.setB (cs0 := ?_) ?_ ?_)), by (repeat' (first | with_reducible exact Kp.refl _ _ | with_reducible refine Kp.alloc ?_ _ | with_reducible refine Kp.drewN ?_ _ | with_reducible refine Kp.drew ?_ | with_reducible refine Kp.setCell ?_ _ ?_ | with_reducible refine Kp.trans ?_ k1 (fun _ _ e => e) | with_reducible refine Kp.trans ?_ k3 (fun _ _ e => e) | (intro hh; first | rfl | exact .inl rfl | exact .inr rfl | (exfalso; (try dsimp only at hh); omega))))⟩
  have f11 : (act == 11) = false := by simp [h11]
  have HY := hide (fun W (hW : NR W r s (p, b) rest T) => nway_c r p s b rest T W hs g1 hW)
  have hq := wayF_le s (p, b) g1
  rw [lnY_no (show ¬ act = 11 from h11)] at HV
  generalize wayF s (p, b) = q at *
  obtain ⟨y, q⟩ := q
  dsimp only at hq HV HY
  by_cases ht : act = 12 ∨ act = 13
  · rw [decide_eq_true ht] at HI
    have HY2 := hide (fun W (hW : NR W r s q rest T) => nway_c r q.1 s q.2 rest T W hs hq hW)
    have hq2 := wayF_le s q hq
    rw [lnW_t (show act = 12 ∨ act = 13 from ht)] at HV
    rw [show (q.1, q.2) = q from rfl] at HY2
    generalize wayF s q = q2 at *
    obtain ⟨n, q2⟩ := q2
    dsimp only at hq2 HV HY2
    clear ht h11
    go_wp2_with fail
    refine (HY.out _ (by (show Blk _ _ _ _); (repeat' (first | ((with_reducible show (_ : List Value) = _); rfl) | with_reducible exact hb1 | ((with_reducible refine Blk.newAt _ _ _ ?_); first | with_reducible rfl | (simp; done)) | with_reducible refine Blk.alloc ?_ _ | with_reducible refine Blk.drewN ?_ _ | with_reducible refine Blk.drew ?_ | ((with_reducible refine Blk.other ?_ _ ?_); rotate_left; ((try dsimp only); omega)) | with_reducible refine Blk.setB (cs0 := ?_) ?_ ?_)))).mono ?_
    rintro e w3 ⟨rfl, hN3, k3⟩
    have hb3 : Blk w3 r (.string s :: .int .i64 q.1 :: .bool q.2 :: rest) T := hN3
    have hr3 := hb3.lt
    have hL3 : Blk w3 w1.heap.size [.string tx2, .int .i64 act, .int .i64 nx, .int .i64 ny, .int .i64 nw, .int .i64 ck, .int .i64 cn, .int .i64 ch, .int .i64 kd, .int .i64 yes, .int .i64 no] 68 := k3.blk (by (repeat' (first | ((with_reducible show (_ : List Value) = _); rfl) | ((with_reducible refine Blk.newAt _ _ _ ?_); first | with_reducible rfl | (simp; done)) | with_reducible refine Blk.alloc ?_ _ | with_reducible refine Blk.drewN ?_ _ | with_reducible refine Blk.drew ?_ | ((with_reducible refine Blk.other ?_ _ ?_); rotate_left; ((try dsimp only); omega)) | with_reducible refine Blk.setB (cs0 := ?_) ?_ ?_))) (by omega)
    have hR3 : Blk w3 w.heap.size [.string ⟨#[]⟩, .int .i64 0, .int .i64 0, .int .i64 0, .int .i64 0, .int .i64 0, .int .i64 0, .int .i64 0, .int .i64 0, .int .i64 0, .int .i64 0] 68 := k3.blk (by (repeat' (first | ((with_reducible show (_ : List Value) = _); rfl) | with_reducible exact hR1 | ((with_reducible refine Blk.newAt _ _ _ ?_); first | with_reducible rfl | (simp; done)) | with_reducible refine Blk.alloc ?_ _ | with_reducible refine Blk.drewN ?_ _ | with_reducible refine Blk.drew ?_ | ((with_reducible refine Blk.other ?_ _ ?_); rotate_left; ((try dsimp only); omega)) | with_reducible refine Blk.setB (cs0 := ?_) ?_ ?_))) (by omega)
    obtain ⟨m_0, m_1, m_2, m_3, m_4, m_5, m_6, m_7, m_8, m_9, m_10, mf⟩ := hL3.c11
    have hLl3 := hL3.lt
    go_wp2_with fail
    refine (HI.out _).mono ?_
    rintro e w' ⟨rfl, rfl⟩
    go_wp2_with fail
    refine (HY2.out _ (by (show Blk _ _ _ _); (repeat' (first | ((with_reducible show (_ : List Value) = _); rfl) | with_reducible exact hb3 | ((with_reducible refine Blk.newAt _ _ _ ?_); first | with_reducible rfl | (simp; done)) | with_reducible refine Blk.alloc ?_ _ | with_reducible refine Blk.drewN ?_ _ | with_reducible refine Blk.drew ?_ | ((with_reducible refine Blk.other ?_ _ ?_); rotate_left; ((try dsimp only); omega)) | with_reducible refine Blk.setB (cs0 := ?_) ?_ ?_)))).mono ?_
    rintro e w4 ⟨rfl, hN4, k4⟩
    have hb4 : Blk w4 r (.string s :: .int .i64 q2.1 :: .bool q2.2 :: rest) T := hN4
    have hr4 := hb4.lt
    have hL4 : Blk w4 w1.heap.size [.string tx2, .int .i64 act, .int .i64 nx, .int .i64 ny, .int .i64 nw, .int .i64 ck, .int .i64 cn, .int .i64 ch, .int .i64 kd, .int .i64 y, .int .i64 y] 68 := k4.blk (by (repeat' (first | ((with_reducible show (_ : List Value) = _); rfl) | with_reducible exact hL3 | ((with_reducible refine Blk.newAt _ _ _ ?_); first | with_reducible rfl | (simp; done)) | with_reducible refine Blk.alloc ?_ _ | with_reducible refine Blk.drewN ?_ _ | with_reducible refine Blk.drew ?_ | ((with_reducible refine Blk.other ?_ _ ?_); rotate_left; ((try dsimp only); omega)) | with_reducible refine Blk.setB (cs0 := ?_) ?_ ?_))) (by omega)
    have hR4 : Blk w4 w.heap.size [.string ⟨#[]⟩, .int .i64 0, .int .i64 0, .int .i64 0, .int .i64 0, .int .i64 0, .int .i64 0, .int .i64 0, .int .i64 0, .int .i64 0, .int .i64 0] 68 := k4.blk (by (repeat' (first | ((with_reducible show (_ : List Value) = _); rfl) | with_reducible exact hR3 | ((with_reducible refine Blk.newAt _ _ _ ?_); first | with_reducible rfl | (simp; done)) | with_reducible refine Blk.alloc ?_ _ | with_reducible refine Blk.drewN ?_ _ | with_reducible refine Blk.drew ?_ | ((with_reducible refine Blk.other ?_ _ ?_); rotate_left; ((try dsimp only); omega)) | with_reducible refine Blk.setB (cs0 := ?_) ?_ ?_))) (by omega)
    obtain ⟨o_0, o_1, o_2, o_3, o_4, o_5, o_6, o_7, o_8, o_9, o_10, of⟩ := hL4.c11
    have hLl4 := hL4.lt
    go_wp2_with fail
    refine (HE.out q2 _ hq2 (by (show Blk _ _ _ _); (repeat' (first | ((with_reducible show (_ : List Value) = _); rfl) | with_reducible exact hb4 | ((with_reducible refine Blk.newAt _ _ _ ?_); first | with_reducible rfl | (simp; done)) | with_reducible refine Blk.alloc ?_ _ | with_reducible refine Blk.drewN ?_ _ | with_reducible refine Blk.drew ?_ | ((with_reducible refine Blk.other ?_ _ ?_); rotate_left; ((try dsimp only); omega)) | with_reducible refine Blk.setB (cs0 := ?_) ?_ ?_)))).mono ?_
    rintro e w5 ⟨rfl, hN5, k5⟩
    have hL5 : Blk w5 w1.heap.size [.string tx2, .int .i64 act, .int .i64 nx, .int .i64 ny, .int .i64 nw, .int .i64 ck, .int .i64 cn, .int .i64 ch, .int .i64 kd, .int .i64 y, .int .i64 n] 68 := k5.blk (by (repeat' (first | ((with_reducible show (_ : List Value) = _); rfl) | with_reducible exact hL4 | ((with_reducible refine Blk.newAt _ _ _ ?_); first | with_reducible rfl | (simp; done)) | with_reducible refine Blk.alloc ?_ _ | with_reducible refine Blk.drewN ?_ _ | with_reducible refine Blk.drew ?_ | ((with_reducible refine Blk.other ?_ _ ?_); rotate_left; ((try dsimp only); omega)) | with_reducible refine Blk.setB (cs0 := ?_) ?_ ?_))) (by omega)
    have hR5 : Blk w5 w.heap.size [.string ⟨#[]⟩, .int .i64 0, .int .i64 0, .int .i64 0, .int .i64 0, .int .i64 0, .int .i64 0, .int .i64 0, .int .i64 0, .int .i64 0, .int .i64 0] 68 := k5.blk (by (repeat' (first | ((with_reducible show (_ : List Value) = _); rfl) | with_reducible exact hR4 | ((with_reducible refine Blk.newAt _ _ _ ?_); first | with_reducible rfl | (simp; done)) | with_reducible refine Blk.alloc ?_ _ | with_reducible refine Blk.drewN ?_ _ | with_reducible refine Blk.drew ?_ | ((with_reducible refine Blk.other ?_ _ ?_); rotate_left; ((try dsimp only); omega)) | with_reducible refine Blk.setB (cs0 := ?_) ?_ ?_))) (by omega)
    obtain ⟨u_0, u_1, u_2, u_3, u_4, u_5, u_6, u_7, u_8, u_9, u_10, uf⟩ := hL5.c11
    obtain ⟨x_0, x_1, x_2, x_3, x_4, x_5, x_6, x_7, x_8, x_9, x_10, xf⟩ := hR5.c11
    have hLl5 := hL5.lt
    go_wp2
    refine body_agg (Tb := 68) (b := w.heap.size) (cs := [.string tx2, .int .i64 act, .int .i64 nx, .int .i64 ny, .int .i64 nw, .int .i64 ck, .int .i64 cn, .int .i64 ch, .int .i64 kd, .int .i64 y, .int .i64 n]) (.inr rfl) Tryz.results34 rfl rfl (by (repeat' (first | ((with_reducible show (_ : List Value) = _); rfl) | with_reducible exact hR5 | ((with_reducible refine Blk.newAt _ _ _ ?_); first | with_reducible rfl | (simp; done)) | with_reducible refine Blk.alloc ?_ _ | with_reducible refine Blk.drewN ?_ _ | with_reducible refine Blk.drew ?_ | ((with_reducible refine Blk.other ?_ _ ?_); rotate_left; ((try dsimp only); omega)) | with_reducible refine Blk.setB (cs0 := ?_) ?_ ?_))) Tryz.underlying68 rfl (by kernel_rfl) ?_
    rw [HV.out]
    have hb5 : Blk w5 r (.string s :: .int .i64 (eatF s q2 59).1 :: .bool (eatF s q2 59).2 :: rest) T := hN5
    exact ⟨rfl, by (show Blk _ _ _ _); (repeat' (first | ((with_reducible show (_ : List Value) = _); rfl) | with_reducible exact hb5 | ((with_reducible refine Blk.newAt _ _ _ ?_); first | with_reducible rfl | (simp; done)) | with_reducible refine Blk.alloc ?_ _ | with_reducible refine Blk.drewN ?_ _ | with_reducible refine Blk.drew ?_ | ((with_reducible refine Blk.other ?_ _ ?_); rotate_left; ((try dsimp only); omega)) | with_reducible refine Blk.setB (cs0 := ?_) ?_ ?_)), by (repeat' (first | with_reducible exact Kp.refl _ _ | with_reducible refine Kp.alloc ?_ _ | with_reducible refine Kp.drewN ?_ _ | with_reducible refine Kp.drew ?_ | with_reducible refine Kp.setCell ?_ _ ?_ | with_reducible refine Kp.trans ?_ k1 (fun _ _ e => e) | with_reducible refine Kp.trans ?_ k3 (fun _ _ e => e) | with_reducible refine Kp.trans ?_ k4 (fun _ _ e => e) | with_reducible refine Kp.trans ?_ k5 (fun _ _ e => e) | (intro hh; first | rfl | exact .inl rfl | exact .inr rfl | (exfalso; (try dsimp only at hh); omega))))⟩
  · rw [decide_eq_false ht] at HI
    rw [lnW_no (show ¬ (act = 12 ∨ act = 13) from ht)] at HV
    clear ht h11
    go_wp2_with fail
    refine (HY.out _ (by (show Blk _ _ _ _); (repeat' (first | ((with_reducible show (_ : List Value) = _); rfl) | with_reducible exact hb1 | ((with_reducible refine Blk.newAt _ _ _ ?_); first | with_reducible rfl | (simp; done)) | with_reducible refine Blk.alloc ?_ _ | with_reducible refine Blk.drewN ?_ _ | with_reducible refine Blk.drew ?_ | ((with_reducible refine Blk.other ?_ _ ?_); rotate_left; ((try dsimp only); omega)) | with_reducible refine Blk.setB (cs0 := ?_) ?_ ?_)))).mono ?_
    rintro e w3 ⟨rfl, hN3, k3⟩
    have hb3 : Blk w3 r (.string s :: .int .i64 q.1 :: .bool q.2 :: rest) T := hN3
    have hr3 := hb3.lt
    have hL3 : Blk w3 w1.heap.size [.string tx2, .int .i64 act, .int .i64 nx, .int .i64 ny, .int .i64 nw, .int .i64 ck, .int .i64 cn, .int .i64 ch, .int .i64 kd, .int .i64 yes, .int .i64 no] 68 := k3.blk (by (repeat' (first | ((with_reducible show (_ : List Value) = _); rfl) | ((with_reducible refine Blk.newAt _ _ _ ?_); first | with_reducible rfl | (simp; done)) | with_reducible refine Blk.alloc ?_ _ | with_reducible refine Blk.drewN ?_ _ | with_reducible refine Blk.drew ?_ | ((with_reducible refine Blk.other ?_ _ ?_); rotate_left; ((try dsimp only); omega)) | with_reducible refine Blk.setB (cs0 := ?_) ?_ ?_))) (by omega)
    have hR3 : Blk w3 w.heap.size [.string ⟨#[]⟩, .int .i64 0, .int .i64 0, .int .i64 0, .int .i64 0, .int .i64 0, .int .i64 0, .int .i64 0, .int .i64 0, .int .i64 0, .int .i64 0] 68 := k3.blk (by (repeat' (first | ((with_reducible show (_ : List Value) = _); rfl) | with_reducible exact hR1 | ((with_reducible refine Blk.newAt _ _ _ ?_); first | with_reducible rfl | (simp; done)) | with_reducible refine Blk.alloc ?_ _ | with_reducible refine Blk.drewN ?_ _ | with_reducible refine Blk.drew ?_ | ((with_reducible refine Blk.other ?_ _ ?_); rotate_left; ((try dsimp only); omega)) | with_reducible refine Blk.setB (cs0 := ?_) ?_ ?_))) (by omega)
    obtain ⟨m_0, m_1, m_2, m_3, m_4, m_5, m_6, m_7, m_8, m_9, m_10, mf⟩ := hL3.c11
    have hLl3 := hL3.lt
    go_wp2_with fail
    refine (HI.out _).mono ?_
    rintro e w' ⟨rfl, rfl⟩
    go_wp2_with fail
    refine (HE.out q _ hq (by (show Blk _ _ _ _); (repeat' (first | ((with_reducible show (_ : List Value) = _); rfl) | with_reducible exact hb3 | ((with_reducible refine Blk.newAt _ _ _ ?_); first | with_reducible rfl | (simp; done)) | with_reducible refine Blk.alloc ?_ _ | with_reducible refine Blk.drewN ?_ _ | with_reducible refine Blk.drew ?_ | ((with_reducible refine Blk.other ?_ _ ?_); rotate_left; ((try dsimp only); omega)) | with_reducible refine Blk.setB (cs0 := ?_) ?_ ?_)))).mono ?_
    rintro e w5 ⟨rfl, hN5, k5⟩
    have hL5 : Blk w5 w1.heap.size [.string tx2, .int .i64 act, .int .i64 nx, .int .i64 ny, .int .i64 nw, .int .i64 ck, .int .i64 cn, .int .i64 ch, .int .i64 kd, .int .i64 y, .int .i64 y] 68 := k5.blk (by (repeat' (first | ((with_reducible show (_ : List Value) = _); rfl) | with_reducible exact hL3 | ((with_reducible refine Blk.newAt _ _ _ ?_); first | with_reducible rfl | (simp; done)) | with_reducible refine Blk.alloc ?_ _ | with_reducible refine Blk.drewN ?_ _ | with_reducible refine Blk.drew ?_ | ((with_reducible refine Blk.other ?_ _ ?_); rotate_left; ((try dsimp only); omega)) | with_reducible refine Blk.setB (cs0 := ?_) ?_ ?_))) (by omega)
    have hR5 : Blk w5 w.heap.size [.string ⟨#[]⟩, .int .i64 0, .int .i64 0, .int .i64 0, .int .i64 0, .int .i64 0, .int .i64 0, .int .i64 0, .int .i64 0, .int .i64 0, .int .i64 0] 68 := k5.blk (by (repeat' (first | ((with_reducible show (_ : List Value) = _); rfl) | with_reducible exact hR3 | ((with_reducible refine Blk.newAt _ _ _ ?_); first | with_reducible rfl | (simp; done)) | with_reducible refine Blk.alloc ?_ _ | with_reducible refine Blk.drewN ?_ _ | with_reducible refine Blk.drew ?_ | ((with_reducible refine Blk.other ?_ _ ?_); rotate_left; ((try dsimp only); omega)) | with_reducible refine Blk.setB (cs0 := ?_) ?_ ?_))) (by omega)
    obtain ⟨u_0, u_1, u_2, u_3, u_4, u_5, u_6, u_7, u_8, u_9, u_10, uf⟩ := hL5.c11
    obtain ⟨x_0, x_1, x_2, x_3, x_4, x_5, x_6, x_7, x_8, x_9, x_10, xf⟩ := hR5.c11
    have hLl5 := hL5.lt
    go_wp2
    refine body_agg (Tb := 68) (b := w.heap.size) (cs := [.string tx2, .int .i64 act, .int .i64 nx, .int .i64 ny, .int .i64 nw, .int .i64 ck, .int .i64 cn, .int .i64 ch, .int .i64 kd, .int .i64 y, .int .i64 y]) (.inr rfl) Tryz.results34 rfl rfl (by (repeat' (first | ((with_reducible show (_ : List Value) = _); rfl) | with_reducible exact hR5 | ((with_reducible refine Blk.newAt _ _ _ ?_); first | with_reducible rfl | (simp; done)) | with_reducible refine Blk.alloc ?_ _ | with_reducible refine Blk.drewN ?_ _ | with_reducible refine Blk.drew ?_ | ((with_reducible refine Blk.other ?_ _ ?_); rotate_left; ((try dsimp only); omega)) | with_reducible refine Blk.setB (cs0 := ?_) ?_ ?_))) Tryz.underlying68 rfl (by kernel_rfl) ?_
    rw [HV.out]
    have hb5 : Blk w5 r (.string s :: .int .i64 (eatF s q 59).1 :: .bool (eatF s q 59).2 :: rest) T := hN5
    exact ⟨rfl, by (show Blk _ _ _ _); (repeat' (first | ((with_reducible show (_ : List Value) = _); rfl) | with_reducible exact hb5 | ((with_reducible refine Blk.newAt _ _ _ ?_); first | with_reducible rfl | (simp; done)) | with_reducible refine Blk.alloc ?_ _ | with_reducible refine Blk.drewN ?_ _ | with_reducible refine Blk.drew ?_ | ((with_reducible refine Blk.other ?_ _ ?_); rotate_left; ((try dsimp only); omega)) | with_reducible refine Blk.setB (cs0 := ?_) ?_ ?_)), by (repeat' (first | with_reducible exact Kp.refl _ _ | with_reducible refine Kp.alloc ?_ _ | with_reducible refine Kp.drewN ?_ _ | with_reducible refine Kp.drew ?_ | with_reducible refine Kp.setCell ?_ _ ?_ | with_reducible refine Kp.trans ?_ k1 (fun _ _ e => e) | with_reducible refine Kp.trans ?_ k3 (fun _ _ e => e) | with_reducible refine Kp.trans ?_ k5 (fun _ _ e => e) | (intro hh; first | rfl | exact .inl rfl | exact .inr rfl | (exfalso; (try dsimp only at hh); omega))))⟩
end Go.Proofs.YtellieabhaphhabGreatDoor

/-
  Plain: the nodes of a graph are well made.
-/
namespace Go.Proofs.YtellieabhaphhabGreatDoor
open Go.RowKit

theorem varF_lt6 (s : ByteArray) (p : Nat × Bool) : (varF s p).1 < 6 := by
  rw [varF_pkb]; split
  · rename_i h; simp at h; show pkb s p - 97 < 6; omega
  · show 0 < 6; decide

theorem kindF_ok (s : ByteArray) (p : Nat × Bool) (h : (kindF s p).2.2 = false) : KOk (kindF s p).1 := by
  rw [kindF_pkb] at h ⊢
  split
  · rename_i h1; rw [if_pos h1] at h; cases h
  · rename_i h1
    show KOk (pkb s p)
    unfold bit at h1
    unfold KOk
    by_cases a : (pkb s p : Int) = 110 <;> by_cases b : (pkb s p : Int) = 116 <;> by_cases c : (pkb s p : Int) = 102 <;> by_cases d : (pkb s p : Int) = 122 <;> by_cases e : (pkb s p : Int) = 65 <;> by_cases f : (pkb s p : Int) = 66 <;> by_cases g : (pkb s p : Int) = 67 <;> simp_all

def opOk (o : Int) : Prop := o = 48 ∨ o = 84 ∨ o = 70 ∨ o = 90 ∨ o = 67 ∨ o = 63 ∨ o = 118 ∨ o = 43 ∨ o = 60 ∨ o = 65 ∨ o = 66 ∨ o = 46 ∨ o = 94 ∨ o = 126 ∨ o = 33 ∨ o = 121 ∨ o = 58 ∨ o = 42

/-- A node, but for its ways. -/
structure Gn (n : Nd) : Prop where
  x : 0 ≤ n.x ∧ n.x < 6
  y : 0 ≤ n.y ∧ n.y < 6
  v : 0 ≤ n.v ∧ n.v < 6
  op : opOk n.op
  k : n.op = 48 → 48 ≤ n.k ∧ n.k ≤ 57
  kd : n.op = 58 ∨ n.op = 126 → KOk n.k
  f : ¬ (n.op = 121 ∨ n.op = 58) → n.f = -1

theorem Gn.nok {n : Nd} (h : Gn n) : NOk n := ⟨h.x, h.y, h.v, h.k⟩

theorem valF_gn (s : ByteArray) (i : Nat) (n : Nd) (hx : 0 ≤ n.x ∧ n.x < 6) (h0 : n.y = 0 ∧ n.v = 0) (hf : n.f = -1) : Gn (valF s i n).1 := by
  have v1 := varF_lt6 s (i + 1, false)
  have v2 := varF_lt6 s (varF s (i + 1, false)).2
  have v3 := varF_lt6 s (i, false)
  obtain ⟨hy, hv⟩ := h0
  unfold valF
  repeat' split
  · exact ⟨hx, by simp [hy], by simp [hv], .inl rfl, fun _ => by dsimp only; omega, fun h => by simp at h, fun _ => hf⟩
  · rename_i _ h
    have h' : pk s i = 84 ∨ pk s i = 70 ∨ pk s i = 90 ∨ pk s i = 67 ∨ pk s i = 63 := by simp [amF] at h; omega
    exact ⟨hx, by simp [hy], by simp [hv], by unfold opOk; dsimp only; omega, fun e => by dsimp only at e; omega, fun e => by dsimp only at e; omega, fun _ => hf⟩
  · rename_i _ _ h
    have h' : pk s i = 43 ∨ pk s i = 60 := by simp [amF] at h; omega
    exact ⟨hx, by dsimp only; omega, by dsimp only; omega, by unfold opOk; dsimp only; omega, fun e => by dsimp only at e; omega, fun e => by dsimp only at e; omega, fun _ => hf⟩
  · rename_i _ _ _ h
    have h' : pk s i = 65 ∨ pk s i = 66 ∨ pk s i = 46 := by simp [amF] at h; omega
    exact ⟨hx, by dsimp only; omega, by simp [hv], by unfold opOk; dsimp only; omega, fun e => by dsimp only at e; omega, fun e => by dsimp only at e; omega, fun _ => hf⟩
  · exact ⟨hx, by dsimp only; omega, by simp [hv], by unfold opOk; dsimp only; omega, fun e => by dsimp only at e; omega, fun e => by dsimp only at e; omega, fun _ => hf⟩

theorem Gn.l {n : Nd} (h : Gn n) (l : Int) : Gn { n with l := l } := ⟨h.x, h.y, h.v, h.op, h.k, h.kd, h.f⟩

theorem simpF_gn (s : ByteArray) (i : Nat) (h : (simpF s i).2.2 = false) : Gn (simpF s i).1 ∧ (simpF s i).1.a = i ∧ (simpF s i).1.l = ((simpF s i).2.1 : Int) - i := by
  have v1 := varF_lt6 s (i + 1, false)
  have v3 := varF_lt6 s (i, false)
  unfold simpF at h ⊢
  repeat' split
  · exact ⟨⟨by simp [nd0], by dsimp only; omega, by simp [nd0], by unfold opOk; dsimp only; omega, fun e => by dsimp only at e; omega, fun e => by dsimp only at e; omega, fun _ => rfl⟩, rfl, rfl⟩
  · exact ⟨⟨by simp [nd0], by simp [nd0], by simp [nd0], by unfold opOk; dsimp only; omega, fun e => by dsimp only at e; omega, fun e => by dsimp only at e; omega, fun _ => rfl⟩, rfl, by push_cast; rfl⟩
  · rename_i h1 h2 h3
    rw [if_neg h1, if_neg h2, if_pos h3] at h
    exact ⟨⟨by dsimp only; omega, by simp [nd0], by simp [nd0], by unfold opOk; dsimp only; omega, fun e => by dsimp only at e; omega, fun _ => kindF_ok s _ h, fun _ => rfl⟩, rfl, rfl⟩
  · rename_i h1 h2 h3 h4
    rw [if_neg h1, if_neg h2, if_neg h3, if_pos h4] at h
    rw [h4] at h; cases h
  · have := valF_gn s (eatF s (varF s (i, false)).2 61).1 { nd0 i with x := (varF s (i, false)).1 } (by dsimp only; omega) ⟨rfl, rfl⟩ rfl
    have k := valF_keeps s (eatF s (varF s (i, false)).2 61).1 { nd0 i with x := (varF s (i, false)).1 }
    exact ⟨this.l _, k.1, rfl⟩

theorem testF_gn (s : ByteArray) (i : Nat) (h : (testF s i).2.2 = false) : Gn (testF s i).1 ∧ (testF s i).1.a = i ∧ (testF s i).1.l = ((testF s i).2.1 : Int) - i := by
  have v3 := varF_lt6 s (i, false)
  unfold testF at h ⊢
  repeat' split
  · rename_i h1
    rw [if_pos h1] at h
    exact ⟨⟨by simp [ty0], by dsimp only; omega, by simp [ty0], by unfold opOk; dsimp only; omega, fun e => by dsimp only at e; omega, fun _ => kindF_ok s _ h, fun e => by simp at e⟩, rfl, rfl⟩
  · exact ⟨⟨by simp [ty0], by dsimp only; omega, by simp [ty0], by unfold opOk; simp [ty0], fun e => by simp [ty0] at e, fun e => by simp [ty0] at e, fun e => by simp [ty0] at e⟩, rfl, rfl⟩

theorem lineN_gn (s : ByteArray) (i : Nat) (h : (lineN s i).2.2 = false) : Gn (lineN s i).1 ∧ (lineN s i).1.a = i ∧ (lineN s i).1.l = ((lineN s i).2.1 : Int) - i := by
  unfold lineN at h ⊢
  repeat' split
  · exact ⟨⟨by simp, by simp, by simp, by unfold opOk; dsimp only; omega, fun e => by simp at e, fun e => by simp at e, fun _ => rfl⟩, rfl, by push_cast; omega⟩
  · rename_i h1 h2; rw [if_neg h1, if_pos h2] at h; exact testF_gn s i h
  · rename_i h1 h2; rw [if_neg h1, if_neg h2] at h; exact simpF_gn s i h

/-- A node of a graph: its text is at hand in s. -/
structure Gd (s : ByteArray) (n : Nd) : Prop where
  g : Gn n
  t3 : n.op = 33 → n.t = -1
  t : n.op ≠ 33 → 0 ≤ n.t ∧ n.t ≤ 99
  f : n.op = 121 ∨ n.op = 58 → 0 ≤ n.f ∧ n.f ≤ 99
  a : 0 ≤ n.a
  l : 0 < n.l
  al : n.a + n.l ≤ s.size

theorem Gd.tf {s : ByteArray} {n : Nd} (h : Gd s n) : (-1 ≤ n.t ∧ n.t ≤ 1000) ∧ (-1 ≤ n.f ∧ n.f ≤ 1000) := by
  refine ⟨?_, ?_⟩
  · by_cases h3 : n.op = 33
    · have := h.t3 h3; omega
    · have := h.t h3; omega
  · by_cases h3 : n.op = 121 ∨ n.op = 58
    · have := h.f h3; omega
    · have := h.g.f h3; omega

/-- A node as narrow holds it, with its text. -/
def encX (s : ByteArray) (n : Nd) : NN := encN n (s.extract n.a.toNat (n.a + n.l).toNat) (yesN n) (noN n)

theorem lineF_gd (s : ByteArray) (st : RS) (hi : st.i < s.size) (hb : (lineF s st).bad = false) :
    ∃ nd, (lineF s st).nodes = st.nodes ++ [nd] ∧ Gd s nd ∧ (lnF s (st.i, false)).1 = encX s nd := by
  have hl := ln_ref s st
  have e0 := lineF_eq s st
  have hle := lineN_le s st.i hi
  have hge := lineN_ge s st.i
  obtain ⟨nd, h1, h2⟩ := hl.2 hb
  by_cases hN : (lineN s st.i).2.2 = true
  · simp only [lineF] at hb
    rw [if_pos hN] at hb
    cases hb
  have hN' : (lineN s st.i).2.2 = false := by simpa using hN
  obtain ⟨g1, g2, g3⟩ := lineN_gn s st.i hN'
  simp only [lineF] at h1
  rw [if_neg hN] at h1
  have e1 := List.append_cancel_left h1
  simp only [List.cons.injEq, and_true] at e1
  subst e1
  have t1 : ∀ p, (lineN s st.i).1.op = 33 → (lineT s (lineN s st.i).1 p).1 = -1 := fun p e => by rw [lineT, if_pos e]
  have t2 : ∀ p, (lineN s st.i).1.op ≠ 33 → 0 ≤ (lineT s (lineN s st.i).1 p).1 ∧ (lineT s (lineN s st.i).1 p).1 ≤ 99 := fun p e => by
    rw [lineT, if_neg e]; have := wayF_lt s p; dsimp only; omega
  have t3 : ∀ p, (lineN s st.i).1.op = 121 ∨ (lineN s st.i).1.op = 58 → 0 ≤ (lineG s (lineN s st.i).1 p).1 ∧ (lineG s (lineN s st.i).1 p).1 ≤ 99 := fun p e => by
    rw [lineG, if_pos e]; have := wayF_lt s p; dsimp only; omega
  have t4 : ∀ p, ¬ ((lineN s st.i).1.op = 121 ∨ (lineN s st.i).1.op = 58) → (lineG s (lineN s st.i).1 p).1 = -1 := fun p e => by
    rw [lineG, if_neg e]; exact g1.f e
  have hgt := hge.2 hN'
  refine ⟨{ (lineN s st.i).1 with t := (lineT s (lineN s st.i).1 (lineN s st.i).2).1, f := (lineG s (lineN s st.i).1 (lineT s (lineN s st.i).1 (lineN s st.i).2).2).1 }, by simp only [lineF]; rw [if_neg hN], ⟨⟨g1.x, g1.y, g1.v, g1.op, g1.k, g1.kd, t4 _⟩, t1 _, t2 _, t3 _, ?_, ?_, ?_⟩, ?_⟩
  · show 0 ≤ (lineN s st.i).1.a; omega
  · show 0 < (lineN s st.i).1.l; omega
  · show (lineN s st.i).1.a + (lineN s st.i).1.l ≤ s.size; omega
  · rw [h2]
    have e2 : sinceB s st.i (lineN s st.i).2.1 = s.extract (lineN s st.i).1.a.toNat ((lineN s st.i).1.a + (lineN s st.i).1.l).toNat := by
      rw [g2, g3, sinceB]; congr 1; omega
    rw [e2]
    rfl
end Go.Proofs.YtellieabhaphhabGreatDoor

/-
  narrow's reader: a graph.
-/
namespace Go.Proofs.YtellieabhaphhabGreatDoor
open Go.RowKit

def nnCells (l : List NN) : List Value := l.flatMap NN.cells
theorem nn11 (x : NN) : x.cells.length = 11 := rfl

theorem info_nn : (Tryz.prog.info? 68).map (fun i => (i.zero, i.size, i.bytes)) = some (some (.agg #[.string ⟨#[]⟩, .int .i64 0, .int .i64 0, .int .i64 0, .int .i64 0, .int .i64 0, .int .i64 0, .int .i64 0, .int .i64 0, .int .i64 0, .int .i64 0]), 11, 96) := by kernel_rfl

/-- The row of narrow's nodes. -/
abbrev NRow (w : World) (v : Value) (L : List NN) : Prop := Row w v 68 11 L.length (nnCells L)

theorem NRow.shape {w : World} {v : Value} {L : List NN} (h : NRow w v L) : ∃ a cap, v = .slice a L.length cap := by
  rcases h.2 with ⟨rfl, h0⟩ | ⟨g, cap, cur, rfl, _⟩
  · exact ⟨none, 0, by rw [h0]⟩
  · exact ⟨_, _, rfl⟩

theorem NRow.at {w : World} {a : Option Addr} {cap : Nat} {L : List NN} (h : NRow w (.slice a L.length cap) L) {k : Nat} {n : NN} (hk : L[k]? = some n) :
    k < L.length ∧ ∃ g, a = some ⟨g, 0, none⟩ ∧ g < w.heap.size ∧ w.cell? ⟨g, k * 11, none⟩ = some (.string n.tx) ∧ w.cell? ⟨g, k * 11 + 1, none⟩ = some (.int .i64 n.act) ∧ w.cell? ⟨g, k * 11 + 2, none⟩ = some (.int .i64 n.x) ∧ w.cell? ⟨g, k * 11 + 3, none⟩ = some (.int .i64 n.y) ∧ w.cell? ⟨g, k * 11 + 4, none⟩ = some (.int .i64 n.w) ∧ w.cell? ⟨g, k * 11 + 5, none⟩ = some (.int .i64 n.ck) ∧ w.cell? ⟨g, k * 11 + 6, none⟩ = some (.int .i64 n.cn) ∧ w.cell? ⟨g, k * 11 + 7, none⟩ = some (.int .i64 n.ch) ∧ w.cell? ⟨g, k * 11 + 8, none⟩ = some (.int .i64 n.kd) ∧ w.cell? ⟨g, k * 11 + 9, none⟩ = some (.int .i64 n.yes) ∧ w.cell? ⟨g, k * 11 + 10, none⟩ = some (.int .i64 n.no) := by
  obtain ⟨hl, rfl⟩ := List.getElem?_eq_some_iff.1 hk
  obtain ⟨g, cap', e, _, hg⟩ := World.ownsRow.form h (by omega)
  injection e with e1 e2 e3
  subst e1
  have hc : ∀ j, j < 11 → w.cell? ⟨g, k * 11 + j, none⟩ = L[k].cells[j]? := fun j hj => by
    rw [Row.cell h _ (by have := Nat.mul_le_mul_right 11 hl; omega)]
    exact flat_get NN.cells 11 nn11 L k j hl hj
  have hlt := Row.lt h (b := g) rfl
  exact ⟨hl, g, rfl, hlt, hc 0 (by decide), hc 1 (by decide), hc 2 (by decide), hc 3 (by decide), hc 4 (by decide), hc 5 (by decide), hc 6 (by decide), hc 7 (by decide), hc 8 (by decide), hc 9 (by decide), hc 10 (by decide)⟩

theorem NRow.len {w : World} {v : Value} {s : ByteArray} {l : List Nd} (h : NRow w v (l.map (encX s))) : Row w v 68 11 l.length (nnCells (l.map (encX s))) := by
  have h' : Row w v 68 11 (l.map (encX s)).length (nnCells (l.map (encX s))) := h
  rwa [List.length_map] at h'

def nnBad (k : Nat) (n : NN) : Bool := decide ((k : Int) < n.yes) || decide ((k : Int) < n.no)

set_option maxHeartbeats 1600000 in
theorem nlinked_c (v : Value) (L : List NN) (w : World) (h : NRow w v L) (hl : L.length ≤ 1000) :
    Calls Tryz.prog 35 #[v] w fun e w' => e = .returned (.int .i64 (L.findIdx (nnBad L.length))) ∧ Kp no w w' := by
  obtain ⟨a, cap, rfl⟩ := h.shape
  go_enter Tryz.func35, Tryz.ntmps35
  go_wp2
  go_loopg [7] L.length (fun k iv wr => ∃ j : Nat, j ≤ L.length ∧ k = L.length - j ∧ iv = .int .i64 j ∧ Kp no w wr ∧ ∀ i (hi : i < L.length), i < j → nnBad L.length L[i] = false)
  case atStart => exact ⟨0, Nat.zero_le _, rfl, rfl, Kp.refl _ _, fun i _ h => by omega⟩
  case round =>
    obtain ⟨j, hj, hk, rfl, kr, hno⟩ := hrel
    have HK := hide kr
    have HNO := hide hno
    have HKK := hide hk
    clear kr hno hk
    by_cases hlt : j < L.length
    · obtain ⟨_, g, rfl, hg, q0, q1, q2, q3, q4, q5, q6, q7, q8, q9, q10⟩ := NRow.at (HK.out.row h (fun _ _ => no_elim)) (List.getElem?_eq_getElem hlt)
      have HY := hide (fun (hq : nnBad L.length L[j] = true) => show L.findIdx (nnBad L.length) = j from
        List.findIdx_eq hlt |>.2 ⟨hq, fun i hi => by simpa using HNO.out i (by omega) hi⟩)
      have hBL : Hid (nnBad L.length L[j] = (decide ((L.length : Int) < L[j].yes) || decide ((L.length : Int) < L[j].no))) := rfl
      clear h
      generalize hgn : L[j] = n at *
      have HGN := hide hgn
      clear hgn
      obtain ⟨tx, act, nx, ny, nw, ck, cn, ch, kd, yes, no⟩ := n
      dsimp only at *
      by_cases b1 : (L.length : Int) < yes
      · have HY1 := hide (HY.out (by rw [hBL.out]; simp [b1]))
        go_wp2
        go_ret
        rw [HY1.out]
        exact ⟨rfl, by have k1 := HK.out; (repeat' (first | with_reducible exact Kp.refl _ _ | with_reducible refine Kp.alloc ?_ _ | with_reducible refine Kp.drewN ?_ _ | with_reducible refine Kp.drew ?_ | with_reducible refine Kp.setCell ?_ _ ?_ | with_reducible refine Kp.trans ?_ k1 (fun _ _ e => e) | (intro hh; first | rfl | exact .inl rfl | exact .inr rfl | (exfalso; (try dsimp only at hh); omega))))⟩
      by_cases b2 : (L.length : Int) < no
      · have HY1 := hide (HY.out (by rw [hBL.out]; simp [b2]))
        have b1' : decide ((L.length : Int) < yes) = false := by simp; omega
        clear b1
        go_wp2
        go_ret
        rw [HY1.out]
        exact ⟨rfl, by have k1 := HK.out; (repeat' (first | with_reducible exact Kp.refl _ _ | with_reducible refine Kp.alloc ?_ _ | with_reducible refine Kp.drewN ?_ _ | with_reducible refine Kp.drew ?_ | with_reducible refine Kp.setCell ?_ _ ?_ | with_reducible refine Kp.trans ?_ k1 (fun _ _ e => e) | (intro hh; first | rfl | exact .inl rfl | exact .inr rfl | (exfalso; (try dsimp only at hh); omega))))⟩
      · have HN := hide (show nnBad L.length _ = false from by rw [hBL.out]; simp; omega)
        have b1' : decide ((L.length : Int) < yes) = false := by simp; omega
        have b2' : decide ((L.length : Int) < no) = false := by simp; omega
        clear b1 b2
        go_wp2
        go_roundg (L.length - (j + 1))
        case measure => have := HKK.out; omega
        case rel => exact ⟨j + 1, by omega, rfl, by go_num, by have k1 := HK.out; (repeat' (first | with_reducible exact Kp.refl _ _ | with_reducible refine Kp.alloc ?_ _ | with_reducible refine Kp.drewN ?_ _ | with_reducible refine Kp.drew ?_ | with_reducible refine Kp.setCell ?_ _ ?_ | with_reducible refine Kp.trans ?_ k1 (fun _ _ e => e) | (intro hh; first | rfl | exact .inl rfl | exact .inr rfl | (exfalso; (try dsimp only at hh); omega)))), fun i hi hij => by
          rcases Nat.lt_or_ge i j with h1 | h1
          · exact HNO.out i hi h1
          · obtain rfl : i = j := by omega
            rw [HGN.out]; exact HN.out⟩
    · have HN := hide (show L.findIdx (nnBad L.length) = L.length from by
        rw [List.findIdx_eq_length]
        intro x hx
        obtain ⟨i, hi, rfl⟩ := List.getElem_of_mem hx
        rw [HNO.out i hi (by omega)])
      go_wp2
      go_ret
      rw [HN.out]
      exact ⟨rfl, HK.out⟩

theorem findIdx_map_congr {α β : Type} (f : α → β) (q : β → Bool) (p : α → Bool) : ∀ (l : List α), (∀ n ∈ l, q (f n) = p n) → (l.map f).findIdx q = l.findIdx p
  | [], _ => rfl
  | a :: l, h => by
    rw [List.map_cons, List.findIdx_cons, List.findIdx_cons, h a (List.mem_cons_self ..), findIdx_map_congr f q p l (fun n hn => h n (List.mem_cons_of_mem _ hn))]

theorem linkAt_lt {l : List Nd} {j : Nat} (h : linkAt l = some j) : j < l.length := (List.findIdx?_eq_some_iff_getElem.1 h).1

theorem nnBad_ref {s : ByteArray} {l : List Nd} (h : ∀ n ∈ l, Gd s n) : (l.map (encX s)).findIdx (nnBad (l.map (encX s)).length) = (linkAt l).getD l.length := by
  have e : ∀ n ∈ l, nnBad l.length (encX s n) = badLink l n := by
    intro n hn
    have hg := h n hn
    show (decide ((l.length : Int) < yesN n) || decide ((l.length : Int) < noN n)) = (decide ((l.length : Int) < n.t) || decide ((l.length : Int) < n.f))
    unfold noN yesN
    by_cases h3 : n.op = 33
    · have := hg.t3 h3
      have hf := hg.g.f (by omega)
      rw [if_pos h3, if_neg (by omega), this, hf]
      have a1 : decide ((l.length : Int) < 0) = false := by simp
      have a2 : decide ((l.length : Int) < -1) = false := by simp
      rw [a1, a2]
    · rw [if_neg h3]
      by_cases ht : n.op = 121 ∨ n.op = 58
      · rw [if_pos ht]
      · rw [if_neg ht, hg.g.f ht]
        have a2 : decide ((l.length : Int) < -1) = false := by simp
        rw [a2, Bool.or_self, Bool.or_false]
  rw [List.length_map, linkAt, ← List.findIdx_eq_getD_findIdx?]
  exact findIdx_map_congr (encX s) _ _ l e

def NogPost (s : ByteArray) (w : World) (e : Ending) (w' : World) : Prop :=
  ∃ v, e = .returned (.tuple #[v, .int .i64 (graE s).1, .int .i64 (graE s).2]) ∧ Kp no w w' ∧ ((graE s).1 = 0 → NRow w' v ((graF s).nodes.map (encX s)) ∧ (∀ b, v.ownBlock = some b → w.heap.size ≤ b) ∧ ∀ n ∈ (graF s).nodes, Gd s n)

set_option maxHeartbeats 1600000 in
theorem nog_long (s : ByteArray) (w : World) (hm : s.size ≤ maxLen) (hs : 900 < s.size) :
    Calls Tryz.prog 17 #[.string s] w fun e w' => e = .returned (.tuple #[.slice none 0 0, .int .i64 1, .int .i64 0]) ∧ Kp no w w' := by
  unfold maxLen at hm
  go_enter Tryz.func17, Tryz.ntmps17
  go_wp2
  go_ret3
  exact ⟨rfl, by (repeat' (first | with_reducible exact Kp.refl _ _ | with_reducible refine Kp.alloc ?_ _ | with_reducible refine Kp.drewN ?_ _ | with_reducible refine Kp.drew ?_ | with_reducible refine Kp.setCell ?_ _ ?_ | (intro hh; first | rfl | exact .inl rfl | exact .inr rfl | (exfalso; (try dsimp only at hh); omega))))⟩

set_option maxRecDepth 100000 in
set_option maxHeartbeats 6400000 in
theorem nog_c (s : ByteArray) (w : World) (hs : s.size ≤ 900) :
    Calls Tryz.prog 17 #[.string s] w fun e w' => NogPost s w e w' := by
  obtain ⟨i0, hi0, hz0, hz1, hz2⟩ := info_parts info_nn
  go_enter Tryz.func17, Tryz.ntmps17
  go_wp2
  go_loopg [6] (s.size + 1) (fun k nv wr => ∃ st : RS, st.bad = false ∧ NR wr w.heap.size s (st.i, false) [] 63 ∧ NRow wr nv (st.nodes.map (encX s)) ∧ nv.ownBlock ≠ some w.heap.size ∧ (∀ b, nv.ownBlock = some b → w.heap.size ≤ b) ∧ Kp no w wr ∧ (∀ n ∈ st.nodes, Gd s n) ∧ st.i ≤ s.size ∧ st.nodes.length ≤ 90 ∧ s.size - st.i < k ∧ graF s = lnsF k s st)
  case atStart =>
    refine ⟨rs0, rfl, by (show Blk _ w.heap.size [.string s, .int .i64 0, .bool false] _); (repeat' (first | ((with_reducible show (_ : List Value) = _); rfl) | ((with_reducible refine Blk.newAt _ _ _ ?_); first | with_reducible rfl | (simp; done)) | with_reducible refine Blk.alloc ?_ _ | with_reducible refine Blk.drewN ?_ _ | with_reducible refine Blk.drew ?_ | ((with_reducible refine Blk.other ?_ _ ?_); rotate_left; ((try dsimp only); omega)) | with_reducible refine Blk.setB (cs0 := ?_) ?_ ?_)), ?_, by simp [Value.ownBlock], by simp [Value.ownBlock], by (repeat' (first | with_reducible exact Kp.refl _ _ | with_reducible refine Kp.alloc ?_ _ | with_reducible refine Kp.drewN ?_ _ | with_reducible refine Kp.drew ?_ | with_reducible refine Kp.setCell ?_ _ ?_ | (intro hh; first | rfl | exact .inl rfl | exact .inr rfl | (exfalso; (try dsimp only at hh); omega)))), fun n hn => by simp [rs0] at hn, Nat.zero_le _, by decide, by show s.size - 0 < _; omega, rfl⟩
    refine ⟨rfl, .inr ⟨w.heap.size + 1, 0, #[], rfl, Nat.zero_le _, ?_, Nat.le_refl _, Nat.zero_le _, rfl, rfl⟩⟩
    have hh : Blk ((w.alloc (.cells #[.string s, .int .i64 0, .bool false] 63)).alloc (.cells #[] 68)) (w.heap.size + 1) [] 68 := by (repeat' (first | ((with_reducible show (_ : List Value) = _); rfl) | ((with_reducible refine Blk.newAt _ _ _ ?_); first | with_reducible rfl | (simp; done)) | with_reducible refine Blk.alloc ?_ _ | with_reducible refine Blk.drewN ?_ _ | with_reducible refine Blk.drew ?_ | ((with_reducible refine Blk.other ?_ _ ?_); rotate_left; ((try dsimp only); omega)) | with_reducible refine Blk.setB (cs0 := ?_) ?_ ?_))
    exact hh
  case round =>
    obtain ⟨st, hb, hR, hN, hne, hown, kr, hgd, hi, hn, hk, hE⟩ := hrel
    have HE := hide hE
    have HK := hide hk
    have HKR := hide kr
    have HO := hide hown
    have HGD := hide hgd
    have HB := hide hb
    clear hE hk kr hown hgd hb
    obtain ⟨a, cap, hv⟩ := hN.shape
    rw [List.length_map] at hv
    subst hv
    have HN := hide hN
    have HNE := hide hne
    have HR := hide hR
    obtain ⟨h0, h1, h2, hf⟩ := hR.c
    have hrl := hR.lt
    clear hN hR hne
    by_cases hlt : st.i < s.size
    · obtain ⟨k, rfl⟩ : ∃ k, gk = k + 1 := ⟨gk - 1, by have := HK.out; omega⟩
      by_cases h90 : 90 ≤ st.nodes.length
      · have HG := hide (show graE s = (2, st.i) by
          have e1 : graF s = { st with bad := true } := by rw [HE.out, lnsF, if_pos ⟨HB.out, hlt⟩, if_pos h90]
          rw [graE, e1]; rfl)
        go_wp2
        go_quiet (fail)
        go_wp2
        go_ret3
        exact ⟨_, by rw [HG.out]; rfl, HKR.out.drewN _, fun e => by rw [HG.out] at e; cases e⟩
      · have HL := hide (fun W (hW : NR W w.heap.size s (st.i, false) [] 63) => nline_c w.heap.size st.i s [] 63 W (by omega) hlt hW)
        have HI := hide (lineF_inv s st hlt)
        have HLR := hide (ln_ref s st).1
        have HLG := hide (fun hb => lineF_gd s st hlt hb)
        have HRR := hide (show lnsF (k + 1) s st = lnsF k s (lineF s st) by rw [lnsF, if_pos ⟨HB.out, hlt⟩, if_neg h90])
        rw [HLR.out] at HL
        generalize lineF s st = st2 at *
        generalize lnF s (st.i, false) = lf at *
        obtain ⟨⟨tx, act, nx, ny, nw, ck, cn, ch, kd, yes, nno⟩, lp⟩ := lf
        unfold NN.cells at HL
        dsimp only at *
        cases hb2 : st2.bad
        · obtain ⟨nd, hnd, hgd, hx⟩ := HLG.out hb2
          have HND := hide hnd
          have HGN := hide hgd
          have HX := hide hx
          have HB2 := hide hb2
          rw [hb2] at HL
          clear hnd hgd hx hb2 HLG
          go_wp2_with fail
          refine (HL.out _ (by exact HR.out)).mono ?_
          rintro e w2 ⟨rfl, hR2, k2⟩
          obtain ⟨p0, p1, p2, pf⟩ := hR2.c
          have hrl2 := hR2.lt
          have hN2 : NRow w2 (.slice a st.nodes.length cap) (st.nodes.map (encX s)) := k2.row HN.out (fun b hb e => HNE.out (by rw [hb, e]))
          have HN2 := hide hN2
          have HR2 := hide hR2
          have HK2 := hide k2
          clear hN2 hR2 k2
          have hone : ∀ u ∈ [Value.string tx, .int .i64 act, .int .i64 nx, .int .i64 ny, .int .i64 nw, .int .i64 ck, .int .i64 cn, .int .i64 ch, .int .i64 kd, .int .i64 yes, .int .i64 nno], u.oneCell' = true := by simp [Value.oneCell']
          have HN3 := hide (NRow.len HN2.out)
          go_wp2_with (at_builtin; refine wpList_append_lies _ rfl (.tmp 30) (.tmp 32) 43 rfl 0 68 i0 _ 11 96 Tryz.underlying43 hi0 hz0 hz1 hz2 rfl (by decide) (.slice a st.nodes.length cap) st.nodes.length (nnCells (st.nodes.map (encX s))) (by simp [Act.eval]) (by exact (World.ownsRow.alloc (World.ownsRow.alloc HN3.out _) _)) ⟨w2.heap.size + 1, 0, none⟩ 1 1 [Value.string tx, .int .i64 act, .int .i64 nx, .int .i64 ny, .int .i64 nw, .int .i64 ck, .int .i64 cn, .int .i64 ch, .int .i64 kd, .int .i64 yes, .int .i64 nno] (by simp [Act.eval]) rfl (Blk.news (by (repeat' (first | ((with_reducible show (_ : List Value) = _); rfl) | ((with_reducible refine Blk.newAt _ _ _ ?_); first | with_reducible rfl | (simp; done)) | with_reducible refine Blk.alloc ?_ _ | with_reducible refine Blk.drewN ?_ _ | with_reducible refine Blk.drew ?_ | ((with_reducible refine Blk.other ?_ _ ?_); rotate_left; ((try dsimp only); omega)) | with_reducible refine Blk.setB (cs0 := ?_) ?_ ?_)))) hone (by decide) (by unfold maxLen; omega) (by omega) (Nat.zero_le _) _ rfl ?_; intro g cap' w' hown hgrow hat hlt')
          go_roundg k
          case measure => omega
          case rel =>
            have hR3 := HR2.out
            have e1 : st2.nodes.map (encX s) = st.nodes.map (encX s) ++ [encX s nd] := by rw [HND.out]; simp
            have kk : Kp no w w2 := HKR.out.trans HK2.out (fun x hx e => by omega)
            have ksz := kk.size
            refine ⟨st2, HB2.out, grown_blk hgrow ((Blk.alloc (Blk.alloc hR3 _) _)) HNE.out, ?_, ?_, ?_, ?_, ?_, HI.out.1, ?_, ?_, ?_⟩
            · show Row _ _ _ _ (st2.nodes.map (encX s)).length (nnCells (st2.nodes.map (encX s)))
              rw [e1, List.length_append, List.length_map, nnCells, List.flatMap_append, ← nnCells]
              have e2 : [encX s nd].flatMap NN.cells = [Value.string tx, .int .i64 act, .int .i64 nx, .int .i64 ny, .int .i64 nw, .int .i64 ck, .int .i64 cn, .int .i64 ch, .int .i64 kd, .int .i64 yes, .int .i64 nno] := by
                rw [← HX.out]; rfl
              rw [e2]
              exact hown
            · rcases hat with h | h
              · show some g ≠ _; rw [← h]; exact HNE.out
              · have : (Value.slice (some ⟨g, 0, none⟩) (st.nodes.length + 1) cap').ownBlock = some g := rfl
                rw [this]; simp at h ⊢; omega
            · intro b hb
              have hb' : g = b := by simpa [Value.ownBlock] using hb
              subst hb'
              rcases hat with h | h
              · exact HO.out _ h
              · simp at h; omega
            · exact ((kk.alloc _).alloc _).grown hgrow (fun k hk e => by have := HO.out k e; omega)
            · intro n hn
              rw [HND.out, List.mem_append, List.mem_singleton] at hn
              rcases hn with h | rfl
              · exact HGD.out n h
              · exact HGN.out
            · rw [HND.out, List.length_append, List.length_singleton]; omega
            · have := HI.out.2.2.1 HB2.out; have := HK.out; have := HI.out.1; omega
            · rw [HE.out, HRR.out]
        · have HG := hide (show graE s = (2, st2.i) by
            have e1 : graF s = st2 := by rw [HE.out, HRR.out, lns_stop k s st2 (by rw [hb2]; simp)]
            rw [graE, e1, hb2]; rfl)
          rw [hb2] at HL
          clear HLG hb2
          go_wp2_with fail
          refine (HL.out _ (by exact HR.out)).mono ?_
          rintro e w2 ⟨rfl, hR2, k2⟩
          obtain ⟨p0, p1, p2, pf⟩ := hR2.c
          have hrl2 := hR2.lt
          have HK2 := hide k2
          clear k2 hR2
          go_wp2
          go_quiet (fail)
          go_wp2
          go_ret3
          have kk : Kp no w w2 := HKR.out.trans HK2.out (fun x hx e => by omega)
          exact ⟨_, by rw [HG.out]; rfl, by (repeat' (first | with_reducible exact Kp.refl _ _ | with_reducible refine Kp.alloc ?_ _ | with_reducible refine Kp.drewN ?_ _ | with_reducible refine Kp.drew ?_ | with_reducible refine Kp.setCell ?_ _ ?_ | with_reducible refine Kp.trans ?_ kk (fun _ _ e => e) | (intro hh; first | rfl | exact .inl rfl | exact .inr rfl | (exfalso; (try dsimp only at hh); omega)))), fun e => by rw [HG.out] at e; cases e⟩
    · have HS := hide (show graF s = st by rw [HE.out, lns_stop gk s st (fun e => hlt e.2)])
      have HL := hide (nlinked_c _ _ wr HN.out (by rw [List.length_map]; omega))
      rw [nnBad_ref HGD.out] at HL
      cases hlk : linkAt st.nodes with
      | some j =>
        have HG := hide (show graE s = (3, j) by rw [graE, HS.out, HB.out, hlk]; rfl)
        have hj := linkAt_lt hlk
        rw [hlk] at HL
        clear hlk
        go_wp2_with fail
        refine HL.out.mono ?_
        rintro e w2 ⟨rfl, k2⟩
        simp only [Option.getD_some]
        go_wp2
        go_ret3
        have kk : Kp no w w2 := HKR.out.trans k2 (fun _ _ e => e)
        exact ⟨_, by rw [HG.out]; rfl, kk, fun e => by rw [HG.out] at e; cases e⟩
      | none =>
        have HG := hide (show graE s = (0, 0) by rw [graE, HS.out, HB.out, hlk]; rfl)
        rw [hlk] at HL
        clear hlk
        go_wp2_with fail
        refine HL.out.mono ?_
        rintro e w2 ⟨rfl, k2⟩
        simp only [Option.getD_none]
        go_wp2
        go_ret3
        have kk : Kp no w w2 := HKR.out.trans k2 (fun _ _ e => e)
        exact ⟨_, by rw [HG.out]; rfl, kk, fun _ => ⟨by rw [HS.out]; exact k2.row HN.out (fun _ _ => no_elim), HO.out, by rw [HS.out]; exact HGD.out⟩⟩
end Go.Proofs.YtellieabhaphhabGreatDoor

/-
  narrow: values at work, against the answer's own.
-/
namespace Go.Proofs.YtellieabhaphhabGreatDoor
open Go.RowKit

/-- A value, well made. -/
structure VW (u : Vl) : Prop where
  k : KOk u.k
  n0 : 0 ≤ u.n
  n1 : u.n ≤ 999
  b : u.k = 66 → u.v = 116 ∨ u.v = 102 ∨ u.v = 122
  z : u.k ≠ 66 → u.v = 0

theorem bit_65 {k : Int} (h : KOk k) : bit k = 16 ↔ k = 65 := by
  rcases h with rfl | rfl | rfl | rfl | rfl | rfl | rfl <;> decide
set_option maxHeartbeats 800000 in
theorem nsumOf_c (yk yn yv wk wn wv : Int) (w : World) (h1 : 0 ≤ yn) (h2 : yn ≤ 999) (h3 : 0 ≤ wn) (h4 : wn ≤ 999) :
    Calls Tryz.prog 131 #[.agg #[.int .i64 yk, .int .i64 yn, .int .i64 yv], .agg #[.int .i64 wk, .int .i64 wn, .int .i64 wv]] w fun e w' => e = .returned (.agg #[.int .i64 1, .int .i64 ((yn + wn) % 1000), .int .i64 0]) ∧ Kp no w w' := by
  by_cases hc : 1000 ≤ yn + wn
  · have HV := hide (show (yn + wn) % 1000 = yn + wn - 1000 by omega)
    go_enter Tryz.func131, Tryz.ntmps131
    go_wp2
    refine body_agg (Tb := 66) (b := w.heap.size + 2) (cs := [.int .i64 1, .int .i64 (yn + wn - 1000), .int .i64 0]) (.inr rfl) Tryz.results131 rfl rfl (by (repeat' (first | ((with_reducible show (_ : List Value) = _); rfl) | ((with_reducible refine Blk.newAt _ _ _ ?_); first | with_reducible rfl | (simp; done)) | with_reducible refine Blk.alloc ?_ _ | with_reducible refine Blk.drewN ?_ _ | with_reducible refine Blk.drew ?_ | ((with_reducible refine Blk.other ?_ _ ?_); rotate_left; ((try dsimp only); omega)) | with_reducible refine Blk.setB (cs0 := ?_) ?_ ?_))) Tryz.underlying66 rfl (by kernel_rfl) ?_
    rw [HV.out]
    exact ⟨rfl, by (repeat' (first | with_reducible exact Kp.refl _ _ | with_reducible refine Kp.alloc ?_ _ | with_reducible refine Kp.drewN ?_ _ | with_reducible refine Kp.drew ?_ | with_reducible refine Kp.setCell ?_ _ ?_ | (intro hh; first | rfl | exact .inl rfl | exact .inr rfl | (exfalso; (try dsimp only at hh); omega))))⟩
  · have HV := hide (show (yn + wn) % 1000 = yn + wn by omega)
    go_enter Tryz.func131, Tryz.ntmps131
    go_wp2
    refine body_agg (Tb := 66) (b := w.heap.size + 2) (cs := [.int .i64 1, .int .i64 (yn + wn), .int .i64 0]) (.inr rfl) Tryz.results131 rfl rfl (by (repeat' (first | ((with_reducible show (_ : List Value) = _); rfl) | ((with_reducible refine Blk.newAt _ _ _ ?_); first | with_reducible rfl | (simp; done)) | with_reducible refine Blk.alloc ?_ _ | with_reducible refine Blk.drewN ?_ _ | with_reducible refine Blk.drew ?_ | ((with_reducible refine Blk.other ?_ _ ?_); rotate_left; ((try dsimp only); omega)) | with_reducible refine Blk.setB (cs0 := ?_) ?_ ?_))) Tryz.underlying66 rfl (by kernel_rfl) ?_
    rw [HV.out]
    exact ⟨rfl, by (repeat' (first | with_reducible exact Kp.refl _ _ | with_reducible refine Kp.alloc ?_ _ | with_reducible refine Kp.drewN ?_ _ | with_reducible refine Kp.drew ?_ | with_reducible refine Kp.setCell ?_ _ ?_ | (intro hh; first | rfl | exact .inl rfl | exact .inr rfl | (exfalso; (try dsimp only at hh); omega))))⟩

set_option maxHeartbeats 800000 in
theorem nisBelow_c (yk yn yv wk wn wv : Int) (w : World) :
    Calls Tryz.prog 132 #[.agg #[.int .i64 yk, .int .i64 yn, .int .i64 yv], .agg #[.int .i64 wk, .int .i64 wn, .int .i64 wv]] w fun e w' => e = .returned (.agg #[.int .i64 (if yn < wn then 2 else 4), .int .i64 0, .int .i64 0]) ∧ Kp no w w' := by
  by_cases hc : yn < wn
  · rw [if_pos hc]
    go_enter Tryz.func132, Tryz.ntmps132
    go_wp2
    refine body_agg (Tb := 66) (b := w.heap.size + 2) (cs := [.int .i64 2, .int .i64 0, .int .i64 0]) (.inr rfl) Tryz.results132 rfl rfl (by (repeat' (first | ((with_reducible show (_ : List Value) = _); rfl) | ((with_reducible refine Blk.newAt _ _ _ ?_); first | with_reducible rfl | (simp; done)) | with_reducible refine Blk.alloc ?_ _ | with_reducible refine Blk.drewN ?_ _ | with_reducible refine Blk.drew ?_ | ((with_reducible refine Blk.other ?_ _ ?_); rotate_left; ((try dsimp only); omega)) | with_reducible refine Blk.setB (cs0 := ?_) ?_ ?_))) Tryz.underlying66 rfl (by kernel_rfl) ?_
    exact ⟨rfl, by (repeat' (first | with_reducible exact Kp.refl _ _ | with_reducible refine Kp.alloc ?_ _ | with_reducible refine Kp.drewN ?_ _ | with_reducible refine Kp.drew ?_ | with_reducible refine Kp.setCell ?_ _ ?_ | (intro hh; first | rfl | exact .inl rfl | exact .inr rfl | (exfalso; (try dsimp only at hh); omega))))⟩
  · rw [if_neg hc]
    go_enter Tryz.func132, Tryz.ntmps132
    go_wp2
    refine body_agg (Tb := 66) (b := w.heap.size + 2) (cs := [.int .i64 4, .int .i64 0, .int .i64 0]) (.inr rfl) Tryz.results132 rfl rfl (by (repeat' (first | ((with_reducible show (_ : List Value) = _); rfl) | ((with_reducible refine Blk.newAt _ _ _ ?_); first | with_reducible rfl | (simp; done)) | with_reducible refine Blk.alloc ?_ _ | with_reducible refine Blk.drewN ?_ _ | with_reducible refine Blk.drew ?_ | ((with_reducible refine Blk.other ?_ _ ?_); rotate_left; ((try dsimp only); omega)) | with_reducible refine Blk.setB (cs0 := ?_) ?_ ?_))) Tryz.underlying66 rfl (by kernel_rfl) ?_
    exact ⟨rfl, by (repeat' (first | with_reducible exact Kp.refl _ _ | with_reducible refine Kp.alloc ?_ _ | with_reducible refine Kp.drewN ?_ _ | with_reducible refine Kp.drew ?_ | with_reducible refine Kp.setCell ?_ _ ?_ | (intro hh; first | rfl | exact .inl rfl | exact .inr rfl | (exfalso; (try dsimp only at hh); omega))))⟩

set_option maxHeartbeats 800000 in
theorem nheldBy_c (yk yn yv : Int) (w : World) :
    Calls Tryz.prog 133 #[.agg #[.int .i64 yk, .int .i64 yn, .int .i64 yv]] w fun e w' => e = .returned (.agg #[.int .i64 (if yk = 16 then 1 else yv), .int .i64 (if yk = 16 then yn else 0), .int .i64 0]) ∧ Kp no w w' := by
  by_cases hc : yk = 16
  · subst hc
    rw [if_pos rfl, if_pos rfl]
    go_enter Tryz.func133, Tryz.ntmps133
    go_wp2
    refine body_agg (Tb := 66) (b := w.heap.size + 1) (cs := [.int .i64 1, .int .i64 yn, .int .i64 0]) (.inr rfl) Tryz.results133 rfl rfl (by (repeat' (first | ((with_reducible show (_ : List Value) = _); rfl) | ((with_reducible refine Blk.newAt _ _ _ ?_); first | with_reducible rfl | (simp; done)) | with_reducible refine Blk.alloc ?_ _ | with_reducible refine Blk.drewN ?_ _ | with_reducible refine Blk.drew ?_ | ((with_reducible refine Blk.other ?_ _ ?_); rotate_left; ((try dsimp only); omega)) | with_reducible refine Blk.setB (cs0 := ?_) ?_ ?_))) Tryz.underlying66 rfl (by kernel_rfl) ?_
    exact ⟨rfl, by (repeat' (first | with_reducible exact Kp.refl _ _ | with_reducible refine Kp.alloc ?_ _ | with_reducible refine Kp.drewN ?_ _ | with_reducible refine Kp.drew ?_ | with_reducible refine Kp.setCell ?_ _ ?_ | (intro hh; first | rfl | exact .inl rfl | exact .inr rfl | (exfalso; (try dsimp only at hh); omega))))⟩
  · rw [if_neg hc, if_neg hc]
    have hc' : (yk == 16) = false := by simp [hc]
    go_enter Tryz.func133, Tryz.ntmps133
    go_wp2
    refine body_agg (Tb := 66) (b := w.heap.size + 1) (cs := [.int .i64 yv, .int .i64 0, .int .i64 0]) (.inr rfl) Tryz.results133 rfl rfl (by (repeat' (first | ((with_reducible show (_ : List Value) = _); rfl) | ((with_reducible refine Blk.newAt _ _ _ ?_); first | with_reducible rfl | (simp; done)) | with_reducible refine Blk.alloc ?_ _ | with_reducible refine Blk.drewN ?_ _ | with_reducible refine Blk.drew ?_ | ((with_reducible refine Blk.other ?_ _ ?_); rotate_left; ((try dsimp only); omega)) | with_reducible refine Blk.setB (cs0 := ?_) ?_ ?_))) Tryz.underlying66 rfl (by kernel_rfl) ?_
    exact ⟨rfl, by (repeat' (first | with_reducible exact Kp.refl _ _ | with_reducible refine Kp.alloc ?_ _ | with_reducible refine Kp.drewN ?_ _ | with_reducible refine Kp.drew ?_ | with_reducible refine Kp.setCell ?_ _ ?_ | (intro hh; first | rfl | exact .inl rfl | exact .inr rfl | (exfalso; (try dsimp only at hh); omega))))⟩

set_option maxHeartbeats 800000 in
theorem ntakenAsTrue_c (yk yn yv : Int) (w : World) :
    Calls Tryz.prog 134 #[.agg #[.int .i64 yk, .int .i64 yn, .int .i64 yv]] w fun e w' => e = .returned (.bool (yk != 4 && yk != 8 && (yk != 1 || yn != 0))) ∧ Kp no w w' := by
  by_cases h4 : yk = 4
  · subst h4
    go_enter Tryz.func134, Tryz.ntmps134
    go_wp2
    go_ret
    exact ⟨rfl, by (repeat' (first | with_reducible exact Kp.refl _ _ | with_reducible refine Kp.alloc ?_ _ | with_reducible refine Kp.drewN ?_ _ | with_reducible refine Kp.drew ?_ | with_reducible refine Kp.setCell ?_ _ ?_ | (intro hh; first | rfl | exact .inl rfl | exact .inr rfl | (exfalso; (try dsimp only at hh); omega))))⟩
  by_cases h8 : yk = 8
  · subst h8
    go_enter Tryz.func134, Tryz.ntmps134
    go_wp2
    go_ret
    exact ⟨rfl, by (repeat' (first | with_reducible exact Kp.refl _ _ | with_reducible refine Kp.alloc ?_ _ | with_reducible refine Kp.drewN ?_ _ | with_reducible refine Kp.drew ?_ | with_reducible refine Kp.setCell ?_ _ ?_ | (intro hh; first | rfl | exact .inl rfl | exact .inr rfl | (exfalso; (try dsimp only at hh); omega))))⟩
  have f4 : (yk == 4) = false := by simp [h4]
  have f8 : (yk == 8) = false := by simp [h8]
  by_cases h1 : yk = 1
  · subst h1
    have HV := hide (show ((1 : Int) != 4 && (1 : Int) != 8 && ((1 : Int) != 1 || yn != 0)) = !(yn == 0) by cases h : (yn == 0) <;> simp_all)
    go_enter Tryz.func134, Tryz.ntmps134
    go_wp2
    go_ret
    rw [HV.out]
    exact ⟨by simp [bne], by (repeat' (first | with_reducible exact Kp.refl _ _ | with_reducible refine Kp.alloc ?_ _ | with_reducible refine Kp.drewN ?_ _ | with_reducible refine Kp.drew ?_ | with_reducible refine Kp.setCell ?_ _ ?_ | (intro hh; first | rfl | exact .inl rfl | exact .inr rfl | (exfalso; (try dsimp only at hh); omega))))⟩
  · have f1 : (yk == 1) = false := by simp [h1]
    have HV := hide (show (yk != 4 && yk != 8 && (yk != 1 || yn != 0)) = true by simp [bne, f4, f8, f1])
    go_enter Tryz.func134, Tryz.ntmps134
    go_wp2
    go_ret
    rw [HV.out]
    exact ⟨rfl, by (repeat' (first | with_reducible exact Kp.refl _ _ | with_reducible refine Kp.alloc ?_ _ | with_reducible refine Kp.drewN ?_ _ | with_reducible refine Kp.drew ?_ | with_reducible refine Kp.setCell ?_ _ ?_ | (intro hh; first | rfl | exact .inl rfl | exact .inr rfl | (exfalso; (try dsimp only at hh); omega))))⟩

set_option maxHeartbeats 400000 in
theorem nplainText_c (k : Int) (h : k = 116 ∨ k = 102 ∨ k = 122 ∨ k = 67) (w : World) :
    Calls Tryz.prog 129 #[.int .i64 (bit k)] w fun e w' => e = .returned (.string (capF k)) ∧ w' = w := by
  rcases h with rfl | rfl | rfl | rfl
  all_goals
    simp only [bit, reduceIte, Int.reduceEq]
    go_enter Tryz.func129, Tryz.ntmps129
    go_wp2
    go_ret
    exact ⟨rfl, rfl⟩

set_option maxHeartbeats 800000 in
theorem nvalueText_c (v : Vl) (h : VW v) (w : World) (ht : Tab w) :
    Calls Tryz.prog 88 #[.agg #[.int .i64 (bit v.k), .int .i64 v.n, .int .i64 (bit v.v)]] w fun e w' => e = .returned (.string (spellF v)) ∧ Kp no w w' := by
  obtain ⟨vk, vn, vv⟩ := v
  obtain ⟨hk, h0, h1, hb, hz⟩ := h
  dsimp only at *
  have h1' : vn ≤ 1000 := by omega
  have hsz := itoa_size vn h0 h1'
  have HI := hide (fun W (hW : Tab W) => itoa_c vn h0 h1' W hW)
  rcases hk with rfl | rfl | rfl | rfl | rfl | rfl | rfl
  · have HV : Hid (spellF ⟨110, vn, vv⟩ = itoaB vn) := rfl
    rw [show bit 110 = 1 from rfl]
    generalize bit vv = bv
    go_enter Tryz.func88, Tryz.ntmps88
    go_wp2_with fail
    refine (HI.out _ (ht.kp (by (repeat' (first | with_reducible exact Kp.refl _ _ | with_reducible refine Kp.alloc ?_ _ | with_reducible refine Kp.drewN ?_ _ | with_reducible refine Kp.drew ?_ | with_reducible refine Kp.setCell ?_ _ ?_ | (intro hh; first | rfl | exact .inl rfl | exact .inr rfl | (exfalso; (try dsimp only at hh); omega))))) no_elim)).mono ?_
    rintro e w1 ⟨rfl, k1⟩
    go_wp2
    go_ret
    rw [HV.out]
    exact ⟨rfl, by (repeat' (first | with_reducible exact Kp.refl _ _ | with_reducible refine Kp.alloc ?_ _ | with_reducible refine Kp.drewN ?_ _ | with_reducible refine Kp.drew ?_ | with_reducible refine Kp.setCell ?_ _ ?_ | with_reducible refine Kp.trans ?_ k1 (fun _ _ e => e) | (intro hh; first | rfl | exact .inl rfl | exact .inr rfl | (exfalso; (try dsimp only at hh); omega))))⟩
  · have HV : Hid (spellF ⟨116, vn, vv⟩ = capF 116) := rfl
    have HC := hide (fun W => nplainText_c 116 (by decide) W)
    rw [show bit 116 = 2 from rfl] at *
    clear hz hb HI
    generalize capF 116 = cv at *
    generalize bit vv = bv
    go_enter Tryz.func88, Tryz.ntmps88
    go_wp2_with fail
    refine (HC.out _).mono ?_
    rintro e w1 ⟨rfl, rfl⟩
    go_wp2
    go_ret
    rw [HV.out]
    exact ⟨rfl, by (repeat' (first | with_reducible exact Kp.refl _ _ | with_reducible refine Kp.alloc ?_ _ | with_reducible refine Kp.drewN ?_ _ | with_reducible refine Kp.drew ?_ | with_reducible refine Kp.setCell ?_ _ ?_ | (intro hh; first | rfl | exact .inl rfl | exact .inr rfl | (exfalso; (try dsimp only at hh); omega))))⟩
  · have HV : Hid (spellF ⟨102, vn, vv⟩ = capF 102) := rfl
    have HC := hide (fun W => nplainText_c 102 (by decide) W)
    rw [show bit 102 = 4 from rfl] at *
    clear hz hb HI
    generalize capF 102 = cv at *
    generalize bit vv = bv
    go_enter Tryz.func88, Tryz.ntmps88
    go_wp2_with fail
    refine (HC.out _).mono ?_
    rintro e w1 ⟨rfl, rfl⟩
    go_wp2
    go_ret
    rw [HV.out]
    exact ⟨rfl, by (repeat' (first | with_reducible exact Kp.refl _ _ | with_reducible refine Kp.alloc ?_ _ | with_reducible refine Kp.drewN ?_ _ | with_reducible refine Kp.drew ?_ | with_reducible refine Kp.setCell ?_ _ ?_ | (intro hh; first | rfl | exact .inl rfl | exact .inr rfl | (exfalso; (try dsimp only at hh); omega))))⟩
  · have HV : Hid (spellF ⟨122, vn, vv⟩ = capF 122) := rfl
    have HC := hide (fun W => nplainText_c 122 (by decide) W)
    rw [show bit 122 = 8 from rfl] at *
    clear hz hb HI
    generalize capF 122 = cv at *
    generalize bit vv = bv
    go_enter Tryz.func88, Tryz.ntmps88
    go_wp2_with fail
    refine (HC.out _).mono ?_
    rintro e w1 ⟨rfl, rfl⟩
    go_wp2
    go_ret
    rw [HV.out]
    exact ⟨rfl, by (repeat' (first | with_reducible exact Kp.refl _ _ | with_reducible refine Kp.alloc ?_ _ | with_reducible refine Kp.drewN ?_ _ | with_reducible refine Kp.drew ?_ | with_reducible refine Kp.setCell ?_ _ ?_ | (intro hh; first | rfl | exact .inl rfl | exact .inr rfl | (exfalso; (try dsimp only at hh); omega))))⟩
  · have HV : Hid (spellF ⟨65, vn, vv⟩ = ⟨#[65]⟩ ++ itoaB vn) := rfl
    rw [show bit 65 = 16 from rfl]
    generalize bit vv = bv
    go_enter Tryz.func88, Tryz.ntmps88
    go_wp2_with fail
    refine (HI.out _ (ht.kp (by (repeat' (first | with_reducible exact Kp.refl _ _ | with_reducible refine Kp.alloc ?_ _ | with_reducible refine Kp.drewN ?_ _ | with_reducible refine Kp.drew ?_ | with_reducible refine Kp.setCell ?_ _ ?_ | (intro hh; first | rfl | exact .inl rfl | exact .inr rfl | (exfalso; (try dsimp only at hh); omega))))) no_elim)).mono ?_
    rintro e w1 ⟨rfl, k1⟩
    generalize itoaB vn = ib at *
    go_wp2
    go_ret
    rw [HV.out]
    exact ⟨rfl, by (repeat' (first | with_reducible exact Kp.refl _ _ | with_reducible refine Kp.alloc ?_ _ | with_reducible refine Kp.drewN ?_ _ | with_reducible refine Kp.drew ?_ | with_reducible refine Kp.setCell ?_ _ ?_ | with_reducible refine Kp.trans ?_ k1 (fun _ _ e => e) | (intro hh; first | rfl | exact .inl rfl | exact .inr rfl | (exfalso; (try dsimp only at hh); omega))))⟩
  · have HV : Hid (spellF ⟨66, vn, vv⟩ = ⟨#[66]⟩ ++ capF vv) := rfl
    have HC := hide (fun W => nplainText_c vv (by have := hb rfl; omega) W)
    have hcs := capF_size vv
    rw [show bit 66 = 32 from rfl]
    clear hz hb HI
    generalize bit vv = bv at *
    generalize capF vv = cv at *
    go_enter Tryz.func88, Tryz.ntmps88
    go_wp2_with fail
    refine (HC.out _).mono ?_
    rintro e w1 ⟨rfl, rfl⟩
    go_wp2
    go_ret
    rw [HV.out]
    exact ⟨rfl, by (repeat' (first | with_reducible exact Kp.refl _ _ | with_reducible refine Kp.alloc ?_ _ | with_reducible refine Kp.drewN ?_ _ | with_reducible refine Kp.drew ?_ | with_reducible refine Kp.setCell ?_ _ ?_ | (intro hh; first | rfl | exact .inl rfl | exact .inr rfl | (exfalso; (try dsimp only at hh); omega))))⟩
  · have HV : Hid (spellF ⟨67, vn, vv⟩ = capF 67) := rfl
    have HC := hide (fun W => nplainText_c 67 (by decide) W)
    rw [show bit 67 = 64 from rfl] at *
    clear hz hb HI
    generalize capF 67 = cv at *
    generalize bit vv = bv
    go_enter Tryz.func88, Tryz.ntmps88
    go_wp2_with fail
    refine (HC.out _).mono ?_
    rintro e w1 ⟨rfl, rfl⟩
    go_wp2
    go_ret
    rw [HV.out]
    exact ⟨rfl, by (repeat' (first | with_reducible exact Kp.refl _ _ | with_reducible refine Kp.alloc ?_ _ | with_reducible refine Kp.drewN ?_ _ | with_reducible refine Kp.drew ?_ | with_reducible refine Kp.setCell ?_ _ ?_ | (intro hh; first | rfl | exact .inl rfl | exact .inr rfl | (exfalso; (try dsimp only at hh); omega))))⟩

end Go.Proofs.YtellieabhaphhabGreatDoor
