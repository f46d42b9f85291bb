import Derived.Test.YtellieabhaphhaaGreatDoorPSoundL
/-
  narrow's maker: the walk of statements.
-/
namespace Go.Proofs.YtellieabhaphhaaGreatDoor
open Go.RowKit

theorem pkb_bad {s : ByteArray} {m : MS} (h : m.p.2 = true) : pkb s m.p = 0 := by simp [pkb, h]

set_option maxHeartbeats 3200000 in
theorem statements_m {f : Nat} (ih : ∀ k, k < f → StmSaid k) : StmSaid f := by
  intro r s h b m hs hf hI w O hM
  have IH := hide ih
  clear ih
  go_enter Tryz.func53, Tryz.ntmps53
  go_wp2
  go_loopg [] f (fun k wr => ∃ m' O', Mp wr r s m' O' ∧ Th O w O' wr ∧ MI s m' ∧ (m'.p.2 = false → s.size - m'.p.1 < k) ∧ k ≤ f ∧ stmM f s h b m = stmM k s h b m')
  case atStart => exact ⟨m, O, hM, Th.refl O w, hI, hf, Nat.le_refl _, rfl⟩
  case round =>
    obtain ⟨m', O', h', T', hI', hk, hkf, hE⟩ := hrel
    have HE := hide hE
    have HI' := hide hI'
    have HT := hide T'
    have HK := hide hk
    have HKF := hide hkf
    have HP := hide (mpeek_w h' (by omega) hI'.i)
    obtain ⟨c0, c1, c2, cf⟩ := h'.c
    clear hE hI' T' hk hkf hI hf hM
    cases hb' : m'.p.2
    · rw [hb'] at c2
      by_cases hstop : pkb s m'.p = 125 ∨ pkb s m'.p = 0
      · have HS := hide (stmM_stop gk s h b m' hstop)
        generalize pkb s m'.p = d at *
        rcases hstop with rfl | rfl
        all_goals
          go_wp2_with fail
          refine HP.out.mono ?_
          rintro x w2 ⟨rfl, nq, rfl⟩
          go_wp2
          refine bodyPost_ret (results_none rfl _ _ _) rfl ?_
          rw [HE.out, HS.out]
          exact ⟨rfl, O', h'.n _, HT.out.n _⟩
      · have hk0 := HK.out hb'
        obtain ⟨k, rfl⟩ : ∃ k, gk = k + 1 := ⟨gk - 1, by omega⟩
        have HR := hide (show stmM (k + 1) s h b m' = stmM k s h b (stM k (stmM k s) s h b m') by rw [stmM, if_pos (by omega)])
        have HG := hide (stM_mg (h := h) (b := b) (stmM_mg k s) (fun e => hstop (.inr e)) hk0)
        have hIH := IH.out k (by have := HKF.out; omega)
        by_cases h1 : pkb s m'.p = 40
        · have HX := hide (show MStep r s 93 #[.pointer (some ⟨r, 0, none⟩), .int .i64 h, .int .i64 b] (.tuple #[]) m' (stM k (stmM k s) s h b m') by rw [stM, if_pos h1]; exact cho_step hIH hs h1 hk0 HI'.out)
          rw [h1] at HP
          generalize stM k (stmM k s) s h b m' = m2 at *
          clear h1 hstop hIH
          go_wp2_with fail
          refine HP.out.mono ?_
          rintro x w2 ⟨rfl, nq, rfl⟩
          go_wp2_with fail
          refine (HX.out _ _ (h'.n nq)).mono ?_
          rintro x w3 ⟨rfl, O3, h3, t3⟩
          go_wp2
          go_roundg k
          case measure => omega
          case rel => exact ⟨m2, O3, h3, (HT.out.n nq).trans t3, HI'.out.mg HG.out.1, fun hb2 => by have := HG.out.2 hb2; have := HG.out.1.i; omega, by have := HKF.out; omega, by rw [HE.out, HR.out]⟩
        by_cases h2 : pkb s m'.p = 91
        · have HX := hide (show MStep r s 94 #[.pointer (some ⟨r, 0, none⟩)] (.tuple #[]) m' (stM k (stmM k s) s h b m') by rw [stM, if_neg h1, if_pos h2]; exact lop_step hIH hs h2 hk0 HI'.out)
          rw [h2] at HP
          generalize stM k (stmM k s) s h b m' = m2 at *
          clear h1 h2 hstop hIH
          go_wp2_with fail
          refine HP.out.mono ?_
          rintro x w2 ⟨rfl, nq, rfl⟩
          go_wp2_with fail
          refine (HX.out _ _ (h'.n nq)).mono ?_
          rintro x w3 ⟨rfl, O3, h3, t3⟩
          go_wp2
          go_roundg k
          case measure => omega
          case rel => exact ⟨m2, O3, h3, (HT.out.n nq).trans t3, HI'.out.mg HG.out.1, fun hb2 => by have := HG.out.2 hb2; have := HG.out.1.i; omega, by have := HKF.out; omega, by rw [HE.out, HR.out]⟩
        by_cases h3 : pkb s m'.p = 62
        · have HX := hide (show MStep r s 95 #[.pointer (some ⟨r, 0, none⟩), .string ⟨#[62, 59]⟩, .int .i64 b] (.tuple #[]) m' (stM k (stmM k s) s h b m') by rw [stM, if_neg h1, if_neg h2, if_pos h3]; exact lep_step ⟨#[62, 59]⟩ b hs (by decide) (by decide) HI'.out)
          rw [h3] at HP
          generalize stM k (stmM k s) s h b m' = m2 at *
          clear h1 h2 h3 hstop hIH
          go_wp2_with fail
          refine HP.out.mono ?_
          rintro x w2 ⟨rfl, nq, rfl⟩
          go_wp2_with fail
          refine (HX.out _ _ (h'.n nq)).mono ?_
          rintro x w3 ⟨rfl, O3, h3, t3⟩
          go_wp2
          go_roundg k
          case measure => omega
          case rel => exact ⟨m2, O3, h3, (HT.out.n nq).trans t3, HI'.out.mg HG.out.1, fun hb2 => by have := HG.out.2 hb2; have := HG.out.1.i; omega, by have := HKF.out; omega, by rw [HE.out, HR.out]⟩
        by_cases h4 : pkb s m'.p = 60
        · have HX := hide (show MStep r s 95 #[.pointer (some ⟨r, 0, none⟩), .string ⟨#[60, 59]⟩, .int .i64 h] (.tuple #[]) m' (stM k (stmM k s) s h b m') by rw [stM, if_neg h1, if_neg h2, if_neg h3, if_pos h4]; exact lep_step ⟨#[60, 59]⟩ h hs (by decide) (by decide) HI'.out)
          rw [h4] at HP
          generalize stM k (stmM k s) s h b m' = m2 at *
          clear h1 h2 h3 h4 hstop hIH
          go_wp2_with fail
          refine HP.out.mono ?_
          rintro x w2 ⟨rfl, nq, rfl⟩
          go_wp2_with fail
          refine (HX.out _ _ (h'.n nq)).mono ?_
          rintro x w3 ⟨rfl, O3, h3, t3⟩
          go_wp2
          go_roundg k
          case measure => omega
          case rel => exact ⟨m2, O3, h3, (HT.out.n nq).trans t3, HI'.out.mg HG.out.1, fun hb2 => by have := HG.out.2 hb2; have := HG.out.1.i; omega, by have := HKF.out; omega, by rw [HE.out, HR.out]⟩
        · have hbc := bc_le m'.p
          have HX := hide (show MStep r s 96 #[.pointer (some ⟨r, 0, none⟩)] (.tuple #[]) m' (stM k (stmM k s) s h b m') by rw [stM, if_neg h1, if_neg h2, if_neg h3, if_neg h4]; exact act_step (by omega) HI'.out (fun e => hstop (.inr e)))
          have f1 : ((pkb s m'.p : Int) == 40) = false := by simp; omega
          have f2 : ((pkb s m'.p : Int) == 91) = false := by simp; omega
          have f3 : ((pkb s m'.p : Int) == 62) = false := by simp; omega
          have f4 : ((pkb s m'.p : Int) == 60) = false := by simp; omega
          have f5 : ((pkb s m'.p : Int) == 125) = false := by simp; omega
          have f6 : ((pkb s m'.p : Int) == 0) = false := by simp; omega
          generalize stM k (stmM k s) s h b m' = m2 at *
          generalize pkb s m'.p = d at *
          clear h1 h2 h3 h4 hstop hIH hbc
          go_wp2_with fail
          refine HP.out.mono ?_
          rintro x w2 ⟨rfl, nq, rfl⟩
          go_wp2_with fail
          refine (HX.out _ _ (h'.n nq)).mono ?_
          rintro x w3 ⟨rfl, O3, h3, t3⟩
          go_wp2
          go_roundg k
          case measure => omega
          case rel => exact ⟨m2, O3, h3, (HT.out.n nq).trans t3, HI'.out.mg HG.out.1, fun hb2 => by have := HG.out.2 hb2; have := HG.out.1.i; omega, by have := HKF.out; omega, by rw [HE.out, HR.out]⟩
    · rw [hb'] at c2
      have HS := hide (stmM_stop gk s h b m' (.inr (pkb_bad hb')))
      generalize pkb s m'.p = d at *
      go_wp2
      go_end0
      rw [HE.out, HS.out]
      exact ⟨rfl, O', h', HT.out⟩

theorem stm_all : ∀ f, StmSaid f := by
  intro f
  induction f using Nat.strongRecOn with
  | _ f ih => exact statements_m ih
end Go.Proofs.YtellieabhaphhaaGreatDoor

/-
  narrow's maker: places, and the nodes ahead of them.
-/
namespace Go.Proofs.YtellieabhaphhaaGreatDoor
open Go.RowKit

def plcM (m : MS) (k : Int) : Nat := if k < 0 ∨ (m.marks.length : Int) ≤ k then m.row.length else m.marks.getD k.toNat 0

/-- How many nodes of the first j stand ahead of the place p. -/
def ahdA (row : List NN) (p : Nat) : Nat → Nat
  | 0 => 0
  | j + 1 => ahdA row p j + (match row[j]? with | some n => if j < p ∧ n.act ≠ 15 then 1 else 0 | none => 0)

def ahdM (row : List NN) (p : Nat) : Nat := ahdA row p row.length

def hopM (m : MS) : Nat → Nat → Nat
  | 0, p => p
  | f + 1, p => match m.row[p]? with | none => p | some n => if n.act = 15 then hopM m f (plcM m n.yes) else p

def nbhM (m : MS) (k : Int) : Nat := ahdM m.row (hopM m m.row.length (plcM m k))

def nodA (m : MS) : Nat → List NN
  | 0 => []
  | j + 1 => nodA m j ++ (match m.row[j]? with | some n => if n.act = 15 then [] else [n.setW (nbhM m n.yes) (nbhM m n.no)] | none => [])

/-- The nodes of the row. -/
def nodM (m : MS) : List NN := nodA m m.row.length

theorem ahdA_le (row : List NN) (p : Nat) : ∀ j, ahdA row p j ≤ j
  | 0 => Nat.le_refl _
  | j + 1 => by
    have := ahdA_le row p j
    rw [ahdA]
    have h2 : (match row[j]? with | some n => if j < p ∧ n.act ≠ 15 then 1 else 0 | none => 0) ≤ 1 := by
      split
      · split <;> decide
      · decide
    omega

theorem nodA_le (m : MS) : ∀ j, (nodA m j).length ≤ j
  | 0 => Nat.le_refl _
  | j + 1 => by
    have := nodA_le m j
    rw [nodA, List.length_append]
    have h2 : (match m.row[j]? with | some n => if n.act = 15 then [] else [n.setW (nbhM m n.yes) (nbhM m n.no)] | none => ([] : List NN)).length ≤ 1 := by
      split
      · split <;> simp
      · simp
    omega

theorem MRow.shape {w : World} {v : Value} {l : List Nat} (h : MRow w v l) : ∃ a cap, v = .slice a l.length cap := by
  rcases h.2 with ⟨rfl, h0⟩ | ⟨g, cap, cur, rfl, _⟩
  · exact ⟨none, 0, by rw [h0]⟩
  · exact ⟨_, _, rfl⟩

/-- The maker, opened: its block and its rows, read alone. -/
structure Mo (w : World) (r : Nat) (s : ByteArray) (m : MS) (nv iv : Value) : Prop where
  b : Blk w r [.string s, .int .i64 m.p.1, .bool m.p.2, nv, iv] 84
  n : NRow w nv m.row
  i : MRow w iv m.marks

theorem Mo.kp {w w' : World} {r : Nat} {s : ByteArray} {m : MS} {nv iv : Value} (h : Mo w r s m nv iv) (k : Kp no w w') : Mo w' r s m nv iv :=
  ⟨k.blk h.b no_elim, k.row h.n (fun _ _ => no_elim), k.row h.i (fun _ _ => no_elim)⟩

set_option maxHeartbeats 800000 in
theorem placeOf_c {r : Nat} {s : ByteArray} {m : MS} {nv iv : Value} (k : Int) (w : World) (h : Mo w r s m nv iv) :
    Calls Tryz.prog 139 #[.pointer (some ⟨r, 0, none⟩), .int .i64 k] w fun e w' => e = .returned (.int .i64 (plcM m k)) ∧ Kp no w w' := by
  have hr := h.b.lt
  have q3 := h.b.cell 3
  have q4 := h.b.cell 4
  simp only [List.getElem?_cons_zero, List.getElem?_cons_succ] at q3 q4
  have qf := h.b.frozen
  obtain ⟨a, cap, rfl⟩ := h.n.shape
  by_cases h0 : k < 0
  · have HV := hide (show plcM m k = m.row.length by rw [plcM, if_pos (.inl h0)])
    obtain ⟨a2, cap2, rfl⟩ := h.i.shape
    clear h
    go_enter Tryz.func139, Tryz.ntmps139
    go_wp2
    go_ret
    rw [HV.out]
    exact ⟨rfl, by (repeat' (first | with_reducible exact Kp.refl _ _ | with_reducible refine Kp.alloc ?_ _ | with_reducible refine Kp.drewN ?_ _ | with_reducible refine Kp.drew ?_ | with_reducible refine Kp.setCell ?_ _ ?_ | (intro hh; first | rfl | exact .inl rfl | exact .inr rfl | (exfalso; (try dsimp only at hh); omega))))⟩
  by_cases h1 : (m.marks.length : Int) ≤ k
  · have HV := hide (show plcM m k = m.row.length by rw [plcM, if_pos (.inr h1)])
    obtain ⟨a2, cap2, rfl⟩ := h.i.shape
    clear h
    go_enter Tryz.func139, Tryz.ntmps139
    go_wp2
    go_ret
    rw [HV.out]
    exact ⟨rfl, by (repeat' (first | with_reducible exact Kp.refl _ _ | with_reducible refine Kp.alloc ?_ _ | with_reducible refine Kp.drewN ?_ _ | with_reducible refine Kp.drew ?_ | with_reducible refine Kp.setCell ?_ _ ?_ | (intro hh; first | rfl | exact .inl rfl | exact .inr rfl | (exfalso; (try dsimp only at hh); omega))))⟩
  · obtain ⟨k, rfl⟩ := Int.eq_ofNat_of_zero_le (Int.not_lt.1 h0)
    have hk : k < m.marks.length := by omega
    obtain ⟨g, cap2, rfl, _, hg⟩ := World.ownsRow.form h.i (by omega)
    have HV := hide (show plcM m k = m.marks[k] by rw [plcM, if_neg (by omega), Int.toNat_natCast, List.getD_eq_getElem?_getD, List.getElem?_eq_getElem hk]; rfl)
    have ck : w.cell? ⟨g, k, none⟩ = some (.int .i64 m.marks[k]) := by
      have := Row.cell h.i k (by omega)
      rw [this, mCells, List.getElem?_map, List.getElem?_eq_getElem hk]; rfl
    have cf := Row.frozen h.i
    clear h
    generalize m.marks[k] = mk at *
    go_enter Tryz.func139, Tryz.ntmps139
    go_wp2
    go_ret
    rw [HV.out]
    exact ⟨rfl, by (repeat' (first | with_reducible exact Kp.refl _ _ | with_reducible refine Kp.alloc ?_ _ | with_reducible refine Kp.drewN ?_ _ | with_reducible refine Kp.drew ?_ | with_reducible refine Kp.setCell ?_ _ ?_ | (intro hh; first | rfl | exact .inl rfl | exact .inr rfl | (exfalso; (try dsimp only at hh); omega))))⟩
end Go.Proofs.YtellieabhaphhaaGreatDoor

/-
  narrow's nodes: a row that grows.
-/
namespace Go.Proofs.YtellieabhaphhaaGreatDoor
open Go.RowKit

/-- The nodes that are left so far. -/
structure KN (w0 w : World) (v : Value) (l : List NN) : Prop where
  r : NRow w v l
  o : New w0 v

theorem KN.kp {w0 w w' : World} {v : Value} {l : List NN} (h : KN w0 w v l) (k : Kp no w w') : KN w0 w' v l := ⟨k.row h.r (fun _ _ => no_elim), h.o⟩
theorem KN.set {w0 w : World} {v : Value} {l : List NN} (h : KN w0 w v l) {b o : Nat} (u : Value) (hb : v.ownBlock ≠ some b) : KN w0 (w.setCell ⟨b, o, none⟩ u) v l := ⟨Row.set h.r _ hb, h.o⟩

theorem nncells_snoc {l : List NN} {n : NN} : nnCells (l ++ [n]) = nnCells l ++ n.cells := by
  rw [nnCells, List.flatMap_append, ← nnCells, List.flatMap_cons, List.flatMap_nil, List.append_nil]

theorem nrow_snoc {W' : World} {l : List NN} {n : NN} {g cap : Nat}
    (hown : W'.ownsRow 0 91 11 (.slice (some ⟨g, 0, none⟩) (l.length + 1) cap) (l.length + 1) (nnCells l ++ n.cells)) : NRow W' (.slice (some ⟨g, 0, none⟩) (l.length + 1) cap) (l ++ [n]) := by
  have e4 : (l ++ [n]).length = l.length + 1 := List.length_append
  show World.ownsRow W' 0 91 11 _ (l ++ [n]).length (nnCells (l ++ [n]))
  rw [nncells_snoc, e4]
  exact hown

theorem KN.app {w0 W W' : World} {v : Value} {l : List NN} {o : Obj} {g cap : Nat} (n : NN) (h : KN w0 W v l) (hk : Kp no w0 W)
    (hown : W'.ownsRow 0 91 11 (.slice (some ⟨g, 0, none⟩) (l.length + 1) cap) (l.length + 1) (nnCells l ++ n.cells)) (hgrow : (W.alloc o).grownBy W' v.ownBlock) (hat : v.ownBlock = some g ∨ g = (W.alloc o).heap.size) :
    KN w0 W' (.slice (some ⟨g, 0, none⟩) (l.length + 1) cap) (l ++ [n]) ∧ Kp no w0 W' :=
  ⟨⟨nrow_snoc hown, (app_step h.o hk hgrow hat (l.length + 1) cap).1⟩, (app_step h.o hk hgrow hat (l.length + 1) cap).2⟩

end Go.Proofs.YtellieabhaphhaaGreatDoor

/-
  narrow's maker: the nodes of its row.
-/
namespace Go.Proofs.YtellieabhaphhaaGreatDoor
open Go.RowKit

set_option maxHeartbeats 1600000 in
theorem nodesAhead_c {r : Nat} {s : ByteArray} {m : MS} {nv iv : Value} (p : Nat) (w : World) (h : Mo w r s m nv iv) (hl : m.row.length ≤ 2000) :
    Calls Tryz.prog 140 #[.pointer (some ⟨r, 0, none⟩), .int .i64 p] w fun e w' => e = .returned (.int .i64 (ahdM m.row p)) ∧ Kp no w w' := by
  have hr := h.b.lt
  have q3 := h.b.cell 3
  simp only [List.getElem?_cons_zero, List.getElem?_cons_succ] at q3
  have qf := h.b.frozen
  obtain ⟨a, cap, rfl⟩ := h.n.shape
  have HN := hide h.n
  have HF : Hid (ahdM m.row p = ahdA m.row p m.row.length) := rfl
  clear h
  generalize m.row = row at *
  go_enter Tryz.func140, Tryz.ntmps140
  go_wp2
  go_loopg [5, 13] row.length (fun k cv jv wr => ∃ j : Nat, j ≤ row.length ∧ k = row.length - j ∧ jv = .int .i64 j ∧ cv = .int .i64 (ahdA row p j) ∧ Kp no w wr)
  case atStart => exact ⟨0, Nat.zero_le _, rfl, rfl, rfl, Kp.refl _ _⟩
  case round =>
    obtain ⟨j, hj, hk, rfl, rfl, kr⟩ := hrel
    have HK := hide kr
    have HKK := hide hk
    clear kr hk
    by_cases hlt : j < row.length
    · obtain ⟨_, g, rfl, hg, q0, q1, q2, q3, q4, q5, q6, q7, q8, q9, q10⟩ := NRow.at (HK.out.row HN.out (fun _ _ => no_elim)) (List.getElem?_eq_getElem hlt)
      have HS := hide (show ahdA row p (j + 1) = ahdA row p j + (if j < p ∧ row[j].act ≠ 15 then 1 else 0) by rw [ahdA, List.getElem?_eq_getElem hlt])
      have hc := ahdA_le row p j
      clear HN HF
      generalize ahdA row p j = c at *
      generalize row[j] = n at *
      obtain ⟨tx, act, nx, ny, nw, ck, cn, ch, kd, yes, nno⟩ := n
      dsimp only at *
      have hqI : (j : Int) < row.length := by omega
      by_cases b1 : j < p
      · have b1' : (j : Int) < (p : Int) := by omega
        by_cases b2 : act = 15
        · subst b2
          rw [if_neg (fun e => e.2 rfl)] at HS
          clear b1
          go_wp2
          go_roundg (row.length - (j + 1))
          case measure => have := HKK.out; omega
          case rel => exact ⟨j + 1, by omega, rfl, by go_num, by rw [HS.out]; rfl, by have k1 := HK.out; (repeat' (first | with_reducible exact Kp.refl _ _ | with_reducible refine Kp.alloc ?_ _ | with_reducible refine Kp.drewN ?_ _ | with_reducible refine Kp.drew ?_ | with_reducible refine Kp.setCell ?_ _ ?_ | with_reducible refine Kp.trans ?_ k1 (fun _ _ e => e) | (intro hh; first | rfl | exact .inl rfl | exact .inr rfl | (exfalso; (try dsimp only at hh); omega))))⟩
        · have b2' : ((act : Int) != 15) = true := by simp [b2]
          rw [if_pos ⟨b1, b2⟩] at HS
          clear b1 b2
          go_wp2
          go_roundg (row.length - (j + 1))
          case measure => have := HKK.out; omega
          case rel => exact ⟨j + 1, by omega, rfl, by go_num, by rw [HS.out]; go_num, by have k1 := HK.out; (repeat' (first | with_reducible exact Kp.refl _ _ | with_reducible refine Kp.alloc ?_ _ | with_reducible refine Kp.drewN ?_ _ | with_reducible refine Kp.drew ?_ | with_reducible refine Kp.setCell ?_ _ ?_ | with_reducible refine Kp.trans ?_ k1 (fun _ _ e => e) | (intro hh; first | rfl | exact .inl rfl | exact .inr rfl | (exfalso; (try dsimp only at hh); omega))))⟩
      · have b1' : (p : Int) ≤ (j : Int) := by omega
        rw [if_neg (fun e => b1 e.1)] at HS
        go_wp2
        go_roundg (row.length - (j + 1))
        case measure => have := HKK.out; omega
        case rel => exact ⟨j + 1, by omega, rfl, by go_num, by rw [HS.out]; rfl, by have k1 := HK.out; (repeat' (first | with_reducible exact Kp.refl _ _ | with_reducible refine Kp.alloc ?_ _ | with_reducible refine Kp.drewN ?_ _ | with_reducible refine Kp.drew ?_ | with_reducible refine Kp.setCell ?_ _ ?_ | with_reducible refine Kp.trans ?_ k1 (fun _ _ e => e) | (intro hh; first | rfl | exact .inl rfl | exact .inr rfl | (exfalso; (try dsimp only at hh); omega))))⟩
    · obtain rfl : j = row.length := by omega
      go_wp2
      go_ret
      rw [HF.out]
      exact ⟨rfl, HK.out⟩

theorem hopM_none {m : MS} {f p : Nat} (h : ¬ p < m.row.length) : hopM m f p = p := by
  cases f with
  | zero => rfl
  | succ f => rw [hopM, List.getElem?_eq_none (by omega)]
theorem hopM_node {m : MS} {f p : Nat} (h : p < m.row.length) (ha : m.row[p].act ≠ 15) : hopM m f p = p := by
  cases f with
  | zero => rfl
  | succ f => rw [hopM, List.getElem?_eq_getElem h]; simp [ha]
theorem hopM_jump {m : MS} {f p : Nat} (h : p < m.row.length) (ha : m.row[p].act = 15) : hopM m (f + 1) p = hopM m f (plcM m m.row[p].yes) := by
  rw [hopM, List.getElem?_eq_getElem h]; simp [ha]

set_option maxHeartbeats 1600000 in
theorem nodeBehind_c {r : Nat} {s : ByteArray} {m : MS} {nv iv : Value} (k0 : Int) (w : World) (h : Mo w r s m nv iv) (hl : m.row.length ≤ 2000) :
    Calls Tryz.prog 97 #[.pointer (some ⟨r, 0, none⟩), .int .i64 k0] w fun e w' => e = .returned (.int .i64 (nbhM m k0)) ∧ Kp no w w' := by
  have HP := hide (fun k W (hW : Mo W r s m nv iv) => placeOf_c k W hW)
  have HA := hide (fun p W (hW : Mo W r s m nv iv) => nodesAhead_c p W hW hl)
  have HM := hide h
  have HF : Hid (nbhM m k0 = ahdM m.row (hopM m m.row.length (plcM m k0))) := rfl
  obtain ⟨a, cap, rfl⟩ := h.n.shape
  clear h
  go_enter Tryz.func97, Tryz.ntmps97
  go_wp2_with fail
  refine (HP.out k0 _ HM.out).mono ?_
  rintro e w1 ⟨rfl, k1⟩
  generalize plcM m k0 = p0 at *
  go_wp2
  go_loopg [5, 6] m.row.length (fun k pv hv wr => ∃ p j : Nat, j ≤ m.row.length ∧ k = m.row.length - j ∧ hv = .int .i64 j ∧ pv = .int .i64 p ∧ Kp no w wr ∧ hopM m m.row.length p0 = hopM m (m.row.length - j) p)
  case atStart => exact ⟨p0, 0, Nat.zero_le _, rfl, rfl, rfl, k1, rfl⟩
  case round =>
    obtain ⟨p, j, hj, hk, rfl, rfl, kr, hE⟩ := hrel
    have HK := hide kr
    have HKK := hide hk
    have HE := hide hE
    have HMr := hide (HM.out.kp kr)
    have hr := HMr.out.b.lt
    have q3 := HMr.out.b.cell 3
    simp only [List.getElem?_cons_zero, List.getElem?_cons_succ] at q3
    have qf := HMr.out.b.frozen
    clear kr hk hE k1 HM
    by_cases hlt : j < m.row.length
    · by_cases hp : p < m.row.length
      · have hp' : (p : Int) < m.row.length := by omega
        obtain ⟨_, g, rfl, hg, c0, c1, c2, c3, c4, c5, c6, c7, c8, c9, c10⟩ := NRow.at HMr.out.n (List.getElem?_eq_getElem hp)
        have cf := Row.frozen HMr.out.n
        have HNO := hide (fun e : m.row[p].act ≠ 15 => hopM_node (f := m.row.length - j) hp e)
        have HJ := hide (fun e : m.row[p].act = 15 => show hopM m (m.row.length - j) p = hopM m (m.row.length - (j + 1)) (plcM m m.row[p].yes) by
          rw [show m.row.length - j = m.row.length - (j + 1) + 1 by omega]; exact hopM_jump hp e)
        generalize m.row[p] = n at *
        obtain ⟨tx, act, nx, ny, nw, ck, cn, ch, kd, yes, nno⟩ := n
        dsimp only at *
        by_cases b : act = 15
        · subst b
          have HJ' := hide (HJ.out rfl)
          clear HJ HNO
          go_wp2_with fail
          refine (HP.out yes _ (HMr.out.kp (by (repeat' (first | with_reducible exact Kp.refl _ _ | with_reducible refine Kp.alloc ?_ _ | with_reducible refine Kp.drewN ?_ _ | with_reducible refine Kp.drew ?_ | with_reducible refine Kp.setCell ?_ _ ?_ | (intro hh; first | rfl | exact .inl rfl | exact .inr rfl | (exfalso; (try dsimp only at hh); omega))))))).mono ?_
          rintro e w2 ⟨rfl, k2⟩
          go_wp2
          go_roundg (m.row.length - (j + 1))
          case measure => have := HKK.out; omega
          case rel => exact ⟨plcM m yes, j + 1, by omega, rfl, by go_num, rfl, by have k1 := HK.out; (repeat' (first | with_reducible exact Kp.refl _ _ | with_reducible refine Kp.alloc ?_ _ | with_reducible refine Kp.drewN ?_ _ | with_reducible refine Kp.drew ?_ | with_reducible refine Kp.setCell ?_ _ ?_ | with_reducible refine Kp.trans ?_ k1 (fun _ _ e => e) | with_reducible refine Kp.trans ?_ k2 (fun _ _ e => e) | (intro hh; first | rfl | exact .inl rfl | exact .inr rfl | (exfalso; (try dsimp only at hh); omega)))), by rw [HE.out, HJ'.out]⟩
        · have b' : ((act : Int) != 15) = true := by simp [b]
          have HN' := hide (HNO.out b)
          clear HJ HNO b
          go_wp2_with fail
          refine (HA.out p _ (HMr.out.kp (by (repeat' (first | with_reducible exact Kp.refl _ _ | with_reducible refine Kp.alloc ?_ _ | with_reducible refine Kp.drewN ?_ _ | with_reducible refine Kp.drew ?_ | with_reducible refine Kp.setCell ?_ _ ?_ | (intro hh; first | rfl | exact .inl rfl | exact .inr rfl | (exfalso; (try dsimp only at hh); omega))))))).mono ?_
          rintro e w2 ⟨rfl, k2⟩
          go_wp2
          go_ret
          rw [HF.out, HE.out, HN'.out]
          exact ⟨rfl, by have k1 := HK.out; (repeat' (first | with_reducible exact Kp.refl _ _ | with_reducible refine Kp.alloc ?_ _ | with_reducible refine Kp.drewN ?_ _ | with_reducible refine Kp.drew ?_ | with_reducible refine Kp.setCell ?_ _ ?_ | with_reducible refine Kp.trans ?_ k1 (fun _ _ e => e) | with_reducible refine Kp.trans ?_ k2 (fun _ _ e => e) | (intro hh; first | rfl | exact .inl rfl | exact .inr rfl | (exfalso; (try dsimp only at hh); omega))))⟩
      · have HN' := hide (hopM_none (f := m.row.length - j) hp)
        have hp' : (m.row.length : Int) ≤ p := by omega
        clear hp
        go_wp2_with fail
        refine (HA.out p _ (HMr.out.kp (by (repeat' (first | with_reducible exact Kp.refl _ _ | with_reducible refine Kp.alloc ?_ _ | with_reducible refine Kp.drewN ?_ _ | with_reducible refine Kp.drew ?_ | with_reducible refine Kp.setCell ?_ _ ?_ | (intro hh; first | rfl | exact .inl rfl | exact .inr rfl | (exfalso; (try dsimp only at hh); omega))))))).mono ?_
        rintro e w2 ⟨rfl, k2⟩
        go_wp2
        go_ret
        rw [HF.out, HE.out, HN'.out]
        exact ⟨rfl, by have k1 := HK.out; (repeat' (first | with_reducible exact Kp.refl _ _ | with_reducible refine Kp.alloc ?_ _ | with_reducible refine Kp.drewN ?_ _ | with_reducible refine Kp.drew ?_ | with_reducible refine Kp.setCell ?_ _ ?_ | with_reducible refine Kp.trans ?_ k1 (fun _ _ e => e) | with_reducible refine Kp.trans ?_ k2 (fun _ _ e => e) | (intro hh; first | rfl | exact .inl rfl | exact .inr rfl | (exfalso; (try dsimp only at hh); omega))))⟩
    · obtain rfl : j = m.row.length := by omega
      have HN' := hide (show hopM m (m.row.length - m.row.length) p = p by rw [Nat.sub_self]; rfl)
      go_wp2_with fail
      refine (HA.out p _ (HMr.out.kp (by (repeat' (first | with_reducible exact Kp.refl _ _ | with_reducible refine Kp.alloc ?_ _ | with_reducible refine Kp.drewN ?_ _ | with_reducible refine Kp.drew ?_ | with_reducible refine Kp.setCell ?_ _ ?_ | (intro hh; first | rfl | exact .inl rfl | exact .inr rfl | (exfalso; (try dsimp only at hh); omega))))))).mono ?_
      rintro e w2 ⟨rfl, k2⟩
      go_wp2
      go_ret
      rw [HF.out, HE.out, HN'.out]
      exact ⟨rfl, by have k1 := HK.out; (repeat' (first | with_reducible exact Kp.refl _ _ | with_reducible refine Kp.alloc ?_ _ | with_reducible refine Kp.drewN ?_ _ | with_reducible refine Kp.drew ?_ | with_reducible refine Kp.setCell ?_ _ ?_ | with_reducible refine Kp.trans ?_ k1 (fun _ _ e => e) | with_reducible refine Kp.trans ?_ k2 (fun _ _ e => e) | (intro hh; first | rfl | exact .inl rfl | exact .inr rfl | (exfalso; (try dsimp only at hh); omega))))⟩

set_option maxRecDepth 100000 in
set_option maxHeartbeats 1600000 in
theorem mnodes_c {r : Nat} {s : ByteArray} {m : MS} {nv iv : Value} (w : World) (h : Mo w r s m nv iv) (hl : m.row.length ≤ 2000) :
    Calls Tryz.prog 54 #[.pointer (some ⟨r, 0, none⟩)] w fun e w' => ∃ u, e = .returned u ∧ NRow w' u (nodM m) ∧ New w u ∧ Kp no w w' := by
  obtain ⟨i0, hi0, hz0, hz1, hz2⟩ := info_parts info_nn
  have HB := hide (fun k W (hW : Mo W r s m nv iv) => nodeBehind_c k W hW hl)
  have HM := hide h
  have hr := h.b.lt
  have q3 := h.b.cell 3
  simp only [List.getElem?_cons_zero, List.getElem?_cons_succ] at q3
  have qf := h.b.frozen
  obtain ⟨a, cap, rfl⟩ := h.n.shape
  have HF : Hid (nodM m = nodA m m.row.length) := rfl
  clear h
  go_enter Tryz.func54, Tryz.ntmps54
  go_wp2
  go_loopg [3, 12] m.row.length (fun k lv jv wr => ∃ j : Nat, j ≤ m.row.length ∧ k = m.row.length - j ∧ jv = .int .i64 j ∧ KN w wr lv (nodA m j) ∧ Kp no w wr)
  case atStart =>
    refine ⟨0, Nat.zero_le _, rfl, rfl, ⟨⟨rfl, .inr ⟨w.heap.size, 0, #[], rfl, Nat.zero_le _, ?_, Nat.le_refl _, Nat.zero_le _, rfl, rfl⟩⟩, fun b hb => by simp [Value.ownBlock] at hb; omega⟩, by (repeat' (first | with_reducible exact Kp.refl _ _ | with_reducible refine Kp.alloc ?_ _ | with_reducible refine Kp.drewN ?_ _ | with_reducible refine Kp.drew ?_ | with_reducible refine Kp.setCell ?_ _ ?_ | (intro hh; first | rfl | exact .inl rfl | exact .inr rfl | (exfalso; (try dsimp only at hh); omega))))⟩
    have hh : Blk (w.alloc (.cells #[] 91)) w.heap.size [] 91 := by (repeat' (first | ((with_reducible show (_ : List Value) = _); rfl) | ((with_reducible refine Blk.newAt _ _ _ ?_); first | with_reducible rfl | (simp; done)) | with_reducible refine Blk.alloc ?_ _ | with_reducible refine Blk.drewN ?_ _ | with_reducible refine Blk.drew ?_ | ((with_reducible refine Blk.other ?_ _ ?_); rotate_left; ((try dsimp only); omega)) | with_reducible refine Blk.setB (cs0 := ?_) ?_ ?_))
    exact hh
  case round =>
    obtain ⟨j, hj, hk, rfl, hKB, kr⟩ := hrel
    have HKK := hide hk
    have HKB := hide hKB
    have HKR := hide kr
    obtain ⟨la, lc, rfl⟩ := hKB.r.shape
    clear hk hKB kr
    by_cases hlt : j < m.row.length
    · have hqI : (j : Int) < m.row.length := by omega
      have HPL := hide (show nodA m (j + 1) = nodA m j ++ (if m.row[j].act = 15 then [] else [m.row[j].setW (nbhM m m.row[j].yes) (nbhM m m.row[j].no)]) by rw [nodA, List.getElem?_eq_getElem hlt])
      obtain ⟨_, gn, ha, hgn, n0, n1, n2, n3, n4, n5, n6, n7, n8, n9, n10⟩ := NRow.at (HKR.out.row HM.out.n (fun _ _ => no_elim)) (List.getElem?_eq_getElem hlt)
      subst ha
      have hpl := nodA_le m j
      generalize nodA m j = P at *
      generalize m.row[j] = nd at *
      obtain ⟨tx, act, nx, ny, nw, ck, cn, ch, kd, yes, nno⟩ := nd
      dsimp only [NN.setW] at HPL n0 n1 n2 n3 n4 n5 n6 n7 n8 n9 n10
      have HLN : Hid (Value.ownBlock (.slice la P.length lc) ≠ some wr.heap.size) := fun e => by have := Row.lt HKB.out.r e; omega
      clear q3
      by_cases b : act = 15
      · subst b
        rw [if_pos rfl, List.append_nil] at HPL
        go_wp2
        go_roundg (m.row.length - (j + 1))
        case measure => have := HKK.out; omega
        case rel => exact ⟨j + 1, by omega, rfl, by go_num, by rw [HPL.out]; exact HKB.out.kp (by (repeat' (first | with_reducible exact Kp.refl _ _ | with_reducible refine Kp.alloc ?_ _ | with_reducible refine Kp.drewN ?_ _ | with_reducible refine Kp.drew ?_ | with_reducible refine Kp.setCell ?_ _ ?_ | (intro hh; first | rfl | exact .inl rfl | exact .inr rfl | (exfalso; (try dsimp only at hh); omega))))), by have k1 := HKR.out; (repeat' (first | with_reducible exact Kp.refl _ _ | with_reducible refine Kp.alloc ?_ _ | with_reducible refine Kp.drewN ?_ _ | with_reducible refine Kp.drew ?_ | with_reducible refine Kp.setCell ?_ _ ?_ | with_reducible refine Kp.trans ?_ k1 (fun _ _ e => e) | (intro hh; first | rfl | exact .inl rfl | exact .inr rfl | (exfalso; (try dsimp only at hh); omega))))⟩
      · rw [if_neg b] at HPL
        have b' : ((act : Int) == 15) = false := by simp [b]
        clear b
        go_wp2_with fail
        refine (HB.out yes _ (HM.out.kp (by have k1 := HKR.out; (repeat' (first | with_reducible exact Kp.refl _ _ | with_reducible refine Kp.alloc ?_ _ | with_reducible refine Kp.drewN ?_ _ | with_reducible refine Kp.drew ?_ | with_reducible refine Kp.setCell ?_ _ ?_ | with_reducible refine Kp.trans ?_ k1 (fun _ _ e => e) | (intro hh; first | rfl | exact .inl rfl | exact .inr rfl | (exfalso; (try dsimp only at hh); omega))))))).mono ?_
        rintro e w5 ⟨rfl, k5⟩
        have hN5 : Blk w5 wr.heap.size [.string tx, .int .i64 act, .int .i64 nx, .int .i64 ny, .int .i64 nw, .int .i64 ck, .int .i64 cn, .int .i64 ch, .int .i64 kd, .int .i64 yes, .int .i64 nno] 91 := k5.blk (by (repeat' (first | ((with_reducible show (_ : List Value) = _); rfl) | ((with_reducible refine Blk.newAt _ _ _ ?_); first | with_reducible rfl | (simp; done)) | with_reducible refine Blk.alloc ?_ _ | with_reducible refine Blk.drewN ?_ _ | with_reducible refine Blk.drew ?_ | ((with_reducible refine Blk.other ?_ _ ?_); rotate_left; ((try dsimp only); omega)) | with_reducible refine Blk.setB (cs0 := ?_) ?_ ?_))) no_elim
        have HK5 := hide (HKR.out.trans (S' := no) (Kp.trans (by (repeat' (first | with_reducible exact Kp.refl _ _ | with_reducible refine Kp.alloc ?_ _ | with_reducible refine Kp.drewN ?_ _ | with_reducible refine Kp.drew ?_ | with_reducible refine Kp.setCell ?_ _ ?_ | (intro hh; first | rfl | exact .inl rfl | exact .inr rfl | (exfalso; (try dsimp only at hh); omega))))) k5 (fun _ _ e => e)) (fun _ _ e => e))
        have HL5 := hide (HKB.out.kp (Kp.trans (by (repeat' (first | with_reducible exact Kp.refl _ _ | with_reducible refine Kp.alloc ?_ _ | with_reducible refine Kp.drewN ?_ _ | with_reducible refine Kp.drew ?_ | with_reducible refine Kp.setCell ?_ _ ?_ | (intro hh; first | rfl | exact .inl rfl | exact .inr rfl | (exfalso; (try dsimp only at hh); omega))))) k5 (fun _ _ e => e)))
        have hsw := HKR.out.size
        clear k5 n0 n1 n2 n3 n4 n5 n6 n7 n8 n9 n10
        obtain ⟨n0, n1, n2, n3, n4, n5, n6, n7, n8, n9, n10, nf⟩ := hN5.c11; have hnl := hN5.lt
        generalize nbhM m yes = cy at *
        go_wp2_with fail
        have kk5 := HK5.out
        refine (HB.out nno _ (HM.out.kp (by (repeat' (first | with_reducible exact Kp.refl _ _ | with_reducible refine Kp.alloc ?_ _ | with_reducible refine Kp.drewN ?_ _ | with_reducible refine Kp.drew ?_ | with_reducible refine Kp.setCell ?_ _ ?_ | with_reducible refine Kp.trans ?_ kk5 (fun _ _ e => e) | (intro hh; first | rfl | exact .inl rfl | exact .inr rfl | (exfalso; (try dsimp only at hh); omega))))))).mono ?_
        rintro e w8 ⟨rfl, k8⟩
        have hN8 : Blk w8 wr.heap.size [.string tx, .int .i64 act, .int .i64 nx, .int .i64 ny, .int .i64 nw, .int .i64 ck, .int .i64 cn, .int .i64 ch, .int .i64 kd, .int .i64 cy, .int .i64 nno] 91 := k8.blk (by (repeat' (first | ((with_reducible show (_ : List Value) = _); rfl) | with_reducible exact hN5 | ((with_reducible refine Blk.newAt _ _ _ ?_); first | with_reducible rfl | (simp; done)) | with_reducible refine Blk.alloc ?_ _ | with_reducible refine Blk.drewN ?_ _ | with_reducible refine Blk.drew ?_ | ((with_reducible refine Blk.other ?_ _ ?_); rotate_left; ((try dsimp only); omega)) | with_reducible refine Blk.setB (cs0 := ?_) ?_ ?_))) no_elim
        have HK8 := hide (show Kp no w w8 from Kp.trans (by (repeat' (first | with_reducible exact Kp.refl _ _ | with_reducible refine Kp.alloc ?_ _ | with_reducible refine Kp.drewN ?_ _ | with_reducible refine Kp.drew ?_ | with_reducible refine Kp.setCell ?_ _ ?_ | with_reducible refine Kp.trans ?_ kk5 (fun _ _ e => e) | (intro hh; first | rfl | exact .inl rfl | exact .inr rfl | (exfalso; (try dsimp only at hh); omega))))) k8 (fun _ _ e => e))
        have HL8 : Hid (KN w w8 (.slice la P.length lc) P) := KN.kp (by repeat' (first | with_reducible exact HL5.out | with_reducible refine KN.set ?_ _ HLN.out)) k8
        clear k8 hN5 HL5
        clear n0 n1 n2 n3 n4 n5 n6 n7 n8 n9 n10 nf hnl
        obtain ⟨n0, n1, n2, n3, n4, n5, n6, n7, n8, n9, n10, nf⟩ := hN8.c11; have hnl := hN8.lt
        generalize nbhM m nno = cz at *
        have hone : ∀ u ∈ ([.string tx, .int .i64 act, .int .i64 nx, .int .i64 ny, .int .i64 nw, .int .i64 ck, .int .i64 cn, .int .i64 ch, .int .i64 kd, .int .i64 cy, .int .i64 cz] : List Value), u.oneCell' = true := by simp [Value.oneCell']
        have HL9 := hide (HL8.out.set (o := 10) (.int .i64 (cz : Int)) HLN.out)
        go_wp2_with (at_builtin; refine wpList_append_lies _ rfl (.tmp 29) (.tmp 31) 52 rfl 0 91 i0 _ 11 96 Tryz.underlying52 hi0 hz0 hz1 hz2 rfl (by decide) (.slice la P.length lc) P.length (nnCells P) (by simp [Act.eval]) (by exact World.ownsRow.alloc HL9.out.r _) ⟨w8.heap.size, 0, none⟩ 1 1 [.string tx, .int .i64 act, .int .i64 nx, .int .i64 ny, .int .i64 nw, .int .i64 ck, .int .i64 cn, .int .i64 ch, .int .i64 kd, .int .i64 cy, .int .i64 cz] (by simp [Act.eval]) rfl (by exact Blk.news (Blk.newAt _ [.string tx, .int .i64 act, .int .i64 nx, .int .i64 ny, .int .i64 nw, .int .i64 ck, .int .i64 cn, .int .i64 ch, .int .i64 kd, .int .i64 cy, .int .i64 cz] _ (by simp))) hone (by decide) (by unfold maxLen; omega) (by omega) (Nat.zero_le _) _ rfl ?_; intro g cap' w' hown hgrow hat hlt')
        go_roundg (m.row.length - (j + 1))
        case measure => have := HKK.out; omega
        case rel =>
          have kk8 := HK8.out
          have hap := KN.app ⟨tx, act, nx, ny, nw, ck, cn, ch, kd, cy, cz⟩ HL9.out (by (repeat' (first | with_reducible exact Kp.refl _ _ | with_reducible refine Kp.alloc ?_ _ | with_reducible refine Kp.drewN ?_ _ | with_reducible refine Kp.drew ?_ | with_reducible refine Kp.setCell ?_ _ ?_ | with_reducible refine Kp.trans ?_ kk8 (fun _ _ e => e) | (intro hh; first | rfl | exact .inl rfl | exact .inr rfl | (exfalso; (try dsimp only at hh); omega))))) hown hgrow hat
          exact ⟨j + 1, by omega, rfl, by go_num, by rw [HPL.out]; exact hap.1, hap.2⟩
    · obtain rfl : j = m.row.length := by omega
      go_wp2
      go_ret
      rw [HF.out]
      exact ⟨_, rfl, HKB.out.r, HKB.out.o, HKR.out⟩
end Go.Proofs.YtellieabhaphhaaGreatDoor

/-
  Plain: what the maker lays of a text that is a source: how many nodes, and of which form.
-/
namespace Go.Proofs.YtellieabhaphhaaGreatDoor
open Go.RowKit

def nj (row : List NN) : Nat := row.countP (fun n => decide (n.act ≠ 15))

theorem nj_jump (row : List NN) (k : Int) : nj (row ++ [jumpN k]) = nj row := by
  unfold nj; rw [List.countP_append]; rfl
theorem nj_one (row : List NN) (n : NN) : nj (row ++ [n]) ≤ nj row + 1 := by
  unfold nj; rw [List.countP_append]
  have : List.countP (fun n => decide (n.act ≠ 15)) [n] ≤ [n].length := List.countP_le_length
  simp only [List.length_singleton] at this
  omega

/-- How many bytes the nodes' own texts have. -/
def sz (row : List NN) : Nat := (row.map (fun n => n.tx.size)).sum
theorem sz_one (row : List NN) (n : NN) : sz (row ++ [n]) = sz row + n.tx.size := by simp [sz]

/-- The node's own text, where it was read. -/
def TxP (nd : Nd) (tx : ByteArray) : Prop := ∃ s i j, tx = sinceB s i j ∧ i ≤ j ∧ j ≤ s.size ∧ (simpF s i = (nd, (j, false)) ∨ testF s i = (nd, (j, false)))

/-- A jump, or a node. -/
def RN (n : NN) : Prop := n.act = 15 ∨ (n.act ≠ 15 ∧ ∃ nd tx y z, n = encN nd tx y z ∧ Gn nd ∧ tx.size ≤ 1000 ∧ TxP nd tx)

/-- Where it ends well: how it came there. -/
def Gp (c : Int) (m m' : MS) : Prop := m'.p.2 = false → m.p.2 = false ∧ (∀ n ∈ m'.row, n ∈ m.row ∨ RN n) ∧ 2 * (nj m'.row : Int) + m.p.1 ≤ 2 * nj m.row + m'.p.1 + c ∧ sz m'.row + m.p.1 ≤ sz m.row + m'.p.1

theorem Gp.trans {a b : Int} {m m1 m2 : MS} (h : Gp a m m1) (k : Gp b m1 m2) : Gp (a + b) m m2 := by
  intro hb
  obtain ⟨k1, k2, k3, k4⟩ := k hb
  obtain ⟨h1, h2, h3, h4⟩ := h k1
  exact ⟨h1, fun n hn => (k2 n hn).elim (h2 n) .inr, by omega, by omega⟩
theorem Gp.mono {a b : Int} {m m' : MS} (h : Gp a m m') (hab : a ≤ b) : Gp b m m' := fun hb => let ⟨h1, h2, h3, h4⟩ := h hb; ⟨h1, h2, by omega, h4⟩
theorem Gp.of {c : Int} {m m' : MS} (hp : m'.p = m.p) (hr : m'.row = m.row) (hc : 0 ≤ c) : Gp c m m' := by
  intro hb
  rw [hp] at hb
  refine ⟨hb, fun n hn => .inl (hr ▸ hn), ?_, ?_⟩
  · rw [hp, hr]; omega
  · rw [hp, hr]; exact Nat.le_refl _
theorem Gp.refl (m : MS) : Gp 0 m m := Gp.of rfl rfl (Int.le_refl _)
theorem layM_gp (m : MS) (k : Nat) : Gp 0 m (layM m k) := Gp.of rfl rfl (Int.le_refl _)
theorem newM_gp (m : MS) : Gp 0 m (newM m) := Gp.of rfl rfl (Int.le_refl _)
theorem new3_gp (m : MS) : Gp 0 m (new3 m) := Gp.of rfl rfl (Int.le_refl _)
theorem jmpM_gp (m : MS) (k : Int) : Gp 0 m (jmpM m k) := by
  intro hb
  refine ⟨hb, fun n hn => ?_, ?_, ?_⟩
  · rcases List.mem_append.1 hn with h | h
    · exact .inl h
    · obtain rfl : n = jumpN k := by simpa using h
      exact .inr (.inl rfl)
  · show 2 * (nj (m.row ++ [jumpN k]) : Int) + _ ≤ _
    rw [nj_jump, jmpM_p]; omega
  · show sz (m.row ++ [jumpN k]) + _ ≤ _
    rw [sz_one, jmpM_p]; exact Nat.le_refl _

theorem expF_good (s : ByteArray) : ∀ (l : List UInt8) (p : Nat × Bool), (expF s p l).2 = false → p.2 = false ∧ (expF s p l).1 = p.1 + l.length
  | [], p, h => ⟨h, rfl⟩
  | c :: l, p, h => by
    have ih := expF_good s l (eatF s p c.toNat) h
    obtain ⟨e1, e2, e3⟩ := eatF_good s p c.toNat ih.1
    refine ⟨e1, ?_⟩
    show (expF s (eatF s p c.toNat) l).1 = _
    rw [ih.2, e3, List.length_cons]
    omega

theorem expM_gp (s : ByteArray) (m : MS) (l : List UInt8) : Gp (-(l.length : Int)) m (expM s m l) := by
  intro hb
  obtain ⟨e1, e2⟩ := expF_good s l m.p hb
  refine ⟨e1, fun n hn => .inl hn, ?_, ?_⟩
  · rw [expM_p, e2, expM_row]
    omega
  · rw [expM_p, e2, expM_row]
    omega

theorem actN_ne (o : Int) : actN o ≠ 15 := by
  unfold actN
  intro h
  repeat' split at h
  all_goals omega

theorem tst_ref (s : ByteArray) (i : Nat) : (tstF s (i, false)).2 = (testF s i).2 ∧ (tstF s (i, false)).1 = encN (testF s i).1 em 0 0 := by
  unfold tstF queF testF
  generalize varF s (i, false) = q
  obtain ⟨k, q, b⟩ := q
  dsimp only
  cases b
  · by_cases h : pk s q = 58
    · rw [pkb_false, if_pos h, if_pos ⟨rfl, h⟩]
      exact ⟨rfl, rfl⟩
    · rw [pkb_false, if_neg h, if_neg (fun e => h e.2)]
      exact ⟨rfl, rfl⟩
  · rw [pkb_true, if_neg (by decide), if_neg (fun e => by cases e.1)]
    exact ⟨rfl, rfl⟩

theorem since_size (s : ByteArray) (a b : Nat) (hs : s.size ≤ 1000) : (sinceB s a b).size ≤ 1000 := by
  unfold sinceB
  rw [ByteArray.size_extract]; omega

theorem tstM_gp {s : ByteArray} {m : MS} (yes no : Int) (hs : s.size ≤ 1000) (hi : m.p.1 ≤ s.size) : Gp 1 m (tstM s yes no m) := by
  intro hb
  have hb' : (tstF s m.p).2.2 = false := hb
  have b0 := (tstF_bc s m.p hi).1
  have hp : m.p.2 = false := by
    have h1 := bc_live hb'
    cases h : m.p.2
    · rfl
    · rw [h1] at b0; simp [bc, h] at b0
  have e : m.p = (m.p.1, false) := by rw [← hp]
  obtain ⟨r1, r2⟩ := tst_ref s m.p.1
  rw [← e] at r1 r2
  have g := testF_gn s m.p.1 (by rw [← r1]; exact hb')
  have htp : TxP (testF s m.p.1).1 (sinceB s m.p.1 (tstF s m.p).2.1) := ⟨s, m.p.1, (tstF s m.p).2.1, rfl, (tstF_bc s m.p hi).2.1, (tstF_bc s m.p hi).2.2, .inr (by
    have hbb : (testF s m.p.1).2 = ((tstF s m.p).2.1, false) := by rw [← r1]; exact Prod.ext rfl hb'
    exact Prod.ext rfl hbb)⟩
  refine ⟨hp, fun n hn => ?_, ?_, ?_⟩
  · rcases List.mem_append.1 hn with h | h
    · exact .inl h
    · obtain rfl : n = _ := by simpa using h
      rw [r2]
      exact .inr (.inr ⟨actN_ne _, _, _, _, _, rfl, g.1, since_size s _ _ hs, htp⟩)
  · have h1 : nj (tstM s yes no m).row ≤ nj m.row + 1 := nj_one m.row _
    have h2 : m.p.1 + 1 ≤ (tstM s yes no m).p.1 := by
      show m.p.1 + 1 ≤ (tstF s m.p).2.1
      have v := varF_ge s m.p
      have hv : (varF s m.p).2.2 = false := by
        have q := (queF_bc s (varF s m.p).2 (varF s m.p).1 (varF_le s m.p hi)).1
        have : bc (tstF s m.p).2 = 0 := bc_live hb'
        cases h : (varF s m.p).2.2
        · rfl
        · unfold tstF at this; rw [this] at q; simp [bc, h] at q
      have q2 := (queF_bc s (varF s m.p).2 (varF s m.p).1 (varF_le s m.p hi)).2.1
      have := v.2 hv
      show m.p.1 + 1 ≤ (queF s (varF s m.p).2 (varF s m.p).1).2.1
      omega
    omega
  · show sz (m.row ++ [_]) + m.p.1 ≤ sz m.row + (tstF s m.p).2.1
    rw [sz_one]
    show sz m.row + (sinceB s m.p.1 (tstF s m.p).2.1).size + m.p.1 ≤ _
    have := tstF_bc s m.p hi
    unfold sinceB
    rw [ByteArray.size_extract]
    omega

theorem condM_gp : ∀ (f : Nat) (s : ByteArray) (yes no : Int) (m : MS), s.size ≤ 1000 → s.size - m.p.1 < f → m.p.1 ≤ s.size → Gp 1 m (condM f s yes no m)
  | 0, _, _, _, _, _, h, _ => by omega
  | f + 1, s, yes, no, m, hs, hf, hi => by
    rw [condM]
    split
    · rename_i hc
      obtain ⟨e1, e2, e3⟩ := eat_at (c := 33) hc (by decide)
      have x1 : (expM s m [33]).p.1 = m.p.1 + 1 := by rw [expM_p, e1]
      exact ((expM_gp s m [33]).trans (condM_gp f s no yes (expM s m [33]) hs (by omega) (by omega))).mono (by decide)
    split
    · rename_i _ hc
      obtain ⟨e1, e2, e3⟩ := eat_at (c := 38) hc (by decide)
      have x1 : (newM (expM s m [38])).p.1 = m.p.1 + 1 := by rw [newM_p, expM_p, e1]
      have g := condM_mc f s m.marks.length no (newM (expM s m [38])) (by omega) (by omega)
      have k1 := condM_gp f s m.marks.length no (newM (expM s m [38])) hs (by omega) (by omega)
      generalize condM f s m.marks.length no (newM (expM s m [38])) = y3 at *
      have g1 := g.lo; have g2 := g.i
      have k2 := condM_gp f s yes no (layM y3 m.marks.length) hs (by rw [layM_p]; omega) (by rw [layM_p]; omega)
      exact (((expM_gp s m [38]).trans (newM_gp _)).trans ((k1.trans (layM_gp y3 m.marks.length)).trans k2)).mono (by decide)
    split
    · rename_i _ _ hc
      obtain ⟨e1, e2, e3⟩ := eat_at (c := 124) hc (by decide)
      have x1 : (newM (expM s m [124])).p.1 = m.p.1 + 1 := by rw [newM_p, expM_p, e1]
      have g := condM_mc f s yes m.marks.length (newM (expM s m [124])) (by omega) (by omega)
      have k1 := condM_gp f s yes m.marks.length (newM (expM s m [124])) hs (by omega) (by omega)
      generalize condM f s yes m.marks.length (newM (expM s m [124])) = y3 at *
      have g1 := g.lo; have g2 := g.i
      have k2 := condM_gp f s yes no (layM y3 m.marks.length) hs (by rw [layM_p]; omega) (by rw [layM_p]; omega)
      exact (((expM_gp s m [124]).trans (newM_gp _)).trans ((k1.trans (layM_gp y3 m.marks.length)).trans k2)).mono (by decide)
    · exact tstM_gp yes no hs hi

theorem actM_gp {s : ByteArray} {m : MS} (hs : s.size ≤ 1000) (h : pkb s m.p ≠ 0) : Gp 0 m (actM s m) := by
  intro hb
  obtain ⟨h1, h2⟩ := pkb_live h
  have e : m.p = (m.p.1, false) := by rw [← h1]
  have hb' : (expF s (nacF s m.p).2 [59]).2 = false := hb
  obtain ⟨e1, e2⟩ := expF_good s [59] _ hb'
  obtain ⟨r1, r2⟩ := nac_ref s m.p.1
  rw [← e] at r1 r2
  rw [r1] at e1
  have g := simpF_gn s m.p.1 e1
  have hge := (simpF_ge s m.p.1).2 e1
  have hle := simpF_le s m.p.1 (Nat.le_of_lt h2)
  have htp : TxP (simpF s m.p.1).1 (sinceB s m.p.1 (nacF s m.p).2.1) := ⟨s, m.p.1, (nacF s m.p).2.1, rfl, by rw [r1]; omega, by rw [r1]; exact hle, .inl (Prod.ext rfl (Prod.ext (by rw [r1]) e1))⟩
  refine ⟨h1, fun n hn => ?_, ?_, ?_⟩
  · rcases List.mem_append.1 hn with h | h
    · exact .inl h
    · obtain rfl : n = _ := by simpa using h
      rw [r2 e1]
      exact .inr (.inr ⟨actN_ne _, _, _, _, _, rfl, g.1, since_size s _ _ hs, htp⟩)
  · have h3 : nj (actM s m).row ≤ nj m.row + 1 := nj_one m.row _
    have h4 : (actM s m).p.1 = (simpF s m.p.1).2.1 + 1 := by
      show (expF s (nacF s m.p).2 [59]).1 = _
      rw [e2, r1]; rfl
    omega
  · have h4 : (actM s m).p.1 = (simpF s m.p.1).2.1 + 1 := by
      show (expF s (nacF s m.p).2 [59]).1 = _
      rw [e2, r1]; rfl
    rw [h4]
    show sz (m.row ++ [_]) + m.p.1 ≤ _
    rw [sz_one]
    show sz m.row + (sinceB s m.p.1 (nacF s m.p).2.1).size + m.p.1 ≤ _
    unfold sinceB
    rw [ByteArray.size_extract, r1]
    omega

theorem lepM_gp (s : ByteArray) (m : MS) (l : List UInt8) (k : Int) : Gp 0 m (lepM s l k m) := by
  unfold lepM
  split
  · intro hb; cases hb
  · exact ((expM_gp s m l).trans (jmpM_gp _ k)).mono (by omega)

def SGp (s : ByteArray) (n : Nat) (S : Int → Int → MS → MS) : Prop := ∀ h b m, m.p.1 ≤ s.size → (m.p.2 = false → s.size - m.p.1 < n) → Gp 0 m (S h b m)

theorem choM_gp {f : Nat} {s : ByteArray} {S : Int → Int → MS → MS} {h b : Int} {m : MS} (hs : s.size ≤ 1000) (hS : SMG s f S) (hG : SGp s f S) (hc : pkb s m.p = 40) (hf : s.size - m.p.1 < f + 1) : Gp 0 m (choM f S s h b m) := by
  obtain ⟨e1, e2, e3⟩ := eat_at (c := 40) hc (by decide)
  unfold choM
  dsimp only
  have k1 := (new3_gp m).trans (expM_gp s (new3 m) [40])
  have q1 : (expM s (new3 m) [40]).p.1 = m.p.1 + 1 := by rw [expM_p, new3_p, e1]
  generalize expM s (new3 m) [40] = x1 at *
  have g2 := condM_mc f s m.marks.length (m.marks.length + 1 : Nat) x1 (by omega) (by omega)
  have k2 := condM_gp f s m.marks.length (m.marks.length + 1 : Nat) x1 hs (by omega) (by omega)
  generalize condM f s m.marks.length (m.marks.length + 1 : Nat) x1 = x2 at *
  have g3 := expM_mg (l := [123]) (by decide) g2.i
  have k3 := expM_gp s x2 [123]
  generalize expM s x2 [123] = x3 at *
  have g4 := layM_mg (k := m.marks.length) g3.i
  have k4 := layM_gp x3 m.marks.length
  generalize layM x3 m.marks.length = x4 at *
  have lo4 : x1.p.1 ≤ x4.p.1 := Nat.le_trans g2.lo (Nat.le_trans g3.lo g4.lo)
  have i4 := g4.i
  have g5 := hS h b x4 g4.i (fun _ => by omega)
  have k5 := hG h b x4 g4.i (fun _ => by omega)
  generalize S h b x4 = x5 at *
  have g6 := expM_mg (l := [125, 123]) (by decide) g5.i
  have k6 := expM_gp s x5 [125, 123]
  generalize expM s x5 [125, 123] = x6 at *
  have p7 := jmpM_p x6 (m.marks.length + 2 : Nat)
  have k7 := jmpM_gp x6 (m.marks.length + 2 : Nat)
  generalize jmpM x6 (m.marks.length + 2 : Nat) = x7 at *
  have g8 := layM_mg (s := s) (m := x7) (k := m.marks.length + 1) (by rw [p7]; exact g6.i)
  have k8 := layM_gp x7 (m.marks.length + 1)
  generalize layM x7 (m.marks.length + 1) = x8 at *
  have lo8 : x4.p.1 ≤ x8.p.1 := Nat.le_trans g5.lo (Nat.le_trans g6.lo (by rw [← p7]; exact g8.lo))
  have i8 := g8.i
  have k9 := hG h b x8 g8.i (fun _ => by omega)
  generalize S h b x8 = x9 at *
  have k10 := expM_gp s x9 [125, 41]
  generalize expM s x9 [125, 41] = x10 at *
  have k11 := layM_gp x10 (m.marks.length + 2)
  generalize layM x10 (m.marks.length + 2) = x11 at *
  exact (((((((((k1.trans k2).trans k3).trans k4).trans k5).trans k6).trans k7).trans k8).trans k9).trans (k10.trans k11)).mono (by decide)

theorem lopM_gp {f : Nat} {s : ByteArray} {S : Int → Int → MS → MS} {m : MS} (hs : s.size ≤ 1000) (hG : SGp s f S) (hc : pkb s m.p = 91) (hf : s.size - m.p.1 < f + 1) : Gp 0 m (lopM f S s m) := by
  obtain ⟨e1, e2, e3⟩ := eat_at (c := 91) hc (by decide)
  unfold lopM
  dsimp only
  have k1 := ((new3_gp m).trans (expM_gp s (new3 m) [91])).trans (layM_gp _ m.marks.length)
  have q1 : (layM (expM s (new3 m) [91]) m.marks.length).p.1 = m.p.1 + 1 := by rw [layM_p, expM_p, new3_p, e1]
  generalize layM (expM s (new3 m) [91]) m.marks.length = x1 at *
  have g2 := condM_mc f s (m.marks.length + 1 : Nat) (m.marks.length + 2 : Nat) x1 (by omega) (by omega)
  have k2 := condM_gp f s (m.marks.length + 1 : Nat) (m.marks.length + 2 : Nat) x1 hs (by omega) (by omega)
  generalize condM f s (m.marks.length + 1 : Nat) (m.marks.length + 2 : Nat) x1 = x2 at *
  have g3 := expM_mg (l := [123]) (by decide) g2.i
  have k3 := expM_gp s x2 [123]
  generalize expM s x2 [123] = x3 at *
  have g4 := layM_mg (k := m.marks.length + 1) g3.i
  have k4 := layM_gp x3 (m.marks.length + 1)
  generalize layM x3 (m.marks.length + 1) = x4 at *
  have lo4 : x1.p.1 ≤ x4.p.1 := Nat.le_trans g2.lo (Nat.le_trans g3.lo g4.lo)
  have i4 := g4.i
  have k5 := hG m.marks.length (m.marks.length + 2 : Nat) x4 g4.i (fun _ => by omega)
  generalize S m.marks.length (m.marks.length + 2 : Nat) x4 = x5 at *
  have k6 := expM_gp s x5 [125, 93]
  generalize expM s x5 [125, 93] = x6 at *
  have k7 := jmpM_gp x6 m.marks.length
  generalize jmpM x6 m.marks.length = x7 at *
  have k8 := layM_gp x7 (m.marks.length + 2)
  exact (((((((k1.trans k2).trans k3).trans k4).trans k5).trans k6).trans k7).trans k8).mono (by decide)

theorem stM_gp {f : Nat} {s : ByteArray} {S : Int → Int → MS → MS} {h b : Int} {m : MS} (hs : s.size ≤ 1000) (hS : SMG s f S) (hG : SGp s f S) (hp : pkb s m.p ≠ 0) (hf : s.size - m.p.1 < f + 1) : Gp 0 m (stM f S s h b m) := by
  unfold stM
  split
  · rename_i hc; exact choM_gp hs hS hG hc hf
  split
  · rename_i hc; exact lopM_gp hs hG hc hf
  split
  · exact lepM_gp s m _ b
  split
  · exact lepM_gp s m _ h
  · exact actM_gp hs hp

theorem stmM_gp : ∀ (f : Nat) (s : ByteArray), s.size ≤ 1000 → SGp s f (stmM f s)
  | 0, s, _ => fun h b m _ _ => Gp.refl m
  | f + 1, s, hs => fun h b m hi hf => by
    rw [stmM]
    split
    · rename_i hc
      have hl := pkb_live hc.2
      have g := stM_mg (h := h) (b := b) (stmM_mg f s) hc.2 (hf hl.1)
      have k := stM_gp (h := h) (b := b) hs (stmM_mg f s) (stmM_gp f s hs) hc.2 (hf hl.1)
      have hl2 := hf hl.1
      generalize stM f (stmM f s) s h b m = x at *
      exact (k.trans (stmM_gp f s hs h b x g.1.i (fun hb => by have := g.2 hb; have := g.1.i; omega))).mono (by decide)
    · exact Gp.refl m

def ms0 : MS := { p := (0, false), row := [], marks := [] }

/-- A source, as the maker reads it. -/
def srM (s : ByteArray) : MS := stmM (s.size + 1) s (-1) (-1) ms0

def srE (s : ByteArray) : Int × Int := if (srM s).p.2 = true ∨ (srM s).p.1 ≠ s.size then (2, (srM s).p.1) else (0, 0)

theorem srM_mi (s : ByteArray) : MI s (srM s) := MI.mg (m := ms0) ⟨Nat.zero_le _, Nat.zero_le _, Nat.zero_le _⟩ (stmM_mg (s.size + 1) s (-1) (-1) ms0 (Nat.zero_le _) (fun _ => by show s.size - 0 < _; omega))

theorem srM_good {s : ByteArray} (hs : s.size ≤ 180) (h : (srE s).1 = 0) : (srM s).p = (s.size, false) ∧ nj (srM s).row ≤ 90 ∧ (∀ n ∈ (srM s).row, RN n) ∧ sz (srM s).row ≤ 180 := by
  unfold srE at h
  split at h
  · simp at h
  · rename_i hn
    have h1 : (srM s).p.2 = false := by cases hb : (srM s).p.2; rfl; exact absurd (.inl hb) hn
    have h2 : (srM s).p.1 = s.size := by
      rcases Nat.decEq (srM s).p.1 s.size with h | h
      · exact absurd (.inr h) hn
      · exact h
    have g := stmM_gp (s.size + 1) s (by omega) (-1) (-1) ms0 (Nat.zero_le _) (fun _ => by show s.size - 0 < _; omega) h1
    obtain ⟨_, g2, g3, g4⟩ := g
    have g3' : 2 * (nj (srM s).row : Int) + (0 : Nat) ≤ 2 * (0 : Nat) + (srM s).p.1 + 0 := g3
    have g4' : sz (srM s).row + 0 ≤ 0 + (srM s).p.1 := g4
    exact ⟨by rw [← h1, ← h2], by omega, fun n hn => (g2 n hn).elim (fun e => by cases e) id, by omega⟩
end Go.Proofs.YtellieabhaphhaaGreatDoor

/-
  narrow: the nodes of a source.
-/
namespace Go.Proofs.YtellieabhaphhaaGreatDoor
open Go.RowKit

def SrcP (s : ByteArray) (w : World) (e : Ending) (w' : World) : Prop :=
  ∃ v, e = .returned (.tuple #[v, .int .i64 (srE s).1, .int .i64 (srE s).2]) ∧ Kp no w w' ∧ ((srE s).1 = 0 → NRow w' v (nodM (srM s)) ∧ New w v)

set_option maxHeartbeats 1600000 in
theorem nos_c (s : ByteArray) (w : World) (hs : s.size ≤ 180) :
    Calls Tryz.prog 30 #[.string s] w fun e w' => SrcP s w e w' := by
  have HS := hide (fun W r O (hM : Mp W r s ms0 O) => stm_all (s.size + 1) r s (-1) (-1) ms0 hs (fun _ => by show s.size - 0 < _; omega) ⟨Nat.zero_le _, Nat.zero_le _, Nat.zero_le _⟩ W O hM)
  have HF : Hid (srM s = stmM (s.size + 1) s (-1) (-1) ms0) := rfl
  have hI := srM_mi s
  have n1 := hI.row; have n2 := hI.mm; have n3 := hI.i; have nb := bc_le (srM s).p
  clear hI
  have HE : Hid (srE s = if (srM s).p.2 = true ∨ (srM s).p.1 ≠ s.size then (2, ((srM s).p.1 : Int)) else (0, 0)) := rfl
  go_enter Tryz.func30, Tryz.ntmps30
  go_wp2_with fail
  have h0 : Mp (w.alloc (.cells #[.string s, .int .i64 0, .bool false, .slice none 0 0, .slice none 0 0] 84)) w.heap.size s ms0 (Own w.heap.size (.slice none 0 0) (.slice none 0 0)) :=
    ⟨_, _, Blk.new w [.string s, .int .i64 0, .bool false, .slice none 0 0, .slice none 0 0] _, World.ownsRow_nil _ _ _ _, World.ownsRow_nil _ _ _ _, by simp [Value.ownBlock], by simp [Value.ownBlock], by simp [Value.ownBlock], rfl⟩
  refine (HS.out _ w.heap.size _ h0).mono ?_
  rw [← HF.out]
  rintro e w1 ⟨rfl, O1, h1, t1⟩
  generalize hst : srM s = m at h1 n1 n2 n3 nb HE
  have HST := hide hst
  clear hst
  have hk : Kp no w w1 := ((Kp.refl no w).alloc _).trans t1.1 (fun x hx e => by
    rcases e with e | e | e
    · omega
    · simp [Value.ownBlock] at e
    · simp [Value.ownBlock] at e)
  obtain ⟨c0, c1, c2, cf⟩ := h1.c
  have HMO : Hid (∃ nv iv, Mo w1 w.heap.size s m nv iv) := by
    obtain ⟨nv, iv, hB, hN, hI, d1, d2, d3, _⟩ := h1
    exact ⟨nv, iv, hB, hN, hI⟩
  have HK := hide hk
  have hsz := hk.size
  clear hk t1 h1 h0 HS HF
  cases hb : m.p.2
  · rw [hb] at c2
    by_cases hi : m.p.1 = s.size
    · have e1 : srE s = (0, 0) := by rw [HE.out, if_neg (by rw [hb]; simp [hi])]
      obtain ⟨nv, iv, hMo⟩ := HMO.out
      have HN := hide (mnodes_c w1 hMo (by omega))
      have hi' : ((m.p.1 : Int) != (s.size : Int)) = false := by simp [hi]
      have E1 := hide e1
      clear hMo e1 HE hb hi
      generalize m.p.1 = pi at *
      go_wp2_with fail
      refine HN.out.mono ?_
      rintro e w2 ⟨u, rfl, hu, ho, k2⟩
      have HU := hide hu
      have HO := hide ho
      obtain ⟨ua, uc, rfl⟩ := hu.shape
      clear hu ho
      go_wp2
      go_ret3
      exact ⟨_, by rw [E1.out]; rfl, HK.out.trans k2 (fun _ _ e => e), fun _ => ⟨by rw [HST.out]; exact HU.out, fun b hb => by have := HO.out b hb; omega⟩⟩
    · have e1 : srE s = (2, (m.p.1 : Int)) := by rw [HE.out, if_pos (.inr hi)]
      have hi' : ((m.p.1 : Int) != (s.size : Int)) = true := by simp; omega
      have E1 := hide e1
      clear e1 HE hb hi HMO
      generalize m.p.1 = pi at *
      go_wp2
      go_quiet (fail)
      go_wp2
      go_ret3
      exact ⟨_, by rw [E1.out]; rfl, HK.out.drewN _, fun h => absurd h (by rw [E1.out]; show ¬ (2 : Int) = 0; decide)⟩
  · rw [hb] at c2
    have e1 : srE s = (2, (m.p.1 : Int)) := by rw [HE.out, if_pos (.inl hb)]
    have E1 := hide e1
    clear e1 HE hb HMO
    generalize m.p.1 = pi at *
    go_wp2
    go_quiet (fail)
    go_wp2
    go_ret3
    exact ⟨_, by rw [E1.out]; rfl, HK.out.drewN _, fun h => absurd h (by rw [E1.out]; show ¬ (2 : Int) = 0; decide)⟩
end Go.Proofs.YtellieabhaphhaaGreatDoor

/-
  A graph's text: what the answer writes.
-/
namespace Go.Proofs.YtellieabhaphhaaGreatDoor
open Go.RowKit

theorem ba_nil (a : ByteArray) : a ++ (⟨#[]⟩ : ByteArray) = a := ByteArray.append_empty

end Go.Proofs.YtellieabhaphhaaGreatDoor

/-
  A graph's text: what narrow writes.
-/
namespace Go.Proofs.YtellieabhaphhaaGreatDoor
open Go.RowKit

/-- A line. -/
def lnTx (n : NN) : ByteArray := n.tx ++ (if n.act = 11 then ⟨#[]⟩ else ⟨#[44]⟩ ++ twoB n.yes.toNat) ++ (if n.act = 12 ∨ n.act = 13 then ⟨#[44]⟩ ++ twoB n.no.toNat else ⟨#[]⟩) ++ ⟨#[59]⟩

/-- A node that can be written. -/
structure Ln (n : NN) : Prop where
  tx : n.tx.size ≤ 1000
  yes : n.act ≠ 11 → 0 ≤ n.yes ∧ n.yes < 100
  no : n.act = 12 ∨ n.act = 13 → 0 ≤ n.no ∧ n.no < 100

theorem lnTx_size {n : NN} (h : Ln n) : (lnTx n).size ≤ 1007 := by
  have h1 := h.tx
  have h2 : ∀ k, (twoB k).size = 2 := twoB_size
  unfold lnTx
  rw [ByteArray.size_append, ByteArray.size_append, ByteArray.size_append, show (ByteArray.mk #[59]).size = 1 from rfl]
  have h3 : (if n.act = 11 then (⟨#[]⟩ : ByteArray) else ⟨#[44]⟩ ++ twoB n.yes.toNat).size ≤ 3 := by
    split
    · decide
    · rw [ByteArray.size_append, h2]; decide
  have h4 : (if n.act = 12 ∨ n.act = 13 then (⟨#[44]⟩ : ByteArray) ++ twoB n.no.toNat else ⟨#[]⟩).size ≤ 3 := by
    split
    · rw [ByteArray.size_append, h2]; decide
    · decide
  omega

set_option maxRecDepth 100000 in
set_option maxHeartbeats 1600000 in
theorem lineText_c (n : NN) (w : World) (h : Ln n) :
    Calls Tryz.prog 55 #[.agg #[.string n.tx, .int .i64 n.act, .int .i64 n.x, .int .i64 n.y, .int .i64 n.w, .int .i64 n.ck, .int .i64 n.cn, .int .i64 n.ch, .int .i64 n.kd, .int .i64 n.yes, .int .i64 n.no]] w fun e w' => e = .returned (.string (lnTx n)) ∧ Kp no w w' := by
  have HT := hide (fun W => nisTest_c n.act W)
  have htx := h.tx
  have e59 : (ByteArray.mk #[59]).size = 1 := rfl
  have e44 : (ByteArray.mk #[44]).size = 1 := rfl
  by_cases h11 : n.act = 11
  · have HE := hide (show lnTx n = n.tx ++ ⟨#[59]⟩ by rw [lnTx, if_pos h11, if_neg (by omega), ba_nil, ba_nil])
    rw [HE.out]
    obtain ⟨tx, act, nx, ny, nw, ck, cn, ch, kd, yes, nno⟩ := n
    dsimp only at *
    subst h11
    clear h HE
    go_enter Tryz.func55, Tryz.ntmps55
    go_wp2_with (go_at_call 99; refine (HT.out _).mono ?_; rintro e w' ⟨rfl, rfl⟩)
    go_ret
    exact ⟨rfl, by (repeat' (first | with_reducible exact Kp.refl _ _ | with_reducible refine Kp.alloc ?_ _ | with_reducible refine Kp.drewN ?_ _ | with_reducible refine Kp.drew ?_ | with_reducible refine Kp.setCell ?_ _ ?_ | (intro hh; first | rfl | exact .inl rfl | exact .inr rfl | (exfalso; (try dsimp only at hh); omega))))⟩
  · obtain ⟨y1, y2⟩ := h.yes h11
    obtain ⟨yn, hyn⟩ := Int.eq_ofNat_of_zero_le y1
    by_cases ht : n.act = 12 ∨ n.act = 13
    · obtain ⟨o1, o2⟩ := h.no ht
      obtain ⟨on, hon⟩ := Int.eq_ofNat_of_zero_le o1
      have HE := hide (show lnTx n = n.tx ++ (⟨#[44]⟩ ++ twoB yn) ++ (⟨#[44]⟩ ++ twoB on) ++ ⟨#[59]⟩ by rw [lnTx, if_neg h11, if_pos ht, hyn, hon, Int.toNat_natCast, Int.toNat_natCast])
      rw [HE.out]
      rw [decide_eq_true ht] at HT
      have HY := hide (fun W => ntwo_c yn W (by omega))
      have HO := hide (fun W => ntwo_c on W (by omega))
      have s1 := twoB_size yn
      have s2 := twoB_size on
      have g11 : (n.act == 11) = false := by simpa using h11
      have g11' : (n.act != 11) = true := by simpa using h11
      obtain ⟨tx, act, nx, ny, nw, ck, cn, ch, kd, yes, nno⟩ := n
      dsimp only at *
      subst hyn hon
      clear h HE ht h11
      generalize twoB yn = ty at *
      generalize twoB on = to at *
      go_enter Tryz.func55, Tryz.ntmps55
      go_wp2_with fail
      refine (HY.out _).mono ?_
      rintro e w1 ⟨rfl, k1⟩
      have hN1 : Blk w1 w.heap.size [.string tx, .int .i64 act, .int .i64 nx, .int .i64 ny, .int .i64 nw, .int .i64 ck, .int .i64 cn, .int .i64 ch, .int .i64 kd, .int .i64 yn, .int .i64 on] 91 := k1.blk (by (repeat' (first | ((with_reducible show (_ : List Value) = _); rfl) | ((with_reducible refine Blk.newAt _ _ _ ?_); first | with_reducible rfl | (simp; done)) | with_reducible refine Blk.alloc ?_ _ | with_reducible refine Blk.drewN ?_ _ | with_reducible refine Blk.drew ?_ | ((with_reducible refine Blk.other ?_ _ ?_); rotate_left; ((try dsimp only); omega)) | with_reducible refine Blk.setB (cs0 := ?_) ?_ ?_))) no_elim
      have HK1 := hide (show Kp no w w1 from Kp.trans (by (repeat' (first | with_reducible exact Kp.refl _ _ | with_reducible refine Kp.alloc ?_ _ | with_reducible refine Kp.drewN ?_ _ | with_reducible refine Kp.drew ?_ | with_reducible refine Kp.setCell ?_ _ ?_ | (intro hh; first | rfl | exact .inl rfl | exact .inr rfl | (exfalso; (try dsimp only at hh); omega))))) k1 (fun _ _ e => e))
      obtain ⟨n0, n1, n2, n3, n4, n5, n6, n7, n8, n9, n10, nf⟩ := hN1.c11; have hnl := hN1.lt
      clear k1
      go_wp2_with fail
      refine (HT.out _).mono ?_
      rintro e w' ⟨rfl, rfl⟩
      go_wp2_with fail
      refine (HO.out _).mono ?_
      rintro e w2 ⟨rfl, k2⟩
      go_wp2
      go_ret
      exact ⟨rfl, HK1.out.trans k2 (fun _ _ e => e)⟩
    · have HE := hide (show lnTx n = n.tx ++ (⟨#[44]⟩ ++ twoB yn) ++ ⟨#[59]⟩ by rw [lnTx, if_neg h11, if_neg ht, hyn, Int.toNat_natCast, ba_nil])
      rw [HE.out]
      rw [decide_eq_false ht] at HT
      have HY := hide (fun W => ntwo_c yn W (by omega))
      have s1 := twoB_size yn
      have g11 : (n.act == 11) = false := by simpa using h11
      have g11' : (n.act != 11) = true := by simpa using h11
      obtain ⟨tx, act, nx, ny, nw, ck, cn, ch, kd, yes, nno⟩ := n
      dsimp only at *
      subst hyn
      clear h HE ht h11
      generalize twoB yn = ty at *
      go_enter Tryz.func55, Tryz.ntmps55
      go_wp2_with fail
      refine (HY.out _).mono ?_
      rintro e w1 ⟨rfl, k1⟩
      have hN1 : Blk w1 w.heap.size [.string tx, .int .i64 act, .int .i64 nx, .int .i64 ny, .int .i64 nw, .int .i64 ck, .int .i64 cn, .int .i64 ch, .int .i64 kd, .int .i64 yn, .int .i64 nno] 91 := k1.blk (by (repeat' (first | ((with_reducible show (_ : List Value) = _); rfl) | ((with_reducible refine Blk.newAt _ _ _ ?_); first | with_reducible rfl | (simp; done)) | with_reducible refine Blk.alloc ?_ _ | with_reducible refine Blk.drewN ?_ _ | with_reducible refine Blk.drew ?_ | ((with_reducible refine Blk.other ?_ _ ?_); rotate_left; ((try dsimp only); omega)) | with_reducible refine Blk.setB (cs0 := ?_) ?_ ?_))) no_elim
      have HK1 := hide (show Kp no w w1 from Kp.trans (by (repeat' (first | with_reducible exact Kp.refl _ _ | with_reducible refine Kp.alloc ?_ _ | with_reducible refine Kp.drewN ?_ _ | with_reducible refine Kp.drew ?_ | with_reducible refine Kp.setCell ?_ _ ?_ | (intro hh; first | rfl | exact .inl rfl | exact .inr rfl | (exfalso; (try dsimp only at hh); omega))))) k1 (fun _ _ e => e))
      obtain ⟨n0, n1, n2, n3, n4, n5, n6, n7, n8, n9, n10, nf⟩ := hN1.c11; have hnl := hN1.lt
      clear k1
      go_wp2_with fail
      refine (HT.out _).mono ?_
      rintro e w' ⟨rfl, rfl⟩
      go_wp2
      go_ret
      exact ⟨rfl, HK1.out⟩

def graT (L : List NN) : ByteArray := L.foldl (fun a n => a ++ lnTx n) ⟨#[]⟩

theorem graT_take (L : List NN) (j : Nat) (n : NN) (h : L[j]? = some n) : graT (L.take (j + 1)) = graT (L.take j) ++ lnTx n := by
  obtain ⟨hj, rfl⟩ := List.getElem?_eq_some_iff.1 h
  rw [List.take_succ_eq_append_getElem hj]
  unfold graT
  rw [List.foldl_append]
  rfl

theorem graT_size {L : List NN} (h : ∀ n ∈ L, Ln n) : (graT L).size ≤ 1007 * L.length := by
  have key : ∀ (L : List NN) (a : ByteArray), (∀ n ∈ L, Ln n) → (L.foldl (fun a n => a ++ lnTx n) a).size ≤ a.size + 1007 * L.length := by
    intro L
    induction L with
    | nil => intro a _; simp
    | cons n L ih =>
      intro a h
      have h1 := ih (a ++ lnTx n) (fun z hz => h z (List.mem_cons_of_mem _ hz))
      have h2 := lnTx_size (h n (List.mem_cons_self ..))
      rw [ByteArray.size_append] at h1
      rw [List.foldl_cons, List.length_cons]
      omega
  have := key L ⟨#[]⟩ h
  rw [show (ByteArray.mk #[]).size = 0 from rfl, Nat.zero_add] at this
  exact this

set_option maxRecDepth 100000 in
set_option maxHeartbeats 1600000 in
theorem graphText_c (v : Value) (L : List NN) (w : World) (h : NRow w v L) (hl : L.length ≤ 100) (hL : ∀ n ∈ L, Ln n) :
    Calls Tryz.prog 31 #[v] w fun e w' => e = .returned (.string (graT L)) ∧ Kp no w w' := by
  obtain ⟨a, cap, rfl⟩ := h.shape
  have HD := hide h
  clear h
  go_enter Tryz.func31, Tryz.ntmps31
  go_wp2
  go_loopg [3, 9] L.length (fun k tv iv wr => ∃ j : Nat, j ≤ L.length ∧ k = L.length - j ∧ iv = .int .i64 j ∧ tv = .string (graT (L.take j)) ∧ Kp no w wr)
  case atStart => exact ⟨0, Nat.zero_le _, rfl, rfl, rfl, Kp.refl _ _⟩
  case round =>
    obtain ⟨j, hj, hk, rfl, rfl, kr⟩ := hrel
    have HKK := hide hk
    have HKR := hide kr
    clear hk kr
    by_cases hlt : j < L.length
    · obtain ⟨nd, hnd⟩ : ∃ nd, L[j]? = some nd := ⟨_, List.getElem?_eq_getElem hlt⟩
      have HLN := hide (hL nd (List.mem_of_getElem? hnd))
      obtain ⟨_, gn, ha, hgn, n0, n1, n2, n3, n4, n5, n6, n7, n8, n9, n10⟩ := NRow.at (HKR.out.row HD.out (fun _ _ => no_elim)) hnd
      subst ha
      have HT := hide (graT_take L j nd hnd)
      have hsz : (graT (L.take j)).size ≤ 100700 := Nat.le_trans (graT_size (fun n hn => hL n (List.mem_of_mem_take hn))) (by rw [List.length_take]; omega)
      have hs2 := lnTx_size HLN.out
      have HC := hide (fun W => lineText_c nd W HLN.out)
      have hjI : (j : Int) < L.length := by omega
      generalize graT (L.take j) = acc at *
      generalize lnTx nd = ln at *
      clear hnd
      obtain ⟨tx, act, nx, ny, nw, ck, cn, ch, kd, yes, nno⟩ := nd
      dsimp only at *
      go_wp2_with fail
      refine (HC.out _).mono ?_
      rintro e w5 ⟨rfl, k5⟩
      go_wp2
      go_roundg (L.length - (j + 1))
      case measure => have := HKK.out; omega
      case rel => exact ⟨j + 1, by omega, rfl, by go_num, by rw [HT.out], (HKR.out.alloc _).trans k5 (fun _ _ e => e)⟩
    · obtain rfl : j = L.length := by omega
      rw [List.take_length]
      go_wp2
      go_ret
      exact ⟨rfl, HKR.out⟩
end Go.Proofs.YtellieabhaphhaaGreatDoor

/-
  narrow.Run, narrow.Graph.
-/
namespace Go.Proofs.YtellieabhaphhaaGreatDoor
open Go.RowKit

theorem nj_take (row : List NN) (j : Nat) : nj (row.take (j + 1)) = nj (row.take j) + (match row[j]? with | some n => if n.act ≠ 15 then 1 else 0 | none => 0) := by
  unfold nj
  rw [List.take_add_one, List.countP_append]
  cases row[j]? with
  | none => rfl
  | some n =>
    show _ + List.countP _ [n] = _ + _
    rw [List.countP_cons, List.countP_nil, Nat.zero_add]
    by_cases h : n.act = 15 <;> simp [h]

theorem ahdA_nj (row : List NN) (p : Nat) : ∀ j, ahdA row p j ≤ nj (row.take j)
  | 0 => Nat.zero_le _
  | j + 1 => by
    have := ahdA_nj row p j
    rw [ahdA, nj_take]
    cases row[j]? with
    | none => exact this
    | some n =>
      dsimp only
      by_cases h : n.act = 15
      · rw [if_neg (fun e => e.2 h), if_neg (fun e => e h)]; exact this
      · rw [if_pos h]
        split <;> omega

theorem nbhM_le (m : MS) (k : Int) : nbhM m k ≤ nj m.row := by
  have := ahdA_nj m.row (hopM m m.row.length (plcM m k)) m.row.length
  rw [List.take_length] at this
  exact this

theorem nodA_nj (m : MS) : ∀ j, (nodA m j).length = nj (m.row.take j)
  | 0 => rfl
  | j + 1 => by
    have := nodA_nj m j
    rw [nodA, nj_take, List.length_append, this]
    cases m.row[j]? with
    | none => rfl
    | some n =>
      dsimp only
      by_cases h : n.act = 15
      · rw [if_pos h, if_neg (fun e => e h)]; rfl
      · rw [if_neg h, if_pos h]; rfl

theorem nodM_nj (m : MS) : (nodM m).length = nj m.row := by
  have := nodA_nj m m.row.length
  rw [List.take_length] at this
  exact this

theorem nodA_mem (m : MS) : ∀ j n, n ∈ nodA m j → ∃ n0 ∈ m.row, n0.act ≠ 15 ∧ n = n0.setW (nbhM m n0.yes) (nbhM m n0.no)
  | 0, n, h => by cases h
  | j + 1, n, h => by
    rw [nodA] at h
    rcases List.mem_append.1 h with h | h
    · exact nodA_mem m j n h
    · cases hj : m.row[j]? with
      | none => rw [hj] at h; cases h
      | some n0 =>
        rw [hj] at h
        dsimp only at h
        by_cases ha : n0.act = 15
        · rw [if_pos ha] at h; cases h
        · rw [if_neg ha] at h
          obtain rfl : n = _ := by simpa using h
          exact ⟨n0, List.mem_of_getElem? hj, ha, rfl⟩

/-- A node as the maker leaves it. -/
def SN (n : NN) : Prop := ∃ nd tx y z, n = encN nd tx y z ∧ Gn nd ∧ tx.size ≤ 1000 ∧ (0 ≤ y ∧ y ≤ 90) ∧ (0 ≤ z ∧ z ≤ 90) ∧ TxP nd tx

theorem src_nodes {s : ByteArray} (hs : s.size ≤ 180) (h : (srE s).1 = 0) : (∀ n ∈ nodM (srM s), SN n) ∧ (nodM (srM s)).length ≤ 90 := by
  obtain ⟨_, g2, g3, _⟩ := srM_good hs h
  refine ⟨fun n hn => ?_, by rw [nodM_nj]; exact g2⟩
  obtain ⟨n0, h1, h2, rfl⟩ := nodA_mem (srM s) _ n hn
  rcases g3 n0 h1 with h3 | ⟨_, nd, tx, y, z, rfl, hg, ht, hp⟩
  · exact absurd h3 h2
  · have b1 := nbhM_le (srM s) (encN nd tx y z).yes
    have b2 := nbhM_le (srM s) (encN nd tx y z).no
    exact ⟨nd, tx, _, _, encW nd tx y z _ _, hg, ht, ⟨Int.natCast_nonneg _, by omega⟩, ⟨Int.natCast_nonneg _, by omega⟩, hp⟩

set_option maxRecDepth 100000 in
set_option maxHeartbeats 1600000 in
theorem nrun_good (s inp : ByteArray) (fuel : Nat) (w : World) (hm : inp.size ≤ 40) (h : fuel ≤ 300) (hs : s.size ≤ 180) (hb : (srE s).1 = 0) (ht : Tab w) (nds : List Nd) (hq : NEq (nodM (srM s)) nds) (hl : nds.length ≤ 100) (F : Nat) (mc' : Mc) (hE : wkF F nds inp (mc0 fuel) 0 = some mc') :
    Calls Tryz.prog 32 #[.string s, .string inp, .int .i64 fuel] w fun e w' => e = .returned (.tuple #[.string mc'.tr, .string mc'.out, .int .i64 (endE mc'.e)]) ∧ Kp no w w' := by
  have hm2 : inp.size ≤ maxLen := by unfold maxLen; omega
  have HG := hide (nwithin_c inp fuel w hm2)
  rw [decide_eq_true (by omega)] at HG
  have HS := hide (nos_c s w hs)
  unfold SrcP at HS
  rw [hb] at HS
  have HE := hide hE
  have HQ := hide hq
  clear hb hE hq
  go_enter Tryz.func32, Tryz.ntmps32
  go_wp2_with fail
  refine HG.out.mono ?_
  rintro e w1 ⟨rfl, rfl⟩
  go_wp2_with fail
  refine HS.out.mono ?_
  rintro e w2 ⟨v, rfl, k2, hpost⟩
  obtain ⟨hR, hO⟩ := hpost trivial
  have HW := hide (nwalk_c v _ _ inp fuel w2 hR HQ.out hl hm h (ht.kp k2 no_elim) F mc' HE.out)
  clear hO hpost HE HS HG HQ
  generalize nodM (srM s) = L at *
  obtain ⟨a, cap, rfl⟩ := hR.shape
  clear hR
  go_wp2_with fail
  refine HW.out.mono ?_
  rintro e w3 ⟨rfl, k3⟩
  go_wp2
  go_ret3
  exact ⟨rfl, k2.trans k3 (fun _ _ e => e)⟩

def gr3 (t : ByteArray) (e p : Int) : Ending := .returned (.tuple #[.string t, .int .i64 e, .int .i64 p])

theorem SN.ln {n : NN} (h : SN n) : Ln n := by
  obtain ⟨nd, tx, y, z, rfl, _, ht, hy, hz, _⟩ := h
  exact ⟨ht, fun _ => by show 0 ≤ y ∧ y < 100; omega, fun _ => by show 0 ≤ z ∧ z < 100; omega⟩

set_option maxHeartbeats 1600000 in
theorem ngraph_good (s : ByteArray) (w : World) (hs : s.size ≤ 180) (hb : (srE s).1 = 0) :
    Calls Tryz.prog 16 #[.string s] w fun e w' => e = gr3 (graT (nodM (srM s))) 0 0 ∧ Kp no w w' := by
  have HS := hide (nos_c s w hs)
  obtain ⟨hsn, hlen⟩ := src_nodes hs hb
  unfold SrcP at HS
  rw [hb] at HS
  have HGT := hide (fun u W hW => graphText_c u (nodM (srM s)) W hW (by omega) (fun n hn => (hsn n hn).ln))
  clear hb hsn
  generalize nodM (srM s) = L at *
  go_enter Tryz.func16, Tryz.ntmps16
  go_wp2_with fail
  refine HS.out.mono ?_
  rintro e w2 ⟨v, rfl, k2, hpost⟩
  obtain ⟨hR, hO⟩ := hpost trivial
  have HR := hide hR
  obtain ⟨a, cap, rfl⟩ := hR.shape
  clear hO hpost HS hR
  go_wp2_with fail
  refine (HGT.out _ _ (by exact HR.out)).mono ?_
  rintro e w5 ⟨rfl, k5⟩
  go_wp2
  go_ret3
  exact ⟨rfl, k2.trans k5 (fun _ _ e => e)⟩
end Go.Proofs.YtellieabhaphhaaGreatDoor

/-
  Plain: a graph's nodes are well made.
-/
namespace Go.Proofs.YtellieabhaphhaaGreatDoor
open Go.RowKit

theorem lineF_items (s : ByteArray) (st : RS) : (lineF s st).items = st.items := by
  simp only [lineF]; split <;> rfl

theorem lnsF_gd : ∀ (f : Nat) (s : ByteArray) (st : RS), st.bad = false → (∀ n ∈ st.nodes, Gd s n) → (lnsF f s st).items = st.items ∧ ((lnsF f s st).bad = false → ∀ n ∈ (lnsF f s st).nodes, Gd s n) := by
  intro f
  induction f with
  | zero => intro s st _ h; exact ⟨rfl, fun _ => h⟩
  | succ f ih =>
    intro s st hb h
    rw [lnsF]
    split
    · rename_i hc
      split
      · exact ⟨rfl, fun e => by cases e⟩
      · cases hb2 : (lineF s st).bad
        · obtain ⟨nd, h1, h2, _⟩ := lineF_gd s st hc.2 hb2
          have := ih s (lineF s st) hb2 (fun n hn => by
            rw [h1, List.mem_append, List.mem_singleton] at hn
            rcases hn with h' | rfl
            · exact h n h'
            · exact h2)
          exact ⟨this.1.trans (lineF_items s st), this.2⟩
        · rw [lns_stop f s (lineF s st) (by rw [hb2]; simp)]
          exact ⟨lineF_items s st, fun e => by rw [hb2] at e; cases e⟩
    · exact ⟨rfl, fun _ => h⟩

theorem graF_gd (s : ByteArray) : (graF s).items = [] ∧ ((graF s).bad = false → ∀ n ∈ (graF s).nodes, Gd s n) :=
  lnsF_gd _ s rs0 rfl (fun n hn => by simp [rs0] at hn)

theorem graE_zero (s : ByteArray) (h : (graE s).1 = 0) : graE s = (0, 0) ∧ (graF s).bad = false := by
  unfold graE at h ⊢
  split
  · rename_i hb; rw [if_pos hb] at h; simp at h
  · rename_i hb
    rw [if_neg hb] at h
    refine ⟨?_, by simpa using hb⟩
    split
    · rename_i hl; rw [hl] at h; simp at h
    · rfl
end Go.Proofs.YtellieabhaphhaaGreatDoor

/-
  Longer: its helpers.
-/
namespace Go.Proofs.YtellieabhaphhaaGreatDoor
open Go.RowKit

/-- One call of Walk. -/
def WlkIs (s inp : ByteArray) (fuel : Int) (t u : ByteArray) (c : Int) : Prop :=
  ∀ W, Tab W → Calls Tryz.prog 33 #[.string s, .string inp, .int .i64 fuel] W fun e w' => e = .returned (.tuple #[.string t, .string u, .int .i64 c]) ∧ Kp no W w'

/-- The first with less fuel, the second with more. -/
def Fur (t u : ByteArray) (c : Int) (t' u' : ByteArray) (c' : Int) : Prop := (c ≠ 4 → t' = t ∧ u' = u ∧ c' = c) ∧ (c = 4 → Pre t t' ∧ Pre u u')
theorem Fur.refl (t u : ByteArray) (c : Int) : Fur t u c t u c := ⟨fun _ => ⟨rfl, rfl, rfl⟩, fun _ => ⟨Pre.refl _, Pre.refl _⟩⟩

theorem endE_4 (e : Int) : endE e = 4 ↔ e = 4 := by
  unfold endE
  split
  · rename_i h; subst h; decide
  · exact Iff.rfl

theorem lineF_nodes (s : ByteArray) (st : RS) : (lineF s st).nodes ≠ [] ∨ ((lineF s st).bad = true ∧ (lineF s st).nodes = st.nodes) := by
  unfold lineF
  split
  · exact .inr ⟨rfl, rfl⟩
  · exact .inl (by simp)

theorem lnsF_some : ∀ (f : Nat) (s : ByteArray) (st : RS), st.nodes ≠ [] → (lnsF f s st).nodes ≠ [] := by
  intro f
  induction f with
  | zero => intro s st h; exact h
  | succ f ih =>
    intro s st h
    unfold lnsF
    split
    · split
      · exact h
      · refine ih s _ ?_
        rcases lineF_nodes s st with h1 | ⟨_, h1⟩
        · exact h1
        · rw [h1]; exact h
    · exact h

theorem graF_none (s : ByteArray) (hb : (graF s).bad = false) (hn : (graF s).nodes = []) : s = ⟨#[]⟩ := by
  have h0 : s.size = 0 := by
    rcases Nat.eq_zero_or_pos s.size with h | h
    · exact h
    · exfalso
      have e : graF s = lnsF s.size s (lineF s rs0) := by
        unfold graF
        rw [lnsF, if_pos ⟨rfl, h⟩, if_neg (by decide)]
      rw [e] at hb hn
      rcases lineF_nodes s rs0 with h1 | ⟨h1, _⟩
      · exact lnsF_some _ _ _ h1 hn
      · rw [lns_stop _ _ _ (fun k => by rw [h1] at k; cases k.1), h1] at hb
        cases hb
  obtain ⟨⟨l⟩⟩ := s
  have : l.length = 0 := h0
  obtain rfl := List.length_eq_zero_iff.1 this
  rfl

end Go.Proofs.YtellieabhaphhaaGreatDoor

/-
  narrow's Accept.
-/
namespace Go.Proofs.YtellieabhaphhaaGreatDoor
open Go.RowKit

theorem sub_not : ∀ a : Fin 128, ∀ t : Fin 128, ((((a : Nat) &&& (127 ^^^ (t : Nat)) : Nat) : Int) != 0) = !decide ((a : Nat) &&& (t : Nat) = (a : Nat)) := by
  intro a t
  have ha := a.2
  have ht := t.2
  have key : ((a : Nat) &&& (127 ^^^ (t : Nat)) = 0) ↔ (a : Nat) &&& (t : Nat) = (a : Nat) := by
    constructor
    · intro h
      refine Nat.eq_of_testBit_eq fun i => ?_
      have hh := congrArg (fun z => z.testBit i) h
      simp only [Nat.testBit_and, Nat.testBit_xor, Nat.zero_testBit] at hh
      rw [Nat.testBit_and]
      by_cases hi : i < 7
      · have h127 : Nat.testBit 127 i = true := by
          rcases (show i = 0 ∨ i = 1 ∨ i = 2 ∨ i = 3 ∨ i = 4 ∨ i = 5 ∨ i = 6 by omega) with rfl | rfl | rfl | rfl | rfl | rfl | rfl <;> decide
        rw [h127] at hh
        revert hh
        cases Nat.testBit (a : Nat) i <;> cases Nat.testBit (t : Nat) i <;> simp
      · have h2 : 128 ≤ 2 ^ i := by
          have : 2 ^ 7 ≤ 2 ^ i := Nat.pow_le_pow_right (by decide) (by omega)
          omega
        rw [Nat.testBit_lt_two_pow (show (a : Nat) < 2 ^ i by omega)]
        simp
    · intro h
      refine Nat.eq_of_testBit_eq fun i => ?_
      have hh := congrArg (fun z => z.testBit i) h
      simp only [Nat.testBit_and] at hh
      rw [Nat.testBit_and, Nat.testBit_xor, Nat.zero_testBit]
      by_cases hi : i < 7
      · have h127 : Nat.testBit 127 i = true := by
          rcases (show i = 0 ∨ i = 1 ∨ i = 2 ∨ i = 3 ∨ i = 4 ∨ i = 5 ∨ i = 6 by omega) with rfl | rfl | rfl | rfl | rfl | rfl | rfl <;> decide
        rw [h127]
        revert hh
        cases Nat.testBit (a : Nat) i <;> cases Nat.testBit (t : Nat) i <;> simp
      · have h2 : 128 ≤ 2 ^ i := by
          have : 2 ^ 7 ≤ 2 ^ i := Nat.pow_le_pow_right (by decide) (by omega)
          omega
        rw [Nat.testBit_lt_two_pow (show (a : Nat) < 2 ^ i by omega)]
        simp
  by_cases h : (a : Nat) &&& (t : Nat) = (a : Nat)
  · rw [decide_eq_true h, key.2 h]; rfl
  · rw [decide_eq_false h]
    have : ¬ ((a : Nat) &&& (127 ^^^ (t : Nat)) = 0) := fun e => h (key.1 e)
    simpa using this

theorem or_sub (a b t : Nat) : ((a ||| b) &&& t = a ||| b) ↔ (a &&& t = a ∧ b &&& t = b) := by
  constructor
  · intro h
    have hb : ∀ i, (a.testBit i || b.testBit i) = true → t.testBit i = true := fun i hi => by
      have hh := congrArg (fun z => z.testBit i) h
      simp only [Nat.testBit_and, Nat.testBit_or] at hh
      rw [hi] at hh
      simpa using hh
    constructor
    · refine Nat.eq_of_testBit_eq fun i => ?_
      rw [Nat.testBit_and]
      cases e : a.testBit i
      · rfl
      · rw [hb i (by rw [e]; rfl)]; rfl
    · refine Nat.eq_of_testBit_eq fun i => ?_
      rw [Nat.testBit_and]
      cases e : b.testBit i
      · rfl
      · rw [hb i (by rw [e, Bool.or_true])]; rfl
  · rintro ⟨h1, h2⟩
    rw [Nat.and_or_distrib_right, h1, h2]

/-- Why narrow says that a node can't take a state. -/
theorem fau_or {n : Nd} {S : St} {y v : Nat} (hy : n.y = y) (hv : n.v = v) (h0 : S ≠ []) (h33 : n.op ≠ 33) :
    fauF n S = if ((S.getD y 0 ||| S.getD (if n.op = 43 ∨ n.op = 60 then v else y) 0) &&& tkN n.op = S.getD y 0 ||| S.getD (if n.op = 43 ∨ n.op = 60 then v else y) 0) then 0 else 5 := by
  rw [fauF, if_neg h0, fitF, hy, hv, Int.toNat_natCast, Int.toNat_natCast, decide_eq_true h33, Bool.and_true, if_neg h33]
  by_cases ht : n.op = 43 ∨ n.op = 60
  · rw [if_pos ht, if_pos ht]
    by_cases h1 : S.getD y 0 &&& tkN n.op = S.getD y 0 ∧ S.getD v 0 &&& tkN n.op = S.getD v 0
    · rw [if_pos ((or_sub _ _ _).2 h1), decide_eq_true h1.1, decide_eq_true h1.2]; rfl
    · rw [if_neg (fun e => h1 ((or_sub _ _ _).1 e)), if_neg]
      intro e
      rw [Bool.and_eq_true, decide_eq_true_iff, decide_eq_true_iff] at e
      exact h1 e
  · rw [if_neg ht, if_neg ht, Nat.or_self, Bool.and_true]
    by_cases h1 : S.getD y 0 &&& tkN n.op = S.getD y 0
    · rw [if_pos h1, decide_eq_true h1]; rfl
    · rw [if_neg h1, decide_eq_false h1]; rfl
end Go.Proofs.YtellieabhaphhaaGreatDoor
