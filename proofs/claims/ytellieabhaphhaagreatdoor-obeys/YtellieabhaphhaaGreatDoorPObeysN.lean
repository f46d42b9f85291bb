import Derived.Test.YtellieabhaphhaaGreatDoorPObeysM
/-
  narrow's maker: the walk of statements.
-/
namespace Go.Proofs.YtellieabhaphhaaGreatDoor
open Go.RowKit

theorem pkb_bad {s : ByteArray} {m : MS} (h : m.p.2 = true) : pkb s m.p = 0 := by simp [pkb, h]

set_option maxHeartbeats 3200000 in
theorem statements_m {f : Nat} (ih : ∀ k, k < f → StmSaid k) : StmSaid f := by
  intro r s h b m hs hf hI w O hM
  have IH := hide ih
  clear ih
  go_enter Tryz.func53, Tryz.ntmps53
  go_wp2
  go_loopg [] f (fun k wr => ∃ m' O', Mp wr r s m' O' ∧ Th O w O' wr ∧ MI s m' ∧ (m'.p.2 = false → s.size - m'.p.1 < k) ∧ k ≤ f ∧ stmM f s h b m = stmM k s h b m')
  case atStart => exact ⟨m, O, hM, Th.refl O w, hI, hf, Nat.le_refl _, rfl⟩
  case round =>
    obtain ⟨m', O', h', T', hI', hk, hkf, hE⟩ := hrel
    have HE := hide hE
    have HI' := hide hI'
    have HT := hide T'
    have HK := hide hk
    have HKF := hide hkf
    have HP := hide (mpeek_w h' (by omega) hI'.i)
    obtain ⟨c0, c1, c2, cf⟩ := h'.c
    clear hE hI' T' hk hkf hI hf hM
    cases hb' : m'.p.2
    · rw [hb'] at c2
      by_cases hstop : pkb s m'.p = 125 ∨ pkb s m'.p = 0
      · have HS := hide (stmM_stop gk s h b m' hstop)
        generalize pkb s m'.p = d at *
        rcases hstop with rfl | rfl
        all_goals
          go_wp2_with fail
          refine HP.out.mono ?_
          rintro x w2 ⟨rfl, nq, rfl⟩
          go_wp2
          refine bodyPost_ret (results_none rfl _ _ _) rfl ?_
          rw [HE.out, HS.out]
          exact ⟨rfl, O', h'.n _, HT.out.n _⟩
      · have hk0 := HK.out hb'
        obtain ⟨k, rfl⟩ : ∃ k, gk = k + 1 := ⟨gk - 1, by omega⟩
        have HR := hide (show stmM (k + 1) s h b m' = stmM k s h b (stM k (stmM k s) s h b m') by rw [stmM, if_pos (by omega)])
        have HG := hide (stM_mg (h := h) (b := b) (stmM_mg k s) (fun e => hstop (.inr e)) hk0)
        have hIH := IH.out k (by have := HKF.out; omega)
        by_cases h1 : pkb s m'.p = 40
        · have HX := hide (show MStep r s 93 #[.pointer (some ⟨r, 0, none⟩), .int .i64 h, .int .i64 b] (.tuple #[]) m' (stM k (stmM k s) s h b m') by rw [stM, if_pos h1]; exact cho_step hIH hs h1 hk0 HI'.out)
          rw [h1] at HP
          generalize stM k (stmM k s) s h b m' = m2 at *
          clear h1 hstop hIH
          go_wp2_with fail
          refine HP.out.mono ?_
          rintro x w2 ⟨rfl, nq, rfl⟩
          go_wp2_with fail
          refine (HX.out _ _ (h'.n nq)).mono ?_
          rintro x w3 ⟨rfl, O3, h3, t3⟩
          go_wp2
          go_roundg k
          case measure => omega
          case rel => exact ⟨m2, O3, h3, (HT.out.n nq).trans t3, HI'.out.mg HG.out.1, fun hb2 => by have := HG.out.2 hb2; have := HG.out.1.i; omega, by have := HKF.out; omega, by rw [HE.out, HR.out]⟩
        by_cases h2 : pkb s m'.p = 91
        · have HX := hide (show MStep r s 94 #[.pointer (some ⟨r, 0, none⟩)] (.tuple #[]) m' (stM k (stmM k s) s h b m') by rw [stM, if_neg h1, if_pos h2]; exact lop_step hIH hs h2 hk0 HI'.out)
          rw [h2] at HP
          generalize stM k (stmM k s) s h b m' = m2 at *
          clear h1 h2 hstop hIH
          go_wp2_with fail
          refine HP.out.mono ?_
          rintro x w2 ⟨rfl, nq, rfl⟩
          go_wp2_with fail
          refine (HX.out _ _ (h'.n nq)).mono ?_
          rintro x w3 ⟨rfl, O3, h3, t3⟩
          go_wp2
          go_roundg k
          case measure => omega
          case rel => exact ⟨m2, O3, h3, (HT.out.n nq).trans t3, HI'.out.mg HG.out.1, fun hb2 => by have := HG.out.2 hb2; have := HG.out.1.i; omega, by have := HKF.out; omega, by rw [HE.out, HR.out]⟩
        by_cases h3 : pkb s m'.p = 62
        · have HX := hide (show MStep r s 95 #[.pointer (some ⟨r, 0, none⟩), .string ⟨#[62, 59]⟩, .int .i64 b] (.tuple #[]) m' (stM k (stmM k s) s h b m') by rw [stM, if_neg h1, if_neg h2, if_pos h3]; exact lep_step ⟨#[62, 59]⟩ b hs (by decide) (by decide) HI'.out)
          rw [h3] at HP
          generalize stM k (stmM k s) s h b m' = m2 at *
          clear h1 h2 h3 hstop hIH
          go_wp2_with fail
          refine HP.out.mono ?_
          rintro x w2 ⟨rfl, nq, rfl⟩
          go_wp2_with fail
          refine (HX.out _ _ (h'.n nq)).mono ?_
          rintro x w3 ⟨rfl, O3, h3, t3⟩
          go_wp2
          go_roundg k
          case measure => omega
          case rel => exact ⟨m2, O3, h3, (HT.out.n nq).trans t3, HI'.out.mg HG.out.1, fun hb2 => by have := HG.out.2 hb2; have := HG.out.1.i; omega, by have := HKF.out; omega, by rw [HE.out, HR.out]⟩
        by_cases h4 : pkb s m'.p = 60
        · have HX := hide (show MStep r s 95 #[.pointer (some ⟨r, 0, none⟩), .string ⟨#[60, 59]⟩, .int .i64 h] (.tuple #[]) m' (stM k (stmM k s) s h b m') by rw [stM, if_neg h1, if_neg h2, if_neg h3, if_pos h4]; exact lep_step ⟨#[60, 59]⟩ h hs (by decide) (by decide) HI'.out)
          rw [h4] at HP
          generalize stM k (stmM k s) s h b m' = m2 at *
          clear h1 h2 h3 h4 hstop hIH
          go_wp2_with fail
          refine HP.out.mono ?_
          rintro x w2 ⟨rfl, nq, rfl⟩
          go_wp2_with fail
          refine (HX.out _ _ (h'.n nq)).mono ?_
          rintro x w3 ⟨rfl, O3, h3, t3⟩
          go_wp2
          go_roundg k
          case measure => omega
          case rel => exact ⟨m2, O3, h3, (HT.out.n nq).trans t3, HI'.out.mg HG.out.1, fun hb2 => by have := HG.out.2 hb2; have := HG.out.1.i; omega, by have := HKF.out; omega, by rw [HE.out, HR.out]⟩
        · have hbc := bc_le m'.p
          have HX := hide (show MStep r s 96 #[.pointer (some ⟨r, 0, none⟩)] (.tuple #[]) m' (stM k (stmM k s) s h b m') by rw [stM, if_neg h1, if_neg h2, if_neg h3, if_neg h4]; exact act_step (by omega) HI'.out (fun e => hstop (.inr e)))
          have f1 : ((pkb s m'.p : Int) == 40) = false := by simp; omega
          have f2 : ((pkb s m'.p : Int) == 91) = false := by simp; omega
          have f3 : ((pkb s m'.p : Int) == 62) = false := by simp; omega
          have f4 : ((pkb s m'.p : Int) == 60) = false := by simp; omega
          have f5 : ((pkb s m'.p : Int) == 125) = false := by simp; omega
          have f6 : ((pkb s m'.p : Int) == 0) = false := by simp; omega
          generalize stM k (stmM k s) s h b m' = m2 at *
          generalize pkb s m'.p = d at *
          clear h1 h2 h3 h4 hstop hIH hbc
          go_wp2_with fail
          refine HP.out.mono ?_
          rintro x w2 ⟨rfl, nq, rfl⟩
          go_wp2_with fail
          refine (HX.out _ _ (h'.n nq)).mono ?_
          rintro x w3 ⟨rfl, O3, h3, t3⟩
          go_wp2
          go_roundg k
          case measure => omega
          case rel => exact ⟨m2, O3, h3, (HT.out.n nq).trans t3, HI'.out.mg HG.out.1, fun hb2 => by have := HG.out.2 hb2; have := HG.out.1.i; omega, by have := HKF.out; omega, by rw [HE.out, HR.out]⟩
    · rw [hb'] at c2
      have HS := hide (stmM_stop gk s h b m' (.inr (pkb_bad hb')))
      generalize pkb s m'.p = d at *
      go_wp2
      go_end0
      rw [HE.out, HS.out]
      exact ⟨rfl, O', h', HT.out⟩

theorem stm_all : ∀ f, StmSaid f := by
  intro f
  induction f using Nat.strongRecOn with
  | _ f ih => exact statements_m ih
end Go.Proofs.YtellieabhaphhaaGreatDoor

/-
  narrow's maker: places, and the nodes ahead of them.
-/
namespace Go.Proofs.YtellieabhaphhaaGreatDoor
open Go.RowKit

def plcM (m : MS) (k : Int) : Nat := if k < 0 ∨ (m.marks.length : Int) ≤ k then m.row.length else m.marks.getD k.toNat 0

/-- How many nodes of the first j stand ahead of the place p. -/
def ahdA (row : List NN) (p : Nat) : Nat → Nat
  | 0 => 0
  | j + 1 => ahdA row p j + (match row[j]? with | some n => if j < p ∧ n.act ≠ 15 then 1 else 0 | none => 0)

def ahdM (row : List NN) (p : Nat) : Nat := ahdA row p row.length

def hopM (m : MS) : Nat → Nat → Nat
  | 0, p => p
  | f + 1, p => match m.row[p]? with | none => p | some n => if n.act = 15 then hopM m f (plcM m n.yes) else p

def nbhM (m : MS) (k : Int) : Nat := ahdM m.row (hopM m m.row.length (plcM m k))

def nodA (m : MS) : Nat → List NN
  | 0 => []
  | j + 1 => nodA m j ++ (match m.row[j]? with | some n => if n.act = 15 then [] else [n.setW (nbhM m n.yes) (nbhM m n.no)] | none => [])

/-- The nodes of the row. -/
def nodM (m : MS) : List NN := nodA m m.row.length

theorem ahdA_le (row : List NN) (p : Nat) : ∀ j, ahdA row p j ≤ j
  | 0 => Nat.le_refl _
  | j + 1 => by
    have := ahdA_le row p j
    rw [ahdA]
    have h2 : (match row[j]? with | some n => if j < p ∧ n.act ≠ 15 then 1 else 0 | none => 0) ≤ 1 := by
      split
      · split <;> decide
      · decide
    omega

theorem nodA_le (m : MS) : ∀ j, (nodA m j).length ≤ j
  | 0 => Nat.le_refl _
  | j + 1 => by
    have := nodA_le m j
    rw [nodA, List.length_append]
    have h2 : (match m.row[j]? with | some n => if n.act = 15 then [] else [n.setW (nbhM m n.yes) (nbhM m n.no)] | none => ([] : List NN)).length ≤ 1 := by
      split
      · split <;> simp
      · simp
    omega

theorem MRow.shape {w : World} {v : Value} {l : List Nat} (h : MRow w v l) : ∃ a cap, v = .slice a l.length cap := by
  rcases h.2 with ⟨rfl, h0⟩ | ⟨g, cap, cur, rfl, _⟩
  · exact ⟨none, 0, by rw [h0]⟩
  · exact ⟨_, _, rfl⟩

/-- The maker, opened: its block and its rows, read alone. -/
structure Mo (w : World) (r : Nat) (s : ByteArray) (m : MS) (nv iv : Value) : Prop where
  b : Blk w r [.string s, .int .i64 m.p.1, .bool m.p.2, nv, iv] 84
  n : NRow w nv m.row
  i : MRow w iv m.marks

theorem Mo.kp {w w' : World} {r : Nat} {s : ByteArray} {m : MS} {nv iv : Value} (h : Mo w r s m nv iv) (k : Kp no w w') : Mo w' r s m nv iv :=
  ⟨k.blk h.b no_elim, k.row h.n (fun _ _ => no_elim), k.row h.i (fun _ _ => no_elim)⟩

set_option maxHeartbeats 800000 in
theorem placeOf_c {r : Nat} {s : ByteArray} {m : MS} {nv iv : Value} (k : Int) (w : World) (h : Mo w r s m nv iv) :
    Calls Tryz.prog 139 #[.pointer (some ⟨r, 0, none⟩), .int .i64 k] w fun e w' => e = .returned (.int .i64 (plcM m k)) ∧ Kp no w w' := by
  have hr := h.b.lt
  have q3 := h.b.cell 3
  have q4 := h.b.cell 4
  simp only [List.getElem?_cons_zero, List.getElem?_cons_succ] at q3 q4
  have qf := h.b.frozen
  obtain ⟨a, cap, rfl⟩ := h.n.shape
  by_cases h0 : k < 0
  · have HV := hide (show plcM m k = m.row.length by rw [plcM, if_pos (.inl h0)])
    obtain ⟨a2, cap2, rfl⟩ := h.i.shape
    clear h
    go_enter Tryz.func139, Tryz.ntmps139
    go_wp2
    go_ret
    rw [HV.out]
    exact ⟨rfl, by (repeat' (first | with_reducible exact Kp.refl _ _ | with_reducible refine Kp.alloc ?_ _ | with_reducible refine Kp.drewN ?_ _ | with_reducible refine Kp.drew ?_ | with_reducible refine Kp.setCell ?_ _ ?_ | (intro hh; first | rfl | exact .inl rfl | exact .inr rfl | (exfalso; (try dsimp only at hh); omega))))⟩
  by_cases h1 : (m.marks.length : Int) ≤ k
  · have HV := hide (show plcM m k = m.row.length by rw [plcM, if_pos (.inr h1)])
    obtain ⟨a2, cap2, rfl⟩ := h.i.shape
    clear h
    go_enter Tryz.func139, Tryz.ntmps139
    go_wp2
    go_ret
    rw [HV.out]
    exact ⟨rfl, by (repeat' (first | with_reducible exact Kp.refl _ _ | with_reducible refine Kp.alloc ?_ _ | with_reducible refine Kp.drewN ?_ _ | with_reducible refine Kp.drew ?_ | with_reducible refine Kp.setCell ?_ _ ?_ | (intro hh; first | rfl | exact .inl rfl | exact .inr rfl | (exfalso; (try dsimp only at hh); omega))))⟩
  · obtain ⟨k, rfl⟩ := Int.eq_ofNat_of_zero_le (Int.not_lt.1 h0)
    have hk : k < m.marks.length := by omega
    obtain ⟨g, cap2, rfl, _, hg⟩ := World.ownsRow.form h.i (by omega)
    have HV := hide (show plcM m k = m.marks[k] by rw [plcM, if_neg (by omega), Int.toNat_natCast, List.getD_eq_getElem?_getD, List.getElem?_eq_getElem hk]; rfl)
    have ck : w.cell? ⟨g, k, none⟩ = some (.int .i64 m.marks[k]) := by
      have := Row.cell h.i k (by omega)
      rw [this, mCells, List.getElem?_map, List.getElem?_eq_getElem hk]; rfl
    have cf := Row.frozen h.i
    clear h
    generalize m.marks[k] = mk at *
    go_enter Tryz.func139, Tryz.ntmps139
    go_wp2
    go_ret
    rw [HV.out]
    exact ⟨rfl, by (repeat' (first | with_reducible exact Kp.refl _ _ | with_reducible refine Kp.alloc ?_ _ | with_reducible refine Kp.drewN ?_ _ | with_reducible refine Kp.drew ?_ | with_reducible refine Kp.setCell ?_ _ ?_ | (intro hh; first | rfl | exact .inl rfl | exact .inr rfl | (exfalso; (try dsimp only at hh); omega))))⟩
end Go.Proofs.YtellieabhaphhaaGreatDoor

/-
  narrow's nodes: a row that grows.
-/
namespace Go.Proofs.YtellieabhaphhaaGreatDoor
open Go.RowKit

/-- The nodes that are left so far. -/
structure KN (w0 w : World) (v : Value) (l : List NN) : Prop where
  r : NRow w v l
  o : New w0 v

theorem KN.kp {w0 w w' : World} {v : Value} {l : List NN} (h : KN w0 w v l) (k : Kp no w w') : KN w0 w' v l := ⟨k.row h.r (fun _ _ => no_elim), h.o⟩
theorem KN.set {w0 w : World} {v : Value} {l : List NN} (h : KN w0 w v l) {b o : Nat} (u : Value) (hb : v.ownBlock ≠ some b) : KN w0 (w.setCell ⟨b, o, none⟩ u) v l := ⟨Row.set h.r _ hb, h.o⟩

theorem nncells_snoc {l : List NN} {n : NN} : nnCells (l ++ [n]) = nnCells l ++ n.cells := by
  rw [nnCells, List.flatMap_append, ← nnCells, List.flatMap_cons, List.flatMap_nil, List.append_nil]

theorem nrow_snoc {W' : World} {l : List NN} {n : NN} {g cap : Nat}
    (hown : W'.ownsRow 0 91 11 (.slice (some ⟨g, 0, none⟩) (l.length + 1) cap) (l.length + 1) (nnCells l ++ n.cells)) : NRow W' (.slice (some ⟨g, 0, none⟩) (l.length + 1) cap) (l ++ [n]) := by
  have e4 : (l ++ [n]).length = l.length + 1 := List.length_append
  show World.ownsRow W' 0 91 11 _ (l ++ [n]).length (nnCells (l ++ [n]))
  rw [nncells_snoc, e4]
  exact hown

theorem KN.app {w0 W W' : World} {v : Value} {l : List NN} {o : Obj} {g cap : Nat} (n : NN) (h : KN w0 W v l) (hk : Kp no w0 W)
    (hown : W'.ownsRow 0 91 11 (.slice (some ⟨g, 0, none⟩) (l.length + 1) cap) (l.length + 1) (nnCells l ++ n.cells)) (hgrow : (W.alloc o).grownBy W' v.ownBlock) (hat : v.ownBlock = some g ∨ g = (W.alloc o).heap.size) :
    KN w0 W' (.slice (some ⟨g, 0, none⟩) (l.length + 1) cap) (l ++ [n]) ∧ Kp no w0 W' :=
  ⟨⟨nrow_snoc hown, (app_step h.o hk hgrow hat (l.length + 1) cap).1⟩, (app_step h.o hk hgrow hat (l.length + 1) cap).2⟩

end Go.Proofs.YtellieabhaphhaaGreatDoor

/-
  narrow's maker: the nodes of its row.
-/
namespace Go.Proofs.YtellieabhaphhaaGreatDoor
open Go.RowKit

set_option maxHeartbeats 1600000 in
theorem nodesAhead_c {r : Nat} {s : ByteArray} {m : MS} {nv iv : Value} (p : Nat) (w : World) (h : Mo w r s m nv iv) (hl : m.row.length ≤ 2000) :
    Calls Tryz.prog 140 #[.pointer (some ⟨r, 0, none⟩), .int .i64 p] w fun e w' => e = .returned (.int .i64 (ahdM m.row p)) ∧ Kp no w w' := by
  have hr := h.b.lt
  have q3 := h.b.cell 3
  simp only [List.getElem?_cons_zero, List.getElem?_cons_succ] at q3
  have qf := h.b.frozen
  obtain ⟨a, cap, rfl⟩ := h.n.shape
  have HN := hide h.n
  have HF : Hid (ahdM m.row p = ahdA m.row p m.row.length) := rfl
  clear h
  generalize m.row = row at *
  go_enter Tryz.func140, Tryz.ntmps140
  go_wp2
  go_loopg [5, 13] row.length (fun k cv jv wr => ∃ j : Nat, j ≤ row.length ∧ k = row.length - j ∧ jv = .int .i64 j ∧ cv = .int .i64 (ahdA row p j) ∧ Kp no w wr)
  case atStart => exact ⟨0, Nat.zero_le _, rfl, rfl, rfl, Kp.refl _ _⟩
  case round =>
    obtain ⟨j, hj, hk, rfl, rfl, kr⟩ := hrel
    have HK := hide kr
    have HKK := hide hk
    clear kr hk
    by_cases hlt : j < row.length
    · obtain ⟨_, g, rfl, hg, q0, q1, q2, q3, q4, q5, q6, q7, q8, q9, q10⟩ := NRow.at (HK.out.row HN.out (fun _ _ => no_elim)) (List.getElem?_eq_getElem hlt)
      have HS := hide (show ahdA row p (j + 1) = ahdA row p j + (if j < p ∧ row[j].act ≠ 15 then 1 else 0) by rw [ahdA, List.getElem?_eq_getElem hlt])
      have hc := ahdA_le row p j
      clear HN HF
      generalize ahdA row p j = c at *
      generalize row[j] = n at *
      obtain ⟨tx, act, nx, ny, nw, ck, cn, ch, kd, yes, nno⟩ := n
      dsimp only at *
      have hqI : (j : Int) < row.length := by omega
      by_cases b1 : j < p
      · have b1' : (j : Int) < (p : Int) := by omega
        by_cases b2 : act = 15
        · subst b2
          rw [if_neg (fun e => e.2 rfl)] at HS
          clear b1
          go_wp2
          go_roundg (row.length - (j + 1))
          case measure => have := HKK.out; omega
          case rel => exact ⟨j + 1, by omega, rfl, by go_num, by rw [HS.out]; rfl, by have k1 := HK.out; (repeat' (first | with_reducible exact Kp.refl _ _ | with_reducible refine Kp.alloc ?_ _ | with_reducible refine Kp.drewN ?_ _ | with_reducible refine Kp.drew ?_ | with_reducible refine Kp.setCell ?_ _ ?_ | with_reducible refine Kp.trans ?_ k1 (fun _ _ e => e) | (intro hh; first | rfl | exact .inl rfl | exact .inr rfl | (exfalso; (try dsimp only at hh); omega))))⟩
        · have b2' : ((act : Int) != 15) = true := by simp [b2]
          rw [if_pos ⟨b1, b2⟩] at HS
          clear b1 b2
          go_wp2
          go_roundg (row.length - (j + 1))
          case measure => have := HKK.out; omega
          case rel => exact ⟨j + 1, by omega, rfl, by go_num, by rw [HS.out]; go_num, by have k1 := HK.out; (repeat' (first | with_reducible exact Kp.refl _ _ | with_reducible refine Kp.alloc ?_ _ | with_reducible refine Kp.drewN ?_ _ | with_reducible refine Kp.drew ?_ | with_reducible refine Kp.setCell ?_ _ ?_ | with_reducible refine Kp.trans ?_ k1 (fun _ _ e => e) | (intro hh; first | rfl | exact .inl rfl | exact .inr rfl | (exfalso; (try dsimp only at hh); omega))))⟩
      · have b1' : (p : Int) ≤ (j : Int) := by omega
        rw [if_neg (fun e => b1 e.1)] at HS
        go_wp2
        go_roundg (row.length - (j + 1))
        case measure => have := HKK.out; omega
        case rel => exact ⟨j + 1, by omega, rfl, by go_num, by rw [HS.out]; rfl, by have k1 := HK.out; (repeat' (first | with_reducible exact Kp.refl _ _ | with_reducible refine Kp.alloc ?_ _ | with_reducible refine Kp.drewN ?_ _ | with_reducible refine Kp.drew ?_ | with_reducible refine Kp.setCell ?_ _ ?_ | with_reducible refine Kp.trans ?_ k1 (fun _ _ e => e) | (intro hh; first | rfl | exact .inl rfl | exact .inr rfl | (exfalso; (try dsimp only at hh); omega))))⟩
    · obtain rfl : j = row.length := by omega
      go_wp2
      go_ret
      rw [HF.out]
      exact ⟨rfl, HK.out⟩

theorem hopM_none {m : MS} {f p : Nat} (h : ¬ p < m.row.length) : hopM m f p = p := by
  cases f with
  | zero => rfl
  | succ f => rw [hopM, List.getElem?_eq_none (by omega)]
theorem hopM_node {m : MS} {f p : Nat} (h : p < m.row.length) (ha : m.row[p].act ≠ 15) : hopM m f p = p := by
  cases f with
  | zero => rfl
  | succ f => rw [hopM, List.getElem?_eq_getElem h]; simp [ha]
theorem hopM_jump {m : MS} {f p : Nat} (h : p < m.row.length) (ha : m.row[p].act = 15) : hopM m (f + 1) p = hopM m f (plcM m m.row[p].yes) := by
  rw [hopM, List.getElem?_eq_getElem h]; simp [ha]

set_option maxHeartbeats 1600000 in
theorem nodeBehind_c {r : Nat} {s : ByteArray} {m : MS} {nv iv : Value} (k0 : Int) (w : World) (h : Mo w r s m nv iv) (hl : m.row.length ≤ 2000) :
    Calls Tryz.prog 97 #[.pointer (some ⟨r, 0, none⟩), .int .i64 k0] w fun e w' => e = .returned (.int .i64 (nbhM m k0)) ∧ Kp no w w' := by
  have HP := hide (fun k W (hW : Mo W r s m nv iv) => placeOf_c k W hW)
  have HA := hide (fun p W (hW : Mo W r s m nv iv) => nodesAhead_c p W hW hl)
  have HM := hide h
  have HF : Hid (nbhM m k0 = ahdM m.row (hopM m m.row.length (plcM m k0))) := rfl
  obtain ⟨a, cap, rfl⟩ := h.n.shape
  clear h
  go_enter Tryz.func97, Tryz.ntmps97
  go_wp2_with fail
  refine (HP.out k0 _ HM.out).mono ?_
  rintro e w1 ⟨rfl, k1⟩
  generalize plcM m k0 = p0 at *
  go_wp2
  go_loopg [5, 6] m.row.length (fun k pv hv wr => ∃ p j : Nat, j ≤ m.row.length ∧ k = m.row.length - j ∧ hv = .int .i64 j ∧ pv = .int .i64 p ∧ Kp no w wr ∧ hopM m m.row.length p0 = hopM m (m.row.length - j) p)
  case atStart => exact ⟨p0, 0, Nat.zero_le _, rfl, rfl, rfl, k1, rfl⟩
  case round =>
    obtain ⟨p, j, hj, hk, rfl, rfl, kr, hE⟩ := hrel
    have HK := hide kr
    have HKK := hide hk
    have HE := hide hE
    have HMr := hide (HM.out.kp kr)
    have hr := HMr.out.b.lt
    have q3 := HMr.out.b.cell 3
    simp only [List.getElem?_cons_zero, List.getElem?_cons_succ] at q3
    have qf := HMr.out.b.frozen
    clear kr hk hE k1 HM
    by_cases hlt : j < m.row.length
    · by_cases hp : p < m.row.length
      · have hp' : (p : Int) < m.row.length := by omega
        obtain ⟨_, g, rfl, hg, c0, c1, c2, c3, c4, c5, c6, c7, c8, c9, c10⟩ := NRow.at HMr.out.n (List.getElem?_eq_getElem hp)
        have cf := Row.frozen HMr.out.n
        have HNO := hide (fun e : m.row[p].act ≠ 15 => hopM_node (f := m.row.length - j) hp e)
        have HJ := hide (fun e : m.row[p].act = 15 => show hopM m (m.row.length - j) p = hopM m (m.row.length - (j + 1)) (plcM m m.row[p].yes) by
          rw [show m.row.length - j = m.row.length - (j + 1) + 1 by omega]; exact hopM_jump hp e)
        generalize m.row[p] = n at *
        obtain ⟨tx, act, nx, ny, nw, ck, cn, ch, kd, yes, nno⟩ := n
        dsimp only at *
        by_cases b : act = 15
        · subst b
          have HJ' := hide (HJ.out rfl)
          clear HJ HNO
          go_wp2_with fail
          refine (HP.out yes _ (HMr.out.kp (by (repeat' (first | with_reducible exact Kp.refl _ _ | with_reducible refine Kp.alloc ?_ _ | with_reducible refine Kp.drewN ?_ _ | with_reducible refine Kp.drew ?_ | with_reducible refine Kp.setCell ?_ _ ?_ | (intro hh; first | rfl | exact .inl rfl | exact .inr rfl | (exfalso; (try dsimp only at hh); omega))))))).mono ?_
          rintro e w2 ⟨rfl, k2⟩
          go_wp2
          go_roundg (m.row.length - (j + 1))
          case measure => have := HKK.out; omega
          case rel => exact ⟨plcM m yes, j + 1, by omega, rfl, by go_num, rfl, by have k1 := HK.out; (repeat' (first | with_reducible exact Kp.refl _ _ | with_reducible refine Kp.alloc ?_ _ | with_reducible refine Kp.drewN ?_ _ | with_reducible refine Kp.drew ?_ | with_reducible refine Kp.setCell ?_ _ ?_ | with_reducible refine Kp.trans ?_ k1 (fun _ _ e => e) | with_reducible refine Kp.trans ?_ k2 (fun _ _ e => e) | (intro hh; first | rfl | exact .inl rfl | exact .inr rfl | (exfalso; (try dsimp only at hh); omega)))), by rw [HE.out, HJ'.out]⟩
        · have b' : ((act : Int) != 15) = true := by simp [b]
          have HN' := hide (HNO.out b)
          clear HJ HNO b
          go_wp2_with fail
          refine (HA.out p _ (HMr.out.kp (by (repeat' (first | with_reducible exact Kp.refl _ _ | with_reducible refine Kp.alloc ?_ _ | with_reducible refine Kp.drewN ?_ _ | with_reducible refine Kp.drew ?_ | with_reducible refine Kp.setCell ?_ _ ?_ | (intro hh; first | rfl | exact .inl rfl | exact .inr rfl | (exfalso; (try dsimp only at hh); omega))))))).mono ?_
          rintro e w2 ⟨rfl, k2⟩
          go_wp2
          go_ret
          rw [HF.out, HE.out, HN'.out]
          exact ⟨rfl, by have k1 := HK.out; (repeat' (first | with_reducible exact Kp.refl _ _ | with_reducible refine Kp.alloc ?_ _ | with_reducible refine Kp.drewN ?_ _ | with_reducible refine Kp.drew ?_ | with_reducible refine Kp.setCell ?_ _ ?_ | with_reducible refine Kp.trans ?_ k1 (fun _ _ e => e) | with_reducible refine Kp.trans ?_ k2 (fun _ _ e => e) | (intro hh; first | rfl | exact .inl rfl | exact .inr rfl | (exfalso; (try dsimp only at hh); omega))))⟩
      · have HN' := hide (hopM_none (f := m.row.length - j) hp)
        have hp' : (m.row.length : Int) ≤ p := by omega
        clear hp
        go_wp2_with fail
        refine (HA.out p _ (HMr.out.kp (by (repeat' (first | with_reducible exact Kp.refl _ _ | with_reducible refine Kp.alloc ?_ _ | with_reducible refine Kp.drewN ?_ _ | with_reducible refine Kp.drew ?_ | with_reducible refine Kp.setCell ?_ _ ?_ | (intro hh; first | rfl | exact .inl rfl | exact .inr rfl | (exfalso; (try dsimp only at hh); omega))))))).mono ?_
        rintro e w2 ⟨rfl, k2⟩
        go_wp2
        go_ret
        rw [HF.out, HE.out, HN'.out]
        exact ⟨rfl, by have k1 := HK.out; (repeat' (first | with_reducible exact Kp.refl _ _ | with_reducible refine Kp.alloc ?_ _ | with_reducible refine Kp.drewN ?_ _ | with_reducible refine Kp.drew ?_ | with_reducible refine Kp.setCell ?_ _ ?_ | with_reducible refine Kp.trans ?_ k1 (fun _ _ e => e) | with_reducible refine Kp.trans ?_ k2 (fun _ _ e => e) | (intro hh; first | rfl | exact .inl rfl | exact .inr rfl | (exfalso; (try dsimp only at hh); omega))))⟩
    · obtain rfl : j = m.row.length := by omega
      have HN' := hide (show hopM m (m.row.length - m.row.length) p = p by rw [Nat.sub_self]; rfl)
      go_wp2_with fail
      refine (HA.out p _ (HMr.out.kp (by (repeat' (first | with_reducible exact Kp.refl _ _ | with_reducible refine Kp.alloc ?_ _ | with_reducible refine Kp.drewN ?_ _ | with_reducible refine Kp.drew ?_ | with_reducible refine Kp.setCell ?_ _ ?_ | (intro hh; first | rfl | exact .inl rfl | exact .inr rfl | (exfalso; (try dsimp only at hh); omega))))))).mono ?_
      rintro e w2 ⟨rfl, k2⟩
      go_wp2
      go_ret
      rw [HF.out, HE.out, HN'.out]
      exact ⟨rfl, by have k1 := HK.out; (repeat' (first | with_reducible exact Kp.refl _ _ | with_reducible refine Kp.alloc ?_ _ | with_reducible refine Kp.drewN ?_ _ | with_reducible refine Kp.drew ?_ | with_reducible refine Kp.setCell ?_ _ ?_ | with_reducible refine Kp.trans ?_ k1 (fun _ _ e => e) | with_reducible refine Kp.trans ?_ k2 (fun _ _ e => e) | (intro hh; first | rfl | exact .inl rfl | exact .inr rfl | (exfalso; (try dsimp only at hh); omega))))⟩

set_option maxRecDepth 100000 in
set_option maxHeartbeats 1600000 in
theorem mnodes_c {r : Nat} {s : ByteArray} {m : MS} {nv iv : Value} (w : World) (h : Mo w r s m nv iv) (hl : m.row.length ≤ 2000) :
    Calls Tryz.prog 54 #[.pointer (some ⟨r, 0, none⟩)] w fun e w' => ∃ u, e = .returned u ∧ NRow w' u (nodM m) ∧ New w u ∧ Kp no w w' := by
  obtain ⟨i0, hi0, hz0, hz1, hz2⟩ := info_parts info_nn
  have HB := hide (fun k W (hW : Mo W r s m nv iv) => nodeBehind_c k W hW hl)
  have HM := hide h
  have hr := h.b.lt
  have q3 := h.b.cell 3
  simp only [List.getElem?_cons_zero, List.getElem?_cons_succ] at q3
  have qf := h.b.frozen
  obtain ⟨a, cap, rfl⟩ := h.n.shape
  have HF : Hid (nodM m = nodA m m.row.length) := rfl
  clear h
  go_enter Tryz.func54, Tryz.ntmps54
  go_wp2
  go_loopg [3, 12] m.row.length (fun k lv jv wr => ∃ j : Nat, j ≤ m.row.length ∧ k = m.row.length - j ∧ jv = .int .i64 j ∧ KN w wr lv (nodA m j) ∧ Kp no w wr)
  case atStart =>
    refine ⟨0, Nat.zero_le _, rfl, rfl, ⟨⟨rfl, .inr ⟨w.heap.size, 0, #[], rfl, Nat.zero_le _, ?_, Nat.le_refl _, Nat.zero_le _, rfl, rfl⟩⟩, fun b hb => by simp [Value.ownBlock] at hb; omega⟩, by (repeat' (first | with_reducible exact Kp.refl _ _ | with_reducible refine Kp.alloc ?_ _ | with_reducible refine Kp.drewN ?_ _ | with_reducible refine Kp.drew ?_ | with_reducible refine Kp.setCell ?_ _ ?_ | (intro hh; first | rfl | exact .inl rfl | exact .inr rfl | (exfalso; (try dsimp only at hh); omega))))⟩
    have hh : Blk (w.alloc (.cells #[] 91)) w.heap.size [] 91 := by (repeat' (first | ((with_reducible show (_ : List Value) = _); rfl) | ((with_reducible refine Blk.newAt _ _ _ ?_); first | with_reducible rfl | (simp; done)) | with_reducible refine Blk.alloc ?_ _ | with_reducible refine Blk.drewN ?_ _ | with_reducible refine Blk.drew ?_ | ((with_reducible refine Blk.other ?_ _ ?_); rotate_left; ((try dsimp only); omega)) | with_reducible refine Blk.setB (cs0 := ?_) ?_ ?_))
    exact hh
  case round =>
    obtain ⟨j, hj, hk, rfl, hKB, kr⟩ := hrel
    have HKK := hide hk
    have HKB := hide hKB
    have HKR := hide kr
    obtain ⟨la, lc, rfl⟩ := hKB.r.shape
    clear hk hKB kr
    by_cases hlt : j < m.row.length
    · have hqI : (j : Int) < m.row.length := by omega
      have HPL := hide (show nodA m (j + 1) = nodA m j ++ (if m.row[j].act = 15 then [] else [m.row[j].setW (nbhM m m.row[j].yes) (nbhM m m.row[j].no)]) by rw [nodA, List.getElem?_eq_getElem hlt])
      obtain ⟨_, gn, ha, hgn, n0, n1, n2, n3, n4, n5, n6, n7, n8, n9, n10⟩ := NRow.at (HKR.out.row HM.out.n (fun _ _ => no_elim)) (List.getElem?_eq_getElem hlt)
      subst ha
      have hpl := nodA_le m j
      generalize nodA m j = P at *
      generalize m.row[j] = nd at *
      obtain ⟨tx, act, nx, ny, nw, ck, cn, ch, kd, yes, nno⟩ := nd
      dsimp only [NN.setW] at HPL n0 n1 n2 n3 n4 n5 n6 n7 n8 n9 n10
      have HLN : Hid (Value.ownBlock (.slice la P.length lc) ≠ some wr.heap.size) := fun e => by have := Row.lt HKB.out.r e; omega
      clear q3
      by_cases b : act = 15
      · subst b
        rw [if_pos rfl, List.append_nil] at HPL
        go_wp2
        go_roundg (m.row.length - (j + 1))
        case measure => have := HKK.out; omega
        case rel => exact ⟨j + 1, by omega, rfl, by go_num, by rw [HPL.out]; exact HKB.out.kp (by (repeat' (first | with_reducible exact Kp.refl _ _ | with_reducible refine Kp.alloc ?_ _ | with_reducible refine Kp.drewN ?_ _ | with_reducible refine Kp.drew ?_ | with_reducible refine Kp.setCell ?_ _ ?_ | (intro hh; first | rfl | exact .inl rfl | exact .inr rfl | (exfalso; (try dsimp only at hh); omega))))), by have k1 := HKR.out; (repeat' (first | with_reducible exact Kp.refl _ _ | with_reducible refine Kp.alloc ?_ _ | with_reducible refine Kp.drewN ?_ _ | with_reducible refine Kp.drew ?_ | with_reducible refine Kp.setCell ?_ _ ?_ | with_reducible refine Kp.trans ?_ k1 (fun _ _ e => e) | (intro hh; first | rfl | exact .inl rfl | exact .inr rfl | (exfalso; (try dsimp only at hh); omega))))⟩
      · rw [if_neg b] at HPL
        have b' : ((act : Int) == 15) = false := by simp [b]
        clear b
        go_wp2_with fail
        refine (HB.out yes _ (HM.out.kp (by have k1 := HKR.out; (repeat' (first | with_reducible exact Kp.refl _ _ | with_reducible refine Kp.alloc ?_ _ | with_reducible refine Kp.drewN ?_ _ | with_reducible refine Kp.drew ?_ | with_reducible refine Kp.setCell ?_ _ ?_ | with_reducible refine Kp.trans ?_ k1 (fun _ _ e => e) | (intro hh; first | rfl | exact .inl rfl | exact .inr rfl | (exfalso; (try dsimp only at hh); omega))))))).mono ?_
        rintro e w5 ⟨rfl, k5⟩
        have hN5 : Blk w5 wr.heap.size [.string tx, .int .i64 act, .int .i64 nx, .int .i64 ny, .int .i64 nw, .int .i64 ck, .int .i64 cn, .int .i64 ch, .int .i64 kd, .int .i64 yes, .int .i64 nno] 91 := k5.blk (by (repeat' (first | ((with_reducible show (_ : List Value) = _); rfl) | ((with_reducible refine Blk.newAt _ _ _ ?_); first | with_reducible rfl | (simp; done)) | with_reducible refine Blk.alloc ?_ _ | with_reducible refine Blk.drewN ?_ _ | with_reducible refine Blk.drew ?_ | ((with_reducible refine Blk.other ?_ _ ?_); rotate_left; ((try dsimp only); omega)) | with_reducible refine Blk.setB (cs0 := ?_) ?_ ?_))) no_elim
        have HK5 := hide (HKR.out.trans (S' := no) (Kp.trans (by (repeat' (first | with_reducible exact Kp.refl _ _ | with_reducible refine Kp.alloc ?_ _ | with_reducible refine Kp.drewN ?_ _ | with_reducible refine Kp.drew ?_ | with_reducible refine Kp.setCell ?_ _ ?_ | (intro hh; first | rfl | exact .inl rfl | exact .inr rfl | (exfalso; (try dsimp only at hh); omega))))) k5 (fun _ _ e => e)) (fun _ _ e => e))
        have HL5 := hide (HKB.out.kp (Kp.trans (by (repeat' (first | with_reducible exact Kp.refl _ _ | with_reducible refine Kp.alloc ?_ _ | with_reducible refine Kp.drewN ?_ _ | with_reducible refine Kp.drew ?_ | with_reducible refine Kp.setCell ?_ _ ?_ | (intro hh; first | rfl | exact .inl rfl | exact .inr rfl | (exfalso; (try dsimp only at hh); omega))))) k5 (fun _ _ e => e)))
        have hsw := HKR.out.size
        clear k5 n0 n1 n2 n3 n4 n5 n6 n7 n8 n9 n10
        obtain ⟨n0, n1, n2, n3, n4, n5, n6, n7, n8, n9, n10, nf⟩ := hN5.c11; have hnl := hN5.lt
        generalize nbhM m yes = cy at *
        go_wp2_with fail
        have kk5 := HK5.out
        refine (HB.out nno _ (HM.out.kp (by (repeat' (first | with_reducible exact Kp.refl _ _ | with_reducible refine Kp.alloc ?_ _ | with_reducible refine Kp.drewN ?_ _ | with_reducible refine Kp.drew ?_ | with_reducible refine Kp.setCell ?_ _ ?_ | with_reducible refine Kp.trans ?_ kk5 (fun _ _ e => e) | (intro hh; first | rfl | exact .inl rfl | exact .inr rfl | (exfalso; (try dsimp only at hh); omega))))))).mono ?_
        rintro e w8 ⟨rfl, k8⟩
        have hN8 : Blk w8 wr.heap.size [.string tx, .int .i64 act, .int .i64 nx, .int .i64 ny, .int .i64 nw, .int .i64 ck, .int .i64 cn, .int .i64 ch, .int .i64 kd, .int .i64 cy, .int .i64 nno] 91 := k8.blk (by (repeat' (first | ((with_reducible show (_ : List Value) = _); rfl) | with_reducible exact hN5 | ((with_reducible refine Blk.newAt _ _ _ ?_); first | with_reducible rfl | (simp; done)) | with_reducible refine Blk.alloc ?_ _ | with_reducible refine Blk.drewN ?_ _ | with_reducible refine Blk.drew ?_ | ((with_reducible refine Blk.other ?_ _ ?_); rotate_left; ((try dsimp only); omega)) | with_reducible refine Blk.setB (cs0 := ?_) ?_ ?_))) no_elim
        have HK8 := hide (show Kp no w w8 from Kp.trans (by (repeat' (first | with_reducible exact Kp.refl _ _ | with_reducible refine Kp.alloc ?_ _ | with_reducible refine Kp.drewN ?_ _ | with_reducible refine Kp.drew ?_ | with_reducible refine Kp.setCell ?_ _ ?_ | with_reducible refine Kp.trans ?_ kk5 (fun _ _ e => e) | (intro hh; first | rfl | exact .inl rfl | exact .inr rfl | (exfalso; (try dsimp only at hh); omega))))) k8 (fun _ _ e => e))
        have HL8 : Hid (KN w w8 (.slice la P.length lc) P) := KN.kp (by repeat' (first | with_reducible exact HL5.out | with_reducible refine KN.set ?_ _ HLN.out)) k8
        clear k8 hN5 HL5
        clear n0 n1 n2 n3 n4 n5 n6 n7 n8 n9 n10 nf hnl
        obtain ⟨n0, n1, n2, n3, n4, n5, n6, n7, n8, n9, n10, nf⟩ := hN8.c11; have hnl := hN8.lt
        generalize nbhM m nno = cz at *
        have hone : ∀ u ∈ ([.string tx, .int .i64 act, .int .i64 nx, .int .i64 ny, .int .i64 nw, .int .i64 ck, .int .i64 cn, .int .i64 ch, .int .i64 kd, .int .i64 cy, .int .i64 cz] : List Value), u.oneCell' = true := by simp [Value.oneCell']
        have HL9 := hide (HL8.out.set (o := 10) (.int .i64 (cz : Int)) HLN.out)
        go_wp2_with (at_builtin; refine wpList_append_lies _ rfl (.tmp 29) (.tmp 31) 52 rfl 0 91 i0 _ 11 96 Tryz.underlying52 hi0 hz0 hz1 hz2 rfl (by decide) (.slice la P.length lc) P.length (nnCells P) (by simp [Act.eval]) (by exact World.ownsRow.alloc HL9.out.r _) ⟨w8.heap.size, 0, none⟩ 1 1 [.string tx, .int .i64 act, .int .i64 nx, .int .i64 ny, .int .i64 nw, .int .i64 ck, .int .i64 cn, .int .i64 ch, .int .i64 kd, .int .i64 cy, .int .i64 cz] (by simp [Act.eval]) rfl (by exact Blk.news (Blk.newAt _ [.string tx, .int .i64 act, .int .i64 nx, .int .i64 ny, .int .i64 nw, .int .i64 ck, .int .i64 cn, .int .i64 ch, .int .i64 kd, .int .i64 cy, .int .i64 cz] _ (by simp))) hone (by decide) (by unfold maxLen; omega) (by omega) (Nat.zero_le _) _ rfl ?_; intro g cap' w' hown hgrow hat hlt')
        go_roundg (m.row.length - (j + 1))
        case measure => have := HKK.out; omega
        case rel =>
          have kk8 := HK8.out
          have hap := KN.app ⟨tx, act, nx, ny, nw, ck, cn, ch, kd, cy, cz⟩ HL9.out (by (repeat' (first | with_reducible exact Kp.refl _ _ | with_reducible refine Kp.alloc ?_ _ | with_reducible refine Kp.drewN ?_ _ | with_reducible refine Kp.drew ?_ | with_reducible refine Kp.setCell ?_ _ ?_ | with_reducible refine Kp.trans ?_ kk8 (fun _ _ e => e) | (intro hh; first | rfl | exact .inl rfl | exact .inr rfl | (exfalso; (try dsimp only at hh); omega))))) hown hgrow hat
          exact ⟨j + 1, by omega, rfl, by go_num, by rw [HPL.out]; exact hap.1, hap.2⟩
    · obtain rfl : j = m.row.length := by omega
      go_wp2
      go_ret
      rw [HF.out]
      exact ⟨_, rfl, HKB.out.r, HKB.out.o, HKR.out⟩
end Go.Proofs.YtellieabhaphhaaGreatDoor

/-
  narrow's run: its variables, its input.
-/
namespace Go.Proofs.YtellieabhaphhaaGreatDoor
open Go.RowKit

theorem ntell_c {w : World} {r : Nat} {inp : ByteArray} {m : Mc} (n : Nat) (hn : n < 100) (h : NB w r inp m) (ht : m.tr.size ≤ 100000) (hk : ∀ u ∈ m.l, VW u) :
    Calls Tryz.prog 100 #[.pointer (some ⟨r, 0, none⟩), .int .i64 n] w fun e w' => e = .returned (.tuple #[]) ∧ NB w' r inp { m with tr := m.tr ++ toldB n m.l ++ sp } ∧ Kp (· = r) w w' := by
  obtain ⟨hb, h6⟩ := h
  obtain ⟨l, rd, left, tr, outp, me⟩ := m
  dsimp only at *
  obtain ⟨a, b, c, d, e, f, rfl⟩ := six_of h6
  have hu : ∀ u ∈ [a, b, c, d, e, f], ∀ W, Calls Tryz.prog 141 #[.int .i64 (bit u.k)] W fun e w' => e = .returned (.string (strOfNums [u.k])) ∧ w' = W := fun u hu W => nkindSign_c u.k (hk u hu).k W
  refine (ntell_at r n inp tr outp rd (bit a.k) a.n (bit a.v) (bit b.k) b.n (bit b.v) (bit c.k) c.n (bit c.v) (bit d.k) d.n (bit d.v) (bit e.k) e.n (bit e.v) (bit f.k) f.n (bit f.v) a.k b.k c.k d.k e.k f.k w hn ht hb (hu a (by simp)) (hu b (by simp)) (hu c (by simp)) (hu d (by simp)) (hu e (by simp)) (hu f (by simp))).mono ?_
  rintro x w' ⟨rfl, hb', k'⟩
  exact ⟨rfl, ⟨hb', rfl⟩, k'⟩

set_option maxHeartbeats 800000 in
theorem nvalueOf_0 (r : Nat) (inp tr outp : ByteArray) (rd : Int) (k0 n0 v0 k1 n1 v1 k2 n2 v2 k3 n3 v3 k4 n4 v4 k5 n5 v5 : Int) (w : World) (hb : Blk w r [.int .i64 k0, .int .i64 n0, .int .i64 v0, .int .i64 k1, .int .i64 n1, .int .i64 v1, .int .i64 k2, .int .i64 n2, .int .i64 v2, .int .i64 k3, .int .i64 n3, .int .i64 v3, .int .i64 k4, .int .i64 n4, .int .i64 v4, .int .i64 k5, .int .i64 n5, .int .i64 v5, .string inp, .int .i64 rd, .string tr, .string outp] 142) :
    Calls Tryz.prog 142 #[.pointer (some ⟨r, 0, none⟩), .int .i64 0] w fun e w' => e = .returned (.agg #[.int .i64 k0, .int .i64 n0, .int .i64 v0]) ∧ Kp no w w' := by
  obtain ⟨c0, c1, c2, c3, c4, c5, c6, c7, c8, c9, c10, c11, c12, c13, c14, c15, c16, c17, c18, c19, c20, c21, cf⟩ := hb.c22
  have hr := hb.lt
  clear hb c3 c4 c5 c6 c7 c8 c9 c10 c11 c12 c13 c14 c15 c16 c17 c18 c19 c20 c21
  go_enter Tryz.func142, Tryz.ntmps142
  go_wp2
  refine body_agg (Tb := 89) (b := w.heap.size) (cs := [.int .i64 k0, .int .i64 n0, .int .i64 v0]) (.inr rfl) Tryz.results142 rfl rfl (by (repeat' (first | ((with_reducible show (_ : List Value) = _); rfl) | ((with_reducible refine Blk.newAt _ _ _ ?_); first | with_reducible rfl | (simp; done)) | with_reducible refine Blk.alloc ?_ _ | with_reducible refine Blk.drewN ?_ _ | with_reducible refine Blk.drew ?_ | ((with_reducible refine Blk.other ?_ _ ?_); rotate_left; ((try dsimp only); omega)) | with_reducible refine Blk.setB (cs0 := ?_) ?_ ?_))) Tryz.underlying89 rfl (by kernel_rfl) ?_
  exact ⟨rfl, by (repeat' (first | with_reducible exact Kp.refl _ _ | with_reducible refine Kp.alloc ?_ _ | with_reducible refine Kp.drewN ?_ _ | with_reducible refine Kp.drew ?_ | with_reducible refine Kp.setCell ?_ _ ?_ | (intro hh; first | rfl | exact .inl rfl | exact .inr rfl | (exfalso; (try dsimp only at hh); omega))))⟩

set_option maxHeartbeats 800000 in
theorem nvalueOf_1 (r : Nat) (inp tr outp : ByteArray) (rd : Int) (k0 n0 v0 k1 n1 v1 k2 n2 v2 k3 n3 v3 k4 n4 v4 k5 n5 v5 : Int) (w : World) (hb : Blk w r [.int .i64 k0, .int .i64 n0, .int .i64 v0, .int .i64 k1, .int .i64 n1, .int .i64 v1, .int .i64 k2, .int .i64 n2, .int .i64 v2, .int .i64 k3, .int .i64 n3, .int .i64 v3, .int .i64 k4, .int .i64 n4, .int .i64 v4, .int .i64 k5, .int .i64 n5, .int .i64 v5, .string inp, .int .i64 rd, .string tr, .string outp] 142) :
    Calls Tryz.prog 142 #[.pointer (some ⟨r, 0, none⟩), .int .i64 1] w fun e w' => e = .returned (.agg #[.int .i64 k1, .int .i64 n1, .int .i64 v1]) ∧ Kp no w w' := by
  obtain ⟨c0, c1, c2, c3, c4, c5, c6, c7, c8, c9, c10, c11, c12, c13, c14, c15, c16, c17, c18, c19, c20, c21, cf⟩ := hb.c22
  have hr := hb.lt
  clear hb c0 c1 c2 c6 c7 c8 c9 c10 c11 c12 c13 c14 c15 c16 c17 c18 c19 c20 c21
  go_enter Tryz.func142, Tryz.ntmps142
  go_wp2
  refine body_agg (Tb := 89) (b := w.heap.size) (cs := [.int .i64 k1, .int .i64 n1, .int .i64 v1]) (.inr rfl) Tryz.results142 rfl rfl (by (repeat' (first | ((with_reducible show (_ : List Value) = _); rfl) | ((with_reducible refine Blk.newAt _ _ _ ?_); first | with_reducible rfl | (simp; done)) | with_reducible refine Blk.alloc ?_ _ | with_reducible refine Blk.drewN ?_ _ | with_reducible refine Blk.drew ?_ | ((with_reducible refine Blk.other ?_ _ ?_); rotate_left; ((try dsimp only); omega)) | with_reducible refine Blk.setB (cs0 := ?_) ?_ ?_))) Tryz.underlying89 rfl (by kernel_rfl) ?_
  exact ⟨rfl, by (repeat' (first | with_reducible exact Kp.refl _ _ | with_reducible refine Kp.alloc ?_ _ | with_reducible refine Kp.drewN ?_ _ | with_reducible refine Kp.drew ?_ | with_reducible refine Kp.setCell ?_ _ ?_ | (intro hh; first | rfl | exact .inl rfl | exact .inr rfl | (exfalso; (try dsimp only at hh); omega))))⟩

set_option maxHeartbeats 800000 in
theorem nvalueOf_2 (r : Nat) (inp tr outp : ByteArray) (rd : Int) (k0 n0 v0 k1 n1 v1 k2 n2 v2 k3 n3 v3 k4 n4 v4 k5 n5 v5 : Int) (w : World) (hb : Blk w r [.int .i64 k0, .int .i64 n0, .int .i64 v0, .int .i64 k1, .int .i64 n1, .int .i64 v1, .int .i64 k2, .int .i64 n2, .int .i64 v2, .int .i64 k3, .int .i64 n3, .int .i64 v3, .int .i64 k4, .int .i64 n4, .int .i64 v4, .int .i64 k5, .int .i64 n5, .int .i64 v5, .string inp, .int .i64 rd, .string tr, .string outp] 142) :
    Calls Tryz.prog 142 #[.pointer (some ⟨r, 0, none⟩), .int .i64 2] w fun e w' => e = .returned (.agg #[.int .i64 k2, .int .i64 n2, .int .i64 v2]) ∧ Kp no w w' := by
  obtain ⟨c0, c1, c2, c3, c4, c5, c6, c7, c8, c9, c10, c11, c12, c13, c14, c15, c16, c17, c18, c19, c20, c21, cf⟩ := hb.c22
  have hr := hb.lt
  clear hb c0 c1 c2 c3 c4 c5 c9 c10 c11 c12 c13 c14 c15 c16 c17 c18 c19 c20 c21
  go_enter Tryz.func142, Tryz.ntmps142
  go_wp2
  refine body_agg (Tb := 89) (b := w.heap.size) (cs := [.int .i64 k2, .int .i64 n2, .int .i64 v2]) (.inr rfl) Tryz.results142 rfl rfl (by (repeat' (first | ((with_reducible show (_ : List Value) = _); rfl) | ((with_reducible refine Blk.newAt _ _ _ ?_); first | with_reducible rfl | (simp; done)) | with_reducible refine Blk.alloc ?_ _ | with_reducible refine Blk.drewN ?_ _ | with_reducible refine Blk.drew ?_ | ((with_reducible refine Blk.other ?_ _ ?_); rotate_left; ((try dsimp only); omega)) | with_reducible refine Blk.setB (cs0 := ?_) ?_ ?_))) Tryz.underlying89 rfl (by kernel_rfl) ?_
  exact ⟨rfl, by (repeat' (first | with_reducible exact Kp.refl _ _ | with_reducible refine Kp.alloc ?_ _ | with_reducible refine Kp.drewN ?_ _ | with_reducible refine Kp.drew ?_ | with_reducible refine Kp.setCell ?_ _ ?_ | (intro hh; first | rfl | exact .inl rfl | exact .inr rfl | (exfalso; (try dsimp only at hh); omega))))⟩

set_option maxHeartbeats 800000 in
theorem nvalueOf_3 (r : Nat) (inp tr outp : ByteArray) (rd : Int) (k0 n0 v0 k1 n1 v1 k2 n2 v2 k3 n3 v3 k4 n4 v4 k5 n5 v5 : Int) (w : World) (hb : Blk w r [.int .i64 k0, .int .i64 n0, .int .i64 v0, .int .i64 k1, .int .i64 n1, .int .i64 v1, .int .i64 k2, .int .i64 n2, .int .i64 v2, .int .i64 k3, .int .i64 n3, .int .i64 v3, .int .i64 k4, .int .i64 n4, .int .i64 v4, .int .i64 k5, .int .i64 n5, .int .i64 v5, .string inp, .int .i64 rd, .string tr, .string outp] 142) :
    Calls Tryz.prog 142 #[.pointer (some ⟨r, 0, none⟩), .int .i64 3] w fun e w' => e = .returned (.agg #[.int .i64 k3, .int .i64 n3, .int .i64 v3]) ∧ Kp no w w' := by
  obtain ⟨c0, c1, c2, c3, c4, c5, c6, c7, c8, c9, c10, c11, c12, c13, c14, c15, c16, c17, c18, c19, c20, c21, cf⟩ := hb.c22
  have hr := hb.lt
  clear hb c0 c1 c2 c3 c4 c5 c6 c7 c8 c12 c13 c14 c15 c16 c17 c18 c19 c20 c21
  go_enter Tryz.func142, Tryz.ntmps142
  go_wp2
  refine body_agg (Tb := 89) (b := w.heap.size) (cs := [.int .i64 k3, .int .i64 n3, .int .i64 v3]) (.inr rfl) Tryz.results142 rfl rfl (by (repeat' (first | ((with_reducible show (_ : List Value) = _); rfl) | ((with_reducible refine Blk.newAt _ _ _ ?_); first | with_reducible rfl | (simp; done)) | with_reducible refine Blk.alloc ?_ _ | with_reducible refine Blk.drewN ?_ _ | with_reducible refine Blk.drew ?_ | ((with_reducible refine Blk.other ?_ _ ?_); rotate_left; ((try dsimp only); omega)) | with_reducible refine Blk.setB (cs0 := ?_) ?_ ?_))) Tryz.underlying89 rfl (by kernel_rfl) ?_
  exact ⟨rfl, by (repeat' (first | with_reducible exact Kp.refl _ _ | with_reducible refine Kp.alloc ?_ _ | with_reducible refine Kp.drewN ?_ _ | with_reducible refine Kp.drew ?_ | with_reducible refine Kp.setCell ?_ _ ?_ | (intro hh; first | rfl | exact .inl rfl | exact .inr rfl | (exfalso; (try dsimp only at hh); omega))))⟩

set_option maxHeartbeats 800000 in
theorem nvalueOf_4 (r : Nat) (inp tr outp : ByteArray) (rd : Int) (k0 n0 v0 k1 n1 v1 k2 n2 v2 k3 n3 v3 k4 n4 v4 k5 n5 v5 : Int) (w : World) (hb : Blk w r [.int .i64 k0, .int .i64 n0, .int .i64 v0, .int .i64 k1, .int .i64 n1, .int .i64 v1, .int .i64 k2, .int .i64 n2, .int .i64 v2, .int .i64 k3, .int .i64 n3, .int .i64 v3, .int .i64 k4, .int .i64 n4, .int .i64 v4, .int .i64 k5, .int .i64 n5, .int .i64 v5, .string inp, .int .i64 rd, .string tr, .string outp] 142) :
    Calls Tryz.prog 142 #[.pointer (some ⟨r, 0, none⟩), .int .i64 4] w fun e w' => e = .returned (.agg #[.int .i64 k4, .int .i64 n4, .int .i64 v4]) ∧ Kp no w w' := by
  obtain ⟨c0, c1, c2, c3, c4, c5, c6, c7, c8, c9, c10, c11, c12, c13, c14, c15, c16, c17, c18, c19, c20, c21, cf⟩ := hb.c22
  have hr := hb.lt
  clear hb c0 c1 c2 c3 c4 c5 c6 c7 c8 c9 c10 c11 c15 c16 c17 c18 c19 c20 c21
  go_enter Tryz.func142, Tryz.ntmps142
  go_wp2
  refine body_agg (Tb := 89) (b := w.heap.size) (cs := [.int .i64 k4, .int .i64 n4, .int .i64 v4]) (.inr rfl) Tryz.results142 rfl rfl (by (repeat' (first | ((with_reducible show (_ : List Value) = _); rfl) | ((with_reducible refine Blk.newAt _ _ _ ?_); first | with_reducible rfl | (simp; done)) | with_reducible refine Blk.alloc ?_ _ | with_reducible refine Blk.drewN ?_ _ | with_reducible refine Blk.drew ?_ | ((with_reducible refine Blk.other ?_ _ ?_); rotate_left; ((try dsimp only); omega)) | with_reducible refine Blk.setB (cs0 := ?_) ?_ ?_))) Tryz.underlying89 rfl (by kernel_rfl) ?_
  exact ⟨rfl, by (repeat' (first | with_reducible exact Kp.refl _ _ | with_reducible refine Kp.alloc ?_ _ | with_reducible refine Kp.drewN ?_ _ | with_reducible refine Kp.drew ?_ | with_reducible refine Kp.setCell ?_ _ ?_ | (intro hh; first | rfl | exact .inl rfl | exact .inr rfl | (exfalso; (try dsimp only at hh); omega))))⟩

set_option maxHeartbeats 800000 in
theorem nvalueOf_5 (r : Nat) (inp tr outp : ByteArray) (rd : Int) (k0 n0 v0 k1 n1 v1 k2 n2 v2 k3 n3 v3 k4 n4 v4 k5 n5 v5 : Int) (w : World) (hb : Blk w r [.int .i64 k0, .int .i64 n0, .int .i64 v0, .int .i64 k1, .int .i64 n1, .int .i64 v1, .int .i64 k2, .int .i64 n2, .int .i64 v2, .int .i64 k3, .int .i64 n3, .int .i64 v3, .int .i64 k4, .int .i64 n4, .int .i64 v4, .int .i64 k5, .int .i64 n5, .int .i64 v5, .string inp, .int .i64 rd, .string tr, .string outp] 142) :
    Calls Tryz.prog 142 #[.pointer (some ⟨r, 0, none⟩), .int .i64 5] w fun e w' => e = .returned (.agg #[.int .i64 k5, .int .i64 n5, .int .i64 v5]) ∧ Kp no w w' := by
  obtain ⟨c0, c1, c2, c3, c4, c5, c6, c7, c8, c9, c10, c11, c12, c13, c14, c15, c16, c17, c18, c19, c20, c21, cf⟩ := hb.c22
  have hr := hb.lt
  clear hb c0 c1 c2 c3 c4 c5 c6 c7 c8 c9 c10 c11 c12 c13 c14 c18 c19 c20 c21
  go_enter Tryz.func142, Tryz.ntmps142
  go_wp2
  refine body_agg (Tb := 89) (b := w.heap.size) (cs := [.int .i64 k5, .int .i64 n5, .int .i64 v5]) (.inr rfl) Tryz.results142 rfl rfl (by (repeat' (first | ((with_reducible show (_ : List Value) = _); rfl) | ((with_reducible refine Blk.newAt _ _ _ ?_); first | with_reducible rfl | (simp; done)) | with_reducible refine Blk.alloc ?_ _ | with_reducible refine Blk.drewN ?_ _ | with_reducible refine Blk.drew ?_ | ((with_reducible refine Blk.other ?_ _ ?_); rotate_left; ((try dsimp only); omega)) | with_reducible refine Blk.setB (cs0 := ?_) ?_ ?_))) Tryz.underlying89 rfl (by kernel_rfl) ?_
  exact ⟨rfl, by (repeat' (first | with_reducible exact Kp.refl _ _ | with_reducible refine Kp.alloc ?_ _ | with_reducible refine Kp.drewN ?_ _ | with_reducible refine Kp.drew ?_ | with_reducible refine Kp.setCell ?_ _ ?_ | (intro hh; first | rfl | exact .inl rfl | exact .inr rfl | (exfalso; (try dsimp only at hh); omega))))⟩

set_option maxHeartbeats 800000 in
theorem nset_0 (r : Nat) (inp tr outp : ByteArray) (rd : Int) (k0 n0 v0 k1 n1 v1 k2 n2 v2 k3 n3 v3 k4 n4 v4 k5 n5 v5 a b c : Int) (w : World) (hb : Blk w r [.int .i64 k0, .int .i64 n0, .int .i64 v0, .int .i64 k1, .int .i64 n1, .int .i64 v1, .int .i64 k2, .int .i64 n2, .int .i64 v2, .int .i64 k3, .int .i64 n3, .int .i64 v3, .int .i64 k4, .int .i64 n4, .int .i64 v4, .int .i64 k5, .int .i64 n5, .int .i64 v5, .string inp, .int .i64 rd, .string tr, .string outp] 142) :
    Calls Tryz.prog 145 #[.pointer (some ⟨r, 0, none⟩), .int .i64 0, .agg #[.int .i64 a, .int .i64 b, .int .i64 c]] w fun e w' => e = .returned (.tuple #[]) ∧ Blk w' r [.int .i64 a, .int .i64 b, .int .i64 c, .int .i64 k1, .int .i64 n1, .int .i64 v1, .int .i64 k2, .int .i64 n2, .int .i64 v2, .int .i64 k3, .int .i64 n3, .int .i64 v3, .int .i64 k4, .int .i64 n4, .int .i64 v4, .int .i64 k5, .int .i64 n5, .int .i64 v5, .string inp, .int .i64 rd, .string tr, .string outp] 142 ∧ Kp (· = r) w w' := by
  have hr := hb.lt
  go_enter Tryz.func145, Tryz.ntmps145
  go_wp2
  refine wp_gen (fun W => Blk W r [.int .i64 k0, .int .i64 n0, .int .i64 v0, .int .i64 k1, .int .i64 n1, .int .i64 v1, .int .i64 k2, .int .i64 n2, .int .i64 v2, .int .i64 k3, .int .i64 n3, .int .i64 v3, .int .i64 k4, .int .i64 n4, .int .i64 v4, .int .i64 k5, .int .i64 n5, .int .i64 v5, .string inp, .int .i64 rd, .string tr, .string outp] 142 ∧ Blk W w.heap.size [.int .i64 a, .int .i64 b, .int .i64 c] 89 ∧ Kp (· = r) w W) ⟨by (repeat' (first | ((with_reducible show (_ : List Value) = _); rfl) | with_reducible exact hb | ((with_reducible refine Blk.newAt _ _ _ ?_); first | with_reducible rfl | (simp; done)) | with_reducible refine Blk.alloc ?_ _ | with_reducible refine Blk.drewN ?_ _ | with_reducible refine Blk.drew ?_ | ((with_reducible refine Blk.other ?_ _ ?_); rotate_left; ((try dsimp only); omega)) | with_reducible refine Blk.setB (cs0 := ?_) ?_ ?_)), by (repeat' (first | ((with_reducible show (_ : List Value) = _); rfl) | ((with_reducible refine Blk.newAt _ _ _ ?_); first | with_reducible rfl | (simp; done)) | with_reducible refine Blk.alloc ?_ _ | with_reducible refine Blk.drewN ?_ _ | with_reducible refine Blk.drew ?_ | ((with_reducible refine Blk.other ?_ _ ?_); rotate_left; ((try dsimp only); omega)) | with_reducible refine Blk.setB (cs0 := ?_) ?_ ?_)), by (repeat' (first | with_reducible exact Kp.refl _ _ | with_reducible refine Kp.alloc ?_ _ | with_reducible refine Kp.drewN ?_ _ | with_reducible refine Kp.drew ?_ | with_reducible refine Kp.setCell ?_ _ ?_ | (intro hh; first | rfl | exact .inl rfl | exact .inr rfl | (exfalso; (try dsimp only at hh); omega))))⟩ ?_
  rintro W ⟨hbW, hL, kW⟩
  obtain ⟨c0, c1, c2, c3, c4, c5, c6, c7, c8, c9, c10, c11, c12, c13, c14, c15, c16, c17, c18, c19, c20, c21, cf⟩ := hbW.c22
  obtain ⟨l0, l1, l2, lf⟩ := hL.c3
  have hrW := hbW.lt
  have hlW := hL.lt
  clear hb c3 c4 c5 c6 c7 c8 c9 c10 c11 c12 c13 c14 c15 c16 c17 c18 c19 c20 c21
  go_region
  all_goals
    go_wp2
    go_end0
    exact ⟨rfl, by (repeat' (first | ((with_reducible show (_ : List Value) = _); rfl) | with_reducible exact hbW | ((with_reducible refine Blk.newAt _ _ _ ?_); first | with_reducible rfl | (simp; done)) | with_reducible refine Blk.alloc ?_ _ | with_reducible refine Blk.drewN ?_ _ | with_reducible refine Blk.drew ?_ | ((with_reducible refine Blk.other ?_ _ ?_); rotate_left; ((try dsimp only); omega)) | with_reducible refine Blk.setB (cs0 := ?_) ?_ ?_)), by (repeat' (first | with_reducible exact Kp.refl _ _ | with_reducible refine Kp.alloc ?_ _ | with_reducible refine Kp.drewN ?_ _ | with_reducible refine Kp.drew ?_ | with_reducible refine Kp.setCell ?_ _ ?_ | with_reducible refine Kp.trans ?_ kW (fun _ _ e => e) | (intro hh; first | rfl | exact .inl rfl | exact .inr rfl | (exfalso; (try dsimp only at hh); omega))))⟩

set_option maxHeartbeats 800000 in
theorem nset_1 (r : Nat) (inp tr outp : ByteArray) (rd : Int) (k0 n0 v0 k1 n1 v1 k2 n2 v2 k3 n3 v3 k4 n4 v4 k5 n5 v5 a b c : Int) (w : World) (hb : Blk w r [.int .i64 k0, .int .i64 n0, .int .i64 v0, .int .i64 k1, .int .i64 n1, .int .i64 v1, .int .i64 k2, .int .i64 n2, .int .i64 v2, .int .i64 k3, .int .i64 n3, .int .i64 v3, .int .i64 k4, .int .i64 n4, .int .i64 v4, .int .i64 k5, .int .i64 n5, .int .i64 v5, .string inp, .int .i64 rd, .string tr, .string outp] 142) :
    Calls Tryz.prog 145 #[.pointer (some ⟨r, 0, none⟩), .int .i64 1, .agg #[.int .i64 a, .int .i64 b, .int .i64 c]] w fun e w' => e = .returned (.tuple #[]) ∧ Blk w' r [.int .i64 k0, .int .i64 n0, .int .i64 v0, .int .i64 a, .int .i64 b, .int .i64 c, .int .i64 k2, .int .i64 n2, .int .i64 v2, .int .i64 k3, .int .i64 n3, .int .i64 v3, .int .i64 k4, .int .i64 n4, .int .i64 v4, .int .i64 k5, .int .i64 n5, .int .i64 v5, .string inp, .int .i64 rd, .string tr, .string outp] 142 ∧ Kp (· = r) w w' := by
  have hr := hb.lt
  go_enter Tryz.func145, Tryz.ntmps145
  go_wp2
  refine wp_gen (fun W => Blk W r [.int .i64 k0, .int .i64 n0, .int .i64 v0, .int .i64 k1, .int .i64 n1, .int .i64 v1, .int .i64 k2, .int .i64 n2, .int .i64 v2, .int .i64 k3, .int .i64 n3, .int .i64 v3, .int .i64 k4, .int .i64 n4, .int .i64 v4, .int .i64 k5, .int .i64 n5, .int .i64 v5, .string inp, .int .i64 rd, .string tr, .string outp] 142 ∧ Blk W w.heap.size [.int .i64 a, .int .i64 b, .int .i64 c] 89 ∧ Kp (· = r) w W) ⟨by (repeat' (first | ((with_reducible show (_ : List Value) = _); rfl) | with_reducible exact hb | ((with_reducible refine Blk.newAt _ _ _ ?_); first | with_reducible rfl | (simp; done)) | with_reducible refine Blk.alloc ?_ _ | with_reducible refine Blk.drewN ?_ _ | with_reducible refine Blk.drew ?_ | ((with_reducible refine Blk.other ?_ _ ?_); rotate_left; ((try dsimp only); omega)) | with_reducible refine Blk.setB (cs0 := ?_) ?_ ?_)), by (repeat' (first | ((with_reducible show (_ : List Value) = _); rfl) | ((with_reducible refine Blk.newAt _ _ _ ?_); first | with_reducible rfl | (simp; done)) | with_reducible refine Blk.alloc ?_ _ | with_reducible refine Blk.drewN ?_ _ | with_reducible refine Blk.drew ?_ | ((with_reducible refine Blk.other ?_ _ ?_); rotate_left; ((try dsimp only); omega)) | with_reducible refine Blk.setB (cs0 := ?_) ?_ ?_)), by (repeat' (first | with_reducible exact Kp.refl _ _ | with_reducible refine Kp.alloc ?_ _ | with_reducible refine Kp.drewN ?_ _ | with_reducible refine Kp.drew ?_ | with_reducible refine Kp.setCell ?_ _ ?_ | (intro hh; first | rfl | exact .inl rfl | exact .inr rfl | (exfalso; (try dsimp only at hh); omega))))⟩ ?_
  rintro W ⟨hbW, hL, kW⟩
  obtain ⟨c0, c1, c2, c3, c4, c5, c6, c7, c8, c9, c10, c11, c12, c13, c14, c15, c16, c17, c18, c19, c20, c21, cf⟩ := hbW.c22
  obtain ⟨l0, l1, l2, lf⟩ := hL.c3
  have hrW := hbW.lt
  have hlW := hL.lt
  clear hb c0 c1 c2 c6 c7 c8 c9 c10 c11 c12 c13 c14 c15 c16 c17 c18 c19 c20 c21
  go_region
  all_goals
    go_wp2
    go_end0
    exact ⟨rfl, by (repeat' (first | ((with_reducible show (_ : List Value) = _); rfl) | with_reducible exact hbW | ((with_reducible refine Blk.newAt _ _ _ ?_); first | with_reducible rfl | (simp; done)) | with_reducible refine Blk.alloc ?_ _ | with_reducible refine Blk.drewN ?_ _ | with_reducible refine Blk.drew ?_ | ((with_reducible refine Blk.other ?_ _ ?_); rotate_left; ((try dsimp only); omega)) | with_reducible refine Blk.setB (cs0 := ?_) ?_ ?_)), by (repeat' (first | with_reducible exact Kp.refl _ _ | with_reducible refine Kp.alloc ?_ _ | with_reducible refine Kp.drewN ?_ _ | with_reducible refine Kp.drew ?_ | with_reducible refine Kp.setCell ?_ _ ?_ | with_reducible refine Kp.trans ?_ kW (fun _ _ e => e) | (intro hh; first | rfl | exact .inl rfl | exact .inr rfl | (exfalso; (try dsimp only at hh); omega))))⟩

set_option maxHeartbeats 800000 in
theorem nset_2 (r : Nat) (inp tr outp : ByteArray) (rd : Int) (k0 n0 v0 k1 n1 v1 k2 n2 v2 k3 n3 v3 k4 n4 v4 k5 n5 v5 a b c : Int) (w : World) (hb : Blk w r [.int .i64 k0, .int .i64 n0, .int .i64 v0, .int .i64 k1, .int .i64 n1, .int .i64 v1, .int .i64 k2, .int .i64 n2, .int .i64 v2, .int .i64 k3, .int .i64 n3, .int .i64 v3, .int .i64 k4, .int .i64 n4, .int .i64 v4, .int .i64 k5, .int .i64 n5, .int .i64 v5, .string inp, .int .i64 rd, .string tr, .string outp] 142) :
    Calls Tryz.prog 145 #[.pointer (some ⟨r, 0, none⟩), .int .i64 2, .agg #[.int .i64 a, .int .i64 b, .int .i64 c]] w fun e w' => e = .returned (.tuple #[]) ∧ Blk w' r [.int .i64 k0, .int .i64 n0, .int .i64 v0, .int .i64 k1, .int .i64 n1, .int .i64 v1, .int .i64 a, .int .i64 b, .int .i64 c, .int .i64 k3, .int .i64 n3, .int .i64 v3, .int .i64 k4, .int .i64 n4, .int .i64 v4, .int .i64 k5, .int .i64 n5, .int .i64 v5, .string inp, .int .i64 rd, .string tr, .string outp] 142 ∧ Kp (· = r) w w' := by
  have hr := hb.lt
  go_enter Tryz.func145, Tryz.ntmps145
  go_wp2
  refine wp_gen (fun W => Blk W r [.int .i64 k0, .int .i64 n0, .int .i64 v0, .int .i64 k1, .int .i64 n1, .int .i64 v1, .int .i64 k2, .int .i64 n2, .int .i64 v2, .int .i64 k3, .int .i64 n3, .int .i64 v3, .int .i64 k4, .int .i64 n4, .int .i64 v4, .int .i64 k5, .int .i64 n5, .int .i64 v5, .string inp, .int .i64 rd, .string tr, .string outp] 142 ∧ Blk W w.heap.size [.int .i64 a, .int .i64 b, .int .i64 c] 89 ∧ Kp (· = r) w W) ⟨by (repeat' (first | ((with_reducible show (_ : List Value) = _); rfl) | with_reducible exact hb | ((with_reducible refine Blk.newAt _ _ _ ?_); first | with_reducible rfl | (simp; done)) | with_reducible refine Blk.alloc ?_ _ | with_reducible refine Blk.drewN ?_ _ | with_reducible refine Blk.drew ?_ | ((with_reducible refine Blk.other ?_ _ ?_); rotate_left; ((try dsimp only); omega)) | with_reducible refine Blk.setB (cs0 := ?_) ?_ ?_)), by (repeat' (first | ((with_reducible show (_ : List Value) = _); rfl) | ((with_reducible refine Blk.newAt _ _ _ ?_); first | with_reducible rfl | (simp; done)) | with_reducible refine Blk.alloc ?_ _ | with_reducible refine Blk.drewN ?_ _ | with_reducible refine Blk.drew ?_ | ((with_reducible refine Blk.other ?_ _ ?_); rotate_left; ((try dsimp only); omega)) | with_reducible refine Blk.setB (cs0 := ?_) ?_ ?_)), by (repeat' (first | with_reducible exact Kp.refl _ _ | with_reducible refine Kp.alloc ?_ _ | with_reducible refine Kp.drewN ?_ _ | with_reducible refine Kp.drew ?_ | with_reducible refine Kp.setCell ?_ _ ?_ | (intro hh; first | rfl | exact .inl rfl | exact .inr rfl | (exfalso; (try dsimp only at hh); omega))))⟩ ?_
  rintro W ⟨hbW, hL, kW⟩
  obtain ⟨c0, c1, c2, c3, c4, c5, c6, c7, c8, c9, c10, c11, c12, c13, c14, c15, c16, c17, c18, c19, c20, c21, cf⟩ := hbW.c22
  obtain ⟨l0, l1, l2, lf⟩ := hL.c3
  have hrW := hbW.lt
  have hlW := hL.lt
  clear hb c0 c1 c2 c3 c4 c5 c9 c10 c11 c12 c13 c14 c15 c16 c17 c18 c19 c20 c21
  go_region
  all_goals
    go_wp2
    go_end0
    exact ⟨rfl, by (repeat' (first | ((with_reducible show (_ : List Value) = _); rfl) | with_reducible exact hbW | ((with_reducible refine Blk.newAt _ _ _ ?_); first | with_reducible rfl | (simp; done)) | with_reducible refine Blk.alloc ?_ _ | with_reducible refine Blk.drewN ?_ _ | with_reducible refine Blk.drew ?_ | ((with_reducible refine Blk.other ?_ _ ?_); rotate_left; ((try dsimp only); omega)) | with_reducible refine Blk.setB (cs0 := ?_) ?_ ?_)), by (repeat' (first | with_reducible exact Kp.refl _ _ | with_reducible refine Kp.alloc ?_ _ | with_reducible refine Kp.drewN ?_ _ | with_reducible refine Kp.drew ?_ | with_reducible refine Kp.setCell ?_ _ ?_ | with_reducible refine Kp.trans ?_ kW (fun _ _ e => e) | (intro hh; first | rfl | exact .inl rfl | exact .inr rfl | (exfalso; (try dsimp only at hh); omega))))⟩

set_option maxHeartbeats 800000 in
theorem nset_3 (r : Nat) (inp tr outp : ByteArray) (rd : Int) (k0 n0 v0 k1 n1 v1 k2 n2 v2 k3 n3 v3 k4 n4 v4 k5 n5 v5 a b c : Int) (w : World) (hb : Blk w r [.int .i64 k0, .int .i64 n0, .int .i64 v0, .int .i64 k1, .int .i64 n1, .int .i64 v1, .int .i64 k2, .int .i64 n2, .int .i64 v2, .int .i64 k3, .int .i64 n3, .int .i64 v3, .int .i64 k4, .int .i64 n4, .int .i64 v4, .int .i64 k5, .int .i64 n5, .int .i64 v5, .string inp, .int .i64 rd, .string tr, .string outp] 142) :
    Calls Tryz.prog 145 #[.pointer (some ⟨r, 0, none⟩), .int .i64 3, .agg #[.int .i64 a, .int .i64 b, .int .i64 c]] w fun e w' => e = .returned (.tuple #[]) ∧ Blk w' r [.int .i64 k0, .int .i64 n0, .int .i64 v0, .int .i64 k1, .int .i64 n1, .int .i64 v1, .int .i64 k2, .int .i64 n2, .int .i64 v2, .int .i64 a, .int .i64 b, .int .i64 c, .int .i64 k4, .int .i64 n4, .int .i64 v4, .int .i64 k5, .int .i64 n5, .int .i64 v5, .string inp, .int .i64 rd, .string tr, .string outp] 142 ∧ Kp (· = r) w w' := by
  have hr := hb.lt
  go_enter Tryz.func145, Tryz.ntmps145
  go_wp2
  refine wp_gen (fun W => Blk W r [.int .i64 k0, .int .i64 n0, .int .i64 v0, .int .i64 k1, .int .i64 n1, .int .i64 v1, .int .i64 k2, .int .i64 n2, .int .i64 v2, .int .i64 k3, .int .i64 n3, .int .i64 v3, .int .i64 k4, .int .i64 n4, .int .i64 v4, .int .i64 k5, .int .i64 n5, .int .i64 v5, .string inp, .int .i64 rd, .string tr, .string outp] 142 ∧ Blk W w.heap.size [.int .i64 a, .int .i64 b, .int .i64 c] 89 ∧ Kp (· = r) w W) ⟨by (repeat' (first | ((with_reducible show (_ : List Value) = _); rfl) | with_reducible exact hb | ((with_reducible refine Blk.newAt _ _ _ ?_); first | with_reducible rfl | (simp; done)) | with_reducible refine Blk.alloc ?_ _ | with_reducible refine Blk.drewN ?_ _ | with_reducible refine Blk.drew ?_ | ((with_reducible refine Blk.other ?_ _ ?_); rotate_left; ((try dsimp only); omega)) | with_reducible refine Blk.setB (cs0 := ?_) ?_ ?_)), by (repeat' (first | ((with_reducible show (_ : List Value) = _); rfl) | ((with_reducible refine Blk.newAt _ _ _ ?_); first | with_reducible rfl | (simp; done)) | with_reducible refine Blk.alloc ?_ _ | with_reducible refine Blk.drewN ?_ _ | with_reducible refine Blk.drew ?_ | ((with_reducible refine Blk.other ?_ _ ?_); rotate_left; ((try dsimp only); omega)) | with_reducible refine Blk.setB (cs0 := ?_) ?_ ?_)), by (repeat' (first | with_reducible exact Kp.refl _ _ | with_reducible refine Kp.alloc ?_ _ | with_reducible refine Kp.drewN ?_ _ | with_reducible refine Kp.drew ?_ | with_reducible refine Kp.setCell ?_ _ ?_ | (intro hh; first | rfl | exact .inl rfl | exact .inr rfl | (exfalso; (try dsimp only at hh); omega))))⟩ ?_
  rintro W ⟨hbW, hL, kW⟩
  obtain ⟨c0, c1, c2, c3, c4, c5, c6, c7, c8, c9, c10, c11, c12, c13, c14, c15, c16, c17, c18, c19, c20, c21, cf⟩ := hbW.c22
  obtain ⟨l0, l1, l2, lf⟩ := hL.c3
  have hrW := hbW.lt
  have hlW := hL.lt
  clear hb c0 c1 c2 c3 c4 c5 c6 c7 c8 c12 c13 c14 c15 c16 c17 c18 c19 c20 c21
  go_region
  all_goals
    go_wp2
    go_end0
    exact ⟨rfl, by (repeat' (first | ((with_reducible show (_ : List Value) = _); rfl) | with_reducible exact hbW | ((with_reducible refine Blk.newAt _ _ _ ?_); first | with_reducible rfl | (simp; done)) | with_reducible refine Blk.alloc ?_ _ | with_reducible refine Blk.drewN ?_ _ | with_reducible refine Blk.drew ?_ | ((with_reducible refine Blk.other ?_ _ ?_); rotate_left; ((try dsimp only); omega)) | with_reducible refine Blk.setB (cs0 := ?_) ?_ ?_)), by (repeat' (first | with_reducible exact Kp.refl _ _ | with_reducible refine Kp.alloc ?_ _ | with_reducible refine Kp.drewN ?_ _ | with_reducible refine Kp.drew ?_ | with_reducible refine Kp.setCell ?_ _ ?_ | with_reducible refine Kp.trans ?_ kW (fun _ _ e => e) | (intro hh; first | rfl | exact .inl rfl | exact .inr rfl | (exfalso; (try dsimp only at hh); omega))))⟩

set_option maxHeartbeats 800000 in
theorem nset_4 (r : Nat) (inp tr outp : ByteArray) (rd : Int) (k0 n0 v0 k1 n1 v1 k2 n2 v2 k3 n3 v3 k4 n4 v4 k5 n5 v5 a b c : Int) (w : World) (hb : Blk w r [.int .i64 k0, .int .i64 n0, .int .i64 v0, .int .i64 k1, .int .i64 n1, .int .i64 v1, .int .i64 k2, .int .i64 n2, .int .i64 v2, .int .i64 k3, .int .i64 n3, .int .i64 v3, .int .i64 k4, .int .i64 n4, .int .i64 v4, .int .i64 k5, .int .i64 n5, .int .i64 v5, .string inp, .int .i64 rd, .string tr, .string outp] 142) :
    Calls Tryz.prog 145 #[.pointer (some ⟨r, 0, none⟩), .int .i64 4, .agg #[.int .i64 a, .int .i64 b, .int .i64 c]] w fun e w' => e = .returned (.tuple #[]) ∧ Blk w' r [.int .i64 k0, .int .i64 n0, .int .i64 v0, .int .i64 k1, .int .i64 n1, .int .i64 v1, .int .i64 k2, .int .i64 n2, .int .i64 v2, .int .i64 k3, .int .i64 n3, .int .i64 v3, .int .i64 a, .int .i64 b, .int .i64 c, .int .i64 k5, .int .i64 n5, .int .i64 v5, .string inp, .int .i64 rd, .string tr, .string outp] 142 ∧ Kp (· = r) w w' := by
  have hr := hb.lt
  go_enter Tryz.func145, Tryz.ntmps145
  go_wp2
  refine wp_gen (fun W => Blk W r [.int .i64 k0, .int .i64 n0, .int .i64 v0, .int .i64 k1, .int .i64 n1, .int .i64 v1, .int .i64 k2, .int .i64 n2, .int .i64 v2, .int .i64 k3, .int .i64 n3, .int .i64 v3, .int .i64 k4, .int .i64 n4, .int .i64 v4, .int .i64 k5, .int .i64 n5, .int .i64 v5, .string inp, .int .i64 rd, .string tr, .string outp] 142 ∧ Blk W w.heap.size [.int .i64 a, .int .i64 b, .int .i64 c] 89 ∧ Kp (· = r) w W) ⟨by (repeat' (first | ((with_reducible show (_ : List Value) = _); rfl) | with_reducible exact hb | ((with_reducible refine Blk.newAt _ _ _ ?_); first | with_reducible rfl | (simp; done)) | with_reducible refine Blk.alloc ?_ _ | with_reducible refine Blk.drewN ?_ _ | with_reducible refine Blk.drew ?_ | ((with_reducible refine Blk.other ?_ _ ?_); rotate_left; ((try dsimp only); omega)) | with_reducible refine Blk.setB (cs0 := ?_) ?_ ?_)), by (repeat' (first | ((with_reducible show (_ : List Value) = _); rfl) | ((with_reducible refine Blk.newAt _ _ _ ?_); first | with_reducible rfl | (simp; done)) | with_reducible refine Blk.alloc ?_ _ | with_reducible refine Blk.drewN ?_ _ | with_reducible refine Blk.drew ?_ | ((with_reducible refine Blk.other ?_ _ ?_); rotate_left; ((try dsimp only); omega)) | with_reducible refine Blk.setB (cs0 := ?_) ?_ ?_)), by (repeat' (first | with_reducible exact Kp.refl _ _ | with_reducible refine Kp.alloc ?_ _ | with_reducible refine Kp.drewN ?_ _ | with_reducible refine Kp.drew ?_ | with_reducible refine Kp.setCell ?_ _ ?_ | (intro hh; first | rfl | exact .inl rfl | exact .inr rfl | (exfalso; (try dsimp only at hh); omega))))⟩ ?_
  rintro W ⟨hbW, hL, kW⟩
  obtain ⟨c0, c1, c2, c3, c4, c5, c6, c7, c8, c9, c10, c11, c12, c13, c14, c15, c16, c17, c18, c19, c20, c21, cf⟩ := hbW.c22
  obtain ⟨l0, l1, l2, lf⟩ := hL.c3
  have hrW := hbW.lt
  have hlW := hL.lt
  clear hb c0 c1 c2 c3 c4 c5 c6 c7 c8 c9 c10 c11 c15 c16 c17 c18 c19 c20 c21
  go_region
  all_goals
    go_wp2
    go_end0
    exact ⟨rfl, by (repeat' (first | ((with_reducible show (_ : List Value) = _); rfl) | with_reducible exact hbW | ((with_reducible refine Blk.newAt _ _ _ ?_); first | with_reducible rfl | (simp; done)) | with_reducible refine Blk.alloc ?_ _ | with_reducible refine Blk.drewN ?_ _ | with_reducible refine Blk.drew ?_ | ((with_reducible refine Blk.other ?_ _ ?_); rotate_left; ((try dsimp only); omega)) | with_reducible refine Blk.setB (cs0 := ?_) ?_ ?_)), by (repeat' (first | with_reducible exact Kp.refl _ _ | with_reducible refine Kp.alloc ?_ _ | with_reducible refine Kp.drewN ?_ _ | with_reducible refine Kp.drew ?_ | with_reducible refine Kp.setCell ?_ _ ?_ | with_reducible refine Kp.trans ?_ kW (fun _ _ e => e) | (intro hh; first | rfl | exact .inl rfl | exact .inr rfl | (exfalso; (try dsimp only at hh); omega))))⟩

set_option maxHeartbeats 800000 in
theorem nset_5 (r : Nat) (inp tr outp : ByteArray) (rd : Int) (k0 n0 v0 k1 n1 v1 k2 n2 v2 k3 n3 v3 k4 n4 v4 k5 n5 v5 a b c : Int) (w : World) (hb : Blk w r [.int .i64 k0, .int .i64 n0, .int .i64 v0, .int .i64 k1, .int .i64 n1, .int .i64 v1, .int .i64 k2, .int .i64 n2, .int .i64 v2, .int .i64 k3, .int .i64 n3, .int .i64 v3, .int .i64 k4, .int .i64 n4, .int .i64 v4, .int .i64 k5, .int .i64 n5, .int .i64 v5, .string inp, .int .i64 rd, .string tr, .string outp] 142) :
    Calls Tryz.prog 145 #[.pointer (some ⟨r, 0, none⟩), .int .i64 5, .agg #[.int .i64 a, .int .i64 b, .int .i64 c]] w fun e w' => e = .returned (.tuple #[]) ∧ Blk w' r [.int .i64 k0, .int .i64 n0, .int .i64 v0, .int .i64 k1, .int .i64 n1, .int .i64 v1, .int .i64 k2, .int .i64 n2, .int .i64 v2, .int .i64 k3, .int .i64 n3, .int .i64 v3, .int .i64 k4, .int .i64 n4, .int .i64 v4, .int .i64 a, .int .i64 b, .int .i64 c, .string inp, .int .i64 rd, .string tr, .string outp] 142 ∧ Kp (· = r) w w' := by
  have hr := hb.lt
  go_enter Tryz.func145, Tryz.ntmps145
  go_wp2
  refine wp_gen (fun W => Blk W r [.int .i64 k0, .int .i64 n0, .int .i64 v0, .int .i64 k1, .int .i64 n1, .int .i64 v1, .int .i64 k2, .int .i64 n2, .int .i64 v2, .int .i64 k3, .int .i64 n3, .int .i64 v3, .int .i64 k4, .int .i64 n4, .int .i64 v4, .int .i64 k5, .int .i64 n5, .int .i64 v5, .string inp, .int .i64 rd, .string tr, .string outp] 142 ∧ Blk W w.heap.size [.int .i64 a, .int .i64 b, .int .i64 c] 89 ∧ Kp (· = r) w W) ⟨by (repeat' (first | ((with_reducible show (_ : List Value) = _); rfl) | with_reducible exact hb | ((with_reducible refine Blk.newAt _ _ _ ?_); first | with_reducible rfl | (simp; done)) | with_reducible refine Blk.alloc ?_ _ | with_reducible refine Blk.drewN ?_ _ | with_reducible refine Blk.drew ?_ | ((with_reducible refine Blk.other ?_ _ ?_); rotate_left; ((try dsimp only); omega)) | with_reducible refine Blk.setB (cs0 := ?_) ?_ ?_)), by (repeat' (first | ((with_reducible show (_ : List Value) = _); rfl) | ((with_reducible refine Blk.newAt _ _ _ ?_); first | with_reducible rfl | (simp; done)) | with_reducible refine Blk.alloc ?_ _ | with_reducible refine Blk.drewN ?_ _ | with_reducible refine Blk.drew ?_ | ((with_reducible refine Blk.other ?_ _ ?_); rotate_left; ((try dsimp only); omega)) | with_reducible refine Blk.setB (cs0 := ?_) ?_ ?_)), by (repeat' (first | with_reducible exact Kp.refl _ _ | with_reducible refine Kp.alloc ?_ _ | with_reducible refine Kp.drewN ?_ _ | with_reducible refine Kp.drew ?_ | with_reducible refine Kp.setCell ?_ _ ?_ | (intro hh; first | rfl | exact .inl rfl | exact .inr rfl | (exfalso; (try dsimp only at hh); omega))))⟩ ?_
  rintro W ⟨hbW, hL, kW⟩
  obtain ⟨c0, c1, c2, c3, c4, c5, c6, c7, c8, c9, c10, c11, c12, c13, c14, c15, c16, c17, c18, c19, c20, c21, cf⟩ := hbW.c22
  obtain ⟨l0, l1, l2, lf⟩ := hL.c3
  have hrW := hbW.lt
  have hlW := hL.lt
  clear hb c0 c1 c2 c3 c4 c5 c6 c7 c8 c9 c10 c11 c12 c13 c14 c18 c19 c20 c21
  go_region
  all_goals
    go_wp2
    go_end0
    exact ⟨rfl, by (repeat' (first | ((with_reducible show (_ : List Value) = _); rfl) | with_reducible exact hbW | ((with_reducible refine Blk.newAt _ _ _ ?_); first | with_reducible rfl | (simp; done)) | with_reducible refine Blk.alloc ?_ _ | with_reducible refine Blk.drewN ?_ _ | with_reducible refine Blk.drew ?_ | ((with_reducible refine Blk.other ?_ _ ?_); rotate_left; ((try dsimp only); omega)) | with_reducible refine Blk.setB (cs0 := ?_) ?_ ?_)), by (repeat' (first | with_reducible exact Kp.refl _ _ | with_reducible refine Kp.alloc ?_ _ | with_reducible refine Kp.drewN ?_ _ | with_reducible refine Kp.drew ?_ | with_reducible refine Kp.setCell ?_ _ ?_ | with_reducible refine Kp.trans ?_ kW (fun _ _ e => e) | (intro hh; first | rfl | exact .inl rfl | exact .inr rfl | (exfalso; (try dsimp only at hh); omega))))⟩

end Go.Proofs.YtellieabhaphhaaGreatDoor
