import Derived.Test.YtellieabhaphhaaGreatDoorPGraphsI
/-
  Plain: where the maker's jumps lead; what both readers make of a source.
-/
namespace Go.Proofs.YtellieabhaphhaaGreatDoor
open Go.RowKit

theorem ahdA_eq (row : List NN) (p : Nat) : ∀ j, ahdA row p j = nj (row.take (min p j))
  | 0 => by rw [Nat.min_zero]; rfl
  | j + 1 => by
    rw [ahdA, ahdA_eq row p j]
    by_cases h : j < p
    · rw [Nat.min_eq_right (by omega : j ≤ p), Nat.min_eq_right (by omega : j + 1 ≤ p), nj_take]
      cases row[j]? with
      | none => rfl
      | some n => simp [h]
    · rw [Nat.min_eq_left (by omega : p ≤ j), Nat.min_eq_left (by omega : p ≤ j + 1)]
      cases row[j]? with
      | none => rfl
      | some n => simp [h]

theorem ahdM_eq (row : List NN) (p : Nat) : ahdM row p = nj (row.take p) := by
  rw [ahdM, ahdA_eq]
  rcases Nat.le_total p row.length with h | h
  · rw [Nat.min_eq_left h]
  · rw [Nat.min_eq_right h, List.take_length, List.take_of_length_le h]

theorem hop_more {M : MS} (hJ : JOk M 0 M.row.length) : ∀ (f p : Nat), M.row.length - p ≤ f → hopM M f p = hopM M (f + 1) p
  | 0, p, h => by rw [hopM_none (by omega), hopM_none (by omega)]
  | f + 1, p, h => by
    by_cases hp : p < M.row.length
    · by_cases ha : (M.row[p]).act = 15
      · rw [hopM_jump hp ha, hopM_jump hp ha]
        rcases hJ p M.row[p] (Nat.zero_le _) hp (List.getElem?_eq_getElem hp) ha with q | ⟨n', q1, q2⟩
        · exact hop_more hJ f _ (by omega)
        · obtain ⟨l, e⟩ := List.getElem?_eq_some_iff.1 q1
          rw [hopM_node l (by rw [e]; exact q2), hopM_node l (by rw [e]; exact q2)]
      · rw [hopM_node hp ha, hopM_node hp ha]
    · rw [hopM_none hp, hopM_none hp]

/-- Where a run comes to from a place of the row. -/
def LdM (M : MS) (p : Nat) : Int := (ahdM M.row (hopM M M.row.length p) : Nat)
def WyM (M : MS) (n : Nat) : Int × Int × Bool := match (nodM M)[n]? with | some x => (x.yes, x.no, decide (x.act = 12 ∨ x.act = 13)) | none => (0, 0, false)

theorem nodA_at (M : MS) {p : Nat} {n : NN} (h : M.row[p]? = some n) (ha : n.act ≠ 15) : ∀ j, p < j → (nodA M j)[nj (M.row.take p)]? = some (n.setW (nbhM M n.yes) (nbhM M n.no))
  | 0, hj => by omega
  | j + 1, hj => by
    rw [nodA]
    by_cases he : j = p
    · subst he
      rw [h]
      dsimp only
      rw [if_neg ha, ← nodA_nj, List.getElem?_append_right (Nat.le_refl _), Nat.sub_self]
      rfl
    · have ih := nodA_at M h ha j (by omega)
      rw [List.getElem?_append_left (List.getElem?_eq_some_iff.1 ih).1]
      exact ih

theorem fin_of {M : MS} (hJ : JOk M 0 M.row.length) : Fin' M (LdM M) (WyM M) := by
  refine ⟨fun p n h ha => ?_, fun p k h => ?_⟩
  · obtain ⟨l, e⟩ := List.getElem?_eq_some_iff.1 h
    refine ⟨?_, ?_⟩
    · unfold LdM
      rw [hopM_node l (by rw [e]; exact ha), ahdM_eq]
    · unfold WyM
      rw [nodM, nodA_at M h ha _ l]
      rfl
  · obtain ⟨l, e⟩ := List.getElem?_eq_some_iff.1 h
    have ha : (M.row[p]).act = 15 := by rw [e]; rfl
    have hy : (M.row[p]).yes = k := by rw [e]; rfl
    unfold LdM
    congr 2
    have hl : M.row.length = (M.row.length - 1) + 1 := by omega
    rw [hl, hopM_jump l ha, hy]
    rcases hJ p M.row[p] (Nat.zero_le _) l (List.getElem?_eq_getElem l) ha with q | ⟨n', q1, q2⟩
    · rw [hy] at q
      exact hop_more hJ _ _ (by omega)
    · rw [hy] at q1
      obtain ⟨l2, e2⟩ := List.getElem?_eq_some_iff.1 q1
      rw [hopM_node l2 (by rw [e2]; exact q2), hopM_node l2 (by rw [e2]; exact q2)]

/-- What both readers make of a source. -/
theorem src_par {s : ByteArray} (hs : s.size ≤ 180) (h : (srE s).1 = 0) (ou ag : Int) : FR s (srM s).row (srcF s).nodes ∧
    StW (s.size + 1) (srcF s).items (WyM (srM s)) 0 (srcF s).items.length 0 (nj (srM s).row) (nj (srM s).row : Nat) ou ag ∧
    entO (srcF s).items 0 (srcF s).items.length (nj (srM s).row : Nat) ou ag = some (LdM (srM s) 0) := by
  obtain ⟨g1, _⟩ := srM_good hs h
  have hg2 : (srM s).p.2 = false := by rw [g1]
  have hg1 : (srM s).p.1 = s.size := by rw [g1]
  have hb := (srcF_good s).inv
  have P := par_stms (s.size + 1) s 0 (by omega) (.inr rfl) false (-1) (-1) ms0 rs0 (.inr ⟨rfl, rfl, rfl⟩) rfl rfl rfl (Nat.zero_le _) (by show s.size - 0 < _; omega) ⟨rfl, fun _ hn => by cases hn⟩ hg2 (.inr (by show s.size ≤ (srM s).p.1; omega))
  obtain ⟨P, J, O⟩ := P
  have P' : Pr s ms0 rs0 (srM s) (srcF s) := P
  have hJ : JOk (srM s) 0 (srM s).row.length := J (srM s) Xe.refl (fun e => by cases e)
  have hIl : (srcF s).items.length ≤ 1000 := by
    have := hb.t; have := hb.i; have := cond_le (srcF s).bad; omega
  have hld : LdM (srM s) (srM s).row.length = (nj (srM s).row : Nat) := by
    unfold LdM
    rw [hopM_none (Nat.lt_irrefl _), ahdM_eq, List.take_length]
  have hO := O (srM s) (srcF s).items (LdM (srM s)) (WyM (srM s)) (nj (srM s).row : Nat) ou ag (fin_of hJ) Xe.refl Ag.refl hIl hld.symm (fun e => by cases e)
  exact ⟨P'.fr, hO.1, hO.2⟩
end Go.Proofs.YtellieabhaphhaaGreatDoor

/-
  narrowref.Graph: a loop's piece; the pieces.
-/
namespace Go.Proofs.YtellieabhaphhaaGreatDoor
open Go.RowKit

set_option maxRecDepth 100000 in
set_option maxHeartbeats 6400000 in
theorem pie_w {w : World} {r : Nat} {s : ByteArray} {st : RS} {O : Nat → Prop} {i a en : Nat} {nx ou ag t so : Int} {inn iel : Int} {i1 : It} {N1 N2 : List Nd} (h : Rp w r s st O) (hi : i ≤ 1000) (hit : st.items[i]? = some ⟨119, inn, iel, en⟩)
    (hit1 : st.items[i + 1]? = some i1) (hen : i1.en = a)
    (hF : RdS r s st 159 #[.pointer (some ⟨r, 0, none⟩), .int .i64 (i + 1 : Nat)] (.int .i64 so))
    (hE1 : RdS r s st 127 #[.pointer (some ⟨r, 0, none⟩), .int .i64 a, .int .i64 en, .agg #[.int .i64 so, .int .i64 nx, .int .i64 so]] (.int .i64 t))
    (hT : TiS r s st { st with nodes := N1 } 160 #[.pointer (some ⟨r, 0, none⟩), .int .i64 (i + 1 : Nat), .int .i64 t, .int .i64 nx])
    (hP1 : TiS r s { st with nodes := N1 } { st with nodes := N2 } 83 #[.pointer (some ⟨r, 0, none⟩), .int .i64 a, .int .i64 en, .agg #[.int .i64 so, .int .i64 nx, .int .i64 so]]) :
    Calls Tryz.prog 128 #[.pointer (some ⟨r, 0, none⟩), .int .i64 i, .agg #[.int .i64 nx, .int .i64 ou, .int .i64 ag]] w fun x w' => x = .returned (.tuple #[]) ∧ Went w O r s { st with nodes := N2 } w' := by
  obtain ⟨gi, cap, hil, hog, q4, i0, j1, i2, i3⟩ := h.itemAt hit
  obtain ⟨gi', cap', hil1, _, q4', m0, m1, m2, m3⟩ := h.itemAt hit1
  rw [q4] at q4'
  simp only [Option.some.injEq, Value.slice.injEq, Addr.mk.injEq, and_true] at q4'
  obtain ⟨rfl, _, _⟩ := q4'
  obtain ⟨c0, c1, c2, c5, cf⟩ := h.c
  have hrl := h.lt r h.own
  have hgl := h.lt gi hog
  have hiI : (i : Int) < st.items.length := by omega
  have hiI1 : (i : Int) + 1 < st.items.length := by omega
  rw [hen] at m3
  dsimp only at i0 j1 i2 i3
  have hcast : ((i + 1 : Nat) : Int) = (i : Int) + 1 := by omega
  rw [hcast] at hT hF
  have HF := hide hF; have HE1 := hide hE1; have HT := hide hT; have HP1 := hide hP1
  clear hit hit1 hF hE1 hT hP1 hcast m0 m1 m2
  go_enter Tryz.func128, Tryz.ntmps128
  repeat (first | go_values | go_skip | go_guarded | go_step | go_upon)
  refine (HF.out _ _ ((h.alloc _).alloc _)).mono ?_
  rintro x v1 ⟨rfl, k1⟩
  have hnO : ¬ O w.heap.size := fun e => Nat.lt_irrefl _ (h.lt _ e)
  have hnO1 : ¬ O (w.heap.size + 1) := fun e => by have := h.lt _ e; omega
  have h1 : Rp v1 r s st O := ((h.alloc _).alloc _).kp k1 (fun _ _ => no_elim)
  have hnO2 : ¬ O v1.heap.size := fun e => Nat.lt_irrefl _ (h1.lt _ e)
  have G1 : Blk v1 w.heap.size [.int .i64 nx, .int .i64 ou, .int .i64 ag] 124 := k1.blk (by (repeat' (first | ((with_reducible show (_ : List Value) = _); rfl) | ((with_reducible refine Blk.newAt _ _ _ ?_); first | with_reducible rfl | (simp; done)) | with_reducible refine Blk.alloc ?_ _ | with_reducible refine Blk.drewN ?_ _ | with_reducible refine Blk.drew ?_ | ((with_reducible refine Blk.other ?_ _ ?_); rotate_left; ((try dsimp only); omega)) | with_reducible refine Blk.setB (cs0 := ?_) ?_ ?_))) no_elim
  have B1 : Blk v1 (w.heap.size + 1) [.int .u8 119, .int .i64 inn, .int .i64 iel, .int .i64 en] 165 := k1.blk (by (repeat' (first | ((with_reducible show (_ : List Value) = _); rfl) | ((with_reducible refine Blk.newAt _ _ _ ?_); first | with_reducible rfl | (simp; done)) | with_reducible refine Blk.alloc ?_ _ | with_reducible refine Blk.drewN ?_ _ | with_reducible refine Blk.drew ?_ | ((with_reducible refine Blk.other ?_ _ ?_); rotate_left; ((try dsimp only); omega)) | with_reducible refine Blk.setB (cs0 := ?_) ?_ ?_))) no_elim
  have HTh := hide (show Th O w O v1 from ⟨((((Kp.refl no w).alloc _).alloc _).trans k1 (fun _ _ e => e)).mono (fun _ e => e.elim), fun _ hb _ => hb⟩)
  clear c0 c1 c2 c5 cf q4 i0 j1 i2 i3 m3 k1
  obtain ⟨b0, b1, b2, b3, bf⟩ := B1.c4; obtain ⟨g0, g1, g2, gf⟩ := G1.c3; have hbl := B1.lt; have hgl1 := G1.lt
  dsimp only
  go_at_K
  repeat (first | go_values | go_skip | go_guarded | go_step | go_upon)
  refine (HE1.out _ _ (h1.alloc _)).mono ?_
  rintro x v2 ⟨rfl, k2⟩
  have h2 : Rp v2 r s st O := (h1.alloc _).kp k2 (fun _ _ => no_elim)
  have G2 : Blk v2 w.heap.size [.int .i64 nx, .int .i64 ou, .int .i64 ag] 124 := k2.blk (by (repeat' (first | ((with_reducible show (_ : List Value) = _); rfl) | with_reducible exact G1 | ((with_reducible refine Blk.newAt _ _ _ ?_); first | with_reducible rfl | (simp; done)) | with_reducible refine Blk.alloc ?_ _ | with_reducible refine Blk.drewN ?_ _ | with_reducible refine Blk.drew ?_ | ((with_reducible refine Blk.other ?_ _ ?_); rotate_left; ((try dsimp only); omega)) | with_reducible refine Blk.setB (cs0 := ?_) ?_ ?_))) no_elim
  have B2 : Blk v2 (w.heap.size + 1) [.int .u8 119, .int .i64 inn, .int .i64 iel, .int .i64 en] 165 := k2.blk (by (repeat' (first | ((with_reducible show (_ : List Value) = _); rfl) | with_reducible exact B1 | ((with_reducible refine Blk.newAt _ _ _ ?_); first | with_reducible rfl | (simp; done)) | with_reducible refine Blk.alloc ?_ _ | with_reducible refine Blk.drewN ?_ _ | with_reducible refine Blk.drew ?_ | ((with_reducible refine Blk.other ?_ _ ?_); rotate_left; ((try dsimp only); omega)) | with_reducible refine Blk.setB (cs0 := ?_) ?_ ?_))) no_elim
  have N2b : Blk v2 v1.heap.size [.int .i64 so, .int .i64 nx, .int .i64 so] 124 := k2.blk (by (repeat' (first | ((with_reducible show (_ : List Value) = _); rfl) | ((with_reducible refine Blk.newAt _ _ _ ?_); first | with_reducible rfl | (simp; done)) | with_reducible refine Blk.alloc ?_ _ | with_reducible refine Blk.drewN ?_ _ | with_reducible refine Blk.drew ?_ | ((with_reducible refine Blk.other ?_ _ ?_); rotate_left; ((try dsimp only); omega)) | with_reducible refine Blk.setB (cs0 := ?_) ?_ ?_))) no_elim
  have HTh2 := hide (HTh.out.trans (show Th O v1 O v2 from ⟨(((Kp.refl no v1).alloc _).trans k2 (fun _ _ e => e)).mono (fun _ e => e.elim), fun _ hb _ => hb⟩))
  clear b0 b1 b2 b3 bf g0 g1 g2 gf hbl hgl1 k2
  obtain ⟨b0, b1, b2, b3, bf⟩ := B2.c4; obtain ⟨g0, g1, g2, gf⟩ := G2.c3; obtain ⟨y0, y1, y2, yf⟩ := N2b.c3; have hbl := B2.lt; have hgl1 := G2.lt; have hyl := N2b.lt
  dsimp only
  go_at_K
  repeat (first | go_values | go_skip | go_guarded | go_step | go_upon)
  refine (HT.out _ _ h2).mono ?_
  rintro x v3 ⟨rfl, O3, h3, t3⟩
  have G3 := Th.blk t3 G2 hnO
  have B3 := Th.blk t3 B2 hnO1
  have N3b := Th.blk t3 N2b hnO2
  have HTh3 := hide (HTh2.out.trans t3)
  clear b0 b1 b2 b3 bf g0 g1 g2 gf hbl hgl1 t3 y0 y1 y2 yf hyl
  obtain ⟨b0, b1, b2, b3, bf⟩ := B3.1.c4; obtain ⟨g0, g1, g2, gf⟩ := G3.1.c3; obtain ⟨y0, y1, y2, yf⟩ := N3b.1.c3; have hbl := B3.1.lt; have hgl1 := G3.1.lt; have hyl := N3b.1.lt
  dsimp only
  go_at_K
  repeat (first | go_values | go_skip | go_guarded | go_step | go_upon)
  refine (HP1.out _ _ h3).mono ?_
  rintro x v4 ⟨rfl, O4, h4, t4⟩
  have HTh4 := hide (HTh3.out.trans t4)
  dsimp only
  go_at_K
  repeat (first | go_values | go_skip | go_guarded | go_step | go_upon)
  go_end0
  exact ⟨rfl, O4, h4, HTh4.out⟩

theorem pieO_len {f : Nat} {PS : Nat → Nat → Int → Int → Int → List Nd → Option (List Nd)} (hP : ∀ i e nx ou ag ND N', PS i e nx ou ag ND = some N' → N'.length = ND.length) {IT : List It} {i : Nat} {nx ou ag : Int} {ND N' : List Nd} (h : pieO f PS IT i nx ou ag ND = some N') : N'.length = ND.length := by
  unfold pieO at h
  split at h
  · simp at h
  · split at h
    · split at h
      · simp only [Option.some.injEq] at h; rw [← h, List.length_modify]
      · simp at h
    split at h
    · split at h
      · simp at h
      · split at h
        · split at h
          · split at h
            · simp at h
            · rename_i N1 hN1
              split at h
              · simp at h
              · rename_i N2 hN2
                rw [hP _ _ _ _ _ _ _ h, hP _ _ _ _ _ _ _ hN2, tieO_len _ _ _ _ _ _ _ hN1]
          · simp at h
        · simp at h
    split at h
    · split at h
      · simp at h
      · split at h
        · split at h
          · simp at h
          · split at h
            · simp at h
            · split at h
              · simp at h
              · rename_i N1 hN1
                rw [hP _ _ _ _ _ _ _ h, tieO_len _ _ _ _ _ _ _ hN1]
        · simp at h
    · simp only [Option.some.injEq] at h; rw [h]

theorem psO_len : ∀ (f : Nat) (IT : List It) (i e : Nat) (nx ou ag : Int) (ND N' : List Nd), psO f IT i e nx ou ag ND = some N' → N'.length = ND.length
  | 0, _, _, _, _, _, _, _, _, h => by simp [psO] at h
  | f + 1, IT, i, e, nx, ou, ag, ND, N', h => by
    rw [psO] at h
    split at h
    · split at h
      · simp at h
      · split at h
        · split at h
          · simp at h
          · split at h
            · simp at h
            · rename_i N1 hN1
              rw [psO_len f _ _ _ _ _ _ _ _ h, pieO_len (fun i e nx ou ag ND N' h => psO_len f IT i e nx ou ag ND N' h) hN1]
        · simp at h
    · simp only [Option.some.injEq] at h; rw [h]
end Go.Proofs.YtellieabhaphhaaGreatDoor

/-
  narrowref.Graph: the pieces.
-/
namespace Go.Proofs.YtellieabhaphhaaGreatDoor
open Go.RowKit

def PieSaid (f : Nat) : Prop := ∀ (w : World) (r : Nat) (s : ByteArray) (st : RS) (O : Nat → Prop) (i : Nat) (nx ou ag : Int) (ND : List Nd), st.items.length ≤ 1000 → st.nodes.length ≤ 1000 → i ≤ 1000 → Rp w r s st O → pieO f (psO f st.items) st.items i nx ou ag st.nodes = some ND →
    Calls Tryz.prog 128 #[.pointer (some ⟨r, 0, none⟩), .int .i64 i, .agg #[.int .i64 nx, .int .i64 ou, .int .i64 ag]] w fun x w' => x = .returned (.tuple #[]) ∧ Went w O r s { st with nodes := ND } w'

theorem piece_all {f : Nat} (ih : PsSaid f) : PieSaid f := by
  intro w r s st O i nx ou ag ND hl hn hi h hE
  have hTie := tie_all f
  unfold pieO at hE
  cases hit : st.items[i]? with
  | none => rw [hit] at hE; simp at hE
  | some it =>
    rw [hit] at hE
    obtain ⟨ik, inn, iel, ien⟩ := it
    dsimp only at hE
    by_cases h1 : ik = 115
    · rw [if_pos h1] at hE
      subst h1
      by_cases hc : 0 ≤ inn ∧ inn < st.nodes.length
      · rw [if_pos hc] at hE
        obtain ⟨k, rfl⟩ := Int.eq_ofNat_of_zero_le hc.1
        rw [Int.toNat_natCast] at hE
        simp only [Option.some.injEq] at hE
        rw [← hE]
        exact pie_s h hit (by omega)
      · rw [if_neg hc] at hE; simp at hE
    rw [if_neg h1] at hE
    by_cases h2 : ik = 105
    · rw [if_pos h2] at hE
      subst h2
      cases hi1 : st.items[i + 1]? with
      | none => rw [hi1] at hE; simp at hE
      | some i1 =>
        rw [hi1] at hE
        dsimp only at hE
        by_cases hc : (0 ≤ i1.en ∧ i1.en ≤ 1000) ∧ (0 ≤ iel ∧ iel ≤ 1000) ∧ (0 ≤ ien ∧ ien ≤ 1000)
        · rw [if_pos hc] at hE
          obtain ⟨a, ha⟩ := Int.eq_ofNat_of_zero_le hc.1.1
          obtain ⟨el, rfl⟩ := Int.eq_ofNat_of_zero_le hc.2.1.1
          obtain ⟨en, rfl⟩ := Int.eq_ofNat_of_zero_le hc.2.2.1
          rw [ha, Int.toNat_natCast, Int.toNat_natCast, Int.toNat_natCast] at hE
          cases he1 : entO st.items a el nx ou ag with
          | none => rw [he1] at hE; simp at hE
          | some t =>
            cases he2 : entO st.items el en nx ou ag with
            | none => rw [he1, he2] at hE; simp at hE
            | some g =>
              rw [he1, he2] at hE
              dsimp only at hE
              cases ht : tieO f st.items (i + 1) t g st.nodes with
              | none => rw [ht] at hE; simp at hE
              | some N1 =>
                rw [ht] at hE
                dsimp only at hE
                cases hp : psO f st.items a el nx ou ag N1 with
                | none => rw [hp] at hE; simp at hE
                | some N2 =>
                  rw [hp] at hE
                  dsimp only at hE
                  have l1 := tieO_len _ _ _ _ _ _ _ ht
                  have l2 := psO_len _ _ _ _ _ _ _ _ _ hp
                  exact pie_i (a := a) (el := el) (en := en) (t := t) (g := g) (N1 := N1) (N2 := N2) h hi hit hi1 ha
                    (fun W O hW => entry_c a el nx ou ag t W hW hl he1) (fun W O hW => entry_c el en nx ou ag g W hW hl he2)
                    (fun W O hW => hTie W r s st O (i + 1) t g N1 hl hn (by have := (List.getElem?_eq_some_iff.1 hi1).1; omega) hW ht)
                    (fun W O hW => ih W r s { st with nodes := N1 } O a el nx ou ag N2 hl (by show N1.length ≤ 1000; omega) (by omega) (by omega) hW hp)
                    (fun W O hW => ih W r s { st with nodes := N2 } O el en nx ou ag ND hl (by show N2.length ≤ 1000; omega) (by omega) (by omega) hW hE)
        · rw [if_neg hc] at hE; simp at hE
    rw [if_neg h2] at hE
    by_cases h3 : ik = 119
    · rw [if_pos h3] at hE
      subst h3
      cases hi1 : st.items[i + 1]? with
      | none => rw [hi1] at hE; simp at hE
      | some i1 =>
        rw [hi1] at hE
        dsimp only at hE
        by_cases hc : (0 ≤ i1.en ∧ i1.en ≤ 1000) ∧ (0 ≤ ien ∧ ien ≤ 1000)
        · rw [if_pos hc] at hE
          obtain ⟨a, ha⟩ := Int.eq_ofNat_of_zero_le hc.1.1
          obtain ⟨en, rfl⟩ := Int.eq_ofNat_of_zero_le hc.2.1
          rw [ha, Int.toNat_natCast, Int.toNat_natCast] at hE
          cases hf : firG (st.items.length + 1) st.items (i + 1) with
          | none => rw [hf] at hE; simp at hE
          | some so =>
            rw [hf] at hE
            dsimp only at hE
            cases he1 : entO st.items a en so nx so with
            | none => rw [he1] at hE; simp at hE
            | some t =>
              rw [he1] at hE
              dsimp only at hE
              cases ht : tieO f st.items (i + 1) t nx st.nodes with
              | none => rw [ht] at hE; simp at hE
              | some N1 =>
                rw [ht] at hE
                dsimp only at hE
                have l1 := tieO_len _ _ _ _ _ _ _ ht
                exact pie_w (a := a) (en := en) (t := t) (so := so) (N1 := N1) h hi hit hi1 ha
                  (fun W O hW => first_c _ (i + 1) so W hW hl hf) (fun W O hW => entry_c a en so nx so t W hW hl he1)
                  (fun W O hW => hTie W r s st O (i + 1) t nx N1 hl hn (by have := (List.getElem?_eq_some_iff.1 hi1).1; omega) hW ht)
                  (fun W O hW => ih W r s { st with nodes := N1 } O a en so nx so ND hl (by show N1.length ≤ 1000; omega) (by omega) (by omega) hW hE)
        · rw [if_neg hc] at hE; simp at hE
    · rw [if_neg h3] at hE
      simp only [Option.some.injEq] at hE
      rw [← hE]
      exact pie_none h hit h1 h2 h3

set_option maxRecDepth 100000 in
set_option maxHeartbeats 3200000 in
theorem pieces_w {f : Nat} (ih : ∀ k, k < f → PsSaid k) : PsSaid f := by
  intro w r s st O i e nx ou ag ND hl hn hi he h hE
  have IH := hide ih
  have HE := hide hE
  have hnO : ¬ O w.heap.size := fun e => Nat.lt_irrefl _ (h.lt _ e)
  clear ih hE
  go_enter Tryz.func83, Tryz.ntmps83
  go_wp2
  go_loopg [1] f (fun k iv wr => ∃ (j : Nat) (N' : List Nd) (O' : Nat → Prop), iv = .int .i64 j ∧ j ≤ 1000 ∧ N'.length ≤ 1000 ∧ Rp wr r s { st with nodes := N' } O' ∧ Th O w O' wr ∧ Blk wr w.heap.size [.int .i64 nx, .int .i64 ou, .int .i64 ag] 124 ∧ ¬ O' w.heap.size ∧ psO k st.items j e nx ou ag N' = some ND ∧ k ≤ f)
  case atStart => exact ⟨i, st.nodes, O, rfl, hi, hn, h.alloc _, (Th.refl O w).alloc _, by (repeat' (first | ((with_reducible show (_ : List Value) = _); rfl) | ((with_reducible refine Blk.newAt _ _ _ ?_); first | with_reducible rfl | (simp; done)) | with_reducible refine Blk.alloc ?_ _ | with_reducible refine Blk.drewN ?_ _ | with_reducible refine Blk.drew ?_ | ((with_reducible refine Blk.other ?_ _ ?_); rotate_left; ((try dsimp only); omega)) | with_reducible refine Blk.setB (cs0 := ?_) ?_ ?_)), hnO, HE.out, Nat.le_refl _⟩
  case round =>
    obtain ⟨j, N', O', rfl, hj, hN', hR, hTh, hG, hnO', hE, hkf⟩ := hrel
    have HTh := hide hTh
    have HKF := hide hkf
    obtain ⟨g0, g1, g2, gf⟩ := hG.c3
    have hgl := hG.lt
    obtain ⟨c0, c1, c2, c5, cf⟩ := hR.c
    have hrl := hR.lt r hR.own
    clear h hTh hkf HE
    cases gk with
    | zero => simp [psO] at hE
    | succ k =>
      rw [psO] at hE
      by_cases hlt : j < e
      · rw [if_pos hlt] at hE
        cases hit : st.items[j]? with
        | none => rw [hit] at hE; simp at hE
        | some it =>
          rw [hit] at hE
          dsimp only at hE
          by_cases hc : 0 ≤ it.en ∧ it.en ≤ 1000
          · rw [if_pos hc] at hE
            obtain ⟨q, hq⟩ := Int.eq_ofNat_of_zero_le hc.1
            rw [hq, Int.toNat_natCast] at hE
            cases he1 : entO st.items q e nx ou ag with
            | none => rw [he1] at hE; simp at hE
            | some to =>
              rw [he1] at hE
              dsimp only at hE
              cases hp : pieO k (psO k st.items) st.items j to ou ag N' with
              | none => rw [hp] at hE; simp at hE
              | some N1 =>
                rw [hp] at hE
                dsimp only at hE
                obtain ⟨gi, cap, hil, hog, q4, i0, j1, i2, i3⟩ := hR.itemAt (k := j) (it := it) hit
                have hil' : j < st.items.length := hil
                have hgil := hR.lt gi hog
                have hjI : (j : Int) < st.items.length := by omega
                have hjE : (j : Int) < e := by omega
                have hqb : q ≤ 1000 := by omega
                rw [hq] at i3
                dsimp only at q4
                have l1 := pieO_len (fun i e nx ou ag ND N' h => psO_len k st.items i e nx ou ag ND N' h) hp
                have HEN := hide (fun W O1 (hW : Rp W r s { st with nodes := N' } O1) => entry_c (st := { st with nodes := N' }) q e nx ou ag to W hW hl he1)
                have HPI := hide (fun W O1 (hW : Rp W r s { st with nodes := N' } O1) => piece_all (IH.out k (by have := HKF.out; omega)) W r s { st with nodes := N' } O1 j to ou ag N1 hl hN' hj hW hp)
                have HEE := hide hE
                clear hE hp he1 hit hc hq
                go_wp2_with fail
                refine (HEN.out _ _ hR).mono ?_
                rintro x v1 ⟨rfl, k1⟩
                have h1 := hR.kp k1 (fun _ _ => no_elim)
                have G1 := k1.blk hG no_elim
                have HTh1 := hide (HTh.out.trans (show Th O' wr O' v1 from ⟨k1.mono (fun _ e => e.elim), fun _ hb _ => hb⟩))
                clear g0 g1 g2 gf hgl c0 c1 c2 c5 cf hrl q4 i0 j1 i2 i3 hgil k1
                obtain ⟨g0, g1, g2, gf⟩ := G1.c3; have hgl := G1.lt
                go_wp2_with fail
                refine (HPI.out _ _ h1).mono ?_
                rintro x v2 ⟨rfl, O2, h2, t2⟩
                have G2 := Th.blk t2 G1 hnO'
                go_wp2
                go_roundg k
                case measure => omega
                case rel => exact ⟨q, N1, O2, rfl, hqb, by omega, h2, HTh1.out.trans t2, G2.1, G2.2, HEE.out, by have := HKF.out; omega⟩
          · rw [if_neg hc] at hE; simp at hE
      · rw [if_neg hlt] at hE
        simp only [Option.some.injEq] at hE
        have HEE := hide hE
        have hjE : ¬ (j : Int) < e := by omega
        clear hE hlt
        go_wp2
        go_end0
        rw [← HEE.out]
        exact ⟨rfl, O', hR, HTh.out⟩

theorem pieces_all : ∀ f, PsSaid f := by
  intro f
  induction f using Nat.strongRecOn with
  | _ f ih => exact pieces_w ih
end Go.Proofs.YtellieabhaphhaaGreatDoor

/-
  narrowref's flow: a table as a text; Flow.
-/
namespace Go.Proofs.YtellieabhaphhaaGreatDoor
open Go.RowKit

theorem TOk.take {T : Tbl} (h : TOk T) (j : Nat) : TOk (T.take j) := fun s hs => h s (List.mem_of_mem_take hs)

/-- The reader's nodes. -/
theorem rp_drow {w : World} {r : Nat} {s : ByteArray} {st : RS} {O : Nat → Prop} (h : Rp w r s st O) : ∃ a cap, w.cell? ⟨r, 3, none⟩ = some (.slice a st.nodes.length cap) ∧ DRow w (.slice a st.nodes.length cap) st.nodes ∧ r < w.heap.size := by
  obtain ⟨nv, iv, hB, hN, hI, _⟩ := h
  obtain ⟨a, cap, rfl⟩ := DRow.shape (l := st.nodes) hN
  exact ⟨a, cap, Blk.cell hB 3, hN, Blk.lt hB⟩

end Go.Proofs.YtellieabhaphhaaGreatDoor

/-
  narrowref.Graph.
-/
namespace Go.Proofs.YtellieabhaphhaaGreatDoor
open Go.RowKit

def nvr (x : Nd) : Nd := if x.op = 33 then { x with t := -1 } else x
def fixJ (ND : List Nd) : Nat → List Nd
  | 0 => ND
  | j + 1 => (fixJ ND j).modify j nvr

theorem fix_len (ND : List Nd) : ∀ j, (fixJ ND j).length = ND.length
  | 0 => rfl
  | j + 1 => by rw [fixJ, List.length_modify, fix_len ND j]

theorem mod_t {l : List Nd} {j : Nat} (h : j < l.length) (h33 : l[j].op = 33) : l.modify j nvr = l.modify j (fun x => { x with t := -1 }) := by
  apply List.ext_getElem?
  intro i
  rw [List.getElem?_modify, List.getElem?_modify]
  by_cases hi : j = i
  · subst hi
    rw [List.getElem?_eq_getElem h]
    simp [nvr, h33]
  · simp [hi]

theorem mod_no {l : List Nd} {j : Nat} (h : j < l.length) (h33 : l[j].op ≠ 33) : l.modify j nvr = l := by
  apply List.ext_getElem?
  intro i
  rw [List.getElem?_modify]
  by_cases hi : j = i
  · subst hi
    rw [List.getElem?_eq_getElem h]
    simp [nvr, h33]
  · simp [hi]

def rg3 (t : ByteArray) (e p : Int) : Ending := .returned (.tuple #[.string t, .int .i64 e, .int .i64 p])

set_option maxHeartbeats 800000 in
theorem rgraph_long (s : ByteArray) (w : World) (hm : s.size ≤ maxLen) (hs : 180 < s.size) :
    Calls Tryz.prog 48 #[.string s] w fun e w' => e = rg3 ⟨#[]⟩ 1 0 ∧ Kp no w w' := by
  have HS := hide (source_long s w hm hs)
  go_enter Tryz.func48, Tryz.ntmps48
  go_wp2_with fail
  refine HS.out.mono ?_
  rintro e w1 ⟨⟨r, rfl⟩, k1⟩
  go_wp2
  go_ret3
  exact ⟨rfl, k1⟩

set_option maxHeartbeats 800000 in
theorem rgraph_bad (s : ByteArray) (w : World) (hs : s.size ≤ 180) (hb : srcBad s = true) :
    Calls Tryz.prog 48 #[.string s] w fun e w' => e = rg3 ⟨#[]⟩ 2 (srcF s).i ∧ Kp no w w' := by
  have HS := hide (source_c s w hs)
  unfold SrcPost at HS
  rw [hb] at HS
  simp only [if_true] at HS
  generalize (srcF s).i = ri at *
  go_enter Tryz.func48, Tryz.ntmps48
  go_wp2_with fail
  refine HS.out.mono ?_
  rintro e w1 ⟨r, O, rfl, _, k1, _⟩
  go_wp2
  go_ret3
  exact ⟨rfl, k1⟩

set_option maxRecDepth 100000 in
set_option maxHeartbeats 3200000 in
theorem rgraph_good (s : ByteArray) (w : World) (hs : s.size ≤ 180) (hb : srcBad s = false) (F : Nat) (ND : List Nd) (hE : psO F (srcF s).items 0 (srcF s).items.length (srcF s).nodes.length (srcF s).nodes.length (srcF s).nodes.length (srcF s).nodes = some ND)
    (hn : (srcF s).nodes.length ≤ 100) (hw : ∀ x ∈ fixJ ND ND.length, Wn s x) :
    Calls Tryz.prog 48 #[.string s] w fun e w' => e = rg3 (wriF s (fixJ ND ND.length)) 0 0 ∧ Kp no w w' := by
  have HS := hide (source_c s w hs)
  have hinv := (srcF_good s).inv
  have hit : (srcF s).items.length ≤ 1000 := by have := hinv.t; have := hinv.i; have := cond_le (srcF s).bad; omega
  unfold SrcPost at HS
  rw [hb] at HS
  simp only [Bool.false_eq_true, if_false] at HS
  have hlen := psO_len _ _ _ _ _ _ _ _ _ hE
  have HP := hide (fun W r O (hW : Rp W r s (srcF s) O) => pieces_all F W r s (srcF s) O 0 (srcF s).items.length _ _ _ ND hit (by omega) (by omega) hit hW hE)
  have HWn := hide hw
  clear hE hinv hw hb
  generalize srcF s = st at *
  go_enter Tryz.func48, Tryz.ntmps48
  go_wp2_with fail
  refine HS.out.mono ?_
  rintro e w1 ⟨r, O, rfl, hr, k1, hO⟩
  obtain ⟨a, cap, n3, hD, hrl⟩ := rp_drow hr
  have HR := hide hr
  obtain ⟨nv, iv, hB, hN, hI, d1, d2, d3, hOeq⟩ := hr
  have q4 : w1.cell? ⟨r, 4, none⟩ = some iv := Blk.cell hB 4
  have hivs : ∃ ia ic, iv = .slice ia st.items.length ic := by
    rcases hI.2 with ⟨rfl, h0⟩ | ⟨g, cap, cur, rfl, _⟩
    · exact ⟨none, 0, by rw [h0]⟩
    · exact ⟨_, _, rfl⟩
  obtain ⟨ia, ic, rfl⟩ := hivs
  have cf : ∀ o, w1.frozen? ⟨r, o, none⟩ = false := Blk.frozen hB
  clear hD hB hN hI d1 d2 d3 hOeq HS
  go_wp2_with fail
  refine (HP.out _ r O HR.out).mono ?_
  rintro e w2 ⟨rfl, O2, h2, t2⟩
  have hO2 : ∀ b, O2 b → w.heap.size ≤ b := fun b hb2 => by
    rcases Nat.lt_or_ge b w1.heap.size with hlt | hge
    · exact hO b (t2.2 b hb2 hlt)
    · have := k1.size; omega
  have k2 : Kp no w w2 := k1.trans t2.1 (fun x hx e => by have := hO x e; omega)
  have HK2 := hide k2
  have H2 := hide h2
  clear n3 q4 cf hrl k1 t2 k2 HR HP
  have hNl : ND.length ≤ 100 := by omega
  rw [← hlen]
  go_wp2
  go_loopg [9] ND.length (fun k iv wr => ∃ (j : Nat) (O' : Nat → Prop), j ≤ ND.length ∧ k = ND.length - j ∧ iv = .int .i64 j ∧ Rp wr r s { st with nodes := fixJ ND j } O' ∧ Kp no w wr ∧ ∀ b, O' b → w.heap.size ≤ b)
  case atStart => exact ⟨0, O2, Nat.zero_le _, rfl, rfl, H2.out, HK2.out, hO2⟩
  case round =>
    clear hO2 HK2 H2 h2
    obtain ⟨j, O', hj, hk, rfl, hR, kr, hO'⟩ := hrel
    have HKK := hide hk
    have HKR := hide kr
    have HR := hide hR
    have hfl : (fixJ ND j).length = ND.length := fix_len ND j
    obtain ⟨a3, cap3, q3, hD, hrl⟩ := rp_drow hR
    dsimp only at q3 hD
    rw [hfl] at q3 hD
    by_cases hlt : j < ND.length
    · have hjI : (j : Int) < ND.length := by omega
      have hk2 : j < (fixJ ND j).length := by omega
      obtain ⟨gn, cap4, hon, q3', nc, nf, hset⟩ := hR.setNode hk2
      dsimp only at q3' nc hset
      rw [hfl] at q3'
      rw [q3] at q3'
      simp only [Option.some.injEq, Value.slice.injEq] at q3'
      obtain ⟨rfl, -, rfl⟩ := q3'
      obtain ⟨c0, c1, c2, c5, cf⟩ := hR.c
      have hnl := hR.lt gn hon
      have n0 : wr.cell? ⟨gn, j * 9, none⟩ = some (Value.int .u8 ((fixJ ND j)[j]).op) := nc 0 (by decide)
      have n5 : wr.cell? ⟨gn, j * 9 + 5, none⟩ = some (Value.int .i64 ((fixJ ND j)[j]).t) := nc 5 (by decide)
      have H1 := hide (hset 5 (.int .i64 (-1)) (fun x => { x with t := -1 }) (by decide) (fun x => rfl))
      have hgk : ∀ (a : Addr), a.block = gn → Kp no w (wr.setCell a (.int .i64 (-1))) := fun a ha => HKR.out.setCell _ (fun h => by have := hO' gn hon; omega)
      clear hset nc kr hR hD hj
      by_cases h33 : ((fixJ ND j)[j]).op = 33
      · rw [← mod_t hk2 h33] at H1
        rw [h33] at n0
        generalize ((fixJ ND j)[j]).t = ot at *
        go_wp2
        go_roundg (ND.length - (j + 1))
        case measure => have := HKK.out; omega
        case rel => exact ⟨j + 1, O', by omega, rfl, by go_num, H1.out, hgk _ rfl, hO'⟩
      · go_wp2
        go_roundg (ND.length - (j + 1))
        case measure => have := HKK.out; omega
        case rel =>
          refine ⟨j + 1, O', by omega, rfl, by go_num, ?_, HKR.out, hO'⟩
          rw [fixJ, mod_no hk2 h33]
          exact HR.out
    · have hje : ¬ ((j : Int) < ND.length) := by omega
      have hjn : j = ND.length := by omega
      have HWr := hide (write_c s (.slice a3 st.nodes.length cap3) (fixJ ND ND.length) wr (by rw [hjn, hlen] at hD; rw [hlen]; exact hD) (by rw [fix_len]; omega) (by omega) HWn.out)
      obtain ⟨tx, htx⟩ : ∃ tx, wriF s (fixJ ND ND.length) = tx := ⟨_, rfl⟩
      rw [htx] at HWr
      have HTX := hide htx
      clear htx
      go_wp2_with fail
      refine HWr.out.mono ?_
      rintro e w5 ⟨rfl, k5⟩
      have HKF := hide (HKR.out.trans (S' := no) k5 (fun _ _ e => e))
      go_wp2
      go_ret3
      exact ⟨by rw [HTX.out]; rfl, HKF.out⟩
end Go.Proofs.YtellieabhaphhaaGreatDoor

/-
  Plain: the ways that narrowref lays are the maker's.
-/
namespace Go.Proofs.YtellieabhaphhaaGreatDoor
open Go.RowKit

def upW (W : Nat → Int × Int × Bool) (n : Nat) (x : Nd) : Nd := if (W n).2.2 then { x with t := (W n).1, f := (W n).2.1 } else { x with t := (W n).1 }

/-- The nodes from c up to d have got their ways. -/
structure Up (W : Nat → Int × Int × Bool) (c d : Nat) (ND ND' : List Nd) : Prop where
  len : ND'.length = ND.length
  get : ∀ n x, ND[n]? = some x → ND'[n]? = some (if c ≤ n ∧ n < d then upW W n x else x)

theorem Up.refl {W : Nat → Int × Int × Bool} {c : Nat} {ND : List Nd} : Up W c c ND ND := ⟨rfl, fun n x h => by rw [if_neg (by omega)]; exact h⟩

theorem Up.trans {W : Nat → Int × Int × Bool} {c m d : Nat} {A B C : List Nd} (h : Up W c m A B) (k : Up W m d B C) (h1 : c ≤ m) (h2 : m ≤ d) : Up W c d A C := by
  refine ⟨k.len.trans h.len, fun n x hn => ?_⟩
  rw [k.get n _ (h.get n x hn)]
  by_cases a : c ≤ n ∧ n < m
  · rw [if_pos a, if_neg (by omega), if_pos (by omega)]
  · rw [if_neg a]
    by_cases b : m ≤ n ∧ n < d
    · rw [if_pos b, if_pos (by omega)]
    · rw [if_neg b, if_neg (by omega)]

theorem up_one {W : Nat → Int × Int × Bool} {c : Nat} {ND : List Nd} {f : Nd → Nd} (hf : ∀ x, f x = upW W c x) : Up W c (c + 1) ND (ND.modify c f) := by
  refine ⟨List.length_modify .., fun n x hn => ?_⟩
  rw [List.getElem?_modify, hn]
  by_cases e : c = n
  · subst e
    rw [if_pos (by omega)]
    simp [hf]
  · rw [if_neg (by omega)]
    simp [e]

theorem tie_of : ∀ (f : Nat) {IT : List It} {W : Nat → Int × Int × Bool} {i e c d : Nat} {t g : Int} {ND : List Nd}, CdW f IT W i e c d t g → e ≤ IT.length → d ≤ ND.length → ∃ N', tieO f IT i t g ND = some N' ∧ Up W c d ND N'
  | 0, _, _, _, _, _, _, _, _, _, h, _, _ => h.elim
  | f + 1, IT, W, i, e, c, d, t, g, ND, h, he, hd => by
    obtain ⟨it, h1, h2, h3, h4, h5, h6⟩ := h
    rw [tieO, h1]
    dsimp only
    rcases h6 with ⟨k, n, q1, q2, q3⟩ | ⟨k, q⟩ | ⟨k, e1, m, q, q2⟩ | ⟨k, e1, m, q, q2⟩
    · rw [if_pos k, n, if_pos (by omega), Int.toNat_natCast, q1]
      exact ⟨_, rfl, up_one (fun x => by unfold upW; rw [q3]; rfl)⟩
    · rw [if_neg (by omega), if_pos k]
      exact tie_of f q he hd
    · rw [if_neg (by omega), if_neg (by omega)]
      obtain ⟨w1, w2, i1, w3, w4, w5⟩ := cdw_lt q
      obtain ⟨v1, v2, _⟩ := cdw_lt q2
      obtain ⟨N1, t1, u1⟩ := tie_of f (ND := ND) q (by omega) (by omega)
      obtain ⟨N2, t2, u2⟩ := tie_of f (ND := N1) q2 he (by rw [u1.len]; exact hd)
      rw [w3]
      dsimp only
      rw [w4, if_pos (by omega), Int.toNat_natCast, cdw_fst f q2 (IT.length + 1) (by omega)]
      dsimp only
      rw [if_pos k, t1]
      dsimp only
      rw [t2]
      exact ⟨_, rfl, u1.trans u2 (by omega) (by omega)⟩
    · rw [if_neg (by omega), if_neg (by omega)]
      obtain ⟨w1, w2, i1, w3, w4, w5⟩ := cdw_lt q
      obtain ⟨v1, v2, _⟩ := cdw_lt q2
      obtain ⟨N1, t1, u1⟩ := tie_of f (ND := ND) q (by omega) (by omega)
      obtain ⟨N2, t2, u2⟩ := tie_of f (ND := N1) q2 he (by rw [u1.len]; exact hd)
      rw [w3]
      dsimp only
      rw [w4, if_pos (by omega), Int.toNat_natCast, cdw_fst f q2 (IT.length + 1) (by omega)]
      dsimp only
      rw [if_neg (by omega), t1]
      dsimp only
      rw [t2]
      exact ⟨_, rfl, u1.trans u2 (by omega) (by omega)⟩

theorem stw_le {f : Nat} {IT : List It} {W : Nat → Int × Int × Bool} {i e c d : Nat} {nx ou ag : Int} (h : StW f IT W i e c d nx ou ag) : c ≤ d := by
  cases f with
  | zero => exact h.elim
  | succ f => exact h.1

theorem ps_of : ∀ (f : Nat) {IT : List It} {W : Nat → Int × Int × Bool} {i e c d : Nat} {nx ou ag : Int} {ND : List Nd}, StW f IT W i e c d nx ou ag → e ≤ IT.length → d ≤ ND.length → ∃ N', psO f IT i e nx ou ag ND = some N' ∧ Up W c d ND N'
  | 0, _, _, _, _, _, _, _, _, _, _, h, _, _ => h.elim
  | f + 1, IT, W, i, e, c, d, nx, ou, ag, ND, h, he, hd => by
    rcases h with ⟨hcd, ⟨rfl, rfl⟩ | ⟨hie, he1, it, j, m, nx', h1, h2, h3, h4, h5, h6, h7, h8, h9⟩⟩
    · rw [psO, if_neg (Nat.lt_irrefl _)]
      exact ⟨_, rfl, Up.refl⟩
    · rw [psO, if_pos hie, h1]
      dsimp only
      rw [h2, if_pos (by omega), Int.toNat_natCast, h7]
      dsimp only
      have key : ∃ N1, pieO f (psO f IT) IT i nx' ou ag ND = some N1 ∧ Up W c m ND N1 := by
        unfold pieO
        rw [h1]
        dsimp only
        rcases h8 with ⟨k, n, q1, q2⟩ | ⟨k, q1⟩ | ⟨k, a, b, p, q, t, g, q1, q2, q3, q4, q5, q6, q7, q8⟩ | ⟨k, a, p, t, q1, q2, q3, q4⟩
        · rw [if_pos k, n, if_pos (by omega), Int.toNat_natCast, q1]
          exact ⟨_, rfl, up_one (fun x => by unfold upW; rw [q2]; rfl)⟩
        · rw [if_neg (by omega), if_neg (by omega), if_neg (by omega), q1]
          exact ⟨_, rfl, Up.refl⟩
        · obtain ⟨w1, w2, i1, w3, w4, w5⟩ := cdw_lt q1
          have l1 := stw_le q5
          have l2 := stw_le q6
          obtain ⟨N1, t1, u1⟩ := tie_of f (ND := ND) q1 (by omega) (by omega)
          obtain ⟨N2, t2, u2⟩ := ps_of f (ND := N1) q5 (by omega) (by rw [u1.len]; omega)
          obtain ⟨N3, t3, u3⟩ := ps_of f (ND := N2) q6 (by omega) (by rw [u2.len, u1.len]; omega)
          rw [if_neg (by omega), if_pos k, w3]
          dsimp only
          rw [w4, q4, h2, if_pos (by omega), Int.toNat_natCast, Int.toNat_natCast, Int.toNat_natCast, q7, q8]
          dsimp only
          rw [t1]
          dsimp only
          rw [t2]
          dsimp only
          rw [t3]
          exact ⟨_, rfl, (u1.trans u2 (by omega) (by omega)).trans u3 (by omega) (by omega)⟩
        · obtain ⟨w1, w2, i1, w3, w4, w5⟩ := cdw_lt q1
          have l1 := stw_le q3
          obtain ⟨N1, t1, u1⟩ := tie_of f (ND := ND) q1 (by omega) (by omega)
          obtain ⟨N2, t2, u2⟩ := ps_of f (ND := N1) q3 (by omega) (by rw [u1.len]; omega)
          rw [if_neg (by omega), if_neg (by omega), if_pos k, w3]
          dsimp only
          rw [w4, h2, if_pos (by omega), cdw_fst f q1 (IT.length + 1) (by omega)]
          dsimp only
          rw [Int.toNat_natCast, Int.toNat_natCast, q4]
          dsimp only
          rw [t1]
          dsimp only
          rw [t2]
          exact ⟨_, rfl, u1.trans u2 (by omega) (by omega)⟩
      obtain ⟨N1, k1, u1⟩ := key
      obtain ⟨N2, k2, u2⟩ := ps_of f (ND := N1) h9 he (by rw [u1.len]; exact hd)
      rw [k1]
      dsimp only
      rw [k2]
      exact ⟨_, rfl, u1.trans u2 h5 h6⟩

theorem nodA_strip (M : MS) : ∀ j, (nodA M j).map (fun n => n.setW 0 0) = ((M.row.take j).filter (fun n => decide (n.act ≠ 15))).map (fun n => n.setW 0 0)
  | 0 => rfl
  | j + 1 => by
    rw [nodA, List.take_add_one, List.filter_append, List.map_append, List.map_append, nodA_strip M j]
    congr 1
    cases M.row[j]? with
    | none => rfl
    | some n =>
      dsimp only
      by_cases h : n.act = 15
      · rw [if_pos h]
        simp [h]
      · rw [if_neg h]
        simp [h]
        rfl

theorem nodM_strip {s : ByteArray} {M : MS} {nodes : List Nd} (h : FR s M.row nodes) : (nodM M).map (fun n => n.setW 0 0) = nodes.map (fun nd => encN nd (txN s nd) 0 0) := by
  rw [nodM, nodA_strip, List.take_length]
  exact h.1

theorem nodM_at {s : ByteArray} {M : MS} {nodes : List Nd} (h : FR s M.row nodes) {n : Nat} {nd : Nd} (hn : nodes[n]? = some nd) :
    ∃ y z, (nodM M)[n]? = some (encN nd (txN s nd) y z) ∧ WyM M n = (y, z, decide (nd.op = 121 ∨ nd.op = 58)) := by
  have e : ((nodM M).map (fun n => n.setW 0 0))[n]? = (nodes.map (fun nd => encN nd (txN s nd) 0 0))[n]? := by rw [nodM_strip h]
  rw [List.getElem?_map, List.getElem?_map, hn] at e
  cases hx : (nodM M)[n]? with
  | none => rw [hx] at e; cases e
  | some x =>
    rw [hx] at e
    have e' : x.setW 0 0 = encN nd (txN s nd) 0 0 := by simpa using e
    have hxe : x = encN nd (txN s nd) x.yes x.no := by
      have : x = (x.setW 0 0).setW x.yes x.no := rfl
      rw [e'] at this
      exact this
    refine ⟨x.yes, x.no, by rw [← hxe], ?_⟩
    unfold WyM
    rw [hx]
    dsimp only
    congr 2
    have hact : x.act = actN nd.op := by rw [hxe]; rfl
    rw [hact]
    have := act_tst (h.2 nd (List.mem_of_getElem? hn)).g.op
    simp only [decide_eq_decide]
    exact this
end Go.Proofs.YtellieabhaphhaaGreatDoor

/-
  Graph: both answer the same.
-/
namespace Go.Proofs.YtellieabhaphhaaGreatDoor
open Go.RowKit

theorem nev_act {op : Int} (h : opOk op) : (actN op = 11) ↔ (op = 33) := by
  unfold opOk at h
  rcases h with rfl | rfl | rfl | rfl | rfl | rfl | rfl | rfl | rfl | rfl | rfl | rfl | rfl | rfl | rfl | rfl | rfl | rfl <;> decide

theorem fix_get (ND : List Nd) : ∀ (j n : Nat), (fixJ ND j)[n]? = (ND[n]?).map (fun x => if n < j then nvr x else x)
  | 0, n => by rw [fixJ]; cases ND[n]? <;> simp
  | j + 1, n => by
    rw [fixJ, List.getElem?_modify, fix_get ND j n]
    cases ND[n]? with
    | none => rfl
    | some x =>
      by_cases e : j = n
      · subst e; simp
      · by_cases h : n < j
        · have h2 : n < j + 1 := by omega
          simp [e, h, h2]
        · have h2 : ¬ n < j + 1 := by omega
          simp [e, h, h2]

/-- One line. -/
theorem gr_line {s : ByteArray} {nd : Nd} {y z : Int} (h : N1 s nd) (hy : 0 ≤ y) (hz : 0 ≤ z) {W : Nat → Int × Int × Bool} {n : Nat} (hW : W n = (y, z, decide (nd.op = 121 ∨ nd.op = 58))) :
    lnTx (encN nd (txN s nd) y z) = linB s (nvr (upW W n nd)) := by
  have t1 := act_tst h.g.op
  have t2 := nev_act h.g.op
  have hf := h.g.f
  have wy : wayB y = ⟨#[44]⟩ ++ twoB y.toNat := by rw [wayB, if_pos hy]
  have wz : wayB z = ⟨#[44]⟩ ++ twoB z.toNat := by rw [wayB, if_pos hz]
  have wm : wayB (-1) = ⟨#[]⟩ := rfl
  unfold lnTx linB
  show txN s nd ++ (if actN nd.op = 11 then ⟨#[]⟩ else ⟨#[44]⟩ ++ twoB y.toNat) ++ (if actN nd.op = 12 ∨ actN nd.op = 13 then ⟨#[44]⟩ ++ twoB z.toNat else ⟨#[]⟩) ++ ⟨#[59]⟩ = _
  by_cases ht : nd.op = 121 ∨ nd.op = 58
  · have h33 : ¬ nd.op = 33 := by omega
    have e : nvr (upW W n nd) = { nd with t := y, f := z } := by
      unfold upW
      rw [hW, decide_eq_true ht]
      unfold nvr
      rw [if_pos rfl, if_neg h33]
    rw [if_neg (fun q => h33 (t2.1 q)), if_pos (t1.2 ht), e]
    show _ = txN s nd ++ wayB y ++ wayB z ++ _
    rw [wy, wz]
  · have e0 : upW W n nd = { nd with t := y } := by
      unfold upW
      rw [hW, decide_eq_false ht]
      rfl
    rw [if_neg (fun q => ht (t1.1 q)), e0]
    by_cases h33 : nd.op = 33
    · have e : nvr { nd with t := y } = { nd with t := -1 } := by unfold nvr; rw [if_pos h33]
      rw [if_pos (t2.2 h33), e]
      show _ = txN s nd ++ wayB (-1) ++ wayB nd.f ++ _
      rw [hf ht, wm]
    · have e : nvr { nd with t := y } = { nd with t := y } := by unfold nvr; rw [if_neg h33]
      rw [if_neg (fun q => h33 (t2.1 q)), e]
      show _ = txN s nd ++ wayB y ++ wayB nd.f ++ _
      rw [hf ht, wm, wy]

theorem gra_wri {s : ByteArray} {L : List NN} {l : List Nd} (h : L.map lnTx = l.map (linB s)) : graT L = wriF s l := by
  have e1 : graT L = (L.map lnTx).foldl (fun a b => a ++ b) ⟨#[]⟩ := by rw [List.foldl_map]; rfl
  have e2 : wriF s l = (l.map (linB s)).foldl (fun a b => a ++ b) ⟨#[]⟩ := by rw [List.foldl_map]; rfl
  rw [e1, e2, h]

/-- Of a source: the row that narrowref comes to, and what it writes. -/
theorem src_graph {s : ByteArray} (hs : s.size ≤ 180) (h : (srE s).1 = 0) : ∃ ND, psO (s.size + 1) (srcF s).items 0 (srcF s).items.length (srcF s).nodes.length (srcF s).nodes.length (srcF s).nodes.length (srcF s).nodes = some ND ∧
    (∀ x ∈ fixJ ND ND.length, Wn s x) ∧ graT (nodM (srM s)) = wriF s (fixJ ND ND.length) ∧ (srcF s).nodes.length ≤ 90 := by
  obtain ⟨hsn, hsl⟩ := src_nodes hs h
  have hN : nj (srM s).row = (srcF s).nodes.length := (src_par hs h 0 0).1.len
  obtain ⟨fr, hS, _⟩ := src_par hs h (nj (srM s).row : Nat) (nj (srM s).row : Nat)
  obtain ⟨ND, e, u⟩ := ps_of (s.size + 1) (ND := (srcF s).nodes) hS (Nat.le_refl _) (by omega)
  rw [hN] at e u
  have hlen := u.len
  have hnl : (nodM (srM s)).length = (srcF s).nodes.length := by rw [nodM_nj, hN]
  have hfl : (fixJ ND ND.length).length = ND.length := fix_len ND _
  have key : ∀ n nd, (srcF s).nodes[n]? = some nd → ∃ y z, (nodM (srM s))[n]? = some (encN nd (txN s nd) y z) ∧ WyM (srM s) n = (y, z, decide (nd.op = 121 ∨ nd.op = 58)) ∧ (0 ≤ y ∧ y ≤ 90) ∧ (0 ≤ z ∧ z ≤ 90) ∧
      (fixJ ND ND.length)[n]? = some (nvr (upW (WyM (srM s)) n nd)) := by
    intro n nd hn
    obtain ⟨y, z, h1, h2⟩ := nodM_at fr hn
    obtain ⟨nd', tx', y', z', q1, _, _, q2, q3, _⟩ := hsn _ (List.mem_of_getElem? h1)
    have ey : y = y' := congrArg NN.yes q1
    have ez : z = z' := congrArg NN.no q1
    have hl := (List.getElem?_eq_some_iff.1 hn).1
    refine ⟨y, z, h1, h2, by rw [ey]; exact q2, by rw [ez]; exact q3, ?_⟩
    rw [fix_get, u.get n nd hn, if_pos ⟨Nat.zero_le _, by omega⟩]
    show some (if n < ND.length then _ else _) = _
    rw [if_pos (by omega)]
  refine ⟨ND, e, ?_, ?_, by omega⟩
  · intro x hx
    obtain ⟨n, hn, rfl⟩ := List.getElem_of_mem hx
    have hn2 : n < (srcF s).nodes.length := by omega
    obtain ⟨y, z, k1, k2, k3, k4, k5⟩ := key n _ (List.getElem?_eq_getElem hn2)
    rw [List.getElem?_eq_getElem hn] at k5
    have k5' := Option.some.inj k5
    rw [k5']
    have h1 := fr.2 _ (List.getElem_mem hn2)
    generalize (srcF s).nodes[n] = nd at *
    have hsz : nd.l ≤ 1000 := by have := h1.al; have := h1.a; omega
    have hfx := h1.g.f
    unfold upW nvr
    rw [k2]
    dsimp only
    by_cases ht : nd.op = 121 ∨ nd.op = 58
    · rw [decide_eq_true ht, if_pos rfl]
      split
      · exact ⟨h1.a, ⟨h1.l, hsz⟩, h1.al, by show (-1 : Int) < 100; decide, by show z < 100; omega⟩
      · exact ⟨h1.a, ⟨h1.l, hsz⟩, h1.al, by show y < 100; omega, by show z < 100; omega⟩
    · have hf := hfx ht
      rw [decide_eq_false ht]
      simp only [Bool.false_eq_true, if_false]
      split
      · exact ⟨h1.a, ⟨h1.l, hsz⟩, h1.al, by show (-1 : Int) < 100; decide, by show nd.f < 100; omega⟩
      · exact ⟨h1.a, ⟨h1.l, hsz⟩, h1.al, by show y < 100; omega, by show nd.f < 100; omega⟩
  · apply gra_wri
    apply List.ext_getElem?
    intro n
    rw [List.getElem?_map, List.getElem?_map]
    cases hn : (srcF s).nodes[n]? with
    | none =>
      have := List.getElem?_eq_none_iff.1 hn
      rw [List.getElem?_eq_none (by omega), List.getElem?_eq_none (by omega)]
      rfl
    | some nd =>
      obtain ⟨y, z, k1, k2, k3, k4, k5⟩ := key n nd hn
      rw [k1, k5]
      show some (lnTx _) = some (linB s _)
      rw [gr_line (fr.2 _ (List.mem_of_getElem? hn)) k3.1 k4.1 k2]

/-- One call of Graph: both answer this. -/
def GraIs (s : ByteArray) (t : ByteArray) (c p : Int) : Prop :=
  (∀ W, Calls Tryz.prog 16 #[.string s] W fun e w' => e = .returned (.tuple #[.string t, .int .i64 c, .int .i64 p]) ∧ Kp no W w') ∧
  (∀ W, Calls Tryz.prog 48 #[.string s] W fun e w' => e = .returned (.tuple #[.string t, .int .i64 c, .int .i64 p]) ∧ Kp no W w')

theorem graph_both (s : ByteArray) (hs : s.size ≤ maxLen) : ∃ t c p, GraIs s t c p := by
  by_cases hs9 : s.size ≤ 180
  · have e := src_same s
    cases hb : srcBad s
    · rw [hb] at e
      have e1 : (srE s).1 = 0 := by rw [e]; rfl
      obtain ⟨ND, q1, q2, q3, q4⟩ := src_graph hs9 e1
      refine ⟨_, _, _, fun W => ngraph_good s W hs9 e1, fun W => ?_⟩
      rw [q3]
      exact rgraph_good s W hs9 hb _ ND q1 (by omega) q2
    · rw [hb] at e
      have e1 : (srE s).1 = 2 := by rw [e]; rfl
      have e2 : (srE s).2 = ((srcF s).i : Int) := by rw [e]; rfl
      refine ⟨em, 2, ((srcF s).i : Int), fun W => ?_, fun W => rgraph_bad s W hs9 hb⟩
      have := ngraph_bad s W hs9 (by omega)
      rw [e1, e2] at this
      exact this
  · exact ⟨_, _, _, fun W => ngraph_long s W hs (by omega), fun W => rgraph_long s W hs (by omega)⟩
end Go.Proofs.YtellieabhaphhaaGreatDoor

/-
  The laws: one step of Graph.
-/
namespace Go.Proofs.YtellieabhaphhaaGreatDoor
open Go.RowKit

set_option maxRecDepth 100000 in
set_option maxHeartbeats 1600000 in
theorem lplays_graph (b c : Int) (s t u : ByteArray) (w : World) (hs : s.size ≤ maxLen) :
    Calls Tryz.prog 29 #[.agg #[.int .i64 2, .int .i64 b, .int .i64 c, .string s, .string t, .string u]] w fun e w' => e = .returned (.bool true) ∧ Kp no w w' := by
  obtain ⟨x, z, p, hw⟩ := graph_both s hs
  have HN := hide hw.1
  have HR := hide hw.2
  have HNU := hide (fun W => lnum_c z W)
  clear hw
  go_enter Tryz.func29, Tryz.ntmps29
  go_wp2_with fail
  refine (HN.out _).mono ?_
  rintro e w1 ⟨rfl, k1⟩
  have hO : Blk w1 w.heap.size [.int .i64 2, .int .i64 b, .int .i64 c, .string s, .string t, .string u] 26 := k1.blk (by (repeat' (first | ((with_reducible show (_ : List Value) = _); rfl) | ((with_reducible refine Blk.newAt _ _ _ ?_); first | with_reducible rfl | (simp; done)) | with_reducible refine Blk.alloc ?_ _ | with_reducible refine Blk.drewN ?_ _ | with_reducible refine Blk.drew ?_ | ((with_reducible refine Blk.other ?_ _ ?_); rotate_left; ((try dsimp only); omega)) | with_reducible refine Blk.setB (cs0 := ?_) ?_ ?_))) no_elim
  have o0 := hO.cell 0; have o1 := hO.cell 1; have o2 := hO.cell 2; have o3 := hO.cell 3; have o4 := hO.cell 4; have o5 := hO.cell 5
  simp only [List.getElem?_cons_zero, List.getElem?_cons_succ] at o0 o1 o2 o3 o4 o5
  have of := hO.frozen
  have hz := hO.lt
  go_wp2_with fail
  refine (HR.out _).mono ?_
  rintro e w2 ⟨rfl, k2⟩
  clear o0 o1 o2 o3 o4 o5 of
  go_wp2_with (go_at_call 18; refine (HNU.out _).mono ?_; rintro e w' ⟨rfl, rfl⟩)
  go_ret
  exact ⟨by simp, by (repeat' (first | with_reducible exact Kp.refl _ _ | with_reducible refine Kp.alloc ?_ _ | with_reducible refine Kp.drewN ?_ _ | with_reducible refine Kp.drew ?_ | with_reducible refine Kp.setCell ?_ _ ?_ | with_reducible refine Kp.trans ?_ k1 (fun _ _ e => e) | with_reducible refine Kp.trans ?_ k2 (fun _ _ e => e) | (intro hh; first | rfl | exact .inl rfl | exact .inr rfl | (exfalso; (try dsimp only at hh); omega))))⟩
end Go.Proofs.YtellieabhaphhaaGreatDoor

/-
  Graphs: the row and the card.
-/
namespace Go.Proofs.YtellieabhaphhaaGreatDoor
open Go.ChangeShapes Go.WideShapes Go.ChangeAt Go.RowKit Go.Deep

set_option maxHeartbeats 800000 in
theorem graphsLaw_c (v : Value) (w : World) (h : Calls Tryz.prog 15 #[v, .int .i64 2, .int .i64 2] w fun e w' => e = .returned (.int .i64 (-1)) ∧ Kp no w w') :
    Calls Tryz.prog 4 #[v] w fun e w' => e = .returned (.bool true) ∧ Kp no w w' := by
  have H := hide h
  clear h
  go_enter Tryz.func4, Tryz.ntmps4
  go_wp2_with fail
  refine H.out.mono ?_
  rintro e w1 ⟨rfl, k1⟩
  go_wp2
  go_ret
  exact ⟨rfl, k1⟩

set_option maxRecDepth 100000 in
/-- For every script, in every world that holds the tables. -/
theorem graphs_contract (H : Type) (enc : TypeId × Value → H) (W : World) (base : Nat) (args : Array Value) (ds gs : List (DataW H)) (before : List MemPlace)
    (hval : ∀ (j : Nat) t v, Tryz.f4.params[j]? = some t → args[j]? = some v → Value.okWide Tryz.prog W .any base t v)
    (hW : DataW.Whole enc Tryz.prog Tryz.f4.params.toList Rows.graphsSpec.vars false W args.toList ds gs before) (_hL : laidMetH Tryz.prog Rows.graphsRow.laid W) :
    Calls Tryz.prog 4 args W fun e W' => ∃ v, e = .returned v ∧ Rows.graphsSpec.post enc Tryz.prog Tryz.f4 false true false false W args v W' := by
  have hW' := hW
  obtain ⟨p, q, hA0, hV, rfl, hfz, hnd⟩ := hW
  have hA : DataW.TrodAll enc Tryz.prog W 0 (fun _ => true) true Tryz.f4.params.toList args.toList ds p := hA0
  rw [Tryz.params4] at hA hval
  obtain ⟨v0, d0, rfl, rfl, h0⟩ := trodAll_one hA
  obtain ⟨rfl, rfl⟩ := trodVars_none hV
  obtain ⟨ao, len, cap, rfl⟩ := okWide_slice Tryz.underlying22 (hval 0 22 v0 rfl rfl)
  have walk : Calls Tryz.prog 4 #[.slice ao len cap] W fun e w' => e = .returned (.bool true) ∧ Kp no W w' :=
    graphsLaw_c _ W (script_upto h0 (fun _ => True) (fun _ _ _ _ => trivial) trivial 2 2 (fun o ho h1 h2 X hX => by
      have e3 : o.k = 2 := by omega
      rw [e3]
      exact lplays_graph o.b o.c o.s o.t o.u X ho.s))
  have hsh := (script_open h0).2
  refine walk.mono fun e W' ⟨he, k⟩ => ?_
  subst he
  have hold : ∀ q ∈ p, (fun b => decide (b < W.heap.size)) q.block = true := fun q hq => by simpa using hW'.lt q (by simpa using hq)
  refine ⟨_, rfl, [d0], [], p ++ [], [], p, [], hW', ?_, ?_, ?_, ?_, fun h => by cases h⟩
  · exact trodAll_mk1 (shut_bool Tryz.underlying4 _)
  · exact trodAll_mk1 (hsh W' k _ hold)
  · first | exact rfl | exact ⟨rfl, rfl⟩
  · exact Kp.keptBut k _
end Go.Proofs.YtellieabhaphhaaGreatDoor

/-
  Graphs: the card.
-/
namespace Go.Proofs.YtellieabhaphhaaGreatDoor
open Go.ChangeShapes Go.WideShapes Go.ChangeAt Go.RowKit Go.Deep

/-- A block that holds other cells. -/
def lay1 (c : Array Value) : Obj → Obj
  | .cells _ t frozen => .cells c t frozen
  | o => o

theorem laid_met (os : Os) : laidMet Tryz.prog Rows.graphsRow.laid (({ World.holding Tryz.prog os ⟨#[], #[], []⟩ with heap := (((World.holding Tryz.prog os ⟨#[], #[], []⟩).heap.modify 0 (lay1 #[.int .u64 1, .int .u64 10, .int .u64 100, .int .u64 1000, .int .u64 10000, .int .u64 100000, .int .u64 1000000, .int .u64 10000000, .int .u64 100000000, .int .u64 1000000000, .int .u64 10000000000, .int .u64 100000000000, .int .u64 1000000000000, .int .u64 10000000000000, .int .u64 100000000000000, .int .u64 1000000000000000, .int .u64 10000000000000000, .int .u64 100000000000000000, .int .u64 1000000000000000000, .int .u64 10000000000000000000])).modify 1 (lay1 #[.int .u8 0, .int .u8 1, .int .u8 28, .int .u8 2, .int .u8 29, .int .u8 14, .int .u8 24, .int .u8 3, .int .u8 30, .int .u8 22, .int .u8 20, .int .u8 15, .int .u8 25, .int .u8 17, .int .u8 4, .int .u8 8, .int .u8 31, .int .u8 27, .int .u8 13, .int .u8 23, .int .u8 21, .int .u8 19, .int .u8 16, .int .u8 7, .int .u8 26, .int .u8 12, .int .u8 18, .int .u8 6, .int .u8 11, .int .u8 5, .int .u8 10, .int .u8 9])).modify 2 (lay1 #[.int .u8 0, .int .u8 1, .int .u8 56, .int .u8 2, .int .u8 57, .int .u8 49, .int .u8 28, .int .u8 3, .int .u8 61, .int .u8 58, .int .u8 42, .int .u8 50, .int .u8 38, .int .u8 29, .int .u8 17, .int .u8 4, .int .u8 62, .int .u8 47, .int .u8 59, .int .u8 36, .int .u8 45, .int .u8 43, .int .u8 51, .int .u8 22, .int .u8 53, .int .u8 39, .int .u8 33, .int .u8 30, .int .u8 24, .int .u8 18, .int .u8 12, .int .u8 5, .int .u8 63, .int .u8 55, .int .u8 48, .int .u8 27, .int .u8 60, .int .u8 41, .int .u8 37, .int .u8 16, .int .u8 46, .int .u8 35, .int .u8 44, .int .u8 21, .int .u8 52, .int .u8 32, .int .u8 23, .int .u8 11, .int .u8 54, .int .u8 26, .int .u8 40, .int .u8 15, .int .u8 34, .int .u8 20, .int .u8 31, .int .u8 10, .int .u8 25, .int .u8 14, .int .u8 19, .int .u8 9, .int .u8 13, .int .u8 8, .int .u8 7, .int .u8 6]) } : World).forCall (fun _ _ => 0) ⟨#[], #[.slice none 0 0], []⟩).memory :=
  laidMet_of_run' 8 (by kernel_rfl) (by kernel_rfl)

theorem graphs_reads (os : Os) {H : Type} (enc : TypeId × Value → H) : ∃ places, DataW.whole enc Tryz.prog (({ World.holding Tryz.prog os ⟨#[], #[], []⟩ with heap := (((World.holding Tryz.prog os ⟨#[], #[], []⟩).heap.modify 0 (lay1 #[.int .u64 1, .int .u64 10, .int .u64 100, .int .u64 1000, .int .u64 10000, .int .u64 100000, .int .u64 1000000, .int .u64 10000000, .int .u64 100000000, .int .u64 1000000000, .int .u64 10000000000, .int .u64 100000000000, .int .u64 1000000000000, .int .u64 10000000000000, .int .u64 100000000000000, .int .u64 1000000000000000, .int .u64 10000000000000000, .int .u64 100000000000000000, .int .u64 1000000000000000000, .int .u64 10000000000000000000])).modify 1 (lay1 #[.int .u8 0, .int .u8 1, .int .u8 28, .int .u8 2, .int .u8 29, .int .u8 14, .int .u8 24, .int .u8 3, .int .u8 30, .int .u8 22, .int .u8 20, .int .u8 15, .int .u8 25, .int .u8 17, .int .u8 4, .int .u8 8, .int .u8 31, .int .u8 27, .int .u8 13, .int .u8 23, .int .u8 21, .int .u8 19, .int .u8 16, .int .u8 7, .int .u8 26, .int .u8 12, .int .u8 18, .int .u8 6, .int .u8 11, .int .u8 5, .int .u8 10, .int .u8 9])).modify 2 (lay1 #[.int .u8 0, .int .u8 1, .int .u8 56, .int .u8 2, .int .u8 57, .int .u8 49, .int .u8 28, .int .u8 3, .int .u8 61, .int .u8 58, .int .u8 42, .int .u8 50, .int .u8 38, .int .u8 29, .int .u8 17, .int .u8 4, .int .u8 62, .int .u8 47, .int .u8 59, .int .u8 36, .int .u8 45, .int .u8 43, .int .u8 51, .int .u8 22, .int .u8 53, .int .u8 39, .int .u8 33, .int .u8 30, .int .u8 24, .int .u8 18, .int .u8 12, .int .u8 5, .int .u8 63, .int .u8 55, .int .u8 48, .int .u8 27, .int .u8 60, .int .u8 41, .int .u8 37, .int .u8 16, .int .u8 46, .int .u8 35, .int .u8 44, .int .u8 21, .int .u8 52, .int .u8 32, .int .u8 23, .int .u8 11, .int .u8 54, .int .u8 26, .int .u8 40, .int .u8 15, .int .u8 34, .int .u8 20, .int .u8 31, .int .u8 10, .int .u8 25, .int .u8 14, .int .u8 19, .int .u8 9, .int .u8 13, .int .u8 8, .int .u8 7, .int .u8 6]) } : World).forCall (fun _ _ => 0) ⟨#[], #[.slice none 0 0], []⟩).memory Tryz.f4.params.toList Rows.graphsSpec.vars false #[Value.slice none 0 0].toList 8 = some ([.nil], [], places) :=
  ⟨[], by kernel_rfl⟩

set_option maxRecDepth 100000 in
theorem graphs_lifted (os : Os) (started : os.Started) (H : Type) (enc : TypeId × Value → H) (F : Stop.Interp) :
    ReturnsInHanded {} Tryz.checked os 4 .any ((OpenSpec.ofChange Rows.graphsSpec).preRow enc Tryz.prog Tryz.f4 Rows.graphsRow.domain false Rows.graphsRow.laid) (((OpenSpec.ofChange Rows.graphsSpec).at F).post enc Tryz.prog Tryz.f4 false true false false) := by
  obtain ⟨places, hx⟩ := graphs_reads os enc
  refine returnsInHanded_of_row (C := Tryz.checked) (s := OpenSpec.ofChange Rows.graphsSpec) own started (by kernel_rfl) Tryz.func4
    (witness_row_at (enc := enc) (C := Tryz.checked) false ({ World.holding Tryz.prog os ⟨#[], #[], []⟩ with heap := (((World.holding Tryz.prog os ⟨#[], #[], []⟩).heap.modify 0 (lay1 #[.int .u64 1, .int .u64 10, .int .u64 100, .int .u64 1000, .int .u64 10000, .int .u64 100000, .int .u64 1000000, .int .u64 10000000, .int .u64 100000000, .int .u64 1000000000, .int .u64 10000000000, .int .u64 100000000000, .int .u64 1000000000000, .int .u64 10000000000000, .int .u64 100000000000000, .int .u64 1000000000000000, .int .u64 10000000000000000, .int .u64 100000000000000000, .int .u64 1000000000000000000, .int .u64 10000000000000000000])).modify 1 (lay1 #[.int .u8 0, .int .u8 1, .int .u8 28, .int .u8 2, .int .u8 29, .int .u8 14, .int .u8 24, .int .u8 3, .int .u8 30, .int .u8 22, .int .u8 20, .int .u8 15, .int .u8 25, .int .u8 17, .int .u8 4, .int .u8 8, .int .u8 31, .int .u8 27, .int .u8 13, .int .u8 23, .int .u8 21, .int .u8 19, .int .u8 16, .int .u8 7, .int .u8 26, .int .u8 12, .int .u8 18, .int .u8 6, .int .u8 11, .int .u8 5, .int .u8 10, .int .u8 9])).modify 2 (lay1 #[.int .u8 0, .int .u8 1, .int .u8 56, .int .u8 2, .int .u8 57, .int .u8 49, .int .u8 28, .int .u8 3, .int .u8 61, .int .u8 58, .int .u8 42, .int .u8 50, .int .u8 38, .int .u8 29, .int .u8 17, .int .u8 4, .int .u8 62, .int .u8 47, .int .u8 59, .int .u8 36, .int .u8 45, .int .u8 43, .int .u8 51, .int .u8 22, .int .u8 53, .int .u8 39, .int .u8 33, .int .u8 30, .int .u8 24, .int .u8 18, .int .u8 12, .int .u8 5, .int .u8 63, .int .u8 55, .int .u8 48, .int .u8 27, .int .u8 60, .int .u8 41, .int .u8 37, .int .u8 16, .int .u8 46, .int .u8 35, .int .u8 44, .int .u8 21, .int .u8 52, .int .u8 32, .int .u8 23, .int .u8 11, .int .u8 54, .int .u8 26, .int .u8 40, .int .u8 15, .int .u8 34, .int .u8 20, .int .u8 31, .int .u8 10, .int .u8 25, .int .u8 14, .int .u8 19, .int .u8 9, .int .u8 13, .int .u8 8, .int .u8 7, .int .u8 6]) } : World) #[.slice none 0 0] rfl (by kernel_rfl) (by kernel_rfl) (by kernel_rfl)
      (OpenSpec.preRow_of_cond 8 hx (by kernel_rfl) (fun k hk => by cases hk) (by kernel_rfl) (laid_met os))) ?_
  intro W base args ds gs before hval hW _ _ _ hL _ _
  exact graphs_contract H enc W base args ds gs before hval hW hL

theorem graphs_said : Rows.GraphsSaid :=
  OpenClaim.holds_of_cond 4 Tryz.f4 rfl rfl rfl rfl rfl rfl rfl ⟨rfl, rfl, rfl, rfl, rfl⟩ rfl rfl rfl rfl rfl (by kernel_rfl) Tryz.func4 (by kernel_rfl)
    (of_decide_eq_true (by kernel_rfl)) (by unfold Func.isWrapper; first | (rw [if_pos (by decide +kernel)]; kernel_rfl) | (rw [if_neg (by decide +kernel)]; exact ⟨rfl, rfl⟩))
    (fun os started H enc _ F => by rw [OpenClaim.pre_eq_preRow]; exact graphs_lifted os started H enc F)

theorem graphs_plain (f : FuncId) (fn : Func) (hf : Tryz.pinned.checked.prog.funcNamed "narrow/narrowlaw.Graphs" = some f) (hfn : Tryz.pinned.checked.prog.funcs[f]? = some fn) :
    false = Tryz.pinned.checked.prog.looks [] ∧ ∀ (j : Nat) t, fn.params[j]? = some t → Tryz.pinned.checked.prog.wantsStandIn t = false := by
  obtain rfl : f = 4 := Option.some.inj ((show Tryz.prog.funcNamed "narrow/narrowlaw.Graphs" = some 4 by kernel_rfl).symm.trans hf) |>.symm
  obtain rfl : fn = Tryz.f4 := (Option.some.inj (Tryz.func4.symm.trans hfn)).symm
  refine ⟨by kernel_rfl, fun j t ht => ?_⟩
  rw [Tryz.params4] at ht
  obtain rfl : t = 22 := by simpa using Array.mem_of_getElem? ht
  exact (show Tryz.prog.wantsStandIn 22 = false by kernel_rfl)

theorem graphs_card : Rows.GraphsCardSaid :=
  Claim7.holds_tied_plain_at .later [] _ _ _ _ graphs_said (fun _ h => by cases h) (by kernel_rfl) (fun _ h => by cases h) graphs_row_tie rfl ⟨rfl, rfl⟩ (by kernel_rfl) rfl graphs_plain (by kernel_rfl)
#print axioms graphs_card
end Go.Proofs.YtellieabhaphhaaGreatDoor
