import Derived.Test.YtellieabhaphhaaGreatDoorPSoundH
/-
  Plain: the least table is at rest; its text.
-/
namespace Go.Proofs.YtellieabhaphhaaGreatDoor
open Go.RowKit

theorem it_flag (l : List Nd) (T : Tbl) (hT : TOk T) : ∀ j, (∃ i, i < j ∧ (swpF l 0 (itF l i T)).2 = false) ∨ j ≤ mT (itF l j T)
  | 0 => .inr (Nat.zero_le _)
  | j + 1 => by
    rcases it_flag l T hT j with ⟨i, h1, h2⟩ | h
    · exact .inl ⟨i, by omega, h2⟩
    · cases hf : (swpF l 0 (itF l j T)).2
      · exact .inl ⟨j, Nat.lt_succ_self _, hf⟩
      · refine .inr ?_
        have := (swp_le (l := l) (i := 0) (TOk.it (l := l) (k := j) hT)).2 hf
        rw [it_succ]
        omega

theorem lst_rest (l : List Nd) (hl : l.length ≤ 90) : (swpF l 0 (lstF l)).2 = false := by
  rw [lst_tN]
  rcases it_flag l (tN l.length) (tN_ok _) 4000 with ⟨i, h1, h2⟩ | h
  · rw [it_rest l _ i (swp_same h2) 4000 (by omega)]
    exact h2
  · have h2 := mT_le (TOk.it (l := l) (k := 4000) (tN_ok l.length))
    rw [it_len, tN_len] at h2
    omega

theorem swp_pas : ∀ (l : List Nd) (i : Nat) (T : Tbl), (swpF l i T).2 = false → ∀ k nd, l[k]? = some nd → (pasF nd (i + k) T).2 = false
  | [], _, _, _, k, nd, h => by simp at h
  | n :: l, i, T, h, k, nd, hk => by
    rw [swpF, Bool.or_eq_false_iff] at h
    cases k with
    | zero =>
      obtain rfl : n = nd := by simpa using hk
      exact h.1
    | succ k =>
      have h2 := h.2
      rw [pas_same h.1] at h2
      have := swp_pas l (i + 1) T h2 k nd (by simpa using hk)
      rw [show i + (k + 1) = i + 1 + k by omega]
      exact this

theorem or_and {a b : Nat} (h : a ||| b = a) : b &&& a = b := by
  apply Nat.eq_of_testBit_eq
  intro i
  have := congrArg (fun x => x.testBit i) h
  simp only [Nat.testBit_or] at this
  rw [Nat.testBit_and]
  cases ha : a.testBit i <;> cases hb : b.testBit i <;> simp [ha, hb] at this ⊢

theorem zip_get (a b : St) (v : Nat) (ha : v < a.length) (hb : v < b.length) : (List.zipWith (· ||| ·) a b).getD v 0 = a.getD v 0 ||| b.getD v 0 := by
  rw [List.getD_eq_getElem?_getD, List.getD_eq_getElem?_getD, List.getD_eq_getElem?_getD, List.getElem?_zipWith, List.getElem?_eq_getElem ha, List.getElem?_eq_getElem hb]
  rfl

theorem into_rch {T : Tbl} {j : Int} {s : St} (hT : TOk T) (hs : SOk s) (h : (intoF T j s).2 = false) : Rch T j s := by
  unfold intoF at h
  split at h
  · rename_i hc
    dsimp only at h
    unfold joinR at h
    split at h
    · rename_i h0; exact .inr (.inr (.inl h0))
    · rename_i h0
      split at h
      · cases h
      · rename_i h1
        have e : List.zipWith (· ||| ·) (T.getD j.toNat []) s = T.getD j.toNat [] := by simpa using h
        have l1 := ((hT.get j.toNat).resolve_left h1).1
        have l2 := (hs.resolve_left h0).1
        refine .inr (.inr (.inr (.inr ⟨l2, l1, fun v hv => ?_⟩)))
        have := zip_get (T.getD j.toNat []) s v (by omega) (by omega)
        rw [e] at this
        exact or_and this.symm
  · rename_i hc
    unfold Rch
    omega

theorem lst_keeps (l : List Nd) (hl : l.length ≤ 90) (i : Nat) (nd : Nd) (h : l[i]? = some nd) : Keeps nd (lstF l) ((lstF l).getD i []) := by
  have hp := swp_pas l 0 (lstF l) (lst_rest l hl) i nd h
  rw [Nat.zero_add] at hp
  have ok := lst_ok l
  generalize lstF l = T at *
  unfold pasF at hp
  split at hp
  · rename_i h0; exact .inl h0
  · rename_i h0
    refine .inr ⟨fun ht => ?_, fun ht => ?_⟩
    · rw [if_neg ht] at hp
      exact into_rch ok ((ok.get i).beh nd) hp
    · rw [if_pos ht, Bool.or_eq_false_iff] at hp
      have h2 := hp.2
      rw [into_same hp.1] at h2
      exact ⟨into_rch ok ((ok.get i).hld nd true) hp.1, into_rch ok ((ok.get i).hld nd false) h2⟩

-- the first state stays
theorem SubS.join {s a : St} (b : St) (hs : s ≠ []) (h : SubS s a) (hb : SOk b) : SubS s (joinR a b).1 := by
  rcases h with h | ⟨h1, h2, h3⟩
  · exact absurd h hs
  · unfold joinR
    split
    · exact .inr ⟨h1, h2, h3⟩
    · rename_i hb0
      rw [if_neg (fun e => by rw [e] at h2; cases h2)]
      have l2 := (hb.resolve_left hb0).1
      refine .inr ⟨h1, by simp [List.length_zipWith, h2, l2], fun v hv => ?_⟩
      show s.getD v 0 &&& (List.zipWith (· ||| ·) a b).getD v 0 = _
      rw [zip_get a b v (by omega) (by omega), Nat.and_or_distrib_left, h3 v hv]
      apply Nat.eq_of_testBit_eq
      intro i
      rw [Nat.testBit_or, Nat.testBit_and]
      cases (s.getD v 0).testBit i <;> simp

theorem sub_into {T : Tbl} {s : St} (hs : s ≠ []) (h : SubS s (T.getD 0 [])) (i : Int) {b : St} (hb : SOk b) : SubS s ((intoF T i b).1.getD 0 []) := by
  unfold intoF
  split
  · rename_i hc
    by_cases h0 : i.toNat = 0
    · show SubS s ((T.set i.toNat _).getD 0 [])
      rw [h0, List.getD_eq_getElem?_getD, List.getElem?_set_self (by omega)]
      rw [h0] at *
      exact h.join b hs hb
    · show SubS s ((T.set i.toNat _).getD 0 [])
      rw [List.getD_eq_getElem?_getD, List.getElem?_set_ne (by omega), ← List.getD_eq_getElem?_getD]
      exact h
  · exact h

theorem sub_pas {T : Tbl} {s : St} (hs : s ≠ []) (hT : TOk T) (h : SubS s (T.getD 0 [])) (n : Nd) (i : Nat) : SubS s ((pasF n i T).1.getD 0 []) := by
  unfold pasF
  split
  · exact h
  · split
    · exact sub_into hs (sub_into hs h _ ((hT.get i).hld n true)) _ ((hT.get i).hld n false)
    · exact sub_into hs h _ ((hT.get i).beh n)

theorem sub_swp : ∀ (l : List Nd) (i : Nat) (T : Tbl) {s : St}, s ≠ [] → TOk T → SubS s (T.getD 0 []) → SubS s ((swpF l i T).1.getD 0 [])
  | [], _, _, _, _, _, h => h
  | n :: l, i, T, s, hs, hT, h => by
    rw [swpF]
    exact sub_swp l (i + 1) _ hs (hT.pas n i) (sub_pas hs hT h n i)

theorem sub_it (l : List Nd) : ∀ (k : Nat) (T : Tbl) {s : St}, s ≠ [] → TOk T → SubS s (T.getD 0 []) → SubS s ((itF l k T).getD 0 [])
  | 0, _, _, _, _, h => h
  | k + 1, T, s, hs, hT, h => by
    rw [itF]
    exact sub_it l k _ hs hT.swp (sub_swp l 0 T hs hT h)

theorem lst_start (l : List Nd) (h : l ≠ []) : Rch (lstF l) 0 [8, 8, 8, 8, 8, 8] := by
  refine .inr (.inr (.inr ?_))
  rw [lst_tN]
  refine sub_it l 4000 _ (by decide) (tN_ok _) ?_
  obtain ⟨n, l', rfl⟩ := List.exists_cons_of_ne_nil h
  exact .inr ⟨rfl, rfl, fun v _ => by show st0.getD v 0 &&& st0.getD v 0 = st0.getD v 0; exact Nat.and_self _⟩

-- the text
def flT (T : Tbl) : List UInt8 := T.flatMap (fun s => (txS s).data.toList ++ [59])

theorem spl_flat (T : Tbl) : (splB T).data.toList = flT T := by
  have key : ∀ (T : Tbl) (a : ByteArray), (T.foldl rowB a).data.toList = a.data.toList ++ flT T := by
    intro T
    induction T with
    | nil => intro a; simp [flT]
    | cons s T ih =>
      intro a
      rw [List.foldl_cons, ih, rowB_tx]
      simp [flT]
  exact (key T ⟨#[]⟩).trans (by simp)

theorem cel_skip : ∀ (l : List UInt8) (rest acc : List UInt8) (i : Nat), (∀ c ∈ l, ¬ c = 59) → celL (l ++ rest) acc i = celL rest (acc ++ l) i
  | [], rest, acc, i, _ => by simp
  | c :: l, rest, acc, i, h => by
    rw [List.cons_append, celL_ne (h c (List.mem_cons_self ..)), cel_skip l rest _ i (fun x hx => h x (List.mem_cons_of_mem _ hx)), List.append_assoc, List.singleton_append]

theorem cel_flat : ∀ (T : Tbl) (i : Nat), (∀ s ∈ T, ∀ c ∈ (txS s).data.toList, ¬ c = 59) → celL (flT T) [] i = (T[i]?).map (fun s => (txS s).data.toList)
  | [], i, _ => by simp [flT, celL]
  | s :: T, i, h => by
    have e : flT (s :: T) = (txS s).data.toList ++ (59 :: flT T) := by simp [flT]
    rw [e, cel_skip _ _ _ _ (h s (List.mem_cons_self ..))]
    cases i with
    | zero => rw [celL_zero]; simp
    | succ i => rw [celL_end, cel_flat T i (fun x hx => h x (List.mem_cons_of_mem _ hx))]; simp

theorem sg_mem {m : Nat} {c : UInt8} (h : c ∈ (sgB m).data.toList) : c ∈ KS := by
  have h' : c ∈ KS.filter (fun u => m.testBit (kix u.toNat)) := h
  exact (List.mem_filter.1 h').1

theorem stB_flat : ∀ (s : St) (a : ByteArray), (stB a s).data.toList = a.data.toList ++ s.flatMap (fun m => (sgB m).data.toList ++ [46])
  | [], a => by simp [stB]
  | m :: s, a => by
    show (stB (a ++ sgB m ++ ⟨#[46]⟩) s).data.toList = _
    rw [stB_flat s]
    simp

theorem tx_no (s : St) : ∀ c ∈ (txS s).data.toList, ¬ c = 59 := by
  intro c hc
  unfold txS at hc
  split at hc
  · obtain rfl : c = 63 := by simpa using hc
    decide
  · rw [stB_flat] at hc
    obtain ⟨m, _, h2⟩ := List.mem_flatMap.1 (show c ∈ s.flatMap (fun m => (sgB m).data.toList ++ [46]) by simpa using hc)
    rcases List.mem_append.1 h2 with h | h
    · have := sg_mem h
      intro e
      rw [e] at this
      exact absurd this (by decide)
    · obtain rfl : c = 46 := by simpa using h
      decide

theorem sta_skip : ∀ (l rest : List UInt8) (ss : List ByteArray) (cur : ByteArray), (∀ c ∈ l, c ∈ KS) → staB (l ++ rest) ss cur = staB rest ss ⟨cur.data ++ l.toArray⟩
  | [], rest, ss, cur, _ => by simp
  | c :: l, rest, ss, cur, h => by
    have hc := h c (List.mem_cons_self ..)
    have h46 : ¬ c = 46 := fun e => by rw [e] at hc; exact absurd hc (by decide)
    have ha : amF c.toNat KS = true := by
      unfold amF
      rw [List.any_eq_true]
      exact ⟨c, hc, by simp⟩
    rw [List.cons_append, staB_in h46 ha, sta_skip l rest ss _ (fun x hx => h x (List.mem_cons_of_mem _ hx))]
    congr 1
    apply ByteArray.ext
    show (cur.data.push c) ++ l.toArray = cur.data ++ (c :: l).toArray
    apply Array.ext'
    simp

theorem sta_sets : ∀ (s : St) (ss : List ByteArray), staB (s.flatMap (fun m => (sgB m).data.toList ++ [46])) ss ⟨#[]⟩ = some (ss ++ s.map sgB, ⟨#[]⟩)
  | [], ss => by simp [staB]
  | m :: s, ss => by
    have e : (m :: s).flatMap (fun m => (sgB m).data.toList ++ [46]) = (sgB m).data.toList ++ (46 :: s.flatMap (fun m => (sgB m).data.toList ++ [46])) := by simp
    rw [e, sta_skip _ _ _ _ (fun c hc => sg_mem hc), staB_dot, sta_sets s]
    have e2 : (⟨(⟨#[]⟩ : ByteArray).data ++ (sgB m).data.toList.toArray⟩ : ByteArray) = sgB m := by
      apply ByteArray.ext
      simp
    rw [e2]
    simp

theorem sta_tx {s : St} (h : SOk s) : staF (txS s) = (s.map sgB, true) := by
  unfold staF txS
  by_cases h0 : s = []
  · subst h0; rfl
  · rw [if_neg h0]
    have h6 := (h.resolve_left h0).1
    have hf := stB_flat s ⟨#[]⟩
    have hne : ¬ stB ⟨#[]⟩ s = ⟨#[63]⟩ := by
      intro e
      have hm : (46 : UInt8) ∈ (stB ⟨#[]⟩ s).data.toList := by
        rw [hf]
        obtain ⟨m, s', rfl⟩ := List.exists_cons_of_ne_nil h0
        simp
      rw [e] at hm
      exact absurd hm (by decide)
    rw [if_neg hne, hf]
    show (match staB (s.flatMap (fun m => (sgB m).data.toList ++ [46])) [] ⟨#[]⟩ with | none => (([] : List ByteArray), false) | some (ss, cur) => (ss, decide (ss.length = 6 ∧ cur = (⟨#[]⟩ : ByteArray)))) = _
    rw [sta_sets]
    show (([] : List ByteArray) ++ s.map sgB, decide ((([] : List ByteArray) ++ s.map sgB).length = 6 ∧ (⟨#[]⟩ : ByteArray) = ⟨#[]⟩)) = _
    rw [List.nil_append]
    congr 1
    rw [decide_eq_true_iff]
    exact ⟨by rw [List.length_map]; exact h6, rfl⟩

theorem spl_size (T : Tbl) (h : TOk T) : (splB T).size ≤ 49 * T.length := by
  have e : (splB T).size = (flT T).length := by rw [← spl_flat]; rfl
  rw [e]
  clear e
  induction T with
  | nil => exact Nat.le_refl _
  | cons s T ih =>
    have h1 := txS_size s (h s (List.mem_cons_self ..))
    have h2 := ih (fun x hx => h x (List.mem_cons_of_mem _ hx))
    have e : (flT (s :: T)).length = (txS s).size + 1 + (flT T).length := by
      show ((s :: T).flatMap _).length = _
      rw [List.flatMap_cons, List.length_append, List.length_append]
      rfl
    rw [e, List.length_cons]
    omega

theorem tt_spl {T : Tbl} (h : TOk T) (hl : T.length ≤ 90) : TT (splB T) T := by
  have hc : ∀ i, celF (splB T) i = (T[i]?).map txS := by
    intro i
    unfold celF
    rw [spl_flat, cel_flat T i (fun s _ => tx_no s)]
    cases T[i]? with
    | none => rfl
    | some s => rfl
  refine ⟨fun i hi => ?_, ?_, ?_, hl, h, fun i _ => sta_tx (h.get i)⟩
  · rw [hc, List.getD_eq_getElem?_getD, List.getElem?_eq_getElem hi]; rfl
  · rw [hc, List.getElem?_eq_none (Nat.le_refl _)]; rfl
  · have := spl_size T h; omega
end Go.Proofs.YtellieabhaphhaaGreatDoor

/-
  narrow's run: its variables, its input.
-/
namespace Go.Proofs.YtellieabhaphhaaGreatDoor
open Go.RowKit

theorem ntell_c {w : World} {r : Nat} {inp : ByteArray} {m : Mc} (n : Nat) (hn : n < 100) (h : NB w r inp m) (ht : m.tr.size ≤ 100000) (hk : ∀ u ∈ m.l, VW u) :
    Calls Tryz.prog 100 #[.pointer (some ⟨r, 0, none⟩), .int .i64 n] w fun e w' => e = .returned (.tuple #[]) ∧ NB w' r inp { m with tr := m.tr ++ toldB n m.l ++ sp } ∧ Kp (· = r) w w' := by
  obtain ⟨hb, h6⟩ := h
  obtain ⟨l, rd, left, tr, outp, me⟩ := m
  dsimp only at *
  obtain ⟨a, b, c, d, e, f, rfl⟩ := six_of h6
  have hu : ∀ u ∈ [a, b, c, d, e, f], ∀ W, Calls Tryz.prog 141 #[.int .i64 (bit u.k)] W fun e w' => e = .returned (.string (strOfNums [u.k])) ∧ w' = W := fun u hu W => nkindSign_c u.k (hk u hu).k W
  refine (ntell_at r n inp tr outp rd (bit a.k) a.n (bit a.v) (bit b.k) b.n (bit b.v) (bit c.k) c.n (bit c.v) (bit d.k) d.n (bit d.v) (bit e.k) e.n (bit e.v) (bit f.k) f.n (bit f.v) a.k b.k c.k d.k e.k f.k w hn ht hb (hu a (by simp)) (hu b (by simp)) (hu c (by simp)) (hu d (by simp)) (hu e (by simp)) (hu f (by simp))).mono ?_
  rintro x w' ⟨rfl, hb', k'⟩
  exact ⟨rfl, ⟨hb', rfl⟩, k'⟩

set_option maxHeartbeats 800000 in
theorem nvalueOf_0 (r : Nat) (inp tr outp : ByteArray) (rd : Int) (k0 n0 v0 k1 n1 v1 k2 n2 v2 k3 n3 v3 k4 n4 v4 k5 n5 v5 : Int) (w : World) (hb : Blk w r [.int .i64 k0, .int .i64 n0, .int .i64 v0, .int .i64 k1, .int .i64 n1, .int .i64 v1, .int .i64 k2, .int .i64 n2, .int .i64 v2, .int .i64 k3, .int .i64 n3, .int .i64 v3, .int .i64 k4, .int .i64 n4, .int .i64 v4, .int .i64 k5, .int .i64 n5, .int .i64 v5, .string inp, .int .i64 rd, .string tr, .string outp] 142) :
    Calls Tryz.prog 142 #[.pointer (some ⟨r, 0, none⟩), .int .i64 0] w fun e w' => e = .returned (.agg #[.int .i64 k0, .int .i64 n0, .int .i64 v0]) ∧ Kp no w w' := by
  obtain ⟨c0, c1, c2, c3, c4, c5, c6, c7, c8, c9, c10, c11, c12, c13, c14, c15, c16, c17, c18, c19, c20, c21, cf⟩ := hb.c22
  have hr := hb.lt
  clear hb c3 c4 c5 c6 c7 c8 c9 c10 c11 c12 c13 c14 c15 c16 c17 c18 c19 c20 c21
  go_enter Tryz.func142, Tryz.ntmps142
  go_wp2
  refine body_agg (Tb := 89) (b := w.heap.size) (cs := [.int .i64 k0, .int .i64 n0, .int .i64 v0]) (.inr rfl) Tryz.results142 rfl rfl (by (repeat' (first | ((with_reducible show (_ : List Value) = _); rfl) | ((with_reducible refine Blk.newAt _ _ _ ?_); first | with_reducible rfl | (simp; done)) | with_reducible refine Blk.alloc ?_ _ | with_reducible refine Blk.drewN ?_ _ | with_reducible refine Blk.drew ?_ | ((with_reducible refine Blk.other ?_ _ ?_); rotate_left; ((try dsimp only); omega)) | with_reducible refine Blk.setB (cs0 := ?_) ?_ ?_))) Tryz.underlying89 rfl (by kernel_rfl) ?_
  exact ⟨rfl, by (repeat' (first | with_reducible exact Kp.refl _ _ | with_reducible refine Kp.alloc ?_ _ | with_reducible refine Kp.drewN ?_ _ | with_reducible refine Kp.drew ?_ | with_reducible refine Kp.setCell ?_ _ ?_ | (intro hh; first | rfl | exact .inl rfl | exact .inr rfl | (exfalso; (try dsimp only at hh); omega))))⟩

set_option maxHeartbeats 800000 in
theorem nvalueOf_1 (r : Nat) (inp tr outp : ByteArray) (rd : Int) (k0 n0 v0 k1 n1 v1 k2 n2 v2 k3 n3 v3 k4 n4 v4 k5 n5 v5 : Int) (w : World) (hb : Blk w r [.int .i64 k0, .int .i64 n0, .int .i64 v0, .int .i64 k1, .int .i64 n1, .int .i64 v1, .int .i64 k2, .int .i64 n2, .int .i64 v2, .int .i64 k3, .int .i64 n3, .int .i64 v3, .int .i64 k4, .int .i64 n4, .int .i64 v4, .int .i64 k5, .int .i64 n5, .int .i64 v5, .string inp, .int .i64 rd, .string tr, .string outp] 142) :
    Calls Tryz.prog 142 #[.pointer (some ⟨r, 0, none⟩), .int .i64 1] w fun e w' => e = .returned (.agg #[.int .i64 k1, .int .i64 n1, .int .i64 v1]) ∧ Kp no w w' := by
  obtain ⟨c0, c1, c2, c3, c4, c5, c6, c7, c8, c9, c10, c11, c12, c13, c14, c15, c16, c17, c18, c19, c20, c21, cf⟩ := hb.c22
  have hr := hb.lt
  clear hb c0 c1 c2 c6 c7 c8 c9 c10 c11 c12 c13 c14 c15 c16 c17 c18 c19 c20 c21
  go_enter Tryz.func142, Tryz.ntmps142
  go_wp2
  refine body_agg (Tb := 89) (b := w.heap.size) (cs := [.int .i64 k1, .int .i64 n1, .int .i64 v1]) (.inr rfl) Tryz.results142 rfl rfl (by (repeat' (first | ((with_reducible show (_ : List Value) = _); rfl) | ((with_reducible refine Blk.newAt _ _ _ ?_); first | with_reducible rfl | (simp; done)) | with_reducible refine Blk.alloc ?_ _ | with_reducible refine Blk.drewN ?_ _ | with_reducible refine Blk.drew ?_ | ((with_reducible refine Blk.other ?_ _ ?_); rotate_left; ((try dsimp only); omega)) | with_reducible refine Blk.setB (cs0 := ?_) ?_ ?_))) Tryz.underlying89 rfl (by kernel_rfl) ?_
  exact ⟨rfl, by (repeat' (first | with_reducible exact Kp.refl _ _ | with_reducible refine Kp.alloc ?_ _ | with_reducible refine Kp.drewN ?_ _ | with_reducible refine Kp.drew ?_ | with_reducible refine Kp.setCell ?_ _ ?_ | (intro hh; first | rfl | exact .inl rfl | exact .inr rfl | (exfalso; (try dsimp only at hh); omega))))⟩

set_option maxHeartbeats 800000 in
theorem nvalueOf_2 (r : Nat) (inp tr outp : ByteArray) (rd : Int) (k0 n0 v0 k1 n1 v1 k2 n2 v2 k3 n3 v3 k4 n4 v4 k5 n5 v5 : Int) (w : World) (hb : Blk w r [.int .i64 k0, .int .i64 n0, .int .i64 v0, .int .i64 k1, .int .i64 n1, .int .i64 v1, .int .i64 k2, .int .i64 n2, .int .i64 v2, .int .i64 k3, .int .i64 n3, .int .i64 v3, .int .i64 k4, .int .i64 n4, .int .i64 v4, .int .i64 k5, .int .i64 n5, .int .i64 v5, .string inp, .int .i64 rd, .string tr, .string outp] 142) :
    Calls Tryz.prog 142 #[.pointer (some ⟨r, 0, none⟩), .int .i64 2] w fun e w' => e = .returned (.agg #[.int .i64 k2, .int .i64 n2, .int .i64 v2]) ∧ Kp no w w' := by
  obtain ⟨c0, c1, c2, c3, c4, c5, c6, c7, c8, c9, c10, c11, c12, c13, c14, c15, c16, c17, c18, c19, c20, c21, cf⟩ := hb.c22
  have hr := hb.lt
  clear hb c0 c1 c2 c3 c4 c5 c9 c10 c11 c12 c13 c14 c15 c16 c17 c18 c19 c20 c21
  go_enter Tryz.func142, Tryz.ntmps142
  go_wp2
  refine body_agg (Tb := 89) (b := w.heap.size) (cs := [.int .i64 k2, .int .i64 n2, .int .i64 v2]) (.inr rfl) Tryz.results142 rfl rfl (by (repeat' (first | ((with_reducible show (_ : List Value) = _); rfl) | ((with_reducible refine Blk.newAt _ _ _ ?_); first | with_reducible rfl | (simp; done)) | with_reducible refine Blk.alloc ?_ _ | with_reducible refine Blk.drewN ?_ _ | with_reducible refine Blk.drew ?_ | ((with_reducible refine Blk.other ?_ _ ?_); rotate_left; ((try dsimp only); omega)) | with_reducible refine Blk.setB (cs0 := ?_) ?_ ?_))) Tryz.underlying89 rfl (by kernel_rfl) ?_
  exact ⟨rfl, by (repeat' (first | with_reducible exact Kp.refl _ _ | with_reducible refine Kp.alloc ?_ _ | with_reducible refine Kp.drewN ?_ _ | with_reducible refine Kp.drew ?_ | with_reducible refine Kp.setCell ?_ _ ?_ | (intro hh; first | rfl | exact .inl rfl | exact .inr rfl | (exfalso; (try dsimp only at hh); omega))))⟩

set_option maxHeartbeats 800000 in
theorem nvalueOf_3 (r : Nat) (inp tr outp : ByteArray) (rd : Int) (k0 n0 v0 k1 n1 v1 k2 n2 v2 k3 n3 v3 k4 n4 v4 k5 n5 v5 : Int) (w : World) (hb : Blk w r [.int .i64 k0, .int .i64 n0, .int .i64 v0, .int .i64 k1, .int .i64 n1, .int .i64 v1, .int .i64 k2, .int .i64 n2, .int .i64 v2, .int .i64 k3, .int .i64 n3, .int .i64 v3, .int .i64 k4, .int .i64 n4, .int .i64 v4, .int .i64 k5, .int .i64 n5, .int .i64 v5, .string inp, .int .i64 rd, .string tr, .string outp] 142) :
    Calls Tryz.prog 142 #[.pointer (some ⟨r, 0, none⟩), .int .i64 3] w fun e w' => e = .returned (.agg #[.int .i64 k3, .int .i64 n3, .int .i64 v3]) ∧ Kp no w w' := by
  obtain ⟨c0, c1, c2, c3, c4, c5, c6, c7, c8, c9, c10, c11, c12, c13, c14, c15, c16, c17, c18, c19, c20, c21, cf⟩ := hb.c22
  have hr := hb.lt
  clear hb c0 c1 c2 c3 c4 c5 c6 c7 c8 c12 c13 c14 c15 c16 c17 c18 c19 c20 c21
  go_enter Tryz.func142, Tryz.ntmps142
  go_wp2
  refine body_agg (Tb := 89) (b := w.heap.size) (cs := [.int .i64 k3, .int .i64 n3, .int .i64 v3]) (.inr rfl) Tryz.results142 rfl rfl (by (repeat' (first | ((with_reducible show (_ : List Value) = _); rfl) | ((with_reducible refine Blk.newAt _ _ _ ?_); first | with_reducible rfl | (simp; done)) | with_reducible refine Blk.alloc ?_ _ | with_reducible refine Blk.drewN ?_ _ | with_reducible refine Blk.drew ?_ | ((with_reducible refine Blk.other ?_ _ ?_); rotate_left; ((try dsimp only); omega)) | with_reducible refine Blk.setB (cs0 := ?_) ?_ ?_))) Tryz.underlying89 rfl (by kernel_rfl) ?_
  exact ⟨rfl, by (repeat' (first | with_reducible exact Kp.refl _ _ | with_reducible refine Kp.alloc ?_ _ | with_reducible refine Kp.drewN ?_ _ | with_reducible refine Kp.drew ?_ | with_reducible refine Kp.setCell ?_ _ ?_ | (intro hh; first | rfl | exact .inl rfl | exact .inr rfl | (exfalso; (try dsimp only at hh); omega))))⟩

set_option maxHeartbeats 800000 in
theorem nvalueOf_4 (r : Nat) (inp tr outp : ByteArray) (rd : Int) (k0 n0 v0 k1 n1 v1 k2 n2 v2 k3 n3 v3 k4 n4 v4 k5 n5 v5 : Int) (w : World) (hb : Blk w r [.int .i64 k0, .int .i64 n0, .int .i64 v0, .int .i64 k1, .int .i64 n1, .int .i64 v1, .int .i64 k2, .int .i64 n2, .int .i64 v2, .int .i64 k3, .int .i64 n3, .int .i64 v3, .int .i64 k4, .int .i64 n4, .int .i64 v4, .int .i64 k5, .int .i64 n5, .int .i64 v5, .string inp, .int .i64 rd, .string tr, .string outp] 142) :
    Calls Tryz.prog 142 #[.pointer (some ⟨r, 0, none⟩), .int .i64 4] w fun e w' => e = .returned (.agg #[.int .i64 k4, .int .i64 n4, .int .i64 v4]) ∧ Kp no w w' := by
  obtain ⟨c0, c1, c2, c3, c4, c5, c6, c7, c8, c9, c10, c11, c12, c13, c14, c15, c16, c17, c18, c19, c20, c21, cf⟩ := hb.c22
  have hr := hb.lt
  clear hb c0 c1 c2 c3 c4 c5 c6 c7 c8 c9 c10 c11 c15 c16 c17 c18 c19 c20 c21
  go_enter Tryz.func142, Tryz.ntmps142
  go_wp2
  refine body_agg (Tb := 89) (b := w.heap.size) (cs := [.int .i64 k4, .int .i64 n4, .int .i64 v4]) (.inr rfl) Tryz.results142 rfl rfl (by (repeat' (first | ((with_reducible show (_ : List Value) = _); rfl) | ((with_reducible refine Blk.newAt _ _ _ ?_); first | with_reducible rfl | (simp; done)) | with_reducible refine Blk.alloc ?_ _ | with_reducible refine Blk.drewN ?_ _ | with_reducible refine Blk.drew ?_ | ((with_reducible refine Blk.other ?_ _ ?_); rotate_left; ((try dsimp only); omega)) | with_reducible refine Blk.setB (cs0 := ?_) ?_ ?_))) Tryz.underlying89 rfl (by kernel_rfl) ?_
  exact ⟨rfl, by (repeat' (first | with_reducible exact Kp.refl _ _ | with_reducible refine Kp.alloc ?_ _ | with_reducible refine Kp.drewN ?_ _ | with_reducible refine Kp.drew ?_ | with_reducible refine Kp.setCell ?_ _ ?_ | (intro hh; first | rfl | exact .inl rfl | exact .inr rfl | (exfalso; (try dsimp only at hh); omega))))⟩

set_option maxHeartbeats 800000 in
theorem nvalueOf_5 (r : Nat) (inp tr outp : ByteArray) (rd : Int) (k0 n0 v0 k1 n1 v1 k2 n2 v2 k3 n3 v3 k4 n4 v4 k5 n5 v5 : Int) (w : World) (hb : Blk w r [.int .i64 k0, .int .i64 n0, .int .i64 v0, .int .i64 k1, .int .i64 n1, .int .i64 v1, .int .i64 k2, .int .i64 n2, .int .i64 v2, .int .i64 k3, .int .i64 n3, .int .i64 v3, .int .i64 k4, .int .i64 n4, .int .i64 v4, .int .i64 k5, .int .i64 n5, .int .i64 v5, .string inp, .int .i64 rd, .string tr, .string outp] 142) :
    Calls Tryz.prog 142 #[.pointer (some ⟨r, 0, none⟩), .int .i64 5] w fun e w' => e = .returned (.agg #[.int .i64 k5, .int .i64 n5, .int .i64 v5]) ∧ Kp no w w' := by
  obtain ⟨c0, c1, c2, c3, c4, c5, c6, c7, c8, c9, c10, c11, c12, c13, c14, c15, c16, c17, c18, c19, c20, c21, cf⟩ := hb.c22
  have hr := hb.lt
  clear hb c0 c1 c2 c3 c4 c5 c6 c7 c8 c9 c10 c11 c12 c13 c14 c18 c19 c20 c21
  go_enter Tryz.func142, Tryz.ntmps142
  go_wp2
  refine body_agg (Tb := 89) (b := w.heap.size) (cs := [.int .i64 k5, .int .i64 n5, .int .i64 v5]) (.inr rfl) Tryz.results142 rfl rfl (by (repeat' (first | ((with_reducible show (_ : List Value) = _); rfl) | ((with_reducible refine Blk.newAt _ _ _ ?_); first | with_reducible rfl | (simp; done)) | with_reducible refine Blk.alloc ?_ _ | with_reducible refine Blk.drewN ?_ _ | with_reducible refine Blk.drew ?_ | ((with_reducible refine Blk.other ?_ _ ?_); rotate_left; ((try dsimp only); omega)) | with_reducible refine Blk.setB (cs0 := ?_) ?_ ?_))) Tryz.underlying89 rfl (by kernel_rfl) ?_
  exact ⟨rfl, by (repeat' (first | with_reducible exact Kp.refl _ _ | with_reducible refine Kp.alloc ?_ _ | with_reducible refine Kp.drewN ?_ _ | with_reducible refine Kp.drew ?_ | with_reducible refine Kp.setCell ?_ _ ?_ | (intro hh; first | rfl | exact .inl rfl | exact .inr rfl | (exfalso; (try dsimp only at hh); omega))))⟩

set_option maxHeartbeats 800000 in
theorem nset_0 (r : Nat) (inp tr outp : ByteArray) (rd : Int) (k0 n0 v0 k1 n1 v1 k2 n2 v2 k3 n3 v3 k4 n4 v4 k5 n5 v5 a b c : Int) (w : World) (hb : Blk w r [.int .i64 k0, .int .i64 n0, .int .i64 v0, .int .i64 k1, .int .i64 n1, .int .i64 v1, .int .i64 k2, .int .i64 n2, .int .i64 v2, .int .i64 k3, .int .i64 n3, .int .i64 v3, .int .i64 k4, .int .i64 n4, .int .i64 v4, .int .i64 k5, .int .i64 n5, .int .i64 v5, .string inp, .int .i64 rd, .string tr, .string outp] 142) :
    Calls Tryz.prog 145 #[.pointer (some ⟨r, 0, none⟩), .int .i64 0, .agg #[.int .i64 a, .int .i64 b, .int .i64 c]] w fun e w' => e = .returned (.tuple #[]) ∧ Blk w' r [.int .i64 a, .int .i64 b, .int .i64 c, .int .i64 k1, .int .i64 n1, .int .i64 v1, .int .i64 k2, .int .i64 n2, .int .i64 v2, .int .i64 k3, .int .i64 n3, .int .i64 v3, .int .i64 k4, .int .i64 n4, .int .i64 v4, .int .i64 k5, .int .i64 n5, .int .i64 v5, .string inp, .int .i64 rd, .string tr, .string outp] 142 ∧ Kp (· = r) w w' := by
  have hr := hb.lt
  go_enter Tryz.func145, Tryz.ntmps145
  go_wp2
  refine wp_gen (fun W => Blk W r [.int .i64 k0, .int .i64 n0, .int .i64 v0, .int .i64 k1, .int .i64 n1, .int .i64 v1, .int .i64 k2, .int .i64 n2, .int .i64 v2, .int .i64 k3, .int .i64 n3, .int .i64 v3, .int .i64 k4, .int .i64 n4, .int .i64 v4, .int .i64 k5, .int .i64 n5, .int .i64 v5, .string inp, .int .i64 rd, .string tr, .string outp] 142 ∧ Blk W w.heap.size [.int .i64 a, .int .i64 b, .int .i64 c] 89 ∧ Kp (· = r) w W) ⟨by (repeat' (first | ((with_reducible show (_ : List Value) = _); rfl) | with_reducible exact hb | ((with_reducible refine Blk.newAt _ _ _ ?_); first | with_reducible rfl | (simp; done)) | with_reducible refine Blk.alloc ?_ _ | with_reducible refine Blk.drewN ?_ _ | with_reducible refine Blk.drew ?_ | ((with_reducible refine Blk.other ?_ _ ?_); rotate_left; ((try dsimp only); omega)) | with_reducible refine Blk.setB (cs0 := ?_) ?_ ?_)), by (repeat' (first | ((with_reducible show (_ : List Value) = _); rfl) | ((with_reducible refine Blk.newAt _ _ _ ?_); first | with_reducible rfl | (simp; done)) | with_reducible refine Blk.alloc ?_ _ | with_reducible refine Blk.drewN ?_ _ | with_reducible refine Blk.drew ?_ | ((with_reducible refine Blk.other ?_ _ ?_); rotate_left; ((try dsimp only); omega)) | with_reducible refine Blk.setB (cs0 := ?_) ?_ ?_)), by (repeat' (first | with_reducible exact Kp.refl _ _ | with_reducible refine Kp.alloc ?_ _ | with_reducible refine Kp.drewN ?_ _ | with_reducible refine Kp.drew ?_ | with_reducible refine Kp.setCell ?_ _ ?_ | (intro hh; first | rfl | exact .inl rfl | exact .inr rfl | (exfalso; (try dsimp only at hh); omega))))⟩ ?_
  rintro W ⟨hbW, hL, kW⟩
  obtain ⟨c0, c1, c2, c3, c4, c5, c6, c7, c8, c9, c10, c11, c12, c13, c14, c15, c16, c17, c18, c19, c20, c21, cf⟩ := hbW.c22
  obtain ⟨l0, l1, l2, lf⟩ := hL.c3
  have hrW := hbW.lt
  have hlW := hL.lt
  clear hb c3 c4 c5 c6 c7 c8 c9 c10 c11 c12 c13 c14 c15 c16 c17 c18 c19 c20 c21
  go_region
  all_goals
    go_wp2
    go_end0
    exact ⟨rfl, by (repeat' (first | ((with_reducible show (_ : List Value) = _); rfl) | with_reducible exact hbW | ((with_reducible refine Blk.newAt _ _ _ ?_); first | with_reducible rfl | (simp; done)) | with_reducible refine Blk.alloc ?_ _ | with_reducible refine Blk.drewN ?_ _ | with_reducible refine Blk.drew ?_ | ((with_reducible refine Blk.other ?_ _ ?_); rotate_left; ((try dsimp only); omega)) | with_reducible refine Blk.setB (cs0 := ?_) ?_ ?_)), by (repeat' (first | with_reducible exact Kp.refl _ _ | with_reducible refine Kp.alloc ?_ _ | with_reducible refine Kp.drewN ?_ _ | with_reducible refine Kp.drew ?_ | with_reducible refine Kp.setCell ?_ _ ?_ | with_reducible refine Kp.trans ?_ kW (fun _ _ e => e) | (intro hh; first | rfl | exact .inl rfl | exact .inr rfl | (exfalso; (try dsimp only at hh); omega))))⟩

set_option maxHeartbeats 800000 in
theorem nset_1 (r : Nat) (inp tr outp : ByteArray) (rd : Int) (k0 n0 v0 k1 n1 v1 k2 n2 v2 k3 n3 v3 k4 n4 v4 k5 n5 v5 a b c : Int) (w : World) (hb : Blk w r [.int .i64 k0, .int .i64 n0, .int .i64 v0, .int .i64 k1, .int .i64 n1, .int .i64 v1, .int .i64 k2, .int .i64 n2, .int .i64 v2, .int .i64 k3, .int .i64 n3, .int .i64 v3, .int .i64 k4, .int .i64 n4, .int .i64 v4, .int .i64 k5, .int .i64 n5, .int .i64 v5, .string inp, .int .i64 rd, .string tr, .string outp] 142) :
    Calls Tryz.prog 145 #[.pointer (some ⟨r, 0, none⟩), .int .i64 1, .agg #[.int .i64 a, .int .i64 b, .int .i64 c]] w fun e w' => e = .returned (.tuple #[]) ∧ Blk w' r [.int .i64 k0, .int .i64 n0, .int .i64 v0, .int .i64 a, .int .i64 b, .int .i64 c, .int .i64 k2, .int .i64 n2, .int .i64 v2, .int .i64 k3, .int .i64 n3, .int .i64 v3, .int .i64 k4, .int .i64 n4, .int .i64 v4, .int .i64 k5, .int .i64 n5, .int .i64 v5, .string inp, .int .i64 rd, .string tr, .string outp] 142 ∧ Kp (· = r) w w' := by
  have hr := hb.lt
  go_enter Tryz.func145, Tryz.ntmps145
  go_wp2
  refine wp_gen (fun W => Blk W r [.int .i64 k0, .int .i64 n0, .int .i64 v0, .int .i64 k1, .int .i64 n1, .int .i64 v1, .int .i64 k2, .int .i64 n2, .int .i64 v2, .int .i64 k3, .int .i64 n3, .int .i64 v3, .int .i64 k4, .int .i64 n4, .int .i64 v4, .int .i64 k5, .int .i64 n5, .int .i64 v5, .string inp, .int .i64 rd, .string tr, .string outp] 142 ∧ Blk W w.heap.size [.int .i64 a, .int .i64 b, .int .i64 c] 89 ∧ Kp (· = r) w W) ⟨by (repeat' (first | ((with_reducible show (_ : List Value) = _); rfl) | with_reducible exact hb | ((with_reducible refine Blk.newAt _ _ _ ?_); first | with_reducible rfl | (simp; done)) | with_reducible refine Blk.alloc ?_ _ | with_reducible refine Blk.drewN ?_ _ | with_reducible refine Blk.drew ?_ | ((with_reducible refine Blk.other ?_ _ ?_); rotate_left; ((try dsimp only); omega)) | with_reducible refine Blk.setB (cs0 := ?_) ?_ ?_)), by (repeat' (first | ((with_reducible show (_ : List Value) = _); rfl) | ((with_reducible refine Blk.newAt _ _ _ ?_); first | with_reducible rfl | (simp; done)) | with_reducible refine Blk.alloc ?_ _ | with_reducible refine Blk.drewN ?_ _ | with_reducible refine Blk.drew ?_ | ((with_reducible refine Blk.other ?_ _ ?_); rotate_left; ((try dsimp only); omega)) | with_reducible refine Blk.setB (cs0 := ?_) ?_ ?_)), by (repeat' (first | with_reducible exact Kp.refl _ _ | with_reducible refine Kp.alloc ?_ _ | with_reducible refine Kp.drewN ?_ _ | with_reducible refine Kp.drew ?_ | with_reducible refine Kp.setCell ?_ _ ?_ | (intro hh; first | rfl | exact .inl rfl | exact .inr rfl | (exfalso; (try dsimp only at hh); omega))))⟩ ?_
  rintro W ⟨hbW, hL, kW⟩
  obtain ⟨c0, c1, c2, c3, c4, c5, c6, c7, c8, c9, c10, c11, c12, c13, c14, c15, c16, c17, c18, c19, c20, c21, cf⟩ := hbW.c22
  obtain ⟨l0, l1, l2, lf⟩ := hL.c3
  have hrW := hbW.lt
  have hlW := hL.lt
  clear hb c0 c1 c2 c6 c7 c8 c9 c10 c11 c12 c13 c14 c15 c16 c17 c18 c19 c20 c21
  go_region
  all_goals
    go_wp2
    go_end0
    exact ⟨rfl, by (repeat' (first | ((with_reducible show (_ : List Value) = _); rfl) | with_reducible exact hbW | ((with_reducible refine Blk.newAt _ _ _ ?_); first | with_reducible rfl | (simp; done)) | with_reducible refine Blk.alloc ?_ _ | with_reducible refine Blk.drewN ?_ _ | with_reducible refine Blk.drew ?_ | ((with_reducible refine Blk.other ?_ _ ?_); rotate_left; ((try dsimp only); omega)) | with_reducible refine Blk.setB (cs0 := ?_) ?_ ?_)), by (repeat' (first | with_reducible exact Kp.refl _ _ | with_reducible refine Kp.alloc ?_ _ | with_reducible refine Kp.drewN ?_ _ | with_reducible refine Kp.drew ?_ | with_reducible refine Kp.setCell ?_ _ ?_ | with_reducible refine Kp.trans ?_ kW (fun _ _ e => e) | (intro hh; first | rfl | exact .inl rfl | exact .inr rfl | (exfalso; (try dsimp only at hh); omega))))⟩

set_option maxHeartbeats 800000 in
theorem nset_2 (r : Nat) (inp tr outp : ByteArray) (rd : Int) (k0 n0 v0 k1 n1 v1 k2 n2 v2 k3 n3 v3 k4 n4 v4 k5 n5 v5 a b c : Int) (w : World) (hb : Blk w r [.int .i64 k0, .int .i64 n0, .int .i64 v0, .int .i64 k1, .int .i64 n1, .int .i64 v1, .int .i64 k2, .int .i64 n2, .int .i64 v2, .int .i64 k3, .int .i64 n3, .int .i64 v3, .int .i64 k4, .int .i64 n4, .int .i64 v4, .int .i64 k5, .int .i64 n5, .int .i64 v5, .string inp, .int .i64 rd, .string tr, .string outp] 142) :
    Calls Tryz.prog 145 #[.pointer (some ⟨r, 0, none⟩), .int .i64 2, .agg #[.int .i64 a, .int .i64 b, .int .i64 c]] w fun e w' => e = .returned (.tuple #[]) ∧ Blk w' r [.int .i64 k0, .int .i64 n0, .int .i64 v0, .int .i64 k1, .int .i64 n1, .int .i64 v1, .int .i64 a, .int .i64 b, .int .i64 c, .int .i64 k3, .int .i64 n3, .int .i64 v3, .int .i64 k4, .int .i64 n4, .int .i64 v4, .int .i64 k5, .int .i64 n5, .int .i64 v5, .string inp, .int .i64 rd, .string tr, .string outp] 142 ∧ Kp (· = r) w w' := by
  have hr := hb.lt
  go_enter Tryz.func145, Tryz.ntmps145
  go_wp2
  refine wp_gen (fun W => Blk W r [.int .i64 k0, .int .i64 n0, .int .i64 v0, .int .i64 k1, .int .i64 n1, .int .i64 v1, .int .i64 k2, .int .i64 n2, .int .i64 v2, .int .i64 k3, .int .i64 n3, .int .i64 v3, .int .i64 k4, .int .i64 n4, .int .i64 v4, .int .i64 k5, .int .i64 n5, .int .i64 v5, .string inp, .int .i64 rd, .string tr, .string outp] 142 ∧ Blk W w.heap.size [.int .i64 a, .int .i64 b, .int .i64 c] 89 ∧ Kp (· = r) w W) ⟨by (repeat' (first | ((with_reducible show (_ : List Value) = _); rfl) | with_reducible exact hb | ((with_reducible refine Blk.newAt _ _ _ ?_); first | with_reducible rfl | (simp; done)) | with_reducible refine Blk.alloc ?_ _ | with_reducible refine Blk.drewN ?_ _ | with_reducible refine Blk.drew ?_ | ((with_reducible refine Blk.other ?_ _ ?_); rotate_left; ((try dsimp only); omega)) | with_reducible refine Blk.setB (cs0 := ?_) ?_ ?_)), by (repeat' (first | ((with_reducible show (_ : List Value) = _); rfl) | ((with_reducible refine Blk.newAt _ _ _ ?_); first | with_reducible rfl | (simp; done)) | with_reducible refine Blk.alloc ?_ _ | with_reducible refine Blk.drewN ?_ _ | with_reducible refine Blk.drew ?_ | ((with_reducible refine Blk.other ?_ _ ?_); rotate_left; ((try dsimp only); omega)) | with_reducible refine Blk.setB (cs0 := ?_) ?_ ?_)), by (repeat' (first | with_reducible exact Kp.refl _ _ | with_reducible refine Kp.alloc ?_ _ | with_reducible refine Kp.drewN ?_ _ | with_reducible refine Kp.drew ?_ | with_reducible refine Kp.setCell ?_ _ ?_ | (intro hh; first | rfl | exact .inl rfl | exact .inr rfl | (exfalso; (try dsimp only at hh); omega))))⟩ ?_
  rintro W ⟨hbW, hL, kW⟩
  obtain ⟨c0, c1, c2, c3, c4, c5, c6, c7, c8, c9, c10, c11, c12, c13, c14, c15, c16, c17, c18, c19, c20, c21, cf⟩ := hbW.c22
  obtain ⟨l0, l1, l2, lf⟩ := hL.c3
  have hrW := hbW.lt
  have hlW := hL.lt
  clear hb c0 c1 c2 c3 c4 c5 c9 c10 c11 c12 c13 c14 c15 c16 c17 c18 c19 c20 c21
  go_region
  all_goals
    go_wp2
    go_end0
    exact ⟨rfl, by (repeat' (first | ((with_reducible show (_ : List Value) = _); rfl) | with_reducible exact hbW | ((with_reducible refine Blk.newAt _ _ _ ?_); first | with_reducible rfl | (simp; done)) | with_reducible refine Blk.alloc ?_ _ | with_reducible refine Blk.drewN ?_ _ | with_reducible refine Blk.drew ?_ | ((with_reducible refine Blk.other ?_ _ ?_); rotate_left; ((try dsimp only); omega)) | with_reducible refine Blk.setB (cs0 := ?_) ?_ ?_)), by (repeat' (first | with_reducible exact Kp.refl _ _ | with_reducible refine Kp.alloc ?_ _ | with_reducible refine Kp.drewN ?_ _ | with_reducible refine Kp.drew ?_ | with_reducible refine Kp.setCell ?_ _ ?_ | with_reducible refine Kp.trans ?_ kW (fun _ _ e => e) | (intro hh; first | rfl | exact .inl rfl | exact .inr rfl | (exfalso; (try dsimp only at hh); omega))))⟩

set_option maxHeartbeats 800000 in
theorem nset_3 (r : Nat) (inp tr outp : ByteArray) (rd : Int) (k0 n0 v0 k1 n1 v1 k2 n2 v2 k3 n3 v3 k4 n4 v4 k5 n5 v5 a b c : Int) (w : World) (hb : Blk w r [.int .i64 k0, .int .i64 n0, .int .i64 v0, .int .i64 k1, .int .i64 n1, .int .i64 v1, .int .i64 k2, .int .i64 n2, .int .i64 v2, .int .i64 k3, .int .i64 n3, .int .i64 v3, .int .i64 k4, .int .i64 n4, .int .i64 v4, .int .i64 k5, .int .i64 n5, .int .i64 v5, .string inp, .int .i64 rd, .string tr, .string outp] 142) :
    Calls Tryz.prog 145 #[.pointer (some ⟨r, 0, none⟩), .int .i64 3, .agg #[.int .i64 a, .int .i64 b, .int .i64 c]] w fun e w' => e = .returned (.tuple #[]) ∧ Blk w' r [.int .i64 k0, .int .i64 n0, .int .i64 v0, .int .i64 k1, .int .i64 n1, .int .i64 v1, .int .i64 k2, .int .i64 n2, .int .i64 v2, .int .i64 a, .int .i64 b, .int .i64 c, .int .i64 k4, .int .i64 n4, .int .i64 v4, .int .i64 k5, .int .i64 n5, .int .i64 v5, .string inp, .int .i64 rd, .string tr, .string outp] 142 ∧ Kp (· = r) w w' := by
  have hr := hb.lt
  go_enter Tryz.func145, Tryz.ntmps145
  go_wp2
  refine wp_gen (fun W => Blk W r [.int .i64 k0, .int .i64 n0, .int .i64 v0, .int .i64 k1, .int .i64 n1, .int .i64 v1, .int .i64 k2, .int .i64 n2, .int .i64 v2, .int .i64 k3, .int .i64 n3, .int .i64 v3, .int .i64 k4, .int .i64 n4, .int .i64 v4, .int .i64 k5, .int .i64 n5, .int .i64 v5, .string inp, .int .i64 rd, .string tr, .string outp] 142 ∧ Blk W w.heap.size [.int .i64 a, .int .i64 b, .int .i64 c] 89 ∧ Kp (· = r) w W) ⟨by (repeat' (first | ((with_reducible show (_ : List Value) = _); rfl) | with_reducible exact hb | ((with_reducible refine Blk.newAt _ _ _ ?_); first | with_reducible rfl | (simp; done)) | with_reducible refine Blk.alloc ?_ _ | with_reducible refine Blk.drewN ?_ _ | with_reducible refine Blk.drew ?_ | ((with_reducible refine Blk.other ?_ _ ?_); rotate_left; ((try dsimp only); omega)) | with_reducible refine Blk.setB (cs0 := ?_) ?_ ?_)), by (repeat' (first | ((with_reducible show (_ : List Value) = _); rfl) | ((with_reducible refine Blk.newAt _ _ _ ?_); first | with_reducible rfl | (simp; done)) | with_reducible refine Blk.alloc ?_ _ | with_reducible refine Blk.drewN ?_ _ | with_reducible refine Blk.drew ?_ | ((with_reducible refine Blk.other ?_ _ ?_); rotate_left; ((try dsimp only); omega)) | with_reducible refine Blk.setB (cs0 := ?_) ?_ ?_)), by (repeat' (first | with_reducible exact Kp.refl _ _ | with_reducible refine Kp.alloc ?_ _ | with_reducible refine Kp.drewN ?_ _ | with_reducible refine Kp.drew ?_ | with_reducible refine Kp.setCell ?_ _ ?_ | (intro hh; first | rfl | exact .inl rfl | exact .inr rfl | (exfalso; (try dsimp only at hh); omega))))⟩ ?_
  rintro W ⟨hbW, hL, kW⟩
  obtain ⟨c0, c1, c2, c3, c4, c5, c6, c7, c8, c9, c10, c11, c12, c13, c14, c15, c16, c17, c18, c19, c20, c21, cf⟩ := hbW.c22
  obtain ⟨l0, l1, l2, lf⟩ := hL.c3
  have hrW := hbW.lt
  have hlW := hL.lt
  clear hb c0 c1 c2 c3 c4 c5 c6 c7 c8 c12 c13 c14 c15 c16 c17 c18 c19 c20 c21
  go_region
  all_goals
    go_wp2
    go_end0
    exact ⟨rfl, by (repeat' (first | ((with_reducible show (_ : List Value) = _); rfl) | with_reducible exact hbW | ((with_reducible refine Blk.newAt _ _ _ ?_); first | with_reducible rfl | (simp; done)) | with_reducible refine Blk.alloc ?_ _ | with_reducible refine Blk.drewN ?_ _ | with_reducible refine Blk.drew ?_ | ((with_reducible refine Blk.other ?_ _ ?_); rotate_left; ((try dsimp only); omega)) | with_reducible refine Blk.setB (cs0 := ?_) ?_ ?_)), by (repeat' (first | with_reducible exact Kp.refl _ _ | with_reducible refine Kp.alloc ?_ _ | with_reducible refine Kp.drewN ?_ _ | with_reducible refine Kp.drew ?_ | with_reducible refine Kp.setCell ?_ _ ?_ | with_reducible refine Kp.trans ?_ kW (fun _ _ e => e) | (intro hh; first | rfl | exact .inl rfl | exact .inr rfl | (exfalso; (try dsimp only at hh); omega))))⟩

set_option maxHeartbeats 800000 in
theorem nset_4 (r : Nat) (inp tr outp : ByteArray) (rd : Int) (k0 n0 v0 k1 n1 v1 k2 n2 v2 k3 n3 v3 k4 n4 v4 k5 n5 v5 a b c : Int) (w : World) (hb : Blk w r [.int .i64 k0, .int .i64 n0, .int .i64 v0, .int .i64 k1, .int .i64 n1, .int .i64 v1, .int .i64 k2, .int .i64 n2, .int .i64 v2, .int .i64 k3, .int .i64 n3, .int .i64 v3, .int .i64 k4, .int .i64 n4, .int .i64 v4, .int .i64 k5, .int .i64 n5, .int .i64 v5, .string inp, .int .i64 rd, .string tr, .string outp] 142) :
    Calls Tryz.prog 145 #[.pointer (some ⟨r, 0, none⟩), .int .i64 4, .agg #[.int .i64 a, .int .i64 b, .int .i64 c]] w fun e w' => e = .returned (.tuple #[]) ∧ Blk w' r [.int .i64 k0, .int .i64 n0, .int .i64 v0, .int .i64 k1, .int .i64 n1, .int .i64 v1, .int .i64 k2, .int .i64 n2, .int .i64 v2, .int .i64 k3, .int .i64 n3, .int .i64 v3, .int .i64 a, .int .i64 b, .int .i64 c, .int .i64 k5, .int .i64 n5, .int .i64 v5, .string inp, .int .i64 rd, .string tr, .string outp] 142 ∧ Kp (· = r) w w' := by
  have hr := hb.lt
  go_enter Tryz.func145, Tryz.ntmps145
  go_wp2
  refine wp_gen (fun W => Blk W r [.int .i64 k0, .int .i64 n0, .int .i64 v0, .int .i64 k1, .int .i64 n1, .int .i64 v1, .int .i64 k2, .int .i64 n2, .int .i64 v2, .int .i64 k3, .int .i64 n3, .int .i64 v3, .int .i64 k4, .int .i64 n4, .int .i64 v4, .int .i64 k5, .int .i64 n5, .int .i64 v5, .string inp, .int .i64 rd, .string tr, .string outp] 142 ∧ Blk W w.heap.size [.int .i64 a, .int .i64 b, .int .i64 c] 89 ∧ Kp (· = r) w W) ⟨by (repeat' (first | ((with_reducible show (_ : List Value) = _); rfl) | with_reducible exact hb | ((with_reducible refine Blk.newAt _ _ _ ?_); first | with_reducible rfl | (simp; done)) | with_reducible refine Blk.alloc ?_ _ | with_reducible refine Blk.drewN ?_ _ | with_reducible refine Blk.drew ?_ | ((with_reducible refine Blk.other ?_ _ ?_); rotate_left; ((try dsimp only); omega)) | with_reducible refine Blk.setB (cs0 := ?_) ?_ ?_)), by (repeat' (first | ((with_reducible show (_ : List Value) = _); rfl) | ((with_reducible refine Blk.newAt _ _ _ ?_); first | with_reducible rfl | (simp; done)) | with_reducible refine Blk.alloc ?_ _ | with_reducible refine Blk.drewN ?_ _ | with_reducible refine Blk.drew ?_ | ((with_reducible refine Blk.other ?_ _ ?_); rotate_left; ((try dsimp only); omega)) | with_reducible refine Blk.setB (cs0 := ?_) ?_ ?_)), by (repeat' (first | with_reducible exact Kp.refl _ _ | with_reducible refine Kp.alloc ?_ _ | with_reducible refine Kp.drewN ?_ _ | with_reducible refine Kp.drew ?_ | with_reducible refine Kp.setCell ?_ _ ?_ | (intro hh; first | rfl | exact .inl rfl | exact .inr rfl | (exfalso; (try dsimp only at hh); omega))))⟩ ?_
  rintro W ⟨hbW, hL, kW⟩
  obtain ⟨c0, c1, c2, c3, c4, c5, c6, c7, c8, c9, c10, c11, c12, c13, c14, c15, c16, c17, c18, c19, c20, c21, cf⟩ := hbW.c22
  obtain ⟨l0, l1, l2, lf⟩ := hL.c3
  have hrW := hbW.lt
  have hlW := hL.lt
  clear hb c0 c1 c2 c3 c4 c5 c6 c7 c8 c9 c10 c11 c15 c16 c17 c18 c19 c20 c21
  go_region
  all_goals
    go_wp2
    go_end0
    exact ⟨rfl, by (repeat' (first | ((with_reducible show (_ : List Value) = _); rfl) | with_reducible exact hbW | ((with_reducible refine Blk.newAt _ _ _ ?_); first | with_reducible rfl | (simp; done)) | with_reducible refine Blk.alloc ?_ _ | with_reducible refine Blk.drewN ?_ _ | with_reducible refine Blk.drew ?_ | ((with_reducible refine Blk.other ?_ _ ?_); rotate_left; ((try dsimp only); omega)) | with_reducible refine Blk.setB (cs0 := ?_) ?_ ?_)), by (repeat' (first | with_reducible exact Kp.refl _ _ | with_reducible refine Kp.alloc ?_ _ | with_reducible refine Kp.drewN ?_ _ | with_reducible refine Kp.drew ?_ | with_reducible refine Kp.setCell ?_ _ ?_ | with_reducible refine Kp.trans ?_ kW (fun _ _ e => e) | (intro hh; first | rfl | exact .inl rfl | exact .inr rfl | (exfalso; (try dsimp only at hh); omega))))⟩

set_option maxHeartbeats 800000 in
theorem nset_5 (r : Nat) (inp tr outp : ByteArray) (rd : Int) (k0 n0 v0 k1 n1 v1 k2 n2 v2 k3 n3 v3 k4 n4 v4 k5 n5 v5 a b c : Int) (w : World) (hb : Blk w r [.int .i64 k0, .int .i64 n0, .int .i64 v0, .int .i64 k1, .int .i64 n1, .int .i64 v1, .int .i64 k2, .int .i64 n2, .int .i64 v2, .int .i64 k3, .int .i64 n3, .int .i64 v3, .int .i64 k4, .int .i64 n4, .int .i64 v4, .int .i64 k5, .int .i64 n5, .int .i64 v5, .string inp, .int .i64 rd, .string tr, .string outp] 142) :
    Calls Tryz.prog 145 #[.pointer (some ⟨r, 0, none⟩), .int .i64 5, .agg #[.int .i64 a, .int .i64 b, .int .i64 c]] w fun e w' => e = .returned (.tuple #[]) ∧ Blk w' r [.int .i64 k0, .int .i64 n0, .int .i64 v0, .int .i64 k1, .int .i64 n1, .int .i64 v1, .int .i64 k2, .int .i64 n2, .int .i64 v2, .int .i64 k3, .int .i64 n3, .int .i64 v3, .int .i64 k4, .int .i64 n4, .int .i64 v4, .int .i64 a, .int .i64 b, .int .i64 c, .string inp, .int .i64 rd, .string tr, .string outp] 142 ∧ Kp (· = r) w w' := by
  have hr := hb.lt
  go_enter Tryz.func145, Tryz.ntmps145
  go_wp2
  refine wp_gen (fun W => Blk W r [.int .i64 k0, .int .i64 n0, .int .i64 v0, .int .i64 k1, .int .i64 n1, .int .i64 v1, .int .i64 k2, .int .i64 n2, .int .i64 v2, .int .i64 k3, .int .i64 n3, .int .i64 v3, .int .i64 k4, .int .i64 n4, .int .i64 v4, .int .i64 k5, .int .i64 n5, .int .i64 v5, .string inp, .int .i64 rd, .string tr, .string outp] 142 ∧ Blk W w.heap.size [.int .i64 a, .int .i64 b, .int .i64 c] 89 ∧ Kp (· = r) w W) ⟨by (repeat' (first | ((with_reducible show (_ : List Value) = _); rfl) | with_reducible exact hb | ((with_reducible refine Blk.newAt _ _ _ ?_); first | with_reducible rfl | (simp; done)) | with_reducible refine Blk.alloc ?_ _ | with_reducible refine Blk.drewN ?_ _ | with_reducible refine Blk.drew ?_ | ((with_reducible refine Blk.other ?_ _ ?_); rotate_left; ((try dsimp only); omega)) | with_reducible refine Blk.setB (cs0 := ?_) ?_ ?_)), by (repeat' (first | ((with_reducible show (_ : List Value) = _); rfl) | ((with_reducible refine Blk.newAt _ _ _ ?_); first | with_reducible rfl | (simp; done)) | with_reducible refine Blk.alloc ?_ _ | with_reducible refine Blk.drewN ?_ _ | with_reducible refine Blk.drew ?_ | ((with_reducible refine Blk.other ?_ _ ?_); rotate_left; ((try dsimp only); omega)) | with_reducible refine Blk.setB (cs0 := ?_) ?_ ?_)), by (repeat' (first | with_reducible exact Kp.refl _ _ | with_reducible refine Kp.alloc ?_ _ | with_reducible refine Kp.drewN ?_ _ | with_reducible refine Kp.drew ?_ | with_reducible refine Kp.setCell ?_ _ ?_ | (intro hh; first | rfl | exact .inl rfl | exact .inr rfl | (exfalso; (try dsimp only at hh); omega))))⟩ ?_
  rintro W ⟨hbW, hL, kW⟩
  obtain ⟨c0, c1, c2, c3, c4, c5, c6, c7, c8, c9, c10, c11, c12, c13, c14, c15, c16, c17, c18, c19, c20, c21, cf⟩ := hbW.c22
  obtain ⟨l0, l1, l2, lf⟩ := hL.c3
  have hrW := hbW.lt
  have hlW := hL.lt
  clear hb c0 c1 c2 c3 c4 c5 c6 c7 c8 c9 c10 c11 c12 c13 c14 c18 c19 c20 c21
  go_region
  all_goals
    go_wp2
    go_end0
    exact ⟨rfl, by (repeat' (first | ((with_reducible show (_ : List Value) = _); rfl) | with_reducible exact hbW | ((with_reducible refine Blk.newAt _ _ _ ?_); first | with_reducible rfl | (simp; done)) | with_reducible refine Blk.alloc ?_ _ | with_reducible refine Blk.drewN ?_ _ | with_reducible refine Blk.drew ?_ | ((with_reducible refine Blk.other ?_ _ ?_); rotate_left; ((try dsimp only); omega)) | with_reducible refine Blk.setB (cs0 := ?_) ?_ ?_)), by (repeat' (first | with_reducible exact Kp.refl _ _ | with_reducible refine Kp.alloc ?_ _ | with_reducible refine Kp.drewN ?_ _ | with_reducible refine Kp.drew ?_ | with_reducible refine Kp.setCell ?_ _ ?_ | with_reducible refine Kp.trans ?_ kW (fun _ _ e => e) | (intro hh; first | rfl | exact .inl rfl | exact .inr rfl | (exfalso; (try dsimp only at hh); omega))))⟩

end Go.Proofs.YtellieabhaphhaaGreatDoor

/-
  narrow's run: what a node gives, which way it goes.
-/
namespace Go.Proofs.YtellieabhaphhaaGreatDoor
open Go.RowKit

theorem nvalueOf_c {w : World} {r : Nat} {inp : ByteArray} {m : Mc} (i : Nat) (u : Vl) (h : NB w r inp m) (hu : m.l[i]? = some u) :
    Calls Tryz.prog 142 #[.pointer (some ⟨r, 0, none⟩), .int .i64 i] w fun e w' => e = .returned (.agg #[.int .i64 (bit u.k), .int .i64 u.n, .int .i64 (bit u.v)]) ∧ Kp no w w' := by
  obtain ⟨hb, h6⟩ := h
  obtain ⟨l, rd, left, tr, outp, me⟩ := m
  dsimp only at *
  obtain ⟨a, b, c, d, e, f, rfl⟩ := six_of h6
  have hi := (List.getElem?_eq_some_iff.1 hu).1
  simp only [List.length_cons, List.length_nil] at hi
  rcases (show i = 0 ∨ i = 1 ∨ i = 2 ∨ i = 3 ∨ i = 4 ∨ i = 5 by omega) with rfl | rfl | rfl | rfl | rfl | rfl
  · have hu2 : a = u := by simpa using hu
    rw [← hu2]
    exact nvalueOf_0 r inp tr outp rd (bit a.k) a.n (bit a.v) (bit b.k) b.n (bit b.v) (bit c.k) c.n (bit c.v) (bit d.k) d.n (bit d.v) (bit e.k) e.n (bit e.v) (bit f.k) f.n (bit f.v) w hb
  · have hu2 : b = u := by simpa using hu
    rw [← hu2]
    exact nvalueOf_1 r inp tr outp rd (bit a.k) a.n (bit a.v) (bit b.k) b.n (bit b.v) (bit c.k) c.n (bit c.v) (bit d.k) d.n (bit d.v) (bit e.k) e.n (bit e.v) (bit f.k) f.n (bit f.v) w hb
  · have hu2 : c = u := by simpa using hu
    rw [← hu2]
    exact nvalueOf_2 r inp tr outp rd (bit a.k) a.n (bit a.v) (bit b.k) b.n (bit b.v) (bit c.k) c.n (bit c.v) (bit d.k) d.n (bit d.v) (bit e.k) e.n (bit e.v) (bit f.k) f.n (bit f.v) w hb
  · have hu2 : d = u := by simpa using hu
    rw [← hu2]
    exact nvalueOf_3 r inp tr outp rd (bit a.k) a.n (bit a.v) (bit b.k) b.n (bit b.v) (bit c.k) c.n (bit c.v) (bit d.k) d.n (bit d.v) (bit e.k) e.n (bit e.v) (bit f.k) f.n (bit f.v) w hb
  · have hu2 : e = u := by simpa using hu
    rw [← hu2]
    exact nvalueOf_4 r inp tr outp rd (bit a.k) a.n (bit a.v) (bit b.k) b.n (bit b.v) (bit c.k) c.n (bit c.v) (bit d.k) d.n (bit d.v) (bit e.k) e.n (bit e.v) (bit f.k) f.n (bit f.v) w hb
  · have hu2 : f = u := by simpa using hu
    rw [← hu2]
    exact nvalueOf_5 r inp tr outp rd (bit a.k) a.n (bit a.v) (bit b.k) b.n (bit b.v) (bit c.k) c.n (bit c.v) (bit d.k) d.n (bit d.v) (bit e.k) e.n (bit e.v) (bit f.k) f.n (bit f.v) w hb

theorem nset_c {w : World} {r : Nat} {inp : ByteArray} {m : Mc} (i : Nat) (u : Vl) (h : NB w r inp m) (hi : i < 6) :
    Calls Tryz.prog 145 #[.pointer (some ⟨r, 0, none⟩), .int .i64 i, .agg #[.int .i64 (bit u.k), .int .i64 u.n, .int .i64 (bit u.v)]] w fun e w' => e = .returned (.tuple #[]) ∧ NB w' r inp (putL m i u) ∧ Kp (· = r) w w' := by
  obtain ⟨hb, h6⟩ := h
  obtain ⟨l, rd, left, tr, outp, me⟩ := m
  dsimp only at *
  obtain ⟨a, b, c, d, e, f, rfl⟩ := six_of h6
  rcases (show i = 0 ∨ i = 1 ∨ i = 2 ∨ i = 3 ∨ i = 4 ∨ i = 5 by omega) with rfl | rfl | rfl | rfl | rfl | rfl
  · refine (nset_0 r inp tr outp rd (bit a.k) a.n (bit a.v) (bit b.k) b.n (bit b.v) (bit c.k) c.n (bit c.v) (bit d.k) d.n (bit d.v) (bit e.k) e.n (bit e.v) (bit f.k) f.n (bit f.v) (bit u.k) u.n (bit u.v) w hb).mono ?_
    rintro x w' ⟨rfl, hb', k'⟩
    exact ⟨rfl, ⟨hb', rfl⟩, k'⟩
  · refine (nset_1 r inp tr outp rd (bit a.k) a.n (bit a.v) (bit b.k) b.n (bit b.v) (bit c.k) c.n (bit c.v) (bit d.k) d.n (bit d.v) (bit e.k) e.n (bit e.v) (bit f.k) f.n (bit f.v) (bit u.k) u.n (bit u.v) w hb).mono ?_
    rintro x w' ⟨rfl, hb', k'⟩
    exact ⟨rfl, ⟨hb', rfl⟩, k'⟩
  · refine (nset_2 r inp tr outp rd (bit a.k) a.n (bit a.v) (bit b.k) b.n (bit b.v) (bit c.k) c.n (bit c.v) (bit d.k) d.n (bit d.v) (bit e.k) e.n (bit e.v) (bit f.k) f.n (bit f.v) (bit u.k) u.n (bit u.v) w hb).mono ?_
    rintro x w' ⟨rfl, hb', k'⟩
    exact ⟨rfl, ⟨hb', rfl⟩, k'⟩
  · refine (nset_3 r inp tr outp rd (bit a.k) a.n (bit a.v) (bit b.k) b.n (bit b.v) (bit c.k) c.n (bit c.v) (bit d.k) d.n (bit d.v) (bit e.k) e.n (bit e.v) (bit f.k) f.n (bit f.v) (bit u.k) u.n (bit u.v) w hb).mono ?_
    rintro x w' ⟨rfl, hb', k'⟩
    exact ⟨rfl, ⟨hb', rfl⟩, k'⟩
  · refine (nset_4 r inp tr outp rd (bit a.k) a.n (bit a.v) (bit b.k) b.n (bit b.v) (bit c.k) c.n (bit c.v) (bit d.k) d.n (bit d.v) (bit e.k) e.n (bit e.v) (bit f.k) f.n (bit f.v) (bit u.k) u.n (bit u.v) w hb).mono ?_
    rintro x w' ⟨rfl, hb', k'⟩
    exact ⟨rfl, ⟨hb', rfl⟩, k'⟩
  · refine (nset_5 r inp tr outp rd (bit a.k) a.n (bit a.v) (bit b.k) b.n (bit b.v) (bit c.k) c.n (bit c.v) (bit d.k) d.n (bit d.v) (bit e.k) e.n (bit e.v) (bit f.k) f.n (bit f.v) (bit u.k) u.n (bit u.v) w hb).mono ?_
    rintro x w' ⟨rfl, hb', k'⟩
    exact ⟨rfl, ⟨hb', rfl⟩, k'⟩

set_option maxHeartbeats 1600000 in
theorem nnext_at (r : Nat) (inp tr outp : ByteArray) (rd : Nat) (k0 n0 v0 k1 n1 v1 k2 n2 v2 k3 n3 v3 k4 n4 v4 k5 n5 v5 : Int) (w : World) (hi : inp.size ≤ 40) (hb : Blk w r [.int .i64 k0, .int .i64 n0, .int .i64 v0, .int .i64 k1, .int .i64 n1, .int .i64 v1, .int .i64 k2, .int .i64 n2, .int .i64 v2, .int .i64 k3, .int .i64 n3, .int .i64 v3, .int .i64 k4, .int .i64 n4, .int .i64 v4, .int .i64 k5, .int .i64 n5, .int .i64 v5, .string inp, .int .i64 rd, .string tr, .string outp] 142) :
    Calls Tryz.prog 144 #[.pointer (some ⟨r, 0, none⟩)] w fun e w' => (rd < inp.size → e = .returned (.agg (inVal (pk inp rd)).nc.toArray) ∧ Blk w' r [.int .i64 k0, .int .i64 n0, .int .i64 v0, .int .i64 k1, .int .i64 n1, .int .i64 v1, .int .i64 k2, .int .i64 n2, .int .i64 v2, .int .i64 k3, .int .i64 n3, .int .i64 v3, .int .i64 k4, .int .i64 n4, .int .i64 v4, .int .i64 k5, .int .i64 n5, .int .i64 v5, .string inp, .int .i64 (rd + 1 : Nat), .string tr, .string outp] 142) ∧ (¬ rd < inp.size → e = .returned (.agg (inVal 90).nc.toArray) ∧ Blk w' r [.int .i64 k0, .int .i64 n0, .int .i64 v0, .int .i64 k1, .int .i64 n1, .int .i64 v1, .int .i64 k2, .int .i64 n2, .int .i64 v2, .int .i64 k3, .int .i64 n3, .int .i64 v3, .int .i64 k4, .int .i64 n4, .int .i64 v4, .int .i64 k5, .int .i64 n5, .int .i64 v5, .string inp, .int .i64 rd, .string tr, .string outp] 142) ∧ Kp (· = r) w w' := by
  have hr := hb.lt
  by_cases hlt : rd < inp.size
  · have HP := hide (show pk inp rd = (inp[rd]'hlt).toNat by simp [pk, hlt])
    have HI := hide (fun W => ninputValue_c (pk inp rd) (pk_lt inp rd) W)
    have hpl := pk_lt inp rd
    have HV : Hid ((inVal (pk inp rd)).nc = [.int .i64 (bit (inVal (pk inp rd)).k), .int .i64 (inVal (pk inp rd)).n, .int .i64 (bit (inVal (pk inp rd)).v)]) := rfl
    unfold Vl.nc at HI
    generalize bit (inVal (pk inp rd)).k = ik at HI HV
    generalize (inVal (pk inp rd)).n = inn at HI HV
    generalize bit (inVal (pk inp rd)).v = iv at HI HV
    rw [HP.out] at HI hpl
    go_enter Tryz.func144, Tryz.ntmps144
    go_wp2
    refine wp_gen (fun W => Blk W r [.int .i64 k0, .int .i64 n0, .int .i64 v0, .int .i64 k1, .int .i64 n1, .int .i64 v1, .int .i64 k2, .int .i64 n2, .int .i64 v2, .int .i64 k3, .int .i64 n3, .int .i64 v3, .int .i64 k4, .int .i64 n4, .int .i64 v4, .int .i64 k5, .int .i64 n5, .int .i64 v5, .string inp, .int .i64 rd, .string tr, .string outp] 142 ∧ Blk W w.heap.size [.int .i64 0, .int .i64 0, .int .i64 0] 89 ∧ Kp (· = r) w W) ⟨by (repeat' (first | ((with_reducible show (_ : List Value) = _); rfl) | with_reducible exact hb | ((with_reducible refine Blk.newAt _ _ _ ?_); first | with_reducible rfl | (simp; done)) | with_reducible refine Blk.alloc ?_ _ | with_reducible refine Blk.drewN ?_ _ | with_reducible refine Blk.drew ?_ | ((with_reducible refine Blk.other ?_ _ ?_); rotate_left; ((try dsimp only); omega)) | with_reducible refine Blk.setB (cs0 := ?_) ?_ ?_)), by (repeat' (first | ((with_reducible show (_ : List Value) = _); rfl) | ((with_reducible refine Blk.newAt _ _ _ ?_); first | with_reducible rfl | (simp; done)) | with_reducible refine Blk.alloc ?_ _ | with_reducible refine Blk.drewN ?_ _ | with_reducible refine Blk.drew ?_ | ((with_reducible refine Blk.other ?_ _ ?_); rotate_left; ((try dsimp only); omega)) | with_reducible refine Blk.setB (cs0 := ?_) ?_ ?_)), by (repeat' (first | with_reducible exact Kp.refl _ _ | with_reducible refine Kp.alloc ?_ _ | with_reducible refine Kp.drewN ?_ _ | with_reducible refine Kp.drew ?_ | with_reducible refine Kp.setCell ?_ _ ?_ | (intro hh; first | rfl | exact .inl rfl | exact .inr rfl | (exfalso; (try dsimp only at hh); omega))))⟩ ?_
    rintro W ⟨hbW, hL, kW⟩
    obtain ⟨c0, c1, c2, c3, c4, c5, c6, c7, c8, c9, c10, c11, c12, c13, c14, c15, c16, c17, c18, c19, c20, c21, cf⟩ := hbW.c22
    clear c0 c1 c2 c3 c4 c5 c6 c7 c8 c9 c10 c11 c12 c13 c14 c15 c16 c17
    have hrW := hbW.lt
    have hLl := hL.lt
    go_quiet (fail)
    go_wp2
    go_quiet (fail)
    go_wp2_with fail
    refine (HI.out _).mono ?_
    rintro e w2 ⟨rfl, kp2⟩
    have hL2 : Blk w2 w.heap.size [.int .i64 0, .int .i64 0, .int .i64 0] 89 := kp2.blk (by (repeat' (first | ((with_reducible show (_ : List Value) = _); rfl) | with_reducible exact hL | ((with_reducible refine Blk.newAt _ _ _ ?_); first | with_reducible rfl | (simp; done)) | with_reducible refine Blk.alloc ?_ _ | with_reducible refine Blk.drewN ?_ _ | with_reducible refine Blk.drew ?_ | ((with_reducible refine Blk.other ?_ _ ?_); rotate_left; ((try dsimp only); omega)) | with_reducible refine Blk.setB (cs0 := ?_) ?_ ?_))) no_elim
    have hb2 : Blk w2 r [.int .i64 k0, .int .i64 n0, .int .i64 v0, .int .i64 k1, .int .i64 n1, .int .i64 v1, .int .i64 k2, .int .i64 n2, .int .i64 v2, .int .i64 k3, .int .i64 n3, .int .i64 v3, .int .i64 k4, .int .i64 n4, .int .i64 v4, .int .i64 k5, .int .i64 n5, .int .i64 v5, .string inp, .int .i64 ((rd : Int) + 1), .string tr, .string outp] 142 := kp2.blk (by (repeat' (first | ((with_reducible show (_ : List Value) = _); rfl) | with_reducible exact hbW | ((with_reducible refine Blk.newAt _ _ _ ?_); first | with_reducible rfl | (simp; done)) | with_reducible refine Blk.alloc ?_ _ | with_reducible refine Blk.drewN ?_ _ | with_reducible refine Blk.drew ?_ | ((with_reducible refine Blk.other ?_ _ ?_); rotate_left; ((try dsimp only); omega)) | with_reducible refine Blk.setB (cs0 := ?_) ?_ ?_))) no_elim
    have K2 := kp2.mono (S' := (· = r)) (fun _ e => False.elim e)
    obtain ⟨z0, z1, z2, zf⟩ := hL2.c3
    have hz := hL2.lt
    go_wp2
    refine body_agg (Tb := 89) (b := w.heap.size) (cs := [.int .i64 ik, .int .i64 inn, .int .i64 iv]) (.inr rfl) Tryz.results144 rfl rfl (by (repeat' (first | ((with_reducible show (_ : List Value) = _); rfl) | with_reducible exact hL2 | ((with_reducible refine Blk.newAt _ _ _ ?_); first | with_reducible rfl | (simp; done)) | with_reducible refine Blk.alloc ?_ _ | with_reducible refine Blk.drewN ?_ _ | with_reducible refine Blk.drew ?_ | ((with_reducible refine Blk.other ?_ _ ?_); rotate_left; ((try dsimp only); omega)) | with_reducible refine Blk.setB (cs0 := ?_) ?_ ?_))) Tryz.underlying89 rfl (by kernel_rfl) ?_
    rw [HV.out]
    exact ⟨fun _ => ⟨rfl, by push_cast; (repeat' (first | ((with_reducible show (_ : List Value) = _); rfl) | with_reducible exact hb2 | ((with_reducible refine Blk.newAt _ _ _ ?_); first | with_reducible rfl | (simp; done)) | with_reducible refine Blk.alloc ?_ _ | with_reducible refine Blk.drewN ?_ _ | with_reducible refine Blk.drew ?_ | ((with_reducible refine Blk.other ?_ _ ?_); rotate_left; ((try dsimp only); omega)) | with_reducible refine Blk.setB (cs0 := ?_) ?_ ?_))⟩, fun h => absurd hlt h, by (repeat' (first | with_reducible exact Kp.refl _ _ | with_reducible refine Kp.alloc ?_ _ | with_reducible refine Kp.drewN ?_ _ | with_reducible refine Kp.drew ?_ | with_reducible refine Kp.setCell ?_ _ ?_ | with_reducible refine Kp.trans ?_ kW (fun _ _ e => e) | with_reducible refine Kp.trans ?_ K2 (fun _ _ e => e) | (intro hh; first | rfl | exact .inl rfl | exact .inr rfl | (exfalso; (try dsimp only at hh); omega))))⟩
  · have HV : Hid ((inVal 90).nc = [.int .i64 8, .int .i64 0, .int .i64 0]) := rfl
    go_enter Tryz.func144, Tryz.ntmps144
    go_wp2
    refine wp_gen (fun W => Blk W r [.int .i64 k0, .int .i64 n0, .int .i64 v0, .int .i64 k1, .int .i64 n1, .int .i64 v1, .int .i64 k2, .int .i64 n2, .int .i64 v2, .int .i64 k3, .int .i64 n3, .int .i64 v3, .int .i64 k4, .int .i64 n4, .int .i64 v4, .int .i64 k5, .int .i64 n5, .int .i64 v5, .string inp, .int .i64 rd, .string tr, .string outp] 142 ∧ Blk W w.heap.size [.int .i64 0, .int .i64 0, .int .i64 0] 89 ∧ Kp (· = r) w W) ⟨by (repeat' (first | ((with_reducible show (_ : List Value) = _); rfl) | with_reducible exact hb | ((with_reducible refine Blk.newAt _ _ _ ?_); first | with_reducible rfl | (simp; done)) | with_reducible refine Blk.alloc ?_ _ | with_reducible refine Blk.drewN ?_ _ | with_reducible refine Blk.drew ?_ | ((with_reducible refine Blk.other ?_ _ ?_); rotate_left; ((try dsimp only); omega)) | with_reducible refine Blk.setB (cs0 := ?_) ?_ ?_)), by (repeat' (first | ((with_reducible show (_ : List Value) = _); rfl) | ((with_reducible refine Blk.newAt _ _ _ ?_); first | with_reducible rfl | (simp; done)) | with_reducible refine Blk.alloc ?_ _ | with_reducible refine Blk.drewN ?_ _ | with_reducible refine Blk.drew ?_ | ((with_reducible refine Blk.other ?_ _ ?_); rotate_left; ((try dsimp only); omega)) | with_reducible refine Blk.setB (cs0 := ?_) ?_ ?_)), by (repeat' (first | with_reducible exact Kp.refl _ _ | with_reducible refine Kp.alloc ?_ _ | with_reducible refine Kp.drewN ?_ _ | with_reducible refine Kp.drew ?_ | with_reducible refine Kp.setCell ?_ _ ?_ | (intro hh; first | rfl | exact .inl rfl | exact .inr rfl | (exfalso; (try dsimp only at hh); omega))))⟩ ?_
    rintro W ⟨hbW, hL, kW⟩
    obtain ⟨c0, c1, c2, c3, c4, c5, c6, c7, c8, c9, c10, c11, c12, c13, c14, c15, c16, c17, c18, c19, c20, c21, cf⟩ := hbW.c22
    clear c0 c1 c2 c3 c4 c5 c6 c7 c8 c9 c10 c11 c12 c13 c14 c15 c16 c17
    have hrW := hbW.lt
    have hLl := hL.lt
    obtain ⟨z0, z1, z2, zf⟩ := hL.c3
    go_quiet (fail)
    go_wp2
    refine body_agg (Tb := 89) (b := w.heap.size) (cs := [.int .i64 8, .int .i64 0, .int .i64 0]) (.inr rfl) Tryz.results144 rfl rfl (by (repeat' (first | ((with_reducible show (_ : List Value) = _); rfl) | with_reducible exact hL | ((with_reducible refine Blk.newAt _ _ _ ?_); first | with_reducible rfl | (simp; done)) | with_reducible refine Blk.alloc ?_ _ | with_reducible refine Blk.drewN ?_ _ | with_reducible refine Blk.drew ?_ | ((with_reducible refine Blk.other ?_ _ ?_); rotate_left; ((try dsimp only); omega)) | with_reducible refine Blk.setB (cs0 := ?_) ?_ ?_))) Tryz.underlying89 rfl (by kernel_rfl) ?_
    rw [HV.out]
    exact ⟨fun h => absurd h hlt, fun _ => ⟨rfl, by (repeat' (first | ((with_reducible show (_ : List Value) = _); rfl) | with_reducible exact hbW | ((with_reducible refine Blk.newAt _ _ _ ?_); first | with_reducible rfl | (simp; done)) | with_reducible refine Blk.alloc ?_ _ | with_reducible refine Blk.drewN ?_ _ | with_reducible refine Blk.drew ?_ | ((with_reducible refine Blk.other ?_ _ ?_); rotate_left; ((try dsimp only); omega)) | with_reducible refine Blk.setB (cs0 := ?_) ?_ ?_))⟩, by (repeat' (first | with_reducible exact Kp.refl _ _ | with_reducible refine Kp.alloc ?_ _ | with_reducible refine Kp.drewN ?_ _ | with_reducible refine Kp.drew ?_ | with_reducible refine Kp.setCell ?_ _ ?_ | with_reducible refine Kp.trans ?_ kW (fun _ _ e => e) | (intro hh; first | rfl | exact .inl rfl | exact .inr rfl | (exfalso; (try dsimp only at hh); omega))))⟩

theorem nnext_c {w : World} {r : Nat} {inp : ByteArray} {m : Mc} (h : NB w r inp m) (hi : inp.size ≤ 40) :
    Calls Tryz.prog 144 #[.pointer (some ⟨r, 0, none⟩)] w fun e w' => e = .returned (.agg (nextF inp m).1.nc.toArray) ∧ NB w' r inp (nextF inp m).2 ∧ Kp (· = r) w w' := by
  obtain ⟨hb, h6⟩ := h
  obtain ⟨l, rd, left, tr, outp, me⟩ := m
  dsimp only at *
  obtain ⟨a, b, c, d, e, f, rfl⟩ := six_of h6
  refine (nnext_at r inp tr outp rd (bit a.k) a.n (bit a.v) (bit b.k) b.n (bit b.v) (bit c.k) c.n (bit c.v) (bit d.k) d.n (bit d.v) (bit e.k) e.n (bit e.v) (bit f.k) f.n (bit f.v) w hi hb).mono ?_
  rintro x w' ⟨h1, h2, k'⟩
  by_cases hlt : rd < inp.size
  · obtain ⟨rfl, hb'⟩ := h1 hlt
    rw [nextF, if_pos hlt]
    exact ⟨rfl, ⟨hb', rfl⟩, k'⟩
  · obtain ⟨rfl, hb'⟩ := h2 hlt
    rw [nextF, if_neg hlt]
    exact ⟨rfl, ⟨hb', rfl⟩, k'⟩

set_option maxHeartbeats 1600000 in
theorem ngiven_1 (tx : ByteArray) (nx ny nw ck cn ch kd yes nno yk yn yv wk wn wv : Int) (w : World) :
    Calls Tryz.prog 146 #[.agg #[.string tx, .int .i64 1, .int .i64 nx, .int .i64 ny, .int .i64 nw, .int .i64 ck, .int .i64 cn, .int .i64 ch, .int .i64 kd, .int .i64 yes, .int .i64 nno], .agg #[.int .i64 yk, .int .i64 yn, .int .i64 yv], .agg #[.int .i64 wk, .int .i64 wn, .int .i64 wv]] w fun e w' => e = .returned (.agg #[.int .i64 ck, .int .i64 cn, .int .i64 ch]) ∧ Kp no w w' := by
  go_enter Tryz.func146, Tryz.ntmps146
  go_wp2
  refine body_agg (Tb := 89) (b := w.heap.size + 3) (cs := [.int .i64 ck, .int .i64 cn, .int .i64 ch]) (.inr rfl) Tryz.results146 rfl rfl (by (repeat' (first | ((with_reducible show (_ : List Value) = _); rfl) | ((with_reducible refine Blk.newAt _ _ _ ?_); first | with_reducible rfl | (simp; done)) | with_reducible refine Blk.alloc ?_ _ | with_reducible refine Blk.drewN ?_ _ | with_reducible refine Blk.drew ?_ | ((with_reducible refine Blk.other ?_ _ ?_); rotate_left; ((try dsimp only); omega)) | with_reducible refine Blk.setB (cs0 := ?_) ?_ ?_))) Tryz.underlying89 rfl (by kernel_rfl) ?_
  exact ⟨rfl, by (repeat' (first | with_reducible exact Kp.refl _ _ | with_reducible refine Kp.alloc ?_ _ | with_reducible refine Kp.drewN ?_ _ | with_reducible refine Kp.drew ?_ | with_reducible refine Kp.setCell ?_ _ ?_ | (intro hh; first | rfl | exact .inl rfl | exact .inr rfl | (exfalso; (try dsimp only at hh); omega))))⟩

set_option maxHeartbeats 1600000 in
theorem ngiven_3 (tx : ByteArray) (nx ny nw ck cn ch kd yes nno yk yn yv wk wn wv : Int) (w : World) :
    Calls Tryz.prog 146 #[.agg #[.string tx, .int .i64 3, .int .i64 nx, .int .i64 ny, .int .i64 nw, .int .i64 ck, .int .i64 cn, .int .i64 ch, .int .i64 kd, .int .i64 yes, .int .i64 nno], .agg #[.int .i64 yk, .int .i64 yn, .int .i64 yv], .agg #[.int .i64 wk, .int .i64 wn, .int .i64 wv]] w fun e w' => e = .returned (.agg #[.int .i64 yk, .int .i64 yn, .int .i64 yv]) ∧ Kp no w w' := by
  go_enter Tryz.func146, Tryz.ntmps146
  go_wp2
  refine body_agg (Tb := 89) (b := w.heap.size + 3) (cs := [.int .i64 yk, .int .i64 yn, .int .i64 yv]) (.inr rfl) Tryz.results146 rfl rfl (by (repeat' (first | ((with_reducible show (_ : List Value) = _); rfl) | ((with_reducible refine Blk.newAt _ _ _ ?_); first | with_reducible rfl | (simp; done)) | with_reducible refine Blk.alloc ?_ _ | with_reducible refine Blk.drewN ?_ _ | with_reducible refine Blk.drew ?_ | ((with_reducible refine Blk.other ?_ _ ?_); rotate_left; ((try dsimp only); omega)) | with_reducible refine Blk.setB (cs0 := ?_) ?_ ?_))) Tryz.underlying89 rfl (by kernel_rfl) ?_
  exact ⟨rfl, by (repeat' (first | with_reducible exact Kp.refl _ _ | with_reducible refine Kp.alloc ?_ _ | with_reducible refine Kp.drewN ?_ _ | with_reducible refine Kp.drew ?_ | with_reducible refine Kp.setCell ?_ _ ?_ | (intro hh; first | rfl | exact .inl rfl | exact .inr rfl | (exfalso; (try dsimp only at hh); omega))))⟩

set_option maxHeartbeats 1600000 in
theorem ngiven_6 (tx : ByteArray) (nx ny nw ck cn ch kd yes nno yk yn yv wk wn wv : Int) (w : World) :
    Calls Tryz.prog 146 #[.agg #[.string tx, .int .i64 6, .int .i64 nx, .int .i64 ny, .int .i64 nw, .int .i64 ck, .int .i64 cn, .int .i64 ch, .int .i64 kd, .int .i64 yes, .int .i64 nno], .agg #[.int .i64 yk, .int .i64 yn, .int .i64 yv], .agg #[.int .i64 wk, .int .i64 wn, .int .i64 wv]] w fun e w' => e = .returned (.agg #[.int .i64 16, .int .i64 yn, .int .i64 0]) ∧ Kp no w w' := by
  go_enter Tryz.func146, Tryz.ntmps146
  go_wp2
  refine body_agg (Tb := 89) (b := w.heap.size + 3) (cs := [.int .i64 16, .int .i64 yn, .int .i64 0]) (.inr rfl) Tryz.results146 rfl rfl (by (repeat' (first | ((with_reducible show (_ : List Value) = _); rfl) | ((with_reducible refine Blk.newAt _ _ _ ?_); first | with_reducible rfl | (simp; done)) | with_reducible refine Blk.alloc ?_ _ | with_reducible refine Blk.drewN ?_ _ | with_reducible refine Blk.drew ?_ | ((with_reducible refine Blk.other ?_ _ ?_); rotate_left; ((try dsimp only); omega)) | with_reducible refine Blk.setB (cs0 := ?_) ?_ ?_))) Tryz.underlying89 rfl (by kernel_rfl) ?_
  exact ⟨rfl, by (repeat' (first | with_reducible exact Kp.refl _ _ | with_reducible refine Kp.alloc ?_ _ | with_reducible refine Kp.drewN ?_ _ | with_reducible refine Kp.drew ?_ | with_reducible refine Kp.setCell ?_ _ ?_ | (intro hh; first | rfl | exact .inl rfl | exact .inr rfl | (exfalso; (try dsimp only at hh); omega))))⟩

set_option maxHeartbeats 1600000 in
theorem ngiven_7 (tx : ByteArray) (nx ny nw ck cn ch kd yes nno yk yn yv wk wn wv : Int) (w : World) :
    Calls Tryz.prog 146 #[.agg #[.string tx, .int .i64 7, .int .i64 nx, .int .i64 ny, .int .i64 nw, .int .i64 ck, .int .i64 cn, .int .i64 ch, .int .i64 kd, .int .i64 yes, .int .i64 nno], .agg #[.int .i64 yk, .int .i64 yn, .int .i64 yv], .agg #[.int .i64 wk, .int .i64 wn, .int .i64 wv]] w fun e w' => e = .returned (.agg #[.int .i64 32, .int .i64 0, .int .i64 yk]) ∧ Kp no w w' := by
  go_enter Tryz.func146, Tryz.ntmps146
  go_wp2
  refine body_agg (Tb := 89) (b := w.heap.size + 3) (cs := [.int .i64 32, .int .i64 0, .int .i64 yk]) (.inr rfl) Tryz.results146 rfl rfl (by (repeat' (first | ((with_reducible show (_ : List Value) = _); rfl) | ((with_reducible refine Blk.newAt _ _ _ ?_); first | with_reducible rfl | (simp; done)) | with_reducible refine Blk.alloc ?_ _ | with_reducible refine Blk.drewN ?_ _ | with_reducible refine Blk.drew ?_ | ((with_reducible refine Blk.other ?_ _ ?_); rotate_left; ((try dsimp only); omega)) | with_reducible refine Blk.setB (cs0 := ?_) ?_ ?_))) Tryz.underlying89 rfl (by kernel_rfl) ?_
  exact ⟨rfl, by (repeat' (first | with_reducible exact Kp.refl _ _ | with_reducible refine Kp.alloc ?_ _ | with_reducible refine Kp.drewN ?_ _ | with_reducible refine Kp.drew ?_ | with_reducible refine Kp.setCell ?_ _ ?_ | (intro hh; first | rfl | exact .inl rfl | exact .inr rfl | (exfalso; (try dsimp only at hh); omega))))⟩

set_option maxHeartbeats 1600000 in
theorem ngiven_4 (tx : ByteArray) (nx ny nw ck cn ch kd yes nno yk yn yv wk wn wv : Int) (w : World) (h1 : 0 ≤ yn) (h2 : yn ≤ 999) (h3 : 0 ≤ wn) (h4 : wn ≤ 999) :
    Calls Tryz.prog 146 #[.agg #[.string tx, .int .i64 4, .int .i64 nx, .int .i64 ny, .int .i64 nw, .int .i64 ck, .int .i64 cn, .int .i64 ch, .int .i64 kd, .int .i64 yes, .int .i64 nno], .agg #[.int .i64 yk, .int .i64 yn, .int .i64 yv], .agg #[.int .i64 wk, .int .i64 wn, .int .i64 wv]] w fun e w' => e = .returned (.agg #[.int .i64 1, .int .i64 ((yn + wn) % 1000), .int .i64 0]) ∧ Kp no w w' := by
  have HC := hide (fun W => nsumOf_c yk yn yv wk wn wv W h1 h2 h3 h4)
  go_enter Tryz.func146, Tryz.ntmps146
  go_wp2_with fail
  refine (HC.out _).mono ?_
  rintro e w1 ⟨rfl, k1⟩
  have hR : Blk w1 (w.heap.size + 3) [.int .i64 0, .int .i64 0, .int .i64 0] 89 := k1.blk (by (repeat' (first | ((with_reducible show (_ : List Value) = _); rfl) | ((with_reducible refine Blk.newAt _ _ _ ?_); first | with_reducible rfl | (simp; done)) | with_reducible refine Blk.alloc ?_ _ | with_reducible refine Blk.drewN ?_ _ | with_reducible refine Blk.drew ?_ | ((with_reducible refine Blk.other ?_ _ ?_); rotate_left; ((try dsimp only); omega)) | with_reducible refine Blk.setB (cs0 := ?_) ?_ ?_))) no_elim
  obtain ⟨z0, z1, z2, zf⟩ := hR.c3
  have hz := hR.lt
  go_wp2
  refine body_agg (Tb := 89) (b := w.heap.size + 3) (cs := [.int .i64 1, .int .i64 ((yn + wn) % 1000), .int .i64 0]) (.inr rfl) Tryz.results146 rfl rfl (by (repeat' (first | ((with_reducible show (_ : List Value) = _); rfl) | with_reducible exact hR | ((with_reducible refine Blk.newAt _ _ _ ?_); first | with_reducible rfl | (simp; done)) | with_reducible refine Blk.alloc ?_ _ | with_reducible refine Blk.drewN ?_ _ | with_reducible refine Blk.drew ?_ | ((with_reducible refine Blk.other ?_ _ ?_); rotate_left; ((try dsimp only); omega)) | with_reducible refine Blk.setB (cs0 := ?_) ?_ ?_))) Tryz.underlying89 rfl (by kernel_rfl) ?_
  exact ⟨rfl, by (repeat' (first | with_reducible exact Kp.refl _ _ | with_reducible refine Kp.alloc ?_ _ | with_reducible refine Kp.drewN ?_ _ | with_reducible refine Kp.drew ?_ | with_reducible refine Kp.setCell ?_ _ ?_ | with_reducible refine Kp.trans ?_ k1 (fun _ _ e => e) | (intro hh; first | rfl | exact .inl rfl | exact .inr rfl | (exfalso; (try dsimp only at hh); omega))))⟩

set_option maxHeartbeats 1600000 in
theorem ngiven_5 (tx : ByteArray) (nx ny nw ck cn ch kd yes nno yk yn yv wk wn wv : Int) (w : World) :
    Calls Tryz.prog 146 #[.agg #[.string tx, .int .i64 5, .int .i64 nx, .int .i64 ny, .int .i64 nw, .int .i64 ck, .int .i64 cn, .int .i64 ch, .int .i64 kd, .int .i64 yes, .int .i64 nno], .agg #[.int .i64 yk, .int .i64 yn, .int .i64 yv], .agg #[.int .i64 wk, .int .i64 wn, .int .i64 wv]] w fun e w' => e = .returned (.agg #[.int .i64 (if yn < wn then 2 else 4), .int .i64 0, .int .i64 0]) ∧ Kp no w w' := by
  have HC := hide (fun W => nisBelow_c yk yn yv wk wn wv W)
  generalize (if yn < wn then (2 : Int) else 4) = q at *
  go_enter Tryz.func146, Tryz.ntmps146
  go_wp2_with fail
  refine (HC.out _).mono ?_
  rintro e w1 ⟨rfl, k1⟩
  have hR : Blk w1 (w.heap.size + 3) [.int .i64 0, .int .i64 0, .int .i64 0] 89 := k1.blk (by (repeat' (first | ((with_reducible show (_ : List Value) = _); rfl) | ((with_reducible refine Blk.newAt _ _ _ ?_); first | with_reducible rfl | (simp; done)) | with_reducible refine Blk.alloc ?_ _ | with_reducible refine Blk.drewN ?_ _ | with_reducible refine Blk.drew ?_ | ((with_reducible refine Blk.other ?_ _ ?_); rotate_left; ((try dsimp only); omega)) | with_reducible refine Blk.setB (cs0 := ?_) ?_ ?_))) no_elim
  obtain ⟨z0, z1, z2, zf⟩ := hR.c3
  have hz := hR.lt
  go_wp2
  refine body_agg (Tb := 89) (b := w.heap.size + 3) (cs := [.int .i64 q, .int .i64 0, .int .i64 0]) (.inr rfl) Tryz.results146 rfl rfl (by (repeat' (first | ((with_reducible show (_ : List Value) = _); rfl) | with_reducible exact hR | ((with_reducible refine Blk.newAt _ _ _ ?_); first | with_reducible rfl | (simp; done)) | with_reducible refine Blk.alloc ?_ _ | with_reducible refine Blk.drewN ?_ _ | with_reducible refine Blk.drew ?_ | ((with_reducible refine Blk.other ?_ _ ?_); rotate_left; ((try dsimp only); omega)) | with_reducible refine Blk.setB (cs0 := ?_) ?_ ?_))) Tryz.underlying89 rfl (by kernel_rfl) ?_
  exact ⟨rfl, by (repeat' (first | with_reducible exact Kp.refl _ _ | with_reducible refine Kp.alloc ?_ _ | with_reducible refine Kp.drewN ?_ _ | with_reducible refine Kp.drew ?_ | with_reducible refine Kp.setCell ?_ _ ?_ | with_reducible refine Kp.trans ?_ k1 (fun _ _ e => e) | (intro hh; first | rfl | exact .inl rfl | exact .inr rfl | (exfalso; (try dsimp only at hh); omega))))⟩

set_option maxHeartbeats 1600000 in
theorem ngiven_8 (tx : ByteArray) (nx ny nw ck cn ch kd yes nno yk yn yv wk wn wv : Int) (w : World) :
    Calls Tryz.prog 146 #[.agg #[.string tx, .int .i64 8, .int .i64 nx, .int .i64 ny, .int .i64 nw, .int .i64 ck, .int .i64 cn, .int .i64 ch, .int .i64 kd, .int .i64 yes, .int .i64 nno], .agg #[.int .i64 yk, .int .i64 yn, .int .i64 yv], .agg #[.int .i64 wk, .int .i64 wn, .int .i64 wv]] w fun e w' => e = .returned (.agg #[.int .i64 (if yk = 16 then 1 else yv), .int .i64 (if yk = 16 then yn else 0), .int .i64 0]) ∧ Kp no w w' := by
  have HC := hide (fun W => nheldBy_c yk yn yv W)
  generalize (if yk = 16 then (1 : Int) else yv) = q at *
  generalize (if yk = 16 then yn else (0 : Int)) = q2 at *
  go_enter Tryz.func146, Tryz.ntmps146
  go_wp2_with fail
  refine (HC.out _).mono ?_
  rintro e w1 ⟨rfl, k1⟩
  have hR : Blk w1 (w.heap.size + 3) [.int .i64 0, .int .i64 0, .int .i64 0] 89 := k1.blk (by (repeat' (first | ((with_reducible show (_ : List Value) = _); rfl) | ((with_reducible refine Blk.newAt _ _ _ ?_); first | with_reducible rfl | (simp; done)) | with_reducible refine Blk.alloc ?_ _ | with_reducible refine Blk.drewN ?_ _ | with_reducible refine Blk.drew ?_ | ((with_reducible refine Blk.other ?_ _ ?_); rotate_left; ((try dsimp only); omega)) | with_reducible refine Blk.setB (cs0 := ?_) ?_ ?_))) no_elim
  obtain ⟨z0, z1, z2, zf⟩ := hR.c3
  have hz := hR.lt
  go_wp2
  refine body_agg (Tb := 89) (b := w.heap.size + 3) (cs := [.int .i64 q, .int .i64 q2, .int .i64 0]) (.inr rfl) Tryz.results146 rfl rfl (by (repeat' (first | ((with_reducible show (_ : List Value) = _); rfl) | with_reducible exact hR | ((with_reducible refine Blk.newAt _ _ _ ?_); first | with_reducible rfl | (simp; done)) | with_reducible refine Blk.alloc ?_ _ | with_reducible refine Blk.drewN ?_ _ | with_reducible refine Blk.drew ?_ | ((with_reducible refine Blk.other ?_ _ ?_); rotate_left; ((try dsimp only); omega)) | with_reducible refine Blk.setB (cs0 := ?_) ?_ ?_))) Tryz.underlying89 rfl (by kernel_rfl) ?_
  exact ⟨rfl, by (repeat' (first | with_reducible exact Kp.refl _ _ | with_reducible refine Kp.alloc ?_ _ | with_reducible refine Kp.drewN ?_ _ | with_reducible refine Kp.drew ?_ | with_reducible refine Kp.setCell ?_ _ ?_ | with_reducible refine Kp.trans ?_ k1 (fun _ _ e => e) | (intro hh; first | rfl | exact .inl rfl | exact .inr rfl | (exfalso; (try dsimp only at hh); omega))))⟩

set_option maxHeartbeats 1600000 in
theorem nholds_c (tx : ByteArray) (act nx ny nw ck cn ch kd yes nno yk yn yv : Int) (w : World) :
    Calls Tryz.prog 147 #[.agg #[.string tx, .int .i64 act, .int .i64 nx, .int .i64 ny, .int .i64 nw, .int .i64 ck, .int .i64 cn, .int .i64 ch, .int .i64 kd, .int .i64 yes, .int .i64 nno], .agg #[.int .i64 yk, .int .i64 yn, .int .i64 yv]] w fun e w' => e = .returned (.bool (if act = 12 then (yk != 4 && yk != 8 && (yk != 1 || yn != 0)) else if act = 13 then yk == kd else true)) ∧ Kp no w w' := by
  by_cases h12 : act = 12
  · subst h12
    rw [if_pos rfl]
    have HT := hide (fun W => ntakenAsTrue_c yk yn yv W)
    generalize (yk != 4 && yk != 8 && (yk != 1 || yn != 0)) = q at *
    go_enter Tryz.func147, Tryz.ntmps147
    go_wp2_with fail
    refine (HT.out _).mono ?_
    rintro e w1 ⟨rfl, k1⟩
    go_wp2
    go_ret
    exact ⟨rfl, by (repeat' (first | with_reducible exact Kp.refl _ _ | with_reducible refine Kp.alloc ?_ _ | with_reducible refine Kp.drewN ?_ _ | with_reducible refine Kp.drew ?_ | with_reducible refine Kp.setCell ?_ _ ?_ | with_reducible refine Kp.trans ?_ k1 (fun _ _ e => e) | (intro hh; first | rfl | exact .inl rfl | exact .inr rfl | (exfalso; (try dsimp only at hh); omega))))⟩
  by_cases h13 : act = 13
  · subst h13
    rw [if_neg (by decide), if_pos rfl]
    go_enter Tryz.func147, Tryz.ntmps147
    go_wp2
    go_ret
    exact ⟨rfl, by (repeat' (first | with_reducible exact Kp.refl _ _ | with_reducible refine Kp.alloc ?_ _ | with_reducible refine Kp.drewN ?_ _ | with_reducible refine Kp.drew ?_ | with_reducible refine Kp.setCell ?_ _ ?_ | (intro hh; first | rfl | exact .inl rfl | exact .inr rfl | (exfalso; (try dsimp only at hh); omega))))⟩
  · rw [if_neg h12, if_neg h13]
    have f12 : (act == 12) = false := by simp [h12]
    have f13 : (act == 13) = false := by simp [h13]
    go_enter Tryz.func147, Tryz.ntmps147
    go_wp2
    go_ret
    exact ⟨rfl, by (repeat' (first | with_reducible exact Kp.refl _ _ | with_reducible refine Kp.alloc ?_ _ | with_reducible refine Kp.drewN ?_ _ | with_reducible refine Kp.drew ?_ | with_reducible refine Kp.setCell ?_ _ ?_ | (intro hh; first | rfl | exact .inl rfl | exact .inr rfl | (exfalso; (try dsimp only at hh); omega))))⟩

end Go.Proofs.YtellieabhaphhaaGreatDoor
