import Derived.Test.YtellieabhaphhabGreatDoorPPrunedH
/-
  Plain: the least table is at rest; its text.
-/
namespace Go.Proofs.YtellieabhaphhabGreatDoor
open Go.RowKit

theorem it_flag (l : List Nd) (T : Tbl) (hT : TOk T) : ∀ j, (∃ i, i < j ∧ (swpF l 0 (itF l i T)).2 = false) ∨ j ≤ mT (itF l j T)
  | 0 => .inr (Nat.zero_le _)
  | j + 1 => by
    rcases it_flag l T hT j with ⟨i, h1, h2⟩ | h
    · exact .inl ⟨i, by omega, h2⟩
    · cases hf : (swpF l 0 (itF l j T)).2
      · exact .inl ⟨j, Nat.lt_succ_self _, hf⟩
      · refine .inr ?_
        have := (swp_le (l := l) (i := 0) (TOk.it (l := l) (k := j) hT)).2 hf
        rw [it_succ]
        omega

theorem lst_rest (l : List Nd) (hl : l.length ≤ 90) : (swpF l 0 (lstF l)).2 = false := by
  rw [lst_tN]
  rcases it_flag l (tN l.length) (tN_ok _) 4000 with ⟨i, h1, h2⟩ | h
  · rw [it_rest l _ i (swp_same h2) 4000 (by omega)]
    exact h2
  · have h2 := mT_le (TOk.it (l := l) (k := 4000) (tN_ok l.length))
    rw [it_len, tN_len] at h2
    omega

theorem swp_pas : ∀ (l : List Nd) (i : Nat) (T : Tbl), (swpF l i T).2 = false → ∀ k nd, l[k]? = some nd → (pasF nd (i + k) T).2 = false
  | [], _, _, _, k, nd, h => by simp at h
  | n :: l, i, T, h, k, nd, hk => by
    rw [swpF, Bool.or_eq_false_iff] at h
    cases k with
    | zero =>
      obtain rfl : n = nd := by simpa using hk
      exact h.1
    | succ k =>
      have h2 := h.2
      rw [pas_same h.1] at h2
      have := swp_pas l (i + 1) T h2 k nd (by simpa using hk)
      rw [show i + (k + 1) = i + 1 + k by omega]
      exact this

theorem or_and {a b : Nat} (h : a ||| b = a) : b &&& a = b := by
  apply Nat.eq_of_testBit_eq
  intro i
  have := congrArg (fun x => x.testBit i) h
  simp only [Nat.testBit_or] at this
  rw [Nat.testBit_and]
  cases ha : a.testBit i <;> cases hb : b.testBit i <;> simp [ha, hb] at this ⊢

theorem zip_get (a b : St) (v : Nat) (ha : v < a.length) (hb : v < b.length) : (List.zipWith (· ||| ·) a b).getD v 0 = a.getD v 0 ||| b.getD v 0 := by
  rw [List.getD_eq_getElem?_getD, List.getD_eq_getElem?_getD, List.getD_eq_getElem?_getD, List.getElem?_zipWith, List.getElem?_eq_getElem ha, List.getElem?_eq_getElem hb]
  rfl

theorem into_rch {T : Tbl} {j : Int} {s : St} (hT : TOk T) (hs : SOk s) (h : (intoF T j s).2 = false) : Rch T j s := by
  unfold intoF at h
  split at h
  · rename_i hc
    dsimp only at h
    unfold joinR at h
    split at h
    · rename_i h0; exact .inr (.inr (.inl h0))
    · rename_i h0
      split at h
      · cases h
      · rename_i h1
        have e : List.zipWith (· ||| ·) (T.getD j.toNat []) s = T.getD j.toNat [] := by simpa using h
        have l1 := ((hT.get j.toNat).resolve_left h1).1
        have l2 := (hs.resolve_left h0).1
        refine .inr (.inr (.inr (.inr ⟨l2, l1, fun v hv => ?_⟩)))
        have := zip_get (T.getD j.toNat []) s v (by omega) (by omega)
        rw [e] at this
        exact or_and this.symm
  · rename_i hc
    unfold Rch
    omega

theorem lst_keeps (l : List Nd) (hl : l.length ≤ 90) (i : Nat) (nd : Nd) (h : l[i]? = some nd) : Keeps nd (lstF l) ((lstF l).getD i []) := by
  have hp := swp_pas l 0 (lstF l) (lst_rest l hl) i nd h
  rw [Nat.zero_add] at hp
  have ok := lst_ok l
  generalize lstF l = T at *
  unfold pasF at hp
  split at hp
  · rename_i h0; exact .inl h0
  · rename_i h0
    refine .inr ⟨fun ht => ?_, fun ht => ?_⟩
    · rw [if_neg ht] at hp
      exact into_rch ok ((ok.get i).beh nd) hp
    · rw [if_pos ht, Bool.or_eq_false_iff] at hp
      have h2 := hp.2
      rw [into_same hp.1] at h2
      exact ⟨into_rch ok ((ok.get i).hld nd true) hp.1, into_rch ok ((ok.get i).hld nd false) h2⟩

-- the first state stays
theorem SubS.join {s a : St} (b : St) (hs : s ≠ []) (h : SubS s a) (hb : SOk b) : SubS s (joinR a b).1 := by
  rcases h with h | ⟨h1, h2, h3⟩
  · exact absurd h hs
  · unfold joinR
    split
    · exact .inr ⟨h1, h2, h3⟩
    · rename_i hb0
      rw [if_neg (fun e => by rw [e] at h2; cases h2)]
      have l2 := (hb.resolve_left hb0).1
      refine .inr ⟨h1, by simp [List.length_zipWith, h2, l2], fun v hv => ?_⟩
      show s.getD v 0 &&& (List.zipWith (· ||| ·) a b).getD v 0 = _
      rw [zip_get a b v (by omega) (by omega), Nat.and_or_distrib_left, h3 v hv]
      apply Nat.eq_of_testBit_eq
      intro i
      rw [Nat.testBit_or, Nat.testBit_and]
      cases (s.getD v 0).testBit i <;> simp

theorem sub_into {T : Tbl} {s : St} (hs : s ≠ []) (h : SubS s (T.getD 0 [])) (i : Int) {b : St} (hb : SOk b) : SubS s ((intoF T i b).1.getD 0 []) := by
  unfold intoF
  split
  · rename_i hc
    by_cases h0 : i.toNat = 0
    · show SubS s ((T.set i.toNat _).getD 0 [])
      rw [h0, List.getD_eq_getElem?_getD, List.getElem?_set_self (by omega)]
      rw [h0] at *
      exact h.join b hs hb
    · show SubS s ((T.set i.toNat _).getD 0 [])
      rw [List.getD_eq_getElem?_getD, List.getElem?_set_ne (by omega), ← List.getD_eq_getElem?_getD]
      exact h
  · exact h

theorem sub_pas {T : Tbl} {s : St} (hs : s ≠ []) (hT : TOk T) (h : SubS s (T.getD 0 [])) (n : Nd) (i : Nat) : SubS s ((pasF n i T).1.getD 0 []) := by
  unfold pasF
  split
  · exact h
  · split
    · exact sub_into hs (sub_into hs h _ ((hT.get i).hld n true)) _ ((hT.get i).hld n false)
    · exact sub_into hs h _ ((hT.get i).beh n)

theorem sub_swp : ∀ (l : List Nd) (i : Nat) (T : Tbl) {s : St}, s ≠ [] → TOk T → SubS s (T.getD 0 []) → SubS s ((swpF l i T).1.getD 0 [])
  | [], _, _, _, _, _, h => h
  | n :: l, i, T, s, hs, hT, h => by
    rw [swpF]
    exact sub_swp l (i + 1) _ hs (hT.pas n i) (sub_pas hs hT h n i)

theorem sub_it (l : List Nd) : ∀ (k : Nat) (T : Tbl) {s : St}, s ≠ [] → TOk T → SubS s (T.getD 0 []) → SubS s ((itF l k T).getD 0 [])
  | 0, _, _, _, _, h => h
  | k + 1, T, s, hs, hT, h => by
    rw [itF]
    exact sub_it l k _ hs hT.swp (sub_swp l 0 T hs hT h)

theorem lst_start (l : List Nd) (h : l ≠ []) : Rch (lstF l) 0 [8, 8, 8, 8, 8, 8] := by
  refine .inr (.inr (.inr ?_))
  rw [lst_tN]
  refine sub_it l 4000 _ (by decide) (tN_ok _) ?_
  obtain ⟨n, l', rfl⟩ := List.exists_cons_of_ne_nil h
  exact .inr ⟨rfl, rfl, fun v _ => by show st0.getD v 0 &&& st0.getD v 0 = st0.getD v 0; exact Nat.and_self _⟩

-- the text
def flT (T : Tbl) : List UInt8 := T.flatMap (fun s => (txS s).data.toList ++ [59])

theorem spl_flat (T : Tbl) : (splB T).data.toList = flT T := by
  have key : ∀ (T : Tbl) (a : ByteArray), (T.foldl rowB a).data.toList = a.data.toList ++ flT T := by
    intro T
    induction T with
    | nil => intro a; simp [flT]
    | cons s T ih =>
      intro a
      rw [List.foldl_cons, ih, rowB_tx]
      simp [flT]
  exact (key T ⟨#[]⟩).trans (by simp)

theorem sg_mem {m : Nat} {c : UInt8} (h : c ∈ (sgB m).data.toList) : c ∈ KS := by
  have h' : c ∈ KS.filter (fun u => m.testBit (kix u.toNat)) := h
  exact (List.mem_filter.1 h').1

theorem stB_flat : ∀ (s : St) (a : ByteArray), (stB a s).data.toList = a.data.toList ++ s.flatMap (fun m => (sgB m).data.toList ++ [46])
  | [], a => by simp [stB]
  | m :: s, a => by
    show (stB (a ++ sgB m ++ ⟨#[46]⟩) s).data.toList = _
    rw [stB_flat s]
    simp

theorem tx_no (s : St) : ∀ c ∈ (txS s).data.toList, ¬ c = 59 := by
  intro c hc
  unfold txS at hc
  split at hc
  · obtain rfl : c = 63 := by simpa using hc
    decide
  · rw [stB_flat] at hc
    obtain ⟨m, _, h2⟩ := List.mem_flatMap.1 (show c ∈ s.flatMap (fun m => (sgB m).data.toList ++ [46]) by simpa using hc)
    rcases List.mem_append.1 h2 with h | h
    · have := sg_mem h
      intro e
      rw [e] at this
      exact absurd this (by decide)
    · obtain rfl : c = 46 := by simpa using h
      decide

theorem spl_size (T : Tbl) (h : TOk T) : (splB T).size ≤ 49 * T.length := by
  have e : (splB T).size = (flT T).length := by rw [← spl_flat]; rfl
  rw [e]
  clear e
  induction T with
  | nil => exact Nat.le_refl _
  | cons s T ih =>
    have h1 := txS_size s (h s (List.mem_cons_self ..))
    have h2 := ih (fun x hx => h x (List.mem_cons_of_mem _ hx))
    have e : (flT (s :: T)).length = (txS s).size + 1 + (flT T).length := by
      show ((s :: T).flatMap _).length = _
      rw [List.flatMap_cons, List.length_append, List.length_append]
      rfl
    rw [e, List.length_cons]
    omega

end Go.Proofs.YtellieabhaphhabGreatDoor

/-
  Plain: the least table lies within every table that obeys.
-/
namespace Go.Proofs.YtellieabhaphhabGreatDoor
open Go.RowKit

/-- The state s comes to no more than R says of place j (of n lines). -/
def RchR (n : Nat) (R : Nat → St) (j : Int) (s : St) : Prop := j < 0 ∨ (n : Int) ≤ j ∨ s = [] ∨ SubS s (R j.toNat)

def KeepsR (n : Nat) (nd : Nd) (R : Nat → St) (S : St) : Prop :=
  S = [] ∨ ((¬ (nd.op = 121 ∨ nd.op = 58) → RchR n R nd.t (behF nd S)) ∧ (nd.op = 121 ∨ nd.op = 58 → RchR n R nd.t (hldF nd true S) ∧ RchR n R nd.f (hldF nd false S)))

/-- R obeys the graph of the nodes l. -/
def ObR (l : List Nd) (R : Nat → St) : Prop := (l ≠ [] → SubS st0 (R 0)) ∧ ∀ i nd, l[i]? = some nd → KeepsR l.length nd R (R i)

theorem and_sub {a b : Nat} (k : Nat) (h : a &&& b = a) : (a &&& k) &&& (b &&& k) = a &&& k := by
  apply Nat.eq_of_testBit_eq
  intro i
  have := congrArg (fun z => z.testBit i) h
  simp only [Nat.testBit_and] at this ⊢
  revert this
  cases a.testBit i <;> cases b.testBit i <;> cases k.testBit i <;> simp

theorem sub_tr {a b c : Nat} (h : a &&& b = a) (k : b &&& c = b) : a &&& c = a := by
  apply Nat.eq_of_testBit_eq
  intro i
  have h1 := congrArg (fun z => z.testBit i) h
  have h2 := congrArg (fun z => z.testBit i) k
  simp only [Nat.testBit_and] at h1 h2 ⊢
  revert h1 h2
  cases a.testBit i <;> cases b.testBit i <;> cases c.testBit i <;> simp

theorem sub_or {a b c : Nat} (h : a &&& c = a) (k : b &&& c = b) : (a ||| b) &&& c = a ||| b := by
  apply Nat.eq_of_testBit_eq
  intro i
  have h1 := congrArg (fun z => z.testBit i) h
  have h2 := congrArg (fun z => z.testBit i) k
  simp only [Nat.testBit_and, Nat.testBit_or] at h1 h2 ⊢
  revert h1 h2
  cases a.testBit i <;> cases b.testBit i <;> cases c.testBit i <;> simp

theorem sub_bit {a b : Nat} (h : a &&& b = a) (i : Nat) (ha : a.testBit i = true) : b.testBit i = true := by
  have h1 := congrArg (fun z => z.testBit i) h
  simp only [Nat.testBit_and] at h1
  revert h1
  rw [ha]
  cases b.testBit i <;> simp

theorem SubS.nil_r {a : St} (h : SubS a []) : a = [] := by
  rcases h with h | ⟨_, h, _⟩
  · exact h
  · cases h

theorem SubS.trans {a b c : St} (h : SubS a b) (k : SubS b c) : SubS a c := by
  rcases h with h | ⟨h1, h2, h3⟩
  · exact .inl h
  · rcases k with rfl | ⟨k1, k2, k3⟩
    · cases h2
    · exact .inr ⟨h1, k2, fun v hv => sub_tr (h3 v hv) (k3 v hv)⟩

theorem SubS.get {a b : St} (h : SubS a b) (v : Nat) : a.getD v 0 &&& b.getD v 0 = a.getD v 0 := by
  rcases h with rfl | ⟨h1, h2, h3⟩
  · simp
  · by_cases hv : v < 6
    · exact h3 v hv
    · rw [List.getD_eq_getElem?_getD, List.getElem?_eq_none (by omega)]
      simp

theorem SubS.wth {a b : St} (h : SubS a b) (x : Nat) {m k : Nat} (hm : m &&& k = m) : SubS (withS a x m) (withS b x k) := by
  unfold withS
  by_cases hc : a = [] ∨ m = 0
  · rw [if_pos hc]; exact .inl rfl
  · rw [if_neg hc]
    obtain ⟨h1, h2, h3⟩ := h.resolve_left (fun e => hc (.inl e))
    have hb : ¬ (b = [] ∨ k = 0) := by
      rintro (rfl | rfl)
      · cases h2
      · simp at hm; exact hc (.inr hm.symm)
    rw [if_neg hb]
    refine .inr ⟨by simpa using h1, by simpa using h2, fun v hv => ?_⟩
    by_cases hx : x = v
    · subst hx
      simp only [List.getD_eq_getElem?_getD]
      rw [List.getElem?_set_self (by omega), List.getElem?_set_self (by omega)]
      exact hm
    · have := h3 v hv
      simp only [List.getD_eq_getElem?_getD] at this ⊢
      rw [List.getElem?_set_ne hx, List.getElem?_set_ne hx]
      exact this

theorem givN_sub (op : Int) {y z : Nat} (h : y &&& z = y) : givN op y &&& givN op z = givN op y := by
  unfold givN
  repeat' split
  all_goals first
    | exact h
    | exact Nat.and_self _
    | skip
  all_goals
    rename_i h4 h5
    first
      | rfl
      | (exfalso; simp_all [sub_bit h])
      | simp_all

theorem SubS.hld {a b : St} (h : SubS a b) (n : Nd) (y : Bool) : SubS (hldF n y a) (hldF n y b) := h.wth _ (and_sub _ (h.get _))

theorem SubS.ne {a b : St} (h : SubS a b) (ha : a ≠ []) : b ≠ [] := fun e => ha (SubS.nil_r (e ▸ h))

theorem SubS.beh {a b : St} (h : SubS a b) (n : Nd) : SubS (behF n a) (behF n b) := by
  unfold behF
  by_cases h1 : n.op = 33
  · rw [if_pos h1, if_pos h1]; exact .inl rfl
  rw [if_neg h1, if_neg h1]
  by_cases h2 : n.op = 42 ∨ n.op = 94
  · rw [if_pos h2, if_pos h2]; exact h
  rw [if_neg h2, if_neg h2]
  by_cases h3 : n.op = 126
  · rw [if_pos h3, if_pos h3]; exact h.wth _ (and_sub _ (h.get _))
  rw [if_neg h3, if_neg h3]
  have hy := and_sub (tkN n.op) (h.get n.y.toNat)
  have hw := h.wth n.y.toNat hy
  have hg := givN_sub n.op hy
  generalize withS a n.y.toNat (a.getD n.y.toNat 0 &&& tkN n.op) = a1 at *
  generalize withS b n.y.toNat (b.getD n.y.toNat 0 &&& tkN n.op) = b1 at *
  by_cases ha : a1 = []
  · subst ha
    rw [if_neg (by simp)]
    exact .inl (by simp [withS])
  · have hb := hw.ne ha
    by_cases h4 : n.op = 43 ∨ n.op = 60
    · rw [if_pos ⟨ha, h4⟩, if_pos ⟨hb, h4⟩]
      exact (hw.wth _ (and_sub _ (hw.get _))).wth _ hg
    · rw [if_neg (fun e => h4 e.2), if_neg (fun e => h4 e.2)]
      exact hw.wth _ hg

theorem SubS.lub {a b c : St} (h : SubS a c) (k : SubS b c) : SubS (joinR a b).1 c := by
  unfold joinR
  by_cases hb : b = []
  · rw [if_pos hb]; exact h
  rw [if_neg hb]
  by_cases ha : a = []
  · rw [if_pos ha]; exact k
  rw [if_neg ha]
  obtain ⟨a6, c6, hv⟩ := h.resolve_left ha
  obtain ⟨b6, _, kv⟩ := k.resolve_left hb
  refine .inr ⟨by rw [List.length_zipWith]; omega, c6, fun v hv6 => ?_⟩
  rw [zip_get a b v (by omega) (by omega)]
  exact sub_or (hv v hv6) (kv v hv6)

/-- The table lies within R, line by line. -/
def TSub (n : Nat) (T : Tbl) (R : Nat → St) : Prop := ∀ i, i < n → SubS (T.getD i []) (R i)

theorem TSub.into {n : Nat} {T : Tbl} {R : Nat → St} (h : TSub n T R) {j : Int} {s : St} (hs : RchR n R j s) : TSub n (intoF T j s).1 R := by
  unfold intoF
  by_cases hc : 0 ≤ j ∧ j < T.length
  · rw [if_pos hc]
    intro i hi
    show SubS ((T.set j.toNat _).getD i []) (R i)
    by_cases he : j.toNat = i
    · subst he
      rw [List.getD_eq_getElem?_getD, List.getElem?_set_self (by omega), Option.getD_some]
      refine (h _ hi).lub ?_
      rcases hs with hs | hs | hs | hs
      · omega
      · omega
      · exact .inl hs
      · exact hs
    · rw [List.getD_eq_getElem?_getD, List.getElem?_set_ne he, ← List.getD_eq_getElem?_getD]
      exact h i hi
  · rw [if_neg hc]; exact h

theorem RchR.sub {n : Nat} {R : Nat → St} {j : Int} {s t : St} (h : RchR n R j t) (k : SubS s t) : RchR n R j s := by
  rcases h with h | h | h | h
  · exact .inl h
  · exact .inr (.inl h)
  · subst h; exact .inr (.inr (.inl k.nil_r))
  · exact .inr (.inr (.inr (k.trans h)))

theorem TSub.pas {n : Nat} {T : Tbl} {R : Nat → St} (h : TSub n T R) {nd : Nd} {i : Nat} (hi : i < n) (hk : KeepsR n nd R (R i)) : TSub n (pasF nd i T).1 R := by
  unfold pasF
  by_cases h0 : T.getD i [] = []
  · rw [if_pos h0]; exact h
  rw [if_neg h0]
  have hs := h i hi
  obtain ⟨k1, k2⟩ := hk.resolve_left (hs.ne h0)
  by_cases ht : nd.op = 121 ∨ nd.op = 58
  · rw [if_pos ht]
    exact (h.into ((k2 ht).1.sub (hs.hld nd true))).into ((k2 ht).2.sub (hs.hld nd false))
  · rw [if_neg ht]
    exact h.into ((k1 ht).sub (hs.beh nd))

theorem TSub.swp {n : Nat} {R : Nat → St} : ∀ (l : List Nd) (i : Nat) (T : Tbl), (∀ k nd, l[k]? = some nd → i + k < n ∧ KeepsR n nd R (R (i + k))) → TSub n T R → TSub n (swpF l i T).1 R
  | [], _, _, _, h => h
  | nd :: l, i, T, hk, h => by
    rw [swpF]
    have h0 := hk 0 nd rfl
    exact TSub.swp l (i + 1) _ (fun k nd' e => by
      have := hk (k + 1) nd' (by simpa using e)
      rw [show i + 1 + k = i + (k + 1) by omega]
      exact this) (h.pas h0.1 h0.2)

theorem TSub.it {n : Nat} {R : Nat → St} {l : List Nd} (hk : ∀ k nd, l[k]? = some nd → 0 + k < n ∧ KeepsR n nd R (R (0 + k))) : ∀ (k : Nat) (T : Tbl), TSub n T R → TSub n (itF l k T) R
  | 0, _, h => h
  | k + 1, T, h => by rw [itF]; exact TSub.it hk k _ (TSub.swp l 0 T hk h)

/-- The least table lies within R, if R obeys. -/
theorem lst_least {l : List Nd} {R : Nat → St} (h : ObR l R) (i : Nat) (hi : i < l.length) : SubS ((lstF l).getD i []) (R i) := by
  have key : TSub l.length (itF l 4000 (tR l.length)) R := by
    refine TSub.it (fun k nd e => ?_) 4000 _ ?_
    · rw [Nat.zero_add]
      exact ⟨(List.getElem?_eq_some_iff.1 e).1, h.2 k nd e⟩
    · intro k hk
      unfold tR
      cases k with
      | zero => exact h.1 (fun e => by rw [e] at hi; exact absurd hi (Nat.not_lt_zero _))
      | succ k =>
        refine .inl ?_
        rw [List.getD_cons_succ, List.getD_eq_getElem?_getD, List.getElem?_replicate]
        split <;> rfl
  have := key i hi
  unfold lstF
  rwa [getD_take hi]
end Go.Proofs.YtellieabhaphhabGreatDoor

/-
  A graph's text: what the answer writes.
-/
namespace Go.Proofs.YtellieabhaphhabGreatDoor
open Go.RowKit

theorem ba_nil (a : ByteArray) : a ++ (⟨#[]⟩ : ByteArray) = a := ByteArray.append_empty

def wayB (k : Int) : ByteArray := if 0 ≤ k then ⟨#[44]⟩ ++ twoB k.toNat else ⟨#[]⟩
/-- A line. -/
def linB (g : ByteArray) (n : Nd) : ByteArray := g.extract n.a.toNat (n.a + n.l).toNat ++ wayB n.t ++ wayB n.f ++ ⟨#[59]⟩
def wriF (g : ByteArray) (l : List Nd) : ByteArray := l.foldl (fun a n => a ++ linB g n) ⟨#[]⟩

end Go.Proofs.YtellieabhaphhabGreatDoor

/-
  narrowref's Prune: numbers anew.
-/
namespace Go.Proofs.YtellieabhaphhabGreatDoor
open Go.RowKit

/-- How many of the first i lines have a state. -/
def cntF (T : Tbl) (i : Nat) : Nat := (T.take i).countP (fun s => decide (s ≠ []))

theorem cnt_succ (T : Tbl) (j : Nat) (h : j < T.length) : cntF T (j + 1) = cntF T j + (if T.getD j [] = [] then 0 else 1) := by
  unfold cntF
  rw [List.take_succ_eq_append_getElem h, List.countP_append, List.getD_eq_getElem?_getD, List.getElem?_eq_getElem h, Option.getD_some, List.countP_cons, List.countP_nil]
  by_cases e : T[j] = [] <;> simp [e]

theorem cnt_le (T : Tbl) (i : Nat) : cntF T i ≤ T.length := by
  unfold cntF
  refine Nat.le_trans List.countP_le_length ?_
  rw [List.length_take]
  exact Nat.min_le_right _ _

theorem cnt_top (T : Tbl) {i : Nat} (h : T.length ≤ i) : cntF T i = cntF T T.length := by
  unfold cntF
  rw [List.take_of_length_le h, List.take_length]

/-- The number that a line has anew; the end's, if nothing comes. -/
def renF (T : Tbl) (i : Nat) (s : St) : Nat := if s = [] then cntF T T.length else cntF T i

end Go.Proofs.YtellieabhaphhabGreatDoor

/-
  narrow's Prune: numbers anew, nodes that idle.
-/
namespace Go.Proofs.YtellieabhaphhabGreatDoor
open Go.RowKit

set_option maxRecDepth 100000 in
set_option maxHeartbeats 1600000 in
theorem statesAhead_c (tb : Nat) (T : Tbl) (i : Nat) (w : World) (h : Blk w tb (tCells T) 75) (hT : TOk T) (hl : T.length ≤ 90) :
    Calls Tryz.prog 42 #[.slice (some ⟨tb, 0, none⟩) T.length T.length, .int .i64 i] w fun e w' => e = .returned (.int .i64 (cntF T i)) ∧ Kp no w w' := by
  have HB := hide h
  have HCL := hide (cnt_le T)
  have HCT := hide (fun i (h : T.length ≤ i) => cnt_top T h)
  clear h
  go_enter Tryz.func42, Tryz.ntmps42
  go_wp2
  go_loopg [5, 10] T.length (fun k nv kv wr => ∃ j : Nat, j ≤ T.length ∧ k = T.length - j ∧ kv = .int .i64 j ∧ nv = .int .i64 (cntF T (min j i)) ∧ Kp no w wr)
  case atStart => exact ⟨0, Nat.zero_le _, rfl, rfl, by rw [Nat.zero_min]; rfl, Kp.refl _ _⟩
  case round =>
    obtain ⟨j, hj, hk, rfl, rfl, kr⟩ := hrel
    have HKK := hide hk
    have HKR := hide kr
    clear hk kr
    by_cases hlt : j < T.length
    · have HCS := hide (cnt_succ T j hlt)
      have hb2 := HCL.out (min j i)
      have hSO := hT.get j
      obtain ⟨m0, m1, m2, m3, m4, m5, hm⟩ := z6_six (encZ_z6 hSO)
      have hbr := HKR.out.blk HB.out no_elim
      obtain ⟨c0, c1, c2, c3, c4, c5⟩ := tb_at hbr hlt hm
      have hbl := hbr.lt
      have HZ6 := hide (show Z6 [m0, m1, m2, m3, m4, m5] from hm ▸ encZ_z6 hSO)
      have HEX := hide (exS_enc hSO)
      rw [hm] at HEX
      have HX := hide (fun b W hW => exists_c b [m0, m1, m2, m3, m4, m5] W hW HZ6.out)
      rw [HEX.out] at HX
      have hjI : (j : Int) < T.length := by omega
      clear hbr hSO hm HEX
      generalize T.getD j [] = S at *
      by_cases hji : j < i
      · have hjiI : (j : Int) < (i : Int) := by omega
        by_cases hS0 : S = []
        · rw [decide_eq_false (fun e => e hS0)] at HX
          have HM := hide (show cntF T (min (j + 1) i) = cntF T (min j i) by rw [Nat.min_eq_left (by omega), Nat.min_eq_left (by omega), HCS.out, if_pos hS0, Nat.add_zero])
          clear hS0
          go_wp2_with (go_at_call 40; refine (HX.out _ _ (by (show Blk _ _ [.int .i64 m0, .int .i64 m1, .int .i64 m2, .int .i64 m3, .int .i64 m4, .int .i64 m5] _); (repeat' (first | ((with_reducible show (_ : List Value) = _); rfl) | ((with_reducible refine Blk.newAt _ _ _ ?_); first | with_reducible rfl | (simp; done)) | with_reducible refine Blk.alloc ?_ _ | with_reducible refine Blk.drewN ?_ _ | with_reducible refine Blk.drew ?_ | ((with_reducible refine Blk.other ?_ _ ?_); rotate_left; ((try dsimp only); omega)) | with_reducible refine Blk.setB (cs0 := ?_) ?_ ?_)))).mono ?_; rintro e w' ⟨rfl, rfl⟩)
          go_roundg (T.length - (j + 1))
          case measure => have := HKK.out; omega
          case rel => exact ⟨j + 1, by omega, rfl, by go_num, by rw [HM.out], HKR.out.alloc _⟩
        · rw [decide_eq_true hS0] at HX
          have HM := hide (show cntF T (min (j + 1) i) = cntF T (min j i) + 1 by rw [Nat.min_eq_left (by omega), Nat.min_eq_left (by omega), HCS.out, if_neg hS0])
          clear hS0
          go_wp2_with (go_at_call 40; refine (HX.out _ _ (by (show Blk _ _ [.int .i64 m0, .int .i64 m1, .int .i64 m2, .int .i64 m3, .int .i64 m4, .int .i64 m5] _); (repeat' (first | ((with_reducible show (_ : List Value) = _); rfl) | ((with_reducible refine Blk.newAt _ _ _ ?_); first | with_reducible rfl | (simp; done)) | with_reducible refine Blk.alloc ?_ _ | with_reducible refine Blk.drewN ?_ _ | with_reducible refine Blk.drew ?_ | ((with_reducible refine Blk.other ?_ _ ?_); rotate_left; ((try dsimp only); omega)) | with_reducible refine Blk.setB (cs0 := ?_) ?_ ?_)))).mono ?_; rintro e w' ⟨rfl, rfl⟩)
          go_roundg (T.length - (j + 1))
          case measure => have := HKK.out; omega
          case rel => exact ⟨j + 1, by omega, rfl, by go_num, by rw [HM.out]; push_cast; rfl, HKR.out.alloc _⟩
      · have hjiI : decide ((j : Int) < (i : Int)) = false := by simp; omega
        have hjiN : decide (j < i) = false := by simp; omega
        have HM := hide (show cntF T (min (j + 1) i) = cntF T (min j i) by rw [Nat.min_eq_right (by omega), Nat.min_eq_right (by omega)])
        clear hji
        go_wp2
        go_roundg (T.length - (j + 1))
        case measure => have := HKK.out; omega
        case rel => exact ⟨j + 1, by omega, rfl, by go_num, by rw [HM.out], HKR.out.alloc _⟩
    · obtain rfl : j = T.length := by omega
      have HM := hide (show cntF T (min T.length i) = cntF T i by
        rcases Nat.lt_or_ge i T.length with h1 | h1
        · rw [Nat.min_eq_right (by omega)]
        · rw [Nat.min_eq_left h1, HCT.out i h1])
      go_wp2
      go_ret
      rw [← HM.out]
      exact ⟨rfl, HKR.out⟩

/-- A node that only goes on. -/
def idlN (k : Int) : NN := ⟨⟨#[42]⟩, 14, 0, 0, 0, 0, 0, 0, 0, k, k⟩

set_option maxRecDepth 100000 in
set_option maxHeartbeats 1600000 in
theorem idleNode_c (k : Int) (w : World) :
    Calls Tryz.prog 76 #[.int .i64 k] w fun e w' => e = .returned (.agg (idlN k).cells.toArray) ∧ Kp no w w' := by
  go_enter Tryz.func76, Tryz.ntmps76
  go_wp2
  refine body_agg (Tb := 68) (b := w.heap.size) (cs := (idlN k).cells) (.inr rfl) Tryz.results76 rfl rfl (by (show Blk _ _ [.string ⟨#[42]⟩, .int .i64 14, .int .i64 0, .int .i64 0, .int .i64 0, .int .i64 0, .int .i64 0, .int .i64 0, .int .i64 0, .int .i64 k, .int .i64 k] _); (repeat' (first | ((with_reducible show (_ : List Value) = _); rfl) | ((with_reducible refine Blk.newAt _ _ _ ?_); first | with_reducible rfl | (simp; done)) | with_reducible refine Blk.alloc ?_ _ | with_reducible refine Blk.drewN ?_ _ | with_reducible refine Blk.drew ?_ | ((with_reducible refine Blk.other ?_ _ ?_); rotate_left; ((try dsimp only); omega)) | with_reducible refine Blk.setB (cs0 := ?_) ?_ ?_))) Tryz.underlying68 rfl (by kernel_rfl) ?_
  exact ⟨rfl, by (repeat' (first | with_reducible exact Kp.refl _ _ | with_reducible refine Kp.alloc ?_ _ | with_reducible refine Kp.drewN ?_ _ | with_reducible refine Kp.drew ?_ | with_reducible refine Kp.setCell ?_ _ ?_ | (intro hh; first | rfl | exact .inl rfl | exact .inr rfl | (exfalso; (try dsimp only at hh); omega))))⟩
end Go.Proofs.YtellieabhaphhabGreatDoor

/-
  narrow's Prune: the ways that are left.
-/
namespace Go.Proofs.YtellieabhaphhabGreatDoor
open Go.RowKit

theorem exS_nrm {Z : St} (h : Z6 Z) : exS Z = decide (nrm Z ≠ []) := by
  cases e : exS Z
  · rw [nrm, e]; rfl
  · rw [nrm, e]
    have : Z ≠ [] := fun e => by have := h.len; rw [e] at this; cases this
    simp [this]

/-- A node with the ways that are left. -/
def lwN (n : NN) (y o : St) (en : Int) : NN :=
  if y ≠ [] ∧ o ≠ [] then n else if y ≠ [] then idlN n.yes else if o ≠ [] then idlN n.no else { n with yes := en, no := en }

set_option maxRecDepth 100000 in
set_option maxHeartbeats 1600000 in
theorem withLiveWays_c (nd : Nd) (tx : ByteArray) (yn nn en : Int) (S : St) (w : World) (hg : Gn nd) (hF : Ful S) :
    Calls Tryz.prog 41 #[.agg #[.string tx, .int .i64 (actN nd.op), .int .i64 nd.x, .int .i64 nd.y, .int .i64 (if nd.op = 43 ∨ nd.op = 60 then nd.v else nd.y), .int .i64 (bit (consN nd).k), .int .i64 (consN nd).n, .int .i64 (bit (consN nd).v), .int .i64 (if nd.op = 126 ∨ nd.op = 58 then bit nd.k else 0), .int .i64 yn, .int .i64 nn], .agg (zc S).toArray, .int .i64 en] w
      fun e w' => e = .returned (.agg (lwN (encN nd tx yn nn) (algF nd true S) (algF nd false S) en).cells.toArray) ∧ Kp no w w' := by
  obtain ⟨m0, m1, m2, m3, m4, m5, rfl⟩ := z6_six hF.z
  rw [show Value.agg (zc [m0, m1, m2, m3, m4, m5]).toArray = zv6 m0 m1 m2 m3 m4 m5 from rfl]
  have HAT := hide (fun W => along_c nd tx yn nn [m0, m1, m2, m3, m4, m5] true W hg hF)
  have HAF := hide (fun W => along_c nd tx yn nn [m0, m1, m2, m3, m4, m5] false W hg hF)
  rw [show Value.agg (zc [m0, m1, m2, m3, m4, m5]).toArray = zv6 m0 m1 m2 m3 m4 m5 from rfl] at HAT HAF
  unfold encN
  generalize algF nd true [m0, m1, m2, m3, m4, m5] = Y at *
  generalize algF nd false [m0, m1, m2, m3, m4, m5] = O at *
  generalize actN nd.op = act at *
  generalize (if nd.op = 43 ∨ nd.op = 60 then nd.v else nd.y) = nwv at *
  generalize (if nd.op = 126 ∨ nd.op = 58 then bit nd.k else 0) = kdv at *
  generalize (consN nd).n = cnn at *
  generalize bit (consN nd).k = ckk at *
  generalize bit (consN nd).v = chh at *
  generalize nd.x = nx at *
  generalize nd.y = ny at *
  clear hF hg
  have HR1 := hide (fun (h1 : Y ≠ []) (h2 : O ≠ []) => show lwN ⟨tx, act, nx, ny, nwv, ckk, cnn, chh, kdv, yn, nn⟩ Y O en = ⟨tx, act, nx, ny, nwv, ckk, cnn, chh, kdv, yn, nn⟩ by rw [lwN, if_pos ⟨h1, h2⟩])
  have HR2 := hide (fun (h1 : Y ≠ []) (h2 : O = []) => show lwN ⟨tx, act, nx, ny, nwv, ckk, cnn, chh, kdv, yn, nn⟩ Y O en = idlN yn by rw [lwN, if_neg (fun e => e.2 h2), if_pos h1])
  have HR3 := hide (fun (h1 : Y = []) (h2 : O ≠ []) => show lwN ⟨tx, act, nx, ny, nwv, ckk, cnn, chh, kdv, yn, nn⟩ Y O en = idlN nn by rw [lwN, if_neg (fun e => e.1 h1), if_neg (fun e => e h1), if_pos h2])
  have HR4 := hide (fun (h1 : Y = []) (h2 : O = []) => show lwN ⟨tx, act, nx, ny, nwv, ckk, cnn, chh, kdv, yn, nn⟩ Y O en = ⟨tx, act, nx, ny, nwv, ckk, cnn, chh, kdv, en, en⟩ by rw [lwN, if_neg (fun e => e.1 h1), if_neg (fun e => e h1), if_neg (fun e => e h2)])
  generalize lwN ⟨tx, act, nx, ny, nwv, ckk, cnn, chh, kdv, yn, nn⟩ Y O en = R at *
  have HID := hide (fun k W => idleNode_c k W)
  go_enter Tryz.func41, Tryz.ntmps41
  go_wp2_with fail
  refine (HAT.out _).mono ?_
  rintro e w1 ⟨Z, rfl, hZ6, hZn, k1⟩
  obtain ⟨y0, y1, y2, y3, y4, y5, rfl⟩ := z6_six hZ6
  rw [show Value.agg (zc [y0, y1, y2, y3, y4, y5]).toArray = zv6 y0 y1 y2 y3 y4 y5 from rfl]
  have hN1 : Blk w1 w.heap.size [.string tx, .int .i64 act, .int .i64 nx, .int .i64 ny, .int .i64 nwv, .int .i64 ckk, .int .i64 cnn, .int .i64 chh, .int .i64 kdv, .int .i64 yn, .int .i64 nn] 68 := k1.blk (by (repeat' (first | ((with_reducible show (_ : List Value) = _); rfl) | ((with_reducible refine Blk.newAt _ _ _ ?_); first | with_reducible rfl | (simp; done)) | with_reducible refine Blk.alloc ?_ _ | with_reducible refine Blk.drewN ?_ _ | with_reducible refine Blk.drew ?_ | ((with_reducible refine Blk.other ?_ _ ?_); rotate_left; ((try dsimp only); omega)) | with_reducible refine Blk.setB (cs0 := ?_) ?_ ?_))) no_elim
  have hA1 : Blk w1 (w.heap.size + 1) [.int .i64 m0, .int .i64 m1, .int .i64 m2, .int .i64 m3, .int .i64 m4, .int .i64 m5] 75 := k1.blk (by (repeat' (first | ((with_reducible show (_ : List Value) = _); rfl) | ((with_reducible refine Blk.newAt _ _ _ ?_); first | with_reducible rfl | (simp; done)) | with_reducible refine Blk.alloc ?_ _ | with_reducible refine Blk.drewN ?_ _ | with_reducible refine Blk.drew ?_ | ((with_reducible refine Blk.other ?_ _ ?_); rotate_left; ((try dsimp only); omega)) | with_reducible refine Blk.setB (cs0 := ?_) ?_ ?_))) no_elim
  have hR1 : Blk w1 (w.heap.size + 1 + 1) [.string ⟨#[]⟩, .int .i64 0, .int .i64 0, .int .i64 0, .int .i64 0, .int .i64 0, .int .i64 0, .int .i64 0, .int .i64 0, .int .i64 0, .int .i64 0] 68 := k1.blk (by (repeat' (first | ((with_reducible show (_ : List Value) = _); rfl) | ((with_reducible refine Blk.newAt _ _ _ ?_); first | with_reducible rfl | (simp; done)) | with_reducible refine Blk.alloc ?_ _ | with_reducible refine Blk.drewN ?_ _ | with_reducible refine Blk.drew ?_ | ((with_reducible refine Blk.other ?_ _ ?_); rotate_left; ((try dsimp only); omega)) | with_reducible refine Blk.setB (cs0 := ?_) ?_ ?_))) no_elim
  have HK1 := hide (show Kp no w w1 from Kp.trans (by (repeat' (first | with_reducible exact Kp.refl _ _ | with_reducible refine Kp.alloc ?_ _ | with_reducible refine Kp.drewN ?_ _ | with_reducible refine Kp.drew ?_ | with_reducible refine Kp.setCell ?_ _ ?_ | (intro hh; first | rfl | exact .inl rfl | exact .inr rfl | (exfalso; (try dsimp only at hh); omega))))) k1 (fun _ _ e => e))
  have HEY := hide (exS_nrm hZ6)
  rw [hZn] at HEY
  have HZY := hide hZ6
  clear k1 hZ6 hZn HAT
  obtain ⟨n0, n1, n2, n3, n4, n5, n6, n7, n8, n9, n10, nf⟩ := hN1.c11; have hnl := hN1.lt
  obtain ⟨a0, a1, a2, a3, a4, a5, af, al⟩ := hA1.c6
  go_wp2_with fail
  refine (HAF.out _).mono ?_
  rintro e w2 ⟨Z2, rfl, hZ6, hZn, k2⟩
  obtain ⟨o0, o1, o2, o3, o4, o5, rfl⟩ := z6_six hZ6
  rw [show Value.agg (zc [o0, o1, o2, o3, o4, o5]).toArray = zv6 o0 o1 o2 o3 o4 o5 from rfl]
  have hN2 : Blk w2 w.heap.size [.string tx, .int .i64 act, .int .i64 nx, .int .i64 ny, .int .i64 nwv, .int .i64 ckk, .int .i64 cnn, .int .i64 chh, .int .i64 kdv, .int .i64 yn, .int .i64 nn] 68 := k2.blk (by (repeat' (first | ((with_reducible show (_ : List Value) = _); rfl) | with_reducible exact hN1 | ((with_reducible refine Blk.newAt _ _ _ ?_); first | with_reducible rfl | (simp; done)) | with_reducible refine Blk.alloc ?_ _ | with_reducible refine Blk.drewN ?_ _ | with_reducible refine Blk.drew ?_ | ((with_reducible refine Blk.other ?_ _ ?_); rotate_left; ((try dsimp only); omega)) | with_reducible refine Blk.setB (cs0 := ?_) ?_ ?_))) no_elim
  have hR2 : Blk w2 (w.heap.size + 1 + 1) [.string ⟨#[]⟩, .int .i64 0, .int .i64 0, .int .i64 0, .int .i64 0, .int .i64 0, .int .i64 0, .int .i64 0, .int .i64 0, .int .i64 0, .int .i64 0] 68 := k2.blk (by (repeat' (first | ((with_reducible show (_ : List Value) = _); rfl) | with_reducible exact hR1 | ((with_reducible refine Blk.newAt _ _ _ ?_); first | with_reducible rfl | (simp; done)) | with_reducible refine Blk.alloc ?_ _ | with_reducible refine Blk.drewN ?_ _ | with_reducible refine Blk.drew ?_ | ((with_reducible refine Blk.other ?_ _ ?_); rotate_left; ((try dsimp only); omega)) | with_reducible refine Blk.setB (cs0 := ?_) ?_ ?_))) no_elim
  have hY2 : Blk w2 w1.heap.size [.int .i64 y0, .int .i64 y1, .int .i64 y2, .int .i64 y3, .int .i64 y4, .int .i64 y5] 75 := k2.blk (by (repeat' (first | ((with_reducible show (_ : List Value) = _); rfl) | ((with_reducible refine Blk.newAt _ _ _ ?_); first | with_reducible rfl | (simp; done)) | with_reducible refine Blk.alloc ?_ _ | with_reducible refine Blk.drewN ?_ _ | with_reducible refine Blk.drew ?_ | ((with_reducible refine Blk.other ?_ _ ?_); rotate_left; ((try dsimp only); omega)) | with_reducible refine Blk.setB (cs0 := ?_) ?_ ?_))) no_elim
  have HK2 := hide (HK1.out.trans (S' := no) (Kp.trans (by (repeat' (first | with_reducible exact Kp.refl _ _ | with_reducible refine Kp.alloc ?_ _ | with_reducible refine Kp.drewN ?_ _ | with_reducible refine Kp.drew ?_ | with_reducible refine Kp.setCell ?_ _ ?_ | (intro hh; first | rfl | exact .inl rfl | exact .inr rfl | (exfalso; (try dsimp only at hh); omega))))) k2 (fun _ _ e => e)) (fun _ _ e => e))
  have HEO := hide (exS_nrm hZ6)
  rw [hZn] at HEO
  have HZO := hide hZ6
  clear k2 hZ6 hZn HAF n0 n1 n2 n3 n4 n5 n6 n7 n8 n9 n10 nf hnl a0 a1 a2 a3 a4 a5 af al hN1 hA1 hR1
  obtain ⟨n0, n1, n2, n3, n4, n5, n6, n7, n8, n9, n10, nf⟩ := hN2.c11; have hnl := hN2.lt
  obtain ⟨r0, r1, r2, r3, r4, r5, r6, r7, r8, r9, r10, rf⟩ := hR2.c11; have rl := hR2.lt
  have hyl := hY2.lt
  have HXY := hide (fun W hW => exists_c w1.heap.size [y0, y1, y2, y3, y4, y5] W hW HZY.out)
  have HXO := hide (fun b W hW => exists_c b [o0, o1, o2, o3, o4, o5] W hW HZO.out)
  rw [HEY.out] at HXY
  rw [HEO.out] at HXO
  clear HEY HEO
  by_cases hy : Y = []
  · rw [decide_eq_false (fun e => e hy)] at HXY
    by_cases ho : O = []
    · rw [decide_eq_false (fun e => e ho)] at HXO
      have HRX := hide (HR4.out hy ho)
      clear HR1 HR2 HR3 HR4 hy ho
      go_wp2_with fail
      refine (HXY.out _ (by (show Blk _ _ [.int .i64 y0, .int .i64 y1, .int .i64 y2, .int .i64 y3, .int .i64 y4, .int .i64 y5] _); (repeat' (first | ((with_reducible show (_ : List Value) = _); rfl) | with_reducible exact hY2 | ((with_reducible refine Blk.newAt _ _ _ ?_); first | with_reducible rfl | (simp; done)) | with_reducible refine Blk.alloc ?_ _ | with_reducible refine Blk.drewN ?_ _ | with_reducible refine Blk.drew ?_ | ((with_reducible refine Blk.other ?_ _ ?_); rotate_left; ((try dsimp only); omega)) | with_reducible refine Blk.setB (cs0 := ?_) ?_ ?_)))).mono ?_
      rintro e w' ⟨rfl, rfl⟩
      go_wp2_with fail
      refine (HXO.out _ _ (by (show Blk _ _ [.int .i64 o0, .int .i64 o1, .int .i64 o2, .int .i64 o3, .int .i64 o4, .int .i64 o5] _); (repeat' (first | ((with_reducible show (_ : List Value) = _); rfl) | ((with_reducible refine Blk.newAt _ _ _ ?_); first | with_reducible rfl | (simp; done)) | with_reducible refine Blk.alloc ?_ _ | with_reducible refine Blk.drewN ?_ _ | with_reducible refine Blk.drew ?_ | ((with_reducible refine Blk.other ?_ _ ?_); rotate_left; ((try dsimp only); omega)) | with_reducible refine Blk.setB (cs0 := ?_) ?_ ?_)))).mono ?_
      rintro e w' ⟨rfl, rfl⟩
      have kk := HK2.out
      go_wp2
      have hRR := hR2
      refine body_agg (Tb := 68) (b := w.heap.size + 1 + 1) (cs := [.string tx, .int .i64 act, .int .i64 nx, .int .i64 ny, .int .i64 nwv, .int .i64 ckk, .int .i64 cnn, .int .i64 chh, .int .i64 kdv, .int .i64 en, .int .i64 en]) (.inr rfl) Tryz.results41 rfl rfl (by (repeat' (first | ((with_reducible show (_ : List Value) = _); rfl) | with_reducible exact hRR | ((with_reducible refine Blk.newAt _ _ _ ?_); first | with_reducible rfl | (simp; done)) | with_reducible refine Blk.alloc ?_ _ | with_reducible refine Blk.drewN ?_ _ | with_reducible refine Blk.drew ?_ | ((with_reducible refine Blk.other ?_ _ ?_); rotate_left; ((try dsimp only); omega)) | with_reducible refine Blk.setB (cs0 := ?_) ?_ ?_))) Tryz.underlying68 rfl (by kernel_rfl) ?_
      rw [HRX.out]
      exact ⟨rfl, by (repeat' (first | with_reducible exact Kp.refl _ _ | with_reducible refine Kp.alloc ?_ _ | with_reducible refine Kp.drewN ?_ _ | with_reducible refine Kp.drew ?_ | with_reducible refine Kp.setCell ?_ _ ?_ | with_reducible refine Kp.trans ?_ kk (fun _ _ e => e) | (intro hh; first | rfl | exact .inl rfl | exact .inr rfl | (exfalso; (try dsimp only at hh); omega))))⟩
    · rw [decide_eq_true ho] at HXO
      have HRX := hide (HR3.out hy ho)
      clear HR1 HR2 HR3 HR4 hy ho
      go_wp2_with fail
      refine (HXY.out _ (by (show Blk _ _ [.int .i64 y0, .int .i64 y1, .int .i64 y2, .int .i64 y3, .int .i64 y4, .int .i64 y5] _); (repeat' (first | ((with_reducible show (_ : List Value) = _); rfl) | with_reducible exact hY2 | ((with_reducible refine Blk.newAt _ _ _ ?_); first | with_reducible rfl | (simp; done)) | with_reducible refine Blk.alloc ?_ _ | with_reducible refine Blk.drewN ?_ _ | with_reducible refine Blk.drew ?_ | ((with_reducible refine Blk.other ?_ _ ?_); rotate_left; ((try dsimp only); omega)) | with_reducible refine Blk.setB (cs0 := ?_) ?_ ?_)))).mono ?_
      rintro e w' ⟨rfl, rfl⟩
      go_wp2_with fail
      refine (HXO.out _ _ (by (show Blk _ _ [.int .i64 o0, .int .i64 o1, .int .i64 o2, .int .i64 o3, .int .i64 o4, .int .i64 o5] _); (repeat' (first | ((with_reducible show (_ : List Value) = _); rfl) | ((with_reducible refine Blk.newAt _ _ _ ?_); first | with_reducible rfl | (simp; done)) | with_reducible refine Blk.alloc ?_ _ | with_reducible refine Blk.drewN ?_ _ | with_reducible refine Blk.drew ?_ | ((with_reducible refine Blk.other ?_ _ ?_); rotate_left; ((try dsimp only); omega)) | with_reducible refine Blk.setB (cs0 := ?_) ?_ ?_)))).mono ?_
      rintro e w' ⟨rfl, rfl⟩
      go_wp2_with fail
      refine (HID.out nn _).mono ?_
      rintro e w5 ⟨rfl, k5⟩
      rw [show Value.agg (idlN nn).cells.toArray = .agg #[.string ⟨#[42]⟩, .int .i64 14, .int .i64 0, .int .i64 0, .int .i64 0, .int .i64 0, .int .i64 0, .int .i64 0, .int .i64 0, .int .i64 nn, .int .i64 nn] from rfl]
      have hR5 : Blk w5 (w.heap.size + 1 + 1) [.string ⟨#[]⟩, .int .i64 0, .int .i64 0, .int .i64 0, .int .i64 0, .int .i64 0, .int .i64 0, .int .i64 0, .int .i64 0, .int .i64 0, .int .i64 0] 68 := k5.blk (by (repeat' (first | ((with_reducible show (_ : List Value) = _); rfl) | with_reducible exact hR2 | ((with_reducible refine Blk.newAt _ _ _ ?_); first | with_reducible rfl | (simp; done)) | with_reducible refine Blk.alloc ?_ _ | with_reducible refine Blk.drewN ?_ _ | with_reducible refine Blk.drew ?_ | ((with_reducible refine Blk.other ?_ _ ?_); rotate_left; ((try dsimp only); omega)) | with_reducible refine Blk.setB (cs0 := ?_) ?_ ?_))) no_elim
      have kk : Kp no w w5 := HK2.out.trans (S' := no) (Kp.trans (by (repeat' (first | with_reducible exact Kp.refl _ _ | with_reducible refine Kp.alloc ?_ _ | with_reducible refine Kp.drewN ?_ _ | with_reducible refine Kp.drew ?_ | with_reducible refine Kp.setCell ?_ _ ?_ | (intro hh; first | rfl | exact .inl rfl | exact .inr rfl | (exfalso; (try dsimp only at hh); omega))))) k5 (fun _ _ e => e)) (fun _ _ e => e)
      clear n0 n1 n2 n3 n4 n5 n6 n7 n8 n9 n10 nf hnl r0 r1 r2 r3 r4 r5 r6 r7 r8 r9 r10 rf rl
      obtain ⟨r0, r1, r2, r3, r4, r5, r6, r7, r8, r9, r10, rf⟩ := hR5.c11; have rl := hR5.lt
      go_wp2
      have hRR := hR5
      refine body_agg (Tb := 68) (b := w.heap.size + 1 + 1) (cs := [.string ⟨#[42]⟩, .int .i64 14, .int .i64 0, .int .i64 0, .int .i64 0, .int .i64 0, .int .i64 0, .int .i64 0, .int .i64 0, .int .i64 nn, .int .i64 nn]) (.inr rfl) Tryz.results41 rfl rfl (by (repeat' (first | ((with_reducible show (_ : List Value) = _); rfl) | with_reducible exact hRR | ((with_reducible refine Blk.newAt _ _ _ ?_); first | with_reducible rfl | (simp; done)) | with_reducible refine Blk.alloc ?_ _ | with_reducible refine Blk.drewN ?_ _ | with_reducible refine Blk.drew ?_ | ((with_reducible refine Blk.other ?_ _ ?_); rotate_left; ((try dsimp only); omega)) | with_reducible refine Blk.setB (cs0 := ?_) ?_ ?_))) Tryz.underlying68 rfl (by kernel_rfl) ?_
      rw [HRX.out]
      exact ⟨rfl, by (repeat' (first | with_reducible exact Kp.refl _ _ | with_reducible refine Kp.alloc ?_ _ | with_reducible refine Kp.drewN ?_ _ | with_reducible refine Kp.drew ?_ | with_reducible refine Kp.setCell ?_ _ ?_ | with_reducible refine Kp.trans ?_ kk (fun _ _ e => e) | (intro hh; first | rfl | exact .inl rfl | exact .inr rfl | (exfalso; (try dsimp only at hh); omega))))⟩
  · rw [decide_eq_true hy] at HXY
    by_cases ho : O = []
    · rw [decide_eq_false (fun e => e ho)] at HXO
      have HRX := hide (HR2.out hy ho)
      clear HR1 HR2 HR3 HR4 hy ho
      go_wp2_with fail
      refine (HXY.out _ (by (show Blk _ _ [.int .i64 y0, .int .i64 y1, .int .i64 y2, .int .i64 y3, .int .i64 y4, .int .i64 y5] _); (repeat' (first | ((with_reducible show (_ : List Value) = _); rfl) | with_reducible exact hY2 | ((with_reducible refine Blk.newAt _ _ _ ?_); first | with_reducible rfl | (simp; done)) | with_reducible refine Blk.alloc ?_ _ | with_reducible refine Blk.drewN ?_ _ | with_reducible refine Blk.drew ?_ | ((with_reducible refine Blk.other ?_ _ ?_); rotate_left; ((try dsimp only); omega)) | with_reducible refine Blk.setB (cs0 := ?_) ?_ ?_)))).mono ?_
      rintro e w' ⟨rfl, rfl⟩
      go_wp2_with fail
      refine (HXO.out _ _ (by (show Blk _ _ [.int .i64 o0, .int .i64 o1, .int .i64 o2, .int .i64 o3, .int .i64 o4, .int .i64 o5] _); (repeat' (first | ((with_reducible show (_ : List Value) = _); rfl) | ((with_reducible refine Blk.newAt _ _ _ ?_); first | with_reducible rfl | (simp; done)) | with_reducible refine Blk.alloc ?_ _ | with_reducible refine Blk.drewN ?_ _ | with_reducible refine Blk.drew ?_ | ((with_reducible refine Blk.other ?_ _ ?_); rotate_left; ((try dsimp only); omega)) | with_reducible refine Blk.setB (cs0 := ?_) ?_ ?_)))).mono ?_
      rintro e w' ⟨rfl, rfl⟩
      go_wp2_with fail
      refine (HID.out yn _).mono ?_
      rintro e w5 ⟨rfl, k5⟩
      rw [show Value.agg (idlN yn).cells.toArray = .agg #[.string ⟨#[42]⟩, .int .i64 14, .int .i64 0, .int .i64 0, .int .i64 0, .int .i64 0, .int .i64 0, .int .i64 0, .int .i64 0, .int .i64 yn, .int .i64 yn] from rfl]
      have hR5 : Blk w5 (w.heap.size + 1 + 1) [.string ⟨#[]⟩, .int .i64 0, .int .i64 0, .int .i64 0, .int .i64 0, .int .i64 0, .int .i64 0, .int .i64 0, .int .i64 0, .int .i64 0, .int .i64 0] 68 := k5.blk (by (repeat' (first | ((with_reducible show (_ : List Value) = _); rfl) | with_reducible exact hR2 | ((with_reducible refine Blk.newAt _ _ _ ?_); first | with_reducible rfl | (simp; done)) | with_reducible refine Blk.alloc ?_ _ | with_reducible refine Blk.drewN ?_ _ | with_reducible refine Blk.drew ?_ | ((with_reducible refine Blk.other ?_ _ ?_); rotate_left; ((try dsimp only); omega)) | with_reducible refine Blk.setB (cs0 := ?_) ?_ ?_))) no_elim
      have kk : Kp no w w5 := HK2.out.trans (S' := no) (Kp.trans (by (repeat' (first | with_reducible exact Kp.refl _ _ | with_reducible refine Kp.alloc ?_ _ | with_reducible refine Kp.drewN ?_ _ | with_reducible refine Kp.drew ?_ | with_reducible refine Kp.setCell ?_ _ ?_ | (intro hh; first | rfl | exact .inl rfl | exact .inr rfl | (exfalso; (try dsimp only at hh); omega))))) k5 (fun _ _ e => e)) (fun _ _ e => e)
      clear n0 n1 n2 n3 n4 n5 n6 n7 n8 n9 n10 nf hnl r0 r1 r2 r3 r4 r5 r6 r7 r8 r9 r10 rf rl
      obtain ⟨r0, r1, r2, r3, r4, r5, r6, r7, r8, r9, r10, rf⟩ := hR5.c11; have rl := hR5.lt
      go_wp2
      have hRR := hR5
      refine body_agg (Tb := 68) (b := w.heap.size + 1 + 1) (cs := [.string ⟨#[42]⟩, .int .i64 14, .int .i64 0, .int .i64 0, .int .i64 0, .int .i64 0, .int .i64 0, .int .i64 0, .int .i64 0, .int .i64 yn, .int .i64 yn]) (.inr rfl) Tryz.results41 rfl rfl (by (repeat' (first | ((with_reducible show (_ : List Value) = _); rfl) | with_reducible exact hRR | ((with_reducible refine Blk.newAt _ _ _ ?_); first | with_reducible rfl | (simp; done)) | with_reducible refine Blk.alloc ?_ _ | with_reducible refine Blk.drewN ?_ _ | with_reducible refine Blk.drew ?_ | ((with_reducible refine Blk.other ?_ _ ?_); rotate_left; ((try dsimp only); omega)) | with_reducible refine Blk.setB (cs0 := ?_) ?_ ?_))) Tryz.underlying68 rfl (by kernel_rfl) ?_
      rw [HRX.out]
      exact ⟨rfl, by (repeat' (first | with_reducible exact Kp.refl _ _ | with_reducible refine Kp.alloc ?_ _ | with_reducible refine Kp.drewN ?_ _ | with_reducible refine Kp.drew ?_ | with_reducible refine Kp.setCell ?_ _ ?_ | with_reducible refine Kp.trans ?_ kk (fun _ _ e => e) | (intro hh; first | rfl | exact .inl rfl | exact .inr rfl | (exfalso; (try dsimp only at hh); omega))))⟩
    · rw [decide_eq_true ho] at HXO
      have HRX := hide (HR1.out hy ho)
      clear HR1 HR2 HR3 HR4 hy ho
      go_wp2_with fail
      refine (HXY.out _ (by (show Blk _ _ [.int .i64 y0, .int .i64 y1, .int .i64 y2, .int .i64 y3, .int .i64 y4, .int .i64 y5] _); (repeat' (first | ((with_reducible show (_ : List Value) = _); rfl) | with_reducible exact hY2 | ((with_reducible refine Blk.newAt _ _ _ ?_); first | with_reducible rfl | (simp; done)) | with_reducible refine Blk.alloc ?_ _ | with_reducible refine Blk.drewN ?_ _ | with_reducible refine Blk.drew ?_ | ((with_reducible refine Blk.other ?_ _ ?_); rotate_left; ((try dsimp only); omega)) | with_reducible refine Blk.setB (cs0 := ?_) ?_ ?_)))).mono ?_
      rintro e w' ⟨rfl, rfl⟩
      go_wp2_with fail
      refine (HXO.out _ _ (by (show Blk _ _ [.int .i64 o0, .int .i64 o1, .int .i64 o2, .int .i64 o3, .int .i64 o4, .int .i64 o5] _); (repeat' (first | ((with_reducible show (_ : List Value) = _); rfl) | ((with_reducible refine Blk.newAt _ _ _ ?_); first | with_reducible rfl | (simp; done)) | with_reducible refine Blk.alloc ?_ _ | with_reducible refine Blk.drewN ?_ _ | with_reducible refine Blk.drew ?_ | ((with_reducible refine Blk.other ?_ _ ?_); rotate_left; ((try dsimp only); omega)) | with_reducible refine Blk.setB (cs0 := ?_) ?_ ?_)))).mono ?_
      rintro e w' ⟨rfl, rfl⟩
      have kk := HK2.out
      go_wp2
      have hRR := hR2
      refine body_agg (Tb := 68) (b := w.heap.size + 1 + 1) (cs := [.string tx, .int .i64 act, .int .i64 nx, .int .i64 ny, .int .i64 nwv, .int .i64 ckk, .int .i64 cnn, .int .i64 chh, .int .i64 kdv, .int .i64 yn, .int .i64 nn]) (.inr rfl) Tryz.results41 rfl rfl (by (repeat' (first | ((with_reducible show (_ : List Value) = _); rfl) | with_reducible exact hRR | ((with_reducible refine Blk.newAt _ _ _ ?_); first | with_reducible rfl | (simp; done)) | with_reducible refine Blk.alloc ?_ _ | with_reducible refine Blk.drewN ?_ _ | with_reducible refine Blk.drew ?_ | ((with_reducible refine Blk.other ?_ _ ?_); rotate_left; ((try dsimp only); omega)) | with_reducible refine Blk.setB (cs0 := ?_) ?_ ?_))) Tryz.underlying68 rfl (by kernel_rfl) ?_
      rw [HRX.out]
      exact ⟨rfl, by (repeat' (first | with_reducible exact Kp.refl _ _ | with_reducible refine Kp.alloc ?_ _ | with_reducible refine Kp.drewN ?_ _ | with_reducible refine Kp.drew ?_ | with_reducible refine Kp.setCell ?_ _ ?_ | with_reducible refine Kp.trans ?_ kk (fun _ _ e => e) | (intro hh; first | rfl | exact .inl rfl | exact .inr rfl | (exfalso; (try dsimp only at hh); omega))))⟩
end Go.Proofs.YtellieabhaphhabGreatDoor

/-
  narrowref's Accept.
-/
namespace Go.Proofs.YtellieabhaphhabGreatDoor
open Go.RowKit

/-- Does a node take what the state says? -/
def fitF (n : Nd) (S : St) : Bool :=
  decide (S.getD n.y.toNat 0 &&& tkN n.op = S.getD n.y.toNat 0) && ((if n.op = 43 ∨ n.op = 60 then decide (S.getD n.v.toNat 0 &&& tkN n.op = S.getD n.v.toNat 0) else true) && decide (n.op ≠ 33))

/-- Why a node can't take it. -/
def fauF (n : Nd) (S : St) : Int := if S = [] then 0 else if fitF n S then 0 else if n.op = 33 then 6 else 5

/-- The first fault. -/
def accG (n : Nat) (f : Nat → Int) : Int × Nat := match (List.range n).find? (fun i => decide (f i ≠ 0)) with | some i => (f i, i) | none => (0, 0)

theorem accG_at {n : Nat} {f : Nat → Int} {j : Nat} (hj : j < n) (h : f j ≠ 0) (hb : ∀ i, i < j → f i = 0) : accG n f = (f j, j) := by
  have e : (List.range n).find? (fun i => decide (f i ≠ 0)) = some j := by
    rw [List.find?_range_eq_some]
    exact ⟨by simpa using h, by simpa using hj, fun i hi => by simpa using hb i hi⟩
  rw [accG, e]

theorem accG_none {n : Nat} {f : Nat → Int} (hb : ∀ i, i < n → f i = 0) : accG n f = (0, 0) := by
  have e : (List.range n).find? (fun i => decide (f i ≠ 0)) = none := by
    rw [List.find?_range_eq_none]
    exact fun i hi => by simpa using hb i hi
  rw [accG, e]

def fauA (l : List Nd) (T : Tbl) (i : Nat) : Int := match l[i]? with | some n => fauF n (T.getD i []) | none => 0

end Go.Proofs.YtellieabhaphhabGreatDoor

/-
  Plain: a graph's nodes are well made.
-/
namespace Go.Proofs.YtellieabhaphhabGreatDoor
open Go.RowKit

theorem lineF_items (s : ByteArray) (st : RS) : (lineF s st).items = st.items := by
  simp only [lineF]; split <;> rfl

theorem lnsF_gd : ∀ (f : Nat) (s : ByteArray) (st : RS), st.bad = false → (∀ n ∈ st.nodes, Gd s n) → (lnsF f s st).items = st.items ∧ ((lnsF f s st).bad = false → ∀ n ∈ (lnsF f s st).nodes, Gd s n) := by
  intro f
  induction f with
  | zero => intro s st _ h; exact ⟨rfl, fun _ => h⟩
  | succ f ih =>
    intro s st hb h
    rw [lnsF]
    split
    · rename_i hc
      split
      · exact ⟨rfl, fun e => by cases e⟩
      · cases hb2 : (lineF s st).bad
        · obtain ⟨nd, h1, h2, _⟩ := lineF_gd s st hc.2 hb2
          have := ih s (lineF s st) hb2 (fun n hn => by
            rw [h1, List.mem_append, List.mem_singleton] at hn
            rcases hn with h' | rfl
            · exact h n h'
            · exact h2)
          exact ⟨this.1.trans (lineF_items s st), this.2⟩
        · rw [lns_stop f s (lineF s st) (by rw [hb2]; simp)]
          exact ⟨lineF_items s st, fun e => by rw [hb2] at e; cases e⟩
    · exact ⟨rfl, fun _ => h⟩

theorem graF_gd (s : ByteArray) : (graF s).items = [] ∧ ((graF s).bad = false → ∀ n ∈ (graF s).nodes, Gd s n) :=
  lnsF_gd _ s rs0 rfl (fun n hn => by simp [rs0] at hn)

theorem graE_zero (s : ByteArray) (h : (graE s).1 = 0) : graE s = (0, 0) ∧ (graF s).bad = false := by
  unfold graE at h ⊢
  split
  · rename_i hb; rw [if_pos hb] at h; simp at h
  · rename_i hb
    rw [if_neg hb] at h
    refine ⟨?_, by simpa using hb⟩
    split
    · rename_i hl; rw [hl] at h; simp at h
    · rfl
end Go.Proofs.YtellieabhaphhabGreatDoor

/-
  narrow's Accept.
-/
namespace Go.Proofs.YtellieabhaphhabGreatDoor
open Go.RowKit

theorem sub_not : ∀ a : Fin 128, ∀ t : Fin 128, ((((a : Nat) &&& (127 ^^^ (t : Nat)) : Nat) : Int) != 0) = !decide ((a : Nat) &&& (t : Nat) = (a : Nat)) := by
  intro a t
  have ha := a.2
  have ht := t.2
  have key : ((a : Nat) &&& (127 ^^^ (t : Nat)) = 0) ↔ (a : Nat) &&& (t : Nat) = (a : Nat) := by
    constructor
    · intro h
      refine Nat.eq_of_testBit_eq fun i => ?_
      have hh := congrArg (fun z => z.testBit i) h
      simp only [Nat.testBit_and, Nat.testBit_xor, Nat.zero_testBit] at hh
      rw [Nat.testBit_and]
      by_cases hi : i < 7
      · have h127 : Nat.testBit 127 i = true := by
          rcases (show i = 0 ∨ i = 1 ∨ i = 2 ∨ i = 3 ∨ i = 4 ∨ i = 5 ∨ i = 6 by omega) with rfl | rfl | rfl | rfl | rfl | rfl | rfl <;> decide
        rw [h127] at hh
        revert hh
        cases Nat.testBit (a : Nat) i <;> cases Nat.testBit (t : Nat) i <;> simp
      · have h2 : 128 ≤ 2 ^ i := by
          have : 2 ^ 7 ≤ 2 ^ i := Nat.pow_le_pow_right (by decide) (by omega)
          omega
        rw [Nat.testBit_lt_two_pow (show (a : Nat) < 2 ^ i by omega)]
        simp
    · intro h
      refine Nat.eq_of_testBit_eq fun i => ?_
      have hh := congrArg (fun z => z.testBit i) h
      simp only [Nat.testBit_and] at hh
      rw [Nat.testBit_and, Nat.testBit_xor, Nat.zero_testBit]
      by_cases hi : i < 7
      · have h127 : Nat.testBit 127 i = true := by
          rcases (show i = 0 ∨ i = 1 ∨ i = 2 ∨ i = 3 ∨ i = 4 ∨ i = 5 ∨ i = 6 by omega) with rfl | rfl | rfl | rfl | rfl | rfl | rfl <;> decide
        rw [h127]
        revert hh
        cases Nat.testBit (a : Nat) i <;> cases Nat.testBit (t : Nat) i <;> simp
      · have h2 : 128 ≤ 2 ^ i := by
          have : 2 ^ 7 ≤ 2 ^ i := Nat.pow_le_pow_right (by decide) (by omega)
          omega
        rw [Nat.testBit_lt_two_pow (show (a : Nat) < 2 ^ i by omega)]
        simp
  by_cases h : (a : Nat) &&& (t : Nat) = (a : Nat)
  · rw [decide_eq_true h, key.2 h]; rfl
  · rw [decide_eq_false h]
    have : ¬ ((a : Nat) &&& (127 ^^^ (t : Nat)) = 0) := fun e => h (key.1 e)
    simpa using this

theorem or_sub (a b t : Nat) : ((a ||| b) &&& t = a ||| b) ↔ (a &&& t = a ∧ b &&& t = b) := by
  constructor
  · intro h
    have hb : ∀ i, (a.testBit i || b.testBit i) = true → t.testBit i = true := fun i hi => by
      have hh := congrArg (fun z => z.testBit i) h
      simp only [Nat.testBit_and, Nat.testBit_or] at hh
      rw [hi] at hh
      simpa using hh
    constructor
    · refine Nat.eq_of_testBit_eq fun i => ?_
      rw [Nat.testBit_and]
      cases e : a.testBit i
      · rfl
      · rw [hb i (by rw [e]; rfl)]; rfl
    · refine Nat.eq_of_testBit_eq fun i => ?_
      rw [Nat.testBit_and]
      cases e : b.testBit i
      · rfl
      · rw [hb i (by rw [e, Bool.or_true])]; rfl
  · rintro ⟨h1, h2⟩
    rw [Nat.and_or_distrib_right, h1, h2]

/-- Why narrow says that a node can't take a state. -/
theorem fau_or {n : Nd} {S : St} {y v : Nat} (hy : n.y = y) (hv : n.v = v) (h0 : S ≠ []) (h33 : n.op ≠ 33) :
    fauF n S = if ((S.getD y 0 ||| S.getD (if n.op = 43 ∨ n.op = 60 then v else y) 0) &&& tkN n.op = S.getD y 0 ||| S.getD (if n.op = 43 ∨ n.op = 60 then v else y) 0) then 0 else 5 := by
  rw [fauF, if_neg h0, fitF, hy, hv, Int.toNat_natCast, Int.toNat_natCast, decide_eq_true h33, Bool.and_true, if_neg h33]
  by_cases ht : n.op = 43 ∨ n.op = 60
  · rw [if_pos ht, if_pos ht]
    by_cases h1 : S.getD y 0 &&& tkN n.op = S.getD y 0 ∧ S.getD v 0 &&& tkN n.op = S.getD v 0
    · rw [if_pos ((or_sub _ _ _).2 h1), decide_eq_true h1.1, decide_eq_true h1.2]; rfl
    · rw [if_neg (fun e => h1 ((or_sub _ _ _).1 e)), if_neg]
      intro e
      rw [Bool.and_eq_true, decide_eq_true_iff, decide_eq_true_iff] at e
      exact h1 e
  · rw [if_neg ht, if_neg ht, Nat.or_self, Bool.and_true]
    by_cases h1 : S.getD y 0 &&& tkN n.op = S.getD y 0
    · rw [if_pos h1, decide_eq_true h1]; rfl
    · rw [if_neg h1, decide_eq_false h1]; rfl
end Go.Proofs.YtellieabhaphhabGreatDoor

/-
  narrow's Accept.
-/
namespace Go.Proofs.YtellieabhaphhabGreatDoor
open Go.RowKit

set_option maxRecDepth 100000 in
set_option maxHeartbeats 1600000 in
theorem faultOf_c (n : Nd) (tx : ByteArray) (yes nwy : Int) (S : St) (w : World) (hg : Gn n) (hS : SOk S) :
    Calls Tryz.prog 50 #[.agg #[.string tx, .int .i64 (actN n.op), .int .i64 n.x, .int .i64 n.y, .int .i64 (if n.op = 43 ∨ n.op = 60 then n.v else n.y), .int .i64 (bit (consN n).k), .int .i64 (consN n).n, .int .i64 (bit (consN n).v), .int .i64 (if n.op = 126 ∨ n.op = 58 then bit n.k else 0), .int .i64 yes, .int .i64 nwy], .agg (zc (encZ S)).toArray] w
      fun e w' => e = .returned (.int .i64 (fauF n S)) ∧ Kp no w w' := by
  obtain ⟨y, hy⟩ := Int.eq_ofNat_of_zero_le hg.y.1
  obtain ⟨v, hv⟩ := Int.eq_ofNat_of_zero_le hg.v.1
  have hy6 : y < 6 := by have := hg.y.2; omega
  have hv6 : v < 6 := by have := hg.v.2; omega
  have hw : (if n.op = 43 ∨ n.op = 60 then n.v else n.y) = (((if n.op = 43 ∨ n.op = 60 then v else y) : Nat) : Int) := by split <;> assumption
  have hw6 : (if n.op = 43 ∨ n.op = 60 then v else y) < 6 := by split <;> assumption
  obtain ⟨m0, m1, m2, m3, m4, m5, hm⟩ := z6_six (encZ_z6 hS)
  have HZ6 := hide (show Z6 [m0, m1, m2, m3, m4, m5] from hm ▸ encZ_z6 hS)
  have HEX := hide (exS_enc hS)
  have HF0 := hide (fun h0 : S = [] => show fauF n S = 0 by rw [fauF, if_pos h0])
  have HF1 := hide (fun (h0 : S ≠ []) (h33 : n.op = 33) => show fauF n S = 6 by rw [fauF, if_neg h0, fitF, h33]; simp)
  have HF2 := hide (fun (h0 : S ≠ []) h33 => fau_or (n := n) (S := S) hy hv h0 h33)
  have HSM := hide (fun h0 : S ≠ [] => show S = [m0, m1, m2, m3, m4, m5] by rw [← encZ_ful (hS.ful h0)]; exact hm)
  have HTK := hide (fun W => ntakenKinds_c (actN n.op) W)
  rw [tk_of hg.op] at HTK
  have htl := tk_lt n.op
  rw [hm] at HEX ⊢
  rw [show Value.agg (zc [m0, m1, m2, m3, m4, m5]).toArray = zv6 m0 m1 m2 m3 m4 m5 from rfl, hw, hy]
  have HX := hide (fun b W hW => exists_c b [m0, m1, m2, m3, m4, m5] W hW HZ6.out)
  rw [HEX.out] at HX
  have ha33 : n.op = 33 ∧ actN n.op = 11 ∨ n.op ≠ 33 ∧ actN n.op ≠ 11 := by
    have ho := hg.op
    unfold opOk at ho
    generalize n.op = o at *
    rcases ho with rfl | rfl | rfl | rfl | rfl | rfl | rfl | rfl | rfl | rfl | rfl | rfl | rfl | rfl | rfl | rfl | rfl | rfl <;> decide
  clear hm HEX hw hv
  generalize fauF n S = R at *
  generalize (if n.op = 43 ∨ n.op = 60 then v else y) = z at *
  generalize (if n.op = 126 ∨ n.op = 58 then bit n.k else 0) = kdv at *
  generalize (consN n).n = cnn at *
  generalize bit (consN n).k = ckk at *
  generalize bit (consN n).v = chh at *
  generalize n.x = nx at *
  by_cases h0 : S = []
  · rw [decide_eq_false (fun e => e h0)] at HX
    have HR := hide (HF0.out h0)
    generalize actN n.op = act at *
    clear h0 ha33 HF1 HF2 HF0
    go_enter Tryz.func50, Tryz.ntmps50
    go_wp2_with fail
    refine (HX.out _ _ (by (show Blk _ _ [.int .i64 m0, .int .i64 m1, .int .i64 m2, .int .i64 m3, .int .i64 m4, .int .i64 m5] _); (repeat' (first | ((with_reducible show (_ : List Value) = _); rfl) | ((with_reducible refine Blk.newAt _ _ _ ?_); first | with_reducible rfl | (simp; done)) | with_reducible refine Blk.alloc ?_ _ | with_reducible refine Blk.drewN ?_ _ | with_reducible refine Blk.drew ?_ | ((with_reducible refine Blk.other ?_ _ ?_); rotate_left; ((try dsimp only); omega)) | with_reducible refine Blk.setB (cs0 := ?_) ?_ ?_)))).mono ?_
    rintro e w' ⟨rfl, rfl⟩
    go_wp2
    go_ret
    rw [HR.out]
    exact ⟨rfl, by (repeat' (first | with_reducible exact Kp.refl _ _ | with_reducible refine Kp.alloc ?_ _ | with_reducible refine Kp.drewN ?_ _ | with_reducible refine Kp.drew ?_ | with_reducible refine Kp.setCell ?_ _ ?_ | (intro hh; first | rfl | exact .inl rfl | exact .inr rfl | (exfalso; (try dsimp only at hh); omega))))⟩
  · rw [decide_eq_true h0] at HX
    have hSm := HSM.out h0
    rcases ha33 with ⟨h33, h11⟩ | ⟨h33, h11⟩
    · have HR := hide (HF1.out h0 h33)
      rw [h11]
      clear h0 h33 h11 HF1 HF2 HF0 hSm HSM
      go_enter Tryz.func50, Tryz.ntmps50
      go_wp2_with fail
      refine (HX.out _ _ (by (show Blk _ _ [.int .i64 m0, .int .i64 m1, .int .i64 m2, .int .i64 m3, .int .i64 m4, .int .i64 m5] _); (repeat' (first | ((with_reducible show (_ : List Value) = _); rfl) | ((with_reducible refine Blk.newAt _ _ _ ?_); first | with_reducible rfl | (simp; done)) | with_reducible refine Blk.alloc ?_ _ | with_reducible refine Blk.drewN ?_ _ | with_reducible refine Blk.drew ?_ | ((with_reducible refine Blk.other ?_ _ ?_); rotate_left; ((try dsimp only); omega)) | with_reducible refine Blk.setB (cs0 := ?_) ?_ ?_)))).mono ?_
      rintro e w' ⟨rfl, rfl⟩
      go_wp2
      go_ret
      rw [HR.out]
      exact ⟨rfl, by (repeat' (first | with_reducible exact Kp.refl _ _ | with_reducible refine Kp.alloc ?_ _ | with_reducible refine Kp.drewN ?_ _ | with_reducible refine Kp.drew ?_ | with_reducible refine Kp.setCell ?_ _ ?_ | (intro hh; first | rfl | exact .inl rfl | exact .inr rfl | (exfalso; (try dsimp only at hh); omega))))⟩
    · have HR := hide (HF2.out h0 h33)
      have g11 : (actN n.op == 11) = false := by simpa using h11
      subst hSm
      have hby := HZ6.out.get y
      have hbz := HZ6.out.get z
      have HKY := hide (fun b W hW => kindsOf_c b [m0, m1, m2, m3, m4, m5] y W hW HZ6.out hy6)
      have HKZ := hide (fun b W hW => kindsOf_c b [m0, m1, m2, m3, m4, m5] z W hW HZ6.out hw6)
      have hor := bits_or_nat _ _ hby hbz
      have hnt := bits_not_nat _ (tkN n.op) (or_lt hby hbz) htl
      have hsn := sub_not ⟨_, or_lt hby hbz⟩ ⟨tkN n.op, htl⟩
      dsimp only at hsn
      clear h0 h33 h11 HF1 HF2 HF0 HSM
      generalize List.getD [m0, m1, m2, m3, m4, m5] y 0 = my at *
      generalize List.getD [m0, m1, m2, m3, m4, m5] z 0 = mz at *
      generalize tkN n.op = tk at *
      generalize actN n.op = act at *
      have HRR := hide (show R = if decide ((my ||| mz) &&& tk = my ||| mz) then 0 else 5 by rw [HR.out]; by_cases e : (my ||| mz) &&& tk = my ||| mz <;> simp [e])
      clear HR
      generalize decide ((my ||| mz) &&& tk = my ||| mz) = q at *
      generalize (((my ||| mz) &&& (127 ^^^ tk) : Nat) : Int) = nv at *
      generalize ((my ||| mz : Nat) : Int) = ov at *
      cases q
      all_goals
        go_enter Tryz.func50, Tryz.ntmps50
        go_wp2_with fail
        refine (HX.out _ _ (by (show Blk _ _ [.int .i64 m0, .int .i64 m1, .int .i64 m2, .int .i64 m3, .int .i64 m4, .int .i64 m5] _); (repeat' (first | ((with_reducible show (_ : List Value) = _); rfl) | ((with_reducible refine Blk.newAt _ _ _ ?_); first | with_reducible rfl | (simp; done)) | with_reducible refine Blk.alloc ?_ _ | with_reducible refine Blk.drewN ?_ _ | with_reducible refine Blk.drew ?_ | ((with_reducible refine Blk.other ?_ _ ?_); rotate_left; ((try dsimp only); omega)) | with_reducible refine Blk.setB (cs0 := ?_) ?_ ?_)))).mono ?_
        rintro e w' ⟨rfl, rfl⟩
        go_wp2_with fail
        refine (HKY.out _ _ (by (show Blk _ _ [.int .i64 m0, .int .i64 m1, .int .i64 m2, .int .i64 m3, .int .i64 m4, .int .i64 m5] _); (repeat' (first | ((with_reducible show (_ : List Value) = _); rfl) | ((with_reducible refine Blk.newAt _ _ _ ?_); first | with_reducible rfl | (simp; done)) | with_reducible refine Blk.alloc ?_ _ | with_reducible refine Blk.drewN ?_ _ | with_reducible refine Blk.drew ?_ | ((with_reducible refine Blk.other ?_ _ ?_); rotate_left; ((try dsimp only); omega)) | with_reducible refine Blk.setB (cs0 := ?_) ?_ ?_)))).mono ?_
        rintro e w' ⟨rfl, rfl⟩
        go_wp2_with fail
        refine (HKZ.out _ _ (by (show Blk _ _ [.int .i64 m0, .int .i64 m1, .int .i64 m2, .int .i64 m3, .int .i64 m4, .int .i64 m5] _); (repeat' (first | ((with_reducible show (_ : List Value) = _); rfl) | ((with_reducible refine Blk.newAt _ _ _ ?_); first | with_reducible rfl | (simp; done)) | with_reducible refine Blk.alloc ?_ _ | with_reducible refine Blk.drewN ?_ _ | with_reducible refine Blk.drew ?_ | ((with_reducible refine Blk.other ?_ _ ?_); rotate_left; ((try dsimp only); omega)) | with_reducible refine Blk.setB (cs0 := ?_) ?_ ?_)))).mono ?_
        rintro e w' ⟨rfl, rfl⟩
        go_wp2_with fail
        refine (HTK.out _).mono ?_
        rintro e w' ⟨rfl, rfl⟩
        go_wp2
        go_ret
        rw [HRR.out]
        exact ⟨rfl, by (repeat' (first | with_reducible exact Kp.refl _ _ | with_reducible refine Kp.alloc ?_ _ | with_reducible refine Kp.drewN ?_ _ | with_reducible refine Kp.drew ?_ | with_reducible refine Kp.setCell ?_ _ ?_ | (intro hh; first | rfl | exact .inl rfl | exact .inr rfl | (exfalso; (try dsimp only at hh); omega))))⟩
end Go.Proofs.YtellieabhaphhabGreatDoor

/-
  narrowref's Accept.
-/
namespace Go.Proofs.YtellieabhaphhabGreatDoor
open Go.RowKit

/-- What Accept says of a graph. -/
def accF (l : List Nd) : Int × Nat := accG l.length (fauA l (lstF l))

def ei2 (c p : Int) : Ending := .returned (.tuple #[.int .i64 c, .int .i64 p])

end Go.Proofs.YtellieabhaphhabGreatDoor

/-
  Accept: narrow's answer is the answer's.
-/
namespace Go.Proofs.YtellieabhaphhabGreatDoor
open Go.RowKit

set_option maxRecDepth 100000 in
set_option maxHeartbeats 1600000 in
theorem stateOf_b (tb n : Nat) (T : Tbl) (i : Nat) (w : World) (h : Blk w tb (tCells T) 75) (hl : T.length = n) (hi : i < n) :
    Calls Tryz.prog 39 #[.slice (some ⟨tb, 0, none⟩) n n, .int .i64 i] w fun e w' => e = .returned (.agg (zc (encZ (T.getD i []))).toArray) ∧ Kp no w w' := by
  obtain ⟨m0, m1, m2, m3, m4, m5, hm⟩ : ∃ m0 m1 m2 m3 m4 m5, encZ (T.getD i []) = [m0, m1, m2, m3, m4, m5] := by
    match encZ (T.getD i []), encZ6 (T.getD i []) with
    | [m0, m1, m2, m3, m4, m5], _ => exact ⟨m0, m1, m2, m3, m4, m5, rfl⟩
  obtain ⟨c0, c1, c2, c3, c4, c5⟩ := tb_at h (by rw [hl]; exact hi) hm
  have htl := h.lt
  rw [hm]
  have d0 : decide ((i : Int) < 0) = false := by simp
  have d1 : decide ((n : Int) ≤ i) = false := by simp; omega
  have d2 : (i : Int) < n := by omega
  have d3 : decide (n ≤ i) = false := by simp; omega
  clear h hm hl
  go_enter Tryz.func39, Tryz.ntmps39
  go_wp2
  refine body_agg (Tb := 75) (b := w.heap.size) (cs := [.int .i64 m0, .int .i64 m1, .int .i64 m2, .int .i64 m3, .int .i64 m4, .int .i64 m5]) (.inr rfl) Tryz.results39 rfl rfl (by (repeat' (first | ((with_reducible show (_ : List Value) = _); rfl) | ((with_reducible refine Blk.newAt _ _ _ ?_); first | with_reducible rfl | (simp; done)) | with_reducible refine Blk.alloc ?_ _ | with_reducible refine Blk.drewN ?_ _ | with_reducible refine Blk.drew ?_ | ((with_reducible refine Blk.other ?_ _ ?_); rotate_left; ((try dsimp only); omega)) | with_reducible refine Blk.setB (cs0 := ?_) ?_ ?_))) Tryz.underlying75 rfl (by kernel_rfl) ?_
  exact ⟨rfl, by (repeat' (first | with_reducible exact Kp.refl _ _ | with_reducible refine Kp.alloc ?_ _ | with_reducible refine Kp.drewN ?_ _ | with_reducible refine Kp.drew ?_ | with_reducible refine Kp.setCell ?_ _ ?_ | (intro hh; first | rfl | exact .inl rfl | exact .inr rfl | (exfalso; (try dsimp only at hh); omega))))⟩

set_option maxRecDepth 100000 in
set_option maxHeartbeats 1600000 in
theorem firstFault_c (s : ByteArray) (v : Value) (l : List Nd) (tb : Nat) (T : Tbl) (w : World) (h : NRow w v (l.map (encX s))) (hB : Blk w tb (tCells T) 75) (hTl : T.length = l.length) (hT : TOk T) (hl : l.length ≤ 90) (hg : ∀ n ∈ l, Gd s n) :
    Calls Tryz.prog 26 #[v, .slice (some ⟨tb, 0, none⟩) l.length l.length] w fun e w' => e = ei2 (accG l.length (fauA l T)).1 (accG l.length (fauA l T)).2 ∧ Kp no w w' := by
  obtain ⟨a, cap, rfl⟩ := h.shape
  have HD := hide h
  rw [List.length_map]
  have HB := hide hB
  clear h hB
  generalize hAG : accG l.length (fauA l T) = AG at *
  have HAG := hide hAG
  clear hAG
  go_enter Tryz.func26, Tryz.ntmps26
  go_wp2
  go_loopg [12] l.length (fun k iv wr => ∃ j : Nat, j ≤ l.length ∧ k = l.length - j ∧ iv = .int .i64 j ∧ (∀ i, i < j → fauA l T i = 0) ∧ Kp no w wr)
  case atStart => exact ⟨0, Nat.zero_le _, rfl, rfl, fun i hi => by omega, Kp.refl _ _⟩
  case round =>
    obtain ⟨j, hj, hk, rfl, hz, kr⟩ := hrel
    have HKK := hide hk
    have HZ := hide hz
    have HKR := hide kr
    clear hk hz kr
    by_cases hlt : j < l.length
    · obtain ⟨nd, hnd⟩ : ∃ nd, l[j]? = some nd := ⟨_, List.getElem?_eq_getElem hlt⟩
      have HGD := hide (hg nd (List.mem_of_getElem? hnd))
      have HFA := hide (show fauA l T j = fauF nd (T.getD j []) by rw [fauA, hnd])
      obtain ⟨_, gn, ha, hgn, n0, n1, n2, n3, n4, n5, n6, n7, n8, n9, n10⟩ := NRow.at (HKR.out.row HD.out (fun _ _ => no_elim)) (k := j) (n := encX s nd) (by rw [List.getElem?_map, hnd]; rfl)
      subst ha
      have HSO := hide (hT.get j)
      have HST := hide (fun W hW => stateOf_b tb l.length T j W hW hTl hlt)
      have HFO := hide (fun W => faultOf_c nd (s.extract nd.a.toNat (nd.a + nd.l).toNat) (yesN nd) (noN nd) (T.getD j []) W HGD.out.g HSO.out)
      obtain ⟨m0, m1, m2, m3, m4, m5, hm⟩ := z6_six (encZ_z6 HSO.out)
      rw [hm] at HST HFO
      have HST2 : Hid (∀ W, Blk W tb (tCells T) 75 → Calls Tryz.prog 39 #[.slice (some ⟨tb, 0, none⟩) l.length l.length, .int .i64 j] W fun e w' => e = .returned (zv6 m0 m1 m2 m3 m4 m5) ∧ Kp no W w') := HST.out
      rw [show Value.agg (zc [m0, m1, m2, m3, m4, m5]).toArray = zv6 m0 m1 m2 m3 m4 m5 from rfl] at HFO
      rw [← HFA.out] at HFO
      clear HST hm hnd
      dsimp only [encX, encN] at n0 n1 n2 n3 n4 n5 n6 n7 n8 n9 n10
      generalize s.extract nd.a.toNat (nd.a + nd.l).toNat = tx at *
      generalize yesN nd = yn at *
      generalize noN nd = nn at *
      generalize actN nd.op = act at *
      generalize (if nd.op = 43 ∨ nd.op = 60 then nd.v else nd.y) = nwv at *
      generalize (if nd.op = 126 ∨ nd.op = 58 then bit nd.k else 0) = kdv at *
      generalize (consN nd).n = cnn at *
      generalize bit (consN nd).k = ckk at *
      generalize bit (consN nd).v = chh at *
      have hqI : (j : Int) < l.length := by omega
      have HAT := hide (fun hne => accG_at hlt (f := fauA l T) hne HZ.out)
      generalize hF : fauA l T j = F at *
      have HF := hide hF
      clear hF
      go_wp2_with fail
      refine (HST2.out _ ((HKR.out.blk HB.out no_elim).alloc _)).mono ?_
      rintro e w5 ⟨rfl, k5⟩
      have hN5 : Blk w5 wr.heap.size [.string tx, .int .i64 act, .int .i64 nd.x, .int .i64 nd.y, .int .i64 nwv, .int .i64 ckk, .int .i64 cnn, .int .i64 chh, .int .i64 kdv, .int .i64 yn, .int .i64 nn] 68 := k5.blk (by (repeat' (first | ((with_reducible show (_ : List Value) = _); rfl) | ((with_reducible refine Blk.newAt _ _ _ ?_); first | with_reducible rfl | (simp; done)) | with_reducible refine Blk.alloc ?_ _ | with_reducible refine Blk.drewN ?_ _ | with_reducible refine Blk.drew ?_ | ((with_reducible refine Blk.other ?_ _ ?_); rotate_left; ((try dsimp only); omega)) | with_reducible refine Blk.setB (cs0 := ?_) ?_ ?_))) no_elim
      have HK5 := hide (show Kp no w w5 from HKR.out.trans (S' := no) (Kp.trans (by (repeat' (first | with_reducible exact Kp.refl _ _ | with_reducible refine Kp.alloc ?_ _ | with_reducible refine Kp.drewN ?_ _ | with_reducible refine Kp.drew ?_ | with_reducible refine Kp.setCell ?_ _ ?_ | (intro hh; first | rfl | exact .inl rfl | exact .inr rfl | (exfalso; (try dsimp only at hh); omega))))) k5 (fun _ _ e => e)) (fun _ _ e => e))
      clear k5 n0 n1 n2 n3 n4 n5 n6 n7 n8 n9 n10
      obtain ⟨n0, n1, n2, n3, n4, n5, n6, n7, n8, n9, n10, nf⟩ := hN5.c11; have hnl := hN5.lt
      go_wp2_with fail
      refine (HFO.out _).mono ?_
      rintro e w6 ⟨rfl, k6⟩
      have HK6 := hide ((HK5.out.alloc _).trans k6 (fun _ _ e => e))
      by_cases hF0 : F = 0
      · subst hF0
        go_wp2
        go_roundg (l.length - (j + 1))
        case measure => have := HKK.out; omega
        case rel => exact ⟨j + 1, by omega, rfl, by go_num, fun i hi => by
          rcases Nat.lt_or_ge i j with h1 | h1
          · exact HZ.out i h1
          · obtain rfl : i = j := by omega
            exact HF.out, HK6.out⟩
      · have HR := hide (HAT.out hF0)
        have g0 : (F == 0) = false := by simpa using hF0
        have g1 : (F != 0) = true := by simpa using hF0
        clear hF0
        go_wp2
        go_ret2
        rw [← HAG.out, HR.out]
        exact ⟨rfl, HK6.out⟩
    · obtain rfl : j = l.length := by omega
      have HR := hide (accG_none (f := fauA l T) HZ.out)
      go_wp2
      go_ret2
      rw [← HAG.out, HR.out]
      exact ⟨rfl, HKR.out⟩
set_option maxHeartbeats 1600000 in
theorem naccept_good (s : ByteArray) (w : World) (hs : s.size ≤ 900) (hb : graE s = (0, 0)) :
    Calls Tryz.prog 15 #[.string s] w fun e w' => e = ei2 (accF (graF s).nodes).1 (accF (graF s).nodes).2 ∧ Kp no w w' := by
  have HS := hide (nog_c s w hs)
  have hlen := (graF_inv s).2
  unfold NogPost at HS
  rw [hb] at HS
  clear hb
  generalize graF s = st at *
  have HAC : Hid (accF st.nodes = accG st.nodes.length (fauA st.nodes (lstF st.nodes))) := rfl
  go_enter Tryz.func15, Tryz.ntmps15
  go_wp2_with fail
  refine HS.out.mono ?_
  rintro e w2 ⟨v, rfl, k2, hpost⟩
  obtain ⟨hR, hO, hgd⟩ := hpost trivial
  have HL := hide (leastTable_c s v st.nodes w2 hR hlen hgd)
  have HFF := hide (fun tb W (hW : NRow W v (st.nodes.map (encX s))) hB => firstFault_c s v st.nodes tb (lstF st.nodes) W hW hB (lst_len _) (lst_ok _) hlen hgd)
  have HRR := hide hR
  obtain ⟨a, cap, rfl⟩ := hR.shape
  rw [List.length_map] at HL HFF HRR ⊢
  clear hO hgd hpost HS hR
  go_wp2_with fail
  refine HL.out.mono ?_
  rintro e w3 ⟨tb, rfl, hB, k3⟩
  go_wp2_with fail
  refine (HFF.out tb _ (by exact k3.row HRR.out (fun _ _ => no_elim)) (by exact hB)).mono ?_
  rintro e w4 ⟨rfl, k4⟩
  unfold ei2
  go_wp2
  go_ret2
  rw [HAC.out]
  exact ⟨rfl, (k2.trans k3 (fun _ _ e => e)).trans k4 (fun _ _ e => e)⟩

end Go.Proofs.YtellieabhaphhabGreatDoor

/-
  narrow's nodes: a row that grows.
-/
namespace Go.Proofs.YtellieabhaphhabGreatDoor
open Go.RowKit

/-- The nodes that are left so far. -/
structure KN (w0 w : World) (v : Value) (l : List NN) : Prop where
  r : NRow w v l
  o : New w0 v

theorem KN.kp {w0 w w' : World} {v : Value} {l : List NN} (h : KN w0 w v l) (k : Kp no w w') : KN w0 w' v l := ⟨k.row h.r (fun _ _ => no_elim), h.o⟩
theorem KN.set {w0 w : World} {v : Value} {l : List NN} (h : KN w0 w v l) {b o : Nat} (u : Value) (hb : v.ownBlock ≠ some b) : KN w0 (w.setCell ⟨b, o, none⟩ u) v l := ⟨Row.set h.r _ hb, h.o⟩

theorem nncells_snoc {l : List NN} {n : NN} : nnCells (l ++ [n]) = nnCells l ++ n.cells := by
  rw [nnCells, List.flatMap_append, ← nnCells, List.flatMap_cons, List.flatMap_nil, List.append_nil]

theorem nrow_snoc {W' : World} {l : List NN} {n : NN} {g cap : Nat}
    (hown : W'.ownsRow 0 68 11 (.slice (some ⟨g, 0, none⟩) (l.length + 1) cap) (l.length + 1) (nnCells l ++ n.cells)) : NRow W' (.slice (some ⟨g, 0, none⟩) (l.length + 1) cap) (l ++ [n]) := by
  have e4 : (l ++ [n]).length = l.length + 1 := List.length_append
  show World.ownsRow W' 0 68 11 _ (l ++ [n]).length (nnCells (l ++ [n]))
  rw [nncells_snoc, e4]
  exact hown

theorem KN.app {w0 W W' : World} {v : Value} {l : List NN} {o : Obj} {g cap : Nat} (n : NN) (h : KN w0 W v l) (hk : Kp no w0 W)
    (hown : W'.ownsRow 0 68 11 (.slice (some ⟨g, 0, none⟩) (l.length + 1) cap) (l.length + 1) (nnCells l ++ n.cells)) (hgrow : (W.alloc o).grownBy W' v.ownBlock) (hat : v.ownBlock = some g ∨ g = (W.alloc o).heap.size) :
    KN w0 W' (.slice (some ⟨g, 0, none⟩) (l.length + 1) cap) (l ++ [n]) ∧ Kp no w0 W' :=
  ⟨⟨nrow_snoc hown, (app_step h.o hk hgrow hat (l.length + 1) cap).1⟩, (app_step h.o hk hgrow hat (l.length + 1) cap).2⟩

end Go.Proofs.YtellieabhaphhabGreatDoor
