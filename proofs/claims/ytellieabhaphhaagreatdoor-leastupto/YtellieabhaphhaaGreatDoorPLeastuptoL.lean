import Derived.Test.YtellieabhaphhaaGreatDoorPLeastuptoK
/-
  Plain: the least table is at rest; its text.
-/
namespace Go.Proofs.YtellieabhaphhaaGreatDoor
open Go.RowKit

theorem zip_get (a b : St) (v : Nat) (ha : v < a.length) (hb : v < b.length) : (List.zipWith (· ||| ·) a b).getD v 0 = a.getD v 0 ||| b.getD v 0 := by
  rw [List.getD_eq_getElem?_getD, List.getD_eq_getElem?_getD, List.getD_eq_getElem?_getD, List.getElem?_zipWith, List.getElem?_eq_getElem ha, List.getElem?_eq_getElem hb]
  rfl

theorem SubS.join {s a : St} (b : St) (hs : s ≠ []) (h : SubS s a) (hb : SOk b) : SubS s (joinR a b).1 := by
  rcases h with h | ⟨h1, h2, h3⟩
  · exact absurd h hs
  · unfold joinR
    split
    · exact .inr ⟨h1, h2, h3⟩
    · rename_i hb0
      rw [if_neg (fun e => by rw [e] at h2; cases h2)]
      have l2 := (hb.resolve_left hb0).1
      refine .inr ⟨h1, by simp [List.length_zipWith, h2, l2], fun v hv => ?_⟩
      show s.getD v 0 &&& (List.zipWith (· ||| ·) a b).getD v 0 = _
      rw [zip_get a b v (by omega) (by omega), Nat.and_or_distrib_left, h3 v hv]
      apply Nat.eq_of_testBit_eq
      intro i
      rw [Nat.testBit_or, Nat.testBit_and]
      cases (s.getD v 0).testBit i <;> simp

def flT (T : Tbl) : List UInt8 := T.flatMap (fun s => (txS s).data.toList ++ [59])

theorem spl_flat (T : Tbl) : (splB T).data.toList = flT T := by
  have key : ∀ (T : Tbl) (a : ByteArray), (T.foldl rowB a).data.toList = a.data.toList ++ flT T := by
    intro T
    induction T with
    | nil => intro a; simp [flT]
    | cons s T ih =>
      intro a
      rw [List.foldl_cons, ih, rowB_tx]
      simp [flT]
  exact (key T ⟨#[]⟩).trans (by simp)

theorem cel_skip : ∀ (l : List UInt8) (rest acc : List UInt8) (i : Nat), (∀ c ∈ l, ¬ c = 59) → celL (l ++ rest) acc i = celL rest (acc ++ l) i
  | [], rest, acc, i, _ => by simp
  | c :: l, rest, acc, i, h => by
    rw [List.cons_append, celL_ne (h c (List.mem_cons_self ..)), cel_skip l rest _ i (fun x hx => h x (List.mem_cons_of_mem _ hx)), List.append_assoc, List.singleton_append]

theorem cel_flat : ∀ (T : Tbl) (i : Nat), (∀ s ∈ T, ∀ c ∈ (txS s).data.toList, ¬ c = 59) → celL (flT T) [] i = (T[i]?).map (fun s => (txS s).data.toList)
  | [], i, _ => by simp [flT, celL]
  | s :: T, i, h => by
    have e : flT (s :: T) = (txS s).data.toList ++ (59 :: flT T) := by simp [flT]
    rw [e, cel_skip _ _ _ _ (h s (List.mem_cons_self ..))]
    cases i with
    | zero => rw [celL_zero]; simp
    | succ i => rw [celL_end, cel_flat T i (fun x hx => h x (List.mem_cons_of_mem _ hx))]; simp

theorem sg_mem {m : Nat} {c : UInt8} (h : c ∈ (sgB m).data.toList) : c ∈ KS := by
  have h' : c ∈ KS.filter (fun u => m.testBit (kix u.toNat)) := h
  exact (List.mem_filter.1 h').1

theorem stB_flat : ∀ (s : St) (a : ByteArray), (stB a s).data.toList = a.data.toList ++ s.flatMap (fun m => (sgB m).data.toList ++ [46])
  | [], a => by simp [stB]
  | m :: s, a => by
    show (stB (a ++ sgB m ++ ⟨#[46]⟩) s).data.toList = _
    rw [stB_flat s]
    simp

theorem tx_no (s : St) : ∀ c ∈ (txS s).data.toList, ¬ c = 59 := by
  intro c hc
  unfold txS at hc
  split at hc
  · obtain rfl : c = 63 := by simpa using hc
    decide
  · rw [stB_flat] at hc
    obtain ⟨m, _, h2⟩ := List.mem_flatMap.1 (show c ∈ s.flatMap (fun m => (sgB m).data.toList ++ [46]) by simpa using hc)
    rcases List.mem_append.1 h2 with h | h
    · have := sg_mem h
      intro e
      rw [e] at this
      exact absurd this (by decide)
    · obtain rfl : c = 46 := by simpa using h
      decide

theorem sta_skip : ∀ (l rest : List UInt8) (ss : List ByteArray) (cur : ByteArray), (∀ c ∈ l, c ∈ KS) → staB (l ++ rest) ss cur = staB rest ss ⟨cur.data ++ l.toArray⟩
  | [], rest, ss, cur, _ => by simp
  | c :: l, rest, ss, cur, h => by
    have hc := h c (List.mem_cons_self ..)
    have h46 : ¬ c = 46 := fun e => by rw [e] at hc; exact absurd hc (by decide)
    have ha : amF c.toNat KS = true := by
      unfold amF
      rw [List.any_eq_true]
      exact ⟨c, hc, by simp⟩
    rw [List.cons_append, staB_in h46 ha, sta_skip l rest ss _ (fun x hx => h x (List.mem_cons_of_mem _ hx))]
    congr 1
    apply ByteArray.ext
    show (cur.data.push c) ++ l.toArray = cur.data ++ (c :: l).toArray
    apply Array.ext'
    simp

theorem sta_sets : ∀ (s : St) (ss : List ByteArray), staB (s.flatMap (fun m => (sgB m).data.toList ++ [46])) ss ⟨#[]⟩ = some (ss ++ s.map sgB, ⟨#[]⟩)
  | [], ss => by simp [staB]
  | m :: s, ss => by
    have e : (m :: s).flatMap (fun m => (sgB m).data.toList ++ [46]) = (sgB m).data.toList ++ (46 :: s.flatMap (fun m => (sgB m).data.toList ++ [46])) := by simp
    rw [e, sta_skip _ _ _ _ (fun c hc => sg_mem hc), staB_dot, sta_sets s]
    have e2 : (⟨(⟨#[]⟩ : ByteArray).data ++ (sgB m).data.toList.toArray⟩ : ByteArray) = sgB m := by
      apply ByteArray.ext
      simp
    rw [e2]
    simp

theorem sta_tx {s : St} (h : SOk s) : staF (txS s) = (s.map sgB, true) := by
  unfold staF txS
  by_cases h0 : s = []
  · subst h0; rfl
  · rw [if_neg h0]
    have h6 := (h.resolve_left h0).1
    have hf := stB_flat s ⟨#[]⟩
    have hne : ¬ stB ⟨#[]⟩ s = ⟨#[63]⟩ := by
      intro e
      have hm : (46 : UInt8) ∈ (stB ⟨#[]⟩ s).data.toList := by
        rw [hf]
        obtain ⟨m, s', rfl⟩ := List.exists_cons_of_ne_nil h0
        simp
      rw [e] at hm
      exact absurd hm (by decide)
    rw [if_neg hne, hf]
    show (match staB (s.flatMap (fun m => (sgB m).data.toList ++ [46])) [] ⟨#[]⟩ with | none => (([] : List ByteArray), false) | some (ss, cur) => (ss, decide (ss.length = 6 ∧ cur = (⟨#[]⟩ : ByteArray)))) = _
    rw [sta_sets]
    show (([] : List ByteArray) ++ s.map sgB, decide ((([] : List ByteArray) ++ s.map sgB).length = 6 ∧ (⟨#[]⟩ : ByteArray) = ⟨#[]⟩)) = _
    rw [List.nil_append]
    congr 1
    rw [decide_eq_true_iff]
    exact ⟨by rw [List.length_map]; exact h6, rfl⟩

theorem spl_size (T : Tbl) (h : TOk T) : (splB T).size ≤ 49 * T.length := by
  have e : (splB T).size = (flT T).length := by rw [← spl_flat]; rfl
  rw [e]
  clear e
  induction T with
  | nil => exact Nat.le_refl _
  | cons s T ih =>
    have h1 := txS_size s (h s (List.mem_cons_self ..))
    have h2 := ih (fun x hx => h x (List.mem_cons_of_mem _ hx))
    have e : (flT (s :: T)).length = (txS s).size + 1 + (flT T).length := by
      show ((s :: T).flatMap _).length = _
      rw [List.flatMap_cons, List.length_append, List.length_append]
      rfl
    rw [e, List.length_cons]
    omega

theorem tt_spl {T : Tbl} (h : TOk T) (hl : T.length ≤ 90) : TT (splB T) T := by
  have hc : ∀ i, celF (splB T) i = (T[i]?).map txS := by
    intro i
    unfold celF
    rw [spl_flat, cel_flat T i (fun s _ => tx_no s)]
    cases T[i]? with
    | none => rfl
    | some s => rfl
  refine ⟨fun i hi => ?_, ?_, ?_, hl, h, fun i _ => sta_tx (h.get i)⟩
  · rw [hc, List.getD_eq_getElem?_getD, List.getElem?_eq_getElem hi]; rfl
  · rw [hc, List.getElem?_eq_none (Nat.le_refl _)]; rfl
  · have := spl_size T h; omega
end Go.Proofs.YtellieabhaphhaaGreatDoor

/-
  Plain: the least table lies within every table that obeys.
-/
namespace Go.Proofs.YtellieabhaphhaaGreatDoor
open Go.RowKit

/-- The state s comes to no more than R says of place j (of n lines). -/
def RchR (n : Nat) (R : Nat → St) (j : Int) (s : St) : Prop := j < 0 ∨ (n : Int) ≤ j ∨ s = [] ∨ SubS s (R j.toNat)

def KeepsR (n : Nat) (nd : Nd) (R : Nat → St) (S : St) : Prop :=
  S = [] ∨ ((¬ (nd.op = 121 ∨ nd.op = 58) → RchR n R nd.t (behF nd S)) ∧ (nd.op = 121 ∨ nd.op = 58 → RchR n R nd.t (hldF nd true S) ∧ RchR n R nd.f (hldF nd false S)))

/-- R obeys the graph of the nodes l. -/
def ObR (l : List Nd) (R : Nat → St) : Prop := (l ≠ [] → SubS st0 (R 0)) ∧ ∀ i nd, l[i]? = some nd → KeepsR l.length nd R (R i)

theorem and_sub {a b : Nat} (k : Nat) (h : a &&& b = a) : (a &&& k) &&& (b &&& k) = a &&& k := by
  apply Nat.eq_of_testBit_eq
  intro i
  have := congrArg (fun z => z.testBit i) h
  simp only [Nat.testBit_and] at this ⊢
  revert this
  cases a.testBit i <;> cases b.testBit i <;> cases k.testBit i <;> simp

theorem sub_tr {a b c : Nat} (h : a &&& b = a) (k : b &&& c = b) : a &&& c = a := by
  apply Nat.eq_of_testBit_eq
  intro i
  have h1 := congrArg (fun z => z.testBit i) h
  have h2 := congrArg (fun z => z.testBit i) k
  simp only [Nat.testBit_and] at h1 h2 ⊢
  revert h1 h2
  cases a.testBit i <;> cases b.testBit i <;> cases c.testBit i <;> simp

theorem sub_or {a b c : Nat} (h : a &&& c = a) (k : b &&& c = b) : (a ||| b) &&& c = a ||| b := by
  apply Nat.eq_of_testBit_eq
  intro i
  have h1 := congrArg (fun z => z.testBit i) h
  have h2 := congrArg (fun z => z.testBit i) k
  simp only [Nat.testBit_and, Nat.testBit_or] at h1 h2 ⊢
  revert h1 h2
  cases a.testBit i <;> cases b.testBit i <;> cases c.testBit i <;> simp

theorem sub_bit {a b : Nat} (h : a &&& b = a) (i : Nat) (ha : a.testBit i = true) : b.testBit i = true := by
  have h1 := congrArg (fun z => z.testBit i) h
  simp only [Nat.testBit_and] at h1
  revert h1
  rw [ha]
  cases b.testBit i <;> simp

theorem SubS.nil_r {a : St} (h : SubS a []) : a = [] := by
  rcases h with h | ⟨_, h, _⟩
  · exact h
  · cases h

theorem SubS.trans {a b c : St} (h : SubS a b) (k : SubS b c) : SubS a c := by
  rcases h with h | ⟨h1, h2, h3⟩
  · exact .inl h
  · rcases k with rfl | ⟨k1, k2, k3⟩
    · cases h2
    · exact .inr ⟨h1, k2, fun v hv => sub_tr (h3 v hv) (k3 v hv)⟩

theorem SubS.get {a b : St} (h : SubS a b) (v : Nat) : a.getD v 0 &&& b.getD v 0 = a.getD v 0 := by
  rcases h with rfl | ⟨h1, h2, h3⟩
  · simp
  · by_cases hv : v < 6
    · exact h3 v hv
    · rw [List.getD_eq_getElem?_getD, List.getElem?_eq_none (by omega)]
      simp

theorem SubS.wth {a b : St} (h : SubS a b) (x : Nat) {m k : Nat} (hm : m &&& k = m) : SubS (withS a x m) (withS b x k) := by
  unfold withS
  by_cases hc : a = [] ∨ m = 0
  · rw [if_pos hc]; exact .inl rfl
  · rw [if_neg hc]
    obtain ⟨h1, h2, h3⟩ := h.resolve_left (fun e => hc (.inl e))
    have hb : ¬ (b = [] ∨ k = 0) := by
      rintro (rfl | rfl)
      · cases h2
      · simp at hm; exact hc (.inr hm.symm)
    rw [if_neg hb]
    refine .inr ⟨by simpa using h1, by simpa using h2, fun v hv => ?_⟩
    by_cases hx : x = v
    · subst hx
      simp only [List.getD_eq_getElem?_getD]
      rw [List.getElem?_set_self (by omega), List.getElem?_set_self (by omega)]
      exact hm
    · have := h3 v hv
      simp only [List.getD_eq_getElem?_getD] at this ⊢
      rw [List.getElem?_set_ne hx, List.getElem?_set_ne hx]
      exact this

theorem givN_sub (op : Int) {y z : Nat} (h : y &&& z = y) : givN op y &&& givN op z = givN op y := by
  unfold givN
  repeat' split
  all_goals first
    | exact h
    | exact Nat.and_self _
    | skip
  all_goals
    rename_i h4 h5
    first
      | rfl
      | (exfalso; simp_all [sub_bit h])
      | simp_all

theorem SubS.hld {a b : St} (h : SubS a b) (n : Nd) (y : Bool) : SubS (hldF n y a) (hldF n y b) := h.wth _ (and_sub _ (h.get _))

theorem SubS.ne {a b : St} (h : SubS a b) (ha : a ≠ []) : b ≠ [] := fun e => ha (SubS.nil_r (e ▸ h))

theorem SubS.beh {a b : St} (h : SubS a b) (n : Nd) : SubS (behF n a) (behF n b) := by
  unfold behF
  by_cases h1 : n.op = 33
  · rw [if_pos h1, if_pos h1]; exact .inl rfl
  rw [if_neg h1, if_neg h1]
  by_cases h2 : n.op = 42 ∨ n.op = 94
  · rw [if_pos h2, if_pos h2]; exact h
  rw [if_neg h2, if_neg h2]
  by_cases h3 : n.op = 126
  · rw [if_pos h3, if_pos h3]; exact h.wth _ (and_sub _ (h.get _))
  rw [if_neg h3, if_neg h3]
  have hy := and_sub (tkN n.op) (h.get n.y.toNat)
  have hw := h.wth n.y.toNat hy
  have hg := givN_sub n.op hy
  generalize withS a n.y.toNat (a.getD n.y.toNat 0 &&& tkN n.op) = a1 at *
  generalize withS b n.y.toNat (b.getD n.y.toNat 0 &&& tkN n.op) = b1 at *
  by_cases ha : a1 = []
  · subst ha
    rw [if_neg (by simp)]
    exact .inl (by simp [withS])
  · have hb := hw.ne ha
    by_cases h4 : n.op = 43 ∨ n.op = 60
    · rw [if_pos ⟨ha, h4⟩, if_pos ⟨hb, h4⟩]
      exact (hw.wth _ (and_sub _ (hw.get _))).wth _ hg
    · rw [if_neg (fun e => h4 e.2), if_neg (fun e => h4 e.2)]
      exact hw.wth _ hg

theorem SubS.lub {a b c : St} (h : SubS a c) (k : SubS b c) : SubS (joinR a b).1 c := by
  unfold joinR
  by_cases hb : b = []
  · rw [if_pos hb]; exact h
  rw [if_neg hb]
  by_cases ha : a = []
  · rw [if_pos ha]; exact k
  rw [if_neg ha]
  obtain ⟨a6, c6, hv⟩ := h.resolve_left ha
  obtain ⟨b6, _, kv⟩ := k.resolve_left hb
  refine .inr ⟨by rw [List.length_zipWith]; omega, c6, fun v hv6 => ?_⟩
  rw [zip_get a b v (by omega) (by omega)]
  exact sub_or (hv v hv6) (kv v hv6)

/-- The table lies within R, line by line. -/
def TSub (n : Nat) (T : Tbl) (R : Nat → St) : Prop := ∀ i, i < n → SubS (T.getD i []) (R i)

theorem TSub.into {n : Nat} {T : Tbl} {R : Nat → St} (h : TSub n T R) {j : Int} {s : St} (hs : RchR n R j s) : TSub n (intoF T j s).1 R := by
  unfold intoF
  by_cases hc : 0 ≤ j ∧ j < T.length
  · rw [if_pos hc]
    intro i hi
    show SubS ((T.set j.toNat _).getD i []) (R i)
    by_cases he : j.toNat = i
    · subst he
      rw [List.getD_eq_getElem?_getD, List.getElem?_set_self (by omega), Option.getD_some]
      refine (h _ hi).lub ?_
      rcases hs with hs | hs | hs | hs
      · omega
      · omega
      · exact .inl hs
      · exact hs
    · rw [List.getD_eq_getElem?_getD, List.getElem?_set_ne he, ← List.getD_eq_getElem?_getD]
      exact h i hi
  · rw [if_neg hc]; exact h

theorem RchR.sub {n : Nat} {R : Nat → St} {j : Int} {s t : St} (h : RchR n R j t) (k : SubS s t) : RchR n R j s := by
  rcases h with h | h | h | h
  · exact .inl h
  · exact .inr (.inl h)
  · subst h; exact .inr (.inr (.inl k.nil_r))
  · exact .inr (.inr (.inr (k.trans h)))

theorem TSub.pas {n : Nat} {T : Tbl} {R : Nat → St} (h : TSub n T R) {nd : Nd} {i : Nat} (hi : i < n) (hk : KeepsR n nd R (R i)) : TSub n (pasF nd i T).1 R := by
  unfold pasF
  by_cases h0 : T.getD i [] = []
  · rw [if_pos h0]; exact h
  rw [if_neg h0]
  have hs := h i hi
  obtain ⟨k1, k2⟩ := hk.resolve_left (hs.ne h0)
  by_cases ht : nd.op = 121 ∨ nd.op = 58
  · rw [if_pos ht]
    exact (h.into ((k2 ht).1.sub (hs.hld nd true))).into ((k2 ht).2.sub (hs.hld nd false))
  · rw [if_neg ht]
    exact h.into ((k1 ht).sub (hs.beh nd))

theorem TSub.swp {n : Nat} {R : Nat → St} : ∀ (l : List Nd) (i : Nat) (T : Tbl), (∀ k nd, l[k]? = some nd → i + k < n ∧ KeepsR n nd R (R (i + k))) → TSub n T R → TSub n (swpF l i T).1 R
  | [], _, _, _, h => h
  | nd :: l, i, T, hk, h => by
    rw [swpF]
    have h0 := hk 0 nd rfl
    exact TSub.swp l (i + 1) _ (fun k nd' e => by
      have := hk (k + 1) nd' (by simpa using e)
      rw [show i + 1 + k = i + (k + 1) by omega]
      exact this) (h.pas h0.1 h0.2)

theorem TSub.it {n : Nat} {R : Nat → St} {l : List Nd} (hk : ∀ k nd, l[k]? = some nd → 0 + k < n ∧ KeepsR n nd R (R (0 + k))) : ∀ (k : Nat) (T : Tbl), TSub n T R → TSub n (itF l k T) R
  | 0, _, h => h
  | k + 1, T, h => by rw [itF]; exact TSub.it hk k _ (TSub.swp l 0 T hk h)

/-- The least table lies within R, if R obeys. -/
theorem lst_least {l : List Nd} {R : Nat → St} (h : ObR l R) (i : Nat) (hi : i < l.length) : SubS ((lstF l).getD i []) (R i) := by
  have key : TSub l.length (itF l 4000 (tR l.length)) R := by
    refine TSub.it (fun k nd e => ?_) 4000 _ ?_
    · rw [Nat.zero_add]
      exact ⟨(List.getElem?_eq_some_iff.1 e).1, h.2 k nd e⟩
    · intro k hk
      unfold tR
      cases k with
      | zero => exact h.1 (fun e => by rw [e] at hi; exact absurd hi (Nat.not_lt_zero _))
      | succ k =>
        refine .inl ?_
        rw [List.getD_cons_succ, List.getD_eq_getElem?_getD, List.getElem?_replicate]
        split <;> rfl
  have := key i hi
  unfold lstF
  rwa [getD_take hi]
end Go.Proofs.YtellieabhaphhaaGreatDoor

/-
  The outright laws: the lines of a table.
-/
namespace Go.Proofs.YtellieabhaphhaaGreatDoor
open Go.RowKit

set_option maxHeartbeats 1600000 in
theorem cell_c (t : ByteArray) (i : Nat) (w : World) (ht : t.size ≤ 100000) (hi : i ≤ 1000) :
    Calls Tryz.prog 28 #[.string t, .int .i64 i] w fun e w' => e = .returned (.tuple #[.string ((celF t i).getD ⟨#[]⟩), .bool (celF t i).isSome]) ∧ w' = w := by
  have HV : Hid (celF t i = (celL t.data.toList [] i).map (fun l => ⟨l.toArray⟩)) := rfl
  go_enter Tryz.func28, Tryz.ntmps28
  go_wp2
  go_loopg [1, 6, 7] t.size (fun k iv fv kv wr => ∃ a b j : Nat, j ≤ t.size ∧ b ≤ j ∧ k = t.size - j ∧ kv = .int .i64 j ∧ fv = .int .i64 b ∧ iv = .int .i64 a ∧ a ≤ 1000 ∧ celL t.data.toList [] i = celL (t.data.toList.drop j) ((t.data.toList.take j).drop b) a ∧ wr = w)
  case atStart => exact ⟨i, 0, 0, Nat.zero_le _, Nat.zero_le _, rfl, rfl, rfl, rfl, hi, by simp, rfl⟩
  case round =>
    obtain ⟨a, b, j, hj, hb, hk, rfl, rfl, rfl, ha, hE, rfl⟩ := hrel
    have HK := hide hk
    have HE := hide hE
    clear hk hE
    by_cases hlt : j < t.size
    · have hl2 : j < t.data.toList.length := hlt
      have HD := hide (show t.data.toList.drop j = t.data.toList[j] :: t.data.toList.drop (j + 1) from List.drop_eq_getElem_cons hl2)
      have HT := hide (show t.data.toList.take (j + 1) = t.data.toList.take j ++ [t.data.toList[j]] from List.take_succ_eq_append_getElem hl2)
      by_cases hc : t[j] = 59
      · have hc' : ((t[j].toNat : Int) == 59) = true := by rw [hc]; rfl
        have HC := hide (show t.data.toList[j] = 59 from hc)
        rw [HC.out] at HD HT
        clear hc
        cases a with
        | zero =>
          have HR := hide (show celF t i = some (t.extract b j) by
            rw [HV.out, HE.out, HD.out, celL_zero, ext_mk]
            rfl)
          go_wp2
          go_ret2
          rw [HR.out]
          exact ⟨rfl, rfl⟩
        | succ a =>
          have hz : (((a + 1 : Nat) : Int) == 0) = false := by simp; omega
          have HR := hide (show celL t.data.toList [] i = celL (t.data.toList.drop (j + 1)) ((t.data.toList.take (j + 1)).drop (j + 1)) a by
            have e0 : (t.data.toList.take (j + 1)).drop (j + 1) = [] := List.drop_eq_nil_of_le (by rw [List.length_take]; omega)
            rw [HE.out, HD.out, celL_end, e0])
          go_wp2
          go_roundg (t.size - (j + 1))
          case measure => have := HK.out; omega
          case rel => exact ⟨a, j + 1, j + 1, by omega, Nat.le_refl _, rfl, by go_num, by go_num, by go_num, by omega, HR.out, rfl⟩
      · have hc' : ((t[j].toNat : Int) == 59) = false := by
          rw [beq_eq_false_iff_ne]
          intro e
          exact hc (UInt8.toNat_inj.1 (by show t[j].toNat = 59; omega))
        have HC := hide (show ¬ t.data.toList[j] = 59 from hc)
        have HR := hide (show celL t.data.toList [] i = celL (t.data.toList.drop (j + 1)) ((t.data.toList.take (j + 1)).drop b) a by
          rw [HE.out, HD.out, celL_ne HC.out, HT.out, List.drop_append_of_le_length (by rw [List.length_take]; omega)])
        clear hc
        go_wp2
        go_roundg (t.size - (j + 1))
        case measure => have := HK.out; omega
        case rel => exact ⟨a, b, j + 1, by omega, by omega, rfl, by go_num, rfl, rfl, ha, HR.out, rfl⟩
    · have HN := hide (show celF t i = none by
        rw [HV.out, HE.out, List.drop_eq_nil_of_le (by show t.data.toList.length ≤ j; have : t.data.toList.length = t.size := rfl; omega)]
        rfl)
      go_wp2
      go_ret2
      rw [HN.out]
      exact ⟨rfl, rfl⟩
end Go.Proofs.YtellieabhaphhaaGreatDoor

/-
  The outright laws: a line of a table, as sets.
-/
namespace Go.Proofs.YtellieabhaphhaaGreatDoor
open Go.RowKit

/-- A row of strings. -/
abbrev StrR (w : World) (v : Value) (L : List ByteArray) : Prop := Row w v 9 1 L.length (L.map Value.string)

theorem StrR.nil (w : World) : StrR w (.slice none 0 0) [] := ⟨rfl, .inl ⟨rfl, rfl⟩⟩

theorem StrR.shape {w : World} {v : Value} {L : List ByteArray} (h : StrR w v L) : ∃ a cap, v = .slice a L.length cap := by
  rcases h.2 with ⟨rfl, h0⟩ | ⟨g, cap, cur, rfl, _⟩
  · exact ⟨none, 0, by rw [h0]⟩
  · exact ⟨_, _, rfl⟩

theorem str_snoc {W' : World} {ss : List ByteArray} {c : ByteArray} {g cap : Nat}
    (hown : W'.ownsRow 0 9 1 (.slice (some ⟨g, 0, none⟩) (ss.length + 1) cap) (ss.length + 1) (ss.map Value.string ++ [.string c])) : StrR W' (.slice (some ⟨g, 0, none⟩) (ss.length + 1) cap) (ss ++ [c]) := by
  have e4 : (ss ++ [c]).length = ss.length + 1 := List.length_append
  show World.ownsRow W' 0 9 1 _ (ss ++ [c]).length ((ss ++ [c]).map Value.string)
  rw [List.map_append, e4]
  exact hown

set_option maxRecDepth 100000 in
set_option maxHeartbeats 1600000 in
theorem state_c (t : ByteArray) (w : World) (ht : t.size ≤ 100000) :
    Calls Tryz.prog 43 #[.string t] w fun e w' => ∃ u, e = .returned (.tuple #[u, .bool (staF t).2]) ∧ StrR w' u (staF t).1 ∧ New w u ∧ Kp no w w' := by
  obtain ⟨i0, hi0, hz0, hz1, hz2⟩ := info_parts info_str
  by_cases hq : t = ⟨#[63]⟩
  · have HE := hide (show staF t = ([], true) by rw [staF, if_pos hq])
    subst hq
    rw [HE.out]
    go_enter Tryz.func43, Tryz.ntmps43
    go_wp2
    go_ret2
    exact ⟨_, rfl, StrR.nil _, New.none _, Kp.refl _ _⟩
  · have HE := hide (show staF t = match staB t.data.toList [] ⟨#[]⟩ with | none => ([], false) | some (ss, cur) => (ss, decide (ss.length = 6 ∧ cur = ⟨#[]⟩)) by rw [staF, if_neg hq]; rfl)
    have hq' : (t.toList == [63]) = false := by
      rw [beq_eq_false_iff_ne]
      intro e
      rw [ByteArray.toList_eq] at e
      exact hq (ByteArray.ext (Array.ext' e))
    clear hq
    have HIN := hide (fun c W => fin_c c ⟨#[110, 116, 102, 122, 65, 66, 67]⟩ W (by decide))
    have hks : (⟨#[110, 116, 102, 122, 65, 66, 67]⟩ : ByteArray).data.toList = KS := rfl
    rw [hks] at HIN
    clear hks
    go_enter Tryz.func43, Tryz.ntmps43
    go_wp2
    clear hq'
    go_loopg [4, 5, 6] t.size (fun k sv cv jv wr => ∃ (ss : List ByteArray) (cur : ByteArray) (j : Nat), j ≤ t.size ∧ k = t.size - j ∧ jv = .int .i64 j ∧ cv = .string cur ∧ StrR wr sv ss ∧ New w sv ∧ Kp no w wr ∧ staB t.data.toList [] ⟨#[]⟩ = staB (t.data.toList.drop j) ss cur ∧ cur.size ≤ j ∧ ss.length ≤ j)
    case atStart => exact ⟨[], ⟨#[]⟩, 0, Nat.zero_le _, rfl, rfl, rfl, StrR.nil _, New.none _, Kp.refl _ _, by simp, Nat.le_refl _, Nat.le_refl _⟩
    case round =>
      obtain ⟨ss, cur, j, hj, hk, rfl, rfl, hss, hnew, kr, hE, hcur, hsl⟩ := hrel
      have HK := hide hk
      have HE2 := hide hE
      have HSS := hide hss
      have HNW := hide hnew
      have HKR := hide kr
      obtain ⟨la, lc, rfl⟩ := hss.shape
      clear hk hE hss hnew kr
      by_cases hlt : j < t.size
      · have HD := hide (show t.data.toList.drop j = t[j] :: t.data.toList.drop (j + 1) from List.drop_eq_getElem_cons (show j < t.data.toList.length from hlt))
        have HPX := hide (push_ext cur t j hlt)
        have HA : Hid (∀ W : World, Calls Tryz.prog 74 #[.string ⟨#[110, 116, 102, 122, 65, 66, 67]⟩, .int .u8 (t[j].toNat : Nat)] W fun e w' => e = .returned (.bool (amF t[j].toNat KS)) ∧ w' = W) := fun W => HIN.out t[j].toNat W
        clear HIN
        by_cases hc : t[j] = 46
        · have hc' : ((t[j].toNat : Int) == 46) = true := by rw [hc]; rfl
          rw [hc] at HD
          have HR := hide (show staB t.data.toList [] ⟨#[]⟩ = staB (t.data.toList.drop (j + 1)) (ss ++ [cur]) ⟨#[]⟩ by rw [HE2.out, HD.out, staB_dot])
          have hone : ∀ u ∈ ([.string cur] : List Value), u.oneCell' = true := by simp [Value.oneCell']
          clear hc
          go_wp2_with (first
            | (go_at_call 74; refine (HA.out _).mono ?_; rintro e w' ⟨rfl, hw⟩; obtain rfl := hw.symm)
            | (at_builtin; refine wpList_append_lies _ rfl (.tmp 24) (.tmp 26) 65 rfl 0 9 i0 _ 1 16 Tryz.underlying65 hi0 hz0 hz1 hz2 rfl (by decide) (.slice la ss.length lc) ss.length (ss.map Value.string) (by simp [Act.eval]) (by exact World.ownsRow.alloc HSS.out _) ⟨wr.heap.size, 0, none⟩ 1 1 [.string cur] (by simp [Act.eval]) rfl (by exact Blk.news (Blk.new wr [.string cur] _)) hone (by decide) (by unfold maxLen; omega) (by omega) (Nat.zero_le _) _ rfl ?_; intro g cap w' hown hgrow hat hlt))
          go_roundg (t.size - (j + 1))
          case measure => have := HK.out; omega
          case rel =>
            have hap := app_step HNW.out HKR.out hgrow hat (ss.length + 1) cap
            exact ⟨ss ++ [cur], ⟨#[]⟩, j + 1, by omega, rfl, by go_num, rfl, str_snoc hown, hap.1, hap.2, HR.out, Nat.zero_le _, by rw [List.length_append]; exact Nat.add_le_add_right hsl 1⟩
        · have hc' : ((t[j].toNat : Int) == 46) = false := by
            rw [beq_eq_false_iff_ne]
            intro e
            exact hc (UInt8.toNat_inj.1 (by show t[j].toNat = 46; omega))
          cases ha : amF t[j].toNat KS
          · rw [ha] at HA
            have HR := hide (show staF t = ([], false) by rw [HE.out, HE2.out, HD.out, staB_no hc ha])
            clear hc ha
            go_wp2_with (go_at_call 74; refine (HA.out _).mono ?_; rintro e w' ⟨rfl, rfl⟩)
            go_ret2
            rw [HR.out]
            exact ⟨_, rfl, StrR.nil _, New.none _, HKR.out⟩
          · rw [ha] at HA
            have HR := hide (show staB t.data.toList [] ⟨#[]⟩ = staB (t.data.toList.drop (j + 1)) ss (cur.push t[j]) by rw [HE2.out, HD.out, staB_in hc ha])
            have hps : (cur.push t[j]).size = cur.size + 1 := ByteArray.size_push
            clear hc ha
            go_wp2_with (go_at_call 74; refine (HA.out _).mono ?_; rintro e w' ⟨rfl, rfl⟩)
            go_roundg (t.size - (j + 1))
            case measure => have := HK.out; omega
            case rel => exact ⟨ss, cur.push t[j], j + 1, by omega, rfl, by go_num, by rw [HPX.out], HSS.out, HNW.out, HKR.out, HR.out, by omega, by omega⟩
      · have HR := hide (show staF t = (ss, decide (ss.length = 6 ∧ cur = ⟨#[]⟩)) by
          rw [HE.out, HE2.out, List.drop_eq_nil_of_le (by show t.data.toList.length ≤ j; have : t.data.toList.length = t.size := rfl; omega)]
          rfl)
        have HSZ : Hid (cur.toList.isEmpty = decide (cur = ⟨#[]⟩)) := by
          show _ = _
          rw [ByteArray.toList_eq, Bool.eq_iff_iff, decide_eq_true_iff, List.isEmpty_iff]
          exact ⟨fun h => ByteArray.ext (Array.ext' h), fun h => by rw [h]⟩
        by_cases h6 : (ss.length : Int) = 6
        · have H6 := hide (show ss.length = 6 by omega)
          go_wp2
          go_ret2
          exact ⟨_, by rw [HR.out, HSZ.out]; simp [H6.out], by rw [HR.out]; exact HSS.out, HNW.out, HKR.out⟩
        · have H6 := hide (show ¬ ss.length = 6 by omega)
          go_wp2
          go_ret2
          exact ⟨_, by rw [HR.out]; simp [H6.out], by rw [HR.out]; exact HSS.out, HNW.out, HKR.out⟩
end Go.Proofs.YtellieabhaphhaaGreatDoor

/-
  Least: sets and lines of whatever table a script brings.
-/
namespace Go.Proofs.YtellieabhaphhaaGreatDoor
open Go.RowKit

/-- The kinds whose signs stand in a text, as a number. -/
def mkB (b : ByteArray) : Nat := (if amF 110 b.data.toList then 1 else 0) ||| (if amF 116 b.data.toList then 2 else 0) ||| (if amF 102 b.data.toList then 4 else 0) ||| (if amF 122 b.data.toList then 8 else 0) ||| (if amF 65 b.data.toList then 16 else 0) ||| (if amF 66 b.data.toList then 32 else 0) ||| (if amF 67 b.data.toList then 64 else 0)

theorem mk_aux : ∀ p0 p1 p2 p3 p4 p5 p6 : Bool, ((if p0 then 1 else 0) ||| (if p1 then 2 else 0) ||| (if p2 then 4 else 0) ||| (if p3 then 8 else 0) ||| (if p4 then 16 else 0) ||| (if p5 then 32 else 0) ||| (if p6 then 64 else 0) : Nat) < 128 ∧
    [0, 1, 2, 3, 4, 5, 6].map (fun i => ((if p0 then 1 else 0) ||| (if p1 then 2 else 0) ||| (if p2 then 4 else 0) ||| (if p3 then 8 else 0) ||| (if p4 then 16 else 0) ||| (if p5 then 32 else 0) ||| (if p6 then 64 else 0) : Nat).testBit i) = [p0, p1, p2, p3, p4, p5, p6] := by decide +kernel

theorem mkB_lt (b : ByteArray) : mkB b < 128 := (mk_aux _ _ _ _ _ _ _).1

theorem mkB_bit (b : ByteArray) (u : UInt8) (h : u ∈ KS) : (mkB b).testBit (kix u.toNat) = amF u.toNat b.data.toList := by
  have h2 : [0, 1, 2, 3, 4, 5, 6].map (fun i => (mkB b).testBit i) = _ := (mk_aux _ _ _ _ _ _ _).2
  simp only [List.map_cons, List.map_nil, List.cons.injEq, and_true] at h2
  obtain ⟨e0, e1, e2, e3, e4, e5, e6⟩ := h2
  simp only [KS, List.mem_cons, List.not_mem_nil, or_false] at h
  rcases h with rfl | rfl | rfl | rfl | rfl | rfl | rfl
  · exact e0
  · exact e1
  · exact e2
  · exact e3
  · exact e4
  · exact e5
  · exact e6

theorem both_mk (a : ByteArray) (m : Nat) : bothB a (sgB m) = sgB (mkB a &&& m) :=
  selB_congr fun u hu => by rw [am_sg m u hu, Nat.testBit_and, mkB_bit a u hu]

theorem mk_sg {m : Nat} (h : m < 128) : mkB (sgB m) = m :=
  bit_eq_of (mkB_lt _) h fun u hu => by rw [mkB_bit _ u hu, am_sg m u hu]

theorem sub_mk {a b : ByteArray} (h : subB a b = true) : mkB a &&& mkB b = mkB a := by
  refine bit_eq_of (and_lt _ (mkB_lt _)) (mkB_lt _) fun u hu => ?_
  rw [Nat.testBit_and, mkB_bit a u hu, mkB_bit b u hu]
  cases ha : amF u.toNat a.data.toList with
  | false => rfl
  | true =>
    rw [Bool.true_and]
    obtain ⟨x, hx, e⟩ := List.any_eq_true.1 ha
    have := List.all_eq_true.1 h x hx
    rwa [show x.toNat = u.toNat by simpa using e] at this

theorem sub_mk' {m : Nat} {b : ByteArray} (h : m &&& mkB b = m) : subB (sgB m) b = true := by
  show ((KS.filter (fun u => m.testBit (kix u.toNat))).all (fun u => amF u.toNat b.data.toList)) = true
  rw [List.all_eq_true]
  intro u hu
  obtain ⟨h1, h2⟩ := List.mem_filter.1 hu
  rw [← mkB_bit b u h1]
  exact sub_bit h _ h2

set_option maxHeartbeats 400000 in
theorem lamong_c (c : Nat) (s : ByteArray) (w : World) (hs : s.size ≤ 2000000) :
    Calls Tryz.prog 121 #[.int .u8 c, .string s] w fun e w' => e = .returned (.bool (amF c s.data.toList)) ∧ w' = w := by
  go_enter Tryz.func121, Tryz.ntmps121
  go_wp2
  go_loop [5] (fun i => ∃ k : Nat, k ≤ s.size ∧ i = .int .i64 k ∧ amF c (s.data.toList.take k) = false) (fun i => s.size - (intOf i).toNat)
  case atStart => exact ⟨0, Nat.zero_le _, rfl, by simp [amF]⟩
  case round =>
    obtain ⟨k, hk, rfl, ha⟩ := hrel
    have HA := hide ha
    clear ha
    by_cases hlt : k < s.size
    · have HT := hide (am_take c s k hlt)
      by_cases he : (s[k]).toNat = c
      · have HM := hide (am_mono c s (k + 1) (by rw [HT.out]; simp [he]))
        go_wp2
        go_ret
        rw [HM.out]
        exact ⟨rfl, rfl⟩
      · have he' : (((s[k]).toNat : Int) == c) = false := by simp; omega
        go_wp2
        go_round
        case rel => exact ⟨k + 1, by omega, by go_num, by rw [HT.out, HA.out]; simp [he]⟩
        case measure => simp [intOf]; omega
    · go_wp2
      go_ret
      have e1 : amF c s.data.toList = false := by
        have := HA.out
        rwa [List.take_of_length_le (by simp; omega)] at this
      rw [e1]
      exact ⟨rfl, rfl⟩

set_option maxHeartbeats 400000 in
theorem lfin_c (c : Nat) (s : ByteArray) (w : World) (hs : s.size ≤ 2000000) :
    Calls Tryz.prog 74 #[.string s, .int .u8 c] w fun e w' => e = .returned (.bool (amF c s.data.toList)) ∧ w' = w := by
  go_enter Tryz.func74, Tryz.ntmps74
  go_wp2_with (go_at_call 121; refine (lamong_c c _ _ hs).mono ?_; rintro e w' ⟨rfl, rfl⟩)
  go_ret
  exact ⟨rfl, rfl⟩

set_option maxHeartbeats 800000 in
theorem lboth_c (a b : ByteArray) (w : World) (ha : a.size ≤ 2000000) (hb : b.size ≤ 2000000) :
    Calls Tryz.prog 117 #[.string a, .string b] w fun e w' => e = .returned (.string (bothB a b)) ∧ w' = w := by
  have HA := hide (fun c => lfin_c c a w ha)
  have HB := hide (fun c => lfin_c c b w hb)
  clear ha hb
  go_enter Tryz.func117, Tryz.ntmps117
  go_wp2
  go_loopg [5, 6] 7 (fun k tv iv wr => ∃ j : Nat, j ≤ 7 ∧ k = 7 - j ∧ iv = .int .i64 j ∧ tv = .string (selN (fun c => amF c a.data.toList && amF c b.data.toList) j) ∧ wr = w)
  case atStart => exact ⟨0, by decide, rfl, rfl, rfl, rfl⟩
  case round =>
    obtain ⟨j, hj, hk, rfl, rfl, rfl⟩ := hrel
    have HKK := hide hk
    clear hk
    by_cases hlt : j < 7
    · have HY := hide (selN_yes (fun c => amF c a.data.toList && amF c b.data.toList) j hlt)
      have HN := hide (selN_no (fun c => amF c a.data.toList && amF c b.data.toList) j hlt)
      have hsz := selN_size (fun c => amF c a.data.toList && amF c b.data.toList) j
      have hrel : ∀ tj, selN (fun c => amF c a.data.toList && amF c b.data.toList) (j + 1) = tj → Hid (selN (fun c => amF c a.data.toList && amF c b.data.toList) (j + 1) = tj) := fun _ h => h
      generalize selN (fun c => amF c a.data.toList && amF c b.data.toList) j = tj at *
      go_wp2_with fail
      refine (HA.out _).mono ?_
      rintro e w' ⟨rfl, rfl⟩
      go_wp2_with fail
      refine (HB.out _).mono ?_
      rintro e w' ⟨rfl, rfl⟩
      generalize amF _ a.data.toList = p at *
      generalize amF _ b.data.toList = q at *
      clear HA HB
      cases p <;> cases q
      all_goals
        go_wp2
        go_roundg (7 - (j + 1))
        case measure => have := HKK.out; omega
        case rel => exact ⟨j + 1, by omega, rfl, by go_num, by first | rw [← HN.out rfl] | rw [← HY.out rfl], rfl⟩
    · obtain rfl : j = 7 := by omega
      go_wp2
      go_ret
      exact ⟨rfl, rfl⟩

theorem rboth_c (a : ByteArray) (m : Nat) (w : World) (ha : a.size ≤ 2000000) :
    Calls Tryz.prog 117 #[.string a, .string (sgB m)] w fun e w' => e = .returned (.string (sgB (mkB a &&& m))) ∧ w' = w := by
  have := lboth_c a (sgB m) w ha (Nat.le_trans (sg_size _) (by decide))
  rw [both_mk] at this
  exact this

set_option maxHeartbeats 800000 in
theorem lwithin_c (a b : ByteArray) (w : World) (ha : a.size ≤ 2000000) (hb : b.size ≤ 2000000) :
    Calls Tryz.prog 75 #[.string a, .string b] w fun e w' => e = .returned (.bool (subB a b)) ∧ w' = w := by
  have HB := hide (fun c => lfin_c c b w hb)
  clear hb
  go_enter Tryz.func75, Tryz.ntmps75
  go_wp2
  go_loopg [5] a.size (fun k iv wr => ∃ j : Nat, j ≤ a.size ∧ k = a.size - j ∧ iv = .int .i64 j ∧ ((a.data.toList.take j).all (fun u => amF u.toNat b.data.toList)) = true ∧ wr = w)
  case atStart => exact ⟨0, Nat.zero_le _, rfl, rfl, rfl, rfl⟩
  case round =>
    obtain ⟨j, hj, hk, rfl, ht, rfl⟩ := hrel
    have HKK := hide hk
    have HT := hide ht
    clear hk ht
    by_cases hlt : j < a.size
    · have HS := hide (sub_take a b j hlt)
      have HM := hide (sub_mono a b (j + 1))
      rw [HT.out, Bool.true_and] at HS
      rw [HS.out] at HM
      go_wp2_with fail
      refine (HB.out _).mono ?_
      rintro e w' ⟨rfl, rfl⟩
      generalize amF _ b.data.toList = q at *
      cases q
      · go_wp2
        go_ret
        rw [HM.out trivial]
        exact ⟨rfl, rfl⟩
      · go_wp2
        go_roundg (a.size - (j + 1))
        case measure => have := HKK.out; omega
        case rel => exact ⟨j + 1, by omega, rfl, by go_num, HS.out, rfl⟩
    · have HF := hide (show subB a b = true by
        have := HT.out
        rwa [List.take_of_length_le (by simp; omega)] at this)
      go_wp2
      go_ret
      rw [HF.out]
      exact ⟨rfl, rfl⟩

set_option maxHeartbeats 1600000 in
theorem lcell_c (t : ByteArray) (i : Nat) (w : World) (ht : t.size ≤ 2000000) (hi : i ≤ 1000) :
    Calls Tryz.prog 28 #[.string t, .int .i64 i] w fun e w' => e = .returned (.tuple #[.string ((celF t i).getD ⟨#[]⟩), .bool (celF t i).isSome]) ∧ w' = w := by
  have HV : Hid (celF t i = (celL t.data.toList [] i).map (fun l => ⟨l.toArray⟩)) := rfl
  go_enter Tryz.func28, Tryz.ntmps28
  go_wp2
  go_loopg [1, 6, 7] t.size (fun k iv fv kv wr => ∃ a b j : Nat, j ≤ t.size ∧ b ≤ j ∧ k = t.size - j ∧ kv = .int .i64 j ∧ fv = .int .i64 b ∧ iv = .int .i64 a ∧ a ≤ 1000 ∧ celL t.data.toList [] i = celL (t.data.toList.drop j) ((t.data.toList.take j).drop b) a ∧ wr = w)
  case atStart => exact ⟨i, 0, 0, Nat.zero_le _, Nat.zero_le _, rfl, rfl, rfl, rfl, hi, by simp, rfl⟩
  case round =>
    obtain ⟨a, b, j, hj, hb, hk, rfl, rfl, rfl, ha, hE, rfl⟩ := hrel
    have HK := hide hk
    have HE := hide hE
    clear hk hE
    by_cases hlt : j < t.size
    · have hl2 : j < t.data.toList.length := hlt
      have HD := hide (show t.data.toList.drop j = t.data.toList[j] :: t.data.toList.drop (j + 1) from List.drop_eq_getElem_cons hl2)
      have HT := hide (show t.data.toList.take (j + 1) = t.data.toList.take j ++ [t.data.toList[j]] from List.take_succ_eq_append_getElem hl2)
      by_cases hc : t[j] = 59
      · have hc' : ((t[j].toNat : Int) == 59) = true := by rw [hc]; rfl
        have HC := hide (show t.data.toList[j] = 59 from hc)
        rw [HC.out] at HD HT
        clear hc
        cases a with
        | zero =>
          have HR := hide (show celF t i = some (t.extract b j) by
            rw [HV.out, HE.out, HD.out, celL_zero, ext_mk]
            rfl)
          go_wp2
          go_ret2
          rw [HR.out]
          exact ⟨rfl, rfl⟩
        | succ a =>
          have hz : (((a + 1 : Nat) : Int) == 0) = false := by simp; omega
          have HR := hide (show celL t.data.toList [] i = celL (t.data.toList.drop (j + 1)) ((t.data.toList.take (j + 1)).drop (j + 1)) a by
            have e0 : (t.data.toList.take (j + 1)).drop (j + 1) = [] := List.drop_eq_nil_of_le (by rw [List.length_take]; omega)
            rw [HE.out, HD.out, celL_end, e0])
          go_wp2
          go_roundg (t.size - (j + 1))
          case measure => have := HK.out; omega
          case rel => exact ⟨a, j + 1, j + 1, by omega, Nat.le_refl _, rfl, by go_num, by go_num, by go_num, by omega, HR.out, rfl⟩
      · have hc' : ((t[j].toNat : Int) == 59) = false := by
          rw [beq_eq_false_iff_ne]
          intro e
          exact hc (UInt8.toNat_inj.1 (by show t[j].toNat = 59; omega))
        have HC := hide (show ¬ t.data.toList[j] = 59 from hc)
        have HR := hide (show celL t.data.toList [] i = celL (t.data.toList.drop (j + 1)) ((t.data.toList.take (j + 1)).drop b) a by
          rw [HE.out, HD.out, celL_ne HC.out, HT.out, List.drop_append_of_le_length (by rw [List.length_take]; omega)])
        clear hc
        go_wp2
        go_roundg (t.size - (j + 1))
        case measure => have := HK.out; omega
        case rel => exact ⟨a, b, j + 1, by omega, by omega, rfl, by go_num, rfl, rfl, ha, HR.out, rfl⟩
    · have HN := hide (show celF t i = none by
        rw [HV.out, HE.out, List.drop_eq_nil_of_le (by show t.data.toList.length ≤ j; have : t.data.toList.length = t.size := rfl; omega)]
        rfl)
      go_wp2
      go_ret2
      rw [HN.out]
      exact ⟨rfl, rfl⟩

set_option maxRecDepth 100000 in
set_option maxHeartbeats 1600000 in
theorem lstate_c (t : ByteArray) (w : World) (ht : t.size ≤ 2000000) :
    Calls Tryz.prog 43 #[.string t] w fun e w' => ∃ u, e = .returned (.tuple #[u, .bool (staF t).2]) ∧ StrR w' u (staF t).1 ∧ New w u ∧ Kp no w w' := by
  obtain ⟨i0, hi0, hz0, hz1, hz2⟩ := info_parts info_str
  by_cases hq : t = ⟨#[63]⟩
  · have HE := hide (show staF t = ([], true) by rw [staF, if_pos hq])
    subst hq
    rw [HE.out]
    go_enter Tryz.func43, Tryz.ntmps43
    go_wp2
    go_ret2
    exact ⟨_, rfl, StrR.nil _, New.none _, Kp.refl _ _⟩
  · have HE := hide (show staF t = match staB t.data.toList [] ⟨#[]⟩ with | none => ([], false) | some (ss, cur) => (ss, decide (ss.length = 6 ∧ cur = ⟨#[]⟩)) by rw [staF, if_neg hq]; rfl)
    have hq' : (t.toList == [63]) = false := by
      rw [beq_eq_false_iff_ne]
      intro e
      rw [ByteArray.toList_eq] at e
      exact hq (ByteArray.ext (Array.ext' e))
    clear hq
    have HIN := hide (fun c W => lfin_c c ⟨#[110, 116, 102, 122, 65, 66, 67]⟩ W (by decide))
    have hks : (⟨#[110, 116, 102, 122, 65, 66, 67]⟩ : ByteArray).data.toList = KS := rfl
    rw [hks] at HIN
    clear hks
    go_enter Tryz.func43, Tryz.ntmps43
    go_wp2
    clear hq'
    go_loopg [4, 5, 6] t.size (fun k sv cv jv wr => ∃ (ss : List ByteArray) (cur : ByteArray) (j : Nat), j ≤ t.size ∧ k = t.size - j ∧ jv = .int .i64 j ∧ cv = .string cur ∧ StrR wr sv ss ∧ New w sv ∧ Kp no w wr ∧ staB t.data.toList [] ⟨#[]⟩ = staB (t.data.toList.drop j) ss cur ∧ cur.size ≤ j ∧ ss.length ≤ j)
    case atStart => exact ⟨[], ⟨#[]⟩, 0, Nat.zero_le _, rfl, rfl, rfl, StrR.nil _, New.none _, Kp.refl _ _, by simp, Nat.le_refl _, Nat.le_refl _⟩
    case round =>
      obtain ⟨ss, cur, j, hj, hk, rfl, rfl, hss, hnew, kr, hE, hcur, hsl⟩ := hrel
      have HK := hide hk
      have HE2 := hide hE
      have HSS := hide hss
      have HNW := hide hnew
      have HKR := hide kr
      obtain ⟨la, lc, rfl⟩ := hss.shape
      clear hk hE hss hnew kr
      by_cases hlt : j < t.size
      · have HD := hide (show t.data.toList.drop j = t[j] :: t.data.toList.drop (j + 1) from List.drop_eq_getElem_cons (show j < t.data.toList.length from hlt))
        have HPX := hide (push_ext cur t j hlt)
        have HA : Hid (∀ W : World, Calls Tryz.prog 74 #[.string ⟨#[110, 116, 102, 122, 65, 66, 67]⟩, .int .u8 (t[j].toNat : Nat)] W fun e w' => e = .returned (.bool (amF t[j].toNat KS)) ∧ w' = W) := fun W => HIN.out t[j].toNat W
        clear HIN
        by_cases hc : t[j] = 46
        · have hc' : ((t[j].toNat : Int) == 46) = true := by rw [hc]; rfl
          rw [hc] at HD
          have HR := hide (show staB t.data.toList [] ⟨#[]⟩ = staB (t.data.toList.drop (j + 1)) (ss ++ [cur]) ⟨#[]⟩ by rw [HE2.out, HD.out, staB_dot])
          have hone : ∀ u ∈ ([.string cur] : List Value), u.oneCell' = true := by simp [Value.oneCell']
          clear hc
          go_wp2_with (first
            | (go_at_call 74; refine (HA.out _).mono ?_; rintro e w' ⟨rfl, hw⟩; obtain rfl := hw.symm)
            | (at_builtin; refine wpList_append_lies _ rfl (.tmp 24) (.tmp 26) 65 rfl 0 9 i0 _ 1 16 Tryz.underlying65 hi0 hz0 hz1 hz2 rfl (by decide) (.slice la ss.length lc) ss.length (ss.map Value.string) (by simp [Act.eval]) (by exact World.ownsRow.alloc HSS.out _) ⟨wr.heap.size, 0, none⟩ 1 1 [.string cur] (by simp [Act.eval]) rfl (by exact Blk.news (Blk.new wr [.string cur] _)) hone (by decide) (by unfold maxLen; omega) (by omega) (Nat.zero_le _) _ rfl ?_; intro g cap w' hown hgrow hat hlt))
          go_roundg (t.size - (j + 1))
          case measure => have := HK.out; omega
          case rel =>
            have hap := app_step HNW.out HKR.out hgrow hat (ss.length + 1) cap
            exact ⟨ss ++ [cur], ⟨#[]⟩, j + 1, by omega, rfl, by go_num, rfl, str_snoc hown, hap.1, hap.2, HR.out, Nat.zero_le _, by rw [List.length_append]; exact Nat.add_le_add_right hsl 1⟩
        · have hc' : ((t[j].toNat : Int) == 46) = false := by
            rw [beq_eq_false_iff_ne]
            intro e
            exact hc (UInt8.toNat_inj.1 (by show t[j].toNat = 46; omega))
          cases ha : amF t[j].toNat KS
          · rw [ha] at HA
            have HR := hide (show staF t = ([], false) by rw [HE.out, HE2.out, HD.out, staB_no hc ha])
            clear hc ha
            go_wp2_with (go_at_call 74; refine (HA.out _).mono ?_; rintro e w' ⟨rfl, rfl⟩)
            go_ret2
            rw [HR.out]
            exact ⟨_, rfl, StrR.nil _, New.none _, HKR.out⟩
          · rw [ha] at HA
            have HR := hide (show staB t.data.toList [] ⟨#[]⟩ = staB (t.data.toList.drop (j + 1)) ss (cur.push t[j]) by rw [HE2.out, HD.out, staB_in hc ha])
            have hps : (cur.push t[j]).size = cur.size + 1 := ByteArray.size_push
            clear hc ha
            go_wp2_with (go_at_call 74; refine (HA.out _).mono ?_; rintro e w' ⟨rfl, rfl⟩)
            go_roundg (t.size - (j + 1))
            case measure => have := HK.out; omega
            case rel => exact ⟨ss, cur.push t[j], j + 1, by omega, rfl, by go_num, by rw [HPX.out], HSS.out, HNW.out, HKR.out, HR.out, by omega, by omega⟩
      · have HR := hide (show staF t = (ss, decide (ss.length = 6 ∧ cur = ⟨#[]⟩)) by
          rw [HE.out, HE2.out, List.drop_eq_nil_of_le (by show t.data.toList.length ≤ j; have : t.data.toList.length = t.size := rfl; omega)]
          rfl)
        have HSZ : Hid (cur.toList.isEmpty = decide (cur = ⟨#[]⟩)) := by
          show _ = _
          rw [ByteArray.toList_eq, Bool.eq_iff_iff, decide_eq_true_iff, List.isEmpty_iff]
          exact ⟨fun h => ByteArray.ext (Array.ext' h), fun h => by rw [h]⟩
        by_cases h6 : (ss.length : Int) = 6
        · have H6 := hide (show ss.length = 6 by omega)
          go_wp2
          go_ret2
          exact ⟨_, by rw [HR.out, HSZ.out]; simp [H6.out], by rw [HR.out]; exact HSS.out, HNW.out, HKR.out⟩
        · have H6 := hide (show ¬ ss.length = 6 by omega)
          go_wp2
          go_ret2
          exact ⟨_, by rw [HR.out]; simp [H6.out], by rw [HR.out]; exact HSS.out, HNW.out, HKR.out⟩

end Go.Proofs.YtellieabhaphhaaGreatDoor

/-
  Least: states of whatever table a script brings.
-/
namespace Go.Proofs.YtellieabhaphhaaGreatDoor
open Go.RowKit

/-- Set y of a state. -/
def rg (s : List ByteArray) (y : Nat) : ByteArray := s.getD y ⟨#[]⟩
def strS (s : List ByteArray) : List Value := s.map Value.string
abbrev RV (w : World) (v : Value) (s : List ByteArray) : Prop := Row w v 9 1 s.length (strS s)
def ROk (s : List ByteArray) : Prop := s = [] ∨ (s.length = 6 ∧ ∀ b ∈ s, b.size ≤ 2000000)
def withR (s : List ByteArray) (x m : Nat) : List ByteArray := if s = [] ∨ m = 0 then [] else s.set x (sgB m)

theorem ROk.get {s : List ByteArray} (_ : ROk s) (x : Nat) : mkB (rg s x) < 128 := mkB_lt _
theorem ROk.sz {s : List ByteArray} (h : ROk s) (x : Nat) : (rg s x).size ≤ 2000000 := by
  unfold rg
  rw [List.getD_eq_getElem?_getD]
  cases hx : s[x]? with
  | none => exact Nat.zero_le _
  | some b =>
    rcases h with rfl | h
    · cases hx
    · exact h.2 b (List.mem_of_getElem? hx)
theorem ROk.withR {s : List ByteArray} (h : ROk s) (x m : Nat) (_ : m < 128) : ROk (withR s x m) := by
  unfold Go.Proofs.YtellieabhaphhaaGreatDoor.withR
  split
  · exact .inl rfl
  · rename_i hc
    obtain ⟨h1, h2⟩ := h.resolve_left (fun e => hc (.inl e))
    refine .inr ⟨by simpa using h1, fun z hz => ?_⟩
    rcases List.mem_or_eq_of_mem_set hz with h | rfl
    · exact h2 z h
    · exact Nat.le_trans (sg_size _) (by decide)
def behR (n : Nd) (s : List ByteArray) : List ByteArray :=
  if n.op = 33 then [] else if n.op = 42 ∨ n.op = 94 then s
  else if n.op = 126 then withR s n.x.toNat (mkB (rg s n.x.toNat) &&& bitN n.k)
  else withR (if withR s n.y.toNat (mkB (rg s n.y.toNat) &&& tkN n.op) ≠ [] ∧ (n.op = 43 ∨ n.op = 60)
      then withR (withR s n.y.toNat (mkB (rg s n.y.toNat) &&& tkN n.op)) n.v.toNat (mkB (rg (withR s n.y.toNat (mkB (rg s n.y.toNat) &&& tkN n.op)) n.v.toNat) &&& tkN n.op)
      else withR s n.y.toNat (mkB (rg s n.y.toNat) &&& tkN n.op)) n.x.toNat (givN n.op (mkB (rg s n.y.toNat) &&& tkN n.op))
def hldR (n : Nd) (yes : Bool) (s : List ByteArray) : List ByteArray := withR s n.y.toNat (mkB (rg s n.y.toNat) &&& wayM n yes)

theorem ROk.beh {s : List ByteArray} (n : Nd) (h : ROk s) : ROk (behR n s) := by
  unfold behR
  have hy := and_lt (tkN n.op) (h.get n.y.toNat)
  repeat' split
  · exact .inl rfl
  · exact h
  · exact h.withR _ _ (and_lt _ (h.get _))
  · exact ((h.withR _ _ hy).withR _ _ (and_lt _ ((h.withR _ _ hy).get _))).withR _ _ (givN_lt _ hy)
  · exact (h.withR _ _ hy).withR _ _ (givN_lt _ hy)
theorem ROk.hld {s : List ByteArray} (n : Nd) (yes : Bool) (h : ROk s) : ROk (hldR n yes s) := h.withR _ _ (and_lt _ (h.get _))

theorem rg_map (s : List ByteArray) (x : Nat) : (s.map mkB).getD x 0 = mkB (rg s x) := by
  unfold rg
  rw [List.getD_eq_getElem?_getD, List.getD_eq_getElem?_getD, List.getElem?_map]
  cases s[x]? with
  | none => decide
  | some b => rfl
theorem with_map (s : List ByteArray) (x : Nat) {m : Nat} (hm : m < 128) : (withR s x m).map mkB = withS (s.map mkB) x m := by
  unfold withR withS
  by_cases hc : s = [] ∨ m = 0
  · rw [if_pos hc, if_pos (by simpa using hc)]; rfl
  · rw [if_neg hc, if_neg (by simpa using hc), List.map_set, mk_sg hm]
theorem map_nil (s : List ByteArray) : s.map mkB = [] ↔ s = [] := List.map_eq_nil_iff
theorem beh_map (n : Nd) (s : List ByteArray) : (behR n s).map mkB = behF n (s.map mkB) := by
  unfold behR behF
  have hy := and_lt (tkN n.op) (mkB_lt (rg s n.y.toNat))
  have hw := with_map s n.y.toNat hy
  have hx := and_lt (bitN n.k) (mkB_lt (rg s n.x.toNat))
  simp only [rg_map]
  by_cases h1 : n.op = 33
  · rw [if_pos h1, if_pos h1]; rfl
  rw [if_neg h1, if_neg h1]
  by_cases h2 : n.op = 42 ∨ n.op = 94
  · rw [if_pos h2, if_pos h2]
  rw [if_neg h2, if_neg h2]
  by_cases h3 : n.op = 126
  · rw [if_pos h3, if_pos h3]; exact with_map s _ hx
  rw [if_neg h3, if_neg h3, ← hw]
  have hg := givN_lt n.op hy
  generalize mkB (rg s n.y.toNat) &&& tkN n.op = m at *
  generalize withR s n.y.toNat m = t at *
  by_cases h4 : t ≠ [] ∧ (n.op = 43 ∨ n.op = 60)
  · rw [if_pos h4, if_pos (by simpa using h4), with_map _ _ hg, with_map _ _ (and_lt _ (mkB_lt _)), rg_map]
  · rw [if_neg h4, if_neg (by simpa using h4), with_map _ _ hg]
theorem hld_map (n : Nd) (y : Bool) (s : List ByteArray) : (hldR n y s).map mkB = hldF n y (s.map mkB) := by
  unfold hldR hldF
  rw [with_map _ _ (and_lt _ (mkB_lt _)), rg_map]

theorem strS_len (s : List ByteArray) : (strS s).length = s.length := by simp [strS]
theorem RV.shape {w : World} {v : Value} {s : List ByteArray} (h : RV w v s) : ∃ a cap, v = .slice a s.length cap := by
  rcases h.2 with ⟨rfl, h0⟩ | ⟨g, cap, cur, rfl, _⟩
  · exact ⟨none, 0, by rw [h0]⟩
  · exact ⟨_, _, rfl⟩
theorem RV.nil (w : World) : RV w (.slice none 0 0) [] := ⟨rfl, .inl ⟨rfl, rfl⟩⟩
theorem RV.at {w : World} {a : Option Addr} {cap n : Nat} {s : List ByteArray} (h : Row w (.slice a n cap) 9 1 n (strS s)) {k : Nat} (hk : k < n) :
    ∃ g, a = some ⟨g, 0, none⟩ ∧ g < w.heap.size ∧ w.cell? ⟨g, k, none⟩ = some (.string (rg s k)) := by
  obtain ⟨g, cap', e, _, hg⟩ := World.ownsRow.form h (by omega)
  injection e with e1 e2 e3
  subst e1
  have hk : k < s.length := by have := h.1; rw [strS_len] at this; omega
  refine ⟨g, rfl, Row.lt h (b := g) rfl, ?_⟩
  rw [Row.cell h _ (by omega)]
  simp [strS, rg, List.getD_eq_getElem?_getD, List.getElem?_eq_getElem hk]
theorem rset_take (s : List ByteArray) (x m : Nat) (hx : x < s.length) : (∀ j, j = x → (strS (s.set x (sgB m))).take (j + 1) = (strS (s.set x (sgB m))).take j ++ [.string (sgB m)]) ∧ (∀ j, j < s.length → j ≠ x → (strS (s.set x (sgB m))).take (j + 1) = (strS (s.set x (sgB m))).take j ++ [.string (rg s j)]) := by
  constructor
  · rintro j rfl
    rw [List.take_succ_eq_append_getElem (by simpa [strS] using hx)]
    simp [strS]
  · intro j hj hne
    rw [List.take_succ_eq_append_getElem (by simpa [strS] using hj)]
    simp [strS, rg, hj, Ne.symm hne]

set_option maxRecDepth 100000 in
set_option maxHeartbeats 1600000 in
theorem rwith_c (v : Value) (s : List ByteArray) (x m : Nat) (w : World) (h : RV w v s) (hs : ROk s) (hx : x < 6) (hm : m < 128) :
    Calls Tryz.prog 118 #[v, .int .i64 x, .string (sgB m)] w fun e w' => ∃ u, e = .returned u ∧ RV w' u (withR s x m) ∧ New w u ∧ Kp no w w' := by
  obtain ⟨i0, hi, hz0, hz1, hz2⟩ := info_parts info_str
  obtain ⟨a, cap, rfl⟩ := h.shape
  by_cases h0 : s = []
  · subst h0
    have HE := hide (show withR [] x m = [] from rfl)
    go_enter Tryz.func118, Tryz.ntmps118
    go_wp2
    go_ret
    exact ⟨_, rfl, by rw [HE.out]; exact RV.nil _, New.none _, Kp.refl _ _⟩
  by_cases hm0 : m = 0
  · subst hm0
    have HE := hide (show withR s x 0 = [] by simp [withR])
    have h6 := (hs.resolve_left h0).1
    rw [sg_zero]
    go_enter Tryz.func118, Tryz.ntmps118
    go_wp2
    go_ret
    exact ⟨_, rfl, by rw [HE.out]; exact RV.nil _, New.none _, Kp.refl _ _⟩
  · have h6 := (hs.resolve_left h0).1
    have HE := hide (show withR s x m = s.set x (sgB m) by rw [withR, if_neg (by simp [h0, hm0])])
    have hne : (sgB m).toList.isEmpty = false := by
      have h1 : sgB m ≠ ⟨#[]⟩ := fun e => hm0 ((sg_empty hm).1 e)
      rw [ByteArray.toList_eq]
      cases hl : (sgB m).data.toList with
      | nil => exact absurd (ByteArray.ext (by simpa using hl)) h1
      | cons _ _ => rfl
    have HS := hide (rset_take s x m (by omega))
    have hzz : Hid (sgB m = sgB m) := rfl
    have hsz := sg_size m
    have HX := hide (show ∀ j, j < 6 → ∃ l : List Value, (strS (s.set x (sgB m))).take j = l ∧ l.length = j ∧ (j = x → (strS (s.set x (sgB m))).take (j + 1) = l ++ [.string (sgB m)]) ∧ (j ≠ x → (strS (s.set x (sgB m))).take (j + 1) = l ++ [.string ((rg s j))]) from fun j hj => ⟨_, rfl, by simp [strS]; omega, HS.out.1 j, HS.out.2 j (by omega)⟩)
    have HXL := hide (show (strS (s.set x (sgB m))).take 6 = strS (s.set x (sgB m)) from List.take_of_length_le (by simp [strS]; omega))
    have HL2 := hide (show (s.set x (sgB m)).length = 6 by simp [h6])
    rw [HE.out]
    clear HS hzz h0 hm0
    generalize sgB m = z at *
    generalize hR : strS (s.set x z) = R at *
    have HRR := hide hR
    clear hR
    have h' : Row w (.slice a s.length cap) 9 1 s.length (strS s) := h
    clear h
    rw [h6] at h' ⊢
    have H6 := hide h6
    clear h6
    go_enter Tryz.func118, Tryz.ntmps118
    go_wp2
    go_loopg [7, 8] 6 (fun k tv iv wr => ∃ j : Nat, j ≤ 6 ∧ k = 6 - j ∧ iv = .int .i64 j ∧ Row wr tv 9 1 j (R.take j) ∧ New w tv ∧ Kp no w wr)
    case atStart => exact ⟨0, Nat.zero_le _, rfl, rfl, ⟨rfl, .inl ⟨rfl, rfl⟩⟩, New.none _, Kp.refl _ _⟩
    case round =>
      obtain ⟨j, hj, hk, rfl, hrow, hnew, kr⟩ := hrel
      have HKK := hide hk
      have HR := hide hrow
      have HN := hide hnew
      have HK := hide kr
      clear hk hrow hnew kr
      by_cases hlt : j < 6
      · obtain ⟨l, e1, e2, e3, e4⟩ := HX.out j hlt
        rw [e1] at HR
        have HE3 := hide e3
        have HE4 := hide e4
        have HE2 := hide e2
        clear e1 e2 e3 e4 HX
        by_cases hjx : j = x
        · subst hjx
          have hone : ∀ u ∈ [Value.string z], u.oneCell' = true := by simp [Value.oneCell']
          go_wp2_with (at_builtin; refine wpList_append_lies _ rfl (.tmp 25) (.tmp 27) 65 rfl 0 9 i0 _ 1 16 Tryz.underlying65 hi hz0 hz1 hz2 rfl (by decide) _ j l (by simp [Act.eval]; rfl) (by exact World.ownsRow.alloc HR.out _) ⟨wr.heap.size, 0, none⟩ 1 1 [.string z] (by simp [Act.eval]) rfl (by exact Blk.news (Blk.new wr [.string z] _)) hone (by decide) (by unfold maxLen; omega) (by omega) (Nat.zero_le _) _ rfl ?_; intro g cap w' hown hgrow hat hlt)
          go_roundg (6 - (j + 1))
          case measure => have := HKK.out; omega
          case rel =>
            have ha := app_step HN.out HK.out hgrow hat (j + 1) cap
            exact ⟨j + 1, by omega, rfl, by go_num, by rw [HE3.out trivial]; exact hown, ha.1, ha.2⟩
        · obtain ⟨g0, rfl, hg0, hc0⟩ := RV.at (HK.out.row h' (fun _ _ => no_elim)) (k := j) (by omega)
          have HE5 := hide (HE4.out hjx)
          have hsz := ROk.sz hs j
          have hjx' : ((j : Int) == x) = false := by simp; omega
          clear HE3 HE4 h'
          generalize (rg s j) = zj at *
          have hone : ∀ u ∈ [Value.string zj], u.oneCell' = true := by simp [Value.oneCell']
          go_wp2_with (at_builtin; refine wpList_append_lies _ rfl (.tmp 29) (.tmp 34) 65 rfl 0 9 i0 _ 1 16 Tryz.underlying65 hi hz0 hz1 hz2 rfl (by decide) _ j l (by simp [Act.eval]; rfl) (by exact World.ownsRow.alloc HR.out _) ⟨wr.heap.size, 0, none⟩ 1 1 [.string zj] (by simp [Act.eval]) rfl (by exact Blk.news (Blk.new wr [.string zj] _)) hone (by decide) (by unfold maxLen; omega) (by omega) (Nat.zero_le _) _ rfl ?_; intro g cap w' hown hgrow hat hlt)
          go_roundg (6 - (j + 1))
          case measure => have := HKK.out; omega
          case rel =>
            have ha := app_step HN.out HK.out hgrow hat (j + 1) cap
            exact ⟨j + 1, by omega, rfl, by go_num, by rw [HE5.out]; exact hown, ha.1, ha.2⟩
      · obtain rfl : j = 6 := by omega
        go_wp2
        go_ret
        refine ⟨_, rfl, ?_, HN.out, HK.out⟩
        have := HR.out
        rw [HXL.out] at this
        show Row _ _ _ _ (s.set x z).length (strS (s.set x z))
        rw [HL2.out, HRR.out]
        exact this

end Go.Proofs.YtellieabhaphhaaGreatDoor

/-
  Least: what comes behind a node of one operand.
-/
namespace Go.Proofs.YtellieabhaphhaaGreatDoor
open Go.RowKit

set_option maxRecDepth 100000 in
set_option maxHeartbeats 1600000 in
theorem rbehind_one (n : Nd) (v : Value) (s : List ByteArray) (w : World) (h : RV w v s) (hs : ROk s) (h0 : s ≠ []) (hg : Gn n) (hG : opG n.op) (ho : ¬ (n.op = 43 ∨ n.op = 60)) :
    Calls Tryz.prog 72 #[.agg #[.int .u8 n.op, .int .i64 n.x, .int .i64 n.y, .int .i64 n.v, .int .u8 n.k, .int .i64 n.t, .int .i64 n.f, .int .i64 n.a, .int .i64 n.l], v] w fun e w' => ∃ u, e = .returned u ∧ RV w' u (behR n s) ∧ New w u ∧ Kp no w w' := by
  obtain ⟨x, hx⟩ := Int.eq_ofNat_of_zero_le hg.x.1
  obtain ⟨y, hy⟩ := Int.eq_ofNat_of_zero_le hg.y.1
  have hx6 : x < 6 := by have := hg.x.2; omega
  have hy6 : y < 6 := by have := hg.y.2; omega
  have hG0 := hG
  unfold opG at hG
  have HE := hide (show behR n s = withR (withR s y (mkB (rg s y) &&& tkN n.op)) x (givN n.op (mkB (rg s y) &&& tkN n.op)) by
    rw [behR, if_neg (by omega), if_neg (by omega), if_neg (by omega), if_neg (fun e => ho e.2), hx, hy]; rfl)
  rw [HE.out]
  obtain ⟨h6, hm⟩ := hs.resolve_left h0
  have HS := hide h
  obtain ⟨a, cap, rfl⟩ := h.shape
  have h' : Row w (.slice a s.length cap) 9 1 s.length (strS s) := h
  rw [h6] at h' HS ⊢
  clear h
  have HT := hide (fun W => takes_c n W)
  rw [tak_sg] at HT
  have HV := hide (fun Y W => gives_c n Y W hG0)
  obtain ⟨op, nx, ny, nv, nk, nt, nff, na, nl⟩ := n
  dsimp only at *
  subst hx hy
  obtain ⟨g, rfl, hgl, hgc⟩ := RV.at h' (k := y) hy6
  have HB := hide (fun W => rboth_c (rg s y) (tkN op) W (ROk.sz hs y))
  have HM := hide (and_lt (tkN op) (hs.get y))
  have HGC := hide hgc
  have g1 : (op == 33) = false := by simp; omega
  have g2 : (op == 42) = false := by simp; omega
  have g3 : (op == 94) = false := by simp; omega
  have g4 : (op == 126) = false := by simp; omega
  have g5 : (op == 43) = false := by simp; omega
  have g6 : (op == 60) = false := by simp; omega
  clear hG ho hG0 HE h6 hm
  generalize mkB (rg s y) &&& tkN op = m at *
  generalize tkN op = tk at *
  have hsz := ROk.sz hs y
  generalize (rg s y) = sy at *
  go_enter Tryz.func72, Tryz.ntmps72
  go_wp2_with fail
  refine wp_gen (fun W => Blk W w.heap.size [.int .u8 op, .int .i64 x, .int .i64 y, .int .i64 nv, .int .u8 nk, .int .i64 nt, .int .i64 nff, .int .i64 na, .int .i64 nl] 63 ∧ Kp no w W) ⟨by (repeat' (first | ((with_reducible show (_ : List Value) = _); rfl) | ((with_reducible refine Blk.newAt _ _ _ ?_); first | with_reducible rfl | (simp; done)) | with_reducible refine Blk.alloc ?_ _ | with_reducible refine Blk.drewN ?_ _ | with_reducible refine Blk.drew ?_ | ((with_reducible refine Blk.other ?_ _ ?_); rotate_left; ((try dsimp only); omega)) | with_reducible refine Blk.setB (cs0 := ?_) ?_ ?_)), by (repeat' (first | with_reducible exact Kp.refl _ _ | with_reducible refine Kp.alloc ?_ _ | with_reducible refine Kp.drewN ?_ _ | with_reducible refine Kp.drew ?_ | with_reducible refine Kp.setCell ?_ _ ?_ | (intro hh; first | rfl | exact .inl rfl | exact .inr rfl | (exfalso; (try dsimp only at hh); omega))))⟩ ?_
  rintro W ⟨hN, hk⟩
  obtain ⟨n0, n1, n2, n3, n4, n5, n6, n7, n8, nf⟩ := hN.c9; have hnl := hN.lt
  have nn := hN.cell
  have hc1 := (hk.cell hgl no_elim y).trans HGC.out
  have hg1 := Nat.lt_of_lt_of_le hgl hk.size
  have hyI : (y : Int) < 6 := by omega
  go_cut [6] from 10 (fun yv W5 => yv = .string (sgB m) ∧ Blk W5 w.heap.size [.int .u8 op, .int .i64 x, .int .i64 y, .int .i64 nv, .int .u8 nk, .int .i64 nt, .int .i64 nff, .int .i64 na, .int .i64 nl] 63 ∧ Kp no w W5)
  case first =>
    go_region_with (first | (go_at_call 119; refine (HT.out _).mono ?_; rintro e w5 ⟨rfl, k5⟩; have hN5 := k5.blk (b := w.heap.size) hN no_elim; obtain ⟨n0, n1, n2, n3, n4, n5, n6, n7, n8, nf⟩ := hN5.c9; have hnl := hN5.lt; have hk5 : Kp no w w5 := Kp.trans (by (repeat' (first | with_reducible exact Kp.refl _ _ | with_reducible refine Kp.alloc ?_ _ | with_reducible refine Kp.drewN ?_ _ | with_reducible refine Kp.drew ?_ | with_reducible refine Kp.setCell ?_ _ ?_ | with_reducible refine Kp.trans ?_ hk (fun _ _ e => e) | (intro hh; first | rfl | exact .inl rfl | exact .inr rfl | (exfalso; (try dsimp only at hh); omega))))) k5 (fun _ _ e => e); have hc5 := (hk5.cell hgl no_elim y).trans HGC.out; have hg5 := Nat.lt_of_lt_of_le hgl hk5.size) | (go_at_call 117; refine (HB.out _).mono ?_; rintro e w' ⟨rfl, rfl⟩))
    all_goals
      go_wp2
      go_meet
      case rel => exact ⟨rfl, hN5, by (repeat' (first | with_reducible exact Kp.refl _ _ | with_reducible refine Kp.alloc ?_ _ | with_reducible refine Kp.drewN ?_ _ | with_reducible refine Kp.drew ?_ | with_reducible refine Kp.setCell ?_ _ ?_ | with_reducible refine Kp.trans ?_ hk5 (fun _ _ e => e) | (intro hh; first | rfl | exact .inl rfl | exact .inr rfl | (exfalso; (try dsimp only at hh); omega))))⟩
  case rest =>
    obtain ⟨rfl, hN5, hk5⟩ := hcut
    obtain ⟨p0, p1, p2, p3, p4, p5, p6, p7, p8, pf⟩ := hN5.c9; have hpl := hN5.lt
    clear n0 n1 n2 n3 n4 n5 n6 n7 n8 hnl hN hk nn hc1 hg1
    go_wp2_with fail
    refine (rwith_c _ s y m _ (Kp.row (S := no) (by (repeat' (first | with_reducible exact Kp.refl _ _ | with_reducible refine Kp.alloc ?_ _ | with_reducible refine Kp.drewN ?_ _ | with_reducible refine Kp.drew ?_ | with_reducible refine Kp.setCell ?_ _ ?_ | with_reducible refine Kp.trans ?_ hk5 (fun _ _ e => e) | (intro hh; first | rfl | exact .inl rfl | exact .inr rfl | (exfalso; (try dsimp only at hh); omega))))) HS.out (fun _ _ => no_elim)) hs hy6 HM.out).mono ?_
    rintro e w6 ⟨u, rfl, hu, hnew, k6⟩
    have hN6 := k6.blk (b := w.heap.size) hN5 no_elim
    have hk6 : Kp no w w6 := Kp.trans (by (repeat' (first | with_reducible exact Kp.refl _ _ | with_reducible refine Kp.alloc ?_ _ | with_reducible refine Kp.drewN ?_ _ | with_reducible refine Kp.drew ?_ | with_reducible refine Kp.setCell ?_ _ ?_ | with_reducible refine Kp.trans ?_ hk5 (fun _ _ e => e) | (intro hh; first | rfl | exact .inl rfl | exact .inr rfl | (exfalso; (try dsimp only at hh); omega))))) k6 (fun _ _ e => e)
    obtain ⟨m0, m1, m2, m3, m4, m5, m6, m7, m8, mf⟩ := hN6.c9; have hml := hN6.lt
    have ok2 := hs.withR y m HM.out
    obtain ⟨au, cu, rfl⟩ := hu.shape
    have HU := hide hu
    have OK2 := hide ok2
    clear hnew hu
    generalize ht0 : withR s y m = t at *
    have HT0 := hide ht0
    clear ht0
    have ht06 : t.length = 0 ∨ t.length = 6 := by
      rcases ok2 with rfl | h
      · exact .inl rfl
      · exact .inr h.1
    rcases ht06 with ht | ht
    all_goals
      rw [ht] at HU ⊢
      clear ht ok2 p0 p1 p2 p3 p4 p5 p6 p7 p8 pf hpl
      go_wp2_with fail
      refine (HV.out m _).mono ?_
      rintro e w7 ⟨rfl, k7⟩
      have hk7 : Kp no w w7 := Kp.trans (by (repeat' (first | with_reducible exact Kp.refl _ _ | with_reducible refine Kp.alloc ?_ _ | with_reducible refine Kp.drewN ?_ _ | with_reducible refine Kp.drew ?_ | with_reducible refine Kp.setCell ?_ _ ?_ | with_reducible refine Kp.trans ?_ hk6 (fun _ _ e => e) | (intro hh; first | rfl | exact .inl rfl | exact .inr rfl | (exfalso; (try dsimp only at hh); omega))))) k7 (fun _ _ e => e)
      have hN7 := k7.blk (b := w.heap.size) hN6 no_elim
      obtain ⟨q0, q1, q2, q3, q4, q5, q6, q7, q8, qf⟩ := hN7.c9; have hql := hN7.lt
      go_wp2_with fail
      refine (rwith_c _ t x (givN op m) _ (Kp.row (S := no) (by (repeat' (first | with_reducible exact Kp.refl _ _ | with_reducible refine Kp.alloc ?_ _ | with_reducible refine Kp.drewN ?_ _ | with_reducible refine Kp.drew ?_ | with_reducible refine Kp.setCell ?_ _ ?_ | with_reducible refine Kp.trans ?_ k7 (fun _ _ e => e) | (intro hh; first | rfl | exact .inl rfl | exact .inr rfl | (exfalso; (try dsimp only at hh); omega))))) HU.out (fun _ _ => no_elim)) OK2.out hx6 (givN_lt op HM.out)).mono ?_
      rintro e w8 ⟨u2, rfl, hu2, hnew2, k8⟩
      go_wp2
      go_ret
      exact ⟨_, rfl, by rw [HT0.out]; exact hu2, fun b hb => Nat.le_trans hk7.size (hnew2 b hb), Kp.trans (by (repeat' (first | with_reducible exact Kp.refl _ _ | with_reducible refine Kp.alloc ?_ _ | with_reducible refine Kp.drewN ?_ _ | with_reducible refine Kp.drew ?_ | with_reducible refine Kp.setCell ?_ _ ?_ | with_reducible refine Kp.trans ?_ hk7 (fun _ _ e => e) | (intro hh; first | rfl | exact .inl rfl | exact .inr rfl | (exfalso; (try dsimp only at hh); omega))))) k8 (fun _ _ e => e)⟩

end Go.Proofs.YtellieabhaphhaaGreatDoor

/-
  Least: what comes behind a node of two operands.
-/
namespace Go.Proofs.YtellieabhaphhaaGreatDoor
open Go.RowKit

set_option maxRecDepth 100000 in
set_option maxHeartbeats 3200000 in
theorem rbehind_two (n : Nd) (v : Value) (s : List ByteArray) (w : World) (h : RV w v s) (hs : ROk s) (h0 : s ≠ []) (hg : Gn n) (ho : n.op = 43 ∨ n.op = 60) :
    Calls Tryz.prog 72 #[.agg #[.int .u8 n.op, .int .i64 n.x, .int .i64 n.y, .int .i64 n.v, .int .u8 n.k, .int .i64 n.t, .int .i64 n.f, .int .i64 n.a, .int .i64 n.l], v] w fun e w' => ∃ u, e = .returned u ∧ RV w' u (behR n s) ∧ New w u ∧ Kp no w w' := by
  obtain ⟨x, hx⟩ := Int.eq_ofNat_of_zero_le hg.x.1
  obtain ⟨y, hy⟩ := Int.eq_ofNat_of_zero_le hg.y.1
  have hx6 : x < 6 := by have := hg.x.2; omega
  have hy6 : y < 6 := by have := hg.y.2; omega
  obtain ⟨z, hz⟩ := Int.eq_ofNat_of_zero_le hg.v.1
  have hz6 : z < 6 := by have := hg.v.2; omega
  have hG0 : opG n.op := by unfold opG; omega
  have HE0 := hide (show withR s y (mkB (rg s y) &&& tkN n.op) = [] → behR n s = [] from fun e => by
    rw [behR, if_neg (by omega), if_neg (by omega), if_neg (by omega), hy, Int.toNat_natCast, e, if_neg (by simp)]; simp [withR])
  have HE1 := hide (show withR s y (mkB (rg s y) &&& tkN n.op) ≠ [] → behR n s = withR (withR (withR s y (mkB (rg s y) &&& tkN n.op)) z (mkB (rg (withR s y (mkB (rg s y) &&& tkN n.op)) z) &&& tkN n.op)) x (givN n.op (mkB (rg s y) &&& tkN n.op)) from fun e => by
    rw [behR, if_neg (by omega), if_neg (by omega), if_neg (by omega), hx, hy, hz, Int.toNat_natCast, Int.toNat_natCast, Int.toNat_natCast, if_pos ⟨e, ho⟩])
  generalize behR n s = B at *
  obtain ⟨h6, hm⟩ := hs.resolve_left h0
  have HS := hide h
  obtain ⟨a, cap, rfl⟩ := h.shape
  have h' : Row w (.slice a s.length cap) 9 1 s.length (strS s) := h
  rw [h6] at h' HS ⊢
  clear h
  have HT := hide (fun W => takes_c n W)
  rw [tak_sg] at HT
  have HV := hide (fun Y W => gives_c n Y W hG0)
  obtain ⟨op, nx, ny, nv, nk, nt, nff, na, nl⟩ := n
  dsimp only at *
  subst hx hy hz
  obtain ⟨g, rfl, hgl, hgc⟩ := RV.at h' (k := y) hy6
  have HB := hide (fun W => rboth_c (rg s y) (tkN op) W (ROk.sz hs y))
  have HM := hide (and_lt (tkN op) (hs.get y))
  have HGC := hide hgc
  have g1 : (op == 33) = false := by simp; omega
  have g2 : (op == 42) = false := by simp; omega
  have g3 : (op == 94) = false := by simp; omega
  have g4 : (op == 126) = false := by simp; omega
  clear hG0 h6 hm
  generalize mkB (rg s y) &&& tkN op = m at *
  have HTK := hide (fun a (ha : a.size ≤ 2000000) W => rboth_c a (tkN op) W ha)
  generalize tkN op = tk at *
  have hsz := ROk.sz hs y
  generalize (rg s y) = sy at *
  have hgg : ((op == 43) = true) ∨ ((op == 43) = false ∧ (op == 60) = true) := by
    rcases ho with rfl | rfl
    · exact .inl rfl
    · exact .inr ⟨rfl, rfl⟩
  clear ho
  rcases hgg with g5 | ⟨g5, g6⟩
  all_goals
    go_enter Tryz.func72, Tryz.ntmps72
    go_wp2_with fail
    refine wp_gen (fun W => Blk W w.heap.size [.int .u8 op, .int .i64 x, .int .i64 y, .int .i64 z, .int .u8 nk, .int .i64 nt, .int .i64 nff, .int .i64 na, .int .i64 nl] 63 ∧ Kp no w W) ⟨by (repeat' (first | ((with_reducible show (_ : List Value) = _); rfl) | ((with_reducible refine Blk.newAt _ _ _ ?_); first | with_reducible rfl | (simp; done)) | with_reducible refine Blk.alloc ?_ _ | with_reducible refine Blk.drewN ?_ _ | with_reducible refine Blk.drew ?_ | ((with_reducible refine Blk.other ?_ _ ?_); rotate_left; ((try dsimp only); omega)) | with_reducible refine Blk.setB (cs0 := ?_) ?_ ?_)), by (repeat' (first | with_reducible exact Kp.refl _ _ | with_reducible refine Kp.alloc ?_ _ | with_reducible refine Kp.drewN ?_ _ | with_reducible refine Kp.drew ?_ | with_reducible refine Kp.setCell ?_ _ ?_ | (intro hh; first | rfl | exact .inl rfl | exact .inr rfl | (exfalso; (try dsimp only at hh); omega))))⟩ ?_
    rintro W ⟨hN, hk⟩
    obtain ⟨n0, n1, n2, n3, n4, n5, n6, n7, n8, nf⟩ := hN.c9; have hnl := hN.lt
    have nn := hN.cell
    have hc1 := (hk.cell hgl no_elim y).trans HGC.out
    have hg1 := Nat.lt_of_lt_of_le hgl hk.size
    have hyI : (y : Int) < 6 := by omega
    go_cut [6] from 10 (fun yv W5 => yv = .string (sgB m) ∧ Blk W5 w.heap.size [.int .u8 op, .int .i64 x, .int .i64 y, .int .i64 z, .int .u8 nk, .int .i64 nt, .int .i64 nff, .int .i64 na, .int .i64 nl] 63 ∧ Kp no w W5)
    case first =>
      go_region_with (first | (go_at_call 119; refine (HT.out _).mono ?_; rintro e w5 ⟨rfl, k5⟩; have hN5 := k5.blk (b := w.heap.size) hN no_elim; obtain ⟨n0, n1, n2, n3, n4, n5, n6, n7, n8, nf⟩ := hN5.c9; have hnl := hN5.lt; have hk5 : Kp no w w5 := Kp.trans (by (repeat' (first | with_reducible exact Kp.refl _ _ | with_reducible refine Kp.alloc ?_ _ | with_reducible refine Kp.drewN ?_ _ | with_reducible refine Kp.drew ?_ | with_reducible refine Kp.setCell ?_ _ ?_ | with_reducible refine Kp.trans ?_ hk (fun _ _ e => e) | (intro hh; first | rfl | exact .inl rfl | exact .inr rfl | (exfalso; (try dsimp only at hh); omega))))) k5 (fun _ _ e => e); have hc5 := (hk5.cell hgl no_elim y).trans HGC.out; have hg5 := Nat.lt_of_lt_of_le hgl hk5.size) | (go_at_call 117; refine (HB.out _).mono ?_; rintro e w' ⟨rfl, rfl⟩))
      all_goals
        go_wp2
        go_meet
        case rel => exact ⟨rfl, hN5, by (repeat' (first | with_reducible exact Kp.refl _ _ | with_reducible refine Kp.alloc ?_ _ | with_reducible refine Kp.drewN ?_ _ | with_reducible refine Kp.drew ?_ | with_reducible refine Kp.setCell ?_ _ ?_ | with_reducible refine Kp.trans ?_ hk5 (fun _ _ e => e) | (intro hh; first | rfl | exact .inl rfl | exact .inr rfl | (exfalso; (try dsimp only at hh); omega))))⟩
    case rest =>
      obtain ⟨rfl, hN5, hk5⟩ := hcut
      obtain ⟨p0, p1, p2, p3, p4, p5, p6, p7, p8, pf⟩ := hN5.c9; have hpl := hN5.lt
      clear n0 n1 n2 n3 n4 n5 n6 n7 n8 hnl hN hk nn hc1 hg1
      go_wp2_with fail
      refine (rwith_c _ s y m _ (Kp.row (S := no) (by (repeat' (first | with_reducible exact Kp.refl _ _ | with_reducible refine Kp.alloc ?_ _ | with_reducible refine Kp.drewN ?_ _ | with_reducible refine Kp.drew ?_ | with_reducible refine Kp.setCell ?_ _ ?_ | with_reducible refine Kp.trans ?_ hk5 (fun _ _ e => e) | (intro hh; first | rfl | exact .inl rfl | exact .inr rfl | (exfalso; (try dsimp only at hh); omega))))) HS.out (fun _ _ => no_elim)) hs hy6 HM.out).mono ?_
      rintro e w6 ⟨u, rfl, hu, hnew, k6⟩
      have hN6 := k6.blk (b := w.heap.size) hN5 no_elim
      have hk6 : Kp no w w6 := Kp.trans (by (repeat' (first | with_reducible exact Kp.refl _ _ | with_reducible refine Kp.alloc ?_ _ | with_reducible refine Kp.drewN ?_ _ | with_reducible refine Kp.drew ?_ | with_reducible refine Kp.setCell ?_ _ ?_ | with_reducible refine Kp.trans ?_ hk5 (fun _ _ e => e) | (intro hh; first | rfl | exact .inl rfl | exact .inr rfl | (exfalso; (try dsimp only at hh); omega))))) k6 (fun _ _ e => e)
      obtain ⟨m0, m1, m2, m3, m4, m5, m6, m7, m8, mf⟩ := hN6.c9; have hml := hN6.lt
      have ok2 := hs.withR y m HM.out
      obtain ⟨au, cu, rfl⟩ := hu.shape
      have HU := hide hu
      have OK2 := hide ok2
      clear hnew hu
      generalize ht0 : withR s y m = t at *
      have HT0 := hide ht0
      clear ht0
      have ht06 : t.length = 0 ∨ t.length = 6 := by
        rcases ok2 with rfl | h
        · exact .inl rfl
        · exact .inr h.1
      rcases ht06 with ht | ht
      · have ht' : t = [] := List.length_eq_zero_iff.1 ht
        have HE2 := hide (HE0.out ht')
        rw [ht] at HU ⊢
        clear ht ok2 p0 p1 p2 p3 p4 p5 p6 p7 p8 pf hpl
        go_wp2_with fail
        refine (HV.out m _).mono ?_
        rintro e w7 ⟨rfl, k7⟩
        have hk7 : Kp no w w7 := Kp.trans (by (repeat' (first | with_reducible exact Kp.refl _ _ | with_reducible refine Kp.alloc ?_ _ | with_reducible refine Kp.drewN ?_ _ | with_reducible refine Kp.drew ?_ | with_reducible refine Kp.setCell ?_ _ ?_ | with_reducible refine Kp.trans ?_ hk6 (fun _ _ e => e) | (intro hh; first | rfl | exact .inl rfl | exact .inr rfl | (exfalso; (try dsimp only at hh); omega))))) k7 (fun _ _ e => e)
        have hN7 := k7.blk (b := w.heap.size) hN6 no_elim
        obtain ⟨q0, q1, q2, q3, q4, q5, q6, q7, q8, qf⟩ := hN7.c9; have hql := hN7.lt
        go_wp2_with fail
        refine (rwith_c _ t x (givN _ m) _ (Kp.row (S := no) (by (repeat' (first | with_reducible exact Kp.refl _ _ | with_reducible refine Kp.alloc ?_ _ | with_reducible refine Kp.drewN ?_ _ | with_reducible refine Kp.drew ?_ | with_reducible refine Kp.setCell ?_ _ ?_ | with_reducible refine Kp.trans ?_ k7 (fun _ _ e => e) | (intro hh; first | rfl | exact .inl rfl | exact .inr rfl | (exfalso; (try dsimp only at hh); omega))))) HU.out (fun _ _ => no_elim)) OK2.out hx6 (givN_lt _ HM.out)).mono ?_
        rintro e w8 ⟨u2, rfl, hu2, hnew2, k8⟩
        have hu3 : RV w8 u2 [] := by rw [ht'] at hu2; exact hu2
        go_wp2
        go_ret
        exact ⟨_, rfl, by rw [HE2.out]; exact hu3, fun b hb => Nat.le_trans hk7.size (hnew2 b hb), Kp.trans (by (repeat' (first | with_reducible exact Kp.refl _ _ | with_reducible refine Kp.alloc ?_ _ | with_reducible refine Kp.drewN ?_ _ | with_reducible refine Kp.drew ?_ | with_reducible refine Kp.setCell ?_ _ ?_ | with_reducible refine Kp.trans ?_ hk7 (fun _ _ e => e) | (intro hh; first | rfl | exact .inl rfl | exact .inr rfl | (exfalso; (try dsimp only at hh); omega))))) k8 (fun _ _ e => e)⟩
      · have htne : t ≠ [] := fun e => by rw [e] at ht; cases ht
        have HE2 := hide (HE1.out htne)
        have HUR : Hid (Row w6 (.slice au t.length cu) 9 1 t.length (strS t)) := HU.out
        rw [ht] at HU HUR ⊢
        obtain ⟨gt, rfl, hgt, hgtc⟩ := RV.at HUR.out (k := z) hz6
        have HC2 := hide hgtc
        have HK6 := hide hk6
        have HM2 := hide (and_lt tk (OK2.out.get z))
        clear ht ok2 p0 p1 p2 p3 p4 p5 p6 p7 p8 pf hpl htne
        generalize hm2 : mkB (rg t z) &&& tk = m2' at *
        have HM3 := hide hm2
        clear hm2
        have hzI : (z : Int) < 6 := by omega
        have hst := ROk.sz OK2.out z
        have HTB : Hid (∀ W, Calls Tryz.prog 117 #[.string ((rg t z)), .string (sgB tk)] W fun e w' => e = .returned (.string (sgB m2')) ∧ w' = W) := fun W => by
          have := HTK.out (rg t z) (ROk.sz OK2.out z) W
          rw [HM3.out] at this
          exact this
        generalize (rg t z) = sz at *
        go_upto_region 13 with fail
        clear m0 m1 m2 m3 m4 m5 m6 m7 m8 mf hml
        refine wp_gen (fun W => Blk W w.heap.size [.int .u8 op, .int .i64 x, .int .i64 y, .int .i64 z, .int .u8 nk, .int .i64 nt, .int .i64 nff, .int .i64 na, .int .i64 nl] 63 ∧ Kp no w6 W) ⟨hN6, by (repeat' (first | with_reducible exact Kp.refl _ _ | with_reducible refine Kp.alloc ?_ _ | with_reducible refine Kp.drewN ?_ _ | with_reducible refine Kp.drew ?_ | with_reducible refine Kp.setCell ?_ _ ?_ | (intro hh; first | rfl | exact .inl rfl | exact .inr rfl | (exfalso; (try dsimp only at hh); omega))))⟩ ?_
        rintro W6 ⟨hN6, hkw⟩
        have hk6' : Kp no w W6 := hk6.trans hkw (fun _ _ e => e)
        clear hk6
        have hk6 := hk6'
        clear hk6'
        obtain ⟨m0, m1, m2, m3, m4, m5, m6, m7, m8, mf⟩ := hN6.c9; have hml := hN6.lt
        have hc6 := (hkw.cell hgt no_elim z).trans HC2.out
        have hg6 := Nat.lt_of_lt_of_le hgt hkw.size
        go_cut [8] from 10 (fun vv W5 => vv = .string (sgB m2') ∧ Blk W5 w.heap.size [.int .u8 op, .int .i64 x, .int .i64 y, .int .i64 z, .int .u8 nk, .int .i64 nt, .int .i64 nff, .int .i64 na, .int .i64 nl] 63 ∧ Kp no w6 W5)
        case first =>
          go_region_with (first | (go_at_call 119; refine (HT.out _).mono ?_; rintro e w5 ⟨rfl, k5⟩; have hN5 := k5.blk (b := w.heap.size) hN6 no_elim; obtain ⟨n0, n1, n2, n3, n4, n5, n6, n7, n8, nf⟩ := hN5.c9; have hnl := hN5.lt; have hk5 : Kp no w6 w5 := Kp.trans (by (repeat' (first | with_reducible exact Kp.refl _ _ | with_reducible refine Kp.alloc ?_ _ | with_reducible refine Kp.drewN ?_ _ | with_reducible refine Kp.drew ?_ | with_reducible refine Kp.setCell ?_ _ ?_ | with_reducible refine Kp.trans ?_ hkw (fun _ _ e => e) | (intro hh; first | rfl | exact .inl rfl | exact .inr rfl | (exfalso; (try dsimp only at hh); omega))))) k5 (fun _ _ e => e); have hc5 := (hk5.cell hgt no_elim z).trans HC2.out; have hg5 := Nat.lt_of_lt_of_le hgt hk5.size) | (go_at_call 117; refine (HTB.out _).mono ?_; rintro e w' ⟨rfl, rfl⟩))
          all_goals
            go_wp2
            go_meet
            case rel => exact ⟨rfl, hN5, by (repeat' (first | with_reducible exact Kp.refl _ _ | with_reducible refine Kp.alloc ?_ _ | with_reducible refine Kp.drewN ?_ _ | with_reducible refine Kp.drew ?_ | with_reducible refine Kp.setCell ?_ _ ?_ | with_reducible refine Kp.trans ?_ hk5 (fun _ _ e => e) | (intro hh; first | rfl | exact .inl rfl | exact .inr rfl | (exfalso; (try dsimp only at hh); omega))))⟩
        case rest =>
          obtain ⟨rfl, hN8, hk8⟩ := hcut
          clear m0 m1 m2 m3 m4 m5 m6 m7 m8 mf hml hN6 hk6 hkw hc6 hg6 hgtc
          obtain ⟨p0, p1, p2, p3, p4, p5, p6, p7, p8, pf⟩ := hN8.c9; have hpl := hN8.lt
          go_wp2_with fail
          refine (rwith_c _ t z m2' _ (Kp.row (S := no) (by (repeat' (first | with_reducible exact Kp.refl _ _ | with_reducible refine Kp.alloc ?_ _ | with_reducible refine Kp.drewN ?_ _ | with_reducible refine Kp.drew ?_ | with_reducible refine Kp.setCell ?_ _ ?_ | with_reducible refine Kp.trans ?_ hk8 (fun _ _ e => e) | (intro hh; first | rfl | exact .inl rfl | exact .inr rfl | (exfalso; (try dsimp only at hh); omega))))) HU.out (fun _ _ => no_elim)) OK2.out hz6 HM2.out).mono ?_
          rintro e w9 ⟨u3, rfl, hu3, _, k9⟩
          have hk9 : Kp no w6 w9 := Kp.trans (by (repeat' (first | with_reducible exact Kp.refl _ _ | with_reducible refine Kp.alloc ?_ _ | with_reducible refine Kp.drewN ?_ _ | with_reducible refine Kp.drew ?_ | with_reducible refine Kp.setCell ?_ _ ?_ | with_reducible refine Kp.trans ?_ hk8 (fun _ _ e => e) | (intro hh; first | rfl | exact .inl rfl | exact .inr rfl | (exfalso; (try dsimp only at hh); omega))))) k9 (fun _ _ e => e)
          have hN9 := k9.blk (b := w.heap.size) hN8 no_elim
          obtain ⟨m0, m1, m2, m3, m4, m5, m6, m7, m8, mf⟩ := hN9.c9; have hml := hN9.lt
          clear p0 p1 p2 p3 p4 p5 p6 p7 p8 pf hpl
          have HU3 := hide hu3
          have OK3 := hide (OK2.out.withR z m2' HM2.out)
          clear hu3
          generalize ht3 : withR t z m2' = t3 at *
          clear ht3
          go_wp2_with fail
          refine (HV.out m _).mono ?_
          rintro e w10 ⟨rfl, k10⟩
          have hk10 : Kp no w6 w10 := Kp.trans (by (repeat' (first | with_reducible exact Kp.refl _ _ | with_reducible refine Kp.alloc ?_ _ | with_reducible refine Kp.drewN ?_ _ | with_reducible refine Kp.drew ?_ | with_reducible refine Kp.setCell ?_ _ ?_ | with_reducible refine Kp.trans ?_ hk9 (fun _ _ e => e) | (intro hh; first | rfl | exact .inl rfl | exact .inr rfl | (exfalso; (try dsimp only at hh); omega))))) k10 (fun _ _ e => e)
          have hN10 := k10.blk (b := w.heap.size) hN9 no_elim
          obtain ⟨q0, q1, q2, q3, q4, q5, q6, q7, q8, qf⟩ := hN10.c9; have hql := hN10.lt
          go_wp2_with fail
          refine (rwith_c _ t3 x (givN _ m) _ (Kp.row (S := no) (by (repeat' (first | with_reducible exact Kp.refl _ _ | with_reducible refine Kp.alloc ?_ _ | with_reducible refine Kp.drewN ?_ _ | with_reducible refine Kp.drew ?_ | with_reducible refine Kp.setCell ?_ _ ?_ | with_reducible refine Kp.trans ?_ k10 (fun _ _ e => e) | (intro hh; first | rfl | exact .inl rfl | exact .inr rfl | (exfalso; (try dsimp only at hh); omega))))) HU3.out (fun _ _ => no_elim)) OK3.out hx6 (givN_lt _ HM.out)).mono ?_
          rintro e w11 ⟨u2, rfl, hu2, hnew2, k11⟩
          have hkf : Kp no w6 w11 := Kp.trans (by (repeat' (first | with_reducible exact Kp.refl _ _ | with_reducible refine Kp.alloc ?_ _ | with_reducible refine Kp.drewN ?_ _ | with_reducible refine Kp.drew ?_ | with_reducible refine Kp.setCell ?_ _ ?_ | with_reducible refine Kp.trans ?_ hk10 (fun _ _ e => e) | (intro hh; first | rfl | exact .inl rfl | exact .inr rfl | (exfalso; (try dsimp only at hh); omega))))) k11 (fun _ _ e => e)
          go_wp2
          go_ret
          exact ⟨_, rfl, by rw [HE2.out]; exact hu2, fun b hb => Nat.le_trans (Nat.le_trans HK6.out.size hk10.size) (hnew2 b hb), by (repeat' (first | with_reducible exact Kp.refl _ _ | with_reducible refine Kp.alloc ?_ _ | with_reducible refine Kp.drewN ?_ _ | with_reducible refine Kp.drew ?_ | with_reducible refine Kp.setCell ?_ _ ?_ | with_reducible refine Kp.trans ?_ HK6.out (fun _ _ e => e) | with_reducible refine Kp.trans ?_ hkf (fun _ _ e => e) | (intro hh; first | rfl | exact .inl rfl | exact .inr rfl | (exfalso; (try dsimp only at hh); omega))))⟩

end Go.Proofs.YtellieabhaphhaaGreatDoor
