import Derived.Test.YtellieabhaphhaaGreatDoorPFaithfulI
/-
  Plain: tables of states, and the least one.
-/
namespace Go.Proofs.YtellieabhaphhaaGreatDoor
open Go.RowKit

abbrev Tbl := List St

def intoF (T : Tbl) (i : Int) (s : St) : Tbl × Bool :=
  if 0 ≤ i ∧ i < T.length then (T.set i.toNat (joinR (T.getD i.toNat []) s).1, (joinR (T.getD i.toNat []) s).2) else (T, false)

/-- What a node's part of a sweep does. -/
def pasF (n : Nd) (i : Nat) (T : Tbl) : Tbl × Bool :=
  if T.getD i [] = [] then (T, false)
  else if n.op = 121 ∨ n.op = 58 then
    ((intoF (intoF T n.t (hldF n true (T.getD i []))).1 n.f (hldF n false (T.getD i []))).1, (intoF T n.t (hldF n true (T.getD i []))).2 || (intoF (intoF T n.t (hldF n true (T.getD i []))).1 n.f (hldF n false (T.getD i []))).2)
  else intoF T n.t (behF n (T.getD i []))

/-- A sweep. -/
def swpF : List Nd → Nat → Tbl → Tbl × Bool
  | [], _, T => (T, false)
  | n :: l, i, T => ((swpF l (i + 1) (pasF n i T).1).1, (pasF n i T).2 || (swpF l (i + 1) (pasF n i T).1).2)

theorem swp_snoc (n : Nd) : ∀ (l : List Nd) (i : Nat) (T : Tbl), swpF (l ++ [n]) i T = ((pasF n (i + l.length) (swpF l i T).1).1, (swpF l i T).2 || (pasF n (i + l.length) (swpF l i T).1).2)
  | [], i, T => by simp [swpF]
  | m :: l, i, T => by
    rw [List.cons_append, swpF, swp_snoc n l (i + 1) (pasF m i T).1, swpF, List.length_cons, show i + 1 + l.length = i + (l.length + 1) by omega, Bool.or_assoc]

def itF (l : List Nd) : Nat → Tbl → Tbl
  | 0, T => T
  | k + 1, T => itF l k (swpF l 0 T).1

theorem it_succ (l : List Nd) : ∀ (k : Nat) (T : Tbl), itF l (k + 1) T = (swpF l 0 (itF l k T)).1
  | 0, _ => rfl
  | k + 1, T => by rw [itF, it_succ l k, ← itF]

theorem it_fix (l : List Nd) (T : Tbl) (h : (swpF l 0 T).1 = T) : ∀ k, itF l k T = T
  | 0 => rfl
  | k + 1 => by rw [itF, h, it_fix l T h k]

theorem it_add (l : List Nd) : ∀ (a b : Nat) (T : Tbl), itF l (a + b) T = itF l b (itF l a T)
  | 0, b, T => by rw [Nat.zero_add]; rfl
  | a + 1, b, T => by rw [show a + 1 + b = (a + b) + 1 by omega, itF, it_add l a b, ← itF]

/-- What has come to rest stays. -/
theorem it_rest (l : List Nd) (T : Tbl) (j : Nat) (hf : (swpF l 0 (itF l j T)).1 = itF l j T) (N : Nat) (hN : j ≤ N) : itF l N T = itF l j T := by
  obtain ⟨b, rfl⟩ := Nat.exists_eq_add_of_le hN
  rw [it_add, it_fix l _ hf]

-- lengths
theorem into_len (T : Tbl) (i : Int) (s : St) : (intoF T i s).1.length = T.length := by unfold intoF; split <;> simp
theorem pas_len (n : Nd) (i : Nat) (T : Tbl) : (pasF n i T).1.length = T.length := by
  unfold pasF
  repeat' split
  · rfl
  · simp [into_len]
  · simp [into_len]
theorem swp_len : ∀ (l : List Nd) (i : Nat) (T : Tbl), (swpF l i T).1.length = T.length
  | [], _, _ => rfl
  | n :: l, i, T => by rw [swpF]; show (swpF l (i + 1) (pasF n i T).1).1.length = _; rw [swp_len l, pas_len]
theorem it_len (l : List Nd) : ∀ (k : Nat) (T : Tbl), (itF l k T).length = T.length
  | 0, _ => rfl
  | k + 1, T => by rw [itF, it_len l k, swp_len]

-- what is not turned is as it was
theorem join_same {a b : St} (h : (joinR a b).2 = false) : (joinR a b).1 = a := by
  unfold joinR at h ⊢
  split
  · rfl
  · rename_i h1
    rw [if_neg h1] at h
    split
    · rename_i h2; rw [if_pos h2] at h; cases h
    · rename_i h2
      rw [if_neg h2] at h
      simpa using h

theorem set_getD {T : Tbl} {i : Nat} (h : i < T.length) : T.set i (T.getD i []) = T := by
  rw [List.getD_eq_getElem?_getD, List.getElem?_eq_getElem h, Option.getD_some, List.set_getElem_self]

theorem into_same {T : Tbl} {i : Int} {s : St} (h : (intoF T i s).2 = false) : (intoF T i s).1 = T := by
  unfold intoF at h ⊢
  split
  · rename_i hc
    rw [if_pos hc] at h
    show T.set i.toNat _ = T
    rw [join_same h, set_getD (by omega)]
  · rfl

theorem pas_same {n : Nd} {i : Nat} {T : Tbl} (h : (pasF n i T).2 = false) : (pasF n i T).1 = T := by
  unfold pasF at h ⊢
  split
  · rfl
  · rename_i h1
    rw [if_neg h1] at h
    split
    · rename_i h2
      rw [if_pos h2] at h
      rw [Bool.or_eq_false_iff] at h
      show (intoF _ _ _).1 = T
      rw [into_same h.2, into_same h.1]
    · rename_i h2
      rw [if_neg h2] at h
      exact into_same h

theorem swp_same : ∀ {l : List Nd} {i : Nat} {T : Tbl}, (swpF l i T).2 = false → (swpF l i T).1 = T
  | [], _, _, _ => rfl
  | n :: l, i, T, h => by
    rw [swpF] at h ⊢
    rw [Bool.or_eq_false_iff] at h
    show (swpF l (i + 1) (pasF n i T).1).1 = T
    rw [swp_same h.2, pas_same h.1]

-- tables are of states as they can be
def TOk (T : Tbl) : Prop := ∀ s ∈ T, SOk s

theorem TOk.get {T : Tbl} (h : TOk T) (i : Nat) : SOk (T.getD i []) := by
  rw [List.getD_eq_getElem?_getD]
  cases hx : T[i]? with
  | none => exact .nil
  | some m => exact h m (List.mem_of_getElem? hx)

theorem TOk.into {T : Tbl} (h : TOk T) (i : Int) {s : St} (hs : SOk s) : TOk (intoF T i s).1 := by
  unfold intoF
  split
  · intro z hz
    rcases List.mem_or_eq_of_mem_set hz with h1 | rfl
    · exact h z h1
    · exact (h.get _).join hs
  · exact h

theorem TOk.pas {T : Tbl} (h : TOk T) (n : Nd) (i : Nat) : TOk (pasF n i T).1 := by
  unfold pasF
  repeat' split
  · exact h
  · exact (h.into _ ((h.get i).hld n true)).into _ ((h.get i).hld n false)
  · exact h.into _ ((h.get i).beh n)

theorem TOk.swp : ∀ {l : List Nd} {i : Nat} {T : Tbl}, TOk T → TOk (swpF l i T).1
  | [], _, _, h => h
  | n :: l, i, T, h => by rw [swpF]; exact TOk.swp (h.pas n i)

theorem TOk.it {l : List Nd} : ∀ {k : Nat} {T : Tbl}, TOk T → TOk (itF l k T)
  | 0, _, h => h
  | k + 1, T, h => by rw [itF]; exact TOk.it h.swp

-- a measure
def pc (m : Nat) : Nat := (List.range 7).countP (fun i => m.testBit i)
def mS (s : St) : Nat := (s.map pc).sum
def mT (T : Tbl) : Nat := (T.map mS).sum

theorem pc_le (a b : Nat) : pc a ≤ pc (a ||| b) := List.countP_mono_left (fun i _ h => by rw [Nat.testBit_or, h, Bool.true_or])
theorem pc_seven (a : Nat) : pc a ≤ 7 := List.countP_le_length
theorem pc_lt {a b : Nat} (ha : a < 128) (hb : b < 128) (h : a ||| b ≠ a) : pc a < pc (a ||| b) := by
  rcases Nat.lt_or_ge (pc a) (pc (a ||| b)) with h1 | h1
  · exact h1
  · exfalso
    apply h
    refine Nat.eq_of_testBit_eq fun i => ?_
    by_cases hi : i < 7
    · cases hc : a.testBit i
      · cases hd : (a ||| b).testBit i
        · rfl
        · exfalso
          have key : ∀ (l : List Nat), i ∈ l → l.countP (fun i => a.testBit i) < l.countP (fun i => (a ||| b).testBit i) := by
            intro l hl
            induction l with
            | nil => cases hl
            | cons x l ih =>
              have hm : l.countP (fun i => a.testBit i) ≤ l.countP (fun i => (a ||| b).testBit i) := List.countP_mono_left (fun i _ h => by rw [Nat.testBit_or, h, Bool.true_or])
              rw [List.countP_cons, List.countP_cons]
              rcases List.mem_cons.1 hl with rfl | hl'
              · rw [hc, hd, if_pos rfl, if_neg (by decide)]; omega
              · have := ih hl'
                have h2 : (if a.testBit x = true then 1 else 0) ≤ (if (a ||| b).testBit x = true then 1 else 0) := by
                  rw [Nat.testBit_or]; cases a.testBit x <;> cases b.testBit x <;> simp
                omega
          have := key (List.range 7) (by simpa using hi)
          unfold pc at h1
          omega
      · rw [Nat.testBit_or, hc, Bool.true_or]
    · have h2 : 128 ≤ 2 ^ i := by
        have : 2 ^ 7 ≤ 2 ^ i := Nat.pow_le_pow_right (by decide) (by omega)
        omega
      have := or_lt ha hb
      rw [Nat.testBit_lt_two_pow (by omega), Nat.testBit_lt_two_pow (by omega)]

theorem zip_le : ∀ (a b : St), a.length ≤ b.length → mS a ≤ mS (List.zipWith (· ||| ·) a b)
  | [], _, _ => Nat.zero_le _
  | x :: a, [], h => by simp at h
  | x :: a, y :: b, h => by
    have := zip_le a b (by simpa using h)
    have := pc_le x y
    simp only [mS, List.zipWith_cons_cons, List.map_cons, List.sum_cons] at *
    omega

theorem zip_lt : ∀ (a b : St), a.length ≤ b.length → (∀ m ∈ a, m < 128) → (∀ m ∈ b, m < 128) → List.zipWith (· ||| ·) a b ≠ a → mS a < mS (List.zipWith (· ||| ·) a b)
  | [], _, _, _, _, h => by simp at h
  | x :: a, [], h, _, _, _ => by simp at h
  | x :: a, y :: b, h, ha, hb, hne => by
    have h1 := zip_le a b (by simpa using h)
    have h2 := pc_le x y
    by_cases hx : x ||| y = x
    · have := zip_lt a b (by simpa using h) (fun m hm => ha m (List.mem_cons_of_mem _ hm)) (fun m hm => hb m (List.mem_cons_of_mem _ hm)) (fun e => hne (by rw [List.zipWith_cons_cons, hx, e]))
      simp only [mS, List.zipWith_cons_cons, List.map_cons, List.sum_cons] at *
      omega
    · have := pc_lt (ha x (List.mem_cons_self ..)) (hb y (List.mem_cons_self ..)) hx
      simp only [mS, List.zipWith_cons_cons, List.map_cons, List.sum_cons] at *
      omega

theorem pc_pos {a : Nat} (ha : a < 128) (h : a ≠ 0) : 0 < pc a := by
  have := pc_lt (a := 0) (b := a) (by decide) ha (by simpa using h)
  simp only [Nat.zero_or] at this
  omega

theorem mS_le (s : St) : mS s ≤ 7 * s.length := by
  induction s with
  | nil => exact Nat.le_refl _
  | cons x s ih =>
    have := pc_seven x
    simp only [mS, List.map_cons, List.sum_cons, List.length_cons] at *
    omega

theorem mS_ok {s : St} (h : SOk s) : mS s ≤ 42 := by
  have := mS_le s
  rcases h with rfl | ⟨h, _⟩
  · decide
  · omega

theorem join_le {a b : St} (ha : SOk a) (hb : SOk b) : mS a ≤ mS (joinR a b).1 ∧ ((joinR a b).2 = true → mS a < mS (joinR a b).1) := by
  unfold joinR
  split
  · exact ⟨Nat.le_refl _, fun h => by cases h⟩
  · rename_i h1
    obtain ⟨lb, mb⟩ := hb.resolve_left h1
    split
    · rename_i h2
      subst h2
      have : 0 < mS b := by
        match b, lb, mb with
        | x :: b, _, mb =>
          have := pc_pos (mb x (List.mem_cons_self ..)).2 (mb x (List.mem_cons_self ..)).1
          simp only [mS, List.map_cons, List.sum_cons]
          omega
      exact ⟨Nat.zero_le _, fun _ => this⟩
    · rename_i h2
      obtain ⟨la, ma⟩ := ha.resolve_left h2
      exact ⟨zip_le a b (by omega), fun h => zip_lt a b (by omega) (fun m hm => (ma m hm).2) (fun m hm => (mb m hm).2) (by simpa using h)⟩

theorem mT_set : ∀ (T : Tbl) (i : Nat) (s : St), i < T.length → mT (T.set i s) + mS (T.getD i []) = mT T + mS s
  | [], i, _, h => by simp at h
  | a :: T, 0, s, _ => by simp only [List.set_cons_zero, mT, List.map_cons, List.sum_cons, List.getD_cons_zero]; omega
  | a :: T, i + 1, s, h => by
    have := mT_set T i s (by simpa using h)
    simp only [List.set_cons_succ, mT, List.map_cons, List.sum_cons, List.getD_cons_succ] at *
    omega

theorem mT_le : ∀ {T : Tbl}, TOk T → mT T ≤ 42 * T.length
  | [], _ => Nat.le_refl _
  | a :: T, h => by
    have h1 := mS_ok (h a (List.mem_cons_self ..))
    have h2 := mT_le (T := T) (fun s hs => h s (List.mem_cons_of_mem _ hs))
    simp only [mT, List.map_cons, List.sum_cons, List.length_cons] at *
    omega

theorem into_le {T : Tbl} (h : TOk T) (i : Int) {s : St} (hs : SOk s) : mT T ≤ mT (intoF T i s).1 ∧ ((intoF T i s).2 = true → mT T < mT (intoF T i s).1) := by
  unfold intoF
  split
  · rename_i hc
    have h1 := join_le (h.get i.toNat) hs
    have h2 := mT_set T i.toNat (joinR (T.getD i.toNat []) s).1 (by omega)
    refine ⟨?_, fun e => ?_⟩
    · dsimp only; omega
    · have := h1.2 e; dsimp only; omega
  · exact ⟨Nat.le_refl _, fun h => by cases h⟩

theorem pas_le {T : Tbl} (h : TOk T) (n : Nd) (i : Nat) : mT T ≤ mT (pasF n i T).1 ∧ ((pasF n i T).2 = true → mT T < mT (pasF n i T).1) := by
  unfold pasF
  repeat' split
  · exact ⟨Nat.le_refl _, fun h => by cases h⟩
  · have h1 := into_le h n.t ((h.get i).hld n true)
    have h2 := into_le (h.into n.t ((h.get i).hld n true)) n.f ((h.get i).hld n false)
    refine ⟨Nat.le_trans h1.1 h2.1, fun e => ?_⟩
    rw [Bool.or_eq_true] at e
    rcases e with e | e
    · exact Nat.lt_of_lt_of_le (h1.2 e) h2.1
    · exact Nat.lt_of_le_of_lt h1.1 (h2.2 e)
  · exact into_le h _ ((h.get i).beh n)

theorem swp_le : ∀ {l : List Nd} {i : Nat} {T : Tbl}, TOk T → mT T ≤ mT (swpF l i T).1 ∧ ((swpF l i T).2 = true → mT T < mT (swpF l i T).1)
  | [], _, _, _ => ⟨Nat.le_refl _, fun h => by cases h⟩
  | n :: l, i, T, h => by
    have h1 := pas_le h n i
    have h2 := swp_le (l := l) (i := i + 1) (h.pas n i)
    rw [swpF]
    refine ⟨Nat.le_trans h1.1 h2.1, fun e => ?_⟩
    rw [Bool.or_eq_true] at e
    rcases e with e | e
    · exact Nat.lt_of_lt_of_le (h1.2 e) h2.1
    · exact Nat.lt_of_le_of_lt h1.1 (h2.2 e)

-- the end's state has no part in it
theorem getD_take {T : Tbl} {i k : Nat} (h : i < k) : (T.take k).getD i [] = T.getD i [] := by
  rw [List.getD_eq_getElem?_getD, List.getD_eq_getElem?_getD, List.getElem?_take_of_lt h]

theorem into_take {T : Tbl} {k : Nat} (hT : T.length = k + 1) (i : Int) (s : St) : (intoF T i s).1.take k = (intoF (T.take k) i s).1 := by
  unfold intoF
  rw [List.length_take, hT]
  by_cases hc : 0 ≤ i ∧ i < ((min k (k + 1) : Nat) : Int)
  · rw [if_pos hc, if_pos ⟨hc.1, by omega⟩, List.take_set, getD_take (by omega)]
  · rw [if_neg hc]
    by_cases h2 : 0 ≤ i ∧ i < ((k + 1 : Nat) : Int)
    · rw [if_pos h2, List.take_set]
      exact List.set_eq_of_length_le (by rw [List.length_take]; omega)
    · rw [if_neg h2]

theorem pas_take {T : Tbl} {k : Nat} (hT : T.length = k + 1) (n : Nd) {i : Nat} (hi : i < k) : (pasF n i T).1.take k = (pasF n i (T.take k)).1 := by
  unfold pasF
  rw [getD_take hi]
  repeat' split
  · rfl
  · rw [into_take (by rw [into_len]; exact hT), into_take hT]
  · rw [into_take hT]

theorem swp_take {k : Nat} : ∀ {l : List Nd} {i : Nat} {T : Tbl}, T.length = k + 1 → i + l.length ≤ k → (swpF l i T).1.take k = (swpF l i (T.take k)).1
  | [], _, _, _, _ => rfl
  | n :: l, i, T, hT, hi => by
    rw [List.length_cons] at hi
    rw [swpF, swpF, swp_take (by rw [pas_len]; exact hT) (by omega), pas_take hT n (by omega)]

theorem it_take {l : List Nd} {k : Nat} (hk : l.length ≤ k) : ∀ {j : Nat} {T : Tbl}, T.length = k + 1 → (itF l j T).take k = itF l j (T.take k)
  | 0, _, _ => rfl
  | j + 1, T, hT => by rw [itF, itF, it_take hk (by rw [swp_len]; exact hT), swp_take hT (by omega)]

/-- The state in which runs begin. -/
abbrev st0 : St := [8, 8, 8, 8, 8, 8]
/-- The table at the beginning, with the end's state. -/
def tR (k : Nat) : Tbl := st0 :: List.replicate k []
/-- The least table. -/
def lstF (l : List Nd) : Tbl := (itF l 4000 (tR l.length)).take l.length

theorem st0_ok : SOk st0 := .inr ⟨rfl, by decide⟩
theorem tR_ok (k : Nat) : TOk (tR k) := by
  intro s hs
  rcases List.mem_cons.1 hs with rfl | h
  · exact st0_ok
  · rw [List.eq_of_mem_replicate h]; exact .nil

theorem lst_len (l : List Nd) : (lstF l).length = l.length := by
  unfold lstF tR
  rw [List.length_take, it_len]; simp

theorem lst_ok (l : List Nd) : TOk (lstF l) := fun s hs => TOk.it (tR_ok _) s (List.mem_of_mem_take hs)
end Go.Proofs.YtellieabhaphhaaGreatDoor

/-
  narrowref's flow: tables.
-/
namespace Go.Proofs.YtellieabhaphhaaGreatDoor
open Go.RowKit

/-- A table at work. -/
structure TbR (w : World) (tp tb n : Nat) (T : Tbl) (g : Bool) : Prop where
  p : Blk w tp [.slice (some ⟨tb, 0, none⟩) n n, .bool g] 174
  ne : tp ≠ tb
  len : T.length = n
  ex : ∃ vs : List Value, vs.length = n ∧ Blk w tb vs 65 ∧ ∀ i v, vs[i]? = some v → SV w v (T.getD i []) ∧ v.ownBlock ≠ some tp ∧ v.ownBlock ≠ some tb

theorem TbR.kp {w w' : World} {tp tb n : Nat} {T : Tbl} {g : Bool} (h : TbR w tp tb n T g) (k : Kp no w w') : TbR w' tp tb n T g := by
  obtain ⟨vs, h1, h2, h3⟩ := h.ex
  exact ⟨k.blk h.p no_elim, h.ne, h.len, vs, h1, k.blk h2 no_elim, fun i v hv => ⟨k.row (h3 i v hv).1 (fun _ _ => no_elim), (h3 i v hv).2⟩⟩

def TK (tp tb : Nat) (b : Nat) : Prop := b = tp ∨ b = tb

theorem TbR.set {w : World} {tp tb n : Nat} {T : Tbl} {g : Bool} (h : TbR w tp tb n T g) {i : Nat} (hi : i < n) {u : Value} {s : St} (hu : SV w u s) (h1 : u.ownBlock ≠ some tp) (h2 : u.ownBlock ≠ some tb) :
    TbR (w.setCell ⟨tb, i, none⟩ u) tp tb n (T.set i s) g := by
  obtain ⟨vs, e1, e2, e3⟩ := h.ex
  refine ⟨Blk.other h.p _ (fun e => h.ne e), h.ne, by rw [List.length_set]; exact h.len, vs.set i u, by simpa using e1, e2.set i u, ?_⟩
  intro j v hv
  by_cases hj : j = i
  · subst hj
    rw [List.getElem?_set_self (by omega)] at hv
    obtain rfl : u = v := by simpa using hv
    refine ⟨?_, h1, h2⟩
    rw [List.getD_eq_getElem?_getD, List.getElem?_set_self (by rw [h.len]; exact hi)]
    exact Row.set hu _ h2
  · rw [List.getElem?_set_ne (Ne.symm hj)] at hv
    obtain ⟨a1, a2, a3⟩ := e3 j v hv
    refine ⟨?_, a2, a3⟩
    rw [List.getD_eq_getElem?_getD, List.getElem?_set_ne (Ne.symm hj), ← List.getD_eq_getElem?_getD]
    exact Row.set a1 _ a3

theorem TbR.turn {w : World} {tp tb n : Nat} {T : Tbl} {g : Bool} (h : TbR w tp tb n T g) (b : Bool) : TbR (w.setCell ⟨tp, 1, none⟩ (.bool b)) tp tb n T b := by
  obtain ⟨vs, e1, e2, e3⟩ := h.ex
  refine ⟨h.p.set 1 (.bool b), h.ne, h.len, vs, e1, Blk.other e2 _ (fun e => h.ne e.symm), fun j v hv => ?_⟩
  obtain ⟨a1, a2, a3⟩ := e3 j v hv
  exact ⟨Row.set a1 _ a2, a2, a3⟩

theorem TbR.drew {w : World} {tp tb n : Nat} {T : Tbl} {g : Bool} (h : TbR w tp tb n T g) : TbR w.drew tp tb n T g := h.kp (Kp.refl _ _).drew
theorem TbR.drewN {w : World} {tp tb n : Nat} {T : Tbl} {g : Bool} (h : TbR w tp tb n T g) (k : Nat) : TbR (w.drewN k) tp tb n T g := h.kp ((Kp.refl _ _).drewN k)

theorem TbR.c {w : World} {tp tb n : Nat} {T : Tbl} {g : Bool} (h : TbR w tp tb n T g) : w.cell? ⟨tp, 0, none⟩ = some (.slice (some ⟨tb, 0, none⟩) n n) ∧ w.cell? ⟨tp, 1, none⟩ = some (.bool g) ∧ (∀ o, w.frozen? ⟨tp, o, none⟩ = false) ∧ (∀ o, w.frozen? ⟨tb, o, none⟩ = false) ∧ tp < w.heap.size ∧ tb < w.heap.size := by
  obtain ⟨vs, e1, e2, e3⟩ := h.ex
  exact ⟨h.p.cell 0, h.p.cell 1, h.p.frozen, e2.frozen, h.p.lt, e2.lt⟩

theorem TbR.at {w : World} {tp tb n : Nat} {T : Tbl} {g : Bool} (h : TbR w tp tb n T g) {i : Nat} (hi : i < n) :
    ∃ a cap, w.cell? ⟨tb, i, none⟩ = some (.slice a (T.getD i []).length cap) ∧ SV w (.slice a (T.getD i []).length cap) (T.getD i []) ∧ Value.ownBlock (.slice a (T.getD i []).length cap) ≠ some tp ∧ Value.ownBlock (.slice a (T.getD i []).length cap) ≠ some tb := by
  obtain ⟨vs, e1, e2, e3⟩ := h.ex
  obtain ⟨v, hv⟩ : ∃ v, vs[i]? = some v := ⟨_, List.getElem?_eq_getElem (by omega)⟩
  obtain ⟨a1, a2, a3⟩ := e3 i v hv
  obtain ⟨a, cap, rfl⟩ := SV.shape a1
  exact ⟨a, cap, (e2.cell i).trans hv, a1, a2, a3⟩

end Go.Proofs.YtellieabhaphhaaGreatDoor

/-
  narrowref's flow: the least table.
-/
namespace Go.Proofs.YtellieabhaphhaaGreatDoor
open Go.RowKit

abbrev DRow (w : World) (v : Value) (l : List Nd) : Prop := Row w v 63 9 l.length (nCells l)

theorem DRow.shape {w : World} {v : Value} {l : List Nd} (h : DRow w v l) : ∃ a cap, v = .slice a l.length cap := by
  rcases h.2 with ⟨rfl, h0⟩ | ⟨g, cap, cur, rfl, _⟩
  · exact ⟨none, 0, by rw [h0]⟩
  · exact ⟨_, _, rfl⟩

theorem DRow.at {w : World} {a : Option Addr} {cap : Nat} {l : List Nd} (h : DRow w (.slice a l.length cap) l) {k : Nat} {n : Nd} (hk : l[k]? = some n) :
    k < l.length ∧ ∃ g, a = some ⟨g, 0, none⟩ ∧ g < w.heap.size ∧ w.cell? ⟨g, k * 9, none⟩ = some (.int .u8 n.op) ∧ w.cell? ⟨g, k * 9 + 1, none⟩ = some (.int .i64 n.x) ∧ w.cell? ⟨g, k * 9 + 2, none⟩ = some (.int .i64 n.y) ∧ w.cell? ⟨g, k * 9 + 3, none⟩ = some (.int .i64 n.v) ∧ w.cell? ⟨g, k * 9 + 4, none⟩ = some (.int .u8 n.k) ∧ w.cell? ⟨g, k * 9 + 5, none⟩ = some (.int .i64 n.t) ∧ w.cell? ⟨g, k * 9 + 6, none⟩ = some (.int .i64 n.f) ∧ w.cell? ⟨g, k * 9 + 7, none⟩ = some (.int .i64 n.a) ∧ w.cell? ⟨g, k * 9 + 8, none⟩ = some (.int .i64 n.l) := by
  obtain ⟨hl, rfl⟩ := List.getElem?_eq_some_iff.1 hk
  obtain ⟨g, cap', e, _, hg⟩ := World.ownsRow.form h (by omega)
  injection e with e1 e2 e3
  subst e1
  have hc : ∀ j, j < 9 → w.cell? ⟨g, k * 9 + j, none⟩ = l[k].cells[j]? := fun j hj => by
    rw [Row.cell h _ (by have := Nat.mul_le_mul_right 9 hl; omega)]
    exact flat_get Nd.cells 9 nd9 l k j hl hj
  have hlt := Row.lt h (b := g) rfl
  exact ⟨hl, g, rfl, hlt, hc 0 (by decide), hc 1 (by decide), hc 2 (by decide), hc 3 (by decide), hc 4 (by decide), hc 5 (by decide), hc 6 (by decide), hc 7 (by decide), hc 8 (by decide)⟩

/-- The table and the nodes. -/
structure LSc (w : World) (tp tb n : Nat) (T : Tbl) (g : Bool) (v : Value) (l : List Nd) : Prop where
  t : TbR w tp tb n T g
  r : DRow w v l
  o1 : v.ownBlock ≠ some tp
  o2 : v.ownBlock ≠ some tb

theorem LSc.kp {w w' : World} {tp tb n : Nat} {T : Tbl} {g : Bool} {v : Value} {l : List Nd} (h : LSc w tp tb n T g v l) (k : Kp no w w') : LSc w' tp tb n T g v l :=
  ⟨h.t.kp k, k.row h.r (fun _ _ => no_elim), h.o1, h.o2⟩

theorem LSc.tk {w w' : World} {tp tb n : Nat} {T T' : Tbl} {g g' : Bool} {v : Value} {l : List Nd} (h : LSc w tp tb n T g v l) (k : Kp (TK tp tb) w w') (t : TbR w' tp tb n T' g') : LSc w' tp tb n T' g' v l :=
  ⟨t, k.row h.r (fun b hb e => by rcases e with rfl | rfl; exact h.o1 hb; exact h.o2 hb), h.o1, h.o2⟩

theorem LSc.turn {w : World} {tp tb n : Nat} {T : Tbl} {g : Bool} {v : Value} {l : List Nd} (h : LSc w tp tb n T g v l) (b : Bool) : LSc (w.setCell ⟨tp, 1, none⟩ (.bool b)) tp tb n T b v l :=
  ⟨h.t.turn b, Row.set h.r _ h.o1, h.o1, h.o2⟩

theorem New.ne {w : World} {v : Value} {b : Nat} (h : New w v) (hb : b < w.heap.size) : v.ownBlock ≠ some b := fun e => by have := h b e; omega

/-- A state beside the table. -/
def SB (w : World) (tp tb : Nat) (u : Value) (s : St) : Prop := SV w u s ∧ u.ownBlock ≠ some tp ∧ u.ownBlock ≠ some tb

theorem SB.tk {w w' : World} {tp tb : Nat} {u : Value} {s : St} (h : SB w tp tb u s) (k : Kp (TK tp tb) w w') : SB w' tp tb u s :=
  ⟨k.row h.1 (fun b hb e => by rcases e with rfl | rfl; exact h.2.1 hb; exact h.2.2 hb), h.2⟩
theorem SB.kp {w w' : World} {tp tb : Nat} {u : Value} {s : St} (h : SB w tp tb u s) (k : Kp no w w') : SB w' tp tb u s := ⟨k.row h.1 (fun _ _ => no_elim), h.2⟩

end Go.Proofs.YtellieabhaphhaaGreatDoor

/-
  A graph's text: what the answer writes.
-/
namespace Go.Proofs.YtellieabhaphhaaGreatDoor
open Go.RowKit

theorem ba_nil (a : ByteArray) : a ++ (⟨#[]⟩ : ByteArray) = a := ByteArray.append_empty

end Go.Proofs.YtellieabhaphhaaGreatDoor

/-
  A graph's text: what narrow writes.
-/
namespace Go.Proofs.YtellieabhaphhaaGreatDoor
open Go.RowKit

/-- A line. -/
def lnTx (n : NN) : ByteArray := n.tx ++ (if n.act = 11 then ⟨#[]⟩ else ⟨#[44]⟩ ++ twoB n.yes.toNat) ++ (if n.act = 12 ∨ n.act = 13 then ⟨#[44]⟩ ++ twoB n.no.toNat else ⟨#[]⟩) ++ ⟨#[59]⟩

/-- A node that can be written. -/
structure Ln (n : NN) : Prop where
  tx : n.tx.size ≤ 1000
  yes : n.act ≠ 11 → 0 ≤ n.yes ∧ n.yes < 100
  no : n.act = 12 ∨ n.act = 13 → 0 ≤ n.no ∧ n.no < 100

theorem lnTx_size {n : NN} (h : Ln n) : (lnTx n).size ≤ 1007 := by
  have h1 := h.tx
  have h2 : ∀ k, (twoB k).size = 2 := twoB_size
  unfold lnTx
  rw [ByteArray.size_append, ByteArray.size_append, ByteArray.size_append, show (ByteArray.mk #[59]).size = 1 from rfl]
  have h3 : (if n.act = 11 then (⟨#[]⟩ : ByteArray) else ⟨#[44]⟩ ++ twoB n.yes.toNat).size ≤ 3 := by
    split
    · decide
    · rw [ByteArray.size_append, h2]; decide
  have h4 : (if n.act = 12 ∨ n.act = 13 then (⟨#[44]⟩ : ByteArray) ++ twoB n.no.toNat else ⟨#[]⟩).size ≤ 3 := by
    split
    · rw [ByteArray.size_append, h2]; decide
    · decide
  omega

set_option maxRecDepth 100000 in
set_option maxHeartbeats 1600000 in
theorem lineText_c (n : NN) (w : World) (h : Ln n) :
    Calls Tryz.prog 55 #[.agg #[.string n.tx, .int .i64 n.act, .int .i64 n.x, .int .i64 n.y, .int .i64 n.w, .int .i64 n.ck, .int .i64 n.cn, .int .i64 n.ch, .int .i64 n.kd, .int .i64 n.yes, .int .i64 n.no]] w fun e w' => e = .returned (.string (lnTx n)) ∧ Kp no w w' := by
  have HT := hide (fun W => nisTest_c n.act W)
  have htx := h.tx
  have e59 : (ByteArray.mk #[59]).size = 1 := rfl
  have e44 : (ByteArray.mk #[44]).size = 1 := rfl
  by_cases h11 : n.act = 11
  · have HE := hide (show lnTx n = n.tx ++ ⟨#[59]⟩ by rw [lnTx, if_pos h11, if_neg (by omega), ba_nil, ba_nil])
    rw [HE.out]
    obtain ⟨tx, act, nx, ny, nw, ck, cn, ch, kd, yes, nno⟩ := n
    dsimp only at *
    subst h11
    clear h HE
    go_enter Tryz.func55, Tryz.ntmps55
    go_wp2_with (go_at_call 99; refine (HT.out _).mono ?_; rintro e w' ⟨rfl, rfl⟩)
    go_ret
    exact ⟨rfl, by (repeat' (first | with_reducible exact Kp.refl _ _ | with_reducible refine Kp.alloc ?_ _ | with_reducible refine Kp.drewN ?_ _ | with_reducible refine Kp.drew ?_ | with_reducible refine Kp.setCell ?_ _ ?_ | (intro hh; first | rfl | exact .inl rfl | exact .inr rfl | (exfalso; (try dsimp only at hh); omega))))⟩
  · obtain ⟨y1, y2⟩ := h.yes h11
    obtain ⟨yn, hyn⟩ := Int.eq_ofNat_of_zero_le y1
    by_cases ht : n.act = 12 ∨ n.act = 13
    · obtain ⟨o1, o2⟩ := h.no ht
      obtain ⟨on, hon⟩ := Int.eq_ofNat_of_zero_le o1
      have HE := hide (show lnTx n = n.tx ++ (⟨#[44]⟩ ++ twoB yn) ++ (⟨#[44]⟩ ++ twoB on) ++ ⟨#[59]⟩ by rw [lnTx, if_neg h11, if_pos ht, hyn, hon, Int.toNat_natCast, Int.toNat_natCast])
      rw [HE.out]
      rw [decide_eq_true ht] at HT
      have HY := hide (fun W => ntwo_c yn W (by omega))
      have HO := hide (fun W => ntwo_c on W (by omega))
      have s1 := twoB_size yn
      have s2 := twoB_size on
      have g11 : (n.act == 11) = false := by simpa using h11
      have g11' : (n.act != 11) = true := by simpa using h11
      obtain ⟨tx, act, nx, ny, nw, ck, cn, ch, kd, yes, nno⟩ := n
      dsimp only at *
      subst hyn hon
      clear h HE ht h11
      generalize twoB yn = ty at *
      generalize twoB on = to at *
      go_enter Tryz.func55, Tryz.ntmps55
      go_wp2_with fail
      refine (HY.out _).mono ?_
      rintro e w1 ⟨rfl, k1⟩
      have hN1 : Blk w1 w.heap.size [.string tx, .int .i64 act, .int .i64 nx, .int .i64 ny, .int .i64 nw, .int .i64 ck, .int .i64 cn, .int .i64 ch, .int .i64 kd, .int .i64 yn, .int .i64 on] 91 := k1.blk (by (repeat' (first | ((with_reducible show (_ : List Value) = _); rfl) | ((with_reducible refine Blk.newAt _ _ _ ?_); first | with_reducible rfl | (simp; done)) | with_reducible refine Blk.alloc ?_ _ | with_reducible refine Blk.drewN ?_ _ | with_reducible refine Blk.drew ?_ | ((with_reducible refine Blk.other ?_ _ ?_); rotate_left; ((try dsimp only); omega)) | with_reducible refine Blk.setB (cs0 := ?_) ?_ ?_))) no_elim
      have HK1 := hide (show Kp no w w1 from Kp.trans (by (repeat' (first | with_reducible exact Kp.refl _ _ | with_reducible refine Kp.alloc ?_ _ | with_reducible refine Kp.drewN ?_ _ | with_reducible refine Kp.drew ?_ | with_reducible refine Kp.setCell ?_ _ ?_ | (intro hh; first | rfl | exact .inl rfl | exact .inr rfl | (exfalso; (try dsimp only at hh); omega))))) k1 (fun _ _ e => e))
      obtain ⟨n0, n1, n2, n3, n4, n5, n6, n7, n8, n9, n10, nf⟩ := hN1.c11; have hnl := hN1.lt
      clear k1
      go_wp2_with fail
      refine (HT.out _).mono ?_
      rintro e w' ⟨rfl, rfl⟩
      go_wp2_with fail
      refine (HO.out _).mono ?_
      rintro e w2 ⟨rfl, k2⟩
      go_wp2
      go_ret
      exact ⟨rfl, HK1.out.trans k2 (fun _ _ e => e)⟩
    · have HE := hide (show lnTx n = n.tx ++ (⟨#[44]⟩ ++ twoB yn) ++ ⟨#[59]⟩ by rw [lnTx, if_neg h11, if_neg ht, hyn, Int.toNat_natCast, ba_nil])
      rw [HE.out]
      rw [decide_eq_false ht] at HT
      have HY := hide (fun W => ntwo_c yn W (by omega))
      have s1 := twoB_size yn
      have g11 : (n.act == 11) = false := by simpa using h11
      have g11' : (n.act != 11) = true := by simpa using h11
      obtain ⟨tx, act, nx, ny, nw, ck, cn, ch, kd, yes, nno⟩ := n
      dsimp only at *
      subst hyn
      clear h HE ht h11
      generalize twoB yn = ty at *
      go_enter Tryz.func55, Tryz.ntmps55
      go_wp2_with fail
      refine (HY.out _).mono ?_
      rintro e w1 ⟨rfl, k1⟩
      have hN1 : Blk w1 w.heap.size [.string tx, .int .i64 act, .int .i64 nx, .int .i64 ny, .int .i64 nw, .int .i64 ck, .int .i64 cn, .int .i64 ch, .int .i64 kd, .int .i64 yn, .int .i64 nno] 91 := k1.blk (by (repeat' (first | ((with_reducible show (_ : List Value) = _); rfl) | ((with_reducible refine Blk.newAt _ _ _ ?_); first | with_reducible rfl | (simp; done)) | with_reducible refine Blk.alloc ?_ _ | with_reducible refine Blk.drewN ?_ _ | with_reducible refine Blk.drew ?_ | ((with_reducible refine Blk.other ?_ _ ?_); rotate_left; ((try dsimp only); omega)) | with_reducible refine Blk.setB (cs0 := ?_) ?_ ?_))) no_elim
      have HK1 := hide (show Kp no w w1 from Kp.trans (by (repeat' (first | with_reducible exact Kp.refl _ _ | with_reducible refine Kp.alloc ?_ _ | with_reducible refine Kp.drewN ?_ _ | with_reducible refine Kp.drew ?_ | with_reducible refine Kp.setCell ?_ _ ?_ | (intro hh; first | rfl | exact .inl rfl | exact .inr rfl | (exfalso; (try dsimp only at hh); omega))))) k1 (fun _ _ e => e))
      obtain ⟨n0, n1, n2, n3, n4, n5, n6, n7, n8, n9, n10, nf⟩ := hN1.c11; have hnl := hN1.lt
      clear k1
      go_wp2_with fail
      refine (HT.out _).mono ?_
      rintro e w' ⟨rfl, rfl⟩
      go_wp2
      go_ret
      exact ⟨rfl, HK1.out⟩

def graT (L : List NN) : ByteArray := L.foldl (fun a n => a ++ lnTx n) ⟨#[]⟩

theorem graT_take (L : List NN) (j : Nat) (n : NN) (h : L[j]? = some n) : graT (L.take (j + 1)) = graT (L.take j) ++ lnTx n := by
  obtain ⟨hj, rfl⟩ := List.getElem?_eq_some_iff.1 h
  rw [List.take_succ_eq_append_getElem hj]
  unfold graT
  rw [List.foldl_append]
  rfl

theorem graT_size {L : List NN} (h : ∀ n ∈ L, Ln n) : (graT L).size ≤ 1007 * L.length := by
  have key : ∀ (L : List NN) (a : ByteArray), (∀ n ∈ L, Ln n) → (L.foldl (fun a n => a ++ lnTx n) a).size ≤ a.size + 1007 * L.length := by
    intro L
    induction L with
    | nil => intro a _; simp
    | cons n L ih =>
      intro a h
      have h1 := ih (a ++ lnTx n) (fun z hz => h z (List.mem_cons_of_mem _ hz))
      have h2 := lnTx_size (h n (List.mem_cons_self ..))
      rw [ByteArray.size_append] at h1
      rw [List.foldl_cons, List.length_cons]
      omega
  have := key L ⟨#[]⟩ h
  rw [show (ByteArray.mk #[]).size = 0 from rfl, Nat.zero_add] at this
  exact this

set_option maxRecDepth 100000 in
set_option maxHeartbeats 1600000 in
theorem graphText_c (v : Value) (L : List NN) (w : World) (h : NRow w v L) (hl : L.length ≤ 100) (hL : ∀ n ∈ L, Ln n) :
    Calls Tryz.prog 31 #[v] w fun e w' => e = .returned (.string (graT L)) ∧ Kp no w w' := by
  obtain ⟨a, cap, rfl⟩ := h.shape
  have HD := hide h
  clear h
  go_enter Tryz.func31, Tryz.ntmps31
  go_wp2
  go_loopg [3, 9] L.length (fun k tv iv wr => ∃ j : Nat, j ≤ L.length ∧ k = L.length - j ∧ iv = .int .i64 j ∧ tv = .string (graT (L.take j)) ∧ Kp no w wr)
  case atStart => exact ⟨0, Nat.zero_le _, rfl, rfl, rfl, Kp.refl _ _⟩
  case round =>
    obtain ⟨j, hj, hk, rfl, rfl, kr⟩ := hrel
    have HKK := hide hk
    have HKR := hide kr
    clear hk kr
    by_cases hlt : j < L.length
    · obtain ⟨nd, hnd⟩ : ∃ nd, L[j]? = some nd := ⟨_, List.getElem?_eq_getElem hlt⟩
      have HLN := hide (hL nd (List.mem_of_getElem? hnd))
      obtain ⟨_, gn, ha, hgn, n0, n1, n2, n3, n4, n5, n6, n7, n8, n9, n10⟩ := NRow.at (HKR.out.row HD.out (fun _ _ => no_elim)) hnd
      subst ha
      have HT := hide (graT_take L j nd hnd)
      have hsz : (graT (L.take j)).size ≤ 100700 := Nat.le_trans (graT_size (fun n hn => hL n (List.mem_of_mem_take hn))) (by rw [List.length_take]; omega)
      have hs2 := lnTx_size HLN.out
      have HC := hide (fun W => lineText_c nd W HLN.out)
      have hjI : (j : Int) < L.length := by omega
      generalize graT (L.take j) = acc at *
      generalize lnTx nd = ln at *
      clear hnd
      obtain ⟨tx, act, nx, ny, nw, ck, cn, ch, kd, yes, nno⟩ := nd
      dsimp only at *
      go_wp2_with fail
      refine (HC.out _).mono ?_
      rintro e w5 ⟨rfl, k5⟩
      go_wp2
      go_roundg (L.length - (j + 1))
      case measure => have := HKK.out; omega
      case rel => exact ⟨j + 1, by omega, rfl, by go_num, by rw [HT.out], (HKR.out.alloc _).trans k5 (fun _ _ e => e)⟩
    · obtain rfl : j = L.length := by omega
      rw [List.take_length]
      go_wp2
      go_ret
      exact ⟨rfl, HKR.out⟩
end Go.Proofs.YtellieabhaphhaaGreatDoor

/-
  narrow.Run, narrow.Graph.
-/
namespace Go.Proofs.YtellieabhaphhaaGreatDoor
open Go.RowKit

theorem nj_take (row : List NN) (j : Nat) : nj (row.take (j + 1)) = nj (row.take j) + (match row[j]? with | some n => if n.act ≠ 15 then 1 else 0 | none => 0) := by
  unfold nj
  rw [List.take_add_one, List.countP_append]
  cases row[j]? with
  | none => rfl
  | some n =>
    show _ + List.countP _ [n] = _ + _
    rw [List.countP_cons, List.countP_nil, Nat.zero_add]
    by_cases h : n.act = 15 <;> simp [h]

theorem ahdA_nj (row : List NN) (p : Nat) : ∀ j, ahdA row p j ≤ nj (row.take j)
  | 0 => Nat.zero_le _
  | j + 1 => by
    have := ahdA_nj row p j
    rw [ahdA, nj_take]
    cases row[j]? with
    | none => exact this
    | some n =>
      dsimp only
      by_cases h : n.act = 15
      · rw [if_neg (fun e => e.2 h), if_neg (fun e => e h)]; exact this
      · rw [if_pos h]
        split <;> omega

theorem nbhM_le (m : MS) (k : Int) : nbhM m k ≤ nj m.row := by
  have := ahdA_nj m.row (hopM m m.row.length (plcM m k)) m.row.length
  rw [List.take_length] at this
  exact this

theorem nodA_nj (m : MS) : ∀ j, (nodA m j).length = nj (m.row.take j)
  | 0 => rfl
  | j + 1 => by
    have := nodA_nj m j
    rw [nodA, nj_take, List.length_append, this]
    cases m.row[j]? with
    | none => rfl
    | some n =>
      dsimp only
      by_cases h : n.act = 15
      · rw [if_pos h, if_neg (fun e => e h)]; rfl
      · rw [if_neg h, if_pos h]; rfl

theorem nodM_nj (m : MS) : (nodM m).length = nj m.row := by
  have := nodA_nj m m.row.length
  rw [List.take_length] at this
  exact this

theorem nodA_mem (m : MS) : ∀ j n, n ∈ nodA m j → ∃ n0 ∈ m.row, n0.act ≠ 15 ∧ n = n0.setW (nbhM m n0.yes) (nbhM m n0.no)
  | 0, n, h => by cases h
  | j + 1, n, h => by
    rw [nodA] at h
    rcases List.mem_append.1 h with h | h
    · exact nodA_mem m j n h
    · cases hj : m.row[j]? with
      | none => rw [hj] at h; cases h
      | some n0 =>
        rw [hj] at h
        dsimp only at h
        by_cases ha : n0.act = 15
        · rw [if_pos ha] at h; cases h
        · rw [if_neg ha] at h
          obtain rfl : n = _ := by simpa using h
          exact ⟨n0, List.mem_of_getElem? hj, ha, rfl⟩

/-- A node as the maker leaves it. -/
def SN (n : NN) : Prop := ∃ nd tx y z, n = encN nd tx y z ∧ Gn nd ∧ tx.size ≤ 1000 ∧ (0 ≤ y ∧ y ≤ 90) ∧ (0 ≤ z ∧ z ≤ 90) ∧ TxP nd tx

theorem src_nodes {s : ByteArray} (hs : s.size ≤ 180) (h : (srE s).1 = 0) : (∀ n ∈ nodM (srM s), SN n) ∧ (nodM (srM s)).length ≤ 90 := by
  obtain ⟨_, g2, g3, _⟩ := srM_good hs h
  refine ⟨fun n hn => ?_, by rw [nodM_nj]; exact g2⟩
  obtain ⟨n0, h1, h2, rfl⟩ := nodA_mem (srM s) _ n hn
  rcases g3 n0 h1 with h3 | ⟨_, nd, tx, y, z, rfl, hg, ht, hp⟩
  · exact absurd h3 h2
  · have b1 := nbhM_le (srM s) (encN nd tx y z).yes
    have b2 := nbhM_le (srM s) (encN nd tx y z).no
    exact ⟨nd, tx, _, _, encW nd tx y z _ _, hg, ht, ⟨Int.natCast_nonneg _, by omega⟩, ⟨Int.natCast_nonneg _, by omega⟩, hp⟩

set_option maxHeartbeats 1600000 in
theorem nrun_long (s inp : ByteArray) (fuel : Int) (w : World) (hm : inp.size ≤ maxLen) (h : ¬ (inp.size ≤ 40 ∧ 0 ≤ fuel ∧ fuel ≤ 300)) :
    Calls Tryz.prog 32 #[.string s, .string inp, .int .i64 fuel] w fun e w' => e = em3 1 ∧ Kp no w w' := by
  have HG := hide (nwithin_c inp fuel w hm)
  rw [decide_eq_false h] at HG
  clear h
  go_enter Tryz.func32, Tryz.ntmps32
  go_wp2_with fail
  refine HG.out.mono ?_
  rintro e w1 ⟨rfl, rfl⟩
  go_wp2
  go_ret3
  exact ⟨rfl, Kp.refl _ _⟩

set_option maxHeartbeats 1600000 in
theorem nrun_big (s inp : ByteArray) (fuel : Int) (w : World) (hm : inp.size ≤ maxLen) (hm2 : s.size ≤ maxLen) (h : inp.size ≤ 40 ∧ 0 ≤ fuel ∧ fuel ≤ 300) (hs : 180 < s.size) :
    Calls Tryz.prog 32 #[.string s, .string inp, .int .i64 fuel] w fun e w' => e = em3 1 ∧ Kp no w w' := by
  have HG := hide (nwithin_c inp fuel w hm)
  rw [decide_eq_true h] at HG
  have HS := hide (nos_long s w hm2 hs)
  clear h
  go_enter Tryz.func32, Tryz.ntmps32
  go_wp2_with fail
  refine HG.out.mono ?_
  rintro e w1 ⟨rfl, rfl⟩
  go_wp2_with fail
  refine HS.out.mono ?_
  rintro e w1 ⟨rfl, k1⟩
  go_wp2
  go_ret3
  exact ⟨rfl, k1⟩

set_option maxHeartbeats 1600000 in
theorem nrun_bad (s inp : ByteArray) (fuel : Int) (w : World) (hm : inp.size ≤ maxLen) (h : inp.size ≤ 40 ∧ 0 ≤ fuel ∧ fuel ≤ 300) (hs : s.size ≤ 180) (hb : (srE s).1 ≠ 0) :
    Calls Tryz.prog 32 #[.string s, .string inp, .int .i64 fuel] w fun e w' => e = em3 (srE s).1 ∧ Kp no w w' := by
  have HG := hide (nwithin_c inp fuel w hm)
  rw [decide_eq_true h] at HG
  have HS := hide (nos_c s w hs)
  have hb' : (((srE s).1 : Int) == 0) = false := by simp; omega
  unfold SrcP at HS
  generalize srE s = ge at *
  obtain ⟨ge1, ge2⟩ := ge
  dsimp only at *
  clear h hb
  go_enter Tryz.func32, Tryz.ntmps32
  go_wp2_with fail
  refine HG.out.mono ?_
  rintro e w1 ⟨rfl, rfl⟩
  go_wp2_with fail
  refine HS.out.mono ?_
  rintro e w1 ⟨v, rfl, k1, _⟩
  go_wp2
  go_ret3
  exact ⟨rfl, k1⟩

set_option maxRecDepth 100000 in
set_option maxHeartbeats 1600000 in
theorem nrun_good (s inp : ByteArray) (fuel : Nat) (w : World) (hm : inp.size ≤ 40) (h : fuel ≤ 300) (hs : s.size ≤ 180) (hb : (srE s).1 = 0) (ht : Tab w) (nds : List Nd) (hq : NEq (nodM (srM s)) nds) (hl : nds.length ≤ 100) (F : Nat) (mc' : Mc) (hE : wkF F nds inp (mc0 fuel) 0 = some mc') :
    Calls Tryz.prog 32 #[.string s, .string inp, .int .i64 fuel] w fun e w' => e = .returned (.tuple #[.string mc'.tr, .string mc'.out, .int .i64 (endE mc'.e)]) ∧ Kp no w w' := by
  have hm2 : inp.size ≤ maxLen := by unfold maxLen; omega
  have HG := hide (nwithin_c inp fuel w hm2)
  rw [decide_eq_true (by omega)] at HG
  have HS := hide (nos_c s w hs)
  unfold SrcP at HS
  rw [hb] at HS
  have HE := hide hE
  have HQ := hide hq
  clear hb hE hq
  go_enter Tryz.func32, Tryz.ntmps32
  go_wp2_with fail
  refine HG.out.mono ?_
  rintro e w1 ⟨rfl, rfl⟩
  go_wp2_with fail
  refine HS.out.mono ?_
  rintro e w2 ⟨v, rfl, k2, hpost⟩
  obtain ⟨hR, hO⟩ := hpost trivial
  have HW := hide (nwalk_c v _ _ inp fuel w2 hR HQ.out hl hm h (ht.kp k2 no_elim) F mc' HE.out)
  clear hO hpost HE HS HG HQ
  generalize nodM (srM s) = L at *
  obtain ⟨a, cap, rfl⟩ := hR.shape
  clear hR
  go_wp2_with fail
  refine HW.out.mono ?_
  rintro e w3 ⟨rfl, k3⟩
  go_wp2
  go_ret3
  exact ⟨rfl, k2.trans k3 (fun _ _ e => e)⟩

def gr3 (t : ByteArray) (e p : Int) : Ending := .returned (.tuple #[.string t, .int .i64 e, .int .i64 p])

set_option maxHeartbeats 1600000 in
theorem ngraph_long (s : ByteArray) (w : World) (hm : s.size ≤ maxLen) (hs : 180 < s.size) :
    Calls Tryz.prog 16 #[.string s] w fun e w' => e = gr3 em 1 0 ∧ Kp no w w' := by
  have HS := hide (nos_long s w hm hs)
  go_enter Tryz.func16, Tryz.ntmps16
  go_wp2_with fail
  refine HS.out.mono ?_
  rintro e w1 ⟨rfl, k1⟩
  go_wp2
  go_ret3
  exact ⟨rfl, k1⟩

set_option maxHeartbeats 1600000 in
theorem ngraph_bad (s : ByteArray) (w : World) (hs : s.size ≤ 180) (hb : (srE s).1 ≠ 0) :
    Calls Tryz.prog 16 #[.string s] w fun e w' => e = gr3 em (srE s).1 (srE s).2 ∧ Kp no w w' := by
  have HS := hide (nos_c s w hs)
  have hb' : (((srE s).1 : Int) == 0) = false := by simp; omega
  unfold SrcP at HS
  generalize srE s = ge at *
  obtain ⟨ge1, ge2⟩ := ge
  dsimp only at *
  clear hb
  go_enter Tryz.func16, Tryz.ntmps16
  go_wp2_with fail
  refine HS.out.mono ?_
  rintro e w1 ⟨v, rfl, k1, _⟩
  go_wp2
  go_ret3
  exact ⟨rfl, k1⟩

theorem SN.ln {n : NN} (h : SN n) : Ln n := by
  obtain ⟨nd, tx, y, z, rfl, _, ht, hy, hz, _⟩ := h
  exact ⟨ht, fun _ => by show 0 ≤ y ∧ y < 100; omega, fun _ => by show 0 ≤ z ∧ z < 100; omega⟩

set_option maxHeartbeats 1600000 in
theorem ngraph_good (s : ByteArray) (w : World) (hs : s.size ≤ 180) (hb : (srE s).1 = 0) :
    Calls Tryz.prog 16 #[.string s] w fun e w' => e = gr3 (graT (nodM (srM s))) 0 0 ∧ Kp no w w' := by
  have HS := hide (nos_c s w hs)
  obtain ⟨hsn, hlen⟩ := src_nodes hs hb
  unfold SrcP at HS
  rw [hb] at HS
  have HGT := hide (fun u W hW => graphText_c u (nodM (srM s)) W hW (by omega) (fun n hn => (hsn n hn).ln))
  clear hb hsn
  generalize nodM (srM s) = L at *
  go_enter Tryz.func16, Tryz.ntmps16
  go_wp2_with fail
  refine HS.out.mono ?_
  rintro e w2 ⟨v, rfl, k2, hpost⟩
  obtain ⟨hR, hO⟩ := hpost trivial
  have HR := hide hR
  obtain ⟨a, cap, rfl⟩ := hR.shape
  clear hO hpost HS hR
  go_wp2_with fail
  refine (HGT.out _ _ (by exact HR.out)).mono ?_
  rintro e w5 ⟨rfl, k5⟩
  go_wp2
  go_ret3
  exact ⟨rfl, k2.trans k5 (fun _ _ e => e)⟩
end Go.Proofs.YtellieabhaphhaaGreatDoor

/-
  The outright laws: the lines of a table.
-/
namespace Go.Proofs.YtellieabhaphhaaGreatDoor
open Go.RowKit

theorem ext_list (t : ByteArray) (a b : Nat) : (t.extract a b).data.toList = (t.data.toList.take b).drop a := by
  rw [ByteArray.data_extract, Array.toList_extract, List.extract_eq_take_drop, List.drop_take]

end Go.Proofs.YtellieabhaphhaaGreatDoor

/-
  Plain: a graph that is written, read again.
-/
namespace Go.Proofs.YtellieabhaphhaaGreatDoor
open Go.RowKit

/-- The bytes C lie in g at p. -/
def At (g : ByteArray) (p : Nat) (C : List UInt8) : Prop := ∀ k u, C[k]? = some u → pk g (p + k) = u.toNat

theorem At.left {g : ByteArray} {p : Nat} {C D : List UInt8} (h : At g p (C ++ D)) : At g p C := fun k u hk => h k u (by
  rw [List.getElem?_append_left (List.getElem?_eq_some_iff.1 hk).1]; exact hk)
theorem At.right {g : ByteArray} {p : Nat} {C D : List UInt8} (h : At g p (C ++ D)) : At g (p + C.length) D := fun k u hk => by
  have := h (C.length + k) u (by rw [List.getElem?_append_right (by omega)]; simpa using hk)
  rw [show p + C.length + k = p + (C.length + k) by omega]
  exact this
theorem At.head {g : ByteArray} {p : Nat} {u : UInt8} {D : List UInt8} (h : At g p (u :: D)) : pk g p = u.toNat := h 0 u rfl
theorem At.tail {g : ByteArray} {p : Nat} {u : UInt8} {D : List UInt8} (h : At g p (u :: D)) : At g (p + 1) D := At.right (C := [u]) h

theorem At.self (g : ByteArray) : At g 0 g.data.toList := fun k u hk => by
  obtain ⟨h1, h2⟩ := List.getElem?_eq_some_iff.1 hk
  have hk' : k < g.size := h1
  unfold pk
  rw [Nat.zero_add, dif_pos hk', ← h2]
  rfl

theorem at_since {s g : ByteArray} {i j p : Nat} (hij : i ≤ j) (hj : j ≤ s.size) (h : At g p (sinceB s i j).data.toList) : Sb s i g p (j - i) ∧ (sinceB s i j).data.toList.length = j - i := by
  have e : (sinceB s i j).data.toList = (s.data.toList.take j).drop i := ext_list s i j
  have hlen : s.data.toList.length = s.size := rfl
  refine ⟨fun k hk => ?_, by rw [e, List.length_drop, List.length_take]; omega⟩
  have hik : i + k < s.data.toList.length := by omega
  have hg : (sinceB s i j).data.toList[k]? = some s.data.toList[i + k] := by
    rw [e, List.getElem?_drop, List.getElem?_take_of_lt (by omega), List.getElem?_eq_getElem hik]
  rw [h k _ hg]
  unfold pk
  rw [dif_pos (show i + k < s.size from hik)]
  rfl

theorem test_op {s : ByteArray} {i j : Nat} {nd : Nd} (h : testF s i = (nd, (j, false))) : nd.op = 121 ∨ nd.op = 58 := by
  unfold testF at h
  split at h
  · rw [← (Prod.mk.inj h).1]; exact .inr rfl
  · rw [← (Prod.mk.inj h).1]; exact .inl rfl

theorem two_list (y : Nat) (h : y < 100) : ∃ a b : UInt8, (twoB y).data.toList = [a, b] ∧ a.toNat = 48 + y / 10 ∧ b.toNat = 48 + y % 10 := by
  refine ⟨UInt8.ofNat (48 + (y : Int) / 10).toNat, UInt8.ofNat (48 + (y : Int) % 10).toNat, rfl, ?_, ?_⟩
  · rw [UInt8.toNat_ofNat']; omega
  · rw [UInt8.toNat_ofNat']; omega

theorem way_read {g : ByteArray} {q : Nat} {y : Int} (h0 : 0 ≤ y) (h1 : y ≤ 90) (h : At g q ((⟨#[44]⟩ : ByteArray) ++ twoB y.toNat).data.toList) : wayF g (q, false) = (y.toNat, (q + 3, false)) := by
  obtain ⟨a, b, e, ea, eb⟩ := two_list y.toNat (by omega)
  have e2 : ((⟨#[44]⟩ : ByteArray) ++ twoB y.toNat).data.toList = [44, a, b] := by
    rw [ByteArray.data_append, Array.toList_append, e]; rfl
  rw [e2] at h
  have p0 : pk g q = 44 := h.head
  have p1 : pk g (q + 1) = a.toNat := h.tail.head
  have p2 : pk g (q + 1 + 1) = b.toNat := h.tail.tail.head
  have d1 : digF g (q + 1, false) = (y.toNat / 10, (q + 1 + 1, false)) := by
    unfold digF
    rw [p1, ea, if_neg (by simp; omega)]
    refine Prod.ext ?_ rfl
    show 48 + y.toNat / 10 - 48 = _; omega
  have d2 : digF g (q + 1 + 1, false) = (y.toNat % 10, (q + 1 + 1 + 1, false)) := by
    unfold digF
    rw [p2, eb, if_neg (by simp; omega)]
    refine Prod.ext ?_ rfl
    show 48 + y.toNat % 10 - 48 = _; omega
  have e0 : eatF g (q, false) 44 = (q + 1, false) := by rw [eatF_pkb g _ 44 (by decide), pkb_false, if_pos p0]
  unfold wayF
  rw [e0, d1]
  dsimp only
  rw [d2]
  refine Prod.ext ?_ rfl
  show 10 * (y.toNat / 10) + y.toNat % 10 = _; omega

def nlB (n : NN) : List UInt8 := (lnTx n).data.toList

/-- The node as it is read again at p. -/
def reN (nd : Nd) (p : Nat) (y z : Int) : Nd := { nd with a := p, t := if nd.op = 33 then -1 else y, f := if nd.op = 121 ∨ nd.op = 58 then z else nd.f }

theorem line_read {g : ByteArray} {st : RS} {nd : Nd} {tx : ByteArray} {y z : Int} (hp : TxP nd tx) (hy : 0 ≤ y ∧ y ≤ 90) (hz : 0 ≤ z ∧ z ≤ 90) (h : At g st.i (nlB (encN nd tx y z))) :
    lineF g st = { st with i := st.i + (nlB (encN nd tx y z)).length, bad := false, nodes := st.nodes ++ [reN nd st.i y z] } := by
  obtain ⟨s, i, j, rfl, hij, hj, hsrc⟩ := hp
  have hact : (encN nd (sinceB s i j) y z).act = actN nd.op := rfl
  have e : nlB (encN nd (sinceB s i j) y z) = (sinceB s i j).data.toList ++ ((if nd.op = 33 then [] else ((⟨#[44]⟩ : ByteArray) ++ twoB y.toNat).data.toList) ++ ((if nd.op = 121 ∨ nd.op = 58 then ((⟨#[44]⟩ : ByteArray) ++ twoB z.toNat).data.toList else []) ++ [59])) := by
    have a1 := actN_11 nd.op
    have a2 := actN_t nd.op
    unfold nlB lnTx
    rw [hact]
    show (sinceB s i j ++ (if actN nd.op = 11 then ⟨#[]⟩ else ⟨#[44]⟩ ++ twoB y.toNat) ++ (if actN nd.op = 12 ∨ actN nd.op = 13 then ⟨#[44]⟩ ++ twoB z.toNat else ⟨#[]⟩) ++ ⟨#[59]⟩ : ByteArray).data.toList = _
    by_cases h1 : nd.op = 33 <;> by_cases h2 : nd.op = 121 ∨ nd.op = 58
    · omega
    · rw [if_pos (a1.2 h1), if_neg (fun e => h2 (a2.1 e)), if_pos h1, if_neg h2]; simp
    · rw [if_neg (fun e => h1 (a1.1 e)), if_pos (a2.2 h2), if_neg h1, if_pos h2]; simp
    · rw [if_neg (fun e => h1 (a1.1 e)), if_neg (fun e => h2 (a2.1 e)), if_neg h1, if_neg h2]; simp
  rw [e] at h ⊢
  have hA := h.left
  have hB := h.right
  obtain ⟨hsb, hlen⟩ := at_since hij hj hA
  rw [hlen] at hB
  have hw : ∀ (q : Nat) (v : Int), ((⟨#[44]⟩ : ByteArray) ++ twoB v.toNat).data.toList.length = 3 := fun q v => by
    rw [ByteArray.data_append, Array.toList_append]; rfl
  have hL : lineN g st.i = ({ nd with a := st.i }, (st.i + (j - i), false)) := by
    rcases hsrc with hs | hs
    · obtain ⟨_, l2, l3⟩ := simp_loc hs hsb
      unfold lineN
      rw [if_neg (by omega), if_neg (by omega)]
      exact l2
    · have ht := test_op hs
      rw [if_neg (by omega)] at hB
      have hc : pk g (st.i + (j - i)) = 44 := by
        have := hB.left
        rw [ByteArray.data_append, Array.toList_append] at this
        exact this.left.head
      obtain ⟨_, l2, l3, l4, l5, l6⟩ := test_loc hs hsb hc
      unfold lineN
      rw [if_neg (by omega), if_pos ⟨l3, l4, l5, l6⟩]
      exact l2
  rw [lineF_eq, hL]
  unfold lineR lineT lineG
  rw [if_neg (by show ¬ (false = true); decide)]
  dsimp only
  by_cases h1 : nd.op = 33
  · have h2 : ¬ (nd.op = 121 ∨ nd.op = 58) := by omega
    rw [if_pos h1, if_neg h2] at hB ⊢
    rw [if_pos h1, if_neg h2]
    have p59 : pk g (st.i + (j - i)) = 59 := hB.head
    have e59 : eatF g (st.i + (j - i), false) 59 = (st.i + (j - i) + 1, false) := by rw [eatF_pkb g _ 59 (by decide), pkb_false, if_pos p59]
    dsimp only
    rw [e59]
    unfold reN
    rw [if_pos h1, if_neg h2]
    simp only [List.length_append, hlen, List.length_nil, List.length_singleton]
    congr 1
  · rw [if_neg h1] at hB ⊢
    rw [if_neg h1]
    have w1 := way_read hy.1 hy.2 hB.left
    have hB2 := hB.right
    rw [hw 0 y] at hB2
    rw [w1]
    dsimp only
    by_cases h2 : nd.op = 121 ∨ nd.op = 58
    · rw [if_pos h2] at hB2 ⊢
      rw [if_pos h2]
      have w2 := way_read hz.1 hz.2 hB2.left
      have hB3 := hB2.right
      rw [hw 0 z] at hB3
      rw [w2]
      dsimp only
      have p59 : pk g (st.i + (j - i) + 3 + 3) = 59 := hB3.head
      have e59 : eatF g (st.i + (j - i) + 3 + 3, false) 59 = (st.i + (j - i) + 3 + 3 + 1, false) := by rw [eatF_pkb g _ 59 (by decide), pkb_false, if_pos p59]
      rw [e59]
      unfold reN
      rw [if_neg h1, if_pos h2]
      simp only [List.length_append, hlen, hw 0 y, hw 0 z, List.length_singleton, Int.toNat_of_nonneg hy.1, Int.toNat_of_nonneg hz.1]
      congr 1
    · rw [if_neg h2] at hB2 ⊢
      rw [if_neg h2]
      have p59 : pk g (st.i + (j - i) + 3) = 59 := hB2.head
      have e59 : eatF g (st.i + (j - i) + 3, false) 59 = (st.i + (j - i) + 3 + 1, false) := by rw [eatF_pkb g _ 59 (by decide), pkb_false, if_pos p59]
      rw [e59]
      unfold reN
      rw [if_neg h1, if_neg h2]
      simp only [List.length_append, hlen, hw 0 y, List.length_nil, List.length_singleton, Int.toNat_of_nonneg hy.1]
      congr 1
end Go.Proofs.YtellieabhaphhaaGreatDoor

/-
  Plain: a walk with more fuel.
-/
namespace Go.Proofs.YtellieabhaphhaaGreatDoor
open Go.RowKit

/-- a is the beginning of b. -/
def Pre (a b : ByteArray) : Prop := ∃ c, b = a ++ c
theorem Pre.refl (a : ByteArray) : Pre a a := ⟨ByteArray.empty, by simp⟩
theorem Pre.trans {a b c : ByteArray} (h : Pre a b) (k : Pre b c) : Pre a c := by
  obtain ⟨x, rfl⟩ := h
  obtain ⟨y, rfl⟩ := k
  exact ⟨x ++ y, by rw [ByteArray.append_assoc]⟩
theorem Pre.app (a b : ByteArray) : Pre a (a ++ b) := ⟨b, rfl⟩
end Go.Proofs.YtellieabhaphhaaGreatDoor

/-
  Plain: a graph's nodes are well made.
-/
namespace Go.Proofs.YtellieabhaphhaaGreatDoor
open Go.RowKit

theorem lineF_items (s : ByteArray) (st : RS) : (lineF s st).items = st.items := by
  simp only [lineF]; split <;> rfl

theorem lnsF_gd : ∀ (f : Nat) (s : ByteArray) (st : RS), st.bad = false → (∀ n ∈ st.nodes, Gd s n) → (lnsF f s st).items = st.items ∧ ((lnsF f s st).bad = false → ∀ n ∈ (lnsF f s st).nodes, Gd s n) := by
  intro f
  induction f with
  | zero => intro s st _ h; exact ⟨rfl, fun _ => h⟩
  | succ f ih =>
    intro s st hb h
    rw [lnsF]
    split
    · rename_i hc
      split
      · exact ⟨rfl, fun e => by cases e⟩
      · cases hb2 : (lineF s st).bad
        · obtain ⟨nd, h1, h2, _⟩ := lineF_gd s st hc.2 hb2
          have := ih s (lineF s st) hb2 (fun n hn => by
            rw [h1, List.mem_append, List.mem_singleton] at hn
            rcases hn with h' | rfl
            · exact h n h'
            · exact h2)
          exact ⟨this.1.trans (lineF_items s st), this.2⟩
        · rw [lns_stop f s (lineF s st) (by rw [hb2]; simp)]
          exact ⟨lineF_items s st, fun e => by rw [hb2] at e; cases e⟩
    · exact ⟨rfl, fun _ => h⟩

theorem graF_gd (s : ByteArray) : (graF s).items = [] ∧ ((graF s).bad = false → ∀ n ∈ (graF s).nodes, Gd s n) :=
  lnsF_gd _ s rs0 rfl (fun n hn => by simp [rs0] at hn)

theorem graE_zero (s : ByteArray) (h : (graE s).1 = 0) : graE s = (0, 0) ∧ (graF s).bad = false := by
  unfold graE at h ⊢
  split
  · rename_i hb; rw [if_pos hb] at h; simp at h
  · rename_i hb
    rw [if_neg hb] at h
    refine ⟨?_, by simpa using hb⟩
    split
    · rename_i hl; rw [hl] at h; simp at h
    · rfl
end Go.Proofs.YtellieabhaphhaaGreatDoor

/-
  Longer: its helpers.
-/
namespace Go.Proofs.YtellieabhaphhaaGreatDoor
open Go.RowKit

/-- One call of Run. -/
def RunIs (s inp : ByteArray) (fuel : Int) (t u : ByteArray) (c : Int) : Prop :=
  ∀ W, Tab W → Calls Tryz.prog 32 #[.string s, .string inp, .int .i64 fuel] W fun e w' => e = .returned (.tuple #[.string t, .string u, .int .i64 c]) ∧ Kp no W w'
/-- One call of Walk. -/
def WlkIs (s inp : ByteArray) (fuel : Int) (t u : ByteArray) (c : Int) : Prop :=
  ∀ W, Tab W → Calls Tryz.prog 33 #[.string s, .string inp, .int .i64 fuel] W fun e w' => e = .returned (.tuple #[.string t, .string u, .int .i64 c]) ∧ Kp no W w'

/-- The first with less fuel, the second with more. -/
def Fur (t u : ByteArray) (c : Int) (t' u' : ByteArray) (c' : Int) : Prop := (c ≠ 4 → t' = t ∧ u' = u ∧ c' = c) ∧ (c = 4 → Pre t t' ∧ Pre u u')
theorem Fur.refl (t u : ByteArray) (c : Int) : Fur t u c t u c := ⟨fun _ => ⟨rfl, rfl, rfl⟩, fun _ => ⟨Pre.refl _, Pre.refl _⟩⟩

end Go.Proofs.YtellieabhaphhaaGreatDoor

/-
  Plain: the graph of a source, read again; a source that is not empty has nodes.
-/
namespace Go.Proofs.YtellieabhaphhaaGreatDoor
open Go.RowKit

theorem gra_flat (L : List NN) : (graT L).data.toList = L.flatMap nlB := by
  have key : ∀ (L : List NN) (a : ByteArray), (L.foldl (fun a n => a ++ lnTx n) a).data.toList = a.data.toList ++ L.flatMap nlB := by
    intro L
    induction L with
    | nil => intro a; simp
    | cons n L ih =>
      intro a
      rw [List.foldl_cons, ih]
      simp [nlB]
  exact (key L ⟨#[]⟩).trans (by simp)

theorem nlB_pos (n : NN) : 0 < (nlB n).length := by
  unfold nlB lnTx
  rw [ByteArray.data_append, Array.toList_append, List.length_append]
  show 0 < _ + 1
  omega

theorem nlB_le (n : NN) : (nlB n).length ≤ n.tx.size + 7 := by
  have e : (nlB n).length = (lnTx n).size := rfl
  rw [e]
  unfold lnTx
  have t1 := twoB_size n.yes.toNat
  have t2 := twoB_size n.no.toNat
  have c1 : (⟨#[44]⟩ : ByteArray).size = 1 := rfl
  have c2 : (⟨#[59]⟩ : ByteArray).size = 1 := rfl
  have c3 : (⟨#[]⟩ : ByteArray).size = 0 := rfl
  by_cases h1 : n.act = 11 <;> by_cases h2 : n.act = 12 ∨ n.act = 13
  · rw [if_pos h1, if_pos h2]; simp only [ByteArray.size_append]; omega
  · rw [if_pos h1, if_neg h2]; simp only [ByteArray.size_append]; omega
  · rw [if_neg h1, if_pos h2]; simp only [ByteArray.size_append]; omega
  · rw [if_neg h1, if_neg h2]; simp only [ByteArray.size_append]; omega

theorem nl_len (L : List NN) : L.length ≤ (L.flatMap nlB).length ∧ (L.flatMap nlB).length ≤ sz L + 7 * L.length := by
  induction L with
  | nil => exact ⟨Nat.le_refl _, Nat.le_refl _⟩
  | cons n L ih =>
    have h1 := nlB_pos n
    have h2 := nlB_le n
    have h3 : sz (n :: L) = n.tx.size + sz L := by simp [sz]
    rw [List.flatMap_cons, List.length_append, List.length_cons, h3]
    omega

theorem lns_read : ∀ (L : List NN), (∀ n ∈ L, SN n) → ∀ (f : Nat) (g : ByteArray) (st : RS), L.length < f → At g st.i (L.flatMap nlB) → st.i + (L.flatMap nlB).length = g.size → st.bad = false → st.nodes.length + L.length ≤ 90 →
    ∃ nds, lnsF f g st = { st with i := g.size, bad := false, nodes := st.nodes ++ nds } ∧ NEq L nds ∧ ∀ nd ∈ nds, nd.op = 33 → nd.t = -1
  | [], _, f, g, st, hf, _, hsz, hb, _ => by
    refine ⟨[], ?_, ⟨rfl, fun i nd h => by simp at h⟩, fun nd h => by cases h⟩
    rw [lns_stop _ _ _ (fun e => by simp at hsz; omega)]
    obtain ⟨i, b, nodes, items, loops⟩ := st
    simp at hsz hb
    subst hsz hb
    simp
  | n :: L, hN, f, g, st, hf, hA, hsz, hb, h90 => by
    obtain ⟨nd, tx, y, z, rfl, hg, ht, hy, hz, hp⟩ := hN n (List.mem_cons_self ..)
    rw [List.flatMap_cons] at hA hsz
    have hpos := nlB_pos (encN nd tx y z)
    rw [List.length_append] at hsz
    rw [List.length_cons] at hf h90
    obtain ⟨f, rfl⟩ : ∃ k, f = k + 1 := ⟨f - 1, by omega⟩
    have hr := line_read (st := st) hp hy hz hA.left
    obtain ⟨nds, h1, ⟨h2, h3⟩, h4⟩ := lns_read L (fun m hm => hN m (List.mem_cons_of_mem _ hm)) f g { st with i := st.i + (nlB (encN nd tx y z)).length, bad := false, nodes := st.nodes ++ [reN nd st.i y z] } (by omega) hA.right
      (by show st.i + (nlB (encN nd tx y z)).length + _ = _; omega) rfl (by show (st.nodes ++ [reN nd st.i y z]).length + _ ≤ 90; rw [List.length_append, List.length_singleton]; omega)
    refine ⟨reN nd st.i y z :: nds, ?_, ⟨?_, ?_⟩, ?_⟩
    · rw [lnsF, if_pos ⟨hb, by omega⟩, if_neg (by omega), hr, h1]
      simp
    · rw [List.length_cons, List.length_cons, h2]
    · intro i m hi
      cases i with
      | zero =>
        obtain rfl : reN nd st.i y z = m := by simpa using hi
        refine ⟨⟨hg.x, hg.y, hg.v, hg.op, hg.k, hg.kd, fun e => ?_⟩, tx, y, z, rfl, fun e => ?_, fun e => ?_⟩
        · show (if nd.op = 121 ∨ nd.op = 58 then z else nd.f) = -1
          rw [if_neg (show ¬ (nd.op = 121 ∨ nd.op = 58) from e)]
          exact hg.f e
        · have et : (reN nd st.i y z).t = y := by show (if nd.op = 33 then -1 else y) = y; rw [if_neg (show ¬ nd.op = 33 from e)]
          rw [et]; exact ⟨rfl, by omega, by omega⟩
        · have ef : (reN nd st.i y z).f = z := by show (if nd.op = 121 ∨ nd.op = 58 then z else nd.f) = z; rw [if_pos (show nd.op = 121 ∨ nd.op = 58 from e)]
          rw [ef]; exact ⟨rfl, by omega, by omega⟩
      | succ i => exact h3 i m (by simpa using hi)
    · intro m hm h33
      rcases List.mem_cons.1 hm with rfl | hm
      · show (if nd.op = 33 then -1 else y) = -1
        rw [if_pos (show nd.op = 33 from h33)]
      · exact h4 m hm h33

theorem nodA_sz (m : MS) : ∀ j, sz (nodA m j) ≤ sz (m.row.take j)
  | 0 => Nat.le_refl _
  | j + 1 => by
    have ih := nodA_sz m j
    rw [nodA, List.take_add_one]
    cases m.row[j]? with
    | none => simpa using ih
    | some n =>
      dsimp only
      have e : sz (m.row.take j ++ (some n).toList) = sz (m.row.take j) + n.tx.size := sz_one _ _
      rw [e]
      by_cases h : n.act = 15
      · rw [if_pos h, List.append_nil]; omega
      · rw [if_neg h, sz_one]
        show sz (nodA m j) + n.tx.size ≤ _
        omega

theorem gra_back {s : ByteArray} (hs : s.size ≤ 180) (h : (srE s).1 = 0) :
    (graT (nodM (srM s))).size ≤ 900 ∧ (graE (graT (nodM (srM s)))).1 = 0 ∧ NEq (nodM (srM s)) (graF (graT (nodM (srM s)))).nodes := by
  obtain ⟨hsn, hlen⟩ := src_nodes hs h
  have hsz : sz (nodM (srM s)) ≤ 180 := by
    have h1 := nodA_sz (srM s) (srM s).row.length
    rw [List.take_length] at h1
    exact Nat.le_trans h1 (srM_good hs h).2.2.2
  have hw : ∀ n ∈ nodM (srM s), n.yes ≤ (nodM (srM s)).length ∧ n.no ≤ (nodM (srM s)).length := by
    intro n hn
    obtain ⟨n0, _, _, rfl⟩ := nodA_mem (srM s) _ n hn
    have b1 := nbhM_le (srM s) n0.yes
    have b2 := nbhM_le (srM s) n0.no
    rw [nodM_nj]
    exact ⟨by show ((nbhM (srM s) n0.yes : Nat) : Int) ≤ _; omega, by show ((nbhM (srM s) n0.no : Nat) : Int) ≤ _; omega⟩
  generalize nodM (srM s) = L at *
  have hfl := nl_len L
  have hg : (graT L).size = (L.flatMap nlB).length := by rw [← gra_flat]; rfl
  have hA : At (graT L) 0 (L.flatMap nlB) := by rw [← gra_flat]; exact At.self _
  obtain ⟨nds, h1, h2, h3⟩ := lns_read L hsn ((graT L).size + 1) (graT L) rs0 (by omega) hA (by show 0 + _ = _; omega) rfl (by show 0 + L.length ≤ 90; omega)
  have hF : graF (graT L) = { rs0 with i := (graT L).size, bad := false, nodes := [] ++ nds } := h1
  have hn : (graF (graT L)).nodes = nds := by rw [hF]; rfl
  refine ⟨by omega, ?_, by rw [hn]; exact h2⟩
  unfold graE
  rw [if_neg (by rw [hF]; show ¬ (false = true); decide), hn]
  have hl : linkAt nds = none := by
    unfold linkAt
    rw [List.findIdx?_eq_none_iff]
    intro nd hnd
    obtain ⟨i, hi, rfl⟩ := List.getElem_of_mem hnd
    obtain ⟨gn, tx, yes, nno, hLi, hyes, hno⟩ := h2.2 i nds[i] (List.getElem?_eq_getElem hi)
    have hwi := hw _ (List.mem_of_getElem? hLi)
    have hll := h2.1
    unfold badLink
    rw [Bool.or_eq_false_iff, decide_eq_false_iff_not, decide_eq_false_iff_not]
    have w1 : yes ≤ L.length := hwi.1
    have w2 : nno ≤ L.length := hwi.2
    constructor
    · by_cases h33 : nds[i].op = 33
      · have := h3 _ (List.getElem_mem hi) h33; omega
      · have := (hyes h33).1; omega
    · by_cases ht : nds[i].op = 121 ∨ nds[i].op = 58
      · have := (hno ht).1; omega
      · have := gn.f ht; omega
  rw [hl]

-- nodes there are
theorem nj_add (row : List NN) (n : NN) (h : n.act ≠ 15) : nj (row ++ [n]) = nj row + 1 := by
  unfold nj; rw [List.countP_append]; simp [h]
theorem nj_up (row : List NN) (n : NN) : nj row ≤ nj (row ++ [n]) := by
  unfold nj; rw [List.countP_append]; omega

theorem tst_act (s : ByteArray) (p : Nat × Bool) : (tstF s p).1.act ≠ 15 := by
  unfold tstF queF
  split
  · show (13 : Int) ≠ 15; decide
  · show (12 : Int) ≠ 15; decide

theorem cond_nj : ∀ (f : Nat) (s : ByteArray) (yes no : Int) (m : MS), s.size - m.p.1 < f → m.p.1 ≤ s.size → nj m.row + 1 ≤ nj (condM f s yes no m).row
  | 0, _, _, _, _, h, _ => by omega
  | f + 1, s, yes, no, m, hf, hi => by
    rw [condM]
    split
    · rename_i hc
      obtain ⟨e1, e2, e3⟩ := eat_at (c := 33) hc (by decide)
      have x1 : (expM s m [33]).p.1 = m.p.1 + 1 := by rw [expM_p, e1]
      exact cond_nj f s no yes (expM s m [33]) (by omega) (by omega)
    split
    · rename_i _ hc
      obtain ⟨e1, e2, e3⟩ := eat_at (c := 38) hc (by decide)
      have x1 : (newM (expM s m [38])).p.1 = m.p.1 + 1 := by rw [newM_p, expM_p, e1]
      have g := condM_mc f s m.marks.length no (newM (expM s m [38])) (by omega) (by omega)
      have k1 := cond_nj f s m.marks.length no (newM (expM s m [38])) (by omega) (by omega)
      generalize condM f s m.marks.length no (newM (expM s m [38])) = y3 at *
      have g1 := g.lo; have g2 := g.i
      have k2 := cond_nj f s yes no (layM y3 m.marks.length) (by rw [layM_p]; omega) (by rw [layM_p]; omega)
      have e4 : nj (newM (expM s m [38])).row = nj m.row := rfl
      have e5 : nj (layM y3 m.marks.length).row = nj y3.row := rfl
      omega
    split
    · rename_i _ _ hc
      obtain ⟨e1, e2, e3⟩ := eat_at (c := 124) hc (by decide)
      have x1 : (newM (expM s m [124])).p.1 = m.p.1 + 1 := by rw [newM_p, expM_p, e1]
      have g := condM_mc f s yes m.marks.length (newM (expM s m [124])) (by omega) (by omega)
      have k1 := cond_nj f s yes m.marks.length (newM (expM s m [124])) (by omega) (by omega)
      generalize condM f s yes m.marks.length (newM (expM s m [124])) = y3 at *
      have g1 := g.lo; have g2 := g.i
      have k2 := cond_nj f s yes no (layM y3 m.marks.length) (by rw [layM_p]; omega) (by rw [layM_p]; omega)
      have e4 : nj (newM (expM s m [124])).row = nj m.row := rfl
      have e5 : nj (layM y3 m.marks.length).row = nj y3.row := rfl
      omega
    · have := nj_add m.row (((tstF s m.p).1.setT (sinceB s m.p.1 (tstF s m.p).2.1)).setW yes no) (tst_act s m.p)
      show nj m.row + 1 ≤ nj (m.row ++ [_])
      omega

def SUp (s : ByteArray) (n : Nat) (S : Int → Int → MS → MS) : Prop := ∀ h b m, m.p.1 ≤ s.size → (m.p.2 = false → s.size - m.p.1 < n) → nj m.row ≤ nj (S h b m).row

theorem cho_nj {f : Nat} {s : ByteArray} {S : Int → Int → MS → MS} {h b : Int} {m : MS} (hS : SMG s f S) (hU : SUp s f S) (hc : pkb s m.p = 40) (hf : s.size - m.p.1 < f + 1) : nj m.row + 1 ≤ nj (choM f S s h b m).row := by
  obtain ⟨e1, e2, e3⟩ := eat_at (c := 40) hc (by decide)
  unfold choM
  dsimp only
  have q1 : (expM s (new3 m) [40]).p.1 = m.p.1 + 1 := by rw [expM_p, new3_p, e1]
  have r1 : nj (expM s (new3 m) [40]).row = nj m.row := rfl
  generalize expM s (new3 m) [40] = x1 at *
  have g2 := condM_mc f s m.marks.length (m.marks.length + 1 : Nat) x1 (by omega) (by omega)
  have k2 := cond_nj f s m.marks.length (m.marks.length + 1 : Nat) x1 (by omega) (by omega)
  generalize condM f s m.marks.length (m.marks.length + 1 : Nat) x1 = x2 at *
  have g3 := expM_mg (l := [123]) (by decide) g2.i
  have g4 := layM_mg (k := m.marks.length) g3.i
  have r4 : nj (layM (expM s x2 [123]) m.marks.length).row = nj x2.row := rfl
  generalize layM (expM s x2 [123]) m.marks.length = x4 at *
  have lo4 : x1.p.1 ≤ x4.p.1 := Nat.le_trans g2.lo (Nat.le_trans g3.lo g4.lo)
  have i4 := g4.i
  have g5 := hS h b x4 g4.i (fun _ => by omega)
  have k5 := hU h b x4 g4.i (fun _ => by omega)
  generalize S h b x4 = x5 at *
  have g6 := expM_mg (l := [125, 123]) (by decide) g5.i
  have r6 : nj (expM s x5 [125, 123]).row = nj x5.row := rfl
  generalize expM s x5 [125, 123] = x6 at *
  have p7 := jmpM_p x6 (m.marks.length + 2 : Nat)
  have r7 : nj (jmpM x6 (m.marks.length + 2 : Nat)).row = nj x6.row := nj_jump _ _
  generalize jmpM x6 (m.marks.length + 2 : Nat) = x7 at *
  have g8 := layM_mg (s := s) (m := x7) (k := m.marks.length + 1) (by rw [p7]; exact g6.i)
  have r8 : nj (layM x7 (m.marks.length + 1)).row = nj x7.row := rfl
  generalize layM x7 (m.marks.length + 1) = x8 at *
  have lo8 : x4.p.1 ≤ x8.p.1 := Nat.le_trans g5.lo (Nat.le_trans g6.lo (by rw [← p7]; exact g8.lo))
  have i8 := g8.i
  have k9 := hU h b x8 g8.i (fun _ => by omega)
  have r11 : nj (layM (expM s (S h b x8) [125, 41]) (m.marks.length + 2)).row = nj (S h b x8).row := rfl
  omega

theorem lop_nj {f : Nat} {s : ByteArray} {S : Int → Int → MS → MS} {m : MS} (hU : SUp s f S) (hc : pkb s m.p = 91) (hf : s.size - m.p.1 < f + 1) : nj m.row + 1 ≤ nj (lopM f S s m).row := by
  obtain ⟨e1, e2, e3⟩ := eat_at (c := 91) hc (by decide)
  unfold lopM
  dsimp only
  have q1 : (layM (expM s (new3 m) [91]) m.marks.length).p.1 = m.p.1 + 1 := by rw [layM_p, expM_p, new3_p, e1]
  have r1 : nj (layM (expM s (new3 m) [91]) m.marks.length).row = nj m.row := rfl
  generalize layM (expM s (new3 m) [91]) m.marks.length = x1 at *
  have g2 := condM_mc f s (m.marks.length + 1 : Nat) (m.marks.length + 2 : Nat) x1 (by omega) (by omega)
  have k2 := cond_nj f s (m.marks.length + 1 : Nat) (m.marks.length + 2 : Nat) x1 (by omega) (by omega)
  generalize condM f s (m.marks.length + 1 : Nat) (m.marks.length + 2 : Nat) x1 = x2 at *
  have g3 := expM_mg (l := [123]) (by decide) g2.i
  have g4 := layM_mg (k := m.marks.length + 1) g3.i
  have r4 : nj (layM (expM s x2 [123]) (m.marks.length + 1)).row = nj x2.row := rfl
  generalize layM (expM s x2 [123]) (m.marks.length + 1) = x4 at *
  have lo4 : x1.p.1 ≤ x4.p.1 := Nat.le_trans g2.lo (Nat.le_trans g3.lo g4.lo)
  have i4 := g4.i
  have k5 := hU m.marks.length (m.marks.length + 2 : Nat) x4 g4.i (fun _ => by omega)
  have r7 : nj (jmpM (expM s (S m.marks.length (m.marks.length + 2 : Nat) x4) [125, 93]) m.marks.length).row = nj (S m.marks.length (m.marks.length + 2 : Nat) x4).row := nj_jump _ _
  have r8 : nj (layM (jmpM (expM s (S m.marks.length (m.marks.length + 2 : Nat) x4) [125, 93]) m.marks.length) (m.marks.length + 2)).row = nj (jmpM (expM s (S m.marks.length (m.marks.length + 2 : Nat) x4) [125, 93]) m.marks.length).row := rfl
  omega

theorem lep_nj (s : ByteArray) (l : List UInt8) (k : Int) (m : MS) : nj m.row ≤ nj (lepM s l k m).row := by
  unfold lepM
  split
  · exact Nat.le_refl _
  · have : nj (jmpM (expM s m l) k).row = nj m.row := nj_jump _ _
    omega

theorem act_nj {s : ByteArray} {m : MS} (h : pkb s m.p ≠ 0) : nj m.row ≤ nj (actM s m).row ∧ ((actM s m).p.2 = false → nj m.row + 1 ≤ nj (actM s m).row) := by
  refine ⟨nj_up m.row _, fun hb => ?_⟩
  obtain ⟨h1, h2⟩ := pkb_live h
  have e : m.p = (m.p.1, false) := by rw [← h1]
  have hb' : (expF s (nacF s m.p).2 [59]).2 = false := hb
  obtain ⟨e1, _⟩ := expF_good s [59] _ hb'
  obtain ⟨r1, r2⟩ := nac_ref s m.p.1
  rw [← e] at r1 r2
  rw [r1] at e1
  have := nj_add m.row (((nacF s m.p).1.setT (sinceB s m.p.1 (nacF s m.p).2.1)).setW m.marks.length m.marks.length) (by rw [r2 e1]; exact actN_ne _)
  show nj m.row + 1 ≤ nj (m.row ++ [_])
  omega

theorem st_nj {f : Nat} {s : ByteArray} {S : Int → Int → MS → MS} {h b : Int} {m : MS} (hS : SMG s f S) (hU : SUp s f S) (hp : pkb s m.p ≠ 0) (hf : s.size - m.p.1 < f + 1) :
    nj m.row ≤ nj (stM f S s h b m).row ∧ (h = -1 → b = -1 → (stM f S s h b m).p.2 = false → nj m.row + 1 ≤ nj (stM f S s h b m).row) := by
  unfold stM
  split
  · rename_i hc
    have := cho_nj (h := h) (b := b) hS hU hc hf
    exact ⟨by omega, fun _ _ _ => this⟩
  split
  · rename_i hc
    have := lop_nj hU hc hf
    exact ⟨by omega, fun _ _ _ => this⟩
  split
  · refine ⟨lep_nj s _ b m, fun _ hb hx => ?_⟩
    unfold lepM at hx
    rw [if_pos hb] at hx
    cases hx
  split
  · refine ⟨lep_nj s _ h m, fun hh _ hx => ?_⟩
    unfold lepM at hx
    rw [if_pos hh] at hx
    cases hx
  · exact ⟨(act_nj hp).1, fun _ _ hx => (act_nj hp).2 hx⟩

theorem stm_nj : ∀ (f : Nat) (s : ByteArray), SUp s f (stmM f s)
  | 0, s => fun h b m _ _ => Nat.le_refl _
  | f + 1, s => fun h b m hi hf => by
    rw [stmM]
    split
    · rename_i hc
      have hl := pkb_live hc.2
      have g := stM_mg (h := h) (b := b) (stmM_mg f s) hc.2 (hf hl.1)
      have k := (st_nj (h := h) (b := b) (stmM_mg f s) (stm_nj f s) hc.2 (hf hl.1)).1
      have hl2 := hf hl.1
      generalize stM f (stmM f s) s h b m = x at *
      have k2 := stm_nj f s h b x g.1.i (fun hb => by have := g.2 hb; have := g.1.i; omega)
      omega
    · exact Nat.le_refl _

theorem src_some {s : ByteArray} (hs : s.size ≤ 180) (h : (srE s).1 = 0) (hne : s.size ≠ 0) : nodM (srM s) ≠ [] := by
  obtain ⟨hp, _, _, _⟩ := srM_good hs h
  intro e
  have hz : nj (srM s).row = 0 := by rw [← nodM_nj, e]; rfl
  have hu : srM s = if pkb s ms0.p ≠ 125 ∧ pkb s ms0.p ≠ 0 then stmM s.size s (-1) (-1) (stM s.size (stmM s.size s) s (-1) (-1) ms0) else ms0 := by
    unfold srM
    rw [stmM]
  by_cases hc : pkb s ms0.p ≠ 125 ∧ pkb s ms0.p ≠ 0
  · rw [if_pos hc] at hu
    have hl0 : s.size - ms0.p.1 < s.size + 1 := by show s.size - 0 < _; omega
    have g := stM_mg (h := -1) (b := -1) (stmM_mg s.size s) hc.2 hl0
    have k := st_nj (h := -1) (b := -1) (stmM_mg s.size s) (stm_nj s.size s) hc.2 hl0
    have hgp := stmM_gp s.size s (by omega) (-1) (-1) (stM s.size (stmM s.size s) s (-1) (-1) ms0) g.1.i (fun hb => by have := g.2 hb; have := g.1.i; have : ms0.p.1 = 0 := rfl; omega)
    have hup := stm_nj s.size s (-1) (-1) (stM s.size (stmM s.size s) s (-1) (-1) ms0) g.1.i (fun hb => by have := g.2 hb; have := g.1.i; have : ms0.p.1 = 0 := rfl; omega)
    rw [← hu] at hgp hup
    have hx := (hgp (by rw [hp])).1
    have := k.2 rfl rfl hx
    omega
  · rw [if_neg hc] at hu
    have : (srM s).p.1 = 0 := by rw [hu]; rfl
    rw [hp] at this
    exact hne this
end Go.Proofs.YtellieabhaphhaaGreatDoor

/-
  Longer: the walks of its helpers.
-/
namespace Go.Proofs.YtellieabhaphhaaGreatDoor
open Go.RowKit

set_option maxHeartbeats 800000 in
theorem lruns_c (s inp : ByteArray) (fuel : Int) (t u : ByteArray) (c : Int) (w : World) (h : RunIs s inp fuel t u c) (ht : Tab w) :
    Calls Tryz.prog 17 #[.string s, .string inp, .int .i64 fuel] w fun e w' => e = .returned (.agg #[.string t, .string u, .int .i64 c]) ∧ Kp no w w' := by
  have HN := hide h
  have HNU := hide (fun W => lnum_c c W)
  clear h
  go_enter Tryz.func17, Tryz.ntmps17
  go_wp2_with fail
  refine (HN.out _ (ht.kp (by (repeat' (first | with_reducible exact Kp.refl _ _ | with_reducible refine Kp.alloc ?_ _ | with_reducible refine Kp.drewN ?_ _ | with_reducible refine Kp.drew ?_ | with_reducible refine Kp.setCell ?_ _ ?_ | (intro hh; first | rfl | exact .inl rfl | exact .inr rfl | (exfalso; (try dsimp only at hh); omega))))) no_elim)).mono ?_
  rintro e w1 ⟨rfl, k1⟩
  have hR : Blk w1 w.heap.size [.string ⟨#[]⟩, .string ⟨#[]⟩, .int .i64 0] 31 := k1.blk (by (repeat' (first | ((with_reducible show (_ : List Value) = _); rfl) | ((with_reducible refine Blk.newAt _ _ _ ?_); first | with_reducible rfl | (simp; done)) | with_reducible refine Blk.alloc ?_ _ | with_reducible refine Blk.drewN ?_ _ | with_reducible refine Blk.drew ?_ | ((with_reducible refine Blk.other ?_ _ ?_); rotate_left; ((try dsimp only); omega)) | with_reducible refine Blk.setB (cs0 := ?_) ?_ ?_))) no_elim
  obtain ⟨z0, z1, z2, zf⟩ := hR.c3
  have hz := hR.lt
  go_wp2_with (go_at_call 18; refine (HNU.out _).mono ?_; rintro e w' ⟨rfl, rfl⟩)
  refine body_agg (Tb := 31) (b := w.heap.size) (cs := [.string t, .string u, .int .i64 c]) (.inr rfl) Tryz.results17 rfl rfl (by (repeat' (first | ((with_reducible show (_ : List Value) = _); rfl) | with_reducible exact hR | ((with_reducible refine Blk.newAt _ _ _ ?_); first | with_reducible rfl | (simp; done)) | with_reducible refine Blk.alloc ?_ _ | with_reducible refine Blk.drewN ?_ _ | with_reducible refine Blk.drew ?_ | ((with_reducible refine Blk.other ?_ _ ?_); rotate_left; ((try dsimp only); omega)) | with_reducible refine Blk.setB (cs0 := ?_) ?_ ?_))) Tryz.underlying31 rfl (by kernel_rfl) ?_
  exact ⟨rfl, by (repeat' (first | with_reducible exact Kp.refl _ _ | with_reducible refine Kp.alloc ?_ _ | with_reducible refine Kp.drewN ?_ _ | with_reducible refine Kp.drew ?_ | with_reducible refine Kp.setCell ?_ _ ?_ | with_reducible refine Kp.trans ?_ k1 (fun _ _ e => e) | (intro hh; first | rfl | exact .inl rfl | exact .inr rfl | (exfalso; (try dsimp only at hh); omega))))⟩

set_option maxHeartbeats 800000 in
theorem lwlk_c (s inp : ByteArray) (fuel : Int) (t u : ByteArray) (c : Int) (w : World) (h : WlkIs s inp fuel t u c) (ht : Tab w) :
    Calls Tryz.prog 19 #[.string s, .string inp, .int .i64 fuel] w fun e w' => e = .returned (.agg #[.string t, .string u, .int .i64 c]) ∧ Kp no w w' := by
  have HN := hide h
  have HNU := hide (fun W => lnum_c c W)
  clear h
  go_enter Tryz.func19, Tryz.ntmps19
  go_wp2_with fail
  refine (HN.out _ (ht.kp (by (repeat' (first | with_reducible exact Kp.refl _ _ | with_reducible refine Kp.alloc ?_ _ | with_reducible refine Kp.drewN ?_ _ | with_reducible refine Kp.drew ?_ | with_reducible refine Kp.setCell ?_ _ ?_ | (intro hh; first | rfl | exact .inl rfl | exact .inr rfl | (exfalso; (try dsimp only at hh); omega))))) no_elim)).mono ?_
  rintro e w1 ⟨rfl, k1⟩
  have hR : Blk w1 w.heap.size [.string ⟨#[]⟩, .string ⟨#[]⟩, .int .i64 0] 31 := k1.blk (by (repeat' (first | ((with_reducible show (_ : List Value) = _); rfl) | ((with_reducible refine Blk.newAt _ _ _ ?_); first | with_reducible rfl | (simp; done)) | with_reducible refine Blk.alloc ?_ _ | with_reducible refine Blk.drewN ?_ _ | with_reducible refine Blk.drew ?_ | ((with_reducible refine Blk.other ?_ _ ?_); rotate_left; ((try dsimp only); omega)) | with_reducible refine Blk.setB (cs0 := ?_) ?_ ?_))) no_elim
  obtain ⟨z0, z1, z2, zf⟩ := hR.c3
  have hz := hR.lt
  go_wp2_with (go_at_call 18; refine (HNU.out _).mono ?_; rintro e w' ⟨rfl, rfl⟩)
  refine body_agg (Tb := 31) (b := w.heap.size) (cs := [.string t, .string u, .int .i64 c]) (.inr rfl) Tryz.results19 rfl rfl (by (repeat' (first | ((with_reducible show (_ : List Value) = _); rfl) | with_reducible exact hR | ((with_reducible refine Blk.newAt _ _ _ ?_); first | with_reducible rfl | (simp; done)) | with_reducible refine Blk.alloc ?_ _ | with_reducible refine Blk.drewN ?_ _ | with_reducible refine Blk.drew ?_ | ((with_reducible refine Blk.other ?_ _ ?_); rotate_left; ((try dsimp only); omega)) | with_reducible refine Blk.setB (cs0 := ?_) ?_ ?_))) Tryz.underlying31 rfl (by kernel_rfl) ?_
  exact ⟨rfl, by (repeat' (first | with_reducible exact Kp.refl _ _ | with_reducible refine Kp.alloc ?_ _ | with_reducible refine Kp.drewN ?_ _ | with_reducible refine Kp.drew ?_ | with_reducible refine Kp.setCell ?_ _ ?_ | with_reducible refine Kp.trans ?_ k1 (fun _ _ e => e) | (intro hh; first | rfl | exact .inl rfl | exact .inr rfl | (exfalso; (try dsimp only at hh); omega))))⟩

end Go.Proofs.YtellieabhaphhaaGreatDoor

/-
  narrowref's Prune: numbers anew.
-/
namespace Go.Proofs.YtellieabhaphhaaGreatDoor
open Go.RowKit

/-- How many of the first i lines have a state. -/
def cntF (T : Tbl) (i : Nat) : Nat := (T.take i).countP (fun s => decide (s ≠ []))

theorem cnt_succ (T : Tbl) (j : Nat) (h : j < T.length) : cntF T (j + 1) = cntF T j + (if T.getD j [] = [] then 0 else 1) := by
  unfold cntF
  rw [List.take_succ_eq_append_getElem h, List.countP_append, List.getD_eq_getElem?_getD, List.getElem?_eq_getElem h, Option.getD_some, List.countP_cons, List.countP_nil]
  by_cases e : T[j] = [] <;> simp [e]

theorem cnt_le (T : Tbl) (i : Nat) : cntF T i ≤ T.length := by
  unfold cntF
  refine Nat.le_trans List.countP_le_length ?_
  rw [List.length_take]
  exact Nat.min_le_right _ _

theorem cnt_top (T : Tbl) {i : Nat} (h : T.length ≤ i) : cntF T i = cntF T T.length := by
  unfold cntF
  rw [List.take_of_length_le h, List.take_length]

end Go.Proofs.YtellieabhaphhaaGreatDoor
