import Derived.Test.YtellieabhaphhaaGreatDoorPObeysC
/-
  Plain: tables of states, and the least one.
-/
namespace Go.Proofs.YtellieabhaphhaaGreatDoor
open Go.RowKit

abbrev Tbl := List St

def intoF (T : Tbl) (i : Int) (s : St) : Tbl × Bool :=
  if 0 ≤ i ∧ i < T.length then (T.set i.toNat (joinR (T.getD i.toNat []) s).1, (joinR (T.getD i.toNat []) s).2) else (T, false)

/-- What a node's part of a sweep does. -/
def pasF (n : Nd) (i : Nat) (T : Tbl) : Tbl × Bool :=
  if T.getD i [] = [] then (T, false)
  else if n.op = 121 ∨ n.op = 58 then
    ((intoF (intoF T n.t (hldF n true (T.getD i []))).1 n.f (hldF n false (T.getD i []))).1, (intoF T n.t (hldF n true (T.getD i []))).2 || (intoF (intoF T n.t (hldF n true (T.getD i []))).1 n.f (hldF n false (T.getD i []))).2)
  else intoF T n.t (behF n (T.getD i []))

/-- A sweep. -/
def swpF : List Nd → Nat → Tbl → Tbl × Bool
  | [], _, T => (T, false)
  | n :: l, i, T => ((swpF l (i + 1) (pasF n i T).1).1, (pasF n i T).2 || (swpF l (i + 1) (pasF n i T).1).2)

theorem swp_snoc (n : Nd) : ∀ (l : List Nd) (i : Nat) (T : Tbl), swpF (l ++ [n]) i T = ((pasF n (i + l.length) (swpF l i T).1).1, (swpF l i T).2 || (pasF n (i + l.length) (swpF l i T).1).2)
  | [], i, T => by simp [swpF]
  | m :: l, i, T => by
    rw [List.cons_append, swpF, swp_snoc n l (i + 1) (pasF m i T).1, swpF, List.length_cons, show i + 1 + l.length = i + (l.length + 1) by omega, Bool.or_assoc]

def itF (l : List Nd) : Nat → Tbl → Tbl
  | 0, T => T
  | k + 1, T => itF l k (swpF l 0 T).1

theorem it_succ (l : List Nd) : ∀ (k : Nat) (T : Tbl), itF l (k + 1) T = (swpF l 0 (itF l k T)).1
  | 0, _ => rfl
  | k + 1, T => by rw [itF, it_succ l k, ← itF]

theorem it_fix (l : List Nd) (T : Tbl) (h : (swpF l 0 T).1 = T) : ∀ k, itF l k T = T
  | 0 => rfl
  | k + 1 => by rw [itF, h, it_fix l T h k]

theorem it_add (l : List Nd) : ∀ (a b : Nat) (T : Tbl), itF l (a + b) T = itF l b (itF l a T)
  | 0, b, T => by rw [Nat.zero_add]; rfl
  | a + 1, b, T => by rw [show a + 1 + b = (a + b) + 1 by omega, itF, it_add l a b, ← itF]

/-- What has come to rest stays. -/
theorem it_rest (l : List Nd) (T : Tbl) (j : Nat) (hf : (swpF l 0 (itF l j T)).1 = itF l j T) (N : Nat) (hN : j ≤ N) : itF l N T = itF l j T := by
  obtain ⟨b, rfl⟩ := Nat.exists_eq_add_of_le hN
  rw [it_add, it_fix l _ hf]

-- lengths
theorem into_len (T : Tbl) (i : Int) (s : St) : (intoF T i s).1.length = T.length := by unfold intoF; split <;> simp
theorem pas_len (n : Nd) (i : Nat) (T : Tbl) : (pasF n i T).1.length = T.length := by
  unfold pasF
  repeat' split
  · rfl
  · simp [into_len]
  · simp [into_len]
theorem swp_len : ∀ (l : List Nd) (i : Nat) (T : Tbl), (swpF l i T).1.length = T.length
  | [], _, _ => rfl
  | n :: l, i, T => by rw [swpF]; show (swpF l (i + 1) (pasF n i T).1).1.length = _; rw [swp_len l, pas_len]
theorem it_len (l : List Nd) : ∀ (k : Nat) (T : Tbl), (itF l k T).length = T.length
  | 0, _ => rfl
  | k + 1, T => by rw [itF, it_len l k, swp_len]

-- what is not turned is as it was
theorem join_same {a b : St} (h : (joinR a b).2 = false) : (joinR a b).1 = a := by
  unfold joinR at h ⊢
  split
  · rfl
  · rename_i h1
    rw [if_neg h1] at h
    split
    · rename_i h2; rw [if_pos h2] at h; cases h
    · rename_i h2
      rw [if_neg h2] at h
      simpa using h

theorem set_getD {T : Tbl} {i : Nat} (h : i < T.length) : T.set i (T.getD i []) = T := by
  rw [List.getD_eq_getElem?_getD, List.getElem?_eq_getElem h, Option.getD_some, List.set_getElem_self]

theorem into_same {T : Tbl} {i : Int} {s : St} (h : (intoF T i s).2 = false) : (intoF T i s).1 = T := by
  unfold intoF at h ⊢
  split
  · rename_i hc
    rw [if_pos hc] at h
    show T.set i.toNat _ = T
    rw [join_same h, set_getD (by omega)]
  · rfl

theorem pas_same {n : Nd} {i : Nat} {T : Tbl} (h : (pasF n i T).2 = false) : (pasF n i T).1 = T := by
  unfold pasF at h ⊢
  split
  · rfl
  · rename_i h1
    rw [if_neg h1] at h
    split
    · rename_i h2
      rw [if_pos h2] at h
      rw [Bool.or_eq_false_iff] at h
      show (intoF _ _ _).1 = T
      rw [into_same h.2, into_same h.1]
    · rename_i h2
      rw [if_neg h2] at h
      exact into_same h

theorem swp_same : ∀ {l : List Nd} {i : Nat} {T : Tbl}, (swpF l i T).2 = false → (swpF l i T).1 = T
  | [], _, _, _ => rfl
  | n :: l, i, T, h => by
    rw [swpF] at h ⊢
    rw [Bool.or_eq_false_iff] at h
    show (swpF l (i + 1) (pasF n i T).1).1 = T
    rw [swp_same h.2, pas_same h.1]

-- tables are of states as they can be
def TOk (T : Tbl) : Prop := ∀ s ∈ T, SOk s

theorem TOk.get {T : Tbl} (h : TOk T) (i : Nat) : SOk (T.getD i []) := by
  rw [List.getD_eq_getElem?_getD]
  cases hx : T[i]? with
  | none => exact .nil
  | some m => exact h m (List.mem_of_getElem? hx)

theorem TOk.into {T : Tbl} (h : TOk T) (i : Int) {s : St} (hs : SOk s) : TOk (intoF T i s).1 := by
  unfold intoF
  split
  · intro z hz
    rcases List.mem_or_eq_of_mem_set hz with h1 | rfl
    · exact h z h1
    · exact (h.get _).join hs
  · exact h

theorem TOk.pas {T : Tbl} (h : TOk T) (n : Nd) (i : Nat) : TOk (pasF n i T).1 := by
  unfold pasF
  repeat' split
  · exact h
  · exact (h.into _ ((h.get i).hld n true)).into _ ((h.get i).hld n false)
  · exact h.into _ ((h.get i).beh n)

theorem TOk.swp : ∀ {l : List Nd} {i : Nat} {T : Tbl}, TOk T → TOk (swpF l i T).1
  | [], _, _, h => h
  | n :: l, i, T, h => by rw [swpF]; exact TOk.swp (h.pas n i)

theorem TOk.it {l : List Nd} : ∀ {k : Nat} {T : Tbl}, TOk T → TOk (itF l k T)
  | 0, _, h => h
  | k + 1, T, h => by rw [itF]; exact TOk.it h.swp

-- a measure
def pc (m : Nat) : Nat := (List.range 7).countP (fun i => m.testBit i)
def mS (s : St) : Nat := (s.map pc).sum
def mT (T : Tbl) : Nat := (T.map mS).sum

theorem pc_le (a b : Nat) : pc a ≤ pc (a ||| b) := List.countP_mono_left (fun i _ h => by rw [Nat.testBit_or, h, Bool.true_or])
theorem pc_seven (a : Nat) : pc a ≤ 7 := List.countP_le_length
theorem pc_lt {a b : Nat} (ha : a < 128) (hb : b < 128) (h : a ||| b ≠ a) : pc a < pc (a ||| b) := by
  rcases Nat.lt_or_ge (pc a) (pc (a ||| b)) with h1 | h1
  · exact h1
  · exfalso
    apply h
    refine Nat.eq_of_testBit_eq fun i => ?_
    by_cases hi : i < 7
    · cases hc : a.testBit i
      · cases hd : (a ||| b).testBit i
        · rfl
        · exfalso
          have key : ∀ (l : List Nat), i ∈ l → l.countP (fun i => a.testBit i) < l.countP (fun i => (a ||| b).testBit i) := by
            intro l hl
            induction l with
            | nil => cases hl
            | cons x l ih =>
              have hm : l.countP (fun i => a.testBit i) ≤ l.countP (fun i => (a ||| b).testBit i) := List.countP_mono_left (fun i _ h => by rw [Nat.testBit_or, h, Bool.true_or])
              rw [List.countP_cons, List.countP_cons]
              rcases List.mem_cons.1 hl with rfl | hl'
              · rw [hc, hd, if_pos rfl, if_neg (by decide)]; omega
              · have := ih hl'
                have h2 : (if a.testBit x = true then 1 else 0) ≤ (if (a ||| b).testBit x = true then 1 else 0) := by
                  rw [Nat.testBit_or]; cases a.testBit x <;> cases b.testBit x <;> simp
                omega
          have := key (List.range 7) (by simpa using hi)
          unfold pc at h1
          omega
      · rw [Nat.testBit_or, hc, Bool.true_or]
    · have h2 : 128 ≤ 2 ^ i := by
        have : 2 ^ 7 ≤ 2 ^ i := Nat.pow_le_pow_right (by decide) (by omega)
        omega
      have := or_lt ha hb
      rw [Nat.testBit_lt_two_pow (by omega), Nat.testBit_lt_two_pow (by omega)]

theorem zip_le : ∀ (a b : St), a.length ≤ b.length → mS a ≤ mS (List.zipWith (· ||| ·) a b)
  | [], _, _ => Nat.zero_le _
  | x :: a, [], h => by simp at h
  | x :: a, y :: b, h => by
    have := zip_le a b (by simpa using h)
    have := pc_le x y
    simp only [mS, List.zipWith_cons_cons, List.map_cons, List.sum_cons] at *
    omega

theorem zip_lt : ∀ (a b : St), a.length ≤ b.length → (∀ m ∈ a, m < 128) → (∀ m ∈ b, m < 128) → List.zipWith (· ||| ·) a b ≠ a → mS a < mS (List.zipWith (· ||| ·) a b)
  | [], _, _, _, _, h => by simp at h
  | x :: a, [], h, _, _, _ => by simp at h
  | x :: a, y :: b, h, ha, hb, hne => by
    have h1 := zip_le a b (by simpa using h)
    have h2 := pc_le x y
    by_cases hx : x ||| y = x
    · have := zip_lt a b (by simpa using h) (fun m hm => ha m (List.mem_cons_of_mem _ hm)) (fun m hm => hb m (List.mem_cons_of_mem _ hm)) (fun e => hne (by rw [List.zipWith_cons_cons, hx, e]))
      simp only [mS, List.zipWith_cons_cons, List.map_cons, List.sum_cons] at *
      omega
    · have := pc_lt (ha x (List.mem_cons_self ..)) (hb y (List.mem_cons_self ..)) hx
      simp only [mS, List.zipWith_cons_cons, List.map_cons, List.sum_cons] at *
      omega

theorem pc_pos {a : Nat} (ha : a < 128) (h : a ≠ 0) : 0 < pc a := by
  have := pc_lt (a := 0) (b := a) (by decide) ha (by simpa using h)
  simp only [Nat.zero_or] at this
  omega

theorem mS_le (s : St) : mS s ≤ 7 * s.length := by
  induction s with
  | nil => exact Nat.le_refl _
  | cons x s ih =>
    have := pc_seven x
    simp only [mS, List.map_cons, List.sum_cons, List.length_cons] at *
    omega

theorem mS_ok {s : St} (h : SOk s) : mS s ≤ 42 := by
  have := mS_le s
  rcases h with rfl | ⟨h, _⟩
  · decide
  · omega

theorem join_le {a b : St} (ha : SOk a) (hb : SOk b) : mS a ≤ mS (joinR a b).1 ∧ ((joinR a b).2 = true → mS a < mS (joinR a b).1) := by
  unfold joinR
  split
  · exact ⟨Nat.le_refl _, fun h => by cases h⟩
  · rename_i h1
    obtain ⟨lb, mb⟩ := hb.resolve_left h1
    split
    · rename_i h2
      subst h2
      have : 0 < mS b := by
        match b, lb, mb with
        | x :: b, _, mb =>
          have := pc_pos (mb x (List.mem_cons_self ..)).2 (mb x (List.mem_cons_self ..)).1
          simp only [mS, List.map_cons, List.sum_cons]
          omega
      exact ⟨Nat.zero_le _, fun _ => this⟩
    · rename_i h2
      obtain ⟨la, ma⟩ := ha.resolve_left h2
      exact ⟨zip_le a b (by omega), fun h => zip_lt a b (by omega) (fun m hm => (ma m hm).2) (fun m hm => (mb m hm).2) (by simpa using h)⟩

theorem mT_set : ∀ (T : Tbl) (i : Nat) (s : St), i < T.length → mT (T.set i s) + mS (T.getD i []) = mT T + mS s
  | [], i, _, h => by simp at h
  | a :: T, 0, s, _ => by simp only [List.set_cons_zero, mT, List.map_cons, List.sum_cons, List.getD_cons_zero]; omega
  | a :: T, i + 1, s, h => by
    have := mT_set T i s (by simpa using h)
    simp only [List.set_cons_succ, mT, List.map_cons, List.sum_cons, List.getD_cons_succ] at *
    omega

theorem mT_le : ∀ {T : Tbl}, TOk T → mT T ≤ 42 * T.length
  | [], _ => Nat.le_refl _
  | a :: T, h => by
    have h1 := mS_ok (h a (List.mem_cons_self ..))
    have h2 := mT_le (T := T) (fun s hs => h s (List.mem_cons_of_mem _ hs))
    simp only [mT, List.map_cons, List.sum_cons, List.length_cons] at *
    omega

theorem into_le {T : Tbl} (h : TOk T) (i : Int) {s : St} (hs : SOk s) : mT T ≤ mT (intoF T i s).1 ∧ ((intoF T i s).2 = true → mT T < mT (intoF T i s).1) := by
  unfold intoF
  split
  · rename_i hc
    have h1 := join_le (h.get i.toNat) hs
    have h2 := mT_set T i.toNat (joinR (T.getD i.toNat []) s).1 (by omega)
    refine ⟨?_, fun e => ?_⟩
    · dsimp only; omega
    · have := h1.2 e; dsimp only; omega
  · exact ⟨Nat.le_refl _, fun h => by cases h⟩

theorem pas_le {T : Tbl} (h : TOk T) (n : Nd) (i : Nat) : mT T ≤ mT (pasF n i T).1 ∧ ((pasF n i T).2 = true → mT T < mT (pasF n i T).1) := by
  unfold pasF
  repeat' split
  · exact ⟨Nat.le_refl _, fun h => by cases h⟩
  · have h1 := into_le h n.t ((h.get i).hld n true)
    have h2 := into_le (h.into n.t ((h.get i).hld n true)) n.f ((h.get i).hld n false)
    refine ⟨Nat.le_trans h1.1 h2.1, fun e => ?_⟩
    rw [Bool.or_eq_true] at e
    rcases e with e | e
    · exact Nat.lt_of_lt_of_le (h1.2 e) h2.1
    · exact Nat.lt_of_le_of_lt h1.1 (h2.2 e)
  · exact into_le h _ ((h.get i).beh n)

theorem swp_le : ∀ {l : List Nd} {i : Nat} {T : Tbl}, TOk T → mT T ≤ mT (swpF l i T).1 ∧ ((swpF l i T).2 = true → mT T < mT (swpF l i T).1)
  | [], _, _, _ => ⟨Nat.le_refl _, fun h => by cases h⟩
  | n :: l, i, T, h => by
    have h1 := pas_le h n i
    have h2 := swp_le (l := l) (i := i + 1) (h.pas n i)
    rw [swpF]
    refine ⟨Nat.le_trans h1.1 h2.1, fun e => ?_⟩
    rw [Bool.or_eq_true] at e
    rcases e with e | e
    · exact Nat.lt_of_lt_of_le (h1.2 e) h2.1
    · exact Nat.lt_of_le_of_lt h1.1 (h2.2 e)

-- the end's state has no part in it
theorem getD_take {T : Tbl} {i k : Nat} (h : i < k) : (T.take k).getD i [] = T.getD i [] := by
  rw [List.getD_eq_getElem?_getD, List.getD_eq_getElem?_getD, List.getElem?_take_of_lt h]

theorem into_take {T : Tbl} {k : Nat} (hT : T.length = k + 1) (i : Int) (s : St) : (intoF T i s).1.take k = (intoF (T.take k) i s).1 := by
  unfold intoF
  rw [List.length_take, hT]
  by_cases hc : 0 ≤ i ∧ i < ((min k (k + 1) : Nat) : Int)
  · rw [if_pos hc, if_pos ⟨hc.1, by omega⟩, List.take_set, getD_take (by omega)]
  · rw [if_neg hc]
    by_cases h2 : 0 ≤ i ∧ i < ((k + 1 : Nat) : Int)
    · rw [if_pos h2, List.take_set]
      exact List.set_eq_of_length_le (by rw [List.length_take]; omega)
    · rw [if_neg h2]

theorem pas_take {T : Tbl} {k : Nat} (hT : T.length = k + 1) (n : Nd) {i : Nat} (hi : i < k) : (pasF n i T).1.take k = (pasF n i (T.take k)).1 := by
  unfold pasF
  rw [getD_take hi]
  repeat' split
  · rfl
  · rw [into_take (by rw [into_len]; exact hT), into_take hT]
  · rw [into_take hT]

theorem swp_take {k : Nat} : ∀ {l : List Nd} {i : Nat} {T : Tbl}, T.length = k + 1 → i + l.length ≤ k → (swpF l i T).1.take k = (swpF l i (T.take k)).1
  | [], _, _, _, _ => rfl
  | n :: l, i, T, hT, hi => by
    rw [List.length_cons] at hi
    rw [swpF, swpF, swp_take (by rw [pas_len]; exact hT) (by omega), pas_take hT n (by omega)]

theorem it_take {l : List Nd} {k : Nat} (hk : l.length ≤ k) : ∀ {j : Nat} {T : Tbl}, T.length = k + 1 → (itF l j T).take k = itF l j (T.take k)
  | 0, _, _ => rfl
  | j + 1, T, hT => by rw [itF, itF, it_take hk (by rw [swp_len]; exact hT), swp_take hT (by omega)]

/-- The state in which runs begin. -/
abbrev st0 : St := [8, 8, 8, 8, 8, 8]
/-- The table at the beginning, with the end's state. -/
def tR (k : Nat) : Tbl := st0 :: List.replicate k []
/-- The least table. -/
def lstF (l : List Nd) : Tbl := (itF l 4000 (tR l.length)).take l.length

theorem st0_ok : SOk st0 := .inr ⟨rfl, by decide⟩
theorem tR_ok (k : Nat) : TOk (tR k) := by
  intro s hs
  rcases List.mem_cons.1 hs with rfl | h
  · exact st0_ok
  · rw [List.eq_of_mem_replicate h]; exact .nil

theorem lst_len (l : List Nd) : (lstF l).length = l.length := by
  unfold lstF tR
  rw [List.length_take, it_len]; simp

theorem lst_ok (l : List Nd) : TOk (lstF l) := fun s hs => TOk.it (tR_ok _) s (List.mem_of_mem_take hs)
end Go.Proofs.YtellieabhaphhaaGreatDoor

/-
  narrowref's machine: what it holds; steps told.
-/
namespace Go.Proofs.YtellieabhaphhaaGreatDoor
open Go.RowKit

structure Vl where
  k : Int
  n : Int
  v : Int

def Vl.cells (x : Vl) : List Value := [.int .u8 x.k, .int .i64 x.n, .int .u8 x.v]
def vCells (l : List Vl) : List Value := l.flatMap Vl.cells
theorem vl3 (x : Vl) : x.cells.length = 3 := rfl

structure Mc where
  l : List Vl
  rd : Nat
  left : Nat
  tr : ByteArray
  out : ByteArray
  e : Int

/-- The machine: its block, and the row of its variables. -/
structure MB (w : World) (m lb : Nat) (inp : ByteArray) (st : Mc) : Prop where
  b : Blk w m [.slice (some ⟨lb, 0, none⟩) 6 6, .string inp, .int .i64 st.rd, .int .i64 st.left, .string st.tr, .string st.out, .int .i64 st.e] 128
  l : Blk w lb (vCells st.l) 163
  ne : m ≠ lb
  six : st.l.length = 6

def MK (m lb : Nat) (b : Nat) : Prop := b = m ∨ b = lb

section
variable {w : World} {m lb : Nat} {inp : ByteArray} {st : Mc}

theorem MB.c (h : MB w m lb inp st) : w.cell? ⟨m, 0, none⟩ = some (.slice (some ⟨lb, 0, none⟩) 6 6) ∧ w.cell? ⟨m, 1, none⟩ = some (.string inp) ∧ w.cell? ⟨m, 2, none⟩ = some (.int .i64 st.rd) ∧
    w.cell? ⟨m, 3, none⟩ = some (.int .i64 st.left) ∧ w.cell? ⟨m, 4, none⟩ = some (.string st.tr) ∧ w.cell? ⟨m, 5, none⟩ = some (.string st.out) ∧ w.cell? ⟨m, 6, none⟩ = some (.int .i64 st.e) ∧ ∀ o, w.frozen? ⟨m, o, none⟩ = false :=
  ⟨h.b.cell 0, h.b.cell 1, h.b.cell 2, h.b.cell 3, h.b.cell 4, h.b.cell 5, h.b.cell 6, h.b.frozen⟩

theorem MB.v (h : MB w m lb inp st) (i j : Nat) (hi : i < st.l.length) (hj : j < 3) : w.cell? ⟨lb, i * 3 + j, none⟩ = st.l[i].cells[j]? := by
  rw [h.l.cell]; exact flat_get Vl.cells 3 vl3 st.l i j hi hj

theorem MB.vs (h : MB w m lb inp st) (i : Nat) (hi : i < st.l.length) : w.cell? ⟨lb, i * 3, none⟩ = some (.int .u8 st.l[i].k) ∧ w.cell? ⟨lb, i * 3 + 1, none⟩ = some (.int .i64 st.l[i].n) ∧ w.cell? ⟨lb, i * 3 + 2, none⟩ = some (.int .u8 st.l[i].v) :=
  ⟨h.v i 0 hi (by decide), h.v i 1 hi (by decide), h.v i 2 hi (by decide)⟩

theorem MB.lt (h : MB w m lb inp st) : m < w.heap.size ∧ lb < w.heap.size := ⟨h.b.lt, h.l.lt⟩
theorem MB.n (h : MB w m lb inp st) (n : Nat) : MB (w.drewN n) m lb inp st := ⟨h.b, h.l, h.ne, h.six⟩
theorem MB.drew (h : MB w m lb inp st) : MB w.drew m lb inp st := ⟨h.b, h.l, h.ne, h.six⟩
theorem MB.alloc (h : MB w m lb inp st) (o : Obj) : MB (w.alloc o) m lb inp st := ⟨h.b.alloc o, h.l.alloc o, h.ne, h.six⟩
theorem MB.kp {S : Nat → Prop} {w' : World} (h : MB w m lb inp st) (k : Kp S w w') (h1 : ¬ S m) (h2 : ¬ S lb) : MB w' m lb inp st := ⟨k.blk h.b h1, k.blk h.l h2, h.ne, h.six⟩
theorem MB.other (h : MB w m lb inp st) {a : Addr} (v : Value) (h1 : a.block ≠ m) (h2 : a.block ≠ lb) : MB (w.setCell a v) m lb inp st := ⟨h.b.other v (Ne.symm h1), h.l.other v (Ne.symm h2), h.ne, h.six⟩
theorem MB.setOut (h : MB w m lb inp st) (n : ByteArray) : MB (w.setCell ⟨m, 5, none⟩ (.string n)) m lb inp { st with out := n } := ⟨h.b.set 5 _, h.l.other _ (Ne.symm h.ne), h.ne, h.six⟩
end

def kindsB (a : ByteArray) (l : List Vl) : ByteArray := l.foldl (fun a x => a ++ strOfNums [x.k]) a

theorem str1 (k : Int) : (strOfNums [k]).size = 1 := by simp [strOfNums_size]

theorem kindsB_size (a : ByteArray) (l : List Vl) : (kindsB a l).size = a.size + l.length := by
  unfold kindsB
  induction l generalizing a with
  | nil => rfl
  | cons x l ih => rw [List.foldl_cons, ih, ByteArray.size_append, str1]; simp; omega

theorem twoB_size (n : Nat) : (twoB n).size = 2 := by simp [twoB, strOfNums_size]

def toldB (n : Nat) (l : List Vl) : ByteArray := kindsB (twoB n) l

def sp : ByteArray := ⟨#[32]⟩

end Go.Proofs.YtellieabhaphhaaGreatDoor

/-
  narrowref's machine: steps, input.
-/
namespace Go.Proofs.YtellieabhaphhaaGreatDoor
open Go.RowKit

def startF (st : Mc) (n : Nat) : Mc × Bool :=
  if st.left = 0 then ({ st with e := 4 }, false) else ({ st with left := st.left - 1, tr := st.tr ++ toldB n st.l ++ sp }, true)

def inVal (c : Nat) : Vl :=
  if 48 ≤ c ∧ c ≤ 57 then ⟨110, (c : Int) - 48, 0⟩ else if c = 84 then ⟨116, 0, 0⟩ else if c = 70 then ⟨102, 0, 0⟩ else if c = 65 then ⟨65, 0, 0⟩ else if c = 66 then ⟨66, 0, 122⟩ else if c = 67 then ⟨67, 0, 0⟩ else ⟨122, 0, 0⟩

def nextF (inp : ByteArray) (st : Mc) : Vl × Mc :=
  if st.rd < inp.size then (inVal (pk inp st.rd), { st with rd := st.rd + 1 }) else (inVal 90, st)

theorem Blk.c3 {w : World} {b : Nat} {a0 a1 a2 : Value} {T : TypeId} (h : Blk w b [a0, a1, a2] T) :
    w.cell? ⟨b, 0, none⟩ = some a0 ∧ w.cell? ⟨b, 1, none⟩ = some a1 ∧ w.cell? ⟨b, 2, none⟩ = some a2 ∧ ∀ o, w.frozen? ⟨b, o, none⟩ = false :=
  ⟨h.cell 0, h.cell 1, h.cell 2, h.frozen⟩

end Go.Proofs.YtellieabhaphhaaGreatDoor

/-
  narrow: kinds, values and signs, against the answer's own.
-/
namespace Go.Proofs.YtellieabhaphhaaGreatDoor
open Go.RowKit

/-- The bit of a kind's sign. -/
def bit (k : Int) : Int := if k = 110 then 1 else if k = 116 then 2 else if k = 102 then 4 else if k = 122 then 8 else if k = 65 then 16 else if k = 66 then 32 else if k = 67 then 64 else 0

def KOk (k : Int) : Prop := k = 110 ∨ k = 116 ∨ k = 102 ∨ k = 122 ∨ k = 65 ∨ k = 66 ∨ k = 67

/-- A value as narrow holds it. -/
def Vl.nc (x : Vl) : List Value := [.int .i64 (bit x.k), .int .i64 x.n, .int .i64 (bit x.v)]

set_option maxHeartbeats 400000 in
theorem nkindSign_c (k : Int) (h : KOk k) (w : World) :
    Calls Tryz.prog 141 #[.int .i64 (bit k)] w fun e w' => e = .returned (.string (strOfNums [k])) ∧ w' = w := by
  rcases h with rfl | rfl | rfl | rfl | rfl | rfl | rfl
  all_goals
    simp only [bit, reduceIte, Int.reduceEq]
    go_enter Tryz.func141, Tryz.ntmps141
    go_wp2
    go_ret
    exact ⟨rfl, rfl⟩

set_option maxHeartbeats 800000 in
theorem nkindOfSign_c (c : Nat) (w : World) :
    Calls Tryz.prog 185 #[.int .u8 c] w fun e w' => e = .returned (.int .i64 (bit c)) ∧ w' = w := by
  by_cases h110 : c = 110
  · subst h110
    go_enter Tryz.func185, Tryz.ntmps185
    go_wp2
    go_ret
    exact ⟨rfl, rfl⟩
  by_cases h116 : c = 116
  · subst h116
    go_enter Tryz.func185, Tryz.ntmps185
    go_wp2
    go_ret
    exact ⟨rfl, rfl⟩
  by_cases h102 : c = 102
  · subst h102
    go_enter Tryz.func185, Tryz.ntmps185
    go_wp2
    go_ret
    exact ⟨rfl, rfl⟩
  by_cases h122 : c = 122
  · subst h122
    go_enter Tryz.func185, Tryz.ntmps185
    go_wp2
    go_ret
    exact ⟨rfl, rfl⟩
  by_cases h65 : c = 65
  · subst h65
    go_enter Tryz.func185, Tryz.ntmps185
    go_wp2
    go_ret
    exact ⟨rfl, rfl⟩
  by_cases h66 : c = 66
  · subst h66
    go_enter Tryz.func185, Tryz.ntmps185
    go_wp2
    go_ret
    exact ⟨rfl, rfl⟩
  by_cases h67 : c = 67
  · subst h67
    go_enter Tryz.func185, Tryz.ntmps185
    go_wp2
    go_ret
    exact ⟨rfl, rfl⟩
  have HV := hide (show bit c = 0 by unfold bit; repeat' (first | rw [if_neg (by omega)] | rfl))
  rw [HV.out]
  have f110 : ((c : Int) == 110) = false := by simp; omega
  have f116 : ((c : Int) == 116) = false := by simp; omega
  have f102 : ((c : Int) == 102) = false := by simp; omega
  have f122 : ((c : Int) == 122) = false := by simp; omega
  have f65 : ((c : Int) == 65) = false := by simp; omega
  have f66 : ((c : Int) == 66) = false := by simp; omega
  have f67 : ((c : Int) == 67) = false := by simp; omega
  go_enter Tryz.func185, Tryz.ntmps185
  go_wp2
  go_ret
  exact ⟨rfl, rfl⟩

/-- What a sign stands for in a node. -/
def conV (c : Nat) : Vl :=
  if 48 ≤ c ∧ c ≤ 57 then ⟨110, (c : Int) - 48, 0⟩ else if c = 84 then ⟨116, 0, 0⟩ else if c = 70 then ⟨102, 0, 0⟩ else if c = 90 then ⟨122, 0, 0⟩ else if c = 67 then ⟨67, 0, 0⟩ else ⟨0, 0, 0⟩

set_option maxHeartbeats 1600000 in
theorem nconstantOfSign_c (c : Nat) (hc : c < 256) (w : World) :
    Calls Tryz.prog 183 #[.int .u8 c] w fun e w' => e = .returned (.agg (conV c).nc.toArray) ∧ Kp no w w' := by
  by_cases g0 : 48 ≤ c ∧ c ≤ 57
  · have HV := hide (show (conV c).nc = [.int .i64 1, .int .i64 ((c : Int) - 48), .int .i64 0] by rw [conV, if_pos g0]; rfl)
    obtain ⟨g0, g0'⟩ := g0
    go_enter Tryz.func183, Tryz.ntmps183
    go_wp2
    refine body_agg (Tb := 89) (b := w.heap.size) (cs := [.int .i64 1, .int .i64 ((c : Int) - 48), .int .i64 0]) (.inr rfl) Tryz.results183 rfl rfl (by (repeat' (first | ((with_reducible show (_ : List Value) = _); rfl) | ((with_reducible refine Blk.newAt _ _ _ ?_); first | with_reducible rfl | (simp; done)) | with_reducible refine Blk.alloc ?_ _ | with_reducible refine Blk.drewN ?_ _ | with_reducible refine Blk.drew ?_ | ((with_reducible refine Blk.other ?_ _ ?_); rotate_left; ((try dsimp only); omega)) | with_reducible refine Blk.setB (cs0 := ?_) ?_ ?_))) Tryz.underlying89 rfl (by kernel_rfl) ?_
    rw [HV.out]
    exact ⟨rfl, by (repeat' (first | with_reducible exact Kp.refl _ _ | with_reducible refine Kp.alloc ?_ _ | with_reducible refine Kp.drewN ?_ _ | with_reducible refine Kp.drew ?_ | with_reducible refine Kp.setCell ?_ _ ?_ | (intro hh; first | rfl | exact .inl rfl | exact .inr rfl | (exfalso; (try dsimp only at hh); omega))))⟩
  have g0' : ¬ (48 ≤ (c : Int) ∧ (c : Int) ≤ 57) := by omega
  by_cases h84 : c = 84
  · subst h84
    have HV := hide (show (conV 84).nc = [.int .i64 2, .int .i64 0, .int .i64 0] by rfl)
    go_enter Tryz.func183, Tryz.ntmps183
    go_wp2
    refine body_agg (Tb := 89) (b := w.heap.size) (cs := [.int .i64 2, .int .i64 0, .int .i64 0]) (.inr rfl) Tryz.results183 rfl rfl (by (repeat' (first | ((with_reducible show (_ : List Value) = _); rfl) | ((with_reducible refine Blk.newAt _ _ _ ?_); first | with_reducible rfl | (simp; done)) | with_reducible refine Blk.alloc ?_ _ | with_reducible refine Blk.drewN ?_ _ | with_reducible refine Blk.drew ?_ | ((with_reducible refine Blk.other ?_ _ ?_); rotate_left; ((try dsimp only); omega)) | with_reducible refine Blk.setB (cs0 := ?_) ?_ ?_))) Tryz.underlying89 rfl (by kernel_rfl) ?_
    rw [HV.out]
    exact ⟨rfl, by (repeat' (first | with_reducible exact Kp.refl _ _ | with_reducible refine Kp.alloc ?_ _ | with_reducible refine Kp.drewN ?_ _ | with_reducible refine Kp.drew ?_ | with_reducible refine Kp.setCell ?_ _ ?_ | (intro hh; first | rfl | exact .inl rfl | exact .inr rfl | (exfalso; (try dsimp only at hh); omega))))⟩
  by_cases h70 : c = 70
  · subst h70
    have HV := hide (show (conV 70).nc = [.int .i64 4, .int .i64 0, .int .i64 0] by rfl)
    go_enter Tryz.func183, Tryz.ntmps183
    go_wp2
    refine body_agg (Tb := 89) (b := w.heap.size) (cs := [.int .i64 4, .int .i64 0, .int .i64 0]) (.inr rfl) Tryz.results183 rfl rfl (by (repeat' (first | ((with_reducible show (_ : List Value) = _); rfl) | ((with_reducible refine Blk.newAt _ _ _ ?_); first | with_reducible rfl | (simp; done)) | with_reducible refine Blk.alloc ?_ _ | with_reducible refine Blk.drewN ?_ _ | with_reducible refine Blk.drew ?_ | ((with_reducible refine Blk.other ?_ _ ?_); rotate_left; ((try dsimp only); omega)) | with_reducible refine Blk.setB (cs0 := ?_) ?_ ?_))) Tryz.underlying89 rfl (by kernel_rfl) ?_
    rw [HV.out]
    exact ⟨rfl, by (repeat' (first | with_reducible exact Kp.refl _ _ | with_reducible refine Kp.alloc ?_ _ | with_reducible refine Kp.drewN ?_ _ | with_reducible refine Kp.drew ?_ | with_reducible refine Kp.setCell ?_ _ ?_ | (intro hh; first | rfl | exact .inl rfl | exact .inr rfl | (exfalso; (try dsimp only at hh); omega))))⟩
  by_cases h90 : c = 90
  · subst h90
    have HV := hide (show (conV 90).nc = [.int .i64 8, .int .i64 0, .int .i64 0] by rfl)
    go_enter Tryz.func183, Tryz.ntmps183
    go_wp2
    refine body_agg (Tb := 89) (b := w.heap.size) (cs := [.int .i64 8, .int .i64 0, .int .i64 0]) (.inr rfl) Tryz.results183 rfl rfl (by (repeat' (first | ((with_reducible show (_ : List Value) = _); rfl) | ((with_reducible refine Blk.newAt _ _ _ ?_); first | with_reducible rfl | (simp; done)) | with_reducible refine Blk.alloc ?_ _ | with_reducible refine Blk.drewN ?_ _ | with_reducible refine Blk.drew ?_ | ((with_reducible refine Blk.other ?_ _ ?_); rotate_left; ((try dsimp only); omega)) | with_reducible refine Blk.setB (cs0 := ?_) ?_ ?_))) Tryz.underlying89 rfl (by kernel_rfl) ?_
    rw [HV.out]
    exact ⟨rfl, by (repeat' (first | with_reducible exact Kp.refl _ _ | with_reducible refine Kp.alloc ?_ _ | with_reducible refine Kp.drewN ?_ _ | with_reducible refine Kp.drew ?_ | with_reducible refine Kp.setCell ?_ _ ?_ | (intro hh; first | rfl | exact .inl rfl | exact .inr rfl | (exfalso; (try dsimp only at hh); omega))))⟩
  by_cases h67 : c = 67
  · subst h67
    have HV := hide (show (conV 67).nc = [.int .i64 64, .int .i64 0, .int .i64 0] by rfl)
    go_enter Tryz.func183, Tryz.ntmps183
    go_wp2
    refine body_agg (Tb := 89) (b := w.heap.size) (cs := [.int .i64 64, .int .i64 0, .int .i64 0]) (.inr rfl) Tryz.results183 rfl rfl (by (repeat' (first | ((with_reducible show (_ : List Value) = _); rfl) | ((with_reducible refine Blk.newAt _ _ _ ?_); first | with_reducible rfl | (simp; done)) | with_reducible refine Blk.alloc ?_ _ | with_reducible refine Blk.drewN ?_ _ | with_reducible refine Blk.drew ?_ | ((with_reducible refine Blk.other ?_ _ ?_); rotate_left; ((try dsimp only); omega)) | with_reducible refine Blk.setB (cs0 := ?_) ?_ ?_))) Tryz.underlying89 rfl (by kernel_rfl) ?_
    rw [HV.out]
    exact ⟨rfl, by (repeat' (first | with_reducible exact Kp.refl _ _ | with_reducible refine Kp.alloc ?_ _ | with_reducible refine Kp.drewN ?_ _ | with_reducible refine Kp.drew ?_ | with_reducible refine Kp.setCell ?_ _ ?_ | (intro hh; first | rfl | exact .inl rfl | exact .inr rfl | (exfalso; (try dsimp only at hh); omega))))⟩
  have HV := hide (show (conV c).nc = [.int .i64 0, .int .i64 0, .int .i64 0] by rw [conV, if_neg g0, if_neg h84, if_neg h70, if_neg h90, if_neg h67]; rfl)
  have f84 : ((c : Int) == 84) = false := by simp; omega
  have f70 : ((c : Int) == 70) = false := by simp; omega
  have f90 : ((c : Int) == 90) = false := by simp; omega
  have f67 : ((c : Int) == 67) = false := by simp; omega
  rcases Nat.lt_or_ge c 48 with q | q
  · go_enter Tryz.func183, Tryz.ntmps183
    go_wp2
    refine body_agg (Tb := 89) (b := w.heap.size) (cs := [.int .i64 0, .int .i64 0, .int .i64 0]) (.inr rfl) Tryz.results183 rfl rfl (by (repeat' (first | ((with_reducible show (_ : List Value) = _); rfl) | ((with_reducible refine Blk.newAt _ _ _ ?_); first | with_reducible rfl | (simp; done)) | with_reducible refine Blk.alloc ?_ _ | with_reducible refine Blk.drewN ?_ _ | with_reducible refine Blk.drew ?_ | ((with_reducible refine Blk.other ?_ _ ?_); rotate_left; ((try dsimp only); omega)) | with_reducible refine Blk.setB (cs0 := ?_) ?_ ?_))) Tryz.underlying89 rfl (by kernel_rfl) ?_
    rw [HV.out]
    exact ⟨rfl, by (repeat' (first | with_reducible exact Kp.refl _ _ | with_reducible refine Kp.alloc ?_ _ | with_reducible refine Kp.drewN ?_ _ | with_reducible refine Kp.drew ?_ | with_reducible refine Kp.setCell ?_ _ ?_ | (intro hh; first | rfl | exact .inl rfl | exact .inr rfl | (exfalso; (try dsimp only at hh); omega))))⟩
  · go_enter Tryz.func183, Tryz.ntmps183
    go_wp2
    refine body_agg (Tb := 89) (b := w.heap.size) (cs := [.int .i64 0, .int .i64 0, .int .i64 0]) (.inr rfl) Tryz.results183 rfl rfl (by (repeat' (first | ((with_reducible show (_ : List Value) = _); rfl) | ((with_reducible refine Blk.newAt _ _ _ ?_); first | with_reducible rfl | (simp; done)) | with_reducible refine Blk.alloc ?_ _ | with_reducible refine Blk.drewN ?_ _ | with_reducible refine Blk.drew ?_ | ((with_reducible refine Blk.other ?_ _ ?_); rotate_left; ((try dsimp only); omega)) | with_reducible refine Blk.setB (cs0 := ?_) ?_ ?_))) Tryz.underlying89 rfl (by kernel_rfl) ?_
    rw [HV.out]
    exact ⟨rfl, by (repeat' (first | with_reducible exact Kp.refl _ _ | with_reducible refine Kp.alloc ?_ _ | with_reducible refine Kp.drewN ?_ _ | with_reducible refine Kp.drew ?_ | with_reducible refine Kp.setCell ?_ _ ?_ | (intro hh; first | rfl | exact .inl rfl | exact .inr rfl | (exfalso; (try dsimp only at hh); omega))))⟩

theorem bit_con (c : Nat) : bit (conV c).k = 0 ↔ ¬ ((48 ≤ c ∧ c ≤ 57) ∨ c = 84 ∨ c = 70 ∨ c = 90 ∨ c = 67) := by
  unfold conV; repeat' split
  all_goals simp [bit]
  all_goals omega

theorem inVal_con (c : Nat) (h : bit (conV c).k ≠ 0) : inVal c = conV c := by
  have h' := mt (bit_con c).2 h
  unfold inVal conV
  repeat' split
  all_goals first | rfl | (exfalso; omega)

theorem inVal_nul (c : Nat) (h : bit (conV c).k = 0) (h1 : c ≠ 65) (h2 : c ≠ 66) : inVal c = ⟨122, 0, 0⟩ := by
  have h' := (bit_con c).1 h
  unfold inVal
  repeat' split
  all_goals first | rfl | (exfalso; omega)

set_option maxHeartbeats 1600000 in
theorem ninputValue_c (c : Nat) (hc : c < 256) (w : World) :
    Calls Tryz.prog 169 #[.int .u8 c] w fun e w' => e = .returned (.agg (inVal c).nc.toArray) ∧ Kp no w w' := by
  by_cases h65 : c = 65
  · subst h65
    have HV := hide (show (inVal 65).nc = [.int .i64 16, .int .i64 0, .int .i64 0] by rfl)
    go_enter Tryz.func169, Tryz.ntmps169
    go_wp2
    refine body_agg (Tb := 89) (b := w.heap.size) (cs := [.int .i64 16, .int .i64 0, .int .i64 0]) (.inr rfl) Tryz.results169 rfl rfl (by (repeat' (first | ((with_reducible show (_ : List Value) = _); rfl) | ((with_reducible refine Blk.newAt _ _ _ ?_); first | with_reducible rfl | (simp; done)) | with_reducible refine Blk.alloc ?_ _ | with_reducible refine Blk.drewN ?_ _ | with_reducible refine Blk.drew ?_ | ((with_reducible refine Blk.other ?_ _ ?_); rotate_left; ((try dsimp only); omega)) | with_reducible refine Blk.setB (cs0 := ?_) ?_ ?_))) Tryz.underlying89 rfl (by kernel_rfl) ?_
    rw [HV.out]
    exact ⟨rfl, by (repeat' (first | with_reducible exact Kp.refl _ _ | with_reducible refine Kp.alloc ?_ _ | with_reducible refine Kp.drewN ?_ _ | with_reducible refine Kp.drew ?_ | with_reducible refine Kp.setCell ?_ _ ?_ | (intro hh; first | rfl | exact .inl rfl | exact .inr rfl | (exfalso; (try dsimp only at hh); omega))))⟩
  by_cases h66 : c = 66
  · subst h66
    have HV := hide (show (inVal 66).nc = [.int .i64 32, .int .i64 0, .int .i64 8] by rfl)
    go_enter Tryz.func169, Tryz.ntmps169
    go_wp2
    refine body_agg (Tb := 89) (b := w.heap.size) (cs := [.int .i64 32, .int .i64 0, .int .i64 8]) (.inr rfl) Tryz.results169 rfl rfl (by (repeat' (first | ((with_reducible show (_ : List Value) = _); rfl) | ((with_reducible refine Blk.newAt _ _ _ ?_); first | with_reducible rfl | (simp; done)) | with_reducible refine Blk.alloc ?_ _ | with_reducible refine Blk.drewN ?_ _ | with_reducible refine Blk.drew ?_ | ((with_reducible refine Blk.other ?_ _ ?_); rotate_left; ((try dsimp only); omega)) | with_reducible refine Blk.setB (cs0 := ?_) ?_ ?_))) Tryz.underlying89 rfl (by kernel_rfl) ?_
    rw [HV.out]
    exact ⟨rfl, by (repeat' (first | with_reducible exact Kp.refl _ _ | with_reducible refine Kp.alloc ?_ _ | with_reducible refine Kp.drewN ?_ _ | with_reducible refine Kp.drew ?_ | with_reducible refine Kp.setCell ?_ _ ?_ | (intro hh; first | rfl | exact .inl rfl | exact .inr rfl | (exfalso; (try dsimp only at hh); omega))))⟩
  have f65 : ((c : Int) == 65) = false := by simp; omega
  have f66 : ((c : Int) == 66) = false := by simp; omega
  have HC := hide (fun W => nconstantOfSign_c c hc W)
  by_cases hb : bit (conV c).k = 0
  · have HV := hide (show (inVal c).nc = [.int .i64 8, .int .i64 0, .int .i64 0] by rw [inVal_nul c hb h65 h66]; rfl)
    unfold Vl.nc at HC
    rw [hb] at HC
    generalize (conV c).n = cn at HC
    generalize bit (conV c).v = cv at HC
    go_enter Tryz.func169, Tryz.ntmps169
    go_wp2_with fail
    refine (HC.out _).mono ?_
    rintro e w1 ⟨rfl, k1⟩
    have hR : Blk w1 w.heap.size [.int .i64 0, .int .i64 0, .int .i64 0] 89 := k1.blk (by (repeat' (first | ((with_reducible show (_ : List Value) = _); rfl) | ((with_reducible refine Blk.newAt _ _ _ ?_); first | with_reducible rfl | (simp; done)) | with_reducible refine Blk.alloc ?_ _ | with_reducible refine Blk.drewN ?_ _ | with_reducible refine Blk.drew ?_ | ((with_reducible refine Blk.other ?_ _ ?_); rotate_left; ((try dsimp only); omega)) | with_reducible refine Blk.setB (cs0 := ?_) ?_ ?_))) no_elim
    have hz := hR.lt
    obtain ⟨z0, z1, z2, zf⟩ := hR.c3
    go_wp2
    refine body_agg (Tb := 89) (b := w.heap.size) (cs := [.int .i64 8, .int .i64 0, .int .i64 0]) (.inr rfl) Tryz.results169 rfl rfl (by (repeat' (first | ((with_reducible show (_ : List Value) = _); rfl) | with_reducible exact hR | ((with_reducible refine Blk.newAt _ _ _ ?_); first | with_reducible rfl | (simp; done)) | with_reducible refine Blk.alloc ?_ _ | with_reducible refine Blk.drewN ?_ _ | with_reducible refine Blk.drew ?_ | ((with_reducible refine Blk.other ?_ _ ?_); rotate_left; ((try dsimp only); omega)) | with_reducible refine Blk.setB (cs0 := ?_) ?_ ?_))) Tryz.underlying89 rfl (by kernel_rfl) ?_
    rw [HV.out]
    exact ⟨rfl, by (repeat' (first | with_reducible exact Kp.refl _ _ | with_reducible refine Kp.alloc ?_ _ | with_reducible refine Kp.drewN ?_ _ | with_reducible refine Kp.drew ?_ | with_reducible refine Kp.setCell ?_ _ ?_ | with_reducible refine Kp.trans ?_ k1 (fun _ _ e => e) | (intro hh; first | rfl | exact .inl rfl | exact .inr rfl | (exfalso; (try dsimp only at hh); omega))))⟩
  · have HV := hide (show (inVal c).nc = [.int .i64 (bit (conV c).k), .int .i64 (conV c).n, .int .i64 (bit (conV c).v)] by rw [inVal_con c hb]; rfl)
    unfold Vl.nc at HC
    have hb' : (bit (conV c).k == 0) = false := by simp [hb]
    generalize bit (conV c).k = ck at *
    generalize (conV c).n = cn at *
    generalize bit (conV c).v = cv at *
    go_enter Tryz.func169, Tryz.ntmps169
    go_wp2_with fail
    refine (HC.out _).mono ?_
    rintro e w1 ⟨rfl, k1⟩
    have hR : Blk w1 w.heap.size [.int .i64 0, .int .i64 0, .int .i64 0] 89 := k1.blk (by (repeat' (first | ((with_reducible show (_ : List Value) = _); rfl) | ((with_reducible refine Blk.newAt _ _ _ ?_); first | with_reducible rfl | (simp; done)) | with_reducible refine Blk.alloc ?_ _ | with_reducible refine Blk.drewN ?_ _ | with_reducible refine Blk.drew ?_ | ((with_reducible refine Blk.other ?_ _ ?_); rotate_left; ((try dsimp only); omega)) | with_reducible refine Blk.setB (cs0 := ?_) ?_ ?_))) no_elim
    have hz := hR.lt
    obtain ⟨z0, z1, z2, zf⟩ := hR.c3
    go_wp2
    refine body_agg (Tb := 89) (b := w.heap.size) (cs := [.int .i64 ck, .int .i64 cn, .int .i64 cv]) (.inr rfl) Tryz.results169 rfl rfl (by (repeat' (first | ((with_reducible show (_ : List Value) = _); rfl) | with_reducible exact hR | ((with_reducible refine Blk.newAt _ _ _ ?_); first | with_reducible rfl | (simp; done)) | with_reducible refine Blk.alloc ?_ _ | with_reducible refine Blk.drewN ?_ _ | with_reducible refine Blk.drew ?_ | ((with_reducible refine Blk.other ?_ _ ?_); rotate_left; ((try dsimp only); omega)) | with_reducible refine Blk.setB (cs0 := ?_) ?_ ?_))) Tryz.underlying89 rfl (by kernel_rfl) ?_
    rw [HV.out]
    exact ⟨rfl, by (repeat' (first | with_reducible exact Kp.refl _ _ | with_reducible refine Kp.alloc ?_ _ | with_reducible refine Kp.drewN ?_ _ | with_reducible refine Kp.drew ?_ | with_reducible refine Kp.setCell ?_ _ ?_ | with_reducible refine Kp.trans ?_ k1 (fun _ _ e => e) | (intro hh; first | rfl | exact .inl rfl | exact .inr rfl | (exfalso; (try dsimp only at hh); omega))))⟩

end Go.Proofs.YtellieabhaphhaaGreatDoor

/-
  narrowref's reader: a line of a graph.
-/
namespace Go.Proofs.YtellieabhaphhaaGreatDoor
open Go.RowKit

def digF (s : ByteArray) (p : Nat × Bool) : Nat × (Nat × Bool) :=
  if p.2 || decide (pk s p.1 < 48) || decide (57 < pk s p.1) then (0, (p.1, true)) else (pk s p.1 - 48, (p.1 + 1, false))

theorem digF_lt (s : ByteArray) (p : Nat × Bool) : (digF s p).1 < 10 := by
  unfold digF; split
  · show (0 : Nat) < 10; decide
  · rename_i h; simp at h; show pk s p.1 - 48 < 10; omega

theorem digF_le (s : ByteArray) (p : Nat × Bool) (h : p.1 ≤ s.size) : (digF s p).2.1 ≤ s.size := by
  unfold digF; split
  · exact h
  · rename_i h'
    have := pk_in s p.1 (by simp at h'; omega)
    show p.1 + 1 ≤ _
    omega

theorem digF_ge (s : ByteArray) (p : Nat × Bool) : p.1 ≤ (digF s p).2.1 ∧ ((digF s p).2.2 = false → p.1 < (digF s p).2.1 ∧ p.2 = false) := by
  unfold digF; split
  · exact ⟨Nat.le_refl _, by simp⟩
  · rename_i h; exact ⟨Nat.le_succ _, fun _ => ⟨Nat.lt_succ_self _, by simp at h; exact h.1.1⟩⟩

set_option maxHeartbeats 400000 in
theorem digit_c (r i : Nat) (s : ByteArray) (bad : Bool) (nv iv : Value) (lp : Int) (w : World) (hs : s.size ≤ 1000) (hi : i ≤ s.size)
    (h : RB w r s (i, bad) nv iv lp) :
    Calls Tryz.prog 116 #[.pointer (some ⟨r, 0, none⟩)] w fun e w' => e = .returned (.int .i64 (digF s (i, bad)).1) ∧ RB w' r s (digF s (i, bad)).2 nv iv lp ∧ Kp (· = r) w w' := by
  have HP := hide (peek_c r i s bad nv iv lp w h)
  have HB := hide h
  unfold RB at h
  have h0 := h.cell 0; have h1 := h.cell 1; have h2 := h.cell 2; have hf := h.frozen
  simp only [List.getElem?_cons_zero, List.getElem?_cons_succ] at h0 h1 h2
  clear h
  have hlt := pk_lt s i
  generalize hc : pk s i = d at HP hlt
  have HC := hide hc
  clear hc
  cases bad
  · by_cases hd : d < 48
    · go_enter Tryz.func116, Tryz.ntmps116
      go_wp2_with (go_at_call 65; refine HP.out.mono ?_; rintro e w' ⟨rfl, n, rfl⟩)
      go_ret
      have e1 : digF s (i, false) = (0, (i, true)) := by simp [digF, HC.out, hd]
      rw [e1]
      exact ⟨rfl, (HB.out.n n).bad, ((Kp.refl _ _).drewN n).set _ _⟩
    · by_cases hd2 : 57 < d
      · go_enter Tryz.func116, Tryz.ntmps116
        go_wp2_with (go_at_call 65; refine HP.out.mono ?_; rintro e w' ⟨rfl, n, rfl⟩)
        go_ret
        have e1 : digF s (i, false) = (0, (i, true)) := by simp [digF, HC.out, hd2]
        rw [e1]
        exact ⟨rfl, (HB.out.n n).bad, ((Kp.refl _ _).drewN n).set _ _⟩
      · go_enter Tryz.func116, Tryz.ntmps116
        go_wp2_with (go_at_call 65; refine HP.out.mono ?_; rintro e w' ⟨rfl, n, rfl⟩)
        go_ret
        have e1 : digF s (i, false) = (d - 48, (i + 1, false)) := by simp [digF, HC.out, hd, hd2]
        rw [e1]
        refine ⟨ret_i64 (by simp only []; omega), (HB.out.n n).next, ((Kp.refl _ _).drewN n).set _ _⟩
  · go_enter Tryz.func116, Tryz.ntmps116
    go_wp2_with (go_at_call 65; refine HP.out.mono ?_; rintro e w' ⟨rfl, n, rfl⟩)
    go_ret
    have e1 : digF s (i, true) = (0, (i, true)) := by simp [digF]
    rw [e1]
    exact ⟨rfl, (HB.out.n n).bad, ((Kp.refl _ _).drewN n).set _ _⟩

def wayF (s : ByteArray) (p : Nat × Bool) : Nat × (Nat × Bool) :=
  (10 * (digF s (eatF s p 44)).1 + (digF s (digF s (eatF s p 44)).2).1, (digF s (digF s (eatF s p 44)).2).2)

theorem wayF_lt (s : ByteArray) (p : Nat × Bool) : (wayF s p).1 < 100 := by
  have h1 := digF_lt s (eatF s p 44); have h2 := digF_lt s (digF s (eatF s p 44)).2
  show 10 * _ + _ < 100; omega

theorem wayF_le (s : ByteArray) (p : Nat × Bool) (h : p.1 ≤ s.size) : (wayF s p).2.1 ≤ s.size := digF_le s _ (digF_le s _ (eatF_le s p 44 (by decide) h))

theorem wayF_ge (s : ByteArray) (p : Nat × Bool) : p.1 ≤ (wayF s p).2.1 ∧ ((wayF s p).2.2 = false → p.1 < (wayF s p).2.1 ∧ p.2 = false) := by
  have h1 := eatF_ge s p 44; have h2 := digF_ge s (eatF s p 44); have h3 := digF_ge s (digF s (eatF s p 44)).2
  refine ⟨by show _ ≤ (digF s (digF s (eatF s p 44)).2).2.1; omega, fun h => ?_⟩
  have q3 := h3.2 h
  have q2 := h2.2 q3.2
  have q1 := h1.2 q2.2
  exact ⟨by show _ < (digF s (digF s (eatF s p 44)).2).2.1; omega, q1.2⟩

set_option maxHeartbeats 800000 in
theorem way_c (r i : Nat) (s : ByteArray) (bad : Bool) (nv iv : Value) (lp : Int) (w : World) (hs : s.size ≤ 1000) (hi : i ≤ s.size)
    (h : RB w r s (i, bad) nv iv lp) :
    Calls Tryz.prog 68 #[.pointer (some ⟨r, 0, none⟩)] w fun e w' => e = .returned (.int .i64 (wayF s (i, bad)).1) ∧ RB w' r s (wayF s (i, bad)).2 nv iv lp ∧ Kp (· = r) w w' := by
  have HB := hide h
  have HV : Hid (wayF s (i, bad) = (10 * (digF s (eatF s (i, bad) 44)).1 + (digF s (digF s (eatF s (i, bad) 44)).2).1, (digF s (digF s (eatF s (i, bad) 44)).2).2)) := rfl
  have e1 := eatF_le s (i, bad) 44 (by decide) hi
  have e2 := digF_le s _ e1
  have l1 := digF_lt s (eatF s (i, bad) 44)
  have l2 := digF_lt s (digF s (eatF s (i, bad) 44)).2
  clear h
  go_enter Tryz.func68, Tryz.ntmps68
  go_wp2_with fail
  refine (eat_c r i 44 s bad nv iv lp _ hs hi HB.out).mono ?_
  rintro e w1 ⟨rfl, hB1, k1⟩
  generalize eatF s (i, bad) 44 = p1 at *
  obtain ⟨i1, b1⟩ := p1
  go_wp2_with fail
  refine (digit_c r i1 s b1 nv iv lp _ hs e1 hB1).mono ?_
  rintro e w2 ⟨rfl, hB2, k2⟩
  generalize digF s (i1, b1) = p2 at *
  obtain ⟨d1, i2, b2⟩ := p2
  go_wp2_with fail
  refine (digit_c r i2 s b2 nv iv lp _ hs e2 hB2).mono ?_
  rintro e w3 ⟨rfl, hB3, k3⟩
  generalize digF s (i2, b2) = p3 at *
  obtain ⟨d2, i3, b3⟩ := p3
  dsimp only at *
  go_wp2
  go_ret
  rw [HV.out]
  exact ⟨ret_i64 (by push_cast; omega), hB3, (k1.trans k2 (fun _ _ e => e)).trans k3 (fun _ _ e => e)⟩

/-- A node of a graph, but for its ways. -/
def lineN (s : ByteArray) (i : Nat) : Nd × (Nat × Bool) :=
  if pk s i = 42 then ({ op := 42, x := 0, y := 0, v := 0, k := 0, t := 0, f := -1, a := i, l := 1 }, (i + 1, false))
  else if 97 ≤ pk s i ∧ pk s i ≤ 102 ∧ pk s (i + 1) ≠ 61 ∧ pk s (i + 1) ≠ 126 then testF s i
  else simpF s i

def lineT (s : ByteArray) (n : Nd) (p : Nat × Bool) : Int × (Nat × Bool) := if n.op = 33 then (-1, p) else (((wayF s p).1 : Nat), (wayF s p).2)
def lineG (s : ByteArray) (n : Nd) (p : Nat × Bool) : Int × (Nat × Bool) := if n.op = 121 ∨ n.op = 58 then (((wayF s p).1 : Nat), (wayF s p).2) else (n.f, p)

def lineF (s : ByteArray) (st : RS) : RS :=
  if (lineN s st.i).2.2 = true then { st with i := (lineN s st.i).2.1, bad := true }
  else
    let n := (lineN s st.i).1
    let q := lineT s n (lineN s st.i).2
    let g := lineG s n q.2
    let e := eatF s g.2 59
    { st with i := e.1, bad := e.2, nodes := st.nodes ++ [{ n with t := q.1, f := g.1 }] }

theorem testF_op (s : ByteArray) (i : Nat) : (testF s i).1.op = 121 ∨ (testF s i).1.op = 58 := by
  unfold testF; split
  · exact .inr rfl
  · exact .inl rfl

theorem am_ne {c : Nat} {l : List UInt8} (h : amF c l = true) {d : Nat} (hd : amF d l = false) : c ≠ d := fun e => by rw [e] at h; rw [h] at hd; cases hd

theorem valF_op (s : ByteArray) (i : Nat) (n : Nd) : (valF s i n).1.op ≠ 121 ∧ (valF s i n).1.op ≠ 58 ∧ (valF s i n).1.op ≠ 33 := by
  unfold valF
  repeat' split
  · simp
  · rename_i _ h; have h1 := am_ne h (d := 121) (by decide); have h2 := am_ne h (d := 58) (by decide); have h3 := am_ne h (d := 33) (by decide); simp only []; omega
  · rename_i _ _ h; have h1 := am_ne h (d := 121) (by decide); have h2 := am_ne h (d := 58) (by decide); have h3 := am_ne h (d := 33) (by decide); simp only []; omega
  · rename_i _ _ _ h; have h1 := am_ne h (d := 121) (by decide); have h2 := am_ne h (d := 58) (by decide); have h3 := am_ne h (d := 33) (by decide); simp only []; omega
  · simp

theorem simpF_op (s : ByteArray) (i : Nat) : (simpF s i).1.op ≠ 121 ∧ (simpF s i).1.op ≠ 58 := by
  unfold simpF
  repeat' split
  · simp
  · simp
  · simp
  · simp [nd0]
  · have := valF_op s (eatF s (varF s (i, false)).2 61).1 { nd0 i with x := (varF s (i, false)).1 }
    exact ⟨this.1, this.2.1⟩
end Go.Proofs.YtellieabhaphhaaGreatDoor

/-
  narrow's reader: small parts.
-/
namespace Go.Proofs.YtellieabhaphhaaGreatDoor
open Go.RowKit

/-- narrow's reader, at the head of its block. -/
def NR (w : World) (r : Nat) (s : ByteArray) (p : Nat × Bool) (rest : List Value) (T : TypeId) : Prop :=
  Blk w r (.string s :: .int .i64 p.1 :: .bool p.2 :: rest) T

/-- The byte at hand, or 0. -/
def pkb (s : ByteArray) (p : Nat × Bool) : Nat := if p.2 then 0 else pk s p.1

theorem pkb_false (s : ByteArray) (i : Nat) : pkb s (i, false) = pk s i := rfl
theorem pkb_true (s : ByteArray) (i : Nat) : pkb s (i, true) = 0 := rfl
theorem pkb_lt (s : ByteArray) (p : Nat × Bool) : pkb s p < 256 := by unfold pkb; split; decide; exact pk_lt _ _

theorem eatF_pkb (s : ByteArray) (p : Nat × Bool) (c : Nat) (hc : c ≠ 0) : eatF s p c = if pkb s p = c then (p.1 + 1, false) else (p.1, true) := by
  obtain ⟨i, b⟩ := p
  cases b <;> simp [eatF, pkb]
  omega

theorem NR.n {w : World} {r : Nat} {s : ByteArray} {p : Nat × Bool} {rest : List Value} {T : TypeId} (h : NR w r s p rest T) (n : Nat) : NR (w.drewN n) r s p rest T := h
theorem NR.bad {w : World} {r : Nat} {s : ByteArray} {p : Nat × Bool} {rest : List Value} {T : TypeId} (h : NR w r s p rest T) : NR (w.setCell ⟨r, 2, none⟩ (.bool true)) r s (p.1, true) rest T :=
  Blk.set h 2 (.bool true)
theorem NR.next {w : World} {r : Nat} {s : ByteArray} {p : Nat × Bool} {rest : List Value} {T : TypeId} (h : NR w r s p rest T) : NR (w.setCell ⟨r, 1, none⟩ (.int .i64 (p.1 + 1))) r s (p.1 + 1, p.2) rest T :=
  Blk.set h 1 (.int .i64 (p.1 + 1))
theorem NR.c {w : World} {r i : Nat} {s : ByteArray} {b : Bool} {rest : List Value} {T : TypeId} (h : NR w r s (i, b) rest T) :
    w.cell? ⟨r, 0, none⟩ = some (.string s) ∧ w.cell? ⟨r, 1, none⟩ = some (.int .i64 i) ∧ w.cell? ⟨r, 2, none⟩ = some (.bool b) ∧ ∀ o, w.frozen? ⟨r, o, none⟩ = false :=
  ⟨Blk.cell h 0, Blk.cell h 1, Blk.cell h 2, Blk.frozen h⟩
theorem NR.kp {S : Nat → Prop} {w w' : World} {r : Nat} {s : ByteArray} {p : Nat × Bool} {rest : List Value} {T : TypeId} (h : NR w r s p rest T) (k : Kp S w w') (hn : ¬ S r) : NR w' r s p rest T := k.blk h hn
theorem NR.alloc {w : World} {r : Nat} {s : ByteArray} {p : Nat × Bool} {rest : List Value} {T : TypeId} (h : NR w r s p rest T) (o : Obj) : NR (w.alloc o) r s p rest T := Blk.alloc h o
theorem NR.lt {w : World} {r : Nat} {s : ByteArray} {p : Nat × Bool} {rest : List Value} {T : TypeId} (h : NR w r s p rest T) : r < w.heap.size := Blk.lt h

set_option maxHeartbeats 400000 in
theorem npeek_c (r i : Nat) (s : ByteArray) (bad : Bool) (rest : List Value) (T : TypeId) (w : World) (_ : s.size ≤ 1000) (_ : i ≤ s.size)
    (h : NR w r s (i, bad) rest T) :
    Calls Tryz.prog 92 #[.pointer (some ⟨r, 0, none⟩)] w fun e w' => e = .returned (.int .u8 (pkb s (i, bad))) ∧ ∃ n, w' = w.drewN n := by
  obtain ⟨h0, h1, h2, hf⟩ := h.c
  clear h
  cases bad
  · by_cases hi : i < s.size
    · go_enter Tryz.func92, Tryz.ntmps92
      go_wp2
      go_quiet (fail)
      go_wp2
      go_quiet (fail)
      go_wp2
      go_ret
      refine ⟨by simp [pkb, pk, hi], _, drewN2 _ _ _⟩
    · go_enter Tryz.func92, Tryz.ntmps92
      go_wp2
      go_quiet (fail)
      go_wp2
      go_ret
      refine ⟨by simp [pkb, pk, hi], _, rfl⟩
  · go_enter Tryz.func92, Tryz.ntmps92
    go_wp2
    go_quiet (fail)
    go_wp2
    go_ret
    refine ⟨rfl, _, rfl⟩

theorem isVar_c (c : Nat) (w : World) :
    Calls Tryz.prog 174 #[.int .u8 c] w fun e w' => e = .returned (.bool (decide (97 ≤ c) && decide (c ≤ 102))) ∧ w' = w := by
  by_cases h1 : 97 ≤ c
  · by_cases h2 : c ≤ 102
    · go_enter Tryz.func174, Tryz.ntmps174
      go_wp2
      go_ret
      refine ⟨by simp [h1, h2]; omega, rfl⟩
    · go_enter Tryz.func174, Tryz.ntmps174
      go_wp2
      go_ret
      refine ⟨by simp [h1, h2]; omega, rfl⟩
  · go_enter Tryz.func174, Tryz.ntmps174
    go_wp2
    go_ret
    refine ⟨by simp, rfl⟩

theorem varF_pkb (s : ByteArray) (p : Nat × Bool) : varF s p = if (decide (97 ≤ pkb s p) && decide (pkb s p ≤ 102)) = true then (pkb s p - 97, (p.1 + 1, false)) else (0, (p.1, true)) := by
  obtain ⟨i, b⟩ := p
  cases b
  · simp only [varF, pkb_false, Bool.false_or]
    by_cases h1 : 97 ≤ pk s i <;> by_cases h2 : pk s i ≤ 102 <;> simp [h1, h2] <;> omega
  · simp [varF, pkb_true]

set_option maxHeartbeats 400000 in
theorem nvariable_c (r i : Nat) (s : ByteArray) (bad : Bool) (rest : List Value) (T : TypeId) (w : World) (hs : s.size ≤ 1000) (hi : i ≤ s.size)
    (h : NR w r s (i, bad) rest T) :
    Calls Tryz.prog 149 #[.pointer (some ⟨r, 0, none⟩)] w fun e w' => e = .returned (.int .i64 (varF s (i, bad)).1) ∧ NR w' r s (varF s (i, bad)).2 rest T ∧ Kp (· = r) w w' := by
  have HP := hide (npeek_c r i s bad rest T w hs hi h)
  have HB := hide h
  obtain ⟨h0, h1, h2, hf⟩ := h.c
  clear h
  have HV := hide (varF_pkb s (i, bad))
  have hlt := pkb_lt s (i, bad)
  have hbad : bad = true → pkb s (i, bad) = 0 := fun e => by rw [e]; rfl
  generalize pkb s (i, bad) = d at *
  have HI := hide (fun W => isVar_c d W)
  generalize hb : (decide (97 ≤ d) && decide (d ≤ 102)) = b at HV HI
  cases b
  · go_enter Tryz.func149, Tryz.ntmps149
    go_wp2_with (first
      | (go_at_call 92; refine HP.out.mono ?_; rintro e w' ⟨rfl, n, rfl⟩)
      | (go_at_call 174; refine (HI.out _).mono ?_; rintro e w' ⟨rfl, rfl⟩))
    go_ret
    rw [HV.out]
    exact ⟨rfl, (HB.out.n n).bad, ((Kp.refl _ _).drewN n).set _ _⟩
  · simp at hb
    obtain rfl : bad = false := by
      cases bad
      · rfl
      · have := hbad rfl; omega
    clear hbad
    go_enter Tryz.func149, Tryz.ntmps149
    go_wp2_with (first
      | (go_at_call 92; refine HP.out.mono ?_; rintro e w' ⟨rfl, n, rfl⟩)
      | (go_at_call 174; refine (HI.out _).mono ?_; rintro e w' ⟨rfl, rfl⟩))
    go_ret
    rw [HV.out]
    exact ⟨ret_i64 (by simp only [if_true]; omega), (HB.out.n n).next, ((Kp.refl _ _).drewN n).set _ _⟩

theorem am_bit (c : Nat) : amF c [110, 116, 102, 122, 65, 66, 67] = true ↔ ¬ bit c = 0 := by
  simp only [amF, List.any_cons, List.any_nil, Bool.or_false, UInt8.reduceToNat, Bool.or_eq_true, beq_iff_eq]
  unfold bit
  repeat' split
  all_goals simp
  all_goals omega

theorem kindF_pkb (s : ByteArray) (p : Nat × Bool) : kindF s p = if bit (pkb s p) = 0 then (0, (p.1, true)) else (pkb s p, (p.1 + 1, false)) := by
  obtain ⟨i, b⟩ := p
  cases b
  · have := am_bit (pk s i)
    by_cases h : bit (pk s i) = 0
    · rw [if_pos (show bit (pkb s (i, false)) = 0 from h), kindF, if_pos (by simp; exact Bool.eq_false_iff.2 (fun e => this.1 e h))]
    · rw [if_neg (show ¬ bit (pkb s (i, false)) = 0 from h), kindF, if_neg (by simp; exact this.2 h)]; rfl
  · rfl

set_option maxHeartbeats 400000 in
theorem nkind_c (r i : Nat) (s : ByteArray) (bad : Bool) (rest : List Value) (T : TypeId) (w : World) (hs : s.size ≤ 1000) (hi : i ≤ s.size)
    (h : NR w r s (i, bad) rest T) :
    Calls Tryz.prog 176 #[.pointer (some ⟨r, 0, none⟩)] w fun e w' => e = .returned (.int .i64 (bit (kindF s (i, bad)).1)) ∧ NR w' r s (kindF s (i, bad)).2 rest T ∧ Kp (· = r) w w' := by
  have HP := hide (npeek_c r i s bad rest T w hs hi h)
  have HB := hide h
  obtain ⟨h0, h1, h2, hf⟩ := h.c
  clear h
  have HV := hide (kindF_pkb s (i, bad))
  have hbad : bad = true → pkb s (i, bad) = 0 := fun e => by rw [e]; rfl
  generalize pkb s (i, bad) = d at *
  have HI := hide (fun W => nkindOfSign_c d W)
  by_cases hb : bit d = 0
  · rw [hb] at HI
    rw [if_pos hb] at HV
    clear hb
    go_enter Tryz.func176, Tryz.ntmps176
    go_wp2_with (first
      | (go_at_call 92; refine HP.out.mono ?_; rintro e w' ⟨rfl, n, rfl⟩)
      | (go_at_call 185; refine (HI.out _).mono ?_; rintro e w' ⟨rfl, rfl⟩))
    go_ret
    rw [HV.out]
    exact ⟨rfl, (HB.out.n n).bad, ((Kp.refl _ _).drewN n).set _ _⟩
  · rw [if_neg hb] at HV
    obtain rfl : bad = false := by
      cases bad
      · rfl
      · exact absurd (by rw [hbad rfl]; rfl) hb
    have hb' : (bit d == 0) = false := by simp [hb]
    have HBE := hide (show bit (kindF s (i, false)).1 = bit d by rw [HV.out])
    generalize bit d = bd at HI HBE hb'
    clear hbad hb
    go_enter Tryz.func176, Tryz.ntmps176
    go_wp2_with (first
      | (go_at_call 92; refine HP.out.mono ?_; rintro e w' ⟨rfl, n, rfl⟩)
      | (go_at_call 185; refine (HI.out _).mono ?_; rintro e w' ⟨rfl, rfl⟩))
    go_ret
    rw [HBE.out, HV.out]
    exact ⟨rfl, (HB.out.n n).next, ((Kp.refl _ _).drewN n).set _ _⟩

theorem digF_pkb (s : ByteArray) (p : Nat × Bool) : digF s p = if 48 ≤ pkb s p ∧ pkb s p ≤ 57 then (pkb s p - 48, (p.1 + 1, false)) else (0, (p.1, true)) := by
  obtain ⟨i, b⟩ := p
  cases b
  · simp only [digF, pkb_false, Bool.false_or]
    by_cases h1 : 48 ≤ pk s i <;> by_cases h2 : pk s i ≤ 57 <;> simp [h1, h2] <;> omega
  · simp [digF, pkb_true]

set_option maxHeartbeats 400000 in
theorem ndigit_c (r i : Nat) (s : ByteArray) (bad : Bool) (rest : List Value) (T : TypeId) (w : World) (hs : s.size ≤ 1000) (hi : i ≤ s.size)
    (h : NR w r s (i, bad) rest T) :
    Calls Tryz.prog 152 #[.pointer (some ⟨r, 0, none⟩)] w fun e w' => e = .returned (.int .i64 (digF s (i, bad)).1) ∧ NR w' r s (digF s (i, bad)).2 rest T ∧ Kp (· = r) w w' := by
  have HP := hide (npeek_c r i s bad rest T w hs hi h)
  have HB := hide h
  obtain ⟨h0, h1, h2, hf⟩ := h.c
  clear h
  have HV := hide (digF_pkb s (i, bad))
  have hlt := pkb_lt s (i, bad)
  have hbad : bad = true → pkb s (i, bad) = 0 := fun e => by rw [e]; rfl
  generalize pkb s (i, bad) = d at *
  by_cases hd : d < 48
  · rw [if_neg (by omega)] at HV
    clear hbad
    go_enter Tryz.func152, Tryz.ntmps152
    go_wp2_with (go_at_call 92; refine HP.out.mono ?_; rintro e w' ⟨rfl, n, rfl⟩)
    go_ret
    rw [HV.out]
    exact ⟨rfl, (HB.out.n n).bad, ((Kp.refl _ _).drewN n).set _ _⟩
  by_cases hd2 : 57 < d
  · rw [if_neg (by omega)] at HV
    clear hbad
    go_enter Tryz.func152, Tryz.ntmps152
    go_wp2_with (go_at_call 92; refine HP.out.mono ?_; rintro e w' ⟨rfl, n, rfl⟩)
    go_ret
    rw [HV.out]
    exact ⟨rfl, (HB.out.n n).bad, ((Kp.refl _ _).drewN n).set _ _⟩
  · rw [if_pos (by omega)] at HV
    obtain rfl : bad = false := by
      cases bad
      · rfl
      · have := hbad rfl; omega
    clear hbad
    go_enter Tryz.func152, Tryz.ntmps152
    go_wp2_with (go_at_call 92; refine HP.out.mono ?_; rintro e w' ⟨rfl, n, rfl⟩)
    go_ret
    rw [HV.out]
    exact ⟨ret_i64 (by simp only []; omega), (HB.out.n n).next, ((Kp.refl _ _).drewN n).set _ _⟩

/-- The bytes of a text, one behind the other. -/
def expF (s : ByteArray) (p : Nat × Bool) (l : List UInt8) : Nat × Bool := l.foldl (fun p c => eatF s p c.toNat) p

theorem expF_bad (s : ByteArray) (i : Nat) (l : List UInt8) : expF s (i, true) l = (i, true) := by
  induction l with
  | nil => rfl
  | cons c l ih => show expF s (eatF s (i, true) c.toNat) l = _; rw [show eatF s (i, true) c.toNat = (i, true) by simp [eatF]]; exact ih

theorem expF_take (s : ByteArray) (p : Nat × Bool) (u : ByteArray) (k : Nat) (h : k < u.size) : expF s p (u.data.toList.take (k + 1)) = eatF s (expF s p (u.data.toList.take k)) (u[k]).toNat := by
  rw [List.take_succ_eq_append_getElem (by simpa using h), expF, List.foldl_append]; rfl

theorem expF_stop (s : ByteArray) (p : Nat × Bool) (u : ByteArray) (k i : Nat) (h : expF s p (u.data.toList.take k) = (i, true)) : expF s p u.data.toList = (i, true) := by
  conv => lhs; rw [← List.take_append_drop k u.data.toList]
  rw [expF, List.foldl_append]
  have h' : List.foldl (fun p c => eatF s p c.toNat) p (u.data.toList.take k) = (i, true) := h
  rw [h']; exact expF_bad s i _
end Go.Proofs.YtellieabhaphhaaGreatDoor

/-
  narrow's reader: texts and ways.
-/
namespace Go.Proofs.YtellieabhaphhaaGreatDoor
open Go.RowKit

set_option maxHeartbeats 1600000 in
theorem nexpect_c (r i : Nat) (s u : ByteArray) (bad : Bool) (rest : List Value) (T : TypeId) (w : World) (hs : s.size ≤ 1000) (hi : i ≤ s.size) (hu : u.size ≤ 10) (hz : ∀ k (h : k < u.size), (u[k]).toNat ≠ 0)
    (h : NR w r s (i, bad) rest T) :
    Calls Tryz.prog 109 #[.pointer (some ⟨r, 0, none⟩), .string u] w fun e w' => e = .returned (.tuple #[]) ∧ NR w' r s (expF s (i, bad) u.data.toList) rest T ∧ Kp (· = r) w w' := by
  go_enter Tryz.func109, Tryz.ntmps109
  go_wp2
  go_loopg [4] u.size (fun k iv wr => ∃ j : Nat, j ≤ u.size ∧ k = u.size - j ∧ iv = .int .i64 j ∧ ∃ (q : Nat) (b : Bool), q ≤ s.size ∧ expF s (i, bad) (u.data.toList.take j) = (q, b) ∧ NR wr r s (q, b) rest T ∧ Kp (· = r) w wr)
  case atStart => exact ⟨0, Nat.zero_le _, rfl, rfl, i, bad, hi, rfl, h, Kp.refl _ _⟩
  case round =>
    clear h hi
    obtain ⟨j, hj, hk, rfl, q, b, hq, hE, hR, hK⟩ := hrel
    have HE := hide hE
    have HK := hide hK
    have HR := hide hR
    clear hE hK
    obtain ⟨h0, h1, h2, hf⟩ := hR.c
    clear hR
    by_cases hlt : j < u.size
    · have HT := hide (expF_take s (i, bad) u j hlt)
      have hc := hz j hlt
      have HP := hide (fun n => npeek_c r q s b rest T (wr.drewN n) hs hq (HR.out.n n))
      have HV := hide (eatF_pkb s (q, b) (u[j]).toNat hc)
      have hbad : b = true → pkb s (q, b) = 0 := fun e => by rw [e]; rfl
      have hin : pkb s (q, b) ≠ 0 → q < s.size := fun e => by
        cases b
        · exact pk_in s q e
        · exact absurd rfl e
      rw [HE.out] at HT
      rw [HV.out] at HT
      clear HV hz
      generalize pkb s (q, b) = d at *
      by_cases he : d = (u[j]).toNat
      · rw [if_pos he] at HT
        obtain rfl : b = false := by
          cases b
          · rfl
          · have := hbad rfl; omega
        have hq1 := hin (by omega)
        clear hbad hin
        go_wp2
        go_quiet ((go_at_call 92; exact Calls.quiet_of (HP.out _)))
        go_wp2
        go_roundg (u.size - (j + 1))
        case measure => omega
        case rel => exact ⟨j + 1, by omega, rfl, by go_num, q + 1, false, by omega, HT.out, (HR.out.n _).next, (HK.out.drewN _).set _ _⟩
      · rw [if_neg he] at HT
        have he' : ((d : Int) == ((u[j]).toNat : Int)) = false := by simp; omega
        clear hbad hin
        go_wp2
        go_quiet ((go_at_call 92; exact Calls.quiet_of (HP.out _)))
        go_wp2
        refine bodyPost_ret (results_none rfl _ _ _) rfl ?_
        rw [expF_stop s (i, bad) u (j + 1) q HT.out]
        exact ⟨rfl, (HR.out.n _).bad, (HK.out.drewN _).set _ _⟩
    · go_wp2
      go_end0
      have e1 : expF s (i, bad) u.data.toList = (q, b) := by
        have := HE.out
        rwa [List.take_of_length_le (by simp; omega)] at this
      rw [e1]
      exact ⟨rfl, HR.out, HK.out⟩

theorem expF_one (s : ByteArray) (p : Nat × Bool) (c : UInt8) : expF s p [c] = eatF s p c.toNat := rfl

set_option maxHeartbeats 800000 in
theorem nway_c (r i : Nat) (s : ByteArray) (bad : Bool) (rest : List Value) (T : TypeId) (w : World) (hs : s.size ≤ 1000) (hi : i ≤ s.size)
    (h : NR w r s (i, bad) rest T) :
    Calls Tryz.prog 108 #[.pointer (some ⟨r, 0, none⟩)] w fun e w' => e = .returned (.int .i64 (wayF s (i, bad)).1) ∧ NR w' r s (wayF s (i, bad)).2 rest T ∧ Kp (· = r) w w' := by
  have HB := hide h
  have HV : Hid (wayF s (i, bad) = (10 * (digF s (eatF s (i, bad) 44)).1 + (digF s (digF s (eatF s (i, bad) 44)).2).1, (digF s (digF s (eatF s (i, bad) 44)).2).2)) := rfl
  have e1 := eatF_le s (i, bad) 44 (by decide) hi
  have e2 := digF_le s _ e1
  have l1 := digF_lt s (eatF s (i, bad) 44)
  have l2 := digF_lt s (digF s (eatF s (i, bad) 44)).2
  clear h
  go_enter Tryz.func108, Tryz.ntmps108
  go_wp2_with fail
  refine (nexpect_c r i s ⟨#[44]⟩ bad rest T _ hs hi (by decide) (by decide) HB.out).mono ?_
  rintro e w1 ⟨rfl, hB1, k1⟩
  rw [show expF s (i, bad) (ByteArray.mk #[44]).data.toList = eatF s (i, bad) 44 from rfl] at hB1
  generalize eatF s (i, bad) 44 = p1 at *
  obtain ⟨i1, b1⟩ := p1
  go_wp2_with fail
  refine (ndigit_c r i1 s b1 rest T _ hs e1 hB1).mono ?_
  rintro e w2 ⟨rfl, hB2, k2⟩
  generalize digF s (i1, b1) = p2 at *
  obtain ⟨d1, i2, b2⟩ := p2
  go_wp2_with fail
  refine (ndigit_c r i2 s b2 rest T _ hs e2 hB2).mono ?_
  rintro e w3 ⟨rfl, hB3, k3⟩
  generalize digF s (i2, b2) = p3 at *
  obtain ⟨d2, i3, b3⟩ := p3
  dsimp only at *
  go_wp2
  go_ret
  rw [HV.out]
  exact ⟨ret_i64 (by push_cast; omega), hB3, (k1.trans k2 (fun _ _ e => e)).trans k3 (fun _ _ e => e)⟩

/-- What was read from place a on. -/
def sinceB (s : ByteArray) (a i : Nat) : ByteArray := s.extract a i

set_option maxHeartbeats 800000 in
theorem nsince_c (r i a : Nat) (s : ByteArray) (bad : Bool) (rest : List Value) (T : TypeId) (w : World) (_ : s.size ≤ 1000) (hi : i ≤ s.size) (ha : a ≤ i)
    (h : NR w r s (i, bad) rest T) :
    Calls Tryz.prog 107 #[.pointer (some ⟨r, 0, none⟩), .int .i64 a] w fun e w' => e = .returned (.string (sinceB s a i)) ∧ ∃ n, w' = w.drewN n := by
  obtain ⟨h0, h1, h2, hf⟩ := h.c
  clear h
  go_enter Tryz.func107, Tryz.ntmps107
  go_wp2
  go_quiet (fail)
  go_wp2
  go_quiet (fail)
  go_wp2
  go_ret
  refine ⟨rfl, _, drewN2 _ _ _⟩
end Go.Proofs.YtellieabhaphhaaGreatDoor

/-
  narrow's reader: nodes.
-/
namespace Go.Proofs.YtellieabhaphhaaGreatDoor
open Go.RowKit

/-- A node as narrow holds it. -/
structure NN where
  tx : ByteArray
  act : Int
  x : Int
  y : Int
  w : Int
  ck : Int
  cn : Int
  ch : Int
  kd : Int
  yes : Int
  no : Int

def NN.cells (n : NN) : List Value := [.string n.tx, .int .i64 n.act, .int .i64 n.x, .int .i64 n.y, .int .i64 n.w, .int .i64 n.ck, .int .i64 n.cn, .int .i64 n.ch, .int .i64 n.kd, .int .i64 n.yes, .int .i64 n.no]

abbrev nn0 : NN := ⟨⟨#[]⟩, 0, 0, 0, 0, 0, 0, 0, 0, 0, 0⟩

theorem Blk.c11 {w : World} {b : Nat} {a0 a1 a2 a3 a4 a5 a6 a7 a8 a9 a10 : Value} {T : TypeId} (h : Blk w b [a0, a1, a2, a3, a4, a5, a6, a7, a8, a9, a10] T) :
    w.cell? ⟨b, 0, none⟩ = some a0 ∧ w.cell? ⟨b, 1, none⟩ = some a1 ∧ w.cell? ⟨b, 2, none⟩ = some a2 ∧ w.cell? ⟨b, 3, none⟩ = some a3 ∧ w.cell? ⟨b, 4, none⟩ = some a4 ∧ w.cell? ⟨b, 5, none⟩ = some a5 ∧ w.cell? ⟨b, 6, none⟩ = some a6 ∧ w.cell? ⟨b, 7, none⟩ = some a7 ∧ w.cell? ⟨b, 8, none⟩ = some a8 ∧ w.cell? ⟨b, 9, none⟩ = some a9 ∧ w.cell? ⟨b, 10, none⟩ = some a10 ∧ ∀ o, w.frozen? ⟨b, o, none⟩ = false :=
  ⟨h.cell 0, h.cell 1, h.cell 2, h.cell 3, h.cell 4, h.cell 5, h.cell 6, h.cell 7, h.cell 8, h.cell 9, h.cell 10, h.frozen⟩

def queF (s : ByteArray) (p : Nat × Bool) (y : Int) : NN × (Nat × Bool) :=
  if pkb s p = 58 then ({ nn0 with act := 13, y := y, w := y, kd := bit (kindF s (p.1 + 1, false)).1 }, (kindF s (p.1 + 1, false)).2)
  else ({ nn0 with act := 12, y := y, w := y }, p)

theorem pkb_good {s : ByteArray} {i : Nat} {b : Bool} (h : pkb s (i, b) ≠ 0) : b = false ∧ i < s.size := by
  cases b
  · exact ⟨rfl, pk_in s i h⟩
  · exact absurd rfl h

set_option maxHeartbeats 800000 in
theorem nquestion_c (r i : Nat) (y : Int) (s : ByteArray) (bad : Bool) (rest : List Value) (T : TypeId) (w : World) (hs : s.size ≤ 1000) (hi : i ≤ s.size)
    (h : NR w r s (i, bad) rest T) :
    Calls Tryz.prog 151 #[.pointer (some ⟨r, 0, none⟩), .int .i64 y] w fun e w' => e = .returned (.agg (queF s (i, bad) y).1.cells.toArray) ∧ NR w' r s (queF s (i, bad) y).2 rest T ∧ Kp (· = r) w w' := by
  have HP := hide (fun W (hW : NR W r s (i, bad) rest T) => npeek_c r i s bad rest T W hs hi hW)
  have hr := h.lt
  obtain ⟨h0, h1, h2, hf⟩ := h.c
  by_cases hc : pkb s (i, bad) = 58
  · have HV := hide (show queF s (i, bad) y = ({ nn0 with act := 13, y := y, w := y, kd := bit (kindF s (i + 1, false)).1 }, (kindF s (i + 1, false)).2) by rw [queF, if_pos hc])
    obtain ⟨rfl, hi1⟩ := pkb_good (by rw [hc]; decide)
    rw [hc] at HP
    clear hc
    have hb : Blk w r (.string s :: .int .i64 i :: .bool false :: rest) T := h
    have HK := hide (fun W (hW : NR W r s (i + 1, false) rest T) => nkind_c r (i + 1) s false rest T W hs hi1 hW)
    clear h
    generalize kindF s (i + 1, false) = q at *
    obtain ⟨k, q⟩ := q
    go_enter Tryz.func151, Tryz.ntmps151
    go_wp2_with (go_at_call 92; refine (HP.out _ (by (show Blk _ _ _ _); (repeat' (first | ((with_reducible show (_ : List Value) = _); rfl) | with_reducible exact hb | ((with_reducible refine Blk.newAt _ _ _ ?_); first | with_reducible rfl | (simp; done)) | with_reducible refine Blk.alloc ?_ _ | with_reducible refine Blk.drewN ?_ _ | with_reducible refine Blk.drew ?_ | ((with_reducible refine Blk.other ?_ _ ?_); rotate_left; ((try dsimp only); omega)) | with_reducible refine Blk.setB (cs0 := ?_) ?_ ?_)))).mono ?_; rintro e w' ⟨rfl, n, rfl⟩)
    refine (HK.out _ (by (show Blk _ _ _ _); (repeat' (first | ((with_reducible show (_ : List Value) = _); rfl) | with_reducible exact hb | ((with_reducible refine Blk.newAt _ _ _ ?_); first | with_reducible rfl | (simp; done)) | with_reducible refine Blk.alloc ?_ _ | with_reducible refine Blk.drewN ?_ _ | with_reducible refine Blk.drew ?_ | ((with_reducible refine Blk.other ?_ _ ?_); rotate_left; ((try dsimp only); omega)) | with_reducible refine Blk.setB (cs0 := ?_) ?_ ?_)))).mono ?_
    rintro e w1 ⟨rfl, hN, k1⟩
    have hR : Blk w1 w.heap.size [.string ⟨#[]⟩, .int .i64 0, .int .i64 0, .int .i64 0, .int .i64 0, .int .i64 0, .int .i64 0, .int .i64 0, .int .i64 0, .int .i64 0, .int .i64 0] 91 := k1.blk (by (repeat' (first | ((with_reducible show (_ : List Value) = _); rfl) | with_reducible exact hb | ((with_reducible refine Blk.newAt _ _ _ ?_); first | with_reducible rfl | (simp; done)) | with_reducible refine Blk.alloc ?_ _ | with_reducible refine Blk.drewN ?_ _ | with_reducible refine Blk.drew ?_ | ((with_reducible refine Blk.other ?_ _ ?_); rotate_left; ((try dsimp only); omega)) | with_reducible refine Blk.setB (cs0 := ?_) ?_ ?_))) (by omega)
    obtain ⟨z0, z1, z2, z3, z4, z5, z6, z7, z8, z9, z10, zf⟩ := hR.c11
    have hz := hR.lt
    go_wp2
    refine body_agg (Tb := 91) (b := w.heap.size) (cs := [.string ⟨#[]⟩, .int .i64 13, .int .i64 0, .int .i64 y, .int .i64 y, .int .i64 0, .int .i64 0, .int .i64 0, .int .i64 (bit k), .int .i64 0, .int .i64 0]) (.inr rfl) Tryz.results151 rfl rfl (by (repeat' (first | ((with_reducible show (_ : List Value) = _); rfl) | with_reducible exact hR | ((with_reducible refine Blk.newAt _ _ _ ?_); first | with_reducible rfl | (simp; done)) | with_reducible refine Blk.alloc ?_ _ | with_reducible refine Blk.drewN ?_ _ | with_reducible refine Blk.drew ?_ | ((with_reducible refine Blk.other ?_ _ ?_); rotate_left; ((try dsimp only); omega)) | with_reducible refine Blk.setB (cs0 := ?_) ?_ ?_))) Tryz.underlying91 rfl (by kernel_rfl) ?_
    rw [HV.out]
    have hb1 : Blk w1 r (.string s :: .int .i64 q.1 :: .bool q.2 :: rest) T := hN
    exact ⟨rfl, by (show Blk _ _ _ _); (repeat' (first | ((with_reducible show (_ : List Value) = _); rfl) | with_reducible exact hb1 | ((with_reducible refine Blk.newAt _ _ _ ?_); first | with_reducible rfl | (simp; done)) | with_reducible refine Blk.alloc ?_ _ | with_reducible refine Blk.drewN ?_ _ | with_reducible refine Blk.drew ?_ | ((with_reducible refine Blk.other ?_ _ ?_); rotate_left; ((try dsimp only); omega)) | with_reducible refine Blk.setB (cs0 := ?_) ?_ ?_)), by (repeat' (first | with_reducible exact Kp.refl _ _ | with_reducible refine Kp.alloc ?_ _ | with_reducible refine Kp.drewN ?_ _ | with_reducible refine Kp.drew ?_ | with_reducible refine Kp.setCell ?_ _ ?_ | with_reducible refine Kp.trans ?_ k1 (fun _ _ e => e) | (intro hh; first | rfl | exact .inl rfl | exact .inr rfl | (exfalso; (try dsimp only at hh); omega))))⟩
  · have HV := hide (show queF s (i, bad) y = ({ nn0 with act := 12, y := y, w := y }, (i, bad)) by rw [queF, if_neg hc])
    have hc' : ((pkb s (i, bad) : Int) == 58) = false := by simp; omega
    generalize pkb s (i, bad) = d at *
    have hb : Blk w r (.string s :: .int .i64 i :: .bool bad :: rest) T := h
    clear h hc
    go_enter Tryz.func151, Tryz.ntmps151
    go_wp2_with (go_at_call 92; refine (HP.out _ (by (show Blk _ _ _ _); (repeat' (first | ((with_reducible show (_ : List Value) = _); rfl) | with_reducible exact hb | ((with_reducible refine Blk.newAt _ _ _ ?_); first | with_reducible rfl | (simp; done)) | with_reducible refine Blk.alloc ?_ _ | with_reducible refine Blk.drewN ?_ _ | with_reducible refine Blk.drew ?_ | ((with_reducible refine Blk.other ?_ _ ?_); rotate_left; ((try dsimp only); omega)) | with_reducible refine Blk.setB (cs0 := ?_) ?_ ?_)))).mono ?_; rintro e w' ⟨rfl, n, rfl⟩)
    refine body_agg (Tb := 91) (b := w.heap.size) (cs := [.string ⟨#[]⟩, .int .i64 12, .int .i64 0, .int .i64 y, .int .i64 y, .int .i64 0, .int .i64 0, .int .i64 0, .int .i64 0, .int .i64 0, .int .i64 0]) (.inr rfl) Tryz.results151 rfl rfl (by (repeat' (first | ((with_reducible show (_ : List Value) = _); rfl) | ((with_reducible refine Blk.newAt _ _ _ ?_); first | with_reducible rfl | (simp; done)) | with_reducible refine Blk.alloc ?_ _ | with_reducible refine Blk.drewN ?_ _ | with_reducible refine Blk.drew ?_ | ((with_reducible refine Blk.other ?_ _ ?_); rotate_left; ((try dsimp only); omega)) | with_reducible refine Blk.setB (cs0 := ?_) ?_ ?_))) Tryz.underlying91 rfl (by kernel_rfl) ?_
    rw [HV.out]
    exact ⟨rfl, by (show Blk _ _ _ _); (repeat' (first | ((with_reducible show (_ : List Value) = _); rfl) | with_reducible exact hb | ((with_reducible refine Blk.newAt _ _ _ ?_); first | with_reducible rfl | (simp; done)) | with_reducible refine Blk.alloc ?_ _ | with_reducible refine Blk.drewN ?_ _ | with_reducible refine Blk.drew ?_ | ((with_reducible refine Blk.other ?_ _ ?_); rotate_left; ((try dsimp only); omega)) | with_reducible refine Blk.setB (cs0 := ?_) ?_ ?_)), by (repeat' (first | with_reducible exact Kp.refl _ _ | with_reducible refine Kp.alloc ?_ _ | with_reducible refine Kp.drewN ?_ _ | with_reducible refine Kp.drew ?_ | with_reducible refine Kp.setCell ?_ _ ?_ | (intro hh; first | rfl | exact .inl rfl | exact .inr rfl | (exfalso; (try dsimp only at hh); omega))))⟩
end Go.Proofs.YtellieabhaphhaaGreatDoor
