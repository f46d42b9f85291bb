import Derived.Test.YtellieabhaphhaaGreatDoorPartC
import Derived.Test.YtellieabhaphhaaGreatDoorPartK
import Derived.OwnWalk
import Derived.Deep.LoopGhost
import Derived.Test.YtellieabhaphhaaGreatDoorPartJ
/-
  Plain: tables of states, and the least one.
-/
namespace Go.Proofs.YtellieabhaphhaaGreatDoor
open Go.RowKit

abbrev Tbl := List St

def intoF (T : Tbl) (i : Int) (s : St) : Tbl × Bool :=
  if 0 ≤ i ∧ i < T.length then (T.set i.toNat (joinR (T.getD i.toNat []) s).1, (joinR (T.getD i.toNat []) s).2) else (T, false)

/-- What a node's part of a sweep does. -/
def pasF (n : Nd) (i : Nat) (T : Tbl) : Tbl × Bool :=
  if T.getD i [] = [] then (T, false)
  else if n.op = 121 ∨ n.op = 58 then
    ((intoF (intoF T n.t (hldF n true (T.getD i []))).1 n.f (hldF n false (T.getD i []))).1, (intoF T n.t (hldF n true (T.getD i []))).2 || (intoF (intoF T n.t (hldF n true (T.getD i []))).1 n.f (hldF n false (T.getD i []))).2)
  else intoF T n.t (behF n (T.getD i []))

/-- A sweep. -/
def swpF : List Nd → Nat → Tbl → Tbl × Bool
  | [], _, T => (T, false)
  | n :: l, i, T => ((swpF l (i + 1) (pasF n i T).1).1, (pasF n i T).2 || (swpF l (i + 1) (pasF n i T).1).2)

theorem swp_snoc (n : Nd) : ∀ (l : List Nd) (i : Nat) (T : Tbl), swpF (l ++ [n]) i T = ((pasF n (i + l.length) (swpF l i T).1).1, (swpF l i T).2 || (pasF n (i + l.length) (swpF l i T).1).2)
  | [], i, T => by simp [swpF]
  | m :: l, i, T => by
    rw [List.cons_append, swpF, swp_snoc n l (i + 1) (pasF m i T).1, swpF, List.length_cons, show i + 1 + l.length = i + (l.length + 1) by omega, Bool.or_assoc]

def itF (l : List Nd) : Nat → Tbl → Tbl
  | 0, T => T
  | k + 1, T => itF l k (swpF l 0 T).1

theorem it_succ (l : List Nd) : ∀ (k : Nat) (T : Tbl), itF l (k + 1) T = (swpF l 0 (itF l k T)).1
  | 0, _ => rfl
  | k + 1, T => by rw [itF, it_succ l k, ← itF]

theorem it_fix (l : List Nd) (T : Tbl) (h : (swpF l 0 T).1 = T) : ∀ k, itF l k T = T
  | 0 => rfl
  | k + 1 => by rw [itF, h, it_fix l T h k]

theorem it_add (l : List Nd) : ∀ (a b : Nat) (T : Tbl), itF l (a + b) T = itF l b (itF l a T)
  | 0, b, T => by rw [Nat.zero_add]; rfl
  | a + 1, b, T => by rw [show a + 1 + b = (a + b) + 1 by omega, itF, it_add l a b, ← itF]

/-- What has come to rest stays. -/
theorem it_rest (l : List Nd) (T : Tbl) (j : Nat) (hf : (swpF l 0 (itF l j T)).1 = itF l j T) (N : Nat) (hN : j ≤ N) : itF l N T = itF l j T := by
  obtain ⟨b, rfl⟩ := Nat.exists_eq_add_of_le hN
  rw [it_add, it_fix l _ hf]

-- lengths
theorem into_len (T : Tbl) (i : Int) (s : St) : (intoF T i s).1.length = T.length := by unfold intoF; split <;> simp
theorem pas_len (n : Nd) (i : Nat) (T : Tbl) : (pasF n i T).1.length = T.length := by
  unfold pasF
  repeat' split
  · rfl
  · simp [into_len]
  · simp [into_len]
theorem swp_len : ∀ (l : List Nd) (i : Nat) (T : Tbl), (swpF l i T).1.length = T.length
  | [], _, _ => rfl
  | n :: l, i, T => by rw [swpF]; show (swpF l (i + 1) (pasF n i T).1).1.length = _; rw [swp_len l, pas_len]
theorem it_len (l : List Nd) : ∀ (k : Nat) (T : Tbl), (itF l k T).length = T.length
  | 0, _ => rfl
  | k + 1, T => by rw [itF, it_len l k, swp_len]

-- what is not turned is as it was
theorem join_same {a b : St} (h : (joinR a b).2 = false) : (joinR a b).1 = a := by
  unfold joinR at h ⊢
  split
  · rfl
  · rename_i h1
    rw [if_neg h1] at h
    split
    · rename_i h2; rw [if_pos h2] at h; cases h
    · rename_i h2
      rw [if_neg h2] at h
      simpa using h

theorem set_getD {T : Tbl} {i : Nat} (h : i < T.length) : T.set i (T.getD i []) = T := by
  rw [List.getD_eq_getElem?_getD, List.getElem?_eq_getElem h, Option.getD_some, List.set_getElem_self]

theorem into_same {T : Tbl} {i : Int} {s : St} (h : (intoF T i s).2 = false) : (intoF T i s).1 = T := by
  unfold intoF at h ⊢
  split
  · rename_i hc
    rw [if_pos hc] at h
    show T.set i.toNat _ = T
    rw [join_same h, set_getD (by omega)]
  · rfl

theorem pas_same {n : Nd} {i : Nat} {T : Tbl} (h : (pasF n i T).2 = false) : (pasF n i T).1 = T := by
  unfold pasF at h ⊢
  split
  · rfl
  · rename_i h1
    rw [if_neg h1] at h
    split
    · rename_i h2
      rw [if_pos h2] at h
      rw [Bool.or_eq_false_iff] at h
      show (intoF _ _ _).1 = T
      rw [into_same h.2, into_same h.1]
    · rename_i h2
      rw [if_neg h2] at h
      exact into_same h

theorem swp_same : ∀ {l : List Nd} {i : Nat} {T : Tbl}, (swpF l i T).2 = false → (swpF l i T).1 = T
  | [], _, _, _ => rfl
  | n :: l, i, T, h => by
    rw [swpF] at h ⊢
    rw [Bool.or_eq_false_iff] at h
    show (swpF l (i + 1) (pasF n i T).1).1 = T
    rw [swp_same h.2, pas_same h.1]

-- tables are of states as they can be
def TOk (T : Tbl) : Prop := ∀ s ∈ T, SOk s

theorem TOk.get {T : Tbl} (h : TOk T) (i : Nat) : SOk (T.getD i []) := by
  rw [List.getD_eq_getElem?_getD]
  cases hx : T[i]? with
  | none => exact .nil
  | some m => exact h m (List.mem_of_getElem? hx)

theorem TOk.into {T : Tbl} (h : TOk T) (i : Int) {s : St} (hs : SOk s) : TOk (intoF T i s).1 := by
  unfold intoF
  split
  · intro z hz
    rcases List.mem_or_eq_of_mem_set hz with h1 | rfl
    · exact h z h1
    · exact (h.get _).join hs
  · exact h

theorem TOk.pas {T : Tbl} (h : TOk T) (n : Nd) (i : Nat) : TOk (pasF n i T).1 := by
  unfold pasF
  repeat' split
  · exact h
  · exact (h.into _ ((h.get i).hld n true)).into _ ((h.get i).hld n false)
  · exact h.into _ ((h.get i).beh n)

theorem TOk.swp : ∀ {l : List Nd} {i : Nat} {T : Tbl}, TOk T → TOk (swpF l i T).1
  | [], _, _, h => h
  | n :: l, i, T, h => by rw [swpF]; exact TOk.swp (h.pas n i)

theorem TOk.it {l : List Nd} : ∀ {k : Nat} {T : Tbl}, TOk T → TOk (itF l k T)
  | 0, _, h => h
  | k + 1, T, h => by rw [itF]; exact TOk.it h.swp

-- a measure
def pc (m : Nat) : Nat := (List.range 7).countP (fun i => m.testBit i)
def mS (s : St) : Nat := (s.map pc).sum
def mT (T : Tbl) : Nat := (T.map mS).sum

theorem pc_le (a b : Nat) : pc a ≤ pc (a ||| b) := List.countP_mono_left (fun i _ h => by rw [Nat.testBit_or, h, Bool.true_or])
theorem pc_seven (a : Nat) : pc a ≤ 7 := List.countP_le_length
theorem pc_lt {a b : Nat} (ha : a < 128) (hb : b < 128) (h : a ||| b ≠ a) : pc a < pc (a ||| b) := by
  rcases Nat.lt_or_ge (pc a) (pc (a ||| b)) with h1 | h1
  · exact h1
  · exfalso
    apply h
    refine Nat.eq_of_testBit_eq fun i => ?_
    by_cases hi : i < 7
    · cases hc : a.testBit i
      · cases hd : (a ||| b).testBit i
        · rfl
        · exfalso
          have key : ∀ (l : List Nat), i ∈ l → l.countP (fun i => a.testBit i) < l.countP (fun i => (a ||| b).testBit i) := by
            intro l hl
            induction l with
            | nil => cases hl
            | cons x l ih =>
              have hm : l.countP (fun i => a.testBit i) ≤ l.countP (fun i => (a ||| b).testBit i) := List.countP_mono_left (fun i _ h => by rw [Nat.testBit_or, h, Bool.true_or])
              rw [List.countP_cons, List.countP_cons]
              rcases List.mem_cons.1 hl with rfl | hl'
              · rw [hc, hd, if_pos rfl, if_neg (by decide)]; omega
              · have := ih hl'
                have h2 : (if a.testBit x = true then 1 else 0) ≤ (if (a ||| b).testBit x = true then 1 else 0) := by
                  rw [Nat.testBit_or]; cases a.testBit x <;> cases b.testBit x <;> simp
                omega
          have := key (List.range 7) (by simpa using hi)
          unfold pc at h1
          omega
      · rw [Nat.testBit_or, hc, Bool.true_or]
    · have h2 : 128 ≤ 2 ^ i := by
        have : 2 ^ 7 ≤ 2 ^ i := Nat.pow_le_pow_right (by decide) (by omega)
        omega
      have := or_lt ha hb
      rw [Nat.testBit_lt_two_pow (by omega), Nat.testBit_lt_two_pow (by omega)]

theorem zip_le : ∀ (a b : St), a.length ≤ b.length → mS a ≤ mS (List.zipWith (· ||| ·) a b)
  | [], _, _ => Nat.zero_le _
  | x :: a, [], h => by simp at h
  | x :: a, y :: b, h => by
    have := zip_le a b (by simpa using h)
    have := pc_le x y
    simp only [mS, List.zipWith_cons_cons, List.map_cons, List.sum_cons] at *
    omega

theorem zip_lt : ∀ (a b : St), a.length ≤ b.length → (∀ m ∈ a, m < 128) → (∀ m ∈ b, m < 128) → List.zipWith (· ||| ·) a b ≠ a → mS a < mS (List.zipWith (· ||| ·) a b)
  | [], _, _, _, _, h => by simp at h
  | x :: a, [], h, _, _, _ => by simp at h
  | x :: a, y :: b, h, ha, hb, hne => by
    have h1 := zip_le a b (by simpa using h)
    have h2 := pc_le x y
    by_cases hx : x ||| y = x
    · have := zip_lt a b (by simpa using h) (fun m hm => ha m (List.mem_cons_of_mem _ hm)) (fun m hm => hb m (List.mem_cons_of_mem _ hm)) (fun e => hne (by rw [List.zipWith_cons_cons, hx, e]))
      simp only [mS, List.zipWith_cons_cons, List.map_cons, List.sum_cons] at *
      omega
    · have := pc_lt (ha x (List.mem_cons_self ..)) (hb y (List.mem_cons_self ..)) hx
      simp only [mS, List.zipWith_cons_cons, List.map_cons, List.sum_cons] at *
      omega

theorem pc_pos {a : Nat} (ha : a < 128) (h : a ≠ 0) : 0 < pc a := by
  have := pc_lt (a := 0) (b := a) (by decide) ha (by simpa using h)
  simp only [Nat.zero_or] at this
  omega

theorem mS_le (s : St) : mS s ≤ 7 * s.length := by
  induction s with
  | nil => exact Nat.le_refl _
  | cons x s ih =>
    have := pc_seven x
    simp only [mS, List.map_cons, List.sum_cons, List.length_cons] at *
    omega

theorem mS_ok {s : St} (h : SOk s) : mS s ≤ 42 := by
  have := mS_le s
  rcases h with rfl | ⟨h, _⟩
  · decide
  · omega

theorem join_le {a b : St} (ha : SOk a) (hb : SOk b) : mS a ≤ mS (joinR a b).1 ∧ ((joinR a b).2 = true → mS a < mS (joinR a b).1) := by
  unfold joinR
  split
  · exact ⟨Nat.le_refl _, fun h => by cases h⟩
  · rename_i h1
    obtain ⟨lb, mb⟩ := hb.resolve_left h1
    split
    · rename_i h2
      subst h2
      have : 0 < mS b := by
        match b, lb, mb with
        | x :: b, _, mb =>
          have := pc_pos (mb x (List.mem_cons_self ..)).2 (mb x (List.mem_cons_self ..)).1
          simp only [mS, List.map_cons, List.sum_cons]
          omega
      exact ⟨Nat.zero_le _, fun _ => this⟩
    · rename_i h2
      obtain ⟨la, ma⟩ := ha.resolve_left h2
      exact ⟨zip_le a b (by omega), fun h => zip_lt a b (by omega) (fun m hm => (ma m hm).2) (fun m hm => (mb m hm).2) (by simpa using h)⟩

theorem mT_set : ∀ (T : Tbl) (i : Nat) (s : St), i < T.length → mT (T.set i s) + mS (T.getD i []) = mT T + mS s
  | [], i, _, h => by simp at h
  | a :: T, 0, s, _ => by simp only [List.set_cons_zero, mT, List.map_cons, List.sum_cons, List.getD_cons_zero]; omega
  | a :: T, i + 1, s, h => by
    have := mT_set T i s (by simpa using h)
    simp only [List.set_cons_succ, mT, List.map_cons, List.sum_cons, List.getD_cons_succ] at *
    omega

theorem mT_le : ∀ {T : Tbl}, TOk T → mT T ≤ 42 * T.length
  | [], _ => Nat.le_refl _
  | a :: T, h => by
    have h1 := mS_ok (h a (List.mem_cons_self ..))
    have h2 := mT_le (T := T) (fun s hs => h s (List.mem_cons_of_mem _ hs))
    simp only [mT, List.map_cons, List.sum_cons, List.length_cons] at *
    omega

theorem into_le {T : Tbl} (h : TOk T) (i : Int) {s : St} (hs : SOk s) : mT T ≤ mT (intoF T i s).1 ∧ ((intoF T i s).2 = true → mT T < mT (intoF T i s).1) := by
  unfold intoF
  split
  · rename_i hc
    have h1 := join_le (h.get i.toNat) hs
    have h2 := mT_set T i.toNat (joinR (T.getD i.toNat []) s).1 (by omega)
    refine ⟨?_, fun e => ?_⟩
    · dsimp only; omega
    · have := h1.2 e; dsimp only; omega
  · exact ⟨Nat.le_refl _, fun h => by cases h⟩

theorem pas_le {T : Tbl} (h : TOk T) (n : Nd) (i : Nat) : mT T ≤ mT (pasF n i T).1 ∧ ((pasF n i T).2 = true → mT T < mT (pasF n i T).1) := by
  unfold pasF
  repeat' split
  · exact ⟨Nat.le_refl _, fun h => by cases h⟩
  · have h1 := into_le h n.t ((h.get i).hld n true)
    have h2 := into_le (h.into n.t ((h.get i).hld n true)) n.f ((h.get i).hld n false)
    refine ⟨Nat.le_trans h1.1 h2.1, fun e => ?_⟩
    rw [Bool.or_eq_true] at e
    rcases e with e | e
    · exact Nat.lt_of_lt_of_le (h1.2 e) h2.1
    · exact Nat.lt_of_le_of_lt h1.1 (h2.2 e)
  · exact into_le h _ ((h.get i).beh n)

theorem swp_le : ∀ {l : List Nd} {i : Nat} {T : Tbl}, TOk T → mT T ≤ mT (swpF l i T).1 ∧ ((swpF l i T).2 = true → mT T < mT (swpF l i T).1)
  | [], _, _, _ => ⟨Nat.le_refl _, fun h => by cases h⟩
  | n :: l, i, T, h => by
    have h1 := pas_le h n i
    have h2 := swp_le (l := l) (i := i + 1) (h.pas n i)
    rw [swpF]
    refine ⟨Nat.le_trans h1.1 h2.1, fun e => ?_⟩
    rw [Bool.or_eq_true] at e
    rcases e with e | e
    · exact Nat.lt_of_lt_of_le (h1.2 e) h2.1
    · exact Nat.lt_of_le_of_lt h1.1 (h2.2 e)

-- the end's state has no part in it
theorem getD_take {T : Tbl} {i k : Nat} (h : i < k) : (T.take k).getD i [] = T.getD i [] := by
  rw [List.getD_eq_getElem?_getD, List.getD_eq_getElem?_getD, List.getElem?_take_of_lt h]

theorem into_take {T : Tbl} {k : Nat} (hT : T.length = k + 1) (i : Int) (s : St) : (intoF T i s).1.take k = (intoF (T.take k) i s).1 := by
  unfold intoF
  rw [List.length_take, hT]
  by_cases hc : 0 ≤ i ∧ i < ((min k (k + 1) : Nat) : Int)
  · rw [if_pos hc, if_pos ⟨hc.1, by omega⟩, List.take_set, getD_take (by omega)]
  · rw [if_neg hc]
    by_cases h2 : 0 ≤ i ∧ i < ((k + 1 : Nat) : Int)
    · rw [if_pos h2, List.take_set]
      exact List.set_eq_of_length_le (by rw [List.length_take]; omega)
    · rw [if_neg h2]

theorem pas_take {T : Tbl} {k : Nat} (hT : T.length = k + 1) (n : Nd) {i : Nat} (hi : i < k) : (pasF n i T).1.take k = (pasF n i (T.take k)).1 := by
  unfold pasF
  rw [getD_take hi]
  repeat' split
  · rfl
  · rw [into_take (by rw [into_len]; exact hT), into_take hT]
  · rw [into_take hT]

theorem swp_take {k : Nat} : ∀ {l : List Nd} {i : Nat} {T : Tbl}, T.length = k + 1 → i + l.length ≤ k → (swpF l i T).1.take k = (swpF l i (T.take k)).1
  | [], _, _, _, _ => rfl
  | n :: l, i, T, hT, hi => by
    rw [List.length_cons] at hi
    rw [swpF, swpF, swp_take (by rw [pas_len]; exact hT) (by omega), pas_take hT n (by omega)]

theorem it_take {l : List Nd} {k : Nat} (hk : l.length ≤ k) : ∀ {j : Nat} {T : Tbl}, T.length = k + 1 → (itF l j T).take k = itF l j (T.take k)
  | 0, _, _ => rfl
  | j + 1, T, hT => by rw [itF, itF, it_take hk (by rw [swp_len]; exact hT), swp_take hT (by omega)]

/-- The state in which runs begin. -/
abbrev st0 : St := [8, 8, 8, 8, 8, 8]
/-- The table at the beginning, with the end's state. -/
def tR (k : Nat) : Tbl := st0 :: List.replicate k []
/-- The least table. -/
def lstF (l : List Nd) : Tbl := (itF l 4000 (tR l.length)).take l.length

theorem st0_ok : SOk st0 := .inr ⟨rfl, by decide⟩
theorem tR_ok (k : Nat) : TOk (tR k) := by
  intro s hs
  rcases List.mem_cons.1 hs with rfl | h
  · exact st0_ok
  · rw [List.eq_of_mem_replicate h]; exact .nil

theorem lst_len (l : List Nd) : (lstF l).length = l.length := by
  unfold lstF tR
  rw [List.length_take, it_len]; simp

theorem lst_ok (l : List Nd) : TOk (lstF l) := fun s hs => TOk.it (tR_ok _) s (List.mem_of_mem_take hs)
end Go.Proofs.YtellieabhaphhaaGreatDoor

/-
  narrowref's flow: tables.
-/
namespace Go.Proofs.YtellieabhaphhaaGreatDoor
open Go.RowKit

theorem fbehind_c (n : Nd) (v : Value) (s : St) (w : World) (h : SV w v s) (hs : SOk s) (h0 : s ≠ []) (hg : Gn n) (ho : ¬ (n.op = 121 ∨ n.op = 58)) :
    Calls Tryz.prog 72 #[.agg #[.int .u8 n.op, .int .i64 n.x, .int .i64 n.y, .int .i64 n.v, .int .u8 n.k, .int .i64 n.t, .int .i64 n.f, .int .i64 n.a, .int .i64 n.l], v] w fun e w' => ∃ u, e = .returned u ∧ SV w' u (behF n s) ∧ (u = v ∨ New w u) ∧ Kp no w w' := by
  have hop := hg.op
  unfold opOk at hop
  by_cases h33 : n.op = 33
  · exact behind_never n v s w h33
  by_cases h42 : n.op = 42 ∨ n.op = 94
  · exact behind_same n v s w h h42
  by_cases h126 : n.op = 126
  · exact (behind_cast n v s w h hs h0 hg h126).mono fun e w' ⟨u, h1, h2, h3, h4⟩ => ⟨u, h1, h2, .inr h3, h4⟩
  by_cases h43 : n.op = 43 ∨ n.op = 60
  · exact (behind_two n v s w h hs h0 hg h43).mono fun e w' ⟨u, h1, h2, h3, h4⟩ => ⟨u, h1, h2, .inr h3, h4⟩
  · exact (behind_one n v s w h hs h0 hg (by unfold opG; omega) h43).mono fun e w' ⟨u, h1, h2, h3, h4⟩ => ⟨u, h1, h2, .inr h3, h4⟩

/-- A table at work. -/
structure TbR (w : World) (tp tb n : Nat) (T : Tbl) (g : Bool) : Prop where
  p : Blk w tp [.slice (some ⟨tb, 0, none⟩) n n, .bool g] 174
  ne : tp ≠ tb
  len : T.length = n
  ex : ∃ vs : List Value, vs.length = n ∧ Blk w tb vs 65 ∧ ∀ i v, vs[i]? = some v → SV w v (T.getD i []) ∧ v.ownBlock ≠ some tp ∧ v.ownBlock ≠ some tb

theorem TbR.kp {w w' : World} {tp tb n : Nat} {T : Tbl} {g : Bool} (h : TbR w tp tb n T g) (k : Kp no w w') : TbR w' tp tb n T g := by
  obtain ⟨vs, h1, h2, h3⟩ := h.ex
  exact ⟨k.blk h.p no_elim, h.ne, h.len, vs, h1, k.blk h2 no_elim, fun i v hv => ⟨k.row (h3 i v hv).1 (fun _ _ => no_elim), (h3 i v hv).2⟩⟩

def TK (tp tb : Nat) (b : Nat) : Prop := b = tp ∨ b = tb

theorem TbR.set {w : World} {tp tb n : Nat} {T : Tbl} {g : Bool} (h : TbR w tp tb n T g) {i : Nat} (hi : i < n) {u : Value} {s : St} (hu : SV w u s) (h1 : u.ownBlock ≠ some tp) (h2 : u.ownBlock ≠ some tb) :
    TbR (w.setCell ⟨tb, i, none⟩ u) tp tb n (T.set i s) g := by
  obtain ⟨vs, e1, e2, e3⟩ := h.ex
  refine ⟨Blk.other h.p _ (fun e => h.ne e), h.ne, by rw [List.length_set]; exact h.len, vs.set i u, by simpa using e1, e2.set i u, ?_⟩
  intro j v hv
  by_cases hj : j = i
  · subst hj
    rw [List.getElem?_set_self (by omega)] at hv
    obtain rfl : u = v := by simpa using hv
    refine ⟨?_, h1, h2⟩
    rw [List.getD_eq_getElem?_getD, List.getElem?_set_self (by rw [h.len]; exact hi)]
    exact Row.set hu _ h2
  · rw [List.getElem?_set_ne (Ne.symm hj)] at hv
    obtain ⟨a1, a2, a3⟩ := e3 j v hv
    refine ⟨?_, a2, a3⟩
    rw [List.getD_eq_getElem?_getD, List.getElem?_set_ne (Ne.symm hj), ← List.getD_eq_getElem?_getD]
    exact Row.set a1 _ a3

theorem TbR.turn {w : World} {tp tb n : Nat} {T : Tbl} {g : Bool} (h : TbR w tp tb n T g) (b : Bool) : TbR (w.setCell ⟨tp, 1, none⟩ (.bool b)) tp tb n T b := by
  obtain ⟨vs, e1, e2, e3⟩ := h.ex
  refine ⟨h.p.set 1 (.bool b), h.ne, h.len, vs, e1, Blk.other e2 _ (fun e => h.ne e.symm), fun j v hv => ?_⟩
  obtain ⟨a1, a2, a3⟩ := e3 j v hv
  exact ⟨Row.set a1 _ a2, a2, a3⟩

theorem TbR.drew {w : World} {tp tb n : Nat} {T : Tbl} {g : Bool} (h : TbR w tp tb n T g) : TbR w.drew tp tb n T g := h.kp (Kp.refl _ _).drew
theorem TbR.drewN {w : World} {tp tb n : Nat} {T : Tbl} {g : Bool} (h : TbR w tp tb n T g) (k : Nat) : TbR (w.drewN k) tp tb n T g := h.kp ((Kp.refl _ _).drewN k)

theorem TbR.c {w : World} {tp tb n : Nat} {T : Tbl} {g : Bool} (h : TbR w tp tb n T g) : w.cell? ⟨tp, 0, none⟩ = some (.slice (some ⟨tb, 0, none⟩) n n) ∧ w.cell? ⟨tp, 1, none⟩ = some (.bool g) ∧ (∀ o, w.frozen? ⟨tp, o, none⟩ = false) ∧ (∀ o, w.frozen? ⟨tb, o, none⟩ = false) ∧ tp < w.heap.size ∧ tb < w.heap.size := by
  obtain ⟨vs, e1, e2, e3⟩ := h.ex
  exact ⟨h.p.cell 0, h.p.cell 1, h.p.frozen, e2.frozen, h.p.lt, e2.lt⟩

theorem TbR.at {w : World} {tp tb n : Nat} {T : Tbl} {g : Bool} (h : TbR w tp tb n T g) {i : Nat} (hi : i < n) :
    ∃ a cap, w.cell? ⟨tb, i, none⟩ = some (.slice a (T.getD i []).length cap) ∧ SV w (.slice a (T.getD i []).length cap) (T.getD i []) ∧ Value.ownBlock (.slice a (T.getD i []).length cap) ≠ some tp ∧ Value.ownBlock (.slice a (T.getD i []).length cap) ≠ some tb := by
  obtain ⟨vs, e1, e2, e3⟩ := h.ex
  obtain ⟨v, hv⟩ : ∃ v, vs[i]? = some v := ⟨_, List.getElem?_eq_getElem (by omega)⟩
  obtain ⟨a1, a2, a3⟩ := e3 i v hv
  obtain ⟨a, cap, rfl⟩ := SV.shape a1
  exact ⟨a, cap, (e2.cell i).trans hv, a1, a2, a3⟩

set_option maxRecDepth 100000 in
set_option maxHeartbeats 1600000 in
theorem into_c (tp tb n : Nat) (T : Tbl) (g : Bool) (i : Int) (v : Value) (s : St) (w : World) (h : TbR w tp tb n T g) (hT : TOk T) (hv : SV w v s) (hs : SOk s) (h1 : v.ownBlock ≠ some tp) (h2 : v.ownBlock ≠ some tb) :
    Calls Tryz.prog 133 #[.pointer (some ⟨tp, 0, none⟩), .int .i64 i, v] w fun e w' => e = .returned (.tuple #[]) ∧ TbR w' tp tb n (intoF T i s).1 (g || (intoF T i s).2) ∧ Kp (TK tp tb) w w' := by
  obtain ⟨c0, c1, cf, cg, cl, cm⟩ := h.c
  obtain ⟨va, vc, rfl⟩ := hv.shape
  have HH := hide h
  have hl := h.len
  by_cases hi0 : i < 0
  · have HE := hide (show intoF T i s = (T, false) by rw [intoF, if_neg (by omega)])
    rw [HE.out, Bool.or_false]
    clear hl
    go_enter Tryz.func133, Tryz.ntmps133
    go_wp2
    refine bodyPost_ret (results_none rfl _ _ _) rfl ?_
    exact ⟨rfl, HH.out, Kp.refl _ _⟩
  by_cases hin : (n : Int) ≤ i
  · have HE := hide (show intoF T i s = (T, false) by rw [intoF, if_neg (by omega)])
    rw [HE.out, Bool.or_false]
    have d0 : decide (i < 0) = false := by simp; omega
    clear hl hi0
    go_enter Tryz.func133, Tryz.ntmps133
    go_wp2
    refine bodyPost_ret (results_none rfl _ _ _) rfl ?_
    exact ⟨rfl, HH.out, Kp.refl _ _⟩
  · obtain ⟨k, rfl⟩ := Int.eq_ofNat_of_zero_le (by omega : 0 ≤ i)
    have hk : k < n := by omega
    have HE := hide (show intoF T k s = (T.set k (joinR (T.getD k []) s).1, (joinR (T.getD k []) s).2) by rw [intoF, if_pos (by omega), Int.toNat_natCast])
    rw [HE.out]
    have d0 : decide ((k : Int) < 0) = false := by simp
    have d1 : decide (n ≤ k) = false := by simp; omega
    have d2 : decide ((n : Int) ≤ k) = false := by simp; omega
    have hkI : (k : Int) < n := by omega
    obtain ⟨a, cap, q0, q1, q2, q3⟩ := h.at hk
    have HJ := hide (join_c _ _ _ _ w q1 hv (hT.get k) hs)
    clear hl hi0 hin h hv
    have HG := hide (hT.get k)
    generalize T.getD k [] = S0 at *
    clear HE
    generalize joinR S0 s = J at *
    obtain ⟨J1, J2⟩ := J
    dsimp only at *
    go_enter Tryz.func133, Tryz.ntmps133
    go_wp2_with fail
    refine HJ.out.mono ?_
    rintro e w1 ⟨u, rfl, hu, hor, k1⟩
    have hu1 : u.ownBlock ≠ some tp ∧ u.ownBlock ≠ some tb := by
      rcases hor with rfl | rfl | hn
      · exact ⟨q2, q3⟩
      · exact ⟨h1, h2⟩
      · exact ⟨fun e => by have := hn _ e; omega, fun e => by have := hn _ e; omega⟩
    have HT1 := hide (HH.out.kp k1)
    have HU := hide hu
    have HK1 := hide k1
    have HU1 := hide hu1
    clear hor hu q0 q1 q2 q3 c0 c1 cf cg cl cm k1 hu1
    obtain ⟨au, cu, rfl⟩ := HU.out.shape
    obtain ⟨a', cap', q0', _⟩ := HT1.out.at hk
    simp only [List.getD_eq_getElem?_getD] at q0'
    obtain ⟨c0, c1, cf, cg, cl, cm⟩ := HT1.out.c
    have hne := HT1.out.ne
    cases g <;> cases J2
    all_goals
      go_wp2_with fail
      try go_quiet (fail)
      go_wp2
      go_end0
      exact ⟨rfl, (HT1.out.set hk HU.out HU1.out.1 HU1.out.2).turn _, ((HK1.out.mono (S' := TK tp tb) (fun _ e => e.elim)).setCell _ (fun _ => .inr rfl)).setCell _ (fun _ => .inl rfl)⟩
end Go.Proofs.YtellieabhaphhaaGreatDoor

/-
  narrowref's flow: the least table.
-/
namespace Go.Proofs.YtellieabhaphhaaGreatDoor
open Go.RowKit

abbrev DRow (w : World) (v : Value) (l : List Nd) : Prop := Row w v 63 9 l.length (nCells l)

theorem DRow.shape {w : World} {v : Value} {l : List Nd} (h : DRow w v l) : ∃ a cap, v = .slice a l.length cap := by
  rcases h.2 with ⟨rfl, h0⟩ | ⟨g, cap, cur, rfl, _⟩
  · exact ⟨none, 0, by rw [h0]⟩
  · exact ⟨_, _, rfl⟩

theorem DRow.at {w : World} {a : Option Addr} {cap : Nat} {l : List Nd} (h : DRow w (.slice a l.length cap) l) {k : Nat} {n : Nd} (hk : l[k]? = some n) :
    k < l.length ∧ ∃ g, a = some ⟨g, 0, none⟩ ∧ g < w.heap.size ∧ w.cell? ⟨g, k * 9, none⟩ = some (.int .u8 n.op) ∧ w.cell? ⟨g, k * 9 + 1, none⟩ = some (.int .i64 n.x) ∧ w.cell? ⟨g, k * 9 + 2, none⟩ = some (.int .i64 n.y) ∧ w.cell? ⟨g, k * 9 + 3, none⟩ = some (.int .i64 n.v) ∧ w.cell? ⟨g, k * 9 + 4, none⟩ = some (.int .u8 n.k) ∧ w.cell? ⟨g, k * 9 + 5, none⟩ = some (.int .i64 n.t) ∧ w.cell? ⟨g, k * 9 + 6, none⟩ = some (.int .i64 n.f) ∧ w.cell? ⟨g, k * 9 + 7, none⟩ = some (.int .i64 n.a) ∧ w.cell? ⟨g, k * 9 + 8, none⟩ = some (.int .i64 n.l) := by
  obtain ⟨hl, rfl⟩ := List.getElem?_eq_some_iff.1 hk
  obtain ⟨g, cap', e, _, hg⟩ := World.ownsRow.form h (by omega)
  injection e with e1 e2 e3
  subst e1
  have hc : ∀ j, j < 9 → w.cell? ⟨g, k * 9 + j, none⟩ = l[k].cells[j]? := fun j hj => by
    rw [Row.cell h _ (by have := Nat.mul_le_mul_right 9 hl; omega)]
    exact flat_get Nd.cells 9 nd9 l k j hl hj
  have hlt := Row.lt h (b := g) rfl
  exact ⟨hl, g, rfl, hlt, hc 0 (by decide), hc 1 (by decide), hc 2 (by decide), hc 3 (by decide), hc 4 (by decide), hc 5 (by decide), hc 6 (by decide), hc 7 (by decide), hc 8 (by decide)⟩

theorem DRow.at2 {w : World} {g cap : Nat} {l : List Nd} (h : DRow w (.slice (some ⟨g, 0, none⟩) l.length cap) l) {k : Nat} {n : Nd} (hk : l[k]? = some n) :
    g < w.heap.size ∧ w.cell? ⟨g, k * 9, none⟩ = some (.int .u8 n.op) ∧ w.cell? ⟨g, k * 9 + 1, none⟩ = some (.int .i64 n.x) ∧ w.cell? ⟨g, k * 9 + 2, none⟩ = some (.int .i64 n.y) ∧ w.cell? ⟨g, k * 9 + 3, none⟩ = some (.int .i64 n.v) ∧ w.cell? ⟨g, k * 9 + 4, none⟩ = some (.int .u8 n.k) ∧ w.cell? ⟨g, k * 9 + 5, none⟩ = some (.int .i64 n.t) ∧ w.cell? ⟨g, k * 9 + 6, none⟩ = some (.int .i64 n.f) ∧ w.cell? ⟨g, k * 9 + 7, none⟩ = some (.int .i64 n.a) ∧ w.cell? ⟨g, k * 9 + 8, none⟩ = some (.int .i64 n.l) := by
  obtain ⟨_, g', e, h2⟩ := DRow.at h hk
  injection e with e
  injection e with e
  subst e
  exact h2

/-- The table and the nodes. -/
structure LSc (w : World) (tp tb n : Nat) (T : Tbl) (g : Bool) (v : Value) (l : List Nd) : Prop where
  t : TbR w tp tb n T g
  r : DRow w v l
  o1 : v.ownBlock ≠ some tp
  o2 : v.ownBlock ≠ some tb

theorem LSc.kp {w w' : World} {tp tb n : Nat} {T : Tbl} {g : Bool} {v : Value} {l : List Nd} (h : LSc w tp tb n T g v l) (k : Kp no w w') : LSc w' tp tb n T g v l :=
  ⟨h.t.kp k, k.row h.r (fun _ _ => no_elim), h.o1, h.o2⟩

theorem LSc.tk {w w' : World} {tp tb n : Nat} {T T' : Tbl} {g g' : Bool} {v : Value} {l : List Nd} (h : LSc w tp tb n T g v l) (k : Kp (TK tp tb) w w') (t : TbR w' tp tb n T' g') : LSc w' tp tb n T' g' v l :=
  ⟨t, k.row h.r (fun b hb e => by rcases e with rfl | rfl; exact h.o1 hb; exact h.o2 hb), h.o1, h.o2⟩

theorem LSc.turn {w : World} {tp tb n : Nat} {T : Tbl} {g : Bool} {v : Value} {l : List Nd} (h : LSc w tp tb n T g v l) (b : Bool) : LSc (w.setCell ⟨tp, 1, none⟩ (.bool b)) tp tb n T b v l :=
  ⟨h.t.turn b, Row.set h.r _ h.o1, h.o1, h.o2⟩

theorem info_ss : (Tryz.prog.info? 65).map (fun i => (i.zero, i.size, i.bytes)) = some (some (.slice none 0 0), 1, 24) := by kernel_rfl

theorem row_blk {w : World} {b n : Nat} {T : TypeId} {vs : List Value} (h : Row w (.slice (some ⟨b, 0, none⟩) n n) T 1 n vs) : vs.length = n ∧ Blk w b vs T := by
  rcases h.2 with ⟨e, _⟩ | ⟨g, cap, cur, e, _, hg, _, _, hs, ht⟩
  · cases e
  · injection e with e1 e2 e3
    injection e1 with e1
    injection e1 with e1
    subst e1 e3
    refine ⟨by rw [h.1, Nat.mul_one], ?_⟩
    rw [Nat.mul_one] at hs ht
    rw [List.take_of_length_le (by simp [hs])] at ht
    unfold Blk
    rw [hg, ← ht]

theorem made_nil (n : Nat) : (madeCells (Value.slice none 0 0).cells (n * 1)).toList = List.replicate n (.slice none 0 0) := by
  rw [Nat.mul_one]
  apply List.ext_getElem
  · simp [madeCells]
  · intro i h1 h2
    simp [madeCells, Value.cells, Nat.mod_one]

/-- A table, as it is handed on. -/
def TV (w : World) (v : Value) (T : Tbl) : Prop :=
  ∃ tb cap, v = .slice (some ⟨tb, 0, none⟩) T.length cap ∧ tb < w.heap.size ∧ ∀ i, i < T.length → ∃ a c, w.cell? ⟨tb, i, none⟩ = some (.slice a (T.getD i []).length c) ∧ SV w (.slice a (T.getD i []).length c) (T.getD i [])

theorem start_s (w : World) :
    Calls Tryz.prog 41 #[] w fun e w' => ∃ au cu, e = .returned (.slice au 6 cu) ∧ SV w' (.slice au 6 cu) [8, 8, 8, 8, 8, 8] ∧ New w (.slice au 6 cu) ∧ Kp no w w' :=
  (start_c w).mono fun e w' ⟨u, h1, h2, h3, h4⟩ => by
    obtain ⟨a, c, rfl⟩ := h2.shape
    exact ⟨a, c, h1, h2, h3, h4⟩

theorem New.ne {w : World} {v : Value} {b : Nat} (h : New w v) (hb : b < w.heap.size) : v.ownBlock ≠ some b := fun e => by have := h b e; omega

/-- A state beside the table. -/
def SB (w : World) (tp tb : Nat) (u : Value) (s : St) : Prop := SV w u s ∧ u.ownBlock ≠ some tp ∧ u.ownBlock ≠ some tb

theorem SB.tk {w w' : World} {tp tb : Nat} {u : Value} {s : St} (h : SB w tp tb u s) (k : Kp (TK tp tb) w w') : SB w' tp tb u s :=
  ⟨k.row h.1 (fun b hb e => by rcases e with rfl | rfl; exact h.2.1 hb; exact h.2.2 hb), h.2⟩
theorem SB.kp {w w' : World} {tp tb : Nat} {u : Value} {s : St} (h : SB w tp tb u s) (k : Kp no w w') : SB w' tp tb u s := ⟨k.row h.1 (fun _ _ => no_elim), h.2⟩

theorem lsc_tv {w : World} {tp tb n : Nat} {T : Tbl} {g : Bool} {v : Value} {l : List Nd} (h : LSc w tp tb n T g v l) (hn : l.length ≤ n) : TV w (.slice (some ⟨tb, 0, none⟩) l.length n) (T.take l.length) := by
  have hl : (T.take l.length).length = l.length := by rw [List.length_take, h.t.len]; omega
  refine ⟨tb, n, by rw [hl], h.t.c.2.2.2.2.2, fun i hi => ?_⟩
  rw [hl] at hi
  obtain ⟨a, c, q0, q1, _⟩ := h.t.at (i := i) (by omega)
  rw [getD_take hi]
  exact ⟨a, c, q0, q1⟩

set_option maxRecDepth 100000 in
set_option maxHeartbeats 6400000 in
theorem least_c (v : Value) (l : List Nd) (w : World) (h : DRow w v l) (hl : l.length ≤ 90) (hg : ∀ n ∈ l, Gn n) :
    Calls Tryz.prog 89 #[v] w fun e w' => ∃ u, e = .returned u ∧ TV w' u (lstF l) ∧ Kp no w w' := by
  obtain ⟨i0, hi, hz0, hz1, hz2⟩ := info_parts info_ss
  obtain ⟨a, cap, rfl⟩ := h.shape
  have HD := hide h
  clear h
  go_enter Tryz.func89, Tryz.ntmps89
  go_wp2_with (at_make; refine wpList_make_full _ rfl (.tmp 12) (.tmp 12) 132 rfl 0 65 i0 _ 1 Tryz.underlying132 hi hz0 hz1 .i64 .i64 _ _ (l.length + 1) (by simp [Act.eval]; rfl) (by simp [Act.eval]; rfl) (by push_cast; rfl) (by push_cast; rfl) (by rw [hz2]; omega) (by unfold maxLen; omega) (Nat.zero_le _) ?_; intro w1 hrow hgrow)
  have hT0 : LSc (w1.alloc (.cells #[.slice (some ⟨w.heap.size, 0, none⟩) (l.length + 1) (l.length + 1), .bool true] 174)) w1.heap.size w.heap.size (l.length + 1) (List.replicate (l.length + 1) []) true (.slice a l.length cap) l := by
    have k1 : Kp no w w1 := (Kp.refl _ _).grown hgrow (fun k _ e => by cases e)
    obtain ⟨b1, b2⟩ := row_blk hrow
    rw [made_nil] at b1 b2
    have hb := b2.lt
    refine ⟨⟨by (repeat' (first | ((with_reducible show (_ : List Value) = _); rfl) | ((with_reducible refine Blk.newAt _ _ _ ?_); first | with_reducible rfl | (simp; done)) | with_reducible refine Blk.alloc ?_ _ | with_reducible refine Blk.drewN ?_ _ | with_reducible refine Blk.drew ?_ | ((with_reducible refine Blk.other ?_ _ ?_); rotate_left; ((try dsimp only); omega)) | with_reducible refine Blk.setB (cs0 := ?_) ?_ ?_)), by omega, by simp, _, b1, b2.alloc _, ?_⟩, World.ownsRow.alloc (k1.row HD.out (fun _ _ => no_elim)) _, ?_, ?_⟩
    · intro i v hv
      obtain ⟨h1, rfl⟩ := List.getElem?_eq_some_iff.1 hv
      rw [List.getElem_replicate]
      refine ⟨?_, by simp [Value.ownBlock], by simp [Value.ownBlock]⟩
      have : (List.replicate (l.length + 1) ([] : St)).getD i [] = [] := by rw [List.getD_eq_getElem?_getD, List.getElem?_replicate]; split <;> rfl
      rw [this]
      exact SV.nil _
    · intro e; have := Row.lt HD.out e; have := k1.size; omega
    · intro e; have := Row.lt HD.out e; omega
  have hk0 : Kp no w (w1.alloc (.cells #[.slice (some ⟨w.heap.size, 0, none⟩) (l.length + 1) (l.length + 1), .bool true] 174)) := ((Kp.refl _ _).grown hgrow (fun k _ e => by cases e)).alloc _
  have hs1 := hgrow.size
  refine wp_gen (fun W => LSc W w1.heap.size w.heap.size (l.length + 1) (List.replicate (l.length + 1) []) true (.slice a l.length cap) l ∧ Kp no w W) ⟨hT0, hk0⟩ ?_
  clear hT0 hk0 hrow hgrow
  rintro W ⟨hW, kW⟩
  generalize w1.heap.size = tp at *
  obtain ⟨tb, htb⟩ : ∃ tb, tb = w.heap.size := ⟨_, rfl⟩
  rw [← htb] at hW ⊢
  have HTB := hide htb
  have HTP := hide hs1
  have HWW := hide hW
  obtain ⟨c0, c1, cf, cg, cl, cm⟩ := hW.t.c
  obtain ⟨a0, cap0, q0, _⟩ := hW.t.at (i := 0) (by omega)
  rw [show ((List.replicate (l.length + 1) ([] : St)).getD 0 []).length = 0 from rfl] at q0
  have hne := hW.t.ne
  clear hs1 hW htb
  have b0 : (0 : Int) < (l.length : Int) + 1 := by omega
  go_cut [] from 10 (fun W5 => LSc W5 tp tb (l.length + 1) (tR l.length) true (.slice a l.length cap) l ∧ Kp no w W5)
  case first =>
    go_region_with (go_at_call 41; refine (start_s _).mono ?_; rintro e w5 ⟨au, cu, rfl, hu, hnew, k5⟩; have k5' : Kp no W w5 := Kp.trans (by (repeat' (first | with_reducible exact Kp.refl _ _ | with_reducible refine Kp.alloc ?_ _ | with_reducible refine Kp.drewN ?_ _ | with_reducible refine Kp.drew ?_ | with_reducible refine Kp.setCell ?_ _ ?_ | (intro hh; first | rfl | exact .inl rfl | exact .inr rfl | (exfalso; (try dsimp only at hh); omega))))) k5 (fun _ _ e => e); have HW5 := hide (HWW.out.kp k5'); obtain ⟨c0, c1, cf, cg, cl, cm⟩ := HW5.out.t.c; obtain ⟨a0, cap0, q0, _⟩ := HW5.out.t.at (i := 0) (by omega); rw [show ((List.replicate (l.length + 1) ([] : St)).getD 0 []).length = 0 from rfl] at q0)
    all_goals
      go_wp2
      go_meet
      case rel =>
        have hc := HWW.out.t.c
        have hn1 : Value.ownBlock (.slice au 6 cu) ≠ some tp := fun e => by have := hnew _ e; have := hc.2.2.2.2.1; simp at *; omega
        have hn2 : Value.ownBlock (.slice au 6 cu) ≠ some tb := fun e => by have := hnew _ e; have := hc.2.2.2.2.2; simp at *; omega
        exact ⟨⟨HW5.out.t.set (i := 0) (by omega) hu hn1 hn2, Row.set HW5.out.r _ HW5.out.o2, HW5.out.o1, HW5.out.o2⟩, (kW.trans k5' (fun _ _ e => e)).setCell _ (fun hb => by have := HTB.out; dsimp only at hb; omega)⟩
  case rest =>
    obtain ⟨hW2, kW2⟩ := hcut
    have HW2 := hide hW2
    have HK2 := hide kW2
    have HTR := hide (show TOk (tR l.length) from tR_ok _)
    clear hW2 kW2 HWW kW c0 c1 cf cg cl cm q0 b0
    go_wp2
    go_loopg [4] 4000 (fun k nv wr => ∃ m : Nat, m ≤ 4000 ∧ k = 4000 - m ∧ nv = .int .i64 m ∧ ∃ g, LSc wr tp tb (l.length + 1) (itF l m (tR l.length)) g (.slice a l.length cap) l ∧ (g = false → (swpF l 0 (itF l m (tR l.length))).1 = itF l m (tR l.length)) ∧ Kp no w wr)
    case atStart => exact ⟨0, Nat.zero_le _, rfl, rfl, true, HW2.out, (fun e => by cases e), HK2.out⟩
    case round =>
      obtain ⟨m, hm, hk, rfl, g, hS, hfx, kr⟩ := hrel
      have HKK := hide hk
      have HS := hide hS
      have HFX := hide hfx
      have HKR := hide kr
      obtain ⟨c0, c1, cf, cg, cl, cm⟩ := hS.t.c
      have HOK := hide (TOk.it (l := l) (k := m) HTR.out)
      have HIT := hide (it_succ l m (tR l.length))
      clear hk hS hfx kr
      by_cases hlt : m < 4000
      · have hmI : (m : Int) < 4000 := by omega
        cases g
        · have HRS := hide (show itF l 4000 (tR l.length) = itF l m (tR l.length) from it_rest l _ m (HFX.out rfl) 4000 hm)
          go_wp2
          go_ret
          refine ⟨_, rfl, ?_, HKR.out⟩
          unfold lstF
          rw [HRS.out]
          exact lsc_tv HS.out (by omega)
        · generalize itF l m (tR l.length) = T at *
          go_wp2
          go_loopg [5] l.length (fun k iv wx => ∃ j : Nat, j ≤ l.length ∧ k = l.length - j ∧ iv = .int .i64 j ∧ LSc wx tp tb (l.length + 1) (swpF (l.take j) 0 T).1 (swpF (l.take j) 0 T).2 (.slice a l.length cap) l ∧ Kp no w wx)
          case atStart => exact ⟨0, Nat.zero_le _, rfl, rfl, HS.out.turn false, HKR.out.setCell _ (fun hb => by have := HTP.out; dsimp only at hb; omega)⟩
          case round =>
            obtain ⟨j, hj, hk2, rfl, hS2, kx⟩ := hrel
            have HKK2 := hide hk2
            have HB0 := hide hS2
            have HKB0 := hide kx
            clear hk2 hS2 kx c0 c1 cf cg cl cm
            by_cases hlt : j < l.length
            · obtain ⟨nd, hnd⟩ : ∃ nd, l[j]? = some nd := ⟨_, List.getElem?_eq_getElem hlt⟩
              have HND := hide hnd
              have HGN := hide (hg nd (List.mem_of_getElem? hnd))
              have HSN := hide (show swpF (l.take (j + 1)) 0 T = ((pasF nd j (swpF (l.take j) 0 T).1).1, (swpF (l.take j) 0 T).2 || (pasF nd j (swpF (l.take j) 0 T).1).2) by
                obtain ⟨h1, rfl⟩ := List.getElem?_eq_some_iff.1 hnd
                rw [List.take_succ_eq_append_getElem h1, swp_snoc, List.length_take, Nat.min_eq_left hj, Nat.zero_add])
              have HTO := hide (TOk.swp (l := l.take j) (i := 0) HOK.out)
              obtain ⟨_, gn, ha, _⟩ := DRow.at HB0.out.r hnd
              subst ha
              clear hnd
              generalize swpF (l.take j) 0 T = TG at *
              obtain ⟨T1, g1⟩ := TG
              dsimp only at HSN HTO HB0
              have HSO := hide (HTO.out.get j)
              generalize hss : T1.getD j [] = S at *
              have HSS := hide hss
              clear hss
              obtain ⟨gnl, n0, n1, n2, n3, n4, n5, n6, n7, n8⟩ := DRow.at2 HB0.out.r HND.out; obtain ⟨c0, c1, cf, cg, cl, cm⟩ := HB0.out.t.c; obtain ⟨a1, p1, q0, q1, q2, q3⟩ := HB0.out.t.at (i := j) (by omega); rw [HSS.out] at q0 q1 q2 q3
              have hjI : (j : Int) < l.length := by omega
              have hjI2 : (j : Int) < (l.length : Int) + 1 := by omega
              go_wp2_with fail
              refine (ftest_c nd _).mono ?_
              rintro e wB ⟨rfl, k1⟩
              have HB := hide (HB0.out.kp k1)
              have HKB := hide (HKB0.out.trans k1 (fun _ _ e => e))
              clear gnl n0 n1 n2 n3 n4 n5 n6 n7 n8 c0 c1 cf cg cl cm q0 q1 q2 q3
              obtain ⟨gnl, n0, n1, n2, n3, n4, n5, n6, n7, n8⟩ := DRow.at2 HB.out.r HND.out; obtain ⟨c0, c1, cf, cg, cl, cm⟩ := HB.out.t.c; obtain ⟨a1, p1, q0, q1, q2, q3⟩ := HB.out.t.at (i := j) (by omega); rw [HSS.out] at q0 q1 q2 q3
              by_cases hS0 : S = []
              · have HP := hide (show pasF nd j T1 = (T1, false) by rw [pasF, HSS.out, if_pos hS0])
                subst hS0
                generalize decide (nd.op = 121 ∨ nd.op = 58) = tst at *
                cases tst
                all_goals
                  go_wp2
                  go_roundg (l.length - (j + 1))
                  case measure => have := HKK2.out; omega
                  case rel => exact ⟨j + 1, by omega, rfl, by go_num, by rw [HSN.out, HP.out, Bool.or_false]; exact HB.out, HKB.out⟩
              · have h6 : S.length = 6 := (HSO.out.resolve_left hS0).1
                have hSI : (0 : Int) < (S.length : Int) := by omega
                clear h6
                by_cases ht : nd.op = 121 ∨ nd.op = 58
                · have htt : nd.op = 121 ∨ nd.op = 58 := ht
                  have HTT := hide htt
                  rw [decide_eq_true htt]
                  have HP := hide (show pasF nd j T1 = ((intoF (intoF T1 nd.t (hldF nd true S)).1 nd.f (hldF nd false S)).1, (intoF T1 nd.t (hldF nd true S)).2 || (intoF (intoF T1 nd.t (hldF nd true S)).1 nd.f (hldF nd false S)).2) by rw [pasF, HSS.out, if_neg hS0, if_pos htt])
                  clear ht htt
                  go_wp2_with fail
                  go_cut [7] from 1000 (fun av W5 => SB W5 tp tb av (hldF nd true S) ∧ LSc W5 tp tb (l.length + 1) T1 g1 (.slice (some ⟨gn, 0, none⟩) l.length cap) l ∧ Kp no w W5)
                  case first =>
                    go_region_with (go_at_call 73; refine (fholds_c nd _ S true _ (Kp.row (S := no) (by (repeat' (first | with_reducible exact Kp.refl _ _ | with_reducible refine Kp.alloc ?_ _ | with_reducible refine Kp.drewN ?_ _ | with_reducible refine Kp.drew ?_ | with_reducible refine Kp.setCell ?_ _ ?_ | (intro hh; first | rfl | exact .inl rfl | exact .inr rfl | (exfalso; (try dsimp only at hh); omega))))) q1 (fun _ _ => no_elim)) HSO.out hS0 HGN.out HTT.out).mono ?_; rintro e w5 ⟨u, rfl, hu, hnew, k5⟩)
                    all_goals
                      go_wp2
                      go_meet
                      case rel =>
                        have k6 : Kp no wB w5 := Kp.trans (by (repeat' (first | with_reducible exact Kp.refl _ _ | with_reducible refine Kp.alloc ?_ _ | with_reducible refine Kp.drewN ?_ _ | with_reducible refine Kp.drew ?_ | with_reducible refine Kp.setCell ?_ _ ?_ | (intro hh; first | rfl | exact .inl rfl | exact .inr rfl | (exfalso; (try dsimp only at hh); omega))))) k5 (fun _ _ e => e)
                        exact ⟨⟨hu, hnew.ne (by simpa using cl), hnew.ne (by simpa using cm)⟩, HB.out.kp (by (repeat' (first | with_reducible exact Kp.refl _ _ | with_reducible refine Kp.alloc ?_ _ | with_reducible refine Kp.drewN ?_ _ | with_reducible refine Kp.drew ?_ | with_reducible refine Kp.setCell ?_ _ ?_ | with_reducible refine Kp.trans ?_ k6 (fun _ _ e => e) | (intro hh; first | rfl | exact .inl rfl | exact .inr rfl | (exfalso; (try dsimp only at hh); omega))))), HKB.out.trans (S' := no) (by (repeat' (first | with_reducible exact Kp.refl _ _ | with_reducible refine Kp.alloc ?_ _ | with_reducible refine Kp.drewN ?_ _ | with_reducible refine Kp.drew ?_ | with_reducible refine Kp.setCell ?_ _ ?_ | with_reducible refine Kp.trans ?_ k6 (fun _ _ e => e) | (intro hh; first | rfl | exact .inl rfl | exact .inr rfl | (exfalso; (try dsimp only at hh); omega))))) (fun _ _ e => e)⟩
                  case rest =>
                    obtain ⟨hA, hC1, kC1⟩ := hcut
                    have HA := hide hA
                    have HC := hide hC1
                    have HKC := hide kC1
                    clear hA hC1 kC1
                    clear gnl n0 n1 n2 n3 n4 n5 n6 n7 n8 c0 c1 cf cg cl cm q0 q1 q2 q3
                    obtain ⟨gnl, n0, n1, n2, n3, n4, n5, n6, n7, n8⟩ := DRow.at2 HC.out.r HND.out; obtain ⟨c0, c1, cf, cg, cl, cm⟩ := HC.out.t.c; obtain ⟨a1, p1, q0, q1, q2, q3⟩ := HC.out.t.at (i := j) (by omega); rw [HSS.out] at q0 q1 q2 q3
                    go_wp2_with fail
                    go_cut [8] from 1000 (fun av W5 => SB W5 tp tb av (hldF nd false S) ∧ LSc W5 tp tb (l.length + 1) T1 g1 (.slice (some ⟨gn, 0, none⟩) l.length cap) l ∧ Kp no w W5 ∧ SB W5 tp tb u7 (hldF nd true S))
                    case first =>
                      go_region_with (go_at_call 73; refine (fholds_c nd _ S false _ (Kp.row (S := no) (by (repeat' (first | with_reducible exact Kp.refl _ _ | with_reducible refine Kp.alloc ?_ _ | with_reducible refine Kp.drewN ?_ _ | with_reducible refine Kp.drew ?_ | with_reducible refine Kp.setCell ?_ _ ?_ | (intro hh; first | rfl | exact .inl rfl | exact .inr rfl | (exfalso; (try dsimp only at hh); omega))))) q1 (fun _ _ => no_elim)) HSO.out hS0 HGN.out HTT.out).mono ?_; rintro e w5 ⟨u, rfl, hu, hnew, k5⟩)
                      all_goals
                        go_wp2
                        go_meet
                        case rel =>
                          have k6 : Kp no wc w5 := Kp.trans (by (repeat' (first | with_reducible exact Kp.refl _ _ | with_reducible refine Kp.alloc ?_ _ | with_reducible refine Kp.drewN ?_ _ | with_reducible refine Kp.drew ?_ | with_reducible refine Kp.setCell ?_ _ ?_ | (intro hh; first | rfl | exact .inl rfl | exact .inr rfl | (exfalso; (try dsimp only at hh); omega))))) k5 (fun _ _ e => e)
                          exact ⟨⟨hu, hnew.ne (by simpa using cl), hnew.ne (by simpa using cm)⟩, HC.out.kp (by (repeat' (first | with_reducible exact Kp.refl _ _ | with_reducible refine Kp.alloc ?_ _ | with_reducible refine Kp.drewN ?_ _ | with_reducible refine Kp.drew ?_ | with_reducible refine Kp.setCell ?_ _ ?_ | with_reducible refine Kp.trans ?_ k6 (fun _ _ e => e) | (intro hh; first | rfl | exact .inl rfl | exact .inr rfl | (exfalso; (try dsimp only at hh); omega))))), HKC.out.trans (S' := no) (by (repeat' (first | with_reducible exact Kp.refl _ _ | with_reducible refine Kp.alloc ?_ _ | with_reducible refine Kp.drewN ?_ _ | with_reducible refine Kp.drew ?_ | with_reducible refine Kp.setCell ?_ _ ?_ | with_reducible refine Kp.trans ?_ k6 (fun _ _ e => e) | (intro hh; first | rfl | exact .inl rfl | exact .inr rfl | (exfalso; (try dsimp only at hh); omega))))) (fun _ _ e => e), HA.out.kp (by (repeat' (first | with_reducible exact Kp.refl _ _ | with_reducible refine Kp.alloc ?_ _ | with_reducible refine Kp.drewN ?_ _ | with_reducible refine Kp.drew ?_ | with_reducible refine Kp.setCell ?_ _ ?_ | with_reducible refine Kp.trans ?_ k6 (fun _ _ e => e) | (intro hh; first | rfl | exact .inl rfl | exact .inr rfl | (exfalso; (try dsimp only at hh); omega)))))⟩
                    case rest =>
                      obtain ⟨hB2, hC2, kC2, hA2⟩ := hcut
                      rename_i wc2
                      have HA2 := hide hA2
                      have HB2 := hide hB2
                      have HC2 := hide hC2
                      have HKC2 := hide kC2
                      clear hB2 hC2 kC2 hA2 HA HC HKC
                      clear gnl n0 n1 n2 n3 n4 n5 n6 n7 n8 c0 c1 cf cg cl cm q0 q1 q2 q3
                      obtain ⟨gnl, n0, n1, n2, n3, n4, n5, n6, n7, n8⟩ := DRow.at2 HC2.out.r HND.out; obtain ⟨c0, c1, cf, cg, cl, cm⟩ := HC2.out.t.c
                      go_wp2_with fail
                      refine (into_c tp tb (l.length + 1) T1 g1 nd.t _ _ _ HC2.out.t HTO.out HA2.out.1 (HSO.out.hld nd true) HA2.out.2.1 HA2.out.2.2).mono ?_
                      rintro e w6 ⟨rfl, hT6, k6⟩
                      have HC3 := hide (HC2.out.tk k6 hT6)
                      have HB3 := hide (HB2.out.tk k6)
                      have HKC3 := hide (HKC2.out.trans k6 (fun x hx e => by have := HTB.out; have := HTP.out; rcases e with rfl | rfl <;> omega))
                      have HTO3 := hide (HTO.out.into nd.t (HSO.out.hld nd true))
                      clear hT6 k6
                      clear gnl n0 n1 n2 n3 n4 n5 n6 n7 n8 c0 c1 cf cg cl cm
                      obtain ⟨gnl, n0, n1, n2, n3, n4, n5, n6, n7, n8⟩ := DRow.at2 HC3.out.r HND.out; obtain ⟨c0, c1, cf, cg, cl, cm⟩ := HC3.out.t.c
                      go_wp2_with fail
                      refine (into_c tp tb (l.length + 1) _ _ nd.f _ _ _ HC3.out.t HTO3.out HB3.out.1 (HSO.out.hld nd false) HB3.out.2.1 HB3.out.2.2).mono ?_
                      rintro e w7 ⟨rfl, hT7, k7⟩
                      have HC4 := hide (HC3.out.tk k7 hT7)
                      have HKC4 := hide (HKC3.out.trans k7 (fun x hx e => by have := HTB.out; have := HTP.out; rcases e with rfl | rfl <;> omega))
                      go_wp2
                      go_roundg (l.length - (j + 1))
                      case measure => have := HKK2.out; omega
                      case rel => exact ⟨j + 1, by omega, rfl, by go_num, by rw [HSN.out, HP.out, ← Bool.or_assoc]; exact HC4.out, HKC4.out⟩
                · have HTT := hide ht
                  rw [decide_eq_false ht]
                  have HP := hide (show pasF nd j T1 = intoF T1 nd.t (behF nd S) by rw [pasF, HSS.out, if_neg hS0, if_neg ht])
                  clear ht
                  go_wp2_with fail
                  go_cut [9] from 1000 (fun av W5 => SB W5 tp tb av (behF nd S) ∧ LSc W5 tp tb (l.length + 1) T1 g1 (.slice (some ⟨gn, 0, none⟩) l.length cap) l ∧ Kp no w W5)
                  case first =>
                    go_region_with (go_at_call 72; refine (fbehind_c nd _ S _ (Kp.row (S := no) (by (repeat' (first | with_reducible exact Kp.refl _ _ | with_reducible refine Kp.alloc ?_ _ | with_reducible refine Kp.drewN ?_ _ | with_reducible refine Kp.drew ?_ | with_reducible refine Kp.setCell ?_ _ ?_ | (intro hh; first | rfl | exact .inl rfl | exact .inr rfl | (exfalso; (try dsimp only at hh); omega))))) q1 (fun _ _ => no_elim)) HSO.out hS0 HGN.out HTT.out).mono ?_; rintro e w5 ⟨u, rfl, hu, hor, k5⟩)
                    all_goals
                      go_wp2
                      go_meet
                      case rel =>
                        have k6 : Kp no wB w5 := Kp.trans (by (repeat' (first | with_reducible exact Kp.refl _ _ | with_reducible refine Kp.alloc ?_ _ | with_reducible refine Kp.drewN ?_ _ | with_reducible refine Kp.drew ?_ | with_reducible refine Kp.setCell ?_ _ ?_ | (intro hh; first | rfl | exact .inl rfl | exact .inr rfl | (exfalso; (try dsimp only at hh); omega))))) k5 (fun _ _ e => e)
                        exact ⟨⟨hu, by rcases hor with rfl | hnew; exact q2; exact hnew.ne (by simpa using cl), by rcases hor with rfl | hnew; exact q3; exact hnew.ne (by simpa using cm)⟩, HB.out.kp (by (repeat' (first | with_reducible exact Kp.refl _ _ | with_reducible refine Kp.alloc ?_ _ | with_reducible refine Kp.drewN ?_ _ | with_reducible refine Kp.drew ?_ | with_reducible refine Kp.setCell ?_ _ ?_ | with_reducible refine Kp.trans ?_ k6 (fun _ _ e => e) | (intro hh; first | rfl | exact .inl rfl | exact .inr rfl | (exfalso; (try dsimp only at hh); omega))))), HKB.out.trans (S' := no) (by (repeat' (first | with_reducible exact Kp.refl _ _ | with_reducible refine Kp.alloc ?_ _ | with_reducible refine Kp.drewN ?_ _ | with_reducible refine Kp.drew ?_ | with_reducible refine Kp.setCell ?_ _ ?_ | with_reducible refine Kp.trans ?_ k6 (fun _ _ e => e) | (intro hh; first | rfl | exact .inl rfl | exact .inr rfl | (exfalso; (try dsimp only at hh); omega))))) (fun _ _ e => e)⟩
                  case rest =>
                    obtain ⟨hA, hC1, kC1⟩ := hcut
                    have HA := hide hA
                    have HC := hide hC1
                    have HKC := hide kC1
                    clear hA hC1 kC1
                    clear gnl n0 n1 n2 n3 n4 n5 n6 n7 n8 c0 c1 cf cg cl cm q0 q1 q2 q3
                    obtain ⟨gnl, n0, n1, n2, n3, n4, n5, n6, n7, n8⟩ := DRow.at2 HC.out.r HND.out; obtain ⟨c0, c1, cf, cg, cl, cm⟩ := HC.out.t.c
                    go_wp2_with fail
                    refine (into_c tp tb (l.length + 1) T1 g1 nd.t _ _ _ HC.out.t HTO.out HA.out.1 (HSO.out.beh nd) HA.out.2.1 HA.out.2.2).mono ?_
                    rintro e w6 ⟨rfl, hT6, k6⟩
                    have HC3 := hide (HC.out.tk k6 hT6)
                    have HKC3 := hide (HKC.out.trans k6 (fun x hx e => by have := HTB.out; have := HTP.out; rcases e with rfl | rfl <;> omega))
                    go_wp2
                    go_roundg (l.length - (j + 1))
                    case measure => have := HKK2.out; omega
                    case rel => exact ⟨j + 1, by omega, rfl, by go_num, by rw [HSN.out, HP.out]; exact HC3.out, HKC3.out⟩
            · obtain rfl : j = l.length := by omega
              rw [List.take_length] at HB0
              go_wp2
              go_roundg (4000 - (m + 1))
              case measure => have := HKK.out; omega
              case rel => exact ⟨m + 1, by omega, rfl, by go_num, (swpF l 0 T).2, by rw [HIT.out]; exact HB0.out, by rw [HIT.out]; exact fun e => by rw [swp_same e]; exact swp_same e, HKB0.out⟩
      · obtain rfl : m = 4000 := by omega
        cases g
        all_goals
          go_wp2
          go_ret
          refine ⟨_, rfl, ?_, HKR.out⟩
          unfold lstF
          exact lsc_tv HS.out (by omega)
end Go.Proofs.YtellieabhaphhaaGreatDoor

/-
  narrow's reader: a graph.
-/
namespace Go.Proofs.YtellieabhaphhaaGreatDoor
open Go.RowKit

def nnCells (l : List NN) : List Value := l.flatMap NN.cells
theorem nn11 (x : NN) : x.cells.length = 11 := rfl

theorem info_nn : (Tryz.prog.info? 91).map (fun i => (i.zero, i.size, i.bytes)) = some (some (.agg #[.string ⟨#[]⟩, .int .i64 0, .int .i64 0, .int .i64 0, .int .i64 0, .int .i64 0, .int .i64 0, .int .i64 0, .int .i64 0, .int .i64 0, .int .i64 0]), 11, 96) := by kernel_rfl

/-- The row of narrow's nodes. -/
abbrev NRow (w : World) (v : Value) (L : List NN) : Prop := Row w v 91 11 L.length (nnCells L)

theorem NRow.shape {w : World} {v : Value} {L : List NN} (h : NRow w v L) : ∃ a cap, v = .slice a L.length cap := by
  rcases h.2 with ⟨rfl, h0⟩ | ⟨g, cap, cur, rfl, _⟩
  · exact ⟨none, 0, by rw [h0]⟩
  · exact ⟨_, _, rfl⟩

theorem NRow.at {w : World} {a : Option Addr} {cap : Nat} {L : List NN} (h : NRow w (.slice a L.length cap) L) {k : Nat} {n : NN} (hk : L[k]? = some n) :
    k < L.length ∧ ∃ g, a = some ⟨g, 0, none⟩ ∧ g < w.heap.size ∧ w.cell? ⟨g, k * 11, none⟩ = some (.string n.tx) ∧ w.cell? ⟨g, k * 11 + 1, none⟩ = some (.int .i64 n.act) ∧ w.cell? ⟨g, k * 11 + 2, none⟩ = some (.int .i64 n.x) ∧ w.cell? ⟨g, k * 11 + 3, none⟩ = some (.int .i64 n.y) ∧ w.cell? ⟨g, k * 11 + 4, none⟩ = some (.int .i64 n.w) ∧ w.cell? ⟨g, k * 11 + 5, none⟩ = some (.int .i64 n.ck) ∧ w.cell? ⟨g, k * 11 + 6, none⟩ = some (.int .i64 n.cn) ∧ w.cell? ⟨g, k * 11 + 7, none⟩ = some (.int .i64 n.ch) ∧ w.cell? ⟨g, k * 11 + 8, none⟩ = some (.int .i64 n.kd) ∧ w.cell? ⟨g, k * 11 + 9, none⟩ = some (.int .i64 n.yes) ∧ w.cell? ⟨g, k * 11 + 10, none⟩ = some (.int .i64 n.no) := by
  obtain ⟨hl, rfl⟩ := List.getElem?_eq_some_iff.1 hk
  obtain ⟨g, cap', e, _, hg⟩ := World.ownsRow.form h (by omega)
  injection e with e1 e2 e3
  subst e1
  have hc : ∀ j, j < 11 → w.cell? ⟨g, k * 11 + j, none⟩ = L[k].cells[j]? := fun j hj => by
    rw [Row.cell h _ (by have := Nat.mul_le_mul_right 11 hl; omega)]
    exact flat_get NN.cells 11 nn11 L k j hl hj
  have hlt := Row.lt h (b := g) rfl
  exact ⟨hl, g, rfl, hlt, hc 0 (by decide), hc 1 (by decide), hc 2 (by decide), hc 3 (by decide), hc 4 (by decide), hc 5 (by decide), hc 6 (by decide), hc 7 (by decide), hc 8 (by decide), hc 9 (by decide), hc 10 (by decide)⟩

theorem NRow.len {w : World} {v : Value} {s : ByteArray} {l : List Nd} (h : NRow w v (l.map (encX s))) : Row w v 91 11 l.length (nnCells (l.map (encX s))) := by
  have h' : Row w v 91 11 (l.map (encX s)).length (nnCells (l.map (encX s))) := h
  rwa [List.length_map] at h'

def nnBad (k : Nat) (n : NN) : Bool := decide ((k : Int) < n.yes) || decide ((k : Int) < n.no)

set_option maxHeartbeats 1600000 in
theorem nlinked_c (v : Value) (L : List NN) (w : World) (h : NRow w v L) (hl : L.length ≤ 1000) :
    Calls Tryz.prog 60 #[v] w fun e w' => e = .returned (.int .i64 (L.findIdx (nnBad L.length))) ∧ Kp no w w' := by
  obtain ⟨a, cap, rfl⟩ := h.shape
  go_enter Tryz.func60, Tryz.ntmps60
  go_wp2
  go_loopg [7] L.length (fun k iv wr => ∃ j : Nat, j ≤ L.length ∧ k = L.length - j ∧ iv = .int .i64 j ∧ Kp no w wr ∧ ∀ i (hi : i < L.length), i < j → nnBad L.length L[i] = false)
  case atStart => exact ⟨0, Nat.zero_le _, rfl, rfl, Kp.refl _ _, fun i _ h => by omega⟩
  case round =>
    obtain ⟨j, hj, hk, rfl, kr, hno⟩ := hrel
    have HK := hide kr
    have HNO := hide hno
    have HKK := hide hk
    clear kr hno hk
    by_cases hlt : j < L.length
    · obtain ⟨_, g, rfl, hg, q0, q1, q2, q3, q4, q5, q6, q7, q8, q9, q10⟩ := NRow.at (HK.out.row h (fun _ _ => no_elim)) (List.getElem?_eq_getElem hlt)
      have HY := hide (fun (hq : nnBad L.length L[j] = true) => show L.findIdx (nnBad L.length) = j from
        List.findIdx_eq hlt |>.2 ⟨hq, fun i hi => by simpa using HNO.out i (by omega) hi⟩)
      have hBL : Hid (nnBad L.length L[j] = (decide ((L.length : Int) < L[j].yes) || decide ((L.length : Int) < L[j].no))) := rfl
      clear h
      generalize hgn : L[j] = n at *
      have HGN := hide hgn
      clear hgn
      obtain ⟨tx, act, nx, ny, nw, ck, cn, ch, kd, yes, no⟩ := n
      dsimp only at *
      by_cases b1 : (L.length : Int) < yes
      · have HY1 := hide (HY.out (by rw [hBL.out]; simp [b1]))
        go_wp2
        go_ret
        rw [HY1.out]
        exact ⟨rfl, by have k1 := HK.out; (repeat' (first | with_reducible exact Kp.refl _ _ | with_reducible refine Kp.alloc ?_ _ | with_reducible refine Kp.drewN ?_ _ | with_reducible refine Kp.drew ?_ | with_reducible refine Kp.setCell ?_ _ ?_ | with_reducible refine Kp.trans ?_ k1 (fun _ _ e => e) | (intro hh; first | rfl | exact .inl rfl | exact .inr rfl | (exfalso; (try dsimp only at hh); omega))))⟩
      by_cases b2 : (L.length : Int) < no
      · have HY1 := hide (HY.out (by rw [hBL.out]; simp [b2]))
        have b1' : decide ((L.length : Int) < yes) = false := by simp; omega
        clear b1
        go_wp2
        go_ret
        rw [HY1.out]
        exact ⟨rfl, by have k1 := HK.out; (repeat' (first | with_reducible exact Kp.refl _ _ | with_reducible refine Kp.alloc ?_ _ | with_reducible refine Kp.drewN ?_ _ | with_reducible refine Kp.drew ?_ | with_reducible refine Kp.setCell ?_ _ ?_ | with_reducible refine Kp.trans ?_ k1 (fun _ _ e => e) | (intro hh; first | rfl | exact .inl rfl | exact .inr rfl | (exfalso; (try dsimp only at hh); omega))))⟩
      · have HN := hide (show nnBad L.length _ = false from by rw [hBL.out]; simp; omega)
        have b1' : decide ((L.length : Int) < yes) = false := by simp; omega
        have b2' : decide ((L.length : Int) < no) = false := by simp; omega
        clear b1 b2
        go_wp2
        go_roundg (L.length - (j + 1))
        case measure => have := HKK.out; omega
        case rel => exact ⟨j + 1, by omega, rfl, by go_num, by have k1 := HK.out; (repeat' (first | with_reducible exact Kp.refl _ _ | with_reducible refine Kp.alloc ?_ _ | with_reducible refine Kp.drewN ?_ _ | with_reducible refine Kp.drew ?_ | with_reducible refine Kp.setCell ?_ _ ?_ | with_reducible refine Kp.trans ?_ k1 (fun _ _ e => e) | (intro hh; first | rfl | exact .inl rfl | exact .inr rfl | (exfalso; (try dsimp only at hh); omega)))), fun i hi hij => by
          rcases Nat.lt_or_ge i j with h1 | h1
          · exact HNO.out i hi h1
          · obtain rfl : i = j := by omega
            rw [HGN.out]; exact HN.out⟩
    · have HN := hide (show L.findIdx (nnBad L.length) = L.length from by
        rw [List.findIdx_eq_length]
        intro x hx
        obtain ⟨i, hi, rfl⟩ := List.getElem_of_mem hx
        rw [HNO.out i hi (by omega)])
      go_wp2
      go_ret
      rw [HN.out]
      exact ⟨rfl, HK.out⟩

theorem findIdx_map_congr {α β : Type} (f : α → β) (q : β → Bool) (p : α → Bool) : ∀ (l : List α), (∀ n ∈ l, q (f n) = p n) → (l.map f).findIdx q = l.findIdx p
  | [], _ => rfl
  | a :: l, h => by
    rw [List.map_cons, List.findIdx_cons, List.findIdx_cons, h a (List.mem_cons_self ..), findIdx_map_congr f q p l (fun n hn => h n (List.mem_cons_of_mem _ hn))]

theorem linkAt_lt {l : List Nd} {j : Nat} (h : linkAt l = some j) : j < l.length := (List.findIdx?_eq_some_iff_getElem.1 h).1

theorem nnBad_ref {s : ByteArray} {l : List Nd} (h : ∀ n ∈ l, Gd s n) : (l.map (encX s)).findIdx (nnBad (l.map (encX s)).length) = (linkAt l).getD l.length := by
  have e : ∀ n ∈ l, nnBad l.length (encX s n) = badLink l n := by
    intro n hn
    have hg := h n hn
    show (decide ((l.length : Int) < yesN n) || decide ((l.length : Int) < noN n)) = (decide ((l.length : Int) < n.t) || decide ((l.length : Int) < n.f))
    unfold noN yesN
    by_cases h3 : n.op = 33
    · have := hg.t3 h3
      have hf := hg.g.f (by omega)
      rw [if_pos h3, if_neg (by omega), this, hf]
      have a1 : decide ((l.length : Int) < 0) = false := by simp
      have a2 : decide ((l.length : Int) < -1) = false := by simp
      rw [a1, a2]
    · rw [if_neg h3]
      by_cases ht : n.op = 121 ∨ n.op = 58
      · rw [if_pos ht]
      · rw [if_neg ht, hg.g.f ht]
        have a2 : decide ((l.length : Int) < -1) = false := by simp
        rw [a2, Bool.or_self, Bool.or_false]
  rw [List.length_map, linkAt, ← List.findIdx_eq_getD_findIdx?]
  exact findIdx_map_congr (encX s) _ _ l e

def NogPost (s : ByteArray) (w : World) (e : Ending) (w' : World) : Prop :=
  ∃ v, e = .returned (.tuple #[v, .int .i64 (graE s).1, .int .i64 (graE s).2]) ∧ Kp no w w' ∧ ((graE s).1 = 0 → NRow w' v ((graF s).nodes.map (encX s)) ∧ (∀ b, v.ownBlock = some b → w.heap.size ≤ b) ∧ ∀ n ∈ (graF s).nodes, Gd s n)

set_option maxHeartbeats 1600000 in
theorem nog_long (s : ByteArray) (w : World) (hm : s.size ≤ maxLen) (hs : 900 < s.size) :
    Calls Tryz.prog 36 #[.string s] w fun e w' => e = .returned (.tuple #[.slice none 0 0, .int .i64 1, .int .i64 0]) ∧ Kp no w w' := by
  unfold maxLen at hm
  go_enter Tryz.func36, Tryz.ntmps36
  go_wp2
  go_ret3
  exact ⟨rfl, by (repeat' (first | with_reducible exact Kp.refl _ _ | with_reducible refine Kp.alloc ?_ _ | with_reducible refine Kp.drewN ?_ _ | with_reducible refine Kp.drew ?_ | with_reducible refine Kp.setCell ?_ _ ?_ | (intro hh; first | rfl | exact .inl rfl | exact .inr rfl | (exfalso; (try dsimp only at hh); omega))))⟩

set_option maxRecDepth 100000 in
set_option maxHeartbeats 6400000 in
theorem nog_c (s : ByteArray) (w : World) (hs : s.size ≤ 900) :
    Calls Tryz.prog 36 #[.string s] w fun e w' => NogPost s w e w' := by
  obtain ⟨i0, hi0, hz0, hz1, hz2⟩ := info_parts info_nn
  go_enter Tryz.func36, Tryz.ntmps36
  go_wp2
  go_loopg [6] (s.size + 1) (fun k nv wr => ∃ st : RS, st.bad = false ∧ NR wr w.heap.size s (st.i, false) [] 81 ∧ NRow wr nv (st.nodes.map (encX s)) ∧ nv.ownBlock ≠ some w.heap.size ∧ (∀ b, nv.ownBlock = some b → w.heap.size ≤ b) ∧ Kp no w wr ∧ (∀ n ∈ st.nodes, Gd s n) ∧ st.i ≤ s.size ∧ st.nodes.length ≤ 90 ∧ s.size - st.i < k ∧ graF s = lnsF k s st)
  case atStart =>
    refine ⟨rs0, rfl, by (show Blk _ w.heap.size [.string s, .int .i64 0, .bool false] _); (repeat' (first | ((with_reducible show (_ : List Value) = _); rfl) | ((with_reducible refine Blk.newAt _ _ _ ?_); first | with_reducible rfl | (simp; done)) | with_reducible refine Blk.alloc ?_ _ | with_reducible refine Blk.drewN ?_ _ | with_reducible refine Blk.drew ?_ | ((with_reducible refine Blk.other ?_ _ ?_); rotate_left; ((try dsimp only); omega)) | with_reducible refine Blk.setB (cs0 := ?_) ?_ ?_)), ?_, by simp [Value.ownBlock], by simp [Value.ownBlock], by (repeat' (first | with_reducible exact Kp.refl _ _ | with_reducible refine Kp.alloc ?_ _ | with_reducible refine Kp.drewN ?_ _ | with_reducible refine Kp.drew ?_ | with_reducible refine Kp.setCell ?_ _ ?_ | (intro hh; first | rfl | exact .inl rfl | exact .inr rfl | (exfalso; (try dsimp only at hh); omega)))), fun n hn => by simp [rs0] at hn, Nat.zero_le _, by decide, by show s.size - 0 < _; omega, rfl⟩
    refine ⟨rfl, .inr ⟨w.heap.size + 1, 0, #[], rfl, Nat.zero_le _, ?_, Nat.le_refl _, Nat.zero_le _, rfl, rfl⟩⟩
    have hh : Blk ((w.alloc (.cells #[.string s, .int .i64 0, .bool false] 81)).alloc (.cells #[] 91)) (w.heap.size + 1) [] 91 := by (repeat' (first | ((with_reducible show (_ : List Value) = _); rfl) | ((with_reducible refine Blk.newAt _ _ _ ?_); first | with_reducible rfl | (simp; done)) | with_reducible refine Blk.alloc ?_ _ | with_reducible refine Blk.drewN ?_ _ | with_reducible refine Blk.drew ?_ | ((with_reducible refine Blk.other ?_ _ ?_); rotate_left; ((try dsimp only); omega)) | with_reducible refine Blk.setB (cs0 := ?_) ?_ ?_))
    exact hh
  case round =>
    obtain ⟨st, hb, hR, hN, hne, hown, kr, hgd, hi, hn, hk, hE⟩ := hrel
    have HE := hide hE
    have HK := hide hk
    have HKR := hide kr
    have HO := hide hown
    have HGD := hide hgd
    have HB := hide hb
    clear hE hk kr hown hgd hb
    obtain ⟨a, cap, hv⟩ := hN.shape
    rw [List.length_map] at hv
    subst hv
    have HN := hide hN
    have HNE := hide hne
    have HR := hide hR
    obtain ⟨h0, h1, h2, hf⟩ := hR.c
    have hrl := hR.lt
    clear hN hR hne
    by_cases hlt : st.i < s.size
    · obtain ⟨k, rfl⟩ : ∃ k, gk = k + 1 := ⟨gk - 1, by have := HK.out; omega⟩
      by_cases h90 : 90 ≤ st.nodes.length
      · have HG := hide (show graE s = (2, st.i) by
          have e1 : graF s = { st with bad := true } := by rw [HE.out, lnsF, if_pos ⟨HB.out, hlt⟩, if_pos h90]
          rw [graE, e1]; rfl)
        go_wp2
        go_quiet (fail)
        go_wp2
        go_ret3
        exact ⟨_, by rw [HG.out]; rfl, HKR.out.drewN _, fun e => by rw [HG.out] at e; cases e⟩
      · have HL := hide (fun W (hW : NR W w.heap.size s (st.i, false) [] 81) => nline_c w.heap.size st.i s [] 81 W (by omega) hlt hW)
        have HI := hide (lineF_inv s st hlt)
        have HLR := hide (ln_ref s st).1
        have HLG := hide (fun hb => lineF_gd s st hlt hb)
        have HRR := hide (show lnsF (k + 1) s st = lnsF k s (lineF s st) by rw [lnsF, if_pos ⟨HB.out, hlt⟩, if_neg h90])
        rw [HLR.out] at HL
        generalize lineF s st = st2 at *
        generalize lnF s (st.i, false) = lf at *
        obtain ⟨⟨tx, act, nx, ny, nw, ck, cn, ch, kd, yes, nno⟩, lp⟩ := lf
        unfold NN.cells at HL
        dsimp only at *
        cases hb2 : st2.bad
        · obtain ⟨nd, hnd, hgd, hx⟩ := HLG.out hb2
          have HND := hide hnd
          have HGN := hide hgd
          have HX := hide hx
          have HB2 := hide hb2
          rw [hb2] at HL
          clear hnd hgd hx hb2 HLG
          go_wp2_with fail
          refine (HL.out _ (by exact HR.out)).mono ?_
          rintro e w2 ⟨rfl, hR2, k2⟩
          obtain ⟨p0, p1, p2, pf⟩ := hR2.c
          have hrl2 := hR2.lt
          have hN2 : NRow w2 (.slice a st.nodes.length cap) (st.nodes.map (encX s)) := k2.row HN.out (fun b hb e => HNE.out (by rw [hb, e]))
          have HN2 := hide hN2
          have HR2 := hide hR2
          have HK2 := hide k2
          clear hN2 hR2 k2
          have hone : ∀ u ∈ [Value.string tx, .int .i64 act, .int .i64 nx, .int .i64 ny, .int .i64 nw, .int .i64 ck, .int .i64 cn, .int .i64 ch, .int .i64 kd, .int .i64 yes, .int .i64 nno], u.oneCell' = true := by simp [Value.oneCell']
          have HN3 := hide (NRow.len HN2.out)
          go_wp2_with (at_builtin; refine wpList_append_lies _ rfl (.tmp 30) (.tmp 32) 52 rfl 0 91 i0 _ 11 96 Tryz.underlying52 hi0 hz0 hz1 hz2 rfl (by decide) (.slice a st.nodes.length cap) st.nodes.length (nnCells (st.nodes.map (encX s))) (by simp [Act.eval]) (by exact (World.ownsRow.alloc (World.ownsRow.alloc HN3.out _) _)) ⟨w2.heap.size + 1, 0, none⟩ 1 1 [Value.string tx, .int .i64 act, .int .i64 nx, .int .i64 ny, .int .i64 nw, .int .i64 ck, .int .i64 cn, .int .i64 ch, .int .i64 kd, .int .i64 yes, .int .i64 nno] (by simp [Act.eval]) rfl (Blk.news (by (repeat' (first | ((with_reducible show (_ : List Value) = _); rfl) | ((with_reducible refine Blk.newAt _ _ _ ?_); first | with_reducible rfl | (simp; done)) | with_reducible refine Blk.alloc ?_ _ | with_reducible refine Blk.drewN ?_ _ | with_reducible refine Blk.drew ?_ | ((with_reducible refine Blk.other ?_ _ ?_); rotate_left; ((try dsimp only); omega)) | with_reducible refine Blk.setB (cs0 := ?_) ?_ ?_)))) hone (by decide) (by unfold maxLen; omega) (by omega) (Nat.zero_le _) _ rfl ?_; intro g cap' w' hown hgrow hat hlt')
          go_roundg k
          case measure => omega
          case rel =>
            have hR3 := HR2.out
            have e1 : st2.nodes.map (encX s) = st.nodes.map (encX s) ++ [encX s nd] := by rw [HND.out]; simp
            have kk : Kp no w w2 := HKR.out.trans HK2.out (fun x hx e => by omega)
            have ksz := kk.size
            refine ⟨st2, HB2.out, grown_blk hgrow ((Blk.alloc (Blk.alloc hR3 _) _)) HNE.out, ?_, ?_, ?_, ?_, ?_, HI.out.1, ?_, ?_, ?_⟩
            · show Row _ _ _ _ (st2.nodes.map (encX s)).length (nnCells (st2.nodes.map (encX s)))
              rw [e1, List.length_append, List.length_map, nnCells, List.flatMap_append, ← nnCells]
              have e2 : [encX s nd].flatMap NN.cells = [Value.string tx, .int .i64 act, .int .i64 nx, .int .i64 ny, .int .i64 nw, .int .i64 ck, .int .i64 cn, .int .i64 ch, .int .i64 kd, .int .i64 yes, .int .i64 nno] := by
                rw [← HX.out]; rfl
              rw [e2]
              exact hown
            · rcases hat with h | h
              · show some g ≠ _; rw [← h]; exact HNE.out
              · have : (Value.slice (some ⟨g, 0, none⟩) (st.nodes.length + 1) cap').ownBlock = some g := rfl
                rw [this]; simp at h ⊢; omega
            · intro b hb
              have hb' : g = b := by simpa [Value.ownBlock] using hb
              subst hb'
              rcases hat with h | h
              · exact HO.out _ h
              · simp at h; omega
            · exact ((kk.alloc _).alloc _).grown hgrow (fun k hk e => by have := HO.out k e; omega)
            · intro n hn
              rw [HND.out, List.mem_append, List.mem_singleton] at hn
              rcases hn with h | rfl
              · exact HGD.out n h
              · exact HGN.out
            · rw [HND.out, List.length_append, List.length_singleton]; omega
            · have := HI.out.2.2.1 HB2.out; have := HK.out; have := HI.out.1; omega
            · rw [HE.out, HRR.out]
        · have HG := hide (show graE s = (2, st2.i) by
            have e1 : graF s = st2 := by rw [HE.out, HRR.out, lns_stop k s st2 (by rw [hb2]; simp)]
            rw [graE, e1, hb2]; rfl)
          rw [hb2] at HL
          clear HLG hb2
          go_wp2_with fail
          refine (HL.out _ (by exact HR.out)).mono ?_
          rintro e w2 ⟨rfl, hR2, k2⟩
          obtain ⟨p0, p1, p2, pf⟩ := hR2.c
          have hrl2 := hR2.lt
          have HK2 := hide k2
          clear k2 hR2
          go_wp2
          go_quiet (fail)
          go_wp2
          go_ret3
          have kk : Kp no w w2 := HKR.out.trans HK2.out (fun x hx e => by omega)
          exact ⟨_, by rw [HG.out]; rfl, by (repeat' (first | with_reducible exact Kp.refl _ _ | with_reducible refine Kp.alloc ?_ _ | with_reducible refine Kp.drewN ?_ _ | with_reducible refine Kp.drew ?_ | with_reducible refine Kp.setCell ?_ _ ?_ | with_reducible refine Kp.trans ?_ kk (fun _ _ e => e) | (intro hh; first | rfl | exact .inl rfl | exact .inr rfl | (exfalso; (try dsimp only at hh); omega)))), fun e => by rw [HG.out] at e; cases e⟩
    · have HS := hide (show graF s = st by rw [HE.out, lns_stop gk s st (fun e => hlt e.2)])
      have HL := hide (nlinked_c _ _ wr HN.out (by rw [List.length_map]; omega))
      rw [nnBad_ref HGD.out] at HL
      cases hlk : linkAt st.nodes with
      | some j =>
        have HG := hide (show graE s = (3, j) by rw [graE, HS.out, HB.out, hlk]; rfl)
        have hj := linkAt_lt hlk
        rw [hlk] at HL
        clear hlk
        go_wp2_with fail
        refine HL.out.mono ?_
        rintro e w2 ⟨rfl, k2⟩
        simp only [Option.getD_some]
        go_wp2
        go_ret3
        have kk : Kp no w w2 := HKR.out.trans k2 (fun _ _ e => e)
        exact ⟨_, by rw [HG.out]; rfl, kk, fun e => by rw [HG.out] at e; cases e⟩
      | none =>
        have HG := hide (show graE s = (0, 0) by rw [graE, HS.out, HB.out, hlk]; rfl)
        rw [hlk] at HL
        clear hlk
        go_wp2_with fail
        refine HL.out.mono ?_
        rintro e w2 ⟨rfl, k2⟩
        simp only [Option.getD_none]
        go_wp2
        go_ret3
        have kk : Kp no w w2 := HKR.out.trans k2 (fun _ _ e => e)
        exact ⟨_, by rw [HG.out]; rfl, kk, fun _ => ⟨by rw [HS.out]; exact k2.row HN.out (fun _ _ => no_elim), HO.out, by rw [HS.out]; exact HGD.out⟩⟩
end Go.Proofs.YtellieabhaphhaaGreatDoor

/-
  narrow: values at work, against the answer's own.
-/
namespace Go.Proofs.YtellieabhaphhaaGreatDoor
open Go.RowKit

/-- A value, well made. -/
structure VW (u : Vl) : Prop where
  k : KOk u.k
  n0 : 0 ≤ u.n
  n1 : u.n ≤ 999
  b : u.k = 66 → u.v = 116 ∨ u.v = 102 ∨ u.v = 122
  z : u.k ≠ 66 → u.v = 0

abbrev nagg (u : Vl) : Value := .agg #[.int .i64 (bit u.k), .int .i64 u.n, .int .i64 (bit u.v)]

theorem bit_110 {k : Int} (h : KOk k) : bit k = 1 ↔ k = 110 := by
  rcases h with rfl | rfl | rfl | rfl | rfl | rfl | rfl <;> decide

theorem bit_116 {k : Int} (h : KOk k) : bit k = 2 ↔ k = 116 := by
  rcases h with rfl | rfl | rfl | rfl | rfl | rfl | rfl <;> decide
theorem bit_102 {k : Int} (h : KOk k) : bit k = 4 ↔ k = 102 := by
  rcases h with rfl | rfl | rfl | rfl | rfl | rfl | rfl <;> decide
theorem bit_122 {k : Int} (h : KOk k) : bit k = 8 ↔ k = 122 := by
  rcases h with rfl | rfl | rfl | rfl | rfl | rfl | rfl <;> decide
theorem bit_65 {k : Int} (h : KOk k) : bit k = 16 ↔ k = 65 := by
  rcases h with rfl | rfl | rfl | rfl | rfl | rfl | rfl <;> decide
theorem bit_66 {k : Int} (h : KOk k) : bit k = 32 ↔ k = 66 := by
  rcases h with rfl | rfl | rfl | rfl | rfl | rfl | rfl <;> decide
theorem bit_67 {k : Int} (h : KOk k) : bit k = 64 ↔ k = 67 := by
  rcases h with rfl | rfl | rfl | rfl | rfl | rfl | rfl <;> decide
set_option maxHeartbeats 800000 in
theorem nsumOf_c (yk yn yv wk wn wv : Int) (w : World) (h1 : 0 ≤ yn) (h2 : yn ≤ 999) (h3 : 0 ≤ wn) (h4 : wn ≤ 999) :
    Calls Tryz.prog 170 #[.agg #[.int .i64 yk, .int .i64 yn, .int .i64 yv], .agg #[.int .i64 wk, .int .i64 wn, .int .i64 wv]] w fun e w' => e = .returned (.agg #[.int .i64 1, .int .i64 ((yn + wn) % 1000), .int .i64 0]) ∧ Kp no w w' := by
  by_cases hc : 1000 ≤ yn + wn
  · have HV := hide (show (yn + wn) % 1000 = yn + wn - 1000 by omega)
    go_enter Tryz.func170, Tryz.ntmps170
    go_wp2
    refine body_agg (Tb := 89) (b := w.heap.size + 2) (cs := [.int .i64 1, .int .i64 (yn + wn - 1000), .int .i64 0]) (.inr rfl) Tryz.results170 rfl rfl (by (repeat' (first | ((with_reducible show (_ : List Value) = _); rfl) | ((with_reducible refine Blk.newAt _ _ _ ?_); first | with_reducible rfl | (simp; done)) | with_reducible refine Blk.alloc ?_ _ | with_reducible refine Blk.drewN ?_ _ | with_reducible refine Blk.drew ?_ | ((with_reducible refine Blk.other ?_ _ ?_); rotate_left; ((try dsimp only); omega)) | with_reducible refine Blk.setB (cs0 := ?_) ?_ ?_))) Tryz.underlying89 rfl (by kernel_rfl) ?_
    rw [HV.out]
    exact ⟨rfl, by (repeat' (first | with_reducible exact Kp.refl _ _ | with_reducible refine Kp.alloc ?_ _ | with_reducible refine Kp.drewN ?_ _ | with_reducible refine Kp.drew ?_ | with_reducible refine Kp.setCell ?_ _ ?_ | (intro hh; first | rfl | exact .inl rfl | exact .inr rfl | (exfalso; (try dsimp only at hh); omega))))⟩
  · have HV := hide (show (yn + wn) % 1000 = yn + wn by omega)
    go_enter Tryz.func170, Tryz.ntmps170
    go_wp2
    refine body_agg (Tb := 89) (b := w.heap.size + 2) (cs := [.int .i64 1, .int .i64 (yn + wn), .int .i64 0]) (.inr rfl) Tryz.results170 rfl rfl (by (repeat' (first | ((with_reducible show (_ : List Value) = _); rfl) | ((with_reducible refine Blk.newAt _ _ _ ?_); first | with_reducible rfl | (simp; done)) | with_reducible refine Blk.alloc ?_ _ | with_reducible refine Blk.drewN ?_ _ | with_reducible refine Blk.drew ?_ | ((with_reducible refine Blk.other ?_ _ ?_); rotate_left; ((try dsimp only); omega)) | with_reducible refine Blk.setB (cs0 := ?_) ?_ ?_))) Tryz.underlying89 rfl (by kernel_rfl) ?_
    rw [HV.out]
    exact ⟨rfl, by (repeat' (first | with_reducible exact Kp.refl _ _ | with_reducible refine Kp.alloc ?_ _ | with_reducible refine Kp.drewN ?_ _ | with_reducible refine Kp.drew ?_ | with_reducible refine Kp.setCell ?_ _ ?_ | (intro hh; first | rfl | exact .inl rfl | exact .inr rfl | (exfalso; (try dsimp only at hh); omega))))⟩

set_option maxHeartbeats 800000 in
theorem nisBelow_c (yk yn yv wk wn wv : Int) (w : World) :
    Calls Tryz.prog 171 #[.agg #[.int .i64 yk, .int .i64 yn, .int .i64 yv], .agg #[.int .i64 wk, .int .i64 wn, .int .i64 wv]] w fun e w' => e = .returned (.agg #[.int .i64 (if yn < wn then 2 else 4), .int .i64 0, .int .i64 0]) ∧ Kp no w w' := by
  by_cases hc : yn < wn
  · rw [if_pos hc]
    go_enter Tryz.func171, Tryz.ntmps171
    go_wp2
    refine body_agg (Tb := 89) (b := w.heap.size + 2) (cs := [.int .i64 2, .int .i64 0, .int .i64 0]) (.inr rfl) Tryz.results171 rfl rfl (by (repeat' (first | ((with_reducible show (_ : List Value) = _); rfl) | ((with_reducible refine Blk.newAt _ _ _ ?_); first | with_reducible rfl | (simp; done)) | with_reducible refine Blk.alloc ?_ _ | with_reducible refine Blk.drewN ?_ _ | with_reducible refine Blk.drew ?_ | ((with_reducible refine Blk.other ?_ _ ?_); rotate_left; ((try dsimp only); omega)) | with_reducible refine Blk.setB (cs0 := ?_) ?_ ?_))) Tryz.underlying89 rfl (by kernel_rfl) ?_
    exact ⟨rfl, by (repeat' (first | with_reducible exact Kp.refl _ _ | with_reducible refine Kp.alloc ?_ _ | with_reducible refine Kp.drewN ?_ _ | with_reducible refine Kp.drew ?_ | with_reducible refine Kp.setCell ?_ _ ?_ | (intro hh; first | rfl | exact .inl rfl | exact .inr rfl | (exfalso; (try dsimp only at hh); omega))))⟩
  · rw [if_neg hc]
    go_enter Tryz.func171, Tryz.ntmps171
    go_wp2
    refine body_agg (Tb := 89) (b := w.heap.size + 2) (cs := [.int .i64 4, .int .i64 0, .int .i64 0]) (.inr rfl) Tryz.results171 rfl rfl (by (repeat' (first | ((with_reducible show (_ : List Value) = _); rfl) | ((with_reducible refine Blk.newAt _ _ _ ?_); first | with_reducible rfl | (simp; done)) | with_reducible refine Blk.alloc ?_ _ | with_reducible refine Blk.drewN ?_ _ | with_reducible refine Blk.drew ?_ | ((with_reducible refine Blk.other ?_ _ ?_); rotate_left; ((try dsimp only); omega)) | with_reducible refine Blk.setB (cs0 := ?_) ?_ ?_))) Tryz.underlying89 rfl (by kernel_rfl) ?_
    exact ⟨rfl, by (repeat' (first | with_reducible exact Kp.refl _ _ | with_reducible refine Kp.alloc ?_ _ | with_reducible refine Kp.drewN ?_ _ | with_reducible refine Kp.drew ?_ | with_reducible refine Kp.setCell ?_ _ ?_ | (intro hh; first | rfl | exact .inl rfl | exact .inr rfl | (exfalso; (try dsimp only at hh); omega))))⟩

set_option maxHeartbeats 800000 in
theorem nheldBy_c (yk yn yv : Int) (w : World) :
    Calls Tryz.prog 172 #[.agg #[.int .i64 yk, .int .i64 yn, .int .i64 yv]] w fun e w' => e = .returned (.agg #[.int .i64 (if yk = 16 then 1 else yv), .int .i64 (if yk = 16 then yn else 0), .int .i64 0]) ∧ Kp no w w' := by
  by_cases hc : yk = 16
  · subst hc
    rw [if_pos rfl, if_pos rfl]
    go_enter Tryz.func172, Tryz.ntmps172
    go_wp2
    refine body_agg (Tb := 89) (b := w.heap.size + 1) (cs := [.int .i64 1, .int .i64 yn, .int .i64 0]) (.inr rfl) Tryz.results172 rfl rfl (by (repeat' (first | ((with_reducible show (_ : List Value) = _); rfl) | ((with_reducible refine Blk.newAt _ _ _ ?_); first | with_reducible rfl | (simp; done)) | with_reducible refine Blk.alloc ?_ _ | with_reducible refine Blk.drewN ?_ _ | with_reducible refine Blk.drew ?_ | ((with_reducible refine Blk.other ?_ _ ?_); rotate_left; ((try dsimp only); omega)) | with_reducible refine Blk.setB (cs0 := ?_) ?_ ?_))) Tryz.underlying89 rfl (by kernel_rfl) ?_
    exact ⟨rfl, by (repeat' (first | with_reducible exact Kp.refl _ _ | with_reducible refine Kp.alloc ?_ _ | with_reducible refine Kp.drewN ?_ _ | with_reducible refine Kp.drew ?_ | with_reducible refine Kp.setCell ?_ _ ?_ | (intro hh; first | rfl | exact .inl rfl | exact .inr rfl | (exfalso; (try dsimp only at hh); omega))))⟩
  · rw [if_neg hc, if_neg hc]
    have hc' : (yk == 16) = false := by simp [hc]
    go_enter Tryz.func172, Tryz.ntmps172
    go_wp2
    refine body_agg (Tb := 89) (b := w.heap.size + 1) (cs := [.int .i64 yv, .int .i64 0, .int .i64 0]) (.inr rfl) Tryz.results172 rfl rfl (by (repeat' (first | ((with_reducible show (_ : List Value) = _); rfl) | ((with_reducible refine Blk.newAt _ _ _ ?_); first | with_reducible rfl | (simp; done)) | with_reducible refine Blk.alloc ?_ _ | with_reducible refine Blk.drewN ?_ _ | with_reducible refine Blk.drew ?_ | ((with_reducible refine Blk.other ?_ _ ?_); rotate_left; ((try dsimp only); omega)) | with_reducible refine Blk.setB (cs0 := ?_) ?_ ?_))) Tryz.underlying89 rfl (by kernel_rfl) ?_
    exact ⟨rfl, by (repeat' (first | with_reducible exact Kp.refl _ _ | with_reducible refine Kp.alloc ?_ _ | with_reducible refine Kp.drewN ?_ _ | with_reducible refine Kp.drew ?_ | with_reducible refine Kp.setCell ?_ _ ?_ | (intro hh; first | rfl | exact .inl rfl | exact .inr rfl | (exfalso; (try dsimp only at hh); omega))))⟩

set_option maxHeartbeats 800000 in
theorem ntakenAsTrue_c (yk yn yv : Int) (w : World) :
    Calls Tryz.prog 173 #[.agg #[.int .i64 yk, .int .i64 yn, .int .i64 yv]] w fun e w' => e = .returned (.bool (yk != 4 && yk != 8 && (yk != 1 || yn != 0))) ∧ Kp no w w' := by
  by_cases h4 : yk = 4
  · subst h4
    go_enter Tryz.func173, Tryz.ntmps173
    go_wp2
    go_ret
    exact ⟨rfl, by (repeat' (first | with_reducible exact Kp.refl _ _ | with_reducible refine Kp.alloc ?_ _ | with_reducible refine Kp.drewN ?_ _ | with_reducible refine Kp.drew ?_ | with_reducible refine Kp.setCell ?_ _ ?_ | (intro hh; first | rfl | exact .inl rfl | exact .inr rfl | (exfalso; (try dsimp only at hh); omega))))⟩
  by_cases h8 : yk = 8
  · subst h8
    go_enter Tryz.func173, Tryz.ntmps173
    go_wp2
    go_ret
    exact ⟨rfl, by (repeat' (first | with_reducible exact Kp.refl _ _ | with_reducible refine Kp.alloc ?_ _ | with_reducible refine Kp.drewN ?_ _ | with_reducible refine Kp.drew ?_ | with_reducible refine Kp.setCell ?_ _ ?_ | (intro hh; first | rfl | exact .inl rfl | exact .inr rfl | (exfalso; (try dsimp only at hh); omega))))⟩
  have f4 : (yk == 4) = false := by simp [h4]
  have f8 : (yk == 8) = false := by simp [h8]
  by_cases h1 : yk = 1
  · subst h1
    have HV := hide (show ((1 : Int) != 4 && (1 : Int) != 8 && ((1 : Int) != 1 || yn != 0)) = !(yn == 0) by cases h : (yn == 0) <;> simp_all)
    go_enter Tryz.func173, Tryz.ntmps173
    go_wp2
    go_ret
    rw [HV.out]
    exact ⟨by simp [bne], by (repeat' (first | with_reducible exact Kp.refl _ _ | with_reducible refine Kp.alloc ?_ _ | with_reducible refine Kp.drewN ?_ _ | with_reducible refine Kp.drew ?_ | with_reducible refine Kp.setCell ?_ _ ?_ | (intro hh; first | rfl | exact .inl rfl | exact .inr rfl | (exfalso; (try dsimp only at hh); omega))))⟩
  · have f1 : (yk == 1) = false := by simp [h1]
    have HV := hide (show (yk != 4 && yk != 8 && (yk != 1 || yn != 0)) = true by simp [bne, f4, f8, f1])
    go_enter Tryz.func173, Tryz.ntmps173
    go_wp2
    go_ret
    rw [HV.out]
    exact ⟨rfl, by (repeat' (first | with_reducible exact Kp.refl _ _ | with_reducible refine Kp.alloc ?_ _ | with_reducible refine Kp.drewN ?_ _ | with_reducible refine Kp.drew ?_ | with_reducible refine Kp.setCell ?_ _ ?_ | (intro hh; first | rfl | exact .inl rfl | exact .inr rfl | (exfalso; (try dsimp only at hh); omega))))⟩

set_option maxHeartbeats 400000 in
theorem nplainText_c (k : Int) (h : k = 116 ∨ k = 102 ∨ k = 122 ∨ k = 67) (w : World) :
    Calls Tryz.prog 168 #[.int .i64 (bit k)] w fun e w' => e = .returned (.string (capF k)) ∧ w' = w := by
  rcases h with rfl | rfl | rfl | rfl
  all_goals
    simp only [bit, reduceIte, Int.reduceEq]
    go_enter Tryz.func168, Tryz.ntmps168
    go_wp2
    go_ret
    exact ⟨rfl, rfl⟩

set_option maxHeartbeats 800000 in
theorem nvalueText_c (v : Vl) (h : VW v) (w : World) (ht : Tab w) :
    Calls Tryz.prog 143 #[.agg #[.int .i64 (bit v.k), .int .i64 v.n, .int .i64 (bit v.v)]] w fun e w' => e = .returned (.string (spellF v)) ∧ Kp no w w' := by
  obtain ⟨vk, vn, vv⟩ := v
  obtain ⟨hk, h0, h1, hb, hz⟩ := h
  dsimp only at *
  have h1' : vn ≤ 1000 := by omega
  have hsz := itoa_size vn h0 h1'
  have HI := hide (fun W (hW : Tab W) => itoa_c vn h0 h1' W hW)
  rcases hk with rfl | rfl | rfl | rfl | rfl | rfl | rfl
  · have HV : Hid (spellF ⟨110, vn, vv⟩ = itoaB vn) := rfl
    rw [show bit 110 = 1 from rfl]
    generalize bit vv = bv
    go_enter Tryz.func143, Tryz.ntmps143
    go_wp2_with fail
    refine (HI.out _ (ht.kp (by (repeat' (first | with_reducible exact Kp.refl _ _ | with_reducible refine Kp.alloc ?_ _ | with_reducible refine Kp.drewN ?_ _ | with_reducible refine Kp.drew ?_ | with_reducible refine Kp.setCell ?_ _ ?_ | (intro hh; first | rfl | exact .inl rfl | exact .inr rfl | (exfalso; (try dsimp only at hh); omega))))) no_elim)).mono ?_
    rintro e w1 ⟨rfl, k1⟩
    go_wp2
    go_ret
    rw [HV.out]
    exact ⟨rfl, by (repeat' (first | with_reducible exact Kp.refl _ _ | with_reducible refine Kp.alloc ?_ _ | with_reducible refine Kp.drewN ?_ _ | with_reducible refine Kp.drew ?_ | with_reducible refine Kp.setCell ?_ _ ?_ | with_reducible refine Kp.trans ?_ k1 (fun _ _ e => e) | (intro hh; first | rfl | exact .inl rfl | exact .inr rfl | (exfalso; (try dsimp only at hh); omega))))⟩
  · have HV : Hid (spellF ⟨116, vn, vv⟩ = capF 116) := rfl
    have HC := hide (fun W => nplainText_c 116 (by decide) W)
    rw [show bit 116 = 2 from rfl] at *
    clear hz hb HI
    generalize capF 116 = cv at *
    generalize bit vv = bv
    go_enter Tryz.func143, Tryz.ntmps143
    go_wp2_with fail
    refine (HC.out _).mono ?_
    rintro e w1 ⟨rfl, rfl⟩
    go_wp2
    go_ret
    rw [HV.out]
    exact ⟨rfl, by (repeat' (first | with_reducible exact Kp.refl _ _ | with_reducible refine Kp.alloc ?_ _ | with_reducible refine Kp.drewN ?_ _ | with_reducible refine Kp.drew ?_ | with_reducible refine Kp.setCell ?_ _ ?_ | (intro hh; first | rfl | exact .inl rfl | exact .inr rfl | (exfalso; (try dsimp only at hh); omega))))⟩
  · have HV : Hid (spellF ⟨102, vn, vv⟩ = capF 102) := rfl
    have HC := hide (fun W => nplainText_c 102 (by decide) W)
    rw [show bit 102 = 4 from rfl] at *
    clear hz hb HI
    generalize capF 102 = cv at *
    generalize bit vv = bv
    go_enter Tryz.func143, Tryz.ntmps143
    go_wp2_with fail
    refine (HC.out _).mono ?_
    rintro e w1 ⟨rfl, rfl⟩
    go_wp2
    go_ret
    rw [HV.out]
    exact ⟨rfl, by (repeat' (first | with_reducible exact Kp.refl _ _ | with_reducible refine Kp.alloc ?_ _ | with_reducible refine Kp.drewN ?_ _ | with_reducible refine Kp.drew ?_ | with_reducible refine Kp.setCell ?_ _ ?_ | (intro hh; first | rfl | exact .inl rfl | exact .inr rfl | (exfalso; (try dsimp only at hh); omega))))⟩
  · have HV : Hid (spellF ⟨122, vn, vv⟩ = capF 122) := rfl
    have HC := hide (fun W => nplainText_c 122 (by decide) W)
    rw [show bit 122 = 8 from rfl] at *
    clear hz hb HI
    generalize capF 122 = cv at *
    generalize bit vv = bv
    go_enter Tryz.func143, Tryz.ntmps143
    go_wp2_with fail
    refine (HC.out _).mono ?_
    rintro e w1 ⟨rfl, rfl⟩
    go_wp2
    go_ret
    rw [HV.out]
    exact ⟨rfl, by (repeat' (first | with_reducible exact Kp.refl _ _ | with_reducible refine Kp.alloc ?_ _ | with_reducible refine Kp.drewN ?_ _ | with_reducible refine Kp.drew ?_ | with_reducible refine Kp.setCell ?_ _ ?_ | (intro hh; first | rfl | exact .inl rfl | exact .inr rfl | (exfalso; (try dsimp only at hh); omega))))⟩
  · have HV : Hid (spellF ⟨65, vn, vv⟩ = ⟨#[65]⟩ ++ itoaB vn) := rfl
    rw [show bit 65 = 16 from rfl]
    generalize bit vv = bv
    go_enter Tryz.func143, Tryz.ntmps143
    go_wp2_with fail
    refine (HI.out _ (ht.kp (by (repeat' (first | with_reducible exact Kp.refl _ _ | with_reducible refine Kp.alloc ?_ _ | with_reducible refine Kp.drewN ?_ _ | with_reducible refine Kp.drew ?_ | with_reducible refine Kp.setCell ?_ _ ?_ | (intro hh; first | rfl | exact .inl rfl | exact .inr rfl | (exfalso; (try dsimp only at hh); omega))))) no_elim)).mono ?_
    rintro e w1 ⟨rfl, k1⟩
    generalize itoaB vn = ib at *
    go_wp2
    go_ret
    rw [HV.out]
    exact ⟨rfl, by (repeat' (first | with_reducible exact Kp.refl _ _ | with_reducible refine Kp.alloc ?_ _ | with_reducible refine Kp.drewN ?_ _ | with_reducible refine Kp.drew ?_ | with_reducible refine Kp.setCell ?_ _ ?_ | with_reducible refine Kp.trans ?_ k1 (fun _ _ e => e) | (intro hh; first | rfl | exact .inl rfl | exact .inr rfl | (exfalso; (try dsimp only at hh); omega))))⟩
  · have HV : Hid (spellF ⟨66, vn, vv⟩ = ⟨#[66]⟩ ++ capF vv) := rfl
    have HC := hide (fun W => nplainText_c vv (by have := hb rfl; omega) W)
    have hcs := capF_size vv
    rw [show bit 66 = 32 from rfl]
    clear hz hb HI
    generalize bit vv = bv at *
    generalize capF vv = cv at *
    go_enter Tryz.func143, Tryz.ntmps143
    go_wp2_with fail
    refine (HC.out _).mono ?_
    rintro e w1 ⟨rfl, rfl⟩
    go_wp2
    go_ret
    rw [HV.out]
    exact ⟨rfl, by (repeat' (first | with_reducible exact Kp.refl _ _ | with_reducible refine Kp.alloc ?_ _ | with_reducible refine Kp.drewN ?_ _ | with_reducible refine Kp.drew ?_ | with_reducible refine Kp.setCell ?_ _ ?_ | (intro hh; first | rfl | exact .inl rfl | exact .inr rfl | (exfalso; (try dsimp only at hh); omega))))⟩
  · have HV : Hid (spellF ⟨67, vn, vv⟩ = capF 67) := rfl
    have HC := hide (fun W => nplainText_c 67 (by decide) W)
    rw [show bit 67 = 64 from rfl] at *
    clear hz hb HI
    generalize capF 67 = cv at *
    generalize bit vv = bv
    go_enter Tryz.func143, Tryz.ntmps143
    go_wp2_with fail
    refine (HC.out _).mono ?_
    rintro e w1 ⟨rfl, rfl⟩
    go_wp2
    go_ret
    rw [HV.out]
    exact ⟨rfl, by (repeat' (first | with_reducible exact Kp.refl _ _ | with_reducible refine Kp.alloc ?_ _ | with_reducible refine Kp.drewN ?_ _ | with_reducible refine Kp.drew ?_ | with_reducible refine Kp.setCell ?_ _ ?_ | (intro hh; first | rfl | exact .inl rfl | exact .inr rfl | (exfalso; (try dsimp only at hh); omega))))⟩

end Go.Proofs.YtellieabhaphhaaGreatDoor
