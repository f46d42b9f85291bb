import Derived.Test.YtellieabhaphhaaGreatDoorRows
import Derived.WalkKit
import Derived.WalkSpells
import Derived.BigQuiet
import Derived.Deep.QuietTactic
import Derived.Deep.RegionLawGrows
import Derived.Deep.RegionHeld3
import Derived.Deep.AppendLies
import Derived.Deep.Light
import Derived.Deep.Slices
import Derived.IntWalk
import Derived.ProofKit
import Derived.OpenShut
import Derived.Test.YtellieabhaphhaaGreatDoorCards
import Derived.Test.YtellieabhaphhaaGreatDoorTie
import Derived.Deep.DeepHandedRow
import Derived.Lib.LaidTab
import Derived.Deep.LoopGhost
import Derived.Shelf.Strconv.Itoa0
import Derived.Shelf.Strconv.Itoa1
import Derived.Shelf.LaysM
import Derived.Shelf.Strconv.Itoa2
import Derived.Shelf.Strconv.Itoa3
import Derived.Test.YtellieabhaphhaaGreatDoorProg
import Derived.Deep.MidRow
import Derived.Deep.WholeRow
import Derived.Deep.Cut
import Derived.OwnWalk
/-
  The base of our walks: what a block holds, what a call keeps.
-/
namespace Go.Proofs.YtellieabhaphhaaGreatDoor
open Go.RowKit

/-- Block b holds the cells cs, none of them frozen. -/
def Blk (w : World) (b : Nat) (cs : List Value) (T : TypeId) : Prop := w.heap[b]? = some (.cells cs.toArray T (0, 0))

theorem Blk.cell {w : World} {b : Nat} {cs : List Value} {T : TypeId} (h : Blk w b cs T) (o : Nat) : w.cell? ⟨b, o, none⟩ = cs[o]? := by
  rw [cell_of_row w b o cs.toArray T (0, 0) h]; simp

theorem Blk.frozen {w : World} {b : Nat} {cs : List Value} {T : TypeId} (h : Blk w b cs T) (o : Nat) : w.frozen? ⟨b, o, none⟩ = false := by
  have h' : w.heap[b]? = some (.cells cs.toArray T (0, 0)) := h
  simp [World.frozen?, h']

theorem Blk.lt {w : World} {b : Nat} {cs : List Value} {T : TypeId} (h : Blk w b cs T) : b < w.heap.size := by
  have h' : w.heap[b]? = some (.cells cs.toArray T (0, 0)) := h
  exact (Array.getElem?_eq_some_iff.1 h').1

theorem Blk.set {w : World} {b : Nat} {cs : List Value} {T : TypeId} (h : Blk w b cs T) (o : Nat) (v : Value) : Blk (w.setCell ⟨b, o, none⟩ v) b (cs.set o v) T := by
  have h' : w.heap[b]? = some (.cells cs.toArray T (0, 0)) := h
  simp [Blk, World.setCell, Array.getElem?_modify, h']

theorem Blk.setB {w : World} {b : Nat} {cs cs0 : List Value} {T : TypeId} {o : Nat} {v : Value} (h : Blk w b cs0 T) (e : cs0.set o v = cs) : Blk (w.setCell ⟨b, o, none⟩ v) b cs T := e ▸ h.set o v

theorem Blk.other {w : World} {b : Nat} {cs : List Value} {T : TypeId} (h : Blk w b cs T) {a : Addr} (v : Value) (hb : b ≠ a.block) : Blk (w.setCell a v) b cs T := by
  unfold Blk; rw [Below.heap_setCell _ _ _ _ hb]; exact h

theorem Blk.alloc {w : World} {b : Nat} {cs : List Value} {T : TypeId} (h : Blk w b cs T) (o : Obj) : Blk (w.alloc o) b cs T := by
  unfold Blk; rw [Below.heap_alloc _ _ _ h.lt]; exact h

theorem Blk.new (w : World) (cs : List Value) (T : TypeId) : Blk (w.alloc (.cells cs.toArray T)) w.heap.size cs T := heap_alloc_new w _

theorem Blk.newAt (w : World) (cs : List Value) (T : TypeId) {b : Nat} (h : b = w.heap.size) : Blk (w.alloc (.cells cs.toArray T)) b cs T := by subst h; exact heap_alloc_new w _

theorem Blk.drew {w : World} {b : Nat} {cs : List Value} {T : TypeId} (h : Blk w b cs T) : Blk w.drew b cs T := h
theorem Blk.drewN {w : World} {b : Nat} {cs : List Value} {T : TypeId} (h : Blk w b cs T) (n : Nat) : Blk (w.drewN n) b cs T := h

/-- Of what was there, only blocks in S may have turned. -/
structure Kp (S : Nat → Prop) (w w' : World) : Prop where
  os : w'.os = w.os
  tape : w'.tape = w.tape
  output : w'.output = w.output
  size : w.heap.size ≤ w'.heap.size
  block : ∀ k, k < w.heap.size → ¬ S k → w'.heap[k]? = w.heap[k]?

def no : Nat → Prop := fun _ => False

theorem Kp.refl (S : Nat → Prop) (w : World) : Kp S w w := ⟨rfl, rfl, rfl, Nat.le_refl _, fun _ _ _ => rfl⟩

/-- What comes second may turn what was not there at first, and what the first may. -/
theorem Kp.trans {S S' : Nat → Prop} {a b c : World} (h : Kp S a b) (k : Kp S' b c) (hs : ∀ x, x < a.heap.size → S' x → S x) : Kp S a c :=
  ⟨k.os.trans h.os, k.tape.trans h.tape, k.output.trans h.output, Nat.le_trans h.size k.size,
   fun i hi hn => (k.block i (Nat.lt_of_lt_of_le hi h.size) (fun e => hn (hs i hi e))).trans (h.block i hi hn)⟩

theorem Kp.mono {S S' : Nat → Prop} {a b : World} (h : Kp S a b) (hs : ∀ x, S x → S' x) : Kp S' a b :=
  ⟨h.os, h.tape, h.output, h.size, fun i hi hn => h.block i hi (fun e => hn (hs i e))⟩

theorem Kp.drew {S : Nat → Prop} {a w : World} (h : Kp S a w) : Kp S a w.drew := ⟨h.os, h.tape, h.output, h.size, h.block⟩
theorem Kp.drewN {S : Nat → Prop} {a w : World} (h : Kp S a w) (n : Nat) : Kp S a (w.drewN n) := ⟨h.os, h.tape, h.output, h.size, h.block⟩

theorem Kp.alloc {S : Nat → Prop} {a w : World} (h : Kp S a w) (o : Obj) : Kp S a (w.alloc o) :=
  h.trans (S' := no) ⟨rfl, rfl, rfl, by simp, fun k hk _ => Below.heap_alloc _ _ _ hk⟩ (fun _ _ e => e.elim)

/-- A store into a block of S, or into a new one. -/
theorem Kp.setCell {S : Nat → Prop} {a w : World} (h : Kp S a w) {p : Addr} (u : Value) (hp : p.block < a.heap.size → S p.block) : Kp S a (w.setCell p u) :=
  h.trans (S' := fun x => x = p.block) ⟨rfl, rfl, rfl, by simp [World.setCell], fun k _ hk => Below.heap_setCell _ _ _ _ hk⟩ (fun x hx e => by subst e; exact hp hx)

theorem Kp.blk {S : Nat → Prop} {w w' : World} (h : Kp S w w') {b : Nat} {cs : List Value} {T : TypeId} (k : Blk w b cs T) (hb : ¬ S b) : Blk w' b cs T := by
  unfold Blk; rw [h.block b k.lt hb]; exact k

theorem Kp.grown {S : Nat → Prop} {a w w' : World} {row : Option Nat} (h : Kp S a w) (hg : w.grownBy w' row) (hr : ∀ k, k < a.heap.size → row = some k → S k) : Kp S a w' :=
  h.trans (S' := fun x => some x = row) ⟨hg.os, hg.tape, hg.output, hg.size, fun k hk hn => hg.block k hk (fun e => hn e)⟩ (fun x hx e => hr x hx e.symm)

theorem Kp.cell {S : Nat → Prop} {w w' : World} (h : Kp S w w') {b : Nat} (hb : b < w.heap.size) (hn : ¬ S b) (o : Nat) : w'.cell? ⟨b, o, none⟩ = w.cell? ⟨b, o, none⟩ := World.cell?_of_block (w := w) (h.block b hb hn)

/-- A row of a slice: its block and what it holds. -/
abbrev Row (w : World) (v : Value) (e : TypeId) (size n : Nat) (xs : List Value) : Prop := w.ownsRow 0 e size v n xs

theorem Kp.row {S : Nat → Prop} {w w' : World} (h : Kp S w w') {v : Value} {e : TypeId} {size n : Nat} {xs : List Value} (k : Row w v e size n xs) (hb : ∀ b, v.ownBlock = some b → ¬ S b) : Row w' v e size n xs := by
  refine ⟨k.1, ?_⟩
  rcases k.2 with hn | ⟨g, cap, cur, rfl, hb', hg, rest⟩
  · exact .inl hn
  · refine .inr ⟨g, cap, cur, rfl, hb', ?_, rest⟩
    rw [h.block g (Array.getElem?_eq_some_iff.1 hg).1 (hb g rfl)]
    exact hg

theorem hide {p : Prop} (h : p) : Hid p := h

/-- Forget the world but for what is said of it. -/
theorem wp_gen {P : Program} {c : Code} {Q : Exit → Act → World → Prop} {a : Act} {W : World} (G : World → Prop) (hG : G W) (h : ∀ W', G W' → Code.wp P c Q a W') : Code.wp P c Q a W := h W hG

/-- A struct result lies in a block. -/
theorem body_agg {P : Program} {fn : Func} {R : Ending → World → Prop} {x : Exit} {a : Act} {w : World} {k T Tb b : Nat} {cs : List Value} {d : TypeDesc}
    (hx : x = .normal ∨ x = .ret) (hres : fn.results = #[.cell k T]) (ha : a.tmps.getD k undef = .pointer (some ⟨b, 0, none⟩)) (hd : a.defers = [])
    (hb : Blk w b cs Tb) (hu : P.underlying T = some d) (hd' : (match d with | .struct _ | .array _ _ => true | _ => false) = true) (hi : (P.info? T).map (·.size) = some cs.length)
    (hR : R (.returned (.agg cs.toArray)) w) : bodyPost P fn R x a w := by
  have hrun := run_loadVar_row (P := P) w b Tb T cs.toArray (0, 0) d hb hu hd' (by simpa using hi)
  have hr : (results fn a.tmps).run P w = .ok (.agg cs.toArray) w := by
    have ha' : a.tmps[k]?.getD undef = .pointer (some ⟨b, 0, none⟩) := by simpa using ha
    simp only [results, hres]
    simp [ha', asAddr, hrun]
  rcases hx with rfl | rfl <;> exact ⟨hd, _, hr, hR⟩

theorem ret_i64 {a b : Int} (h : a = b) : Ending.returned (.int .i64 a) = .returned (.int .i64 b) := by rw [h]

theorem drewN2 (w : World) (a b : Nat) : (w.drewN a).drewN b = w.drewN (a + b) := by simp [World.drewN, Nat.add_assoc]

/-- The byte at hand, or 0. -/
def pk (s : ByteArray) (i : Nat) : Nat := if h : i < s.size then (s[i]'h).toNat else 0

theorem pk_lt (s : ByteArray) (i : Nat) : pk s i < 256 := by
  unfold pk; split
  · exact UInt8.toNat_lt _
  · decide

end Go.Proofs.YtellieabhaphhaaGreatDoor

/-
  narrowref's reader: what it reads without laying anything.
-/
namespace Go.Proofs.YtellieabhaphhaaGreatDoor
open Go.RowKit

/-- The reader's block. -/
def RB (w : World) (r : Nat) (s : ByteArray) (p : Nat × Bool) (nv iv : Value) (lp : Int) : Prop :=
  Blk w r [.string s, .int .i64 p.1, .bool p.2, nv, iv, .int .i64 lp] 45

def eatF (s : ByteArray) (p : Nat × Bool) (c : Nat) : Nat × Bool := if p.2 || pk s p.1 != c then (p.1, true) else (p.1 + 1, false)

theorem RB.n {w : World} {r : Nat} {s : ByteArray} {p : Nat × Bool} {nv iv : Value} {lp : Int} (h : RB w r s p nv iv lp) (n : Nat) : RB (w.drewN n) r s p nv iv lp := h

theorem RB.bad {w : World} {r : Nat} {s : ByteArray} {p : Nat × Bool} {nv iv : Value} {lp : Int} (h : RB w r s p nv iv lp) : RB (w.setCell ⟨r, 2, none⟩ (.bool true)) r s (p.1, true) nv iv lp :=
  Blk.set h 2 (.bool true)

theorem RB.next {w : World} {r : Nat} {s : ByteArray} {p : Nat × Bool} {nv iv : Value} {lp : Int} (h : RB w r s p nv iv lp) : RB (w.setCell ⟨r, 1, none⟩ (.int .i64 (p.1 + 1))) r s (p.1 + 1, p.2) nv iv lp :=
  Blk.set h 1 (.int .i64 (p.1 + 1))

theorem Kp.set {a w : World} {r : Nat} (h : Kp (· = r) a w) (o : Nat) (v : Value) : Kp (· = r) a (w.setCell ⟨r, o, none⟩ v) := h.setCell v (fun _ => rfl)

def varF (s : ByteArray) (p : Nat × Bool) : Nat × (Nat × Bool) :=
  if p.2 || decide (pk s p.1 < 97) || decide (102 < pk s p.1) then (0, (p.1, true)) else (pk s p.1 - 97, (p.1 + 1, false))

def amF (c : Nat) (l : List UInt8) : Bool := l.any (fun u => u.toNat == c)

theorem pk_in (s : ByteArray) (i : Nat) (h : pk s i ≠ 0) : i < s.size := by
  unfold pk at h; split at h
  · assumption
  · exact absurd rfl h

theorem varF_le (s : ByteArray) (p : Nat × Bool) (h : p.1 ≤ s.size) : (varF s p).2.1 ≤ s.size := by
  unfold varF; split
  · exact h
  · rename_i h'
    have := pk_in s p.1 (by simp at h'; omega)
    show p.1 + 1 ≤ _
    omega

theorem eatF_le (s : ByteArray) (p : Nat × Bool) (c : Nat) (hc : c ≠ 0) (h : p.1 ≤ s.size) : (eatF s p c).1 ≤ s.size := by
  unfold eatF; split
  · exact h
  · rename_i h'
    have := pk_in s p.1 (by simp at h'; omega)
    show p.1 + 1 ≤ _
    omega

def kindF (s : ByteArray) (p : Nat × Bool) : Nat × (Nat × Bool) :=
  if p.2 || !amF (pk s p.1) [110, 116, 102, 122, 65, 66, 67] then (0, (p.1, true)) else (pk s p.1, (p.1 + 1, false))

theorem am_zero (l : List UInt8) (h : l.all (fun u => u.toNat != 0) = true) : amF 0 l = false := by
  simp only [amF, List.any_eq_false]
  intro x hx
  have := List.all_eq_true.1 h x hx
  simp at this ⊢
  exact this

theorem kindF_le (s : ByteArray) (p : Nat × Bool) (h : p.1 ≤ s.size) : (kindF s p).2.1 ≤ s.size := by
  unfold kindF; split
  · exact h
  · rename_i h'
    have := pk_in s p.1 (fun e => by rw [e, am_zero _ (by decide)] at h'; simp at h')
    show p.1 + 1 ≤ _
    omega

end Go.Proofs.YtellieabhaphhaaGreatDoor

/-
  narrowref's reader: nodes as they are read.
-/
namespace Go.Proofs.YtellieabhaphhaaGreatDoor
open Go.RowKit

structure Nd where
  op : Int
  x : Int
  y : Int
  v : Int
  k : Int
  t : Int
  f : Int
  a : Int
  l : Int

def Nd.cells (n : Nd) : List Value := [.int .u8 n.op, .int .i64 n.x, .int .i64 n.y, .int .i64 n.v, .int .u8 n.k, .int .i64 n.t, .int .i64 n.f, .int .i64 n.a, .int .i64 n.l]

theorem Blk.c9 {w : World} {b : Nat} {a0 a1 a2 a3 a4 a5 a6 a7 a8 : Value} {T : TypeId} (h : Blk w b [a0, a1, a2, a3, a4, a5, a6, a7, a8] T) :
    w.cell? ⟨b, 0, none⟩ = some a0 ∧ w.cell? ⟨b, 1, none⟩ = some a1 ∧ w.cell? ⟨b, 2, none⟩ = some a2 ∧ w.cell? ⟨b, 3, none⟩ = some a3 ∧ w.cell? ⟨b, 4, none⟩ = some a4 ∧
    w.cell? ⟨b, 5, none⟩ = some a5 ∧ w.cell? ⟨b, 6, none⟩ = some a6 ∧ w.cell? ⟨b, 7, none⟩ = some a7 ∧ w.cell? ⟨b, 8, none⟩ = some a8 ∧ ∀ o, w.frozen? ⟨b, o, none⟩ = false :=
  ⟨h.cell 0, h.cell 1, h.cell 2, h.cell 3, h.cell 4, h.cell 5, h.cell 6, h.cell 7, h.cell 8, h.frozen⟩

theorem RB.c6 {w : World} {r : Nat} {s : ByteArray} {p : Nat × Bool} {nv iv : Value} {lp : Int} (h : RB w r s p nv iv lp) :
    w.cell? ⟨r, 0, none⟩ = some (.string s) ∧ w.cell? ⟨r, 1, none⟩ = some (.int .i64 p.1) ∧ w.cell? ⟨r, 2, none⟩ = some (.bool p.2) ∧
    w.cell? ⟨r, 3, none⟩ = some nv ∧ w.cell? ⟨r, 4, none⟩ = some iv ∧ w.cell? ⟨r, 5, none⟩ = some (.int .i64 lp) ∧ ∀ o, w.frozen? ⟨r, o, none⟩ = false :=
  ⟨Blk.cell h 0, Blk.cell h 1, Blk.cell h 2, Blk.cell h 3, Blk.cell h 4, Blk.cell h 5, Blk.frozen h⟩

theorem RB.lt {w : World} {r : Nat} {s : ByteArray} {p : Nat × Bool} {nv iv : Value} {lp : Int} (h : RB w r s p nv iv lp) : r < w.heap.size := Blk.lt h

def valF (s : ByteArray) (i : Nat) (n : Nd) : Nd × (Nat × Bool) :=
  if 48 ≤ pk s i ∧ pk s i ≤ 57 then ({ n with op := 48, k := pk s i }, (i + 1, false))
  else if amF (pk s i) [84, 70, 90, 67, 63] then ({ n with op := pk s i }, (i + 1, false))
  else if amF (pk s i) [43, 60] then
    ({ n with op := pk s i, y := (varF s (i + 1, false)).1, v := (varF s (varF s (i + 1, false)).2).1 }, (varF s (varF s (i + 1, false)).2).2)
  else if amF (pk s i) [65, 66, 46] then ({ n with op := pk s i, y := (varF s (i + 1, false)).1 }, (varF s (i + 1, false)).2)
  else ({ n with op := 118, y := (varF s (i, false)).1 }, (varF s (i, false)).2)

theorem valF_le (s : ByteArray) (i : Nat) (n : Nd) (h : i ≤ s.size) : (valF s i n).2.1 ≤ s.size := by
  unfold valF
  repeat' split
  · have := pk_in s i (by omega); show i + 1 ≤ _; omega
  · rename_i _ h2; have := pk_in s i (fun e => by rw [e] at h2; revert h2; decide); show i + 1 ≤ _; omega
  · rename_i _ _ h2; have := pk_in s i (fun e => by rw [e] at h2; revert h2; decide)
    exact varF_le _ _ (varF_le _ _ (by show i + 1 ≤ _; omega))
  · rename_i _ _ _ h2; have := pk_in s i (fun e => by rw [e] at h2; revert h2; decide)
    exact varF_le _ _ (by show i + 1 ≤ _; omega)
  · exact varF_le _ _ h
end Go.Proofs.YtellieabhaphhaaGreatDoor

/-
  narrowref's reader: a whole node.
-/
namespace Go.Proofs.YtellieabhaphhaaGreatDoor
open Go.RowKit

def nd0 (i : Nat) : Nd := { op := 0, x := 0, y := 0, v := 0, k := 0, t := 0, f := -1, a := i, l := 0 }

def simpF (s : ByteArray) (i : Nat) : Nd × (Nat × Bool) :=
  if pk s i = 94 then ({ nd0 i with op := 94, y := (varF s (i + 1, false)).1, l := ((varF s (i + 1, false)).2.1 : Int) - i }, (varF s (i + 1, false)).2)
  else if pk s i = 33 then ({ nd0 i with op := 33, l := (i : Int) + 1 - i }, (i + 1, false))
  else if (varF s (i, false)).2.2 = false ∧ pk s (varF s (i, false)).2.1 = 126 then
    ({ nd0 i with op := 126, x := (varF s (i, false)).1, k := (kindF s ((varF s (i, false)).2.1 + 1, false)).1, l := ((kindF s ((varF s (i, false)).2.1 + 1, false)).2.1 : Int) - i }, (kindF s ((varF s (i, false)).2.1 + 1, false)).2)
  else if (eatF s (varF s (i, false)).2 61).2 = true then
    ({ nd0 i with x := (varF s (i, false)).1, l := ((eatF s (varF s (i, false)).2 61).1 : Int) - i }, eatF s (varF s (i, false)).2 61)
  else
    ({ (valF s (eatF s (varF s (i, false)).2 61).1 { nd0 i with x := (varF s (i, false)).1 }).1 with l := ((valF s (eatF s (varF s (i, false)).2 61).1 { nd0 i with x := (varF s (i, false)).1 }).2.1 : Int) - i }, (valF s (eatF s (varF s (i, false)).2 61).1 { nd0 i with x := (varF s (i, false)).1 }).2)

theorem valF_keeps (s : ByteArray) (i : Nat) (n : Nd) : (valF s i n).1.a = n.a ∧ (valF s i n).1.l = n.l ∧ (valF s i n).1.x = n.x ∧ (valF s i n).1.t = n.t ∧ (valF s i n).1.f = n.f := by
  unfold valF; repeat' split
  all_goals exact ⟨rfl, rfl, rfl, rfl, rfl⟩

theorem simpF_le (s : ByteArray) (i : Nat) (h : i ≤ s.size) : (simpF s i).2.1 ≤ s.size := by
  have hv := varF_le s (i, false) h
  have he := eatF_le s _ 61 (by decide) hv
  unfold simpF
  repeat' split
  · rename_i h1; exact varF_le _ _ (pk_in s i (by omega))
  · rename_i _ h1; exact pk_in s i (by omega)
  · rename_i _ _ h1; exact kindF_le _ _ (pk_in s _ (by omega))
  · exact he
  · exact valF_le _ _ _ he
end Go.Proofs.YtellieabhaphhaaGreatDoor

/-
  narrowref's reader: a test.
-/
namespace Go.Proofs.YtellieabhaphhaaGreatDoor
open Go.RowKit

def ty0 (i : Nat) : Nd := { op := 121, x := 0, y := 0, v := 0, k := 0, t := 0, f := 0, a := i, l := 0 }

def testF (s : ByteArray) (i : Nat) : Nd × (Nat × Bool) :=
  if (varF s (i, false)).2.2 = false ∧ pk s (varF s (i, false)).2.1 = 58 then
    ({ ty0 i with op := 58, y := (varF s (i, false)).1, k := (kindF s ((varF s (i, false)).2.1 + 1, false)).1, l := ((kindF s ((varF s (i, false)).2.1 + 1, false)).2.1 : Int) - i }, (kindF s ((varF s (i, false)).2.1 + 1, false)).2)
  else ({ ty0 i with y := (varF s (i, false)).1, l := ((varF s (i, false)).2.1 : Int) - i }, (varF s (i, false)).2)

theorem testF_le (s : ByteArray) (i : Nat) (h : i ≤ s.size) : (testF s i).2.1 ≤ s.size := by
  have hv := varF_le s (i, false) h
  unfold testF
  split
  · rename_i h1; exact kindF_le _ _ (pk_in s _ (by omega))
  · exact hv

end Go.Proofs.YtellieabhaphhaaGreatDoor

/-
  narrowref's reader: what it lays: nodes and pieces.
-/
namespace Go.Proofs.YtellieabhaphhaaGreatDoor
open Go.RowKit

structure It where
  k : Int
  n : Int
  els : Int
  en : Int

def It.cells (x : It) : List Value := [.int .u8 x.k, .int .i64 x.n, .int .i64 x.els, .int .i64 x.en]

structure RS where
  i : Nat
  bad : Bool
  nodes : List Nd
  items : List It
  loops : Nat

def nCells (l : List Nd) : List Value := l.flatMap Nd.cells
def iCells (l : List It) : List Value := l.flatMap It.cells

def Own (r : Nat) (nv iv : Value) (b : Nat) : Prop := b = r ∨ nv.ownBlock = some b ∨ iv.ownBlock = some b

/-- The reader at work: its block and its two rows; O: the blocks that are its own. -/
def Rp (w : World) (r : Nat) (s : ByteArray) (st : RS) (O : Nat → Prop) : Prop :=
  ∃ nv iv, RB w r s (st.i, st.bad) nv iv st.loops ∧ Row w nv 63 9 st.nodes.length (nCells st.nodes) ∧ Row w iv 165 4 st.items.length (iCells st.items) ∧
    nv.ownBlock ≠ some r ∧ iv.ownBlock ≠ some r ∧ (∀ b, nv.ownBlock = some b → iv.ownBlock ≠ some b) ∧ O = Own r nv iv

/-- What a call of the reader's leaves. -/
def Went (w : World) (O : Nat → Prop) (r : Nat) (s : ByteArray) (st' : RS) (w' : World) : Prop :=
  ∃ O', Rp w' r s st' O' ∧ Kp O w w' ∧ ∀ b, O' b → b < w.heap.size → O b

theorem grown_blk {w w' : World} {row : Option Nat} {b : Nat} {cs : List Value} {T : TypeId} (hg : w.grownBy w' row) (h : Blk w b cs T) (hne : row ≠ some b) : Blk w' b cs T := by
  unfold Blk; rw [hg.block b h.lt (fun e => hne e.symm)]; exact h

theorem Blk.news {w : World} {b : Nat} {cs : List Value} {T : TypeId} (h : Blk w b cs T) : ∀ j u, cs[j]? = some u → w.cell? ((⟨b, 0, none⟩ : Addr).add j) = some u := by
  have := World.news_of_block (w := w) h
  simpa using this

theorem Row.set {w : World} {v : Value} {e : TypeId} {size n : Nat} {xs : List Value} (h : Row w v e size n xs) {r o : Nat} (u : Value) (hne : v.ownBlock ≠ some r) : Row (w.setCell ⟨r, o, none⟩ u) v e size n xs :=
  ((Kp.refl (· = r) w).setCell u (fun _ => rfl)).row h (fun b hb e => hne (by rw [hb, e]))

theorem no_elim {b : Nat} : ¬ no b := fun e => e

theorem Row.lt {w : World} {v : Value} {e : TypeId} {size n : Nat} {xs : List Value} (h : Row w v e size n xs) {b : Nat} (hb : v.ownBlock = some b) : b < w.heap.size := (World.ownsRow.lt h b hb).2

end Go.Proofs.YtellieabhaphhaaGreatDoor

/-
  The laws: an error's number.
-/
namespace Go.Proofs.YtellieabhaphhaaGreatDoor
open Go.RowKit

theorem lnum_c (c : Int) (w : World) :
    Calls Tryz.prog 18 #[.int .i64 c] w fun e w' => e = .returned (.int .i64 c) ∧ w' = w := by
  go_enter Tryz.func18, Tryz.ntmps18
  go_wp2
  go_ret
  exact ⟨rfl, rfl⟩
end Go.Proofs.YtellieabhaphhaaGreatDoor

/-
  The laws: a script.
-/
namespace Go.Proofs.YtellieabhaphhaaGreatDoor
open Go.RowKit

structure OpV where
  k : Int
  b : Int
  c : Int
  s : ByteArray
  t : ByteArray
  u : ByteArray

def OpV.cells (o : OpV) : List Value := [.int .i64 o.k, .int .i64 o.b, .int .i64 o.c, .string o.s, .string o.t, .string o.u]

/-- The script, as it lies in memory. -/
def Scr (w : World) (a : Addr) (n : Nat) (O : Nat → OpV) : Prop := ∀ i, i < n → ∀ j, j < 6 → w.cell? (a.add (i * 6 + j)) = (O i).cells[j]?

theorem run_loadVar_gen {P : Program} (w : World) (a : Addr) (ty : TypeId) (cs : List Value) (d : TypeDesc) (hc : ∀ j v, cs[j]? = some v → w.cell? (a.add j) = some v)
    (hu : P.underlying ty = some d) (hd : d.isRow = true) (hi : (P.info? ty).map (·.size) = some cs.length) :
    (loadVar ty a).run P w = .ok (.agg cs.toArray) w := by
  have hl : (loadCells a cs.length).run P w = .ok cs.toArray w := run_loadCells_list (P := P) w a cs hc
  cases hq : P.info? ty with
  | none => simp [hq] at hi
  | some i =>
    have hs : i.size = cs.length := by simpa [hq] using hi
    have hagg : (isAgg ty).run P w = .ok true w := by
      unfold isAgg
      rw [Sem.run_bind, run_underlying hu w]
      cases d <;> simp_all
    simp [loadVar, Sem.run_bind, hagg, sizeOf, typeInfo, hq, hs, hl]

theorem wp_load_gen {P : Program} {op : Oper} {a : Act} {w : World} {K : Act → World → Prop} {Q : Exit → Act → World → Prop} (ty : TypeId) (x : Operand) (ho : op.op = .load ty x)
    (b : Addr) (hx : a.eval x = .pointer (some b)) (cs : List Value) (d : TypeDesc) (hc : ∀ j v, cs[j]? = some v → w.cell? (b.add j) = some v)
    (hu : P.underlying ty = some d) (hd : d.isRow = true) (hi : (P.info? ty).map (·.size) = some cs.length)
    (h : K (a.put op.dst (.agg cs.toArray)) w) : op.wp P a w K Q := by
  unfold Oper.wp execOp
  simp only [ho, hx, Instr.loadAt, Instr.sureAddr, Sem.run_bind, Sem.run_pure, Result.andThen_ok, run_loadVar_gen w b ty cs d hc hu hd hi]
  exact h

theorem wpList_load_gen {P : Program} {ops : Array Oper} {rest : List Oper} {op : Oper} {a : Act} {w : World} {Q : Exit → Act → World → Prop} (hgd : op.guard = none) (ty : TypeId) (x : Operand) (ho : op.op = .load ty x)
    (b : Addr) (hx : a.eval x = .pointer (some b)) (cs : List Value) (d : TypeDesc) (hc : ∀ j v, cs[j]? = some v → w.cell? (b.add j) = some v)
    (hu : P.underlying ty = some d) (hd : d.isRow = true) (hi : (P.info? ty).map (·.size) = some cs.length)
    (h : wpList P ops Q rest (a.put op.dst (.agg cs.toArray)) w) : wpList P ops Q (op :: rest) a w :=
  wpList_plain hgd fun _ hK => wp_load_gen ty x ho b hx cs d hc hu hd hi (hK _ _ h)

theorem add_block (a : Addr) (k : Nat) : (a.add k).block = a.block := by unfold Addr.add; split <;> rfl

theorem Scr.kp {w w' : World} {a : Addr} {n : Nat} {O : Nat → OpV} (h : Scr w a n O) (k : Kp no w w') (hab : a.block < w.heap.size) : Scr w' a n O := fun i hi j hj => by
  rw [← h i hi j hj]
  exact World.cell?_of_block (by rw [add_block]; exact k.block a.block hab no_elim)

end Go.Proofs.YtellieabhaphhaaGreatDoor

/-
  The laws: a script, as data.
-/
namespace Go.Proofs.YtellieabhaphhaaGreatDoor
open Go.ChangeShapes Go.WideShapes Go.ChangeAt Go.RowKit Go.Deep

theorem opCells : Tryz.prog.cellsOf 26 = 6 := by kernel_rfl
theorem intCells : Tryz.prog.cellsOf 3 = 1 := by kernel_rfl
theorem strCells : Tryz.prog.cellsOf 9 = 1 := by kernel_rfl

structure OpOk (o : OpV) : Prop where
  k : (Lit.int .i64 o.k).wf = true
  b : (Lit.int .i64 o.b).wf = true
  c : (Lit.int .i64 o.c).wf = true
  s : o.s.size ≤ maxLen
  t : o.t.size ≤ maxLen
  u : o.u.size ≤ maxLen

def opD {H : Type} (o : OpV) : DataW H := .agg [.lit (.int .i64 o.k), .lit (.int .i64 o.b), .lit (.int .i64 o.c), .lit (.string o.s.data.toList), .lit (.string o.t.data.toList), .lit (.string o.u.data.toList)]

set_option maxRecDepth 100000 in
theorem op_open {H : Type} {enc : TypeId × Value → H} {w : World} {base : Nat} {sp : Nat → Bool} {held : Bool} {n : Nat} {cs : List Value} {x : DataW H × List MemPlace}
    (h : DataW.trod enc Tryz.prog w base sp held n 26 cs = some x) : ∃ o : OpV, cs = o.cells ∧ x = (opD o, []) ∧ OpOk o := by
  obtain ⟨xs, m, _, rfl, hl, hxl, hf⟩ := DataW.trod_struct Tryz.underlying26 h
  rw [opCells] at hl
  match cs, hl with
  | [c0, c1, c2, c3, c4, c5], _ =>
    match xs, hxl with
    | [x0, x1, x2, x3, x4, x5], _ =>
      have h0 : DataW.trod enc Tryz.prog w base sp held m 3 (List.take (Tryz.prog.cellsOf 3) [c0, c1, c2, c3, c4, c5]) = some x0 := hf 0 _ rfl
      have h1 : DataW.trod enc Tryz.prog w base sp held m 3 (List.take (Tryz.prog.cellsOf 3) [c1, c2, c3, c4, c5]) = some x1 := hf 1 _ rfl
      have h2 : DataW.trod enc Tryz.prog w base sp held m 3 (List.take (Tryz.prog.cellsOf 3) [c2, c3, c4, c5]) = some x2 := hf 2 _ rfl
      have h3 : DataW.trod enc Tryz.prog w base sp held m 9 (List.take (Tryz.prog.cellsOf 9) [c3, c4, c5]) = some x3 := hf 3 _ rfl
      have h4 : DataW.trod enc Tryz.prog w base sp held m 9 (List.take (Tryz.prog.cellsOf 9) [c4, c5]) = some x4 := hf 4 _ rfl
      have h5 : DataW.trod enc Tryz.prog w base sp held m 9 (List.take (Tryz.prog.cellsOf 9) [c5]) = some x5 := hf 5 _ rfl
      rw [intCells] at h0 h1 h2
      rw [strCells] at h3 h4 h5
      obtain ⟨k, e0, rfl, w0⟩ := DataW.trod_int Tryz.underlying3 (show DataW.trod enc _ w base sp held m _ [c0] = some x0 from h0)
      obtain ⟨b, e1, rfl, w1⟩ := DataW.trod_int Tryz.underlying3 (show DataW.trod enc _ w base sp held m _ [c1] = some x1 from h1)
      obtain ⟨c, e2, rfl, w2⟩ := DataW.trod_int Tryz.underlying3 (show DataW.trod enc _ w base sp held m _ [c2] = some x2 from h2)
      obtain ⟨s, e3, rfl, w3⟩ := DataW.trod_string Tryz.underlying9 (show DataW.trod enc _ w base sp held m _ [c3] = some x3 from h3)
      obtain ⟨t, e4, rfl, w4⟩ := DataW.trod_string Tryz.underlying9 (show DataW.trod enc _ w base sp held m _ [c4] = some x4 from h4)
      obtain ⟨u, e5, rfl, w5⟩ := DataW.trod_string Tryz.underlying9 (show DataW.trod enc _ w base sp held m _ [c5] = some x5 from h5)
      simp only [List.cons.injEq, and_true] at e0 e1 e2 e3 e4 e5
      subst e0 e1 e2 e3 e4 e5
      exact ⟨⟨k, b, c, s, t, u⟩, rfl, rfl, ⟨w0, w1, w2, w3, w4, w5⟩⟩

set_option maxRecDepth 100000 in
theorem op_shut {H : Type} {enc : TypeId × Value → H} {w : World} {base : Nat} {sp : Nat → Bool} {held : Bool} (o : OpV) (h : OpOk o) :
    DataW.trod enc Tryz.prog w base sp held 2 26 o.cells = some (opD o, []) := by
  obtain ⟨k, b, c, s, t, u⟩ := o
  obtain ⟨h0, h1, h2, h3, h4, h5⟩ := h
  dsimp only at *
  have e0 : DataW.trod enc Tryz.prog w base sp held 1 3 [.int .i64 k] = some (.lit (.int .i64 k), []) := trod_int_mk 0 Tryz.underlying3 h0
  have e1 : DataW.trod enc Tryz.prog w base sp held 1 3 [.int .i64 b] = some (.lit (.int .i64 b), []) := trod_int_mk 0 Tryz.underlying3 h1
  have e2 : DataW.trod enc Tryz.prog w base sp held 1 3 [.int .i64 c] = some (.lit (.int .i64 c), []) := trod_int_mk 0 Tryz.underlying3 h2
  have e3 : DataW.trod enc Tryz.prog w base sp held 1 9 [.string s] = some (.lit (.string s.data.toList), []) := by simp [DataW.trod, Tryz.underlying9, h3]
  have e4 : DataW.trod enc Tryz.prog w base sp held 1 9 [.string t] = some (.lit (.string t.data.toList), []) := by simp [DataW.trod, Tryz.underlying9, h4]
  have e5 : DataW.trod enc Tryz.prog w base sp held 1 9 [.string u] = some (.lit (.string u.data.toList), []) := by simp [DataW.trod, Tryz.underlying9, h5]
  refine trod_struct_mk (xs := [(.lit (.int .i64 k), []), (.lit (.int .i64 b), []), (.lit (.int .i64 c), []), (.lit (.string s.data.toList), []), (.lit (.string t.data.toList), []), (.lit (.string u.data.toList), [])]) Tryz.underlying26 (by rw [opCells]; rfl) ?_
  simp only [OpV.cells, List.mapM_cons, List.mapM_nil, intCells, strCells, List.drop_zero, List.drop_succ_cons, List.take_succ_cons, List.take_zero, e0, e1, e2, e3, e4, e5, Option.pure_def, Option.bind_eq_bind, Option.bind_some]

end Go.Proofs.YtellieabhaphhaaGreatDoor

/-
  The laws: a script opened and shut.
-/
namespace Go.Proofs.YtellieabhaphhaaGreatDoor
open Go.ChangeShapes Go.WideShapes Go.ChangeAt Go.RowKit Go.Deep

theorem own : ownKnob Tryz.prog.godebug = none := by kernel_rfl
theorem gT : (Tryz.prog.globals[0]?).map (·.type) = some 211 := by kernel_rfl
theorem c20 : Tryz.prog.cellsOf 211 = 20 := by kernel_rfl
theorem c64 : Tryz.prog.cellsOf 205 = 1 := by kernel_rfl

/-- What the walk leaves of old memory. -/
theorem Kp.keptBut {W W' : World} (k : Kp no W W') (S : MemPlace → Prop) : W.keptBut W' S := by
  refine ⟨k.os, k.output, fun i hi => ?_⟩
  rw [k.block i hi no_elim]
  cases W.heap[i]? with
  | none => rfl
  | some o =>
    cases o with
    | cells c t fr => exact ⟨rfl, rfl, rfl, fun _ _ => rfl⟩
    | map es clock => exact .inr ⟨rfl, rfl⟩
    | _ => rfl

theorem cell_lt {W : World} {a : Addr} {v : Value} (h : W.cell? a = some v) : a.block < W.heap.size := by
  rcases Nat.lt_or_ge a.block W.heap.size with h1 | h1
  · exact h1
  · have : W.heap[a.block]? = none := by simp [h1]
    simp [World.cell?, this] at h

theorem cells_kp {W W' : World} (k : Kp no W W') {a : Addr} (ha : a.block < W.heap.size) (n : Nat) : W'.cells? 0 a n = W.cells? 0 a n := by
  have : ∀ i, W'.cell? (a.add i) = W.cell? (a.add i) := fun i => World.cell?_of_block (by rw [add_block]; exact k.block a.block ha no_elim)
  unfold World.cells?
  simp only [this]

set_option maxRecDepth 100000 in
/-- The script, opened: its steps; shut again in what the walk leaves. -/
theorem script_open {H : Type} {enc : TypeId × Value → H} {W : World} {ao : Option Addr} {len cap : Nat} {d : DataW H} {p : List MemPlace}
    (h : DataW.Trod enc Tryz.prog W 0 (fun _ => true) true 22 (.slice ao len cap) d p) :
    (len = 0 ∨ ∃ (a : Addr) (O : Nat → OpV), ao = some a ∧ len ≤ maxLen ∧ a.block < W.heap.size ∧ Scr W a len O ∧ ∀ i, i < len → OpOk (O i)) ∧
    ∀ W', Kp no W W' → ∀ sp : Nat → Bool, (∀ q ∈ p, sp q.block = true) → DataW.Trod enc Tryz.prog W' 0 sp true 22 (.slice ao len cap) d p := by
  obtain ⟨fuel, hf⟩ := h
  rcases open_slice Tryz.underlying22 hf with ⟨h1, h2⟩ | ⟨a, len', cap', m, n, D, Pl, h1, hb, hl, hm, hmm, h2, hx⟩
  · have h1' : [Value.slice ao len cap] = [.slice none 0 0] := h1
    simp only [List.cons.injEq, Value.slice.injEq, and_true] at h1'
    obtain ⟨rfl, rfl, rfl⟩ := h1'
    simp only [Prod.mk.injEq] at h2
    obtain ⟨rfl, rfl⟩ := h2
    refine ⟨.inl rfl, fun W' _ sp _ => ⟨1, ?_⟩⟩
    simp [DataW.trod, Tryz.underlying22, Value.cells]
  · have h1' : [Value.slice ao len cap] = [.slice (some a) len' cap'] := h1
    simp only [List.cons.injEq, Value.slice.injEq, and_true] at h1'
    obtain ⟨rfl, rfl, rfl⟩ := h1'
    simp only [if_true] at hmm
    subst hmm
    simp only [Prod.mk.injEq] at h2
    obtain ⟨rfl, rfl⟩ := h2
    rw [opCells] at hx
    have : Inhabited OpV := ⟨⟨0, 0, 0, (⟨#[]⟩ : ByteArray), (⟨#[]⟩ : ByteArray), (⟨#[]⟩ : ByteArray)⟩⟩
    obtain ⟨O, hO⟩ := choose_lt (α := OpV) (p := fun i o => W.cells? 0 (a.add (i * 6)) 6 = some o.cells ∧ D i = opD o ∧ Pl i = [] ∧ OpOk o) (fun i hi => by
      obtain ⟨cs', e1, e2⟩ := hx i hi
      obtain ⟨o, rfl, e3, e4⟩ := op_open e2
      simp only [Prod.mk.injEq] at e3
      exact ⟨o, e1, e3.1, e3.2, e4⟩)
    have hcell : ∀ i, i < m → ∀ j, j < 6 → W.cell? (a.add (i * 6 + j)) = (O i).cells[j]? := fun i hi j hj => by
      have := (World.cells?_some (hO i hi).1).2.2 j hj
      rw [Deep.add_add] at this
      exact this
    have hblk : 0 < m → a.block < W.heap.size := fun h0 => by
      have := hcell 0 h0 0 (by decide)
      have h2 := cell_lt (show W.cell? (a.add (0 * 6 + 0)) = some (.int .i64 (O 0).k) from this)
      rwa [add_block] at h2
    refine ⟨?_, fun W' k sp hsp => ?_⟩
    · rcases Nat.eq_zero_or_pos len with h0 | h0
      · exact .inl h0
      · exact .inr ⟨a, O, rfl, by omega, hblk (by omega), fun i hi j hj => hcell i (by omega) j hj, fun i hi => (hO i (by omega)).2.2.2⟩
    · rcases Nat.eq_zero_or_pos m with h0 | h0
      · subst h0
        obtain rfl : len = 0 := by omega
        cases hs : sp a.block with
        | true => exact shut_slice_whole Tryz.underlying22 hb (Nat.le_refl _) hm hs D Pl (fun i hi => by omega)
        | false => exact shut_slice Tryz.underlying22 hb (Nat.le_refl _) hm hs D Pl (fun i hi => by omega)
      · have hs : sp a.block = true := hsp (.cell a.block (a.off + 0)) (List.mem_append_left _ (List.mem_map.2 ⟨0, by rw [opCells]; simp; omega, rfl⟩))
        exact shut_slice_whole Tryz.underlying22 hb hl hm hs D Pl (fun i hi => by
          obtain ⟨e1, e2, e3, e4⟩ := hO i hi
          refine ⟨(O i).cells, 2, ?_, ?_⟩
          · rw [opCells, cells_kp k (by rw [add_block]; exact hblk h0)]
            exact e1
          · rw [e2, e3]; exact op_shut (O i) e4)

end Go.Proofs.YtellieabhaphhaaGreatDoor

/-
  Rows of structs: cells of an element, an element's cell set.
-/
namespace Go.Proofs.YtellieabhaphhaaGreatDoor
open Go.RowKit

theorem flat_len {α : Type} (f : α → List Value) (k : Nat) (hf : ∀ x, (f x).length = k) (l : List α) : (l.flatMap f).length = l.length * k := by
  induction l with
  | nil => simp
  | cons x l ih => simp [hf, ih, Nat.add_mul, Nat.add_comm]

theorem flat_get {α : Type} (f : α → List Value) (k : Nat) (hf : ∀ x, (f x).length = k) : ∀ (l : List α) (i j : Nat) (hi : i < l.length), j < k → (l.flatMap f)[i * k + j]? = (f l[i])[j]? := by
  intro l
  induction l with
  | nil => intro i j hi; simp at hi
  | cons x l ih =>
    intro i j hi hj
    rw [List.flatMap_cons]
    cases i with
    | zero => rw [List.getElem?_append_left (by rw [hf]; omega)]; simp
    | succ i =>
      have e : (i + 1) * k + j = (f x).length + (i * k + j) := by rw [hf, Nat.add_mul]; omega
      rw [e, List.getElem?_append_right (by omega)]
      have e2 : (f x).length + (i * k + j) - (f x).length = i * k + j := by omega
      rw [e2]
      exact ih i j (by simpa using hi) hj

theorem Row.cell {w : World} {g n cap size : Nat} {e : TypeId} {xs : List Value} (h : Row w (.slice (some ⟨g, 0, none⟩) n cap) e size n xs) (j : Nat) (hj : j < n * size) : w.cell? ⟨g, j, none⟩ = xs[j]? := by
  rcases h.2 with ⟨h0, _⟩ | ⟨g', cap', cur, hv, _, hg, hnc, _, hs, ht⟩
  · cases h0
  · simp only [Value.slice.injEq, Option.some.injEq, Addr.mk.injEq] at hv
    obtain ⟨⟨rfl, _⟩, _, rfl⟩ := hv
    rw [cell_of_row w g j cur e (0, 0) hg, ← ht, List.getElem?_take, if_pos hj]
    simp

theorem Row.frozen {w : World} {g n cap size : Nat} {e : TypeId} {xs : List Value} (h : Row w (.slice (some ⟨g, 0, none⟩) n cap) e size n xs) (j : Nat) : w.frozen? ⟨g, j, none⟩ = false := by
  rcases h.2 with ⟨h0, _⟩ | ⟨g', cap', cur, hv, _, hg, hnc, _, hs, ht⟩
  · cases h0
  · simp only [Value.slice.injEq, Option.some.injEq, Addr.mk.injEq] at hv
    obtain ⟨⟨rfl, _⟩, _, rfl⟩ := hv
    simp [World.frozen?, hg]

theorem Row.cap {w : World} {g n cap size : Nat} {e : TypeId} {xs : List Value} (h : Row w (.slice (some ⟨g, 0, none⟩) n cap) e size n xs) : n ≤ cap ∧ cap ≤ maxLen := by
  rcases h.2 with ⟨h0, _⟩ | ⟨g', cap', cur, hv, _, hg, hnc, hm, hs, ht⟩
  · cases h0
  · simp only [Value.slice.injEq, Option.some.injEq, Addr.mk.injEq] at hv
    obtain ⟨⟨rfl, _⟩, _, rfl⟩ := hv
    exact ⟨hnc, hm⟩

/-- A cell of the row is set. -/
theorem Row.setIn {w : World} {g n cap size : Nat} {e : TypeId} {xs : List Value} (h : Row w (.slice (some ⟨g, 0, none⟩) n cap) e size n xs) (j : Nat) (u : Value) :
    Row (w.setCell ⟨g, j, none⟩ u) (.slice (some ⟨g, 0, none⟩) n cap) e size n (xs.set j u) := by
  refine ⟨by rw [List.length_set]; exact h.1, ?_⟩
  rcases h.2 with ⟨h0, _⟩ | ⟨g', cap', cur, hv, hb, hg, hnc, hm, hs, ht⟩
  · cases h0
  · simp only [Value.slice.injEq, Option.some.injEq, Addr.mk.injEq] at hv
    obtain ⟨⟨rfl, _⟩, _, rfl⟩ := hv
    refine .inr ⟨g, cap, cur.setIfInBounds j u, rfl, hb, ?_, hnc, hm, by simpa using hs, ?_⟩
    · simp [World.setCell, Array.getElem?_modify, hg]
    · rw [Array.toList_setIfInBounds, ← ht, List.take_set]
end Go.Proofs.YtellieabhaphhaaGreatDoor

/-
  narrowref's reader: the ends of pieces.
-/
namespace Go.Proofs.YtellieabhaphhaaGreatDoor
open Go.RowKit

theorem nd9 (x : Nd) : x.cells.length = 9 := rfl

theorem Went.drew {w w' : World} {O : Nat → Prop} {r : Nat} {s : ByteArray} {st : RS} (h : Went w O r s st w') : Went w O r s st w'.drew :=
  let ⟨O', h1, h2, h3⟩ := h
  ⟨O', h1, h2.drew, h3⟩

end Go.Proofs.YtellieabhaphhaaGreatDoor

/-
  narrowref's reader: conditions.
-/
namespace Go.Proofs.YtellieabhaphhaaGreatDoor
open Go.RowKit

/-- From w, the reader's own blocks being O, to w', they being O'. -/
def Th (O : Nat → Prop) (w : World) (O' : Nat → Prop) (w' : World) : Prop := Kp O w w' ∧ ∀ b, O' b → b < w.heap.size → O b

theorem Th.refl (O : Nat → Prop) (w : World) : Th O w O w := ⟨Kp.refl _ _, fun _ h _ => h⟩
theorem Th.trans {O O1 O2 : Nat → Prop} {w w1 w2 : World} (h : Th O w O1 w1) (k : Th O1 w1 O2 w2) : Th O w O2 w2 :=
  ⟨h.1.trans k.1 (fun x hx e => h.2 x e hx), fun b hb hl => h.2 b (k.2 b hb (Nat.lt_of_lt_of_le hl h.1.size)) hl⟩
theorem Th.n {O O1 : Nat → Prop} {w w1 : World} (h : Th O w O1 w1) (n : Nat) : Th O w O1 (w1.drewN n) := ⟨h.1.drewN n, h.2⟩
theorem Th.drew {O O1 : Nat → Prop} {w w1 : World} (h : Th O w O1 w1) : Th O w O1 w1.drew := ⟨h.1.drew, h.2⟩
theorem Th.alloc {O O1 : Nat → Prop} {w w1 : World} (h : Th O w O1 w1) (o : Obj) : Th O w O1 (w1.alloc o) := ⟨h.1.alloc o, h.2⟩
theorem Th.set {O O1 : Nat → Prop} {w w1 : World} (h : Th O w O1 w1) {a : Addr} (v : Value) (ha : O1 a.block ∨ w.heap.size ≤ a.block) : Th O w O1 (w1.setCell a v) :=
  ⟨h.1.setCell v (fun hl => by rcases ha with ha | ha; exact h.2 _ ha hl; omega), h.2⟩
section
variable {w : World} {r : Nat} {s : ByteArray} {st : RS} {O : Nat → Prop}

theorem Rp.n (h : Rp w r s st O) (n : Nat) : Rp (w.drewN n) r s st O := h
theorem Rp.drew (h : Rp w r s st O) : Rp w.drew r s st O := h
theorem Rp.own (h : Rp w r s st O) : O r := by
  obtain ⟨nv, iv, hB, hN, hI, d1, d2, d3, rfl⟩ := h; exact .inl rfl
theorem Rp.lt (h : Rp w r s st O) : ∀ b, O b → b < w.heap.size := by
  obtain ⟨nv, iv, hB, hN, hI, d1, d2, d3, rfl⟩ := h
  rintro b (h | h | h)
  · subst h; exact hB.lt
  · exact hN.lt h
  · exact hI.lt h
theorem Rp.c (h : Rp w r s st O) : w.cell? ⟨r, 0, none⟩ = some (.string s) ∧ w.cell? ⟨r, 1, none⟩ = some (.int .i64 st.i) ∧ w.cell? ⟨r, 2, none⟩ = some (.bool st.bad) ∧
    w.cell? ⟨r, 5, none⟩ = some (.int .i64 st.loops) ∧ ∀ o, w.frozen? ⟨r, o, none⟩ = false := by
  obtain ⟨nv, iv, hB, hN, hI, d1, d2, d3, rfl⟩ := h
  exact ⟨Blk.cell hB 0, Blk.cell hB 1, Blk.cell hB 2, Blk.cell hB 5, Blk.frozen hB⟩
theorem Rp.alloc (h : Rp w r s st O) (o : Obj) : Rp (w.alloc o) r s st O := by
  obtain ⟨nv, iv, hB, hN, hI, d1, d2, d3, rfl⟩ := h
  exact ⟨nv, iv, Blk.alloc hB o, hN.alloc o, hI.alloc o, d1, d2, d3, rfl⟩
/-- A store into a block that is not the reader's. -/
theorem Rp.other (h : Rp w r s st O) {b o : Nat} (v : Value) (hb : ¬ O b) : Rp (w.setCell ⟨b, o, none⟩ v) r s st O := by
  obtain ⟨nv, iv, hB, hN, hI, d1, d2, d3, rfl⟩ := h
  exact ⟨nv, iv, Blk.other hB v (fun e => hb (.inl e.symm)), hN.set v (fun e => hb (.inr (.inl e))), hI.set v (fun e => hb (.inr (.inr e))), d1, d2, d3, rfl⟩
theorem Rp.next (h : Rp w r s st O) : Rp (w.setCell ⟨r, 1, none⟩ (.int .i64 (st.i + 1))) r s { st with i := st.i + 1 } O := by
  obtain ⟨nv, iv, hB, hN, hI, d1, d2, d3, rfl⟩ := h
  exact ⟨nv, iv, Blk.set hB 1 _, hN.set _ d1, hI.set _ d2, d1, d2, d3, rfl⟩
theorem Rp.setBad (h : Rp w r s st O) : Rp (w.setCell ⟨r, 2, none⟩ (.bool true)) r s { st with bad := true } O := by
  obtain ⟨nv, iv, hB, hN, hI, d1, d2, d3, rfl⟩ := h
  exact ⟨nv, iv, Blk.set hB 2 _, hN.set _ d1, hI.set _ d2, d1, d2, d3, rfl⟩
end

/-! The condition, as a function. -/
theorem varF_ge (s : ByteArray) (p : Nat × Bool) : p.1 ≤ (varF s p).2.1 ∧ ((varF s p).2.2 = false → p.1 < (varF s p).2.1) := by
  unfold varF; split
  · exact ⟨Nat.le_refl _, by simp⟩
  · exact ⟨Nat.le_succ _, fun _ => Nat.lt_succ_self _⟩
theorem kindF_ge (s : ByteArray) (p : Nat × Bool) : p.1 ≤ (kindF s p).2.1 ∧ ((kindF s p).2.2 = false → p.1 < (kindF s p).2.1) := by
  unfold kindF; split
  · exact ⟨Nat.le_refl _, by simp⟩
  · exact ⟨Nat.le_succ _, fun _ => Nat.lt_succ_self _⟩
theorem eatF_ge (s : ByteArray) (p : Nat × Bool) (c : Nat) : p.1 ≤ (eatF s p c).1 ∧ ((eatF s p c).2 = false → p.1 < (eatF s p c).1 ∧ p.2 = false) := by
  unfold eatF; split
  · exact ⟨Nat.le_refl _, by simp⟩
  · rename_i h; exact ⟨Nat.le_succ _, fun _ => ⟨Nat.lt_succ_self _, by simp at h; exact h.1⟩⟩
theorem testF_ge (s : ByteArray) (i : Nat) : i ≤ (testF s i).2.1 ∧ ((testF s i).2.2 = false → i < (testF s i).2.1) := by
  have h1 := varF_ge s (i, false)
  unfold testF; split
  · have h2 := kindF_ge s ((varF s (i, false)).2.1 + 1, false)
    simp only at h1 h2 ⊢
    exact ⟨by omega, fun h => by omega⟩
  · exact h1

/-- Within bounds: at most a node and a piece for each byte that has been read; one more, if it is bad. -/
structure Inv (s : ByteArray) (st : RS) : Prop where
  i : st.i ≤ s.size
  n : st.nodes.length ≤ st.i + cond st.bad 1 0
  t : st.items.length ≤ st.i + cond st.bad 1 0
  lp : st.loops ≤ st.i

/-- It has gone on. -/
structure Mono (st st' : RS) : Prop where
  i : st.i ≤ st'.i
  n : st.nodes.length ≤ st'.nodes.length
  t : st.items.length ≤ st'.items.length

theorem Mono.refl (st : RS) : Mono st st := ⟨Nat.le_refl _, Nat.le_refl _, Nat.le_refl _⟩
theorem Mono.trans {a b c : RS} (h : Mono a b) (k : Mono b c) : Mono a c := ⟨Nat.le_trans h.i k.i, Nat.le_trans h.n k.n, Nat.le_trans h.t k.t⟩

end Go.Proofs.YtellieabhaphhaaGreatDoor

/-
  narrowref's reader: statements, as functions.
-/
namespace Go.Proofs.YtellieabhaphhaaGreatDoor
open Go.RowKit

/-- What a part of the reader does to bounds. -/
structure Good (s : ByteArray) (st st' : RS) : Prop where
  inv : Inv s st'
  mono : Mono st st'
  loops : st'.loops = st.loops

theorem Good.refl {s : ByteArray} {st : RS} (h : Inv s st) : Good s st st := ⟨h, Mono.refl _, rfl⟩
theorem Good.trans {s : ByteArray} {a b c : RS} (h : Good s a b) (k : Good s b c) : Good s a c := ⟨k.inv, h.mono.trans k.mono, k.loops.trans h.loops⟩

theorem simpF_ge (s : ByteArray) (i : Nat) : i ≤ (simpF s i).2.1 ∧ ((simpF s i).2.2 = false → i < (simpF s i).2.1) := by
  have h1 := varF_ge s (i, false)
  have h2 := eatF_ge s (varF s (i, false)).2 61
  unfold simpF
  repeat' split
  · have := varF_ge s (i + 1, false); simp only at this ⊢; omega
  · simp
  · have := kindF_ge s ((varF s (i, false)).2.1 + 1, false); simp only at this h1 ⊢; omega
  · simp only at h1 h2 ⊢
    rename_i hq
    exact ⟨by omega, fun h => by rw [h] at hq; cases hq⟩
  · have h3 : (eatF s (varF s (i, false)).2 61).1 ≤ (valF s (eatF s (varF s (i, false)).2 61).1 { nd0 i with x := (varF s (i, false)).1 }).2.1 := by
      generalize (eatF s (varF s (i, false)).2 61).1 = j
      unfold valF
      have g1 := varF_ge s (j + 1, false)
      have g2 := varF_ge s (j, false)
      have g3 := varF_ge s (varF s (j + 1, false)).2
      repeat' split
      all_goals (simp only at g1 g2 g3 ⊢; omega)
    rename_i hq
    have h4 := h2.2 (by simpa using hq)
    simp only at h1 h3 h4 ⊢
    exact ⟨by omega, fun _ => by omega⟩

end Go.Proofs.YtellieabhaphhaaGreatDoor

/-
  narrowref's reader: the walk of statements, and of a source.
-/
namespace Go.Proofs.YtellieabhaphhaaGreatDoor
open Go.RowKit

def rs0 : RS := { i := 0, bad := false, nodes := [], items := [], loops := 0 }

end Go.Proofs.YtellieabhaphhaaGreatDoor

/-
  narrowref's machine: small parts.
-/
namespace Go.Proofs.YtellieabhaphhaaGreatDoor
open Go.RowKit

def capF (k : Int) : ByteArray := if k = 116 then ⟨#[84]⟩ else if k = 102 then ⟨#[70]⟩ else if k = 122 then ⟨#[90]⟩ else ⟨#[67]⟩

theorem conv2 (W : World) (k l : Int) : (convert 156 9 (.slice (some ⟨W.heap.size, 0, none⟩) 2 2)).run Tryz.prog (W.alloc (.cells #[.int .u8 k, .int .u8 l] 5)) = .ok (.string (strOfNums [k, l])) (W.alloc (.cells #[.int .u8 k, .int .u8 l] 5)) := by
  refine run_convert_bytes_arg (P := Tryz.prog) _ 156 5 Tryz.underlying156 Tryz.underlying5 W.heap.size 0 2 2 [k, l] rfl ?_ 9 Tryz.underlying9
  intro i hi
  have h := (Blk.new W [.int .u8 k, .int .u8 l] 5).cell (0 + i)
  rw [h]
  obtain rfl | rfl : i = 0 ∨ i = 1 := by omega
  · rfl
  · rfl

/-- A node's number, in two digits. -/
def twoB (n : Nat) : ByteArray := strOfNums [48 + (n : Int) / 10, 48 + (n : Int) % 10]

def takF (op : Int) : ByteArray :=
  if op = 43 ∨ op = 60 ∨ op = 65 then ⟨#[110]⟩ else if op = 66 then ⟨#[116, 102, 122]⟩ else if op = 46 then ⟨#[65, 66]⟩ else ⟨#[110, 116, 102, 122, 65, 66, 67]⟩

end Go.Proofs.YtellieabhaphhaaGreatDoor

/-
  narrowref's machine: what it holds; steps told.
-/
namespace Go.Proofs.YtellieabhaphhaaGreatDoor
open Go.RowKit

structure Vl where
  k : Int
  n : Int
  v : Int

def Vl.cells (x : Vl) : List Value := [.int .u8 x.k, .int .i64 x.n, .int .u8 x.v]
def vCells (l : List Vl) : List Value := l.flatMap Vl.cells
theorem vl3 (x : Vl) : x.cells.length = 3 := rfl

structure Mc where
  l : List Vl
  rd : Nat
  left : Nat
  tr : ByteArray
  out : ByteArray
  e : Int

/-- The machine: its block, and the row of its variables. -/
structure MB (w : World) (m lb : Nat) (inp : ByteArray) (st : Mc) : Prop where
  b : Blk w m [.slice (some ⟨lb, 0, none⟩) 6 6, .string inp, .int .i64 st.rd, .int .i64 st.left, .string st.tr, .string st.out, .int .i64 st.e] 128
  l : Blk w lb (vCells st.l) 163
  ne : m ≠ lb
  six : st.l.length = 6

def MK (m lb : Nat) (b : Nat) : Prop := b = m ∨ b = lb

section
variable {w : World} {m lb : Nat} {inp : ByteArray} {st : Mc}

theorem MB.c (h : MB w m lb inp st) : w.cell? ⟨m, 0, none⟩ = some (.slice (some ⟨lb, 0, none⟩) 6 6) ∧ w.cell? ⟨m, 1, none⟩ = some (.string inp) ∧ w.cell? ⟨m, 2, none⟩ = some (.int .i64 st.rd) ∧
    w.cell? ⟨m, 3, none⟩ = some (.int .i64 st.left) ∧ w.cell? ⟨m, 4, none⟩ = some (.string st.tr) ∧ w.cell? ⟨m, 5, none⟩ = some (.string st.out) ∧ w.cell? ⟨m, 6, none⟩ = some (.int .i64 st.e) ∧ ∀ o, w.frozen? ⟨m, o, none⟩ = false :=
  ⟨h.b.cell 0, h.b.cell 1, h.b.cell 2, h.b.cell 3, h.b.cell 4, h.b.cell 5, h.b.cell 6, h.b.frozen⟩

theorem MB.v (h : MB w m lb inp st) (i j : Nat) (hi : i < st.l.length) (hj : j < 3) : w.cell? ⟨lb, i * 3 + j, none⟩ = st.l[i].cells[j]? := by
  rw [h.l.cell]; exact flat_get Vl.cells 3 vl3 st.l i j hi hj

theorem MB.vs (h : MB w m lb inp st) (i : Nat) (hi : i < st.l.length) : w.cell? ⟨lb, i * 3, none⟩ = some (.int .u8 st.l[i].k) ∧ w.cell? ⟨lb, i * 3 + 1, none⟩ = some (.int .i64 st.l[i].n) ∧ w.cell? ⟨lb, i * 3 + 2, none⟩ = some (.int .u8 st.l[i].v) :=
  ⟨h.v i 0 hi (by decide), h.v i 1 hi (by decide), h.v i 2 hi (by decide)⟩

theorem MB.lt (h : MB w m lb inp st) : m < w.heap.size ∧ lb < w.heap.size := ⟨h.b.lt, h.l.lt⟩
theorem MB.n (h : MB w m lb inp st) (n : Nat) : MB (w.drewN n) m lb inp st := ⟨h.b, h.l, h.ne, h.six⟩
theorem MB.drew (h : MB w m lb inp st) : MB w.drew m lb inp st := ⟨h.b, h.l, h.ne, h.six⟩
theorem MB.alloc (h : MB w m lb inp st) (o : Obj) : MB (w.alloc o) m lb inp st := ⟨h.b.alloc o, h.l.alloc o, h.ne, h.six⟩
theorem MB.kp {S : Nat → Prop} {w' : World} (h : MB w m lb inp st) (k : Kp S w w') (h1 : ¬ S m) (h2 : ¬ S lb) : MB w' m lb inp st := ⟨k.blk h.b h1, k.blk h.l h2, h.ne, h.six⟩
theorem MB.other (h : MB w m lb inp st) {a : Addr} (v : Value) (h1 : a.block ≠ m) (h2 : a.block ≠ lb) : MB (w.setCell a v) m lb inp st := ⟨h.b.other v (Ne.symm h1), h.l.other v (Ne.symm h2), h.ne, h.six⟩
theorem MB.setOut (h : MB w m lb inp st) (n : ByteArray) : MB (w.setCell ⟨m, 5, none⟩ (.string n)) m lb inp { st with out := n } := ⟨h.b.set 5 _, h.l.other _ (Ne.symm h.ne), h.ne, h.six⟩
end

def kindsB (a : ByteArray) (l : List Vl) : ByteArray := l.foldl (fun a x => a ++ strOfNums [x.k]) a

theorem str1 (k : Int) : (strOfNums [k]).size = 1 := by simp [strOfNums_size]

theorem kindsB_size (a : ByteArray) (l : List Vl) : (kindsB a l).size = a.size + l.length := by
  unfold kindsB
  induction l generalizing a with
  | nil => rfl
  | cons x l ih => rw [List.foldl_cons, ih, ByteArray.size_append, str1]; simp; omega

theorem twoB_size (n : Nat) : (twoB n).size = 2 := by simp [twoB, strOfNums_size]

def toldB (n : Nat) (l : List Vl) : ByteArray := kindsB (twoB n) l

def sp : ByteArray := ⟨#[32]⟩

end Go.Proofs.YtellieabhaphhaaGreatDoor

/-
  narrowref's machine: steps, input.
-/
namespace Go.Proofs.YtellieabhaphhaaGreatDoor
open Go.RowKit

def startF (st : Mc) (n : Nat) : Mc × Bool :=
  if st.left = 0 then ({ st with e := 4 }, false) else ({ st with left := st.left - 1, tr := st.tr ++ toldB n st.l ++ sp }, true)

def inVal (c : Nat) : Vl :=
  if 48 ≤ c ∧ c ≤ 57 then ⟨110, (c : Int) - 48, 0⟩ else if c = 84 then ⟨116, 0, 0⟩ else if c = 70 then ⟨102, 0, 0⟩ else if c = 65 then ⟨65, 0, 0⟩ else if c = 66 then ⟨66, 0, 122⟩ else if c = 67 then ⟨67, 0, 0⟩ else ⟨122, 0, 0⟩

def nextF (inp : ByteArray) (st : Mc) : Vl × Mc :=
  if st.rd < inp.size then (inVal (pk inp st.rd), { st with rd := st.rd + 1 }) else (inVal 90, st)

theorem Blk.c3 {w : World} {b : Nat} {a0 a1 a2 : Value} {T : TypeId} (h : Blk w b [a0, a1, a2] T) :
    w.cell? ⟨b, 0, none⟩ = some a0 ∧ w.cell? ⟨b, 1, none⟩ = some a1 ∧ w.cell? ⟨b, 2, none⟩ = some a2 ∧ ∀ o, w.frozen? ⟨b, o, none⟩ = false :=
  ⟨h.cell 0, h.cell 1, h.cell 2, h.frozen⟩

end Go.Proofs.YtellieabhaphhaaGreatDoor

/-
  narrow: kinds, values and signs, against the answer's own.
-/
namespace Go.Proofs.YtellieabhaphhaaGreatDoor
open Go.RowKit

/-- The bit of a kind's sign. -/
def bit (k : Int) : Int := if k = 110 then 1 else if k = 116 then 2 else if k = 102 then 4 else if k = 122 then 8 else if k = 65 then 16 else if k = 66 then 32 else if k = 67 then 64 else 0

def KOk (k : Int) : Prop := k = 110 ∨ k = 116 ∨ k = 102 ∨ k = 122 ∨ k = 65 ∨ k = 66 ∨ k = 67

/-- A value as narrow holds it. -/
def Vl.nc (x : Vl) : List Value := [.int .i64 (bit x.k), .int .i64 x.n, .int .i64 (bit x.v)]

set_option maxHeartbeats 400000 in
theorem nkindSign_c (k : Int) (h : KOk k) (w : World) :
    Calls Tryz.prog 141 #[.int .i64 (bit k)] w fun e w' => e = .returned (.string (strOfNums [k])) ∧ w' = w := by
  rcases h with rfl | rfl | rfl | rfl | rfl | rfl | rfl
  all_goals
    simp only [bit, reduceIte, Int.reduceEq]
    go_enter Tryz.func141, Tryz.ntmps141
    go_wp2
    go_ret
    exact ⟨rfl, rfl⟩

set_option maxHeartbeats 800000 in
theorem nkindOfSign_c (c : Nat) (w : World) :
    Calls Tryz.prog 185 #[.int .u8 c] w fun e w' => e = .returned (.int .i64 (bit c)) ∧ w' = w := by
  by_cases h110 : c = 110
  · subst h110
    go_enter Tryz.func185, Tryz.ntmps185
    go_wp2
    go_ret
    exact ⟨rfl, rfl⟩
  by_cases h116 : c = 116
  · subst h116
    go_enter Tryz.func185, Tryz.ntmps185
    go_wp2
    go_ret
    exact ⟨rfl, rfl⟩
  by_cases h102 : c = 102
  · subst h102
    go_enter Tryz.func185, Tryz.ntmps185
    go_wp2
    go_ret
    exact ⟨rfl, rfl⟩
  by_cases h122 : c = 122
  · subst h122
    go_enter Tryz.func185, Tryz.ntmps185
    go_wp2
    go_ret
    exact ⟨rfl, rfl⟩
  by_cases h65 : c = 65
  · subst h65
    go_enter Tryz.func185, Tryz.ntmps185
    go_wp2
    go_ret
    exact ⟨rfl, rfl⟩
  by_cases h66 : c = 66
  · subst h66
    go_enter Tryz.func185, Tryz.ntmps185
    go_wp2
    go_ret
    exact ⟨rfl, rfl⟩
  by_cases h67 : c = 67
  · subst h67
    go_enter Tryz.func185, Tryz.ntmps185
    go_wp2
    go_ret
    exact ⟨rfl, rfl⟩
  have HV := hide (show bit c = 0 by unfold bit; repeat' (first | rw [if_neg (by omega)] | rfl))
  rw [HV.out]
  have f110 : ((c : Int) == 110) = false := by simp; omega
  have f116 : ((c : Int) == 116) = false := by simp; omega
  have f102 : ((c : Int) == 102) = false := by simp; omega
  have f122 : ((c : Int) == 122) = false := by simp; omega
  have f65 : ((c : Int) == 65) = false := by simp; omega
  have f66 : ((c : Int) == 66) = false := by simp; omega
  have f67 : ((c : Int) == 67) = false := by simp; omega
  go_enter Tryz.func185, Tryz.ntmps185
  go_wp2
  go_ret
  exact ⟨rfl, rfl⟩

/-- What a sign stands for in a node. -/
def conV (c : Nat) : Vl :=
  if 48 ≤ c ∧ c ≤ 57 then ⟨110, (c : Int) - 48, 0⟩ else if c = 84 then ⟨116, 0, 0⟩ else if c = 70 then ⟨102, 0, 0⟩ else if c = 90 then ⟨122, 0, 0⟩ else if c = 67 then ⟨67, 0, 0⟩ else ⟨0, 0, 0⟩

set_option maxHeartbeats 1600000 in
theorem nconstantOfSign_c (c : Nat) (hc : c < 256) (w : World) :
    Calls Tryz.prog 183 #[.int .u8 c] w fun e w' => e = .returned (.agg (conV c).nc.toArray) ∧ Kp no w w' := by
  by_cases g0 : 48 ≤ c ∧ c ≤ 57
  · have HV := hide (show (conV c).nc = [.int .i64 1, .int .i64 ((c : Int) - 48), .int .i64 0] by rw [conV, if_pos g0]; rfl)
    obtain ⟨g0, g0'⟩ := g0
    go_enter Tryz.func183, Tryz.ntmps183
    go_wp2
    refine body_agg (Tb := 89) (b := w.heap.size) (cs := [.int .i64 1, .int .i64 ((c : Int) - 48), .int .i64 0]) (.inr rfl) Tryz.results183 rfl rfl (by (repeat' (first | ((with_reducible show (_ : List Value) = _); rfl) | ((with_reducible refine Blk.newAt _ _ _ ?_); first | with_reducible rfl | (simp; done)) | with_reducible refine Blk.alloc ?_ _ | with_reducible refine Blk.drewN ?_ _ | with_reducible refine Blk.drew ?_ | ((with_reducible refine Blk.other ?_ _ ?_); rotate_left; ((try dsimp only); omega)) | with_reducible refine Blk.setB (cs0 := ?_) ?_ ?_))) Tryz.underlying89 rfl (by kernel_rfl) ?_
    rw [HV.out]
    exact ⟨rfl, by (repeat' (first | with_reducible exact Kp.refl _ _ | with_reducible refine Kp.alloc ?_ _ | with_reducible refine Kp.drewN ?_ _ | with_reducible refine Kp.drew ?_ | with_reducible refine Kp.setCell ?_ _ ?_ | (intro hh; first | rfl | exact .inl rfl | exact .inr rfl | (exfalso; (try dsimp only at hh); omega))))⟩
  have g0' : ¬ (48 ≤ (c : Int) ∧ (c : Int) ≤ 57) := by omega
  by_cases h84 : c = 84
  · subst h84
    have HV := hide (show (conV 84).nc = [.int .i64 2, .int .i64 0, .int .i64 0] by rfl)
    go_enter Tryz.func183, Tryz.ntmps183
    go_wp2
    refine body_agg (Tb := 89) (b := w.heap.size) (cs := [.int .i64 2, .int .i64 0, .int .i64 0]) (.inr rfl) Tryz.results183 rfl rfl (by (repeat' (first | ((with_reducible show (_ : List Value) = _); rfl) | ((with_reducible refine Blk.newAt _ _ _ ?_); first | with_reducible rfl | (simp; done)) | with_reducible refine Blk.alloc ?_ _ | with_reducible refine Blk.drewN ?_ _ | with_reducible refine Blk.drew ?_ | ((with_reducible refine Blk.other ?_ _ ?_); rotate_left; ((try dsimp only); omega)) | with_reducible refine Blk.setB (cs0 := ?_) ?_ ?_))) Tryz.underlying89 rfl (by kernel_rfl) ?_
    rw [HV.out]
    exact ⟨rfl, by (repeat' (first | with_reducible exact Kp.refl _ _ | with_reducible refine Kp.alloc ?_ _ | with_reducible refine Kp.drewN ?_ _ | with_reducible refine Kp.drew ?_ | with_reducible refine Kp.setCell ?_ _ ?_ | (intro hh; first | rfl | exact .inl rfl | exact .inr rfl | (exfalso; (try dsimp only at hh); omega))))⟩
  by_cases h70 : c = 70
  · subst h70
    have HV := hide (show (conV 70).nc = [.int .i64 4, .int .i64 0, .int .i64 0] by rfl)
    go_enter Tryz.func183, Tryz.ntmps183
    go_wp2
    refine body_agg (Tb := 89) (b := w.heap.size) (cs := [.int .i64 4, .int .i64 0, .int .i64 0]) (.inr rfl) Tryz.results183 rfl rfl (by (repeat' (first | ((with_reducible show (_ : List Value) = _); rfl) | ((with_reducible refine Blk.newAt _ _ _ ?_); first | with_reducible rfl | (simp; done)) | with_reducible refine Blk.alloc ?_ _ | with_reducible refine Blk.drewN ?_ _ | with_reducible refine Blk.drew ?_ | ((with_reducible refine Blk.other ?_ _ ?_); rotate_left; ((try dsimp only); omega)) | with_reducible refine Blk.setB (cs0 := ?_) ?_ ?_))) Tryz.underlying89 rfl (by kernel_rfl) ?_
    rw [HV.out]
    exact ⟨rfl, by (repeat' (first | with_reducible exact Kp.refl _ _ | with_reducible refine Kp.alloc ?_ _ | with_reducible refine Kp.drewN ?_ _ | with_reducible refine Kp.drew ?_ | with_reducible refine Kp.setCell ?_ _ ?_ | (intro hh; first | rfl | exact .inl rfl | exact .inr rfl | (exfalso; (try dsimp only at hh); omega))))⟩
  by_cases h90 : c = 90
  · subst h90
    have HV := hide (show (conV 90).nc = [.int .i64 8, .int .i64 0, .int .i64 0] by rfl)
    go_enter Tryz.func183, Tryz.ntmps183
    go_wp2
    refine body_agg (Tb := 89) (b := w.heap.size) (cs := [.int .i64 8, .int .i64 0, .int .i64 0]) (.inr rfl) Tryz.results183 rfl rfl (by (repeat' (first | ((with_reducible show (_ : List Value) = _); rfl) | ((with_reducible refine Blk.newAt _ _ _ ?_); first | with_reducible rfl | (simp; done)) | with_reducible refine Blk.alloc ?_ _ | with_reducible refine Blk.drewN ?_ _ | with_reducible refine Blk.drew ?_ | ((with_reducible refine Blk.other ?_ _ ?_); rotate_left; ((try dsimp only); omega)) | with_reducible refine Blk.setB (cs0 := ?_) ?_ ?_))) Tryz.underlying89 rfl (by kernel_rfl) ?_
    rw [HV.out]
    exact ⟨rfl, by (repeat' (first | with_reducible exact Kp.refl _ _ | with_reducible refine Kp.alloc ?_ _ | with_reducible refine Kp.drewN ?_ _ | with_reducible refine Kp.drew ?_ | with_reducible refine Kp.setCell ?_ _ ?_ | (intro hh; first | rfl | exact .inl rfl | exact .inr rfl | (exfalso; (try dsimp only at hh); omega))))⟩
  by_cases h67 : c = 67
  · subst h67
    have HV := hide (show (conV 67).nc = [.int .i64 64, .int .i64 0, .int .i64 0] by rfl)
    go_enter Tryz.func183, Tryz.ntmps183
    go_wp2
    refine body_agg (Tb := 89) (b := w.heap.size) (cs := [.int .i64 64, .int .i64 0, .int .i64 0]) (.inr rfl) Tryz.results183 rfl rfl (by (repeat' (first | ((with_reducible show (_ : List Value) = _); rfl) | ((with_reducible refine Blk.newAt _ _ _ ?_); first | with_reducible rfl | (simp; done)) | with_reducible refine Blk.alloc ?_ _ | with_reducible refine Blk.drewN ?_ _ | with_reducible refine Blk.drew ?_ | ((with_reducible refine Blk.other ?_ _ ?_); rotate_left; ((try dsimp only); omega)) | with_reducible refine Blk.setB (cs0 := ?_) ?_ ?_))) Tryz.underlying89 rfl (by kernel_rfl) ?_
    rw [HV.out]
    exact ⟨rfl, by (repeat' (first | with_reducible exact Kp.refl _ _ | with_reducible refine Kp.alloc ?_ _ | with_reducible refine Kp.drewN ?_ _ | with_reducible refine Kp.drew ?_ | with_reducible refine Kp.setCell ?_ _ ?_ | (intro hh; first | rfl | exact .inl rfl | exact .inr rfl | (exfalso; (try dsimp only at hh); omega))))⟩
  have HV := hide (show (conV c).nc = [.int .i64 0, .int .i64 0, .int .i64 0] by rw [conV, if_neg g0, if_neg h84, if_neg h70, if_neg h90, if_neg h67]; rfl)
  have f84 : ((c : Int) == 84) = false := by simp; omega
  have f70 : ((c : Int) == 70) = false := by simp; omega
  have f90 : ((c : Int) == 90) = false := by simp; omega
  have f67 : ((c : Int) == 67) = false := by simp; omega
  rcases Nat.lt_or_ge c 48 with q | q
  · go_enter Tryz.func183, Tryz.ntmps183
    go_wp2
    refine body_agg (Tb := 89) (b := w.heap.size) (cs := [.int .i64 0, .int .i64 0, .int .i64 0]) (.inr rfl) Tryz.results183 rfl rfl (by (repeat' (first | ((with_reducible show (_ : List Value) = _); rfl) | ((with_reducible refine Blk.newAt _ _ _ ?_); first | with_reducible rfl | (simp; done)) | with_reducible refine Blk.alloc ?_ _ | with_reducible refine Blk.drewN ?_ _ | with_reducible refine Blk.drew ?_ | ((with_reducible refine Blk.other ?_ _ ?_); rotate_left; ((try dsimp only); omega)) | with_reducible refine Blk.setB (cs0 := ?_) ?_ ?_))) Tryz.underlying89 rfl (by kernel_rfl) ?_
    rw [HV.out]
    exact ⟨rfl, by (repeat' (first | with_reducible exact Kp.refl _ _ | with_reducible refine Kp.alloc ?_ _ | with_reducible refine Kp.drewN ?_ _ | with_reducible refine Kp.drew ?_ | with_reducible refine Kp.setCell ?_ _ ?_ | (intro hh; first | rfl | exact .inl rfl | exact .inr rfl | (exfalso; (try dsimp only at hh); omega))))⟩
  · go_enter Tryz.func183, Tryz.ntmps183
    go_wp2
    refine body_agg (Tb := 89) (b := w.heap.size) (cs := [.int .i64 0, .int .i64 0, .int .i64 0]) (.inr rfl) Tryz.results183 rfl rfl (by (repeat' (first | ((with_reducible show (_ : List Value) = _); rfl) | ((with_reducible refine Blk.newAt _ _ _ ?_); first | with_reducible rfl | (simp; done)) | with_reducible refine Blk.alloc ?_ _ | with_reducible refine Blk.drewN ?_ _ | with_reducible refine Blk.drew ?_ | ((with_reducible refine Blk.other ?_ _ ?_); rotate_left; ((try dsimp only); omega)) | with_reducible refine Blk.setB (cs0 := ?_) ?_ ?_))) Tryz.underlying89 rfl (by kernel_rfl) ?_
    rw [HV.out]
    exact ⟨rfl, by (repeat' (first | with_reducible exact Kp.refl _ _ | with_reducible refine Kp.alloc ?_ _ | with_reducible refine Kp.drewN ?_ _ | with_reducible refine Kp.drew ?_ | with_reducible refine Kp.setCell ?_ _ ?_ | (intro hh; first | rfl | exact .inl rfl | exact .inr rfl | (exfalso; (try dsimp only at hh); omega))))⟩

theorem bit_con (c : Nat) : bit (conV c).k = 0 ↔ ¬ ((48 ≤ c ∧ c ≤ 57) ∨ c = 84 ∨ c = 70 ∨ c = 90 ∨ c = 67) := by
  unfold conV; repeat' split
  all_goals simp [bit]
  all_goals omega

theorem inVal_con (c : Nat) (h : bit (conV c).k ≠ 0) : inVal c = conV c := by
  have h' := mt (bit_con c).2 h
  unfold inVal conV
  repeat' split
  all_goals first | rfl | (exfalso; omega)

theorem inVal_nul (c : Nat) (h : bit (conV c).k = 0) (h1 : c ≠ 65) (h2 : c ≠ 66) : inVal c = ⟨122, 0, 0⟩ := by
  have h' := (bit_con c).1 h
  unfold inVal
  repeat' split
  all_goals first | rfl | (exfalso; omega)

set_option maxHeartbeats 1600000 in
theorem ninputValue_c (c : Nat) (hc : c < 256) (w : World) :
    Calls Tryz.prog 169 #[.int .u8 c] w fun e w' => e = .returned (.agg (inVal c).nc.toArray) ∧ Kp no w w' := by
  by_cases h65 : c = 65
  · subst h65
    have HV := hide (show (inVal 65).nc = [.int .i64 16, .int .i64 0, .int .i64 0] by rfl)
    go_enter Tryz.func169, Tryz.ntmps169
    go_wp2
    refine body_agg (Tb := 89) (b := w.heap.size) (cs := [.int .i64 16, .int .i64 0, .int .i64 0]) (.inr rfl) Tryz.results169 rfl rfl (by (repeat' (first | ((with_reducible show (_ : List Value) = _); rfl) | ((with_reducible refine Blk.newAt _ _ _ ?_); first | with_reducible rfl | (simp; done)) | with_reducible refine Blk.alloc ?_ _ | with_reducible refine Blk.drewN ?_ _ | with_reducible refine Blk.drew ?_ | ((with_reducible refine Blk.other ?_ _ ?_); rotate_left; ((try dsimp only); omega)) | with_reducible refine Blk.setB (cs0 := ?_) ?_ ?_))) Tryz.underlying89 rfl (by kernel_rfl) ?_
    rw [HV.out]
    exact ⟨rfl, by (repeat' (first | with_reducible exact Kp.refl _ _ | with_reducible refine Kp.alloc ?_ _ | with_reducible refine Kp.drewN ?_ _ | with_reducible refine Kp.drew ?_ | with_reducible refine Kp.setCell ?_ _ ?_ | (intro hh; first | rfl | exact .inl rfl | exact .inr rfl | (exfalso; (try dsimp only at hh); omega))))⟩
  by_cases h66 : c = 66
  · subst h66
    have HV := hide (show (inVal 66).nc = [.int .i64 32, .int .i64 0, .int .i64 8] by rfl)
    go_enter Tryz.func169, Tryz.ntmps169
    go_wp2
    refine body_agg (Tb := 89) (b := w.heap.size) (cs := [.int .i64 32, .int .i64 0, .int .i64 8]) (.inr rfl) Tryz.results169 rfl rfl (by (repeat' (first | ((with_reducible show (_ : List Value) = _); rfl) | ((with_reducible refine Blk.newAt _ _ _ ?_); first | with_reducible rfl | (simp; done)) | with_reducible refine Blk.alloc ?_ _ | with_reducible refine Blk.drewN ?_ _ | with_reducible refine Blk.drew ?_ | ((with_reducible refine Blk.other ?_ _ ?_); rotate_left; ((try dsimp only); omega)) | with_reducible refine Blk.setB (cs0 := ?_) ?_ ?_))) Tryz.underlying89 rfl (by kernel_rfl) ?_
    rw [HV.out]
    exact ⟨rfl, by (repeat' (first | with_reducible exact Kp.refl _ _ | with_reducible refine Kp.alloc ?_ _ | with_reducible refine Kp.drewN ?_ _ | with_reducible refine Kp.drew ?_ | with_reducible refine Kp.setCell ?_ _ ?_ | (intro hh; first | rfl | exact .inl rfl | exact .inr rfl | (exfalso; (try dsimp only at hh); omega))))⟩
  have f65 : ((c : Int) == 65) = false := by simp; omega
  have f66 : ((c : Int) == 66) = false := by simp; omega
  have HC := hide (fun W => nconstantOfSign_c c hc W)
  by_cases hb : bit (conV c).k = 0
  · have HV := hide (show (inVal c).nc = [.int .i64 8, .int .i64 0, .int .i64 0] by rw [inVal_nul c hb h65 h66]; rfl)
    unfold Vl.nc at HC
    rw [hb] at HC
    generalize (conV c).n = cn at HC
    generalize bit (conV c).v = cv at HC
    go_enter Tryz.func169, Tryz.ntmps169
    go_wp2_with fail
    refine (HC.out _).mono ?_
    rintro e w1 ⟨rfl, k1⟩
    have hR : Blk w1 w.heap.size [.int .i64 0, .int .i64 0, .int .i64 0] 89 := k1.blk (by (repeat' (first | ((with_reducible show (_ : List Value) = _); rfl) | ((with_reducible refine Blk.newAt _ _ _ ?_); first | with_reducible rfl | (simp; done)) | with_reducible refine Blk.alloc ?_ _ | with_reducible refine Blk.drewN ?_ _ | with_reducible refine Blk.drew ?_ | ((with_reducible refine Blk.other ?_ _ ?_); rotate_left; ((try dsimp only); omega)) | with_reducible refine Blk.setB (cs0 := ?_) ?_ ?_))) no_elim
    have hz := hR.lt
    obtain ⟨z0, z1, z2, zf⟩ := hR.c3
    go_wp2
    refine body_agg (Tb := 89) (b := w.heap.size) (cs := [.int .i64 8, .int .i64 0, .int .i64 0]) (.inr rfl) Tryz.results169 rfl rfl (by (repeat' (first | ((with_reducible show (_ : List Value) = _); rfl) | with_reducible exact hR | ((with_reducible refine Blk.newAt _ _ _ ?_); first | with_reducible rfl | (simp; done)) | with_reducible refine Blk.alloc ?_ _ | with_reducible refine Blk.drewN ?_ _ | with_reducible refine Blk.drew ?_ | ((with_reducible refine Blk.other ?_ _ ?_); rotate_left; ((try dsimp only); omega)) | with_reducible refine Blk.setB (cs0 := ?_) ?_ ?_))) Tryz.underlying89 rfl (by kernel_rfl) ?_
    rw [HV.out]
    exact ⟨rfl, by (repeat' (first | with_reducible exact Kp.refl _ _ | with_reducible refine Kp.alloc ?_ _ | with_reducible refine Kp.drewN ?_ _ | with_reducible refine Kp.drew ?_ | with_reducible refine Kp.setCell ?_ _ ?_ | with_reducible refine Kp.trans ?_ k1 (fun _ _ e => e) | (intro hh; first | rfl | exact .inl rfl | exact .inr rfl | (exfalso; (try dsimp only at hh); omega))))⟩
  · have HV := hide (show (inVal c).nc = [.int .i64 (bit (conV c).k), .int .i64 (conV c).n, .int .i64 (bit (conV c).v)] by rw [inVal_con c hb]; rfl)
    unfold Vl.nc at HC
    have hb' : (bit (conV c).k == 0) = false := by simp [hb]
    generalize bit (conV c).k = ck at *
    generalize (conV c).n = cn at *
    generalize bit (conV c).v = cv at *
    go_enter Tryz.func169, Tryz.ntmps169
    go_wp2_with fail
    refine (HC.out _).mono ?_
    rintro e w1 ⟨rfl, k1⟩
    have hR : Blk w1 w.heap.size [.int .i64 0, .int .i64 0, .int .i64 0] 89 := k1.blk (by (repeat' (first | ((with_reducible show (_ : List Value) = _); rfl) | ((with_reducible refine Blk.newAt _ _ _ ?_); first | with_reducible rfl | (simp; done)) | with_reducible refine Blk.alloc ?_ _ | with_reducible refine Blk.drewN ?_ _ | with_reducible refine Blk.drew ?_ | ((with_reducible refine Blk.other ?_ _ ?_); rotate_left; ((try dsimp only); omega)) | with_reducible refine Blk.setB (cs0 := ?_) ?_ ?_))) no_elim
    have hz := hR.lt
    obtain ⟨z0, z1, z2, zf⟩ := hR.c3
    go_wp2
    refine body_agg (Tb := 89) (b := w.heap.size) (cs := [.int .i64 ck, .int .i64 cn, .int .i64 cv]) (.inr rfl) Tryz.results169 rfl rfl (by (repeat' (first | ((with_reducible show (_ : List Value) = _); rfl) | with_reducible exact hR | ((with_reducible refine Blk.newAt _ _ _ ?_); first | with_reducible rfl | (simp; done)) | with_reducible refine Blk.alloc ?_ _ | with_reducible refine Blk.drewN ?_ _ | with_reducible refine Blk.drew ?_ | ((with_reducible refine Blk.other ?_ _ ?_); rotate_left; ((try dsimp only); omega)) | with_reducible refine Blk.setB (cs0 := ?_) ?_ ?_))) Tryz.underlying89 rfl (by kernel_rfl) ?_
    rw [HV.out]
    exact ⟨rfl, by (repeat' (first | with_reducible exact Kp.refl _ _ | with_reducible refine Kp.alloc ?_ _ | with_reducible refine Kp.drewN ?_ _ | with_reducible refine Kp.drew ?_ | with_reducible refine Kp.setCell ?_ _ ?_ | with_reducible refine Kp.trans ?_ k1 (fun _ _ e => e) | (intro hh; first | rfl | exact .inl rfl | exact .inr rfl | (exfalso; (try dsimp only at hh); omega))))⟩

end Go.Proofs.YtellieabhaphhaaGreatDoor

/-
  narrowref's reader: a line of a graph.
-/
namespace Go.Proofs.YtellieabhaphhaaGreatDoor
open Go.RowKit

def digF (s : ByteArray) (p : Nat × Bool) : Nat × (Nat × Bool) :=
  if p.2 || decide (pk s p.1 < 48) || decide (57 < pk s p.1) then (0, (p.1, true)) else (pk s p.1 - 48, (p.1 + 1, false))

theorem digF_lt (s : ByteArray) (p : Nat × Bool) : (digF s p).1 < 10 := by
  unfold digF; split
  · show (0 : Nat) < 10; decide
  · rename_i h; simp at h; show pk s p.1 - 48 < 10; omega

theorem digF_le (s : ByteArray) (p : Nat × Bool) (h : p.1 ≤ s.size) : (digF s p).2.1 ≤ s.size := by
  unfold digF; split
  · exact h
  · rename_i h'
    have := pk_in s p.1 (by simp at h'; omega)
    show p.1 + 1 ≤ _
    omega

theorem digF_ge (s : ByteArray) (p : Nat × Bool) : p.1 ≤ (digF s p).2.1 ∧ ((digF s p).2.2 = false → p.1 < (digF s p).2.1 ∧ p.2 = false) := by
  unfold digF; split
  · exact ⟨Nat.le_refl _, by simp⟩
  · rename_i h; exact ⟨Nat.le_succ _, fun _ => ⟨Nat.lt_succ_self _, by simp at h; exact h.1.1⟩⟩

def wayF (s : ByteArray) (p : Nat × Bool) : Nat × (Nat × Bool) :=
  (10 * (digF s (eatF s p 44)).1 + (digF s (digF s (eatF s p 44)).2).1, (digF s (digF s (eatF s p 44)).2).2)

theorem wayF_lt (s : ByteArray) (p : Nat × Bool) : (wayF s p).1 < 100 := by
  have h1 := digF_lt s (eatF s p 44); have h2 := digF_lt s (digF s (eatF s p 44)).2
  show 10 * _ + _ < 100; omega

theorem wayF_le (s : ByteArray) (p : Nat × Bool) (h : p.1 ≤ s.size) : (wayF s p).2.1 ≤ s.size := digF_le s _ (digF_le s _ (eatF_le s p 44 (by decide) h))

theorem wayF_ge (s : ByteArray) (p : Nat × Bool) : p.1 ≤ (wayF s p).2.1 ∧ ((wayF s p).2.2 = false → p.1 < (wayF s p).2.1 ∧ p.2 = false) := by
  have h1 := eatF_ge s p 44; have h2 := digF_ge s (eatF s p 44); have h3 := digF_ge s (digF s (eatF s p 44)).2
  refine ⟨by show _ ≤ (digF s (digF s (eatF s p 44)).2).2.1; omega, fun h => ?_⟩
  have q3 := h3.2 h
  have q2 := h2.2 q3.2
  have q1 := h1.2 q2.2
  exact ⟨by show _ < (digF s (digF s (eatF s p 44)).2).2.1; omega, q1.2⟩

/-- A node of a graph, but for its ways. -/
def lineN (s : ByteArray) (i : Nat) : Nd × (Nat × Bool) :=
  if pk s i = 42 then ({ op := 42, x := 0, y := 0, v := 0, k := 0, t := 0, f := -1, a := i, l := 1 }, (i + 1, false))
  else if 97 ≤ pk s i ∧ pk s i ≤ 102 ∧ pk s (i + 1) ≠ 61 ∧ pk s (i + 1) ≠ 126 then testF s i
  else simpF s i

def lineT (s : ByteArray) (n : Nd) (p : Nat × Bool) : Int × (Nat × Bool) := if n.op = 33 then (-1, p) else (((wayF s p).1 : Nat), (wayF s p).2)
def lineG (s : ByteArray) (n : Nd) (p : Nat × Bool) : Int × (Nat × Bool) := if n.op = 121 ∨ n.op = 58 then (((wayF s p).1 : Nat), (wayF s p).2) else (n.f, p)

def lineF (s : ByteArray) (st : RS) : RS :=
  if (lineN s st.i).2.2 = true then { st with i := (lineN s st.i).2.1, bad := true }
  else
    let n := (lineN s st.i).1
    let q := lineT s n (lineN s st.i).2
    let g := lineG s n q.2
    let e := eatF s g.2 59
    { st with i := e.1, bad := e.2, nodes := st.nodes ++ [{ n with t := q.1, f := g.1 }] }

end Go.Proofs.YtellieabhaphhaaGreatDoor

/-
  narrow's reader: small parts.
-/
namespace Go.Proofs.YtellieabhaphhaaGreatDoor
open Go.RowKit

/-- narrow's reader, at the head of its block. -/
def NR (w : World) (r : Nat) (s : ByteArray) (p : Nat × Bool) (rest : List Value) (T : TypeId) : Prop :=
  Blk w r (.string s :: .int .i64 p.1 :: .bool p.2 :: rest) T

/-- The byte at hand, or 0. -/
def pkb (s : ByteArray) (p : Nat × Bool) : Nat := if p.2 then 0 else pk s p.1

theorem pkb_false (s : ByteArray) (i : Nat) : pkb s (i, false) = pk s i := rfl
theorem pkb_true (s : ByteArray) (i : Nat) : pkb s (i, true) = 0 := rfl
theorem pkb_lt (s : ByteArray) (p : Nat × Bool) : pkb s p < 256 := by unfold pkb; split; decide; exact pk_lt _ _

theorem eatF_pkb (s : ByteArray) (p : Nat × Bool) (c : Nat) (hc : c ≠ 0) : eatF s p c = if pkb s p = c then (p.1 + 1, false) else (p.1, true) := by
  obtain ⟨i, b⟩ := p
  cases b <;> simp [eatF, pkb]
  omega

theorem NR.n {w : World} {r : Nat} {s : ByteArray} {p : Nat × Bool} {rest : List Value} {T : TypeId} (h : NR w r s p rest T) (n : Nat) : NR (w.drewN n) r s p rest T := h
theorem NR.bad {w : World} {r : Nat} {s : ByteArray} {p : Nat × Bool} {rest : List Value} {T : TypeId} (h : NR w r s p rest T) : NR (w.setCell ⟨r, 2, none⟩ (.bool true)) r s (p.1, true) rest T :=
  Blk.set h 2 (.bool true)
theorem NR.next {w : World} {r : Nat} {s : ByteArray} {p : Nat × Bool} {rest : List Value} {T : TypeId} (h : NR w r s p rest T) : NR (w.setCell ⟨r, 1, none⟩ (.int .i64 (p.1 + 1))) r s (p.1 + 1, p.2) rest T :=
  Blk.set h 1 (.int .i64 (p.1 + 1))
theorem NR.c {w : World} {r i : Nat} {s : ByteArray} {b : Bool} {rest : List Value} {T : TypeId} (h : NR w r s (i, b) rest T) :
    w.cell? ⟨r, 0, none⟩ = some (.string s) ∧ w.cell? ⟨r, 1, none⟩ = some (.int .i64 i) ∧ w.cell? ⟨r, 2, none⟩ = some (.bool b) ∧ ∀ o, w.frozen? ⟨r, o, none⟩ = false :=
  ⟨Blk.cell h 0, Blk.cell h 1, Blk.cell h 2, Blk.frozen h⟩
theorem NR.kp {S : Nat → Prop} {w w' : World} {r : Nat} {s : ByteArray} {p : Nat × Bool} {rest : List Value} {T : TypeId} (h : NR w r s p rest T) (k : Kp S w w') (hn : ¬ S r) : NR w' r s p rest T := k.blk h hn
theorem NR.alloc {w : World} {r : Nat} {s : ByteArray} {p : Nat × Bool} {rest : List Value} {T : TypeId} (h : NR w r s p rest T) (o : Obj) : NR (w.alloc o) r s p rest T := Blk.alloc h o
theorem NR.lt {w : World} {r : Nat} {s : ByteArray} {p : Nat × Bool} {rest : List Value} {T : TypeId} (h : NR w r s p rest T) : r < w.heap.size := Blk.lt h

set_option maxHeartbeats 400000 in
theorem npeek_c (r i : Nat) (s : ByteArray) (bad : Bool) (rest : List Value) (T : TypeId) (w : World) (_ : s.size ≤ 1000) (_ : i ≤ s.size)
    (h : NR w r s (i, bad) rest T) :
    Calls Tryz.prog 92 #[.pointer (some ⟨r, 0, none⟩)] w fun e w' => e = .returned (.int .u8 (pkb s (i, bad))) ∧ ∃ n, w' = w.drewN n := by
  obtain ⟨h0, h1, h2, hf⟩ := h.c
  clear h
  cases bad
  · by_cases hi : i < s.size
    · go_enter Tryz.func92, Tryz.ntmps92
      go_wp2
      go_quiet (fail)
      go_wp2
      go_quiet (fail)
      go_wp2
      go_ret
      refine ⟨by simp [pkb, pk, hi], _, drewN2 _ _ _⟩
    · go_enter Tryz.func92, Tryz.ntmps92
      go_wp2
      go_quiet (fail)
      go_wp2
      go_ret
      refine ⟨by simp [pkb, pk, hi], _, rfl⟩
  · go_enter Tryz.func92, Tryz.ntmps92
    go_wp2
    go_quiet (fail)
    go_wp2
    go_ret
    refine ⟨rfl, _, rfl⟩

theorem isVar_c (c : Nat) (w : World) :
    Calls Tryz.prog 174 #[.int .u8 c] w fun e w' => e = .returned (.bool (decide (97 ≤ c) && decide (c ≤ 102))) ∧ w' = w := by
  by_cases h1 : 97 ≤ c
  · by_cases h2 : c ≤ 102
    · go_enter Tryz.func174, Tryz.ntmps174
      go_wp2
      go_ret
      refine ⟨by simp [h1, h2]; omega, rfl⟩
    · go_enter Tryz.func174, Tryz.ntmps174
      go_wp2
      go_ret
      refine ⟨by simp [h1, h2]; omega, rfl⟩
  · go_enter Tryz.func174, Tryz.ntmps174
    go_wp2
    go_ret
    refine ⟨by simp, rfl⟩

theorem varF_pkb (s : ByteArray) (p : Nat × Bool) : varF s p = if (decide (97 ≤ pkb s p) && decide (pkb s p ≤ 102)) = true then (pkb s p - 97, (p.1 + 1, false)) else (0, (p.1, true)) := by
  obtain ⟨i, b⟩ := p
  cases b
  · simp only [varF, pkb_false, Bool.false_or]
    by_cases h1 : 97 ≤ pk s i <;> by_cases h2 : pk s i ≤ 102 <;> simp [h1, h2] <;> omega
  · simp [varF, pkb_true]

set_option maxHeartbeats 400000 in
theorem nvariable_c (r i : Nat) (s : ByteArray) (bad : Bool) (rest : List Value) (T : TypeId) (w : World) (hs : s.size ≤ 1000) (hi : i ≤ s.size)
    (h : NR w r s (i, bad) rest T) :
    Calls Tryz.prog 149 #[.pointer (some ⟨r, 0, none⟩)] w fun e w' => e = .returned (.int .i64 (varF s (i, bad)).1) ∧ NR w' r s (varF s (i, bad)).2 rest T ∧ Kp (· = r) w w' := by
  have HP := hide (npeek_c r i s bad rest T w hs hi h)
  have HB := hide h
  obtain ⟨h0, h1, h2, hf⟩ := h.c
  clear h
  have HV := hide (varF_pkb s (i, bad))
  have hlt := pkb_lt s (i, bad)
  have hbad : bad = true → pkb s (i, bad) = 0 := fun e => by rw [e]; rfl
  generalize pkb s (i, bad) = d at *
  have HI := hide (fun W => isVar_c d W)
  generalize hb : (decide (97 ≤ d) && decide (d ≤ 102)) = b at HV HI
  cases b
  · go_enter Tryz.func149, Tryz.ntmps149
    go_wp2_with (first
      | (go_at_call 92; refine HP.out.mono ?_; rintro e w' ⟨rfl, n, rfl⟩)
      | (go_at_call 174; refine (HI.out _).mono ?_; rintro e w' ⟨rfl, rfl⟩))
    go_ret
    rw [HV.out]
    exact ⟨rfl, (HB.out.n n).bad, ((Kp.refl _ _).drewN n).set _ _⟩
  · simp at hb
    obtain rfl : bad = false := by
      cases bad
      · rfl
      · have := hbad rfl; omega
    clear hbad
    go_enter Tryz.func149, Tryz.ntmps149
    go_wp2_with (first
      | (go_at_call 92; refine HP.out.mono ?_; rintro e w' ⟨rfl, n, rfl⟩)
      | (go_at_call 174; refine (HI.out _).mono ?_; rintro e w' ⟨rfl, rfl⟩))
    go_ret
    rw [HV.out]
    exact ⟨ret_i64 (by simp only [if_true]; omega), (HB.out.n n).next, ((Kp.refl _ _).drewN n).set _ _⟩

theorem am_bit (c : Nat) : amF c [110, 116, 102, 122, 65, 66, 67] = true ↔ ¬ bit c = 0 := by
  simp only [amF, List.any_cons, List.any_nil, Bool.or_false, UInt8.reduceToNat, Bool.or_eq_true, beq_iff_eq]
  unfold bit
  repeat' split
  all_goals simp
  all_goals omega

theorem kindF_pkb (s : ByteArray) (p : Nat × Bool) : kindF s p = if bit (pkb s p) = 0 then (0, (p.1, true)) else (pkb s p, (p.1 + 1, false)) := by
  obtain ⟨i, b⟩ := p
  cases b
  · have := am_bit (pk s i)
    by_cases h : bit (pk s i) = 0
    · rw [if_pos (show bit (pkb s (i, false)) = 0 from h), kindF, if_pos (by simp; exact Bool.eq_false_iff.2 (fun e => this.1 e h))]
    · rw [if_neg (show ¬ bit (pkb s (i, false)) = 0 from h), kindF, if_neg (by simp; exact this.2 h)]; rfl
  · rfl

set_option maxHeartbeats 400000 in
theorem nkind_c (r i : Nat) (s : ByteArray) (bad : Bool) (rest : List Value) (T : TypeId) (w : World) (hs : s.size ≤ 1000) (hi : i ≤ s.size)
    (h : NR w r s (i, bad) rest T) :
    Calls Tryz.prog 176 #[.pointer (some ⟨r, 0, none⟩)] w fun e w' => e = .returned (.int .i64 (bit (kindF s (i, bad)).1)) ∧ NR w' r s (kindF s (i, bad)).2 rest T ∧ Kp (· = r) w w' := by
  have HP := hide (npeek_c r i s bad rest T w hs hi h)
  have HB := hide h
  obtain ⟨h0, h1, h2, hf⟩ := h.c
  clear h
  have HV := hide (kindF_pkb s (i, bad))
  have hbad : bad = true → pkb s (i, bad) = 0 := fun e => by rw [e]; rfl
  generalize pkb s (i, bad) = d at *
  have HI := hide (fun W => nkindOfSign_c d W)
  by_cases hb : bit d = 0
  · rw [hb] at HI
    rw [if_pos hb] at HV
    clear hb
    go_enter Tryz.func176, Tryz.ntmps176
    go_wp2_with (first
      | (go_at_call 92; refine HP.out.mono ?_; rintro e w' ⟨rfl, n, rfl⟩)
      | (go_at_call 185; refine (HI.out _).mono ?_; rintro e w' ⟨rfl, rfl⟩))
    go_ret
    rw [HV.out]
    exact ⟨rfl, (HB.out.n n).bad, ((Kp.refl _ _).drewN n).set _ _⟩
  · rw [if_neg hb] at HV
    obtain rfl : bad = false := by
      cases bad
      · rfl
      · exact absurd (by rw [hbad rfl]; rfl) hb
    have hb' : (bit d == 0) = false := by simp [hb]
    have HBE := hide (show bit (kindF s (i, false)).1 = bit d by rw [HV.out])
    generalize bit d = bd at HI HBE hb'
    clear hbad hb
    go_enter Tryz.func176, Tryz.ntmps176
    go_wp2_with (first
      | (go_at_call 92; refine HP.out.mono ?_; rintro e w' ⟨rfl, n, rfl⟩)
      | (go_at_call 185; refine (HI.out _).mono ?_; rintro e w' ⟨rfl, rfl⟩))
    go_ret
    rw [HBE.out, HV.out]
    exact ⟨rfl, (HB.out.n n).next, ((Kp.refl _ _).drewN n).set _ _⟩

theorem digF_pkb (s : ByteArray) (p : Nat × Bool) : digF s p = if 48 ≤ pkb s p ∧ pkb s p ≤ 57 then (pkb s p - 48, (p.1 + 1, false)) else (0, (p.1, true)) := by
  obtain ⟨i, b⟩ := p
  cases b
  · simp only [digF, pkb_false, Bool.false_or]
    by_cases h1 : 48 ≤ pk s i <;> by_cases h2 : pk s i ≤ 57 <;> simp [h1, h2] <;> omega
  · simp [digF, pkb_true]

set_option maxHeartbeats 400000 in
theorem ndigit_c (r i : Nat) (s : ByteArray) (bad : Bool) (rest : List Value) (T : TypeId) (w : World) (hs : s.size ≤ 1000) (hi : i ≤ s.size)
    (h : NR w r s (i, bad) rest T) :
    Calls Tryz.prog 152 #[.pointer (some ⟨r, 0, none⟩)] w fun e w' => e = .returned (.int .i64 (digF s (i, bad)).1) ∧ NR w' r s (digF s (i, bad)).2 rest T ∧ Kp (· = r) w w' := by
  have HP := hide (npeek_c r i s bad rest T w hs hi h)
  have HB := hide h
  obtain ⟨h0, h1, h2, hf⟩ := h.c
  clear h
  have HV := hide (digF_pkb s (i, bad))
  have hlt := pkb_lt s (i, bad)
  have hbad : bad = true → pkb s (i, bad) = 0 := fun e => by rw [e]; rfl
  generalize pkb s (i, bad) = d at *
  by_cases hd : d < 48
  · rw [if_neg (by omega)] at HV
    clear hbad
    go_enter Tryz.func152, Tryz.ntmps152
    go_wp2_with (go_at_call 92; refine HP.out.mono ?_; rintro e w' ⟨rfl, n, rfl⟩)
    go_ret
    rw [HV.out]
    exact ⟨rfl, (HB.out.n n).bad, ((Kp.refl _ _).drewN n).set _ _⟩
  by_cases hd2 : 57 < d
  · rw [if_neg (by omega)] at HV
    clear hbad
    go_enter Tryz.func152, Tryz.ntmps152
    go_wp2_with (go_at_call 92; refine HP.out.mono ?_; rintro e w' ⟨rfl, n, rfl⟩)
    go_ret
    rw [HV.out]
    exact ⟨rfl, (HB.out.n n).bad, ((Kp.refl _ _).drewN n).set _ _⟩
  · rw [if_pos (by omega)] at HV
    obtain rfl : bad = false := by
      cases bad
      · rfl
      · have := hbad rfl; omega
    clear hbad
    go_enter Tryz.func152, Tryz.ntmps152
    go_wp2_with (go_at_call 92; refine HP.out.mono ?_; rintro e w' ⟨rfl, n, rfl⟩)
    go_ret
    rw [HV.out]
    exact ⟨ret_i64 (by simp only []; omega), (HB.out.n n).next, ((Kp.refl _ _).drewN n).set _ _⟩

/-- The bytes of a text, one behind the other. -/
def expF (s : ByteArray) (p : Nat × Bool) (l : List UInt8) : Nat × Bool := l.foldl (fun p c => eatF s p c.toNat) p

theorem expF_bad (s : ByteArray) (i : Nat) (l : List UInt8) : expF s (i, true) l = (i, true) := by
  induction l with
  | nil => rfl
  | cons c l ih => show expF s (eatF s (i, true) c.toNat) l = _; rw [show eatF s (i, true) c.toNat = (i, true) by simp [eatF]]; exact ih

theorem expF_take (s : ByteArray) (p : Nat × Bool) (u : ByteArray) (k : Nat) (h : k < u.size) : expF s p (u.data.toList.take (k + 1)) = eatF s (expF s p (u.data.toList.take k)) (u[k]).toNat := by
  rw [List.take_succ_eq_append_getElem (by simpa using h), expF, List.foldl_append]; rfl

theorem expF_stop (s : ByteArray) (p : Nat × Bool) (u : ByteArray) (k i : Nat) (h : expF s p (u.data.toList.take k) = (i, true)) : expF s p u.data.toList = (i, true) := by
  conv => lhs; rw [← List.take_append_drop k u.data.toList]
  rw [expF, List.foldl_append]
  have h' : List.foldl (fun p c => eatF s p c.toNat) p (u.data.toList.take k) = (i, true) := h
  rw [h']; exact expF_bad s i _
end Go.Proofs.YtellieabhaphhaaGreatDoor
