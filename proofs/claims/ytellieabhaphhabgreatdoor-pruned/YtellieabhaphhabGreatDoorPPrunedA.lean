import Derived.Test.YtellieabhaphhabGreatDoorRows
import Derived.WalkKit
import Derived.WalkSpells
import Derived.BigQuiet
import Derived.Deep.QuietTactic
import Derived.Deep.RegionLawGrows
import Derived.Deep.RegionHeld3
import Derived.Deep.AppendLies
import Derived.Deep.Light
import Derived.Deep.Slices
import Derived.IntWalk
import Derived.ProofKit
import Derived.OpenShut
import Derived.Test.YtellieabhaphhabGreatDoorCards
import Derived.Test.YtellieabhaphhabGreatDoorTie
import Derived.Deep.DeepHandedRow
import Derived.Lib.LaidTab
import Derived.Deep.LoopGhost
import Derived.Shelf.Strconv.Itoa0
import Derived.Shelf.Strconv.Itoa1
import Derived.Shelf.LaysM
import Derived.Shelf.Strconv.Itoa2
import Derived.Shelf.Strconv.Itoa3
import Derived.Test.YtellieabhaphhabGreatDoorProg
import Derived.Deep.MidRow
import Derived.OwnWalk
import Derived.Deep.Cut
import Derived.Deep.WholeRow
/-
  The base of our walks: what a block holds, what a call keeps.
-/
namespace Go.Proofs.YtellieabhaphhabGreatDoor
open Go.RowKit

/-- Block b holds the cells cs, none of them frozen. -/
def Blk (w : World) (b : Nat) (cs : List Value) (T : TypeId) : Prop := w.heap[b]? = some (.cells cs.toArray T (0, 0))

theorem Blk.cell {w : World} {b : Nat} {cs : List Value} {T : TypeId} (h : Blk w b cs T) (o : Nat) : w.cell? ⟨b, o, none⟩ = cs[o]? := by
  rw [cell_of_row w b o cs.toArray T (0, 0) h]; simp

theorem Blk.frozen {w : World} {b : Nat} {cs : List Value} {T : TypeId} (h : Blk w b cs T) (o : Nat) : w.frozen? ⟨b, o, none⟩ = false := by
  have h' : w.heap[b]? = some (.cells cs.toArray T (0, 0)) := h
  simp [World.frozen?, h']

theorem Blk.lt {w : World} {b : Nat} {cs : List Value} {T : TypeId} (h : Blk w b cs T) : b < w.heap.size := by
  have h' : w.heap[b]? = some (.cells cs.toArray T (0, 0)) := h
  exact (Array.getElem?_eq_some_iff.1 h').1

theorem Blk.set {w : World} {b : Nat} {cs : List Value} {T : TypeId} (h : Blk w b cs T) (o : Nat) (v : Value) : Blk (w.setCell ⟨b, o, none⟩ v) b (cs.set o v) T := by
  have h' : w.heap[b]? = some (.cells cs.toArray T (0, 0)) := h
  simp [Blk, World.setCell, Array.getElem?_modify, h']

theorem Blk.setB {w : World} {b : Nat} {cs cs0 : List Value} {T : TypeId} {o : Nat} {v : Value} (h : Blk w b cs0 T) (e : cs0.set o v = cs) : Blk (w.setCell ⟨b, o, none⟩ v) b cs T := e ▸ h.set o v

theorem Blk.other {w : World} {b : Nat} {cs : List Value} {T : TypeId} (h : Blk w b cs T) {a : Addr} (v : Value) (hb : b ≠ a.block) : Blk (w.setCell a v) b cs T := by
  unfold Blk; rw [Below.heap_setCell _ _ _ _ hb]; exact h

theorem Blk.alloc {w : World} {b : Nat} {cs : List Value} {T : TypeId} (h : Blk w b cs T) (o : Obj) : Blk (w.alloc o) b cs T := by
  unfold Blk; rw [Below.heap_alloc _ _ _ h.lt]; exact h

theorem Blk.new (w : World) (cs : List Value) (T : TypeId) : Blk (w.alloc (.cells cs.toArray T)) w.heap.size cs T := heap_alloc_new w _

theorem Blk.newAt (w : World) (cs : List Value) (T : TypeId) {b : Nat} (h : b = w.heap.size) : Blk (w.alloc (.cells cs.toArray T)) b cs T := by subst h; exact heap_alloc_new w _

theorem Blk.drew {w : World} {b : Nat} {cs : List Value} {T : TypeId} (h : Blk w b cs T) : Blk w.drew b cs T := h
theorem Blk.drewN {w : World} {b : Nat} {cs : List Value} {T : TypeId} (h : Blk w b cs T) (n : Nat) : Blk (w.drewN n) b cs T := h

/-- Of what was there, only blocks in S may have turned. -/
structure Kp (S : Nat → Prop) (w w' : World) : Prop where
  os : w'.os = w.os
  tape : w'.tape = w.tape
  output : w'.output = w.output
  size : w.heap.size ≤ w'.heap.size
  block : ∀ k, k < w.heap.size → ¬ S k → w'.heap[k]? = w.heap[k]?

def no : Nat → Prop := fun _ => False

theorem Kp.refl (S : Nat → Prop) (w : World) : Kp S w w := ⟨rfl, rfl, rfl, Nat.le_refl _, fun _ _ _ => rfl⟩

/-- What comes second may turn what was not there at first, and what the first may. -/
theorem Kp.trans {S S' : Nat → Prop} {a b c : World} (h : Kp S a b) (k : Kp S' b c) (hs : ∀ x, x < a.heap.size → S' x → S x) : Kp S a c :=
  ⟨k.os.trans h.os, k.tape.trans h.tape, k.output.trans h.output, Nat.le_trans h.size k.size,
   fun i hi hn => (k.block i (Nat.lt_of_lt_of_le hi h.size) (fun e => hn (hs i hi e))).trans (h.block i hi hn)⟩

theorem Kp.mono {S S' : Nat → Prop} {a b : World} (h : Kp S a b) (hs : ∀ x, S x → S' x) : Kp S' a b :=
  ⟨h.os, h.tape, h.output, h.size, fun i hi hn => h.block i hi (fun e => hn (hs i e))⟩

theorem Kp.drew {S : Nat → Prop} {a w : World} (h : Kp S a w) : Kp S a w.drew := ⟨h.os, h.tape, h.output, h.size, h.block⟩
theorem Kp.drewN {S : Nat → Prop} {a w : World} (h : Kp S a w) (n : Nat) : Kp S a (w.drewN n) := ⟨h.os, h.tape, h.output, h.size, h.block⟩

theorem Kp.alloc {S : Nat → Prop} {a w : World} (h : Kp S a w) (o : Obj) : Kp S a (w.alloc o) :=
  h.trans (S' := no) ⟨rfl, rfl, rfl, by simp, fun k hk _ => Below.heap_alloc _ _ _ hk⟩ (fun _ _ e => e.elim)

/-- A store into a block of S, or into a new one. -/
theorem Kp.setCell {S : Nat → Prop} {a w : World} (h : Kp S a w) {p : Addr} (u : Value) (hp : p.block < a.heap.size → S p.block) : Kp S a (w.setCell p u) :=
  h.trans (S' := fun x => x = p.block) ⟨rfl, rfl, rfl, by simp [World.setCell], fun k _ hk => Below.heap_setCell _ _ _ _ hk⟩ (fun x hx e => by subst e; exact hp hx)

theorem Kp.blk {S : Nat → Prop} {w w' : World} (h : Kp S w w') {b : Nat} {cs : List Value} {T : TypeId} (k : Blk w b cs T) (hb : ¬ S b) : Blk w' b cs T := by
  unfold Blk; rw [h.block b k.lt hb]; exact k

theorem Kp.grown {S : Nat → Prop} {a w w' : World} {row : Option Nat} (h : Kp S a w) (hg : w.grownBy w' row) (hr : ∀ k, k < a.heap.size → row = some k → S k) : Kp S a w' :=
  h.trans (S' := fun x => some x = row) ⟨hg.os, hg.tape, hg.output, hg.size, fun k hk hn => hg.block k hk (fun e => hn e)⟩ (fun x hx e => hr x hx e.symm)

theorem Kp.cell {S : Nat → Prop} {w w' : World} (h : Kp S w w') {b : Nat} (hb : b < w.heap.size) (hn : ¬ S b) (o : Nat) : w'.cell? ⟨b, o, none⟩ = w.cell? ⟨b, o, none⟩ := World.cell?_of_block (w := w) (h.block b hb hn)

/-- A row of a slice: its block and what it holds. -/
abbrev Row (w : World) (v : Value) (e : TypeId) (size n : Nat) (xs : List Value) : Prop := w.ownsRow 0 e size v n xs

theorem Kp.row {S : Nat → Prop} {w w' : World} (h : Kp S w w') {v : Value} {e : TypeId} {size n : Nat} {xs : List Value} (k : Row w v e size n xs) (hb : ∀ b, v.ownBlock = some b → ¬ S b) : Row w' v e size n xs := by
  refine ⟨k.1, ?_⟩
  rcases k.2 with hn | ⟨g, cap, cur, rfl, hb', hg, rest⟩
  · exact .inl hn
  · refine .inr ⟨g, cap, cur, rfl, hb', ?_, rest⟩
    rw [h.block g (Array.getElem?_eq_some_iff.1 hg).1 (hb g rfl)]
    exact hg

theorem hide {p : Prop} (h : p) : Hid p := h

/-- Forget the world but for what is said of it. -/
theorem wp_gen {P : Program} {c : Code} {Q : Exit → Act → World → Prop} {a : Act} {W : World} (G : World → Prop) (hG : G W) (h : ∀ W', G W' → Code.wp P c Q a W') : Code.wp P c Q a W := h W hG

/-- A struct result lies in a block. -/
theorem body_agg {P : Program} {fn : Func} {R : Ending → World → Prop} {x : Exit} {a : Act} {w : World} {k T Tb b : Nat} {cs : List Value} {d : TypeDesc}
    (hx : x = .normal ∨ x = .ret) (hres : fn.results = #[.cell k T]) (ha : a.tmps.getD k undef = .pointer (some ⟨b, 0, none⟩)) (hd : a.defers = [])
    (hb : Blk w b cs Tb) (hu : P.underlying T = some d) (hd' : (match d with | .struct _ | .array _ _ => true | _ => false) = true) (hi : (P.info? T).map (·.size) = some cs.length)
    (hR : R (.returned (.agg cs.toArray)) w) : bodyPost P fn R x a w := by
  have hrun := run_loadVar_row (P := P) w b Tb T cs.toArray (0, 0) d hb hu hd' (by simpa using hi)
  have hr : (results fn a.tmps).run P w = .ok (.agg cs.toArray) w := by
    have ha' : a.tmps[k]?.getD undef = .pointer (some ⟨b, 0, none⟩) := by simpa using ha
    simp only [results, hres]
    simp [ha', asAddr, hrun]
  rcases hx with rfl | rfl <;> exact ⟨hd, _, hr, hR⟩

theorem ret_i64 {a b : Int} (h : a = b) : Ending.returned (.int .i64 a) = .returned (.int .i64 b) := by rw [h]

theorem drewN2 (w : World) (a b : Nat) : (w.drewN a).drewN b = w.drewN (a + b) := by simp [World.drewN, Nat.add_assoc]

/-- The byte at hand, or 0. -/
def pk (s : ByteArray) (i : Nat) : Nat := if h : i < s.size then (s[i]'h).toNat else 0

theorem pk_lt (s : ByteArray) (i : Nat) : pk s i < 256 := by
  unfold pk; split
  · exact UInt8.toNat_lt _
  · decide

end Go.Proofs.YtellieabhaphhabGreatDoor

/-
  narrowref's reader: what it reads without laying anything.
-/
namespace Go.Proofs.YtellieabhaphhabGreatDoor
open Go.RowKit

/-- The reader's block. -/
def RB (w : World) (r : Nat) (s : ByteArray) (p : Nat × Bool) (nv iv : Value) (lp : Int) : Prop :=
  Blk w r [.string s, .int .i64 p.1, .bool p.2, nv, iv, .int .i64 lp] 105

def eatF (s : ByteArray) (p : Nat × Bool) (c : Nat) : Nat × Bool := if p.2 || pk s p.1 != c then (p.1, true) else (p.1 + 1, false)

theorem RB.n {w : World} {r : Nat} {s : ByteArray} {p : Nat × Bool} {nv iv : Value} {lp : Int} (h : RB w r s p nv iv lp) (n : Nat) : RB (w.drewN n) r s p nv iv lp := h

theorem RB.bad {w : World} {r : Nat} {s : ByteArray} {p : Nat × Bool} {nv iv : Value} {lp : Int} (h : RB w r s p nv iv lp) : RB (w.setCell ⟨r, 2, none⟩ (.bool true)) r s (p.1, true) nv iv lp :=
  Blk.set h 2 (.bool true)

theorem RB.next {w : World} {r : Nat} {s : ByteArray} {p : Nat × Bool} {nv iv : Value} {lp : Int} (h : RB w r s p nv iv lp) : RB (w.setCell ⟨r, 1, none⟩ (.int .i64 (p.1 + 1))) r s (p.1 + 1, p.2) nv iv lp :=
  Blk.set h 1 (.int .i64 (p.1 + 1))

theorem Kp.set {a w : World} {r : Nat} (h : Kp (· = r) a w) (o : Nat) (v : Value) : Kp (· = r) a (w.setCell ⟨r, o, none⟩ v) := h.setCell v (fun _ => rfl)

def varF (s : ByteArray) (p : Nat × Bool) : Nat × (Nat × Bool) :=
  if p.2 || decide (pk s p.1 < 97) || decide (102 < pk s p.1) then (0, (p.1, true)) else (pk s p.1 - 97, (p.1 + 1, false))

def amF (c : Nat) (l : List UInt8) : Bool := l.any (fun u => u.toNat == c)

theorem pk_in (s : ByteArray) (i : Nat) (h : pk s i ≠ 0) : i < s.size := by
  unfold pk at h; split at h
  · assumption
  · exact absurd rfl h

theorem varF_le (s : ByteArray) (p : Nat × Bool) (h : p.1 ≤ s.size) : (varF s p).2.1 ≤ s.size := by
  unfold varF; split
  · exact h
  · rename_i h'
    have := pk_in s p.1 (by simp at h'; omega)
    show p.1 + 1 ≤ _
    omega

theorem eatF_le (s : ByteArray) (p : Nat × Bool) (c : Nat) (hc : c ≠ 0) (h : p.1 ≤ s.size) : (eatF s p c).1 ≤ s.size := by
  unfold eatF; split
  · exact h
  · rename_i h'
    have := pk_in s p.1 (by simp at h'; omega)
    show p.1 + 1 ≤ _
    omega

def kindF (s : ByteArray) (p : Nat × Bool) : Nat × (Nat × Bool) :=
  if p.2 || !amF (pk s p.1) [110, 116, 102, 122, 65, 66, 67] then (0, (p.1, true)) else (pk s p.1, (p.1 + 1, false))

theorem am_zero (l : List UInt8) (h : l.all (fun u => u.toNat != 0) = true) : amF 0 l = false := by
  simp only [amF, List.any_eq_false]
  intro x hx
  have := List.all_eq_true.1 h x hx
  simp at this ⊢
  exact this

theorem kindF_le (s : ByteArray) (p : Nat × Bool) (h : p.1 ≤ s.size) : (kindF s p).2.1 ≤ s.size := by
  unfold kindF; split
  · exact h
  · rename_i h'
    have := pk_in s p.1 (fun e => by rw [e, am_zero _ (by decide)] at h'; simp at h')
    show p.1 + 1 ≤ _
    omega

end Go.Proofs.YtellieabhaphhabGreatDoor

/-
  narrowref's reader: nodes as they are read.
-/
namespace Go.Proofs.YtellieabhaphhabGreatDoor
open Go.RowKit

structure Nd where
  op : Int
  x : Int
  y : Int
  v : Int
  k : Int
  t : Int
  f : Int
  a : Int
  l : Int

def Nd.cells (n : Nd) : List Value := [.int .u8 n.op, .int .i64 n.x, .int .i64 n.y, .int .i64 n.v, .int .u8 n.k, .int .i64 n.t, .int .i64 n.f, .int .i64 n.a, .int .i64 n.l]

theorem Blk.c9 {w : World} {b : Nat} {a0 a1 a2 a3 a4 a5 a6 a7 a8 : Value} {T : TypeId} (h : Blk w b [a0, a1, a2, a3, a4, a5, a6, a7, a8] T) :
    w.cell? ⟨b, 0, none⟩ = some a0 ∧ w.cell? ⟨b, 1, none⟩ = some a1 ∧ w.cell? ⟨b, 2, none⟩ = some a2 ∧ w.cell? ⟨b, 3, none⟩ = some a3 ∧ w.cell? ⟨b, 4, none⟩ = some a4 ∧
    w.cell? ⟨b, 5, none⟩ = some a5 ∧ w.cell? ⟨b, 6, none⟩ = some a6 ∧ w.cell? ⟨b, 7, none⟩ = some a7 ∧ w.cell? ⟨b, 8, none⟩ = some a8 ∧ ∀ o, w.frozen? ⟨b, o, none⟩ = false :=
  ⟨h.cell 0, h.cell 1, h.cell 2, h.cell 3, h.cell 4, h.cell 5, h.cell 6, h.cell 7, h.cell 8, h.frozen⟩

theorem RB.c6 {w : World} {r : Nat} {s : ByteArray} {p : Nat × Bool} {nv iv : Value} {lp : Int} (h : RB w r s p nv iv lp) :
    w.cell? ⟨r, 0, none⟩ = some (.string s) ∧ w.cell? ⟨r, 1, none⟩ = some (.int .i64 p.1) ∧ w.cell? ⟨r, 2, none⟩ = some (.bool p.2) ∧
    w.cell? ⟨r, 3, none⟩ = some nv ∧ w.cell? ⟨r, 4, none⟩ = some iv ∧ w.cell? ⟨r, 5, none⟩ = some (.int .i64 lp) ∧ ∀ o, w.frozen? ⟨r, o, none⟩ = false :=
  ⟨Blk.cell h 0, Blk.cell h 1, Blk.cell h 2, Blk.cell h 3, Blk.cell h 4, Blk.cell h 5, Blk.frozen h⟩

theorem RB.lt {w : World} {r : Nat} {s : ByteArray} {p : Nat × Bool} {nv iv : Value} {lp : Int} (h : RB w r s p nv iv lp) : r < w.heap.size := Blk.lt h

def valF (s : ByteArray) (i : Nat) (n : Nd) : Nd × (Nat × Bool) :=
  if 48 ≤ pk s i ∧ pk s i ≤ 57 then ({ n with op := 48, k := pk s i }, (i + 1, false))
  else if amF (pk s i) [84, 70, 90, 67, 63] then ({ n with op := pk s i }, (i + 1, false))
  else if amF (pk s i) [43, 60] then
    ({ n with op := pk s i, y := (varF s (i + 1, false)).1, v := (varF s (varF s (i + 1, false)).2).1 }, (varF s (varF s (i + 1, false)).2).2)
  else if amF (pk s i) [65, 66, 46] then ({ n with op := pk s i, y := (varF s (i + 1, false)).1 }, (varF s (i + 1, false)).2)
  else ({ n with op := 118, y := (varF s (i, false)).1 }, (varF s (i, false)).2)

theorem valF_le (s : ByteArray) (i : Nat) (n : Nd) (h : i ≤ s.size) : (valF s i n).2.1 ≤ s.size := by
  unfold valF
  repeat' split
  · have := pk_in s i (by omega); show i + 1 ≤ _; omega
  · rename_i _ h2; have := pk_in s i (fun e => by rw [e] at h2; revert h2; decide); show i + 1 ≤ _; omega
  · rename_i _ _ h2; have := pk_in s i (fun e => by rw [e] at h2; revert h2; decide)
    exact varF_le _ _ (varF_le _ _ (by show i + 1 ≤ _; omega))
  · rename_i _ _ _ h2; have := pk_in s i (fun e => by rw [e] at h2; revert h2; decide)
    exact varF_le _ _ (by show i + 1 ≤ _; omega)
  · exact varF_le _ _ h
end Go.Proofs.YtellieabhaphhabGreatDoor

/-
  narrowref's reader: a whole node.
-/
namespace Go.Proofs.YtellieabhaphhabGreatDoor
open Go.RowKit

def nd0 (i : Nat) : Nd := { op := 0, x := 0, y := 0, v := 0, k := 0, t := 0, f := -1, a := i, l := 0 }

def simpF (s : ByteArray) (i : Nat) : Nd × (Nat × Bool) :=
  if pk s i = 94 then ({ nd0 i with op := 94, y := (varF s (i + 1, false)).1, l := ((varF s (i + 1, false)).2.1 : Int) - i }, (varF s (i + 1, false)).2)
  else if pk s i = 33 then ({ nd0 i with op := 33, l := (i : Int) + 1 - i }, (i + 1, false))
  else if (varF s (i, false)).2.2 = false ∧ pk s (varF s (i, false)).2.1 = 126 then
    ({ nd0 i with op := 126, x := (varF s (i, false)).1, k := (kindF s ((varF s (i, false)).2.1 + 1, false)).1, l := ((kindF s ((varF s (i, false)).2.1 + 1, false)).2.1 : Int) - i }, (kindF s ((varF s (i, false)).2.1 + 1, false)).2)
  else if (eatF s (varF s (i, false)).2 61).2 = true then
    ({ nd0 i with x := (varF s (i, false)).1, l := ((eatF s (varF s (i, false)).2 61).1 : Int) - i }, eatF s (varF s (i, false)).2 61)
  else
    ({ (valF s (eatF s (varF s (i, false)).2 61).1 { nd0 i with x := (varF s (i, false)).1 }).1 with l := ((valF s (eatF s (varF s (i, false)).2 61).1 { nd0 i with x := (varF s (i, false)).1 }).2.1 : Int) - i }, (valF s (eatF s (varF s (i, false)).2 61).1 { nd0 i with x := (varF s (i, false)).1 }).2)

theorem valF_keeps (s : ByteArray) (i : Nat) (n : Nd) : (valF s i n).1.a = n.a ∧ (valF s i n).1.l = n.l ∧ (valF s i n).1.x = n.x ∧ (valF s i n).1.t = n.t ∧ (valF s i n).1.f = n.f := by
  unfold valF; repeat' split
  all_goals exact ⟨rfl, rfl, rfl, rfl, rfl⟩

theorem simpF_le (s : ByteArray) (i : Nat) (h : i ≤ s.size) : (simpF s i).2.1 ≤ s.size := by
  have hv := varF_le s (i, false) h
  have he := eatF_le s _ 61 (by decide) hv
  unfold simpF
  repeat' split
  · rename_i h1; exact varF_le _ _ (pk_in s i (by omega))
  · rename_i _ h1; exact pk_in s i (by omega)
  · rename_i _ _ h1; exact kindF_le _ _ (pk_in s _ (by omega))
  · exact he
  · exact valF_le _ _ _ he
end Go.Proofs.YtellieabhaphhabGreatDoor

/-
  narrowref's reader: a test.
-/
namespace Go.Proofs.YtellieabhaphhabGreatDoor
open Go.RowKit

def ty0 (i : Nat) : Nd := { op := 121, x := 0, y := 0, v := 0, k := 0, t := 0, f := 0, a := i, l := 0 }

def testF (s : ByteArray) (i : Nat) : Nd × (Nat × Bool) :=
  if (varF s (i, false)).2.2 = false ∧ pk s (varF s (i, false)).2.1 = 58 then
    ({ ty0 i with op := 58, y := (varF s (i, false)).1, k := (kindF s ((varF s (i, false)).2.1 + 1, false)).1, l := ((kindF s ((varF s (i, false)).2.1 + 1, false)).2.1 : Int) - i }, (kindF s ((varF s (i, false)).2.1 + 1, false)).2)
  else ({ ty0 i with y := (varF s (i, false)).1, l := ((varF s (i, false)).2.1 : Int) - i }, (varF s (i, false)).2)

theorem testF_le (s : ByteArray) (i : Nat) (h : i ≤ s.size) : (testF s i).2.1 ≤ s.size := by
  have hv := varF_le s (i, false) h
  unfold testF
  split
  · rename_i h1; exact kindF_le _ _ (pk_in s _ (by omega))
  · exact hv

end Go.Proofs.YtellieabhaphhabGreatDoor

/-
  narrowref's reader: what it lays: nodes and pieces.
-/
namespace Go.Proofs.YtellieabhaphhabGreatDoor
open Go.RowKit

structure It where
  k : Int
  n : Int
  els : Int
  en : Int

def It.cells (x : It) : List Value := [.int .u8 x.k, .int .i64 x.n, .int .i64 x.els, .int .i64 x.en]

structure RS where
  i : Nat
  bad : Bool
  nodes : List Nd
  items : List It
  loops : Nat

def nCells (l : List Nd) : List Value := l.flatMap Nd.cells
def iCells (l : List It) : List Value := l.flatMap It.cells

def Own (r : Nat) (nv iv : Value) (b : Nat) : Prop := b = r ∨ nv.ownBlock = some b ∨ iv.ownBlock = some b

/-- The reader at work: its block and its two rows; O: the blocks that are its own. -/
def Rp (w : World) (r : Nat) (s : ByteArray) (st : RS) (O : Nat → Prop) : Prop :=
  ∃ nv iv, RB w r s (st.i, st.bad) nv iv st.loops ∧ Row w nv 111 9 st.nodes.length (nCells st.nodes) ∧ Row w iv 153 4 st.items.length (iCells st.items) ∧
    nv.ownBlock ≠ some r ∧ iv.ownBlock ≠ some r ∧ (∀ b, nv.ownBlock = some b → iv.ownBlock ≠ some b) ∧ O = Own r nv iv

/-- What a call of the reader's leaves. -/
def Went (w : World) (O : Nat → Prop) (r : Nat) (s : ByteArray) (st' : RS) (w' : World) : Prop :=
  ∃ O', Rp w' r s st' O' ∧ Kp O w w' ∧ ∀ b, O' b → b < w.heap.size → O b

theorem grown_blk {w w' : World} {row : Option Nat} {b : Nat} {cs : List Value} {T : TypeId} (hg : w.grownBy w' row) (h : Blk w b cs T) (hne : row ≠ some b) : Blk w' b cs T := by
  unfold Blk; rw [hg.block b h.lt (fun e => hne e.symm)]; exact h

theorem Blk.news {w : World} {b : Nat} {cs : List Value} {T : TypeId} (h : Blk w b cs T) : ∀ j u, cs[j]? = some u → w.cell? ((⟨b, 0, none⟩ : Addr).add j) = some u := by
  have := World.news_of_block (w := w) h
  simpa using this

theorem Row.set {w : World} {v : Value} {e : TypeId} {size n : Nat} {xs : List Value} (h : Row w v e size n xs) {r o : Nat} (u : Value) (hne : v.ownBlock ≠ some r) : Row (w.setCell ⟨r, o, none⟩ u) v e size n xs :=
  ((Kp.refl (· = r) w).setCell u (fun _ => rfl)).row h (fun b hb e => hne (by rw [hb, e]))

theorem no_elim {b : Nat} : ¬ no b := fun e => e

theorem Row.lt {w : World} {v : Value} {e : TypeId} {size n : Nat} {xs : List Value} (h : Row w v e size n xs) {b : Nat} (hb : v.ownBlock = some b) : b < w.heap.size := (World.ownsRow.lt h b hb).2

end Go.Proofs.YtellieabhaphhabGreatDoor

/-
  The laws: an error's number.
-/
namespace Go.Proofs.YtellieabhaphhabGreatDoor
open Go.RowKit

theorem lnum_c (c : Int) (w : World) :
    Calls Tryz.prog 10 #[.int .i64 c] w fun e w' => e = .returned (.int .i64 c) ∧ w' = w := by
  go_enter Tryz.func10, Tryz.ntmps10
  go_wp2
  go_ret
  exact ⟨rfl, rfl⟩
end Go.Proofs.YtellieabhaphhabGreatDoor

/-
  The laws: a script.
-/
namespace Go.Proofs.YtellieabhaphhabGreatDoor
open Go.RowKit

structure OpV where
  k : Int
  b : Int
  c : Int
  s : ByteArray
  t : ByteArray
  u : ByteArray

def OpV.cells (o : OpV) : List Value := [.int .i64 o.k, .int .i64 o.b, .int .i64 o.c, .string o.s, .string o.t, .string o.u]

/-- The script, as it lies in memory. -/
def Scr (w : World) (a : Addr) (n : Nat) (O : Nat → OpV) : Prop := ∀ i, i < n → ∀ j, j < 6 → w.cell? (a.add (i * 6 + j)) = (O i).cells[j]?

theorem run_loadVar_gen {P : Program} (w : World) (a : Addr) (ty : TypeId) (cs : List Value) (d : TypeDesc) (hc : ∀ j v, cs[j]? = some v → w.cell? (a.add j) = some v)
    (hu : P.underlying ty = some d) (hd : d.isRow = true) (hi : (P.info? ty).map (·.size) = some cs.length) :
    (loadVar ty a).run P w = .ok (.agg cs.toArray) w := by
  have hl : (loadCells a cs.length).run P w = .ok cs.toArray w := run_loadCells_list (P := P) w a cs hc
  cases hq : P.info? ty with
  | none => simp [hq] at hi
  | some i =>
    have hs : i.size = cs.length := by simpa [hq] using hi
    have hagg : (isAgg ty).run P w = .ok true w := by
      unfold isAgg
      rw [Sem.run_bind, run_underlying hu w]
      cases d <;> simp_all
    simp [loadVar, Sem.run_bind, hagg, sizeOf, typeInfo, hq, hs, hl]

theorem wp_load_gen {P : Program} {op : Oper} {a : Act} {w : World} {K : Act → World → Prop} {Q : Exit → Act → World → Prop} (ty : TypeId) (x : Operand) (ho : op.op = .load ty x)
    (b : Addr) (hx : a.eval x = .pointer (some b)) (cs : List Value) (d : TypeDesc) (hc : ∀ j v, cs[j]? = some v → w.cell? (b.add j) = some v)
    (hu : P.underlying ty = some d) (hd : d.isRow = true) (hi : (P.info? ty).map (·.size) = some cs.length)
    (h : K (a.put op.dst (.agg cs.toArray)) w) : op.wp P a w K Q := by
  unfold Oper.wp execOp
  simp only [ho, hx, Instr.loadAt, Instr.sureAddr, Sem.run_bind, Sem.run_pure, Result.andThen_ok, run_loadVar_gen w b ty cs d hc hu hd hi]
  exact h

theorem wpList_load_gen {P : Program} {ops : Array Oper} {rest : List Oper} {op : Oper} {a : Act} {w : World} {Q : Exit → Act → World → Prop} (hgd : op.guard = none) (ty : TypeId) (x : Operand) (ho : op.op = .load ty x)
    (b : Addr) (hx : a.eval x = .pointer (some b)) (cs : List Value) (d : TypeDesc) (hc : ∀ j v, cs[j]? = some v → w.cell? (b.add j) = some v)
    (hu : P.underlying ty = some d) (hd : d.isRow = true) (hi : (P.info? ty).map (·.size) = some cs.length)
    (h : wpList P ops Q rest (a.put op.dst (.agg cs.toArray)) w) : wpList P ops Q (op :: rest) a w :=
  wpList_plain hgd fun _ hK => wp_load_gen ty x ho b hx cs d hc hu hd hi (hK _ _ h)

theorem add_block (a : Addr) (k : Nat) : (a.add k).block = a.block := by unfold Addr.add; split <;> rfl

theorem Scr.kp {w w' : World} {a : Addr} {n : Nat} {O : Nat → OpV} (h : Scr w a n O) (k : Kp no w w') (hab : a.block < w.heap.size) : Scr w' a n O := fun i hi j hj => by
  rw [← h i hi j hj]
  exact World.cell?_of_block (by rw [add_block]; exact k.block a.block hab no_elim)

end Go.Proofs.YtellieabhaphhabGreatDoor

/-
  The laws: a script, as data.
-/
namespace Go.Proofs.YtellieabhaphhabGreatDoor
open Go.ChangeShapes Go.WideShapes Go.ChangeAt Go.RowKit Go.Deep

theorem opCells : Tryz.prog.cellsOf 25 = 6 := by kernel_rfl
theorem intCells : Tryz.prog.cellsOf 3 = 1 := by kernel_rfl
theorem strCells : Tryz.prog.cellsOf 9 = 1 := by kernel_rfl

structure OpOk (o : OpV) : Prop where
  k : (Lit.int .i64 o.k).wf = true
  b : (Lit.int .i64 o.b).wf = true
  c : (Lit.int .i64 o.c).wf = true
  s : o.s.size ≤ maxLen
  t : o.t.size ≤ maxLen
  u : o.u.size ≤ maxLen

def opD {H : Type} (o : OpV) : DataW H := .agg [.lit (.int .i64 o.k), .lit (.int .i64 o.b), .lit (.int .i64 o.c), .lit (.string o.s.data.toList), .lit (.string o.t.data.toList), .lit (.string o.u.data.toList)]

set_option maxRecDepth 100000 in
theorem op_open {H : Type} {enc : TypeId × Value → H} {w : World} {base : Nat} {sp : Nat → Bool} {held : Bool} {n : Nat} {cs : List Value} {x : DataW H × List MemPlace}
    (h : DataW.trod enc Tryz.prog w base sp held n 25 cs = some x) : ∃ o : OpV, cs = o.cells ∧ x = (opD o, []) ∧ OpOk o := by
  obtain ⟨xs, m, _, rfl, hl, hxl, hf⟩ := DataW.trod_struct Tryz.underlying25 h
  rw [opCells] at hl
  match cs, hl with
  | [c0, c1, c2, c3, c4, c5], _ =>
    match xs, hxl with
    | [x0, x1, x2, x3, x4, x5], _ =>
      have h0 : DataW.trod enc Tryz.prog w base sp held m 3 (List.take (Tryz.prog.cellsOf 3) [c0, c1, c2, c3, c4, c5]) = some x0 := hf 0 _ rfl
      have h1 : DataW.trod enc Tryz.prog w base sp held m 3 (List.take (Tryz.prog.cellsOf 3) [c1, c2, c3, c4, c5]) = some x1 := hf 1 _ rfl
      have h2 : DataW.trod enc Tryz.prog w base sp held m 3 (List.take (Tryz.prog.cellsOf 3) [c2, c3, c4, c5]) = some x2 := hf 2 _ rfl
      have h3 : DataW.trod enc Tryz.prog w base sp held m 9 (List.take (Tryz.prog.cellsOf 9) [c3, c4, c5]) = some x3 := hf 3 _ rfl
      have h4 : DataW.trod enc Tryz.prog w base sp held m 9 (List.take (Tryz.prog.cellsOf 9) [c4, c5]) = some x4 := hf 4 _ rfl
      have h5 : DataW.trod enc Tryz.prog w base sp held m 9 (List.take (Tryz.prog.cellsOf 9) [c5]) = some x5 := hf 5 _ rfl
      rw [intCells] at h0 h1 h2
      rw [strCells] at h3 h4 h5
      obtain ⟨k, e0, rfl, w0⟩ := DataW.trod_int Tryz.underlying3 (show DataW.trod enc _ w base sp held m _ [c0] = some x0 from h0)
      obtain ⟨b, e1, rfl, w1⟩ := DataW.trod_int Tryz.underlying3 (show DataW.trod enc _ w base sp held m _ [c1] = some x1 from h1)
      obtain ⟨c, e2, rfl, w2⟩ := DataW.trod_int Tryz.underlying3 (show DataW.trod enc _ w base sp held m _ [c2] = some x2 from h2)
      obtain ⟨s, e3, rfl, w3⟩ := DataW.trod_string Tryz.underlying9 (show DataW.trod enc _ w base sp held m _ [c3] = some x3 from h3)
      obtain ⟨t, e4, rfl, w4⟩ := DataW.trod_string Tryz.underlying9 (show DataW.trod enc _ w base sp held m _ [c4] = some x4 from h4)
      obtain ⟨u, e5, rfl, w5⟩ := DataW.trod_string Tryz.underlying9 (show DataW.trod enc _ w base sp held m _ [c5] = some x5 from h5)
      simp only [List.cons.injEq, and_true] at e0 e1 e2 e3 e4 e5
      subst e0 e1 e2 e3 e4 e5
      exact ⟨⟨k, b, c, s, t, u⟩, rfl, rfl, ⟨w0, w1, w2, w3, w4, w5⟩⟩

set_option maxRecDepth 100000 in
theorem op_shut {H : Type} {enc : TypeId × Value → H} {w : World} {base : Nat} {sp : Nat → Bool} {held : Bool} (o : OpV) (h : OpOk o) :
    DataW.trod enc Tryz.prog w base sp held 2 25 o.cells = some (opD o, []) := by
  obtain ⟨k, b, c, s, t, u⟩ := o
  obtain ⟨h0, h1, h2, h3, h4, h5⟩ := h
  dsimp only at *
  have e0 : DataW.trod enc Tryz.prog w base sp held 1 3 [.int .i64 k] = some (.lit (.int .i64 k), []) := trod_int_mk 0 Tryz.underlying3 h0
  have e1 : DataW.trod enc Tryz.prog w base sp held 1 3 [.int .i64 b] = some (.lit (.int .i64 b), []) := trod_int_mk 0 Tryz.underlying3 h1
  have e2 : DataW.trod enc Tryz.prog w base sp held 1 3 [.int .i64 c] = some (.lit (.int .i64 c), []) := trod_int_mk 0 Tryz.underlying3 h2
  have e3 : DataW.trod enc Tryz.prog w base sp held 1 9 [.string s] = some (.lit (.string s.data.toList), []) := by simp [DataW.trod, Tryz.underlying9, h3]
  have e4 : DataW.trod enc Tryz.prog w base sp held 1 9 [.string t] = some (.lit (.string t.data.toList), []) := by simp [DataW.trod, Tryz.underlying9, h4]
  have e5 : DataW.trod enc Tryz.prog w base sp held 1 9 [.string u] = some (.lit (.string u.data.toList), []) := by simp [DataW.trod, Tryz.underlying9, h5]
  refine trod_struct_mk (xs := [(.lit (.int .i64 k), []), (.lit (.int .i64 b), []), (.lit (.int .i64 c), []), (.lit (.string s.data.toList), []), (.lit (.string t.data.toList), []), (.lit (.string u.data.toList), [])]) Tryz.underlying25 (by rw [opCells]; rfl) ?_
  simp only [OpV.cells, List.mapM_cons, List.mapM_nil, intCells, strCells, List.drop_zero, List.drop_succ_cons, List.take_succ_cons, List.take_zero, e0, e1, e2, e3, e4, e5, Option.pure_def, Option.bind_eq_bind, Option.bind_some]

end Go.Proofs.YtellieabhaphhabGreatDoor

/-
  The laws: a script opened and shut.
-/
namespace Go.Proofs.YtellieabhaphhabGreatDoor
open Go.ChangeShapes Go.WideShapes Go.ChangeAt Go.RowKit Go.Deep

theorem own : ownKnob Tryz.prog.godebug = none := by kernel_rfl
theorem gT : (Tryz.prog.globals[0]?).map (·.type) = some 202 := by kernel_rfl
theorem c20 : Tryz.prog.cellsOf 202 = 20 := by kernel_rfl
theorem c64 : Tryz.prog.cellsOf 196 = 1 := by kernel_rfl

/-- What the walk leaves of old memory. -/
theorem Kp.keptBut {W W' : World} (k : Kp no W W') (S : MemPlace → Prop) : W.keptBut W' S := by
  refine ⟨k.os, k.output, fun i hi => ?_⟩
  rw [k.block i hi no_elim]
  cases W.heap[i]? with
  | none => rfl
  | some o =>
    cases o with
    | cells c t fr => exact ⟨rfl, rfl, rfl, fun _ _ => rfl⟩
    | map es clock => exact .inr ⟨rfl, rfl⟩
    | _ => rfl

theorem cell_lt {W : World} {a : Addr} {v : Value} (h : W.cell? a = some v) : a.block < W.heap.size := by
  rcases Nat.lt_or_ge a.block W.heap.size with h1 | h1
  · exact h1
  · have : W.heap[a.block]? = none := by simp [h1]
    simp [World.cell?, this] at h

theorem cells_kp {W W' : World} (k : Kp no W W') {a : Addr} (ha : a.block < W.heap.size) (n : Nat) : W'.cells? 0 a n = W.cells? 0 a n := by
  have : ∀ i, W'.cell? (a.add i) = W.cell? (a.add i) := fun i => World.cell?_of_block (by rw [add_block]; exact k.block a.block ha no_elim)
  unfold World.cells?
  simp only [this]

set_option maxRecDepth 100000 in
/-- The script, opened: its steps; shut again in what the walk leaves. -/
theorem script_open {H : Type} {enc : TypeId × Value → H} {W : World} {ao : Option Addr} {len cap : Nat} {d : DataW H} {p : List MemPlace}
    (h : DataW.Trod enc Tryz.prog W 0 (fun _ => true) true 22 (.slice ao len cap) d p) :
    (len = 0 ∨ ∃ (a : Addr) (O : Nat → OpV), ao = some a ∧ len ≤ maxLen ∧ a.block < W.heap.size ∧ Scr W a len O ∧ ∀ i, i < len → OpOk (O i)) ∧
    ∀ W', Kp no W W' → ∀ sp : Nat → Bool, (∀ q ∈ p, sp q.block = true) → DataW.Trod enc Tryz.prog W' 0 sp true 22 (.slice ao len cap) d p := by
  obtain ⟨fuel, hf⟩ := h
  rcases open_slice Tryz.underlying22 hf with ⟨h1, h2⟩ | ⟨a, len', cap', m, n, D, Pl, h1, hb, hl, hm, hmm, h2, hx⟩
  · have h1' : [Value.slice ao len cap] = [.slice none 0 0] := h1
    simp only [List.cons.injEq, Value.slice.injEq, and_true] at h1'
    obtain ⟨rfl, rfl, rfl⟩ := h1'
    simp only [Prod.mk.injEq] at h2
    obtain ⟨rfl, rfl⟩ := h2
    refine ⟨.inl rfl, fun W' _ sp _ => ⟨1, ?_⟩⟩
    simp [DataW.trod, Tryz.underlying22, Value.cells]
  · have h1' : [Value.slice ao len cap] = [.slice (some a) len' cap'] := h1
    simp only [List.cons.injEq, Value.slice.injEq, and_true] at h1'
    obtain ⟨rfl, rfl, rfl⟩ := h1'
    simp only [if_true] at hmm
    subst hmm
    simp only [Prod.mk.injEq] at h2
    obtain ⟨rfl, rfl⟩ := h2
    rw [opCells] at hx
    have : Inhabited OpV := ⟨⟨0, 0, 0, (⟨#[]⟩ : ByteArray), (⟨#[]⟩ : ByteArray), (⟨#[]⟩ : ByteArray)⟩⟩
    obtain ⟨O, hO⟩ := choose_lt (α := OpV) (p := fun i o => W.cells? 0 (a.add (i * 6)) 6 = some o.cells ∧ D i = opD o ∧ Pl i = [] ∧ OpOk o) (fun i hi => by
      obtain ⟨cs', e1, e2⟩ := hx i hi
      obtain ⟨o, rfl, e3, e4⟩ := op_open e2
      simp only [Prod.mk.injEq] at e3
      exact ⟨o, e1, e3.1, e3.2, e4⟩)
    have hcell : ∀ i, i < m → ∀ j, j < 6 → W.cell? (a.add (i * 6 + j)) = (O i).cells[j]? := fun i hi j hj => by
      have := (World.cells?_some (hO i hi).1).2.2 j hj
      rw [Deep.add_add] at this
      exact this
    have hblk : 0 < m → a.block < W.heap.size := fun h0 => by
      have := hcell 0 h0 0 (by decide)
      have h2 := cell_lt (show W.cell? (a.add (0 * 6 + 0)) = some (.int .i64 (O 0).k) from this)
      rwa [add_block] at h2
    refine ⟨?_, fun W' k sp hsp => ?_⟩
    · rcases Nat.eq_zero_or_pos len with h0 | h0
      · exact .inl h0
      · exact .inr ⟨a, O, rfl, by omega, hblk (by omega), fun i hi j hj => hcell i (by omega) j hj, fun i hi => (hO i (by omega)).2.2.2⟩
    · rcases Nat.eq_zero_or_pos m with h0 | h0
      · subst h0
        obtain rfl : len = 0 := by omega
        cases hs : sp a.block with
        | true => exact shut_slice_whole Tryz.underlying22 hb (Nat.le_refl _) hm hs D Pl (fun i hi => by omega)
        | false => exact shut_slice Tryz.underlying22 hb (Nat.le_refl _) hm hs D Pl (fun i hi => by omega)
      · have hs : sp a.block = true := hsp (.cell a.block (a.off + 0)) (List.mem_append_left _ (List.mem_map.2 ⟨0, by rw [opCells]; simp; omega, rfl⟩))
        exact shut_slice_whole Tryz.underlying22 hb hl hm hs D Pl (fun i hi => by
          obtain ⟨e1, e2, e3, e4⟩ := hO i hi
          refine ⟨(O i).cells, 2, ?_, ?_⟩
          · rw [opCells, cells_kp k (by rw [add_block]; exact hblk h0)]
            exact e1
          · rw [e2, e3]; exact op_shut (O i) e4)

end Go.Proofs.YtellieabhaphhabGreatDoor

/-
  Plain: sets of kinds, states, and what comes along a way.
-/
namespace Go.Proofs.YtellieabhaphhabGreatDoor
open Go.RowKit

abbrev KS : List UInt8 := [110, 116, 102, 122, 65, 66, 67]
abbrev KB : ByteArray := ⟨#[110, 116, 102, 122, 65, 66, 67]⟩

/-- The place of a kind's sign. -/
def kix (c : Nat) : Nat := if c = 110 then 0 else if c = 116 then 1 else if c = 102 then 2 else if c = 122 then 3 else if c = 65 then 4 else if c = 66 then 5 else if c = 67 then 6 else 7

def selB (p : Nat → Bool) : ByteArray := ⟨(KS.filter (fun u => p u.toNat)).toArray⟩

/-- A set's signs. -/
def sgB (m : Nat) : ByteArray := selB (fun c => m.testBit (kix c))

theorem sel_size (p : Nat → Bool) : (selB p).size ≤ 7 := by
  show (KS.filter _).toArray.size ≤ 7
  rw [List.size_toArray]
  exact List.length_filter_le _ KS

theorem sg_size (m : Nat) : (sgB m).size ≤ 7 := sel_size _

/-- A state: a set for each variable; nothing: []. -/
abbrev St := List Nat

def exS (s : St) : Bool := s.all (fun m => m != 0)
def nrm (s : St) : St := if exS s then s else []
def withS (s : St) (x m : Nat) : St := if s = [] ∨ m = 0 then [] else s.set x m

def tkN (op : Int) : Nat := if op = 43 ∨ op = 60 ∨ op = 65 then 1 else if op = 66 then 14 else if op = 46 then 48 else 127

def givN (op : Int) (y : Nat) : Nat :=
  if op = 48 ∨ op = 43 then 1 else if op = 84 then 2 else if op = 70 then 4 else if op = 90 then 8 else if op = 63 then 127 else if op = 118 then y else if op = 60 then 6
  else if op = 46 then ((if y.testBit 4 then 1 else 0) ||| (if y.testBit 5 then 14 else 0)) else if op = 65 then 16 else if op = 66 then 32 else 64

/-- The bit of a kind's sign. -/
def bitN (k : Int) : Nat := if k = 110 then 1 else if k = 116 then 2 else if k = 102 then 4 else if k = 122 then 8 else if k = 65 then 16 else if k = 66 then 32 else if k = 67 then 64 else 0

theorem bitN_lt (k : Int) : bitN k < 128 := by
  unfold bitN; repeat' split
  all_goals decide

/-- What comes behind a node that is no test. -/
def behF (n : Nd) (s : St) : St :=
  if n.op = 33 then [] else if n.op = 42 ∨ n.op = 94 then s
  else if n.op = 126 then withS s n.x.toNat (s.getD n.x.toNat 0 &&& bitN n.k)
  else withS (if withS s n.y.toNat (s.getD n.y.toNat 0 &&& tkN n.op) ≠ [] ∧ (n.op = 43 ∨ n.op = 60)
      then withS (withS s n.y.toNat (s.getD n.y.toNat 0 &&& tkN n.op)) n.v.toNat ((withS s n.y.toNat (s.getD n.y.toNat 0 &&& tkN n.op)).getD n.v.toNat 0 &&& tkN n.op)
      else withS s n.y.toNat (s.getD n.y.toNat 0 &&& tkN n.op)) n.x.toNat (givN n.op (s.getD n.y.toNat 0 &&& tkN n.op))

def wayM (n : Nd) (yes : Bool) : Nat := if n.op = 58 then (if yes then bitN n.k else 127 ^^^ bitN n.k) else if yes then 115 else 13

/-- What comes along a way of a test. -/
def hldF (n : Nd) (yes : Bool) (s : St) : St := withS s n.y.toNat (s.getD n.y.toNat 0 &&& wayM n yes)

def joinR (a b : St) : St × Bool := if b = [] then (a, false) else if a = [] then (b, true) else (List.zipWith (· ||| ·) a b, decide (List.zipWith (· ||| ·) a b ≠ a))

/-- A state as it can be: nothing, or six sets that are none of them empty. -/
def SOk (s : St) : Prop := s = [] ∨ (s.length = 6 ∧ ∀ m ∈ s, m ≠ 0 ∧ m < 128)

theorem SOk.nil : SOk [] := .inl rfl

theorem SOk.withS {s : St} (h : SOk s) (x m : Nat) (hm : m < 128) : SOk (withS s x m) := by
  unfold Go.Proofs.YtellieabhaphhabGreatDoor.withS
  split
  · exact .inl rfl
  · rename_i hc
    rcases h with rfl | ⟨h1, h2⟩
    · exact absurd (.inl rfl) hc
    · refine .inr ⟨by simpa using h1, fun z hz => ?_⟩
      rcases List.mem_or_eq_of_mem_set hz with h | rfl
      · exact h2 z h
      · exact ⟨fun e => hc (.inr e), hm⟩

theorem SOk.get {s : St} (h : SOk s) (x : Nat) : s.getD x 0 < 128 := by
  rcases h with rfl | ⟨_, h2⟩
  · simp
  · rw [List.getD_eq_getElem?_getD]
    cases hx : s[x]? with
    | none => simp
    | some m => exact (h2 m (List.mem_of_getElem? hx)).2

theorem and_lt {a : Nat} (b : Nat) (h : a < 128) : a &&& b < 128 := Nat.lt_of_le_of_lt Nat.and_le_left h
theorem or_lt {a b : Nat} (h : a < 128) (k : b < 128) : a ||| b < 128 := Nat.or_lt_two_pow (n := 7) h k

theorem givN_lt (op : Int) {y : Nat} (h : y < 128) : givN op y < 128 := by
  unfold givN
  repeat' split
  all_goals first | exact h | decide

theorem SOk.beh {s : St} (n : Nd) (h : SOk s) : SOk (behF n s) := by
  unfold behF
  have hy := and_lt (tkN n.op) (h.get n.y.toNat)
  repeat' split
  · exact .nil
  · exact h
  · exact h.withS _ _ (and_lt _ (h.get _))
  · exact ((h.withS _ _ hy).withS _ _ (and_lt _ ((h.withS _ _ hy).get _))).withS _ _ (givN_lt _ hy)
  · exact (h.withS _ _ hy).withS _ _ (givN_lt _ hy)

theorem SOk.hld {s : St} (n : Nd) (yes : Bool) (h : SOk s) : SOk (hldF n yes s) := h.withS _ _ (and_lt _ (h.get _))

theorem SOk.join {a b : St} (ha : SOk a) (hb : SOk b) : SOk (joinR a b).1 := by
  unfold joinR
  split
  · exact ha
  · rename_i h1
    split
    · exact hb
    · rename_i h2
      obtain ⟨la, ma⟩ := ha.resolve_left h2
      obtain ⟨lb, mb⟩ := hb.resolve_left h1
      refine .inr ⟨by simp [la, lb], fun z hz => ?_⟩
      obtain ⟨i, hi, rfl⟩ := List.getElem_of_mem hz
      rw [List.length_zipWith] at hi
      rw [List.getElem_zipWith]
      have p := ma a[i] (List.getElem_mem _)
      have q := mb b[i] (List.getElem_mem _)
      exact ⟨fun e => p.1 (Nat.or_eq_zero_iff.1 e).1, or_lt p.2 q.2⟩

/-- A state's signs. -/
def sgS (s : St) : List Value := s.map (fun m => .string (sgB m))

end Go.Proofs.YtellieabhaphhabGreatDoor

/-
  Plain: tables of states, and the least one.
-/
namespace Go.Proofs.YtellieabhaphhabGreatDoor
open Go.RowKit

abbrev Tbl := List St

def intoF (T : Tbl) (i : Int) (s : St) : Tbl × Bool :=
  if 0 ≤ i ∧ i < T.length then (T.set i.toNat (joinR (T.getD i.toNat []) s).1, (joinR (T.getD i.toNat []) s).2) else (T, false)

/-- What a node's part of a sweep does. -/
def pasF (n : Nd) (i : Nat) (T : Tbl) : Tbl × Bool :=
  if T.getD i [] = [] then (T, false)
  else if n.op = 121 ∨ n.op = 58 then
    ((intoF (intoF T n.t (hldF n true (T.getD i []))).1 n.f (hldF n false (T.getD i []))).1, (intoF T n.t (hldF n true (T.getD i []))).2 || (intoF (intoF T n.t (hldF n true (T.getD i []))).1 n.f (hldF n false (T.getD i []))).2)
  else intoF T n.t (behF n (T.getD i []))

/-- A sweep. -/
def swpF : List Nd → Nat → Tbl → Tbl × Bool
  | [], _, T => (T, false)
  | n :: l, i, T => ((swpF l (i + 1) (pasF n i T).1).1, (pasF n i T).2 || (swpF l (i + 1) (pasF n i T).1).2)

theorem swp_snoc (n : Nd) : ∀ (l : List Nd) (i : Nat) (T : Tbl), swpF (l ++ [n]) i T = ((pasF n (i + l.length) (swpF l i T).1).1, (swpF l i T).2 || (pasF n (i + l.length) (swpF l i T).1).2)
  | [], i, T => by simp [swpF]
  | m :: l, i, T => by
    rw [List.cons_append, swpF, swp_snoc n l (i + 1) (pasF m i T).1, swpF, List.length_cons, show i + 1 + l.length = i + (l.length + 1) by omega, Bool.or_assoc]

def itF (l : List Nd) : Nat → Tbl → Tbl
  | 0, T => T
  | k + 1, T => itF l k (swpF l 0 T).1

theorem it_succ (l : List Nd) : ∀ (k : Nat) (T : Tbl), itF l (k + 1) T = (swpF l 0 (itF l k T)).1
  | 0, _ => rfl
  | k + 1, T => by rw [itF, it_succ l k, ← itF]

theorem it_fix (l : List Nd) (T : Tbl) (h : (swpF l 0 T).1 = T) : ∀ k, itF l k T = T
  | 0 => rfl
  | k + 1 => by rw [itF, h, it_fix l T h k]

theorem it_add (l : List Nd) : ∀ (a b : Nat) (T : Tbl), itF l (a + b) T = itF l b (itF l a T)
  | 0, b, T => by rw [Nat.zero_add]; rfl
  | a + 1, b, T => by rw [show a + 1 + b = (a + b) + 1 by omega, itF, it_add l a b, ← itF]

/-- What has come to rest stays. -/
theorem it_rest (l : List Nd) (T : Tbl) (j : Nat) (hf : (swpF l 0 (itF l j T)).1 = itF l j T) (N : Nat) (hN : j ≤ N) : itF l N T = itF l j T := by
  obtain ⟨b, rfl⟩ := Nat.exists_eq_add_of_le hN
  rw [it_add, it_fix l _ hf]

-- lengths
theorem into_len (T : Tbl) (i : Int) (s : St) : (intoF T i s).1.length = T.length := by unfold intoF; split <;> simp
theorem pas_len (n : Nd) (i : Nat) (T : Tbl) : (pasF n i T).1.length = T.length := by
  unfold pasF
  repeat' split
  · rfl
  · simp [into_len]
  · simp [into_len]
theorem swp_len : ∀ (l : List Nd) (i : Nat) (T : Tbl), (swpF l i T).1.length = T.length
  | [], _, _ => rfl
  | n :: l, i, T => by rw [swpF]; show (swpF l (i + 1) (pasF n i T).1).1.length = _; rw [swp_len l, pas_len]
theorem it_len (l : List Nd) : ∀ (k : Nat) (T : Tbl), (itF l k T).length = T.length
  | 0, _ => rfl
  | k + 1, T => by rw [itF, it_len l k, swp_len]

-- what is not turned is as it was
theorem join_same {a b : St} (h : (joinR a b).2 = false) : (joinR a b).1 = a := by
  unfold joinR at h ⊢
  split
  · rfl
  · rename_i h1
    rw [if_neg h1] at h
    split
    · rename_i h2; rw [if_pos h2] at h; cases h
    · rename_i h2
      rw [if_neg h2] at h
      simpa using h

theorem set_getD {T : Tbl} {i : Nat} (h : i < T.length) : T.set i (T.getD i []) = T := by
  rw [List.getD_eq_getElem?_getD, List.getElem?_eq_getElem h, Option.getD_some, List.set_getElem_self]

theorem into_same {T : Tbl} {i : Int} {s : St} (h : (intoF T i s).2 = false) : (intoF T i s).1 = T := by
  unfold intoF at h ⊢
  split
  · rename_i hc
    rw [if_pos hc] at h
    show T.set i.toNat _ = T
    rw [join_same h, set_getD (by omega)]
  · rfl

theorem pas_same {n : Nd} {i : Nat} {T : Tbl} (h : (pasF n i T).2 = false) : (pasF n i T).1 = T := by
  unfold pasF at h ⊢
  split
  · rfl
  · rename_i h1
    rw [if_neg h1] at h
    split
    · rename_i h2
      rw [if_pos h2] at h
      rw [Bool.or_eq_false_iff] at h
      show (intoF _ _ _).1 = T
      rw [into_same h.2, into_same h.1]
    · rename_i h2
      rw [if_neg h2] at h
      exact into_same h

theorem swp_same : ∀ {l : List Nd} {i : Nat} {T : Tbl}, (swpF l i T).2 = false → (swpF l i T).1 = T
  | [], _, _, _ => rfl
  | n :: l, i, T, h => by
    rw [swpF] at h ⊢
    rw [Bool.or_eq_false_iff] at h
    show (swpF l (i + 1) (pasF n i T).1).1 = T
    rw [swp_same h.2, pas_same h.1]

-- tables are of states as they can be
def TOk (T : Tbl) : Prop := ∀ s ∈ T, SOk s

theorem TOk.get {T : Tbl} (h : TOk T) (i : Nat) : SOk (T.getD i []) := by
  rw [List.getD_eq_getElem?_getD]
  cases hx : T[i]? with
  | none => exact .nil
  | some m => exact h m (List.mem_of_getElem? hx)

theorem TOk.into {T : Tbl} (h : TOk T) (i : Int) {s : St} (hs : SOk s) : TOk (intoF T i s).1 := by
  unfold intoF
  split
  · intro z hz
    rcases List.mem_or_eq_of_mem_set hz with h1 | rfl
    · exact h z h1
    · exact (h.get _).join hs
  · exact h

theorem TOk.pas {T : Tbl} (h : TOk T) (n : Nd) (i : Nat) : TOk (pasF n i T).1 := by
  unfold pasF
  repeat' split
  · exact h
  · exact (h.into _ ((h.get i).hld n true)).into _ ((h.get i).hld n false)
  · exact h.into _ ((h.get i).beh n)

theorem TOk.swp : ∀ {l : List Nd} {i : Nat} {T : Tbl}, TOk T → TOk (swpF l i T).1
  | [], _, _, h => h
  | n :: l, i, T, h => by rw [swpF]; exact TOk.swp (h.pas n i)

theorem TOk.it {l : List Nd} : ∀ {k : Nat} {T : Tbl}, TOk T → TOk (itF l k T)
  | 0, _, h => h
  | k + 1, T, h => by rw [itF]; exact TOk.it h.swp

-- a measure
def pc (m : Nat) : Nat := (List.range 7).countP (fun i => m.testBit i)
def mS (s : St) : Nat := (s.map pc).sum
def mT (T : Tbl) : Nat := (T.map mS).sum

theorem pc_le (a b : Nat) : pc a ≤ pc (a ||| b) := List.countP_mono_left (fun i _ h => by rw [Nat.testBit_or, h, Bool.true_or])
theorem pc_seven (a : Nat) : pc a ≤ 7 := List.countP_le_length
theorem pc_lt {a b : Nat} (ha : a < 128) (hb : b < 128) (h : a ||| b ≠ a) : pc a < pc (a ||| b) := by
  rcases Nat.lt_or_ge (pc a) (pc (a ||| b)) with h1 | h1
  · exact h1
  · exfalso
    apply h
    refine Nat.eq_of_testBit_eq fun i => ?_
    by_cases hi : i < 7
    · cases hc : a.testBit i
      · cases hd : (a ||| b).testBit i
        · rfl
        · exfalso
          have key : ∀ (l : List Nat), i ∈ l → l.countP (fun i => a.testBit i) < l.countP (fun i => (a ||| b).testBit i) := by
            intro l hl
            induction l with
            | nil => cases hl
            | cons x l ih =>
              have hm : l.countP (fun i => a.testBit i) ≤ l.countP (fun i => (a ||| b).testBit i) := List.countP_mono_left (fun i _ h => by rw [Nat.testBit_or, h, Bool.true_or])
              rw [List.countP_cons, List.countP_cons]
              rcases List.mem_cons.1 hl with rfl | hl'
              · rw [hc, hd, if_pos rfl, if_neg (by decide)]; omega
              · have := ih hl'
                have h2 : (if a.testBit x = true then 1 else 0) ≤ (if (a ||| b).testBit x = true then 1 else 0) := by
                  rw [Nat.testBit_or]; cases a.testBit x <;> cases b.testBit x <;> simp
                omega
          have := key (List.range 7) (by simpa using hi)
          unfold pc at h1
          omega
      · rw [Nat.testBit_or, hc, Bool.true_or]
    · have h2 : 128 ≤ 2 ^ i := by
        have : 2 ^ 7 ≤ 2 ^ i := Nat.pow_le_pow_right (by decide) (by omega)
        omega
      have := or_lt ha hb
      rw [Nat.testBit_lt_two_pow (by omega), Nat.testBit_lt_two_pow (by omega)]

theorem zip_le : ∀ (a b : St), a.length ≤ b.length → mS a ≤ mS (List.zipWith (· ||| ·) a b)
  | [], _, _ => Nat.zero_le _
  | x :: a, [], h => by simp at h
  | x :: a, y :: b, h => by
    have := zip_le a b (by simpa using h)
    have := pc_le x y
    simp only [mS, List.zipWith_cons_cons, List.map_cons, List.sum_cons] at *
    omega

theorem zip_lt : ∀ (a b : St), a.length ≤ b.length → (∀ m ∈ a, m < 128) → (∀ m ∈ b, m < 128) → List.zipWith (· ||| ·) a b ≠ a → mS a < mS (List.zipWith (· ||| ·) a b)
  | [], _, _, _, _, h => by simp at h
  | x :: a, [], h, _, _, _ => by simp at h
  | x :: a, y :: b, h, ha, hb, hne => by
    have h1 := zip_le a b (by simpa using h)
    have h2 := pc_le x y
    by_cases hx : x ||| y = x
    · have := zip_lt a b (by simpa using h) (fun m hm => ha m (List.mem_cons_of_mem _ hm)) (fun m hm => hb m (List.mem_cons_of_mem _ hm)) (fun e => hne (by rw [List.zipWith_cons_cons, hx, e]))
      simp only [mS, List.zipWith_cons_cons, List.map_cons, List.sum_cons] at *
      omega
    · have := pc_lt (ha x (List.mem_cons_self ..)) (hb y (List.mem_cons_self ..)) hx
      simp only [mS, List.zipWith_cons_cons, List.map_cons, List.sum_cons] at *
      omega

theorem pc_pos {a : Nat} (ha : a < 128) (h : a ≠ 0) : 0 < pc a := by
  have := pc_lt (a := 0) (b := a) (by decide) ha (by simpa using h)
  simp only [Nat.zero_or] at this
  omega

theorem mS_le (s : St) : mS s ≤ 7 * s.length := by
  induction s with
  | nil => exact Nat.le_refl _
  | cons x s ih =>
    have := pc_seven x
    simp only [mS, List.map_cons, List.sum_cons, List.length_cons] at *
    omega

theorem mS_ok {s : St} (h : SOk s) : mS s ≤ 42 := by
  have := mS_le s
  rcases h with rfl | ⟨h, _⟩
  · decide
  · omega

theorem join_le {a b : St} (ha : SOk a) (hb : SOk b) : mS a ≤ mS (joinR a b).1 ∧ ((joinR a b).2 = true → mS a < mS (joinR a b).1) := by
  unfold joinR
  split
  · exact ⟨Nat.le_refl _, fun h => by cases h⟩
  · rename_i h1
    obtain ⟨lb, mb⟩ := hb.resolve_left h1
    split
    · rename_i h2
      subst h2
      have : 0 < mS b := by
        match b, lb, mb with
        | x :: b, _, mb =>
          have := pc_pos (mb x (List.mem_cons_self ..)).2 (mb x (List.mem_cons_self ..)).1
          simp only [mS, List.map_cons, List.sum_cons]
          omega
      exact ⟨Nat.zero_le _, fun _ => this⟩
    · rename_i h2
      obtain ⟨la, ma⟩ := ha.resolve_left h2
      exact ⟨zip_le a b (by omega), fun h => zip_lt a b (by omega) (fun m hm => (ma m hm).2) (fun m hm => (mb m hm).2) (by simpa using h)⟩

theorem mT_set : ∀ (T : Tbl) (i : Nat) (s : St), i < T.length → mT (T.set i s) + mS (T.getD i []) = mT T + mS s
  | [], i, _, h => by simp at h
  | a :: T, 0, s, _ => by simp only [List.set_cons_zero, mT, List.map_cons, List.sum_cons, List.getD_cons_zero]; omega
  | a :: T, i + 1, s, h => by
    have := mT_set T i s (by simpa using h)
    simp only [List.set_cons_succ, mT, List.map_cons, List.sum_cons, List.getD_cons_succ] at *
    omega

theorem mT_le : ∀ {T : Tbl}, TOk T → mT T ≤ 42 * T.length
  | [], _ => Nat.le_refl _
  | a :: T, h => by
    have h1 := mS_ok (h a (List.mem_cons_self ..))
    have h2 := mT_le (T := T) (fun s hs => h s (List.mem_cons_of_mem _ hs))
    simp only [mT, List.map_cons, List.sum_cons, List.length_cons] at *
    omega

theorem into_le {T : Tbl} (h : TOk T) (i : Int) {s : St} (hs : SOk s) : mT T ≤ mT (intoF T i s).1 ∧ ((intoF T i s).2 = true → mT T < mT (intoF T i s).1) := by
  unfold intoF
  split
  · rename_i hc
    have h1 := join_le (h.get i.toNat) hs
    have h2 := mT_set T i.toNat (joinR (T.getD i.toNat []) s).1 (by omega)
    refine ⟨?_, fun e => ?_⟩
    · dsimp only; omega
    · have := h1.2 e; dsimp only; omega
  · exact ⟨Nat.le_refl _, fun h => by cases h⟩

theorem pas_le {T : Tbl} (h : TOk T) (n : Nd) (i : Nat) : mT T ≤ mT (pasF n i T).1 ∧ ((pasF n i T).2 = true → mT T < mT (pasF n i T).1) := by
  unfold pasF
  repeat' split
  · exact ⟨Nat.le_refl _, fun h => by cases h⟩
  · have h1 := into_le h n.t ((h.get i).hld n true)
    have h2 := into_le (h.into n.t ((h.get i).hld n true)) n.f ((h.get i).hld n false)
    refine ⟨Nat.le_trans h1.1 h2.1, fun e => ?_⟩
    rw [Bool.or_eq_true] at e
    rcases e with e | e
    · exact Nat.lt_of_lt_of_le (h1.2 e) h2.1
    · exact Nat.lt_of_le_of_lt h1.1 (h2.2 e)
  · exact into_le h _ ((h.get i).beh n)

theorem swp_le : ∀ {l : List Nd} {i : Nat} {T : Tbl}, TOk T → mT T ≤ mT (swpF l i T).1 ∧ ((swpF l i T).2 = true → mT T < mT (swpF l i T).1)
  | [], _, _, _ => ⟨Nat.le_refl _, fun h => by cases h⟩
  | n :: l, i, T, h => by
    have h1 := pas_le h n i
    have h2 := swp_le (l := l) (i := i + 1) (h.pas n i)
    rw [swpF]
    refine ⟨Nat.le_trans h1.1 h2.1, fun e => ?_⟩
    rw [Bool.or_eq_true] at e
    rcases e with e | e
    · exact Nat.lt_of_lt_of_le (h1.2 e) h2.1
    · exact Nat.lt_of_le_of_lt h1.1 (h2.2 e)

-- the end's state has no part in it
theorem getD_take {T : Tbl} {i k : Nat} (h : i < k) : (T.take k).getD i [] = T.getD i [] := by
  rw [List.getD_eq_getElem?_getD, List.getD_eq_getElem?_getD, List.getElem?_take_of_lt h]

theorem into_take {T : Tbl} {k : Nat} (hT : T.length = k + 1) (i : Int) (s : St) : (intoF T i s).1.take k = (intoF (T.take k) i s).1 := by
  unfold intoF
  rw [List.length_take, hT]
  by_cases hc : 0 ≤ i ∧ i < ((min k (k + 1) : Nat) : Int)
  · rw [if_pos hc, if_pos ⟨hc.1, by omega⟩, List.take_set, getD_take (by omega)]
  · rw [if_neg hc]
    by_cases h2 : 0 ≤ i ∧ i < ((k + 1 : Nat) : Int)
    · rw [if_pos h2, List.take_set]
      exact List.set_eq_of_length_le (by rw [List.length_take]; omega)
    · rw [if_neg h2]

theorem pas_take {T : Tbl} {k : Nat} (hT : T.length = k + 1) (n : Nd) {i : Nat} (hi : i < k) : (pasF n i T).1.take k = (pasF n i (T.take k)).1 := by
  unfold pasF
  rw [getD_take hi]
  repeat' split
  · rfl
  · rw [into_take (by rw [into_len]; exact hT), into_take hT]
  · rw [into_take hT]

theorem swp_take {k : Nat} : ∀ {l : List Nd} {i : Nat} {T : Tbl}, T.length = k + 1 → i + l.length ≤ k → (swpF l i T).1.take k = (swpF l i (T.take k)).1
  | [], _, _, _, _ => rfl
  | n :: l, i, T, hT, hi => by
    rw [List.length_cons] at hi
    rw [swpF, swpF, swp_take (by rw [pas_len]; exact hT) (by omega), pas_take hT n (by omega)]

theorem it_take {l : List Nd} {k : Nat} (hk : l.length ≤ k) : ∀ {j : Nat} {T : Tbl}, T.length = k + 1 → (itF l j T).take k = itF l j (T.take k)
  | 0, _, _ => rfl
  | j + 1, T, hT => by rw [itF, itF, it_take hk (by rw [swp_len]; exact hT), swp_take hT (by omega)]

/-- The state in which runs begin. -/
abbrev st0 : St := [8, 8, 8, 8, 8, 8]
/-- The table at the beginning, with the end's state. -/
def tR (k : Nat) : Tbl := st0 :: List.replicate k []
/-- The least table. -/
def lstF (l : List Nd) : Tbl := (itF l 4000 (tR l.length)).take l.length

theorem st0_ok : SOk st0 := .inr ⟨rfl, by decide⟩
theorem tR_ok (k : Nat) : TOk (tR k) := by
  intro s hs
  rcases List.mem_cons.1 hs with rfl | h
  · exact st0_ok
  · rw [List.eq_of_mem_replicate h]; exact .nil

theorem lst_len (l : List Nd) : (lstF l).length = l.length := by
  unfold lstF tR
  rw [List.length_take, it_len]; simp

theorem lst_ok (l : List Nd) : TOk (lstF l) := fun s hs => TOk.it (tR_ok _) s (List.mem_of_mem_take hs)
end Go.Proofs.YtellieabhaphhabGreatDoor

/-
  Rows of structs: cells of an element, an element's cell set.
-/
namespace Go.Proofs.YtellieabhaphhabGreatDoor
open Go.RowKit

theorem flat_len {α : Type} (f : α → List Value) (k : Nat) (hf : ∀ x, (f x).length = k) (l : List α) : (l.flatMap f).length = l.length * k := by
  induction l with
  | nil => simp
  | cons x l ih => simp [hf, ih, Nat.add_mul, Nat.add_comm]

theorem flat_get {α : Type} (f : α → List Value) (k : Nat) (hf : ∀ x, (f x).length = k) : ∀ (l : List α) (i j : Nat) (hi : i < l.length), j < k → (l.flatMap f)[i * k + j]? = (f l[i])[j]? := by
  intro l
  induction l with
  | nil => intro i j hi; simp at hi
  | cons x l ih =>
    intro i j hi hj
    rw [List.flatMap_cons]
    cases i with
    | zero => rw [List.getElem?_append_left (by rw [hf]; omega)]; simp
    | succ i =>
      have e : (i + 1) * k + j = (f x).length + (i * k + j) := by rw [hf, Nat.add_mul]; omega
      rw [e, List.getElem?_append_right (by omega)]
      have e2 : (f x).length + (i * k + j) - (f x).length = i * k + j := by omega
      rw [e2]
      exact ih i j (by simpa using hi) hj

theorem Row.cell {w : World} {g n cap size : Nat} {e : TypeId} {xs : List Value} (h : Row w (.slice (some ⟨g, 0, none⟩) n cap) e size n xs) (j : Nat) (hj : j < n * size) : w.cell? ⟨g, j, none⟩ = xs[j]? := by
  rcases h.2 with ⟨h0, _⟩ | ⟨g', cap', cur, hv, _, hg, hnc, _, hs, ht⟩
  · cases h0
  · simp only [Value.slice.injEq, Option.some.injEq, Addr.mk.injEq] at hv
    obtain ⟨⟨rfl, _⟩, _, rfl⟩ := hv
    rw [cell_of_row w g j cur e (0, 0) hg, ← ht, List.getElem?_take, if_pos hj]
    simp

theorem Row.frozen {w : World} {g n cap size : Nat} {e : TypeId} {xs : List Value} (h : Row w (.slice (some ⟨g, 0, none⟩) n cap) e size n xs) (j : Nat) : w.frozen? ⟨g, j, none⟩ = false := by
  rcases h.2 with ⟨h0, _⟩ | ⟨g', cap', cur, hv, _, hg, hnc, _, hs, ht⟩
  · cases h0
  · simp only [Value.slice.injEq, Option.some.injEq, Addr.mk.injEq] at hv
    obtain ⟨⟨rfl, _⟩, _, rfl⟩ := hv
    simp [World.frozen?, hg]

theorem Row.cap {w : World} {g n cap size : Nat} {e : TypeId} {xs : List Value} (h : Row w (.slice (some ⟨g, 0, none⟩) n cap) e size n xs) : n ≤ cap ∧ cap ≤ maxLen := by
  rcases h.2 with ⟨h0, _⟩ | ⟨g', cap', cur, hv, _, hg, hnc, hm, hs, ht⟩
  · cases h0
  · simp only [Value.slice.injEq, Option.some.injEq, Addr.mk.injEq] at hv
    obtain ⟨⟨rfl, _⟩, _, rfl⟩ := hv
    exact ⟨hnc, hm⟩

/-- A cell of the row is set. -/
theorem Row.setIn {w : World} {g n cap size : Nat} {e : TypeId} {xs : List Value} (h : Row w (.slice (some ⟨g, 0, none⟩) n cap) e size n xs) (j : Nat) (u : Value) :
    Row (w.setCell ⟨g, j, none⟩ u) (.slice (some ⟨g, 0, none⟩) n cap) e size n (xs.set j u) := by
  refine ⟨by rw [List.length_set]; exact h.1, ?_⟩
  rcases h.2 with ⟨h0, _⟩ | ⟨g', cap', cur, hv, hb, hg, hnc, hm, hs, ht⟩
  · cases h0
  · simp only [Value.slice.injEq, Option.some.injEq, Addr.mk.injEq] at hv
    obtain ⟨⟨rfl, _⟩, _, rfl⟩ := hv
    refine .inr ⟨g, cap, cur.setIfInBounds j u, rfl, hb, ?_, hnc, hm, by simpa using hs, ?_⟩
    · simp [World.setCell, Array.getElem?_modify, hg]
    · rw [Array.toList_setIfInBounds, ← ht, List.take_set]
end Go.Proofs.YtellieabhaphhabGreatDoor

/-
  narrowref's reader: the ends of pieces.
-/
namespace Go.Proofs.YtellieabhaphhabGreatDoor
open Go.RowKit

theorem nd9 (x : Nd) : x.cells.length = 9 := rfl

theorem Went.drew {w w' : World} {O : Nat → Prop} {r : Nat} {s : ByteArray} {st : RS} (h : Went w O r s st w') : Went w O r s st w'.drew :=
  let ⟨O', h1, h2, h3⟩ := h
  ⟨O', h1, h2.drew, h3⟩

end Go.Proofs.YtellieabhaphhabGreatDoor

/-
  narrowref's reader: conditions.
-/
namespace Go.Proofs.YtellieabhaphhabGreatDoor
open Go.RowKit

/-- From w, the reader's own blocks being O, to w', they being O'. -/
def Th (O : Nat → Prop) (w : World) (O' : Nat → Prop) (w' : World) : Prop := Kp O w w' ∧ ∀ b, O' b → b < w.heap.size → O b

theorem Th.refl (O : Nat → Prop) (w : World) : Th O w O w := ⟨Kp.refl _ _, fun _ h _ => h⟩
theorem Th.trans {O O1 O2 : Nat → Prop} {w w1 w2 : World} (h : Th O w O1 w1) (k : Th O1 w1 O2 w2) : Th O w O2 w2 :=
  ⟨h.1.trans k.1 (fun x hx e => h.2 x e hx), fun b hb hl => h.2 b (k.2 b hb (Nat.lt_of_lt_of_le hl h.1.size)) hl⟩
theorem Th.n {O O1 : Nat → Prop} {w w1 : World} (h : Th O w O1 w1) (n : Nat) : Th O w O1 (w1.drewN n) := ⟨h.1.drewN n, h.2⟩
theorem Th.drew {O O1 : Nat → Prop} {w w1 : World} (h : Th O w O1 w1) : Th O w O1 w1.drew := ⟨h.1.drew, h.2⟩
theorem Th.alloc {O O1 : Nat → Prop} {w w1 : World} (h : Th O w O1 w1) (o : Obj) : Th O w O1 (w1.alloc o) := ⟨h.1.alloc o, h.2⟩
theorem Th.set {O O1 : Nat → Prop} {w w1 : World} (h : Th O w O1 w1) {a : Addr} (v : Value) (ha : O1 a.block ∨ w.heap.size ≤ a.block) : Th O w O1 (w1.setCell a v) :=
  ⟨h.1.setCell v (fun hl => by rcases ha with ha | ha; exact h.2 _ ha hl; omega), h.2⟩
section
variable {w : World} {r : Nat} {s : ByteArray} {st : RS} {O : Nat → Prop}

theorem Rp.n (h : Rp w r s st O) (n : Nat) : Rp (w.drewN n) r s st O := h
theorem Rp.drew (h : Rp w r s st O) : Rp w.drew r s st O := h
theorem Rp.own (h : Rp w r s st O) : O r := by
  obtain ⟨nv, iv, hB, hN, hI, d1, d2, d3, rfl⟩ := h; exact .inl rfl
theorem Rp.lt (h : Rp w r s st O) : ∀ b, O b → b < w.heap.size := by
  obtain ⟨nv, iv, hB, hN, hI, d1, d2, d3, rfl⟩ := h
  rintro b (h | h | h)
  · subst h; exact hB.lt
  · exact hN.lt h
  · exact hI.lt h
theorem Rp.c (h : Rp w r s st O) : w.cell? ⟨r, 0, none⟩ = some (.string s) ∧ w.cell? ⟨r, 1, none⟩ = some (.int .i64 st.i) ∧ w.cell? ⟨r, 2, none⟩ = some (.bool st.bad) ∧
    w.cell? ⟨r, 5, none⟩ = some (.int .i64 st.loops) ∧ ∀ o, w.frozen? ⟨r, o, none⟩ = false := by
  obtain ⟨nv, iv, hB, hN, hI, d1, d2, d3, rfl⟩ := h
  exact ⟨Blk.cell hB 0, Blk.cell hB 1, Blk.cell hB 2, Blk.cell hB 5, Blk.frozen hB⟩
theorem Rp.alloc (h : Rp w r s st O) (o : Obj) : Rp (w.alloc o) r s st O := by
  obtain ⟨nv, iv, hB, hN, hI, d1, d2, d3, rfl⟩ := h
  exact ⟨nv, iv, Blk.alloc hB o, hN.alloc o, hI.alloc o, d1, d2, d3, rfl⟩
/-- A store into a block that is not the reader's. -/
theorem Rp.other (h : Rp w r s st O) {b o : Nat} (v : Value) (hb : ¬ O b) : Rp (w.setCell ⟨b, o, none⟩ v) r s st O := by
  obtain ⟨nv, iv, hB, hN, hI, d1, d2, d3, rfl⟩ := h
  exact ⟨nv, iv, Blk.other hB v (fun e => hb (.inl e.symm)), hN.set v (fun e => hb (.inr (.inl e))), hI.set v (fun e => hb (.inr (.inr e))), d1, d2, d3, rfl⟩
theorem Rp.next (h : Rp w r s st O) : Rp (w.setCell ⟨r, 1, none⟩ (.int .i64 (st.i + 1))) r s { st with i := st.i + 1 } O := by
  obtain ⟨nv, iv, hB, hN, hI, d1, d2, d3, rfl⟩ := h
  exact ⟨nv, iv, Blk.set hB 1 _, hN.set _ d1, hI.set _ d2, d1, d2, d3, rfl⟩
theorem Rp.setBad (h : Rp w r s st O) : Rp (w.setCell ⟨r, 2, none⟩ (.bool true)) r s { st with bad := true } O := by
  obtain ⟨nv, iv, hB, hN, hI, d1, d2, d3, rfl⟩ := h
  exact ⟨nv, iv, Blk.set hB 2 _, hN.set _ d1, hI.set _ d2, d1, d2, d3, rfl⟩
end

/-! The condition, as a function. -/
theorem varF_ge (s : ByteArray) (p : Nat × Bool) : p.1 ≤ (varF s p).2.1 ∧ ((varF s p).2.2 = false → p.1 < (varF s p).2.1) := by
  unfold varF; split
  · exact ⟨Nat.le_refl _, by simp⟩
  · exact ⟨Nat.le_succ _, fun _ => Nat.lt_succ_self _⟩
theorem kindF_ge (s : ByteArray) (p : Nat × Bool) : p.1 ≤ (kindF s p).2.1 ∧ ((kindF s p).2.2 = false → p.1 < (kindF s p).2.1) := by
  unfold kindF; split
  · exact ⟨Nat.le_refl _, by simp⟩
  · exact ⟨Nat.le_succ _, fun _ => Nat.lt_succ_self _⟩
theorem eatF_ge (s : ByteArray) (p : Nat × Bool) (c : Nat) : p.1 ≤ (eatF s p c).1 ∧ ((eatF s p c).2 = false → p.1 < (eatF s p c).1 ∧ p.2 = false) := by
  unfold eatF; split
  · exact ⟨Nat.le_refl _, by simp⟩
  · rename_i h; exact ⟨Nat.le_succ _, fun _ => ⟨Nat.lt_succ_self _, by simp at h; exact h.1⟩⟩
theorem testF_ge (s : ByteArray) (i : Nat) : i ≤ (testF s i).2.1 ∧ ((testF s i).2.2 = false → i < (testF s i).2.1) := by
  have h1 := varF_ge s (i, false)
  unfold testF; split
  · have h2 := kindF_ge s ((varF s (i, false)).2.1 + 1, false)
    simp only at h1 h2 ⊢
    exact ⟨by omega, fun h => by omega⟩
  · exact h1

/-- Within bounds: at most a node and a piece for each byte that has been read; one more, if it is bad. -/
structure Inv (s : ByteArray) (st : RS) : Prop where
  i : st.i ≤ s.size
  n : st.nodes.length ≤ st.i + cond st.bad 1 0
  t : st.items.length ≤ st.i + cond st.bad 1 0
  lp : st.loops ≤ st.i

/-- It has gone on. -/
structure Mono (st st' : RS) : Prop where
  i : st.i ≤ st'.i
  n : st.nodes.length ≤ st'.nodes.length
  t : st.items.length ≤ st'.items.length

theorem Mono.refl (st : RS) : Mono st st := ⟨Nat.le_refl _, Nat.le_refl _, Nat.le_refl _⟩
theorem Mono.trans {a b c : RS} (h : Mono a b) (k : Mono b c) : Mono a c := ⟨Nat.le_trans h.i k.i, Nat.le_trans h.n k.n, Nat.le_trans h.t k.t⟩

end Go.Proofs.YtellieabhaphhabGreatDoor

/-
  narrowref's reader: statements, as functions.
-/
namespace Go.Proofs.YtellieabhaphhabGreatDoor
open Go.RowKit

/-- What a part of the reader does to bounds. -/
structure Good (s : ByteArray) (st st' : RS) : Prop where
  inv : Inv s st'
  mono : Mono st st'
  loops : st'.loops = st.loops

theorem Good.refl {s : ByteArray} {st : RS} (h : Inv s st) : Good s st st := ⟨h, Mono.refl _, rfl⟩
theorem Good.trans {s : ByteArray} {a b c : RS} (h : Good s a b) (k : Good s b c) : Good s a c := ⟨k.inv, h.mono.trans k.mono, k.loops.trans h.loops⟩

theorem simpF_ge (s : ByteArray) (i : Nat) : i ≤ (simpF s i).2.1 ∧ ((simpF s i).2.2 = false → i < (simpF s i).2.1) := by
  have h1 := varF_ge s (i, false)
  have h2 := eatF_ge s (varF s (i, false)).2 61
  unfold simpF
  repeat' split
  · have := varF_ge s (i + 1, false); simp only at this ⊢; omega
  · simp
  · have := kindF_ge s ((varF s (i, false)).2.1 + 1, false); simp only at this h1 ⊢; omega
  · simp only at h1 h2 ⊢
    rename_i hq
    exact ⟨by omega, fun h => by rw [h] at hq; cases hq⟩
  · have h3 : (eatF s (varF s (i, false)).2 61).1 ≤ (valF s (eatF s (varF s (i, false)).2 61).1 { nd0 i with x := (varF s (i, false)).1 }).2.1 := by
      generalize (eatF s (varF s (i, false)).2 61).1 = j
      unfold valF
      have g1 := varF_ge s (j + 1, false)
      have g2 := varF_ge s (j, false)
      have g3 := varF_ge s (varF s (j + 1, false)).2
      repeat' split
      all_goals (simp only at g1 g2 g3 ⊢; omega)
    rename_i hq
    have h4 := h2.2 (by simpa using hq)
    simp only at h1 h3 h4 ⊢
    exact ⟨by omega, fun _ => by omega⟩

end Go.Proofs.YtellieabhaphhabGreatDoor

/-
  narrowref's reader: the walk of statements, and of a source.
-/
namespace Go.Proofs.YtellieabhaphhabGreatDoor
open Go.RowKit

def rs0 : RS := { i := 0, bad := false, nodes := [], items := [], loops := 0 }

end Go.Proofs.YtellieabhaphhabGreatDoor

/-
  narrowref's machine: small parts.
-/
namespace Go.Proofs.YtellieabhaphhabGreatDoor
open Go.RowKit

def capF (k : Int) : ByteArray := if k = 116 then ⟨#[84]⟩ else if k = 102 then ⟨#[70]⟩ else if k = 122 then ⟨#[90]⟩ else ⟨#[67]⟩

theorem conv2 (W : World) (k l : Int) : (convert 167 9 (.slice (some ⟨W.heap.size, 0, none⟩) 2 2)).run Tryz.prog (W.alloc (.cells #[.int .u8 k, .int .u8 l] 5)) = .ok (.string (strOfNums [k, l])) (W.alloc (.cells #[.int .u8 k, .int .u8 l] 5)) := by
  refine run_convert_bytes_arg (P := Tryz.prog) _ 167 5 Tryz.underlying167 Tryz.underlying5 W.heap.size 0 2 2 [k, l] rfl ?_ 9 Tryz.underlying9
  intro i hi
  have h := (Blk.new W [.int .u8 k, .int .u8 l] 5).cell (0 + i)
  rw [h]
  obtain rfl | rfl : i = 0 ∨ i = 1 := by omega
  · rfl
  · rfl

/-- A node's number, in two digits. -/
def twoB (n : Nat) : ByteArray := strOfNums [48 + (n : Int) / 10, 48 + (n : Int) % 10]

def takF (op : Int) : ByteArray :=
  if op = 43 ∨ op = 60 ∨ op = 65 then ⟨#[110]⟩ else if op = 66 then ⟨#[116, 102, 122]⟩ else if op = 46 then ⟨#[65, 66]⟩ else ⟨#[110, 116, 102, 122, 65, 66, 67]⟩

end Go.Proofs.YtellieabhaphhabGreatDoor

/-
  narrowref's machine: what it holds; steps told.
-/
namespace Go.Proofs.YtellieabhaphhabGreatDoor
open Go.RowKit

structure Vl where
  k : Int
  n : Int
  v : Int

def Vl.cells (x : Vl) : List Value := [.int .u8 x.k, .int .i64 x.n, .int .u8 x.v]
def vCells (l : List Vl) : List Value := l.flatMap Vl.cells
theorem vl3 (x : Vl) : x.cells.length = 3 := rfl

structure Mc where
  l : List Vl
  rd : Nat
  left : Nat
  tr : ByteArray
  out : ByteArray
  e : Int

/-- The machine: its block, and the row of its variables. -/
structure MB (w : World) (m lb : Nat) (inp : ByteArray) (st : Mc) : Prop where
  b : Blk w m [.slice (some ⟨lb, 0, none⟩) 6 6, .string inp, .int .i64 st.rd, .int .i64 st.left, .string st.tr, .string st.out, .int .i64 st.e] 115
  l : Blk w lb (vCells st.l) 151
  ne : m ≠ lb
  six : st.l.length = 6

def MK (m lb : Nat) (b : Nat) : Prop := b = m ∨ b = lb

section
variable {w : World} {m lb : Nat} {inp : ByteArray} {st : Mc}

theorem MB.c (h : MB w m lb inp st) : w.cell? ⟨m, 0, none⟩ = some (.slice (some ⟨lb, 0, none⟩) 6 6) ∧ w.cell? ⟨m, 1, none⟩ = some (.string inp) ∧ w.cell? ⟨m, 2, none⟩ = some (.int .i64 st.rd) ∧
    w.cell? ⟨m, 3, none⟩ = some (.int .i64 st.left) ∧ w.cell? ⟨m, 4, none⟩ = some (.string st.tr) ∧ w.cell? ⟨m, 5, none⟩ = some (.string st.out) ∧ w.cell? ⟨m, 6, none⟩ = some (.int .i64 st.e) ∧ ∀ o, w.frozen? ⟨m, o, none⟩ = false :=
  ⟨h.b.cell 0, h.b.cell 1, h.b.cell 2, h.b.cell 3, h.b.cell 4, h.b.cell 5, h.b.cell 6, h.b.frozen⟩

theorem MB.v (h : MB w m lb inp st) (i j : Nat) (hi : i < st.l.length) (hj : j < 3) : w.cell? ⟨lb, i * 3 + j, none⟩ = st.l[i].cells[j]? := by
  rw [h.l.cell]; exact flat_get Vl.cells 3 vl3 st.l i j hi hj

theorem MB.vs (h : MB w m lb inp st) (i : Nat) (hi : i < st.l.length) : w.cell? ⟨lb, i * 3, none⟩ = some (.int .u8 st.l[i].k) ∧ w.cell? ⟨lb, i * 3 + 1, none⟩ = some (.int .i64 st.l[i].n) ∧ w.cell? ⟨lb, i * 3 + 2, none⟩ = some (.int .u8 st.l[i].v) :=
  ⟨h.v i 0 hi (by decide), h.v i 1 hi (by decide), h.v i 2 hi (by decide)⟩

theorem MB.lt (h : MB w m lb inp st) : m < w.heap.size ∧ lb < w.heap.size := ⟨h.b.lt, h.l.lt⟩
theorem MB.n (h : MB w m lb inp st) (n : Nat) : MB (w.drewN n) m lb inp st := ⟨h.b, h.l, h.ne, h.six⟩
theorem MB.drew (h : MB w m lb inp st) : MB w.drew m lb inp st := ⟨h.b, h.l, h.ne, h.six⟩
theorem MB.alloc (h : MB w m lb inp st) (o : Obj) : MB (w.alloc o) m lb inp st := ⟨h.b.alloc o, h.l.alloc o, h.ne, h.six⟩
theorem MB.kp {S : Nat → Prop} {w' : World} (h : MB w m lb inp st) (k : Kp S w w') (h1 : ¬ S m) (h2 : ¬ S lb) : MB w' m lb inp st := ⟨k.blk h.b h1, k.blk h.l h2, h.ne, h.six⟩
theorem MB.other (h : MB w m lb inp st) {a : Addr} (v : Value) (h1 : a.block ≠ m) (h2 : a.block ≠ lb) : MB (w.setCell a v) m lb inp st := ⟨h.b.other v (Ne.symm h1), h.l.other v (Ne.symm h2), h.ne, h.six⟩
theorem MB.setOut (h : MB w m lb inp st) (n : ByteArray) : MB (w.setCell ⟨m, 5, none⟩ (.string n)) m lb inp { st with out := n } := ⟨h.b.set 5 _, h.l.other _ (Ne.symm h.ne), h.ne, h.six⟩
end

def kindsB (a : ByteArray) (l : List Vl) : ByteArray := l.foldl (fun a x => a ++ strOfNums [x.k]) a

theorem str1 (k : Int) : (strOfNums [k]).size = 1 := by simp [strOfNums_size]

theorem kindsB_size (a : ByteArray) (l : List Vl) : (kindsB a l).size = a.size + l.length := by
  unfold kindsB
  induction l generalizing a with
  | nil => rfl
  | cons x l ih => rw [List.foldl_cons, ih, ByteArray.size_append, str1]; simp; omega

theorem twoB_size (n : Nat) : (twoB n).size = 2 := by simp [twoB, strOfNums_size]

def toldB (n : Nat) (l : List Vl) : ByteArray := kindsB (twoB n) l

def sp : ByteArray := ⟨#[32]⟩

end Go.Proofs.YtellieabhaphhabGreatDoor

/-
  narrowref's machine: steps, input.
-/
namespace Go.Proofs.YtellieabhaphhabGreatDoor
open Go.RowKit

def startF (st : Mc) (n : Nat) : Mc × Bool :=
  if st.left = 0 then ({ st with e := 4 }, false) else ({ st with left := st.left - 1, tr := st.tr ++ toldB n st.l ++ sp }, true)

def inVal (c : Nat) : Vl :=
  if 48 ≤ c ∧ c ≤ 57 then ⟨110, (c : Int) - 48, 0⟩ else if c = 84 then ⟨116, 0, 0⟩ else if c = 70 then ⟨102, 0, 0⟩ else if c = 65 then ⟨65, 0, 0⟩ else if c = 66 then ⟨66, 0, 122⟩ else if c = 67 then ⟨67, 0, 0⟩ else ⟨122, 0, 0⟩

def nextF (inp : ByteArray) (st : Mc) : Vl × Mc :=
  if st.rd < inp.size then (inVal (pk inp st.rd), { st with rd := st.rd + 1 }) else (inVal 90, st)

theorem Blk.c3 {w : World} {b : Nat} {a0 a1 a2 : Value} {T : TypeId} (h : Blk w b [a0, a1, a2] T) :
    w.cell? ⟨b, 0, none⟩ = some a0 ∧ w.cell? ⟨b, 1, none⟩ = some a1 ∧ w.cell? ⟨b, 2, none⟩ = some a2 ∧ ∀ o, w.frozen? ⟨b, o, none⟩ = false :=
  ⟨h.cell 0, h.cell 1, h.cell 2, h.frozen⟩

end Go.Proofs.YtellieabhaphhabGreatDoor
