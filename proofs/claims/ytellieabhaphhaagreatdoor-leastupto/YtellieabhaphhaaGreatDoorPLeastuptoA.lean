import Derived.Test.YtellieabhaphhaaGreatDoorRows
import Derived.WalkKit
import Derived.WalkSpells
import Derived.BigQuiet
import Derived.Deep.QuietTactic
import Derived.Deep.RegionLawGrows
import Derived.Deep.RegionHeld3
import Derived.Deep.AppendLies
import Derived.Deep.Light
import Derived.Deep.Slices
import Derived.IntWalk
import Derived.ProofKit
import Derived.OpenShut
import Derived.Test.YtellieabhaphhaaGreatDoorCards
import Derived.Test.YtellieabhaphhaaGreatDoorTie
import Derived.Deep.DeepHandedRow
import Derived.Lib.LaidTab
import Derived.Deep.LoopGhost
import Derived.Shelf.Strconv.Itoa0
import Derived.Shelf.Strconv.Itoa1
import Derived.Shelf.LaysM
import Derived.Shelf.Strconv.Itoa2
import Derived.Shelf.Strconv.Itoa3
import Derived.Test.YtellieabhaphhaaGreatDoorProg
import Derived.Deep.MidRow
import Derived.OwnWalk
import Derived.Deep.Cut
import Derived.Deep.WholeRow
import Derived.Deep.CutRange
/-
  The base of our walks: what a block holds, what a call keeps.
-/
namespace Go.Proofs.YtellieabhaphhaaGreatDoor
open Go.RowKit

/-- Block b holds the cells cs, none of them frozen. -/
def Blk (w : World) (b : Nat) (cs : List Value) (T : TypeId) : Prop := w.heap[b]? = some (.cells cs.toArray T (0, 0))

theorem Blk.cell {w : World} {b : Nat} {cs : List Value} {T : TypeId} (h : Blk w b cs T) (o : Nat) : w.cell? ⟨b, o, none⟩ = cs[o]? := by
  rw [cell_of_row w b o cs.toArray T (0, 0) h]; simp

theorem Blk.frozen {w : World} {b : Nat} {cs : List Value} {T : TypeId} (h : Blk w b cs T) (o : Nat) : w.frozen? ⟨b, o, none⟩ = false := by
  have h' : w.heap[b]? = some (.cells cs.toArray T (0, 0)) := h
  simp [World.frozen?, h']

theorem Blk.lt {w : World} {b : Nat} {cs : List Value} {T : TypeId} (h : Blk w b cs T) : b < w.heap.size := by
  have h' : w.heap[b]? = some (.cells cs.toArray T (0, 0)) := h
  exact (Array.getElem?_eq_some_iff.1 h').1

theorem Blk.set {w : World} {b : Nat} {cs : List Value} {T : TypeId} (h : Blk w b cs T) (o : Nat) (v : Value) : Blk (w.setCell ⟨b, o, none⟩ v) b (cs.set o v) T := by
  have h' : w.heap[b]? = some (.cells cs.toArray T (0, 0)) := h
  simp [Blk, World.setCell, Array.getElem?_modify, h']

theorem Blk.setB {w : World} {b : Nat} {cs cs0 : List Value} {T : TypeId} {o : Nat} {v : Value} (h : Blk w b cs0 T) (e : cs0.set o v = cs) : Blk (w.setCell ⟨b, o, none⟩ v) b cs T := e ▸ h.set o v

theorem Blk.other {w : World} {b : Nat} {cs : List Value} {T : TypeId} (h : Blk w b cs T) {a : Addr} (v : Value) (hb : b ≠ a.block) : Blk (w.setCell a v) b cs T := by
  unfold Blk; rw [Below.heap_setCell _ _ _ _ hb]; exact h

theorem Blk.alloc {w : World} {b : Nat} {cs : List Value} {T : TypeId} (h : Blk w b cs T) (o : Obj) : Blk (w.alloc o) b cs T := by
  unfold Blk; rw [Below.heap_alloc _ _ _ h.lt]; exact h

theorem Blk.new (w : World) (cs : List Value) (T : TypeId) : Blk (w.alloc (.cells cs.toArray T)) w.heap.size cs T := heap_alloc_new w _

theorem Blk.newAt (w : World) (cs : List Value) (T : TypeId) {b : Nat} (h : b = w.heap.size) : Blk (w.alloc (.cells cs.toArray T)) b cs T := by subst h; exact heap_alloc_new w _

theorem Blk.drew {w : World} {b : Nat} {cs : List Value} {T : TypeId} (h : Blk w b cs T) : Blk w.drew b cs T := h
theorem Blk.drewN {w : World} {b : Nat} {cs : List Value} {T : TypeId} (h : Blk w b cs T) (n : Nat) : Blk (w.drewN n) b cs T := h

/-- Of what was there, only blocks in S may have turned. -/
structure Kp (S : Nat → Prop) (w w' : World) : Prop where
  os : w'.os = w.os
  tape : w'.tape = w.tape
  output : w'.output = w.output
  size : w.heap.size ≤ w'.heap.size
  block : ∀ k, k < w.heap.size → ¬ S k → w'.heap[k]? = w.heap[k]?

def no : Nat → Prop := fun _ => False

theorem Kp.refl (S : Nat → Prop) (w : World) : Kp S w w := ⟨rfl, rfl, rfl, Nat.le_refl _, fun _ _ _ => rfl⟩

/-- What comes second may turn what was not there at first, and what the first may. -/
theorem Kp.trans {S S' : Nat → Prop} {a b c : World} (h : Kp S a b) (k : Kp S' b c) (hs : ∀ x, x < a.heap.size → S' x → S x) : Kp S a c :=
  ⟨k.os.trans h.os, k.tape.trans h.tape, k.output.trans h.output, Nat.le_trans h.size k.size,
   fun i hi hn => (k.block i (Nat.lt_of_lt_of_le hi h.size) (fun e => hn (hs i hi e))).trans (h.block i hi hn)⟩

theorem Kp.mono {S S' : Nat → Prop} {a b : World} (h : Kp S a b) (hs : ∀ x, S x → S' x) : Kp S' a b :=
  ⟨h.os, h.tape, h.output, h.size, fun i hi hn => h.block i hi (fun e => hn (hs i e))⟩

theorem Kp.drew {S : Nat → Prop} {a w : World} (h : Kp S a w) : Kp S a w.drew := ⟨h.os, h.tape, h.output, h.size, h.block⟩
theorem Kp.drewN {S : Nat → Prop} {a w : World} (h : Kp S a w) (n : Nat) : Kp S a (w.drewN n) := ⟨h.os, h.tape, h.output, h.size, h.block⟩

theorem Kp.alloc {S : Nat → Prop} {a w : World} (h : Kp S a w) (o : Obj) : Kp S a (w.alloc o) :=
  h.trans (S' := no) ⟨rfl, rfl, rfl, by simp, fun k hk _ => Below.heap_alloc _ _ _ hk⟩ (fun _ _ e => e.elim)

/-- A store into a block of S, or into a new one. -/
theorem Kp.setCell {S : Nat → Prop} {a w : World} (h : Kp S a w) {p : Addr} (u : Value) (hp : p.block < a.heap.size → S p.block) : Kp S a (w.setCell p u) :=
  h.trans (S' := fun x => x = p.block) ⟨rfl, rfl, rfl, by simp [World.setCell], fun k _ hk => Below.heap_setCell _ _ _ _ hk⟩ (fun x hx e => by subst e; exact hp hx)

theorem Kp.blk {S : Nat → Prop} {w w' : World} (h : Kp S w w') {b : Nat} {cs : List Value} {T : TypeId} (k : Blk w b cs T) (hb : ¬ S b) : Blk w' b cs T := by
  unfold Blk; rw [h.block b k.lt hb]; exact k

theorem Kp.grown {S : Nat → Prop} {a w w' : World} {row : Option Nat} (h : Kp S a w) (hg : w.grownBy w' row) (hr : ∀ k, k < a.heap.size → row = some k → S k) : Kp S a w' :=
  h.trans (S' := fun x => some x = row) ⟨hg.os, hg.tape, hg.output, hg.size, fun k hk hn => hg.block k hk (fun e => hn e)⟩ (fun x hx e => hr x hx e.symm)

theorem Kp.cell {S : Nat → Prop} {w w' : World} (h : Kp S w w') {b : Nat} (hb : b < w.heap.size) (hn : ¬ S b) (o : Nat) : w'.cell? ⟨b, o, none⟩ = w.cell? ⟨b, o, none⟩ := World.cell?_of_block (w := w) (h.block b hb hn)

/-- A row of a slice: its block and what it holds. -/
abbrev Row (w : World) (v : Value) (e : TypeId) (size n : Nat) (xs : List Value) : Prop := w.ownsRow 0 e size v n xs

theorem Kp.row {S : Nat → Prop} {w w' : World} (h : Kp S w w') {v : Value} {e : TypeId} {size n : Nat} {xs : List Value} (k : Row w v e size n xs) (hb : ∀ b, v.ownBlock = some b → ¬ S b) : Row w' v e size n xs := by
  refine ⟨k.1, ?_⟩
  rcases k.2 with hn | ⟨g, cap, cur, rfl, hb', hg, rest⟩
  · exact .inl hn
  · refine .inr ⟨g, cap, cur, rfl, hb', ?_, rest⟩
    rw [h.block g (Array.getElem?_eq_some_iff.1 hg).1 (hb g rfl)]
    exact hg

theorem hide {p : Prop} (h : p) : Hid p := h

/-- Forget the world but for what is said of it. -/
theorem wp_gen {P : Program} {c : Code} {Q : Exit → Act → World → Prop} {a : Act} {W : World} (G : World → Prop) (hG : G W) (h : ∀ W', G W' → Code.wp P c Q a W') : Code.wp P c Q a W := h W hG

/-- A struct result lies in a block. -/
theorem body_agg {P : Program} {fn : Func} {R : Ending → World → Prop} {x : Exit} {a : Act} {w : World} {k T Tb b : Nat} {cs : List Value} {d : TypeDesc}
    (hx : x = .normal ∨ x = .ret) (hres : fn.results = #[.cell k T]) (ha : a.tmps.getD k undef = .pointer (some ⟨b, 0, none⟩)) (hd : a.defers = [])
    (hb : Blk w b cs Tb) (hu : P.underlying T = some d) (hd' : (match d with | .struct _ | .array _ _ => true | _ => false) = true) (hi : (P.info? T).map (·.size) = some cs.length)
    (hR : R (.returned (.agg cs.toArray)) w) : bodyPost P fn R x a w := by
  have hrun := run_loadVar_row (P := P) w b Tb T cs.toArray (0, 0) d hb hu hd' (by simpa using hi)
  have hr : (results fn a.tmps).run P w = .ok (.agg cs.toArray) w := by
    have ha' : a.tmps[k]?.getD undef = .pointer (some ⟨b, 0, none⟩) := by simpa using ha
    simp only [results, hres]
    simp [ha', asAddr, hrun]
  rcases hx with rfl | rfl <;> exact ⟨hd, _, hr, hR⟩

theorem ret_i64 {a b : Int} (h : a = b) : Ending.returned (.int .i64 a) = .returned (.int .i64 b) := by rw [h]

theorem drewN2 (w : World) (a b : Nat) : (w.drewN a).drewN b = w.drewN (a + b) := by simp [World.drewN, Nat.add_assoc]

/-- The byte at hand, or 0. -/
def pk (s : ByteArray) (i : Nat) : Nat := if h : i < s.size then (s[i]'h).toNat else 0

theorem pk_lt (s : ByteArray) (i : Nat) : pk s i < 256 := by
  unfold pk; split
  · exact UInt8.toNat_lt _
  · decide

end Go.Proofs.YtellieabhaphhaaGreatDoor

/-
  narrowref's reader: what it reads without laying anything.
-/
namespace Go.Proofs.YtellieabhaphhaaGreatDoor
open Go.RowKit

set_option maxHeartbeats 400000 in
theorem peek_c (r i : Nat) (s : ByteArray) (bad : Bool) (nv iv : Value) (lp : Int) (w : World)
    (h : Blk w r [.string s, .int .i64 i, .bool bad, nv, iv, .int .i64 lp] 45) :
    Calls Tryz.prog 65 #[.pointer (some ⟨r, 0, none⟩)] w fun e w' => e = .returned (.int .u8 (pk s i)) ∧ ∃ n, w' = w.drewN n := by
  have h0 := h.cell 0; have h1 := h.cell 1
  simp only [List.getElem?_cons_zero, List.getElem?_cons_succ] at h0 h1
  clear h
  by_cases hi : i < s.size
  · go_enter Tryz.func65, Tryz.ntmps65
    go_wp2
    go_quiet (fail)
    go_wp2
    go_quiet (fail)
    go_wp2
    go_ret
    refine ⟨by simp [pk, hi], _, drewN2 _ _ _⟩
  · go_enter Tryz.func65, Tryz.ntmps65
    go_wp2
    go_quiet (fail)
    go_wp2
    go_ret
    refine ⟨by simp [pk, hi], _, rfl⟩

/-- The reader's block. -/
def RB (w : World) (r : Nat) (s : ByteArray) (p : Nat × Bool) (nv iv : Value) (lp : Int) : Prop :=
  Blk w r [.string s, .int .i64 p.1, .bool p.2, nv, iv, .int .i64 lp] 45

def eatF (s : ByteArray) (p : Nat × Bool) (c : Nat) : Nat × Bool := if p.2 || pk s p.1 != c then (p.1, true) else (p.1 + 1, false)

theorem RB.n {w : World} {r : Nat} {s : ByteArray} {p : Nat × Bool} {nv iv : Value} {lp : Int} (h : RB w r s p nv iv lp) (n : Nat) : RB (w.drewN n) r s p nv iv lp := h

theorem RB.bad {w : World} {r : Nat} {s : ByteArray} {p : Nat × Bool} {nv iv : Value} {lp : Int} (h : RB w r s p nv iv lp) : RB (w.setCell ⟨r, 2, none⟩ (.bool true)) r s (p.1, true) nv iv lp :=
  Blk.set h 2 (.bool true)

theorem RB.next {w : World} {r : Nat} {s : ByteArray} {p : Nat × Bool} {nv iv : Value} {lp : Int} (h : RB w r s p nv iv lp) : RB (w.setCell ⟨r, 1, none⟩ (.int .i64 (p.1 + 1))) r s (p.1 + 1, p.2) nv iv lp :=
  Blk.set h 1 (.int .i64 (p.1 + 1))

theorem Kp.set {a w : World} {r : Nat} (h : Kp (· = r) a w) (o : Nat) (v : Value) : Kp (· = r) a (w.setCell ⟨r, o, none⟩ v) := h.setCell v (fun _ => rfl)

set_option maxHeartbeats 400000 in
theorem eat_c (r i c : Nat) (s : ByteArray) (bad : Bool) (nv iv : Value) (lp : Int) (w : World) (hs : s.size ≤ 1000) (hi : i ≤ s.size)
    (h : RB w r s (i, bad) nv iv lp) :
    Calls Tryz.prog 69 #[.pointer (some ⟨r, 0, none⟩), .int .u8 c] w fun e w' => e = .returned (.tuple #[]) ∧ RB w' r s (eatF s (i, bad) c) nv iv lp ∧ Kp (· = r) w w' := by
  have HP := hide (peek_c r i s bad nv iv lp w h)
  have HB := hide h
  unfold RB at h
  have h0 := h.cell 0; have h1 := h.cell 1; have h2 := h.cell 2; have hf := h.frozen
  simp only [List.getElem?_cons_zero, List.getElem?_cons_succ] at h0 h1 h2
  clear h
  generalize hc : pk s i = d at HP
  have HC := hide hc
  clear hc
  cases bad
  · by_cases hd : d = c
    · subst hd
      go_enter Tryz.func69, Tryz.ntmps69
      go_wp2_with (go_at_call 65; refine HP.out.mono ?_; rintro e w' ⟨rfl, n, rfl⟩)
      go_end0
      have e1 : eatF s (i, false) d = (i + 1, false) := by simp [eatF, HC.out]
      rw [e1]
      exact ⟨rfl, (HB.out.n n).next, ((Kp.refl _ _).drewN n).set _ _⟩
    · have hd' : ((d : Int) == c) = false := by simp; omega
      go_enter Tryz.func69, Tryz.ntmps69
      go_wp2_with (go_at_call 65; refine HP.out.mono ?_; rintro e w' ⟨rfl, n, rfl⟩)
      go_end0
      have e1 : eatF s (i, false) c = (i, true) := by simp [eatF, HC.out, hd]
      rw [e1]
      exact ⟨rfl, (HB.out.n n).bad, ((Kp.refl _ _).drewN n).set _ _⟩
  · go_enter Tryz.func69, Tryz.ntmps69
    go_wp2_with (go_at_call 65; refine HP.out.mono ?_; rintro e w' ⟨rfl, n, rfl⟩)
    go_end0
    have e1 : eatF s (i, true) c = (i, true) := by simp [eatF]
    rw [e1]
    exact ⟨rfl, (HB.out.n n).bad, ((Kp.refl _ _).drewN n).set _ _⟩

def varF (s : ByteArray) (p : Nat × Bool) : Nat × (Nat × Bool) :=
  if p.2 || decide (pk s p.1 < 97) || decide (102 < pk s p.1) then (0, (p.1, true)) else (pk s p.1 - 97, (p.1 + 1, false))

set_option maxHeartbeats 400000 in
theorem variable_c (r i : Nat) (s : ByteArray) (bad : Bool) (nv iv : Value) (lp : Int) (w : World) (hs : s.size ≤ 1000) (hi : i ≤ s.size)
    (h : RB w r s (i, bad) nv iv lp) :
    Calls Tryz.prog 113 #[.pointer (some ⟨r, 0, none⟩)] w fun e w' => e = .returned (.int .i64 (varF s (i, bad)).1) ∧ RB w' r s (varF s (i, bad)).2 nv iv lp ∧ Kp (· = r) w w' := by
  have HP := hide (peek_c r i s bad nv iv lp w h)
  have HB := hide h
  unfold RB at h
  have h0 := h.cell 0; have h1 := h.cell 1; have h2 := h.cell 2; have hf := h.frozen
  simp only [List.getElem?_cons_zero, List.getElem?_cons_succ] at h0 h1 h2
  clear h
  have hlt := pk_lt s i
  generalize hc : pk s i = d at HP hlt
  have HC := hide hc
  clear hc
  cases bad
  · by_cases hd : d < 97
    · go_enter Tryz.func113, Tryz.ntmps113
      go_wp2_with (go_at_call 65; refine HP.out.mono ?_; rintro e w' ⟨rfl, n, rfl⟩)
      go_ret
      have e1 : varF s (i, false) = (0, (i, true)) := by simp [varF, HC.out, hd]
      rw [e1]
      exact ⟨rfl, (HB.out.n n).bad, ((Kp.refl _ _).drewN n).set _ _⟩
    · by_cases hd2 : 102 < d
      · go_enter Tryz.func113, Tryz.ntmps113
        go_wp2_with (go_at_call 65; refine HP.out.mono ?_; rintro e w' ⟨rfl, n, rfl⟩)
        go_ret
        have e1 : varF s (i, false) = (0, (i, true)) := by simp [varF, HC.out, hd2]
        rw [e1]
        exact ⟨rfl, (HB.out.n n).bad, ((Kp.refl _ _).drewN n).set _ _⟩
      · go_enter Tryz.func113, Tryz.ntmps113
        go_wp2_with (go_at_call 65; refine HP.out.mono ?_; rintro e w' ⟨rfl, n, rfl⟩)
        go_ret
        have e1 : varF s (i, false) = (d - 97, (i + 1, false)) := by simp [varF, HC.out, hd, hd2]
        rw [e1]
        refine ⟨ret_i64 (by simp only []; omega), (HB.out.n n).next, ((Kp.refl _ _).drewN n).set _ _⟩
  · go_enter Tryz.func113, Tryz.ntmps113
    go_wp2_with (go_at_call 65; refine HP.out.mono ?_; rintro e w' ⟨rfl, n, rfl⟩)
    go_ret
    have e1 : varF s (i, true) = (0, (i, true)) := by simp [varF]
    rw [e1]
    exact ⟨rfl, (HB.out.n n).bad, ((Kp.refl _ _).drewN n).set _ _⟩

def amF (c : Nat) (l : List UInt8) : Bool := l.any (fun u => u.toNat == c)

theorem am_snoc (c : Nat) (l : List UInt8) (u : UInt8) : amF c (l ++ [u]) = (amF c l || u.toNat == c) := by simp [amF]
theorem am_take (c : Nat) (s : ByteArray) (k : Nat) (h : k < s.size) : amF c (s.data.toList.take (k + 1)) = (amF c (s.data.toList.take k) || (s[k]).toNat == c) := by
  rw [List.take_succ_eq_append_getElem (by simpa using h), am_snoc]; rfl
theorem am_mono (c : Nat) (s : ByteArray) (k : Nat) (h : amF c (s.data.toList.take k) = true) : amF c s.data.toList = true := by
  simp only [amF, List.any_eq_true] at h ⊢
  obtain ⟨x, hx, e⟩ := h
  exact ⟨x, List.mem_of_mem_take hx, e⟩

set_option maxHeartbeats 400000 in
theorem among_c (c : Nat) (s : ByteArray) (w : World) (hs : s.size ≤ 1000) :
    Calls Tryz.prog 121 #[.int .u8 c, .string s] w fun e w' => e = .returned (.bool (amF c s.data.toList)) ∧ w' = w := by
  go_enter Tryz.func121, Tryz.ntmps121
  go_wp2
  go_loop [5] (fun i => ∃ k : Nat, k ≤ s.size ∧ i = .int .i64 k ∧ amF c (s.data.toList.take k) = false) (fun i => s.size - (intOf i).toNat)
  case atStart => exact ⟨0, Nat.zero_le _, rfl, by simp [amF]⟩
  case round =>
    obtain ⟨k, hk, rfl, ha⟩ := hrel
    have HA := hide ha
    clear ha
    by_cases hlt : k < s.size
    · have HT := hide (am_take c s k hlt)
      by_cases he : (s[k]).toNat = c
      · have HM := hide (am_mono c s (k + 1) (by rw [HT.out]; simp [he]))
        go_wp2
        go_ret
        rw [HM.out]
        exact ⟨rfl, rfl⟩
      · have he' : (((s[k]).toNat : Int) == c) = false := by simp; omega
        go_wp2
        go_round
        case rel => exact ⟨k + 1, by omega, by go_num, by rw [HT.out, HA.out]; simp [he]⟩
        case measure => simp [intOf]; omega
    · go_wp2
      go_ret
      have e1 : amF c s.data.toList = false := by
        have := HA.out
        rwa [List.take_of_length_le (by simp; omega)] at this
      rw [e1]
      exact ⟨rfl, rfl⟩

theorem pk_in (s : ByteArray) (i : Nat) (h : pk s i ≠ 0) : i < s.size := by
  unfold pk at h; split at h
  · assumption
  · exact absurd rfl h

theorem varF_le (s : ByteArray) (p : Nat × Bool) (h : p.1 ≤ s.size) : (varF s p).2.1 ≤ s.size := by
  unfold varF; split
  · exact h
  · rename_i h'
    have := pk_in s p.1 (by simp at h'; omega)
    show p.1 + 1 ≤ _
    omega

theorem eatF_le (s : ByteArray) (p : Nat × Bool) (c : Nat) (hc : c ≠ 0) (h : p.1 ≤ s.size) : (eatF s p c).1 ≤ s.size := by
  unfold eatF; split
  · exact h
  · rename_i h'
    have := pk_in s p.1 (by simp at h'; omega)
    show p.1 + 1 ≤ _
    omega

def kindF (s : ByteArray) (p : Nat × Bool) : Nat × (Nat × Bool) :=
  if p.2 || !amF (pk s p.1) [110, 116, 102, 122, 65, 66, 67] then (0, (p.1, true)) else (pk s p.1, (p.1 + 1, false))

theorem am_zero (l : List UInt8) (h : l.all (fun u => u.toNat != 0) = true) : amF 0 l = false := by
  simp only [amF, List.any_eq_false]
  intro x hx
  have := List.all_eq_true.1 h x hx
  simp at this ⊢
  exact this

theorem kindF_le (s : ByteArray) (p : Nat × Bool) (h : p.1 ≤ s.size) : (kindF s p).2.1 ≤ s.size := by
  unfold kindF; split
  · exact h
  · rename_i h'
    have := pk_in s p.1 (fun e => by rw [e, am_zero _ (by decide)] at h'; simp at h')
    show p.1 + 1 ≤ _
    omega

set_option maxHeartbeats 400000 in
theorem kind_c (r i : Nat) (s : ByteArray) (bad : Bool) (nv iv : Value) (lp : Int) (w : World) (hs : s.size ≤ 1000) (hi : i ≤ s.size)
    (h : RB w r s (i, bad) nv iv lp) :
    Calls Tryz.prog 114 #[.pointer (some ⟨r, 0, none⟩)] w fun e w' => e = .returned (.int .u8 (kindF s (i, bad)).1) ∧ RB w' r s (kindF s (i, bad)).2 nv iv lp ∧ Kp (· = r) w w' := by
  have HP := hide (peek_c r i s bad nv iv lp w h)
  have HB := hide h
  unfold RB at h
  have h0 := h.cell 0; have h1 := h.cell 1; have h2 := h.cell 2; have hf := h.frozen
  simp only [List.getElem?_cons_zero, List.getElem?_cons_succ] at h0 h1 h2
  clear h
  generalize hc : pk s i = d at HP
  have HC := hide hc
  clear hc
  generalize ha : amF d [110, 116, 102, 122, 65, 66, 67] = b
  have HA := hide ha
  clear ha
  cases bad
  · cases b
    · go_enter Tryz.func114, Tryz.ntmps114
      go_wp2_with (first
        | (go_at_call 65; refine HP.out.mono ?_; rintro e w' ⟨rfl, n, rfl⟩)
        | (go_at_call 121; refine (among_c d _ _ (by decide)).mono ?_; rintro e w' ⟨rfl, rfl⟩; rw [show amF d (ByteArray.mk #[110, 116, 102, 122, 65, 66, 67]).data.toList = false from HA.out]))
      go_ret
      have e1 : kindF s (i, false) = (0, (i, true)) := by simp [kindF, HC.out, HA.out]
      rw [e1]
      exact ⟨rfl, (HB.out.n n).bad, ((Kp.refl _ _).drewN n).set _ _⟩
    · go_enter Tryz.func114, Tryz.ntmps114
      go_wp2_with (first
        | (go_at_call 65; refine HP.out.mono ?_; rintro e w' ⟨rfl, n, rfl⟩)
        | (go_at_call 121; refine (among_c d _ _ (by decide)).mono ?_; rintro e w' ⟨rfl, rfl⟩; rw [show amF d (ByteArray.mk #[110, 116, 102, 122, 65, 66, 67]).data.toList = true from HA.out]))
      go_ret
      have e1 : kindF s (i, false) = (d, (i + 1, false)) := by simp [kindF, HC.out, HA.out]
      rw [e1]
      exact ⟨rfl, (HB.out.n n).next, ((Kp.refl _ _).drewN n).set _ _⟩
  · go_enter Tryz.func114, Tryz.ntmps114
    go_wp2_with (first
      | (go_at_call 65; refine HP.out.mono ?_; rintro e w' ⟨rfl, n, rfl⟩)
      | (go_at_call 121; refine (among_c d _ _ (by decide)).mono ?_; rintro e w' ⟨rfl, rfl⟩; rw [show amF d (ByteArray.mk #[110, 116, 102, 122, 65, 66, 67]).data.toList = b from HA.out]))
    go_ret
    have e1 : kindF s (i, true) = (0, (i, true)) := by simp [kindF]
    rw [e1]
    exact ⟨rfl, (HB.out.n n).bad, ((Kp.refl _ _).drewN n).set _ _⟩
end Go.Proofs.YtellieabhaphhaaGreatDoor

/-
  narrowref's reader: nodes as they are read.
-/
namespace Go.Proofs.YtellieabhaphhaaGreatDoor
open Go.RowKit

structure Nd where
  op : Int
  x : Int
  y : Int
  v : Int
  k : Int
  t : Int
  f : Int
  a : Int
  l : Int

def Nd.cells (n : Nd) : List Value := [.int .u8 n.op, .int .i64 n.x, .int .i64 n.y, .int .i64 n.v, .int .u8 n.k, .int .i64 n.t, .int .i64 n.f, .int .i64 n.a, .int .i64 n.l]

theorem Blk.c9 {w : World} {b : Nat} {a0 a1 a2 a3 a4 a5 a6 a7 a8 : Value} {T : TypeId} (h : Blk w b [a0, a1, a2, a3, a4, a5, a6, a7, a8] T) :
    w.cell? ⟨b, 0, none⟩ = some a0 ∧ w.cell? ⟨b, 1, none⟩ = some a1 ∧ w.cell? ⟨b, 2, none⟩ = some a2 ∧ w.cell? ⟨b, 3, none⟩ = some a3 ∧ w.cell? ⟨b, 4, none⟩ = some a4 ∧
    w.cell? ⟨b, 5, none⟩ = some a5 ∧ w.cell? ⟨b, 6, none⟩ = some a6 ∧ w.cell? ⟨b, 7, none⟩ = some a7 ∧ w.cell? ⟨b, 8, none⟩ = some a8 ∧ ∀ o, w.frozen? ⟨b, o, none⟩ = false :=
  ⟨h.cell 0, h.cell 1, h.cell 2, h.cell 3, h.cell 4, h.cell 5, h.cell 6, h.cell 7, h.cell 8, h.frozen⟩

theorem RB.c6 {w : World} {r : Nat} {s : ByteArray} {p : Nat × Bool} {nv iv : Value} {lp : Int} (h : RB w r s p nv iv lp) :
    w.cell? ⟨r, 0, none⟩ = some (.string s) ∧ w.cell? ⟨r, 1, none⟩ = some (.int .i64 p.1) ∧ w.cell? ⟨r, 2, none⟩ = some (.bool p.2) ∧
    w.cell? ⟨r, 3, none⟩ = some nv ∧ w.cell? ⟨r, 4, none⟩ = some iv ∧ w.cell? ⟨r, 5, none⟩ = some (.int .i64 lp) ∧ ∀ o, w.frozen? ⟨r, o, none⟩ = false :=
  ⟨Blk.cell h 0, Blk.cell h 1, Blk.cell h 2, Blk.cell h 3, Blk.cell h 4, Blk.cell h 5, Blk.frozen h⟩

theorem RB.lt {w : World} {r : Nat} {s : ByteArray} {p : Nat × Bool} {nv iv : Value} {lp : Int} (h : RB w r s p nv iv lp) : r < w.heap.size := Blk.lt h

def valF (s : ByteArray) (i : Nat) (n : Nd) : Nd × (Nat × Bool) :=
  if 48 ≤ pk s i ∧ pk s i ≤ 57 then ({ n with op := 48, k := pk s i }, (i + 1, false))
  else if amF (pk s i) [84, 70, 90, 67, 63] then ({ n with op := pk s i }, (i + 1, false))
  else if amF (pk s i) [43, 60] then
    ({ n with op := pk s i, y := (varF s (i + 1, false)).1, v := (varF s (varF s (i + 1, false)).2).1 }, (varF s (varF s (i + 1, false)).2).2)
  else if amF (pk s i) [65, 66, 46] then ({ n with op := pk s i, y := (varF s (i + 1, false)).1 }, (varF s (i + 1, false)).2)
  else ({ n with op := 118, y := (varF s (i, false)).1 }, (varF s (i, false)).2)

set_option maxHeartbeats 400000 in
theorem value_digit (r i : Nat) (s : ByteArray) (n : Nd) (nv iv : Value) (lp : Int) (w : World) (hs : s.size ≤ 1000) (hi : i ≤ s.size)
    (h : RB w r s (i, false) nv iv lp) (h1 : 48 ≤ pk s i) (h2 : pk s i ≤ 57) :
    Calls Tryz.prog 115 #[.pointer (some ⟨r, 0, none⟩), .agg #[.int .u8 n.op, .int .i64 n.x, .int .i64 n.y, .int .i64 n.v, .int .u8 n.k, .int .i64 n.t, .int .i64 n.f, .int .i64 n.a, .int .i64 n.l]] w fun e w' =>
      e = .returned (.agg (valF s i n).1.cells.toArray) ∧ RB w' r s (valF s i n).2 nv iv lp ∧ Kp (· = r) w w' := by
  have HB := hide h
  have HV := hide (show valF s i n = ({ n with op := 48, k := pk s i }, (i + 1, false)) by simp [valF, h1, h2])
  have hr := h.lt
  obtain ⟨c0, c1, c2, _, _, _, cf⟩ := h.c6
  clear h
  generalize hc : pk s i = d at *
  have HC := hide hc
  clear hc
  go_enter Tryz.func115, Tryz.ntmps115
  go_wp2_with (go_at_call 65; refine (peek_c r i s false nv iv lp _ (by exact ((Blk.alloc HB.out _).alloc _))).mono ?_; rw [HC.out]; rintro e w' ⟨rfl, nq, rfl⟩)
  refine bodyPost_ret (v := .agg #[.int .u8 48, .int .i64 n.x, .int .i64 n.y, .int .i64 n.v, .int .u8 d, .int .i64 n.t, .int .i64 n.f, .int .i64 n.a, .int .i64 n.l]) (by simp [results, Tryz.results115, go_sem]) rfl ?_
  rw [HV.out]
  refine ⟨rfl, ?_, ?_⟩
  · have hb : Blk w r [.string s, .int .i64 i, .bool false, nv, iv, .int .i64 lp] 45 := HB.out
    show Blk _ _ _ _
    (repeat' (first | ((with_reducible show (_ : List Value) = _); rfl) | with_reducible exact hb | ((with_reducible refine Blk.newAt _ _ _ ?_); first | with_reducible rfl | (simp; done)) | with_reducible refine Blk.alloc ?_ _ | with_reducible refine Blk.drewN ?_ _ | with_reducible refine Blk.drew ?_ | ((with_reducible refine Blk.other ?_ _ ?_); rotate_left; ((try dsimp only); omega)) | with_reducible refine Blk.setB (cs0 := ?_) ?_ ?_))
  · (repeat' (first | with_reducible exact Kp.refl _ _ | with_reducible refine Kp.alloc ?_ _ | with_reducible refine Kp.drewN ?_ _ | with_reducible refine Kp.drew ?_ | with_reducible refine Kp.setCell ?_ _ ?_ | (intro hh; first | rfl | exact .inl rfl | exact .inr rfl | (exfalso; (try dsimp only at hh); omega))))

set_option maxHeartbeats 800000 in
theorem value_plain (r i : Nat) (s : ByteArray) (n : Nd) (nv iv : Value) (lp : Int) (w : World) (hs : s.size ≤ 1000) (hi : i ≤ s.size)
    (h : RB w r s (i, false) nv iv lp) (h1 : ¬ (48 ≤ pk s i ∧ pk s i ≤ 57)) (h2 : amF (pk s i) [84, 70, 90, 67, 63] = true) :
    Calls Tryz.prog 115 #[.pointer (some ⟨r, 0, none⟩), .agg #[.int .u8 n.op, .int .i64 n.x, .int .i64 n.y, .int .i64 n.v, .int .u8 n.k, .int .i64 n.t, .int .i64 n.f, .int .i64 n.a, .int .i64 n.l]] w fun e w' =>
      e = .returned (.agg (valF s i n).1.cells.toArray) ∧ RB w' r s (valF s i n).2 nv iv lp ∧ Kp (· = r) w w' := by
  have HB := hide h
  have HV := hide (show valF s i n = ({ n with op := pk s i }, (i + 1, false)) by simp [valF, h1, h2])
  have hr := h.lt
  obtain ⟨c0, c1, c2, _, _, _, cf⟩ := h.c6
  clear h
  generalize hc : pk s i = d at *
  have HC := hide hc
  clear hc
  have hq : ¬ (48 ≤ (d : Int) ∧ (d : Int) ≤ 57) := by omega
  have hb : Blk w r [.string s, .int .i64 i, .bool false, nv, iv, .int .i64 lp] 45 := HB.out
  clear h1
  go_enter Tryz.func115, Tryz.ntmps115
  go_wp2_with (first
    | (go_at_call 65; refine (peek_c r i s false nv iv lp _ (by exact ((Blk.alloc HB.out _).alloc _))).mono ?_; rw [HC.out]; rintro e w' ⟨rfl, nq, rfl⟩)
    | (go_at_call 121; refine (among_c d _ _ (by decide)).mono ?_; rintro e w' ⟨rfl, rfl⟩))
  all_goals
    refine bodyPost_ret (v := .agg #[.int .u8 d, .int .i64 n.x, .int .i64 n.y, .int .i64 n.v, .int .u8 n.k, .int .i64 n.t, .int .i64 n.f, .int .i64 n.a, .int .i64 n.l]) (by simp [results, Tryz.results115, go_sem]) rfl ?_
    rw [HV.out]
    refine ⟨rfl, ?_, ?_⟩
    · show Blk _ _ _ _
      (repeat' (first | ((with_reducible show (_ : List Value) = _); rfl) | with_reducible exact hb | ((with_reducible refine Blk.newAt _ _ _ ?_); first | with_reducible rfl | (simp; done)) | with_reducible refine Blk.alloc ?_ _ | with_reducible refine Blk.drewN ?_ _ | with_reducible refine Blk.drew ?_ | ((with_reducible refine Blk.other ?_ _ ?_); rotate_left; ((try dsimp only); omega)) | with_reducible refine Blk.setB (cs0 := ?_) ?_ ?_))
    · (repeat' (first | with_reducible exact Kp.refl _ _ | with_reducible refine Kp.alloc ?_ _ | with_reducible refine Kp.drewN ?_ _ | with_reducible refine Kp.drew ?_ | with_reducible refine Kp.setCell ?_ _ ?_ | (intro hh; first | rfl | exact .inl rfl | exact .inr rfl | (exfalso; (try dsimp only at hh); omega))))

set_option maxHeartbeats 800000 in
theorem value_var (r i : Nat) (s : ByteArray) (n : Nd) (nv iv : Value) (lp : Int) (w : World) (hs : s.size ≤ 1000) (hi : i ≤ s.size)
    (h : RB w r s (i, false) nv iv lp) (h1 : ¬ (48 ≤ pk s i ∧ pk s i ≤ 57)) (h2 : amF (pk s i) [84, 70, 90, 67, 63] = false) (h3 : amF (pk s i) [43, 60] = false) (h4 : amF (pk s i) [65, 66, 46] = false) :
    Calls Tryz.prog 115 #[.pointer (some ⟨r, 0, none⟩), .agg #[.int .u8 n.op, .int .i64 n.x, .int .i64 n.y, .int .i64 n.v, .int .u8 n.k, .int .i64 n.t, .int .i64 n.f, .int .i64 n.a, .int .i64 n.l]] w fun e w' =>
      e = .returned (.agg (valF s i n).1.cells.toArray) ∧ RB w' r s (valF s i n).2 nv iv lp ∧ Kp (· = r) w w' := by
  have HB := hide h
  have HV := hide (show valF s i n = ({ n with op := 118, y := (varF s (i, false)).1 }, (varF s (i, false)).2) by simp [valF, h1, h2, h3, h4])
  have hr := h.lt
  obtain ⟨c0, c1, c2, _, _, _, cf⟩ := h.c6
  clear h
  generalize hc : pk s i = d at *
  have HC := hide hc
  clear hc
  have hq : ¬ (48 ≤ (d : Int) ∧ (d : Int) ≤ 57) := by omega
  have hb : Blk w r [.string s, .int .i64 i, .bool false, nv, iv, .int .i64 lp] 45 := HB.out
  clear h1
  go_enter Tryz.func115, Tryz.ntmps115
  go_wp2_with (first
    | (go_at_call 65; refine (peek_c r i s false nv iv lp _ (by exact ((Blk.alloc HB.out _).alloc _))).mono ?_; rw [HC.out]; rintro e w' ⟨rfl, nq, rfl⟩)
    | (go_at_call 121; refine (among_c d _ _ (by decide)).mono ?_; rintro e w' ⟨rfl, rfl⟩))
  all_goals
    refine (variable_c r i s false nv iv lp _ hs hi ?_).mono ?_
    · show Blk _ _ _ _
      (repeat' (first | ((with_reducible show (_ : List Value) = _); rfl) | with_reducible exact hb | ((with_reducible refine Blk.newAt _ _ _ ?_); first | with_reducible rfl | (simp; done)) | with_reducible refine Blk.alloc ?_ _ | with_reducible refine Blk.drewN ?_ _ | with_reducible refine Blk.drew ?_ | ((with_reducible refine Blk.other ?_ _ ?_); rotate_left; ((try dsimp only); omega)) | with_reducible refine Blk.setB (cs0 := ?_) ?_ ?_))
    rintro e w1 ⟨rfl, hB1, hk1⟩
    have hL : Blk w1 w.heap.size [.int .u8 118, .int .i64 n.x, .int .i64 n.y, .int .i64 n.v, .int .u8 n.k, .int .i64 n.t, .int .i64 n.f, .int .i64 n.a, .int .i64 n.l] 63 := hk1.blk (by (repeat' (first | ((with_reducible show (_ : List Value) = _); rfl) | with_reducible exact hb | ((with_reducible refine Blk.newAt _ _ _ ?_); first | with_reducible rfl | (simp; done)) | with_reducible refine Blk.alloc ?_ _ | with_reducible refine Blk.drewN ?_ _ | with_reducible refine Blk.drew ?_ | ((with_reducible refine Blk.other ?_ _ ?_); rotate_left; ((try dsimp only); omega)) | with_reducible refine Blk.setB (cs0 := ?_) ?_ ?_))) (by omega)
    have hR : Blk w1 (w.heap.size + 1) [.int .u8 0, .int .i64 0, .int .i64 0, .int .i64 0, .int .u8 0, .int .i64 0, .int .i64 0, .int .i64 0, .int .i64 0] 63 := hk1.blk (by (repeat' (first | ((with_reducible show (_ : List Value) = _); rfl) | with_reducible exact hb | ((with_reducible refine Blk.newAt _ _ _ ?_); first | with_reducible rfl | (simp; done)) | with_reducible refine Blk.alloc ?_ _ | with_reducible refine Blk.drewN ?_ _ | with_reducible refine Blk.drew ?_ | ((with_reducible refine Blk.other ?_ _ ?_); rotate_left; ((try dsimp only); omega)) | with_reducible refine Blk.setB (cs0 := ?_) ?_ ?_))) (by omega)
    have hz : w.heap.size + 2 ≤ w1.heap.size := by have := hk1.size; simp at this; omega
    obtain ⟨l0, l1, l2, l3, l4, l5, l6, l7, l8, lf⟩ := hL.c9
    obtain ⟨z0, z1, z2, z3, z4, z5, z6, z7, z8, zf⟩ := hR.c9
    generalize hy : varF s (i, false) = y at *
    go_wp2
    refine body_agg (Tb := 63) (b := w.heap.size + 1) (cs := [.int .u8 118, .int .i64 n.x, .int .i64 y.1, .int .i64 n.v, .int .u8 n.k, .int .i64 n.t, .int .i64 n.f, .int .i64 n.a, .int .i64 n.l]) (.inr rfl) Tryz.results115 rfl rfl (by (repeat' (first | ((with_reducible show (_ : List Value) = _); rfl) | with_reducible exact hR | ((with_reducible refine Blk.newAt _ _ _ ?_); first | with_reducible rfl | (simp; done)) | with_reducible refine Blk.alloc ?_ _ | with_reducible refine Blk.drewN ?_ _ | with_reducible refine Blk.drew ?_ | ((with_reducible refine Blk.other ?_ _ ?_); rotate_left; ((try dsimp only); omega)) | with_reducible refine Blk.setB (cs0 := ?_) ?_ ?_))) Tryz.underlying63 rfl (by kernel_rfl) ?_
    rw [HV.out]
    refine ⟨rfl, ?_, ?_⟩
    · have hb1 : Blk w1 r [.string s, .int .i64 y.2.1, .bool y.2.2, nv, iv, .int .i64 lp] 45 := hB1
      show Blk _ _ _ _
      (repeat' (first | ((with_reducible show (_ : List Value) = _); rfl) | with_reducible exact hb1 | ((with_reducible refine Blk.newAt _ _ _ ?_); first | with_reducible rfl | (simp; done)) | with_reducible refine Blk.alloc ?_ _ | with_reducible refine Blk.drewN ?_ _ | with_reducible refine Blk.drew ?_ | ((with_reducible refine Blk.other ?_ _ ?_); rotate_left; ((try dsimp only); omega)) | with_reducible refine Blk.setB (cs0 := ?_) ?_ ?_))
    · (repeat' (first | with_reducible exact Kp.refl _ _ | with_reducible refine Kp.alloc ?_ _ | with_reducible refine Kp.drewN ?_ _ | with_reducible refine Kp.drew ?_ | with_reducible refine Kp.setCell ?_ _ ?_ | with_reducible refine Kp.trans ?_ hk1 (fun _ _ e => e) | (intro hh; first | rfl | exact .inl rfl | exact .inr rfl | (exfalso; (try dsimp only at hh); omega))))
set_option maxHeartbeats 800000 in
theorem value_one (r i : Nat) (s : ByteArray) (n : Nd) (nv iv : Value) (lp : Int) (w : World) (hs : s.size ≤ 1000) (_ : i ≤ s.size)
    (h : RB w r s (i, false) nv iv lp) (h1 : ¬ (48 ≤ pk s i ∧ pk s i ≤ 57)) (h2 : amF (pk s i) [84, 70, 90, 67, 63] = false) (h3 : amF (pk s i) [43, 60] = false) (h4 : amF (pk s i) [65, 66, 46] = true) :
    Calls Tryz.prog 115 #[.pointer (some ⟨r, 0, none⟩), .agg #[.int .u8 n.op, .int .i64 n.x, .int .i64 n.y, .int .i64 n.v, .int .u8 n.k, .int .i64 n.t, .int .i64 n.f, .int .i64 n.a, .int .i64 n.l]] w fun e w' =>
      e = .returned (.agg (valF s i n).1.cells.toArray) ∧ RB w' r s (valF s i n).2 nv iv lp ∧ Kp (· = r) w w' := by
  have HB := hide h
  have HV := hide (show valF s i n = ({ n with op := pk s i, y := (varF s (i + 1, false)).1 }, (varF s (i + 1, false)).2) by simp [valF, h1, h2, h3, h4])
  have hr := h.lt
  have hi1 : i + 1 ≤ s.size := pk_in s i (fun e => by rw [e] at h4; revert h4; decide)
  obtain ⟨c0, c1, c2, _, _, _, cf⟩ := h.c6
  clear h
  generalize hc : pk s i = d at *
  have HC := hide hc
  clear hc
  have hq : ¬ (48 ≤ (d : Int) ∧ (d : Int) ≤ 57) := by omega
  have hb : Blk w r [.string s, .int .i64 i, .bool false, nv, iv, .int .i64 lp] 45 := HB.out
  clear h1
  go_enter Tryz.func115, Tryz.ntmps115
  go_wp2_with (first
    | (go_at_call 65; refine (peek_c r i s false nv iv lp _ (by exact ((Blk.alloc HB.out _).alloc _))).mono ?_; rw [HC.out]; rintro e w' ⟨rfl, nq, rfl⟩)
    | (go_at_call 121; refine (among_c d _ _ (by decide)).mono ?_; rintro e w' ⟨rfl, rfl⟩))
  all_goals
    refine (variable_c r (i + 1) s false nv iv lp _ hs hi1 ?_).mono ?_
    · show Blk _ _ _ _
      (repeat' (first | ((with_reducible show (_ : List Value) = _); rfl) | with_reducible exact hb | ((with_reducible refine Blk.newAt _ _ _ ?_); first | with_reducible rfl | (simp; done)) | with_reducible refine Blk.alloc ?_ _ | with_reducible refine Blk.drewN ?_ _ | with_reducible refine Blk.drew ?_ | ((with_reducible refine Blk.other ?_ _ ?_); rotate_left; ((try dsimp only); omega)) | with_reducible refine Blk.setB (cs0 := ?_) ?_ ?_))
    rintro e w1 ⟨rfl, hB1, hk1⟩
    have hL : Blk w1 w.heap.size [.int .u8 d, .int .i64 n.x, .int .i64 n.y, .int .i64 n.v, .int .u8 n.k, .int .i64 n.t, .int .i64 n.f, .int .i64 n.a, .int .i64 n.l] 63 := hk1.blk (by (repeat' (first | ((with_reducible show (_ : List Value) = _); rfl) | with_reducible exact hb | ((with_reducible refine Blk.newAt _ _ _ ?_); first | with_reducible rfl | (simp; done)) | with_reducible refine Blk.alloc ?_ _ | with_reducible refine Blk.drewN ?_ _ | with_reducible refine Blk.drew ?_ | ((with_reducible refine Blk.other ?_ _ ?_); rotate_left; ((try dsimp only); omega)) | with_reducible refine Blk.setB (cs0 := ?_) ?_ ?_))) (by omega)
    have hR : Blk w1 (w.heap.size + 1) [.int .u8 0, .int .i64 0, .int .i64 0, .int .i64 0, .int .u8 0, .int .i64 0, .int .i64 0, .int .i64 0, .int .i64 0] 63 := hk1.blk (by (repeat' (first | ((with_reducible show (_ : List Value) = _); rfl) | with_reducible exact hb | ((with_reducible refine Blk.newAt _ _ _ ?_); first | with_reducible rfl | (simp; done)) | with_reducible refine Blk.alloc ?_ _ | with_reducible refine Blk.drewN ?_ _ | with_reducible refine Blk.drew ?_ | ((with_reducible refine Blk.other ?_ _ ?_); rotate_left; ((try dsimp only); omega)) | with_reducible refine Blk.setB (cs0 := ?_) ?_ ?_))) (by omega)
    have hz : w.heap.size + 2 ≤ w1.heap.size := by have := hk1.size; simp at this; omega
    obtain ⟨l0, l1, l2, l3, l4, l5, l6, l7, l8, lf⟩ := hL.c9
    obtain ⟨z0, z1, z2, z3, z4, z5, z6, z7, z8, zf⟩ := hR.c9
    generalize hy : varF s (i + 1, false) = y at *
    go_wp2
    refine body_agg (Tb := 63) (b := w.heap.size + 1) (cs := [.int .u8 d, .int .i64 n.x, .int .i64 y.1, .int .i64 n.v, .int .u8 n.k, .int .i64 n.t, .int .i64 n.f, .int .i64 n.a, .int .i64 n.l]) (.inr rfl) Tryz.results115 rfl rfl (by (repeat' (first | ((with_reducible show (_ : List Value) = _); rfl) | with_reducible exact hR | ((with_reducible refine Blk.newAt _ _ _ ?_); first | with_reducible rfl | (simp; done)) | with_reducible refine Blk.alloc ?_ _ | with_reducible refine Blk.drewN ?_ _ | with_reducible refine Blk.drew ?_ | ((with_reducible refine Blk.other ?_ _ ?_); rotate_left; ((try dsimp only); omega)) | with_reducible refine Blk.setB (cs0 := ?_) ?_ ?_))) Tryz.underlying63 rfl (by kernel_rfl) ?_
    rw [HV.out]
    refine ⟨rfl, ?_, ?_⟩
    · have hb1 : Blk w1 r [.string s, .int .i64 y.2.1, .bool y.2.2, nv, iv, .int .i64 lp] 45 := hB1
      show Blk _ _ _ _
      (repeat' (first | ((with_reducible show (_ : List Value) = _); rfl) | with_reducible exact hb1 | ((with_reducible refine Blk.newAt _ _ _ ?_); first | with_reducible rfl | (simp; done)) | with_reducible refine Blk.alloc ?_ _ | with_reducible refine Blk.drewN ?_ _ | with_reducible refine Blk.drew ?_ | ((with_reducible refine Blk.other ?_ _ ?_); rotate_left; ((try dsimp only); omega)) | with_reducible refine Blk.setB (cs0 := ?_) ?_ ?_))
    · (repeat' (first | with_reducible exact Kp.refl _ _ | with_reducible refine Kp.alloc ?_ _ | with_reducible refine Kp.drewN ?_ _ | with_reducible refine Kp.drew ?_ | with_reducible refine Kp.setCell ?_ _ ?_ | with_reducible refine Kp.trans ?_ hk1 (fun _ _ e => e) | (intro hh; first | rfl | exact .inl rfl | exact .inr rfl | (exfalso; (try dsimp only at hh); omega))))

set_option maxHeartbeats 800000 in
theorem value_two (r i : Nat) (s : ByteArray) (n : Nd) (nv iv : Value) (lp : Int) (w : World) (hs : s.size ≤ 1000) (_ : i ≤ s.size)
    (h : RB w r s (i, false) nv iv lp) (h1 : ¬ (48 ≤ pk s i ∧ pk s i ≤ 57)) (h2 : amF (pk s i) [84, 70, 90, 67, 63] = false) (h3 : amF (pk s i) [43, 60] = true) :
    Calls Tryz.prog 115 #[.pointer (some ⟨r, 0, none⟩), .agg #[.int .u8 n.op, .int .i64 n.x, .int .i64 n.y, .int .i64 n.v, .int .u8 n.k, .int .i64 n.t, .int .i64 n.f, .int .i64 n.a, .int .i64 n.l]] w fun e w' =>
      e = .returned (.agg (valF s i n).1.cells.toArray) ∧ RB w' r s (valF s i n).2 nv iv lp ∧ Kp (· = r) w w' := by
  have HB := hide h
  have HV := hide (show valF s i n = ({ n with op := pk s i, y := (varF s (i + 1, false)).1, v := (varF s (varF s (i + 1, false)).2).1 }, (varF s (varF s (i + 1, false)).2).2) by simp [valF, h1, h2, h3])
  have hr := h.lt
  have hi2 := varF_le s (i + 1, false) (pk_in s i (fun e => by rw [e] at h3; revert h3; decide))
  have hi1 : i + 1 ≤ s.size := pk_in s i (fun e => by rw [e] at h3; revert h3; decide)
  obtain ⟨c0, c1, c2, _, _, _, cf⟩ := h.c6
  clear h
  generalize hc : pk s i = d at *
  have HC := hide hc
  clear hc
  have hq : ¬ (48 ≤ (d : Int) ∧ (d : Int) ≤ 57) := by omega
  have hb : Blk w r [.string s, .int .i64 i, .bool false, nv, iv, .int .i64 lp] 45 := HB.out
  clear h1
  go_enter Tryz.func115, Tryz.ntmps115
  go_wp2_with (first
    | (go_at_call 65; refine (peek_c r i s false nv iv lp _ (by exact ((Blk.alloc HB.out _).alloc _))).mono ?_; rw [HC.out]; rintro e w' ⟨rfl, nq, rfl⟩)
    | (go_at_call 121; refine (among_c d _ _ (by decide)).mono ?_; rintro e w' ⟨rfl, rfl⟩))
  all_goals
    refine (variable_c r (i + 1) s false nv iv lp _ hs hi1 ?_).mono ?_
    · show Blk _ _ _ _
      (repeat' (first | ((with_reducible show (_ : List Value) = _); rfl) | with_reducible exact hb | ((with_reducible refine Blk.newAt _ _ _ ?_); first | with_reducible rfl | (simp; done)) | with_reducible refine Blk.alloc ?_ _ | with_reducible refine Blk.drewN ?_ _ | with_reducible refine Blk.drew ?_ | ((with_reducible refine Blk.other ?_ _ ?_); rotate_left; ((try dsimp only); omega)) | with_reducible refine Blk.setB (cs0 := ?_) ?_ ?_))
    rintro e w1 ⟨rfl, hB1, hk1⟩
    have hL : Blk w1 w.heap.size [.int .u8 d, .int .i64 n.x, .int .i64 n.y, .int .i64 n.v, .int .u8 n.k, .int .i64 n.t, .int .i64 n.f, .int .i64 n.a, .int .i64 n.l] 63 := hk1.blk (by (repeat' (first | ((with_reducible show (_ : List Value) = _); rfl) | with_reducible exact hb | ((with_reducible refine Blk.newAt _ _ _ ?_); first | with_reducible rfl | (simp; done)) | with_reducible refine Blk.alloc ?_ _ | with_reducible refine Blk.drewN ?_ _ | with_reducible refine Blk.drew ?_ | ((with_reducible refine Blk.other ?_ _ ?_); rotate_left; ((try dsimp only); omega)) | with_reducible refine Blk.setB (cs0 := ?_) ?_ ?_))) (by omega)
    have hR : Blk w1 (w.heap.size + 1) [.int .u8 0, .int .i64 0, .int .i64 0, .int .i64 0, .int .u8 0, .int .i64 0, .int .i64 0, .int .i64 0, .int .i64 0] 63 := hk1.blk (by (repeat' (first | ((with_reducible show (_ : List Value) = _); rfl) | with_reducible exact hb | ((with_reducible refine Blk.newAt _ _ _ ?_); first | with_reducible rfl | (simp; done)) | with_reducible refine Blk.alloc ?_ _ | with_reducible refine Blk.drewN ?_ _ | with_reducible refine Blk.drew ?_ | ((with_reducible refine Blk.other ?_ _ ?_); rotate_left; ((try dsimp only); omega)) | with_reducible refine Blk.setB (cs0 := ?_) ?_ ?_))) (by omega)
    have hz : w.heap.size + 2 ≤ w1.heap.size := by have := hk1.size; simp at this; omega
    obtain ⟨l0, l1, l2, l3, l4, l5, l6, l7, l8, lf⟩ := hL.c9
    generalize hy : varF s (i + 1, false) = y at *
    obtain ⟨y, yi, yb⟩ := y
    go_wp2_with fail
    have hb1 : Blk w1 r [.string s, .int .i64 yi, .bool yb, nv, iv, .int .i64 lp] 45 := hB1
    refine (variable_c r yi s yb nv iv lp _ hs hi2 ?_).mono ?_
    · show Blk _ _ _ _
      (repeat' (first | ((with_reducible show (_ : List Value) = _); rfl) | with_reducible exact hb1 | ((with_reducible refine Blk.newAt _ _ _ ?_); first | with_reducible rfl | (simp; done)) | with_reducible refine Blk.alloc ?_ _ | with_reducible refine Blk.drewN ?_ _ | with_reducible refine Blk.drew ?_ | ((with_reducible refine Blk.other ?_ _ ?_); rotate_left; ((try dsimp only); omega)) | with_reducible refine Blk.setB (cs0 := ?_) ?_ ?_))
    rintro e w2 ⟨rfl, hB2, hk2⟩
    have hL2 : Blk w2 w.heap.size [.int .u8 d, .int .i64 n.x, .int .i64 y, .int .i64 n.v, .int .u8 n.k, .int .i64 n.t, .int .i64 n.f, .int .i64 n.a, .int .i64 n.l] 63 := hk2.blk (by (repeat' (first | ((with_reducible show (_ : List Value) = _); rfl) | with_reducible exact hL | ((with_reducible refine Blk.newAt _ _ _ ?_); first | with_reducible rfl | (simp; done)) | with_reducible refine Blk.alloc ?_ _ | with_reducible refine Blk.drewN ?_ _ | with_reducible refine Blk.drew ?_ | ((with_reducible refine Blk.other ?_ _ ?_); rotate_left; ((try dsimp only); omega)) | with_reducible refine Blk.setB (cs0 := ?_) ?_ ?_))) (by omega)
    have hR2 : Blk w2 (w.heap.size + 1) [.int .u8 0, .int .i64 0, .int .i64 0, .int .i64 0, .int .u8 0, .int .i64 0, .int .i64 0, .int .i64 0, .int .i64 0] 63 := hk2.blk (by (repeat' (first | ((with_reducible show (_ : List Value) = _); rfl) | with_reducible exact hR | ((with_reducible refine Blk.newAt _ _ _ ?_); first | with_reducible rfl | (simp; done)) | with_reducible refine Blk.alloc ?_ _ | with_reducible refine Blk.drewN ?_ _ | with_reducible refine Blk.drew ?_ | ((with_reducible refine Blk.other ?_ _ ?_); rotate_left; ((try dsimp only); omega)) | with_reducible refine Blk.setB (cs0 := ?_) ?_ ?_))) (by omega)
    have hz2 : w.heap.size + 2 ≤ w2.heap.size := by have := hk2.size; simp at this; omega
    obtain ⟨m0, m1, m2, m3, m4, m5, m6, m7, m8, mf⟩ := hL2.c9
    obtain ⟨z0, z1, z2, z3, z4, z5, z6, z7, z8, zf⟩ := hR2.c9
    generalize hy2 : varF s (yi, yb) = v at *
    go_wp2
    refine body_agg (Tb := 63) (b := w.heap.size + 1) (cs := [.int .u8 d, .int .i64 n.x, .int .i64 y, .int .i64 v.1, .int .u8 n.k, .int .i64 n.t, .int .i64 n.f, .int .i64 n.a, .int .i64 n.l]) (.inr rfl) Tryz.results115 rfl rfl (by (repeat' (first | ((with_reducible show (_ : List Value) = _); rfl) | with_reducible exact hR2 | ((with_reducible refine Blk.newAt _ _ _ ?_); first | with_reducible rfl | (simp; done)) | with_reducible refine Blk.alloc ?_ _ | with_reducible refine Blk.drewN ?_ _ | with_reducible refine Blk.drew ?_ | ((with_reducible refine Blk.other ?_ _ ?_); rotate_left; ((try dsimp only); omega)) | with_reducible refine Blk.setB (cs0 := ?_) ?_ ?_))) Tryz.underlying63 rfl (by kernel_rfl) ?_
    rw [HV.out]
    refine ⟨rfl, ?_, ?_⟩
    · have hb1 : Blk w2 r [.string s, .int .i64 v.2.1, .bool v.2.2, nv, iv, .int .i64 lp] 45 := hB2
      show Blk _ _ _ _
      (repeat' (first | ((with_reducible show (_ : List Value) = _); rfl) | with_reducible exact hb1 | ((with_reducible refine Blk.newAt _ _ _ ?_); first | with_reducible rfl | (simp; done)) | with_reducible refine Blk.alloc ?_ _ | with_reducible refine Blk.drewN ?_ _ | with_reducible refine Blk.drew ?_ | ((with_reducible refine Blk.other ?_ _ ?_); rotate_left; ((try dsimp only); omega)) | with_reducible refine Blk.setB (cs0 := ?_) ?_ ?_))
    · (repeat' (first | with_reducible exact Kp.refl _ _ | with_reducible refine Kp.alloc ?_ _ | with_reducible refine Kp.drewN ?_ _ | with_reducible refine Kp.drew ?_ | with_reducible refine Kp.setCell ?_ _ ?_ | with_reducible refine Kp.trans ?_ hk1 (fun _ _ e => e) | with_reducible refine Kp.trans ?_ hk2 (fun _ _ e => e) | (intro hh; first | rfl | exact .inl rfl | exact .inr rfl | (exfalso; (try dsimp only at hh); omega))))

theorem value_c (r i : Nat) (s : ByteArray) (n : Nd) (nv iv : Value) (lp : Int) (w : World) (hs : s.size ≤ 1000) (hi : i ≤ s.size)
    (h : RB w r s (i, false) nv iv lp) :
    Calls Tryz.prog 115 #[.pointer (some ⟨r, 0, none⟩), .agg #[.int .u8 n.op, .int .i64 n.x, .int .i64 n.y, .int .i64 n.v, .int .u8 n.k, .int .i64 n.t, .int .i64 n.f, .int .i64 n.a, .int .i64 n.l]] w fun e w' =>
      e = .returned (.agg (valF s i n).1.cells.toArray) ∧ RB w' r s (valF s i n).2 nv iv lp ∧ Kp (· = r) w w' := by
  by_cases h1 : 48 ≤ pk s i ∧ pk s i ≤ 57
  · exact value_digit r i s n nv iv lp w hs hi h h1.1 h1.2
  cases h2 : amF (pk s i) [84, 70, 90, 67, 63]
  · cases h3 : amF (pk s i) [43, 60]
    · cases h4 : amF (pk s i) [65, 66, 46]
      · exact value_var r i s n nv iv lp w hs hi h h1 h2 h3 h4
      · exact value_one r i s n nv iv lp w hs hi h h1 h2 h3 h4
    · exact value_two r i s n nv iv lp w hs hi h h1 h2 h3
  · exact value_plain r i s n nv iv lp w hs hi h h1 h2

theorem valF_le (s : ByteArray) (i : Nat) (n : Nd) (h : i ≤ s.size) : (valF s i n).2.1 ≤ s.size := by
  unfold valF
  repeat' split
  · have := pk_in s i (by omega); show i + 1 ≤ _; omega
  · rename_i _ h2; have := pk_in s i (fun e => by rw [e] at h2; revert h2; decide); show i + 1 ≤ _; omega
  · rename_i _ _ h2; have := pk_in s i (fun e => by rw [e] at h2; revert h2; decide)
    exact varF_le _ _ (varF_le _ _ (by show i + 1 ≤ _; omega))
  · rename_i _ _ _ h2; have := pk_in s i (fun e => by rw [e] at h2; revert h2; decide)
    exact varF_le _ _ (by show i + 1 ≤ _; omega)
  · exact varF_le _ _ h
end Go.Proofs.YtellieabhaphhaaGreatDoor
