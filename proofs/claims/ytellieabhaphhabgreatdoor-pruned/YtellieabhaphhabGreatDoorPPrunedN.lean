import Derived.Test.YtellieabhaphhabGreatDoorPPrunedM
/-
  narrow's maker: what it lays: nodes and marks.
-/
namespace Go.Proofs.YtellieabhaphhabGreatDoor
open Go.RowKit

/-- The maker at work: where it reads, its row, its marks. -/
structure MS where
  p : Nat × Bool
  row : List NN
  marks : List Nat

def mCells (l : List Nat) : List Value := l.map (fun (k : Nat) => Value.int .i64 k)

abbrev MRow (w : World) (v : Value) (l : List Nat) : Prop := Row w v 3 1 l.length (mCells l)

/-- Its block and its two rows; O: the blocks that are its own. -/
def Mp (w : World) (r : Nat) (s : ByteArray) (m : MS) (O : Nat → Prop) : Prop :=
  ∃ nv iv, NR w r s m.p [nv, iv] 86 ∧ NRow w nv m.row ∧ MRow w iv m.marks ∧
    nv.ownBlock ≠ some r ∧ iv.ownBlock ≠ some r ∧ (∀ b, nv.ownBlock = some b → iv.ownBlock ≠ some b) ∧ O = Own r nv iv

def MWent (w : World) (O : Nat → Prop) (r : Nat) (s : ByteArray) (m : MS) (w' : World) : Prop := ∃ O', Mp w' r s m O' ∧ Th O w O' w'

theorem MWent.drew {w w' : World} {O : Nat → Prop} {r : Nat} {s : ByteArray} {m : MS} (h : MWent w O r s m w') : MWent w O r s m w'.drew :=
  let ⟨O', h1, h2⟩ := h
  ⟨O', h1, h2.drew⟩

section
variable {w : World} {r : Nat} {s : ByteArray} {m : MS} {O : Nat → Prop}
theorem Mp.n (h : Mp w r s m O) (n : Nat) : Mp (w.drewN n) r s m O := h
theorem Mp.drew (h : Mp w r s m O) : Mp w.drew r s m O := h
theorem Mp.own (h : Mp w r s m O) : O r := by
  obtain ⟨nv, iv, hB, hN, hI, d1, d2, d3, rfl⟩ := h; exact .inl rfl
theorem Mp.lt (h : Mp w r s m O) : ∀ b, O b → b < w.heap.size := by
  obtain ⟨nv, iv, hB, hN, hI, d1, d2, d3, rfl⟩ := h
  rintro b (h | h | h)
  · subst h; exact hB.lt
  · exact Row.lt hN h
  · exact Row.lt hI h
theorem Mp.c (h : Mp w r s m O) : w.cell? ⟨r, 0, none⟩ = some (.string s) ∧ w.cell? ⟨r, 1, none⟩ = some (.int .i64 m.p.1) ∧ w.cell? ⟨r, 2, none⟩ = some (.bool m.p.2) ∧ ∀ o, w.frozen? ⟨r, o, none⟩ = false := by
  obtain ⟨nv, iv, hB, hN, hI, d1, d2, d3, rfl⟩ := h
  exact ⟨Blk.cell hB 0, Blk.cell hB 1, Blk.cell hB 2, Blk.frozen hB⟩
theorem Mp.alloc (h : Mp w r s m O) (o : Obj) : Mp (w.alloc o) r s m O := by
  obtain ⟨nv, iv, hB, hN, hI, d1, d2, d3, rfl⟩ := h
  exact ⟨nv, iv, Blk.alloc hB o, World.ownsRow.alloc hN o, World.ownsRow.alloc hI o, d1, d2, d3, rfl⟩
theorem Mp.other (h : Mp w r s m O) {b o : Nat} (v : Value) (hb : ¬ O b) : Mp (w.setCell ⟨b, o, none⟩ v) r s m O := by
  obtain ⟨nv, iv, hB, hN, hI, d1, d2, d3, rfl⟩ := h
  exact ⟨nv, iv, Blk.other hB v (fun e => hb (.inl e.symm)), Row.set hN v (fun e => hb (.inr (.inl e))), Row.set hI v (fun e => hb (.inr (.inr e))), d1, d2, d3, rfl⟩
theorem Mp.setBad (h : Mp w r s m O) : Mp (w.setCell ⟨r, 2, none⟩ (.bool true)) r s { m with p := (m.p.1, true) } O := by
  obtain ⟨nv, iv, hB, hN, hI, d1, d2, d3, rfl⟩ := h
  exact ⟨nv, iv, Blk.set hB 2 _, Row.set hN _ d1, Row.set hI _ d2, d1, d2, d3, rfl⟩

theorem mwent_rb {w' : World} {nv iv : Value} {p : Nat × Bool} (hN : NRow w nv m.row) (hI : MRow w iv m.marks)
    (d1 : nv.ownBlock ≠ some r) (d2 : iv.ownBlock ≠ some r) (d3 : ∀ b, nv.ownBlock = some b → iv.ownBlock ≠ some b)
    (hB' : NR w' r s p [nv, iv] 86) (hk : Kp (· = r) w w') : MWent w (Own r nv iv) r s { m with p := p } w' :=
  ⟨_, ⟨nv, iv, hB', hk.row hN (fun b hb e => d1 (by rw [hb, e])), hk.row hI (fun b hb e => d2 (by rw [hb, e])), d1, d2, d3, rfl⟩, hk.mono (fun _ e => .inl e), fun _ h _ => h⟩

def expM (s : ByteArray) (m : MS) (l : List UInt8) : MS := { m with p := expF s m.p l }

theorem mpeek_w (h : Mp w r s m O) (hs : s.size ≤ 1000) (hi : m.p.1 ≤ s.size) : Calls Tryz.prog 79 #[.pointer (some ⟨r, 0, none⟩)] w fun e w' => e = .returned (.int .u8 (pkb s m.p)) ∧ ∃ n, w' = w.drewN n := by
  obtain ⟨nv, iv, hB, hN, hI, d1, d2, d3, rfl⟩ := h
  exact npeek_c r m.p.1 s m.p.2 _ _ w hs hi hB

theorem mexpect_w (h : Mp w r s m O) (u : ByteArray) (hs : s.size ≤ 1000) (hi : m.p.1 ≤ s.size) (hu : u.size ≤ 10) (hz : ∀ k (h : k < u.size), (u[k]).toNat ≠ 0) :
    Calls Tryz.prog 73 #[.pointer (some ⟨r, 0, none⟩), .string u] w fun e w' => e = .returned (.tuple #[]) ∧ MWent w O r s (expM s m u.data.toList) w' := by
  obtain ⟨nv, iv, hB, hN, hI, d1, d2, d3, rfl⟩ := h
  exact (nexpect_c r m.p.1 s u m.p.2 _ _ w hs hi hu hz hB).mono fun e w' ⟨h1, h2, h3⟩ => ⟨h1, mwent_rb hN hI d1 d2 d3 h2 h3⟩

theorem maction_w (h : Mp w r s m O) (hs : s.size ≤ 1000) (hi : m.p.1 ≤ s.size) :
    Calls Tryz.prog 112 #[.pointer (some ⟨r, 0, none⟩)] w fun e w' => e = .returned (.agg (nacF s m.p).1.cells.toArray) ∧ MWent w O r s { m with p := (nacF s m.p).2 } w' := by
  obtain ⟨nv, iv, hB, hN, hI, d1, d2, d3, rfl⟩ := h
  exact (naction_c r m.p.1 s m.p.2 _ _ w hs hi hB).mono fun e w' ⟨h1, h2, h3⟩ => ⟨h1, mwent_rb hN hI d1 d2 d3 h2 h3⟩

theorem msince_w (h : Mp w r s m O) (a : Nat) (hs : s.size ≤ 1000) (hi : m.p.1 ≤ s.size) (ha : a ≤ m.p.1) :
    Calls Tryz.prog 70 #[.pointer (some ⟨r, 0, none⟩), .int .i64 a] w fun e w' => e = .returned (.string (sinceB s a m.p.1)) ∧ ∃ n, w' = w.drewN n := by
  obtain ⟨nv, iv, hB, hN, hI, d1, d2, d3, rfl⟩ := h
  exact nsince_c r m.p.1 a s m.p.2 _ _ w hs hi ha hB
end

/-- A test, as a function. -/
def tstF (s : ByteArray) (p : Nat × Bool) : NN × (Nat × Bool) := queF s (varF s p).2 (varF s p).1

set_option maxHeartbeats 800000 in
theorem nrtest_c (r i : Nat) (s : ByteArray) (bad : Bool) (rest : List Value) (T : TypeId) (w : World) (hs : s.size ≤ 1000) (hi : i ≤ s.size)
    (h : NR w r s (i, bad) rest T) :
    Calls Tryz.prog 154 #[.pointer (some ⟨r, 0, none⟩)] w fun e w' => e = .returned (.agg (tstF s (i, bad)).1.cells.toArray) ∧ NR w' r s (tstF s (i, bad)).2 rest T ∧ Kp (· = r) w w' := by
  have HV : Hid (tstF s (i, bad) = queF s (varF s (i, bad)).2 (varF s (i, bad)).1) := rfl
  have hr := h.lt
  have hb : Blk w r (.string s :: .int .i64 i :: .bool bad :: rest) T := h
  have HK := hide (fun W (hW : NR W r s (i, bad) rest T) => nvariable_c r i s bad rest T W hs hi hW)
  have hq := varF_le s (i, bad) hi
  have HK2 := hide (fun W (hW : NR W r s (varF s (i, bad)).2 rest T) => nquestion_c r (varF s (i, bad)).2.1 (varF s (i, bad)).1 s (varF s (i, bad)).2.2 rest T W hs hq hW)
  generalize varF s (i, bad) = q at *
  obtain ⟨k, q⟩ := q
  dsimp only at HK2 HV HK
  rw [show (q.1, q.2) = q from rfl] at HK2
  generalize queF s q k = q2 at *
  obtain ⟨⟨g0, g1, g2, g3, g4, g5, g6, g7, g8, g9, g10⟩, q2⟩ := q2
  clear h
  unfold NN.cells at HK2
  dsimp only at HK2
  go_enter Tryz.func154, Tryz.ntmps154
  go_wp2_with fail
  refine (HK.out _ (by (show Blk _ _ _ _); (repeat' (first | ((with_reducible show (_ : List Value) = _); rfl) | with_reducible exact hb | ((with_reducible refine Blk.newAt _ _ _ ?_); first | with_reducible rfl | (simp; done)) | with_reducible refine Blk.alloc ?_ _ | with_reducible refine Blk.drewN ?_ _ | with_reducible refine Blk.drew ?_ | ((with_reducible refine Blk.other ?_ _ ?_); rotate_left; ((try dsimp only); omega)) | with_reducible refine Blk.setB (cs0 := ?_) ?_ ?_)))).mono ?_
  rintro e w1 ⟨rfl, hNw1, kw1⟩
  have hbw1 : Blk w1 r (.string s :: .int .i64 q.1 :: .bool q.2 :: rest) T := hNw1
  have hrw1 := hbw1.lt
  have hR1 : Blk w1 w.heap.size [.string ⟨#[]⟩, .int .i64 0, .int .i64 0, .int .i64 0, .int .i64 0, .int .i64 0, .int .i64 0, .int .i64 0, .int .i64 0, .int .i64 0, .int .i64 0] 68 := kw1.blk (by (repeat' (first | ((with_reducible show (_ : List Value) = _); rfl) | with_reducible exact hb | ((with_reducible refine Blk.newAt _ _ _ ?_); first | with_reducible rfl | (simp; done)) | with_reducible refine Blk.alloc ?_ _ | with_reducible refine Blk.drewN ?_ _ | with_reducible refine Blk.drew ?_ | ((with_reducible refine Blk.other ?_ _ ?_); rotate_left; ((try dsimp only); omega)) | with_reducible refine Blk.setB (cs0 := ?_) ?_ ?_))) (by omega)
  obtain ⟨z1_0, z1_1, z1_2, z1_3, z1_4, z1_5, z1_6, z1_7, z1_8, z1_9, z1_10, zf1⟩ := hR1.c11
  have hz1 := hR1.lt
  go_wp2_with fail
  refine (HK2.out _ (by (show Blk _ _ _ _); (repeat' (first | ((with_reducible show (_ : List Value) = _); rfl) | with_reducible exact hbw1 | ((with_reducible refine Blk.newAt _ _ _ ?_); first | with_reducible rfl | (simp; done)) | with_reducible refine Blk.alloc ?_ _ | with_reducible refine Blk.drewN ?_ _ | with_reducible refine Blk.drew ?_ | ((with_reducible refine Blk.other ?_ _ ?_); rotate_left; ((try dsimp only); omega)) | with_reducible refine Blk.setB (cs0 := ?_) ?_ ?_)))).mono ?_
  rintro e w2 ⟨rfl, hNw2, kw2⟩
  have hbw2 : Blk w2 r (.string s :: .int .i64 q2.1 :: .bool q2.2 :: rest) T := hNw2
  have hrw2 := hbw2.lt
  have hR2 : Blk w2 w.heap.size [.string ⟨#[]⟩, .int .i64 0, .int .i64 0, .int .i64 0, .int .i64 0, .int .i64 0, .int .i64 0, .int .i64 0, .int .i64 0, .int .i64 0, .int .i64 0] 68 := kw2.blk (by (repeat' (first | ((with_reducible show (_ : List Value) = _); rfl) | with_reducible exact hR1 | ((with_reducible refine Blk.newAt _ _ _ ?_); first | with_reducible rfl | (simp; done)) | with_reducible refine Blk.alloc ?_ _ | with_reducible refine Blk.drewN ?_ _ | with_reducible refine Blk.drew ?_ | ((with_reducible refine Blk.other ?_ _ ?_); rotate_left; ((try dsimp only); omega)) | with_reducible refine Blk.setB (cs0 := ?_) ?_ ?_))) (by omega)
  obtain ⟨z2_0, z2_1, z2_2, z2_3, z2_4, z2_5, z2_6, z2_7, z2_8, z2_9, z2_10, zf2⟩ := hR2.c11
  have hz2 := hR2.lt
  go_wp2
  refine body_agg (Tb := 68) (b := w.heap.size) (cs := [.string g0, .int .i64 g1, .int .i64 g2, .int .i64 g3, .int .i64 g4, .int .i64 g5, .int .i64 g6, .int .i64 g7, .int .i64 g8, .int .i64 g9, .int .i64 g10]) (.inr rfl) Tryz.results154 rfl rfl (by (repeat' (first | ((with_reducible show (_ : List Value) = _); rfl) | with_reducible exact hR2 | ((with_reducible refine Blk.newAt _ _ _ ?_); first | with_reducible rfl | (simp; done)) | with_reducible refine Blk.alloc ?_ _ | with_reducible refine Blk.drewN ?_ _ | with_reducible refine Blk.drew ?_ | ((with_reducible refine Blk.other ?_ _ ?_); rotate_left; ((try dsimp only); omega)) | with_reducible refine Blk.setB (cs0 := ?_) ?_ ?_))) Tryz.underlying68 rfl (by kernel_rfl) ?_
  rw [HV.out]
  exact ⟨rfl, by (show Blk _ _ _ _); (repeat' (first | ((with_reducible show (_ : List Value) = _); rfl) | with_reducible exact hbw2 | ((with_reducible refine Blk.newAt _ _ _ ?_); first | with_reducible rfl | (simp; done)) | with_reducible refine Blk.alloc ?_ _ | with_reducible refine Blk.drewN ?_ _ | with_reducible refine Blk.drew ?_ | ((with_reducible refine Blk.other ?_ _ ?_); rotate_left; ((try dsimp only); omega)) | with_reducible refine Blk.setB (cs0 := ?_) ?_ ?_)), by (repeat' (first | with_reducible exact Kp.refl _ _ | with_reducible refine Kp.alloc ?_ _ | with_reducible refine Kp.drewN ?_ _ | with_reducible refine Kp.drew ?_ | with_reducible refine Kp.setCell ?_ _ ?_ | with_reducible refine Kp.trans ?_ kw1 (fun _ _ e => e) | with_reducible refine Kp.trans ?_ kw2 (fun _ _ e => e) | (intro hh; first | rfl | exact .inl rfl | exact .inr rfl | (exfalso; (try dsimp only at hh); omega))))⟩

theorem mtest_w {w : World} {r : Nat} {s : ByteArray} {m : MS} {O : Nat → Prop} (h : Mp w r s m O) (hs : s.size ≤ 1000) (hi : m.p.1 ≤ s.size) :
    Calls Tryz.prog 154 #[.pointer (some ⟨r, 0, none⟩)] w fun e w' => e = .returned (.agg (tstF s m.p).1.cells.toArray) ∧ MWent w O r s { m with p := (tstF s m.p).2 } w' := by
  obtain ⟨nv, iv, hB, hN, hI, d1, d2, d3, rfl⟩ := h
  exact (nrtest_c r m.p.1 s m.p.2 _ _ w hs hi hB).mono fun e w' ⟨h1, h2, h3⟩ => ⟨h1, mwent_rb hN hI d1 d2 d3 h2 h3⟩

theorem info_mint : (Tryz.prog.info? 3).map (fun i => (i.zero, i.size, i.bytes)) = some (some (.int .i64 0), 1, 8) := by kernel_rfl

theorem mwent_row {w W w' : World} {r : Nat} {s : ByteArray} {m : MS} {nv iv : Value} {n : NN} {g cap H : Nat}
    (hB : NR w r s m.p [nv, iv] 86) (hI : MRow w iv m.marks)
    (d1 : nv.ownBlock ≠ some r) (d2 : iv.ownBlock ≠ some r) (d3 : ∀ b, nv.ownBlock = some b → iv.ownBlock ≠ some b) (hk : Kp no w W)
    (hown : w'.ownsRow 0 68 11 (.slice (some ⟨g, 0, none⟩) (m.row.length + 1) cap) (m.row.length + 1) (nnCells m.row ++ n.cells))
    (hgrow : W.grownBy w' nv.ownBlock) (hat : nv.ownBlock = some g ∨ g = H) (hH : w.heap.size ≤ H) :
    MWent w (Own r nv iv) r s { m with row := m.row ++ [n] } (w'.setCell ⟨r, 3, none⟩ (.slice (some ⟨g, 0, none⟩) (m.row.length + 1) cap)) := by
  have hr := hB.lt
  have hg : g ≠ r := by
    rcases hat with h | h
    · exact fun e => d1 (by rw [h, e])
    · omega
  have hIW : MRow W iv m.marks := hk.row hI (fun _ _ => no_elim)
  refine ⟨Own r (.slice (some ⟨g, 0, none⟩) (m.row.length + 1) cap) iv, ⟨_, iv, ?_, ?_, ?_, ?_, d2, ?_, rfl⟩, ?_, ?_⟩
  · exact Blk.set (grown_blk hgrow (hk.blk hB no_elim) d1) 3 _
  · have e1 : nnCells (m.row ++ [n]) = nnCells m.row ++ n.cells := by simp [nnCells]
    have e2 : (m.row ++ [n]).length = m.row.length + 1 := by simp
    show Row _ _ _ _ (m.row ++ [n]).length (nnCells (m.row ++ [n]))
    rw [e1, e2]
    exact Row.set hown _ (by simpa [Value.ownBlock] using hg)
  · refine Row.set (World.ownsRow.kept hIW hgrow ?_) _ d2
    cases hv : iv.ownBlock with
    | none => exact .inl rfl
    | some b => exact .inr (fun e => d3 b e.symm hv)
  · simpa [Value.ownBlock] using hg
  · intro b hb hv
    have hb' : g = b := by simpa [Value.ownBlock] using hb
    subst hb'
    rcases hat with h | h
    · exact d3 _ h hv
    · have := Row.lt hI hv; omega
  · exact ((hk.mono (fun _ e => e.elim)).grown hgrow (fun k _ e => .inr (.inl e))).setCell _ (fun _ => .inl rfl)
  · rintro b (h | h | h) hlt
    · exact .inl h
    · have hb' : g = b := by simpa [Value.ownBlock] using h
      subst hb'
      rcases hat with h | h
      · exact .inr (.inl h)
      · omega
    · exact .inr (.inr h)

theorem mwent_marks {w W w' : World} {r : Nat} {s : ByteArray} {m : MS} {nv iv : Value} {g cap H : Nat}
    (hB : NR w r s m.p [nv, iv] 86) (hN : NRow w nv m.row)
    (d1 : nv.ownBlock ≠ some r) (d2 : iv.ownBlock ≠ some r) (d3 : ∀ b, nv.ownBlock = some b → iv.ownBlock ≠ some b) (hk : Kp no w W)
    (hown : w'.ownsRow 0 3 1 (.slice (some ⟨g, 0, none⟩) (m.marks.length + 1) cap) (m.marks.length + 1) (mCells m.marks ++ [.int .i64 0]))
    (hgrow : W.grownBy w' iv.ownBlock) (hat : iv.ownBlock = some g ∨ g = H) (hH : w.heap.size ≤ H) :
    MWent w (Own r nv iv) r s { m with marks := m.marks ++ [0] } (w'.setCell ⟨r, 4, none⟩ (.slice (some ⟨g, 0, none⟩) (m.marks.length + 1) cap)) := by
  have hr := hB.lt
  have hg : g ≠ r := by
    rcases hat with h | h
    · exact fun e => d2 (by rw [h, e])
    · omega
  have hNW : NRow W nv m.row := hk.row hN (fun _ _ => no_elim)
  refine ⟨Own r nv (.slice (some ⟨g, 0, none⟩) (m.marks.length + 1) cap), ⟨nv, _, ?_, ?_, ?_, d1, ?_, ?_, rfl⟩, ?_, ?_⟩
  · exact Blk.set (grown_blk hgrow (hk.blk hB no_elim) d2) 4 _
  · refine Row.set (World.ownsRow.kept hNW hgrow ?_) _ d1
    cases hv : nv.ownBlock with
    | none => exact .inl rfl
    | some b => exact .inr (fun e => d3 b hv e.symm)
  · have e1 : mCells (m.marks ++ [0]) = mCells m.marks ++ [.int .i64 0] := by simp [mCells]
    have e2 : (m.marks ++ [0]).length = m.marks.length + 1 := by simp
    show Row _ _ _ _ (m.marks ++ [0]).length (mCells (m.marks ++ [0]))
    rw [e1, e2]
    exact Row.set hown _ (by simpa [Value.ownBlock] using hg)
  · simpa [Value.ownBlock] using hg
  · intro b hb hv
    have hb' : g = b := by simpa [Value.ownBlock] using hv
    subst hb'
    rcases hat with h | h
    · exact d3 _ hb h
    · have := Row.lt hN hb; omega
  · exact ((hk.mono (fun _ e => e.elim)).grown hgrow (fun k _ e => .inr (.inr e))).setCell _ (fun _ => .inl rfl)
  · rintro b (h | h | h) hlt
    · exact .inl h
    · exact .inr (.inl h)
    · have hb' : g = b := by simpa [Value.ownBlock] using h
      subst hb'
      rcases hat with h | h
      · exact .inr (.inr h)
      · omega

def newM (m : MS) : MS := { m with marks := m.marks ++ [0] }
def layM (m : MS) (k : Nat) : MS := { m with marks := m.marks.set k m.row.length }
def jumpN (k : Int) : NN := { nn0 with act := 15, yes := k, no := k }
def jmpM (m : MS) (k : Int) : MS := { m with row := m.row ++ [jumpN k] }

set_option maxHeartbeats 1600000 in
theorem nnewMark_c {r : Nat} {s : ByteArray} {m : MS} {O : Nat → Prop} {w : World} (hn : m.marks.length ≤ 2000) (h : Mp w r s m O) :
    Calls Tryz.prog 122 #[.pointer (some ⟨r, 0, none⟩)] w fun e w' => e = .returned (.int .i64 m.marks.length) ∧ MWent w O r s (newM m) w' := by
  obtain ⟨nv, iv, hB, hN, hI, d1, d2, d3, rfl⟩ := h
  obtain ⟨i0, hi, hz0, hz1, hz2⟩ := info_parts info_mint
  have hr := hB.lt
  have hb : Blk w r [.string s, .int .i64 m.p.1, .bool m.p.2, nv, iv] 86 := hB
  have q4 := hb.cell 4
  simp only [List.getElem?_cons_zero, List.getElem?_cons_succ] at q4
  have qf := hb.frozen
  have hone : ∀ u ∈ [Value.int .i64 0], u.oneCell' = true := by simp [Value.oneCell']
  go_enter Tryz.func122, Tryz.ntmps122
  go_wp2_with (at_builtin; refine wpList_append_lies _ rfl (.tmp 7) (.tmp 8) 84 rfl 0 3 i0 _ 1 8 Tryz.underlying84 hi hz0 hz1 hz2 rfl (by decide) iv m.marks.length (mCells m.marks) (by simp [Act.eval]) (by exact World.ownsRow.alloc hI _) ⟨w.heap.size, 0, none⟩ 1 1 [Value.int .i64 0] (by simp [Act.eval]) rfl (by exact Blk.news (Blk.new w [Value.int .i64 0] _)) hone (by decide) (by unfold maxLen; omega) (by omega) (Nat.zero_le _) _ rfl ?_; intro g cap w' hown hgrow hat hlt; have hb' := grown_blk hgrow (Blk.alloc hb _) d2; have q4' := hb'.cell 4; have qf' := hb'.frozen; simp only [List.getElem?_cons_zero, List.getElem?_cons_succ] at q4')
  go_ret
  exact ⟨ret_i64 (by push_cast; omega), mwent_marks hB hN d1 d2 d3 (W := w.alloc _) ((Kp.refl _ _).alloc _) hown hgrow hat (by simp)⟩

set_option maxHeartbeats 1600000 in
theorem njump_c {r : Nat} {s : ByteArray} {m : MS} {O : Nat → Prop} {w : World} (k : Int) (hn : m.row.length ≤ 2000) (h : Mp w r s m O) :
    Calls Tryz.prog 125 #[.pointer (some ⟨r, 0, none⟩), .int .i64 k] w fun e w' => e = .returned (.tuple #[]) ∧ MWent w O r s (jmpM m k) w' := by
  obtain ⟨nv, iv, hB, hN, hI, d1, d2, d3, rfl⟩ := h
  obtain ⟨i0, hi, hz0, hz1, hz2⟩ := info_parts info_nn
  have hr := hB.lt
  have hb : Blk w r [.string s, .int .i64 m.p.1, .bool m.p.2, nv, iv] 86 := hB
  have q3 := hb.cell 3
  simp only [List.getElem?_cons_zero, List.getElem?_cons_succ] at q3
  have qf := hb.frozen
  have hone : ∀ u ∈ (jumpN k).cells, u.oneCell' = true := by simp [jumpN, NN.cells, Value.oneCell']
  go_enter Tryz.func125, Tryz.ntmps125
  go_wp2_with (at_builtin; refine wpList_append_lies _ rfl (.tmp 8) (.tmp 12) 43 rfl 0 68 i0 _ 11 96 Tryz.underlying43 hi hz0 hz1 hz2 rfl (by decide) nv m.row.length (nnCells m.row) (by simp [Act.eval]) (by exact World.ownsRow.alloc hN _) ⟨w.heap.size, 0, none⟩ 1 1 (jumpN k).cells (by simp [Act.eval]) rfl (by exact Blk.news (Blk.new w (jumpN k).cells _)) hone (by decide) (by unfold maxLen; omega) (by omega) (Nat.zero_le _) _ rfl ?_; intro g cap w' hown hgrow hat hlt; have hb' := grown_blk hgrow (Blk.alloc hb _) d1; have q3' := hb'.cell 3; have qf' := hb'.frozen; simp only [List.getElem?_cons_zero, List.getElem?_cons_succ] at q3')
  go_end0
  exact ⟨rfl, mwent_row hB hI d1 d2 d3 (W := w.alloc _) ((Kp.refl _ _).alloc _) hown hgrow hat (by simp)⟩

set_option maxHeartbeats 1600000 in
theorem nlayMark_c {r : Nat} {s : ByteArray} {m : MS} {O : Nat → Prop} {w : World} (k : Nat) (hn : m.marks.length ≤ 2000) (_ : m.row.length ≤ 2000) (hk : k < m.marks.length) (h : Mp w r s m O) :
    Calls Tryz.prog 124 #[.pointer (some ⟨r, 0, none⟩), .int .i64 k] w fun e w' => e = .returned (.tuple #[]) ∧ MWent w O r s (layM m k) w' := by
  obtain ⟨nv, iv, hB, hN, hI, d1, d2, d3, rfl⟩ := h
  have hr := hB.lt
  have hb : Blk w r [.string s, .int .i64 m.p.1, .bool m.p.2, nv, iv] 86 := hB
  obtain ⟨g, cap, rfl, _, hg⟩ := World.ownsRow.form hI (by omega)
  obtain ⟨a, cap2, rfl⟩ := hN.shape
  have q3 := hb.cell 3
  have q4 := hb.cell 4
  simp only [List.getElem?_cons_zero, List.getElem?_cons_succ] at q3 q4
  have qf := hb.frozen
  have hgr : r ≠ g := fun e => d2 (by simp [Value.ownBlock, e])
  have ck : w.cell? ⟨g, k, none⟩ = some (.int .i64 m.marks[k]) := by
    have := Row.cell hI k (by omega)
    rw [this, mCells, List.getElem?_map, List.getElem?_eq_getElem hk]; rfl
  have cf := Row.frozen hI
  have hW : Hid (MWent w (Own r (.slice a m.row.length cap2) (.slice (some ⟨g, 0, none⟩) m.marks.length cap)) r s (layM m k) (w.setCell ⟨g, k, none⟩ (.int .i64 m.row.length))) := by
    refine ⟨_, ⟨.slice a m.row.length cap2, .slice (some ⟨g, 0, none⟩) m.marks.length cap, Blk.other hB _ hgr, Row.set hN _ (fun e => d3 g e rfl), ?_, d1, d2, d3, rfl⟩, (Kp.refl _ _).setCell _ (fun _ => .inr (.inr rfl)), fun b h _ => h⟩
    show Row _ _ _ _ (m.marks.set k m.row.length).length (mCells (m.marks.set k m.row.length))
    rw [List.length_set, mCells, List.map_set]
    exact hI.setIn _ _
  clear hI hN hB
  generalize m.marks[k] = mk at *
  go_enter Tryz.func124, Tryz.ntmps124
  go_wp2
  go_region
  all_goals
    go_wp2
    go_end0
    exact ⟨rfl, hW.out.drew⟩
end Go.Proofs.YtellieabhaphhabGreatDoor

/-
  Plain: the maker, as a function of the text.
-/
namespace Go.Proofs.YtellieabhaphhabGreatDoor
open Go.RowKit

def addM (m : MS) (n : NN) : MS := { m with row := m.row ++ [n] }
def putP (m : MS) (p : Nat × Bool) : MS := { m with p := p }

def tstM (s : ByteArray) (yes no : Int) (m : MS) : MS :=
  addM (putP m (tstF s m.p).2) (((tstF s m.p).1.setT (sinceB s m.p.1 (tstF s m.p).2.1)).setW yes no)

def condM : Nat → ByteArray → Int → Int → MS → MS
  | 0, _, _, _, m => m
  | f + 1, s, yes, no, m =>
    if pkb s m.p = 33 then condM f s no yes (expM s m [33])
    else if pkb s m.p = 38 then condM f s yes no (layM (condM f s m.marks.length no (newM (expM s m [38]))) m.marks.length)
    else if pkb s m.p = 124 then condM f s yes no (layM (condM f s yes m.marks.length (newM (expM s m [124]))) m.marks.length)
    else tstM s yes no m

def actM (s : ByteArray) (m : MS) : MS :=
  layM (addM (newM (expM s (putP m (nacF s m.p).2) [59])) (((nacF s m.p).1.setT (sinceB s m.p.1 (nacF s m.p).2.1)).setW m.marks.length m.marks.length)) m.marks.length

def lepM (s : ByteArray) (l : List UInt8) (k : Int) (m : MS) : MS := if k = -1 then putP m (m.p.1, true) else jmpM (expM s m l) k

def new3 (m : MS) : MS := newM (newM (newM m))

def choM (f : Nat) (S : Int → Int → MS → MS) (s : ByteArray) (h b : Int) (m : MS) : MS :=
  let L := m.marks.length
  layM (expM s (S h b (layM (jmpM (expM s (S h b (layM (expM s (condM f s L (L + 1 : Nat) (expM s (new3 m) [40])) [123]) L)) [125, 123]) (L + 2 : Nat)) (L + 1))) [125, 41]) (L + 2)

def lopM (f : Nat) (S : Int → Int → MS → MS) (s : ByteArray) (m : MS) : MS :=
  let L := m.marks.length
  layM (jmpM (expM s (S L (L + 2 : Nat) (layM (expM s (condM f s (L + 1 : Nat) (L + 2 : Nat) (layM (expM s (new3 m) [91]) L)) [123]) (L + 1))) [125, 93]) L) (L + 2)

def stM (f : Nat) (S : Int → Int → MS → MS) (s : ByteArray) (h b : Int) (m : MS) : MS :=
  if pkb s m.p = 40 then choM f S s h b m
  else if pkb s m.p = 91 then lopM f S s m
  else if pkb s m.p = 62 then lepM s [62, 59] b m
  else if pkb s m.p = 60 then lepM s [60, 59] h m
  else actM s m

def stmM : Nat → ByteArray → Int → Int → MS → MS
  | 0, _, _, _, m => m
  | f + 1, s, h, b, m => if pkb s m.p ≠ 125 ∧ pkb s m.p ≠ 0 then stmM f s h b (stM f (stmM f s) s h b m) else m

def bc (p : Nat × Bool) : Nat := cond p.2 1 0

/-- How far, and how much. -/
structure MG (s : ByteArray) (m m' : MS) : Prop where
  i : m'.p.1 ≤ s.size
  lo : m.p.1 ≤ m'.p.1
  row : m'.row.length + 3 * m.p.1 + bc m.p ≤ m.row.length + 3 * m'.p.1 + bc m'.p
  mm : m'.marks.length + 3 * m.p.1 + bc m.p ≤ m.marks.length + 3 * m'.p.1 + bc m'.p
  bad : bc m.p ≤ bc m'.p
  le : m.marks.length ≤ m'.marks.length

theorem bc_le (p : Nat × Bool) : bc p ≤ 1 := by unfold bc; cases p.2 <;> decide

theorem MG.refl {s : ByteArray} {m : MS} (h : m.p.1 ≤ s.size) : MG s m m := ⟨h, Nat.le_refl _, Nat.le_refl _, Nat.le_refl _, Nat.le_refl _, Nat.le_refl _⟩
theorem MG.trans {s : ByteArray} {a b c : MS} (h : MG s a b) (k : MG s b c) : MG s a c := by
  have h1 := h.row; have h2 := h.mm; have h3 := h.lo; have h4 := h.bad; have h5 := h.le
  have k1 := k.row; have k2 := k.mm; have k3 := k.lo; have k4 := k.bad; have k5 := k.le
  exact ⟨k.i, by omega, by omega, by omega, by omega, by omega⟩

/-- Of a condition. -/
structure MC (s : ByteArray) (m m' : MS) : Prop where
  i : m'.p.1 ≤ s.size
  lo : m.p.1 ≤ m'.p.1
  row : m'.row.length + m.p.1 ≤ m.row.length + m'.p.1 + 1
  mm : m'.marks.length + m.p.1 ≤ m.marks.length + m'.p.1
  bad : bc m.p ≤ bc m'.p
  le : m.marks.length ≤ m'.marks.length

theorem eatF_bc (s : ByteArray) (p : Nat × Bool) (c : Nat) : bc p ≤ bc (eatF s p c) ∧ p.1 ≤ (eatF s p c).1 := by
  unfold eatF bc
  obtain ⟨i, b⟩ := p
  cases b
  · exact ⟨Nat.zero_le _, by split <;> simp⟩
  · simp

theorem expF_bc (s : ByteArray) : ∀ (l : List UInt8) (p : Nat × Bool), l.all (fun u => u.toNat != 0) = true → p.1 ≤ s.size → bc p ≤ bc (expF s p l) ∧ p.1 ≤ (expF s p l).1 ∧ (expF s p l).1 ≤ s.size
  | [], p, _, h => ⟨Nat.le_refl _, Nat.le_refl _, h⟩
  | c :: l, p, hz, h => by
    rw [List.all_cons, Bool.and_eq_true] at hz
    have e1 := eatF_bc s p c.toNat
    have e2 := eatF_le s p c.toNat (by simpa using hz.1) h
    have := expF_bc s l (eatF s p c.toNat) hz.2 e2
    exact ⟨Nat.le_trans e1.1 this.1, Nat.le_trans e1.2 this.2.1, this.2.2⟩

theorem expM_mg {s : ByteArray} {m : MS} {l : List UInt8} (hz : l.all (fun u => u.toNat != 0) = true) (h : m.p.1 ≤ s.size) : MG s m (expM s m l) := by
  have e := expF_bc s l m.p hz h
  exact ⟨e.2.2, e.2.1, by show m.row.length + _ + _ ≤ m.row.length + 3 * (expF s m.p l).1 + bc (expF s m.p l); omega, by show m.marks.length + _ + _ ≤ m.marks.length + 3 * (expF s m.p l).1 + bc (expF s m.p l); omega, e.1, Nat.le_refl _⟩

theorem layM_mg {s : ByteArray} {m : MS} {k : Nat} (h : m.p.1 ≤ s.size) : MG s m (layM m k) :=
  ⟨h, Nat.le_refl _, Nat.le_refl _, by show (m.marks.set k m.row.length).length + _ + _ ≤ _; rw [List.length_set]; exact Nat.le_refl _, Nat.le_refl _, by show _ ≤ (m.marks.set k m.row.length).length; rw [List.length_set]; exact Nat.le_refl _⟩

theorem layM_len (m : MS) (k : Nat) : (layM m k).marks.length = m.marks.length := List.length_set
theorem newM_len (m : MS) : (newM m).marks.length = m.marks.length + 1 := by simp [newM]
theorem new3_len (m : MS) : (new3 m).marks.length = m.marks.length + 3 := by simp [new3, newM]

theorem eat_at {s : ByteArray} {p : Nat × Bool} {c : UInt8} (h : pkb s p = c.toNat) (hc : c.toNat ≠ 0) : expF s p [c] = (p.1 + 1, false) ∧ p.1 < s.size ∧ p.2 = false := by
  have g := pkb_good (s := s) (i := p.1) (b := p.2) (by show pkb s p ≠ 0; rw [h]; exact hc)
  refine ⟨?_, g.2, g.1⟩
  rw [expF_one, eatF_pkb s p c.toNat hc, if_pos h]

theorem varF_bc (s : ByteArray) (p : Nat × Bool) : bc p ≤ bc (varF s p).2 := by
  rw [varF_pkb]
  split
  · rename_i h
    have : pkb s p ≠ 0 := by simp at h; omega
    have := (pkb_good (s := s) (i := p.1) (b := p.2) this).1
    simp [bc, this]
  · exact bc_le p

theorem queF_bc (s : ByteArray) (p : Nat × Bool) (y : Int) (hp : p.1 ≤ s.size) : bc p ≤ bc (queF s p y).2 ∧ p.1 ≤ (queF s p y).2.1 ∧ (queF s p y).2.1 ≤ s.size := by
  unfold queF
  split
  · rename_i h
    have g := pkb_good (s := s) (i := p.1) (b := p.2) (by show pkb s p ≠ 0; rw [h]; decide)
    have k := kindF_ge s (p.1 + 1, false)
    have l := kindF_le s (p.1 + 1, false) g.2
    refine ⟨?_, ?_, l⟩
    · rw [show bc p = 0 by simp [bc, g.1]]; exact Nat.zero_le _
    · show p.1 ≤ (kindF s (p.1 + 1, false)).2.1
      have := k.1
      simp only at this
      omega
  · exact ⟨Nat.le_refl _, Nat.le_refl _, hp⟩

theorem tstF_bc (s : ByteArray) (p : Nat × Bool) (hp : p.1 ≤ s.size) : bc p ≤ bc (tstF s p).2 ∧ p.1 ≤ (tstF s p).2.1 ∧ (tstF s p).2.1 ≤ s.size := by
  have a := varF_bc s p
  have b := varF_ge s p
  have c := varF_le s p hp
  have d := queF_bc s (varF s p).2 (varF s p).1 c
  exact ⟨Nat.le_trans a d.1, Nat.le_trans b.1 d.2.1, d.2.2⟩

theorem tstM_mc {s : ByteArray} {m : MS} {yes no : Int} (h : m.p.1 ≤ s.size) : MC s m (tstM s yes no m) := by
  have e := tstF_bc s m.p h
  exact ⟨e.2.2, e.2.1, by show (m.row ++ [_]).length + _ ≤ m.row.length + (tstF s m.p).2.1 + 1; rw [List.length_append, List.length_singleton]; omega, by show m.marks.length + _ ≤ m.marks.length + (tstF s m.p).2.1; omega, e.1, Nat.le_refl _⟩

theorem condM_mc : ∀ (f : Nat) (s : ByteArray) (yes no : Int) (m : MS), s.size - m.p.1 < f → m.p.1 ≤ s.size → MC s m (condM f s yes no m)
  | 0, _, _, _, _, h, _ => by omega
  | f + 1, s, yes, no, m, hf, h => by
    rw [condM]
    split
    · rename_i hc
      obtain ⟨e1, e2, e3⟩ := eat_at (c := 33) hc (by decide)
      have g := condM_mc f s no yes (expM s m [33]) (by show s.size - (expF s m.p [33]).1 < f; rw [e1]; omega) (by show (expF s m.p [33]).1 ≤ s.size; rw [e1]; exact e2)
      have e4 : (expM s m [33]).p = (m.p.1 + 1, false) := e1
      have g1 := g.lo; have g2 := g.row; have g3 := g.mm; have g4 := g.le
      rw [e4] at g1 g2 g3
      dsimp only at g1 g2 g3
      exact ⟨g.i, by omega, by have : (expM s m [33]).row = m.row := rfl; rw [this] at g2; omega, by have : (expM s m [33]).marks = m.marks := rfl; rw [this] at g3; omega, by simp [bc, e3], g4⟩
    split
    · rename_i _ hc
      obtain ⟨e1, e2, e3⟩ := eat_at (c := 38) hc (by decide)
      have e4 : (newM (expM s m [38])).p = (m.p.1 + 1, false) := e1
      have g := condM_mc f s m.marks.length no (newM (expM s m [38])) (by rw [e4]; show s.size - (m.p.1 + 1) < f; omega) (by rw [e4]; exact e2)
      generalize condM f s m.marks.length no (newM (expM s m [38])) = m1 at *
      have g0 := g.lo
      rw [e4] at g0
      dsimp only at g0
      have k := condM_mc f s yes no (layM m1 m.marks.length) (by show s.size - m1.p.1 < f; omega) g.i
      have g2 := g.row; have g3 := g.mm; have g4 := g.le
      have k1 := k.lo; have k2 := k.row; have k3 := k.mm; have k4 := k.le
      rw [layM_len] at k3 k4
      rw [newM_len] at g3 g4
      rw [e4] at g2 g3
      have a1 : (layM m1 m.marks.length).p = m1.p := rfl
      have a2 : (layM m1 m.marks.length).row = m1.row := rfl
      have a3 : (newM (expM s m [38])).row = m.row := rfl
      have a4 : (expM s m [38]).marks = m.marks := rfl
      rw [a1] at k1 k2 k3
      rw [a2] at k2
      rw [a3] at g2
      rw [a4] at g3 g4
      dsimp only at g2 g3
      exact ⟨k.i, by omega, by omega, by omega, by simp [bc, e3], by omega⟩
    split
    · rename_i _ _ hc
      obtain ⟨e1, e2, e3⟩ := eat_at (c := 124) hc (by decide)
      have e4 : (newM (expM s m [124])).p = (m.p.1 + 1, false) := e1
      have g := condM_mc f s yes m.marks.length (newM (expM s m [124])) (by rw [e4]; show s.size - (m.p.1 + 1) < f; omega) (by rw [e4]; exact e2)
      generalize condM f s yes m.marks.length (newM (expM s m [124])) = m1 at *
      have g0 := g.lo
      rw [e4] at g0
      dsimp only at g0
      have k := condM_mc f s yes no (layM m1 m.marks.length) (by show s.size - m1.p.1 < f; omega) g.i
      have g2 := g.row; have g3 := g.mm; have g4 := g.le
      have k1 := k.lo; have k2 := k.row; have k3 := k.mm; have k4 := k.le
      rw [layM_len] at k3 k4
      rw [newM_len] at g3 g4
      rw [e4] at g2 g3
      have a1 : (layM m1 m.marks.length).p = m1.p := rfl
      have a2 : (layM m1 m.marks.length).row = m1.row := rfl
      have a3 : (newM (expM s m [124])).row = m.row := rfl
      have a4 : (expM s m [124]).marks = m.marks := rfl
      rw [a1] at k1 k2 k3
      rw [a2] at k2
      rw [a3] at g2
      rw [a4] at g3 g4
      dsimp only at g2 g3
      exact ⟨k.i, by omega, by omega, by omega, by simp [bc, e3], by omega⟩
    · exact tstM_mc h

end Go.Proofs.YtellieabhaphhabGreatDoor

/-
  Plain: the maker's bounds.
-/
namespace Go.Proofs.YtellieabhaphhabGreatDoor
open Go.RowKit

theorem layM_p (m : MS) (k : Nat) : (layM m k).p = m.p := rfl
theorem layM_row (m : MS) (k : Nat) : (layM m k).row = m.row := rfl
theorem newM_p (m : MS) : (newM m).p = m.p := rfl
theorem newM_row (m : MS) : (newM m).row = m.row := rfl
theorem new3_p (m : MS) : (new3 m).p = m.p := rfl
theorem jmpM_p (m : MS) (k : Int) : (jmpM m k).p = m.p := rfl
theorem jmpM_row (m : MS) (k : Int) : (jmpM m k).row.length = m.row.length + 1 := by simp [jmpM]
theorem jmpM_marks (m : MS) (k : Int) : (jmpM m k).marks = m.marks := rfl
theorem addM_p (m : MS) (n : NN) : (addM m n).p = m.p := rfl
theorem addM_row (m : MS) (n : NN) : (addM m n).row.length = m.row.length + 1 := by simp [addM]
theorem addM_marks (m : MS) (n : NN) : (addM m n).marks = m.marks := rfl
theorem expM_row (s : ByteArray) (m : MS) (l : List UInt8) : (expM s m l).row = m.row := rfl
theorem expM_marks (s : ByteArray) (m : MS) (l : List UInt8) : (expM s m l).marks = m.marks := rfl
theorem expM_p (s : ByteArray) (m : MS) (l : List UInt8) : (expM s m l).p = expF s m.p l := rfl
theorem putP_p (m : MS) (p : Nat × Bool) : (putP m p).p = p := rfl
theorem putP_row (m : MS) (p : Nat × Bool) : (putP m p).row = m.row := rfl
theorem putP_marks (m : MS) (p : Nat × Bool) : (putP m p).marks = m.marks := rfl

/-- The bounds as they stand between statements. -/
structure MI (s : ByteArray) (m : MS) : Prop where
  i : m.p.1 ≤ s.size
  row : m.row.length ≤ 3 * m.p.1 + bc m.p
  mm : m.marks.length ≤ 3 * m.p.1 + bc m.p

theorem MI.mg {s : ByteArray} {m m' : MS} (h : MI s m) (g : MG s m m') : MI s m' := by
  have h1 := h.row; have h2 := h.mm; have g1 := g.row; have g2 := g.mm
  exact ⟨g.i, by omega, by omega⟩

theorem pkb_live {s : ByteArray} {p : Nat × Bool} (h : pkb s p ≠ 0) : p.2 = false ∧ p.1 < s.size := pkb_good (s := s) (i := p.1) (b := p.2) h

theorem bc_live {p : Nat × Bool} (h : p.2 = false) : bc p = 0 := by simp [bc, h]

theorem nacF_bc {s : ByteArray} {p : Nat × Bool} (h : pkb s p ≠ 0) : p.1 ≤ (nacF s p).2.1 ∧ (nacF s p).2.1 ≤ s.size ∧ p.1 + 1 ≤ (nacF s p).2.1 + bc (nacF s p).2 := by
  obtain ⟨h1, h2⟩ := pkb_live h
  obtain ⟨i, b⟩ := p
  subst h1
  rw [(nac_ref s i).1]
  have a := simpF_ge s i
  have b := simpF_le s i (Nat.le_of_lt h2)
  refine ⟨a.1, b, ?_⟩
  generalize (simpF s i).2 = q at *
  obtain ⟨q1, q2⟩ := q
  cases q2
  · have := a.2 rfl; simp [bc]; omega
  · have := a.1; simp [bc]; omega

theorem actM_mg {s : ByteArray} {m : MS} (h : pkb s m.p ≠ 0) : MG s m (actM s m) ∧ ((actM s m).p.2 = false → m.p.1 < (actM s m).p.1) := by
  obtain ⟨h1, h2⟩ := pkb_live h
  have a := nacF_bc h
  have b0 := bc_live h1
  unfold actM
  generalize (nacF s m.p).1 = n
  generalize (nacF s m.p).2 = q at *
  have e := expM_mg (s := s) (m := putP m q) (l := [59]) (by decide) a.2.1
  have e1 := e.lo; have e2 := e.bad; have e3 := e.i
  rw [putP_p] at e1 e2
  generalize hx : expM s (putP m q) [59] = x at *
  have xr : x.row = m.row := by rw [← hx]; rfl
  have xm : x.marks = m.marks := by rw [← hx]; rfl
  have hb := bc_le x.p
  refine ⟨⟨e3, ?_, ?_, ?_, ?_, ?_⟩, ?_⟩
  · rw [layM_p, addM_p, newM_p]; omega
  · rw [layM_p, addM_p, newM_p, layM_row, addM_row, newM_row, xr]; omega
  · rw [layM_p, addM_p, newM_p, layM_len, addM_marks, newM_len, xm]; omega
  · rw [layM_p, addM_p, newM_p]; omega
  · rw [layM_len, addM_marks, newM_len, xm]; omega
  · rw [layM_p, addM_p, newM_p]
    intro hx2
    have := bc_live hx2
    omega

theorem exp_head {s : ByteArray} {p : Nat × Bool} {c : UInt8} {l : List UInt8} (h : pkb s p = c.toNat) (hc : c.toNat ≠ 0) : expF s p (c :: l) = expF s (p.1 + 1, false) l := by
  have := (eat_at h hc).1
  rw [expF_one] at this
  show expF s (eatF s p c.toNat) l = _
  rw [this]

theorem lepM_mg {s : ByteArray} {m : MS} {c : UInt8} {l : List UInt8} {k : Int} (hc : pkb s m.p = c.toNat) (h0 : c.toNat ≠ 0) (hz : l.all (fun u => u.toNat != 0) = true) :
    MG s m (lepM s (c :: l) k m) ∧ ((lepM s (c :: l) k m).p.2 = false → m.p.1 < (lepM s (c :: l) k m).p.1) := by
  obtain ⟨e1, e2, e3⟩ := eat_at hc h0
  have b0 := bc_live e3
  unfold lepM
  split
  · refine ⟨⟨Nat.le_of_lt e2, Nat.le_refl _, ?_, ?_, ?_, Nat.le_refl _⟩, ?_⟩
    · rw [putP_p, putP_row]; simp [bc, e3]
    · rw [putP_p, putP_marks]; simp [bc, e3]
    · rw [putP_p]; simp [bc, e3]
    · intro h; cases h
  · have e := expF_bc s l (m.p.1 + 1, false) hz e2
    rw [← exp_head hc h0] at e
    dsimp only at e
    refine ⟨⟨?_, ?_, ?_, ?_, ?_, ?_⟩, ?_⟩
    · rw [jmpM_p, expM_p]; omega
    · rw [jmpM_p, expM_p]; omega
    · rw [jmpM_p, expM_p, jmpM_row, expM_row]; omega
    · rw [jmpM_p, expM_p, jmpM_marks, expM_marks]; omega
    · rw [jmpM_p, expM_p]; omega
    · rw [jmpM_marks, expM_marks]; exact Nat.le_refl _
    · rw [jmpM_p, expM_p]; intro _; omega

/-- What is asked of the statements within. -/
def SMG (s : ByteArray) (n : Nat) (S : Int → Int → MS → MS) : Prop := ∀ h b m, m.p.1 ≤ s.size → (m.p.2 = false → s.size - m.p.1 < n) → MG s m (S h b m)

theorem choM_mg {f : Nat} {s : ByteArray} {S : Int → Int → MS → MS} {h b : Int} {m : MS} (hS : SMG s f S) (hc : pkb s m.p = 40) (hf : s.size - m.p.1 < f + 1) :
    MG s m (choM f S s h b m) ∧ m.p.1 < (choM f S s h b m).p.1 := by
  obtain ⟨e1, e2, e3⟩ := eat_at (c := 40) hc (by decide)
  have b0 := bc_live e3
  unfold choM
  dsimp only
  have p1 : (expM s (new3 m) [40]).p = (m.p.1 + 1, false) := e1
  have r1 : (expM s (new3 m) [40]).row = m.row := rfl
  have m1 : (expM s (new3 m) [40]).marks.length = m.marks.length + 3 := new3_len m
  generalize expM s (new3 m) [40] = x1 at *
  have q1 : x1.p.1 = m.p.1 + 1 := by rw [p1]
  have b1 : bc x1.p = 0 := by rw [p1]; rfl
  clear p1 e1
  have g2 := condM_mc f s m.marks.length (m.marks.length + 1 : Nat) x1 (by omega) (by omega)
  generalize condM f s m.marks.length (m.marks.length + 1 : Nat) x1 = x2 at *
  have g3 := expM_mg (l := [123]) (by decide) g2.i
  generalize expM s x2 [123] = x3 at *
  have g4 := layM_mg (k := m.marks.length) g3.i
  generalize layM x3 m.marks.length = x4 at *
  have lo4 : x1.p.1 ≤ x4.p.1 := Nat.le_trans g2.lo (Nat.le_trans g3.lo g4.lo)
  have g5 := hS h b x4 g4.i (fun _ => by have := g4.i; omega)
  generalize S h b x4 = x5 at *
  have g6 := expM_mg (l := [125, 123]) (by decide) g5.i
  generalize expM s x5 [125, 123] = x6 at *
  have p7 := jmpM_p x6 (m.marks.length + 2 : Nat)
  have r7 := jmpM_row x6 (m.marks.length + 2 : Nat)
  have m7 := jmpM_marks x6 (m.marks.length + 2 : Nat)
  generalize jmpM x6 (m.marks.length + 2 : Nat) = x7 at *
  have g8 := layM_mg (s := s) (m := x7) (k := m.marks.length + 1) (by rw [p7]; exact g6.i)
  generalize layM x7 (m.marks.length + 1) = x8 at *
  have lo8 : x4.p.1 ≤ x8.p.1 := Nat.le_trans g5.lo (Nat.le_trans g6.lo (by rw [← p7]; exact g8.lo))
  have g9 := hS h b x8 g8.i (fun _ => by have := g8.i; omega)
  generalize S h b x8 = x9 at *
  have g10 := expM_mg (l := [125, 41]) (by decide) g9.i
  generalize expM s x9 [125, 41] = x10 at *
  have g11 := layM_mg (k := m.marks.length + 2) g10.i
  generalize layM x10 (m.marks.length + 2) = x11 at *
  have gb := (g9.trans g10).trans g11
  have ga := (g3.trans g4).trans (g5.trans g6)
  clear g3 g4 g5 g6 g9 g10 g11
  have u1 := g2.row; have u2 := g2.mm; have u3 := g2.lo; have u4 := g2.le; have u5 := g2.bad
  have v1 := ga.row; have v2 := ga.mm; have v3 := ga.lo; have v4 := ga.le; have v5 := ga.bad
  have y1 := g8.row; have y2 := g8.mm; have y3 := g8.lo; have y4 := g8.le; have y5 := g8.bad
  have z1 := gb.row; have z2 := gb.mm; have z3 := gb.lo; have z4 := gb.le; have z5 := gb.bad
  rw [p7] at y1 y2 y3 y5
  rw [m7] at y2 y4
  rw [r1] at u1
  refine ⟨⟨gb.i, by omega, by omega, by omega, by omega, by omega⟩, by omega⟩

theorem lopM_mg {f : Nat} {s : ByteArray} {S : Int → Int → MS → MS} {m : MS} (hS : SMG s f S) (hc : pkb s m.p = 91) (hf : s.size - m.p.1 < f + 1) :
    MG s m (lopM f S s m) ∧ m.p.1 < (lopM f S s m).p.1 := by
  obtain ⟨e1, e2, e3⟩ := eat_at (c := 91) hc (by decide)
  have b0 := bc_live e3
  unfold lopM
  dsimp only
  have p1 : (layM (expM s (new3 m) [91]) m.marks.length).p = (m.p.1 + 1, false) := e1
  have r1 : (layM (expM s (new3 m) [91]) m.marks.length).row = m.row := rfl
  have m1 : (layM (expM s (new3 m) [91]) m.marks.length).marks.length = m.marks.length + 3 := by rw [layM_len]; exact new3_len m
  generalize layM (expM s (new3 m) [91]) m.marks.length = x1 at *
  have q1 : x1.p.1 = m.p.1 + 1 := by rw [p1]
  have b1 : bc x1.p = 0 := by rw [p1]; rfl
  clear p1 e1
  have g2 := condM_mc f s (m.marks.length + 1 : Nat) (m.marks.length + 2 : Nat) x1 (by omega) (by omega)
  generalize condM f s (m.marks.length + 1 : Nat) (m.marks.length + 2 : Nat) x1 = x2 at *
  have g3 := expM_mg (l := [123]) (by decide) g2.i
  generalize expM s x2 [123] = x3 at *
  have g4 := layM_mg (k := m.marks.length + 1) g3.i
  generalize layM x3 (m.marks.length + 1) = x4 at *
  have lo4 : x1.p.1 ≤ x4.p.1 := Nat.le_trans g2.lo (Nat.le_trans g3.lo g4.lo)
  have g5 := hS m.marks.length (m.marks.length + 2 : Nat) x4 g4.i (fun _ => by have := g4.i; omega)
  generalize S m.marks.length (m.marks.length + 2 : Nat) x4 = x5 at *
  have g6 := expM_mg (l := [125, 93]) (by decide) g5.i
  generalize expM s x5 [125, 93] = x6 at *
  have p7 := jmpM_p x6 m.marks.length
  have r7 := jmpM_row x6 m.marks.length
  have m7 := jmpM_marks x6 m.marks.length
  generalize jmpM x6 m.marks.length = x7 at *
  have g8 := layM_mg (s := s) (m := x7) (k := m.marks.length + 2) (by rw [p7]; exact g6.i)
  generalize layM x7 (m.marks.length + 2) = x8 at *
  have ga := (g3.trans g4).trans (g5.trans g6)
  clear g3 g4 g5 g6
  have u1 := g2.row; have u2 := g2.mm; have u3 := g2.lo; have u4 := g2.le; have u5 := g2.bad
  have v1 := ga.row; have v2 := ga.mm; have v3 := ga.lo; have v4 := ga.le; have v5 := ga.bad
  have y1 := g8.row; have y2 := g8.mm; have y3 := g8.lo; have y4 := g8.le; have y5 := g8.bad
  rw [p7] at y1 y2 y3 y5
  rw [m7] at y2 y4
  rw [r1] at u1
  refine ⟨⟨g8.i, by omega, by omega, by omega, by omega, by omega⟩, by omega⟩

theorem stM_mg {f : Nat} {s : ByteArray} {S : Int → Int → MS → MS} {h b : Int} {m : MS} (hS : SMG s f S) (hp : pkb s m.p ≠ 0) (hf : s.size - m.p.1 < f + 1) :
    MG s m (stM f S s h b m) ∧ ((stM f S s h b m).p.2 = false → m.p.1 < (stM f S s h b m).p.1) := by
  unfold stM
  split
  · rename_i hc
    exact ⟨(choM_mg hS hc hf).1, fun _ => (choM_mg hS hc hf).2⟩
  split
  · rename_i hc
    exact ⟨(lopM_mg hS hc hf).1, fun _ => (lopM_mg hS hc hf).2⟩
  split
  · rename_i hc
    exact lepM_mg (c := 62) hc (by decide) (by decide)
  split
  · rename_i hc
    exact lepM_mg (c := 60) hc (by decide) (by decide)
  · exact actM_mg hp

theorem stmM_mg : ∀ (f : Nat) (s : ByteArray), SMG s f (stmM f s)
  | 0, s => fun h b m hi _ => MG.refl hi
  | f + 1, s => fun h b m hi hf => by
    rw [stmM]
    split
    · rename_i hc
      have hl := pkb_live hc.2
      have g := stM_mg (h := h) (b := b) (stmM_mg f s) hc.2 (hf hl.1)
      have hl2 := hf hl.1
      generalize stM f (stmM f s) s h b m = x at *
      exact g.1.trans (stmM_mg f s h b x g.1.i (fun hb => by have := g.2 hb; have := g.1.i; omega))
    · exact MG.refl hi

theorem stmM_stop (f : Nat) (s : ByteArray) (h b : Int) (m : MS) (hp : pkb s m.p = 125 ∨ pkb s m.p = 0) : stmM f s h b m = m := by
  cases f with
  | zero => rfl
  | succ f => rw [stmM, if_neg (by omega)]
end Go.Proofs.YtellieabhaphhabGreatDoor

/-
  Plain: what the maker lays of a text that is a source: how many nodes, and of which form.
-/
namespace Go.Proofs.YtellieabhaphhabGreatDoor
open Go.RowKit

def nj (row : List NN) : Nat := row.countP (fun n => decide (n.act ≠ 15))

theorem nj_jump (row : List NN) (k : Int) : nj (row ++ [jumpN k]) = nj row := by
  unfold nj; rw [List.countP_append]; rfl
theorem nj_one (row : List NN) (n : NN) : nj (row ++ [n]) ≤ nj row + 1 := by
  unfold nj; rw [List.countP_append]
  have : List.countP (fun n => decide (n.act ≠ 15)) [n] ≤ [n].length := List.countP_le_length
  simp only [List.length_singleton] at this
  omega

/-- How many bytes the nodes' own texts have. -/
def sz (row : List NN) : Nat := (row.map (fun n => n.tx.size)).sum
theorem sz_one (row : List NN) (n : NN) : sz (row ++ [n]) = sz row + n.tx.size := by simp [sz]

/-- The node's own text, where it was read. -/
def TxP (nd : Nd) (tx : ByteArray) : Prop := ∃ s i j, tx = sinceB s i j ∧ i ≤ j ∧ j ≤ s.size ∧ (simpF s i = (nd, (j, false)) ∨ testF s i = (nd, (j, false)))

/-- A jump, or a node. -/
def RN (n : NN) : Prop := n.act = 15 ∨ (n.act ≠ 15 ∧ ∃ nd tx y z, n = encN nd tx y z ∧ Gn nd ∧ tx.size ≤ 1000 ∧ TxP nd tx)

/-- Where it ends well: how it came there. -/
def Gp (c : Int) (m m' : MS) : Prop := m'.p.2 = false → m.p.2 = false ∧ (∀ n ∈ m'.row, n ∈ m.row ∨ RN n) ∧ 2 * (nj m'.row : Int) + m.p.1 ≤ 2 * nj m.row + m'.p.1 + c ∧ sz m'.row + m.p.1 ≤ sz m.row + m'.p.1

theorem Gp.trans {a b : Int} {m m1 m2 : MS} (h : Gp a m m1) (k : Gp b m1 m2) : Gp (a + b) m m2 := by
  intro hb
  obtain ⟨k1, k2, k3, k4⟩ := k hb
  obtain ⟨h1, h2, h3, h4⟩ := h k1
  exact ⟨h1, fun n hn => (k2 n hn).elim (h2 n) .inr, by omega, by omega⟩
theorem Gp.mono {a b : Int} {m m' : MS} (h : Gp a m m') (hab : a ≤ b) : Gp b m m' := fun hb => let ⟨h1, h2, h3, h4⟩ := h hb; ⟨h1, h2, by omega, h4⟩
theorem Gp.of {c : Int} {m m' : MS} (hp : m'.p = m.p) (hr : m'.row = m.row) (hc : 0 ≤ c) : Gp c m m' := by
  intro hb
  rw [hp] at hb
  refine ⟨hb, fun n hn => .inl (hr ▸ hn), ?_, ?_⟩
  · rw [hp, hr]; omega
  · rw [hp, hr]; exact Nat.le_refl _
theorem Gp.refl (m : MS) : Gp 0 m m := Gp.of rfl rfl (Int.le_refl _)
theorem layM_gp (m : MS) (k : Nat) : Gp 0 m (layM m k) := Gp.of rfl rfl (Int.le_refl _)
theorem newM_gp (m : MS) : Gp 0 m (newM m) := Gp.of rfl rfl (Int.le_refl _)
theorem new3_gp (m : MS) : Gp 0 m (new3 m) := Gp.of rfl rfl (Int.le_refl _)
theorem jmpM_gp (m : MS) (k : Int) : Gp 0 m (jmpM m k) := by
  intro hb
  refine ⟨hb, fun n hn => ?_, ?_, ?_⟩
  · rcases List.mem_append.1 hn with h | h
    · exact .inl h
    · obtain rfl : n = jumpN k := by simpa using h
      exact .inr (.inl rfl)
  · show 2 * (nj (m.row ++ [jumpN k]) : Int) + _ ≤ _
    rw [nj_jump, jmpM_p]; omega
  · show sz (m.row ++ [jumpN k]) + _ ≤ _
    rw [sz_one, jmpM_p]; exact Nat.le_refl _

theorem expF_good (s : ByteArray) : ∀ (l : List UInt8) (p : Nat × Bool), (expF s p l).2 = false → p.2 = false ∧ (expF s p l).1 = p.1 + l.length
  | [], p, h => ⟨h, rfl⟩
  | c :: l, p, h => by
    have ih := expF_good s l (eatF s p c.toNat) h
    obtain ⟨e1, e2, e3⟩ := eatF_good s p c.toNat ih.1
    refine ⟨e1, ?_⟩
    show (expF s (eatF s p c.toNat) l).1 = _
    rw [ih.2, e3, List.length_cons]
    omega

theorem expM_gp (s : ByteArray) (m : MS) (l : List UInt8) : Gp (-(l.length : Int)) m (expM s m l) := by
  intro hb
  obtain ⟨e1, e2⟩ := expF_good s l m.p hb
  refine ⟨e1, fun n hn => .inl hn, ?_, ?_⟩
  · rw [expM_p, e2, expM_row]
    omega
  · rw [expM_p, e2, expM_row]
    omega

theorem actN_ne (o : Int) : actN o ≠ 15 := by
  unfold actN
  intro h
  repeat' split at h
  all_goals omega

theorem tst_ref (s : ByteArray) (i : Nat) : (tstF s (i, false)).2 = (testF s i).2 ∧ (tstF s (i, false)).1 = encN (testF s i).1 em 0 0 := by
  unfold tstF queF testF
  generalize varF s (i, false) = q
  obtain ⟨k, q, b⟩ := q
  dsimp only
  cases b
  · by_cases h : pk s q = 58
    · rw [pkb_false, if_pos h, if_pos ⟨rfl, h⟩]
      exact ⟨rfl, rfl⟩
    · rw [pkb_false, if_neg h, if_neg (fun e => h e.2)]
      exact ⟨rfl, rfl⟩
  · rw [pkb_true, if_neg (by decide), if_neg (fun e => by cases e.1)]
    exact ⟨rfl, rfl⟩

theorem since_size (s : ByteArray) (a b : Nat) (hs : s.size ≤ 1000) : (sinceB s a b).size ≤ 1000 := by
  unfold sinceB
  rw [ByteArray.size_extract]; omega

theorem tstM_gp {s : ByteArray} {m : MS} (yes no : Int) (hs : s.size ≤ 1000) (hi : m.p.1 ≤ s.size) : Gp 1 m (tstM s yes no m) := by
  intro hb
  have hb' : (tstF s m.p).2.2 = false := hb
  have b0 := (tstF_bc s m.p hi).1
  have hp : m.p.2 = false := by
    have h1 := bc_live hb'
    cases h : m.p.2
    · rfl
    · rw [h1] at b0; simp [bc, h] at b0
  have e : m.p = (m.p.1, false) := by rw [← hp]
  obtain ⟨r1, r2⟩ := tst_ref s m.p.1
  rw [← e] at r1 r2
  have g := testF_gn s m.p.1 (by rw [← r1]; exact hb')
  have htp : TxP (testF s m.p.1).1 (sinceB s m.p.1 (tstF s m.p).2.1) := ⟨s, m.p.1, (tstF s m.p).2.1, rfl, (tstF_bc s m.p hi).2.1, (tstF_bc s m.p hi).2.2, .inr (by
    have hbb : (testF s m.p.1).2 = ((tstF s m.p).2.1, false) := by rw [← r1]; exact Prod.ext rfl hb'
    exact Prod.ext rfl hbb)⟩
  refine ⟨hp, fun n hn => ?_, ?_, ?_⟩
  · rcases List.mem_append.1 hn with h | h
    · exact .inl h
    · obtain rfl : n = _ := by simpa using h
      rw [r2]
      exact .inr (.inr ⟨actN_ne _, _, _, _, _, rfl, g.1, since_size s _ _ hs, htp⟩)
  · have h1 : nj (tstM s yes no m).row ≤ nj m.row + 1 := nj_one m.row _
    have h2 : m.p.1 + 1 ≤ (tstM s yes no m).p.1 := by
      show m.p.1 + 1 ≤ (tstF s m.p).2.1
      have v := varF_ge s m.p
      have hv : (varF s m.p).2.2 = false := by
        have q := (queF_bc s (varF s m.p).2 (varF s m.p).1 (varF_le s m.p hi)).1
        have : bc (tstF s m.p).2 = 0 := bc_live hb'
        cases h : (varF s m.p).2.2
        · rfl
        · unfold tstF at this; rw [this] at q; simp [bc, h] at q
      have q2 := (queF_bc s (varF s m.p).2 (varF s m.p).1 (varF_le s m.p hi)).2.1
      have := v.2 hv
      show m.p.1 + 1 ≤ (queF s (varF s m.p).2 (varF s m.p).1).2.1
      omega
    omega
  · show sz (m.row ++ [_]) + m.p.1 ≤ sz m.row + (tstF s m.p).2.1
    rw [sz_one]
    show sz m.row + (sinceB s m.p.1 (tstF s m.p).2.1).size + m.p.1 ≤ _
    have := tstF_bc s m.p hi
    unfold sinceB
    rw [ByteArray.size_extract]
    omega

theorem condM_gp : ∀ (f : Nat) (s : ByteArray) (yes no : Int) (m : MS), s.size ≤ 1000 → s.size - m.p.1 < f → m.p.1 ≤ s.size → Gp 1 m (condM f s yes no m)
  | 0, _, _, _, _, _, h, _ => by omega
  | f + 1, s, yes, no, m, hs, hf, hi => by
    rw [condM]
    split
    · rename_i hc
      obtain ⟨e1, e2, e3⟩ := eat_at (c := 33) hc (by decide)
      have x1 : (expM s m [33]).p.1 = m.p.1 + 1 := by rw [expM_p, e1]
      exact ((expM_gp s m [33]).trans (condM_gp f s no yes (expM s m [33]) hs (by omega) (by omega))).mono (by decide)
    split
    · rename_i _ hc
      obtain ⟨e1, e2, e3⟩ := eat_at (c := 38) hc (by decide)
      have x1 : (newM (expM s m [38])).p.1 = m.p.1 + 1 := by rw [newM_p, expM_p, e1]
      have g := condM_mc f s m.marks.length no (newM (expM s m [38])) (by omega) (by omega)
      have k1 := condM_gp f s m.marks.length no (newM (expM s m [38])) hs (by omega) (by omega)
      generalize condM f s m.marks.length no (newM (expM s m [38])) = y3 at *
      have g1 := g.lo; have g2 := g.i
      have k2 := condM_gp f s yes no (layM y3 m.marks.length) hs (by rw [layM_p]; omega) (by rw [layM_p]; omega)
      exact (((expM_gp s m [38]).trans (newM_gp _)).trans ((k1.trans (layM_gp y3 m.marks.length)).trans k2)).mono (by decide)
    split
    · rename_i _ _ hc
      obtain ⟨e1, e2, e3⟩ := eat_at (c := 124) hc (by decide)
      have x1 : (newM (expM s m [124])).p.1 = m.p.1 + 1 := by rw [newM_p, expM_p, e1]
      have g := condM_mc f s yes m.marks.length (newM (expM s m [124])) (by omega) (by omega)
      have k1 := condM_gp f s yes m.marks.length (newM (expM s m [124])) hs (by omega) (by omega)
      generalize condM f s yes m.marks.length (newM (expM s m [124])) = y3 at *
      have g1 := g.lo; have g2 := g.i
      have k2 := condM_gp f s yes no (layM y3 m.marks.length) hs (by rw [layM_p]; omega) (by rw [layM_p]; omega)
      exact (((expM_gp s m [124]).trans (newM_gp _)).trans ((k1.trans (layM_gp y3 m.marks.length)).trans k2)).mono (by decide)
    · exact tstM_gp yes no hs hi

theorem actM_gp {s : ByteArray} {m : MS} (hs : s.size ≤ 1000) (h : pkb s m.p ≠ 0) : Gp 0 m (actM s m) := by
  intro hb
  obtain ⟨h1, h2⟩ := pkb_live h
  have e : m.p = (m.p.1, false) := by rw [← h1]
  have hb' : (expF s (nacF s m.p).2 [59]).2 = false := hb
  obtain ⟨e1, e2⟩ := expF_good s [59] _ hb'
  obtain ⟨r1, r2⟩ := nac_ref s m.p.1
  rw [← e] at r1 r2
  rw [r1] at e1
  have g := simpF_gn s m.p.1 e1
  have hge := (simpF_ge s m.p.1).2 e1
  have hle := simpF_le s m.p.1 (Nat.le_of_lt h2)
  have htp : TxP (simpF s m.p.1).1 (sinceB s m.p.1 (nacF s m.p).2.1) := ⟨s, m.p.1, (nacF s m.p).2.1, rfl, by rw [r1]; omega, by rw [r1]; exact hle, .inl (Prod.ext rfl (Prod.ext (by rw [r1]) e1))⟩
  refine ⟨h1, fun n hn => ?_, ?_, ?_⟩
  · rcases List.mem_append.1 hn with h | h
    · exact .inl h
    · obtain rfl : n = _ := by simpa using h
      rw [r2 e1]
      exact .inr (.inr ⟨actN_ne _, _, _, _, _, rfl, g.1, since_size s _ _ hs, htp⟩)
  · have h3 : nj (actM s m).row ≤ nj m.row + 1 := nj_one m.row _
    have h4 : (actM s m).p.1 = (simpF s m.p.1).2.1 + 1 := by
      show (expF s (nacF s m.p).2 [59]).1 = _
      rw [e2, r1]; rfl
    omega
  · have h4 : (actM s m).p.1 = (simpF s m.p.1).2.1 + 1 := by
      show (expF s (nacF s m.p).2 [59]).1 = _
      rw [e2, r1]; rfl
    rw [h4]
    show sz (m.row ++ [_]) + m.p.1 ≤ _
    rw [sz_one]
    show sz m.row + (sinceB s m.p.1 (nacF s m.p).2.1).size + m.p.1 ≤ _
    unfold sinceB
    rw [ByteArray.size_extract, r1]
    omega

theorem lepM_gp (s : ByteArray) (m : MS) (l : List UInt8) (k : Int) : Gp 0 m (lepM s l k m) := by
  unfold lepM
  split
  · intro hb; cases hb
  · exact ((expM_gp s m l).trans (jmpM_gp _ k)).mono (by omega)

def SGp (s : ByteArray) (n : Nat) (S : Int → Int → MS → MS) : Prop := ∀ h b m, m.p.1 ≤ s.size → (m.p.2 = false → s.size - m.p.1 < n) → Gp 0 m (S h b m)

theorem choM_gp {f : Nat} {s : ByteArray} {S : Int → Int → MS → MS} {h b : Int} {m : MS} (hs : s.size ≤ 1000) (hS : SMG s f S) (hG : SGp s f S) (hc : pkb s m.p = 40) (hf : s.size - m.p.1 < f + 1) : Gp 0 m (choM f S s h b m) := by
  obtain ⟨e1, e2, e3⟩ := eat_at (c := 40) hc (by decide)
  unfold choM
  dsimp only
  have k1 := (new3_gp m).trans (expM_gp s (new3 m) [40])
  have q1 : (expM s (new3 m) [40]).p.1 = m.p.1 + 1 := by rw [expM_p, new3_p, e1]
  generalize expM s (new3 m) [40] = x1 at *
  have g2 := condM_mc f s m.marks.length (m.marks.length + 1 : Nat) x1 (by omega) (by omega)
  have k2 := condM_gp f s m.marks.length (m.marks.length + 1 : Nat) x1 hs (by omega) (by omega)
  generalize condM f s m.marks.length (m.marks.length + 1 : Nat) x1 = x2 at *
  have g3 := expM_mg (l := [123]) (by decide) g2.i
  have k3 := expM_gp s x2 [123]
  generalize expM s x2 [123] = x3 at *
  have g4 := layM_mg (k := m.marks.length) g3.i
  have k4 := layM_gp x3 m.marks.length
  generalize layM x3 m.marks.length = x4 at *
  have lo4 : x1.p.1 ≤ x4.p.1 := Nat.le_trans g2.lo (Nat.le_trans g3.lo g4.lo)
  have i4 := g4.i
  have g5 := hS h b x4 g4.i (fun _ => by omega)
  have k5 := hG h b x4 g4.i (fun _ => by omega)
  generalize S h b x4 = x5 at *
  have g6 := expM_mg (l := [125, 123]) (by decide) g5.i
  have k6 := expM_gp s x5 [125, 123]
  generalize expM s x5 [125, 123] = x6 at *
  have p7 := jmpM_p x6 (m.marks.length + 2 : Nat)
  have k7 := jmpM_gp x6 (m.marks.length + 2 : Nat)
  generalize jmpM x6 (m.marks.length + 2 : Nat) = x7 at *
  have g8 := layM_mg (s := s) (m := x7) (k := m.marks.length + 1) (by rw [p7]; exact g6.i)
  have k8 := layM_gp x7 (m.marks.length + 1)
  generalize layM x7 (m.marks.length + 1) = x8 at *
  have lo8 : x4.p.1 ≤ x8.p.1 := Nat.le_trans g5.lo (Nat.le_trans g6.lo (by rw [← p7]; exact g8.lo))
  have i8 := g8.i
  have k9 := hG h b x8 g8.i (fun _ => by omega)
  generalize S h b x8 = x9 at *
  have k10 := expM_gp s x9 [125, 41]
  generalize expM s x9 [125, 41] = x10 at *
  have k11 := layM_gp x10 (m.marks.length + 2)
  generalize layM x10 (m.marks.length + 2) = x11 at *
  exact (((((((((k1.trans k2).trans k3).trans k4).trans k5).trans k6).trans k7).trans k8).trans k9).trans (k10.trans k11)).mono (by decide)

theorem lopM_gp {f : Nat} {s : ByteArray} {S : Int → Int → MS → MS} {m : MS} (hs : s.size ≤ 1000) (hG : SGp s f S) (hc : pkb s m.p = 91) (hf : s.size - m.p.1 < f + 1) : Gp 0 m (lopM f S s m) := by
  obtain ⟨e1, e2, e3⟩ := eat_at (c := 91) hc (by decide)
  unfold lopM
  dsimp only
  have k1 := ((new3_gp m).trans (expM_gp s (new3 m) [91])).trans (layM_gp _ m.marks.length)
  have q1 : (layM (expM s (new3 m) [91]) m.marks.length).p.1 = m.p.1 + 1 := by rw [layM_p, expM_p, new3_p, e1]
  generalize layM (expM s (new3 m) [91]) m.marks.length = x1 at *
  have g2 := condM_mc f s (m.marks.length + 1 : Nat) (m.marks.length + 2 : Nat) x1 (by omega) (by omega)
  have k2 := condM_gp f s (m.marks.length + 1 : Nat) (m.marks.length + 2 : Nat) x1 hs (by omega) (by omega)
  generalize condM f s (m.marks.length + 1 : Nat) (m.marks.length + 2 : Nat) x1 = x2 at *
  have g3 := expM_mg (l := [123]) (by decide) g2.i
  have k3 := expM_gp s x2 [123]
  generalize expM s x2 [123] = x3 at *
  have g4 := layM_mg (k := m.marks.length + 1) g3.i
  have k4 := layM_gp x3 (m.marks.length + 1)
  generalize layM x3 (m.marks.length + 1) = x4 at *
  have lo4 : x1.p.1 ≤ x4.p.1 := Nat.le_trans g2.lo (Nat.le_trans g3.lo g4.lo)
  have i4 := g4.i
  have k5 := hG m.marks.length (m.marks.length + 2 : Nat) x4 g4.i (fun _ => by omega)
  generalize S m.marks.length (m.marks.length + 2 : Nat) x4 = x5 at *
  have k6 := expM_gp s x5 [125, 93]
  generalize expM s x5 [125, 93] = x6 at *
  have k7 := jmpM_gp x6 m.marks.length
  generalize jmpM x6 m.marks.length = x7 at *
  have k8 := layM_gp x7 (m.marks.length + 2)
  exact (((((((k1.trans k2).trans k3).trans k4).trans k5).trans k6).trans k7).trans k8).mono (by decide)

theorem stM_gp {f : Nat} {s : ByteArray} {S : Int → Int → MS → MS} {h b : Int} {m : MS} (hs : s.size ≤ 1000) (hS : SMG s f S) (hG : SGp s f S) (hp : pkb s m.p ≠ 0) (hf : s.size - m.p.1 < f + 1) : Gp 0 m (stM f S s h b m) := by
  unfold stM
  split
  · rename_i hc; exact choM_gp hs hS hG hc hf
  split
  · rename_i hc; exact lopM_gp hs hG hc hf
  split
  · exact lepM_gp s m _ b
  split
  · exact lepM_gp s m _ h
  · exact actM_gp hs hp

theorem stmM_gp : ∀ (f : Nat) (s : ByteArray), s.size ≤ 1000 → SGp s f (stmM f s)
  | 0, s, _ => fun h b m _ _ => Gp.refl m
  | f + 1, s, hs => fun h b m hi hf => by
    rw [stmM]
    split
    · rename_i hc
      have hl := pkb_live hc.2
      have g := stM_mg (h := h) (b := b) (stmM_mg f s) hc.2 (hf hl.1)
      have k := stM_gp (h := h) (b := b) hs (stmM_mg f s) (stmM_gp f s hs) hc.2 (hf hl.1)
      have hl2 := hf hl.1
      generalize stM f (stmM f s) s h b m = x at *
      exact (k.trans (stmM_gp f s hs h b x g.1.i (fun hb => by have := g.2 hb; have := g.1.i; omega))).mono (by decide)
    · exact Gp.refl m

def ms0 : MS := { p := (0, false), row := [], marks := [] }

/-- A source, as the maker reads it. -/
def srM (s : ByteArray) : MS := stmM (s.size + 1) s (-1) (-1) ms0

def srE (s : ByteArray) : Int × Int := if (srM s).p.2 = true ∨ (srM s).p.1 ≠ s.size then (2, (srM s).p.1) else (0, 0)

theorem srM_mi (s : ByteArray) : MI s (srM s) := MI.mg (m := ms0) ⟨Nat.zero_le _, Nat.zero_le _, Nat.zero_le _⟩ (stmM_mg (s.size + 1) s (-1) (-1) ms0 (Nat.zero_le _) (fun _ => by show s.size - 0 < _; omega))

theorem srM_good {s : ByteArray} (hs : s.size ≤ 180) (h : (srE s).1 = 0) : (srM s).p = (s.size, false) ∧ nj (srM s).row ≤ 90 ∧ (∀ n ∈ (srM s).row, RN n) ∧ sz (srM s).row ≤ 180 := by
  unfold srE at h
  split at h
  · simp at h
  · rename_i hn
    have h1 : (srM s).p.2 = false := by cases hb : (srM s).p.2; rfl; exact absurd (.inl hb) hn
    have h2 : (srM s).p.1 = s.size := by
      rcases Nat.decEq (srM s).p.1 s.size with h | h
      · exact absurd (.inr h) hn
      · exact h
    have g := stmM_gp (s.size + 1) s (by omega) (-1) (-1) ms0 (Nat.zero_le _) (fun _ => by show s.size - 0 < _; omega) h1
    obtain ⟨_, g2, g3, g4⟩ := g
    have g3' : 2 * (nj (srM s).row : Int) + (0 : Nat) ≤ 2 * (0 : Nat) + (srM s).p.1 + 0 := g3
    have g4' : sz (srM s).row + 0 ≤ 0 + (srM s).p.1 := g4
    exact ⟨by rw [← h1, ← h2], by omega, fun n hn => (g2 n hn).elim (fun e => by cases e) id, by omega⟩
end Go.Proofs.YtellieabhaphhabGreatDoor

/-
  Plain: a node's text, read again elsewhere.
-/
namespace Go.Proofs.YtellieabhaphhabGreatDoor
open Go.RowKit

/-- The bytes of g from p on are those of s from i on, n of them. -/
def Sb (s : ByteArray) (i : Nat) (g : ByteArray) (p n : Nat) : Prop := ∀ k, k < n → pk g (p + k) = pk s (i + k)

theorem Sb.drop {s g : ByteArray} {i p n : Nat} (h : Sb s i g p n) (d : Nat) : Sb s (i + d) g (p + d) (n - d) := fun k hk => by
  have := h (d + k) (by omega)
  rw [show p + d + k = p + (d + k) by omega, show i + d + k = i + (d + k) by omega]
  exact this

theorem var_good {s : ByteArray} {q : Nat} (h : (varF s (q, false)).2.2 = false) : (97 ≤ pk s q ∧ pk s q ≤ 102) ∧ varF s (q, false) = (pk s q - 97, (q + 1, false)) := by
  by_cases hc : 97 ≤ pk s q ∧ pk s q ≤ 102
  · exact ⟨hc, varF_yes s q hc⟩
  · rw [varF_no s q hc] at h; cases h

theorem kind_good {s : ByteArray} {q : Nat} (h : (kindF s (q, false)).2.2 = false) : amF (pk s q) [110, 116, 102, 122, 65, 66, 67] = true ∧ kindF s (q, false) = (pk s q, (q + 1, false)) := by
  unfold kindF at h ⊢
  cases hc : amF (pk s q) [110, 116, 102, 122, 65, 66, 67]
  · rw [hc] at h; simp at h
  · simp

theorem kind_yes {s : ByteArray} {q : Nat} (h : amF (pk s q) [110, 116, 102, 122, 65, 66, 67] = true) : kindF s (q, false) = (pk s q, (q + 1, false)) := by
  unfold kindF; simp [h]

theorem Nd.ext' {a b : Nd} (h0 : a.op = b.op) (h1 : a.x = b.x) (h2 : a.y = b.y) (h3 : a.v = b.v) (h4 : a.k = b.k) (h5 : a.t = b.t) (h6 : a.f = b.f) (h7 : a.a = b.a) (h8 : a.l = b.l) : a = b := by
  cases a; cases b; simp only [Nd.mk.injEq]; exact ⟨h0, h1, h2, h3, h4, h5, h6, h7, h8⟩

theorem valF_ge2 (s : ByteArray) (i : Nat) (n : Nd) : i ≤ (valF s i n).2.1 := by
  unfold valF
  have g1 := varF_ge s (i + 1, false)
  have g2 := varF_ge s (i, false)
  have g3 := varF_ge s (varF s (i + 1, false)).2
  repeat' split
  all_goals (simp only at g1 g2 g3 ⊢; omega)

theorem val_loc {s g : ByteArray} {q p j : Nat} {n n' : Nd} (a : Int) (h : valF s q n = (n', (j, false))) (hs : Sb s q g p (j - q)) : q < j ∧ valF g p { n with a := a } = ({ n' with a := a }, (p + (j - q), false)) := by
  unfold valF at h
  by_cases h1 : 48 ≤ pk s q ∧ pk s q ≤ 57
  · rw [if_pos h1] at h
    simp only [Prod.mk.injEq] at h
    obtain ⟨rfl, rfl, _⟩ := h
    have b0 : pk g p = pk s q := hs 0 (by omega)
    refine ⟨by omega, ?_⟩
    unfold valF
    rw [b0, if_pos h1]
    exact Prod.ext rfl (Prod.ext (by show p + 1 = p + (_ - _); omega) rfl)
  rw [if_neg h1] at h
  by_cases h2 : amF (pk s q) [84, 70, 90, 67, 63] = true
  · rw [if_pos h2] at h
    simp only [Prod.mk.injEq] at h
    obtain ⟨rfl, rfl, _⟩ := h
    have b0 : pk g p = pk s q := hs 0 (by omega)
    refine ⟨by omega, ?_⟩
    unfold valF
    rw [b0, if_neg h1, if_pos h2]
    exact Prod.ext rfl (Prod.ext (by show p + 1 = p + (_ - _); omega) rfl)
  rw [if_neg h2] at h
  by_cases h3 : amF (pk s q) [43, 60] = true
  · rw [if_pos h3] at h
    simp only [Prod.mk.injEq] at h
    obtain ⟨h, hj⟩ := h
    have hg2 : (varF s (varF s (q + 1, false)).2).2.2 = false := by rw [hj]
    have hg1 : (varF s (q + 1, false)).2.2 = false := by
      have := (varF_ge s (varF s (q + 1, false)).2)
      cases hb : (varF s (q + 1, false)).2.2
      · rfl
      · exfalso
        have e : (varF s (q + 1, false)).2 = ((varF s (q + 1, false)).2.1, true) := Prod.ext rfl hb
        rw [e] at hg2
        unfold varF at hg2
        simp at hg2
    obtain ⟨v1, v2⟩ := var_good hg1
    rw [v2] at h hj hg2
    obtain ⟨w1, w2⟩ := var_good hg2
    rw [w2] at h hj
    simp only [Prod.mk.injEq] at hj
    obtain ⟨rfl, _⟩ := hj
    have b0 : pk g p = pk s q := hs 0 (by omega)
    have b1 : pk g (p + 1) = pk s (q + 1) := hs 1 (by omega)
    have b2 : pk g (p + 1 + 1) = pk s (q + 1 + 1) := hs 2 (by omega)
    refine ⟨by omega, ?_⟩
    unfold valF
    rw [b0, if_neg h1, if_neg h2, if_pos h3, varF_yes g (p + 1) (by rw [b1]; exact v1)]
    dsimp only
    rw [varF_yes g (p + 1 + 1) (by rw [b2]; exact w1), b1, b2]
    rw [← h]
    exact Prod.ext rfl (Prod.ext (by show p + 1 + 1 + 1 = p + (_ - _); omega) rfl)
  rw [if_neg h3] at h
  by_cases h4 : amF (pk s q) [65, 66, 46] = true
  · rw [if_pos h4] at h
    simp only [Prod.mk.injEq] at h
    obtain ⟨h, hj⟩ := h
    obtain ⟨v1, v2⟩ := var_good (by rw [hj] : (varF s (q + 1, false)).2.2 = false)
    rw [v2] at h hj
    simp only [Prod.mk.injEq] at hj
    obtain ⟨rfl, _⟩ := hj
    have b0 : pk g p = pk s q := hs 0 (by omega)
    have b1 : pk g (p + 1) = pk s (q + 1) := hs 1 (by omega)
    refine ⟨by omega, ?_⟩
    unfold valF
    rw [b0, if_neg h1, if_neg h2, if_neg h3, if_pos h4, varF_yes g (p + 1) (by rw [b1]; exact v1), b1, ← h]
    exact Prod.ext rfl (Prod.ext (by show p + 1 + 1 = p + (_ - _); omega) rfl)
  · rw [if_neg h4] at h
    simp only [Prod.mk.injEq] at h
    obtain ⟨h, hj⟩ := h
    obtain ⟨v1, v2⟩ := var_good (by rw [hj] : (varF s (q, false)).2.2 = false)
    rw [v2] at h hj
    simp only [Prod.mk.injEq] at hj
    obtain ⟨rfl, _⟩ := hj
    have b0 : pk g p = pk s q := hs 0 (by omega)
    refine ⟨by omega, ?_⟩
    unfold valF
    rw [b0, if_neg h1, if_neg h2, if_neg h3, if_neg h4, varF_yes g p (by rw [b0]; exact v1), b0, ← h]
    exact Prod.ext rfl (Prod.ext (by show p + 1 = p + (_ - _); omega) rfl)

theorem simp_loc {s g : ByteArray} {i p j : Nat} {nd : Nd} (h : simpF s i = (nd, (j, false))) (hs : Sb s i g p (j - i)) :
    i < j ∧ simpF g p = ({ nd with a := p }, (p + (j - i), false)) ∧ (pk g p = 94 ∨ pk g p = 33 ∨ (97 ≤ pk g p ∧ pk g p ≤ 102 ∧ (pk g (p + 1) = 61 ∨ pk g (p + 1) = 126))) := by
  unfold simpF at h
  by_cases h1 : pk s i = 94
  · rw [if_pos h1] at h
    simp only [Prod.mk.injEq] at h
    obtain ⟨h, hj⟩ := h
    obtain ⟨v1, v2⟩ := var_good (by rw [hj] : (varF s (i + 1, false)).2.2 = false)
    rw [v2] at h hj
    simp only [Prod.mk.injEq] at hj
    obtain ⟨rfl, _⟩ := hj
    have b0 : pk g p = pk s i := hs 0 (by omega)
    have b1 : pk g (p + 1) = pk s (i + 1) := hs 1 (by omega)
    refine ⟨by omega, ?_, .inl (by rw [b0, h1])⟩
    unfold simpF
    rw [if_pos (by rw [b0, h1]), varF_yes g (p + 1) (by rw [b1]; exact v1), b1, ← h]
    refine Prod.ext (Nd.ext' rfl rfl rfl rfl rfl rfl rfl rfl ?_) (Prod.ext ?_ rfl)
    · show ((p + 1 + 1 : Nat) : Int) - p = ((i + 1 + 1 : Nat) : Int) - i; omega
    · show p + 1 + 1 = p + (_ - _); omega
  rw [if_neg h1] at h
  by_cases h2 : pk s i = 33
  · rw [if_pos h2] at h
    simp only [Prod.mk.injEq] at h
    obtain ⟨h, rfl, _⟩ := h
    have b0 : pk g p = pk s i := hs 0 (by omega)
    refine ⟨by omega, ?_, .inr (.inl (by rw [b0, h2]))⟩
    unfold simpF
    rw [if_neg (by rw [b0]; exact h1), if_pos (by rw [b0, h2]), ← h]
    refine Prod.ext (Nd.ext' rfl rfl rfl rfl rfl rfl rfl rfl ?_) (Prod.ext ?_ rfl)
    · show (p : Int) + 1 - p = (i : Int) + 1 - i; omega
    · show p + 1 = p + (_ - _); omega
  rw [if_neg h2] at h
  by_cases h3 : (varF s (i, false)).2.2 = false ∧ pk s (varF s (i, false)).2.1 = 126
  · rw [if_pos h3] at h
    obtain ⟨h3a, h3b⟩ := h3
    obtain ⟨v1, v2⟩ := var_good h3a
    rw [v2] at h h3b
    simp only [Prod.mk.injEq] at h
    obtain ⟨h, hj⟩ := h
    obtain ⟨k1, k2⟩ := kind_good (by rw [hj] : (kindF s (i + 1 + 1, false)).2.2 = false)
    rw [k2] at h hj
    simp only [Prod.mk.injEq] at hj
    obtain ⟨rfl, _⟩ := hj
    dsimp only at h3b
    have b0 : pk g p = pk s i := hs 0 (by omega)
    have b1 : pk g (p + 1) = pk s (i + 1) := hs 1 (by omega)
    have b2 : pk g (p + 1 + 1) = pk s (i + 1 + 1) := hs 2 (by omega)
    refine ⟨by omega, ?_, .inr (.inr ⟨by omega, by omega, .inr (by rw [b1, h3b])⟩)⟩
    unfold simpF
    rw [if_neg (by rw [b0]; exact h1), if_neg (by rw [b0]; exact h2), varF_yes g p (by rw [b0]; exact v1)]
    dsimp only
    rw [if_pos ⟨rfl, by rw [b1, h3b]⟩, kind_yes (by rw [b2]; exact k1), b0, b2, ← h]
    refine Prod.ext (Nd.ext' rfl rfl rfl rfl rfl rfl rfl rfl ?_) (Prod.ext ?_ rfl)
    · show ((p + 1 + 1 + 1 : Nat) : Int) - p = ((i + 1 + 1 + 1 : Nat) : Int) - i; omega
    · show p + 1 + 1 + 1 = p + (_ - _); omega
  rw [if_neg h3] at h
  by_cases h4 : (eatF s (varF s (i, false)).2 61).2 = true
  · rw [if_pos h4] at h
    simp only [Prod.mk.injEq] at h
    rw [h.2] at h4
    cases h4
  · rw [if_neg h4] at h
    have h4' : (eatF s (varF s (i, false)).2 61).2 = false := by simpa using h4
    obtain ⟨e1, e2, e3⟩ := eatF_good s _ 61 h4'
    obtain ⟨v1, v2⟩ := var_good e1
    rw [v2] at e2 e3 h
    dsimp only at e2 e3
    rw [e3] at h
    simp only [Prod.mk.injEq] at h
    obtain ⟨h, hj⟩ := h
    have hv : valF s (i + 1 + 1) { nd0 i with x := ((pk s i - 97 : Nat) : Int) } = ((valF s (i + 1 + 1) { nd0 i with x := ((pk s i - 97 : Nat) : Int) }).1, (j, false)) := Prod.ext rfl hj
    have hge : i + 1 + 1 ≤ j := by
      have := valF_ge2 s (i + 1 + 1) { nd0 i with x := ((pk s i - 97 : Nat) : Int) }
      rw [hj] at this
      exact this
    obtain ⟨hlt, hl⟩ := val_loc (g := g) (p := p + 1 + 1) (p : Int) hv (by
      have := hs.drop 2
      rw [show j - i - 2 = j - (i + 1 + 1) by omega] at this
      exact this)
    have b0 : pk g p = pk s i := hs 0 (by omega)
    have b1 : pk g (p + 1) = pk s (i + 1) := hs 1 (by omega)
    refine ⟨by omega, ?_, .inr (.inr ⟨by omega, by omega, .inl (by rw [b1, e2])⟩)⟩
    have hn3 : ¬ ((varF g (p, false)).2.2 = false ∧ pk g (varF g (p, false)).2.1 = 126) := by
      rw [varF_yes g p (by rw [b0]; exact v1)]
      rintro ⟨_, hc⟩
      dsimp only at hc
      rw [b1, e2] at hc
      exact absurd hc (by decide)
    have he : eatF g (varF g (p, false)).2 61 = (p + 1 + 1, false) := by
      rw [varF_yes g p (by rw [b0]; exact v1), eatF_pkb g _ 61 (by decide), pkb_false, if_pos (by rw [b1, e2])]
    have hl' : valF g (p + 1 + 1) { nd0 p with x := ((pk s i - 97 : Nat) : Int) } = ({ (valF s (i + 1 + 1) { nd0 i with x := ((pk s i - 97 : Nat) : Int) }).1 with a := (p : Int) }, (p + 1 + 1 + (j - (i + 1 + 1)), false)) := hl
    unfold simpF
    rw [if_neg (by rw [b0]; exact h1), if_neg (by rw [b0]; exact h2), if_neg hn3, he, if_neg (show ¬ (false = true) by decide)]
    have hx : (varF g (p, false)).1 = pk s i - 97 := by rw [varF_yes g p (by rw [b0]; exact v1), b0]
    rw [hx, hl', ← h]
    refine Prod.ext (Nd.ext' rfl rfl rfl rfl rfl rfl rfl rfl ?_) (Prod.ext ?_ rfl)
    · show ((p + 1 + 1 + (j - (i + 1 + 1)) : Nat) : Int) - p = _
      rw [hj]
      show _ = (j : Int) - i
      omega
    · show p + 1 + 1 + (j - (i + 1 + 1)) = p + (_ - _); omega

theorem test_loc {s g : ByteArray} {i p j : Nat} {nd : Nd} (h : testF s i = (nd, (j, false))) (hs : Sb s i g p (j - i)) (hc : pk g (p + (j - i)) = 44) :
    i < j ∧ testF g p = ({ nd with a := p }, (p + (j - i), false)) ∧ 97 ≤ pk g p ∧ pk g p ≤ 102 ∧ pk g (p + 1) ≠ 61 ∧ pk g (p + 1) ≠ 126 := by
  unfold testF at h
  by_cases h3 : (varF s (i, false)).2.2 = false ∧ pk s (varF s (i, false)).2.1 = 58
  · rw [if_pos h3] at h
    obtain ⟨h3a, h3b⟩ := h3
    obtain ⟨v1, v2⟩ := var_good h3a
    rw [v2] at h h3b
    simp only [Prod.mk.injEq] at h
    obtain ⟨h, hj⟩ := h
    obtain ⟨k1, k2⟩ := kind_good (by rw [hj] : (kindF s (i + 1 + 1, false)).2.2 = false)
    rw [k2] at h hj
    simp only [Prod.mk.injEq] at hj
    obtain ⟨rfl, _⟩ := hj
    dsimp only at h3b
    have b0 : pk g p = pk s i := hs 0 (by omega)
    have b1 : pk g (p + 1) = pk s (i + 1) := hs 1 (by omega)
    have b2 : pk g (p + 1 + 1) = pk s (i + 1 + 1) := hs 2 (by omega)
    refine ⟨by omega, ?_, by omega, by omega, by omega, by omega⟩
    unfold testF
    rw [varF_yes g p (by rw [b0]; exact v1)]
    dsimp only
    rw [if_pos ⟨rfl, by rw [b1, h3b]⟩, kind_yes (by rw [b2]; exact k1), b0, b2, ← h]
    refine Prod.ext (Nd.ext' rfl rfl rfl rfl rfl rfl rfl rfl ?_) (Prod.ext ?_ rfl)
    · show ((p + 1 + 1 + 1 : Nat) : Int) - p = ((i + 1 + 1 + 1 : Nat) : Int) - i; omega
    · show p + 1 + 1 + 1 = p + (_ - _); omega
  · rw [if_neg h3] at h
    simp only [Prod.mk.injEq] at h
    obtain ⟨h, hj⟩ := h
    obtain ⟨v1, v2⟩ := var_good (by rw [hj] : (varF s (i, false)).2.2 = false)
    rw [v2] at h hj
    simp only [Prod.mk.injEq] at hj
    obtain ⟨rfl, _⟩ := hj
    have b0 : pk g p = pk s i := hs 0 (by omega)
    have b1 : pk g (p + 1) = 44 := by
      have e : p + (i + 1 - i) = p + 1 := by omega
      rw [e] at hc
      exact hc
    refine ⟨by omega, ?_, by omega, by omega, by omega, by omega⟩
    unfold testF
    rw [varF_yes g p (by rw [b0]; exact v1)]
    dsimp only
    rw [if_neg (fun e => by rw [b1] at e; exact absurd e.2 (by decide)), b0, ← h]
    refine Prod.ext (Nd.ext' rfl rfl rfl rfl rfl rfl rfl rfl ?_) (Prod.ext ?_ rfl)
    · show ((p + 1 : Nat) : Int) - p = ((i + 1 : Nat) : Int) - i; omega
    · show p + 1 = p + (_ - _); omega
end Go.Proofs.YtellieabhaphhabGreatDoor

/-
  narrow's maker: the walks of its parts, one step behind the other.
-/
namespace Go.Proofs.YtellieabhaphhabGreatDoor
open Go.RowKit

/-- A call that brings the maker from m to m'. -/
def MStep (r : Nat) (s : ByteArray) (F : Nat) (args : Array Value) (res : Value) (m m' : MS) : Prop :=
  ∀ (W : World) (O : Nat → Prop), Mp W r s m O → Calls Tryz.prog F args W fun e w' => e = .returned res ∧ MWent W O r s m' w'

section
variable {r : Nat} {s : ByteArray}
theorem new_step {m : MS} (hn : m.marks.length ≤ 2000) : MStep r s 122 #[.pointer (some ⟨r, 0, none⟩)] (.int .i64 m.marks.length) m (newM m) := fun _ _ h => nnewMark_c hn h
theorem jump_step {m : MS} (k : Int) (hn : m.row.length ≤ 2000) : MStep r s 125 #[.pointer (some ⟨r, 0, none⟩), .int .i64 k] (.tuple #[]) m (jmpM m k) := fun _ _ h => njump_c k hn h
theorem lay_step {m : MS} (k : Nat) (hn : m.marks.length ≤ 2000) (h2 : m.row.length ≤ 2000) (hk : k < m.marks.length) : MStep r s 124 #[.pointer (some ⟨r, 0, none⟩), .int .i64 k] (.tuple #[]) m (layM m k) := fun _ _ h => nlayMark_c k hn h2 hk h
theorem exp_step {m : MS} (u : ByteArray) (hs : s.size ≤ 1000) (hi : m.p.1 ≤ s.size) (hu : u.size ≤ 10) (hz : ∀ k (h : k < u.size), (u[k]).toNat ≠ 0) :
    MStep r s 73 #[.pointer (some ⟨r, 0, none⟩), .string u] (.tuple #[]) m (expM s m u.data.toList) := fun _ _ h => mexpect_w h u hs hi hu hz

set_option maxHeartbeats 1600000 in
theorem choice_walk {h b L0 L1 L2 : Int} {m y1 y2 y3 y4 y5 y6 y7 y8 y9 z1 z2 z3 z4 z5 : MS}
    (s1 : MStep r s 122 #[.pointer (some ⟨r, 0, none⟩)] (.int .i64 L0) m y1)
    (s2 : MStep r s 122 #[.pointer (some ⟨r, 0, none⟩)] (.int .i64 L1) y1 y2)
    (s3 : MStep r s 122 #[.pointer (some ⟨r, 0, none⟩)] (.int .i64 L2) y2 y3)
    (s4 : MStep r s 73 #[.pointer (some ⟨r, 0, none⟩), .string ⟨#[40]⟩] (.tuple #[]) y3 y4)
    (s5 : MStep r s 123 #[.pointer (some ⟨r, 0, none⟩), .int .i64 L0, .int .i64 L1] (.tuple #[]) y4 y5)
    (s6 : MStep r s 73 #[.pointer (some ⟨r, 0, none⟩), .string ⟨#[123]⟩] (.tuple #[]) y5 y6)
    (s7 : MStep r s 124 #[.pointer (some ⟨r, 0, none⟩), .int .i64 L0] (.tuple #[]) y6 y7)
    (s8 : MStep r s 45 #[.pointer (some ⟨r, 0, none⟩), .int .i64 h, .int .i64 b] (.tuple #[]) y7 y8)
    (s9 : MStep r s 73 #[.pointer (some ⟨r, 0, none⟩), .string ⟨#[125, 123]⟩] (.tuple #[]) y8 y9)
    (t1 : MStep r s 125 #[.pointer (some ⟨r, 0, none⟩), .int .i64 L2] (.tuple #[]) y9 z1)
    (t2 : MStep r s 124 #[.pointer (some ⟨r, 0, none⟩), .int .i64 L1] (.tuple #[]) z1 z2)
    (t3 : MStep r s 45 #[.pointer (some ⟨r, 0, none⟩), .int .i64 h, .int .i64 b] (.tuple #[]) z2 z3)
    (t4 : MStep r s 73 #[.pointer (some ⟨r, 0, none⟩), .string ⟨#[125, 41]⟩] (.tuple #[]) z3 z4)
    (t5 : MStep r s 124 #[.pointer (some ⟨r, 0, none⟩), .int .i64 L2] (.tuple #[]) z4 z5) :
    MStep r s 80 #[.pointer (some ⟨r, 0, none⟩), .int .i64 h, .int .i64 b] (.tuple #[]) m z5 := by
  intro w O h0
  have S1 := hide s1; have S2 := hide s2; have S3 := hide s3; have S4 := hide s4; have S5 := hide s5; have S6 := hide s6; have S7 := hide s7; have S8 := hide s8; have S9 := hide s9
  have T1 := hide t1; have T2 := hide t2; have T3 := hide t3; have T4 := hide t4; have T5 := hide t5
  clear s1 s2 s3 s4 s5 s6 s7 s8 s9 t1 t2 t3 t4 t5
  go_enter Tryz.func80, Tryz.ntmps80
  go_wp2_with fail
  refine (S1.out _ _ h0).mono ?_
  rintro e w1 ⟨rfl, O1, h1, T⟩
  go_wp2_with fail
  refine (S2.out _ _ h1).mono ?_
  rintro e w2 ⟨rfl, O2, h2, t2⟩
  replace T := T.trans t2; clear t2 h1
  go_wp2_with fail
  refine (S3.out _ _ h2).mono ?_
  rintro e w3 ⟨rfl, O3, h3, t3⟩
  replace T := T.trans t3; clear t3 h2
  go_wp2_with fail
  refine (S4.out _ _ h3).mono ?_
  rintro e w4 ⟨rfl, O4, h4, t4⟩
  replace T := T.trans t4; clear t4 h3
  go_wp2_with fail
  refine (S5.out _ _ h4).mono ?_
  rintro e w5 ⟨rfl, O5, h5, t5⟩
  replace T := T.trans t5; clear t5 h4
  go_wp2_with fail
  refine (S6.out _ _ h5).mono ?_
  rintro e w6 ⟨rfl, O6, h6, t6⟩
  replace T := T.trans t6; clear t6 h5
  go_wp2_with fail
  refine (S7.out _ _ h6).mono ?_
  rintro e w7 ⟨rfl, O7, h7, t7⟩
  replace T := T.trans t7; clear t7 h6
  go_wp2_with fail
  refine (S8.out _ _ h7).mono ?_
  rintro e w8 ⟨rfl, O8, h8, t8⟩
  replace T := T.trans t8; clear t8 h7
  go_wp2_with fail
  refine (S9.out _ _ h8).mono ?_
  rintro e w9 ⟨rfl, O9, h9, t9⟩
  replace T := T.trans t9; clear t9 h8
  go_wp2_with fail
  refine (T1.out _ _ h9).mono ?_
  rintro e v1 ⟨rfl, P1, k1, t1⟩
  replace T := T.trans t1; clear t1 h9
  go_wp2_with fail
  refine (T2.out _ _ k1).mono ?_
  rintro e v2 ⟨rfl, P2, k2, t2⟩
  replace T := T.trans t2; clear t2 k1
  go_wp2_with fail
  refine (T3.out _ _ k2).mono ?_
  rintro e v3 ⟨rfl, P3, k3, t3⟩
  replace T := T.trans t3; clear t3 k2
  go_wp2_with fail
  refine (T4.out _ _ k3).mono ?_
  rintro e v4 ⟨rfl, P4, k4, t4⟩
  replace T := T.trans t4; clear t4 k3
  go_wp2_with fail
  refine (T5.out _ _ k4).mono ?_
  rintro e v5 ⟨rfl, P5, k5, t5⟩
  replace T := T.trans t5; clear t5 k4
  go_wp2
  go_end0
  exact ⟨rfl, P5, k5, T⟩

set_option maxHeartbeats 1600000 in
theorem loop_walk {L0 L1 L2 : Int} {m y1 y2 y3 y4 y5 y6 y7 y8 y9 z1 z2 z3 : MS}
    (s1 : MStep r s 122 #[.pointer (some ⟨r, 0, none⟩)] (.int .i64 L0) m y1)
    (s2 : MStep r s 122 #[.pointer (some ⟨r, 0, none⟩)] (.int .i64 L1) y1 y2)
    (s3 : MStep r s 122 #[.pointer (some ⟨r, 0, none⟩)] (.int .i64 L2) y2 y3)
    (s4 : MStep r s 73 #[.pointer (some ⟨r, 0, none⟩), .string ⟨#[91]⟩] (.tuple #[]) y3 y4)
    (s5 : MStep r s 124 #[.pointer (some ⟨r, 0, none⟩), .int .i64 L0] (.tuple #[]) y4 y5)
    (s6 : MStep r s 123 #[.pointer (some ⟨r, 0, none⟩), .int .i64 L1, .int .i64 L2] (.tuple #[]) y5 y6)
    (s7 : MStep r s 73 #[.pointer (some ⟨r, 0, none⟩), .string ⟨#[123]⟩] (.tuple #[]) y6 y7)
    (s8 : MStep r s 124 #[.pointer (some ⟨r, 0, none⟩), .int .i64 L1] (.tuple #[]) y7 y8)
    (s9 : MStep r s 45 #[.pointer (some ⟨r, 0, none⟩), .int .i64 L0, .int .i64 L2] (.tuple #[]) y8 y9)
    (t1 : MStep r s 73 #[.pointer (some ⟨r, 0, none⟩), .string ⟨#[125, 93]⟩] (.tuple #[]) y9 z1)
    (t2 : MStep r s 125 #[.pointer (some ⟨r, 0, none⟩), .int .i64 L0] (.tuple #[]) z1 z2)
    (t3 : MStep r s 124 #[.pointer (some ⟨r, 0, none⟩), .int .i64 L2] (.tuple #[]) z2 z3) :
    MStep r s 81 #[.pointer (some ⟨r, 0, none⟩)] (.tuple #[]) m z3 := by
  intro w O h0
  have S1 := hide s1; have S2 := hide s2; have S3 := hide s3; have S4 := hide s4; have S5 := hide s5; have S6 := hide s6; have S7 := hide s7; have S8 := hide s8; have S9 := hide s9
  have T1 := hide t1; have T2 := hide t2; have T3 := hide t3
  clear s1 s2 s3 s4 s5 s6 s7 s8 s9 t1 t2 t3
  go_enter Tryz.func81, Tryz.ntmps81
  go_wp2_with fail
  refine (S1.out _ _ h0).mono ?_
  rintro e w1 ⟨rfl, O1, h1, T⟩
  go_wp2_with fail
  refine (S2.out _ _ h1).mono ?_
  rintro e w2 ⟨rfl, O2, h2, t2⟩
  replace T := T.trans t2; clear t2 h1
  go_wp2_with fail
  refine (S3.out _ _ h2).mono ?_
  rintro e w3 ⟨rfl, O3, h3, t3⟩
  replace T := T.trans t3; clear t3 h2
  go_wp2_with fail
  refine (S4.out _ _ h3).mono ?_
  rintro e w4 ⟨rfl, O4, h4, t4⟩
  replace T := T.trans t4; clear t4 h3
  go_wp2_with fail
  refine (S5.out _ _ h4).mono ?_
  rintro e w5 ⟨rfl, O5, h5, t5⟩
  replace T := T.trans t5; clear t5 h4
  go_wp2_with fail
  refine (S6.out _ _ h5).mono ?_
  rintro e w6 ⟨rfl, O6, h6, t6⟩
  replace T := T.trans t6; clear t6 h5
  go_wp2_with fail
  refine (S7.out _ _ h6).mono ?_
  rintro e w7 ⟨rfl, O7, h7, t7⟩
  replace T := T.trans t7; clear t7 h6
  go_wp2_with fail
  refine (S8.out _ _ h7).mono ?_
  rintro e w8 ⟨rfl, O8, h8, t8⟩
  replace T := T.trans t8; clear t8 h7
  go_wp2_with fail
  refine (S9.out _ _ h8).mono ?_
  rintro e w9 ⟨rfl, O9, h9, t9⟩
  replace T := T.trans t9; clear t9 h8
  go_wp2_with fail
  refine (T1.out _ _ h9).mono ?_
  rintro e v1 ⟨rfl, P1, k1, t1⟩
  replace T := T.trans t1; clear t1 h9
  go_wp2_with fail
  refine (T2.out _ _ k1).mono ?_
  rintro e v2 ⟨rfl, P2, k2, t2⟩
  replace T := T.trans t2; clear t2 k1
  go_wp2_with fail
  refine (T3.out _ _ k2).mono ?_
  rintro e v3 ⟨rfl, P3, k3, t3⟩
  replace T := T.trans t3; clear t3 k2
  go_wp2
  go_end0
  exact ⟨rfl, P3, k3, T⟩

set_option maxHeartbeats 1600000 in
theorem leap_bad {m : MS} (u : ByteArray) : MStep r s 82 #[.pointer (some ⟨r, 0, none⟩), .string u, .int .i64 (-1)] (.tuple #[]) m (putP m (m.p.1, true)) := by
  intro w O h0
  obtain ⟨c0, c1, c2, cf⟩ := h0.c
  go_enter Tryz.func82, Tryz.ntmps82
  go_wp2
  refine bodyPost_ret (results_none rfl _ _ _) rfl ?_
  exact ⟨rfl, O, h0.setBad, (Th.refl O w).set _ (.inl h0.own)⟩

set_option maxHeartbeats 1600000 in
theorem leap_walk {m y1 y2 : MS} {u : ByteArray} {k : Int} (hk : k ≠ -1)
    (s1 : MStep r s 73 #[.pointer (some ⟨r, 0, none⟩), .string u] (.tuple #[]) m y1)
    (s2 : MStep r s 125 #[.pointer (some ⟨r, 0, none⟩), .int .i64 k] (.tuple #[]) y1 y2) :
    MStep r s 82 #[.pointer (some ⟨r, 0, none⟩), .string u, .int .i64 k] (.tuple #[]) m y2 := by
  intro w O h0
  have hk' : ((k : Int) == -1) = false := by simp; omega
  have S1 := hide s1; have S2 := hide s2
  clear s1 s2 hk
  go_enter Tryz.func82, Tryz.ntmps82
  go_wp2_with fail
  refine (S1.out _ _ h0).mono ?_
  rintro e w1 ⟨rfl, O1, h1, T⟩
  go_wp2_with fail
  refine (S2.out _ _ h1).mono ?_
  rintro e w2 ⟨rfl, O2, h2, t2⟩
  replace T := T.trans t2; clear t2 h1
  go_wp2
  go_end0
  exact ⟨rfl, O2, h2, T⟩

set_option maxHeartbeats 1600000 in
theorem cond_not {yes no : Int} {m y1 y2 : MS} (hs : s.size ≤ 1000) (hi : m.p.1 ≤ s.size) (hc : pkb s m.p = 33)
    (s1 : MStep r s 73 #[.pointer (some ⟨r, 0, none⟩), .string ⟨#[33]⟩] (.tuple #[]) m y1)
    (s2 : MStep r s 123 #[.pointer (some ⟨r, 0, none⟩), .int .i64 no, .int .i64 yes] (.tuple #[]) y1 y2) :
    MStep r s 123 #[.pointer (some ⟨r, 0, none⟩), .int .i64 yes, .int .i64 no] (.tuple #[]) m y2 := by
  intro w O h0
  have HP := hide (mpeek_w h0 hs hi)
  rw [hc] at HP
  have S1 := hide s1; have S2 := hide s2
  clear s1 s2 hc
  go_enter Tryz.func123, Tryz.ntmps123
  go_wp2_with fail
  refine HP.out.mono ?_
  rintro e w1 ⟨rfl, nq, rfl⟩
  go_wp2_with fail
  refine (S1.out _ _ (h0.n nq)).mono ?_
  rintro e w1 ⟨rfl, O1, h1, T⟩
  replace T := ((Th.refl O w).n nq).trans T
  go_wp2_with fail
  refine (S2.out _ _ h1).mono ?_
  rintro e w2 ⟨rfl, O2, h2, t2⟩
  replace T := T.trans t2; clear t2 h1
  go_wp2
  go_end0
  exact ⟨rfl, O2, h2, T⟩

set_option maxHeartbeats 1600000 in
theorem cond_and {yes no L : Int} {m y1 y2 y3 y4 y5 : MS} (hs : s.size ≤ 1000) (hi : m.p.1 ≤ s.size) (hc : pkb s m.p = 38)
    (s1 : MStep r s 73 #[.pointer (some ⟨r, 0, none⟩), .string ⟨#[38]⟩] (.tuple #[]) m y1)
    (s2 : MStep r s 122 #[.pointer (some ⟨r, 0, none⟩)] (.int .i64 L) y1 y2)
    (s3 : MStep r s 123 #[.pointer (some ⟨r, 0, none⟩), .int .i64 L, .int .i64 no] (.tuple #[]) y2 y3)
    (s4 : MStep r s 124 #[.pointer (some ⟨r, 0, none⟩), .int .i64 L] (.tuple #[]) y3 y4)
    (s5 : MStep r s 123 #[.pointer (some ⟨r, 0, none⟩), .int .i64 yes, .int .i64 no] (.tuple #[]) y4 y5) :
    MStep r s 123 #[.pointer (some ⟨r, 0, none⟩), .int .i64 yes, .int .i64 no] (.tuple #[]) m y5 := by
  intro w O h0
  have HP := hide (mpeek_w h0 hs hi)
  rw [hc] at HP
  have S1 := hide s1; have S2 := hide s2; have S3 := hide s3; have S4 := hide s4; have S5 := hide s5
  clear s1 s2 s3 s4 s5 hc
  go_enter Tryz.func123, Tryz.ntmps123
  go_wp2_with fail
  refine HP.out.mono ?_
  rintro e w1 ⟨rfl, nq, rfl⟩
  go_wp2_with fail
  refine (S1.out _ _ (h0.n nq)).mono ?_
  rintro e w1 ⟨rfl, O1, h1, T⟩
  replace T := ((Th.refl O w).n nq).trans T
  go_wp2_with fail
  refine (S2.out _ _ h1).mono ?_
  rintro e w2 ⟨rfl, O2, h2, t2⟩
  replace T := T.trans t2; clear t2 h1
  go_wp2_with fail
  refine (S3.out _ _ h2).mono ?_
  rintro e w3 ⟨rfl, O3, h3, t3⟩
  replace T := T.trans t3; clear t3 h2
  go_wp2_with fail
  refine (S4.out _ _ h3).mono ?_
  rintro e w4 ⟨rfl, O4, h4, t4⟩
  replace T := T.trans t4; clear t4 h3
  go_wp2_with fail
  refine (S5.out _ _ h4).mono ?_
  rintro e w5 ⟨rfl, O5, h5, t5⟩
  replace T := T.trans t5; clear t5 h4
  go_wp2
  go_end0
  exact ⟨rfl, O5, h5, T⟩

set_option maxHeartbeats 1600000 in
theorem cond_or {yes no L : Int} {m y1 y2 y3 y4 y5 : MS} (hs : s.size ≤ 1000) (hi : m.p.1 ≤ s.size) (hc : pkb s m.p = 124)
    (s1 : MStep r s 73 #[.pointer (some ⟨r, 0, none⟩), .string ⟨#[124]⟩] (.tuple #[]) m y1)
    (s2 : MStep r s 122 #[.pointer (some ⟨r, 0, none⟩)] (.int .i64 L) y1 y2)
    (s3 : MStep r s 123 #[.pointer (some ⟨r, 0, none⟩), .int .i64 yes, .int .i64 L] (.tuple #[]) y2 y3)
    (s4 : MStep r s 124 #[.pointer (some ⟨r, 0, none⟩), .int .i64 L] (.tuple #[]) y3 y4)
    (s5 : MStep r s 123 #[.pointer (some ⟨r, 0, none⟩), .int .i64 yes, .int .i64 no] (.tuple #[]) y4 y5) :
    MStep r s 123 #[.pointer (some ⟨r, 0, none⟩), .int .i64 yes, .int .i64 no] (.tuple #[]) m y5 := by
  intro w O h0
  have HP := hide (mpeek_w h0 hs hi)
  rw [hc] at HP
  have S1 := hide s1; have S2 := hide s2; have S3 := hide s3; have S4 := hide s4; have S5 := hide s5
  clear s1 s2 s3 s4 s5 hc
  go_enter Tryz.func123, Tryz.ntmps123
  go_wp2_with fail
  refine HP.out.mono ?_
  rintro e w1 ⟨rfl, nq, rfl⟩
  go_wp2_with fail
  refine (S1.out _ _ (h0.n nq)).mono ?_
  rintro e w1 ⟨rfl, O1, h1, T⟩
  replace T := ((Th.refl O w).n nq).trans T
  go_wp2_with fail
  refine (S2.out _ _ h1).mono ?_
  rintro e w2 ⟨rfl, O2, h2, t2⟩
  replace T := T.trans t2; clear t2 h1
  go_wp2_with fail
  refine (S3.out _ _ h2).mono ?_
  rintro e w3 ⟨rfl, O3, h3, t3⟩
  replace T := T.trans t3; clear t3 h2
  go_wp2_with fail
  refine (S4.out _ _ h3).mono ?_
  rintro e w4 ⟨rfl, O4, h4, t4⟩
  replace T := T.trans t4; clear t4 h3
  go_wp2_with fail
  refine (S5.out _ _ h4).mono ?_
  rintro e w5 ⟨rfl, O5, h5, t5⟩
  replace T := T.trans t5; clear t5 h4
  go_wp2
  go_end0
  exact ⟨rfl, O5, h5, T⟩
end
end Go.Proofs.YtellieabhaphhabGreatDoor
