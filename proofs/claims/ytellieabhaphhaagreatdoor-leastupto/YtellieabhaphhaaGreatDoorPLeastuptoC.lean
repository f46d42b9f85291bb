import Derived.Test.YtellieabhaphhaaGreatDoorPLeastuptoB
/-
  narrowref's reader: what it lays: nodes and pieces.
-/
namespace Go.Proofs.YtellieabhaphhaaGreatDoor
open Go.RowKit

structure It where
  k : Int
  n : Int
  els : Int
  en : Int

def It.cells (x : It) : List Value := [.int .u8 x.k, .int .i64 x.n, .int .i64 x.els, .int .i64 x.en]

structure RS where
  i : Nat
  bad : Bool
  nodes : List Nd
  items : List It
  loops : Nat

def nCells (l : List Nd) : List Value := l.flatMap Nd.cells
def iCells (l : List It) : List Value := l.flatMap It.cells

def Own (r : Nat) (nv iv : Value) (b : Nat) : Prop := b = r ∨ nv.ownBlock = some b ∨ iv.ownBlock = some b

/-- The reader at work: its block and its two rows; O: the blocks that are its own. -/
def Rp (w : World) (r : Nat) (s : ByteArray) (st : RS) (O : Nat → Prop) : Prop :=
  ∃ nv iv, RB w r s (st.i, st.bad) nv iv st.loops ∧ Row w nv 63 9 st.nodes.length (nCells st.nodes) ∧ Row w iv 165 4 st.items.length (iCells st.items) ∧
    nv.ownBlock ≠ some r ∧ iv.ownBlock ≠ some r ∧ (∀ b, nv.ownBlock = some b → iv.ownBlock ≠ some b) ∧ O = Own r nv iv

/-- What a call of the reader's leaves. -/
def Went (w : World) (O : Nat → Prop) (r : Nat) (s : ByteArray) (st' : RS) (w' : World) : Prop :=
  ∃ O', Rp w' r s st' O' ∧ Kp O w w' ∧ ∀ b, O' b → b < w.heap.size → O b

theorem info_node : (Tryz.prog.info? 63).map (fun i => (i.zero, i.size, i.bytes)) = some (some (.agg #[.int .u8 0, .int .i64 0, .int .i64 0, .int .i64 0, .int .u8 0, .int .i64 0, .int .i64 0, .int .i64 0, .int .i64 0]), 9, 72) := by kernel_rfl
theorem grown_blk {w w' : World} {row : Option Nat} {b : Nat} {cs : List Value} {T : TypeId} (hg : w.grownBy w' row) (h : Blk w b cs T) (hne : row ≠ some b) : Blk w' b cs T := by
  unfold Blk; rw [hg.block b h.lt (fun e => hne e.symm)]; exact h

theorem Blk.news {w : World} {b : Nat} {cs : List Value} {T : TypeId} (h : Blk w b cs T) : ∀ j u, cs[j]? = some u → w.cell? ((⟨b, 0, none⟩ : Addr).add j) = some u := by
  have := World.news_of_block (w := w) h
  simpa using this

theorem Row.set {w : World} {v : Value} {e : TypeId} {size n : Nat} {xs : List Value} (h : Row w v e size n xs) {r o : Nat} (u : Value) (hne : v.ownBlock ≠ some r) : Row (w.setCell ⟨r, o, none⟩ u) v e size n xs :=
  ((Kp.refl (· = r) w).setCell u (fun _ => rfl)).row h (fun b hb e => hne (by rw [hb, e]))

theorem no_elim {b : Nat} : ¬ no b := fun e => e

theorem Row.lt {w : World} {v : Value} {e : TypeId} {size n : Nat} {xs : List Value} (h : Row w v e size n xs) {b : Nat} (hb : v.ownBlock = some b) : b < w.heap.size := (World.ownsRow.lt h b hb).2

theorem went_nodes {w W w' : World} {r : Nat} {s : ByteArray} {st : RS} {nv iv : Value} {n : Nd} {g cap H : Nat}
    (hB : RB w r s (st.i, st.bad) nv iv st.loops) (hI : Row w iv 165 4 st.items.length (iCells st.items))
    (d1 : nv.ownBlock ≠ some r) (d2 : iv.ownBlock ≠ some r) (d3 : ∀ b, nv.ownBlock = some b → iv.ownBlock ≠ some b) (hk : Kp no w W)
    (hown : w'.ownsRow 0 63 9 (.slice (some ⟨g, 0, none⟩) (st.nodes.length + 1) cap) (st.nodes.length + 1) (nCells st.nodes ++ n.cells))
    (hgrow : W.grownBy w' nv.ownBlock) (hat : nv.ownBlock = some g ∨ g = H) (hH : w.heap.size ≤ H) :
    Went w (Own r nv iv) r s { st with nodes := st.nodes ++ [n] } (w'.setCell ⟨r, 3, none⟩ (.slice (some ⟨g, 0, none⟩) (st.nodes.length + 1) cap)) := by
  have hr := hB.lt
  have hg : g ≠ r := by
    rcases hat with h | h
    · exact fun e => d1 (by rw [h, e])
    · omega
  have hIW : Row W iv 165 4 st.items.length (iCells st.items) := hk.row hI (fun _ _ => no_elim)
  refine ⟨Own r (.slice (some ⟨g, 0, none⟩) (st.nodes.length + 1) cap) iv, ⟨_, iv, ?_, ?_, ?_, ?_, d2, ?_, rfl⟩, ?_, ?_⟩
  · exact Blk.set (grown_blk hgrow (hk.blk hB no_elim) d1) 3 _
  · have e1 : nCells (st.nodes ++ [n]) = nCells st.nodes ++ n.cells := by simp [nCells]
    have e2 : (st.nodes ++ [n]).length = st.nodes.length + 1 := by simp
    show Row _ _ _ _ (st.nodes ++ [n]).length (nCells (st.nodes ++ [n]))
    rw [e1, e2]
    exact Row.set hown _ (by simpa [Value.ownBlock] using hg)
  · refine Row.set (World.ownsRow.kept hIW hgrow ?_) _ d2
    cases hv : iv.ownBlock with
    | none => exact .inl rfl
    | some b => exact .inr (fun e => d3 b e.symm hv)
  · simpa [Value.ownBlock] using hg
  · intro b hb hv
    have hb' : g = b := by simpa [Value.ownBlock] using hb
    subst hb'
    rcases hat with h | h
    · exact d3 _ h hv
    · have := Row.lt hI hv; omega
  · exact ((hk.mono (fun _ e => e.elim)).grown hgrow (fun k _ e => .inr (.inl e))).setCell _ (fun _ => .inl rfl)
  · rintro b (h | h | h) hlt
    · exact .inl h
    · have hb' : g = b := by simpa [Value.ownBlock] using h
      subst hb'
      rcases hat with h | h
      · exact .inr (.inl h)
      · omega
    · exact .inr (.inr h)

set_option maxHeartbeats 1600000 in
theorem add_c (r : Nat) (s : ByteArray) (st : RS) (O : Nat → Prop) (n : Nd) (w : World) (hn : st.nodes.length ≤ 1000) (h : Rp w r s st O) :
    Calls Tryz.prog 70 #[.pointer (some ⟨r, 0, none⟩), .agg #[.int .u8 n.op, .int .i64 n.x, .int .i64 n.y, .int .i64 n.v, .int .u8 n.k, .int .i64 n.t, .int .i64 n.f, .int .i64 n.a, .int .i64 n.l]] w fun e w' =>
      e = .returned (.int .i64 st.nodes.length) ∧ Went w O r s { st with nodes := st.nodes ++ [n] } w' := by
  obtain ⟨nv, iv, hB, hN, hI, d1, d2, d3, rfl⟩ := h
  obtain ⟨i0, hi, hz0, hz1, hz2⟩ := info_parts info_node
  have hr := hB.lt
  have hb : Blk w r [.string s, .int .i64 st.i, .bool st.bad, nv, iv, .int .i64 st.loops] 45 := hB
  go_enter Tryz.func70, Tryz.ntmps70
  go_wp2
  refine wp_gen (fun W => Blk W r [.string s, .int .i64 st.i, .bool st.bad, nv, iv, .int .i64 st.loops] 45 ∧ Blk W w.heap.size n.cells 63 ∧ Row W nv 63 9 st.nodes.length (nCells st.nodes) ∧ Kp no w W ∧ W.heap.size = w.heap.size + 1) ⟨by (repeat' (first | ((with_reducible show (_ : List Value) = _); rfl) | with_reducible exact hb | ((with_reducible refine Blk.newAt _ _ _ ?_); first | with_reducible rfl | (simp; done)) | with_reducible refine Blk.alloc ?_ _ | with_reducible refine Blk.drewN ?_ _ | with_reducible refine Blk.drew ?_ | ((with_reducible refine Blk.other ?_ _ ?_); rotate_left; ((try dsimp only); omega)) | with_reducible refine Blk.setB (cs0 := ?_) ?_ ?_)), Blk.new w n.cells _, hN.alloc _, by (repeat' (first | with_reducible exact Kp.refl _ _ | with_reducible refine Kp.alloc ?_ _ | with_reducible refine Kp.drewN ?_ _ | with_reducible refine Kp.drew ?_ | with_reducible refine Kp.setCell ?_ _ ?_ | (intro hh; first | rfl | exact .inl rfl | exact .inr rfl | (exfalso; (try dsimp only at hh); omega)))), by simp⟩ ?_
  rintro W ⟨hbW, hL, hNW, hkW, hsz⟩
  obtain ⟨x0, x1, x2, x3, x4, x5, x6, x7, x8, xf⟩ := hL.c9
  have q3 := hbW.cell 3
  simp only [List.getElem?_cons_zero, List.getElem?_cons_succ] at q3
  have qf := hbW.frozen
  have hone : ∀ u ∈ n.cells, u.oneCell' = true := by simp [Nd.cells, Value.oneCell']
  go_region_law (refine step_append_lies _ rfl (.tmp 9) (.tmp 11) 42 rfl 0 63 i0 _ 9 72 Tryz.underlying42 hi hz0 hz1 hz2 rfl (by decide) nv st.nodes.length (nCells st.nodes) (by simp [Act.eval]) (by exact World.ownsRow.alloc (w := W.drew) hNW _) ⟨W.heap.size, 0, none⟩ 1 1 n.cells (by simp [Act.eval]) rfl (by exact Blk.news (Blk.new W.drew n.cells _)) hone (by decide) (by unfold maxLen; omega) (by omega) (Nat.zero_le _) _ rfl ?_; intro g cap w' hown hgrow hat hlt; have hb' := grown_blk hgrow (Blk.alloc (Blk.drew hbW) _) d1; have q3' := hb'.cell 3; have qf' := hb'.frozen; simp only [List.getElem?_cons_zero, List.getElem?_cons_succ] at q3')
  all_goals
    go_wp2
    go_ret
    exact ⟨rfl, went_nodes hB hI d1 d2 d3 (W := W.drew.alloc _) (hkW.drew.alloc _) hown hgrow hat (by simp; omega)⟩

end Go.Proofs.YtellieabhaphhaaGreatDoor

/-
  The laws: an error's number.
-/
namespace Go.Proofs.YtellieabhaphhaaGreatDoor
open Go.RowKit

theorem lnum_c (c : Int) (w : World) :
    Calls Tryz.prog 18 #[.int .i64 c] w fun e w' => e = .returned (.int .i64 c) ∧ w' = w := by
  go_enter Tryz.func18, Tryz.ntmps18
  go_wp2
  go_ret
  exact ⟨rfl, rfl⟩
end Go.Proofs.YtellieabhaphhaaGreatDoor

/-
  The laws: a script.
-/
namespace Go.Proofs.YtellieabhaphhaaGreatDoor
open Go.RowKit

structure OpV where
  k : Int
  b : Int
  c : Int
  s : ByteArray
  t : ByteArray
  u : ByteArray

def OpV.cells (o : OpV) : List Value := [.int .i64 o.k, .int .i64 o.b, .int .i64 o.c, .string o.s, .string o.t, .string o.u]

/-- The script, as it lies in memory. -/
def Scr (w : World) (a : Addr) (n : Nat) (O : Nat → OpV) : Prop := ∀ i, i < n → ∀ j, j < 6 → w.cell? (a.add (i * 6 + j)) = (O i).cells[j]?

theorem run_loadVar_gen {P : Program} (w : World) (a : Addr) (ty : TypeId) (cs : List Value) (d : TypeDesc) (hc : ∀ j v, cs[j]? = some v → w.cell? (a.add j) = some v)
    (hu : P.underlying ty = some d) (hd : d.isRow = true) (hi : (P.info? ty).map (·.size) = some cs.length) :
    (loadVar ty a).run P w = .ok (.agg cs.toArray) w := by
  have hl : (loadCells a cs.length).run P w = .ok cs.toArray w := run_loadCells_list (P := P) w a cs hc
  cases hq : P.info? ty with
  | none => simp [hq] at hi
  | some i =>
    have hs : i.size = cs.length := by simpa [hq] using hi
    have hagg : (isAgg ty).run P w = .ok true w := by
      unfold isAgg
      rw [Sem.run_bind, run_underlying hu w]
      cases d <;> simp_all
    simp [loadVar, Sem.run_bind, hagg, sizeOf, typeInfo, hq, hs, hl]

theorem wp_load_gen {P : Program} {op : Oper} {a : Act} {w : World} {K : Act → World → Prop} {Q : Exit → Act → World → Prop} (ty : TypeId) (x : Operand) (ho : op.op = .load ty x)
    (b : Addr) (hx : a.eval x = .pointer (some b)) (cs : List Value) (d : TypeDesc) (hc : ∀ j v, cs[j]? = some v → w.cell? (b.add j) = some v)
    (hu : P.underlying ty = some d) (hd : d.isRow = true) (hi : (P.info? ty).map (·.size) = some cs.length)
    (h : K (a.put op.dst (.agg cs.toArray)) w) : op.wp P a w K Q := by
  unfold Oper.wp execOp
  simp only [ho, hx, Instr.loadAt, Instr.sureAddr, Sem.run_bind, Sem.run_pure, Result.andThen_ok, run_loadVar_gen w b ty cs d hc hu hd hi]
  exact h

theorem wpList_load_gen {P : Program} {ops : Array Oper} {rest : List Oper} {op : Oper} {a : Act} {w : World} {Q : Exit → Act → World → Prop} (hgd : op.guard = none) (ty : TypeId) (x : Operand) (ho : op.op = .load ty x)
    (b : Addr) (hx : a.eval x = .pointer (some b)) (cs : List Value) (d : TypeDesc) (hc : ∀ j v, cs[j]? = some v → w.cell? (b.add j) = some v)
    (hu : P.underlying ty = some d) (hd : d.isRow = true) (hi : (P.info? ty).map (·.size) = some cs.length)
    (h : wpList P ops Q rest (a.put op.dst (.agg cs.toArray)) w) : wpList P ops Q (op :: rest) a w :=
  wpList_plain hgd fun _ hK => wp_load_gen ty x ho b hx cs d hc hu hd hi (hK _ _ h)

theorem add_block (a : Addr) (k : Nat) : (a.add k).block = a.block := by unfold Addr.add; split <;> rfl

theorem Scr.kp {w w' : World} {a : Addr} {n : Nat} {O : Nat → OpV} (h : Scr w a n O) (k : Kp no w w') (hab : a.block < w.heap.size) : Scr w' a n O := fun i hi j hj => by
  rw [← h i hi j hj]
  exact World.cell?_of_block (by rw [add_block]; exact k.block a.block hab no_elim)

end Go.Proofs.YtellieabhaphhaaGreatDoor

/-
  The laws: a script, as data.
-/
namespace Go.Proofs.YtellieabhaphhaaGreatDoor
open Go.ChangeShapes Go.WideShapes Go.ChangeAt Go.RowKit Go.Deep

theorem opCells : Tryz.prog.cellsOf 26 = 6 := by kernel_rfl
theorem intCells : Tryz.prog.cellsOf 3 = 1 := by kernel_rfl
theorem strCells : Tryz.prog.cellsOf 9 = 1 := by kernel_rfl

structure OpOk (o : OpV) : Prop where
  k : (Lit.int .i64 o.k).wf = true
  b : (Lit.int .i64 o.b).wf = true
  c : (Lit.int .i64 o.c).wf = true
  s : o.s.size ≤ maxLen
  t : o.t.size ≤ maxLen
  u : o.u.size ≤ maxLen

def opD {H : Type} (o : OpV) : DataW H := .agg [.lit (.int .i64 o.k), .lit (.int .i64 o.b), .lit (.int .i64 o.c), .lit (.string o.s.data.toList), .lit (.string o.t.data.toList), .lit (.string o.u.data.toList)]

set_option maxRecDepth 100000 in
theorem op_open {H : Type} {enc : TypeId × Value → H} {w : World} {base : Nat} {sp : Nat → Bool} {held : Bool} {n : Nat} {cs : List Value} {x : DataW H × List MemPlace}
    (h : DataW.trod enc Tryz.prog w base sp held n 26 cs = some x) : ∃ o : OpV, cs = o.cells ∧ x = (opD o, []) ∧ OpOk o := by
  obtain ⟨xs, m, _, rfl, hl, hxl, hf⟩ := DataW.trod_struct Tryz.underlying26 h
  rw [opCells] at hl
  match cs, hl with
  | [c0, c1, c2, c3, c4, c5], _ =>
    match xs, hxl with
    | [x0, x1, x2, x3, x4, x5], _ =>
      have h0 : DataW.trod enc Tryz.prog w base sp held m 3 (List.take (Tryz.prog.cellsOf 3) [c0, c1, c2, c3, c4, c5]) = some x0 := hf 0 _ rfl
      have h1 : DataW.trod enc Tryz.prog w base sp held m 3 (List.take (Tryz.prog.cellsOf 3) [c1, c2, c3, c4, c5]) = some x1 := hf 1 _ rfl
      have h2 : DataW.trod enc Tryz.prog w base sp held m 3 (List.take (Tryz.prog.cellsOf 3) [c2, c3, c4, c5]) = some x2 := hf 2 _ rfl
      have h3 : DataW.trod enc Tryz.prog w base sp held m 9 (List.take (Tryz.prog.cellsOf 9) [c3, c4, c5]) = some x3 := hf 3 _ rfl
      have h4 : DataW.trod enc Tryz.prog w base sp held m 9 (List.take (Tryz.prog.cellsOf 9) [c4, c5]) = some x4 := hf 4 _ rfl
      have h5 : DataW.trod enc Tryz.prog w base sp held m 9 (List.take (Tryz.prog.cellsOf 9) [c5]) = some x5 := hf 5 _ rfl
      rw [intCells] at h0 h1 h2
      rw [strCells] at h3 h4 h5
      obtain ⟨k, e0, rfl, w0⟩ := DataW.trod_int Tryz.underlying3 (show DataW.trod enc _ w base sp held m _ [c0] = some x0 from h0)
      obtain ⟨b, e1, rfl, w1⟩ := DataW.trod_int Tryz.underlying3 (show DataW.trod enc _ w base sp held m _ [c1] = some x1 from h1)
      obtain ⟨c, e2, rfl, w2⟩ := DataW.trod_int Tryz.underlying3 (show DataW.trod enc _ w base sp held m _ [c2] = some x2 from h2)
      obtain ⟨s, e3, rfl, w3⟩ := DataW.trod_string Tryz.underlying9 (show DataW.trod enc _ w base sp held m _ [c3] = some x3 from h3)
      obtain ⟨t, e4, rfl, w4⟩ := DataW.trod_string Tryz.underlying9 (show DataW.trod enc _ w base sp held m _ [c4] = some x4 from h4)
      obtain ⟨u, e5, rfl, w5⟩ := DataW.trod_string Tryz.underlying9 (show DataW.trod enc _ w base sp held m _ [c5] = some x5 from h5)
      simp only [List.cons.injEq, and_true] at e0 e1 e2 e3 e4 e5
      subst e0 e1 e2 e3 e4 e5
      exact ⟨⟨k, b, c, s, t, u⟩, rfl, rfl, ⟨w0, w1, w2, w3, w4, w5⟩⟩

set_option maxRecDepth 100000 in
theorem op_shut {H : Type} {enc : TypeId × Value → H} {w : World} {base : Nat} {sp : Nat → Bool} {held : Bool} (o : OpV) (h : OpOk o) :
    DataW.trod enc Tryz.prog w base sp held 2 26 o.cells = some (opD o, []) := by
  obtain ⟨k, b, c, s, t, u⟩ := o
  obtain ⟨h0, h1, h2, h3, h4, h5⟩ := h
  dsimp only at *
  have e0 : DataW.trod enc Tryz.prog w base sp held 1 3 [.int .i64 k] = some (.lit (.int .i64 k), []) := trod_int_mk 0 Tryz.underlying3 h0
  have e1 : DataW.trod enc Tryz.prog w base sp held 1 3 [.int .i64 b] = some (.lit (.int .i64 b), []) := trod_int_mk 0 Tryz.underlying3 h1
  have e2 : DataW.trod enc Tryz.prog w base sp held 1 3 [.int .i64 c] = some (.lit (.int .i64 c), []) := trod_int_mk 0 Tryz.underlying3 h2
  have e3 : DataW.trod enc Tryz.prog w base sp held 1 9 [.string s] = some (.lit (.string s.data.toList), []) := by simp [DataW.trod, Tryz.underlying9, h3]
  have e4 : DataW.trod enc Tryz.prog w base sp held 1 9 [.string t] = some (.lit (.string t.data.toList), []) := by simp [DataW.trod, Tryz.underlying9, h4]
  have e5 : DataW.trod enc Tryz.prog w base sp held 1 9 [.string u] = some (.lit (.string u.data.toList), []) := by simp [DataW.trod, Tryz.underlying9, h5]
  refine trod_struct_mk (xs := [(.lit (.int .i64 k), []), (.lit (.int .i64 b), []), (.lit (.int .i64 c), []), (.lit (.string s.data.toList), []), (.lit (.string t.data.toList), []), (.lit (.string u.data.toList), [])]) Tryz.underlying26 (by rw [opCells]; rfl) ?_
  simp only [OpV.cells, List.mapM_cons, List.mapM_nil, intCells, strCells, List.drop_zero, List.drop_succ_cons, List.take_succ_cons, List.take_zero, e0, e1, e2, e3, e4, e5, Option.pure_def, Option.bind_eq_bind, Option.bind_some]

end Go.Proofs.YtellieabhaphhaaGreatDoor

/-
  The laws: a script opened and shut.
-/
namespace Go.Proofs.YtellieabhaphhaaGreatDoor
open Go.ChangeShapes Go.WideShapes Go.ChangeAt Go.RowKit Go.Deep

theorem own : ownKnob Tryz.prog.godebug = none := by kernel_rfl
theorem gT : (Tryz.prog.globals[0]?).map (·.type) = some 211 := by kernel_rfl
theorem c20 : Tryz.prog.cellsOf 211 = 20 := by kernel_rfl
theorem c64 : Tryz.prog.cellsOf 205 = 1 := by kernel_rfl

/-- What the walk leaves of old memory. -/
theorem Kp.keptBut {W W' : World} (k : Kp no W W') (S : MemPlace → Prop) : W.keptBut W' S := by
  refine ⟨k.os, k.output, fun i hi => ?_⟩
  rw [k.block i hi no_elim]
  cases W.heap[i]? with
  | none => rfl
  | some o =>
    cases o with
    | cells c t fr => exact ⟨rfl, rfl, rfl, fun _ _ => rfl⟩
    | map es clock => exact .inr ⟨rfl, rfl⟩
    | _ => rfl

theorem cell_lt {W : World} {a : Addr} {v : Value} (h : W.cell? a = some v) : a.block < W.heap.size := by
  rcases Nat.lt_or_ge a.block W.heap.size with h1 | h1
  · exact h1
  · have : W.heap[a.block]? = none := by simp [h1]
    simp [World.cell?, this] at h

theorem cells_kp {W W' : World} (k : Kp no W W') {a : Addr} (ha : a.block < W.heap.size) (n : Nat) : W'.cells? 0 a n = W.cells? 0 a n := by
  have : ∀ i, W'.cell? (a.add i) = W.cell? (a.add i) := fun i => World.cell?_of_block (by rw [add_block]; exact k.block a.block ha no_elim)
  unfold World.cells?
  simp only [this]

end Go.Proofs.YtellieabhaphhaaGreatDoor

/-
  The laws: a script opened, where its bulk is bounded.
-/
namespace Go.Proofs.YtellieabhaphhaaGreatDoor
open Go.ChangeShapes Go.WideShapes Go.ChangeAt Go.RowKit Go.Deep

theorem bulk_part {H : Type} {x : DataW H} {l : List (DataW H)} (h : x ∈ l) : Rows.uptoBulk x ≤ Rows.uptoBulkAll l := by
  induction l with
  | nil => cases h
  | cons y r ih =>
    simp only [Rows.uptoBulkAll]
    rcases List.mem_cons.1 h with e | e
    · subst e; omega
    · have := ih e; omega
theorem bulk_slice {H : Type} (elems spare : List (DataW H)) : Rows.uptoBulkAll elems ≤ Rows.uptoBulk (.slice elems spare) := by
  simp only [Rows.uptoBulk]; omega
theorem bulk_op {H : Type} (o : OpV) : o.u.size ≤ Rows.uptoBulk (opD (H := H) o) := by
  have e : o.u.data.toList.length = o.u.size := rfl
  simp only [opD, Rows.uptoBulk, Rows.uptoBulkAll]
  omega

set_option maxRecDepth 100000 in
/-- The script, opened: its steps; shut again in what the walk leaves. -/
theorem script_open_u {H : Type} {enc : TypeId × Value → H} {W : World} {ao : Option Addr} {len cap : Nat} {d : DataW H} {p : List MemPlace}
    (h : DataW.Trod enc Tryz.prog W 0 (fun _ => true) true 22 (.slice ao len cap) d p) :
    (len = 0 ∨ ∃ (a : Addr) (O : Nat → OpV), ao = some a ∧ len ≤ maxLen ∧ a.block < W.heap.size ∧ Scr W a len O ∧ (∀ i, i < len → OpOk (O i)) ∧ (Rows.uptoBulk d ≤ 1048576 → ∀ i, i < len → (O i).u.size ≤ 2000000)) ∧
    ∀ W', Kp no W W' → ∀ sp : Nat → Bool, (∀ q ∈ p, sp q.block = true) → DataW.Trod enc Tryz.prog W' 0 sp true 22 (.slice ao len cap) d p := by
  obtain ⟨fuel, hf⟩ := h
  rcases open_slice Tryz.underlying22 hf with ⟨h1, h2⟩ | ⟨a, len', cap', m, n, D, Pl, h1, hb, hl, hm, hmm, h2, hx⟩
  · have h1' : [Value.slice ao len cap] = [.slice none 0 0] := h1
    simp only [List.cons.injEq, Value.slice.injEq, and_true] at h1'
    obtain ⟨rfl, rfl, rfl⟩ := h1'
    simp only [Prod.mk.injEq] at h2
    obtain ⟨rfl, rfl⟩ := h2
    refine ⟨.inl rfl, fun W' _ sp _ => ⟨1, ?_⟩⟩
    simp [DataW.trod, Tryz.underlying22, Value.cells]
  · have h1' : [Value.slice ao len cap] = [.slice (some a) len' cap'] := h1
    simp only [List.cons.injEq, Value.slice.injEq, and_true] at h1'
    obtain ⟨rfl, rfl, rfl⟩ := h1'
    simp only [if_true] at hmm
    subst hmm
    simp only [Prod.mk.injEq] at h2
    obtain ⟨rfl, rfl⟩ := h2
    rw [opCells] at hx
    have : Inhabited OpV := ⟨⟨0, 0, 0, (⟨#[]⟩ : ByteArray), (⟨#[]⟩ : ByteArray), (⟨#[]⟩ : ByteArray)⟩⟩
    obtain ⟨O, hO⟩ := choose_lt (α := OpV) (p := fun i o => W.cells? 0 (a.add (i * 6)) 6 = some o.cells ∧ D i = opD o ∧ Pl i = [] ∧ OpOk o) (fun i hi => by
      obtain ⟨cs', e1, e2⟩ := hx i hi
      obtain ⟨o, rfl, e3, e4⟩ := op_open e2
      simp only [Prod.mk.injEq] at e3
      exact ⟨o, e1, e3.1, e3.2, e4⟩)
    have hcell : ∀ i, i < m → ∀ j, j < 6 → W.cell? (a.add (i * 6 + j)) = (O i).cells[j]? := fun i hi j hj => by
      have := (World.cells?_some (hO i hi).1).2.2 j hj
      rw [Deep.add_add] at this
      exact this
    have hblk : 0 < m → a.block < W.heap.size := fun h0 => by
      have := hcell 0 h0 0 (by decide)
      have h2 := cell_lt (show W.cell? (a.add (0 * 6 + 0)) = some (.int .i64 (O 0).k) from this)
      rwa [add_block] at h2
    refine ⟨?_, fun W' k sp hsp => ?_⟩
    · rcases Nat.eq_zero_or_pos len with h0 | h0
      · exact .inl h0
      · exact .inr ⟨a, O, rfl, by omega, hblk (by omega), fun i hi j hj => hcell i (by omega) j hj, fun i hi => (hO i (by omega)).2.2.2, fun hB i hi => by
          have h1 := bulk_part (H := H) (show D i ∈ (List.range len).map D from List.mem_map.2 ⟨i, List.mem_range.2 hi, rfl⟩)
          have h2 := bulk_slice (H := H) ((List.range len).map D) ((List.range (m - len)).map fun j => D (len + j))
          have h3 := bulk_op (H := H) (O i)
          rw [(hO i (by omega)).2.1] at h1
          omega⟩
    · rcases Nat.eq_zero_or_pos m with h0 | h0
      · subst h0
        obtain rfl : len = 0 := by omega
        cases hs : sp a.block with
        | true => exact shut_slice_whole Tryz.underlying22 hb (Nat.le_refl _) hm hs D Pl (fun i hi => by omega)
        | false => exact shut_slice Tryz.underlying22 hb (Nat.le_refl _) hm hs D Pl (fun i hi => by omega)
      · have hs : sp a.block = true := hsp (.cell a.block (a.off + 0)) (List.mem_append_left _ (List.mem_map.2 ⟨0, by rw [opCells]; simp; omega, rfl⟩))
        exact shut_slice_whole Tryz.underlying22 hb hl hm hs D Pl (fun i hi => by
          obtain ⟨e1, e2, e3, e4⟩ := hO i hi
          refine ⟨(O i).cells, 2, ?_, ?_⟩
          · rw [opCells, cells_kp k (by rw [add_block]; exact hblk h0)]
            exact e1
          · rw [e2, e3]; exact op_shut (O i) e4)

end Go.Proofs.YtellieabhaphhaaGreatDoor

/-
  Plain: sets of kinds, states, and what comes along a way.
-/
namespace Go.Proofs.YtellieabhaphhaaGreatDoor
open Go.RowKit

abbrev KS : List UInt8 := [110, 116, 102, 122, 65, 66, 67]
abbrev KB : ByteArray := ⟨#[110, 116, 102, 122, 65, 66, 67]⟩

/-- The place of a kind's sign. -/
def kix (c : Nat) : Nat := if c = 110 then 0 else if c = 116 then 1 else if c = 102 then 2 else if c = 122 then 3 else if c = 65 then 4 else if c = 66 then 5 else if c = 67 then 6 else 7

def selB (p : Nat → Bool) : ByteArray := ⟨(KS.filter (fun u => p u.toNat)).toArray⟩

theorem selB_congr {p q : Nat → Bool} (h : ∀ u ∈ KS, p u.toNat = q u.toNat) : selB p = selB q := by
  unfold selB; rw [List.filter_congr h]

/-- A set's signs. -/
def sgB (m : Nat) : ByteArray := selB (fun c => m.testBit (kix c))

theorem am_sel (p : Nat → Bool) (u : UInt8) (h : u ∈ KS) : amF u.toNat (selB p).data.toList = p u.toNat := by
  show ((KS.filter (fun u => p u.toNat)).any (fun v => v.toNat == u.toNat)) = p u.toNat
  rw [List.any_filter]
  simp only [KS, List.mem_cons, List.not_mem_nil, or_false] at h
  rcases h with rfl | rfl | rfl | rfl | rfl | rfl | rfl <;> simp [KS]

theorem am_sg (m : Nat) (u : UInt8) (h : u ∈ KS) : amF u.toNat (sgB m).data.toList = m.testBit (kix u.toNat) := am_sel _ u h

theorem sel_size (p : Nat → Bool) : (selB p).size ≤ 7 := by
  show (KS.filter _).toArray.size ≤ 7
  rw [List.size_toArray]
  exact List.length_filter_le _ KS

theorem sg_size (m : Nat) : (sgB m).size ≤ 7 := sel_size _

def bothB (a b : ByteArray) : ByteArray := selB (fun c => amF c a.data.toList && amF c b.data.toList)
theorem bit_eq_of {a b : Nat} (ha : a < 128) (hb : b < 128) (h : ∀ u ∈ KS, a.testBit (kix u.toNat) = b.testBit (kix u.toNat)) : a = b := by
  apply Nat.eq_of_testBit_eq
  intro i
  have hh : ∀ k, k ∈ [0, 1, 2, 3, 4, 5, 6] → a.testBit k = b.testBit k := by
    intro k hk
    simp only [List.mem_cons, List.not_mem_nil, or_false] at hk
    rcases hk with rfl | rfl | rfl | rfl | rfl | rfl | rfl
    · exact h 110 (by decide)
    · exact h 116 (by decide)
    · exact h 102 (by decide)
    · exact h 122 (by decide)
    · exact h 65 (by decide)
    · exact h 66 (by decide)
    · exact h 67 (by decide)
  by_cases hi : i < 7
  · exact hh i (by simp; omega)
  · have h2 : 128 ≤ 2 ^ i := by
      have : 2 ^ 7 ≤ 2 ^ i := Nat.pow_le_pow_right (by decide) (by omega)
      omega
    rw [Nat.testBit_lt_two_pow (by omega), Nat.testBit_lt_two_pow (by omega)]

theorem sg_inj {a b : Nat} (ha : a < 128) (hb : b < 128) (h : sgB a = sgB b) : a = b :=
  bit_eq_of ha hb fun u hu => by rw [← am_sg a u hu, ← am_sg b u hu, h]

theorem sg_zero : sgB 0 = ⟨#[]⟩ := by decide

theorem sg_empty {a : Nat} (ha : a < 128) : (sgB a = ⟨#[]⟩) ↔ a = 0 :=
  ⟨fun h => sg_inj ha (by decide) (h.trans sg_zero.symm), fun h => by rw [h]; exact sg_zero⟩

/-- A set of kinds lies within another. -/
def subB (a b : ByteArray) : Bool := a.data.toList.all (fun u => amF u.toNat b.data.toList)

/-- A state: a set for each variable; nothing: []. -/
abbrev St := List Nat

def exS (s : St) : Bool := s.all (fun m => m != 0)
def nrm (s : St) : St := if exS s then s else []
def withS (s : St) (x m : Nat) : St := if s = [] ∨ m = 0 then [] else s.set x m

def tkN (op : Int) : Nat := if op = 43 ∨ op = 60 ∨ op = 65 then 1 else if op = 66 then 14 else if op = 46 then 48 else 127

def givN (op : Int) (y : Nat) : Nat :=
  if op = 48 ∨ op = 43 then 1 else if op = 84 then 2 else if op = 70 then 4 else if op = 90 then 8 else if op = 63 then 127 else if op = 118 then y else if op = 60 then 6
  else if op = 46 then ((if y.testBit 4 then 1 else 0) ||| (if y.testBit 5 then 14 else 0)) else if op = 65 then 16 else if op = 66 then 32 else 64

/-- The bit of a kind's sign. -/
def bitN (k : Int) : Nat := if k = 110 then 1 else if k = 116 then 2 else if k = 102 then 4 else if k = 122 then 8 else if k = 65 then 16 else if k = 66 then 32 else if k = 67 then 64 else 0

theorem bitN_lt (k : Int) : bitN k < 128 := by
  unfold bitN; repeat' split
  all_goals decide

/-- What comes behind a node that is no test. -/
def behF (n : Nd) (s : St) : St :=
  if n.op = 33 then [] else if n.op = 42 ∨ n.op = 94 then s
  else if n.op = 126 then withS s n.x.toNat (s.getD n.x.toNat 0 &&& bitN n.k)
  else withS (if withS s n.y.toNat (s.getD n.y.toNat 0 &&& tkN n.op) ≠ [] ∧ (n.op = 43 ∨ n.op = 60)
      then withS (withS s n.y.toNat (s.getD n.y.toNat 0 &&& tkN n.op)) n.v.toNat ((withS s n.y.toNat (s.getD n.y.toNat 0 &&& tkN n.op)).getD n.v.toNat 0 &&& tkN n.op)
      else withS s n.y.toNat (s.getD n.y.toNat 0 &&& tkN n.op)) n.x.toNat (givN n.op (s.getD n.y.toNat 0 &&& tkN n.op))

def wayM (n : Nd) (yes : Bool) : Nat := if n.op = 58 then (if yes then bitN n.k else 127 ^^^ bitN n.k) else if yes then 115 else 13

/-- What comes along a way of a test. -/
def hldF (n : Nd) (yes : Bool) (s : St) : St := withS s n.y.toNat (s.getD n.y.toNat 0 &&& wayM n yes)

def joinR (a b : St) : St × Bool := if b = [] then (a, false) else if a = [] then (b, true) else (List.zipWith (· ||| ·) a b, decide (List.zipWith (· ||| ·) a b ≠ a))

/-- A state as it can be: nothing, or six sets that are none of them empty. -/
def SOk (s : St) : Prop := s = [] ∨ (s.length = 6 ∧ ∀ m ∈ s, m ≠ 0 ∧ m < 128)

theorem SOk.nil : SOk [] := .inl rfl

theorem SOk.withS {s : St} (h : SOk s) (x m : Nat) (hm : m < 128) : SOk (withS s x m) := by
  unfold Go.Proofs.YtellieabhaphhaaGreatDoor.withS
  split
  · exact .inl rfl
  · rename_i hc
    rcases h with rfl | ⟨h1, h2⟩
    · exact absurd (.inl rfl) hc
    · refine .inr ⟨by simpa using h1, fun z hz => ?_⟩
      rcases List.mem_or_eq_of_mem_set hz with h | rfl
      · exact h2 z h
      · exact ⟨fun e => hc (.inr e), hm⟩

theorem SOk.get {s : St} (h : SOk s) (x : Nat) : s.getD x 0 < 128 := by
  rcases h with rfl | ⟨_, h2⟩
  · simp
  · rw [List.getD_eq_getElem?_getD]
    cases hx : s[x]? with
    | none => simp
    | some m => exact (h2 m (List.mem_of_getElem? hx)).2

theorem and_lt {a : Nat} (b : Nat) (h : a < 128) : a &&& b < 128 := Nat.lt_of_le_of_lt Nat.and_le_left h
theorem or_lt {a b : Nat} (h : a < 128) (k : b < 128) : a ||| b < 128 := Nat.or_lt_two_pow (n := 7) h k

theorem givN_lt (op : Int) {y : Nat} (h : y < 128) : givN op y < 128 := by
  unfold givN
  repeat' split
  all_goals first | exact h | decide

theorem SOk.beh {s : St} (n : Nd) (h : SOk s) : SOk (behF n s) := by
  unfold behF
  have hy := and_lt (tkN n.op) (h.get n.y.toNat)
  repeat' split
  · exact .nil
  · exact h
  · exact h.withS _ _ (and_lt _ (h.get _))
  · exact ((h.withS _ _ hy).withS _ _ (and_lt _ ((h.withS _ _ hy).get _))).withS _ _ (givN_lt _ hy)
  · exact (h.withS _ _ hy).withS _ _ (givN_lt _ hy)

theorem SOk.hld {s : St} (n : Nd) (yes : Bool) (h : SOk s) : SOk (hldF n yes s) := h.withS _ _ (and_lt _ (h.get _))

theorem SOk.join {a b : St} (ha : SOk a) (hb : SOk b) : SOk (joinR a b).1 := by
  unfold joinR
  split
  · exact ha
  · rename_i h1
    split
    · exact hb
    · rename_i h2
      obtain ⟨la, ma⟩ := ha.resolve_left h2
      obtain ⟨lb, mb⟩ := hb.resolve_left h1
      refine .inr ⟨by simp [la, lb], fun z hz => ?_⟩
      obtain ⟨i, hi, rfl⟩ := List.getElem_of_mem hz
      rw [List.length_zipWith] at hi
      rw [List.getElem_zipWith]
      have p := ma a[i] (List.getElem_mem _)
      have q := mb b[i] (List.getElem_mem _)
      exact ⟨fun e => p.1 (Nat.or_eq_zero_iff.1 e).1, or_lt p.2 q.2⟩

/-- A state's signs. -/
def sgS (s : St) : List Value := s.map (fun m => .string (sgB m))

end Go.Proofs.YtellieabhaphhaaGreatDoor

/-
  Plain: tables of states, and the least one.
-/
namespace Go.Proofs.YtellieabhaphhaaGreatDoor
open Go.RowKit

abbrev Tbl := List St

def intoF (T : Tbl) (i : Int) (s : St) : Tbl × Bool :=
  if 0 ≤ i ∧ i < T.length then (T.set i.toNat (joinR (T.getD i.toNat []) s).1, (joinR (T.getD i.toNat []) s).2) else (T, false)

/-- What a node's part of a sweep does. -/
def pasF (n : Nd) (i : Nat) (T : Tbl) : Tbl × Bool :=
  if T.getD i [] = [] then (T, false)
  else if n.op = 121 ∨ n.op = 58 then
    ((intoF (intoF T n.t (hldF n true (T.getD i []))).1 n.f (hldF n false (T.getD i []))).1, (intoF T n.t (hldF n true (T.getD i []))).2 || (intoF (intoF T n.t (hldF n true (T.getD i []))).1 n.f (hldF n false (T.getD i []))).2)
  else intoF T n.t (behF n (T.getD i []))

/-- A sweep. -/
def swpF : List Nd → Nat → Tbl → Tbl × Bool
  | [], _, T => (T, false)
  | n :: l, i, T => ((swpF l (i + 1) (pasF n i T).1).1, (pasF n i T).2 || (swpF l (i + 1) (pasF n i T).1).2)

theorem swp_snoc (n : Nd) : ∀ (l : List Nd) (i : Nat) (T : Tbl), swpF (l ++ [n]) i T = ((pasF n (i + l.length) (swpF l i T).1).1, (swpF l i T).2 || (pasF n (i + l.length) (swpF l i T).1).2)
  | [], i, T => by simp [swpF]
  | m :: l, i, T => by
    rw [List.cons_append, swpF, swp_snoc n l (i + 1) (pasF m i T).1, swpF, List.length_cons, show i + 1 + l.length = i + (l.length + 1) by omega, Bool.or_assoc]

def itF (l : List Nd) : Nat → Tbl → Tbl
  | 0, T => T
  | k + 1, T => itF l k (swpF l 0 T).1

theorem it_succ (l : List Nd) : ∀ (k : Nat) (T : Tbl), itF l (k + 1) T = (swpF l 0 (itF l k T)).1
  | 0, _ => rfl
  | k + 1, T => by rw [itF, it_succ l k, ← itF]

theorem it_fix (l : List Nd) (T : Tbl) (h : (swpF l 0 T).1 = T) : ∀ k, itF l k T = T
  | 0 => rfl
  | k + 1 => by rw [itF, h, it_fix l T h k]

theorem it_add (l : List Nd) : ∀ (a b : Nat) (T : Tbl), itF l (a + b) T = itF l b (itF l a T)
  | 0, b, T => by rw [Nat.zero_add]; rfl
  | a + 1, b, T => by rw [show a + 1 + b = (a + b) + 1 by omega, itF, it_add l a b, ← itF]

/-- What has come to rest stays. -/
theorem it_rest (l : List Nd) (T : Tbl) (j : Nat) (hf : (swpF l 0 (itF l j T)).1 = itF l j T) (N : Nat) (hN : j ≤ N) : itF l N T = itF l j T := by
  obtain ⟨b, rfl⟩ := Nat.exists_eq_add_of_le hN
  rw [it_add, it_fix l _ hf]

-- lengths
theorem into_len (T : Tbl) (i : Int) (s : St) : (intoF T i s).1.length = T.length := by unfold intoF; split <;> simp
theorem pas_len (n : Nd) (i : Nat) (T : Tbl) : (pasF n i T).1.length = T.length := by
  unfold pasF
  repeat' split
  · rfl
  · simp [into_len]
  · simp [into_len]
theorem swp_len : ∀ (l : List Nd) (i : Nat) (T : Tbl), (swpF l i T).1.length = T.length
  | [], _, _ => rfl
  | n :: l, i, T => by rw [swpF]; show (swpF l (i + 1) (pasF n i T).1).1.length = _; rw [swp_len l, pas_len]
theorem it_len (l : List Nd) : ∀ (k : Nat) (T : Tbl), (itF l k T).length = T.length
  | 0, _ => rfl
  | k + 1, T => by rw [itF, it_len l k, swp_len]

-- what is not turned is as it was
theorem join_same {a b : St} (h : (joinR a b).2 = false) : (joinR a b).1 = a := by
  unfold joinR at h ⊢
  split
  · rfl
  · rename_i h1
    rw [if_neg h1] at h
    split
    · rename_i h2; rw [if_pos h2] at h; cases h
    · rename_i h2
      rw [if_neg h2] at h
      simpa using h

theorem set_getD {T : Tbl} {i : Nat} (h : i < T.length) : T.set i (T.getD i []) = T := by
  rw [List.getD_eq_getElem?_getD, List.getElem?_eq_getElem h, Option.getD_some, List.set_getElem_self]

theorem into_same {T : Tbl} {i : Int} {s : St} (h : (intoF T i s).2 = false) : (intoF T i s).1 = T := by
  unfold intoF at h ⊢
  split
  · rename_i hc
    rw [if_pos hc] at h
    show T.set i.toNat _ = T
    rw [join_same h, set_getD (by omega)]
  · rfl

theorem pas_same {n : Nd} {i : Nat} {T : Tbl} (h : (pasF n i T).2 = false) : (pasF n i T).1 = T := by
  unfold pasF at h ⊢
  split
  · rfl
  · rename_i h1
    rw [if_neg h1] at h
    split
    · rename_i h2
      rw [if_pos h2] at h
      rw [Bool.or_eq_false_iff] at h
      show (intoF _ _ _).1 = T
      rw [into_same h.2, into_same h.1]
    · rename_i h2
      rw [if_neg h2] at h
      exact into_same h

theorem swp_same : ∀ {l : List Nd} {i : Nat} {T : Tbl}, (swpF l i T).2 = false → (swpF l i T).1 = T
  | [], _, _, _ => rfl
  | n :: l, i, T, h => by
    rw [swpF] at h ⊢
    rw [Bool.or_eq_false_iff] at h
    show (swpF l (i + 1) (pasF n i T).1).1 = T
    rw [swp_same h.2, pas_same h.1]

-- tables are of states as they can be
def TOk (T : Tbl) : Prop := ∀ s ∈ T, SOk s

theorem TOk.get {T : Tbl} (h : TOk T) (i : Nat) : SOk (T.getD i []) := by
  rw [List.getD_eq_getElem?_getD]
  cases hx : T[i]? with
  | none => exact .nil
  | some m => exact h m (List.mem_of_getElem? hx)

theorem TOk.into {T : Tbl} (h : TOk T) (i : Int) {s : St} (hs : SOk s) : TOk (intoF T i s).1 := by
  unfold intoF
  split
  · intro z hz
    rcases List.mem_or_eq_of_mem_set hz with h1 | rfl
    · exact h z h1
    · exact (h.get _).join hs
  · exact h

theorem TOk.pas {T : Tbl} (h : TOk T) (n : Nd) (i : Nat) : TOk (pasF n i T).1 := by
  unfold pasF
  repeat' split
  · exact h
  · exact (h.into _ ((h.get i).hld n true)).into _ ((h.get i).hld n false)
  · exact h.into _ ((h.get i).beh n)

theorem TOk.swp : ∀ {l : List Nd} {i : Nat} {T : Tbl}, TOk T → TOk (swpF l i T).1
  | [], _, _, h => h
  | n :: l, i, T, h => by rw [swpF]; exact TOk.swp (h.pas n i)

theorem TOk.it {l : List Nd} : ∀ {k : Nat} {T : Tbl}, TOk T → TOk (itF l k T)
  | 0, _, h => h
  | k + 1, T, h => by rw [itF]; exact TOk.it h.swp

-- a measure
def pc (m : Nat) : Nat := (List.range 7).countP (fun i => m.testBit i)
def mS (s : St) : Nat := (s.map pc).sum
def mT (T : Tbl) : Nat := (T.map mS).sum

theorem pc_le (a b : Nat) : pc a ≤ pc (a ||| b) := List.countP_mono_left (fun i _ h => by rw [Nat.testBit_or, h, Bool.true_or])
theorem pc_seven (a : Nat) : pc a ≤ 7 := List.countP_le_length
theorem pc_lt {a b : Nat} (ha : a < 128) (hb : b < 128) (h : a ||| b ≠ a) : pc a < pc (a ||| b) := by
  rcases Nat.lt_or_ge (pc a) (pc (a ||| b)) with h1 | h1
  · exact h1
  · exfalso
    apply h
    refine Nat.eq_of_testBit_eq fun i => ?_
    by_cases hi : i < 7
    · cases hc : a.testBit i
      · cases hd : (a ||| b).testBit i
        · rfl
        · exfalso
          have key : ∀ (l : List Nat), i ∈ l → l.countP (fun i => a.testBit i) < l.countP (fun i => (a ||| b).testBit i) := by
            intro l hl
            induction l with
            | nil => cases hl
            | cons x l ih =>
              have hm : l.countP (fun i => a.testBit i) ≤ l.countP (fun i => (a ||| b).testBit i) := List.countP_mono_left (fun i _ h => by rw [Nat.testBit_or, h, Bool.true_or])
              rw [List.countP_cons, List.countP_cons]
              rcases List.mem_cons.1 hl with rfl | hl'
              · rw [hc, hd, if_pos rfl, if_neg (by decide)]; omega
              · have := ih hl'
                have h2 : (if a.testBit x = true then 1 else 0) ≤ (if (a ||| b).testBit x = true then 1 else 0) := by
                  rw [Nat.testBit_or]; cases a.testBit x <;> cases b.testBit x <;> simp
                omega
          have := key (List.range 7) (by simpa using hi)
          unfold pc at h1
          omega
      · rw [Nat.testBit_or, hc, Bool.true_or]
    · have h2 : 128 ≤ 2 ^ i := by
        have : 2 ^ 7 ≤ 2 ^ i := Nat.pow_le_pow_right (by decide) (by omega)
        omega
      have := or_lt ha hb
      rw [Nat.testBit_lt_two_pow (by omega), Nat.testBit_lt_two_pow (by omega)]

theorem zip_le : ∀ (a b : St), a.length ≤ b.length → mS a ≤ mS (List.zipWith (· ||| ·) a b)
  | [], _, _ => Nat.zero_le _
  | x :: a, [], h => by simp at h
  | x :: a, y :: b, h => by
    have := zip_le a b (by simpa using h)
    have := pc_le x y
    simp only [mS, List.zipWith_cons_cons, List.map_cons, List.sum_cons] at *
    omega

theorem zip_lt : ∀ (a b : St), a.length ≤ b.length → (∀ m ∈ a, m < 128) → (∀ m ∈ b, m < 128) → List.zipWith (· ||| ·) a b ≠ a → mS a < mS (List.zipWith (· ||| ·) a b)
  | [], _, _, _, _, h => by simp at h
  | x :: a, [], h, _, _, _ => by simp at h
  | x :: a, y :: b, h, ha, hb, hne => by
    have h1 := zip_le a b (by simpa using h)
    have h2 := pc_le x y
    by_cases hx : x ||| y = x
    · have := zip_lt a b (by simpa using h) (fun m hm => ha m (List.mem_cons_of_mem _ hm)) (fun m hm => hb m (List.mem_cons_of_mem _ hm)) (fun e => hne (by rw [List.zipWith_cons_cons, hx, e]))
      simp only [mS, List.zipWith_cons_cons, List.map_cons, List.sum_cons] at *
      omega
    · have := pc_lt (ha x (List.mem_cons_self ..)) (hb y (List.mem_cons_self ..)) hx
      simp only [mS, List.zipWith_cons_cons, List.map_cons, List.sum_cons] at *
      omega

theorem pc_pos {a : Nat} (ha : a < 128) (h : a ≠ 0) : 0 < pc a := by
  have := pc_lt (a := 0) (b := a) (by decide) ha (by simpa using h)
  simp only [Nat.zero_or] at this
  omega

theorem mS_le (s : St) : mS s ≤ 7 * s.length := by
  induction s with
  | nil => exact Nat.le_refl _
  | cons x s ih =>
    have := pc_seven x
    simp only [mS, List.map_cons, List.sum_cons, List.length_cons] at *
    omega

theorem mS_ok {s : St} (h : SOk s) : mS s ≤ 42 := by
  have := mS_le s
  rcases h with rfl | ⟨h, _⟩
  · decide
  · omega

theorem join_le {a b : St} (ha : SOk a) (hb : SOk b) : mS a ≤ mS (joinR a b).1 ∧ ((joinR a b).2 = true → mS a < mS (joinR a b).1) := by
  unfold joinR
  split
  · exact ⟨Nat.le_refl _, fun h => by cases h⟩
  · rename_i h1
    obtain ⟨lb, mb⟩ := hb.resolve_left h1
    split
    · rename_i h2
      subst h2
      have : 0 < mS b := by
        match b, lb, mb with
        | x :: b, _, mb =>
          have := pc_pos (mb x (List.mem_cons_self ..)).2 (mb x (List.mem_cons_self ..)).1
          simp only [mS, List.map_cons, List.sum_cons]
          omega
      exact ⟨Nat.zero_le _, fun _ => this⟩
    · rename_i h2
      obtain ⟨la, ma⟩ := ha.resolve_left h2
      exact ⟨zip_le a b (by omega), fun h => zip_lt a b (by omega) (fun m hm => (ma m hm).2) (fun m hm => (mb m hm).2) (by simpa using h)⟩

theorem mT_set : ∀ (T : Tbl) (i : Nat) (s : St), i < T.length → mT (T.set i s) + mS (T.getD i []) = mT T + mS s
  | [], i, _, h => by simp at h
  | a :: T, 0, s, _ => by simp only [List.set_cons_zero, mT, List.map_cons, List.sum_cons, List.getD_cons_zero]; omega
  | a :: T, i + 1, s, h => by
    have := mT_set T i s (by simpa using h)
    simp only [List.set_cons_succ, mT, List.map_cons, List.sum_cons, List.getD_cons_succ] at *
    omega

theorem mT_le : ∀ {T : Tbl}, TOk T → mT T ≤ 42 * T.length
  | [], _ => Nat.le_refl _
  | a :: T, h => by
    have h1 := mS_ok (h a (List.mem_cons_self ..))
    have h2 := mT_le (T := T) (fun s hs => h s (List.mem_cons_of_mem _ hs))
    simp only [mT, List.map_cons, List.sum_cons, List.length_cons] at *
    omega

theorem into_le {T : Tbl} (h : TOk T) (i : Int) {s : St} (hs : SOk s) : mT T ≤ mT (intoF T i s).1 ∧ ((intoF T i s).2 = true → mT T < mT (intoF T i s).1) := by
  unfold intoF
  split
  · rename_i hc
    have h1 := join_le (h.get i.toNat) hs
    have h2 := mT_set T i.toNat (joinR (T.getD i.toNat []) s).1 (by omega)
    refine ⟨?_, fun e => ?_⟩
    · dsimp only; omega
    · have := h1.2 e; dsimp only; omega
  · exact ⟨Nat.le_refl _, fun h => by cases h⟩

theorem pas_le {T : Tbl} (h : TOk T) (n : Nd) (i : Nat) : mT T ≤ mT (pasF n i T).1 ∧ ((pasF n i T).2 = true → mT T < mT (pasF n i T).1) := by
  unfold pasF
  repeat' split
  · exact ⟨Nat.le_refl _, fun h => by cases h⟩
  · have h1 := into_le h n.t ((h.get i).hld n true)
    have h2 := into_le (h.into n.t ((h.get i).hld n true)) n.f ((h.get i).hld n false)
    refine ⟨Nat.le_trans h1.1 h2.1, fun e => ?_⟩
    rw [Bool.or_eq_true] at e
    rcases e with e | e
    · exact Nat.lt_of_lt_of_le (h1.2 e) h2.1
    · exact Nat.lt_of_le_of_lt h1.1 (h2.2 e)
  · exact into_le h _ ((h.get i).beh n)

theorem swp_le : ∀ {l : List Nd} {i : Nat} {T : Tbl}, TOk T → mT T ≤ mT (swpF l i T).1 ∧ ((swpF l i T).2 = true → mT T < mT (swpF l i T).1)
  | [], _, _, _ => ⟨Nat.le_refl _, fun h => by cases h⟩
  | n :: l, i, T, h => by
    have h1 := pas_le h n i
    have h2 := swp_le (l := l) (i := i + 1) (h.pas n i)
    rw [swpF]
    refine ⟨Nat.le_trans h1.1 h2.1, fun e => ?_⟩
    rw [Bool.or_eq_true] at e
    rcases e with e | e
    · exact Nat.lt_of_lt_of_le (h1.2 e) h2.1
    · exact Nat.lt_of_le_of_lt h1.1 (h2.2 e)

-- the end's state has no part in it
theorem getD_take {T : Tbl} {i k : Nat} (h : i < k) : (T.take k).getD i [] = T.getD i [] := by
  rw [List.getD_eq_getElem?_getD, List.getD_eq_getElem?_getD, List.getElem?_take_of_lt h]

theorem into_take {T : Tbl} {k : Nat} (hT : T.length = k + 1) (i : Int) (s : St) : (intoF T i s).1.take k = (intoF (T.take k) i s).1 := by
  unfold intoF
  rw [List.length_take, hT]
  by_cases hc : 0 ≤ i ∧ i < ((min k (k + 1) : Nat) : Int)
  · rw [if_pos hc, if_pos ⟨hc.1, by omega⟩, List.take_set, getD_take (by omega)]
  · rw [if_neg hc]
    by_cases h2 : 0 ≤ i ∧ i < ((k + 1 : Nat) : Int)
    · rw [if_pos h2, List.take_set]
      exact List.set_eq_of_length_le (by rw [List.length_take]; omega)
    · rw [if_neg h2]

theorem pas_take {T : Tbl} {k : Nat} (hT : T.length = k + 1) (n : Nd) {i : Nat} (hi : i < k) : (pasF n i T).1.take k = (pasF n i (T.take k)).1 := by
  unfold pasF
  rw [getD_take hi]
  repeat' split
  · rfl
  · rw [into_take (by rw [into_len]; exact hT), into_take hT]
  · rw [into_take hT]

theorem swp_take {k : Nat} : ∀ {l : List Nd} {i : Nat} {T : Tbl}, T.length = k + 1 → i + l.length ≤ k → (swpF l i T).1.take k = (swpF l i (T.take k)).1
  | [], _, _, _, _ => rfl
  | n :: l, i, T, hT, hi => by
    rw [List.length_cons] at hi
    rw [swpF, swpF, swp_take (by rw [pas_len]; exact hT) (by omega), pas_take hT n (by omega)]

theorem it_take {l : List Nd} {k : Nat} (hk : l.length ≤ k) : ∀ {j : Nat} {T : Tbl}, T.length = k + 1 → (itF l j T).take k = itF l j (T.take k)
  | 0, _, _ => rfl
  | j + 1, T, hT => by rw [itF, itF, it_take hk (by rw [swp_len]; exact hT), swp_take hT (by omega)]

/-- The state in which runs begin. -/
abbrev st0 : St := [8, 8, 8, 8, 8, 8]
/-- The table at the beginning, with the end's state. -/
def tR (k : Nat) : Tbl := st0 :: List.replicate k []
/-- The least table. -/
def lstF (l : List Nd) : Tbl := (itF l 4000 (tR l.length)).take l.length

theorem st0_ok : SOk st0 := .inr ⟨rfl, by decide⟩
theorem tR_ok (k : Nat) : TOk (tR k) := by
  intro s hs
  rcases List.mem_cons.1 hs with rfl | h
  · exact st0_ok
  · rw [List.eq_of_mem_replicate h]; exact .nil

theorem lst_len (l : List Nd) : (lstF l).length = l.length := by
  unfold lstF tR
  rw [List.length_take, it_len]; simp

theorem lst_ok (l : List Nd) : TOk (lstF l) := fun s hs => TOk.it (tR_ok _) s (List.mem_of_mem_take hs)
end Go.Proofs.YtellieabhaphhaaGreatDoor

/-
  Rows of structs: cells of an element, an element's cell set.
-/
namespace Go.Proofs.YtellieabhaphhaaGreatDoor
open Go.RowKit

theorem flat_len {α : Type} (f : α → List Value) (k : Nat) (hf : ∀ x, (f x).length = k) (l : List α) : (l.flatMap f).length = l.length * k := by
  induction l with
  | nil => simp
  | cons x l ih => simp [hf, ih, Nat.add_mul, Nat.add_comm]

theorem flat_get {α : Type} (f : α → List Value) (k : Nat) (hf : ∀ x, (f x).length = k) : ∀ (l : List α) (i j : Nat) (hi : i < l.length), j < k → (l.flatMap f)[i * k + j]? = (f l[i])[j]? := by
  intro l
  induction l with
  | nil => intro i j hi; simp at hi
  | cons x l ih =>
    intro i j hi hj
    rw [List.flatMap_cons]
    cases i with
    | zero => rw [List.getElem?_append_left (by rw [hf]; omega)]; simp
    | succ i =>
      have e : (i + 1) * k + j = (f x).length + (i * k + j) := by rw [hf, Nat.add_mul]; omega
      rw [e, List.getElem?_append_right (by omega)]
      have e2 : (f x).length + (i * k + j) - (f x).length = i * k + j := by omega
      rw [e2]
      exact ih i j (by simpa using hi) hj

theorem Row.cell {w : World} {g n cap size : Nat} {e : TypeId} {xs : List Value} (h : Row w (.slice (some ⟨g, 0, none⟩) n cap) e size n xs) (j : Nat) (hj : j < n * size) : w.cell? ⟨g, j, none⟩ = xs[j]? := by
  rcases h.2 with ⟨h0, _⟩ | ⟨g', cap', cur, hv, _, hg, hnc, _, hs, ht⟩
  · cases h0
  · simp only [Value.slice.injEq, Option.some.injEq, Addr.mk.injEq] at hv
    obtain ⟨⟨rfl, _⟩, _, rfl⟩ := hv
    rw [cell_of_row w g j cur e (0, 0) hg, ← ht, List.getElem?_take, if_pos hj]
    simp

theorem Row.frozen {w : World} {g n cap size : Nat} {e : TypeId} {xs : List Value} (h : Row w (.slice (some ⟨g, 0, none⟩) n cap) e size n xs) (j : Nat) : w.frozen? ⟨g, j, none⟩ = false := by
  rcases h.2 with ⟨h0, _⟩ | ⟨g', cap', cur, hv, _, hg, hnc, _, hs, ht⟩
  · cases h0
  · simp only [Value.slice.injEq, Option.some.injEq, Addr.mk.injEq] at hv
    obtain ⟨⟨rfl, _⟩, _, rfl⟩ := hv
    simp [World.frozen?, hg]

theorem Row.cap {w : World} {g n cap size : Nat} {e : TypeId} {xs : List Value} (h : Row w (.slice (some ⟨g, 0, none⟩) n cap) e size n xs) : n ≤ cap ∧ cap ≤ maxLen := by
  rcases h.2 with ⟨h0, _⟩ | ⟨g', cap', cur, hv, _, hg, hnc, hm, hs, ht⟩
  · cases h0
  · simp only [Value.slice.injEq, Option.some.injEq, Addr.mk.injEq] at hv
    obtain ⟨⟨rfl, _⟩, _, rfl⟩ := hv
    exact ⟨hnc, hm⟩

/-- A cell of the row is set. -/
theorem Row.setIn {w : World} {g n cap size : Nat} {e : TypeId} {xs : List Value} (h : Row w (.slice (some ⟨g, 0, none⟩) n cap) e size n xs) (j : Nat) (u : Value) :
    Row (w.setCell ⟨g, j, none⟩ u) (.slice (some ⟨g, 0, none⟩) n cap) e size n (xs.set j u) := by
  refine ⟨by rw [List.length_set]; exact h.1, ?_⟩
  rcases h.2 with ⟨h0, _⟩ | ⟨g', cap', cur, hv, hb, hg, hnc, hm, hs, ht⟩
  · cases h0
  · simp only [Value.slice.injEq, Option.some.injEq, Addr.mk.injEq] at hv
    obtain ⟨⟨rfl, _⟩, _, rfl⟩ := hv
    refine .inr ⟨g, cap, cur.setIfInBounds j u, rfl, hb, ?_, hnc, hm, by simpa using hs, ?_⟩
    · simp [World.setCell, Array.getElem?_modify, hg]
    · rw [Array.toList_setIfInBounds, ← ht, List.take_set]
end Go.Proofs.YtellieabhaphhaaGreatDoor

/-
  narrowref's reader: the ends of pieces.
-/
namespace Go.Proofs.YtellieabhaphhaaGreatDoor
open Go.RowKit

theorem nd9 (x : Nd) : x.cells.length = 9 := rfl

theorem Went.drew {w w' : World} {O : Nat → Prop} {r : Nat} {s : ByteArray} {st : RS} (h : Went w O r s st w') : Went w O r s st w'.drew :=
  let ⟨O', h1, h2, h3⟩ := h
  ⟨O', h1, h2.drew, h3⟩

end Go.Proofs.YtellieabhaphhaaGreatDoor

/-
  narrowref's reader: conditions.
-/
namespace Go.Proofs.YtellieabhaphhaaGreatDoor
open Go.RowKit

/-- From w, the reader's own blocks being O, to w', they being O'. -/
def Th (O : Nat → Prop) (w : World) (O' : Nat → Prop) (w' : World) : Prop := Kp O w w' ∧ ∀ b, O' b → b < w.heap.size → O b

theorem Th.refl (O : Nat → Prop) (w : World) : Th O w O w := ⟨Kp.refl _ _, fun _ h _ => h⟩
theorem Th.trans {O O1 O2 : Nat → Prop} {w w1 w2 : World} (h : Th O w O1 w1) (k : Th O1 w1 O2 w2) : Th O w O2 w2 :=
  ⟨h.1.trans k.1 (fun x hx e => h.2 x e hx), fun b hb hl => h.2 b (k.2 b hb (Nat.lt_of_lt_of_le hl h.1.size)) hl⟩
theorem Th.n {O O1 : Nat → Prop} {w w1 : World} (h : Th O w O1 w1) (n : Nat) : Th O w O1 (w1.drewN n) := ⟨h.1.drewN n, h.2⟩
theorem Th.drew {O O1 : Nat → Prop} {w w1 : World} (h : Th O w O1 w1) : Th O w O1 w1.drew := ⟨h.1.drew, h.2⟩
theorem Th.alloc {O O1 : Nat → Prop} {w w1 : World} (h : Th O w O1 w1) (o : Obj) : Th O w O1 (w1.alloc o) := ⟨h.1.alloc o, h.2⟩
theorem Th.set {O O1 : Nat → Prop} {w w1 : World} (h : Th O w O1 w1) {a : Addr} (v : Value) (ha : O1 a.block ∨ w.heap.size ≤ a.block) : Th O w O1 (w1.setCell a v) :=
  ⟨h.1.setCell v (fun hl => by rcases ha with ha | ha; exact h.2 _ ha hl; omega), h.2⟩
theorem went_th {w w' : World} {O O' : Nat → Prop} {r : Nat} {s : ByteArray} {st : RS} (h : Rp w' r s st O') (k : Th O w O' w') : Went w O r s st w' := ⟨O', h, k⟩

section
variable {w : World} {r : Nat} {s : ByteArray} {st : RS} {O : Nat → Prop}

theorem Rp.n (h : Rp w r s st O) (n : Nat) : Rp (w.drewN n) r s st O := h
theorem Rp.drew (h : Rp w r s st O) : Rp w.drew r s st O := h
theorem Rp.own (h : Rp w r s st O) : O r := by
  obtain ⟨nv, iv, hB, hN, hI, d1, d2, d3, rfl⟩ := h; exact .inl rfl
theorem Rp.lt (h : Rp w r s st O) : ∀ b, O b → b < w.heap.size := by
  obtain ⟨nv, iv, hB, hN, hI, d1, d2, d3, rfl⟩ := h
  rintro b (h | h | h)
  · subst h; exact hB.lt
  · exact hN.lt h
  · exact hI.lt h
theorem Rp.c (h : Rp w r s st O) : w.cell? ⟨r, 0, none⟩ = some (.string s) ∧ w.cell? ⟨r, 1, none⟩ = some (.int .i64 st.i) ∧ w.cell? ⟨r, 2, none⟩ = some (.bool st.bad) ∧
    w.cell? ⟨r, 5, none⟩ = some (.int .i64 st.loops) ∧ ∀ o, w.frozen? ⟨r, o, none⟩ = false := by
  obtain ⟨nv, iv, hB, hN, hI, d1, d2, d3, rfl⟩ := h
  exact ⟨Blk.cell hB 0, Blk.cell hB 1, Blk.cell hB 2, Blk.cell hB 5, Blk.frozen hB⟩
theorem Rp.alloc (h : Rp w r s st O) (o : Obj) : Rp (w.alloc o) r s st O := by
  obtain ⟨nv, iv, hB, hN, hI, d1, d2, d3, rfl⟩ := h
  exact ⟨nv, iv, Blk.alloc hB o, hN.alloc o, hI.alloc o, d1, d2, d3, rfl⟩
/-- A store into a block that is not the reader's. -/
theorem Rp.other (h : Rp w r s st O) {b o : Nat} (v : Value) (hb : ¬ O b) : Rp (w.setCell ⟨b, o, none⟩ v) r s st O := by
  obtain ⟨nv, iv, hB, hN, hI, d1, d2, d3, rfl⟩ := h
  exact ⟨nv, iv, Blk.other hB v (fun e => hb (.inl e.symm)), hN.set v (fun e => hb (.inr (.inl e))), hI.set v (fun e => hb (.inr (.inr e))), d1, d2, d3, rfl⟩
theorem Rp.next (h : Rp w r s st O) : Rp (w.setCell ⟨r, 1, none⟩ (.int .i64 (st.i + 1))) r s { st with i := st.i + 1 } O := by
  obtain ⟨nv, iv, hB, hN, hI, d1, d2, d3, rfl⟩ := h
  exact ⟨nv, iv, Blk.set hB 1 _, hN.set _ d1, hI.set _ d2, d1, d2, d3, rfl⟩
theorem Rp.setBad (h : Rp w r s st O) : Rp (w.setCell ⟨r, 2, none⟩ (.bool true)) r s { st with bad := true } O := by
  obtain ⟨nv, iv, hB, hN, hI, d1, d2, d3, rfl⟩ := h
  exact ⟨nv, iv, Blk.set hB 2 _, hN.set _ d1, hI.set _ d2, d1, d2, d3, rfl⟩
theorem peek_w (h : Rp w r s st O) : Calls Tryz.prog 65 #[.pointer (some ⟨r, 0, none⟩)] w fun e w' => e = .returned (.int .u8 (pk s st.i)) ∧ ∃ n, w' = w.drewN n := by
  obtain ⟨nv, iv, hB, hN, hI, d1, d2, d3, rfl⟩ := h
  exact peek_c r st.i s st.bad nv iv st.loops w hB

theorem went_rb {w' : World} {nv iv : Value} {p : Nat × Bool} (hN : Row w nv 63 9 st.nodes.length (nCells st.nodes)) (hI : Row w iv 165 4 st.items.length (iCells st.items))
    (d1 : nv.ownBlock ≠ some r) (d2 : iv.ownBlock ≠ some r) (d3 : ∀ b, nv.ownBlock = some b → iv.ownBlock ≠ some b)
    (hB' : RB w' r s p nv iv st.loops) (hk : Kp (· = r) w w') : Went w (Own r nv iv) r s { st with i := p.1, bad := p.2 } w' :=
  ⟨_, ⟨nv, iv, hB', hk.row hN (fun b hb e => d1 (by rw [hb, e])), hk.row hI (fun b hb e => d2 (by rw [hb, e])), d1, d2, d3, rfl⟩, hk.mono (fun _ e => .inl e), fun _ h _ => h⟩

theorem eat_w (h : Rp w r s st O) (c : Nat) (hs : s.size ≤ 1000) (hi : st.i ≤ s.size) :
    Calls Tryz.prog 69 #[.pointer (some ⟨r, 0, none⟩), .int .u8 c] w fun e w' => e = .returned (.tuple #[]) ∧ Went w O r s { st with i := (eatF s (st.i, st.bad) c).1, bad := (eatF s (st.i, st.bad) c).2 } w' := by
  obtain ⟨nv, iv, hB, hN, hI, d1, d2, d3, rfl⟩ := h
  exact (eat_c r st.i c s st.bad nv iv st.loops w hs hi hB).mono fun e w' ⟨h1, h2, h3⟩ => ⟨h1, went_rb hN hI d1 d2 d3 h2 h3⟩

theorem test_w (h : Rp w r s st O) (hb : st.bad = false) (hs : s.size ≤ 1000) (hi : st.i ≤ s.size) :
    Calls Tryz.prog 66 #[.pointer (some ⟨r, 0, none⟩)] w fun e w' => e = .returned (.agg (testF s st.i).1.cells.toArray) ∧ Went w O r s { st with i := (testF s st.i).2.1, bad := (testF s st.i).2.2 } w' := by
  obtain ⟨nv, iv, hB, hN, hI, d1, d2, d3, rfl⟩ := h
  rw [hb] at hB
  exact (test_c r st.i s nv iv st.loops w hs hi hB).mono fun e w' ⟨h1, h2, h3⟩ => ⟨h1, went_rb hN hI d1 d2 d3 h2 h3⟩

theorem simple_w (h : Rp w r s st O) (hb : st.bad = false) (hs : s.size ≤ 1000) (hi : st.i ≤ s.size) :
    Calls Tryz.prog 67 #[.pointer (some ⟨r, 0, none⟩)] w fun e w' => e = .returned (.agg (simpF s st.i).1.cells.toArray) ∧ Went w O r s { st with i := (simpF s st.i).2.1, bad := (simpF s st.i).2.2 } w' := by
  obtain ⟨nv, iv, hB, hN, hI, d1, d2, d3, rfl⟩ := h
  rw [hb] at hB
  exact (simple_c r st.i s nv iv st.loops w hs hi hB).mono fun e w' ⟨h1, h2, h3⟩ => ⟨h1, went_rb hN hI d1 d2 d3 h2 h3⟩
end

/-! The condition, as a function. -/
theorem varF_ge (s : ByteArray) (p : Nat × Bool) : p.1 ≤ (varF s p).2.1 ∧ ((varF s p).2.2 = false → p.1 < (varF s p).2.1) := by
  unfold varF; split
  · exact ⟨Nat.le_refl _, by simp⟩
  · exact ⟨Nat.le_succ _, fun _ => Nat.lt_succ_self _⟩
theorem kindF_ge (s : ByteArray) (p : Nat × Bool) : p.1 ≤ (kindF s p).2.1 ∧ ((kindF s p).2.2 = false → p.1 < (kindF s p).2.1) := by
  unfold kindF; split
  · exact ⟨Nat.le_refl _, by simp⟩
  · exact ⟨Nat.le_succ _, fun _ => Nat.lt_succ_self _⟩
theorem eatF_ge (s : ByteArray) (p : Nat × Bool) (c : Nat) : p.1 ≤ (eatF s p c).1 ∧ ((eatF s p c).2 = false → p.1 < (eatF s p c).1 ∧ p.2 = false) := by
  unfold eatF; split
  · exact ⟨Nat.le_refl _, by simp⟩
  · rename_i h; exact ⟨Nat.le_succ _, fun _ => ⟨Nat.lt_succ_self _, by simp at h; exact h.1⟩⟩
theorem testF_ge (s : ByteArray) (i : Nat) : i ≤ (testF s i).2.1 ∧ ((testF s i).2.2 = false → i < (testF s i).2.1) := by
  have h1 := varF_ge s (i, false)
  unfold testF; split
  · have h2 := kindF_ge s ((varF s (i, false)).2.1 + 1, false)
    simp only at h1 h2 ⊢
    exact ⟨by omega, fun h => by omega⟩
  · exact h1

/-- Within bounds: at most a node and a piece for each byte that has been read; one more, if it is bad. -/
structure Inv (s : ByteArray) (st : RS) : Prop where
  i : st.i ≤ s.size
  n : st.nodes.length ≤ st.i + cond st.bad 1 0
  t : st.items.length ≤ st.i + cond st.bad 1 0
  lp : st.loops ≤ st.i

/-- It has gone on. -/
structure Mono (st st' : RS) : Prop where
  i : st.i ≤ st'.i
  n : st.nodes.length ≤ st'.nodes.length
  t : st.items.length ≤ st'.items.length

theorem Mono.refl (st : RS) : Mono st st := ⟨Nat.le_refl _, Nat.le_refl _, Nat.le_refl _⟩
theorem Mono.trans {a b c : RS} (h : Mono a b) (k : Mono b c) : Mono a c := ⟨Nat.le_trans h.i k.i, Nat.le_trans h.n k.n, Nat.le_trans h.t k.t⟩

end Go.Proofs.YtellieabhaphhaaGreatDoor

/-
  narrowref's reader: statements, as functions.
-/
namespace Go.Proofs.YtellieabhaphhaaGreatDoor
open Go.RowKit

def nextI (st : RS) : RS := { st with i := st.i + 1 }

/-- What a part of the reader does to bounds. -/
structure Good (s : ByteArray) (st st' : RS) : Prop where
  inv : Inv s st'
  mono : Mono st st'
  loops : st'.loops = st.loops

theorem Good.refl {s : ByteArray} {st : RS} (h : Inv s st) : Good s st st := ⟨h, Mono.refl _, rfl⟩
theorem Good.trans {s : ByteArray} {a b c : RS} (h : Good s a b) (k : Good s b c) : Good s a c := ⟨k.inv, h.mono.trans k.mono, k.loops.trans h.loops⟩

theorem simpF_ge (s : ByteArray) (i : Nat) : i ≤ (simpF s i).2.1 ∧ ((simpF s i).2.2 = false → i < (simpF s i).2.1) := by
  have h1 := varF_ge s (i, false)
  have h2 := eatF_ge s (varF s (i, false)).2 61
  unfold simpF
  repeat' split
  · have := varF_ge s (i + 1, false); simp only at this ⊢; omega
  · simp
  · have := kindF_ge s ((varF s (i, false)).2.1 + 1, false); simp only at this h1 ⊢; omega
  · simp only at h1 h2 ⊢
    rename_i hq
    exact ⟨by omega, fun h => by rw [h] at hq; cases hq⟩
  · have h3 : (eatF s (varF s (i, false)).2 61).1 ≤ (valF s (eatF s (varF s (i, false)).2 61).1 { nd0 i with x := (varF s (i, false)).1 }).2.1 := by
      generalize (eatF s (varF s (i, false)).2 61).1 = j
      unfold valF
      have g1 := varF_ge s (j + 1, false)
      have g2 := varF_ge s (j, false)
      have g3 := varF_ge s (varF s (j + 1, false)).2
      repeat' split
      all_goals (simp only at g1 g2 g3 ⊢; omega)
    rename_i hq
    have h4 := h2.2 (by simpa using hq)
    simp only at h1 h3 h4 ⊢
    exact ⟨by omega, fun _ => by omega⟩

end Go.Proofs.YtellieabhaphhaaGreatDoor

/-
  narrowref's reader: the walk of statements, and of a source.
-/
namespace Go.Proofs.YtellieabhaphhaaGreatDoor
open Go.RowKit

def rs0 : RS := { i := 0, bad := false, nodes := [], items := [], loops := 0 }

end Go.Proofs.YtellieabhaphhaaGreatDoor

/-
  narrowref's machine: small parts.
-/
namespace Go.Proofs.YtellieabhaphhaaGreatDoor
open Go.RowKit

def capF (k : Int) : ByteArray := if k = 116 then ⟨#[84]⟩ else if k = 102 then ⟨#[70]⟩ else if k = 122 then ⟨#[90]⟩ else ⟨#[67]⟩

theorem conv1 (W : World) (k : Int) : (convert 156 9 (.slice (some ⟨W.heap.size, 0, none⟩) 1 1)).run Tryz.prog (W.alloc (.cells #[.int .u8 k] 5)) = .ok (.string (strOfNums [k])) (W.alloc (.cells #[.int .u8 k] 5)) := by
  refine run_convert_bytes_arg (P := Tryz.prog) _ 156 5 Tryz.underlying156 Tryz.underlying5 W.heap.size 0 1 1 [k] rfl ?_ 9 Tryz.underlying9
  intro i hi
  have h := (Blk.new W [.int .u8 k] 5).cell (0 + i)
  rw [h]
  obtain rfl : i = 0 := by omega
  rfl

theorem conv2 (W : World) (k l : Int) : (convert 156 9 (.slice (some ⟨W.heap.size, 0, none⟩) 2 2)).run Tryz.prog (W.alloc (.cells #[.int .u8 k, .int .u8 l] 5)) = .ok (.string (strOfNums [k, l])) (W.alloc (.cells #[.int .u8 k, .int .u8 l] 5)) := by
  refine run_convert_bytes_arg (P := Tryz.prog) _ 156 5 Tryz.underlying156 Tryz.underlying5 W.heap.size 0 2 2 [k, l] rfl ?_ 9 Tryz.underlying9
  intro i hi
  have h := (Blk.new W [.int .u8 k, .int .u8 l] 5).cell (0 + i)
  rw [h]
  obtain rfl | rfl : i = 0 ∨ i = 1 := by omega
  · rfl
  · rfl

/-- A node's number, in two digits. -/
def twoB (n : Nat) : ByteArray := strOfNums [48 + (n : Int) / 10, 48 + (n : Int) % 10]

def takF (op : Int) : ByteArray :=
  if op = 43 ∨ op = 60 ∨ op = 65 then ⟨#[110]⟩ else if op = 66 then ⟨#[116, 102, 122]⟩ else if op = 46 then ⟨#[65, 66]⟩ else ⟨#[110, 116, 102, 122, 65, 66, 67]⟩

set_option maxHeartbeats 400000 in
theorem takes_c (n : Nd) (w : World) :
    Calls Tryz.prog 119 #[.agg #[.int .u8 n.op, .int .i64 n.x, .int .i64 n.y, .int .i64 n.v, .int .u8 n.k, .int .i64 n.t, .int .i64 n.f, .int .i64 n.a, .int .i64 n.l]] w fun e w' => e = .returned (.string (takF n.op)) ∧ Kp no w w' := by
  generalize n.op = o
  by_cases h1 : o = 43
  · subst h1
    go_enter Tryz.func119, Tryz.ntmps119
    go_wp2
    go_ret
    exact ⟨rfl, by (repeat' (first | with_reducible exact Kp.refl _ _ | with_reducible refine Kp.alloc ?_ _ | with_reducible refine Kp.drewN ?_ _ | with_reducible refine Kp.drew ?_ | with_reducible refine Kp.setCell ?_ _ ?_ | (intro hh; first | rfl | exact .inl rfl | exact .inr rfl | (exfalso; (try dsimp only at hh); omega))))⟩
  by_cases h2 : o = 60
  · subst h2
    go_enter Tryz.func119, Tryz.ntmps119
    go_wp2
    go_ret
    exact ⟨rfl, by (repeat' (first | with_reducible exact Kp.refl _ _ | with_reducible refine Kp.alloc ?_ _ | with_reducible refine Kp.drewN ?_ _ | with_reducible refine Kp.drew ?_ | with_reducible refine Kp.setCell ?_ _ ?_ | (intro hh; first | rfl | exact .inl rfl | exact .inr rfl | (exfalso; (try dsimp only at hh); omega))))⟩
  by_cases h3 : o = 65
  · subst h3
    go_enter Tryz.func119, Tryz.ntmps119
    go_wp2
    go_ret
    exact ⟨rfl, by (repeat' (first | with_reducible exact Kp.refl _ _ | with_reducible refine Kp.alloc ?_ _ | with_reducible refine Kp.drewN ?_ _ | with_reducible refine Kp.drew ?_ | with_reducible refine Kp.setCell ?_ _ ?_ | (intro hh; first | rfl | exact .inl rfl | exact .inr rfl | (exfalso; (try dsimp only at hh); omega))))⟩
  by_cases h4 : o = 66
  · subst h4
    go_enter Tryz.func119, Tryz.ntmps119
    go_wp2
    go_ret
    exact ⟨rfl, by (repeat' (first | with_reducible exact Kp.refl _ _ | with_reducible refine Kp.alloc ?_ _ | with_reducible refine Kp.drewN ?_ _ | with_reducible refine Kp.drew ?_ | with_reducible refine Kp.setCell ?_ _ ?_ | (intro hh; first | rfl | exact .inl rfl | exact .inr rfl | (exfalso; (try dsimp only at hh); omega))))⟩
  by_cases h5 : o = 46
  · subst h5
    go_enter Tryz.func119, Tryz.ntmps119
    go_wp2
    go_ret
    exact ⟨rfl, by (repeat' (first | with_reducible exact Kp.refl _ _ | with_reducible refine Kp.alloc ?_ _ | with_reducible refine Kp.drewN ?_ _ | with_reducible refine Kp.drew ?_ | with_reducible refine Kp.setCell ?_ _ ?_ | (intro hh; first | rfl | exact .inl rfl | exact .inr rfl | (exfalso; (try dsimp only at hh); omega))))⟩
  · have e : takF o = ⟨#[110, 116, 102, 122, 65, 66, 67]⟩ := by simp [takF, h1, h2, h3, h4, h5]
    rw [e]
    have g1 : (o == 43) = false := by simp [h1]
    have g2 : (o == 60) = false := by simp [h2]
    have g3 : (o == 65) = false := by simp [h3]
    have g4 : (o == 66) = false := by simp [h4]
    have g5 : (o == 46) = false := by simp [h5]
    go_enter Tryz.func119, Tryz.ntmps119
    go_wp2
    go_ret
    exact ⟨rfl, by (repeat' (first | with_reducible exact Kp.refl _ _ | with_reducible refine Kp.alloc ?_ _ | with_reducible refine Kp.drewN ?_ _ | with_reducible refine Kp.drew ?_ | with_reducible refine Kp.setCell ?_ _ ?_ | (intro hh; first | rfl | exact .inl rfl | exact .inr rfl | (exfalso; (try dsimp only at hh); omega))))⟩
end Go.Proofs.YtellieabhaphhaaGreatDoor

/-
  narrowref's machine: what it holds; steps told.
-/
namespace Go.Proofs.YtellieabhaphhaaGreatDoor
open Go.RowKit

structure Vl where
  k : Int
  n : Int
  v : Int

def Vl.cells (x : Vl) : List Value := [.int .u8 x.k, .int .i64 x.n, .int .u8 x.v]
def vCells (l : List Vl) : List Value := l.flatMap Vl.cells
theorem vl3 (x : Vl) : x.cells.length = 3 := rfl

structure Mc where
  l : List Vl
  rd : Nat
  left : Nat
  tr : ByteArray
  out : ByteArray
  e : Int

/-- The machine: its block, and the row of its variables. -/
structure MB (w : World) (m lb : Nat) (inp : ByteArray) (st : Mc) : Prop where
  b : Blk w m [.slice (some ⟨lb, 0, none⟩) 6 6, .string inp, .int .i64 st.rd, .int .i64 st.left, .string st.tr, .string st.out, .int .i64 st.e] 128
  l : Blk w lb (vCells st.l) 163
  ne : m ≠ lb
  six : st.l.length = 6

def MK (m lb : Nat) (b : Nat) : Prop := b = m ∨ b = lb

section
variable {w : World} {m lb : Nat} {inp : ByteArray} {st : Mc}

theorem MB.c (h : MB w m lb inp st) : w.cell? ⟨m, 0, none⟩ = some (.slice (some ⟨lb, 0, none⟩) 6 6) ∧ w.cell? ⟨m, 1, none⟩ = some (.string inp) ∧ w.cell? ⟨m, 2, none⟩ = some (.int .i64 st.rd) ∧
    w.cell? ⟨m, 3, none⟩ = some (.int .i64 st.left) ∧ w.cell? ⟨m, 4, none⟩ = some (.string st.tr) ∧ w.cell? ⟨m, 5, none⟩ = some (.string st.out) ∧ w.cell? ⟨m, 6, none⟩ = some (.int .i64 st.e) ∧ ∀ o, w.frozen? ⟨m, o, none⟩ = false :=
  ⟨h.b.cell 0, h.b.cell 1, h.b.cell 2, h.b.cell 3, h.b.cell 4, h.b.cell 5, h.b.cell 6, h.b.frozen⟩

theorem MB.v (h : MB w m lb inp st) (i j : Nat) (hi : i < st.l.length) (hj : j < 3) : w.cell? ⟨lb, i * 3 + j, none⟩ = st.l[i].cells[j]? := by
  rw [h.l.cell]; exact flat_get Vl.cells 3 vl3 st.l i j hi hj

theorem MB.vs (h : MB w m lb inp st) (i : Nat) (hi : i < st.l.length) : w.cell? ⟨lb, i * 3, none⟩ = some (.int .u8 st.l[i].k) ∧ w.cell? ⟨lb, i * 3 + 1, none⟩ = some (.int .i64 st.l[i].n) ∧ w.cell? ⟨lb, i * 3 + 2, none⟩ = some (.int .u8 st.l[i].v) :=
  ⟨h.v i 0 hi (by decide), h.v i 1 hi (by decide), h.v i 2 hi (by decide)⟩

theorem MB.lt (h : MB w m lb inp st) : m < w.heap.size ∧ lb < w.heap.size := ⟨h.b.lt, h.l.lt⟩
theorem MB.n (h : MB w m lb inp st) (n : Nat) : MB (w.drewN n) m lb inp st := ⟨h.b, h.l, h.ne, h.six⟩
theorem MB.drew (h : MB w m lb inp st) : MB w.drew m lb inp st := ⟨h.b, h.l, h.ne, h.six⟩
theorem MB.alloc (h : MB w m lb inp st) (o : Obj) : MB (w.alloc o) m lb inp st := ⟨h.b.alloc o, h.l.alloc o, h.ne, h.six⟩
theorem MB.kp {S : Nat → Prop} {w' : World} (h : MB w m lb inp st) (k : Kp S w w') (h1 : ¬ S m) (h2 : ¬ S lb) : MB w' m lb inp st := ⟨k.blk h.b h1, k.blk h.l h2, h.ne, h.six⟩
theorem MB.other (h : MB w m lb inp st) {a : Addr} (v : Value) (h1 : a.block ≠ m) (h2 : a.block ≠ lb) : MB (w.setCell a v) m lb inp st := ⟨h.b.other v (Ne.symm h1), h.l.other v (Ne.symm h2), h.ne, h.six⟩
theorem MB.setOut (h : MB w m lb inp st) (n : ByteArray) : MB (w.setCell ⟨m, 5, none⟩ (.string n)) m lb inp { st with out := n } := ⟨h.b.set 5 _, h.l.other _ (Ne.symm h.ne), h.ne, h.six⟩
end

def kindsB (a : ByteArray) (l : List Vl) : ByteArray := l.foldl (fun a x => a ++ strOfNums [x.k]) a

theorem str1 (k : Int) : (strOfNums [k]).size = 1 := by simp [strOfNums_size]

theorem kindsB_size (a : ByteArray) (l : List Vl) : (kindsB a l).size = a.size + l.length := by
  unfold kindsB
  induction l generalizing a with
  | nil => rfl
  | cons x l ih => rw [List.foldl_cons, ih, ByteArray.size_append, str1]; simp; omega

theorem twoB_size (n : Nat) : (twoB n).size = 2 := by simp [twoB, strOfNums_size]

def toldB (n : Nat) (l : List Vl) : ByteArray := kindsB (twoB n) l

def sp : ByteArray := ⟨#[32]⟩

end Go.Proofs.YtellieabhaphhaaGreatDoor

/-
  narrowref's machine: steps, input.
-/
namespace Go.Proofs.YtellieabhaphhaaGreatDoor
open Go.RowKit

def startF (st : Mc) (n : Nat) : Mc × Bool :=
  if st.left = 0 then ({ st with e := 4 }, false) else ({ st with left := st.left - 1, tr := st.tr ++ toldB n st.l ++ sp }, true)

def inVal (c : Nat) : Vl :=
  if 48 ≤ c ∧ c ≤ 57 then ⟨110, (c : Int) - 48, 0⟩ else if c = 84 then ⟨116, 0, 0⟩ else if c = 70 then ⟨102, 0, 0⟩ else if c = 65 then ⟨65, 0, 0⟩ else if c = 66 then ⟨66, 0, 122⟩ else if c = 67 then ⟨67, 0, 0⟩ else ⟨122, 0, 0⟩

def nextF (inp : ByteArray) (st : Mc) : Vl × Mc :=
  if st.rd < inp.size then (inVal (pk inp st.rd), { st with rd := st.rd + 1 }) else (inVal 90, st)

theorem Blk.c3 {w : World} {b : Nat} {a0 a1 a2 : Value} {T : TypeId} (h : Blk w b [a0, a1, a2] T) :
    w.cell? ⟨b, 0, none⟩ = some a0 ∧ w.cell? ⟨b, 1, none⟩ = some a1 ∧ w.cell? ⟨b, 2, none⟩ = some a2 ∧ ∀ o, w.frozen? ⟨b, o, none⟩ = false :=
  ⟨h.cell 0, h.cell 1, h.cell 2, h.frozen⟩

end Go.Proofs.YtellieabhaphhaaGreatDoor

/-
  narrow: kinds, values and signs, against the answer's own.
-/
namespace Go.Proofs.YtellieabhaphhaaGreatDoor
open Go.RowKit

/-- The bit of a kind's sign. -/
def bit (k : Int) : Int := if k = 110 then 1 else if k = 116 then 2 else if k = 102 then 4 else if k = 122 then 8 else if k = 65 then 16 else if k = 66 then 32 else if k = 67 then 64 else 0

def KOk (k : Int) : Prop := k = 110 ∨ k = 116 ∨ k = 102 ∨ k = 122 ∨ k = 65 ∨ k = 66 ∨ k = 67

/-- A value as narrow holds it. -/
def Vl.nc (x : Vl) : List Value := [.int .i64 (bit x.k), .int .i64 x.n, .int .i64 (bit x.v)]

set_option maxHeartbeats 400000 in
theorem nkindSign_c (k : Int) (h : KOk k) (w : World) :
    Calls Tryz.prog 141 #[.int .i64 (bit k)] w fun e w' => e = .returned (.string (strOfNums [k])) ∧ w' = w := by
  rcases h with rfl | rfl | rfl | rfl | rfl | rfl | rfl
  all_goals
    simp only [bit, reduceIte, Int.reduceEq]
    go_enter Tryz.func141, Tryz.ntmps141
    go_wp2
    go_ret
    exact ⟨rfl, rfl⟩

set_option maxHeartbeats 800000 in
theorem nkindOfSign_c (c : Nat) (w : World) :
    Calls Tryz.prog 185 #[.int .u8 c] w fun e w' => e = .returned (.int .i64 (bit c)) ∧ w' = w := by
  by_cases h110 : c = 110
  · subst h110
    go_enter Tryz.func185, Tryz.ntmps185
    go_wp2
    go_ret
    exact ⟨rfl, rfl⟩
  by_cases h116 : c = 116
  · subst h116
    go_enter Tryz.func185, Tryz.ntmps185
    go_wp2
    go_ret
    exact ⟨rfl, rfl⟩
  by_cases h102 : c = 102
  · subst h102
    go_enter Tryz.func185, Tryz.ntmps185
    go_wp2
    go_ret
    exact ⟨rfl, rfl⟩
  by_cases h122 : c = 122
  · subst h122
    go_enter Tryz.func185, Tryz.ntmps185
    go_wp2
    go_ret
    exact ⟨rfl, rfl⟩
  by_cases h65 : c = 65
  · subst h65
    go_enter Tryz.func185, Tryz.ntmps185
    go_wp2
    go_ret
    exact ⟨rfl, rfl⟩
  by_cases h66 : c = 66
  · subst h66
    go_enter Tryz.func185, Tryz.ntmps185
    go_wp2
    go_ret
    exact ⟨rfl, rfl⟩
  by_cases h67 : c = 67
  · subst h67
    go_enter Tryz.func185, Tryz.ntmps185
    go_wp2
    go_ret
    exact ⟨rfl, rfl⟩
  have HV := hide (show bit c = 0 by unfold bit; repeat' (first | rw [if_neg (by omega)] | rfl))
  rw [HV.out]
  have f110 : ((c : Int) == 110) = false := by simp; omega
  have f116 : ((c : Int) == 116) = false := by simp; omega
  have f102 : ((c : Int) == 102) = false := by simp; omega
  have f122 : ((c : Int) == 122) = false := by simp; omega
  have f65 : ((c : Int) == 65) = false := by simp; omega
  have f66 : ((c : Int) == 66) = false := by simp; omega
  have f67 : ((c : Int) == 67) = false := by simp; omega
  go_enter Tryz.func185, Tryz.ntmps185
  go_wp2
  go_ret
  exact ⟨rfl, rfl⟩

/-- What a sign stands for in a node. -/
def conV (c : Nat) : Vl :=
  if 48 ≤ c ∧ c ≤ 57 then ⟨110, (c : Int) - 48, 0⟩ else if c = 84 then ⟨116, 0, 0⟩ else if c = 70 then ⟨102, 0, 0⟩ else if c = 90 then ⟨122, 0, 0⟩ else if c = 67 then ⟨67, 0, 0⟩ else ⟨0, 0, 0⟩

set_option maxHeartbeats 1600000 in
theorem nconstantOfSign_c (c : Nat) (hc : c < 256) (w : World) :
    Calls Tryz.prog 183 #[.int .u8 c] w fun e w' => e = .returned (.agg (conV c).nc.toArray) ∧ Kp no w w' := by
  by_cases g0 : 48 ≤ c ∧ c ≤ 57
  · have HV := hide (show (conV c).nc = [.int .i64 1, .int .i64 ((c : Int) - 48), .int .i64 0] by rw [conV, if_pos g0]; rfl)
    obtain ⟨g0, g0'⟩ := g0
    go_enter Tryz.func183, Tryz.ntmps183
    go_wp2
    refine body_agg (Tb := 89) (b := w.heap.size) (cs := [.int .i64 1, .int .i64 ((c : Int) - 48), .int .i64 0]) (.inr rfl) Tryz.results183 rfl rfl (by (repeat' (first | ((with_reducible show (_ : List Value) = _); rfl) | ((with_reducible refine Blk.newAt _ _ _ ?_); first | with_reducible rfl | (simp; done)) | with_reducible refine Blk.alloc ?_ _ | with_reducible refine Blk.drewN ?_ _ | with_reducible refine Blk.drew ?_ | ((with_reducible refine Blk.other ?_ _ ?_); rotate_left; ((try dsimp only); omega)) | with_reducible refine Blk.setB (cs0 := ?_) ?_ ?_))) Tryz.underlying89 rfl (by kernel_rfl) ?_
    rw [HV.out]
    exact ⟨rfl, by (repeat' (first | with_reducible exact Kp.refl _ _ | with_reducible refine Kp.alloc ?_ _ | with_reducible refine Kp.drewN ?_ _ | with_reducible refine Kp.drew ?_ | with_reducible refine Kp.setCell ?_ _ ?_ | (intro hh; first | rfl | exact .inl rfl | exact .inr rfl | (exfalso; (try dsimp only at hh); omega))))⟩
  have g0' : ¬ (48 ≤ (c : Int) ∧ (c : Int) ≤ 57) := by omega
  by_cases h84 : c = 84
  · subst h84
    have HV := hide (show (conV 84).nc = [.int .i64 2, .int .i64 0, .int .i64 0] by rfl)
    go_enter Tryz.func183, Tryz.ntmps183
    go_wp2
    refine body_agg (Tb := 89) (b := w.heap.size) (cs := [.int .i64 2, .int .i64 0, .int .i64 0]) (.inr rfl) Tryz.results183 rfl rfl (by (repeat' (first | ((with_reducible show (_ : List Value) = _); rfl) | ((with_reducible refine Blk.newAt _ _ _ ?_); first | with_reducible rfl | (simp; done)) | with_reducible refine Blk.alloc ?_ _ | with_reducible refine Blk.drewN ?_ _ | with_reducible refine Blk.drew ?_ | ((with_reducible refine Blk.other ?_ _ ?_); rotate_left; ((try dsimp only); omega)) | with_reducible refine Blk.setB (cs0 := ?_) ?_ ?_))) Tryz.underlying89 rfl (by kernel_rfl) ?_
    rw [HV.out]
    exact ⟨rfl, by (repeat' (first | with_reducible exact Kp.refl _ _ | with_reducible refine Kp.alloc ?_ _ | with_reducible refine Kp.drewN ?_ _ | with_reducible refine Kp.drew ?_ | with_reducible refine Kp.setCell ?_ _ ?_ | (intro hh; first | rfl | exact .inl rfl | exact .inr rfl | (exfalso; (try dsimp only at hh); omega))))⟩
  by_cases h70 : c = 70
  · subst h70
    have HV := hide (show (conV 70).nc = [.int .i64 4, .int .i64 0, .int .i64 0] by rfl)
    go_enter Tryz.func183, Tryz.ntmps183
    go_wp2
    refine body_agg (Tb := 89) (b := w.heap.size) (cs := [.int .i64 4, .int .i64 0, .int .i64 0]) (.inr rfl) Tryz.results183 rfl rfl (by (repeat' (first | ((with_reducible show (_ : List Value) = _); rfl) | ((with_reducible refine Blk.newAt _ _ _ ?_); first | with_reducible rfl | (simp; done)) | with_reducible refine Blk.alloc ?_ _ | with_reducible refine Blk.drewN ?_ _ | with_reducible refine Blk.drew ?_ | ((with_reducible refine Blk.other ?_ _ ?_); rotate_left; ((try dsimp only); omega)) | with_reducible refine Blk.setB (cs0 := ?_) ?_ ?_))) Tryz.underlying89 rfl (by kernel_rfl) ?_
    rw [HV.out]
    exact ⟨rfl, by (repeat' (first | with_reducible exact Kp.refl _ _ | with_reducible refine Kp.alloc ?_ _ | with_reducible refine Kp.drewN ?_ _ | with_reducible refine Kp.drew ?_ | with_reducible refine Kp.setCell ?_ _ ?_ | (intro hh; first | rfl | exact .inl rfl | exact .inr rfl | (exfalso; (try dsimp only at hh); omega))))⟩
  by_cases h90 : c = 90
  · subst h90
    have HV := hide (show (conV 90).nc = [.int .i64 8, .int .i64 0, .int .i64 0] by rfl)
    go_enter Tryz.func183, Tryz.ntmps183
    go_wp2
    refine body_agg (Tb := 89) (b := w.heap.size) (cs := [.int .i64 8, .int .i64 0, .int .i64 0]) (.inr rfl) Tryz.results183 rfl rfl (by (repeat' (first | ((with_reducible show (_ : List Value) = _); rfl) | ((with_reducible refine Blk.newAt _ _ _ ?_); first | with_reducible rfl | (simp; done)) | with_reducible refine Blk.alloc ?_ _ | with_reducible refine Blk.drewN ?_ _ | with_reducible refine Blk.drew ?_ | ((with_reducible refine Blk.other ?_ _ ?_); rotate_left; ((try dsimp only); omega)) | with_reducible refine Blk.setB (cs0 := ?_) ?_ ?_))) Tryz.underlying89 rfl (by kernel_rfl) ?_
    rw [HV.out]
    exact ⟨rfl, by (repeat' (first | with_reducible exact Kp.refl _ _ | with_reducible refine Kp.alloc ?_ _ | with_reducible refine Kp.drewN ?_ _ | with_reducible refine Kp.drew ?_ | with_reducible refine Kp.setCell ?_ _ ?_ | (intro hh; first | rfl | exact .inl rfl | exact .inr rfl | (exfalso; (try dsimp only at hh); omega))))⟩
  by_cases h67 : c = 67
  · subst h67
    have HV := hide (show (conV 67).nc = [.int .i64 64, .int .i64 0, .int .i64 0] by rfl)
    go_enter Tryz.func183, Tryz.ntmps183
    go_wp2
    refine body_agg (Tb := 89) (b := w.heap.size) (cs := [.int .i64 64, .int .i64 0, .int .i64 0]) (.inr rfl) Tryz.results183 rfl rfl (by (repeat' (first | ((with_reducible show (_ : List Value) = _); rfl) | ((with_reducible refine Blk.newAt _ _ _ ?_); first | with_reducible rfl | (simp; done)) | with_reducible refine Blk.alloc ?_ _ | with_reducible refine Blk.drewN ?_ _ | with_reducible refine Blk.drew ?_ | ((with_reducible refine Blk.other ?_ _ ?_); rotate_left; ((try dsimp only); omega)) | with_reducible refine Blk.setB (cs0 := ?_) ?_ ?_))) Tryz.underlying89 rfl (by kernel_rfl) ?_
    rw [HV.out]
    exact ⟨rfl, by (repeat' (first | with_reducible exact Kp.refl _ _ | with_reducible refine Kp.alloc ?_ _ | with_reducible refine Kp.drewN ?_ _ | with_reducible refine Kp.drew ?_ | with_reducible refine Kp.setCell ?_ _ ?_ | (intro hh; first | rfl | exact .inl rfl | exact .inr rfl | (exfalso; (try dsimp only at hh); omega))))⟩
  have HV := hide (show (conV c).nc = [.int .i64 0, .int .i64 0, .int .i64 0] by rw [conV, if_neg g0, if_neg h84, if_neg h70, if_neg h90, if_neg h67]; rfl)
  have f84 : ((c : Int) == 84) = false := by simp; omega
  have f70 : ((c : Int) == 70) = false := by simp; omega
  have f90 : ((c : Int) == 90) = false := by simp; omega
  have f67 : ((c : Int) == 67) = false := by simp; omega
  rcases Nat.lt_or_ge c 48 with q | q
  · go_enter Tryz.func183, Tryz.ntmps183
    go_wp2
    refine body_agg (Tb := 89) (b := w.heap.size) (cs := [.int .i64 0, .int .i64 0, .int .i64 0]) (.inr rfl) Tryz.results183 rfl rfl (by (repeat' (first | ((with_reducible show (_ : List Value) = _); rfl) | ((with_reducible refine Blk.newAt _ _ _ ?_); first | with_reducible rfl | (simp; done)) | with_reducible refine Blk.alloc ?_ _ | with_reducible refine Blk.drewN ?_ _ | with_reducible refine Blk.drew ?_ | ((with_reducible refine Blk.other ?_ _ ?_); rotate_left; ((try dsimp only); omega)) | with_reducible refine Blk.setB (cs0 := ?_) ?_ ?_))) Tryz.underlying89 rfl (by kernel_rfl) ?_
    rw [HV.out]
    exact ⟨rfl, by (repeat' (first | with_reducible exact Kp.refl _ _ | with_reducible refine Kp.alloc ?_ _ | with_reducible refine Kp.drewN ?_ _ | with_reducible refine Kp.drew ?_ | with_reducible refine Kp.setCell ?_ _ ?_ | (intro hh; first | rfl | exact .inl rfl | exact .inr rfl | (exfalso; (try dsimp only at hh); omega))))⟩
  · go_enter Tryz.func183, Tryz.ntmps183
    go_wp2
    refine body_agg (Tb := 89) (b := w.heap.size) (cs := [.int .i64 0, .int .i64 0, .int .i64 0]) (.inr rfl) Tryz.results183 rfl rfl (by (repeat' (first | ((with_reducible show (_ : List Value) = _); rfl) | ((with_reducible refine Blk.newAt _ _ _ ?_); first | with_reducible rfl | (simp; done)) | with_reducible refine Blk.alloc ?_ _ | with_reducible refine Blk.drewN ?_ _ | with_reducible refine Blk.drew ?_ | ((with_reducible refine Blk.other ?_ _ ?_); rotate_left; ((try dsimp only); omega)) | with_reducible refine Blk.setB (cs0 := ?_) ?_ ?_))) Tryz.underlying89 rfl (by kernel_rfl) ?_
    rw [HV.out]
    exact ⟨rfl, by (repeat' (first | with_reducible exact Kp.refl _ _ | with_reducible refine Kp.alloc ?_ _ | with_reducible refine Kp.drewN ?_ _ | with_reducible refine Kp.drew ?_ | with_reducible refine Kp.setCell ?_ _ ?_ | (intro hh; first | rfl | exact .inl rfl | exact .inr rfl | (exfalso; (try dsimp only at hh); omega))))⟩

theorem bit_con (c : Nat) : bit (conV c).k = 0 ↔ ¬ ((48 ≤ c ∧ c ≤ 57) ∨ c = 84 ∨ c = 70 ∨ c = 90 ∨ c = 67) := by
  unfold conV; repeat' split
  all_goals simp [bit]
  all_goals omega

theorem inVal_con (c : Nat) (h : bit (conV c).k ≠ 0) : inVal c = conV c := by
  have h' := mt (bit_con c).2 h
  unfold inVal conV
  repeat' split
  all_goals first | rfl | (exfalso; omega)

theorem inVal_nul (c : Nat) (h : bit (conV c).k = 0) (h1 : c ≠ 65) (h2 : c ≠ 66) : inVal c = ⟨122, 0, 0⟩ := by
  have h' := (bit_con c).1 h
  unfold inVal
  repeat' split
  all_goals first | rfl | (exfalso; omega)

set_option maxHeartbeats 1600000 in
theorem ninputValue_c (c : Nat) (hc : c < 256) (w : World) :
    Calls Tryz.prog 169 #[.int .u8 c] w fun e w' => e = .returned (.agg (inVal c).nc.toArray) ∧ Kp no w w' := by
  by_cases h65 : c = 65
  · subst h65
    have HV := hide (show (inVal 65).nc = [.int .i64 16, .int .i64 0, .int .i64 0] by rfl)
    go_enter Tryz.func169, Tryz.ntmps169
    go_wp2
    refine body_agg (Tb := 89) (b := w.heap.size) (cs := [.int .i64 16, .int .i64 0, .int .i64 0]) (.inr rfl) Tryz.results169 rfl rfl (by (repeat' (first | ((with_reducible show (_ : List Value) = _); rfl) | ((with_reducible refine Blk.newAt _ _ _ ?_); first | with_reducible rfl | (simp; done)) | with_reducible refine Blk.alloc ?_ _ | with_reducible refine Blk.drewN ?_ _ | with_reducible refine Blk.drew ?_ | ((with_reducible refine Blk.other ?_ _ ?_); rotate_left; ((try dsimp only); omega)) | with_reducible refine Blk.setB (cs0 := ?_) ?_ ?_))) Tryz.underlying89 rfl (by kernel_rfl) ?_
    rw [HV.out]
    exact ⟨rfl, by (repeat' (first | with_reducible exact Kp.refl _ _ | with_reducible refine Kp.alloc ?_ _ | with_reducible refine Kp.drewN ?_ _ | with_reducible refine Kp.drew ?_ | with_reducible refine Kp.setCell ?_ _ ?_ | (intro hh; first | rfl | exact .inl rfl | exact .inr rfl | (exfalso; (try dsimp only at hh); omega))))⟩
  by_cases h66 : c = 66
  · subst h66
    have HV := hide (show (inVal 66).nc = [.int .i64 32, .int .i64 0, .int .i64 8] by rfl)
    go_enter Tryz.func169, Tryz.ntmps169
    go_wp2
    refine body_agg (Tb := 89) (b := w.heap.size) (cs := [.int .i64 32, .int .i64 0, .int .i64 8]) (.inr rfl) Tryz.results169 rfl rfl (by (repeat' (first | ((with_reducible show (_ : List Value) = _); rfl) | ((with_reducible refine Blk.newAt _ _ _ ?_); first | with_reducible rfl | (simp; done)) | with_reducible refine Blk.alloc ?_ _ | with_reducible refine Blk.drewN ?_ _ | with_reducible refine Blk.drew ?_ | ((with_reducible refine Blk.other ?_ _ ?_); rotate_left; ((try dsimp only); omega)) | with_reducible refine Blk.setB (cs0 := ?_) ?_ ?_))) Tryz.underlying89 rfl (by kernel_rfl) ?_
    rw [HV.out]
    exact ⟨rfl, by (repeat' (first | with_reducible exact Kp.refl _ _ | with_reducible refine Kp.alloc ?_ _ | with_reducible refine Kp.drewN ?_ _ | with_reducible refine Kp.drew ?_ | with_reducible refine Kp.setCell ?_ _ ?_ | (intro hh; first | rfl | exact .inl rfl | exact .inr rfl | (exfalso; (try dsimp only at hh); omega))))⟩
  have f65 : ((c : Int) == 65) = false := by simp; omega
  have f66 : ((c : Int) == 66) = false := by simp; omega
  have HC := hide (fun W => nconstantOfSign_c c hc W)
  by_cases hb : bit (conV c).k = 0
  · have HV := hide (show (inVal c).nc = [.int .i64 8, .int .i64 0, .int .i64 0] by rw [inVal_nul c hb h65 h66]; rfl)
    unfold Vl.nc at HC
    rw [hb] at HC
    generalize (conV c).n = cn at HC
    generalize bit (conV c).v = cv at HC
    go_enter Tryz.func169, Tryz.ntmps169
    go_wp2_with fail
    refine (HC.out _).mono ?_
    rintro e w1 ⟨rfl, k1⟩
    have hR : Blk w1 w.heap.size [.int .i64 0, .int .i64 0, .int .i64 0] 89 := k1.blk (by (repeat' (first | ((with_reducible show (_ : List Value) = _); rfl) | ((with_reducible refine Blk.newAt _ _ _ ?_); first | with_reducible rfl | (simp; done)) | with_reducible refine Blk.alloc ?_ _ | with_reducible refine Blk.drewN ?_ _ | with_reducible refine Blk.drew ?_ | ((with_reducible refine Blk.other ?_ _ ?_); rotate_left; ((try dsimp only); omega)) | with_reducible refine Blk.setB (cs0 := ?_) ?_ ?_))) no_elim
    have hz := hR.lt
    obtain ⟨z0, z1, z2, zf⟩ := hR.c3
    go_wp2
    refine body_agg (Tb := 89) (b := w.heap.size) (cs := [.int .i64 8, .int .i64 0, .int .i64 0]) (.inr rfl) Tryz.results169 rfl rfl (by (repeat' (first | ((with_reducible show (_ : List Value) = _); rfl) | with_reducible exact hR | ((with_reducible refine Blk.newAt _ _ _ ?_); first | with_reducible rfl | (simp; done)) | with_reducible refine Blk.alloc ?_ _ | with_reducible refine Blk.drewN ?_ _ | with_reducible refine Blk.drew ?_ | ((with_reducible refine Blk.other ?_ _ ?_); rotate_left; ((try dsimp only); omega)) | with_reducible refine Blk.setB (cs0 := ?_) ?_ ?_))) Tryz.underlying89 rfl (by kernel_rfl) ?_
    rw [HV.out]
    exact ⟨rfl, by (repeat' (first | with_reducible exact Kp.refl _ _ | with_reducible refine Kp.alloc ?_ _ | with_reducible refine Kp.drewN ?_ _ | with_reducible refine Kp.drew ?_ | with_reducible refine Kp.setCell ?_ _ ?_ | with_reducible refine Kp.trans ?_ k1 (fun _ _ e => e) | (intro hh; first | rfl | exact .inl rfl | exact .inr rfl | (exfalso; (try dsimp only at hh); omega))))⟩
  · have HV := hide (show (inVal c).nc = [.int .i64 (bit (conV c).k), .int .i64 (conV c).n, .int .i64 (bit (conV c).v)] by rw [inVal_con c hb]; rfl)
    unfold Vl.nc at HC
    have hb' : (bit (conV c).k == 0) = false := by simp [hb]
    generalize bit (conV c).k = ck at *
    generalize (conV c).n = cn at *
    generalize bit (conV c).v = cv at *
    go_enter Tryz.func169, Tryz.ntmps169
    go_wp2_with fail
    refine (HC.out _).mono ?_
    rintro e w1 ⟨rfl, k1⟩
    have hR : Blk w1 w.heap.size [.int .i64 0, .int .i64 0, .int .i64 0] 89 := k1.blk (by (repeat' (first | ((with_reducible show (_ : List Value) = _); rfl) | ((with_reducible refine Blk.newAt _ _ _ ?_); first | with_reducible rfl | (simp; done)) | with_reducible refine Blk.alloc ?_ _ | with_reducible refine Blk.drewN ?_ _ | with_reducible refine Blk.drew ?_ | ((with_reducible refine Blk.other ?_ _ ?_); rotate_left; ((try dsimp only); omega)) | with_reducible refine Blk.setB (cs0 := ?_) ?_ ?_))) no_elim
    have hz := hR.lt
    obtain ⟨z0, z1, z2, zf⟩ := hR.c3
    go_wp2
    refine body_agg (Tb := 89) (b := w.heap.size) (cs := [.int .i64 ck, .int .i64 cn, .int .i64 cv]) (.inr rfl) Tryz.results169 rfl rfl (by (repeat' (first | ((with_reducible show (_ : List Value) = _); rfl) | with_reducible exact hR | ((with_reducible refine Blk.newAt _ _ _ ?_); first | with_reducible rfl | (simp; done)) | with_reducible refine Blk.alloc ?_ _ | with_reducible refine Blk.drewN ?_ _ | with_reducible refine Blk.drew ?_ | ((with_reducible refine Blk.other ?_ _ ?_); rotate_left; ((try dsimp only); omega)) | with_reducible refine Blk.setB (cs0 := ?_) ?_ ?_))) Tryz.underlying89 rfl (by kernel_rfl) ?_
    rw [HV.out]
    exact ⟨rfl, by (repeat' (first | with_reducible exact Kp.refl _ _ | with_reducible refine Kp.alloc ?_ _ | with_reducible refine Kp.drewN ?_ _ | with_reducible refine Kp.drew ?_ | with_reducible refine Kp.setCell ?_ _ ?_ | with_reducible refine Kp.trans ?_ k1 (fun _ _ e => e) | (intro hh; first | rfl | exact .inl rfl | exact .inr rfl | (exfalso; (try dsimp only at hh); omega))))⟩

end Go.Proofs.YtellieabhaphhaaGreatDoor
