import Derived.Test.YtellieabhaphhaaGreatDoorPRunsL
/-
  narrow: the nodes of a source.
-/
namespace Go.Proofs.YtellieabhaphhaaGreatDoor
open Go.RowKit

def SrcP (s : ByteArray) (w : World) (e : Ending) (w' : World) : Prop :=
  ∃ v, e = .returned (.tuple #[v, .int .i64 (srE s).1, .int .i64 (srE s).2]) ∧ Kp no w w' ∧ ((srE s).1 = 0 → NRow w' v (nodM (srM s)) ∧ New w v)

set_option maxHeartbeats 800000 in
theorem nos_long (s : ByteArray) (w : World) (hm : s.size ≤ maxLen) (hs : 180 < s.size) :
    Calls Tryz.prog 30 #[.string s] w fun e w' => e = .returned (.tuple #[.slice none 0 0, .int .i64 1, .int .i64 0]) ∧ Kp no w w' := by
  unfold maxLen at hm
  go_enter Tryz.func30, Tryz.ntmps30
  go_wp2
  go_ret3
  exact ⟨rfl, by (repeat' (first | with_reducible exact Kp.refl _ _ | with_reducible refine Kp.alloc ?_ _ | with_reducible refine Kp.drewN ?_ _ | with_reducible refine Kp.drew ?_ | with_reducible refine Kp.setCell ?_ _ ?_ | (intro hh; first | rfl | exact .inl rfl | exact .inr rfl | (exfalso; (try dsimp only at hh); omega))))⟩

set_option maxHeartbeats 1600000 in
theorem nos_c (s : ByteArray) (w : World) (hs : s.size ≤ 180) :
    Calls Tryz.prog 30 #[.string s] w fun e w' => SrcP s w e w' := by
  have HS := hide (fun W r O (hM : Mp W r s ms0 O) => stm_all (s.size + 1) r s (-1) (-1) ms0 hs (fun _ => by show s.size - 0 < _; omega) ⟨Nat.zero_le _, Nat.zero_le _, Nat.zero_le _⟩ W O hM)
  have HF : Hid (srM s = stmM (s.size + 1) s (-1) (-1) ms0) := rfl
  have hI := srM_mi s
  have n1 := hI.row; have n2 := hI.mm; have n3 := hI.i; have nb := bc_le (srM s).p
  clear hI
  have HE : Hid (srE s = if (srM s).p.2 = true ∨ (srM s).p.1 ≠ s.size then (2, ((srM s).p.1 : Int)) else (0, 0)) := rfl
  go_enter Tryz.func30, Tryz.ntmps30
  go_wp2_with fail
  have h0 : Mp (w.alloc (.cells #[.string s, .int .i64 0, .bool false, .slice none 0 0, .slice none 0 0] 84)) w.heap.size s ms0 (Own w.heap.size (.slice none 0 0) (.slice none 0 0)) :=
    ⟨_, _, Blk.new w [.string s, .int .i64 0, .bool false, .slice none 0 0, .slice none 0 0] _, World.ownsRow_nil _ _ _ _, World.ownsRow_nil _ _ _ _, by simp [Value.ownBlock], by simp [Value.ownBlock], by simp [Value.ownBlock], rfl⟩
  refine (HS.out _ w.heap.size _ h0).mono ?_
  rw [← HF.out]
  rintro e w1 ⟨rfl, O1, h1, t1⟩
  generalize hst : srM s = m at h1 n1 n2 n3 nb HE
  have HST := hide hst
  clear hst
  have hk : Kp no w w1 := ((Kp.refl no w).alloc _).trans t1.1 (fun x hx e => by
    rcases e with e | e | e
    · omega
    · simp [Value.ownBlock] at e
    · simp [Value.ownBlock] at e)
  obtain ⟨c0, c1, c2, cf⟩ := h1.c
  have HMO : Hid (∃ nv iv, Mo w1 w.heap.size s m nv iv) := by
    obtain ⟨nv, iv, hB, hN, hI, d1, d2, d3, _⟩ := h1
    exact ⟨nv, iv, hB, hN, hI⟩
  have HK := hide hk
  have hsz := hk.size
  clear hk t1 h1 h0 HS HF
  cases hb : m.p.2
  · rw [hb] at c2
    by_cases hi : m.p.1 = s.size
    · have e1 : srE s = (0, 0) := by rw [HE.out, if_neg (by rw [hb]; simp [hi])]
      obtain ⟨nv, iv, hMo⟩ := HMO.out
      have HN := hide (mnodes_c w1 hMo (by omega))
      have hi' : ((m.p.1 : Int) != (s.size : Int)) = false := by simp [hi]
      have E1 := hide e1
      clear hMo e1 HE hb hi
      generalize m.p.1 = pi at *
      go_wp2_with fail
      refine HN.out.mono ?_
      rintro e w2 ⟨u, rfl, hu, ho, k2⟩
      have HU := hide hu
      have HO := hide ho
      obtain ⟨ua, uc, rfl⟩ := hu.shape
      clear hu ho
      go_wp2
      go_ret3
      exact ⟨_, by rw [E1.out]; rfl, HK.out.trans k2 (fun _ _ e => e), fun _ => ⟨by rw [HST.out]; exact HU.out, fun b hb => by have := HO.out b hb; omega⟩⟩
    · have e1 : srE s = (2, (m.p.1 : Int)) := by rw [HE.out, if_pos (.inr hi)]
      have hi' : ((m.p.1 : Int) != (s.size : Int)) = true := by simp; omega
      have E1 := hide e1
      clear e1 HE hb hi HMO
      generalize m.p.1 = pi at *
      go_wp2
      go_quiet (fail)
      go_wp2
      go_ret3
      exact ⟨_, by rw [E1.out]; rfl, HK.out.drewN _, fun h => absurd h (by rw [E1.out]; show ¬ (2 : Int) = 0; decide)⟩
  · rw [hb] at c2
    have e1 : srE s = (2, (m.p.1 : Int)) := by rw [HE.out, if_pos (.inl hb)]
    have E1 := hide e1
    clear e1 HE hb HMO
    generalize m.p.1 = pi at *
    go_wp2
    go_quiet (fail)
    go_wp2
    go_ret3
    exact ⟨_, by rw [E1.out]; rfl, HK.out.drewN _, fun h => absurd h (by rw [E1.out]; show ¬ (2 : Int) = 0; decide)⟩
end Go.Proofs.YtellieabhaphhaaGreatDoor

/-
  Walk: narrow's and the answer's, at every text.
-/
namespace Go.Proofs.YtellieabhaphhaaGreatDoor
open Go.RowKit

set_option maxHeartbeats 800000 in
theorem nwithin_c (inp : ByteArray) (fuel : Int) (w : World) (hm : inp.size ≤ maxLen) :
    Calls Tryz.prog 56 #[.string inp, .int .i64 fuel] w fun e w' => e = .returned (.bool (decide (inp.size ≤ 40 ∧ 0 ≤ fuel ∧ fuel ≤ 300))) ∧ w' = w := by
  unfold maxLen at hm
  by_cases h1 : inp.size ≤ 40
  · by_cases h2 : 0 ≤ fuel
    · by_cases h3 : fuel ≤ 300
      · rw [decide_eq_true ⟨h1, h2, h3⟩]
        go_enter Tryz.func56, Tryz.ntmps56
        go_wp2
        go_ret
        exact ⟨rfl, rfl⟩
      · rw [decide_eq_false (fun e => h3 e.2.2)]
        have d3 : decide (fuel ≤ 300) = false := by simp; omega
        clear h3
        go_enter Tryz.func56, Tryz.ntmps56
        go_wp2
        go_ret
        exact ⟨rfl, rfl⟩
    · rw [decide_eq_false (fun e => h2 e.2.1)]
      have d3 : decide (0 ≤ fuel) = false := by simp; omega
      clear h2
      go_enter Tryz.func56, Tryz.ntmps56
      go_wp2
      go_ret
      exact ⟨rfl, rfl⟩
  · rw [decide_eq_false (fun e => h1 e.1)]
    have d3 : decide ((inp.size : Int) ≤ 40) = false := by simp; omega
    go_enter Tryz.func56, Tryz.ntmps56
    go_wp2
    go_ret
    exact ⟨rfl, rfl⟩

def em3 (c : Int) : Ending := .returned (.tuple #[.string ByteArray.empty, .string ByteArray.empty, .int .i64 c])

theorem doF_six {inp : ByteArray} {n : Nd} {x : Nat} {xu yu vu : Vl} {m : Mc} (h : m.l.length = 6) : (doF inp n x xu yu vu m).l.length = 6 := by
  unfold doF
  repeat' split
  all_goals first | exact h | (show ((worF inp n yu vu m).2.l.set x _).length = 6; rw [List.length_set, (worF_l inp n yu vu m).1]; exact h)

theorem wkF_total (nds : List Nd) (inp : ByteArray) (hl : nds.length ≤ 90) (hg : ∀ n ∈ nds, Gn n ∧ (n.op ≠ 33 → 0 ≤ n.t) ∧ (n.op = 121 ∨ n.op = 58 → 0 ≤ n.f)) :
    ∀ (c : Nat) (m : Mc) (a : Int), m.left = c → m.l.length = 6 → (m.e = 8 → 0 ≤ a) → ∃ mc', wkF (c + 3) nds inp m a = some mc' := by
  intro c
  induction c with
  | zero =>
    intro m a hc h6 ha
    by_cases hgo : a < nds.length ∧ m.e = 8
    · obtain ⟨at1, rfl⟩ := Int.eq_ofNat_of_zero_le (ha hgo.2)
      obtain ⟨nd, hnd⟩ : ∃ nd, nds[at1]? = some nd := ⟨_, List.getElem?_eq_getElem (by omega)⟩
      have g := (hg nd (List.mem_of_getElem? hnd)).1
      obtain ⟨xu, hxu⟩ : ∃ u, m.l[nd.x.toNat]? = some u := ⟨_, List.getElem?_eq_getElem (by have := g.x; omega)⟩
      obtain ⟨yu, hyu⟩ : ∃ u, m.l[nd.y.toNat]? = some u := ⟨_, List.getElem?_eq_getElem (by have := g.y; omega)⟩
      obtain ⟨vu, hvu⟩ : ∃ u, m.l[nd.v.toNat]? = some u := ⟨_, List.getElem?_eq_getElem (by have := g.v; omega)⟩
      have es : startF m at1 = ({ m with e := 4 }, false) := by rw [startF, if_pos hc]
      refine ⟨{ m with e := 4 }, ?_⟩
      rw [wkF, if_pos hgo, if_pos ⟨by omega, by omega⟩, Int.toNat_natCast, hnd]
      simp only [hxu, hyu, hvu, es, Bool.false_eq_true, if_false]
      rw [wkF, if_neg (fun e => by have := e.2; simp at this)]
    · exact ⟨m, by rw [wkF, if_neg hgo]⟩
  | succ c ih =>
    intro m a hc h6 ha
    by_cases hgo : a < nds.length ∧ m.e = 8
    · obtain ⟨at1, rfl⟩ := Int.eq_ofNat_of_zero_le (ha hgo.2)
      obtain ⟨nd, hnd⟩ : ∃ nd, nds[at1]? = some nd := ⟨_, List.getElem?_eq_getElem (by omega)⟩
      obtain ⟨g, gt, gf⟩ := hg nd (List.mem_of_getElem? hnd)
      obtain ⟨xu, hxu⟩ : ∃ u, m.l[nd.x.toNat]? = some u := ⟨_, List.getElem?_eq_getElem (by have := g.x; omega)⟩
      obtain ⟨yu, hyu⟩ : ∃ u, m.l[nd.y.toNat]? = some u := ⟨_, List.getElem?_eq_getElem (by have := g.y; omega)⟩
      obtain ⟨vu, hvu⟩ : ∃ u, m.l[nd.v.toNat]? = some u := ⟨_, List.getElem?_eq_getElem (by have := g.v; omega)⟩
      have es : startF m at1 = ({ m with left := m.left - 1, tr := m.tr ++ toldB at1 m.l ++ sp }, true) := by rw [startF, if_neg (by omega)]
      rw [show c + 1 + 3 = (c + 3) + 1 from rfl, wkF, if_pos hgo, if_pos ⟨by omega, by omega⟩, Int.toNat_natCast, hnd]
      simp only [hxu, hyu, hvu, es, if_true]
      have hle : ({ m with left := m.left - 1, tr := m.tr ++ toldB at1 m.l ++ sp } : Mc).left = c := by show m.left - 1 = c; omega
      have h60 : ({ m with left := m.left - 1, tr := m.tr ++ toldB at1 m.l ++ sp } : Mc).l.length = 6 := h6
      have he0 : ({ m with left := m.left - 1, tr := m.tr ++ toldB at1 m.l ++ sp } : Mc).e = 8 := hgo.2
      generalize ({ m with left := m.left - 1, tr := m.tr ++ toldB at1 m.l ++ sp } : Mc) = m0 at *
      by_cases ht : nd.op = 121 ∨ nd.op = 58
      · rw [if_pos ht]
        refine ih m0 _ hle h60 (fun _ => ?_)
        split
        · exact gt (by omega)
        · exact gf ht
      · rw [if_neg ht]
        refine ih _ _ (by rw [doF_left]; exact hle) (doF_six h60) (fun e8 => ?_)
        rcases doF_e (inp := inp) (n := nd) (x := nd.x.toNat) (xu := xu) (yu := yu) (vu := vu) he0 with h | h | h | h
        · exact gt h.2
        · omega
        · omega
        · omega
    · exact ⟨m, by rw [wkF, if_neg hgo]⟩

end Go.Proofs.YtellieabhaphhaaGreatDoor

/-
  Plain: tables of states, and the least one.
-/
namespace Go.Proofs.YtellieabhaphhaaGreatDoor
open Go.RowKit

abbrev Tbl := List St

def intoF (T : Tbl) (i : Int) (s : St) : Tbl × Bool :=
  if 0 ≤ i ∧ i < T.length then (T.set i.toNat (joinR (T.getD i.toNat []) s).1, (joinR (T.getD i.toNat []) s).2) else (T, false)

/-- What a node's part of a sweep does. -/
def pasF (n : Nd) (i : Nat) (T : Tbl) : Tbl × Bool :=
  if T.getD i [] = [] then (T, false)
  else if n.op = 121 ∨ n.op = 58 then
    ((intoF (intoF T n.t (hldF n true (T.getD i []))).1 n.f (hldF n false (T.getD i []))).1, (intoF T n.t (hldF n true (T.getD i []))).2 || (intoF (intoF T n.t (hldF n true (T.getD i []))).1 n.f (hldF n false (T.getD i []))).2)
  else intoF T n.t (behF n (T.getD i []))

/-- A sweep. -/
def swpF : List Nd → Nat → Tbl → Tbl × Bool
  | [], _, T => (T, false)
  | n :: l, i, T => ((swpF l (i + 1) (pasF n i T).1).1, (pasF n i T).2 || (swpF l (i + 1) (pasF n i T).1).2)

def itF (l : List Nd) : Nat → Tbl → Tbl
  | 0, T => T
  | k + 1, T => itF l k (swpF l 0 T).1

def TOk (T : Tbl) : Prop := ∀ s ∈ T, SOk s

theorem TOk.get {T : Tbl} (h : TOk T) (i : Nat) : SOk (T.getD i []) := by
  rw [List.getD_eq_getElem?_getD]
  cases hx : T[i]? with
  | none => exact .nil
  | some m => exact h m (List.mem_of_getElem? hx)

theorem TOk.into {T : Tbl} (h : TOk T) (i : Int) {s : St} (hs : SOk s) : TOk (intoF T i s).1 := by
  unfold intoF
  split
  · intro z hz
    rcases List.mem_or_eq_of_mem_set hz with h1 | rfl
    · exact h z h1
    · exact (h.get _).join hs
  · exact h

theorem TOk.pas {T : Tbl} (h : TOk T) (n : Nd) (i : Nat) : TOk (pasF n i T).1 := by
  unfold pasF
  repeat' split
  · exact h
  · exact (h.into _ ((h.get i).hld n true)).into _ ((h.get i).hld n false)
  · exact h.into _ ((h.get i).beh n)

theorem TOk.swp : ∀ {l : List Nd} {i : Nat} {T : Tbl}, TOk T → TOk (swpF l i T).1
  | [], _, _, h => h
  | n :: l, i, T, h => by rw [swpF]; exact TOk.swp (h.pas n i)

theorem TOk.it {l : List Nd} : ∀ {k : Nat} {T : Tbl}, TOk T → TOk (itF l k T)
  | 0, _, h => h
  | k + 1, T, h => by rw [itF]; exact TOk.it h.swp

-- a measure
end Go.Proofs.YtellieabhaphhaaGreatDoor

/-
  narrowref's flow: tables.
-/
namespace Go.Proofs.YtellieabhaphhaaGreatDoor
open Go.RowKit

/-- A table at work. -/
structure TbR (w : World) (tp tb n : Nat) (T : Tbl) (g : Bool) : Prop where
  p : Blk w tp [.slice (some ⟨tb, 0, none⟩) n n, .bool g] 174
  ne : tp ≠ tb
  len : T.length = n
  ex : ∃ vs : List Value, vs.length = n ∧ Blk w tb vs 65 ∧ ∀ i v, vs[i]? = some v → SV w v (T.getD i []) ∧ v.ownBlock ≠ some tp ∧ v.ownBlock ≠ some tb

theorem TbR.kp {w w' : World} {tp tb n : Nat} {T : Tbl} {g : Bool} (h : TbR w tp tb n T g) (k : Kp no w w') : TbR w' tp tb n T g := by
  obtain ⟨vs, h1, h2, h3⟩ := h.ex
  exact ⟨k.blk h.p no_elim, h.ne, h.len, vs, h1, k.blk h2 no_elim, fun i v hv => ⟨k.row (h3 i v hv).1 (fun _ _ => no_elim), (h3 i v hv).2⟩⟩

def TK (tp tb : Nat) (b : Nat) : Prop := b = tp ∨ b = tb

theorem TbR.set {w : World} {tp tb n : Nat} {T : Tbl} {g : Bool} (h : TbR w tp tb n T g) {i : Nat} (hi : i < n) {u : Value} {s : St} (hu : SV w u s) (h1 : u.ownBlock ≠ some tp) (h2 : u.ownBlock ≠ some tb) :
    TbR (w.setCell ⟨tb, i, none⟩ u) tp tb n (T.set i s) g := by
  obtain ⟨vs, e1, e2, e3⟩ := h.ex
  refine ⟨Blk.other h.p _ (fun e => h.ne e), h.ne, by rw [List.length_set]; exact h.len, vs.set i u, by simpa using e1, e2.set i u, ?_⟩
  intro j v hv
  by_cases hj : j = i
  · subst hj
    rw [List.getElem?_set_self (by omega)] at hv
    obtain rfl : u = v := by simpa using hv
    refine ⟨?_, h1, h2⟩
    rw [List.getD_eq_getElem?_getD, List.getElem?_set_self (by rw [h.len]; exact hi)]
    exact Row.set hu _ h2
  · rw [List.getElem?_set_ne (Ne.symm hj)] at hv
    obtain ⟨a1, a2, a3⟩ := e3 j v hv
    refine ⟨?_, a2, a3⟩
    rw [List.getD_eq_getElem?_getD, List.getElem?_set_ne (Ne.symm hj), ← List.getD_eq_getElem?_getD]
    exact Row.set a1 _ a3

theorem TbR.turn {w : World} {tp tb n : Nat} {T : Tbl} {g : Bool} (h : TbR w tp tb n T g) (b : Bool) : TbR (w.setCell ⟨tp, 1, none⟩ (.bool b)) tp tb n T b := by
  obtain ⟨vs, e1, e2, e3⟩ := h.ex
  refine ⟨h.p.set 1 (.bool b), h.ne, h.len, vs, e1, Blk.other e2 _ (fun e => h.ne e.symm), fun j v hv => ?_⟩
  obtain ⟨a1, a2, a3⟩ := e3 j v hv
  exact ⟨Row.set a1 _ a2, a2, a3⟩

theorem TbR.drew {w : World} {tp tb n : Nat} {T : Tbl} {g : Bool} (h : TbR w tp tb n T g) : TbR w.drew tp tb n T g := h.kp (Kp.refl _ _).drew
theorem TbR.drewN {w : World} {tp tb n : Nat} {T : Tbl} {g : Bool} (h : TbR w tp tb n T g) (k : Nat) : TbR (w.drewN k) tp tb n T g := h.kp ((Kp.refl _ _).drewN k)

theorem TbR.c {w : World} {tp tb n : Nat} {T : Tbl} {g : Bool} (h : TbR w tp tb n T g) : w.cell? ⟨tp, 0, none⟩ = some (.slice (some ⟨tb, 0, none⟩) n n) ∧ w.cell? ⟨tp, 1, none⟩ = some (.bool g) ∧ (∀ o, w.frozen? ⟨tp, o, none⟩ = false) ∧ (∀ o, w.frozen? ⟨tb, o, none⟩ = false) ∧ tp < w.heap.size ∧ tb < w.heap.size := by
  obtain ⟨vs, e1, e2, e3⟩ := h.ex
  exact ⟨h.p.cell 0, h.p.cell 1, h.p.frozen, e2.frozen, h.p.lt, e2.lt⟩

theorem TbR.at {w : World} {tp tb n : Nat} {T : Tbl} {g : Bool} (h : TbR w tp tb n T g) {i : Nat} (hi : i < n) :
    ∃ a cap, w.cell? ⟨tb, i, none⟩ = some (.slice a (T.getD i []).length cap) ∧ SV w (.slice a (T.getD i []).length cap) (T.getD i []) ∧ Value.ownBlock (.slice a (T.getD i []).length cap) ≠ some tp ∧ Value.ownBlock (.slice a (T.getD i []).length cap) ≠ some tb := by
  obtain ⟨vs, e1, e2, e3⟩ := h.ex
  obtain ⟨v, hv⟩ : ∃ v, vs[i]? = some v := ⟨_, List.getElem?_eq_getElem (by omega)⟩
  obtain ⟨a1, a2, a3⟩ := e3 i v hv
  obtain ⟨a, cap, rfl⟩ := SV.shape a1
  exact ⟨a, cap, (e2.cell i).trans hv, a1, a2, a3⟩

end Go.Proofs.YtellieabhaphhaaGreatDoor

/-
  narrowref's flow: the least table.
-/
namespace Go.Proofs.YtellieabhaphhaaGreatDoor
open Go.RowKit

abbrev DRow (w : World) (v : Value) (l : List Nd) : Prop := Row w v 63 9 l.length (nCells l)

theorem DRow.shape {w : World} {v : Value} {l : List Nd} (h : DRow w v l) : ∃ a cap, v = .slice a l.length cap := by
  rcases h.2 with ⟨rfl, h0⟩ | ⟨g, cap, cur, rfl, _⟩
  · exact ⟨none, 0, by rw [h0]⟩
  · exact ⟨_, _, rfl⟩

theorem DRow.at {w : World} {a : Option Addr} {cap : Nat} {l : List Nd} (h : DRow w (.slice a l.length cap) l) {k : Nat} {n : Nd} (hk : l[k]? = some n) :
    k < l.length ∧ ∃ g, a = some ⟨g, 0, none⟩ ∧ g < w.heap.size ∧ w.cell? ⟨g, k * 9, none⟩ = some (.int .u8 n.op) ∧ w.cell? ⟨g, k * 9 + 1, none⟩ = some (.int .i64 n.x) ∧ w.cell? ⟨g, k * 9 + 2, none⟩ = some (.int .i64 n.y) ∧ w.cell? ⟨g, k * 9 + 3, none⟩ = some (.int .i64 n.v) ∧ w.cell? ⟨g, k * 9 + 4, none⟩ = some (.int .u8 n.k) ∧ w.cell? ⟨g, k * 9 + 5, none⟩ = some (.int .i64 n.t) ∧ w.cell? ⟨g, k * 9 + 6, none⟩ = some (.int .i64 n.f) ∧ w.cell? ⟨g, k * 9 + 7, none⟩ = some (.int .i64 n.a) ∧ w.cell? ⟨g, k * 9 + 8, none⟩ = some (.int .i64 n.l) := by
  obtain ⟨hl, rfl⟩ := List.getElem?_eq_some_iff.1 hk
  obtain ⟨g, cap', e, _, hg⟩ := World.ownsRow.form h (by omega)
  injection e with e1 e2 e3
  subst e1
  have hc : ∀ j, j < 9 → w.cell? ⟨g, k * 9 + j, none⟩ = l[k].cells[j]? := fun j hj => by
    rw [Row.cell h _ (by have := Nat.mul_le_mul_right 9 hl; omega)]
    exact flat_get Nd.cells 9 nd9 l k j hl hj
  have hlt := Row.lt h (b := g) rfl
  exact ⟨hl, g, rfl, hlt, hc 0 (by decide), hc 1 (by decide), hc 2 (by decide), hc 3 (by decide), hc 4 (by decide), hc 5 (by decide), hc 6 (by decide), hc 7 (by decide), hc 8 (by decide)⟩

/-- The table and the nodes. -/
structure LSc (w : World) (tp tb n : Nat) (T : Tbl) (g : Bool) (v : Value) (l : List Nd) : Prop where
  t : TbR w tp tb n T g
  r : DRow w v l
  o1 : v.ownBlock ≠ some tp
  o2 : v.ownBlock ≠ some tb

theorem LSc.kp {w w' : World} {tp tb n : Nat} {T : Tbl} {g : Bool} {v : Value} {l : List Nd} (h : LSc w tp tb n T g v l) (k : Kp no w w') : LSc w' tp tb n T g v l :=
  ⟨h.t.kp k, k.row h.r (fun _ _ => no_elim), h.o1, h.o2⟩

theorem LSc.tk {w w' : World} {tp tb n : Nat} {T T' : Tbl} {g g' : Bool} {v : Value} {l : List Nd} (h : LSc w tp tb n T g v l) (k : Kp (TK tp tb) w w') (t : TbR w' tp tb n T' g') : LSc w' tp tb n T' g' v l :=
  ⟨t, k.row h.r (fun b hb e => by rcases e with rfl | rfl; exact h.o1 hb; exact h.o2 hb), h.o1, h.o2⟩

theorem LSc.turn {w : World} {tp tb n : Nat} {T : Tbl} {g : Bool} {v : Value} {l : List Nd} (h : LSc w tp tb n T g v l) (b : Bool) : LSc (w.setCell ⟨tp, 1, none⟩ (.bool b)) tp tb n T b v l :=
  ⟨h.t.turn b, Row.set h.r _ h.o1, h.o1, h.o2⟩

theorem New.ne {w : World} {v : Value} {b : Nat} (h : New w v) (hb : b < w.heap.size) : v.ownBlock ≠ some b := fun e => by have := h b e; omega

/-- A state beside the table. -/
def SB (w : World) (tp tb : Nat) (u : Value) (s : St) : Prop := SV w u s ∧ u.ownBlock ≠ some tp ∧ u.ownBlock ≠ some tb

theorem SB.tk {w w' : World} {tp tb : Nat} {u : Value} {s : St} (h : SB w tp tb u s) (k : Kp (TK tp tb) w w') : SB w' tp tb u s :=
  ⟨k.row h.1 (fun b hb e => by rcases e with rfl | rfl; exact h.2.1 hb; exact h.2.2 hb), h.2⟩
theorem SB.kp {w w' : World} {tp tb : Nat} {u : Value} {s : St} (h : SB w tp tb u s) (k : Kp no w w') : SB w' tp tb u s := ⟨k.row h.1 (fun _ _ => no_elim), h.2⟩

end Go.Proofs.YtellieabhaphhaaGreatDoor

/-
  A graph's text: what narrow writes.
-/
namespace Go.Proofs.YtellieabhaphhaaGreatDoor
open Go.RowKit

/-- A node that can be written. -/
structure Ln (n : NN) : Prop where
  tx : n.tx.size ≤ 1000
  yes : n.act ≠ 11 → 0 ≤ n.yes ∧ n.yes < 100
  no : n.act = 12 ∨ n.act = 13 → 0 ≤ n.no ∧ n.no < 100

end Go.Proofs.YtellieabhaphhaaGreatDoor

/-
  narrow.Run, narrow.Graph.
-/
namespace Go.Proofs.YtellieabhaphhaaGreatDoor
open Go.RowKit

theorem nj_take (row : List NN) (j : Nat) : nj (row.take (j + 1)) = nj (row.take j) + (match row[j]? with | some n => if n.act ≠ 15 then 1 else 0 | none => 0) := by
  unfold nj
  rw [List.take_add_one, List.countP_append]
  cases row[j]? with
  | none => rfl
  | some n =>
    show _ + List.countP _ [n] = _ + _
    rw [List.countP_cons, List.countP_nil, Nat.zero_add]
    by_cases h : n.act = 15 <;> simp [h]

theorem ahdA_nj (row : List NN) (p : Nat) : ∀ j, ahdA row p j ≤ nj (row.take j)
  | 0 => Nat.zero_le _
  | j + 1 => by
    have := ahdA_nj row p j
    rw [ahdA, nj_take]
    cases row[j]? with
    | none => exact this
    | some n =>
      dsimp only
      by_cases h : n.act = 15
      · rw [if_neg (fun e => e.2 h), if_neg (fun e => e h)]; exact this
      · rw [if_pos h]
        split <;> omega

theorem nbhM_le (m : MS) (k : Int) : nbhM m k ≤ nj m.row := by
  have := ahdA_nj m.row (hopM m m.row.length (plcM m k)) m.row.length
  rw [List.take_length] at this
  exact this

theorem nodA_nj (m : MS) : ∀ j, (nodA m j).length = nj (m.row.take j)
  | 0 => rfl
  | j + 1 => by
    have := nodA_nj m j
    rw [nodA, nj_take, List.length_append, this]
    cases m.row[j]? with
    | none => rfl
    | some n =>
      dsimp only
      by_cases h : n.act = 15
      · rw [if_pos h, if_neg (fun e => e h)]; rfl
      · rw [if_neg h, if_pos h]; rfl

theorem nodM_nj (m : MS) : (nodM m).length = nj m.row := by
  have := nodA_nj m m.row.length
  rw [List.take_length] at this
  exact this

theorem nodA_mem (m : MS) : ∀ j n, n ∈ nodA m j → ∃ n0 ∈ m.row, n0.act ≠ 15 ∧ n = n0.setW (nbhM m n0.yes) (nbhM m n0.no)
  | 0, n, h => by cases h
  | j + 1, n, h => by
    rw [nodA] at h
    rcases List.mem_append.1 h with h | h
    · exact nodA_mem m j n h
    · cases hj : m.row[j]? with
      | none => rw [hj] at h; cases h
      | some n0 =>
        rw [hj] at h
        dsimp only at h
        by_cases ha : n0.act = 15
        · rw [if_pos ha] at h; cases h
        · rw [if_neg ha] at h
          obtain rfl : n = _ := by simpa using h
          exact ⟨n0, List.mem_of_getElem? hj, ha, rfl⟩

/-- A node as the maker leaves it. -/
def SN (n : NN) : Prop := ∃ nd tx y z, n = encN nd tx y z ∧ Gn nd ∧ tx.size ≤ 1000 ∧ (0 ≤ y ∧ y ≤ 90) ∧ (0 ≤ z ∧ z ≤ 90) ∧ TxP nd tx

theorem src_nodes {s : ByteArray} (hs : s.size ≤ 180) (h : (srE s).1 = 0) : (∀ n ∈ nodM (srM s), SN n) ∧ (nodM (srM s)).length ≤ 90 := by
  obtain ⟨_, g2, g3, _⟩ := srM_good hs h
  refine ⟨fun n hn => ?_, by rw [nodM_nj]; exact g2⟩
  obtain ⟨n0, h1, h2, rfl⟩ := nodA_mem (srM s) _ n hn
  rcases g3 n0 h1 with h3 | ⟨_, nd, tx, y, z, rfl, hg, ht, hp⟩
  · exact absurd h3 h2
  · have b1 := nbhM_le (srM s) (encN nd tx y z).yes
    have b2 := nbhM_le (srM s) (encN nd tx y z).no
    exact ⟨nd, tx, _, _, encW nd tx y z _ _, hg, ht, ⟨Int.natCast_nonneg _, by omega⟩, ⟨Int.natCast_nonneg _, by omega⟩, hp⟩

set_option maxHeartbeats 1600000 in
theorem nrun_long (s inp : ByteArray) (fuel : Int) (w : World) (hm : inp.size ≤ maxLen) (h : ¬ (inp.size ≤ 40 ∧ 0 ≤ fuel ∧ fuel ≤ 300)) :
    Calls Tryz.prog 32 #[.string s, .string inp, .int .i64 fuel] w fun e w' => e = em3 1 ∧ Kp no w w' := by
  have HG := hide (nwithin_c inp fuel w hm)
  rw [decide_eq_false h] at HG
  clear h
  go_enter Tryz.func32, Tryz.ntmps32
  go_wp2_with fail
  refine HG.out.mono ?_
  rintro e w1 ⟨rfl, rfl⟩
  go_wp2
  go_ret3
  exact ⟨rfl, Kp.refl _ _⟩

set_option maxHeartbeats 1600000 in
theorem nrun_big (s inp : ByteArray) (fuel : Int) (w : World) (hm : inp.size ≤ maxLen) (hm2 : s.size ≤ maxLen) (h : inp.size ≤ 40 ∧ 0 ≤ fuel ∧ fuel ≤ 300) (hs : 180 < s.size) :
    Calls Tryz.prog 32 #[.string s, .string inp, .int .i64 fuel] w fun e w' => e = em3 1 ∧ Kp no w w' := by
  have HG := hide (nwithin_c inp fuel w hm)
  rw [decide_eq_true h] at HG
  have HS := hide (nos_long s w hm2 hs)
  clear h
  go_enter Tryz.func32, Tryz.ntmps32
  go_wp2_with fail
  refine HG.out.mono ?_
  rintro e w1 ⟨rfl, rfl⟩
  go_wp2_with fail
  refine HS.out.mono ?_
  rintro e w1 ⟨rfl, k1⟩
  go_wp2
  go_ret3
  exact ⟨rfl, k1⟩

set_option maxHeartbeats 1600000 in
theorem nrun_bad (s inp : ByteArray) (fuel : Int) (w : World) (hm : inp.size ≤ maxLen) (h : inp.size ≤ 40 ∧ 0 ≤ fuel ∧ fuel ≤ 300) (hs : s.size ≤ 180) (hb : (srE s).1 ≠ 0) :
    Calls Tryz.prog 32 #[.string s, .string inp, .int .i64 fuel] w fun e w' => e = em3 (srE s).1 ∧ Kp no w w' := by
  have HG := hide (nwithin_c inp fuel w hm)
  rw [decide_eq_true h] at HG
  have HS := hide (nos_c s w hs)
  have hb' : (((srE s).1 : Int) == 0) = false := by simp; omega
  unfold SrcP at HS
  generalize srE s = ge at *
  obtain ⟨ge1, ge2⟩ := ge
  dsimp only at *
  clear h hb
  go_enter Tryz.func32, Tryz.ntmps32
  go_wp2_with fail
  refine HG.out.mono ?_
  rintro e w1 ⟨rfl, rfl⟩
  go_wp2_with fail
  refine HS.out.mono ?_
  rintro e w1 ⟨v, rfl, k1, _⟩
  go_wp2
  go_ret3
  exact ⟨rfl, k1⟩

set_option maxRecDepth 100000 in
set_option maxHeartbeats 1600000 in
theorem nrun_good (s inp : ByteArray) (fuel : Nat) (w : World) (hm : inp.size ≤ 40) (h : fuel ≤ 300) (hs : s.size ≤ 180) (hb : (srE s).1 = 0) (ht : Tab w) (nds : List Nd) (hq : NEq (nodM (srM s)) nds) (hl : nds.length ≤ 100) (F : Nat) (mc' : Mc) (hE : wkF F nds inp (mc0 fuel) 0 = some mc') :
    Calls Tryz.prog 32 #[.string s, .string inp, .int .i64 fuel] w fun e w' => e = .returned (.tuple #[.string mc'.tr, .string mc'.out, .int .i64 (endE mc'.e)]) ∧ Kp no w w' := by
  have hm2 : inp.size ≤ maxLen := by unfold maxLen; omega
  have HG := hide (nwithin_c inp fuel w hm2)
  rw [decide_eq_true (by omega)] at HG
  have HS := hide (nos_c s w hs)
  unfold SrcP at HS
  rw [hb] at HS
  have HE := hide hE
  have HQ := hide hq
  clear hb hE hq
  go_enter Tryz.func32, Tryz.ntmps32
  go_wp2_with fail
  refine HG.out.mono ?_
  rintro e w1 ⟨rfl, rfl⟩
  go_wp2_with fail
  refine HS.out.mono ?_
  rintro e w2 ⟨v, rfl, k2, hpost⟩
  obtain ⟨hR, hO⟩ := hpost trivial
  have HW := hide (nwalk_c v _ _ inp fuel w2 hR HQ.out hl hm h (ht.kp k2 no_elim) F mc' HE.out)
  clear hO hpost HE HS HG HQ
  generalize nodM (srM s) = L at *
  obtain ⟨a, cap, rfl⟩ := hR.shape
  clear hR
  go_wp2_with fail
  refine HW.out.mono ?_
  rintro e w3 ⟨rfl, k3⟩
  go_wp2
  go_ret3
  exact ⟨rfl, k2.trans k3 (fun _ _ e => e)⟩

theorem SN.ln {n : NN} (h : SN n) : Ln n := by
  obtain ⟨nd, tx, y, z, rfl, _, ht, hy, hz, _⟩ := h
  exact ⟨ht, fun _ => by show 0 ≤ y ∧ y < 100; omega, fun _ => by show 0 ≤ z ∧ z < 100; omega⟩

end Go.Proofs.YtellieabhaphhaaGreatDoor

/-
  Plain: both readers of a source side by side: what stays as it is while they go on; conditions.
-/
namespace Go.Proofs.YtellieabhaphhaaGreatDoor
open Go.RowKit

/-- From L on b holds what a holds. -/
def Ag {α : Type} (L : Nat) (a b : List α) : Prop := ∀ k, L ≤ k → k < a.length → b[k]? = a[k]?

section
variable {α : Type} {L L' k : Nat} {a b c : List α}
theorem Ag.refl : Ag L a a := fun _ _ _ => rfl
theorem Ag.trans (h : Ag L a b) (g : Ag L b c) : Ag L a c := fun k h1 h2 => by
  have e := h k h1 h2
  have hb : k < b.length := by
    rcases Nat.lt_or_ge k b.length with h3 | h3
    · exact h3
    · rw [List.getElem?_eq_none h3, List.getElem?_eq_getElem h2] at e; cases e
  rw [g k h1 hb, e]
theorem Ag.mono (h : Ag L a b) (hL : L ≤ L') : Ag L' a b := fun k h1 h2 => h k (Nat.le_trans hL h1) h2
theorem Ag.app (a x : List α) : Ag L a (a ++ x) := fun k _ h2 => by rw [List.getElem?_append_left h2]
theorem Ag.set (h : Ag L a b) (v : α) (hk : k < L ∨ a.length ≤ k) : Ag L a (b.set k v) := fun j h1 h2 => by
  rw [List.getElem?_set_ne (by omega)]; exact h j h1 h2
theorem Ag.mod (h : Ag L a b) (f : α → α) (hk : k < L ∨ a.length ≤ k) : Ag L a (b.modify k f) := fun j h1 h2 => by
  have hne : ¬ k = j := by omega
  rw [List.getElem?_modify, h j h1 h2]
  cases a[j]? <;> simp [hne]
theorem Ag.unmod {f : α → α} (h : Ag L (a.modify k f) b) (hk : k < L') (hL : L ≤ L') : Ag L' a b := fun j h1 h2 => by
  rw [h j (by omega) (by rw [List.length_modify]; exact h2), List.getElem?_modify]
  have hne : ¬ k = j := by omega
  cases a[j]? <;> simp [hne]
theorem Ag.len (h : Ag 0 a b) : a.length ≤ b.length := by
  cases hl : a.length with
  | zero => exact Nat.zero_le _
  | succ n =>
    have e := h n (Nat.zero_le _) (by omega)
    rcases Nat.lt_or_ge n b.length with h3 | h3
    · exact h3
    · rw [List.getElem?_eq_none h3, List.getElem?_eq_getElem (by omega)] at e; cases e
theorem Ag.take (h : Ag 0 a b) {p : Nat} (hp : p ≤ a.length) : b.take p = a.take p := by
  apply List.ext_getElem?
  intro i
  rw [List.getElem?_take, List.getElem?_take]
  split
  · exact h i (Nat.zero_le _) (by omega)
  · rfl
theorem Ag.at (h : Ag L a b) (hk : L ≤ k) {x : α} (hx : a[k]? = some x) : b[k]? = some x := by
  rw [h k hk (List.getElem?_eq_some_iff.1 hx).1, hx]
end

/-- The maker has gone on from a to b; of its marks those from L on stand. -/
structure Xe (L : Nat) (a b : MS) : Prop where
  row : Ag 0 a.row b.row
  mm : Ag L a.marks b.marks

section
variable {L L' k : Nat} {a b c : MS} {s : ByteArray}
theorem Xe.refl : Xe L a a := ⟨Ag.refl, Ag.refl⟩
theorem Xe.trans (h : Xe L a b) (g : Xe L b c) : Xe L a c := ⟨h.row.trans g.row, h.mm.trans g.mm⟩
theorem Xe.mono (h : Xe L a b) (hL : L ≤ L') : Xe L' a b := ⟨h.row, h.mm.mono hL⟩
theorem xe_exp (l : List UInt8) : Xe L a (expM s a l) := ⟨Ag.refl, Ag.refl⟩
theorem xe_new : Xe L a (newM a) := ⟨Ag.refl, Ag.app _ _⟩
theorem xe_new3 : Xe L a (new3 a) := xe_new.trans (xe_new.trans xe_new)
theorem xe_jmp (k : Int) : Xe L a (jmpM a k) := ⟨Ag.app _ _, Ag.refl⟩
theorem Xe.lay (h : Xe L a b) (hk : k < L ∨ a.marks.length ≤ k) : Xe L a (layM b k) := ⟨h.row, h.mm.set _ hk⟩
theorem xe_lay (hk : k < L) : Xe L a (layM a k) := Xe.refl.lay (.inl hk)
end

theorem lay_at {m : MS} {k : Nat} (h : k < m.marks.length) : (layM m k).marks[k]? = some m.row.length := by
  show (m.marks.set k m.row.length)[k]? = _
  rw [List.getElem?_set_self h]

theorem plc_of {m : MS} {k v : Nat} (h : m.marks[k]? = some v) : plcM m (k : Int) = v := by
  have hl := (List.getElem?_eq_some_iff.1 h).1
  unfold plcM
  rw [if_neg (by omega), Int.toNat_natCast, List.getD_eq_getElem?_getD, h]
  rfl

/-- Where from each place of the row a run comes to, and the nodes' ways. -/
structure Fin' (M : MS) (Ld : Nat → Int) (W : Nat → Int × Int × Bool) : Prop where
  node : ∀ p n, M.row[p]? = some n → n.act ≠ 15 → Ld p = (nj (M.row.take p) : Nat) ∧ W (nj (M.row.take p)) = (Ld (plcM M n.yes), Ld (plcM M n.no), decide (n.act = 12 ∨ n.act = 13))
  jump : ∀ p k, M.row[p]? = some (jumpN k) → Ld p = Ld (plcM M k)

/-- A node's own text. -/
def txN (s : ByteArray) (nd : Nd) : ByteArray := s.extract nd.a.toNat (nd.a + nd.l).toNat

structure N1 (s : ByteArray) (nd : Nd) : Prop where
  g : Gn nd
  a : 0 ≤ nd.a
  l : 0 ≤ nd.l
  al : nd.a + nd.l ≤ s.size

/-- The nodes of the row are the nodes of the other reader. -/
def FR (s : ByteArray) (row : List NN) (nodes : List Nd) : Prop :=
  (row.filter (fun n => decide (n.act ≠ 15))).map (fun n => n.setW 0 0) = nodes.map (fun nd => encN nd (txN s nd) 0 0) ∧ ∀ nd ∈ nodes, N1 s nd

theorem FR.len {s : ByteArray} {row : List NN} {nodes : List Nd} (h : FR s row nodes) : nj row = nodes.length := by
  have := congrArg List.length h.1
  rw [List.length_map, List.length_map] at this
  rw [nj, List.countP_eq_length_filter, this]

theorem FR.jump {s : ByteArray} {row : List NN} {nodes : List Nd} (h : FR s row nodes) (k : Int) : FR s (row ++ [jumpN k]) nodes := by
  refine ⟨?_, h.2⟩
  rw [List.filter_append]
  have : [jumpN k].filter (fun n => decide (n.act ≠ 15)) = [] := rfl
  rw [this, List.append_nil]
  exact h.1

theorem FR.one {s : ByteArray} {row : List NN} {nodes : List Nd} (h : FR s row nodes) (nd : Nd) (y z : Int) (hn : N1 s nd) : FR s (row ++ [encN nd (txN s nd) y z]) (nodes ++ [nd]) := by
  refine ⟨?_, fun x hx => ?_⟩
  · rw [List.filter_append]
    have : [encN nd (txN s nd) y z].filter (fun n => decide (n.act ≠ 15)) = [encN nd (txN s nd) y z] := by
      rw [List.filter_cons, if_pos (decide_eq_true (show (encN nd (txN s nd) y z).act ≠ 15 from actN_ne nd.op))]; rfl
    rw [this, List.map_append, List.map_append, h.1]
    rfl
  · rcases List.mem_append.1 hx with h1 | h1
    · exact h.2 x h1
    · obtain rfl : x = nd := by simpa using h1
      exact hn

/-- The condition at item i, up to e: its nodes are c up to d, W their ways, and it leads to t and g. -/
def CdW : Nat → List It → (Nat → Int × Int × Bool) → Nat → Nat → Nat → Nat → Int → Int → Prop
  | 0, _, _, _, _, _, _, _, _ => False
  | f + 1, IT, W, i, e, c, d, t, g => ∃ it, IT[i]? = some it ∧ it.en = (e : Int) ∧ e ≤ 1000 ∧ i < e ∧ c < d ∧
      ((it.k = 99 ∧ it.n = (c : Int) ∧ d = c + 1 ∧ e = i + 1 ∧ W c = (t, g, true)) ∨
       (it.k = 33 ∧ CdW f IT W (i + 1) e c d g t) ∨
       (it.k = 38 ∧ ∃ e1 m, CdW f IT W (i + 1) e1 c m m g ∧ CdW f IT W e1 e m d t g) ∨
       (it.k = 124 ∧ ∃ e1 m, CdW f IT W (i + 1) e1 c m t m ∧ CdW f IT W e1 e m d t g))

theorem cdw_lt {f : Nat} {IT : List It} {W : Nat → Int × Int × Bool} {i e c d : Nat} {t g : Int} (h : CdW f IT W i e c d t g) : i < e ∧ c < d ∧ ∃ it, IT[i]? = some it ∧ it.en = (e : Int) ∧ e ≤ 1000 := by
  cases f with
  | zero => exact h.elim
  | succ f => obtain ⟨it, h1, h2, h3, h4, h5, _⟩ := h; exact ⟨h4, h5, it, h1, h2, h3⟩

theorem cdw_fst : ∀ (f : Nat) {IT : List It} {W : Nat → Int × Int × Bool} {i e c d : Nat} {t g : Int}, CdW f IT W i e c d t g → ∀ F, e - i ≤ F → firG F IT i = some (c : Int)
  | 0, _, _, _, _, _, _, _, _, h => h.elim
  | f + 1, IT, W, i, e, c, d, t, g, h => by
    intro F hF
    obtain ⟨it, h1, h2, h3, h4, h5, h6⟩ := h
    cases F with
    | zero => omega
    | succ F =>
      rw [firG, h1]
      dsimp only
      rcases h6 with ⟨k, n, _⟩ | ⟨k, q⟩ | ⟨k, e1, m, q, q2⟩ | ⟨k, e1, m, q, q2⟩
      · rw [if_pos k, n]
      · rw [if_neg (by omega)]; exact cdw_fst f q F (by omega)
      · rw [if_neg (by omega)]; exact cdw_fst f q F (by have := (cdw_lt q2).1; omega)
      · rw [if_neg (by omega)]; exact cdw_fst f q F (by have := (cdw_lt q2).1; omega)

/-- Both readers have gone on. -/
structure Pr (s : ByteArray) (m : MS) (st : RS) (m' : MS) (st' : RS) : Prop where
  p : m'.p = (st'.i, false)
  b : st'.bad = false
  lo : st'.loops = st.loops
  fr : FR s m'.row st'.nodes
  x : Xe 0 m m'
  y : Ag 0 st.items st'.items
  ge : st.i ≤ st'.i
  le : st'.i ≤ s.size

theorem nj_mono {a b : List NN} (h : Ag 0 a b) : nj a ≤ nj b := by
  have e := h.take (Nat.le_refl _)
  rw [List.take_length] at e
  rw [← e]
  unfold nj
  exact List.Sublist.countP_le (List.take_sublist _ _)

theorem fin_node {M : MS} {Ld : Nat → Int} {W : Nat → Int × Int × Bool} (h : Fin' M Ld W) {m : MS} {row : List NN} {n : NN} (hx : Ag 0 (row ++ [n]) m.row) (hM : Ag 0 m.row M.row) (hn : n.act ≠ 15) :
    Ld row.length = (nj row : Nat) ∧ W (nj row) = (Ld (plcM M n.yes), Ld (plcM M n.no), decide (n.act = 12 ∨ n.act = 13)) := by
  have hM2 := hx.trans hM
  have h1 : M.row[row.length]? = some n := hM2.at (Nat.zero_le _) (by simp)
  have h2 : M.row.take row.length = row := by
    rw [hM2.take (by simp), List.take_append_of_le_length (Nat.le_refl _), List.take_length]
  have := h.node _ _ h1 hn
  rw [h2] at this
  exact this

theorem act_tst {op : Int} (h : opOk op) : (actN op = 12 ∨ actN op = 13) ↔ (op = 121 ∨ op = 58) := by
  unfold opOk at h
  rcases h with rfl | rfl | rfl | rfl | rfl | rfl | rfl | rfl | rfl | rfl | rfl | rfl | rfl | rfl | rfl | rfl | rfl | rfl <;> decide

theorem nj_encN (row : List NN) (nd : Nd) (tx : ByteArray) (y z : Int) : nj (row ++ [encN nd tx y z]) = nj row + 1 := by
  unfold nj
  rw [List.countP_append]
  have : List.countP (fun n => decide (n.act ≠ 15)) [encN nd tx y z] = 1 := by
    rw [List.countP_cons, if_pos (decide_eq_true (show (encN nd tx y z).act ≠ 15 from actN_ne nd.op)), List.countP_nil]
  rw [this]

/-- What is said of a condition. -/
structure CPar (s : ByteArray) (f : Nat) (yes no : Int) (m : MS) (st : RS) (m' : MS) (st' : RS) : Prop where
  r : Pr s m st m' st'
  nd : ∃ n, m'.row[m.row.length]? = some n ∧ n.act ≠ 15
  al : ∀ p n, m.row.length ≤ p → m'.row[p]? = some n → n.act ≠ 15
  w : ∀ M IT Ld W, Fin' M Ld W → Xe m.marks.length m' M → Ag st.items.length st'.items IT → IT.length ≤ 1000 →
    CdW f IT W st.items.length st'.items.length (nj m.row) (nj m'.row) (Ld (plcM M yes)) (Ld (plcM M no))

/-- Each jump leads on, or to a node. -/
def JOk (M : MS) (lo hi : Nat) : Prop := ∀ p n, lo ≤ p → p < hi → M.row[p]? = some n → n.act = 15 → p < plcM M n.yes ∨ ∃ n', M.row[plcM M n.yes]? = some n' ∧ n'.act ≠ 15

theorem JOk.join {M : MS} {a b c : Nat} (h : JOk M a b) (k : JOk M b c) : JOk M a c := fun p n h1 h2 => by
  rcases Nat.lt_or_ge p b with h3 | h3
  · exact h p n h1 h3
  · exact k p n h3 h2
theorem jok_one {M : MS} {a : Nat} {n : NN} (hn : M.row[a]? = some n) (h : n.act = 15 → a < plcM M n.yes ∨ ∃ n', M.row[plcM M n.yes]? = some n' ∧ n'.act ≠ 15) : JOk M a (a + 1) := fun p n' h1 h2 h3 h4 => by
  obtain rfl : p = a := by omega
  rw [hn] at h3
  obtain rfl : n = n' := by simpa using h3
  exact h h4
theorem jok_nodes {M : MS} {m' : MS} {a : Nat} (hx : Ag 0 m'.row M.row) (h : ∀ p n, a ≤ p → m'.row[p]? = some n → n.act ≠ 15) : JOk M a m'.row.length := fun p n h1 h2 h3 h4 => by
  rw [hx p (Nat.zero_le _) h2] at h3
  exact absurd h4 (h p n h1 h3)

theorem ag_le {α : Type} {L : Nat} {a b : List α} (h : Ag L a b) (hL : L < a.length) : a.length ≤ b.length := by
  have e := h (a.length - 1) (by omega) (by omega)
  rcases Nat.lt_or_ge (a.length - 1) b.length with h3 | h3
  · omega
  · rw [List.getElem?_eq_none h3, List.getElem?_eq_getElem (by omega)] at e; cases e
end Go.Proofs.YtellieabhaphhaaGreatDoor

/-
  Plain: both readers side by side: a condition.
-/
namespace Go.Proofs.YtellieabhaphhaaGreatDoor
open Go.RowKit

theorem modify_at {α : Type} {l : List α} {k : Nat} {x : α} (f : α → α) (h : l[k]? = some x) : (l.modify k f)[k]? = some (f x) := by
  rw [List.getElem?_modify, h]; simp

/-- A test. -/
theorem par_test {f : Nat} {s : ByteArray} {yes no : Int} {m : MS} {st : RS} (hp : m.p = (st.i, false)) (hi : st.i ≤ s.size) (hfr : FR s m.row st.nodes) (hg : (tstM s yes no m).p.2 = false) :
    CPar s (f + 1) yes no m st (tstM s yes no m) (condT s st) := by
  obtain ⟨r1, r2⟩ := tst_ref s st.i
  have hg' : (testF s st.i).2.2 = false := by
    have : (tstF s m.p).2.2 = false := hg
    rw [hp, r1] at this; exact this
  obtain ⟨g1, g2, g3⟩ := testF_gn s st.i hg'
  have hge := testF_ge s st.i
  have hle := testF_le s st.i hi
  have hn1 : N1 s (testF s st.i).1 := ⟨g1, by omega, by omega, by omega⟩
  have htx : sinceB s m.p.1 (tstF s m.p).2.1 = txN s (testF s st.i).1 := by
    unfold sinceB txN
    rw [hp, r1, g2, g3, Int.toNat_natCast]
    congr 1
    omega
  have hrow : (tstM s yes no m).row = m.row ++ [encN (testF s st.i).1 (txN s (testF s st.i).1) yes no] := by
    show m.row ++ [((tstF s m.p).1.setT (sinceB s m.p.1 (tstF s m.p).2.1)).setW yes no] = _
    rw [htx, hp, r2]
    rfl
  have hit : (condT s st).items = (st.items ++ [(⟨99, st.nodes.length, 0, 0⟩ : It)]).modify st.items.length (fun x => { x with en := ((st.items ++ [(⟨99, st.nodes.length, 0, 0⟩ : It)]).length : Nat) }) := rfl
  have hl : (condT s st).items.length = st.items.length + 1 := by rw [hit, List.length_modify, List.length_append]; rfl
  refine ⟨⟨?_, hg', rfl, ?_, ⟨?_, Ag.refl⟩, ?_, hge.1, hle⟩, ?_, ?_, ?_⟩
  · show (tstF s m.p).2 = _
    rw [hp, r1]
    exact Prod.ext rfl hg'
  · rw [hrow]; exact hfr.one _ _ _ hn1
  · rw [hrow]; exact Ag.app _ _
  · rw [hit]; exact (Ag.app _ _).mod _ (.inr (Nat.le_refl _))
  · refine ⟨encN (testF s st.i).1 (txN s (testF s st.i).1) yes no, ?_, actN_ne (testF s st.i).1.op⟩
    · rw [hrow, List.getElem?_append_right (Nat.le_refl _), Nat.sub_self]; rfl
  · intro p n h1 h2
    rw [hrow, List.getElem?_append_right h1] at h2
    have : n ∈ [encN (testF s st.i).1 (txN s (testF s st.i).1) yes no] := List.mem_of_getElem? h2
    obtain rfl : n = _ := by simpa using this
    exact actN_ne (testF s st.i).1.op
  · intro M IT Ld W hF hX hI hIl
    obtain ⟨q1, q2⟩ := fin_node hF (m := tstM s yes no m) (row := m.row) (n := encN (testF s st.i).1 (txN s (testF s st.i).1) yes no) (by rw [hrow]; exact Ag.refl) hX.row (actN_ne _)
    have hc : nj (tstM s yes no m).row = nj m.row + 1 := by rw [hrow, nj_encN]
    have hop : decide ((encN (testF s st.i).1 (txN s (testF s st.i).1) yes no).act = 12 ∨ (encN (testF s st.i).1 (txN s (testF s st.i).1) yes no).act = 13) = true := decide_eq_true ((act_tst g1.op).2 (testF_op s st.i))
    rw [hop] at q2
    refine ⟨⟨99, st.nodes.length, 0, (st.items.length + 1 : Nat)⟩, ?_, by rw [hl], ?_, by omega, by omega, .inl ⟨rfl, ?_, hc, hl, q2⟩⟩
    · refine hI.at (Nat.le_refl _) ?_
      rw [hit, modify_at _ (x := (⟨99, st.nodes.length, 0, 0⟩ : It)) (by simp)]
      simp
    · have := ag_le hI (by omega); omega
    · rw [hfr.len]

def pushOp (s : ByteArray) (st : RS) : RS := { st with i := st.i + 1, items := st.items ++ [⟨pk s st.i, 0, 0, 0⟩] }

/-- What a sign stands ahead of: its item. -/
theorem op_item {s : ByteArray} {st st3 : RS} {IT : List It} (h : Ag 0 (pushOp s st).items st3.items) (hI : Ag st.items.length (endAt st3 st.items.length).items IT) :
    IT[st.items.length]? = some ⟨pk s st.i, 0, 0, (st3.items.length : Nat)⟩ := by
  refine hI.at (Nat.le_refl _) ?_
  have h1 : st3.items[st.items.length]? = some ⟨pk s st.i, 0, 0, 0⟩ := h.at (Nat.zero_le _) (by show (st.items ++ _)[_]? = _; simp)
  show (st3.items.modify st.items.length (fun x => { x with en := (st3.items.length : Nat) }))[st.items.length]? = _
  rw [modify_at _ h1]

theorem endAt_len (st : RS) (k : Nat) : (endAt st k).items.length = st.items.length := List.length_modify ..

theorem par_cond : ∀ (f : Nat) (s : ByteArray) (yes no : Int) (m : MS) (st : RS), s.size ≤ 1000 → m.p = (st.i, false) → st.bad = false → st.i ≤ s.size → s.size - st.i < f → FR s m.row st.nodes →
    (condM f s yes no m).p.2 = false → CPar s f yes no m st (condM f s yes no m) (condF f s st)
  | 0, _, _, _, _, _, _, _, _, _, h, _, _ => by omega
  | f + 1, s, yes, no, m, st, hs, hp, hb, hi, hf, hfr, hg => by
    have hpk : pkb s m.p = pk s st.i := by rw [hp, pkb_false]
    rw [condM] at hg ⊢
    rw [condF]
    rw [hpk] at hg ⊢
    by_cases h33 : pk s st.i = 33
    · rw [if_pos h33] at hg ⊢
      have hop : isOp (pk s st.i) = true := by simp [isOp, h33]
      obtain ⟨e1, e2, e3⟩ := eat_at (s := s) (p := m.p) (c := 33) (by rw [hpk]; exact h33) (by decide)
      rw [hp] at e2
      have hst : (if isOp (pk s st.i) = true then
          (let st2 := condF f s { st with i := st.i + 1, items := st.items ++ [⟨pk s st.i, 0, 0, 0⟩] }
           let st3 := if (pk s st.i != 33 && !st2.bad) then condF f s st2 else st2
           endAt st3 st.items.length) else condT s st) = endAt (condF f s (pushOp s st)) st.items.length := by
        rw [if_pos hop]
        have : ¬ ((pk s st.i != 33 && !(condF f s { st with i := st.i + 1, items := st.items ++ [⟨pk s st.i, 0, 0, 0⟩] }).bad) = true) := by simp [h33]
        dsimp only
        rw [if_neg this]
        rfl
      rw [hst]
      have x1 : (expM s m [33]).p = ((pushOp s st).i, false) := by rw [expM_p, e1, hp]; rfl
      have ih := par_cond f s no yes (expM s m [33]) (pushOp s st) hs x1 hb (by show st.i + 1 ≤ _; omega) (by show s.size - (st.i + 1) < f; omega) hfr hg
      have hpl : (pushOp s st).items.length = st.items.length + 1 := by show (st.items ++ [_]).length = _; simp
      have h0 : Ag 0 st.items (pushOp s st).items := Ag.app _ _
      have hln := ih.r.y.len
      refine ⟨⟨ih.r.p, ih.r.b, ih.r.lo, ih.r.fr, (xe_exp _).trans ih.r.x, (h0.trans ih.r.y).mod _ (.inr (Nat.le_refl _)), by have := ih.r.ge; show st.i ≤ _; exact Nat.le_trans (Nat.le_succ _) this, ih.r.le⟩, ih.nd, ih.al, ?_⟩
      intro M IT Ld W hF hX hI hIl
      have hit := op_item ih.r.y hI
      have hI2 : Ag (pushOp s st).items.length (condF f s (pushOp s st)).items IT := hI.unmod (by omega) (by omega)
      have hw := ih.w M IT Ld W hF hX hI2 hIl
      rw [hpl] at hw
      obtain ⟨w1, w2, _, _, _, w3⟩ := cdw_lt hw
      exact ⟨_, hit, by rw [endAt_len], by rw [endAt_len]; exact w3, by rw [endAt_len]; omega, w2, .inr (.inl ⟨by simp [h33], by rw [endAt_len]; exact hw⟩)⟩
    rw [if_neg h33] at hg ⊢
    by_cases h38 : pk s st.i = 38
    · rw [if_pos h38] at hg ⊢
      have hop : isOp (pk s st.i) = true := by simp [isOp, h38]
      obtain ⟨e1, e2, e3⟩ := eat_at (s := s) (p := m.p) (c := 38) (by rw [hpk]; exact h38) (by decide)
      rw [hp] at e2
      have x1 : (newM (expM s m [38])).p = ((pushOp s st).i, false) := by rw [newM_p, expM_p, e1, hp]; rfl
      have hpl : (pushOp s st).items.length = st.items.length + 1 := by show (st.items ++ [_]).length = _; simp
      have h0 : Ag 0 st.items (pushOp s st).items := Ag.app _ _
      have hi1 : (pushOp s st).i = st.i + 1 := rfl
      have hi0 : (newM (expM s m [38])).p.1 = st.i + 1 := by rw [x1, hi1]
      have mc := condM_mc f s m.marks.length no (newM (expM s m [38])) (by omega) (by omega)
      have hy3 : (condM f s m.marks.length no (newM (expM s m [38]))).p.2 = false := by
        have := (condM_gp f s yes no (layM (condM f s m.marks.length no (newM (expM s m [38]))) m.marks.length) hs (by rw [layM_p]; have := mc.lo; omega) (by rw [layM_p]; exact mc.i) hg).1
        exact this
      have ih1 := par_cond f s m.marks.length no (newM (expM s m [38])) (pushOp s st) hs x1 hb (by omega) (by omega) hfr hy3
      have hst : (if isOp (pk s st.i) = true then
          (let st2 := condF f s { st with i := st.i + 1, items := st.items ++ [⟨pk s st.i, 0, 0, 0⟩] }
           let st3 := if (pk s st.i != 33 && !st2.bad) then condF f s st2 else st2
           endAt st3 st.items.length) else condT s st) = endAt (condF f s (condF f s (pushOp s st))) st.items.length := by
        rw [if_pos hop]
        have hbb : (condF f s { st with i := st.i + 1, items := st.items ++ [⟨pk s st.i, 0, 0, 0⟩] }).bad = false := ih1.r.b
        have : ((pk s st.i != 33 && !(condF f s { st with i := st.i + 1, items := st.items ++ [⟨pk s st.i, 0, 0, 0⟩] }).bad) = true) := by rw [hbb]; simp [h38]
        dsimp only
        rw [if_pos this]
        rfl
      rw [hst]
      generalize condM f s m.marks.length no (newM (expM s m [38])) = y3 at *
      generalize hc1 : condF f s (pushOp s st) = c1 at *
      have ih2 := par_cond f s yes no (layM y3 m.marks.length) c1 hs ih1.r.p ih1.r.b ih1.r.le (by have := ih1.r.ge; omega) ih1.r.fr hg
      generalize condM f s yes no (layM y3 m.marks.length) = m' at *
      generalize condF f s c1 = c2 at *
      have hln1 := ih1.r.y.len
      have hln2 := ih2.r.y.len
      have hmx : Xe 0 m y3 := ((xe_exp _).trans xe_new).trans ih1.r.x
      have hml : m.marks.length < y3.marks.length := by
        have := ih1.r.x.mm.len
        have e : (newM (expM s m [38])).marks.length = m.marks.length + 1 := by show (m.marks ++ [0]).length = _; simp
        omega
      refine ⟨⟨ih2.r.p, ih2.r.b, ih2.r.lo.trans ih1.r.lo, ih2.r.fr, (hmx.lay (.inr (Nat.le_refl _))).trans ih2.r.x, ((h0.trans ih1.r.y).trans ih2.r.y).mod _ (.inr (Nat.le_refl _)), by have := ih1.r.ge; have := ih2.r.ge; show st.i ≤ c2.i; omega, ih2.r.le⟩, ?_, ?_, ?_⟩
      · obtain ⟨n, n1, n2⟩ := ih1.nd
        exact ⟨n, ih2.r.x.row.at (Nat.zero_le _) n1, n2⟩
      · intro p n h1 h2
        rcases Nat.lt_or_ge p y3.row.length with h3 | h3
        · rw [ih2.r.x.row p (Nat.zero_le _) h3] at h2
          exact ih1.al p n h1 h2
        · exact ih2.al p n h3 h2
      intro M IT Ld W hF hX hI hIl
      have hit := op_item (ih1.r.y.trans ih2.r.y) hI
      have hI2 : Ag (st.items.length + 1) c2.items IT := hI.unmod (by omega) (by omega)
      have hI1 : Ag (pushOp s st).items.length c1.items IT := by rw [hpl]; exact (ih2.r.y.mono (Nat.zero_le _)).trans hI2
      have hX2 : Xe m.marks.length (layM y3 m.marks.length) M := (ih2.r.x.mono (Nat.zero_le _)).trans hX
      have hlm : (layM y3 m.marks.length).marks.length = y3.marks.length := List.length_set ..
      have hX1 : Xe (m.marks.length + 1) y3 M := (xe_lay (Nat.lt_succ_self _)).trans (hX2.mono (Nat.le_succ _))
      have hnl : (newM (expM s m [38])).marks.length = m.marks.length + 1 := by show (m.marks ++ [0]).length = _; simp
      have hw1 := ih1.w M IT Ld W hF (by rw [hnl]; exact hX1) hI1 hIl
      have hw2 := ih2.w M IT Ld W hF (hX.mono (by rw [hlm]; omega)) (hI2.mono (by omega)) hIl
      have hmk : plcM M (m.marks.length : Nat) = y3.row.length := plc_of (hX2.mm.at (Nat.le_refl _) (lay_at hml))
      obtain ⟨n, n1, n2⟩ := ih2.nd
      have hld : Ld y3.row.length = (nj y3.row : Nat) := by
        have := (hF.node y3.row.length n (hX.row.at (Nat.zero_le _) n1) n2).1
        rw [this, hX2.row.take (p := y3.row.length) (Nat.le_refl _)]
        show ((nj (y3.row.take y3.row.length) : Nat) : Int) = _
        rw [List.take_length]
      rw [hmk, hld, hpl] at hw1
      obtain ⟨w1, w2, _⟩ := cdw_lt hw1
      obtain ⟨w4, w5, _, _, _, w6⟩ := cdw_lt hw2
      refine ⟨_, hit, by rw [endAt_len], by rw [endAt_len]; exact w6, by rw [endAt_len]; omega, Nat.lt_trans w2 w5, .inr (.inr (.inl ⟨by simp [h38], c1.items.length, nj y3.row, hw1, ?_⟩))⟩
      rw [endAt_len]; exact hw2
    rw [if_neg h38] at hg ⊢
    by_cases h124 : pk s st.i = 124
    · rw [if_pos h124] at hg ⊢
      have hop : isOp (pk s st.i) = true := by simp [isOp, h124]
      obtain ⟨e1, e2, e3⟩ := eat_at (s := s) (p := m.p) (c := 124) (by rw [hpk]; exact h124) (by decide)
      rw [hp] at e2
      have x1 : (newM (expM s m [124])).p = ((pushOp s st).i, false) := by rw [newM_p, expM_p, e1, hp]; rfl
      have hpl : (pushOp s st).items.length = st.items.length + 1 := by show (st.items ++ [_]).length = _; simp
      have h0 : Ag 0 st.items (pushOp s st).items := Ag.app _ _
      have hi1 : (pushOp s st).i = st.i + 1 := rfl
      have hi0 : (newM (expM s m [124])).p.1 = st.i + 1 := by rw [x1, hi1]
      have mc := condM_mc f s yes m.marks.length (newM (expM s m [124])) (by omega) (by omega)
      have hy3 : (condM f s yes m.marks.length (newM (expM s m [124]))).p.2 = false := by
        have := (condM_gp f s yes no (layM (condM f s yes m.marks.length (newM (expM s m [124]))) m.marks.length) hs (by rw [layM_p]; have := mc.lo; omega) (by rw [layM_p]; exact mc.i) hg).1
        exact this
      have ih1 := par_cond f s yes m.marks.length (newM (expM s m [124])) (pushOp s st) hs x1 hb (by omega) (by omega) hfr hy3
      have hst : (if isOp (pk s st.i) = true then
          (let st2 := condF f s { st with i := st.i + 1, items := st.items ++ [⟨pk s st.i, 0, 0, 0⟩] }
           let st3 := if (pk s st.i != 33 && !st2.bad) then condF f s st2 else st2
           endAt st3 st.items.length) else condT s st) = endAt (condF f s (condF f s (pushOp s st))) st.items.length := by
        rw [if_pos hop]
        have hbb : (condF f s { st with i := st.i + 1, items := st.items ++ [⟨pk s st.i, 0, 0, 0⟩] }).bad = false := ih1.r.b
        have : ((pk s st.i != 33 && !(condF f s { st with i := st.i + 1, items := st.items ++ [⟨pk s st.i, 0, 0, 0⟩] }).bad) = true) := by rw [hbb]; simp [h124]
        dsimp only
        rw [if_pos this]
        rfl
      rw [hst]
      generalize condM f s yes m.marks.length (newM (expM s m [124])) = y3 at *
      generalize hc1 : condF f s (pushOp s st) = c1 at *
      have ih2 := par_cond f s yes no (layM y3 m.marks.length) c1 hs ih1.r.p ih1.r.b ih1.r.le (by have := ih1.r.ge; omega) ih1.r.fr hg
      generalize condM f s yes no (layM y3 m.marks.length) = m' at *
      generalize condF f s c1 = c2 at *
      have hln1 := ih1.r.y.len
      have hln2 := ih2.r.y.len
      have hmx : Xe 0 m y3 := ((xe_exp _).trans xe_new).trans ih1.r.x
      have hml : m.marks.length < y3.marks.length := by
        have := ih1.r.x.mm.len
        have e : (newM (expM s m [124])).marks.length = m.marks.length + 1 := by show (m.marks ++ [0]).length = _; simp
        omega
      refine ⟨⟨ih2.r.p, ih2.r.b, ih2.r.lo.trans ih1.r.lo, ih2.r.fr, (hmx.lay (.inr (Nat.le_refl _))).trans ih2.r.x, ((h0.trans ih1.r.y).trans ih2.r.y).mod _ (.inr (Nat.le_refl _)), by have := ih1.r.ge; have := ih2.r.ge; show st.i ≤ c2.i; omega, ih2.r.le⟩, ?_, ?_, ?_⟩
      · obtain ⟨n, n1, n2⟩ := ih1.nd
        exact ⟨n, ih2.r.x.row.at (Nat.zero_le _) n1, n2⟩
      · intro p n h1 h2
        rcases Nat.lt_or_ge p y3.row.length with h3 | h3
        · rw [ih2.r.x.row p (Nat.zero_le _) h3] at h2
          exact ih1.al p n h1 h2
        · exact ih2.al p n h3 h2
      intro M IT Ld W hF hX hI hIl
      have hit := op_item (ih1.r.y.trans ih2.r.y) hI
      have hI2 : Ag (st.items.length + 1) c2.items IT := hI.unmod (by omega) (by omega)
      have hI1 : Ag (pushOp s st).items.length c1.items IT := by rw [hpl]; exact (ih2.r.y.mono (Nat.zero_le _)).trans hI2
      have hX2 : Xe m.marks.length (layM y3 m.marks.length) M := (ih2.r.x.mono (Nat.zero_le _)).trans hX
      have hlm : (layM y3 m.marks.length).marks.length = y3.marks.length := List.length_set ..
      have hX1 : Xe (m.marks.length + 1) y3 M := (xe_lay (Nat.lt_succ_self _)).trans (hX2.mono (Nat.le_succ _))
      have hnl : (newM (expM s m [124])).marks.length = m.marks.length + 1 := by show (m.marks ++ [0]).length = _; simp
      have hw1 := ih1.w M IT Ld W hF (by rw [hnl]; exact hX1) hI1 hIl
      have hw2 := ih2.w M IT Ld W hF (hX.mono (by rw [hlm]; omega)) (hI2.mono (by omega)) hIl
      have hmk : plcM M (m.marks.length : Nat) = y3.row.length := plc_of (hX2.mm.at (Nat.le_refl _) (lay_at hml))
      obtain ⟨n, n1, n2⟩ := ih2.nd
      have hld : Ld y3.row.length = (nj y3.row : Nat) := by
        have := (hF.node y3.row.length n (hX.row.at (Nat.zero_le _) n1) n2).1
        rw [this, hX2.row.take (p := y3.row.length) (Nat.le_refl _)]
        show ((nj (y3.row.take y3.row.length) : Nat) : Int) = _
        rw [List.take_length]
      rw [hmk, hld, hpl] at hw1
      obtain ⟨w1, w2, _⟩ := cdw_lt hw1
      obtain ⟨w4, w5, _, _, _, w6⟩ := cdw_lt hw2
      refine ⟨_, hit, by rw [endAt_len], by rw [endAt_len]; exact w6, by rw [endAt_len]; omega, Nat.lt_trans w2 w5, .inr (.inr (.inr ⟨by simp [h124], c1.items.length, nj y3.row, hw1, ?_⟩))⟩
      rw [endAt_len]; exact hw2
    · rw [if_neg h124] at hg ⊢
      have hop : ¬ isOp (pk s st.i) = true := by simp [isOp, h33, h38, h124]
      rw [if_neg hop]
      exact par_test hp hi hfr hg
end Go.Proofs.YtellieabhaphhaaGreatDoor

/-
  Plain: both readers side by side: statements.
-/
namespace Go.Proofs.YtellieabhaphhaaGreatDoor
open Go.RowKit

/-- The piece at item i, up to j: its nodes are c up to m; behind it a run goes on at nx. -/
def PcW (C : Nat → Nat → Nat → Nat → Int → Int → Prop) (S : Nat → Nat → Nat → Nat → Int → Int → Int → Prop) (IT : List It) (W : Nat → Int × Int × Bool) (it : It) (i j c m : Nat) (nx ou ag : Int) : Prop :=
  (it.k = 115 ∧ it.n = (c : Int) ∧ m = c + 1 ∧ W c = (nx, nx, false)) ∨
  ((it.k = 62 ∨ it.k = 60) ∧ m = c) ∨
  (it.k = 105 ∧ ∃ a b p q t g, C (i + 1) a c p t g ∧ a ≤ b ∧ b ≤ j ∧ it.els = (b : Int) ∧ S a b p q nx ou ag ∧ S b j q m nx ou ag ∧ entO IT a b nx ou ag = some t ∧ entO IT b j nx ou ag = some g) ∨
  (it.k = 119 ∧ ∃ a p t, C (i + 1) a c p t nx ∧ a ≤ j ∧ S a j p m c nx c ∧ entO IT a j c nx c = some t)

/-- The pieces from item i up to e: their nodes are c up to d; behind them a run goes on at nx. -/
def StW : Nat → List It → (Nat → Int × Int × Bool) → Nat → Nat → Nat → Nat → Int → Int → Int → Prop
  | 0, _, _, _, _, _, _, _, _, _ => False
  | f + 1, IT, W, i, e, c, d, nx, ou, ag => c ≤ d ∧ ((i = e ∧ c = d) ∨
      (i < e ∧ e ≤ 1000 ∧ ∃ (it : It) (j m : Nat) (nx' : Int), IT[i]? = some it ∧ it.en = (j : Int) ∧ i < j ∧ j ≤ e ∧ c ≤ m ∧ m ≤ d ∧ entO IT j e nx ou ag = some nx' ∧
        PcW (CdW f IT W) (StW f IT W) IT W it i j c m nx' ou ag ∧ StW f IT W j e m d nx ou ag))

/-- The marks of the loop around. -/
def JH (M : MS) (lp : Bool) (h b : Int) (hi : Nat) : Prop := lp = true → hi ≤ plcM M b ∧ ∃ n, M.row[plcM M h]? = some n ∧ n.act ≠ 15

/-- What is said of statements. -/
def SPar (s : ByteArray) (f E : Nat) (S : Int → Int → MS → MS) (R : RS → RS) : Prop :=
  ∀ (lp : Bool) (h b : Int) (m : MS) (st : RS), lpOk lp h b → decide (st.loops ≠ 0) = lp → m.p = (st.i, false) → st.bad = false → st.i ≤ s.size → s.size - st.i < f → FR s m.row st.nodes →
    (S h b m).p.2 = false → (pk s (S h b m).p.1 = E ∨ s.size ≤ (S h b m).p.1) →
    Pr s m st (S h b m) (R st) ∧ (∀ M, Xe m.marks.length (S h b m) M → JH M lp h b (S h b m).row.length → JOk M m.row.length (S h b m).row.length) ∧ ∀ M IT Ld W nx ou ag, Fin' M Ld W → Xe m.marks.length (S h b m) M → Ag st.items.length (R st).items IT → IT.length ≤ 1000 →
      nx = Ld (S h b m).row.length → (lp = true → ou = Ld (plcM M b) ∧ ag = Ld (plcM M h)) →
      StW f IT W st.items.length (R st).items.length (nj m.row) (nj (S h b m).row) nx ou ag ∧ entO IT st.items.length (R st).items.length nx ou ag = some (Ld m.row.length)

/-- What is said of one statement. -/
def OPar (s : ByteArray) (f : Nat) (lp : Bool) (h b : Int) (m : MS) (st : RS) (m' : MS) (st' : RS) : Prop :=
    Pr s m st m' st' ∧ st.items.length < st'.items.length ∧ (∀ M, Xe m.marks.length m' M → JH M lp h b m'.row.length → JOk M m.row.length m'.row.length) ∧ ∀ M IT Ld W nx ou ag, Fin' M Ld W → Xe m.marks.length m' M → Ag st.items.length st'.items IT → IT.length ≤ 1000 →
      nx = Ld m'.row.length → (lp = true → ou = Ld (plcM M b) ∧ ag = Ld (plcM M h)) →
      ∃ it, IT[st.items.length]? = some it ∧ it.en = (st'.items.length : Int) ∧ PcW (CdW f IT W) (StW f IT W) IT W it st.items.length st'.items.length (nj m.row) (nj m'.row) nx ou ag ∧
        ∀ e nx0, st.items.length < e → entO IT st.items.length e nx0 ou ag = some (Ld m.row.length)

theorem eatS_at {s : ByteArray} {st : RS} {c : Nat} (hb : st.bad = false) (h : pk s st.i = c) (hc : c ≠ 0) : eatS s st c = { st with i := st.i + 1 } := by
  have e : eatF s (st.i, st.bad) c = (st.i + 1, false) := by
    rw [eatF_pkb s _ c hc, hb, pkb_false, if_pos h]
  unfold eatS
  rw [e, ← hb]

theorem exp1_good {s : ByteArray} {p : Nat × Bool} {c : UInt8} (h : (expF s p [c]).2 = false) : p.2 = false ∧ pk s p.1 = c.toNat ∧ expF s p [c] = (p.1 + 1, false) := eatF_good s p c.toNat h

theorem exp2_good {s : ByteArray} {p : Nat × Bool} {c d : UInt8} (h : (expF s p [c, d]).2 = false) : p.2 = false ∧ pk s p.1 = c.toNat ∧ pk s (p.1 + 1) = d.toNat ∧ expF s p [c, d] = (p.1 + 2, false) := by
  have h1 : (expF s (eatF s p c.toNat) [d]).2 = false := h
  obtain ⟨a1, a2, a3⟩ := exp1_good h1
  obtain ⟨b1, b2, b3⟩ := eatF_good s p c.toNat a1
  rw [b3] at a2 a3
  refine ⟨b1, b2, a2, ?_⟩
  show expF s (eatF s p c.toNat) [d] = _
  rw [b3, a3]

theorem par_act {f : Nat} {s : ByteArray} {lp : Bool} {h b : Int} {m : MS} {st : RS} (hp : m.p = (st.i, false)) (hi : st.i < s.size) (hfr : FR s m.row st.nodes) (hg : (actM s m).p.2 = false) :
    OPar s f lp h b m st (actM s m) (actF s st) := by
  obtain ⟨r1, r2⟩ := nac_ref s st.i
  have hg0 : (expF s (nacF s m.p).2 [59]).2 = false := hg
  obtain ⟨a1, a2, a3⟩ := exp1_good hg0
  rw [hp, r1] at a1 a2 a3
  have hr2 := r2 a1
  obtain ⟨g1, g2, g3⟩ := simpF_gn s st.i a1
  have hge := simpF_ge s st.i
  have hle := simpF_le s st.i (Nat.le_of_lt hi)
  have hn1 : N1 s (simpF s st.i).1 := ⟨g1, by omega, by omega, by omega⟩
  have htx : sinceB s m.p.1 (nacF s m.p).2.1 = txN s (simpF s st.i).1 := by
    unfold sinceB txN
    rw [hp, r1, g2, g3, Int.toNat_natCast]
    congr 1
    omega
  have hrow : (actM s m).row = m.row ++ [encN (simpF s st.i).1 (txN s (simpF s st.i).1) m.marks.length m.marks.length] := by
    show m.row ++ [((nacF s m.p).1.setT (sinceB s m.p.1 (nacF s m.p).2.1)).setW m.marks.length m.marks.length] = _
    rw [htx, hp, hr2]
    rfl
  have hmk : (actM s m).marks = (m.marks ++ [0]).set m.marks.length (m.row.length + 1) := by
    show (m.marks ++ [0]).set m.marks.length (m.row ++ [_]).length = _
    rw [List.length_append]; rfl
  have hmk2 : (actM s m).marks[m.marks.length]? = some (m.row.length + 1) := by rw [hmk, List.getElem?_set_self (by simp)]
  have hst : actF s st = { st with i := (simpF s st.i).2.1 + 1, bad := false, nodes := st.nodes ++ [(simpF s st.i).1], items := (st.items ++ [(⟨115, st.nodes.length, 0, 0⟩ : It)]).modify st.items.length (fun x => { x with en := ((st.items ++ [(⟨115, st.nodes.length, 0, 0⟩ : It)]).length : Nat) }) } := by
    unfold actF
    rw [eatS_at a1 (c := 59) a2 (by decide)]
    unfold endAt
    dsimp only
    rw [a1]
  have hil : (actF s st).items.length = st.items.length + 1 := by rw [hst]; dsimp only; rw [List.length_modify, List.length_append]; rfl
  have hbyte := pk_in s (simpF s st.i).2.1 (by rw [a2]; decide)
  refine ⟨⟨?_, by rw [hst], by rw [hst], ?_, ⟨?_, ?_⟩, ?_, ?_, ?_⟩, by omega, ?_, ?_⟩
  · show expF s (nacF s m.p).2 [59] = _
    rw [hp, r1, a3, hst]
  · rw [hrow, hst]; exact hfr.one _ _ _ hn1
  · rw [hrow]; exact Ag.app _ _
  · rw [hmk]; exact (Ag.app _ _).set _ (.inr (Nat.le_refl _))
  · rw [hst]; exact (Ag.app _ _).mod _ (.inr (Nat.le_refl _))
  · rw [hst]; dsimp only; have := hge.1; omega
  · rw [hst]; dsimp only; omega
  · intro M hX _
    rw [hrow, List.length_append]
    exact jok_one (n := encN (simpF s st.i).1 (txN s (simpF s st.i).1) m.marks.length m.marks.length) (hX.row.at (Nat.zero_le _) (by rw [hrow]; simp)) (fun e => absurd e (actN_ne (simpF s st.i).1.op))
  · intro M IT Ld W nx ou ag hF hX hI hIl hnx hlp
    obtain ⟨q1, q2⟩ := fin_node hF (m := actM s m) (row := m.row) (n := encN (simpF s st.i).1 (txN s (simpF s st.i).1) m.marks.length m.marks.length) (by rw [hrow]; exact Ag.refl) hX.row (actN_ne _)
    have hc : nj (actM s m).row = nj m.row + 1 := by rw [hrow, nj_encN]
    have hit : IT[st.items.length]? = some ⟨115, st.nodes.length, 0, (st.items.length + 1 : Nat)⟩ := by
      refine hI.at (Nat.le_refl _) ?_
      rw [hst]
      dsimp only
      rw [modify_at _ (x := (⟨115, st.nodes.length, 0, 0⟩ : It)) (by simp)]
      simp
    have hpl : plcM M (m.marks.length : Nat) = m.row.length + 1 := plc_of (hX.mm.at (Nat.le_refl _) hmk2)
    have hrl : (actM s m).row.length = m.row.length + 1 := by rw [hrow, List.length_append]; rfl
    refine ⟨_, hit, by rw [hil], .inl ⟨rfl, by rw [hfr.len], hc, ?_⟩, ?_⟩
    · have hop : decide ((encN (simpF s st.i).1 (txN s (simpF s st.i).1) m.marks.length m.marks.length).act = 12 ∨ (encN (simpF s st.i).1 (txN s (simpF s st.i).1) m.marks.length m.marks.length).act = 13) = false :=
        decide_eq_false (fun e => by have := (act_tst g1.op).1 e; have := simpF_op s st.i; omega)
      rw [q2, hop]
      show (Ld (plcM M (m.marks.length : Nat)), Ld (plcM M (m.marks.length : Nat)), false) = _
      rw [hpl, hnx, hrl]
    · intro e nx0 he
      unfold entO
      rw [if_neg (by omega), hit]
      dsimp only
      rw [if_pos rfl, q1, hfr.len]

theorem par_lep {f : Nat} {s : ByteArray} {lp : Bool} {h b : Int} {m : MS} {st : RS} {c : UInt8} {k : Int} (hc : c = 62 ∨ c = 60) (hk : k = if c = 62 then b else h) (hl : lpOk lp h b) (hlp : decide (st.loops ≠ 0) = lp) (hp : m.p = (st.i, false)) (hb : st.bad = false) (hfr : FR s m.row st.nodes) (hpk : pk s st.i = c.toNat)
    (hg : (lepM s [c, 59] k m).p.2 = false) :
    OPar s f lp h b m st (lepM s [c, 59] k m) (if st.loops = 0 then { st with bad := true } else lpF s st) := by
  have hk1 : k ≠ -1 := by
    intro e
    unfold lepM at hg
    rw [if_pos e] at hg
    cases hg
  have hlt : lp = true := by
    rcases hl with ⟨q, _⟩ | ⟨_, q1, q2⟩
    · exact q
    · exfalso
      apply hk1
      rw [hk]
      split
      · exact q2
      · exact q1
  subst hlt
  have hlo : st.loops ≠ 0 := by simpa using hlp
  rw [if_neg hlo]
  unfold lepM at hg ⊢
  rw [if_neg hk1] at hg ⊢
  have hg0 : (expF s m.p [c, 59]).2 = false := hg
  obtain ⟨a1, a2, a3, a4⟩ := exp2_good hg0
  rw [hp] at a2 a3 a4
  have hst : lpF s st = { st with i := st.i + 2, items := (st.items ++ [(⟨pk s st.i, 0, 0, 0⟩ : It)]).modify st.items.length (fun x => { x with en := ((st.items ++ [(⟨pk s st.i, 0, 0, 0⟩ : It)]).length : Nat) }) } := by
    unfold lpF
    rw [eatS_at (by exact hb) (c := 59) (by exact a3) (by decide)]
    rfl
  have hil : (lpF s st).items.length = st.items.length + 1 := by rw [hst]; dsimp only; rw [List.length_modify, List.length_append]; rfl
  have hin := pk_in s (st.i + 1) (by rw [a3]; decide)
  refine ⟨⟨?_, by rw [hst]; exact hb, by rw [hst], ?_, (xe_exp _).trans (xe_jmp _), ?_, ?_, ?_⟩, by omega, ?_, ?_⟩
  · show expF s m.p [c, 59] = _
    rw [hp, a4, hst]
  · rw [hst]; exact hfr.jump k
  · rw [hst]; exact (Ag.app _ _).mod _ (.inr (Nat.le_refl _))
  · rw [hst]; dsimp only; omega
  · rw [hst]; dsimp only; omega
  · intro M hX hJ
    obtain ⟨j1, j2⟩ := hJ rfl
    have hrl : (jmpM (expM s m [c, 59]) k).row.length = m.row.length + 1 := by show (m.row ++ [_]).length = _; simp
    rw [hrl] at j1 ⊢
    refine jok_one (n := jumpN k) (hX.row.at (Nat.zero_le _) (by show (m.row ++ [jumpN k])[_]? = _; simp)) (fun _ => ?_)
    show _ < plcM M k ∨ ∃ n', M.row[plcM M k]? = some n' ∧ n'.act ≠ 15
    rw [hk]
    split
    · exact .inl (by omega)
    · exact .inr j2
  · intro M IT Ld W nx ou ag hF hX hI hIl hnx hlp
    obtain ⟨l1, l2⟩ := hlp rfl
    have hit : IT[st.items.length]? = some ⟨pk s st.i, 0, 0, (st.items.length + 1 : Nat)⟩ := by
      refine hI.at (Nat.le_refl _) ?_
      rw [hst]
      dsimp only
      rw [modify_at _ (x := (⟨pk s st.i, 0, 0, 0⟩ : It)) (by simp)]
      simp
    have hj : Ld m.row.length = Ld (plcM M k) := hF.jump _ _ (hX.row.at (Nat.zero_le _) (by show (m.row ++ [jumpN k])[_]? = _; simp))
    refine ⟨_, hit, by rw [hil], .inr (.inl ⟨?_, nj_jump m.row k⟩), ?_⟩
    · rw [hpk]; rcases hc with rfl | rfl
      · exact .inl rfl
      · exact .inr rfl
    · intro e nx0 he
      unfold entO
      rw [if_neg (by omega), hit]
      dsimp only
      rw [hpk, hj, hk]
      rcases hc with rfl | rfl
      · rw [if_neg (by decide), if_pos (by decide), l1]; rfl
      · rw [if_neg (by decide), if_neg (by decide), if_pos (by decide), l2]; rfl
end Go.Proofs.YtellieabhaphhaaGreatDoor
