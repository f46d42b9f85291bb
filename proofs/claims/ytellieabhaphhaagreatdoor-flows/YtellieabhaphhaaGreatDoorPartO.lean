import Derived.Test.YtellieabhaphhaaGreatDoorPartN
import Derived.Test.YtellieabhaphhaaGreatDoorPartC
import Derived.OwnWalk
import Derived.Deep.LoopGhost
import Derived.Test.YtellieabhaphhaaGreatDoorPartJ
import Derived.Test.YtellieabhaphhaaGreatDoorPartK
/-
  narrowref's flow: the least table.
-/
namespace Go.Proofs.YtellieabhaphhaaGreatDoor
open Go.RowKit

abbrev DRow (w : World) (v : Value) (l : List Nd) : Prop := Row w v 63 9 l.length (nCells l)

theorem DRow.shape {w : World} {v : Value} {l : List Nd} (h : DRow w v l) : ∃ a cap, v = .slice a l.length cap := by
  rcases h.2 with ⟨rfl, h0⟩ | ⟨g, cap, cur, rfl, _⟩
  · exact ⟨none, 0, by rw [h0]⟩
  · exact ⟨_, _, rfl⟩

theorem DRow.at {w : World} {a : Option Addr} {cap : Nat} {l : List Nd} (h : DRow w (.slice a l.length cap) l) {k : Nat} {n : Nd} (hk : l[k]? = some n) :
    k < l.length ∧ ∃ g, a = some ⟨g, 0, none⟩ ∧ g < w.heap.size ∧ w.cell? ⟨g, k * 9, none⟩ = some (.int .u8 n.op) ∧ w.cell? ⟨g, k * 9 + 1, none⟩ = some (.int .i64 n.x) ∧ w.cell? ⟨g, k * 9 + 2, none⟩ = some (.int .i64 n.y) ∧ w.cell? ⟨g, k * 9 + 3, none⟩ = some (.int .i64 n.v) ∧ w.cell? ⟨g, k * 9 + 4, none⟩ = some (.int .u8 n.k) ∧ w.cell? ⟨g, k * 9 + 5, none⟩ = some (.int .i64 n.t) ∧ w.cell? ⟨g, k * 9 + 6, none⟩ = some (.int .i64 n.f) ∧ w.cell? ⟨g, k * 9 + 7, none⟩ = some (.int .i64 n.a) ∧ w.cell? ⟨g, k * 9 + 8, none⟩ = some (.int .i64 n.l) := by
  obtain ⟨hl, rfl⟩ := List.getElem?_eq_some_iff.1 hk
  obtain ⟨g, cap', e, _, hg⟩ := World.ownsRow.form h (by omega)
  injection e with e1 e2 e3
  subst e1
  have hc : ∀ j, j < 9 → w.cell? ⟨g, k * 9 + j, none⟩ = l[k].cells[j]? := fun j hj => by
    rw [Row.cell h _ (by have := Nat.mul_le_mul_right 9 hl; omega)]
    exact flat_get Nd.cells 9 nd9 l k j hl hj
  have hlt := Row.lt h (b := g) rfl
  exact ⟨hl, g, rfl, hlt, hc 0 (by decide), hc 1 (by decide), hc 2 (by decide), hc 3 (by decide), hc 4 (by decide), hc 5 (by decide), hc 6 (by decide), hc 7 (by decide), hc 8 (by decide)⟩

theorem DRow.at2 {w : World} {g cap : Nat} {l : List Nd} (h : DRow w (.slice (some ⟨g, 0, none⟩) l.length cap) l) {k : Nat} {n : Nd} (hk : l[k]? = some n) :
    g < w.heap.size ∧ w.cell? ⟨g, k * 9, none⟩ = some (.int .u8 n.op) ∧ w.cell? ⟨g, k * 9 + 1, none⟩ = some (.int .i64 n.x) ∧ w.cell? ⟨g, k * 9 + 2, none⟩ = some (.int .i64 n.y) ∧ w.cell? ⟨g, k * 9 + 3, none⟩ = some (.int .i64 n.v) ∧ w.cell? ⟨g, k * 9 + 4, none⟩ = some (.int .u8 n.k) ∧ w.cell? ⟨g, k * 9 + 5, none⟩ = some (.int .i64 n.t) ∧ w.cell? ⟨g, k * 9 + 6, none⟩ = some (.int .i64 n.f) ∧ w.cell? ⟨g, k * 9 + 7, none⟩ = some (.int .i64 n.a) ∧ w.cell? ⟨g, k * 9 + 8, none⟩ = some (.int .i64 n.l) := by
  obtain ⟨_, g', e, h2⟩ := DRow.at h hk
  injection e with e
  injection e with e
  subst e
  exact h2

/-- The table and the nodes. -/
structure LSc (w : World) (tp tb n : Nat) (T : Tbl) (g : Bool) (v : Value) (l : List Nd) : Prop where
  t : TbR w tp tb n T g
  r : DRow w v l
  o1 : v.ownBlock ≠ some tp
  o2 : v.ownBlock ≠ some tb

theorem LSc.kp {w w' : World} {tp tb n : Nat} {T : Tbl} {g : Bool} {v : Value} {l : List Nd} (h : LSc w tp tb n T g v l) (k : Kp no w w') : LSc w' tp tb n T g v l :=
  ⟨h.t.kp k, k.row h.r (fun _ _ => no_elim), h.o1, h.o2⟩

theorem LSc.tk {w w' : World} {tp tb n : Nat} {T T' : Tbl} {g g' : Bool} {v : Value} {l : List Nd} (h : LSc w tp tb n T g v l) (k : Kp (TK tp tb) w w') (t : TbR w' tp tb n T' g') : LSc w' tp tb n T' g' v l :=
  ⟨t, k.row h.r (fun b hb e => by rcases e with rfl | rfl; exact h.o1 hb; exact h.o2 hb), h.o1, h.o2⟩

theorem LSc.turn {w : World} {tp tb n : Nat} {T : Tbl} {g : Bool} {v : Value} {l : List Nd} (h : LSc w tp tb n T g v l) (b : Bool) : LSc (w.setCell ⟨tp, 1, none⟩ (.bool b)) tp tb n T b v l :=
  ⟨h.t.turn b, Row.set h.r _ h.o1, h.o1, h.o2⟩

theorem info_ss : (Tryz.prog.info? 65).map (fun i => (i.zero, i.size, i.bytes)) = some (some (.slice none 0 0), 1, 24) := by kernel_rfl

theorem row_blk {w : World} {b n : Nat} {T : TypeId} {vs : List Value} (h : Row w (.slice (some ⟨b, 0, none⟩) n n) T 1 n vs) : vs.length = n ∧ Blk w b vs T := by
  rcases h.2 with ⟨e, _⟩ | ⟨g, cap, cur, e, _, hg, _, _, hs, ht⟩
  · cases e
  · injection e with e1 e2 e3
    injection e1 with e1
    injection e1 with e1
    subst e1 e3
    refine ⟨by rw [h.1, Nat.mul_one], ?_⟩
    rw [Nat.mul_one] at hs ht
    rw [List.take_of_length_le (by simp [hs])] at ht
    unfold Blk
    rw [hg, ← ht]

theorem made_nil (n : Nat) : (madeCells (Value.slice none 0 0).cells (n * 1)).toList = List.replicate n (.slice none 0 0) := by
  rw [Nat.mul_one]
  apply List.ext_getElem
  · simp [madeCells]
  · intro i h1 h2
    simp [madeCells, Value.cells, Nat.mod_one]

/-- A table, as it is handed on. -/
def TV (w : World) (v : Value) (T : Tbl) : Prop :=
  ∃ tb cap, v = .slice (some ⟨tb, 0, none⟩) T.length cap ∧ tb < w.heap.size ∧ ∀ i, i < T.length → ∃ a c, w.cell? ⟨tb, i, none⟩ = some (.slice a (T.getD i []).length c) ∧ SV w (.slice a (T.getD i []).length c) (T.getD i [])

theorem start_s (w : World) :
    Calls Tryz.prog 41 #[] w fun e w' => ∃ au cu, e = .returned (.slice au 6 cu) ∧ SV w' (.slice au 6 cu) [8, 8, 8, 8, 8, 8] ∧ New w (.slice au 6 cu) ∧ Kp no w w' :=
  (start_c w).mono fun e w' ⟨u, h1, h2, h3, h4⟩ => by
    obtain ⟨a, c, rfl⟩ := h2.shape
    exact ⟨a, c, h1, h2, h3, h4⟩

theorem New.ne {w : World} {v : Value} {b : Nat} (h : New w v) (hb : b < w.heap.size) : v.ownBlock ≠ some b := fun e => by have := h b e; omega

/-- A state beside the table. -/
def SB (w : World) (tp tb : Nat) (u : Value) (s : St) : Prop := SV w u s ∧ u.ownBlock ≠ some tp ∧ u.ownBlock ≠ some tb

theorem SB.tk {w w' : World} {tp tb : Nat} {u : Value} {s : St} (h : SB w tp tb u s) (k : Kp (TK tp tb) w w') : SB w' tp tb u s :=
  ⟨k.row h.1 (fun b hb e => by rcases e with rfl | rfl; exact h.2.1 hb; exact h.2.2 hb), h.2⟩
theorem SB.kp {w w' : World} {tp tb : Nat} {u : Value} {s : St} (h : SB w tp tb u s) (k : Kp no w w') : SB w' tp tb u s := ⟨k.row h.1 (fun _ _ => no_elim), h.2⟩

theorem lsc_tv {w : World} {tp tb n : Nat} {T : Tbl} {g : Bool} {v : Value} {l : List Nd} (h : LSc w tp tb n T g v l) (hn : l.length ≤ n) : TV w (.slice (some ⟨tb, 0, none⟩) l.length n) (T.take l.length) := by
  have hl : (T.take l.length).length = l.length := by rw [List.length_take, h.t.len]; omega
  refine ⟨tb, n, by rw [hl], h.t.c.2.2.2.2.2, fun i hi => ?_⟩
  rw [hl] at hi
  obtain ⟨a, c, q0, q1, _⟩ := h.t.at (i := i) (by omega)
  rw [getD_take hi]
  exact ⟨a, c, q0, q1⟩

set_option maxRecDepth 100000 in
set_option maxHeartbeats 6400000 in
theorem least_c (v : Value) (l : List Nd) (w : World) (h : DRow w v l) (hl : l.length ≤ 90) (hg : ∀ n ∈ l, Gn n) :
    Calls Tryz.prog 89 #[v] w fun e w' => ∃ u, e = .returned u ∧ TV w' u (lstF l) ∧ Kp no w w' := by
  obtain ⟨i0, hi, hz0, hz1, hz2⟩ := info_parts info_ss
  obtain ⟨a, cap, rfl⟩ := h.shape
  have HD := hide h
  clear h
  go_enter Tryz.func89, Tryz.ntmps89
  go_wp2_with (at_make; refine wpList_make_full _ rfl (.tmp 12) (.tmp 12) 132 rfl 0 65 i0 _ 1 Tryz.underlying132 hi hz0 hz1 .i64 .i64 _ _ (l.length + 1) (by simp [Act.eval]; rfl) (by simp [Act.eval]; rfl) (by push_cast; rfl) (by push_cast; rfl) (by rw [hz2]; omega) (by unfold maxLen; omega) (Nat.zero_le _) ?_; intro w1 hrow hgrow)
  have hT0 : LSc (w1.alloc (.cells #[.slice (some ⟨w.heap.size, 0, none⟩) (l.length + 1) (l.length + 1), .bool true] 174)) w1.heap.size w.heap.size (l.length + 1) (List.replicate (l.length + 1) []) true (.slice a l.length cap) l := by
    have k1 : Kp no w w1 := (Kp.refl _ _).grown hgrow (fun k _ e => by cases e)
    obtain ⟨b1, b2⟩ := row_blk hrow
    rw [made_nil] at b1 b2
    have hb := b2.lt
    refine ⟨⟨by (repeat' (first | ((with_reducible show (_ : List Value) = _); rfl) | ((with_reducible refine Blk.newAt _ _ _ ?_); first | with_reducible rfl | (simp; done)) | with_reducible refine Blk.alloc ?_ _ | with_reducible refine Blk.drewN ?_ _ | with_reducible refine Blk.drew ?_ | ((with_reducible refine Blk.other ?_ _ ?_); rotate_left; ((try dsimp only); omega)) | with_reducible refine Blk.setB (cs0 := ?_) ?_ ?_)), by omega, by simp, _, b1, b2.alloc _, ?_⟩, World.ownsRow.alloc (k1.row HD.out (fun _ _ => no_elim)) _, ?_, ?_⟩
    · intro i v hv
      obtain ⟨h1, rfl⟩ := List.getElem?_eq_some_iff.1 hv
      rw [List.getElem_replicate]
      refine ⟨?_, by simp [Value.ownBlock], by simp [Value.ownBlock]⟩
      have : (List.replicate (l.length + 1) ([] : St)).getD i [] = [] := by rw [List.getD_eq_getElem?_getD, List.getElem?_replicate]; split <;> rfl
      rw [this]
      exact SV.nil _
    · intro e; have := Row.lt HD.out e; have := k1.size; omega
    · intro e; have := Row.lt HD.out e; omega
  have hk0 : Kp no w (w1.alloc (.cells #[.slice (some ⟨w.heap.size, 0, none⟩) (l.length + 1) (l.length + 1), .bool true] 174)) := ((Kp.refl _ _).grown hgrow (fun k _ e => by cases e)).alloc _
  have hs1 := hgrow.size
  refine wp_gen (fun W => LSc W w1.heap.size w.heap.size (l.length + 1) (List.replicate (l.length + 1) []) true (.slice a l.length cap) l ∧ Kp no w W) ⟨hT0, hk0⟩ ?_
  clear hT0 hk0 hrow hgrow
  rintro W ⟨hW, kW⟩
  generalize w1.heap.size = tp at *
  obtain ⟨tb, htb⟩ : ∃ tb, tb = w.heap.size := ⟨_, rfl⟩
  rw [← htb] at hW ⊢
  have HTB := hide htb
  have HTP := hide hs1
  have HWW := hide hW
  obtain ⟨c0, c1, cf, cg, cl, cm⟩ := hW.t.c
  obtain ⟨a0, cap0, q0, _⟩ := hW.t.at (i := 0) (by omega)
  rw [show ((List.replicate (l.length + 1) ([] : St)).getD 0 []).length = 0 from rfl] at q0
  have hne := hW.t.ne
  clear hs1 hW htb
  have b0 : (0 : Int) < (l.length : Int) + 1 := by omega
  go_cut [] from 10 (fun W5 => LSc W5 tp tb (l.length + 1) (tR l.length) true (.slice a l.length cap) l ∧ Kp no w W5)
  case first =>
    go_region_with (go_at_call 41; refine (start_s _).mono ?_; rintro e w5 ⟨au, cu, rfl, hu, hnew, k5⟩; have k5' : Kp no W w5 := Kp.trans (by (repeat' (first | with_reducible exact Kp.refl _ _ | with_reducible refine Kp.alloc ?_ _ | with_reducible refine Kp.drewN ?_ _ | with_reducible refine Kp.drew ?_ | with_reducible refine Kp.setCell ?_ _ ?_ | (intro hh; first | rfl | exact .inl rfl | exact .inr rfl | (exfalso; (try dsimp only at hh); omega))))) k5 (fun _ _ e => e); have HW5 := hide (HWW.out.kp k5'); obtain ⟨c0, c1, cf, cg, cl, cm⟩ := HW5.out.t.c; obtain ⟨a0, cap0, q0, _⟩ := HW5.out.t.at (i := 0) (by omega); rw [show ((List.replicate (l.length + 1) ([] : St)).getD 0 []).length = 0 from rfl] at q0)
    all_goals
      go_wp2
      go_meet
      case rel =>
        have hc := HWW.out.t.c
        have hn1 : Value.ownBlock (.slice au 6 cu) ≠ some tp := fun e => by have := hnew _ e; have := hc.2.2.2.2.1; simp at *; omega
        have hn2 : Value.ownBlock (.slice au 6 cu) ≠ some tb := fun e => by have := hnew _ e; have := hc.2.2.2.2.2; simp at *; omega
        exact ⟨⟨HW5.out.t.set (i := 0) (by omega) hu hn1 hn2, Row.set HW5.out.r _ HW5.out.o2, HW5.out.o1, HW5.out.o2⟩, (kW.trans k5' (fun _ _ e => e)).setCell _ (fun hb => by have := HTB.out; dsimp only at hb; omega)⟩
  case rest =>
    obtain ⟨hW2, kW2⟩ := hcut
    have HW2 := hide hW2
    have HK2 := hide kW2
    have HTR := hide (show TOk (tR l.length) from tR_ok _)
    clear hW2 kW2 HWW kW c0 c1 cf cg cl cm q0 b0
    go_wp2
    go_loopg [4] 4000 (fun k nv wr => ∃ m : Nat, m ≤ 4000 ∧ k = 4000 - m ∧ nv = .int .i64 m ∧ ∃ g, LSc wr tp tb (l.length + 1) (itF l m (tR l.length)) g (.slice a l.length cap) l ∧ (g = false → (swpF l 0 (itF l m (tR l.length))).1 = itF l m (tR l.length)) ∧ Kp no w wr)
    case atStart => exact ⟨0, Nat.zero_le _, rfl, rfl, true, HW2.out, (fun e => by cases e), HK2.out⟩
    case round =>
      obtain ⟨m, hm, hk, rfl, g, hS, hfx, kr⟩ := hrel
      have HKK := hide hk
      have HS := hide hS
      have HFX := hide hfx
      have HKR := hide kr
      obtain ⟨c0, c1, cf, cg, cl, cm⟩ := hS.t.c
      have HOK := hide (TOk.it (l := l) (k := m) HTR.out)
      have HIT := hide (it_succ l m (tR l.length))
      clear hk hS hfx kr
      by_cases hlt : m < 4000
      · have hmI : (m : Int) < 4000 := by omega
        cases g
        · have HRS := hide (show itF l 4000 (tR l.length) = itF l m (tR l.length) from it_rest l _ m (HFX.out rfl) 4000 hm)
          go_wp2
          go_ret
          refine ⟨_, rfl, ?_, HKR.out⟩
          unfold lstF
          rw [HRS.out]
          exact lsc_tv HS.out (by omega)
        · generalize itF l m (tR l.length) = T at *
          go_wp2
          go_loopg [5] l.length (fun k iv wx => ∃ j : Nat, j ≤ l.length ∧ k = l.length - j ∧ iv = .int .i64 j ∧ LSc wx tp tb (l.length + 1) (swpF (l.take j) 0 T).1 (swpF (l.take j) 0 T).2 (.slice a l.length cap) l ∧ Kp no w wx)
          case atStart => exact ⟨0, Nat.zero_le _, rfl, rfl, HS.out.turn false, HKR.out.setCell _ (fun hb => by have := HTP.out; dsimp only at hb; omega)⟩
          case round =>
            obtain ⟨j, hj, hk2, rfl, hS2, kx⟩ := hrel
            have HKK2 := hide hk2
            have HB0 := hide hS2
            have HKB0 := hide kx
            clear hk2 hS2 kx c0 c1 cf cg cl cm
            by_cases hlt : j < l.length
            · obtain ⟨nd, hnd⟩ : ∃ nd, l[j]? = some nd := ⟨_, List.getElem?_eq_getElem hlt⟩
              have HND := hide hnd
              have HGN := hide (hg nd (List.mem_of_getElem? hnd))
              have HSN := hide (show swpF (l.take (j + 1)) 0 T = ((pasF nd j (swpF (l.take j) 0 T).1).1, (swpF (l.take j) 0 T).2 || (pasF nd j (swpF (l.take j) 0 T).1).2) by
                obtain ⟨h1, rfl⟩ := List.getElem?_eq_some_iff.1 hnd
                rw [List.take_succ_eq_append_getElem h1, swp_snoc, List.length_take, Nat.min_eq_left hj, Nat.zero_add])
              have HTO := hide (TOk.swp (l := l.take j) (i := 0) HOK.out)
              obtain ⟨_, gn, ha, _⟩ := DRow.at HB0.out.r hnd
              subst ha
              clear hnd
              generalize swpF (l.take j) 0 T = TG at *
              obtain ⟨T1, g1⟩ := TG
              dsimp only at HSN HTO HB0
              have HSO := hide (HTO.out.get j)
              generalize hss : T1.getD j [] = S at *
              have HSS := hide hss
              clear hss
              obtain ⟨gnl, n0, n1, n2, n3, n4, n5, n6, n7, n8⟩ := DRow.at2 HB0.out.r HND.out; obtain ⟨c0, c1, cf, cg, cl, cm⟩ := HB0.out.t.c; obtain ⟨a1, p1, q0, q1, q2, q3⟩ := HB0.out.t.at (i := j) (by omega); rw [HSS.out] at q0 q1 q2 q3
              have hjI : (j : Int) < l.length := by omega
              have hjI2 : (j : Int) < (l.length : Int) + 1 := by omega
              go_wp2_with fail
              refine (ftest_c nd _).mono ?_
              rintro e wB ⟨rfl, k1⟩
              have HB := hide (HB0.out.kp k1)
              have HKB := hide (HKB0.out.trans k1 (fun _ _ e => e))
              clear gnl n0 n1 n2 n3 n4 n5 n6 n7 n8 c0 c1 cf cg cl cm q0 q1 q2 q3
              obtain ⟨gnl, n0, n1, n2, n3, n4, n5, n6, n7, n8⟩ := DRow.at2 HB.out.r HND.out; obtain ⟨c0, c1, cf, cg, cl, cm⟩ := HB.out.t.c; obtain ⟨a1, p1, q0, q1, q2, q3⟩ := HB.out.t.at (i := j) (by omega); rw [HSS.out] at q0 q1 q2 q3
              by_cases hS0 : S = []
              · have HP := hide (show pasF nd j T1 = (T1, false) by rw [pasF, HSS.out, if_pos hS0])
                subst hS0
                generalize decide (nd.op = 121 ∨ nd.op = 58) = tst at *
                cases tst
                all_goals
                  go_wp2
                  go_roundg (l.length - (j + 1))
                  case measure => have := HKK2.out; omega
                  case rel => exact ⟨j + 1, by omega, rfl, by go_num, by rw [HSN.out, HP.out, Bool.or_false]; exact HB.out, HKB.out⟩
              · have h6 : S.length = 6 := (HSO.out.resolve_left hS0).1
                have hSI : (0 : Int) < (S.length : Int) := by omega
                clear h6
                by_cases ht : nd.op = 121 ∨ nd.op = 58
                · have htt : nd.op = 121 ∨ nd.op = 58 := ht
                  have HTT := hide htt
                  rw [decide_eq_true htt]
                  have HP := hide (show pasF nd j T1 = ((intoF (intoF T1 nd.t (hldF nd true S)).1 nd.f (hldF nd false S)).1, (intoF T1 nd.t (hldF nd true S)).2 || (intoF (intoF T1 nd.t (hldF nd true S)).1 nd.f (hldF nd false S)).2) by rw [pasF, HSS.out, if_neg hS0, if_pos htt])
                  clear ht htt
                  go_wp2_with fail
                  go_cut [7] from 1000 (fun av W5 => SB W5 tp tb av (hldF nd true S) ∧ LSc W5 tp tb (l.length + 1) T1 g1 (.slice (some ⟨gn, 0, none⟩) l.length cap) l ∧ Kp no w W5)
                  case first =>
                    go_region_with (go_at_call 73; refine (fholds_c nd _ S true _ (Kp.row (S := no) (by (repeat' (first | with_reducible exact Kp.refl _ _ | with_reducible refine Kp.alloc ?_ _ | with_reducible refine Kp.drewN ?_ _ | with_reducible refine Kp.drew ?_ | with_reducible refine Kp.setCell ?_ _ ?_ | (intro hh; first | rfl | exact .inl rfl | exact .inr rfl | (exfalso; (try dsimp only at hh); omega))))) q1 (fun _ _ => no_elim)) HSO.out hS0 HGN.out HTT.out).mono ?_; rintro e w5 ⟨u, rfl, hu, hnew, k5⟩)
                    all_goals
                      go_wp2
                      go_meet
                      case rel =>
                        have k6 : Kp no wB w5 := Kp.trans (by (repeat' (first | with_reducible exact Kp.refl _ _ | with_reducible refine Kp.alloc ?_ _ | with_reducible refine Kp.drewN ?_ _ | with_reducible refine Kp.drew ?_ | with_reducible refine Kp.setCell ?_ _ ?_ | (intro hh; first | rfl | exact .inl rfl | exact .inr rfl | (exfalso; (try dsimp only at hh); omega))))) k5 (fun _ _ e => e)
                        exact ⟨⟨hu, hnew.ne (by simpa using cl), hnew.ne (by simpa using cm)⟩, HB.out.kp (by (repeat' (first | with_reducible exact Kp.refl _ _ | with_reducible refine Kp.alloc ?_ _ | with_reducible refine Kp.drewN ?_ _ | with_reducible refine Kp.drew ?_ | with_reducible refine Kp.setCell ?_ _ ?_ | with_reducible refine Kp.trans ?_ k6 (fun _ _ e => e) | (intro hh; first | rfl | exact .inl rfl | exact .inr rfl | (exfalso; (try dsimp only at hh); omega))))), HKB.out.trans (S' := no) (by (repeat' (first | with_reducible exact Kp.refl _ _ | with_reducible refine Kp.alloc ?_ _ | with_reducible refine Kp.drewN ?_ _ | with_reducible refine Kp.drew ?_ | with_reducible refine Kp.setCell ?_ _ ?_ | with_reducible refine Kp.trans ?_ k6 (fun _ _ e => e) | (intro hh; first | rfl | exact .inl rfl | exact .inr rfl | (exfalso; (try dsimp only at hh); omega))))) (fun _ _ e => e)⟩
                  case rest =>
                    obtain ⟨hA, hC1, kC1⟩ := hcut
                    have HA := hide hA
                    have HC := hide hC1
                    have HKC := hide kC1
                    clear hA hC1 kC1
                    clear gnl n0 n1 n2 n3 n4 n5 n6 n7 n8 c0 c1 cf cg cl cm q0 q1 q2 q3
                    obtain ⟨gnl, n0, n1, n2, n3, n4, n5, n6, n7, n8⟩ := DRow.at2 HC.out.r HND.out; obtain ⟨c0, c1, cf, cg, cl, cm⟩ := HC.out.t.c; obtain ⟨a1, p1, q0, q1, q2, q3⟩ := HC.out.t.at (i := j) (by omega); rw [HSS.out] at q0 q1 q2 q3
                    go_wp2_with fail
                    go_cut [8] from 1000 (fun av W5 => SB W5 tp tb av (hldF nd false S) ∧ LSc W5 tp tb (l.length + 1) T1 g1 (.slice (some ⟨gn, 0, none⟩) l.length cap) l ∧ Kp no w W5 ∧ SB W5 tp tb u7 (hldF nd true S))
                    case first =>
                      go_region_with (go_at_call 73; refine (fholds_c nd _ S false _ (Kp.row (S := no) (by (repeat' (first | with_reducible exact Kp.refl _ _ | with_reducible refine Kp.alloc ?_ _ | with_reducible refine Kp.drewN ?_ _ | with_reducible refine Kp.drew ?_ | with_reducible refine Kp.setCell ?_ _ ?_ | (intro hh; first | rfl | exact .inl rfl | exact .inr rfl | (exfalso; (try dsimp only at hh); omega))))) q1 (fun _ _ => no_elim)) HSO.out hS0 HGN.out HTT.out).mono ?_; rintro e w5 ⟨u, rfl, hu, hnew, k5⟩)
                      all_goals
                        go_wp2
                        go_meet
                        case rel =>
                          have k6 : Kp no wc w5 := Kp.trans (by (repeat' (first | with_reducible exact Kp.refl _ _ | with_reducible refine Kp.alloc ?_ _ | with_reducible refine Kp.drewN ?_ _ | with_reducible refine Kp.drew ?_ | with_reducible refine Kp.setCell ?_ _ ?_ | (intro hh; first | rfl | exact .inl rfl | exact .inr rfl | (exfalso; (try dsimp only at hh); omega))))) k5 (fun _ _ e => e)
                          exact ⟨⟨hu, hnew.ne (by simpa using cl), hnew.ne (by simpa using cm)⟩, HC.out.kp (by (repeat' (first | with_reducible exact Kp.refl _ _ | with_reducible refine Kp.alloc ?_ _ | with_reducible refine Kp.drewN ?_ _ | with_reducible refine Kp.drew ?_ | with_reducible refine Kp.setCell ?_ _ ?_ | with_reducible refine Kp.trans ?_ k6 (fun _ _ e => e) | (intro hh; first | rfl | exact .inl rfl | exact .inr rfl | (exfalso; (try dsimp only at hh); omega))))), HKC.out.trans (S' := no) (by (repeat' (first | with_reducible exact Kp.refl _ _ | with_reducible refine Kp.alloc ?_ _ | with_reducible refine Kp.drewN ?_ _ | with_reducible refine Kp.drew ?_ | with_reducible refine Kp.setCell ?_ _ ?_ | with_reducible refine Kp.trans ?_ k6 (fun _ _ e => e) | (intro hh; first | rfl | exact .inl rfl | exact .inr rfl | (exfalso; (try dsimp only at hh); omega))))) (fun _ _ e => e), HA.out.kp (by (repeat' (first | with_reducible exact Kp.refl _ _ | with_reducible refine Kp.alloc ?_ _ | with_reducible refine Kp.drewN ?_ _ | with_reducible refine Kp.drew ?_ | with_reducible refine Kp.setCell ?_ _ ?_ | with_reducible refine Kp.trans ?_ k6 (fun _ _ e => e) | (intro hh; first | rfl | exact .inl rfl | exact .inr rfl | (exfalso; (try dsimp only at hh); omega)))))⟩
                    case rest =>
                      obtain ⟨hB2, hC2, kC2, hA2⟩ := hcut
                      rename_i wc2
                      have HA2 := hide hA2
                      have HB2 := hide hB2
                      have HC2 := hide hC2
                      have HKC2 := hide kC2
                      clear hB2 hC2 kC2 hA2 HA HC HKC
                      clear gnl n0 n1 n2 n3 n4 n5 n6 n7 n8 c0 c1 cf cg cl cm q0 q1 q2 q3
                      obtain ⟨gnl, n0, n1, n2, n3, n4, n5, n6, n7, n8⟩ := DRow.at2 HC2.out.r HND.out; obtain ⟨c0, c1, cf, cg, cl, cm⟩ := HC2.out.t.c
                      go_wp2_with fail
                      refine (into_c tp tb (l.length + 1) T1 g1 nd.t _ _ _ HC2.out.t HTO.out HA2.out.1 (HSO.out.hld nd true) HA2.out.2.1 HA2.out.2.2).mono ?_
                      rintro e w6 ⟨rfl, hT6, k6⟩
                      have HC3 := hide (HC2.out.tk k6 hT6)
                      have HB3 := hide (HB2.out.tk k6)
                      have HKC3 := hide (HKC2.out.trans k6 (fun x hx e => by have := HTB.out; have := HTP.out; rcases e with rfl | rfl <;> omega))
                      have HTO3 := hide (HTO.out.into nd.t (HSO.out.hld nd true))
                      clear hT6 k6
                      clear gnl n0 n1 n2 n3 n4 n5 n6 n7 n8 c0 c1 cf cg cl cm
                      obtain ⟨gnl, n0, n1, n2, n3, n4, n5, n6, n7, n8⟩ := DRow.at2 HC3.out.r HND.out; obtain ⟨c0, c1, cf, cg, cl, cm⟩ := HC3.out.t.c
                      go_wp2_with fail
                      refine (into_c tp tb (l.length + 1) _ _ nd.f _ _ _ HC3.out.t HTO3.out HB3.out.1 (HSO.out.hld nd false) HB3.out.2.1 HB3.out.2.2).mono ?_
                      rintro e w7 ⟨rfl, hT7, k7⟩
                      have HC4 := hide (HC3.out.tk k7 hT7)
                      have HKC4 := hide (HKC3.out.trans k7 (fun x hx e => by have := HTB.out; have := HTP.out; rcases e with rfl | rfl <;> omega))
                      go_wp2
                      go_roundg (l.length - (j + 1))
                      case measure => have := HKK2.out; omega
                      case rel => exact ⟨j + 1, by omega, rfl, by go_num, by rw [HSN.out, HP.out, ← Bool.or_assoc]; exact HC4.out, HKC4.out⟩
                · have HTT := hide ht
                  rw [decide_eq_false ht]
                  have HP := hide (show pasF nd j T1 = intoF T1 nd.t (behF nd S) by rw [pasF, HSS.out, if_neg hS0, if_neg ht])
                  clear ht
                  go_wp2_with fail
                  go_cut [9] from 1000 (fun av W5 => SB W5 tp tb av (behF nd S) ∧ LSc W5 tp tb (l.length + 1) T1 g1 (.slice (some ⟨gn, 0, none⟩) l.length cap) l ∧ Kp no w W5)
                  case first =>
                    go_region_with (go_at_call 72; refine (fbehind_c nd _ S _ (Kp.row (S := no) (by (repeat' (first | with_reducible exact Kp.refl _ _ | with_reducible refine Kp.alloc ?_ _ | with_reducible refine Kp.drewN ?_ _ | with_reducible refine Kp.drew ?_ | with_reducible refine Kp.setCell ?_ _ ?_ | (intro hh; first | rfl | exact .inl rfl | exact .inr rfl | (exfalso; (try dsimp only at hh); omega))))) q1 (fun _ _ => no_elim)) HSO.out hS0 HGN.out HTT.out).mono ?_; rintro e w5 ⟨u, rfl, hu, hor, k5⟩)
                    all_goals
                      go_wp2
                      go_meet
                      case rel =>
                        have k6 : Kp no wB w5 := Kp.trans (by (repeat' (first | with_reducible exact Kp.refl _ _ | with_reducible refine Kp.alloc ?_ _ | with_reducible refine Kp.drewN ?_ _ | with_reducible refine Kp.drew ?_ | with_reducible refine Kp.setCell ?_ _ ?_ | (intro hh; first | rfl | exact .inl rfl | exact .inr rfl | (exfalso; (try dsimp only at hh); omega))))) k5 (fun _ _ e => e)
                        exact ⟨⟨hu, by rcases hor with rfl | hnew; exact q2; exact hnew.ne (by simpa using cl), by rcases hor with rfl | hnew; exact q3; exact hnew.ne (by simpa using cm)⟩, HB.out.kp (by (repeat' (first | with_reducible exact Kp.refl _ _ | with_reducible refine Kp.alloc ?_ _ | with_reducible refine Kp.drewN ?_ _ | with_reducible refine Kp.drew ?_ | with_reducible refine Kp.setCell ?_ _ ?_ | with_reducible refine Kp.trans ?_ k6 (fun _ _ e => e) | (intro hh; first | rfl | exact .inl rfl | exact .inr rfl | (exfalso; (try dsimp only at hh); omega))))), HKB.out.trans (S' := no) (by (repeat' (first | with_reducible exact Kp.refl _ _ | with_reducible refine Kp.alloc ?_ _ | with_reducible refine Kp.drewN ?_ _ | with_reducible refine Kp.drew ?_ | with_reducible refine Kp.setCell ?_ _ ?_ | with_reducible refine Kp.trans ?_ k6 (fun _ _ e => e) | (intro hh; first | rfl | exact .inl rfl | exact .inr rfl | (exfalso; (try dsimp only at hh); omega))))) (fun _ _ e => e)⟩
                  case rest =>
                    obtain ⟨hA, hC1, kC1⟩ := hcut
                    have HA := hide hA
                    have HC := hide hC1
                    have HKC := hide kC1
                    clear hA hC1 kC1
                    clear gnl n0 n1 n2 n3 n4 n5 n6 n7 n8 c0 c1 cf cg cl cm q0 q1 q2 q3
                    obtain ⟨gnl, n0, n1, n2, n3, n4, n5, n6, n7, n8⟩ := DRow.at2 HC.out.r HND.out; obtain ⟨c0, c1, cf, cg, cl, cm⟩ := HC.out.t.c
                    go_wp2_with fail
                    refine (into_c tp tb (l.length + 1) T1 g1 nd.t _ _ _ HC.out.t HTO.out HA.out.1 (HSO.out.beh nd) HA.out.2.1 HA.out.2.2).mono ?_
                    rintro e w6 ⟨rfl, hT6, k6⟩
                    have HC3 := hide (HC.out.tk k6 hT6)
                    have HKC3 := hide (HKC.out.trans k6 (fun x hx e => by have := HTB.out; have := HTP.out; rcases e with rfl | rfl <;> omega))
                    go_wp2
                    go_roundg (l.length - (j + 1))
                    case measure => have := HKK2.out; omega
                    case rel => exact ⟨j + 1, by omega, rfl, by go_num, by rw [HSN.out, HP.out]; exact HC3.out, HKC3.out⟩
            · obtain rfl : j = l.length := by omega
              rw [List.take_length] at HB0
              go_wp2
              go_roundg (4000 - (m + 1))
              case measure => have := HKK.out; omega
              case rel => exact ⟨m + 1, by omega, rfl, by go_num, (swpF l 0 T).2, by rw [HIT.out]; exact HB0.out, by rw [HIT.out]; exact fun e => by rw [swp_same e]; exact swp_same e, HKB0.out⟩
      · obtain rfl : m = 4000 := by omega
        cases g
        all_goals
          go_wp2
          go_ret
          refine ⟨_, rfl, ?_, HKR.out⟩
          unfold lstF
          exact lsc_tv HS.out (by omega)
end Go.Proofs.YtellieabhaphhaaGreatDoor

/-
  narrowref's flow: a table as a text; Flow.
-/
namespace Go.Proofs.YtellieabhaphhaaGreatDoor
open Go.RowKit

def stB (a : ByteArray) (s : St) : ByteArray := s.foldl (fun a m => a ++ sgB m ++ ⟨#[46]⟩) a
def rowB (a : ByteArray) (s : St) : ByteArray := stB (if s = [] then a ++ ⟨#[63]⟩ else a) s ++ ⟨#[59]⟩
def splB (T : Tbl) : ByteArray := T.foldl rowB ⟨#[]⟩

theorem stB_take (a : ByteArray) (s : St) (j : Nat) (h : j < s.length) : stB a (s.take (j + 1)) = stB a (s.take j) ++ sgB (s.getD j 0) ++ ⟨#[46]⟩ := by
  rw [List.take_succ_eq_append_getElem h]
  unfold stB
  rw [List.foldl_append, List.getD_eq_getElem?_getD, List.getElem?_eq_getElem h]
  rfl

theorem splB_take (T : Tbl) (j : Nat) (h : j < T.length) : splB (T.take (j + 1)) = rowB (splB (T.take j)) (T.getD j []) := by
  rw [List.take_succ_eq_append_getElem h]
  unfold splB
  rw [List.foldl_append, List.getD_eq_getElem?_getD, List.getElem?_eq_getElem h]
  rfl

theorem stB_size (a : ByteArray) (s : St) : (stB a s).size ≤ a.size + 8 * s.length := by
  unfold stB
  induction s generalizing a with
  | nil => simp
  | cons m s ih =>
    have h1 := ih (a ++ sgB m ++ ⟨#[46]⟩)
    have h2 := sg_size m
    rw [ByteArray.size_append, ByteArray.size_append, show (ByteArray.mk #[46]).size = 1 from rfl] at h1
    rw [List.foldl_cons, List.length_cons]
    omega

theorem rowB_size (a : ByteArray) (s : St) (hs : SOk s) : (rowB a s).size ≤ a.size + 50 := by
  unfold rowB
  have h6 : s.length ≤ 6 := by rcases hs with rfl | h; exact Nat.zero_le _; omega
  have h1 := stB_size (if s = [] then a ++ ⟨#[63]⟩ else a) s
  have h2 : (if s = [] then a ++ ⟨#[63]⟩ else a).size ≤ a.size + 1 := by
    split
    · rw [ByteArray.size_append]; exact Nat.le_refl _
    · omega
  rw [ByteArray.size_append, show (ByteArray.mk #[59]).size = 1 from rfl]
  omega

theorem splB_size (T : Tbl) (h : TOk T) : (splB T).size ≤ 50 * T.length := by
  have key : ∀ (T : Tbl) (a : ByteArray), TOk T → (T.foldl rowB a).size ≤ a.size + 50 * T.length := by
    intro T
    induction T with
    | nil => intro a _; simp
    | cons s T ih =>
      intro a h
      have h1 := ih (rowB a s) (fun z hz => h z (List.mem_cons_of_mem _ hz))
      have h2 := rowB_size a s (h s (List.mem_cons_self ..))
      rw [List.foldl_cons, List.length_cons]
      omega
  have := key T ⟨#[]⟩ h
  rw [show (ByteArray.mk #[]).size = 0 from rfl, Nat.zero_add] at this
  exact this

theorem TOk.take {T : Tbl} (h : TOk T) (j : Nat) : TOk (T.take j) := fun s hs => h s (List.mem_of_mem_take hs)

set_option maxRecDepth 100000 in
set_option maxHeartbeats 3200000 in
theorem spell_c (v : Value) (T : Tbl) (w : World) (h : TV w v T) (hT : TOk T) (hl : T.length ≤ 90) :
    Calls Tryz.prog 88 #[v] w fun e w' => e = .returned (.string (splB T)) ∧ Kp no w w' := by
  obtain ⟨tb, cap, rfl, htb, hat⟩ := h
  have HAT := hide hat
  clear hat
  go_enter Tryz.func88, Tryz.ntmps88
  go_wp2
  go_loopg [3, 4] T.length (fun k sv iv wr => ∃ j : Nat, j ≤ T.length ∧ k = T.length - j ∧ iv = .int .i64 j ∧ sv = .string (splB (T.take j)) ∧ Kp no w wr)
  case atStart => exact ⟨0, Nat.zero_le _, rfl, rfl, rfl, Kp.refl _ _⟩
  case round =>
    obtain ⟨j, hj, hk, rfl, rfl, kr⟩ := hrel
    have HKK := hide hk
    have HKR := hide kr
    clear hk kr
    by_cases hlt : j < T.length
    · obtain ⟨a1, p1, q0w, q1w⟩ := HAT.out j hlt
      have q0 := (HKR.out.cell htb no_elim j).trans q0w
      have HQ1 := hide q1w
      have htr := Nat.lt_of_lt_of_le htb HKR.out.size
      have HRW := hide (splB_take T j hlt)
      have hsz := Nat.le_trans (splB_size _ (hT.take j)) (Nat.mul_le_mul_left 50 (show (T.take j).length ≤ 90 by rw [List.length_take]; omega))
      have HSO := hide (hT.get j)
      clear q1w
      generalize T.getD j [] = S at *
      generalize splB (T.take j) = acc at *
      have hjI : (j : Int) < T.length := by omega
      have HQ0 := hide q0w
      have h6 : S.length ≤ 6 := by rcases HSO.out with rfl | h; exact Nat.zero_le _; omega
      by_cases hS0 : S = []
      · have HR2 := hide (show rowB acc S = stB (acc ++ ⟨#[63]⟩) S ++ ⟨#[59]⟩ by rw [rowB, if_pos hS0])
        have e63 : (ByteArray.mk #[63]).size = 1 := rfl
        have hsa : (acc ++ ⟨#[63]⟩).size ≤ 4501 := by rw [ByteArray.size_append]; omega
        have hl0 : S.length = 0 := by rw [hS0]; rfl
        have hl0' : ((S.length : Int) == 0) = true := by rw [hl0]; rfl
        clear hS0 hl0
        go_wp2
        generalize hacc : acc ++ ⟨#[63]⟩ = acc0 at *
        clear hacc
        clear q0 htr
        go_loopg [3, 5] S.length (fun k sv vv wx => ∃ q : Nat, q ≤ S.length ∧ k = S.length - q ∧ vv = .int .i64 q ∧ sv = .string (stB acc0 (S.take q)) ∧ Kp no w wx)
        case atStart => exact ⟨0, Nat.zero_le _, rfl, rfl, rfl, HKR.out⟩
        case round =>
          obtain ⟨q, hq, hk2, rfl, rfl, kx⟩ := hrel
          rename_i wx
          have HKK2 := hide hk2
          have HKX := hide kx
          have q0 := (HKX.out.cell htb no_elim j).trans HQ0.out
          have htr := Nat.lt_of_lt_of_le htb HKX.out.size
          have hs2 := Nat.le_trans (stB_size acc0 (S.take q)) (Nat.add_le_add_left (show 8 * (S.take q).length ≤ 48 by rw [List.length_take]; omega) _)
          clear hk2 kx
          by_cases hlq : q < S.length
          · obtain ⟨g2, e2, hg2w, hc2w⟩ := SV.at HQ1.out (k := q) hlq
            subst e2
            have hc2 := (HKX.out.cell hg2w no_elim q).trans hc2w
            have hg2 := Nat.lt_of_lt_of_le hg2w HKX.out.size
            have HST := hide (stB_take acc0 S q hlq)
            have hs3 := sg_size (S.getD q 0)
            clear hc2w
            generalize sgB (S.getD q 0) = zq at *
            generalize stB acc0 (S.take q) = acq at *
            have hqI : (q : Int) < S.length := by omega
            have e46 : (ByteArray.mk #[46]).size = 1 := rfl
            go_wp2
            go_roundg (S.length - (q + 1))
            case measure => have := HKK2.out; omega
            case rel => exact ⟨q + 1, by omega, rfl, by go_num, by rw [HST.out], HKX.out⟩
          · obtain rfl : q = S.length := by omega
            rw [List.take_length]
            have hs4 : (stB acc0 S).size ≤ 4600 := by have := stB_size acc0 S; omega
            generalize stB acc0 S = acq at *
            have e59 : (ByteArray.mk #[59]).size = 1 := rfl
            go_wp2
            go_roundg (T.length - (j + 1))
            case measure => have := HKK.out; omega
            case rel => exact ⟨j + 1, by omega, rfl, by go_num, by rw [HRW.out, HR2.out], HKX.out⟩
      · have HR2 := hide (show rowB acc S = stB acc S ++ ⟨#[59]⟩ by rw [rowB, if_neg hS0])
        have hsa : acc.size ≤ 4501 := by omega
        have hl0' : ((S.length : Int) == 0) = false := by
          have := (HSO.out.resolve_left hS0).1
          rw [this]; rfl
        clear hS0
        go_wp2
        generalize acc = acc0 at *
        clear q0 htr
        go_loopg [3, 5] S.length (fun k sv vv wx => ∃ q : Nat, q ≤ S.length ∧ k = S.length - q ∧ vv = .int .i64 q ∧ sv = .string (stB acc0 (S.take q)) ∧ Kp no w wx)
        case atStart => exact ⟨0, Nat.zero_le _, rfl, rfl, rfl, HKR.out⟩
        case round =>
          obtain ⟨q, hq, hk2, rfl, rfl, kx⟩ := hrel
          rename_i wx
          have HKK2 := hide hk2
          have HKX := hide kx
          have q0 := (HKX.out.cell htb no_elim j).trans HQ0.out
          have htr := Nat.lt_of_lt_of_le htb HKX.out.size
          have hs2 := Nat.le_trans (stB_size acc0 (S.take q)) (Nat.add_le_add_left (show 8 * (S.take q).length ≤ 48 by rw [List.length_take]; omega) _)
          clear hk2 kx
          by_cases hlq : q < S.length
          · obtain ⟨g2, e2, hg2w, hc2w⟩ := SV.at HQ1.out (k := q) hlq
            subst e2
            have hc2 := (HKX.out.cell hg2w no_elim q).trans hc2w
            have hg2 := Nat.lt_of_lt_of_le hg2w HKX.out.size
            have HST := hide (stB_take acc0 S q hlq)
            have hs3 := sg_size (S.getD q 0)
            clear hc2w
            generalize sgB (S.getD q 0) = zq at *
            generalize stB acc0 (S.take q) = acq at *
            have hqI : (q : Int) < S.length := by omega
            have e46 : (ByteArray.mk #[46]).size = 1 := rfl
            go_wp2
            go_roundg (S.length - (q + 1))
            case measure => have := HKK2.out; omega
            case rel => exact ⟨q + 1, by omega, rfl, by go_num, by rw [HST.out], HKX.out⟩
          · obtain rfl : q = S.length := by omega
            rw [List.take_length]
            have hs4 : (stB acc0 S).size ≤ 4600 := by have := stB_size acc0 S; omega
            generalize stB acc0 S = acq at *
            have e59 : (ByteArray.mk #[59]).size = 1 := rfl
            go_wp2
            go_roundg (T.length - (j + 1))
            case measure => have := HKK.out; omega
            case rel => exact ⟨j + 1, by omega, rfl, by go_num, by rw [HRW.out, HR2.out], HKX.out⟩
    · obtain rfl : j = T.length := by omega
      rw [List.take_length]
      go_wp2
      go_ret
      exact ⟨rfl, HKR.out⟩
/-- The reader's nodes. -/
theorem rp_drow {w : World} {r : Nat} {s : ByteArray} {st : RS} {O : Nat → Prop} (h : Rp w r s st O) : ∃ a cap, w.cell? ⟨r, 3, none⟩ = some (.slice a st.nodes.length cap) ∧ DRow w (.slice a st.nodes.length cap) st.nodes ∧ r < w.heap.size := by
  obtain ⟨nv, iv, hB, hN, hI, _⟩ := h
  obtain ⟨a, cap, rfl⟩ := DRow.shape (l := st.nodes) hN
  exact ⟨a, cap, Blk.cell hB 3, hN, Blk.lt hB⟩

def em2 (c : Int) : Ending := .returned (.tuple #[.string ByteArray.empty, .int .i64 c])

set_option maxHeartbeats 1600000 in
theorem rflow_long (s : ByteArray) (w : World) (hm : s.size ≤ maxLen) (hs : 900 < s.size) :
    Calls Tryz.prog 50 #[.string s] w fun e w' => e = em2 1 ∧ Kp no w w' := by
  have HS := hide (lines_long s w hm hs)
  go_enter Tryz.func50, Tryz.ntmps50
  go_wp2_with fail
  refine HS.out.mono ?_
  rintro e w1 ⟨⟨r, rfl⟩, k1⟩
  go_wp2
  go_ret2
  exact ⟨rfl, k1⟩

set_option maxHeartbeats 1600000 in
theorem rflow_bad (s : ByteArray) (w : World) (hs : s.size ≤ 900) (hb : (graE s).1 ≠ 0) :
    Calls Tryz.prog 50 #[.string s] w fun e w' => e = em2 (graE s).1 ∧ Kp no w w' := by
  have HS := hide (lines_c s w hs)
  have hb' : (((graE s).1 : Int) == 0) = false := by simp; omega
  unfold LinPost at HS
  generalize graE s = ge at *
  obtain ⟨ge1, ge2⟩ := ge
  dsimp only at *
  clear hb
  go_enter Tryz.func50, Tryz.ntmps50
  go_wp2_with fail
  refine HS.out.mono ?_
  rintro e w1 ⟨r, O, rfl, hr, k1, hO⟩
  clear hr hO
  go_wp2
  go_ret2
  exact ⟨rfl, k1⟩

set_option maxHeartbeats 1600000 in
theorem rflow_good (s : ByteArray) (w : World) (hs : s.size ≤ 900) (hb : graE s = (0, 0)) (hg : ∀ n ∈ (graF s).nodes, Gn n) :
    Calls Tryz.prog 50 #[.string s] w fun e w' => e = .returned (.tuple #[.string (splB (lstF (graF s).nodes)), .int .i64 0]) ∧ Kp no w w' := by
  have HS := hide (lines_c s w hs)
  have hlen := (graF_inv s).2
  unfold LinPost at HS
  rw [hb] at HS
  clear hb
  generalize graF s = st at *
  go_enter Tryz.func50, Tryz.ntmps50
  go_wp2_with fail
  refine HS.out.mono ?_
  rintro e w1 ⟨r, O, rfl, hr, k1, hO⟩
  obtain ⟨a, cap, n3, hD, hrl⟩ := rp_drow hr
  have HD := hide hD
  clear hr hO hD HS
  go_wp2_with fail
  refine (least_c _ st.nodes _ HD.out hlen hg).mono ?_
  rintro e w2 ⟨u, rfl, hu, k2⟩
  have HU := hide hu
  obtain ⟨tb, c2, rfl, _⟩ := hu
  go_wp2_with fail
  refine (spell_c _ (lstF st.nodes) _ HU.out (lst_ok _) (by rw [lst_len]; exact hlen)).mono ?_
  rintro e w3 ⟨rfl, k3⟩
  go_wp2
  go_ret2
  exact ⟨rfl, (k1.trans k2 (fun _ _ e => e)).trans k3 (fun _ _ e => e)⟩
end Go.Proofs.YtellieabhaphhaaGreatDoor

/-
  narrow's flow: a table as a text.
-/
namespace Go.Proofs.YtellieabhaphhaaGreatDoor
open Go.RowKit

theorem bit_of (m j : Nat) (hm : m < 128) (hj : j < 7) : bits .and .i64 (m : Int) ((2 ^ j : Nat) : Int) = ((m &&& 2 ^ j : Nat) : Int) :=
  bits_and_nat m (2 ^ j) hm (by rcases (show j = 0 ∨ j = 1 ∨ j = 2 ∨ j = 3 ∨ j = 4 ∨ j = 5 ∨ j = 6 by omega) with rfl | rfl | rfl | rfl | rfl | rfl | rfl <;> decide)

theorem and_pow0 : ∀ m, m < 128 → (((m &&& 1 : Nat) : Int) != 0) = m.testBit 0 := by decide
theorem and_pow1 : ∀ m, m < 128 → (((m &&& 2 : Nat) : Int) != 0) = m.testBit 1 := by decide
theorem and_pow2 : ∀ m, m < 128 → (((m &&& 4 : Nat) : Int) != 0) = m.testBit 2 := by decide
theorem and_pow3 : ∀ m, m < 128 → (((m &&& 8 : Nat) : Int) != 0) = m.testBit 3 := by decide
theorem and_pow4 : ∀ m, m < 128 → (((m &&& 16 : Nat) : Int) != 0) = m.testBit 4 := by decide
theorem and_pow5 : ∀ m, m < 128 → (((m &&& 32 : Nat) : Int) != 0) = m.testBit 5 := by decide
theorem and_pow6 : ∀ m, m < 128 → (((m &&& 64 : Nat) : Int) != 0) = m.testBit 6 := by decide

set_option maxRecDepth 100000 in
set_option maxHeartbeats 1600000 in
theorem kindsText_c (m : Nat) (w : World) (hm : m < 128) :
    Calls Tryz.prog 112 #[.int .i64 (m : Int)] w fun e w' => e = .returned (.string (sgB m)) ∧ w' = w := by
  go_enter Tryz.func112, Tryz.ntmps112
  go_wp2
  go_loopg [3, 4] 7 (fun k tv kv wr => ∃ j : Nat, j ≤ 7 ∧ k = 7 - j ∧ kv = .int .i64 ((2 ^ j : Nat) : Int) ∧ tv = .string (selN (fun c => m.testBit (kix c)) j) ∧ wr = w)
  case atStart => exact ⟨0, by decide, rfl, rfl, rfl, rfl⟩
  case round =>
    obtain ⟨j, hj, hk, rfl, rfl, rfl⟩ := hrel
    have HKK := hide hk
    clear hk
    rcases (show j = 7 ∨ j = 0 ∨ j = 1 ∨ j = 2 ∨ j = 3 ∨ j = 4 ∨ j = 5 ∨ j = 6 by omega) with rfl | rfl | rfl | rfl | rfl | rfl | rfl | rfl
    · go_wp2
      go_ret
      exact ⟨rfl, rfl⟩
    · have HY := hide (selN_yes (fun c => m.testBit (kix c)) 0 (by decide))
      have HN := hide (selN_no (fun c => m.testBit (kix c)) 0 (by decide))
      have hsz := selN_size (fun c => m.testBit (kix c)) 0
      have HKS := hide (fun W => nkindSign_c 110 (by unfold KOk; omega) W)
      have hb : bits .and .i64 (m : Int) 1 = ((m &&& 1 : Nat) : Int) := bits_and_nat m 1 hm (by decide)
      have hq := and_pow0 m hm
      have HY2 : Hid (m.testBit 0 = true → selN (fun c => m.testBit (kix c)) 0 ++ strOfNums [110] = selN (fun c => m.testBit (kix c)) 1) := HY.out
      have HN2 : Hid (m.testBit 0 = false → selN (fun c => m.testBit (kix c)) 0 = selN (fun c => m.testBit (kix c)) 1) := HN.out
      have HKS2 : Hid (∀ W, Calls Tryz.prog 141 #[.int .i64 1] W fun e w' => e = .returned (.string (strOfNums [110])) ∧ w' = W) := HKS.out
      have hs1 := str1 110
      clear HY HN HKS
      generalize ((m &&& 1 : Nat) : Int) = v at *
      generalize m.testBit 0 = p at *
      generalize selN (fun c => m.testBit (kix c)) 0 = tj at *
      cases p
      all_goals
        go_wp2_with (go_at_call 141; refine (HKS2.out _).mono ?_; rintro e w' ⟨rfl, rfl⟩)
        go_roundg (7 - 1)
        case measure => have := HKK.out; omega
        case rel => exact ⟨1, by decide, rfl, rfl, by first | (rw [← HN2.out (by first | rfl | trivial)]; done) | (rw [← HY2.out (by first | rfl | trivial)]; done), rfl⟩
    · have HY := hide (selN_yes (fun c => m.testBit (kix c)) 1 (by decide))
      have HN := hide (selN_no (fun c => m.testBit (kix c)) 1 (by decide))
      have hsz := selN_size (fun c => m.testBit (kix c)) 1
      have HKS := hide (fun W => nkindSign_c 116 (by unfold KOk; omega) W)
      have hb : bits .and .i64 (m : Int) 2 = ((m &&& 2 : Nat) : Int) := bits_and_nat m 2 hm (by decide)
      have hq := and_pow1 m hm
      have HY2 : Hid (m.testBit 1 = true → selN (fun c => m.testBit (kix c)) 1 ++ strOfNums [116] = selN (fun c => m.testBit (kix c)) 2) := HY.out
      have HN2 : Hid (m.testBit 1 = false → selN (fun c => m.testBit (kix c)) 1 = selN (fun c => m.testBit (kix c)) 2) := HN.out
      have HKS2 : Hid (∀ W, Calls Tryz.prog 141 #[.int .i64 2] W fun e w' => e = .returned (.string (strOfNums [116])) ∧ w' = W) := HKS.out
      have hs1 := str1 116
      clear HY HN HKS
      generalize ((m &&& 2 : Nat) : Int) = v at *
      generalize m.testBit 1 = p at *
      generalize selN (fun c => m.testBit (kix c)) 1 = tj at *
      cases p
      all_goals
        go_wp2_with (go_at_call 141; refine (HKS2.out _).mono ?_; rintro e w' ⟨rfl, rfl⟩)
        go_roundg (7 - 2)
        case measure => have := HKK.out; omega
        case rel => exact ⟨2, by decide, rfl, rfl, by first | (rw [← HN2.out (by first | rfl | trivial)]; done) | (rw [← HY2.out (by first | rfl | trivial)]; done), rfl⟩
    · have HY := hide (selN_yes (fun c => m.testBit (kix c)) 2 (by decide))
      have HN := hide (selN_no (fun c => m.testBit (kix c)) 2 (by decide))
      have hsz := selN_size (fun c => m.testBit (kix c)) 2
      have HKS := hide (fun W => nkindSign_c 102 (by unfold KOk; omega) W)
      have hb : bits .and .i64 (m : Int) 4 = ((m &&& 4 : Nat) : Int) := bits_and_nat m 4 hm (by decide)
      have hq := and_pow2 m hm
      have HY2 : Hid (m.testBit 2 = true → selN (fun c => m.testBit (kix c)) 2 ++ strOfNums [102] = selN (fun c => m.testBit (kix c)) 3) := HY.out
      have HN2 : Hid (m.testBit 2 = false → selN (fun c => m.testBit (kix c)) 2 = selN (fun c => m.testBit (kix c)) 3) := HN.out
      have HKS2 : Hid (∀ W, Calls Tryz.prog 141 #[.int .i64 4] W fun e w' => e = .returned (.string (strOfNums [102])) ∧ w' = W) := HKS.out
      have hs1 := str1 102
      clear HY HN HKS
      generalize ((m &&& 4 : Nat) : Int) = v at *
      generalize m.testBit 2 = p at *
      generalize selN (fun c => m.testBit (kix c)) 2 = tj at *
      cases p
      all_goals
        go_wp2_with (go_at_call 141; refine (HKS2.out _).mono ?_; rintro e w' ⟨rfl, rfl⟩)
        go_roundg (7 - 3)
        case measure => have := HKK.out; omega
        case rel => exact ⟨3, by decide, rfl, rfl, by first | (rw [← HN2.out (by first | rfl | trivial)]; done) | (rw [← HY2.out (by first | rfl | trivial)]; done), rfl⟩
    · have HY := hide (selN_yes (fun c => m.testBit (kix c)) 3 (by decide))
      have HN := hide (selN_no (fun c => m.testBit (kix c)) 3 (by decide))
      have hsz := selN_size (fun c => m.testBit (kix c)) 3
      have HKS := hide (fun W => nkindSign_c 122 (by unfold KOk; omega) W)
      have hb : bits .and .i64 (m : Int) 8 = ((m &&& 8 : Nat) : Int) := bits_and_nat m 8 hm (by decide)
      have hq := and_pow3 m hm
      have HY2 : Hid (m.testBit 3 = true → selN (fun c => m.testBit (kix c)) 3 ++ strOfNums [122] = selN (fun c => m.testBit (kix c)) 4) := HY.out
      have HN2 : Hid (m.testBit 3 = false → selN (fun c => m.testBit (kix c)) 3 = selN (fun c => m.testBit (kix c)) 4) := HN.out
      have HKS2 : Hid (∀ W, Calls Tryz.prog 141 #[.int .i64 8] W fun e w' => e = .returned (.string (strOfNums [122])) ∧ w' = W) := HKS.out
      have hs1 := str1 122
      clear HY HN HKS
      generalize ((m &&& 8 : Nat) : Int) = v at *
      generalize m.testBit 3 = p at *
      generalize selN (fun c => m.testBit (kix c)) 3 = tj at *
      cases p
      all_goals
        go_wp2_with (go_at_call 141; refine (HKS2.out _).mono ?_; rintro e w' ⟨rfl, rfl⟩)
        go_roundg (7 - 4)
        case measure => have := HKK.out; omega
        case rel => exact ⟨4, by decide, rfl, rfl, by first | (rw [← HN2.out (by first | rfl | trivial)]; done) | (rw [← HY2.out (by first | rfl | trivial)]; done), rfl⟩
    · have HY := hide (selN_yes (fun c => m.testBit (kix c)) 4 (by decide))
      have HN := hide (selN_no (fun c => m.testBit (kix c)) 4 (by decide))
      have hsz := selN_size (fun c => m.testBit (kix c)) 4
      have HKS := hide (fun W => nkindSign_c 65 (by unfold KOk; omega) W)
      have hb : bits .and .i64 (m : Int) 16 = ((m &&& 16 : Nat) : Int) := bits_and_nat m 16 hm (by decide)
      have hq := and_pow4 m hm
      have HY2 : Hid (m.testBit 4 = true → selN (fun c => m.testBit (kix c)) 4 ++ strOfNums [65] = selN (fun c => m.testBit (kix c)) 5) := HY.out
      have HN2 : Hid (m.testBit 4 = false → selN (fun c => m.testBit (kix c)) 4 = selN (fun c => m.testBit (kix c)) 5) := HN.out
      have HKS2 : Hid (∀ W, Calls Tryz.prog 141 #[.int .i64 16] W fun e w' => e = .returned (.string (strOfNums [65])) ∧ w' = W) := HKS.out
      have hs1 := str1 65
      clear HY HN HKS
      generalize ((m &&& 16 : Nat) : Int) = v at *
      generalize m.testBit 4 = p at *
      generalize selN (fun c => m.testBit (kix c)) 4 = tj at *
      cases p
      all_goals
        go_wp2_with (go_at_call 141; refine (HKS2.out _).mono ?_; rintro e w' ⟨rfl, rfl⟩)
        go_roundg (7 - 5)
        case measure => have := HKK.out; omega
        case rel => exact ⟨5, by decide, rfl, rfl, by first | (rw [← HN2.out (by first | rfl | trivial)]; done) | (rw [← HY2.out (by first | rfl | trivial)]; done), rfl⟩
    · have HY := hide (selN_yes (fun c => m.testBit (kix c)) 5 (by decide))
      have HN := hide (selN_no (fun c => m.testBit (kix c)) 5 (by decide))
      have hsz := selN_size (fun c => m.testBit (kix c)) 5
      have HKS := hide (fun W => nkindSign_c 66 (by unfold KOk; omega) W)
      have hb : bits .and .i64 (m : Int) 32 = ((m &&& 32 : Nat) : Int) := bits_and_nat m 32 hm (by decide)
      have hq := and_pow5 m hm
      have HY2 : Hid (m.testBit 5 = true → selN (fun c => m.testBit (kix c)) 5 ++ strOfNums [66] = selN (fun c => m.testBit (kix c)) 6) := HY.out
      have HN2 : Hid (m.testBit 5 = false → selN (fun c => m.testBit (kix c)) 5 = selN (fun c => m.testBit (kix c)) 6) := HN.out
      have HKS2 : Hid (∀ W, Calls Tryz.prog 141 #[.int .i64 32] W fun e w' => e = .returned (.string (strOfNums [66])) ∧ w' = W) := HKS.out
      have hs1 := str1 66
      clear HY HN HKS
      generalize ((m &&& 32 : Nat) : Int) = v at *
      generalize m.testBit 5 = p at *
      generalize selN (fun c => m.testBit (kix c)) 5 = tj at *
      cases p
      all_goals
        go_wp2_with (go_at_call 141; refine (HKS2.out _).mono ?_; rintro e w' ⟨rfl, rfl⟩)
        go_roundg (7 - 6)
        case measure => have := HKK.out; omega
        case rel => exact ⟨6, by decide, rfl, rfl, by first | (rw [← HN2.out (by first | rfl | trivial)]; done) | (rw [← HY2.out (by first | rfl | trivial)]; done), rfl⟩
    · have HY := hide (selN_yes (fun c => m.testBit (kix c)) 6 (by decide))
      have HN := hide (selN_no (fun c => m.testBit (kix c)) 6 (by decide))
      have hsz := selN_size (fun c => m.testBit (kix c)) 6
      have HKS := hide (fun W => nkindSign_c 67 (by unfold KOk; omega) W)
      have hb : bits .and .i64 (m : Int) 64 = ((m &&& 64 : Nat) : Int) := bits_and_nat m 64 hm (by decide)
      have hq := and_pow6 m hm
      have HY2 : Hid (m.testBit 6 = true → selN (fun c => m.testBit (kix c)) 6 ++ strOfNums [67] = selN (fun c => m.testBit (kix c)) 7) := HY.out
      have HN2 : Hid (m.testBit 6 = false → selN (fun c => m.testBit (kix c)) 6 = selN (fun c => m.testBit (kix c)) 7) := HN.out
      have HKS2 : Hid (∀ W, Calls Tryz.prog 141 #[.int .i64 64] W fun e w' => e = .returned (.string (strOfNums [67])) ∧ w' = W) := HKS.out
      have hs1 := str1 67
      clear HY HN HKS
      generalize ((m &&& 64 : Nat) : Int) = v at *
      generalize m.testBit 6 = p at *
      generalize selN (fun c => m.testBit (kix c)) 6 = tj at *
      cases p
      all_goals
        go_wp2_with (go_at_call 141; refine (HKS2.out _).mono ?_; rintro e w' ⟨rfl, rfl⟩)
        go_roundg (7 - 7)
        case measure => have := HKK.out; omega
        case rel => exact ⟨7, by decide, rfl, rfl, by first | (rw [← HN2.out (by first | rfl | trivial)]; done) | (rw [← HY2.out (by first | rfl | trivial)]; done), rfl⟩
/-- A state's text. -/
def txS (s : St) : ByteArray := if s = [] then ⟨#[63]⟩ else stB ⟨#[]⟩ s

theorem stB_acc (a : ByteArray) (s : St) : stB a s = a ++ stB ⟨#[]⟩ s := by
  have key : ∀ (s : St) (a b : ByteArray), stB (a ++ b) s = a ++ stB b s := by
    intro s
    induction s with
    | nil => intro a b; rfl
    | cons m s ih =>
      intro a b
      show stB (a ++ b ++ sgB m ++ ⟨#[46]⟩) s = a ++ stB (b ++ sgB m ++ ⟨#[46]⟩) s
      rw [← ih, ba_assoc, ba_assoc]
  have := key s a ⟨#[]⟩
  rw [show a ++ (⟨#[]⟩ : ByteArray) = a from ByteArray.append_empty] at this
  exact this

theorem rowB_tx (a : ByteArray) (s : St) : rowB a s = a ++ (txS s ++ ⟨#[59]⟩) := by
  unfold rowB txS
  split
  · rename_i h; subst h
    show a ++ ⟨#[63]⟩ ++ ⟨#[59]⟩ = _
    rw [ba_assoc]
  · rw [stB_acc, ba_assoc]

theorem txS_size (s : St) (h : SOk s) : (txS s).size ≤ 48 := by
  unfold txS
  split
  · decide
  · rename_i h0
    have h1 := stB_size ⟨#[]⟩ s
    have h2 := (h.resolve_left h0).1
    have h3 : (ByteArray.mk #[]).size = 0 := rfl
    omega

set_option maxRecDepth 100000 in
set_option maxHeartbeats 1600000 in
theorem stateText_c (s : St) (w : World) (h : SOk s) :
    Calls Tryz.prog 64 #[.agg (zc (encZ s)).toArray] w fun e w' => e = .returned (.string (txS s)) ∧ Kp no w w' := by
  obtain ⟨m0, m1, m2, m3, m4, m5, hm⟩ := z6_six (encZ_z6 h)
  have HZ6 := hide (show Z6 [m0, m1, m2, m3, m4, m5] from hm ▸ encZ_z6 h)
  have HEX := hide (exS_enc h)
  rw [hm] at HEX ⊢
  rw [show Value.agg (zc [m0, m1, m2, m3, m4, m5]).toArray = zv6 m0 m1 m2 m3 m4 m5 from rfl]
  have HX := hide (fun b W hW => exists_c b [m0, m1, m2, m3, m4, m5] W hW HZ6.out)
  rw [HEX.out] at HX
  by_cases h0 : s = []
  · rw [decide_eq_false (fun e => e h0)] at HX
    have HT := hide (show txS s = ⟨#[63]⟩ by rw [txS, if_pos h0])
    clear h0 hm HEX
    go_enter Tryz.func64, Tryz.ntmps64
    go_wp2_with fail
    refine (HX.out _ _ (by (show Blk _ _ [.int .i64 m0, .int .i64 m1, .int .i64 m2, .int .i64 m3, .int .i64 m4, .int .i64 m5] _); (repeat' (first | ((with_reducible show (_ : List Value) = _); rfl) | ((with_reducible refine Blk.newAt _ _ _ ?_); first | with_reducible rfl | (simp; done)) | with_reducible refine Blk.alloc ?_ _ | with_reducible refine Blk.drewN ?_ _ | with_reducible refine Blk.drew ?_ | ((with_reducible refine Blk.other ?_ _ ?_); rotate_left; ((try dsimp only); omega)) | with_reducible refine Blk.setB (cs0 := ?_) ?_ ?_)))).mono ?_
    rintro e w' ⟨rfl, rfl⟩
    go_wp2
    go_ret
    rw [HT.out]
    exact ⟨rfl, by (repeat' (first | with_reducible exact Kp.refl _ _ | with_reducible refine Kp.alloc ?_ _ | with_reducible refine Kp.drewN ?_ _ | with_reducible refine Kp.drew ?_ | with_reducible refine Kp.setCell ?_ _ ?_ | (intro hh; first | rfl | exact .inl rfl | exact .inr rfl | (exfalso; (try dsimp only at hh); omega))))⟩
  · rw [decide_eq_true h0] at HX
    have hF := h.ful h0
    have hs : s = [m0, m1, m2, m3, m4, m5] := by rw [← encZ_ful hF]; exact hm
    have HT := hide (show txS s = stB ⟨#[]⟩ [m0, m1, m2, m3, m4, m5] by rw [txS, if_neg h0, hs])
    have HIX := hide (fun W j hj => zIx W m0 m1 m2 m3 m4 m5 j hj)
    have HST := hide (fun j hj => stB_take ⟨#[]⟩ [m0, m1, m2, m3, m4, m5] j hj)
    have HSZ := hide (fun j => stB_size ⟨#[]⟩ (List.take j [m0, m1, m2, m3, m4, m5]))
    have HKT := hide (fun j W => kindsText_c (List.getD [m0, m1, m2, m3, m4, m5] j 0) W (HZ6.out.get j))
    clear h0 hm HEX hF hs h
    go_enter Tryz.func64, Tryz.ntmps64
    go_wp2_with fail
    refine (HX.out _ _ (by (show Blk _ _ [.int .i64 m0, .int .i64 m1, .int .i64 m2, .int .i64 m3, .int .i64 m4, .int .i64 m5] _); (repeat' (first | ((with_reducible show (_ : List Value) = _); rfl) | ((with_reducible refine Blk.newAt _ _ _ ?_); first | with_reducible rfl | (simp; done)) | with_reducible refine Blk.alloc ?_ _ | with_reducible refine Blk.drewN ?_ _ | with_reducible refine Blk.drew ?_ | ((with_reducible refine Blk.other ?_ _ ?_); rotate_left; ((try dsimp only); omega)) | with_reducible refine Blk.setB (cs0 := ?_) ?_ ?_)))).mono ?_
    rintro e w' ⟨rfl, rfl⟩
    clear HX
    go_wp2
    go_loopg [3, 11] 6 (fun k tv iv wr => ∃ j : Nat, j ≤ 6 ∧ k = 6 - j ∧ iv = .int .i64 j ∧ tv = .string (stB ⟨#[]⟩ (List.take j [m0, m1, m2, m3, m4, m5])) ∧ Kp no w wr)
    case atStart => exact ⟨0, by decide, rfl, rfl, rfl, by (repeat' (first | with_reducible exact Kp.refl _ _ | with_reducible refine Kp.alloc ?_ _ | with_reducible refine Kp.drewN ?_ _ | with_reducible refine Kp.drew ?_ | with_reducible refine Kp.setCell ?_ _ ?_ | (intro hh; first | rfl | exact .inl rfl | exact .inr rfl | (exfalso; (try dsimp only at hh); omega))))⟩
    case round =>
      obtain ⟨j, hj, hk, rfl, rfl, kr⟩ := hrel
      have HKK := hide hk
      have HKR := hide kr
      clear hk kr
      by_cases hlt : j < 6
      · have hix := HIX.out wr j hlt
        have HS2 := hide (HST.out j hlt)
        have hz2 := HSZ.out j
        have hz3 : (stB ⟨#[]⟩ (List.take j [m0, m1, m2, m3, m4, m5])).size ≤ 48 := Nat.le_trans hz2 (by rw [List.length_take, show (ByteArray.mk #[]).size = 0 from rfl]; simp; omega)
        have HK2 := hide (HKT.out j)
        have hs4 := sg_size (List.getD [m0, m1, m2, m3, m4, m5] j 0)
        have e46 : (ByteArray.mk #[46]).size = 1 := rfl
        clear hz2 HIX HST HSZ HKT
        generalize hgd : List.getD [m0, m1, m2, m3, m4, m5] j 0 = mj at *
        clear hgd
        generalize stB ⟨#[]⟩ (List.take j [m0, m1, m2, m3, m4, m5]) = acc at *
        generalize sgB mj = sg at *
        go_wp2_with (go_at_call 112; refine (HK2.out _).mono ?_; rintro e w' ⟨rfl, rfl⟩)
        go_roundg (6 - (j + 1))
        case measure => have := HKK.out; omega
        case rel => exact ⟨j + 1, by omega, rfl, by go_num, by rw [HS2.out, ba_assoc], HKR.out⟩
      · obtain rfl : j = 6 := by omega
        go_wp2
        go_ret
        rw [HT.out]
        exact ⟨rfl, HKR.out⟩

/-- A table's block. -/
theorem tb_at {w : World} {tb : Nat} {T : Tbl} (h : Blk w tb (tCells T) 102) {i : Nat} (hi : i < T.length) {m0 m1 m2 m3 m4 m5 : Nat} (hm : encZ (T.getD i []) = [m0, m1, m2, m3, m4, m5]) :
    w.cell? ⟨tb, i * 6, none⟩ = some (.int .i64 m0) ∧ w.cell? ⟨tb, i * 6 + 1, none⟩ = some (.int .i64 m1) ∧ w.cell? ⟨tb, i * 6 + 2, none⟩ = some (.int .i64 m2) ∧ w.cell? ⟨tb, i * 6 + 3, none⟩ = some (.int .i64 m3) ∧ w.cell? ⟨tb, i * 6 + 4, none⟩ = some (.int .i64 m4) ∧ w.cell? ⟨tb, i * 6 + 5, none⟩ = some (.int .i64 m5) := by
  rw [List.getD_eq_getElem?_getD, List.getElem?_eq_getElem hi, Option.getD_some] at hm
  have hc : ∀ j, j < 6 → w.cell? ⟨tb, i * 6 + j, none⟩ = (zc [m0, m1, m2, m3, m4, m5])[j]? := fun j hj => by
    rw [h.cell, tCells, flat_get (fun s => zc (encZ s)) 6 zce6 T i j hi hj, hm]
  exact ⟨hc 0 (by decide), hc 1 (by decide), hc 2 (by decide), hc 3 (by decide), hc 4 (by decide), hc 5 (by decide)⟩

set_option maxRecDepth 100000 in
set_option maxHeartbeats 1600000 in
theorem tableText_c (tb : Nat) (T : Tbl) (w : World) (h : Blk w tb (tCells T) 102) (hT : TOk T) (hl : T.length ≤ 90) :
    Calls Tryz.prog 38 #[.slice (some ⟨tb, 0, none⟩) T.length T.length] w fun e w' => e = .returned (.string (splB T)) ∧ Kp no w w' := by
  have HB := hide h
  clear h
  go_enter Tryz.func38, Tryz.ntmps38
  go_wp2
  go_loopg [3, 9] T.length (fun k sv iv wr => ∃ j : Nat, j ≤ T.length ∧ k = T.length - j ∧ iv = .int .i64 j ∧ sv = .string (splB (T.take j)) ∧ Kp no w wr)
  case atStart => exact ⟨0, Nat.zero_le _, rfl, rfl, rfl, Kp.refl _ _⟩
  case round =>
    obtain ⟨j, hj, hk, rfl, rfl, kr⟩ := hrel
    have HKK := hide hk
    have HKR := hide kr
    clear hk kr
    by_cases hlt : j < T.length
    · have HRW := hide (splB_take T j hlt)
      have hsz := Nat.le_trans (splB_size _ (hT.take j)) (Nat.mul_le_mul_left 50 (show (T.take j).length ≤ 90 by rw [List.length_take]; omega))
      have hSO := hT.get j
      obtain ⟨m0, m1, m2, m3, m4, m5, hm⟩ := z6_six (encZ_z6 hSO)
      have hbr := HKR.out.blk HB.out no_elim
      obtain ⟨c0, c1, c2, c3, c4, c5⟩ := tb_at hbr hlt hm
      have hbl := hbr.lt
      have HTX := hide (fun W => stateText_c (T.getD j []) W hSO)
      rw [hm] at HTX
      have HTX2 : Hid (∀ W, Calls Tryz.prog 64 #[zv6 m0 m1 m2 m3 m4 m5] W fun e w' => e = .returned (.string (txS (T.getD j []))) ∧ Kp no W w') := HTX.out
      have hs2 := txS_size _ hSO
      rw [rowB_tx] at HRW
      have e59 : (ByteArray.mk #[59]).size = 1 := rfl
      clear hbr hSO hm HTX
      generalize txS (T.getD j []) = tx at *
      generalize splB (T.take j) = acc at *
      have hjI : (j : Int) < T.length := by omega
      go_wp2_with fail
      refine (HTX2.out _).mono ?_
      rintro e w5 ⟨rfl, k5⟩
      go_wp2
      go_roundg (T.length - (j + 1))
      case measure => have := HKK.out; omega
      case rel => exact ⟨j + 1, by omega, rfl, by go_num, by rw [HRW.out], (HKR.out.alloc _).trans k5 (fun _ _ e => e)⟩
    · obtain rfl : j = T.length := by omega
      rw [List.take_length]
      go_wp2
      go_ret
      exact ⟨rfl, HKR.out⟩
end Go.Proofs.YtellieabhaphhaaGreatDoor

/-
  Plain: a graph's nodes are well made.
-/
namespace Go.Proofs.YtellieabhaphhaaGreatDoor
open Go.RowKit

theorem lineF_items (s : ByteArray) (st : RS) : (lineF s st).items = st.items := by
  simp only [lineF]; split <;> rfl

theorem lnsF_gd : ∀ (f : Nat) (s : ByteArray) (st : RS), st.bad = false → (∀ n ∈ st.nodes, Gd s n) → (lnsF f s st).items = st.items ∧ ((lnsF f s st).bad = false → ∀ n ∈ (lnsF f s st).nodes, Gd s n) := by
  intro f
  induction f with
  | zero => intro s st _ h; exact ⟨rfl, fun _ => h⟩
  | succ f ih =>
    intro s st hb h
    rw [lnsF]
    split
    · rename_i hc
      split
      · exact ⟨rfl, fun e => by cases e⟩
      · cases hb2 : (lineF s st).bad
        · obtain ⟨nd, h1, h2, _⟩ := lineF_gd s st hc.2 hb2
          have := ih s (lineF s st) hb2 (fun n hn => by
            rw [h1, List.mem_append, List.mem_singleton] at hn
            rcases hn with h' | rfl
            · exact h n h'
            · exact h2)
          exact ⟨this.1.trans (lineF_items s st), this.2⟩
        · rw [lns_stop f s (lineF s st) (by rw [hb2]; simp)]
          exact ⟨lineF_items s st, fun e => by rw [hb2] at e; cases e⟩
    · exact ⟨rfl, fun _ => h⟩

theorem graF_gd (s : ByteArray) : (graF s).items = [] ∧ ((graF s).bad = false → ∀ n ∈ (graF s).nodes, Gd s n) :=
  lnsF_gd _ s rs0 rfl (fun n hn => by simp [rs0] at hn)

theorem graE_zero (s : ByteArray) (h : (graE s).1 = 0) : graE s = (0, 0) ∧ (graF s).bad = false := by
  unfold graE at h ⊢
  split
  · rename_i hb; rw [if_pos hb] at h; simp at h
  · rename_i hb
    rw [if_neg hb] at h
    refine ⟨?_, by simpa using hb⟩
    split
    · rename_i hl; rw [hl] at h; simp at h
    · rfl
end Go.Proofs.YtellieabhaphhaaGreatDoor

/-
  Flow: narrow's answer is the answer's.
-/
namespace Go.Proofs.YtellieabhaphhaaGreatDoor
open Go.RowKit

set_option maxHeartbeats 1600000 in
theorem nflow_long (s : ByteArray) (w : World) (hm : s.size ≤ maxLen) (hs : 900 < s.size) :
    Calls Tryz.prog 22 #[.string s] w fun e w' => e = em2 1 ∧ Kp no w w' := by
  have HS := hide (nog_long s w hm hs)
  go_enter Tryz.func22, Tryz.ntmps22
  go_wp2_with fail
  refine HS.out.mono ?_
  rintro e w1 ⟨rfl, k1⟩
  go_wp2
  go_ret2
  exact ⟨rfl, k1⟩

set_option maxHeartbeats 1600000 in
theorem nflow_bad (s : ByteArray) (w : World) (hs : s.size ≤ 900) (hb : (graE s).1 ≠ 0) :
    Calls Tryz.prog 22 #[.string s] w fun e w' => e = em2 (graE s).1 ∧ Kp no w w' := by
  have HS := hide (nog_c s w hs)
  have hb' : (((graE s).1 : Int) == 0) = false := by simp; omega
  unfold NogPost at HS
  generalize graE s = ge at *
  obtain ⟨ge1, ge2⟩ := ge
  dsimp only at *
  clear hb
  go_enter Tryz.func22, Tryz.ntmps22
  go_wp2_with fail
  refine HS.out.mono ?_
  rintro e w1 ⟨v, rfl, k1, _⟩
  go_wp2
  go_ret2
  exact ⟨rfl, k1⟩

set_option maxHeartbeats 1600000 in
theorem nflow_good (s : ByteArray) (w : World) (hs : s.size ≤ 900) (hb : graE s = (0, 0)) :
    Calls Tryz.prog 22 #[.string s] w fun e w' => e = .returned (.tuple #[.string (splB (lstF (graF s).nodes)), .int .i64 0]) ∧ Kp no w w' := by
  have HS := hide (nog_c s w hs)
  have hlen := (graF_inv s).2
  unfold NogPost at HS
  rw [hb] at HS
  clear hb
  generalize graF s = st at *
  go_enter Tryz.func22, Tryz.ntmps22
  go_wp2_with fail
  refine HS.out.mono ?_
  rintro e w2 ⟨v, rfl, k2, hpost⟩
  obtain ⟨hR, hO, hgd⟩ := hpost trivial
  have HL := hide (leastTable_c s v st.nodes w2 hR hlen hgd)
  obtain ⟨a, cap, rfl⟩ := hR.shape
  rw [List.length_map] at HL ⊢
  clear hO hgd hpost HS hR
  go_wp2_with fail
  refine HL.out.mono ?_
  rintro e w3 ⟨tb, rfl, hB, k3⟩
  have HT := hide (fun W hW => tableText_c tb (lstF st.nodes) W hW (lst_ok st.nodes) (by rw [lst_len]; exact hlen))
  rw [lst_len] at HT
  go_wp2_with fail
  refine (HT.out _ (by exact hB)).mono ?_
  rintro e w4 ⟨rfl, k4⟩
  go_wp2
  go_ret2
  exact ⟨rfl, (k2.trans k3 (fun _ _ e => e)).trans k4 (fun _ _ e => e)⟩

/-- One call of Flow: both answer this. -/
def FlowIs (s : ByteArray) (t : ByteArray) (c : Int) : Prop :=
  (∀ W, Calls Tryz.prog 22 #[.string s] W fun e w' => e = .returned (.tuple #[.string t, .int .i64 c]) ∧ Kp no W w') ∧
  (∀ W, Calls Tryz.prog 50 #[.string s] W fun e w' => e = .returned (.tuple #[.string t, .int .i64 c]) ∧ Kp no W w')

theorem flow_both (s : ByteArray) (hs : s.size ≤ maxLen) : ∃ t c, FlowIs s t c := by
  by_cases hs9 : s.size ≤ 900
  · by_cases hb : (graE s).1 = 0
    · obtain ⟨e1, e2⟩ := graE_zero s hb
      obtain ⟨_, g2⟩ := graF_gd s
      exact ⟨_, _, fun W => nflow_good s W hs9 e1, fun W => rflow_good s W hs9 e1 (fun n hn => (g2 e2 n hn).g)⟩
    · exact ⟨_, _, fun W => nflow_bad s W hs9 hb, fun W => rflow_bad s W hs9 hb⟩
  · exact ⟨_, _, fun W => nflow_long s W hs (by omega), fun W => rflow_long s W hs (by omega)⟩
end Go.Proofs.YtellieabhaphhaaGreatDoor

/-
  The laws: one step of Flow.
-/
namespace Go.Proofs.YtellieabhaphhaaGreatDoor
open Go.RowKit

set_option maxRecDepth 100000 in
set_option maxHeartbeats 1600000 in
theorem lplays_flow (b c : Int) (s t u : ByteArray) (w : World) (hs : s.size ≤ maxLen) :
    Calls Tryz.prog 29 #[.agg #[.int .i64 4, .int .i64 b, .int .i64 c, .string s, .string t, .string u]] w fun e w' => e = .returned (.bool true) ∧ Kp no w w' := by
  obtain ⟨x, z, hw⟩ := flow_both s hs
  have HN := hide hw.1
  have HR := hide hw.2
  have HNU := hide (fun W => lnum_c z W)
  clear hw
  go_enter Tryz.func29, Tryz.ntmps29
  go_wp2_with fail
  refine (HN.out _).mono ?_
  rintro e w1 ⟨rfl, k1⟩
  have hO : Blk w1 w.heap.size [.int .i64 4, .int .i64 b, .int .i64 c, .string s, .string t, .string u] 26 := k1.blk (by (repeat' (first | ((with_reducible show (_ : List Value) = _); rfl) | ((with_reducible refine Blk.newAt _ _ _ ?_); first | with_reducible rfl | (simp; done)) | with_reducible refine Blk.alloc ?_ _ | with_reducible refine Blk.drewN ?_ _ | with_reducible refine Blk.drew ?_ | ((with_reducible refine Blk.other ?_ _ ?_); rotate_left; ((try dsimp only); omega)) | with_reducible refine Blk.setB (cs0 := ?_) ?_ ?_))) no_elim
  have o0 := hO.cell 0; have o1 := hO.cell 1; have o2 := hO.cell 2; have o3 := hO.cell 3; have o4 := hO.cell 4; have o5 := hO.cell 5
  simp only [List.getElem?_cons_zero, List.getElem?_cons_succ] at o0 o1 o2 o3 o4 o5
  have of := hO.frozen
  have hz := hO.lt
  go_wp2_with fail
  refine (HR.out _).mono ?_
  rintro e w2 ⟨rfl, k2⟩
  clear o0 o1 o2 o3 o4 o5 of
  go_wp2_with (go_at_call 18; refine (HNU.out _).mono ?_; rintro e w' ⟨rfl, rfl⟩)
  go_ret
  exact ⟨by simp, by (repeat' (first | with_reducible exact Kp.refl _ _ | with_reducible refine Kp.alloc ?_ _ | with_reducible refine Kp.drewN ?_ _ | with_reducible refine Kp.drew ?_ | with_reducible refine Kp.setCell ?_ _ ?_ | with_reducible refine Kp.trans ?_ k1 (fun _ _ e => e) | with_reducible refine Kp.trans ?_ k2 (fun _ _ e => e) | (intro hh; first | rfl | exact .inl rfl | exact .inr rfl | (exfalso; (try dsimp only at hh); omega))))⟩
end Go.Proofs.YtellieabhaphhaaGreatDoor

/-
  Flows: the row and the card.
-/
namespace Go.Proofs.YtellieabhaphhaaGreatDoor
open Go.ChangeShapes Go.WideShapes Go.ChangeAt Go.RowKit Go.Deep

set_option maxHeartbeats 800000 in
theorem flowsLaw_c (v : Value) (w : World) (h : Calls Tryz.prog 15 #[v, .int .i64 4, .int .i64 4] w fun e w' => e = .returned (.int .i64 (-1)) ∧ Kp no w w') :
    Calls Tryz.prog 8 #[v] w fun e w' => e = .returned (.bool true) ∧ Kp no w w' := by
  have H := hide h
  clear h
  go_enter Tryz.func8, Tryz.ntmps8
  go_wp2_with fail
  refine H.out.mono ?_
  rintro e w1 ⟨rfl, k1⟩
  go_wp2
  go_ret
  exact ⟨rfl, k1⟩

set_option maxRecDepth 100000 in
/-- For every script, in every world that holds the tables. -/
theorem flows_contract (H : Type) (enc : TypeId × Value → H) (W : World) (base : Nat) (args : Array Value) (ds gs : List (DataW H)) (before : List MemPlace)
    (hval : ∀ (j : Nat) t v, Tryz.f8.params[j]? = some t → args[j]? = some v → Value.okWide Tryz.prog W .any base t v)
    (hW : DataW.Whole enc Tryz.prog Tryz.f8.params.toList Rows.flowsSpec.vars false W args.toList ds gs before) (_hL : laidMetH Tryz.prog Rows.flowsRow.laid W) :
    Calls Tryz.prog 8 args W fun e W' => ∃ v, e = .returned v ∧ Rows.flowsSpec.post enc Tryz.prog Tryz.f8 false true false false W args v W' := by
  have hW' := hW
  obtain ⟨p, q, hA0, hV, rfl, hfz, hnd⟩ := hW
  have hA : DataW.TrodAll enc Tryz.prog W 0 (fun _ => true) true Tryz.f8.params.toList args.toList ds p := hA0
  rw [Tryz.params8] at hA hval
  obtain ⟨v0, d0, rfl, rfl, h0⟩ := trodAll_one hA
  obtain ⟨rfl, rfl⟩ := trodVars_none hV
  obtain ⟨ao, len, cap, rfl⟩ := okWide_slice Tryz.underlying22 (hval 0 22 v0 rfl rfl)
  have walk : Calls Tryz.prog 8 #[.slice ao len cap] W fun e w' => e = .returned (.bool true) ∧ Kp no W w' :=
    flowsLaw_c _ W (script_upto h0 (fun _ => True) (fun _ _ _ _ => trivial) trivial 4 4 (fun o ho h1 h2 X hX => by
      have e3 : o.k = 4 := by omega
      rw [e3]
      exact lplays_flow o.b o.c o.s o.t o.u X ho.s))
  have hsh := (script_open h0).2
  refine walk.mono fun e W' ⟨he, k⟩ => ?_
  subst he
  have hold : ∀ q ∈ p, (fun b => decide (b < W.heap.size)) q.block = true := fun q hq => by simpa using hW'.lt q (by simpa using hq)
  refine ⟨_, rfl, [d0], [], p ++ [], [], p, [], hW', ?_, ?_, ?_, ?_, fun h => by cases h⟩
  · exact trodAll_mk1 (shut_bool Tryz.underlying4 _)
  · exact trodAll_mk1 (hsh W' k _ hold)
  · first | exact rfl | exact ⟨rfl, rfl⟩
  · exact Kp.keptBut k _
end Go.Proofs.YtellieabhaphhaaGreatDoor

/-
  Flows: the card.
-/
namespace Go.Proofs.YtellieabhaphhaaGreatDoor
open Go.ChangeShapes Go.WideShapes Go.ChangeAt Go.RowKit Go.Deep

/-- A block that holds other cells. -/
def lay1 (c : Array Value) : Obj → Obj
  | .cells _ t frozen => .cells c t frozen
  | o => o

theorem laid_met (os : Os) : laidMet Tryz.prog Rows.flowsRow.laid (({ World.holding Tryz.prog os ⟨#[], #[], []⟩ with heap := (((World.holding Tryz.prog os ⟨#[], #[], []⟩).heap.modify 0 (lay1 #[.int .u64 1, .int .u64 10, .int .u64 100, .int .u64 1000, .int .u64 10000, .int .u64 100000, .int .u64 1000000, .int .u64 10000000, .int .u64 100000000, .int .u64 1000000000, .int .u64 10000000000, .int .u64 100000000000, .int .u64 1000000000000, .int .u64 10000000000000, .int .u64 100000000000000, .int .u64 1000000000000000, .int .u64 10000000000000000, .int .u64 100000000000000000, .int .u64 1000000000000000000, .int .u64 10000000000000000000])).modify 1 (lay1 #[.int .u8 0, .int .u8 1, .int .u8 28, .int .u8 2, .int .u8 29, .int .u8 14, .int .u8 24, .int .u8 3, .int .u8 30, .int .u8 22, .int .u8 20, .int .u8 15, .int .u8 25, .int .u8 17, .int .u8 4, .int .u8 8, .int .u8 31, .int .u8 27, .int .u8 13, .int .u8 23, .int .u8 21, .int .u8 19, .int .u8 16, .int .u8 7, .int .u8 26, .int .u8 12, .int .u8 18, .int .u8 6, .int .u8 11, .int .u8 5, .int .u8 10, .int .u8 9])).modify 2 (lay1 #[.int .u8 0, .int .u8 1, .int .u8 56, .int .u8 2, .int .u8 57, .int .u8 49, .int .u8 28, .int .u8 3, .int .u8 61, .int .u8 58, .int .u8 42, .int .u8 50, .int .u8 38, .int .u8 29, .int .u8 17, .int .u8 4, .int .u8 62, .int .u8 47, .int .u8 59, .int .u8 36, .int .u8 45, .int .u8 43, .int .u8 51, .int .u8 22, .int .u8 53, .int .u8 39, .int .u8 33, .int .u8 30, .int .u8 24, .int .u8 18, .int .u8 12, .int .u8 5, .int .u8 63, .int .u8 55, .int .u8 48, .int .u8 27, .int .u8 60, .int .u8 41, .int .u8 37, .int .u8 16, .int .u8 46, .int .u8 35, .int .u8 44, .int .u8 21, .int .u8 52, .int .u8 32, .int .u8 23, .int .u8 11, .int .u8 54, .int .u8 26, .int .u8 40, .int .u8 15, .int .u8 34, .int .u8 20, .int .u8 31, .int .u8 10, .int .u8 25, .int .u8 14, .int .u8 19, .int .u8 9, .int .u8 13, .int .u8 8, .int .u8 7, .int .u8 6]) } : World).forCall (fun _ _ => 0) ⟨#[], #[.slice none 0 0], []⟩).memory :=
  laidMet_of_run' 8 (by kernel_rfl) (by kernel_rfl)

theorem flows_reads (os : Os) {H : Type} (enc : TypeId × Value → H) : ∃ places, DataW.whole enc Tryz.prog (({ World.holding Tryz.prog os ⟨#[], #[], []⟩ with heap := (((World.holding Tryz.prog os ⟨#[], #[], []⟩).heap.modify 0 (lay1 #[.int .u64 1, .int .u64 10, .int .u64 100, .int .u64 1000, .int .u64 10000, .int .u64 100000, .int .u64 1000000, .int .u64 10000000, .int .u64 100000000, .int .u64 1000000000, .int .u64 10000000000, .int .u64 100000000000, .int .u64 1000000000000, .int .u64 10000000000000, .int .u64 100000000000000, .int .u64 1000000000000000, .int .u64 10000000000000000, .int .u64 100000000000000000, .int .u64 1000000000000000000, .int .u64 10000000000000000000])).modify 1 (lay1 #[.int .u8 0, .int .u8 1, .int .u8 28, .int .u8 2, .int .u8 29, .int .u8 14, .int .u8 24, .int .u8 3, .int .u8 30, .int .u8 22, .int .u8 20, .int .u8 15, .int .u8 25, .int .u8 17, .int .u8 4, .int .u8 8, .int .u8 31, .int .u8 27, .int .u8 13, .int .u8 23, .int .u8 21, .int .u8 19, .int .u8 16, .int .u8 7, .int .u8 26, .int .u8 12, .int .u8 18, .int .u8 6, .int .u8 11, .int .u8 5, .int .u8 10, .int .u8 9])).modify 2 (lay1 #[.int .u8 0, .int .u8 1, .int .u8 56, .int .u8 2, .int .u8 57, .int .u8 49, .int .u8 28, .int .u8 3, .int .u8 61, .int .u8 58, .int .u8 42, .int .u8 50, .int .u8 38, .int .u8 29, .int .u8 17, .int .u8 4, .int .u8 62, .int .u8 47, .int .u8 59, .int .u8 36, .int .u8 45, .int .u8 43, .int .u8 51, .int .u8 22, .int .u8 53, .int .u8 39, .int .u8 33, .int .u8 30, .int .u8 24, .int .u8 18, .int .u8 12, .int .u8 5, .int .u8 63, .int .u8 55, .int .u8 48, .int .u8 27, .int .u8 60, .int .u8 41, .int .u8 37, .int .u8 16, .int .u8 46, .int .u8 35, .int .u8 44, .int .u8 21, .int .u8 52, .int .u8 32, .int .u8 23, .int .u8 11, .int .u8 54, .int .u8 26, .int .u8 40, .int .u8 15, .int .u8 34, .int .u8 20, .int .u8 31, .int .u8 10, .int .u8 25, .int .u8 14, .int .u8 19, .int .u8 9, .int .u8 13, .int .u8 8, .int .u8 7, .int .u8 6]) } : World).forCall (fun _ _ => 0) ⟨#[], #[.slice none 0 0], []⟩).memory Tryz.f8.params.toList Rows.flowsSpec.vars false #[Value.slice none 0 0].toList 8 = some ([.nil], [], places) :=
  ⟨[], by kernel_rfl⟩

set_option maxRecDepth 100000 in
theorem flows_lifted (os : Os) (started : os.Started) (H : Type) (enc : TypeId × Value → H) (F : Stop.Interp) :
    ReturnsInHanded {} Tryz.checked os 8 .any ((OpenSpec.ofChange Rows.flowsSpec).preRow enc Tryz.prog Tryz.f8 Rows.flowsRow.domain false Rows.flowsRow.laid) (((OpenSpec.ofChange Rows.flowsSpec).at F).post enc Tryz.prog Tryz.f8 false true false false) := by
  obtain ⟨places, hx⟩ := flows_reads os enc
  refine returnsInHanded_of_row (C := Tryz.checked) (s := OpenSpec.ofChange Rows.flowsSpec) own started (by kernel_rfl) Tryz.func8
    (witness_row_at (enc := enc) (C := Tryz.checked) false ({ World.holding Tryz.prog os ⟨#[], #[], []⟩ with heap := (((World.holding Tryz.prog os ⟨#[], #[], []⟩).heap.modify 0 (lay1 #[.int .u64 1, .int .u64 10, .int .u64 100, .int .u64 1000, .int .u64 10000, .int .u64 100000, .int .u64 1000000, .int .u64 10000000, .int .u64 100000000, .int .u64 1000000000, .int .u64 10000000000, .int .u64 100000000000, .int .u64 1000000000000, .int .u64 10000000000000, .int .u64 100000000000000, .int .u64 1000000000000000, .int .u64 10000000000000000, .int .u64 100000000000000000, .int .u64 1000000000000000000, .int .u64 10000000000000000000])).modify 1 (lay1 #[.int .u8 0, .int .u8 1, .int .u8 28, .int .u8 2, .int .u8 29, .int .u8 14, .int .u8 24, .int .u8 3, .int .u8 30, .int .u8 22, .int .u8 20, .int .u8 15, .int .u8 25, .int .u8 17, .int .u8 4, .int .u8 8, .int .u8 31, .int .u8 27, .int .u8 13, .int .u8 23, .int .u8 21, .int .u8 19, .int .u8 16, .int .u8 7, .int .u8 26, .int .u8 12, .int .u8 18, .int .u8 6, .int .u8 11, .int .u8 5, .int .u8 10, .int .u8 9])).modify 2 (lay1 #[.int .u8 0, .int .u8 1, .int .u8 56, .int .u8 2, .int .u8 57, .int .u8 49, .int .u8 28, .int .u8 3, .int .u8 61, .int .u8 58, .int .u8 42, .int .u8 50, .int .u8 38, .int .u8 29, .int .u8 17, .int .u8 4, .int .u8 62, .int .u8 47, .int .u8 59, .int .u8 36, .int .u8 45, .int .u8 43, .int .u8 51, .int .u8 22, .int .u8 53, .int .u8 39, .int .u8 33, .int .u8 30, .int .u8 24, .int .u8 18, .int .u8 12, .int .u8 5, .int .u8 63, .int .u8 55, .int .u8 48, .int .u8 27, .int .u8 60, .int .u8 41, .int .u8 37, .int .u8 16, .int .u8 46, .int .u8 35, .int .u8 44, .int .u8 21, .int .u8 52, .int .u8 32, .int .u8 23, .int .u8 11, .int .u8 54, .int .u8 26, .int .u8 40, .int .u8 15, .int .u8 34, .int .u8 20, .int .u8 31, .int .u8 10, .int .u8 25, .int .u8 14, .int .u8 19, .int .u8 9, .int .u8 13, .int .u8 8, .int .u8 7, .int .u8 6]) } : World) #[.slice none 0 0] rfl (by kernel_rfl) (by kernel_rfl) (by kernel_rfl)
      (OpenSpec.preRow_of_cond 8 hx (by kernel_rfl) (fun k hk => by cases hk) (by kernel_rfl) (laid_met os))) ?_
  intro W base args ds gs before hval hW _ _ _ hL _ _
  exact flows_contract H enc W base args ds gs before hval hW hL

theorem flows_said : Rows.FlowsSaid :=
  OpenClaim.holds_of_cond 8 Tryz.f8 rfl rfl rfl rfl rfl rfl rfl ⟨rfl, rfl, rfl, rfl, rfl⟩ rfl rfl rfl rfl rfl (by kernel_rfl) Tryz.func8 (by kernel_rfl)
    (of_decide_eq_true (by kernel_rfl)) (by unfold Func.isWrapper; first | (rw [if_pos (by decide +kernel)]; kernel_rfl) | (rw [if_neg (by decide +kernel)]; exact ⟨rfl, rfl⟩))
    (fun os started H enc _ F => by rw [OpenClaim.pre_eq_preRow]; exact flows_lifted os started H enc F)

theorem flows_plain (f : FuncId) (fn : Func) (hf : Tryz.pinned.checked.prog.funcNamed "narrow/narrowlaw.Flows" = some f) (hfn : Tryz.pinned.checked.prog.funcs[f]? = some fn) :
    false = Tryz.pinned.checked.prog.looks [] ∧ ∀ (j : Nat) t, fn.params[j]? = some t → Tryz.pinned.checked.prog.wantsStandIn t = false := by
  obtain rfl : f = 8 := Option.some.inj ((show Tryz.prog.funcNamed "narrow/narrowlaw.Flows" = some 8 by kernel_rfl).symm.trans hf) |>.symm
  obtain rfl : fn = Tryz.f8 := (Option.some.inj (Tryz.func8.symm.trans hfn)).symm
  refine ⟨by kernel_rfl, fun j t ht => ?_⟩
  rw [Tryz.params8] at ht
  obtain rfl : t = 22 := by simpa using Array.mem_of_getElem? ht
  exact (show Tryz.prog.wantsStandIn 22 = false by kernel_rfl)

theorem flows_card : Rows.FlowsCardSaid :=
  Claim7.holds_tied_plain_at .later [] _ _ _ _ flows_said (fun _ h => by cases h) (by kernel_rfl) (fun _ h => by cases h) flows_row_tie rfl ⟨rfl, rfl⟩ (by kernel_rfl) rfl flows_plain (by kernel_rfl)
#print axioms flows_card
end Go.Proofs.YtellieabhaphhaaGreatDoor
