import Derived.Test.YtellieabhaphhaaGreatDoorPartP
import Derived.Test.YtellieabhaphhaaGreatDoorPartM
import Derived.Test.YtellieabhaphhaaGreatDoorPartO
import Derived.Test.YtellieabhaphhaaGreatDoorPartC
/-
  narrow's Prune: the nodes that are left.
-/
namespace Go.Proofs.YtellieabhaphhaaGreatDoor
open Go.RowKit

/-- A node that is left. -/
def kpN (s : ByteArray) (T : Tbl) (n : Nd) (S : St) : NN :=
  { lwN (encX s n) (algF n true S) (algF n false S) T.length with
    yes := (cntF T (lwN (encX s n) (algF n true S) (algF n false S) T.length).yes.toNat : Nat)
    no := (cntF T (lwN (encX s n) (algF n true S) (algF n false S) T.length).no.toNat : Nat) }

def kpL (s : ByteArray) (T : Tbl) (l : List Nd) : Nat → List NN
  | 0 => []
  | j + 1 => kpL s T l j ++ (match l[j]? with | some n => if T.getD j [] = [] then [] else [kpN s T n (T.getD j [])] | none => [])

theorem kpL_len (s : ByteArray) (T : Tbl) (l : List Nd) : ∀ j, (kpL s T l j).length ≤ j
  | 0 => Nat.le_refl _
  | j + 1 => by
    have := kpL_len s T l j
    rw [kpL, List.length_append]
    have h2 : (match l[j]? with | some n => if T.getD j [] = [] then [] else [kpN s T n (T.getD j [])] | none => ([] : List NN)).length ≤ 1 := by
      split
      · split <;> simp
      · simp
    omega

/-- The nodes that are left so far. -/
structure KN (w0 w : World) (v : Value) (l : List NN) : Prop where
  r : NRow w v l
  o : New w0 v

theorem KN.kp {w0 w w' : World} {v : Value} {l : List NN} (h : KN w0 w v l) (k : Kp no w w') : KN w0 w' v l := ⟨k.row h.r (fun _ _ => no_elim), h.o⟩
theorem KN.set {w0 w : World} {v : Value} {l : List NN} (h : KN w0 w v l) {b o : Nat} (u : Value) (hb : v.ownBlock ≠ some b) : KN w0 (w.setCell ⟨b, o, none⟩ u) v l := ⟨Row.set h.r _ hb, h.o⟩

theorem nncells_snoc {l : List NN} {n : NN} : nnCells (l ++ [n]) = nnCells l ++ n.cells := by
  rw [nnCells, List.flatMap_append, ← nnCells, List.flatMap_cons, List.flatMap_nil, List.append_nil]

theorem nrow_snoc {W' : World} {l : List NN} {n : NN} {g cap : Nat}
    (hown : W'.ownsRow 0 91 11 (.slice (some ⟨g, 0, none⟩) (l.length + 1) cap) (l.length + 1) (nnCells l ++ n.cells)) : NRow W' (.slice (some ⟨g, 0, none⟩) (l.length + 1) cap) (l ++ [n]) := by
  have e4 : (l ++ [n]).length = l.length + 1 := List.length_append
  show World.ownsRow W' 0 91 11 _ (l ++ [n]).length (nnCells (l ++ [n]))
  rw [nncells_snoc, e4]
  exact hown

theorem KN.app {w0 W W' : World} {v : Value} {l : List NN} {o : Obj} {g cap : Nat} (n : NN) (h : KN w0 W v l) (hk : Kp no w0 W)
    (hown : W'.ownsRow 0 91 11 (.slice (some ⟨g, 0, none⟩) (l.length + 1) cap) (l.length + 1) (nnCells l ++ n.cells)) (hgrow : (W.alloc o).grownBy W' v.ownBlock) (hat : v.ownBlock = some g ∨ g = (W.alloc o).heap.size) :
    KN w0 W' (.slice (some ⟨g, 0, none⟩) (l.length + 1) cap) (l ++ [n]) ∧ Kp no w0 W' :=
  ⟨⟨nrow_snoc hown, (app_step h.o hk hgrow hat (l.length + 1) cap).1⟩, (app_step h.o hk hgrow hat (l.length + 1) cap).2⟩

set_option maxRecDepth 100000 in
set_option maxHeartbeats 1600000 in
theorem prunedNodes_c (s : ByteArray) (v : Value) (l : List Nd) (tb : Nat) (T : Tbl) (w : World) (h : NRow w v (l.map (encX s))) (hB : Blk w tb (tCells T) 102) (hTl : T.length = l.length) (hT : TOk T) (hl : l.length ≤ 90) (hg : ∀ n ∈ l, Gd s n) :
    Calls Tryz.prog 58 #[v, .slice (some ⟨tb, 0, none⟩) l.length l.length] w fun e w' => ∃ u, e = .returned u ∧ NRow w' u (kpL s T l l.length) ∧ Kp no w w' := by
  obtain ⟨i0, hi0, hz0, hz1, hz2⟩ := info_parts info_nn
  obtain ⟨a, cap, rfl⟩ := h.shape
  have HD := hide h
  rw [List.length_map]
  have HB := hide hB
  clear h hB
  go_enter Tryz.func58, Tryz.ntmps58
  go_wp2
  go_loopg [5, 12] l.length (fun k lv iv wr => ∃ j : Nat, j ≤ l.length ∧ k = l.length - j ∧ iv = .int .i64 j ∧ KN w wr lv (kpL s T l j) ∧ Kp no w wr)
  case atStart =>
    refine ⟨0, Nat.zero_le _, rfl, rfl, ⟨⟨rfl, .inr ⟨w.heap.size, 0, #[], rfl, Nat.zero_le _, ?_, Nat.le_refl _, Nat.zero_le _, rfl, rfl⟩⟩, fun b hb => by simp [Value.ownBlock] at hb; omega⟩, by (repeat' (first | with_reducible exact Kp.refl _ _ | with_reducible refine Kp.alloc ?_ _ | with_reducible refine Kp.drewN ?_ _ | with_reducible refine Kp.drew ?_ | with_reducible refine Kp.setCell ?_ _ ?_ | (intro hh; first | rfl | exact .inl rfl | exact .inr rfl | (exfalso; (try dsimp only at hh); omega))))⟩
    have hh : Blk (w.alloc (.cells #[] 91)) w.heap.size [] 91 := by (repeat' (first | ((with_reducible show (_ : List Value) = _); rfl) | ((with_reducible refine Blk.newAt _ _ _ ?_); first | with_reducible rfl | (simp; done)) | with_reducible refine Blk.alloc ?_ _ | with_reducible refine Blk.drewN ?_ _ | with_reducible refine Blk.drew ?_ | ((with_reducible refine Blk.other ?_ _ ?_); rotate_left; ((try dsimp only); omega)) | with_reducible refine Blk.setB (cs0 := ?_) ?_ ?_))
    exact hh
  case round =>
    obtain ⟨j, hj, hk, rfl, hKB, kr⟩ := hrel
    have HKK := hide hk
    have HKB := hide hKB
    have HKR := hide kr
    obtain ⟨la, lc, rfl⟩ := hKB.r.shape
    clear hk hKB kr
    by_cases hlt : j < l.length
    · obtain ⟨nd, hnd⟩ : ∃ nd, l[j]? = some nd := ⟨_, List.getElem?_eq_getElem hlt⟩
      have HGD := hide (hg nd (List.mem_of_getElem? hnd))
      have HPL := hide (show kpL s T l (j + 1) = kpL s T l j ++ (if T.getD j [] = [] then [] else [kpN s T nd (T.getD j [])]) by rw [kpL, hnd])
      obtain ⟨_, gn, ha, hgn, n0, n1, n2, n3, n4, n5, n6, n7, n8, n9, n10⟩ := NRow.at (HKR.out.row HD.out (fun _ _ => no_elim)) (k := j) (n := encX s nd) (by rw [List.getElem?_map, hnd]; rfl)
      subst ha
      have HSO := hide (hT.get j)
      have hpl := kpL_len s T l j
      have HST := hide (fun W hW => stateOf_b tb l.length T j W hW hTl hlt)
      obtain ⟨m0, m1, m2, m3, m4, m5, hm⟩ := z6_six (encZ_z6 HSO.out)
      have HEX := hide (exS_enc HSO.out)
      have HLW := hide (fun (hF : Ful (T.getD j [])) W => withLiveWays_c nd (s.extract nd.a.toNat (nd.a + nd.l).toNat) (yesN nd) (noN nd) l.length (T.getD j []) W HGD.out.g hF)
      have HFU := hide (fun h0 => HSO.out.ful h0)
      have HSM := hide (fun h0 : T.getD j [] ≠ [] => show T.getD j [] = [m0, m1, m2, m3, m4, m5] by rw [← encZ_ful (HSO.out.ful h0)]; exact hm)
      have HKP := hide (show kpN s T nd (T.getD j []) = { lwN (encN nd (s.extract nd.a.toNat (nd.a + nd.l).toNat) (yesN nd) (noN nd)) (algF nd true (T.getD j [])) (algF nd false (T.getD j [])) l.length with
        yes := (cntF T (lwN (encN nd (s.extract nd.a.toNat (nd.a + nd.l).toNat) (yesN nd) (noN nd)) (algF nd true (T.getD j [])) (algF nd false (T.getD j [])) l.length).yes.toNat : Nat)
        no := (cntF T (lwN (encN nd (s.extract nd.a.toNat (nd.a + nd.l).toNat) (yesN nd) (noN nd)) (algF nd true (T.getD j [])) (algF nd false (T.getD j [])) l.length).no.toNat : Nat) } by rw [kpN, hTl]; rfl)
      have HYN := hide (show 0 ≤ yesN nd ∧ 0 ≤ noN nd by
        have h1 := HGD.out.t
        have h2 := HGD.out.f
        constructor
        · unfold yesN; split; exact Int.le_refl _; exact (h1 (by assumption)).1
        · unfold noN yesN
          split
          · exact (h2 (by assumption)).1
          · split; exact Int.le_refl _; exact (h1 (by assumption)).1)
      have HWY := hide (show 0 ≤ (lwN (encN nd (s.extract nd.a.toNat (nd.a + nd.l).toNat) (yesN nd) (noN nd)) (algF nd true (T.getD j [])) (algF nd false (T.getD j [])) l.length).yes ∧ 0 ≤ (lwN (encN nd (s.extract nd.a.toNat (nd.a + nd.l).toNat) (yesN nd) (noN nd)) (algF nd true (T.getD j [])) (algF nd false (T.getD j [])) l.length).no by
        have h1 := HYN.out
        unfold lwN
        repeat' split
        · exact h1
        · exact ⟨h1.1, h1.1⟩
        · exact ⟨h1.2, h1.2⟩
        · exact ⟨Int.natCast_nonneg _, Int.natCast_nonneg _⟩)
      rw [hm] at HST HEX
      have HST2 : Hid (∀ W, Blk W tb (tCells T) 102 → Calls Tryz.prog 76 #[.slice (some ⟨tb, 0, none⟩) l.length l.length, .int .i64 j] W fun e w' => e = .returned (zv6 m0 m1 m2 m3 m4 m5) ∧ Kp no W w') := HST.out
      have HZ6 := hide (show Z6 [m0, m1, m2, m3, m4, m5] from hm ▸ encZ_z6 HSO.out)
      clear HST hm hnd
      dsimp only [encX, encN] at n0 n1 n2 n3 n4 n5 n6 n7 n8 n9 n10
      generalize s.extract nd.a.toNat (nd.a + nd.l).toNat = tx at *
      generalize lwN (encN nd tx (yesN nd) (noN nd)) (algF nd true (T.getD j [])) (algF nd false (T.getD j [])) l.length = R at *
      generalize kpN s T nd (T.getD j []) = KP at *
      generalize T.getD j [] = S at *
      generalize kpL s T l j = P at *
      generalize yesN nd = yn at *
      generalize noN nd = nn at *
      generalize actN nd.op = act at *
      generalize (if nd.op = 43 ∨ nd.op = 60 then nd.v else nd.y) = nwv at *
      generalize (if nd.op = 126 ∨ nd.op = 58 then bit nd.k else 0) = kdv at *
      generalize (consN nd).n = cnn at *
      generalize bit (consN nd).k = ckk at *
      generalize bit (consN nd).v = chh at *
      generalize nd.x = nx at *
      generalize nd.y = ny at *
      have hqI : (j : Int) < l.length := by omega
      have HX := hide (fun b W hW => exists_c b [m0, m1, m2, m3, m4, m5] W hW HZ6.out)
      rw [HEX.out] at HX
      have HLN : Hid (Value.ownBlock (.slice la P.length lc) ≠ some wr.heap.size) := fun e => by have := Row.lt HKB.out.r e; omega
      go_wp2_with fail
      refine (HST2.out _ ((HKR.out.blk HB.out no_elim).alloc _)).mono ?_
      rintro e w5 ⟨rfl, k5⟩
      have hN5 : Blk w5 wr.heap.size [.string tx, .int .i64 act, .int .i64 nx, .int .i64 ny, .int .i64 nwv, .int .i64 ckk, .int .i64 cnn, .int .i64 chh, .int .i64 kdv, .int .i64 yn, .int .i64 nn] 91 := k5.blk (by (repeat' (first | ((with_reducible show (_ : List Value) = _); rfl) | ((with_reducible refine Blk.newAt _ _ _ ?_); first | with_reducible rfl | (simp; done)) | with_reducible refine Blk.alloc ?_ _ | with_reducible refine Blk.drewN ?_ _ | with_reducible refine Blk.drew ?_ | ((with_reducible refine Blk.other ?_ _ ?_); rotate_left; ((try dsimp only); omega)) | with_reducible refine Blk.setB (cs0 := ?_) ?_ ?_))) no_elim
      have HK5 := hide (HKR.out.trans (S' := no) (Kp.trans (by (repeat' (first | with_reducible exact Kp.refl _ _ | with_reducible refine Kp.alloc ?_ _ | with_reducible refine Kp.drewN ?_ _ | with_reducible refine Kp.drew ?_ | with_reducible refine Kp.setCell ?_ _ ?_ | (intro hh; first | rfl | exact .inl rfl | exact .inr rfl | (exfalso; (try dsimp only at hh); omega))))) k5 (fun _ _ e => e)) (fun _ _ e => e))
      have HL5 := hide (HKB.out.kp (Kp.trans (by (repeat' (first | with_reducible exact Kp.refl _ _ | with_reducible refine Kp.alloc ?_ _ | with_reducible refine Kp.drewN ?_ _ | with_reducible refine Kp.drew ?_ | with_reducible refine Kp.setCell ?_ _ ?_ | (intro hh; first | rfl | exact .inl rfl | exact .inr rfl | (exfalso; (try dsimp only at hh); omega))))) k5 (fun _ _ e => e)))
      clear k5 n0 n1 n2 n3 n4 n5 n6 n7 n8 n9 n10
      obtain ⟨n0, n1, n2, n3, n4, n5, n6, n7, n8, n9, n10, nf⟩ := hN5.c11; have hnl := hN5.lt
      by_cases hS0 : S = []
      · rw [if_pos hS0, List.append_nil] at HPL
        rw [decide_eq_false (fun e => e hS0)] at HX
        clear hS0
        go_wp2_with fail
        refine (HX.out _ _ (by (show Blk _ _ [.int .i64 m0, .int .i64 m1, .int .i64 m2, .int .i64 m3, .int .i64 m4, .int .i64 m5] _); (repeat' (first | ((with_reducible show (_ : List Value) = _); rfl) | ((with_reducible refine Blk.newAt _ _ _ ?_); first | with_reducible rfl | (simp; done)) | with_reducible refine Blk.alloc ?_ _ | with_reducible refine Blk.drewN ?_ _ | with_reducible refine Blk.drew ?_ | ((with_reducible refine Blk.other ?_ _ ?_); rotate_left; ((try dsimp only); omega)) | with_reducible refine Blk.setB (cs0 := ?_) ?_ ?_)))).mono ?_
        rintro e w' ⟨rfl, rfl⟩
        go_wp2
        go_roundg (l.length - (j + 1))
        case measure => have := HKK.out; omega
        case rel => exact ⟨j + 1, by omega, rfl, by go_num, by rw [HPL.out]; exact HL5.out.kp ((Kp.refl _ _).alloc _), HK5.out.alloc _⟩
      · rw [if_neg hS0] at HPL
        rw [decide_eq_true hS0] at HX
        have HLX := hide (HLW.out (HFU.out hS0))
        rw [HSM.out hS0] at HLX
        rw [show Value.agg (zc [m0, m1, m2, m3, m4, m5]).toArray = zv6 m0 m1 m2 m3 m4 m5 from rfl] at HLX
        clear hS0 HLW HFU HSM
        obtain ⟨rtx, ract, rx, ry, rw', rck, rcn, rch, rkd, ryes, rno⟩ := R
        obtain ⟨ryn, hryn⟩ := Int.eq_ofNat_of_zero_le HWY.out.1
        obtain ⟨rnn, hrnn⟩ := Int.eq_ofNat_of_zero_le HWY.out.2
        dsimp only at hryn hrnn
        subst hryn hrnn
        dsimp only [NN.cells] at HLX
        dsimp only at HKP
        rw [Int.toNat_natCast, Int.toNat_natCast] at HKP
        go_wp2_with fail
        refine (HX.out _ _ (by (show Blk _ _ [.int .i64 m0, .int .i64 m1, .int .i64 m2, .int .i64 m3, .int .i64 m4, .int .i64 m5] _); (repeat' (first | ((with_reducible show (_ : List Value) = _); rfl) | ((with_reducible refine Blk.newAt _ _ _ ?_); first | with_reducible rfl | (simp; done)) | with_reducible refine Blk.alloc ?_ _ | with_reducible refine Blk.drewN ?_ _ | with_reducible refine Blk.drew ?_ | ((with_reducible refine Blk.other ?_ _ ?_); rotate_left; ((try dsimp only); omega)) | with_reducible refine Blk.setB (cs0 := ?_) ?_ ?_)))).mono ?_
        rintro e w' ⟨rfl, rfl⟩
        go_wp2_with fail
        refine (HLX.out _).mono ?_
        rintro e w6 ⟨rfl, k6⟩
        have hN6 : Blk w6 wr.heap.size [.string tx, .int .i64 act, .int .i64 nx, .int .i64 ny, .int .i64 nwv, .int .i64 ckk, .int .i64 cnn, .int .i64 chh, .int .i64 kdv, .int .i64 yn, .int .i64 nn] 91 := k6.blk (by (repeat' (first | ((with_reducible show (_ : List Value) = _); rfl) | with_reducible exact hN5 | ((with_reducible refine Blk.newAt _ _ _ ?_); first | with_reducible rfl | (simp; done)) | with_reducible refine Blk.alloc ?_ _ | with_reducible refine Blk.drewN ?_ _ | with_reducible refine Blk.drew ?_ | ((with_reducible refine Blk.other ?_ _ ?_); rotate_left; ((try dsimp only); omega)) | with_reducible refine Blk.setB (cs0 := ?_) ?_ ?_))) no_elim
        have HK6 := hide (HK5.out.trans (S' := no) (Kp.trans (by (repeat' (first | with_reducible exact Kp.refl _ _ | with_reducible refine Kp.alloc ?_ _ | with_reducible refine Kp.drewN ?_ _ | with_reducible refine Kp.drew ?_ | with_reducible refine Kp.setCell ?_ _ ?_ | (intro hh; first | rfl | exact .inl rfl | exact .inr rfl | (exfalso; (try dsimp only at hh); omega))))) k6 (fun _ _ e => e)) (fun _ _ e => e))
        have HL6 := hide (HL5.out.kp (Kp.trans (by (repeat' (first | with_reducible exact Kp.refl _ _ | with_reducible refine Kp.alloc ?_ _ | with_reducible refine Kp.drewN ?_ _ | with_reducible refine Kp.drew ?_ | with_reducible refine Kp.setCell ?_ _ ?_ | (intro hh; first | rfl | exact .inl rfl | exact .inr rfl | (exfalso; (try dsimp only at hh); omega))))) k6 (fun _ _ e => e)))
        have hT6 := HK6.out.blk HB.out no_elim
        have htbl := HB.out.lt
        have hsw := HKR.out.size
        clear k6
        clear n0 n1 n2 n3 n4 n5 n6 n7 n8 n9 n10 nf hnl
        obtain ⟨n0, n1, n2, n3, n4, n5, n6, n7, n8, n9, n10, nf⟩ := hN6.c11; have hnl := hN6.lt
        have HSA := hide (fun i W hW => statesAhead_c tb T i W hW hT (by omega))
        rw [hTl] at HSA
        go_wp2_with fail
        refine (HSA.out ryn _ (by (repeat' (first | ((with_reducible show (_ : List Value) = _); rfl) | with_reducible exact hT6 | ((with_reducible refine Blk.newAt _ _ _ ?_); first | with_reducible rfl | (simp; done)) | with_reducible refine Blk.alloc ?_ _ | with_reducible refine Blk.drewN ?_ _ | with_reducible refine Blk.drew ?_ | ((with_reducible refine Blk.other ?_ _ ?_); rotate_left; ((try dsimp only); omega)) | with_reducible refine Blk.setB (cs0 := ?_) ?_ ?_)))).mono ?_
        rintro e w7 ⟨rfl, k7⟩
        have hN7 : Blk w7 wr.heap.size [.string rtx, .int .i64 ract, .int .i64 rx, .int .i64 ry, .int .i64 rw', .int .i64 rck, .int .i64 rcn, .int .i64 rch, .int .i64 rkd, .int .i64 ryn, .int .i64 rnn] 91 := k7.blk (by (repeat' (first | ((with_reducible show (_ : List Value) = _); rfl) | with_reducible exact hN6 | ((with_reducible refine Blk.newAt _ _ _ ?_); first | with_reducible rfl | (simp; done)) | with_reducible refine Blk.alloc ?_ _ | with_reducible refine Blk.drewN ?_ _ | with_reducible refine Blk.drew ?_ | ((with_reducible refine Blk.other ?_ _ ?_); rotate_left; ((try dsimp only); omega)) | with_reducible refine Blk.setB (cs0 := ?_) ?_ ?_))) no_elim
        have kk6 := HK6.out
        have HK7 := hide (show Kp no w w7 from Kp.trans (by (repeat' (first | with_reducible exact Kp.refl _ _ | with_reducible refine Kp.alloc ?_ _ | with_reducible refine Kp.drewN ?_ _ | with_reducible refine Kp.drew ?_ | with_reducible refine Kp.setCell ?_ _ ?_ | with_reducible refine Kp.trans ?_ kk6 (fun _ _ e => e) | (intro hh; first | rfl | exact .inl rfl | exact .inr rfl | (exfalso; (try dsimp only at hh); omega))))) k7 (fun _ _ e => e))
        have HL7 : Hid (KN w w7 (.slice la P.length lc) P) := KN.kp (by repeat' (first | with_reducible exact HL6.out | with_reducible refine KN.set ?_ _ HLN.out)) k7
        have hT7 := HK7.out.blk HB.out no_elim
        clear k7 hN6 HL6 hT6
        clear n0 n1 n2 n3 n4 n5 n6 n7 n8 n9 n10 nf hnl
        obtain ⟨n0, n1, n2, n3, n4, n5, n6, n7, n8, n9, n10, nf⟩ := hN7.c11; have hnl := hN7.lt
        generalize cntF T ryn = cy at *
        go_wp2_with fail
        refine (HSA.out rnn _ (by (repeat' (first | ((with_reducible show (_ : List Value) = _); rfl) | with_reducible exact hT7 | ((with_reducible refine Blk.newAt _ _ _ ?_); first | with_reducible rfl | (simp; done)) | with_reducible refine Blk.alloc ?_ _ | with_reducible refine Blk.drewN ?_ _ | with_reducible refine Blk.drew ?_ | ((with_reducible refine Blk.other ?_ _ ?_); rotate_left; ((try dsimp only); omega)) | with_reducible refine Blk.setB (cs0 := ?_) ?_ ?_)))).mono ?_
        rintro e w8 ⟨rfl, k8⟩
        have hN8 : Blk w8 wr.heap.size [.string rtx, .int .i64 ract, .int .i64 rx, .int .i64 ry, .int .i64 rw', .int .i64 rck, .int .i64 rcn, .int .i64 rch, .int .i64 rkd, .int .i64 cy, .int .i64 rnn] 91 := k8.blk (by (repeat' (first | ((with_reducible show (_ : List Value) = _); rfl) | with_reducible exact hN7 | ((with_reducible refine Blk.newAt _ _ _ ?_); first | with_reducible rfl | (simp; done)) | with_reducible refine Blk.alloc ?_ _ | with_reducible refine Blk.drewN ?_ _ | with_reducible refine Blk.drew ?_ | ((with_reducible refine Blk.other ?_ _ ?_); rotate_left; ((try dsimp only); omega)) | with_reducible refine Blk.setB (cs0 := ?_) ?_ ?_))) no_elim
        have kk7 := HK7.out
        have HK8 := hide (show Kp no w w8 from Kp.trans (by (repeat' (first | with_reducible exact Kp.refl _ _ | with_reducible refine Kp.alloc ?_ _ | with_reducible refine Kp.drewN ?_ _ | with_reducible refine Kp.drew ?_ | with_reducible refine Kp.setCell ?_ _ ?_ | with_reducible refine Kp.trans ?_ kk7 (fun _ _ e => e) | (intro hh; first | rfl | exact .inl rfl | exact .inr rfl | (exfalso; (try dsimp only at hh); omega))))) k8 (fun _ _ e => e))
        have HL8 : Hid (KN w w8 (.slice la P.length lc) P) := KN.kp (by repeat' (first | with_reducible exact HL7.out | with_reducible refine KN.set ?_ _ HLN.out)) k8
        clear k8 hN7 HL7 hT7
        clear n0 n1 n2 n3 n4 n5 n6 n7 n8 n9 n10 nf hnl
        obtain ⟨n0, n1, n2, n3, n4, n5, n6, n7, n8, n9, n10, nf⟩ := hN8.c11; have hnl := hN8.lt
        generalize cntF T rnn = cz at *
        have hone : ∀ u ∈ ([.string rtx, .int .i64 ract, .int .i64 rx, .int .i64 ry, .int .i64 rw', .int .i64 rck, .int .i64 rcn, .int .i64 rch, .int .i64 rkd, .int .i64 cy, .int .i64 cz] : List Value), u.oneCell' = true := by simp [Value.oneCell']
        have HL9 := hide (HL8.out.set (o := 10) (.int .i64 (cz : Int)) HLN.out)
        go_wp2_with (at_builtin; refine wpList_append_lies _ rfl (.tmp 37) (.tmp 39) 52 rfl 0 91 i0 _ 11 96 Tryz.underlying52 hi0 hz0 hz1 hz2 rfl (by decide) (.slice la P.length lc) P.length (nnCells P) (by simp [Act.eval]) (by exact World.ownsRow.alloc HL9.out.r _) ⟨w8.heap.size, 0, none⟩ 1 1 [.string rtx, .int .i64 ract, .int .i64 rx, .int .i64 ry, .int .i64 rw', .int .i64 rck, .int .i64 rcn, .int .i64 rch, .int .i64 rkd, .int .i64 cy, .int .i64 cz] (by simp [Act.eval]) rfl (by exact Blk.news (Blk.newAt _ [.string rtx, .int .i64 ract, .int .i64 rx, .int .i64 ry, .int .i64 rw', .int .i64 rck, .int .i64 rcn, .int .i64 rch, .int .i64 rkd, .int .i64 cy, .int .i64 cz] _ (by simp))) hone (by decide) (by unfold maxLen; omega) (by omega) (Nat.zero_le _) _ rfl ?_; intro g cap' w' hown hgrow hat hlt')
        go_roundg (l.length - (j + 1))
        case measure => have := HKK.out; omega
        case rel =>
          have kk8 := HK8.out
          have hap := KN.app ⟨rtx, ract, rx, ry, rw', rck, rcn, rch, rkd, cy, cz⟩ HL9.out (by (repeat' (first | with_reducible exact Kp.refl _ _ | with_reducible refine Kp.alloc ?_ _ | with_reducible refine Kp.drewN ?_ _ | with_reducible refine Kp.drew ?_ | with_reducible refine Kp.setCell ?_ _ ?_ | with_reducible refine Kp.trans ?_ kk8 (fun _ _ e => e) | (intro hh; first | rfl | exact .inl rfl | exact .inr rfl | (exfalso; (try dsimp only at hh); omega))))) hown hgrow hat
          exact ⟨j + 1, by omega, rfl, by go_num, by rw [HPL.out, HKP.out]; exact hap.1, hap.2⟩
    · obtain rfl : j = l.length := by omega
      go_wp2
      go_ret
      exact ⟨_, rfl, HKB.out.r, HKR.out⟩
end Go.Proofs.YtellieabhaphhaaGreatDoor

/-
  A graph's text: what narrow writes.
-/
namespace Go.Proofs.YtellieabhaphhaaGreatDoor
open Go.RowKit

/-- A line. -/
def lnTx (n : NN) : ByteArray := n.tx ++ (if n.act = 11 then ⟨#[]⟩ else ⟨#[44]⟩ ++ twoB n.yes.toNat) ++ (if n.act = 12 ∨ n.act = 13 then ⟨#[44]⟩ ++ twoB n.no.toNat else ⟨#[]⟩) ++ ⟨#[59]⟩

/-- A node that can be written. -/
structure Ln (n : NN) : Prop where
  tx : n.tx.size ≤ 1000
  yes : n.act ≠ 11 → 0 ≤ n.yes ∧ n.yes < 100
  no : n.act = 12 ∨ n.act = 13 → 0 ≤ n.no ∧ n.no < 100

theorem lnTx_size {n : NN} (h : Ln n) : (lnTx n).size ≤ 1007 := by
  have h1 := h.tx
  have h2 : ∀ k, (twoB k).size = 2 := twoB_size
  unfold lnTx
  rw [ByteArray.size_append, ByteArray.size_append, ByteArray.size_append, show (ByteArray.mk #[59]).size = 1 from rfl]
  have h3 : (if n.act = 11 then (⟨#[]⟩ : ByteArray) else ⟨#[44]⟩ ++ twoB n.yes.toNat).size ≤ 3 := by
    split
    · decide
    · rw [ByteArray.size_append, h2]; decide
  have h4 : (if n.act = 12 ∨ n.act = 13 then (⟨#[44]⟩ : ByteArray) ++ twoB n.no.toNat else ⟨#[]⟩).size ≤ 3 := by
    split
    · rw [ByteArray.size_append, h2]; decide
    · decide
  omega

set_option maxRecDepth 100000 in
set_option maxHeartbeats 1600000 in
theorem lineText_c (n : NN) (w : World) (h : Ln n) :
    Calls Tryz.prog 55 #[.agg #[.string n.tx, .int .i64 n.act, .int .i64 n.x, .int .i64 n.y, .int .i64 n.w, .int .i64 n.ck, .int .i64 n.cn, .int .i64 n.ch, .int .i64 n.kd, .int .i64 n.yes, .int .i64 n.no]] w fun e w' => e = .returned (.string (lnTx n)) ∧ Kp no w w' := by
  have HT := hide (fun W => nisTest_c n.act W)
  have htx := h.tx
  have e59 : (ByteArray.mk #[59]).size = 1 := rfl
  have e44 : (ByteArray.mk #[44]).size = 1 := rfl
  by_cases h11 : n.act = 11
  · have HE := hide (show lnTx n = n.tx ++ ⟨#[59]⟩ by rw [lnTx, if_pos h11, if_neg (by omega), ba_nil, ba_nil])
    rw [HE.out]
    obtain ⟨tx, act, nx, ny, nw, ck, cn, ch, kd, yes, nno⟩ := n
    dsimp only at *
    subst h11
    clear h HE
    go_enter Tryz.func55, Tryz.ntmps55
    go_wp2_with (go_at_call 99; refine (HT.out _).mono ?_; rintro e w' ⟨rfl, rfl⟩)
    go_ret
    exact ⟨rfl, by (repeat' (first | with_reducible exact Kp.refl _ _ | with_reducible refine Kp.alloc ?_ _ | with_reducible refine Kp.drewN ?_ _ | with_reducible refine Kp.drew ?_ | with_reducible refine Kp.setCell ?_ _ ?_ | (intro hh; first | rfl | exact .inl rfl | exact .inr rfl | (exfalso; (try dsimp only at hh); omega))))⟩
  · obtain ⟨y1, y2⟩ := h.yes h11
    obtain ⟨yn, hyn⟩ := Int.eq_ofNat_of_zero_le y1
    by_cases ht : n.act = 12 ∨ n.act = 13
    · obtain ⟨o1, o2⟩ := h.no ht
      obtain ⟨on, hon⟩ := Int.eq_ofNat_of_zero_le o1
      have HE := hide (show lnTx n = n.tx ++ (⟨#[44]⟩ ++ twoB yn) ++ (⟨#[44]⟩ ++ twoB on) ++ ⟨#[59]⟩ by rw [lnTx, if_neg h11, if_pos ht, hyn, hon, Int.toNat_natCast, Int.toNat_natCast])
      rw [HE.out]
      rw [decide_eq_true ht] at HT
      have HY := hide (fun W => ntwo_c yn W (by omega))
      have HO := hide (fun W => ntwo_c on W (by omega))
      have s1 := twoB_size yn
      have s2 := twoB_size on
      have g11 : (n.act == 11) = false := by simpa using h11
      have g11' : (n.act != 11) = true := by simpa using h11
      obtain ⟨tx, act, nx, ny, nw, ck, cn, ch, kd, yes, nno⟩ := n
      dsimp only at *
      subst hyn hon
      clear h HE ht h11
      generalize twoB yn = ty at *
      generalize twoB on = to at *
      go_enter Tryz.func55, Tryz.ntmps55
      go_wp2_with fail
      refine (HY.out _).mono ?_
      rintro e w1 ⟨rfl, k1⟩
      have hN1 : Blk w1 w.heap.size [.string tx, .int .i64 act, .int .i64 nx, .int .i64 ny, .int .i64 nw, .int .i64 ck, .int .i64 cn, .int .i64 ch, .int .i64 kd, .int .i64 yn, .int .i64 on] 91 := k1.blk (by (repeat' (first | ((with_reducible show (_ : List Value) = _); rfl) | ((with_reducible refine Blk.newAt _ _ _ ?_); first | with_reducible rfl | (simp; done)) | with_reducible refine Blk.alloc ?_ _ | with_reducible refine Blk.drewN ?_ _ | with_reducible refine Blk.drew ?_ | ((with_reducible refine Blk.other ?_ _ ?_); rotate_left; ((try dsimp only); omega)) | with_reducible refine Blk.setB (cs0 := ?_) ?_ ?_))) no_elim
      have HK1 := hide (show Kp no w w1 from Kp.trans (by (repeat' (first | with_reducible exact Kp.refl _ _ | with_reducible refine Kp.alloc ?_ _ | with_reducible refine Kp.drewN ?_ _ | with_reducible refine Kp.drew ?_ | with_reducible refine Kp.setCell ?_ _ ?_ | (intro hh; first | rfl | exact .inl rfl | exact .inr rfl | (exfalso; (try dsimp only at hh); omega))))) k1 (fun _ _ e => e))
      obtain ⟨n0, n1, n2, n3, n4, n5, n6, n7, n8, n9, n10, nf⟩ := hN1.c11; have hnl := hN1.lt
      clear k1
      go_wp2_with fail
      refine (HT.out _).mono ?_
      rintro e w' ⟨rfl, rfl⟩
      go_wp2_with fail
      refine (HO.out _).mono ?_
      rintro e w2 ⟨rfl, k2⟩
      go_wp2
      go_ret
      exact ⟨rfl, HK1.out.trans k2 (fun _ _ e => e)⟩
    · have HE := hide (show lnTx n = n.tx ++ (⟨#[44]⟩ ++ twoB yn) ++ ⟨#[59]⟩ by rw [lnTx, if_neg h11, if_neg ht, hyn, Int.toNat_natCast, ba_nil])
      rw [HE.out]
      rw [decide_eq_false ht] at HT
      have HY := hide (fun W => ntwo_c yn W (by omega))
      have s1 := twoB_size yn
      have g11 : (n.act == 11) = false := by simpa using h11
      have g11' : (n.act != 11) = true := by simpa using h11
      obtain ⟨tx, act, nx, ny, nw, ck, cn, ch, kd, yes, nno⟩ := n
      dsimp only at *
      subst hyn
      clear h HE ht h11
      generalize twoB yn = ty at *
      go_enter Tryz.func55, Tryz.ntmps55
      go_wp2_with fail
      refine (HY.out _).mono ?_
      rintro e w1 ⟨rfl, k1⟩
      have hN1 : Blk w1 w.heap.size [.string tx, .int .i64 act, .int .i64 nx, .int .i64 ny, .int .i64 nw, .int .i64 ck, .int .i64 cn, .int .i64 ch, .int .i64 kd, .int .i64 yn, .int .i64 nno] 91 := k1.blk (by (repeat' (first | ((with_reducible show (_ : List Value) = _); rfl) | ((with_reducible refine Blk.newAt _ _ _ ?_); first | with_reducible rfl | (simp; done)) | with_reducible refine Blk.alloc ?_ _ | with_reducible refine Blk.drewN ?_ _ | with_reducible refine Blk.drew ?_ | ((with_reducible refine Blk.other ?_ _ ?_); rotate_left; ((try dsimp only); omega)) | with_reducible refine Blk.setB (cs0 := ?_) ?_ ?_))) no_elim
      have HK1 := hide (show Kp no w w1 from Kp.trans (by (repeat' (first | with_reducible exact Kp.refl _ _ | with_reducible refine Kp.alloc ?_ _ | with_reducible refine Kp.drewN ?_ _ | with_reducible refine Kp.drew ?_ | with_reducible refine Kp.setCell ?_ _ ?_ | (intro hh; first | rfl | exact .inl rfl | exact .inr rfl | (exfalso; (try dsimp only at hh); omega))))) k1 (fun _ _ e => e))
      obtain ⟨n0, n1, n2, n3, n4, n5, n6, n7, n8, n9, n10, nf⟩ := hN1.c11; have hnl := hN1.lt
      clear k1
      go_wp2_with fail
      refine (HT.out _).mono ?_
      rintro e w' ⟨rfl, rfl⟩
      go_wp2
      go_ret
      exact ⟨rfl, HK1.out⟩

def graT (L : List NN) : ByteArray := L.foldl (fun a n => a ++ lnTx n) ⟨#[]⟩

theorem graT_take (L : List NN) (j : Nat) (n : NN) (h : L[j]? = some n) : graT (L.take (j + 1)) = graT (L.take j) ++ lnTx n := by
  obtain ⟨hj, rfl⟩ := List.getElem?_eq_some_iff.1 h
  rw [List.take_succ_eq_append_getElem hj]
  unfold graT
  rw [List.foldl_append]
  rfl

theorem graT_size {L : List NN} (h : ∀ n ∈ L, Ln n) : (graT L).size ≤ 1007 * L.length := by
  have key : ∀ (L : List NN) (a : ByteArray), (∀ n ∈ L, Ln n) → (L.foldl (fun a n => a ++ lnTx n) a).size ≤ a.size + 1007 * L.length := by
    intro L
    induction L with
    | nil => intro a _; simp
    | cons n L ih =>
      intro a h
      have h1 := ih (a ++ lnTx n) (fun z hz => h z (List.mem_cons_of_mem _ hz))
      have h2 := lnTx_size (h n (List.mem_cons_self ..))
      rw [ByteArray.size_append] at h1
      rw [List.foldl_cons, List.length_cons]
      omega
  have := key L ⟨#[]⟩ h
  rw [show (ByteArray.mk #[]).size = 0 from rfl, Nat.zero_add] at this
  exact this

set_option maxRecDepth 100000 in
set_option maxHeartbeats 1600000 in
theorem graphText_c (v : Value) (L : List NN) (w : World) (h : NRow w v L) (hl : L.length ≤ 100) (hL : ∀ n ∈ L, Ln n) :
    Calls Tryz.prog 31 #[v] w fun e w' => e = .returned (.string (graT L)) ∧ Kp no w w' := by
  obtain ⟨a, cap, rfl⟩ := h.shape
  have HD := hide h
  clear h
  go_enter Tryz.func31, Tryz.ntmps31
  go_wp2
  go_loopg [3, 9] L.length (fun k tv iv wr => ∃ j : Nat, j ≤ L.length ∧ k = L.length - j ∧ iv = .int .i64 j ∧ tv = .string (graT (L.take j)) ∧ Kp no w wr)
  case atStart => exact ⟨0, Nat.zero_le _, rfl, rfl, rfl, Kp.refl _ _⟩
  case round =>
    obtain ⟨j, hj, hk, rfl, rfl, kr⟩ := hrel
    have HKK := hide hk
    have HKR := hide kr
    clear hk kr
    by_cases hlt : j < L.length
    · obtain ⟨nd, hnd⟩ : ∃ nd, L[j]? = some nd := ⟨_, List.getElem?_eq_getElem hlt⟩
      have HLN := hide (hL nd (List.mem_of_getElem? hnd))
      obtain ⟨_, gn, ha, hgn, n0, n1, n2, n3, n4, n5, n6, n7, n8, n9, n10⟩ := NRow.at (HKR.out.row HD.out (fun _ _ => no_elim)) hnd
      subst ha
      have HT := hide (graT_take L j nd hnd)
      have hsz : (graT (L.take j)).size ≤ 100700 := Nat.le_trans (graT_size (fun n hn => hL n (List.mem_of_mem_take hn))) (by rw [List.length_take]; omega)
      have hs2 := lnTx_size HLN.out
      have HC := hide (fun W => lineText_c nd W HLN.out)
      have hjI : (j : Int) < L.length := by omega
      generalize graT (L.take j) = acc at *
      generalize lnTx nd = ln at *
      clear hnd
      obtain ⟨tx, act, nx, ny, nw, ck, cn, ch, kd, yes, nno⟩ := nd
      dsimp only at *
      go_wp2_with fail
      refine (HC.out _).mono ?_
      rintro e w5 ⟨rfl, k5⟩
      go_wp2
      go_roundg (L.length - (j + 1))
      case measure => have := HKK.out; omega
      case rel => exact ⟨j + 1, by omega, rfl, by go_num, by rw [HT.out], (HKR.out.alloc _).trans k5 (fun _ _ e => e)⟩
    · obtain rfl : j = L.length := by omega
      rw [List.take_length]
      go_wp2
      go_ret
      exact ⟨rfl, HKR.out⟩
end Go.Proofs.YtellieabhaphhaaGreatDoor

/-
  narrow.Prune.
-/
namespace Go.Proofs.YtellieabhaphhaaGreatDoor
open Go.RowKit

theorem ext_size {s : ByteArray} {n : Nd} (hs : s.size ≤ 900) : (s.extract n.a.toNat (n.a + n.l).toNat).size ≤ 1000 := by
  rw [ByteArray.size_extract]; omega

theorem lwN_tx {n : NN} (y o : St) (en : Int) (h : n.tx.size ≤ 1000) : (lwN n y o en).tx.size ≤ 1000 := by
  unfold lwN
  repeat' split
  · exact h
  · show (ByteArray.mk #[42]).size ≤ 1000; decide
  · show (ByteArray.mk #[42]).size ≤ 1000; decide
  · exact h

theorem kpN_ln {s : ByteArray} {T : Tbl} {n : Nd} (S : St) (hs : s.size ≤ 900) (hT : T.length ≤ 90) : Ln (kpN s T n S) := by
  have h1 := cnt_le T (lwN (encX s n) (algF n true S) (algF n false S) T.length).yes.toNat
  have h2 := cnt_le T (lwN (encX s n) (algF n true S) (algF n false S) T.length).no.toNat
  refine ⟨lwN_tx _ _ _ (ext_size hs), fun _ => ?_, fun _ => ?_⟩
  · show 0 ≤ ((cntF T _ : Nat) : Int) ∧ ((cntF T _ : Nat) : Int) < 100; omega
  · show 0 ≤ ((cntF T _ : Nat) : Int) ∧ ((cntF T _ : Nat) : Int) < 100; omega

theorem kpL_ln {s : ByteArray} {T : Tbl} {l : List Nd} (hs : s.size ≤ 900) (hT : T.length ≤ 90) : ∀ j, ∀ n ∈ kpL s T l j, Ln n
  | 0, n, hn => by simp [kpL] at hn
  | j + 1, n, hn => by
    rw [kpL, List.mem_append] at hn
    rcases hn with hn | hn
    · exact kpL_ln hs hT j n hn
    · split at hn
      · split at hn
        · simp at hn
        · obtain rfl : n = _ := by simpa using hn
          exact kpN_ln _ hs hT
      · simp at hn

set_option maxHeartbeats 1600000 in
theorem nprune_long (s : ByteArray) (w : World) (hm : s.size ≤ maxLen) (hs : 900 < s.size) :
    Calls Tryz.prog 34 #[.string s] w fun e w' => e = em2 1 ∧ Kp no w w' := by
  have HS := hide (nog_long s w hm hs)
  go_enter Tryz.func34, Tryz.ntmps34
  go_wp2_with fail
  refine HS.out.mono ?_
  rintro e w1 ⟨rfl, k1⟩
  go_wp2
  go_ret2
  exact ⟨rfl, k1⟩

set_option maxHeartbeats 1600000 in
theorem nprune_bad (s : ByteArray) (w : World) (hs : s.size ≤ 900) (hb : (graE s).1 ≠ 0) :
    Calls Tryz.prog 34 #[.string s] w fun e w' => e = em2 (graE s).1 ∧ Kp no w w' := by
  have HS := hide (nog_c s w hs)
  have hb' : (((graE s).1 : Int) == 0) = false := by simp; omega
  unfold NogPost at HS
  generalize graE s = ge at *
  obtain ⟨ge1, ge2⟩ := ge
  dsimp only at *
  clear hb
  go_enter Tryz.func34, Tryz.ntmps34
  go_wp2_with fail
  refine HS.out.mono ?_
  rintro e w1 ⟨v, rfl, k1, _⟩
  go_wp2
  go_ret2
  exact ⟨rfl, k1⟩

set_option maxHeartbeats 1600000 in
theorem nprune_good (s : ByteArray) (w : World) (hs : s.size ≤ 900) (hb : graE s = (0, 0)) :
    Calls Tryz.prog 34 #[.string s] w fun e w' => e = .returned (.tuple #[.string (graT (kpL s (lstF (graF s).nodes) (graF s).nodes (graF s).nodes.length)), .int .i64 0]) ∧ Kp no w w' := by
  have HS := hide (nog_c s w hs)
  have hlen := (graF_inv s).2
  unfold NogPost at HS
  rw [hb] at HS
  clear hb
  generalize graF s = st at *
  go_enter Tryz.func34, Tryz.ntmps34
  go_wp2_with fail
  refine HS.out.mono ?_
  rintro e w2 ⟨v, rfl, k2, hpost⟩
  obtain ⟨hR, hO, hgd⟩ := hpost trivial
  have HL := hide (leastTable_c s v st.nodes w2 hR hlen hgd)
  have HPN := hide (fun tb W (hW : NRow W v (st.nodes.map (encX s))) hB => prunedNodes_c s v st.nodes tb (lstF st.nodes) W hW hB (lst_len _) (lst_ok _) hlen hgd)
  have HGT := hide (fun u W hW => graphText_c u (kpL s (lstF st.nodes) st.nodes st.nodes.length) W hW (Nat.le_trans (kpL_len _ _ _ _) (by omega)) (kpL_ln hs (by rw [lst_len]; exact hlen) _))
  have HRR := hide hR
  obtain ⟨a, cap, rfl⟩ := hR.shape
  rw [List.length_map] at HL HPN HRR ⊢
  clear hO hgd hpost HS hR
  go_wp2_with fail
  refine HL.out.mono ?_
  rintro e w3 ⟨tb, rfl, hB, k3⟩
  go_wp2_with fail
  refine (HPN.out tb _ (by exact k3.row HRR.out (fun _ _ => no_elim)) (by exact hB)).mono ?_
  rintro e w4 ⟨u, rfl, hu, k4⟩
  have HU := hide hu
  obtain ⟨ua, uc, rfl⟩ := hu.shape
  go_wp2_with fail
  refine (HGT.out _ _ (by exact HU.out)).mono ?_
  rintro e w5 ⟨rfl, k5⟩
  go_wp2
  go_ret2
  exact ⟨rfl, ((k2.trans k3 (fun _ _ e => e)).trans k4 (fun _ _ e => e)).trans k5 (fun _ _ e => e)⟩
end Go.Proofs.YtellieabhaphhaaGreatDoor

/-
  narrowref's Prune: what is left.
-/
namespace Go.Proofs.YtellieabhaphhaaGreatDoor
open Go.RowKit

/-- A node that is left, with its ways anew. -/
def prnN (g : Nat) (T : Tbl) (n : Nd) (S : St) : Nd :=
  if n.op = 121 ∨ n.op = 58 then
    (if hldF n true S ≠ [] ∧ hldF n false S ≠ [] then { n with t := (renF T n.t.toNat (hldF n true S) : Nat), f := (renF T n.f.toNat (hldF n false S) : Nat) }
    else ⟨42, 0, 0, 0, 0, if hldF n true S = [] then (renF T n.f.toNat (hldF n false S) : Nat) else (renF T n.t.toNat (hldF n true S) : Nat), -1, g, 1⟩)
  else if n.op = 33 then n else { n with t := (renF T n.t.toNat (behF n S) : Nat) }

def prnL (g : Nat) (T : Tbl) (l : List Nd) : Nat → List Nd
  | 0 => []
  | j + 1 => prnL g T l j ++ (match l[j]? with | some n => if T.getD j [] = [] then [] else [prnN g T n (T.getD j [])] | none => [])

theorem prnL_len (g : Nat) (T : Tbl) (l : List Nd) : ∀ j, (prnL g T l j).length ≤ j
  | 0 => Nat.le_refl _
  | j + 1 => by
    have := prnL_len g T l j
    rw [prnL, List.length_append]
    have h2 : (match l[j]? with | some n => if T.getD j [] = [] then [] else [prnN g T n (T.getD j [])] | none => ([] : List Nd)).length ≤ 1 := by
      split
      · split <;> simp
      · simp
    omega
end Go.Proofs.YtellieabhaphhaaGreatDoor

/-
  Plain: what narrow writes of a pruned graph is what the answer writes.
-/
namespace Go.Proofs.YtellieabhaphhaaGreatDoor
open Go.RowKit

theorem ext_app {s t : ByteArray} {a b : Nat} (h : b ≤ s.size) : (s ++ t).extract a b = s.extract a b := by
  apply ByteArray.ext
  rw [ByteArray.data_extract, ByteArray.data_extract, ByteArray.data_append]
  have hb : b ≤ s.data.size := h
  apply Array.ext'
  simp only [Array.toList_extract, Array.toList_append, List.extract_eq_take_drop]
  rw [List.drop_append, List.take_append]
  simp
  omega

theorem ext_star (s : ByteArray) : (s ++ ⟨#[42]⟩).extract s.size (s.size + 1) = ⟨#[42]⟩ := by
  apply ByteArray.ext
  rw [ByteArray.data_extract, ByteArray.data_append]
  have hs : s.size = s.data.size := rfl
  rw [hs]
  apply Array.ext'
  simp

theorem wayB_nat (k : Nat) : wayB ((k : Nat) : Int) = ⟨#[44]⟩ ++ twoB k := by rw [wayB, if_pos (Int.natCast_nonneg k), Int.toNat_natCast]
theorem wayB_neg : wayB (-1) = ⟨#[]⟩ := rfl

theorem actN_test {op : Int} (h : opOk op) : (actN op = 12 ∨ actN op = 13) ↔ (op = 121 ∨ op = 58) := by
  unfold opOk at h
  rcases h with rfl | rfl | rfl | rfl | rfl | rfl | rfl | rfl | rfl | rfl | rfl | rfl | rfl | rfl | rfl | rfl | rfl | rfl <;> decide
theorem actN_never {op : Int} (h : opOk op) : (actN op = 11) ↔ (op = 33) := by
  unfold opOk at h
  rcases h with rfl | rfl | rfl | rfl | rfl | rfl | rfl | rfl | rfl | rfl | rfl | rfl | rfl | rfl | rfl | rfl | rfl | rfl <;> decide

theorem idl_ln (k c d : Int) : lnTx { idlN k with yes := c, no := d } = (⟨#[42]⟩ : ByteArray) ++ (⟨#[44]⟩ ++ twoB c.toNat) ++ ⟨#[59]⟩ := by
  show (⟨#[42]⟩ : ByteArray) ++ (⟨#[44]⟩ ++ twoB c.toNat) ++ ⟨#[]⟩ ++ ⟨#[59]⟩ = _
  rw [ba_nil]

theorem node_text {s : ByteArray} {n : Nd} (h : Gd s n) : (s ++ ⟨#[42]⟩).extract n.a.toNat (n.a + n.l).toNat = s.extract n.a.toNat (n.a + n.l).toNat :=
  ext_app (by have := h.al; omega)

theorem way_all {n : Nd} (hg : Gn n) (ht : n.op = 121 ∨ n.op = 58) : wayM n true ||| wayM n false = 127 := by
  rcases ht with e | e
  · rw [show wayM n true = 115 by rw [wayM, e]; rfl, show wayM n false = 13 by rw [wayM, e]; rfl]; rfl
  · have hk := hg.kd (.inl e)
    rw [wayM, wayM, e]
    unfold KOk at hk
    rcases hk with h | h | h | h | h | h | h <;> rw [h] <;> rfl

/-- One way of a test is left. -/
theorem one_way {n : Nd} {S : St} (hg : Gn n) (hF : Ful S) (ht : n.op = 121 ∨ n.op = 58) (h1 : hldF n true S = []) (h2 : hldF n false S = []) : False := by
  have hy6 : n.y.toNat < 6 := by have := hg.y; omega
  have key : ∀ b, hldF n b S = [] → S.getD n.y.toNat 0 &&& wayM n b = 0 := by
    intro b h
    rw [hldF, withS] at h
    split at h
    · rename_i hc; exact hc.resolve_left hF.nil
    · rename_i hc
      exfalso
      have := congrArg List.length h
      rw [List.length_set, hF.z.len] at this
      cases this
  have e := Nat.and_or_distrib_left (S.getD n.y.toNat 0) (wayM n true) (wayM n false)
  rw [key true h1, key false h2, way_all hg ht, and_127 (hF.z.get _)] at e
  exact hF.ne _ hy6 e

/-- One node. -/
theorem kp_line {s : ByteArray} {T : Tbl} {n : Nd} {S : St} (h : Gd s n) (hF : Ful S) : lnTx (kpN s T n S) = linB (s ++ ⟨#[42]⟩) (prnN s.size T n S) := by
  have hop := h.g.op
  have ht12 := actN_test hop
  have ht11 := actN_never hop
  have hx := node_text h
  by_cases ht : n.op = 121 ∨ n.op = 58
  · have hA : algF n true S = hldF n true S := by rw [algF, if_pos ht]
    have hB : algF n false S = hldF n false S := by rw [algF, if_pos ht]
    have hyes : yesN n = n.t := by rw [yesN, if_neg (by omega)]
    have hno : noN n = n.f := by rw [noN, if_pos ht]
    have hone := one_way h.g hF ht
    unfold kpN prnN
    rw [hA, hB, if_pos ht]
    generalize hldF n true S = A at *
    generalize hldF n false S = B at *
    by_cases h1 : A = []
    · have h2 : B ≠ [] := fun e => hone h1 e
      have hl : lwN (encX s n) A B T.length = idlN n.f := by
        rw [lwN, if_neg (fun e => e.1 h1), if_neg (fun e => e h1), if_pos h2]
        show idlN (noN n) = _
        rw [hno]
      rw [hl, if_neg (fun e => e.1 h1), if_pos h1, idl_ln, Int.toNat_natCast]
      show _ = (s ++ ⟨#[42]⟩).extract (s.size : Int).toNat ((s.size : Int) + 1).toNat ++ wayB ((renF T n.f.toNat B : Nat) : Int) ++ wayB (-1) ++ ⟨#[59]⟩
      rw [show ((s.size : Int) + 1).toNat = s.size + 1 by omega, Int.toNat_natCast, ext_star, wayB_nat, wayB_neg, ba_nil, renF, if_neg h2]
      rfl
    · by_cases h2 : B = []
      · have hl : lwN (encX s n) A B T.length = idlN n.t := by
          rw [lwN, if_neg (fun e => e.2 h2), if_pos h1]
          show idlN (yesN n) = _
          rw [hyes]
        rw [hl, if_neg (fun e => e.2 h2), if_neg h1, idl_ln, Int.toNat_natCast]
        show _ = (s ++ ⟨#[42]⟩).extract (s.size : Int).toNat ((s.size : Int) + 1).toNat ++ wayB ((renF T n.t.toNat A : Nat) : Int) ++ wayB (-1) ++ ⟨#[59]⟩
        rw [show ((s.size : Int) + 1).toNat = s.size + 1 by omega, Int.toNat_natCast, ext_star, wayB_nat, wayB_neg, ba_nil, renF, if_neg h1]
        rfl
      · have hl : lwN (encX s n) A B T.length = encX s n := by rw [lwN, if_pos ⟨h1, h2⟩]
        rw [hl, if_pos ⟨h1, h2⟩, lnTx]
        show s.extract n.a.toNat (n.a + n.l).toNat ++ (if actN n.op = 11 then ⟨#[]⟩ else ⟨#[44]⟩ ++ twoB ((cntF T (yesN n).toNat : Nat) : Int).toNat) ++ (if actN n.op = 12 ∨ actN n.op = 13 then ⟨#[44]⟩ ++ twoB ((cntF T (noN n).toNat : Nat) : Int).toNat else ⟨#[]⟩) ++ ⟨#[59]⟩ = (s ++ ⟨#[42]⟩).extract n.a.toNat (n.a + n.l).toNat ++ wayB ((renF T n.t.toNat A : Nat) : Int) ++ wayB ((renF T n.f.toNat B : Nat) : Int) ++ ⟨#[59]⟩
        rw [if_neg (fun e => by have := ht11.1 e; omega), if_pos (ht12.2 ht), hx, wayB_nat, wayB_nat, renF, renF, if_neg h1, if_neg h2, hyes, hno, Int.toNat_natCast, Int.toNat_natCast]
  · have hA : algF n true S = behF n S := by rw [algF, if_neg ht]
    have hB : algF n false S = behF n S := by rw [algF, if_neg ht]
    have hf := h.g.f ht
    unfold kpN prnN
    rw [hA, hB, if_neg ht]
    by_cases h33 : n.op = 33
    · have hb : behF n S = [] := by rw [behF, if_pos h33]
      have hl : lwN (encX s n) [] [] T.length = { encX s n with yes := T.length, no := T.length } := by rw [lwN, if_neg (fun e => e.1 rfl), if_neg (fun e => e rfl), if_neg (fun e => e rfl)]
      rw [hb, hl, if_pos h33, lnTx]
      show s.extract n.a.toNat (n.a + n.l).toNat ++ (if actN n.op = 11 then ⟨#[]⟩ else _) ++ (if actN n.op = 12 ∨ actN n.op = 13 then _ else ⟨#[]⟩) ++ ⟨#[59]⟩ = (s ++ ⟨#[42]⟩).extract n.a.toNat (n.a + n.l).toNat ++ wayB n.t ++ wayB n.f ++ ⟨#[59]⟩
      rw [if_pos (ht11.2 h33), if_neg (fun e => ht (ht12.1 e)), hx, h.t3 h33, hf, wayB_neg]
    · have hyes : yesN n = n.t := by rw [yesN, if_neg h33]
      rw [if_neg h33]
      generalize behF n S = A at *
      by_cases h1 : A = []
      · have hl : lwN (encX s n) A A T.length = { encX s n with yes := T.length, no := T.length } := by rw [lwN, if_neg (fun e => e.1 h1), if_neg (fun e => e h1), if_neg (fun e => e h1)]
        rw [hl, lnTx]
        show s.extract n.a.toNat (n.a + n.l).toNat ++ (if actN n.op = 11 then ⟨#[]⟩ else ⟨#[44]⟩ ++ twoB ((cntF T ((T.length : Nat) : Int).toNat : Nat) : Int).toNat) ++ (if actN n.op = 12 ∨ actN n.op = 13 then _ else ⟨#[]⟩) ++ ⟨#[59]⟩ = (s ++ ⟨#[42]⟩).extract n.a.toNat (n.a + n.l).toNat ++ wayB ((renF T n.t.toNat A : Nat) : Int) ++ wayB n.f ++ ⟨#[59]⟩
        rw [if_neg (fun e => h33 (ht11.1 e)), if_neg (fun e => ht (ht12.1 e)), hx, hf, wayB_nat, wayB_neg, renF, if_pos h1, Int.toNat_natCast, Int.toNat_natCast]
      · have hl : lwN (encX s n) A A T.length = encX s n := by rw [lwN, if_pos ⟨h1, h1⟩]
        rw [hl, lnTx]
        show s.extract n.a.toNat (n.a + n.l).toNat ++ (if actN n.op = 11 then ⟨#[]⟩ else ⟨#[44]⟩ ++ twoB ((cntF T (yesN n).toNat : Nat) : Int).toNat) ++ (if actN n.op = 12 ∨ actN n.op = 13 then _ else ⟨#[]⟩) ++ ⟨#[59]⟩ = (s ++ ⟨#[42]⟩).extract n.a.toNat (n.a + n.l).toNat ++ wayB ((renF T n.t.toNat A : Nat) : Int) ++ wayB n.f ++ ⟨#[59]⟩
        rw [if_neg (fun e => h33 (ht11.1 e)), if_neg (fun e => ht (ht12.1 e)), hx, hf, wayB_nat, wayB_neg, renF, if_neg h1, hyes, Int.toNat_natCast]

/-- What both write of a pruned graph. -/
theorem prune_text {s : ByteArray} {T : Tbl} {l : List Nd} (hT : TOk T) (hg : ∀ n ∈ l, Gd s n) : ∀ j, graT (kpL s T l j) = wriF (s ++ ⟨#[42]⟩) (prnL s.size T l j)
  | 0 => rfl
  | j + 1 => by
    have ih := prune_text hT hg j
    rw [kpL, prnL]
    cases hn : l[j]? with
    | none => rw [List.append_nil, List.append_nil]; exact ih
    | some n =>
      dsimp only
      by_cases h0 : T.getD j [] = []
      · rw [if_pos h0, if_pos h0, List.append_nil, List.append_nil]; exact ih
      · rw [if_neg h0, if_neg h0, graT, List.foldl_append, ← graT, wriF, List.foldl_append, ← wriF, ih]
        show _ ++ lnTx _ = _ ++ linB _ _
        rw [kp_line (hg n (List.mem_of_getElem? hn)) ((hT.get j).ful h0)]
end Go.Proofs.YtellieabhaphhaaGreatDoor

/-
  narrowref's Prune.
-/
namespace Go.Proofs.YtellieabhaphhaaGreatDoor
open Go.RowKit

theorem TV.kp {w w' : World} {v : Value} {T : Tbl} (h : TV w v T) (k : Kp no w w') : TV w' v T := by
  obtain ⟨tb, cap, rfl, htb, hat⟩ := h
  refine ⟨tb, cap, rfl, Nat.lt_of_lt_of_le htb k.size, fun i hi => ?_⟩
  obtain ⟨a, c, h1, h2⟩ := hat i hi
  exact ⟨a, c, (k.cell htb no_elim i).trans h1, k.row h2 (fun _ _ => no_elim)⟩

/-- The nodes that are left so far. -/
structure LB (w0 w : World) (v : Value) (l : List Nd) : Prop where
  r : DRow w v l
  o : New w0 v

theorem LB.kp {w0 w w' : World} {v : Value} {l : List Nd} (h : LB w0 w v l) (k : Kp no w w') : LB w0 w' v l := ⟨k.row h.r (fun _ _ => no_elim), h.o⟩
theorem LB.set {w0 w : World} {v : Value} {l : List Nd} (h : LB w0 w v l) {b o : Nat} (u : Value) (hb : v.ownBlock ≠ some b) : LB w0 (w.setCell ⟨b, o, none⟩ u) v l := ⟨Row.set h.r _ hb, h.o⟩

theorem ncells_snoc {l : List Nd} {n : Nd} : nCells (l ++ [n]) = nCells l ++ n.cells := by
  rw [nCells, List.flatMap_append, ← nCells, List.flatMap_cons, List.flatMap_nil, List.append_nil]

theorem drow_snoc {W' : World} {l : List Nd} {n : Nd} {g cap : Nat}
    (hown : W'.ownsRow 0 63 9 (.slice (some ⟨g, 0, none⟩) (l.length + 1) cap) (l.length + 1) (nCells l ++ n.cells)) : DRow W' (.slice (some ⟨g, 0, none⟩) (l.length + 1) cap) (l ++ [n]) := by
  have e4 : (l ++ [n]).length = l.length + 1 := List.length_append
  show World.ownsRow W' 0 63 9 _ (l ++ [n]).length (nCells (l ++ [n]))
  rw [ncells_snoc, e4]
  exact hown

/-- A node is appended. -/
theorem LB.app {w0 W W' : World} {v : Value} {l : List Nd} {o : Obj} {g cap : Nat} (n : Nd) (h : LB w0 W v l) (hk : Kp no w0 W)
    (hown : W'.ownsRow 0 63 9 (.slice (some ⟨g, 0, none⟩) (l.length + 1) cap) (l.length + 1) (nCells l ++ n.cells)) (hgrow : (W.alloc o).grownBy W' v.ownBlock) (hat : v.ownBlock = some g ∨ g = (W.alloc o).heap.size) :
    LB w0 W' (.slice (some ⟨g, 0, none⟩) (l.length + 1) cap) (l ++ [n]) ∧ Kp no w0 W' :=
  ⟨⟨drow_snoc hown, (app_step h.o hk hgrow hat (l.length + 1) cap).1⟩, (app_step h.o hk hgrow hat (l.length + 1) cap).2⟩

theorem prnN_wn {s : ByteArray} {T : Tbl} {n : Nd} (S : St) (h : Gd s n) (hs : s.size ≤ 900) (hT : T.length ≤ 90) : Wn (s ++ ⟨#[42]⟩) (prnN s.size T n S) := by
  have hsz : (s ++ (⟨#[42]⟩ : ByteArray)).size = s.size + 1 := by rw [ByteArray.size_append]; rfl
  have hr : ∀ i s', renF T i s' ≤ 90 := fun i s' => by
    unfold renF; split
    · exact Nat.le_trans (cnt_le T _) hT
    · exact Nat.le_trans (cnt_le T _) hT
  have h1 := h.a
  have h2 := h.l
  have h3 := h.al
  have htf := h.tf
  unfold prnN
  repeat' split
  · have a1 := hr n.t.toNat (hldF n true S); have a2 := hr n.f.toNat (hldF n false S)
    exact ⟨h1, by dsimp only; omega, by rw [hsz]; dsimp only; omega, by dsimp only; omega, by dsimp only; omega⟩
  · have a2 := hr n.f.toNat (hldF n false S)
    exact ⟨by dsimp only; omega, by dsimp only; omega, by rw [hsz]; dsimp only; omega, by dsimp only; omega, by dsimp only; omega⟩
  · have a1 := hr n.t.toNat (hldF n true S)
    exact ⟨by dsimp only; omega, by dsimp only; omega, by rw [hsz]; dsimp only; omega, by dsimp only; omega, by dsimp only; omega⟩
  · rename_i ht h33
    have := h.t3 h33; have := h.g.f ht
    exact ⟨h1, by omega, by rw [hsz]; omega, by omega, by omega⟩
  · rename_i ht h33
    have a1 := hr n.t.toNat (behF n S); have := h.g.f ht
    exact ⟨h1, by dsimp only; omega, by rw [hsz]; dsimp only; omega, by dsimp only; omega, by dsimp only; omega⟩

theorem prnL_wn {s : ByteArray} {T : Tbl} {l : List Nd} (hg : ∀ n ∈ l, Gd s n) (hs : s.size ≤ 900) (hT : T.length ≤ 90) : ∀ j, ∀ n ∈ prnL s.size T l j, Wn (s ++ ⟨#[42]⟩) n
  | 0, n, hn => by simp [prnL] at hn
  | j + 1, n, hn => by
    rw [prnL, List.mem_append] at hn
    rcases hn with hn | hn
    · exact prnL_wn hg hs hT j n hn
    · split at hn
      · rename_i m hm
        split at hn
        · simp at hn
        · obtain rfl : n = _ := by simpa using hn
          exact prnN_wn _ (hg m (List.mem_of_getElem? hm)) hs hT
      · simp at hn

theorem buildStar (x sz : Int) (w : World) : (Instr.build 63 #[(0, .int .u8 42), (7, .int .i64 sz), (8, .int .i64 1), (5, .int .i64 x), (6, .int .i64 (-1))]).run Tryz.prog w = .ok (.agg #[.int .u8 42, .int .i64 0, .int .i64 0, .int .i64 0, .int .u8 0, .int .i64 x, .int .i64 (-1), .int .i64 sz, .int .i64 1]) w := run_build w 63 _ _ (by kernel_rfl)

set_option maxRecDepth 100000 in
set_option maxHeartbeats 3200000 in
theorem rprune_good (s : ByteArray) (w : World) (hs : s.size ≤ 900) (hb : graE s = (0, 0)) (hg : ∀ n ∈ (graF s).nodes, Gd s n) :
    Calls Tryz.prog 52 #[.string s] w fun e w' => e = .returned (.tuple #[.string (wriF (s ++ ⟨#[42]⟩) (prnL s.size (lstF (graF s).nodes) (graF s).nodes (graF s).nodes.length)), .int .i64 0]) ∧ Kp no w w' := by
  have HS := hide (lines_c s w hs)
  have hlen := (graF_inv s).2
  unfold LinPost at HS
  rw [hb] at HS
  clear hb
  generalize graF s = st at *
  obtain ⟨i0, hi, hz0, hz1, hz2⟩ := info_parts info_node
  go_enter Tryz.func52, Tryz.ntmps52
  go_wp2_with fail
  refine HS.out.mono ?_
  rintro e w1 ⟨r, O, rfl, hr, k1, hO⟩
  obtain ⟨a, cap, n3, hD, hrl⟩ := rp_drow hr
  have HD := hide hD
  have HN3 := hide n3
  clear hr hO hD HS
  go_wp2_with fail
  refine (least_c _ st.nodes _ HD.out hlen (fun n hn => (hg n hn).g)).mono ?_
  rintro e w2 ⟨u, rfl, hu, k2⟩
  have HTV := hide hu
  obtain ⟨tb, c2, rfl, htb, hat⟩ := hu
  rw [lst_len] at HTV hat ⊢
  have HAT := hide hat
  have HD2 := hide (k2.row HD.out (fun _ _ => no_elim))
  have HN2 := hide ((k2.cell hrl no_elim 3).trans HN3.out)
  have hr2 := Nat.lt_of_lt_of_le hrl k2.size
  have HKW := hide (k1.trans k2 (fun _ _ e => e))
  have HOK := hide (lst_ok st.nodes)
  have HLE := hide (lst_len st.nodes)
  clear hat k1 k2 HD HN3 n3 hrl
  generalize hT0 : lstF st.nodes = T at *
  have HT0 := hide hT0
  clear hT0
  generalize hl0 : st.nodes = l at *
  have HL0 := hide hl0
  clear hl0
  go_wp2
  go_loopg [8, 9] l.length (fun k lv iv wr => ∃ j : Nat, j ≤ l.length ∧ k = l.length - j ∧ iv = .int .i64 j ∧ LB w2 wr lv (prnL s.size T l j) ∧ Kp no w2 wr)
  case atStart => exact ⟨0, Nat.zero_le _, rfl, rfl, ⟨⟨rfl, .inl ⟨rfl, rfl⟩⟩, New.none _⟩, Kp.refl _ _⟩
  case round =>
    obtain ⟨j, hj, hk, rfl, hLB, kr⟩ := hrel
    have HKK := hide hk
    have HLB := hide hLB
    have HKR := hide kr
    obtain ⟨la, lc, rfl⟩ := hLB.r.shape
    clear hk hLB kr
    by_cases hlt : j < l.length
    · obtain ⟨nd, hnd⟩ : ∃ nd, l[j]? = some nd := ⟨_, List.getElem?_eq_getElem hlt⟩
      have HND := hide hnd
      have HGD := hide (hg nd (List.mem_of_getElem? hnd))
      have HPL := hide (show prnL s.size T l (j + 1) = prnL s.size T l j ++ (if T.getD j [] = [] then [] else [prnN s.size T nd (T.getD j [])]) by rw [prnL, hnd])
      obtain ⟨_, gn, ha, _⟩ := DRow.at HD2.out hnd
      subst ha
      obtain ⟨a1, p1, q0w, q1w⟩ := HAT.out j (by omega)
      have HSO := hide (HOK.out.get j)
      have hpl := prnL_len s.size T l j
      clear hnd
      generalize T.getD j [] = S at *
      generalize prnL s.size T l j = P at *
      have hjI : (j : Int) < l.length := by omega
      have HQ0 := hide q0w
      have HQ1 := hide q1w
      have q0 := (HKR.out.cell htb no_elim j).trans q0w
      obtain ⟨gnl, n0, n1, n2, n3, n4, n5, n6, n7, n8⟩ := DRow.at2 (HKR.out.row HD2.out (fun _ _ => no_elim)) HND.out
      have c3 := (HKR.out.cell hr2 no_elim 3).trans HN2.out
      have htr := Nat.lt_of_lt_of_le htb HKR.out.size
      have hrr := Nat.lt_of_lt_of_le hr2 HKR.out.size
      clear q0w q1w
      have HTE := hide (fun W => ftest_c nd W)
      have HLN : Hid (Value.ownBlock (.slice la P.length lc) ≠ some wr.heap.size) := fun e => by have := Row.lt HLB.out.r e; omega
      go_wp2_with fail
      refine (HTE.out _).mono ?_
      rintro e w5 ⟨rfl, k5⟩
      have hN5 : Blk w5 wr.heap.size [.int .u8 nd.op, .int .i64 nd.x, .int .i64 nd.y, .int .i64 nd.v, .int .u8 nd.k, .int .i64 nd.t, .int .i64 nd.f, .int .i64 nd.a, .int .i64 nd.l] 63 := k5.blk (by (repeat' (first | ((with_reducible show (_ : List Value) = _); rfl) | ((with_reducible refine Blk.newAt _ _ _ ?_); first | with_reducible rfl | (simp; done)) | with_reducible refine Blk.alloc ?_ _ | with_reducible refine Blk.drewN ?_ _ | with_reducible refine Blk.drew ?_ | ((with_reducible refine Blk.other ?_ _ ?_); rotate_left; ((try dsimp only); omega)) | with_reducible refine Blk.setB (cs0 := ?_) ?_ ?_))) no_elim
      have HK5 := hide (HKR.out.trans (S' := no) (Kp.trans (by (repeat' (first | with_reducible exact Kp.refl _ _ | with_reducible refine Kp.alloc ?_ _ | with_reducible refine Kp.drewN ?_ _ | with_reducible refine Kp.drew ?_ | with_reducible refine Kp.setCell ?_ _ ?_ | (intro hh; first | rfl | exact .inl rfl | exact .inr rfl | (exfalso; (try dsimp only at hh); omega))))) k5 (fun _ _ e => e)) (fun _ _ e => e))
      have HL5 := hide (HLB.out.kp (Kp.trans (by (repeat' (first | with_reducible exact Kp.refl _ _ | with_reducible refine Kp.alloc ?_ _ | with_reducible refine Kp.drewN ?_ _ | with_reducible refine Kp.drew ?_ | with_reducible refine Kp.setCell ?_ _ ?_ | (intro hh; first | rfl | exact .inl rfl | exact .inr rfl | (exfalso; (try dsimp only at hh); omega))))) k5 (fun _ _ e => e)))
      clear k5 q0 gnl n0 n1 n2 n3 n4 n5 n6 n7 n8 c3 htr hrr
      have q0 := (HK5.out.cell htb no_elim j).trans HQ0.out
      have htr := Nat.lt_of_lt_of_le htb HK5.out.size
      obtain ⟨n0, n1, n2, n3, n4, n5, n6, n7, n8, nf⟩ := hN5.c9; have hnl := hN5.lt
      by_cases hS0 : S = []
      · rw [if_pos hS0, List.append_nil] at HPL
        subst hS0
        generalize decide (nd.op = 121 ∨ nd.op = 58) = tst at *
        cases tst
        all_goals
          go_wp2
          go_roundg (l.length - (j + 1))
          case measure => have := HKK.out; omega
          case rel => exact ⟨j + 1, by omega, rfl, by go_num, by rw [HPL.out]; exact HL5.out, HK5.out⟩
      · rw [if_neg hS0] at HPL
        have hSI : (0 : Int) < (S.length : Int) := by have := (HSO.out.resolve_left hS0).1; omega
        by_cases ht : nd.op = 121 ∨ nd.op = 58
        · obtain ⟨tn, htn⟩ := Int.eq_ofNat_of_zero_le (HGD.out.t (by omega)).1
          obtain ⟨fn, hfn⟩ := Int.eq_ofNat_of_zero_le (HGD.out.f ht).1
          have HHT := hide (fun v W hv => fholds_c nd v S true W hv HSO.out hS0 HGD.out.g ht)
          have HHF := hide (fun v W hv => fholds_c nd v S false W hv HSO.out hS0 HGD.out.g ht)
          have HOA := hide (HSO.out.hld nd true)
          have HOB := hide (HSO.out.hld nd false)
          have HPN1 := hide (fun (h1 : hldF nd true S ≠ [] ∧ hldF nd false S ≠ []) => show prnN s.size T nd S = { nd with t := (renF T tn (hldF nd true S) : Nat), f := (renF T fn (hldF nd false S) : Nat) } by rw [prnN, if_pos ht, if_pos h1, htn, hfn, Int.toNat_natCast, Int.toNat_natCast])
          have HPN2 := hide (fun (h1 : ¬ (hldF nd true S ≠ [] ∧ hldF nd false S ≠ [])) => show prnN s.size T nd S = ⟨42, 0, 0, 0, 0, if hldF nd true S = [] then (renF T fn (hldF nd false S) : Nat) else (renF T tn (hldF nd true S) : Nat), -1, s.size, 1⟩ by rw [prnN, if_pos ht, if_neg h1, htn, hfn, Int.toNat_natCast, Int.toNat_natCast])
          rw [decide_eq_true ht]
          clear ht hS0 HTE
          generalize hldF nd true S = A at *
          generalize hldF nd false S = B at *
          have HH5 := hide (And.intro hN5 HK5.out)
          obtain ⟨op, nx, ny, nv, nk, nt, nff, na, nl⟩ := nd
          dsimp only at *
          subst htn hfn
          have HH5L := HL5
          go_wp2_with fail
          go_cut [12] from 1000 (fun av W5 => SV W5 av (A) ∧ (Blk W5 wr.heap.size [.int .u8 op, .int .i64 nx, .int .i64 ny, .int .i64 nv, .int .u8 nk, .int .i64 tn, .int .i64 fn, .int .i64 na, .int .i64 nl] 63 ∧ Kp no w2 W5) ∧ LB w2 W5 (.slice la P.length lc) P)
          case first =>
            go_region_with (go_at_call 73; refine (HHT.out _ _ (Kp.row (S := no) (HH5.out.2.trans (S' := no) (by (repeat' (first | with_reducible exact Kp.refl _ _ | with_reducible refine Kp.alloc ?_ _ | with_reducible refine Kp.drewN ?_ _ | with_reducible refine Kp.drew ?_ | with_reducible refine Kp.setCell ?_ _ ?_ | (intro hh; first | rfl | exact .inl rfl | exact .inr rfl | (exfalso; (try dsimp only at hh); omega))))) (fun _ _ e => e)) HQ1.out (fun _ _ => no_elim))).mono ?_; rintro e w6 ⟨u, rfl, hu, hnew, k6⟩)
            all_goals
              go_wp2
              go_meet
              case rel =>
                have k7 : Kp no w5 w6 := Kp.trans (by (repeat' (first | with_reducible exact Kp.refl _ _ | with_reducible refine Kp.alloc ?_ _ | with_reducible refine Kp.drewN ?_ _ | with_reducible refine Kp.drew ?_ | with_reducible refine Kp.setCell ?_ _ ?_ | (intro hh; first | rfl | exact .inl rfl | exact .inr rfl | (exfalso; (try dsimp only at hh); omega))))) k6 (fun _ _ e => e)
                exact ⟨hu, ⟨(by (repeat' (first | with_reducible exact Kp.refl _ _ | with_reducible refine Kp.alloc ?_ _ | with_reducible refine Kp.drewN ?_ _ | with_reducible refine Kp.drew ?_ | with_reducible refine Kp.setCell ?_ _ ?_ | with_reducible refine Kp.trans ?_ k7 (fun _ _ e => e) | (intro hh; first | rfl | exact .inl rfl | exact .inr rfl | (exfalso; (try dsimp only at hh); omega)))) : Kp no w5 _).blk HH5.out.1 no_elim, HH5.out.2.trans (S' := no) (by (repeat' (first | with_reducible exact Kp.refl _ _ | with_reducible refine Kp.alloc ?_ _ | with_reducible refine Kp.drewN ?_ _ | with_reducible refine Kp.drew ?_ | with_reducible refine Kp.setCell ?_ _ ?_ | with_reducible refine Kp.trans ?_ k7 (fun _ _ e => e) | (intro hh; first | rfl | exact .inl rfl | exact .inr rfl | (exfalso; (try dsimp only at hh); omega))))) (fun _ _ e => e)⟩, HH5L.out.kp (by (repeat' (first | with_reducible exact Kp.refl _ _ | with_reducible refine Kp.alloc ?_ _ | with_reducible refine Kp.drewN ?_ _ | with_reducible refine Kp.drew ?_ | with_reducible refine Kp.setCell ?_ _ ?_ | with_reducible refine Kp.trans ?_ k7 (fun _ _ e => e) | (intro hh; first | rfl | exact .inl rfl | exact .inr rfl | (exfalso; (try dsimp only at hh); omega)))))⟩
          case rest =>
            obtain ⟨hA, hHC, hLC⟩ := hcut
            obtain ⟨aa, ca, rfl⟩ := hA.shape
            have HA := hide hA
            have HC := hide hHC
            have HCL := hide hLC
            clear hA hHC hLC
            clear n0 n1 n2 n3 n4 n5 n6 n7 n8 nf hnl q0 htr
            obtain ⟨n0, n1, n2, n3, n4, n5, n6, n7, n8, nf⟩ := HC.out.1.c9; have hnl := HC.out.1.lt; have q0 := (HC.out.2.cell htb no_elim j).trans HQ0.out; have htr := Nat.lt_of_lt_of_le htb HC.out.2.size
            go_wp2_with fail
            go_cut [13] from 1000 (fun av W5 => SV W5 av (B) ∧ (Blk W5 wr.heap.size [.int .u8 op, .int .i64 nx, .int .i64 ny, .int .i64 nv, .int .u8 nk, .int .i64 tn, .int .i64 fn, .int .i64 na, .int .i64 nl] 63 ∧ Kp no w2 W5) ∧ LB w2 W5 (.slice la P.length lc) P ∧ SV W5 (.slice aa A.length ca) A)
            case first =>
              go_region_with (go_at_call 73; refine (HHF.out _ _ (Kp.row (S := no) (HC.out.2.trans (S' := no) (by (repeat' (first | with_reducible exact Kp.refl _ _ | with_reducible refine Kp.alloc ?_ _ | with_reducible refine Kp.drewN ?_ _ | with_reducible refine Kp.drew ?_ | with_reducible refine Kp.setCell ?_ _ ?_ | (intro hh; first | rfl | exact .inl rfl | exact .inr rfl | (exfalso; (try dsimp only at hh); omega))))) (fun _ _ e => e)) HQ1.out (fun _ _ => no_elim))).mono ?_; rintro e w6 ⟨u, rfl, hu, hnew, k6⟩)
              all_goals
                go_wp2
                go_meet
                case rel =>
                  have k7 : Kp no wc w6 := Kp.trans (by (repeat' (first | with_reducible exact Kp.refl _ _ | with_reducible refine Kp.alloc ?_ _ | with_reducible refine Kp.drewN ?_ _ | with_reducible refine Kp.drew ?_ | with_reducible refine Kp.setCell ?_ _ ?_ | (intro hh; first | rfl | exact .inl rfl | exact .inr rfl | (exfalso; (try dsimp only at hh); omega))))) k6 (fun _ _ e => e)
                  exact ⟨hu, ⟨(by (repeat' (first | with_reducible exact Kp.refl _ _ | with_reducible refine Kp.alloc ?_ _ | with_reducible refine Kp.drewN ?_ _ | with_reducible refine Kp.drew ?_ | with_reducible refine Kp.setCell ?_ _ ?_ | with_reducible refine Kp.trans ?_ k7 (fun _ _ e => e) | (intro hh; first | rfl | exact .inl rfl | exact .inr rfl | (exfalso; (try dsimp only at hh); omega)))) : Kp no wc _).blk HC.out.1 no_elim, HC.out.2.trans (S' := no) (by (repeat' (first | with_reducible exact Kp.refl _ _ | with_reducible refine Kp.alloc ?_ _ | with_reducible refine Kp.drewN ?_ _ | with_reducible refine Kp.drew ?_ | with_reducible refine Kp.setCell ?_ _ ?_ | with_reducible refine Kp.trans ?_ k7 (fun _ _ e => e) | (intro hh; first | rfl | exact .inl rfl | exact .inr rfl | (exfalso; (try dsimp only at hh); omega))))) (fun _ _ e => e)⟩, HCL.out.kp (by (repeat' (first | with_reducible exact Kp.refl _ _ | with_reducible refine Kp.alloc ?_ _ | with_reducible refine Kp.drewN ?_ _ | with_reducible refine Kp.drew ?_ | with_reducible refine Kp.setCell ?_ _ ?_ | with_reducible refine Kp.trans ?_ k7 (fun _ _ e => e) | (intro hh; first | rfl | exact .inl rfl | exact .inr rfl | (exfalso; (try dsimp only at hh); omega))))), (by (repeat' (first | with_reducible exact Kp.refl _ _ | with_reducible refine Kp.alloc ?_ _ | with_reducible refine Kp.drewN ?_ _ | with_reducible refine Kp.drew ?_ | with_reducible refine Kp.setCell ?_ _ ?_ | with_reducible refine Kp.trans ?_ k7 (fun _ _ e => e) | (intro hh; first | rfl | exact .inl rfl | exact .inr rfl | (exfalso; (try dsimp only at hh); omega)))) : Kp no wc _).row HA.out (fun _ _ => no_elim)⟩
            case rest =>
              obtain ⟨hB, hHD, hLD, hA2⟩ := hcut
              obtain ⟨ba, cb, rfl⟩ := hB.shape
              have HB := hide hB
              have HD := hide hHD
              have HDL := hide hLD
              have HA2 := hide hA2
              clear hB hHD hLD hA2
              clear n0 n1 n2 n3 n4 n5 n6 n7 n8 nf hnl q0 htr
              obtain ⟨n0, n1, n2, n3, n4, n5, n6, n7, n8, nf⟩ := HD.out.1.c9; have hnl := HD.out.1.lt; have q0 := (HD.out.2.cell htb no_elim j).trans HQ0.out; have htr := Nat.lt_of_lt_of_le htb HD.out.2.size
              have HRX := hide (renumbered_c _ _ T tn A _ (HTV.out.kp HD.out.2) HOK.out HA2.out (by have := HLE.out; omega))
              have HRY := hide (renumbered_c _ _ T fn B _ (HTV.out.kp HD.out.2) HOK.out HB.out (by have := HLE.out; omega))
              generalize renF T tn A = X at *
              generalize renF T fn B = Y at *
              go_wp2_with fail
              refine HRX.out.mono ?_
              rintro e w' ⟨rfl, rfl⟩
              go_wp2_with fail
              refine HRY.out.mono ?_
              rintro e w' ⟨rfl, rfl⟩
              have hNb := HD.out.1
              have hKb := HD.out.2
              have hsw := HKR.out.size
              have hbu := buildStar
              by_cases hA0 : A = []
              · have HPP := hide (HPN2.out (fun e => e.1 hA0))
                rw [if_pos hA0] at HPP
                rw [HPP.out] at HPL
                have hl0 : A.length = 0 := by rw [hA0]; rfl
                rw [hl0]
                clear HPN1 HPN2 HPP hA0 hl0
                go_upto_region 20 with fail
                refine wp_gen (fun W => Blk W wr.heap.size [.int .u8 42, .int .i64 0, .int .i64 0, .int .i64 0, .int .u8 0, .int .i64 (X : Nat), .int .i64 (-1), .int .i64 s.size, .int .i64 1] 63 ∧ LB w2 W (.slice la P.length lc) P ∧ Kp no w2 W) ⟨by (repeat' (first | ((with_reducible show (_ : List Value) = _); rfl) | with_reducible exact hNb | ((with_reducible refine Blk.newAt _ _ _ ?_); first | with_reducible rfl | (simp; done)) | with_reducible refine Blk.alloc ?_ _ | with_reducible refine Blk.drewN ?_ _ | with_reducible refine Blk.drew ?_ | ((with_reducible refine Blk.other ?_ _ ?_); rotate_left; ((try dsimp only); omega)) | with_reducible refine Blk.setB (cs0 := ?_) ?_ ?_)), by repeat' (first | with_reducible exact HDL.out | with_reducible refine LB.set ?_ _ HLN.out), by (repeat' (first | with_reducible exact Kp.refl _ _ | with_reducible refine Kp.alloc ?_ _ | with_reducible refine Kp.drewN ?_ _ | with_reducible refine Kp.drew ?_ | with_reducible refine Kp.setCell ?_ _ ?_ | with_reducible refine Kp.trans ?_ hKb (fun _ _ e => e) | (intro hh; first | rfl | exact .inl rfl | exact .inr rfl | (exfalso; (try dsimp only at hh); omega))))⟩ ?_
                rintro W ⟨hNW, hLW, kW⟩
                have HLW := hide hLW
                have HKW2 := hide kW
                clear n0 n1 n2 n3 n4 n5 n6 n7 n8 nf hnl q0 htr
                obtain ⟨n0, n1, n2, n3, n4, n5, n6, n7, n8, nf⟩ := hNW.c9; have hnl := hNW.lt
                have hKb2 := HKW2.out
                clear hNW hLW kW
                have hone : ∀ u ∈ ([.int .u8 42, .int .i64 0, .int .i64 0, .int .i64 0, .int .u8 0, .int .i64 (Y : Nat), .int .i64 (-1), .int .i64 s.size, .int .i64 1] : List Value), u.oneCell' = true := by simp [Value.oneCell']
                go_wp2_with (at_builtin; refine wpList_append_lies _ rfl (.tmp 99) (.tmp 101) 42 rfl 0 63 i0 _ 9 72 Tryz.underlying42 hi hz0 hz1 hz2 rfl (by decide) (.slice la P.length lc) P.length (nCells P) (by simp [Act.eval]) (World.ownsRow.alloc (by repeat' (first | with_reducible exact HLW.out.r | with_reducible refine Row.set ?_ _ HLN.out)) _) ⟨W.heap.size, 0, none⟩ 1 1 [.int .u8 42, .int .i64 0, .int .i64 0, .int .i64 0, .int .u8 0, .int .i64 (Y : Nat), .int .i64 (-1), .int .i64 s.size, .int .i64 1] (by simp [Act.eval]) rfl (by exact Blk.news (Blk.newAt _ [.int .u8 42, .int .i64 0, .int .i64 0, .int .i64 0, .int .u8 0, .int .i64 (Y : Nat), .int .i64 (-1), .int .i64 s.size, .int .i64 1] _ (by simp))) hone (by decide) (by unfold maxLen; omega) (by omega) (Nat.zero_le _) _ rfl ?_; intro g cap' w' hown hgrow hat hlt')
                go_roundg (l.length - (j + 1))
                case measure => have := HKK.out; omega
                case rel =>
                  have hap := LB.app (w0 := w2) ⟨42, 0, 0, 0, 0, (Y : Nat), -1, s.size, 1⟩ (by repeat' (first | with_reducible exact HLW.out | with_reducible refine LB.set ?_ _ HLN.out)) (by (repeat' (first | with_reducible exact Kp.refl _ _ | with_reducible refine Kp.alloc ?_ _ | with_reducible refine Kp.drewN ?_ _ | with_reducible refine Kp.drew ?_ | with_reducible refine Kp.setCell ?_ _ ?_ | with_reducible refine Kp.trans ?_ hKb2 (fun _ _ e => e) | (intro hh; first | rfl | exact .inl rfl | exact .inr rfl | (exfalso; (try dsimp only at hh); omega))))) hown hgrow hat
                  exact ⟨j + 1, by omega, rfl, by go_num, by rw [HPL.out]; exact hap.1, hap.2⟩
              · have ha6 : A.length = 6 := (HOA.out.resolve_left hA0).1
                rw [ha6]
                by_cases hB0 : B = []
                · have HPP := hide (HPN2.out (fun e => e.2 hB0))
                  rw [if_neg hA0] at HPP
                  rw [HPP.out] at HPL
                  have hl0 : B.length = 0 := by rw [hB0]; rfl
                  rw [hl0]
                  clear HPN1 HPN2 HPP hA0 hB0 hl0 ha6
                  go_upto_region 20 with fail
                  refine wp_gen (fun W => Blk W wr.heap.size [.int .u8 42, .int .i64 0, .int .i64 0, .int .i64 0, .int .u8 0, .int .i64 (X : Nat), .int .i64 (-1), .int .i64 s.size, .int .i64 1] 63 ∧ LB w2 W (.slice la P.length lc) P ∧ Kp no w2 W) ⟨by (repeat' (first | ((with_reducible show (_ : List Value) = _); rfl) | with_reducible exact hNb | ((with_reducible refine Blk.newAt _ _ _ ?_); first | with_reducible rfl | (simp; done)) | with_reducible refine Blk.alloc ?_ _ | with_reducible refine Blk.drewN ?_ _ | with_reducible refine Blk.drew ?_ | ((with_reducible refine Blk.other ?_ _ ?_); rotate_left; ((try dsimp only); omega)) | with_reducible refine Blk.setB (cs0 := ?_) ?_ ?_)), by repeat' (first | with_reducible exact HDL.out | with_reducible refine LB.set ?_ _ HLN.out), by (repeat' (first | with_reducible exact Kp.refl _ _ | with_reducible refine Kp.alloc ?_ _ | with_reducible refine Kp.drewN ?_ _ | with_reducible refine Kp.drew ?_ | with_reducible refine Kp.setCell ?_ _ ?_ | with_reducible refine Kp.trans ?_ hKb (fun _ _ e => e) | (intro hh; first | rfl | exact .inl rfl | exact .inr rfl | (exfalso; (try dsimp only at hh); omega))))⟩ ?_
                  rintro W ⟨hNW, hLW, kW⟩
                  have HLW := hide hLW
                  have HKW2 := hide kW
                  clear n0 n1 n2 n3 n4 n5 n6 n7 n8 nf hnl q0 htr
                  obtain ⟨n0, n1, n2, n3, n4, n5, n6, n7, n8, nf⟩ := hNW.c9; have hnl := hNW.lt
                  have hKb2 := HKW2.out
                  clear hNW hLW kW
                  have hone : ∀ u ∈ ([.int .u8 42, .int .i64 0, .int .i64 0, .int .i64 0, .int .u8 0, .int .i64 (X : Nat), .int .i64 (-1), .int .i64 s.size, .int .i64 1] : List Value), u.oneCell' = true := by simp [Value.oneCell']
                  go_wp2_with (at_builtin; refine wpList_append_lies _ rfl (.tmp 99) (.tmp 101) 42 rfl 0 63 i0 _ 9 72 Tryz.underlying42 hi hz0 hz1 hz2 rfl (by decide) (.slice la P.length lc) P.length (nCells P) (by simp [Act.eval]) (World.ownsRow.alloc (by repeat' (first | with_reducible exact HLW.out.r | with_reducible refine Row.set ?_ _ HLN.out)) _) ⟨W.heap.size, 0, none⟩ 1 1 [.int .u8 42, .int .i64 0, .int .i64 0, .int .i64 0, .int .u8 0, .int .i64 (X : Nat), .int .i64 (-1), .int .i64 s.size, .int .i64 1] (by simp [Act.eval]) rfl (by exact Blk.news (Blk.newAt _ [.int .u8 42, .int .i64 0, .int .i64 0, .int .i64 0, .int .u8 0, .int .i64 (X : Nat), .int .i64 (-1), .int .i64 s.size, .int .i64 1] _ (by simp))) hone (by decide) (by unfold maxLen; omega) (by omega) (Nat.zero_le _) _ rfl ?_; intro g cap' w' hown hgrow hat hlt')
                  go_roundg (l.length - (j + 1))
                  case measure => have := HKK.out; omega
                  case rel =>
                    have hap := LB.app (w0 := w2) ⟨42, 0, 0, 0, 0, (X : Nat), -1, s.size, 1⟩ (by repeat' (first | with_reducible exact HLW.out | with_reducible refine LB.set ?_ _ HLN.out)) (by (repeat' (first | with_reducible exact Kp.refl _ _ | with_reducible refine Kp.alloc ?_ _ | with_reducible refine Kp.drewN ?_ _ | with_reducible refine Kp.drew ?_ | with_reducible refine Kp.setCell ?_ _ ?_ | with_reducible refine Kp.trans ?_ hKb2 (fun _ _ e => e) | (intro hh; first | rfl | exact .inl rfl | exact .inr rfl | (exfalso; (try dsimp only at hh); omega))))) hown hgrow hat
                    exact ⟨j + 1, by omega, rfl, by go_num, by rw [HPL.out]; exact hap.1, hap.2⟩
                · have hb6 : B.length = 6 := (HOB.out.resolve_left hB0).1
                  have HPP := hide (HPN1.out ⟨hA0, hB0⟩)
                  rw [HPP.out] at HPL
                  rw [hb6]
                  clear HPN1 HPN2 HPP hA0 hB0 ha6 hb6
                  have hone : ∀ u ∈ ([.int .u8 op, .int .i64 nx, .int .i64 ny, .int .i64 nv, .int .u8 nk, .int .i64 (X : Nat), .int .i64 (Y : Nat), .int .i64 na, .int .i64 nl] : List Value), u.oneCell' = true := by simp [Value.oneCell']
                  go_wp2_with (at_builtin; refine wpList_append_lies _ rfl (.tmp 99) (.tmp 101) 42 rfl 0 63 i0 _ 9 72 Tryz.underlying42 hi hz0 hz1 hz2 rfl (by decide) (.slice la P.length lc) P.length (nCells P) (by simp [Act.eval]) (World.ownsRow.alloc (by repeat' (first | with_reducible exact HDL.out.r | with_reducible refine Row.set ?_ _ HLN.out)) _) ⟨w'.heap.size, 0, none⟩ 1 1 [.int .u8 op, .int .i64 nx, .int .i64 ny, .int .i64 nv, .int .u8 nk, .int .i64 (X : Nat), .int .i64 (Y : Nat), .int .i64 na, .int .i64 nl] (by simp [Act.eval]) rfl (by exact Blk.news (Blk.newAt _ [.int .u8 op, .int .i64 nx, .int .i64 ny, .int .i64 nv, .int .u8 nk, .int .i64 (X : Nat), .int .i64 (Y : Nat), .int .i64 na, .int .i64 nl] _ (by simp))) hone (by decide) (by unfold maxLen; omega) (by omega) (Nat.zero_le _) _ rfl ?_; intro g cap' w' hown hgrow hat hlt')
                  go_roundg (l.length - (j + 1))
                  case measure => have := HKK.out; omega
                  case rel =>
                    have hap := LB.app (w0 := w2) ⟨op, nx, ny, nv, nk, (X : Nat), (Y : Nat), na, nl⟩ (by repeat' (first | with_reducible exact HDL.out | with_reducible refine LB.set ?_ _ HLN.out)) (by (repeat' (first | with_reducible exact Kp.refl _ _ | with_reducible refine Kp.alloc ?_ _ | with_reducible refine Kp.drewN ?_ _ | with_reducible refine Kp.drew ?_ | with_reducible refine Kp.setCell ?_ _ ?_ | with_reducible refine Kp.trans ?_ hKb (fun _ _ e => e) | (intro hh; first | rfl | exact .inl rfl | exact .inr rfl | (exfalso; (try dsimp only at hh); omega))))) hown hgrow hat
                    exact ⟨j + 1, by omega, rfl, by go_num, by rw [HPL.out]; exact hap.1, hap.2⟩
        · have hsw := HKR.out.size
          rw [decide_eq_false ht]
          by_cases h33 : nd.op = 33
          · have HPP := hide (show prnN s.size T nd S = nd by rw [prnN, if_neg ht, if_pos h33])
            rw [HPP.out] at HPL
            have hKb := HK5.out
            clear ht hS0 HTE HPP
            obtain ⟨op, nx, ny, nv, nk, nt, nff, na, nl⟩ := nd
            dsimp only at *
            subst h33
            have hone : ∀ u ∈ ([.int .u8 33, .int .i64 nx, .int .i64 ny, .int .i64 nv, .int .u8 nk, .int .i64 nt, .int .i64 nff, .int .i64 na, .int .i64 nl] : List Value), u.oneCell' = true := by simp [Value.oneCell']
            go_wp2_with (at_builtin; refine wpList_append_lies _ rfl (.tmp 124) (.tmp 126) 42 rfl 0 63 i0 _ 9 72 Tryz.underlying42 hi hz0 hz1 hz2 rfl (by decide) (.slice la P.length lc) P.length (nCells P) (by simp [Act.eval]) (World.ownsRow.alloc (by repeat' (first | with_reducible exact HL5.out.r | with_reducible refine Row.set ?_ _ HLN.out)) _) ⟨w5.heap.size, 0, none⟩ 1 1 [.int .u8 33, .int .i64 nx, .int .i64 ny, .int .i64 nv, .int .u8 nk, .int .i64 nt, .int .i64 nff, .int .i64 na, .int .i64 nl] (by simp [Act.eval]) rfl (by exact Blk.news (Blk.newAt _ [.int .u8 33, .int .i64 nx, .int .i64 ny, .int .i64 nv, .int .u8 nk, .int .i64 nt, .int .i64 nff, .int .i64 na, .int .i64 nl] _ (by simp))) hone (by decide) (by unfold maxLen; omega) (by omega) (Nat.zero_le _) _ rfl ?_; intro g cap' w' hown hgrow hat hlt')
            go_roundg (l.length - (j + 1))
            case measure => have := HKK.out; omega
            case rel =>
              have hap := LB.app (w0 := w2) ⟨33, nx, ny, nv, nk, nt, nff, na, nl⟩ (by repeat' (first | with_reducible exact HL5.out | with_reducible refine LB.set ?_ _ HLN.out)) (by (repeat' (first | with_reducible exact Kp.refl _ _ | with_reducible refine Kp.alloc ?_ _ | with_reducible refine Kp.drewN ?_ _ | with_reducible refine Kp.drew ?_ | with_reducible refine Kp.setCell ?_ _ ?_ | with_reducible refine Kp.trans ?_ hKb (fun _ _ e => e) | (intro hh; first | rfl | exact .inl rfl | exact .inr rfl | (exfalso; (try dsimp only at hh); omega))))) hown hgrow hat
              exact ⟨j + 1, by omega, rfl, by go_num, by rw [HPL.out]; exact hap.1, hap.2⟩
          · obtain ⟨tn, htn⟩ := Int.eq_ofNat_of_zero_le (HGD.out.t h33).1
            have HBE := hide (fun v W hv => fbehind_c nd v S W hv HSO.out hS0 HGD.out.g ht)
            have HPP := hide (show prnN s.size T nd S = { nd with t := (renF T tn (behF nd S) : Nat) } by rw [prnN, if_neg ht, if_neg h33, htn, Int.toNat_natCast])
            have g33 : (nd.op == 33) = false := by simpa using h33
            have g33' : (nd.op != 33) = true := by simpa using h33
            rw [HPP.out] at HPL
            clear ht hS0 HTE HPP h33
            generalize behF nd S = A at *
            have HH5 := hide (And.intro hN5 HK5.out)
            obtain ⟨op, nx, ny, nv, nk, nt, nff, na, nl⟩ := nd
            dsimp only at *
            subst htn
            go_wp2_with fail
            go_cut [16] from 1000 (fun av W5 => SV W5 av A ∧ (Blk W5 wr.heap.size [.int .u8 op, .int .i64 nx, .int .i64 ny, .int .i64 nv, .int .u8 nk, .int .i64 tn, .int .i64 nff, .int .i64 na, .int .i64 nl] 63 ∧ Kp no w2 W5) ∧ LB w2 W5 (.slice la P.length lc) P)
            case first =>
              go_region_with (go_at_call 72; refine (HBE.out _ _ (Kp.row (S := no) (HH5.out.2.trans (S' := no) (by (repeat' (first | with_reducible exact Kp.refl _ _ | with_reducible refine Kp.alloc ?_ _ | with_reducible refine Kp.drewN ?_ _ | with_reducible refine Kp.drew ?_ | with_reducible refine Kp.setCell ?_ _ ?_ | (intro hh; first | rfl | exact .inl rfl | exact .inr rfl | (exfalso; (try dsimp only at hh); omega))))) (fun _ _ e => e)) HQ1.out (fun _ _ => no_elim))).mono ?_; rintro e w6 ⟨u, rfl, hu, hnew, k6⟩)
              all_goals
                go_wp2
                go_meet
                case rel =>
                  have k7 : Kp no w5 w6 := Kp.trans (by (repeat' (first | with_reducible exact Kp.refl _ _ | with_reducible refine Kp.alloc ?_ _ | with_reducible refine Kp.drewN ?_ _ | with_reducible refine Kp.drew ?_ | with_reducible refine Kp.setCell ?_ _ ?_ | (intro hh; first | rfl | exact .inl rfl | exact .inr rfl | (exfalso; (try dsimp only at hh); omega))))) k6 (fun _ _ e => e)
                  exact ⟨hu, ⟨(by (repeat' (first | with_reducible exact Kp.refl _ _ | with_reducible refine Kp.alloc ?_ _ | with_reducible refine Kp.drewN ?_ _ | with_reducible refine Kp.drew ?_ | with_reducible refine Kp.setCell ?_ _ ?_ | with_reducible refine Kp.trans ?_ k7 (fun _ _ e => e) | (intro hh; first | rfl | exact .inl rfl | exact .inr rfl | (exfalso; (try dsimp only at hh); omega)))) : Kp no w5 _).blk HH5.out.1 no_elim, HH5.out.2.trans (S' := no) (by (repeat' (first | with_reducible exact Kp.refl _ _ | with_reducible refine Kp.alloc ?_ _ | with_reducible refine Kp.drewN ?_ _ | with_reducible refine Kp.drew ?_ | with_reducible refine Kp.setCell ?_ _ ?_ | with_reducible refine Kp.trans ?_ k7 (fun _ _ e => e) | (intro hh; first | rfl | exact .inl rfl | exact .inr rfl | (exfalso; (try dsimp only at hh); omega))))) (fun _ _ e => e)⟩, HL5.out.kp (by (repeat' (first | with_reducible exact Kp.refl _ _ | with_reducible refine Kp.alloc ?_ _ | with_reducible refine Kp.drewN ?_ _ | with_reducible refine Kp.drew ?_ | with_reducible refine Kp.setCell ?_ _ ?_ | with_reducible refine Kp.trans ?_ k7 (fun _ _ e => e) | (intro hh; first | rfl | exact .inl rfl | exact .inr rfl | (exfalso; (try dsimp only at hh); omega)))))⟩
            case rest =>
              obtain ⟨hA, hHC, hLC⟩ := hcut
              obtain ⟨aa, ca, rfl⟩ := hA.shape
              have HA := hide hA
              have HC := hide hHC
              have HCL := hide hLC
              clear hA hHC hLC
              clear n0 n1 n2 n3 n4 n5 n6 n7 n8 nf hnl q0 htr
              obtain ⟨n0, n1, n2, n3, n4, n5, n6, n7, n8, nf⟩ := HC.out.1.c9; have hnl := HC.out.1.lt; have q0 := (HC.out.2.cell htb no_elim j).trans HQ0.out; have htr := Nat.lt_of_lt_of_le htb HC.out.2.size
              have hKb := HC.out.2
              have HRX := hide (renumbered_c _ _ T tn A _ (HTV.out.kp HC.out.2) HOK.out HA.out (by have := HLE.out; omega))
              generalize renF T tn A = X at *
              go_wp2_with fail
              refine HRX.out.mono ?_
              rintro e w' ⟨rfl, rfl⟩
              have hone : ∀ u ∈ ([.int .u8 op, .int .i64 nx, .int .i64 ny, .int .i64 nv, .int .u8 nk, .int .i64 (X : Nat), .int .i64 nff, .int .i64 na, .int .i64 nl] : List Value), u.oneCell' = true := by simp [Value.oneCell']
              go_wp2_with (at_builtin; refine wpList_append_lies _ rfl (.tmp 124) (.tmp 126) 42 rfl 0 63 i0 _ 9 72 Tryz.underlying42 hi hz0 hz1 hz2 rfl (by decide) (.slice la P.length lc) P.length (nCells P) (by simp [Act.eval]) (World.ownsRow.alloc (by repeat' (first | with_reducible exact HCL.out.r | with_reducible refine Row.set ?_ _ HLN.out)) _) ⟨w'.heap.size, 0, none⟩ 1 1 [.int .u8 op, .int .i64 nx, .int .i64 ny, .int .i64 nv, .int .u8 nk, .int .i64 (X : Nat), .int .i64 nff, .int .i64 na, .int .i64 nl] (by simp [Act.eval]) rfl (by exact Blk.news (Blk.newAt _ [.int .u8 op, .int .i64 nx, .int .i64 ny, .int .i64 nv, .int .u8 nk, .int .i64 (X : Nat), .int .i64 nff, .int .i64 na, .int .i64 nl] _ (by simp))) hone (by decide) (by unfold maxLen; omega) (by omega) (Nat.zero_le _) _ rfl ?_; intro g cap' w' hown hgrow hat hlt')
              go_roundg (l.length - (j + 1))
              case measure => have := HKK.out; omega
              case rel =>
                have hap := LB.app (w0 := w2) ⟨op, nx, ny, nv, nk, (X : Nat), nff, na, nl⟩ (by repeat' (first | with_reducible exact HCL.out | with_reducible refine LB.set ?_ _ HLN.out)) (by (repeat' (first | with_reducible exact Kp.refl _ _ | with_reducible refine Kp.alloc ?_ _ | with_reducible refine Kp.drewN ?_ _ | with_reducible refine Kp.drew ?_ | with_reducible refine Kp.setCell ?_ _ ?_ | with_reducible refine Kp.trans ?_ hKb (fun _ _ e => e) | (intro hh; first | rfl | exact .inl rfl | exact .inr rfl | (exfalso; (try dsimp only at hh); omega))))) hown hgrow hat
                exact ⟨j + 1, by omega, rfl, by go_num, by rw [HPL.out]; exact hap.1, hap.2⟩
    · obtain rfl : j = l.length := by omega
      have HWR := hide (fun W hW => write_c (s ++ ⟨#[42]⟩) (.slice la (prnL s.size T l l.length).length lc) (prnL s.size T l l.length) W hW (Nat.le_trans (prnL_len _ _ _ _) (by omega)) (by rw [ByteArray.size_append]; show s.size + 1 ≤ 1000; omega) (prnL_wn hg hs (by have := HLE.out; omega) _))
      have hs42 : (ByteArray.mk #[42]).size = 1 := rfl
      go_wp2_with fail
      refine (HWR.out _ (by exact HLB.out.r)).mono ?_
      rintro e w9 ⟨rfl, k9⟩
      go_wp2
      go_ret2
      rw [HL0.out, HT0.out]
      exact ⟨rfl, (HKW.out.trans HKR.out (fun _ _ e => e)).trans k9 (fun _ _ e => e)⟩
end Go.Proofs.YtellieabhaphhaaGreatDoor

/-
  Prune: narrow's answer is the answer's.
-/
namespace Go.Proofs.YtellieabhaphhaaGreatDoor
open Go.RowKit

set_option maxHeartbeats 1600000 in
theorem rprune_long (s : ByteArray) (w : World) (hm : s.size ≤ maxLen) (hs : 900 < s.size) :
    Calls Tryz.prog 52 #[.string s] w fun e w' => e = em2 1 ∧ Kp no w w' := by
  have HS := hide (lines_long s w hm hs)
  go_enter Tryz.func52, Tryz.ntmps52
  go_wp2_with fail
  refine HS.out.mono ?_
  rintro e w1 ⟨⟨r, rfl⟩, k1⟩
  go_wp2
  go_ret2
  exact ⟨rfl, k1⟩

set_option maxHeartbeats 1600000 in
theorem rprune_bad (s : ByteArray) (w : World) (hs : s.size ≤ 900) (hb : (graE s).1 ≠ 0) :
    Calls Tryz.prog 52 #[.string s] w fun e w' => e = em2 (graE s).1 ∧ Kp no w w' := by
  have HS := hide (lines_c s w hs)
  have hb' : (((graE s).1 : Int) == 0) = false := by simp; omega
  unfold LinPost at HS
  generalize graE s = ge at *
  obtain ⟨ge1, ge2⟩ := ge
  dsimp only at *
  clear hb
  go_enter Tryz.func52, Tryz.ntmps52
  go_wp2_with fail
  refine HS.out.mono ?_
  rintro e w1 ⟨r, O, rfl, hr, k1, hO⟩
  clear hr hO
  go_wp2
  go_ret2
  exact ⟨rfl, k1⟩

/-- One call of Prune: both answer this. -/
def PruIs (s : ByteArray) (t : ByteArray) (c : Int) : Prop :=
  (∀ W, Calls Tryz.prog 34 #[.string s] W fun e w' => e = .returned (.tuple #[.string t, .int .i64 c]) ∧ Kp no W w') ∧
  (∀ W, Calls Tryz.prog 52 #[.string s] W fun e w' => e = .returned (.tuple #[.string t, .int .i64 c]) ∧ Kp no W w')

theorem prune_both (s : ByteArray) (hs : s.size ≤ maxLen) : ∃ t c, PruIs s t c := by
  by_cases hs9 : s.size ≤ 900
  · by_cases hb : (graE s).1 = 0
    · obtain ⟨e1, e2⟩ := graE_zero s hb
      obtain ⟨_, g2⟩ := graF_gd s
      have hg := g2 e2
      refine ⟨_, _, fun W => nprune_good s W hs9 e1, fun W => ?_⟩
      rw [prune_text (lst_ok _) hg]
      exact rprune_good s W hs9 e1 hg
    · exact ⟨_, _, fun W => nprune_bad s W hs9 hb, fun W => rprune_bad s W hs9 hb⟩
  · exact ⟨_, _, fun W => nprune_long s W hs (by omega), fun W => rprune_long s W hs (by omega)⟩
end Go.Proofs.YtellieabhaphhaaGreatDoor

/-
  The laws: one step of Prune.
-/
namespace Go.Proofs.YtellieabhaphhaaGreatDoor
open Go.RowKit

set_option maxRecDepth 100000 in
set_option maxHeartbeats 1600000 in
theorem lplays_prune (b c : Int) (s t u : ByteArray) (w : World) (hs : s.size ≤ maxLen) :
    Calls Tryz.prog 29 #[.agg #[.int .i64 6, .int .i64 b, .int .i64 c, .string s, .string t, .string u]] w fun e w' => e = .returned (.bool true) ∧ Kp no w w' := by
  obtain ⟨x, z, hw⟩ := prune_both s hs
  have HN := hide hw.1
  have HR := hide hw.2
  have HNU := hide (fun W => lnum_c z W)
  clear hw
  go_enter Tryz.func29, Tryz.ntmps29
  go_wp2_with fail
  refine (HN.out _).mono ?_
  rintro e w1 ⟨rfl, k1⟩
  have hO : Blk w1 w.heap.size [.int .i64 6, .int .i64 b, .int .i64 c, .string s, .string t, .string u] 26 := k1.blk (by (repeat' (first | ((with_reducible show (_ : List Value) = _); rfl) | ((with_reducible refine Blk.newAt _ _ _ ?_); first | with_reducible rfl | (simp; done)) | with_reducible refine Blk.alloc ?_ _ | with_reducible refine Blk.drewN ?_ _ | with_reducible refine Blk.drew ?_ | ((with_reducible refine Blk.other ?_ _ ?_); rotate_left; ((try dsimp only); omega)) | with_reducible refine Blk.setB (cs0 := ?_) ?_ ?_))) no_elim
  have o0 := hO.cell 0; have o1 := hO.cell 1; have o2 := hO.cell 2; have o3 := hO.cell 3; have o4 := hO.cell 4; have o5 := hO.cell 5
  simp only [List.getElem?_cons_zero, List.getElem?_cons_succ] at o0 o1 o2 o3 o4 o5
  have of := hO.frozen
  have hz := hO.lt
  go_wp2_with fail
  refine (HR.out _).mono ?_
  rintro e w2 ⟨rfl, k2⟩
  clear o0 o1 o2 o3 o4 o5 of
  go_wp2_with (go_at_call 18; refine (HNU.out _).mono ?_; rintro e w' ⟨rfl, rfl⟩)
  go_ret
  exact ⟨by simp, by (repeat' (first | with_reducible exact Kp.refl _ _ | with_reducible refine Kp.alloc ?_ _ | with_reducible refine Kp.drewN ?_ _ | with_reducible refine Kp.drew ?_ | with_reducible refine Kp.setCell ?_ _ ?_ | with_reducible refine Kp.trans ?_ k1 (fun _ _ e => e) | with_reducible refine Kp.trans ?_ k2 (fun _ _ e => e) | (intro hh; first | rfl | exact .inl rfl | exact .inr rfl | (exfalso; (try dsimp only at hh); omega))))⟩
end Go.Proofs.YtellieabhaphhaaGreatDoor
