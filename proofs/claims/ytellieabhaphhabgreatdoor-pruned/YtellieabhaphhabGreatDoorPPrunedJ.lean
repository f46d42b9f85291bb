import Derived.Test.YtellieabhaphhabGreatDoorPPrunedI
/-
  narrow's Prune: the nodes that are left.
-/
namespace Go.Proofs.YtellieabhaphhabGreatDoor
open Go.RowKit

/-- A node that is left. -/
def kpN (s : ByteArray) (T : Tbl) (n : Nd) (S : St) : NN :=
  { lwN (encX s n) (algF n true S) (algF n false S) T.length with
    yes := (cntF T (lwN (encX s n) (algF n true S) (algF n false S) T.length).yes.toNat : Nat)
    no := (cntF T (lwN (encX s n) (algF n true S) (algF n false S) T.length).no.toNat : Nat) }

def kpL (s : ByteArray) (T : Tbl) (l : List Nd) : Nat → List NN
  | 0 => []
  | j + 1 => kpL s T l j ++ (match l[j]? with | some n => if T.getD j [] = [] then [] else [kpN s T n (T.getD j [])] | none => [])

theorem kpL_len (s : ByteArray) (T : Tbl) (l : List Nd) : ∀ j, (kpL s T l j).length ≤ j
  | 0 => Nat.le_refl _
  | j + 1 => by
    have := kpL_len s T l j
    rw [kpL, List.length_append]
    have h2 : (match l[j]? with | some n => if T.getD j [] = [] then [] else [kpN s T n (T.getD j [])] | none => ([] : List NN)).length ≤ 1 := by
      split
      · split <;> simp
      · simp
    omega

set_option maxRecDepth 100000 in
set_option maxHeartbeats 1600000 in
theorem prunedNodes_c (s : ByteArray) (v : Value) (l : List Nd) (tb : Nat) (T : Tbl) (w : World) (h : NRow w v (l.map (encX s))) (hB : Blk w tb (tCells T) 75) (hTl : T.length = l.length) (hT : TOk T) (hl : l.length ≤ 90) (hg : ∀ n ∈ l, Gd s n) :
    Calls Tryz.prog 19 #[v, .slice (some ⟨tb, 0, none⟩) l.length l.length] w fun e w' => ∃ u, e = .returned u ∧ NRow w' u (kpL s T l l.length) ∧ Kp no w w' := by
  obtain ⟨i0, hi0, hz0, hz1, hz2⟩ := info_parts info_nn
  obtain ⟨a, cap, rfl⟩ := h.shape
  have HD := hide h
  rw [List.length_map]
  have HB := hide hB
  clear h hB
  go_enter Tryz.func19, Tryz.ntmps19
  go_wp2
  go_loopg [5, 12] l.length (fun k lv iv wr => ∃ j : Nat, j ≤ l.length ∧ k = l.length - j ∧ iv = .int .i64 j ∧ KN w wr lv (kpL s T l j) ∧ Kp no w wr)
  case atStart =>
    refine ⟨0, Nat.zero_le _, rfl, rfl, ⟨⟨rfl, .inr ⟨w.heap.size, 0, #[], rfl, Nat.zero_le _, ?_, Nat.le_refl _, Nat.zero_le _, rfl, rfl⟩⟩, fun b hb => by simp [Value.ownBlock] at hb; omega⟩, by (repeat' (first | with_reducible exact Kp.refl _ _ | with_reducible refine Kp.alloc ?_ _ | with_reducible refine Kp.drewN ?_ _ | with_reducible refine Kp.drew ?_ | with_reducible refine Kp.setCell ?_ _ ?_ | (intro hh; first | rfl | exact .inl rfl | exact .inr rfl | (exfalso; (try dsimp only at hh); omega))))⟩
    have hh : Blk (w.alloc (.cells #[] 68)) w.heap.size [] 68 := by (repeat' (first | ((with_reducible show (_ : List Value) = _); rfl) | ((with_reducible refine Blk.newAt _ _ _ ?_); first | with_reducible rfl | (simp; done)) | with_reducible refine Blk.alloc ?_ _ | with_reducible refine Blk.drewN ?_ _ | with_reducible refine Blk.drew ?_ | ((with_reducible refine Blk.other ?_ _ ?_); rotate_left; ((try dsimp only); omega)) | with_reducible refine Blk.setB (cs0 := ?_) ?_ ?_))
    exact hh
  case round =>
    obtain ⟨j, hj, hk, rfl, hKB, kr⟩ := hrel
    have HKK := hide hk
    have HKB := hide hKB
    have HKR := hide kr
    obtain ⟨la, lc, rfl⟩ := hKB.r.shape
    clear hk hKB kr
    by_cases hlt : j < l.length
    · obtain ⟨nd, hnd⟩ : ∃ nd, l[j]? = some nd := ⟨_, List.getElem?_eq_getElem hlt⟩
      have HGD := hide (hg nd (List.mem_of_getElem? hnd))
      have HPL := hide (show kpL s T l (j + 1) = kpL s T l j ++ (if T.getD j [] = [] then [] else [kpN s T nd (T.getD j [])]) by rw [kpL, hnd])
      obtain ⟨_, gn, ha, hgn, n0, n1, n2, n3, n4, n5, n6, n7, n8, n9, n10⟩ := NRow.at (HKR.out.row HD.out (fun _ _ => no_elim)) (k := j) (n := encX s nd) (by rw [List.getElem?_map, hnd]; rfl)
      subst ha
      have HSO := hide (hT.get j)
      have hpl := kpL_len s T l j
      have HST := hide (fun W hW => stateOf_b tb l.length T j W hW hTl hlt)
      obtain ⟨m0, m1, m2, m3, m4, m5, hm⟩ := z6_six (encZ_z6 HSO.out)
      have HEX := hide (exS_enc HSO.out)
      have HLW := hide (fun (hF : Ful (T.getD j [])) W => withLiveWays_c nd (s.extract nd.a.toNat (nd.a + nd.l).toNat) (yesN nd) (noN nd) l.length (T.getD j []) W HGD.out.g hF)
      have HFU := hide (fun h0 => HSO.out.ful h0)
      have HSM := hide (fun h0 : T.getD j [] ≠ [] => show T.getD j [] = [m0, m1, m2, m3, m4, m5] by rw [← encZ_ful (HSO.out.ful h0)]; exact hm)
      have HKP := hide (show kpN s T nd (T.getD j []) = { lwN (encN nd (s.extract nd.a.toNat (nd.a + nd.l).toNat) (yesN nd) (noN nd)) (algF nd true (T.getD j [])) (algF nd false (T.getD j [])) l.length with
        yes := (cntF T (lwN (encN nd (s.extract nd.a.toNat (nd.a + nd.l).toNat) (yesN nd) (noN nd)) (algF nd true (T.getD j [])) (algF nd false (T.getD j [])) l.length).yes.toNat : Nat)
        no := (cntF T (lwN (encN nd (s.extract nd.a.toNat (nd.a + nd.l).toNat) (yesN nd) (noN nd)) (algF nd true (T.getD j [])) (algF nd false (T.getD j [])) l.length).no.toNat : Nat) } by rw [kpN, hTl]; rfl)
      have HYN := hide (show 0 ≤ yesN nd ∧ 0 ≤ noN nd by
        have h1 := HGD.out.t
        have h2 := HGD.out.f
        constructor
        · unfold yesN; split; exact Int.le_refl _; exact (h1 (by assumption)).1
        · unfold noN yesN
          split
          · exact (h2 (by assumption)).1
          · split; exact Int.le_refl _; exact (h1 (by assumption)).1)
      have HWY := hide (show 0 ≤ (lwN (encN nd (s.extract nd.a.toNat (nd.a + nd.l).toNat) (yesN nd) (noN nd)) (algF nd true (T.getD j [])) (algF nd false (T.getD j [])) l.length).yes ∧ 0 ≤ (lwN (encN nd (s.extract nd.a.toNat (nd.a + nd.l).toNat) (yesN nd) (noN nd)) (algF nd true (T.getD j [])) (algF nd false (T.getD j [])) l.length).no by
        have h1 := HYN.out
        unfold lwN
        repeat' split
        · exact h1
        · exact ⟨h1.1, h1.1⟩
        · exact ⟨h1.2, h1.2⟩
        · exact ⟨Int.natCast_nonneg _, Int.natCast_nonneg _⟩)
      rw [hm] at HST HEX
      have HST2 : Hid (∀ W, Blk W tb (tCells T) 75 → Calls Tryz.prog 39 #[.slice (some ⟨tb, 0, none⟩) l.length l.length, .int .i64 j] W fun e w' => e = .returned (zv6 m0 m1 m2 m3 m4 m5) ∧ Kp no W w') := HST.out
      have HZ6 := hide (show Z6 [m0, m1, m2, m3, m4, m5] from hm ▸ encZ_z6 HSO.out)
      clear HST hm hnd
      dsimp only [encX, encN] at n0 n1 n2 n3 n4 n5 n6 n7 n8 n9 n10
      generalize s.extract nd.a.toNat (nd.a + nd.l).toNat = tx at *
      generalize lwN (encN nd tx (yesN nd) (noN nd)) (algF nd true (T.getD j [])) (algF nd false (T.getD j [])) l.length = R at *
      generalize kpN s T nd (T.getD j []) = KP at *
      generalize T.getD j [] = S at *
      generalize kpL s T l j = P at *
      generalize yesN nd = yn at *
      generalize noN nd = nn at *
      generalize actN nd.op = act at *
      generalize (if nd.op = 43 ∨ nd.op = 60 then nd.v else nd.y) = nwv at *
      generalize (if nd.op = 126 ∨ nd.op = 58 then bit nd.k else 0) = kdv at *
      generalize (consN nd).n = cnn at *
      generalize bit (consN nd).k = ckk at *
      generalize bit (consN nd).v = chh at *
      generalize nd.x = nx at *
      generalize nd.y = ny at *
      have hqI : (j : Int) < l.length := by omega
      have HX := hide (fun b W hW => exists_c b [m0, m1, m2, m3, m4, m5] W hW HZ6.out)
      rw [HEX.out] at HX
      have HLN : Hid (Value.ownBlock (.slice la P.length lc) ≠ some wr.heap.size) := fun e => by have := Row.lt HKB.out.r e; omega
      go_wp2_with fail
      refine (HST2.out _ ((HKR.out.blk HB.out no_elim).alloc _)).mono ?_
      rintro e w5 ⟨rfl, k5⟩
      have hN5 : Blk w5 wr.heap.size [.string tx, .int .i64 act, .int .i64 nx, .int .i64 ny, .int .i64 nwv, .int .i64 ckk, .int .i64 cnn, .int .i64 chh, .int .i64 kdv, .int .i64 yn, .int .i64 nn] 68 := k5.blk (by (repeat' (first | ((with_reducible show (_ : List Value) = _); rfl) | ((with_reducible refine Blk.newAt _ _ _ ?_); first | with_reducible rfl | (simp; done)) | with_reducible refine Blk.alloc ?_ _ | with_reducible refine Blk.drewN ?_ _ | with_reducible refine Blk.drew ?_ | ((with_reducible refine Blk.other ?_ _ ?_); rotate_left; ((try dsimp only); omega)) | with_reducible refine Blk.setB (cs0 := ?_) ?_ ?_))) no_elim
      have HK5 := hide (HKR.out.trans (S' := no) (Kp.trans (by (repeat' (first | with_reducible exact Kp.refl _ _ | with_reducible refine Kp.alloc ?_ _ | with_reducible refine Kp.drewN ?_ _ | with_reducible refine Kp.drew ?_ | with_reducible refine Kp.setCell ?_ _ ?_ | (intro hh; first | rfl | exact .inl rfl | exact .inr rfl | (exfalso; (try dsimp only at hh); omega))))) k5 (fun _ _ e => e)) (fun _ _ e => e))
      have HL5 := hide (HKB.out.kp (Kp.trans (by (repeat' (first | with_reducible exact Kp.refl _ _ | with_reducible refine Kp.alloc ?_ _ | with_reducible refine Kp.drewN ?_ _ | with_reducible refine Kp.drew ?_ | with_reducible refine Kp.setCell ?_ _ ?_ | (intro hh; first | rfl | exact .inl rfl | exact .inr rfl | (exfalso; (try dsimp only at hh); omega))))) k5 (fun _ _ e => e)))
      clear k5 n0 n1 n2 n3 n4 n5 n6 n7 n8 n9 n10
      obtain ⟨n0, n1, n2, n3, n4, n5, n6, n7, n8, n9, n10, nf⟩ := hN5.c11; have hnl := hN5.lt
      by_cases hS0 : S = []
      · rw [if_pos hS0, List.append_nil] at HPL
        rw [decide_eq_false (fun e => e hS0)] at HX
        clear hS0
        go_wp2_with fail
        refine (HX.out _ _ (by (show Blk _ _ [.int .i64 m0, .int .i64 m1, .int .i64 m2, .int .i64 m3, .int .i64 m4, .int .i64 m5] _); (repeat' (first | ((with_reducible show (_ : List Value) = _); rfl) | ((with_reducible refine Blk.newAt _ _ _ ?_); first | with_reducible rfl | (simp; done)) | with_reducible refine Blk.alloc ?_ _ | with_reducible refine Blk.drewN ?_ _ | with_reducible refine Blk.drew ?_ | ((with_reducible refine Blk.other ?_ _ ?_); rotate_left; ((try dsimp only); omega)) | with_reducible refine Blk.setB (cs0 := ?_) ?_ ?_)))).mono ?_
        rintro e w' ⟨rfl, rfl⟩
        go_wp2
        go_roundg (l.length - (j + 1))
        case measure => have := HKK.out; omega
        case rel => exact ⟨j + 1, by omega, rfl, by go_num, by rw [HPL.out]; exact HL5.out.kp ((Kp.refl _ _).alloc _), HK5.out.alloc _⟩
      · rw [if_neg hS0] at HPL
        rw [decide_eq_true hS0] at HX
        have HLX := hide (HLW.out (HFU.out hS0))
        rw [HSM.out hS0] at HLX
        rw [show Value.agg (zc [m0, m1, m2, m3, m4, m5]).toArray = zv6 m0 m1 m2 m3 m4 m5 from rfl] at HLX
        clear hS0 HLW HFU HSM
        obtain ⟨rtx, ract, rx, ry, rw', rck, rcn, rch, rkd, ryes, rno⟩ := R
        obtain ⟨ryn, hryn⟩ := Int.eq_ofNat_of_zero_le HWY.out.1
        obtain ⟨rnn, hrnn⟩ := Int.eq_ofNat_of_zero_le HWY.out.2
        dsimp only at hryn hrnn
        subst hryn hrnn
        dsimp only [NN.cells] at HLX
        dsimp only at HKP
        rw [Int.toNat_natCast, Int.toNat_natCast] at HKP
        go_wp2_with fail
        refine (HX.out _ _ (by (show Blk _ _ [.int .i64 m0, .int .i64 m1, .int .i64 m2, .int .i64 m3, .int .i64 m4, .int .i64 m5] _); (repeat' (first | ((with_reducible show (_ : List Value) = _); rfl) | ((with_reducible refine Blk.newAt _ _ _ ?_); first | with_reducible rfl | (simp; done)) | with_reducible refine Blk.alloc ?_ _ | with_reducible refine Blk.drewN ?_ _ | with_reducible refine Blk.drew ?_ | ((with_reducible refine Blk.other ?_ _ ?_); rotate_left; ((try dsimp only); omega)) | with_reducible refine Blk.setB (cs0 := ?_) ?_ ?_)))).mono ?_
        rintro e w' ⟨rfl, rfl⟩
        go_wp2_with fail
        refine (HLX.out _).mono ?_
        rintro e w6 ⟨rfl, k6⟩
        have hN6 : Blk w6 wr.heap.size [.string tx, .int .i64 act, .int .i64 nx, .int .i64 ny, .int .i64 nwv, .int .i64 ckk, .int .i64 cnn, .int .i64 chh, .int .i64 kdv, .int .i64 yn, .int .i64 nn] 68 := k6.blk (by (repeat' (first | ((with_reducible show (_ : List Value) = _); rfl) | with_reducible exact hN5 | ((with_reducible refine Blk.newAt _ _ _ ?_); first | with_reducible rfl | (simp; done)) | with_reducible refine Blk.alloc ?_ _ | with_reducible refine Blk.drewN ?_ _ | with_reducible refine Blk.drew ?_ | ((with_reducible refine Blk.other ?_ _ ?_); rotate_left; ((try dsimp only); omega)) | with_reducible refine Blk.setB (cs0 := ?_) ?_ ?_))) no_elim
        have HK6 := hide (HK5.out.trans (S' := no) (Kp.trans (by (repeat' (first | with_reducible exact Kp.refl _ _ | with_reducible refine Kp.alloc ?_ _ | with_reducible refine Kp.drewN ?_ _ | with_reducible refine Kp.drew ?_ | with_reducible refine Kp.setCell ?_ _ ?_ | (intro hh; first | rfl | exact .inl rfl | exact .inr rfl | (exfalso; (try dsimp only at hh); omega))))) k6 (fun _ _ e => e)) (fun _ _ e => e))
        have HL6 := hide (HL5.out.kp (Kp.trans (by (repeat' (first | with_reducible exact Kp.refl _ _ | with_reducible refine Kp.alloc ?_ _ | with_reducible refine Kp.drewN ?_ _ | with_reducible refine Kp.drew ?_ | with_reducible refine Kp.setCell ?_ _ ?_ | (intro hh; first | rfl | exact .inl rfl | exact .inr rfl | (exfalso; (try dsimp only at hh); omega))))) k6 (fun _ _ e => e)))
        have hT6 := HK6.out.blk HB.out no_elim
        have htbl := HB.out.lt
        have hsw := HKR.out.size
        clear k6
        clear n0 n1 n2 n3 n4 n5 n6 n7 n8 n9 n10 nf hnl
        obtain ⟨n0, n1, n2, n3, n4, n5, n6, n7, n8, n9, n10, nf⟩ := hN6.c11; have hnl := hN6.lt
        have HSA := hide (fun i W hW => statesAhead_c tb T i W hW hT (by omega))
        rw [hTl] at HSA
        go_wp2_with fail
        refine (HSA.out ryn _ (by (repeat' (first | ((with_reducible show (_ : List Value) = _); rfl) | with_reducible exact hT6 | ((with_reducible refine Blk.newAt _ _ _ ?_); first | with_reducible rfl | (simp; done)) | with_reducible refine Blk.alloc ?_ _ | with_reducible refine Blk.drewN ?_ _ | with_reducible refine Blk.drew ?_ | ((with_reducible refine Blk.other ?_ _ ?_); rotate_left; ((try dsimp only); omega)) | with_reducible refine Blk.setB (cs0 := ?_) ?_ ?_)))).mono ?_
        rintro e w7 ⟨rfl, k7⟩
        have hN7 : Blk w7 wr.heap.size [.string rtx, .int .i64 ract, .int .i64 rx, .int .i64 ry, .int .i64 rw', .int .i64 rck, .int .i64 rcn, .int .i64 rch, .int .i64 rkd, .int .i64 ryn, .int .i64 rnn] 68 := k7.blk (by (repeat' (first | ((with_reducible show (_ : List Value) = _); rfl) | with_reducible exact hN6 | ((with_reducible refine Blk.newAt _ _ _ ?_); first | with_reducible rfl | (simp; done)) | with_reducible refine Blk.alloc ?_ _ | with_reducible refine Blk.drewN ?_ _ | with_reducible refine Blk.drew ?_ | ((with_reducible refine Blk.other ?_ _ ?_); rotate_left; ((try dsimp only); omega)) | with_reducible refine Blk.setB (cs0 := ?_) ?_ ?_))) no_elim
        have kk6 := HK6.out
        have HK7 := hide (show Kp no w w7 from Kp.trans (by (repeat' (first | with_reducible exact Kp.refl _ _ | with_reducible refine Kp.alloc ?_ _ | with_reducible refine Kp.drewN ?_ _ | with_reducible refine Kp.drew ?_ | with_reducible refine Kp.setCell ?_ _ ?_ | with_reducible refine Kp.trans ?_ kk6 (fun _ _ e => e) | (intro hh; first | rfl | exact .inl rfl | exact .inr rfl | (exfalso; (try dsimp only at hh); omega))))) k7 (fun _ _ e => e))
        have HL7 : Hid (KN w w7 (.slice la P.length lc) P) := KN.kp (by repeat' (first | with_reducible exact HL6.out | with_reducible refine KN.set ?_ _ HLN.out)) k7
        have hT7 := HK7.out.blk HB.out no_elim
        clear k7 hN6 HL6 hT6
        clear n0 n1 n2 n3 n4 n5 n6 n7 n8 n9 n10 nf hnl
        obtain ⟨n0, n1, n2, n3, n4, n5, n6, n7, n8, n9, n10, nf⟩ := hN7.c11; have hnl := hN7.lt
        generalize cntF T ryn = cy at *
        go_wp2_with fail
        refine (HSA.out rnn _ (by (repeat' (first | ((with_reducible show (_ : List Value) = _); rfl) | with_reducible exact hT7 | ((with_reducible refine Blk.newAt _ _ _ ?_); first | with_reducible rfl | (simp; done)) | with_reducible refine Blk.alloc ?_ _ | with_reducible refine Blk.drewN ?_ _ | with_reducible refine Blk.drew ?_ | ((with_reducible refine Blk.other ?_ _ ?_); rotate_left; ((try dsimp only); omega)) | with_reducible refine Blk.setB (cs0 := ?_) ?_ ?_)))).mono ?_
        rintro e w8 ⟨rfl, k8⟩
        have hN8 : Blk w8 wr.heap.size [.string rtx, .int .i64 ract, .int .i64 rx, .int .i64 ry, .int .i64 rw', .int .i64 rck, .int .i64 rcn, .int .i64 rch, .int .i64 rkd, .int .i64 cy, .int .i64 rnn] 68 := k8.blk (by (repeat' (first | ((with_reducible show (_ : List Value) = _); rfl) | with_reducible exact hN7 | ((with_reducible refine Blk.newAt _ _ _ ?_); first | with_reducible rfl | (simp; done)) | with_reducible refine Blk.alloc ?_ _ | with_reducible refine Blk.drewN ?_ _ | with_reducible refine Blk.drew ?_ | ((with_reducible refine Blk.other ?_ _ ?_); rotate_left; ((try dsimp only); omega)) | with_reducible refine Blk.setB (cs0 := ?_) ?_ ?_))) no_elim
        have kk7 := HK7.out
        have HK8 := hide (show Kp no w w8 from Kp.trans (by (repeat' (first | with_reducible exact Kp.refl _ _ | with_reducible refine Kp.alloc ?_ _ | with_reducible refine Kp.drewN ?_ _ | with_reducible refine Kp.drew ?_ | with_reducible refine Kp.setCell ?_ _ ?_ | with_reducible refine Kp.trans ?_ kk7 (fun _ _ e => e) | (intro hh; first | rfl | exact .inl rfl | exact .inr rfl | (exfalso; (try dsimp only at hh); omega))))) k8 (fun _ _ e => e))
        have HL8 : Hid (KN w w8 (.slice la P.length lc) P) := KN.kp (by repeat' (first | with_reducible exact HL7.out | with_reducible refine KN.set ?_ _ HLN.out)) k8
        clear k8 hN7 HL7 hT7
        clear n0 n1 n2 n3 n4 n5 n6 n7 n8 n9 n10 nf hnl
        obtain ⟨n0, n1, n2, n3, n4, n5, n6, n7, n8, n9, n10, nf⟩ := hN8.c11; have hnl := hN8.lt
        generalize cntF T rnn = cz at *
        have hone : ∀ u ∈ ([.string rtx, .int .i64 ract, .int .i64 rx, .int .i64 ry, .int .i64 rw', .int .i64 rck, .int .i64 rcn, .int .i64 rch, .int .i64 rkd, .int .i64 cy, .int .i64 cz] : List Value), u.oneCell' = true := by simp [Value.oneCell']
        have HL9 := hide (HL8.out.set (o := 10) (.int .i64 (cz : Int)) HLN.out)
        go_wp2_with (at_builtin; refine wpList_append_lies _ rfl (.tmp 37) (.tmp 39) 43 rfl 0 68 i0 _ 11 96 Tryz.underlying43 hi0 hz0 hz1 hz2 rfl (by decide) (.slice la P.length lc) P.length (nnCells P) (by simp [Act.eval]) (by exact World.ownsRow.alloc HL9.out.r _) ⟨w8.heap.size, 0, none⟩ 1 1 [.string rtx, .int .i64 ract, .int .i64 rx, .int .i64 ry, .int .i64 rw', .int .i64 rck, .int .i64 rcn, .int .i64 rch, .int .i64 rkd, .int .i64 cy, .int .i64 cz] (by simp [Act.eval]) rfl (by exact Blk.news (Blk.newAt _ [.string rtx, .int .i64 ract, .int .i64 rx, .int .i64 ry, .int .i64 rw', .int .i64 rck, .int .i64 rcn, .int .i64 rch, .int .i64 rkd, .int .i64 cy, .int .i64 cz] _ (by simp))) hone (by decide) (by unfold maxLen; omega) (by omega) (Nat.zero_le _) _ rfl ?_; intro g cap' w' hown hgrow hat hlt')
        go_roundg (l.length - (j + 1))
        case measure => have := HKK.out; omega
        case rel =>
          have kk8 := HK8.out
          have hap := KN.app ⟨rtx, ract, rx, ry, rw', rck, rcn, rch, rkd, cy, cz⟩ HL9.out (by (repeat' (first | with_reducible exact Kp.refl _ _ | with_reducible refine Kp.alloc ?_ _ | with_reducible refine Kp.drewN ?_ _ | with_reducible refine Kp.drew ?_ | with_reducible refine Kp.setCell ?_ _ ?_ | with_reducible refine Kp.trans ?_ kk8 (fun _ _ e => e) | (intro hh; first | rfl | exact .inl rfl | exact .inr rfl | (exfalso; (try dsimp only at hh); omega))))) hown hgrow hat
          exact ⟨j + 1, by omega, rfl, by go_num, by rw [HPL.out, HKP.out]; exact hap.1, hap.2⟩
    · obtain rfl : j = l.length := by omega
      go_wp2
      go_ret
      exact ⟨_, rfl, HKB.out.r, HKR.out⟩
end Go.Proofs.YtellieabhaphhabGreatDoor

/-
  A graph's text: what narrow writes.
-/
namespace Go.Proofs.YtellieabhaphhabGreatDoor
open Go.RowKit

/-- A line. -/
def lnTx (n : NN) : ByteArray := n.tx ++ (if n.act = 11 then ⟨#[]⟩ else ⟨#[44]⟩ ++ twoB n.yes.toNat) ++ (if n.act = 12 ∨ n.act = 13 then ⟨#[44]⟩ ++ twoB n.no.toNat else ⟨#[]⟩) ++ ⟨#[59]⟩

/-- A node that can be written. -/
structure Ln (n : NN) : Prop where
  tx : n.tx.size ≤ 1000
  yes : n.act ≠ 11 → 0 ≤ n.yes ∧ n.yes < 100
  no : n.act = 12 ∨ n.act = 13 → 0 ≤ n.no ∧ n.no < 100

theorem lnTx_size {n : NN} (h : Ln n) : (lnTx n).size ≤ 1007 := by
  have h1 := h.tx
  have h2 : ∀ k, (twoB k).size = 2 := twoB_size
  unfold lnTx
  rw [ByteArray.size_append, ByteArray.size_append, ByteArray.size_append, show (ByteArray.mk #[59]).size = 1 from rfl]
  have h3 : (if n.act = 11 then (⟨#[]⟩ : ByteArray) else ⟨#[44]⟩ ++ twoB n.yes.toNat).size ≤ 3 := by
    split
    · decide
    · rw [ByteArray.size_append, h2]; decide
  have h4 : (if n.act = 12 ∨ n.act = 13 then (⟨#[44]⟩ : ByteArray) ++ twoB n.no.toNat else ⟨#[]⟩).size ≤ 3 := by
    split
    · rw [ByteArray.size_append, h2]; decide
    · decide
  omega

set_option maxRecDepth 100000 in
set_option maxHeartbeats 1600000 in
theorem lineText_c (n : NN) (w : World) (h : Ln n) :
    Calls Tryz.prog 43 #[.agg #[.string n.tx, .int .i64 n.act, .int .i64 n.x, .int .i64 n.y, .int .i64 n.w, .int .i64 n.ck, .int .i64 n.cn, .int .i64 n.ch, .int .i64 n.kd, .int .i64 n.yes, .int .i64 n.no]] w fun e w' => e = .returned (.string (lnTx n)) ∧ Kp no w w' := by
  have HT := hide (fun W => nisTest_c n.act W)
  have htx := h.tx
  have e59 : (ByteArray.mk #[59]).size = 1 := rfl
  have e44 : (ByteArray.mk #[44]).size = 1 := rfl
  by_cases h11 : n.act = 11
  · have HE := hide (show lnTx n = n.tx ++ ⟨#[59]⟩ by rw [lnTx, if_pos h11, if_neg (by omega), ba_nil, ba_nil])
    rw [HE.out]
    obtain ⟨tx, act, nx, ny, nw, ck, cn, ch, kd, yes, nno⟩ := n
    dsimp only at *
    subst h11
    clear h HE
    go_enter Tryz.func43, Tryz.ntmps43
    go_wp2_with (go_at_call 72; refine (HT.out _).mono ?_; rintro e w' ⟨rfl, rfl⟩)
    go_ret
    exact ⟨rfl, by (repeat' (first | with_reducible exact Kp.refl _ _ | with_reducible refine Kp.alloc ?_ _ | with_reducible refine Kp.drewN ?_ _ | with_reducible refine Kp.drew ?_ | with_reducible refine Kp.setCell ?_ _ ?_ | (intro hh; first | rfl | exact .inl rfl | exact .inr rfl | (exfalso; (try dsimp only at hh); omega))))⟩
  · obtain ⟨y1, y2⟩ := h.yes h11
    obtain ⟨yn, hyn⟩ := Int.eq_ofNat_of_zero_le y1
    by_cases ht : n.act = 12 ∨ n.act = 13
    · obtain ⟨o1, o2⟩ := h.no ht
      obtain ⟨on, hon⟩ := Int.eq_ofNat_of_zero_le o1
      have HE := hide (show lnTx n = n.tx ++ (⟨#[44]⟩ ++ twoB yn) ++ (⟨#[44]⟩ ++ twoB on) ++ ⟨#[59]⟩ by rw [lnTx, if_neg h11, if_pos ht, hyn, hon, Int.toNat_natCast, Int.toNat_natCast])
      rw [HE.out]
      rw [decide_eq_true ht] at HT
      have HY := hide (fun W => ntwo_c yn W (by omega))
      have HO := hide (fun W => ntwo_c on W (by omega))
      have s1 := twoB_size yn
      have s2 := twoB_size on
      have g11 : (n.act == 11) = false := by simpa using h11
      have g11' : (n.act != 11) = true := by simpa using h11
      obtain ⟨tx, act, nx, ny, nw, ck, cn, ch, kd, yes, nno⟩ := n
      dsimp only at *
      subst hyn hon
      clear h HE ht h11
      generalize twoB yn = ty at *
      generalize twoB on = to at *
      go_enter Tryz.func43, Tryz.ntmps43
      go_wp2_with fail
      refine (HY.out _).mono ?_
      rintro e w1 ⟨rfl, k1⟩
      have hN1 : Blk w1 w.heap.size [.string tx, .int .i64 act, .int .i64 nx, .int .i64 ny, .int .i64 nw, .int .i64 ck, .int .i64 cn, .int .i64 ch, .int .i64 kd, .int .i64 yn, .int .i64 on] 68 := k1.blk (by (repeat' (first | ((with_reducible show (_ : List Value) = _); rfl) | ((with_reducible refine Blk.newAt _ _ _ ?_); first | with_reducible rfl | (simp; done)) | with_reducible refine Blk.alloc ?_ _ | with_reducible refine Blk.drewN ?_ _ | with_reducible refine Blk.drew ?_ | ((with_reducible refine Blk.other ?_ _ ?_); rotate_left; ((try dsimp only); omega)) | with_reducible refine Blk.setB (cs0 := ?_) ?_ ?_))) no_elim
      have HK1 := hide (show Kp no w w1 from Kp.trans (by (repeat' (first | with_reducible exact Kp.refl _ _ | with_reducible refine Kp.alloc ?_ _ | with_reducible refine Kp.drewN ?_ _ | with_reducible refine Kp.drew ?_ | with_reducible refine Kp.setCell ?_ _ ?_ | (intro hh; first | rfl | exact .inl rfl | exact .inr rfl | (exfalso; (try dsimp only at hh); omega))))) k1 (fun _ _ e => e))
      obtain ⟨n0, n1, n2, n3, n4, n5, n6, n7, n8, n9, n10, nf⟩ := hN1.c11; have hnl := hN1.lt
      clear k1
      go_wp2_with fail
      refine (HT.out _).mono ?_
      rintro e w' ⟨rfl, rfl⟩
      go_wp2_with fail
      refine (HO.out _).mono ?_
      rintro e w2 ⟨rfl, k2⟩
      go_wp2
      go_ret
      exact ⟨rfl, HK1.out.trans k2 (fun _ _ e => e)⟩
    · have HE := hide (show lnTx n = n.tx ++ (⟨#[44]⟩ ++ twoB yn) ++ ⟨#[59]⟩ by rw [lnTx, if_neg h11, if_neg ht, hyn, Int.toNat_natCast, ba_nil])
      rw [HE.out]
      rw [decide_eq_false ht] at HT
      have HY := hide (fun W => ntwo_c yn W (by omega))
      have s1 := twoB_size yn
      have g11 : (n.act == 11) = false := by simpa using h11
      have g11' : (n.act != 11) = true := by simpa using h11
      obtain ⟨tx, act, nx, ny, nw, ck, cn, ch, kd, yes, nno⟩ := n
      dsimp only at *
      subst hyn
      clear h HE ht h11
      generalize twoB yn = ty at *
      go_enter Tryz.func43, Tryz.ntmps43
      go_wp2_with fail
      refine (HY.out _).mono ?_
      rintro e w1 ⟨rfl, k1⟩
      have hN1 : Blk w1 w.heap.size [.string tx, .int .i64 act, .int .i64 nx, .int .i64 ny, .int .i64 nw, .int .i64 ck, .int .i64 cn, .int .i64 ch, .int .i64 kd, .int .i64 yn, .int .i64 nno] 68 := k1.blk (by (repeat' (first | ((with_reducible show (_ : List Value) = _); rfl) | ((with_reducible refine Blk.newAt _ _ _ ?_); first | with_reducible rfl | (simp; done)) | with_reducible refine Blk.alloc ?_ _ | with_reducible refine Blk.drewN ?_ _ | with_reducible refine Blk.drew ?_ | ((with_reducible refine Blk.other ?_ _ ?_); rotate_left; ((try dsimp only); omega)) | with_reducible refine Blk.setB (cs0 := ?_) ?_ ?_))) no_elim
      have HK1 := hide (show Kp no w w1 from Kp.trans (by (repeat' (first | with_reducible exact Kp.refl _ _ | with_reducible refine Kp.alloc ?_ _ | with_reducible refine Kp.drewN ?_ _ | with_reducible refine Kp.drew ?_ | with_reducible refine Kp.setCell ?_ _ ?_ | (intro hh; first | rfl | exact .inl rfl | exact .inr rfl | (exfalso; (try dsimp only at hh); omega))))) k1 (fun _ _ e => e))
      obtain ⟨n0, n1, n2, n3, n4, n5, n6, n7, n8, n9, n10, nf⟩ := hN1.c11; have hnl := hN1.lt
      clear k1
      go_wp2_with fail
      refine (HT.out _).mono ?_
      rintro e w' ⟨rfl, rfl⟩
      go_wp2
      go_ret
      exact ⟨rfl, HK1.out⟩

def graT (L : List NN) : ByteArray := L.foldl (fun a n => a ++ lnTx n) ⟨#[]⟩

theorem graT_take (L : List NN) (j : Nat) (n : NN) (h : L[j]? = some n) : graT (L.take (j + 1)) = graT (L.take j) ++ lnTx n := by
  obtain ⟨hj, rfl⟩ := List.getElem?_eq_some_iff.1 h
  rw [List.take_succ_eq_append_getElem hj]
  unfold graT
  rw [List.foldl_append]
  rfl

theorem graT_size {L : List NN} (h : ∀ n ∈ L, Ln n) : (graT L).size ≤ 1007 * L.length := by
  have key : ∀ (L : List NN) (a : ByteArray), (∀ n ∈ L, Ln n) → (L.foldl (fun a n => a ++ lnTx n) a).size ≤ a.size + 1007 * L.length := by
    intro L
    induction L with
    | nil => intro a _; simp
    | cons n L ih =>
      intro a h
      have h1 := ih (a ++ lnTx n) (fun z hz => h z (List.mem_cons_of_mem _ hz))
      have h2 := lnTx_size (h n (List.mem_cons_self ..))
      rw [ByteArray.size_append] at h1
      rw [List.foldl_cons, List.length_cons]
      omega
  have := key L ⟨#[]⟩ h
  rw [show (ByteArray.mk #[]).size = 0 from rfl, Nat.zero_add] at this
  exact this

set_option maxRecDepth 100000 in
set_option maxHeartbeats 1600000 in
theorem graphText_c (v : Value) (L : List NN) (w : World) (h : NRow w v L) (hl : L.length ≤ 100) (hL : ∀ n ∈ L, Ln n) :
    Calls Tryz.prog 20 #[v] w fun e w' => e = .returned (.string (graT L)) ∧ Kp no w w' := by
  obtain ⟨a, cap, rfl⟩ := h.shape
  have HD := hide h
  clear h
  go_enter Tryz.func20, Tryz.ntmps20
  go_wp2
  go_loopg [3, 9] L.length (fun k tv iv wr => ∃ j : Nat, j ≤ L.length ∧ k = L.length - j ∧ iv = .int .i64 j ∧ tv = .string (graT (L.take j)) ∧ Kp no w wr)
  case atStart => exact ⟨0, Nat.zero_le _, rfl, rfl, rfl, Kp.refl _ _⟩
  case round =>
    obtain ⟨j, hj, hk, rfl, rfl, kr⟩ := hrel
    have HKK := hide hk
    have HKR := hide kr
    clear hk kr
    by_cases hlt : j < L.length
    · obtain ⟨nd, hnd⟩ : ∃ nd, L[j]? = some nd := ⟨_, List.getElem?_eq_getElem hlt⟩
      have HLN := hide (hL nd (List.mem_of_getElem? hnd))
      obtain ⟨_, gn, ha, hgn, n0, n1, n2, n3, n4, n5, n6, n7, n8, n9, n10⟩ := NRow.at (HKR.out.row HD.out (fun _ _ => no_elim)) hnd
      subst ha
      have HT := hide (graT_take L j nd hnd)
      have hsz : (graT (L.take j)).size ≤ 100700 := Nat.le_trans (graT_size (fun n hn => hL n (List.mem_of_mem_take hn))) (by rw [List.length_take]; omega)
      have hs2 := lnTx_size HLN.out
      have HC := hide (fun W => lineText_c nd W HLN.out)
      have hjI : (j : Int) < L.length := by omega
      generalize graT (L.take j) = acc at *
      generalize lnTx nd = ln at *
      clear hnd
      obtain ⟨tx, act, nx, ny, nw, ck, cn, ch, kd, yes, nno⟩ := nd
      dsimp only at *
      go_wp2_with fail
      refine (HC.out _).mono ?_
      rintro e w5 ⟨rfl, k5⟩
      go_wp2
      go_roundg (L.length - (j + 1))
      case measure => have := HKK.out; omega
      case rel => exact ⟨j + 1, by omega, rfl, by go_num, by rw [HT.out], (HKR.out.alloc _).trans k5 (fun _ _ e => e)⟩
    · obtain rfl : j = L.length := by omega
      rw [List.take_length]
      go_wp2
      go_ret
      exact ⟨rfl, HKR.out⟩
end Go.Proofs.YtellieabhaphhabGreatDoor

/-
  narrow.Prune.
-/
namespace Go.Proofs.YtellieabhaphhabGreatDoor
open Go.RowKit

theorem ext_size {s : ByteArray} {n : Nd} (hs : s.size ≤ 900) : (s.extract n.a.toNat (n.a + n.l).toNat).size ≤ 1000 := by
  rw [ByteArray.size_extract]; omega

theorem lwN_tx {n : NN} (y o : St) (en : Int) (h : n.tx.size ≤ 1000) : (lwN n y o en).tx.size ≤ 1000 := by
  unfold lwN
  repeat' split
  · exact h
  · show (ByteArray.mk #[42]).size ≤ 1000; decide
  · show (ByteArray.mk #[42]).size ≤ 1000; decide
  · exact h

theorem kpN_ln {s : ByteArray} {T : Tbl} {n : Nd} (S : St) (hs : s.size ≤ 900) (hT : T.length ≤ 90) : Ln (kpN s T n S) := by
  have h1 := cnt_le T (lwN (encX s n) (algF n true S) (algF n false S) T.length).yes.toNat
  have h2 := cnt_le T (lwN (encX s n) (algF n true S) (algF n false S) T.length).no.toNat
  refine ⟨lwN_tx _ _ _ (ext_size hs), fun _ => ?_, fun _ => ?_⟩
  · show 0 ≤ ((cntF T _ : Nat) : Int) ∧ ((cntF T _ : Nat) : Int) < 100; omega
  · show 0 ≤ ((cntF T _ : Nat) : Int) ∧ ((cntF T _ : Nat) : Int) < 100; omega

theorem kpL_ln {s : ByteArray} {T : Tbl} {l : List Nd} (hs : s.size ≤ 900) (hT : T.length ≤ 90) : ∀ j, ∀ n ∈ kpL s T l j, Ln n
  | 0, n, hn => by simp [kpL] at hn
  | j + 1, n, hn => by
    rw [kpL, List.mem_append] at hn
    rcases hn with hn | hn
    · exact kpL_ln hs hT j n hn
    · split at hn
      · split at hn
        · simp at hn
        · obtain rfl : n = _ := by simpa using hn
          exact kpN_ln _ hs hT
      · simp at hn

set_option maxHeartbeats 1600000 in
theorem nprune_long (s : ByteArray) (w : World) (hm : s.size ≤ maxLen) (hs : 900 < s.size) :
    Calls Tryz.prog 8 #[.string s] w fun e w' => e = em2 1 ∧ Kp no w w' := by
  have HS := hide (nog_long s w hm hs)
  go_enter Tryz.func8, Tryz.ntmps8
  go_wp2_with fail
  refine HS.out.mono ?_
  rintro e w1 ⟨rfl, k1⟩
  go_wp2
  go_ret2
  exact ⟨rfl, k1⟩

set_option maxHeartbeats 1600000 in
theorem nprune_bad (s : ByteArray) (w : World) (hs : s.size ≤ 900) (hb : (graE s).1 ≠ 0) :
    Calls Tryz.prog 8 #[.string s] w fun e w' => e = em2 (graE s).1 ∧ Kp no w w' := by
  have HS := hide (nog_c s w hs)
  have hb' : (((graE s).1 : Int) == 0) = false := by simp; omega
  unfold NogPost at HS
  generalize graE s = ge at *
  obtain ⟨ge1, ge2⟩ := ge
  dsimp only at *
  clear hb
  go_enter Tryz.func8, Tryz.ntmps8
  go_wp2_with fail
  refine HS.out.mono ?_
  rintro e w1 ⟨v, rfl, k1, _⟩
  go_wp2
  go_ret2
  exact ⟨rfl, k1⟩

set_option maxHeartbeats 1600000 in
theorem nprune_good (s : ByteArray) (w : World) (hs : s.size ≤ 900) (hb : graE s = (0, 0)) :
    Calls Tryz.prog 8 #[.string s] w fun e w' => e = .returned (.tuple #[.string (graT (kpL s (lstF (graF s).nodes) (graF s).nodes (graF s).nodes.length)), .int .i64 0]) ∧ Kp no w w' := by
  have HS := hide (nog_c s w hs)
  have hlen := (graF_inv s).2
  unfold NogPost at HS
  rw [hb] at HS
  clear hb
  generalize graF s = st at *
  go_enter Tryz.func8, Tryz.ntmps8
  go_wp2_with fail
  refine HS.out.mono ?_
  rintro e w2 ⟨v, rfl, k2, hpost⟩
  obtain ⟨hR, hO, hgd⟩ := hpost trivial
  have HL := hide (leastTable_c s v st.nodes w2 hR hlen hgd)
  have HPN := hide (fun tb W (hW : NRow W v (st.nodes.map (encX s))) hB => prunedNodes_c s v st.nodes tb (lstF st.nodes) W hW hB (lst_len _) (lst_ok _) hlen hgd)
  have HGT := hide (fun u W hW => graphText_c u (kpL s (lstF st.nodes) st.nodes st.nodes.length) W hW (Nat.le_trans (kpL_len _ _ _ _) (by omega)) (kpL_ln hs (by rw [lst_len]; exact hlen) _))
  have HRR := hide hR
  obtain ⟨a, cap, rfl⟩ := hR.shape
  rw [List.length_map] at HL HPN HRR ⊢
  clear hO hgd hpost HS hR
  go_wp2_with fail
  refine HL.out.mono ?_
  rintro e w3 ⟨tb, rfl, hB, k3⟩
  go_wp2_with fail
  refine (HPN.out tb _ (by exact k3.row HRR.out (fun _ _ => no_elim)) (by exact hB)).mono ?_
  rintro e w4 ⟨u, rfl, hu, k4⟩
  have HU := hide hu
  obtain ⟨ua, uc, rfl⟩ := hu.shape
  go_wp2_with fail
  refine (HGT.out _ _ (by exact HU.out)).mono ?_
  rintro e w5 ⟨rfl, k5⟩
  go_wp2
  go_ret2
  exact ⟨rfl, ((k2.trans k3 (fun _ _ e => e)).trans k4 (fun _ _ e => e)).trans k5 (fun _ _ e => e)⟩
end Go.Proofs.YtellieabhaphhabGreatDoor

/-
  narrowref's Prune: what is left.
-/
namespace Go.Proofs.YtellieabhaphhabGreatDoor
open Go.RowKit

/-- A node that is left, with its ways anew. -/
def prnN (g : Nat) (T : Tbl) (n : Nd) (S : St) : Nd :=
  if n.op = 121 ∨ n.op = 58 then
    (if hldF n true S ≠ [] ∧ hldF n false S ≠ [] then { n with t := (renF T n.t.toNat (hldF n true S) : Nat), f := (renF T n.f.toNat (hldF n false S) : Nat) }
    else ⟨42, 0, 0, 0, 0, if hldF n true S = [] then (renF T n.f.toNat (hldF n false S) : Nat) else (renF T n.t.toNat (hldF n true S) : Nat), -1, g, 1⟩)
  else if n.op = 33 then n else { n with t := (renF T n.t.toNat (behF n S) : Nat) }

def prnL (g : Nat) (T : Tbl) (l : List Nd) : Nat → List Nd
  | 0 => []
  | j + 1 => prnL g T l j ++ (match l[j]? with | some n => if T.getD j [] = [] then [] else [prnN g T n (T.getD j [])] | none => [])

end Go.Proofs.YtellieabhaphhabGreatDoor

/-
  Plain: what narrow writes of a pruned graph is what the answer writes.
-/
namespace Go.Proofs.YtellieabhaphhabGreatDoor
open Go.RowKit

theorem ext_app {s t : ByteArray} {a b : Nat} (h : b ≤ s.size) : (s ++ t).extract a b = s.extract a b := by
  apply ByteArray.ext
  rw [ByteArray.data_extract, ByteArray.data_extract, ByteArray.data_append]
  have hb : b ≤ s.data.size := h
  apply Array.ext'
  simp only [Array.toList_extract, Array.toList_append, List.extract_eq_take_drop]
  rw [List.drop_append, List.take_append]
  simp
  omega

theorem ext_star (s : ByteArray) : (s ++ ⟨#[42]⟩).extract s.size (s.size + 1) = ⟨#[42]⟩ := by
  apply ByteArray.ext
  rw [ByteArray.data_extract, ByteArray.data_append]
  have hs : s.size = s.data.size := rfl
  rw [hs]
  apply Array.ext'
  simp

theorem wayB_nat (k : Nat) : wayB ((k : Nat) : Int) = ⟨#[44]⟩ ++ twoB k := by rw [wayB, if_pos (Int.natCast_nonneg k), Int.toNat_natCast]
theorem wayB_neg : wayB (-1) = ⟨#[]⟩ := rfl

theorem actN_test {op : Int} (h : opOk op) : (actN op = 12 ∨ actN op = 13) ↔ (op = 121 ∨ op = 58) := by
  unfold opOk at h
  rcases h with rfl | rfl | rfl | rfl | rfl | rfl | rfl | rfl | rfl | rfl | rfl | rfl | rfl | rfl | rfl | rfl | rfl | rfl <;> decide
theorem actN_never {op : Int} (h : opOk op) : (actN op = 11) ↔ (op = 33) := by
  unfold opOk at h
  rcases h with rfl | rfl | rfl | rfl | rfl | rfl | rfl | rfl | rfl | rfl | rfl | rfl | rfl | rfl | rfl | rfl | rfl | rfl <;> decide

theorem idl_ln (k c d : Int) : lnTx { idlN k with yes := c, no := d } = (⟨#[42]⟩ : ByteArray) ++ (⟨#[44]⟩ ++ twoB c.toNat) ++ ⟨#[59]⟩ := by
  show (⟨#[42]⟩ : ByteArray) ++ (⟨#[44]⟩ ++ twoB c.toNat) ++ ⟨#[]⟩ ++ ⟨#[59]⟩ = _
  rw [ba_nil]

theorem node_text {s : ByteArray} {n : Nd} (h : Gd s n) : (s ++ ⟨#[42]⟩).extract n.a.toNat (n.a + n.l).toNat = s.extract n.a.toNat (n.a + n.l).toNat :=
  ext_app (by have := h.al; omega)

theorem way_all {n : Nd} (hg : Gn n) (ht : n.op = 121 ∨ n.op = 58) : wayM n true ||| wayM n false = 127 := by
  rcases ht with e | e
  · rw [show wayM n true = 115 by rw [wayM, e]; rfl, show wayM n false = 13 by rw [wayM, e]; rfl]; rfl
  · have hk := hg.kd (.inl e)
    rw [wayM, wayM, e]
    unfold KOk at hk
    rcases hk with h | h | h | h | h | h | h <;> rw [h] <;> rfl

/-- One way of a test is left. -/
theorem one_way {n : Nd} {S : St} (hg : Gn n) (hF : Ful S) (ht : n.op = 121 ∨ n.op = 58) (h1 : hldF n true S = []) (h2 : hldF n false S = []) : False := by
  have hy6 : n.y.toNat < 6 := by have := hg.y; omega
  have key : ∀ b, hldF n b S = [] → S.getD n.y.toNat 0 &&& wayM n b = 0 := by
    intro b h
    rw [hldF, withS] at h
    split at h
    · rename_i hc; exact hc.resolve_left hF.nil
    · rename_i hc
      exfalso
      have := congrArg List.length h
      rw [List.length_set, hF.z.len] at this
      cases this
  have e := Nat.and_or_distrib_left (S.getD n.y.toNat 0) (wayM n true) (wayM n false)
  rw [key true h1, key false h2, way_all hg ht, and_127 (hF.z.get _)] at e
  exact hF.ne _ hy6 e

/-- One node. -/
theorem kp_line {s : ByteArray} {T : Tbl} {n : Nd} {S : St} (h : Gd s n) (hF : Ful S) : lnTx (kpN s T n S) = linB (s ++ ⟨#[42]⟩) (prnN s.size T n S) := by
  have hop := h.g.op
  have ht12 := actN_test hop
  have ht11 := actN_never hop
  have hx := node_text h
  by_cases ht : n.op = 121 ∨ n.op = 58
  · have hA : algF n true S = hldF n true S := by rw [algF, if_pos ht]
    have hB : algF n false S = hldF n false S := by rw [algF, if_pos ht]
    have hyes : yesN n = n.t := by rw [yesN, if_neg (by omega)]
    have hno : noN n = n.f := by rw [noN, if_pos ht]
    have hone := one_way h.g hF ht
    unfold kpN prnN
    rw [hA, hB, if_pos ht]
    generalize hldF n true S = A at *
    generalize hldF n false S = B at *
    by_cases h1 : A = []
    · have h2 : B ≠ [] := fun e => hone h1 e
      have hl : lwN (encX s n) A B T.length = idlN n.f := by
        rw [lwN, if_neg (fun e => e.1 h1), if_neg (fun e => e h1), if_pos h2]
        show idlN (noN n) = _
        rw [hno]
      rw [hl, if_neg (fun e => e.1 h1), if_pos h1, idl_ln, Int.toNat_natCast]
      show _ = (s ++ ⟨#[42]⟩).extract (s.size : Int).toNat ((s.size : Int) + 1).toNat ++ wayB ((renF T n.f.toNat B : Nat) : Int) ++ wayB (-1) ++ ⟨#[59]⟩
      rw [show ((s.size : Int) + 1).toNat = s.size + 1 by omega, Int.toNat_natCast, ext_star, wayB_nat, wayB_neg, ba_nil, renF, if_neg h2]
      rfl
    · by_cases h2 : B = []
      · have hl : lwN (encX s n) A B T.length = idlN n.t := by
          rw [lwN, if_neg (fun e => e.2 h2), if_pos h1]
          show idlN (yesN n) = _
          rw [hyes]
        rw [hl, if_neg (fun e => e.2 h2), if_neg h1, idl_ln, Int.toNat_natCast]
        show _ = (s ++ ⟨#[42]⟩).extract (s.size : Int).toNat ((s.size : Int) + 1).toNat ++ wayB ((renF T n.t.toNat A : Nat) : Int) ++ wayB (-1) ++ ⟨#[59]⟩
        rw [show ((s.size : Int) + 1).toNat = s.size + 1 by omega, Int.toNat_natCast, ext_star, wayB_nat, wayB_neg, ba_nil, renF, if_neg h1]
        rfl
      · have hl : lwN (encX s n) A B T.length = encX s n := by rw [lwN, if_pos ⟨h1, h2⟩]
        rw [hl, if_pos ⟨h1, h2⟩, lnTx]
        show s.extract n.a.toNat (n.a + n.l).toNat ++ (if actN n.op = 11 then ⟨#[]⟩ else ⟨#[44]⟩ ++ twoB ((cntF T (yesN n).toNat : Nat) : Int).toNat) ++ (if actN n.op = 12 ∨ actN n.op = 13 then ⟨#[44]⟩ ++ twoB ((cntF T (noN n).toNat : Nat) : Int).toNat else ⟨#[]⟩) ++ ⟨#[59]⟩ = (s ++ ⟨#[42]⟩).extract n.a.toNat (n.a + n.l).toNat ++ wayB ((renF T n.t.toNat A : Nat) : Int) ++ wayB ((renF T n.f.toNat B : Nat) : Int) ++ ⟨#[59]⟩
        rw [if_neg (fun e => by have := ht11.1 e; omega), if_pos (ht12.2 ht), hx, wayB_nat, wayB_nat, renF, renF, if_neg h1, if_neg h2, hyes, hno, Int.toNat_natCast, Int.toNat_natCast]
  · have hA : algF n true S = behF n S := by rw [algF, if_neg ht]
    have hB : algF n false S = behF n S := by rw [algF, if_neg ht]
    have hf := h.g.f ht
    unfold kpN prnN
    rw [hA, hB, if_neg ht]
    by_cases h33 : n.op = 33
    · have hb : behF n S = [] := by rw [behF, if_pos h33]
      have hl : lwN (encX s n) [] [] T.length = { encX s n with yes := T.length, no := T.length } := by rw [lwN, if_neg (fun e => e.1 rfl), if_neg (fun e => e rfl), if_neg (fun e => e rfl)]
      rw [hb, hl, if_pos h33, lnTx]
      show s.extract n.a.toNat (n.a + n.l).toNat ++ (if actN n.op = 11 then ⟨#[]⟩ else _) ++ (if actN n.op = 12 ∨ actN n.op = 13 then _ else ⟨#[]⟩) ++ ⟨#[59]⟩ = (s ++ ⟨#[42]⟩).extract n.a.toNat (n.a + n.l).toNat ++ wayB n.t ++ wayB n.f ++ ⟨#[59]⟩
      rw [if_pos (ht11.2 h33), if_neg (fun e => ht (ht12.1 e)), hx, h.t3 h33, hf, wayB_neg]
    · have hyes : yesN n = n.t := by rw [yesN, if_neg h33]
      rw [if_neg h33]
      generalize behF n S = A at *
      by_cases h1 : A = []
      · have hl : lwN (encX s n) A A T.length = { encX s n with yes := T.length, no := T.length } := by rw [lwN, if_neg (fun e => e.1 h1), if_neg (fun e => e h1), if_neg (fun e => e h1)]
        rw [hl, lnTx]
        show s.extract n.a.toNat (n.a + n.l).toNat ++ (if actN n.op = 11 then ⟨#[]⟩ else ⟨#[44]⟩ ++ twoB ((cntF T ((T.length : Nat) : Int).toNat : Nat) : Int).toNat) ++ (if actN n.op = 12 ∨ actN n.op = 13 then _ else ⟨#[]⟩) ++ ⟨#[59]⟩ = (s ++ ⟨#[42]⟩).extract n.a.toNat (n.a + n.l).toNat ++ wayB ((renF T n.t.toNat A : Nat) : Int) ++ wayB n.f ++ ⟨#[59]⟩
        rw [if_neg (fun e => h33 (ht11.1 e)), if_neg (fun e => ht (ht12.1 e)), hx, hf, wayB_nat, wayB_neg, renF, if_pos h1, Int.toNat_natCast, Int.toNat_natCast]
      · have hl : lwN (encX s n) A A T.length = encX s n := by rw [lwN, if_pos ⟨h1, h1⟩]
        rw [hl, lnTx]
        show s.extract n.a.toNat (n.a + n.l).toNat ++ (if actN n.op = 11 then ⟨#[]⟩ else ⟨#[44]⟩ ++ twoB ((cntF T (yesN n).toNat : Nat) : Int).toNat) ++ (if actN n.op = 12 ∨ actN n.op = 13 then _ else ⟨#[]⟩) ++ ⟨#[59]⟩ = (s ++ ⟨#[42]⟩).extract n.a.toNat (n.a + n.l).toNat ++ wayB ((renF T n.t.toNat A : Nat) : Int) ++ wayB n.f ++ ⟨#[59]⟩
        rw [if_neg (fun e => h33 (ht11.1 e)), if_neg (fun e => ht (ht12.1 e)), hx, hf, wayB_nat, wayB_neg, renF, if_neg h1, hyes, Int.toNat_natCast]

/-- What both write of a pruned graph. -/
theorem prune_text {s : ByteArray} {T : Tbl} {l : List Nd} (hT : TOk T) (hg : ∀ n ∈ l, Gd s n) : ∀ j, graT (kpL s T l j) = wriF (s ++ ⟨#[42]⟩) (prnL s.size T l j)
  | 0 => rfl
  | j + 1 => by
    have ih := prune_text hT hg j
    rw [kpL, prnL]
    cases hn : l[j]? with
    | none => rw [List.append_nil, List.append_nil]; exact ih
    | some n =>
      dsimp only
      by_cases h0 : T.getD j [] = []
      · rw [if_pos h0, if_pos h0, List.append_nil, List.append_nil]; exact ih
      · rw [if_neg h0, if_neg h0, graT, List.foldl_append, ← graT, wriF, List.foldl_append, ← wriF, ih]
        show _ ++ lnTx _ = _ ++ linB _ _
        rw [kp_line (hg n (List.mem_of_getElem? hn)) ((hT.get j).ful h0)]
end Go.Proofs.YtellieabhaphhabGreatDoor

/-
  Plain: the pruned graph: numbers anew, and its least table.
-/
namespace Go.Proofs.YtellieabhaphhabGreatDoor
open Go.RowKit

/-- The states that are left. -/
def kept (T : Tbl) : Tbl := T.filter (fun s => decide (s ≠ []))

theorem kept_len (T : Tbl) : (kept T).length = cntF T T.length := by
  unfold kept cntF
  rw [List.take_length, List.countP_eq_length_filter]

theorem cnt_filter (T : Tbl) (i : Nat) : cntF T i = ((T.take i).filter (fun s => decide (s ≠ []))).length := by
  unfold cntF; rw [List.countP_eq_length_filter]

theorem kept_get {T : Tbl} {i : Nat} (h : T.getD i [] ≠ []) : (kept T)[cntF T i]? = some (T.getD i []) := by
  have hi : i < T.length := by
    apply Classical.byContradiction
    intro hc
    rw [List.getD_eq_getElem?_getD, List.getElem?_eq_none (by omega)] at h
    exact h rfl
  have e : T.getD i [] = T[i] := by rw [List.getD_eq_getElem?_getD, List.getElem?_eq_getElem hi]; rfl
  rw [e] at h ⊢
  unfold kept
  rw [cnt_filter]
  conv => lhs; rw [← List.take_append_drop i T]
  rw [List.filter_append, List.drop_eq_getElem_cons hi, List.filter_cons_of_pos (by simpa using h)]
  have e2 : (List.take i T ++ T[i] :: List.drop (i + 1) T).take i = T.take i := by
    rw [← List.drop_eq_getElem_cons hi, List.take_append_drop]
  rw [e2, List.getElem?_append_right (Nat.le_refl _), Nat.sub_self]
  rfl

theorem kept_getD {T : Tbl} {i : Nat} (h : T.getD i [] ≠ []) : (kept T).getD (cntF T i) [] = T.getD i [] := by
  rw [List.getD_eq_getElem?_getD, kept_get h]; rfl

theorem cnt_lt {T : Tbl} {i : Nat} (h : T.getD i [] ≠ []) : cntF T i < cntF T T.length := by
  have := (List.getElem?_eq_some_iff.1 (kept_get h)).1
  rwa [kept_len] at this

theorem cnt_up (T : Tbl) : ∀ j k, k < cntF T j → j ≤ T.length → ∃ i, i < j ∧ T.getD i [] ≠ [] ∧ cntF T i = k
  | 0, k, h, _ => by simp [cntF] at h
  | j + 1, k, h, hj => by
    rw [cnt_succ T j hj] at h
    by_cases hk : k < cntF T j
    · obtain ⟨i, h1, h2, h3⟩ := cnt_up T j k hk (by omega)
      exact ⟨i, by omega, h2, h3⟩
    · by_cases e : T.getD j [] = []
      · rw [if_pos e] at h; omega
      · rw [if_neg e] at h
        exact ⟨j, by omega, e, by omega⟩

theorem prn_len (g : Nat) (T : Tbl) (l : List Nd) (hT : T.length = l.length) : ∀ j, j ≤ l.length → (prnL g T l j).length = cntF T j
  | 0, _ => by simp [prnL, cntF]
  | j + 1, hj => by
    rw [prnL, List.length_append, prn_len g T l hT j (by omega), cnt_succ T j (by omega), List.getElem?_eq_getElem (by omega)]
    dsimp only
    by_cases e : T.getD j [] = []
    · rw [if_pos e, if_pos e]; rfl
    · rw [if_neg e, if_neg e]; rfl

theorem prn_get (g : Nat) (T : Tbl) (l : List Nd) (hT : T.length = l.length) : ∀ j, j ≤ l.length → ∀ i nd, i < j → l[i]? = some nd → T.getD i [] ≠ [] → (prnL g T l j)[cntF T i]? = some (prnN g T nd (T.getD i []))
  | 0, _, i, nd, h, _, _ => by omega
  | j + 1, hj, i, nd, h, hnd, hne => by
    have hl := prn_len g T l hT j (by omega)
    rw [prnL]
    rcases Nat.lt_succ_iff_lt_or_eq.1 h with h' | rfl
    · have := prn_get g T l hT j (by omega) i nd h' hnd hne
      rw [List.getElem?_append_left (List.getElem?_eq_some_iff.1 this).1]
      exact this
    · rw [List.getElem?_append_right (by omega), hl, Nat.sub_self, hnd]
      dsimp only
      rw [if_neg hne]
      rfl

/-- Two nodes that do the same. -/
structure Eqn (a b : Nd) : Prop where
  op : a.op = b.op
  x : a.x = b.x
  y : a.y = b.y
  v : a.v = b.v
  k : a.k = b.k
  t : a.t = b.t
  f : a.f = b.f

/-- The nodes l' are what is left of l by the table T. -/
structure Prn (l : List Nd) (T : Tbl) (l' : List Nd) : Prop where
  len : l'.length = cntF T T.length
  at' : ∀ i nd, l[i]? = some nd → T.getD i [] ≠ [] → ∃ nd', l'[cntF T i]? = some nd' ∧ Eqn nd' (prnN 0 T nd (T.getD i []))

theorem beh_op {a b : Nd} (h1 : a.op = b.op) (h2 : a.x = b.x) (h3 : a.y = b.y) (h4 : a.v = b.v) (h5 : a.k = b.k) (S : St) : behF a S = behF b S := by
  unfold behF; rw [h1, h2, h3, h4, h5]
theorem hld_op {a b : Nd} (h1 : a.op = b.op) (h3 : a.y = b.y) (h5 : a.k = b.k) (y : Bool) (S : St) : hldF a y S = hldF b y S := by
  unfold hldF wayM; rw [h1, h3, h5]

/-- What a node is when it is pruned. -/
theorem prn_cases (T : Tbl) (nd : Nd) (S : St) (nd' : Nd) (h : Eqn nd' (prnN 0 T nd S)) :
    ((nd.op = 121 ∨ nd.op = 58) ∧ hldF nd true S ≠ [] ∧ hldF nd false S ≠ [] ∧ nd'.op = nd.op ∧ nd'.x = nd.x ∧ nd'.y = nd.y ∧ nd'.v = nd.v ∧ nd'.k = nd.k ∧ nd'.t = (renF T nd.t.toNat (hldF nd true S) : Nat) ∧ nd'.f = (renF T nd.f.toNat (hldF nd false S) : Nat)) ∨
    ((nd.op = 121 ∨ nd.op = 58) ∧ hldF nd true S = [] ∧ nd'.op = 42 ∧ nd'.x = 0 ∧ nd'.y = 0 ∧ nd'.v = 0 ∧ nd'.t = (renF T nd.f.toNat (hldF nd false S) : Nat)) ∨
    ((nd.op = 121 ∨ nd.op = 58) ∧ hldF nd true S ≠ [] ∧ hldF nd false S = [] ∧ nd'.op = 42 ∧ nd'.x = 0 ∧ nd'.y = 0 ∧ nd'.v = 0 ∧ nd'.t = (renF T nd.t.toNat (hldF nd true S) : Nat)) ∨
    (¬ (nd.op = 121 ∨ nd.op = 58) ∧ nd'.op = nd.op ∧ nd'.x = nd.x ∧ nd'.y = nd.y ∧ nd'.v = nd.v ∧ nd'.k = nd.k ∧ (nd.op ≠ 33 → nd'.t = (renF T nd.t.toNat (behF nd S) : Nat)) ∧ (nd.op = 33 → nd'.t = nd.t)) := by
  obtain ⟨h1, h2, h3, h4, h5, h6, h7⟩ := h
  unfold prnN at h1 h2 h3 h4 h5 h6 h7
  by_cases ht : nd.op = 121 ∨ nd.op = 58
  · rw [if_pos ht] at h1 h2 h3 h4 h5 h6 h7
    by_cases hb : hldF nd true S ≠ [] ∧ hldF nd false S ≠ []
    · rw [if_pos hb] at h1 h2 h3 h4 h5 h6 h7
      exact .inl ⟨ht, hb.1, hb.2, h1, h2, h3, h4, h5, h6, h7⟩
    · rw [if_neg hb] at h1 h2 h3 h4 h5 h6 h7
      by_cases hz : hldF nd true S = []
      · rw [if_pos hz] at h6
        exact .inr (.inl ⟨ht, hz, h1, h2, h3, h4, h6⟩)
      · rw [if_neg hz] at h6
        exact .inr (.inr (.inl ⟨ht, hz, Classical.byContradiction (fun hc => hb ⟨hz, hc⟩), h1, h2, h3, h4, h6⟩))
  · rw [if_neg ht] at h1 h2 h3 h4 h5 h6 h7
    refine .inr (.inr (.inr ?_))
    by_cases h33 : nd.op = 33
    · rw [if_pos h33] at h1 h2 h3 h4 h5 h6 h7
      exact ⟨ht, h1, h2, h3, h4, h5, fun e => absurd h33 e, fun _ => h6⟩
    · rw [if_neg h33] at h1 h2 h3 h4 h5 h6 h7
      exact ⟨ht, h1, h2, h3, h4, h5, fun _ => h6, fun e => absurd e h33⟩

/-- Where a test goes one way alone, the state is what comes along it. -/
theorem hld_all {nd : Nd} {S : St} (hg : Gn nd) (hS : SOk S) (ht : nd.op = 121 ∨ nd.op = 58) (b : Bool) (h : hldF nd (!b) S = []) : hldF nd b S = S := by
  by_cases h0 : S = []
  · subst h0; unfold hldF withS; rw [if_pos (.inl rfl)]
  · have hy6 : nd.y.toNat < 6 := by have := hg.y; omega
    obtain ⟨h6, hm⟩ := hS.resolve_left h0
    have hz : S.getD nd.y.toNat 0 &&& wayM nd (!b) = 0 := by
      apply Classical.byContradiction
      intro hc
      unfold hldF withS at h
      rw [if_neg (by rintro (e | e); exact h0 e; exact hc e)] at h
      exact h0 (by simpa using congrArg List.length h)
    have hall : wayM nd b ||| wayM nd (!b) = 127 := by
      cases b
      · rw [Nat.or_comm]; exact way_all hg ht
      · exact way_all hg ht
    have hlt := hS.get nd.y.toNat
    have he : S.getD nd.y.toNat 0 &&& wayM nd b = S.getD nd.y.toNat 0 := by
      apply Nat.eq_of_testBit_eq
      intro i
      have e1 := congrArg (fun z => z.testBit i) hz
      have e2 := congrArg (fun z => z.testBit i) hall
      simp only [Nat.testBit_and, Nat.testBit_or, Nat.zero_testBit] at e1 e2 ⊢
      by_cases hi : i < 7
      · have e3 : (127 : Nat).testBit i = true := by
          rcases (show i = 0 ∨ i = 1 ∨ i = 2 ∨ i = 3 ∨ i = 4 ∨ i = 5 ∨ i = 6 by omega) with rfl | rfl | rfl | rfl | rfl | rfl | rfl <;> decide
        rw [e3] at e2
        revert e1 e2
        cases (S.getD nd.y.toNat 0).testBit i <;> cases (wayM nd b).testBit i <;> cases (wayM nd (!b)).testBit i <;> simp
      · have h2 : 128 ≤ 2 ^ i := by
          have : 2 ^ 7 ≤ 2 ^ i := Nat.pow_le_pow_right (by decide) (by omega)
          omega
        rw [Nat.testBit_lt_two_pow (by omega)]
        rfl
    unfold hldF withS
    rw [he, if_neg (by
      rintro (e | e)
      · exact h0 e
      · rw [List.getD_eq_getElem?_getD, List.getElem?_eq_getElem (by omega), Option.getD_some] at e
        exact (hm _ (List.getElem_mem _)).1 e), List.getD_eq_getElem?_getD, List.getElem?_eq_getElem (by omega), Option.getD_some, List.set_getElem_self]

theorem SubS.hld_le {S : St} (n : Nd) (y : Bool) : SubS (hldF n y S) S ∨ S.length ≠ 6 := by
  by_cases h6 : S.length = 6
  · refine .inl ?_
    unfold hldF withS
    split
    · exact .inl rfl
    · refine .inr ⟨by simpa using h6, h6, fun v hv => ?_⟩
      by_cases hx : n.y.toNat = v
      · subst hx
        rw [List.getD_eq_getElem?_getD, List.getElem?_set_self (by omega), Option.getD_some]
        apply Nat.eq_of_testBit_eq
        intro i
        simp only [Nat.testBit_and]
        cases (S.getD n.y.toNat 0).testBit i <;> simp
      · have e : (S.set n.y.toNat (S.getD n.y.toNat 0 &&& wayM n y)).getD v 0 = S.getD v 0 := by
          simp only [List.getD_eq_getElem?_getD]
          rw [List.getElem?_set_ne hx]
        rw [e, Nat.and_self]
  · exact .inr h6

theorem SubS.refl {S : St} (h : SOk S) : SubS S S := by
  rcases h with h | h
  · exact .inl h
  · exact .inr ⟨h.1, h.1, fun v _ => Nat.and_self _⟩

theorem SubS.anti {a b : St} (h : SubS a b) (k : SubS b a) : a = b := by
  rcases h with rfl | ⟨h1, h2, h3⟩
  · exact k.nil_r.symm
  · rcases k with rfl | ⟨_, _, k3⟩
    · cases h2
    · apply List.ext_getElem (by omega)
      intro i hi hj
      have e1 := h3 i (by omega)
      have e2 := k3 i (by omega)
      simp only [List.getD_eq_getElem?_getD, List.getElem?_eq_getElem hi, List.getElem?_eq_getElem hj, Option.getD_some] at e1 e2
      rw [Nat.and_comm] at e2
      exact e1.symm.trans e2

/-- A graph's nodes, with ways that lead to a line or to the end. -/
structure Gl (l : List Nd) : Prop where
  g : ∀ nd ∈ l, Gn nd
  t : ∀ nd ∈ l, nd.op ≠ 33 → 0 ≤ nd.t ∧ nd.t ≤ l.length
  f : ∀ nd ∈ l, nd.op = 121 ∨ nd.op = 58 → 0 ≤ nd.f ∧ nd.f ≤ l.length
  n : l.length ≤ 90

/-- Where a way leads along which a state comes. -/
theorem way_to {l : List Nd} {j : Int} {s : St} (hs : s ≠ []) (h0 : 0 ≤ j) (h : Rch (lstF l) j s) :
    l.length ≤ j ∨ ((j.toNat < l.length) ∧ (lstF l).getD j.toNat [] ≠ [] ∧ SubS s ((lstF l).getD j.toNat [])) := by
  rcases h with h | h | h | h
  · omega
  · rw [lst_len] at h; exact .inl h
  · exact absurd h hs
  · by_cases hl : (l.length : Int) ≤ j
    · exact .inl hl
    · exact .inr ⟨by omega, h.ne hs, h⟩

theorem ren_end {T : Tbl} {j : Int} (s : St) (h : (T.length : Int) ≤ j) : renF T j.toNat s = cntF T T.length := by
  unfold renF
  split
  · rfl
  · exact cnt_top T (by omega)

theorem ren_way {T : Tbl} {j : Nat} {s : St} (h : s ≠ []) : renF T j s = cntF T j := by unfold renF; rw [if_neg h]

/-- A way's goal in what is left. -/
theorem rch_new {l : List Nd} {j : Int} {s : St} (h0 : 0 ≤ j) (h : s ≠ [] → Rch (lstF l) j s) :
    RchR (cntF (lstF l) (lstF l).length) (fun k => (kept (lstF l)).getD k []) (renF (lstF l) j.toNat s : Nat) s := by
  by_cases hs : s = []
  · exact .inr (.inr (.inl hs))
  · rcases way_to hs h0 (h hs) with h1 | ⟨h1, h2, h3⟩
    · refine .inr (.inl ?_)
      rw [ren_end s (by rw [lst_len]; exact h1)]
      exact Int.le_refl _
    · refine .inr (.inr (.inr ?_))
      rw [ren_way hs, Int.toNat_natCast]
      show SubS s ((kept (lstF l)).getD _ [])
      rw [kept_getD h2]
      exact h3

theorem prn_ob {l l' : List Nd} (hl : Gl l) (h : Prn l (lstF l) l') : ObR l' (fun k => (kept (lstF l)).getD k []) := by
  have hlen := lst_len l
  constructor
  · intro hne
    have hpos : 0 < cntF (lstF l) (lstF l).length := by rw [← h.len]; exact List.length_pos_iff.2 hne
    have hln : l ≠ [] := by
      intro e
      obtain ⟨i, h1, _⟩ := cnt_up (lstF l) _ 0 hpos (Nat.le_refl _)
      rw [lst_len, e] at h1
      exact absurd h1 (Nat.not_lt_zero _)
    have hs := lst_start l hln
    rcases hs with h1 | h1 | h1 | h1
    · exact absurd h1 (by decide)
    · have := List.length_pos_iff.2 hln; omega
    · cases h1
    · have h2 : (lstF l).getD 0 [] ≠ [] := h1.ne (by decide)
      have h3 := kept_getD h2
      have h4 : cntF (lstF l) 0 = 0 := by simp [cntF]
      rw [h4] at h3
      show SubS st0 ((kept (lstF l)).getD 0 [])
      rw [h3]
      exact h1
  · intro k nd' hnd'
    have hk : k < cntF (lstF l) (lstF l).length := by rw [← h.len]; exact (List.getElem?_eq_some_iff.1 hnd').1
    obtain ⟨i, hi, hne, rfl⟩ := cnt_up (lstF l) _ k hk (Nat.le_refl _)
    have hil : i < l.length := by omega
    have hnd : l[i]? = some l[i] := List.getElem?_eq_getElem hil
    obtain ⟨nd2, h1, h2⟩ := h.at' i l[i] hnd hne
    obtain rfl : nd2 = nd' := Option.some.inj (h1.symm.trans hnd')
    have hmem := List.getElem_mem hil
    generalize l[i] = nd at *
    have hkp := (lst_keeps l hl.n i nd hnd).resolve_left hne
    rw [h.len]
    show KeepsR _ nd2 _ ((kept (lstF l)).getD (cntF (lstF l) i) [])
    rw [kept_getD hne]
    have hSO := (lst_ok l).get i
    generalize (lstF l).getD i [] = S at *
    rcases prn_cases _ nd S nd2 h2 with ⟨ht, b1, b2, e1, e2, e3, e4, e5, e6, e7⟩ | ⟨ht, b1, e1, e2, e3, e4, e6⟩ | ⟨ht, b1, b2, e1, e2, e3, e4, e6⟩ | ⟨ht, e1, e2, e3, e4, e5, e6, e7⟩
    · refine .inr ⟨fun hc => absurd (by rw [e1]; exact ht) hc, fun _ => ?_⟩
      rw [hld_op e1 e3 e5, hld_op e1 e3 e5, e6, e7]
      exact ⟨rch_new (hl.t nd hmem (by omega)).1 (fun _ => (hkp.2 ht).1), rch_new (hl.f nd hmem ht).1 (fun _ => (hkp.2 ht).2)⟩
    · refine .inr ⟨fun _ => ?_, fun hc => by rw [e1] at hc; exact absurd hc (by decide)⟩
      have hb : behF nd2 S = S := by unfold behF; rw [if_neg (by rw [e1]; decide), if_pos (.inl e1)]
      have hall := hld_all (hl.g nd hmem) hSO ht false b1
      rw [hb, e6, hall]
      exact rch_new (hl.f nd hmem ht).1 (fun _ => by have := (hkp.2 ht).2; rwa [hall] at this)
    · refine .inr ⟨fun _ => ?_, fun hc => by rw [e1] at hc; exact absurd hc (by decide)⟩
      have hb : behF nd2 S = S := by unfold behF; rw [if_neg (by rw [e1]; decide), if_pos (.inl e1)]
      have hall := hld_all (hl.g nd hmem) hSO ht true b2
      rw [hb, e6, hall]
      exact rch_new (hl.t nd hmem (by omega)).1 (fun _ => by have := (hkp.2 ht).1; rwa [hall] at this)
    · refine .inr ⟨fun _ => ?_, fun hc => absurd (by rw [← e1]; exact hc) ht⟩
      rw [beh_op e1 e2 e3 e4 e5]
      by_cases h33 : nd.op = 33
      · exact .inr (.inr (.inl (by unfold behF; rw [if_pos h33])))
      · rw [e6 h33]
        exact rch_new (hl.t nd hmem h33).1 (fun _ => hkp.1 ht)

/-- A way of the old graph, by the table of the new one. -/
theorem rch_old {l l' : List Nd} (hlen : l'.length = cntF (lstF l) (lstF l).length) {j : Int} {s s2 : St} (h0 : 0 ≤ j) (hs : s ≠ []) (h : Rch (lstF l) j s)
    (hR : Rch (lstF l') (renF (lstF l) j.toNat s : Nat) s2) :
    RchR l.length (fun i => if (lstF l).getD i [] = [] then [] else (lstF l').getD (cntF (lstF l) i) []) j s2 := by
  rcases way_to hs h0 h with h1 | ⟨h1, h2, h3⟩
  · exact .inr (.inl h1)
  · have hc := cnt_lt h2
    rw [ren_way hs] at hR
    rcases hR with hR | hR | hR | hR
    · omega
    · rw [lst_len] at hR; omega
    · exact .inr (.inr (.inl hR))
    · refine .inr (.inr (.inr ?_))
      show SubS s2 (if (lstF l).getD j.toNat [] = [] then [] else (lstF l').getD (cntF (lstF l) j.toNat) [])
      rw [if_neg h2]
      rwa [Int.toNat_natCast] at hR

theorem prn_ob' {l l' : List Nd} (hl : Gl l) (h : Prn l (lstF l) l') : ObR l (fun i => if (lstF l).getD i [] = [] then [] else (lstF l').getD (cntF (lstF l) i) []) := by
  have h90 : l'.length ≤ 90 := by rw [h.len]; have := cnt_le (lstF l) (lstF l).length; have := lst_len l; have := hl.n; omega
  have hle := lst_least (prn_ob hl h)
  constructor
  · intro hln
    have hs := lst_start l hln
    have hp := List.length_pos_iff.2 hln
    rcases hs with h1 | h1 | h1 | h1
    · exact absurd h1 (by decide)
    · rw [lst_len] at h1; omega
    · cases h1
    · have h2 : (lstF l).getD 0 [] ≠ [] := h1.ne (by decide)
      have hc := cnt_lt h2
      have h4 : cntF (lstF l) 0 = 0 := by simp [cntF]
      show SubS st0 (if (lstF l).getD 0 [] = [] then [] else (lstF l').getD (cntF (lstF l) 0) [])
      rw [if_neg h2, h4]
      have hne' : l' ≠ [] := List.length_pos_iff.1 (by rw [h.len]; omega)
      rcases lst_start l' hne' with q | q | q | q
      · exact absurd q (by decide)
      · rw [lst_len] at q; have := List.length_pos_iff.2 hne'; omega
      · cases q
      · exact q
  · intro i nd hnd
    by_cases hne : (lstF l).getD i [] = []
    · exact .inl (if_pos hne)
    · show KeepsR _ _ _ (if (lstF l).getD i [] = [] then [] else (lstF l').getD (cntF (lstF l) i) [])
      rw [if_neg hne]
      obtain ⟨nd2, h1, h2⟩ := h.at' i nd hnd hne
      have hmem := List.mem_of_getElem? hnd
      have hkp := (lst_keeps l hl.n i nd hnd).resolve_left hne
      have hk2 := lst_keeps l' h90 _ nd2 h1
      have hsub : SubS ((lstF l').getD (cntF (lstF l) i) []) ((lstF l).getD i []) := by
        have := hle (cntF (lstF l) i) (by rw [h.len]; exact cnt_lt hne)
        rwa [kept_getD hne] at this
      have hSO := (lst_ok l).get i
      have hSO2 := (lst_ok l').get (cntF (lstF l) i)
      generalize (lstF l').getD (cntF (lstF l) i) [] = S2 at *
      generalize (lstF l).getD i [] = S at *
      rcases hk2 with hk2 | hk2
      · exact .inl hk2
      · by_cases hz : S2 = []
        · exact .inl hz
        have h6 : S2.length = 6 := (hSO2.resolve_left hz).1
        have hle2 : ∀ b, SubS (hldF nd b S2) S2 := fun b => (SubS.hld_le nd b).resolve_right (fun e => e h6)
        rcases prn_cases _ nd S nd2 h2 with ⟨ht, b1, b2, e1, e2, e3, e4, e5, e6, e7⟩ | ⟨ht, b1, e1, e2, e3, e4, e6⟩ | ⟨ht, b1, b2, e1, e2, e3, e4, e6⟩ | ⟨ht, e1, e2, e3, e4, e5, e6, e7⟩
        · have hq := hk2.2 (by rw [e1]; exact ht)
          rw [hld_op e1 e3 e5, hld_op e1 e3 e5, e6, e7] at hq
          exact .inr ⟨fun hc => absurd ht hc, fun _ => ⟨rch_old h.len (hl.t nd hmem (by omega)).1 b1 (hkp.2 ht).1 hq.1, rch_old h.len (hl.f nd hmem ht).1 b2 (hkp.2 ht).2 hq.2⟩⟩
        · have hq := hk2.1 (by rw [e1]; decide)
          have hb : behF nd2 S2 = S2 := by unfold behF; rw [if_neg (by rw [e1]; decide), if_pos (.inl e1)]
          rw [hb, e6] at hq
          have hall := hld_all (hl.g nd hmem) hSO ht false b1
          have hSne : hldF nd false S ≠ [] := by rw [hall]; exact hsub.ne hz
          have hz1 : hldF nd true S2 = [] := SubS.nil_r (b1 ▸ hsub.hld nd true)
          refine .inr ⟨fun hc => absurd ht hc, fun _ => ⟨.inr (.inr (.inl hz1)), ?_⟩⟩
          have := rch_old h.len (hl.f nd hmem ht).1 hSne (hkp.2 ht).2 hq
          exact this.sub (hle2 false)
        · have hq := hk2.1 (by rw [e1]; decide)
          have hb : behF nd2 S2 = S2 := by unfold behF; rw [if_neg (by rw [e1]; decide), if_pos (.inl e1)]
          rw [hb, e6] at hq
          have hall := hld_all (hl.g nd hmem) hSO ht true b2
          have hz1 : hldF nd false S2 = [] := SubS.nil_r (b2 ▸ hsub.hld nd false)
          refine .inr ⟨fun hc => absurd ht hc, fun _ => ⟨?_, .inr (.inr (.inl hz1))⟩⟩
          have := rch_old h.len (hl.t nd hmem (by omega)).1 b1 (hkp.2 ht).1 hq
          exact this.sub (hle2 true)
        · have hq := hk2.1 (by rw [e1]; exact ht)
          rw [beh_op e1 e2 e3 e4 e5] at hq
          refine .inr ⟨fun _ => ?_, fun hc => absurd hc ht⟩
          by_cases h33 : nd.op = 33
          · exact .inr (.inr (.inl (by unfold behF; rw [if_pos h33])))
          · rw [e6 h33] at hq
            by_cases hbz : behF nd S2 = []
            · exact .inr (.inr (.inl hbz))
            · have hbs := hsub.beh nd
              exact rch_old h.len (hl.t nd hmem h33).1 (hbs.ne hbz) (hkp.1 ht) hq

/-- The least table of what is left: the states that are left. -/
theorem lst_prn {l l' : List Nd} (hl : Gl l) (h : Prn l (lstF l) l') : lstF l' = kept (lstF l) := by
  have h1 := lst_least (prn_ob hl h)
  have h2 := lst_least (prn_ob' hl h)
  apply List.ext_getElem (by rw [lst_len, h.len, kept_len])
  intro k hk hk2
  have hk' : k < cntF (lstF l) (lstF l).length := by rw [← kept_len]; exact hk2
  obtain ⟨i, hi, hne, rfl⟩ := cnt_up (lstF l) _ k hk' (Nat.le_refl _)
  rw [lst_len] at hi
  have a := h1 (cntF (lstF l) i) (by rw [h.len]; exact hk')
  have b := h2 i hi
  rw [if_neg hne] at b
  have c := kept_getD hne
  rw [c] at a
  have e := a.anti b
  rw [List.getD_eq_getElem?_getD, List.getElem?_eq_getElem hk, Option.getD_some] at e
  rw [List.getD_eq_getElem?_getD, List.getElem?_eq_getElem hk2, Option.getD_some] at c
  rw [e, c]
end Go.Proofs.YtellieabhaphhabGreatDoor
