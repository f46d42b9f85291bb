import Derived.Test.YtellieabhaphhaaGreatDoorPartO
import Derived.Test.YtellieabhaphhaaGreatDoorPartC
/-
  narrowref's Accept.
-/
namespace Go.Proofs.YtellieabhaphhaaGreatDoor
open Go.RowKit

/-- What Accept says of a graph. -/
def accF (l : List Nd) : Int × Nat := accG l.length (fauA l (lstF l))

def ei2 (c p : Int) : Ending := .returned (.tuple #[.int .i64 c, .int .i64 p])

set_option maxHeartbeats 1600000 in
theorem raccept_long (s : ByteArray) (w : World) (hm : s.size ≤ maxLen) (hs : 900 < s.size) :
    Calls Tryz.prog 51 #[.string s] w fun e w' => e = ei2 1 0 ∧ Kp no w w' := by
  have HS := hide (lines_long s w hm hs)
  go_enter Tryz.func51, Tryz.ntmps51
  go_wp2_with fail
  refine HS.out.mono ?_
  rintro e w1 ⟨⟨r, rfl⟩, k1⟩
  go_wp2
  go_ret2
  exact ⟨rfl, k1⟩

set_option maxHeartbeats 1600000 in
theorem raccept_bad (s : ByteArray) (w : World) (hs : s.size ≤ 900) (hb : (graE s).1 ≠ 0) :
    Calls Tryz.prog 51 #[.string s] w fun e w' => e = ei2 (graE s).1 (graE s).2 ∧ Kp no w w' := by
  have HS := hide (lines_c s w hs)
  have hb' : (((graE s).1 : Int) == 0) = false := by simp; omega
  unfold LinPost at HS
  generalize graE s = ge at *
  obtain ⟨ge1, ge2⟩ := ge
  dsimp only at *
  clear hb
  go_enter Tryz.func51, Tryz.ntmps51
  go_wp2_with fail
  refine HS.out.mono ?_
  rintro e w1 ⟨r, O, rfl, hr, k1, hO⟩
  clear hr hO
  go_wp2
  go_ret2
  exact ⟨rfl, k1⟩

set_option maxRecDepth 100000 in
set_option maxHeartbeats 3200000 in
theorem raccept_good (s : ByteArray) (w : World) (hs : s.size ≤ 900) (hb : graE s = (0, 0)) (hg : ∀ n ∈ (graF s).nodes, Gn n) :
    Calls Tryz.prog 51 #[.string s] w fun e w' => e = ei2 (accF (graF s).nodes).1 (accF (graF s).nodes).2 ∧ Kp no w w' := by
  have HS := hide (lines_c s w hs)
  have hlen := (graF_inv s).2
  unfold LinPost at HS
  rw [hb] at HS
  clear hb
  generalize graF s = st at *
  go_enter Tryz.func51, Tryz.ntmps51
  go_wp2_with fail
  refine HS.out.mono ?_
  rintro e w1 ⟨r, O, rfl, hr, k1, hO⟩
  obtain ⟨a, cap, n3, hD, hrl⟩ := rp_drow hr
  have HD := hide hD
  have HN3 := hide n3
  clear hr hO hD HS
  go_wp2_with fail
  refine (least_c _ st.nodes _ HD.out hlen hg).mono ?_
  rintro e w2 ⟨u, rfl, hu, k2⟩
  obtain ⟨tb, c2, rfl, htb, hat⟩ := hu
  rw [lst_len] at hat ⊢
  have HAT := hide hat
  have HD2 := hide (k2.row HD.out (fun _ _ => no_elim))
  have HN2 := hide ((k2.cell hrl no_elim 3).trans HN3.out)
  have hr2 := Nat.lt_of_lt_of_le hrl k2.size
  have HKW := hide (k1.trans k2 (fun _ _ e => e))
  have HACC : Hid (accF st.nodes = accG st.nodes.length (fauA st.nodes (lstF st.nodes))) := rfl
  have HOK := hide (lst_ok st.nodes)
  clear hat k1 k2 HD HN3 n3 hrl
  generalize lstF st.nodes = T at *
  generalize hl0 : st.nodes = l at *
  have HL0 := hide hl0
  clear hl0
  go_wp2
  go_loopg [8] l.length (fun k iv wr => ∃ j : Nat, j ≤ l.length ∧ k = l.length - j ∧ iv = .int .i64 j ∧ (∀ i, i < j → fauA l T i = 0) ∧ Kp no w2 wr)
  case atStart => exact ⟨0, Nat.zero_le _, rfl, rfl, fun i hi => by omega, Kp.refl _ _⟩
  case round =>
    obtain ⟨j, hj, hk, rfl, hz, kr⟩ := hrel
    have HKK := hide hk
    have HZ := hide hz
    have HKR := hide kr
    clear hk hz kr
    by_cases hlt : j < l.length
    · obtain ⟨nd, hnd⟩ : ∃ nd, l[j]? = some nd := ⟨_, List.getElem?_eq_getElem hlt⟩
      have HND := hide hnd
      have HGN := hide (hg nd (List.mem_of_getElem? hnd))
      have HFA := hide (show fauA l T j = fauF nd (T.getD j []) by rw [fauA, hnd])
      obtain ⟨_, gn, ha, _⟩ := DRow.at HD2.out hnd
      subst ha
      obtain ⟨a1, p1, q0w, q1w⟩ := HAT.out j hlt
      have HSO := hide (HOK.out.get j)
      clear hnd
      generalize T.getD j [] = S at *
      have hjI : (j : Int) < l.length := by omega
      have q0 := (HKR.out.cell htb no_elim j).trans q0w
      have HQ1 := hide q1w
      have HR2 := hide (HKR.out.row HD2.out (fun _ _ => no_elim))
      obtain ⟨gnl, n0, n1, n2, n3, n4, n5, n6, n7, n8⟩ := DRow.at2 HR2.out HND.out
      have c3 := (HKR.out.cell hr2 no_elim 3).trans HN2.out
      have htr := Nat.lt_of_lt_of_le htb HKR.out.size
      have hrr := Nat.lt_of_lt_of_le hr2 HKR.out.size
      clear q0w q1w
      by_cases hS0 : S = []
      · have HF0 := hide (show fauA l T j = 0 by rw [HFA.out, fauF, if_pos hS0])
        subst hS0
        go_wp2
        go_roundg (l.length - (j + 1))
        case measure => have := HKK.out; omega
        case rel => exact ⟨j + 1, by omega, rfl, by go_num, fun i hi => by
          rcases Nat.lt_or_ge i j with h1 | h1
          · exact HZ.out i h1
          · obtain rfl : i = j := by omega
            exact HF0.out, HKR.out⟩
      · have h6 : S.length = 6 := (HSO.out.resolve_left hS0).1
        have hSI : (0 : Int) < (S.length : Int) := by omega
        clear h6
        have HFF := hide (show fauA l T j = if fitF nd S then 0 else if nd.op = 33 then 6 else 5 by rw [HFA.out, fauF, if_neg hS0])
        go_wp2_with fail
        go_cut [9] from 25 (fun okv W5 => okv = .bool (fitF nd S) ∧ Kp no w2 W5)
        case first =>
          go_region_with (go_at_call 90; refine (fits_c nd _ S _ (Kp.row (S := no) (HKR.out.trans (S' := no) (by (repeat' (first | with_reducible exact Kp.refl _ _ | with_reducible refine Kp.alloc ?_ _ | with_reducible refine Kp.drewN ?_ _ | with_reducible refine Kp.drew ?_ | with_reducible refine Kp.setCell ?_ _ ?_ | (intro hh; first | rfl | exact .inl rfl | exact .inr rfl | (exfalso; (try dsimp only at hh); omega))))) (fun _ _ e => e)) HQ1.out (fun _ _ => no_elim)) HSO.out hS0 HGN.out).mono ?_; rintro e w5 ⟨rfl, k5⟩)
          all_goals
            go_wp2
            go_meet
            case rel =>
              have k6 : Kp no wr w5 := Kp.trans (by (repeat' (first | with_reducible exact Kp.refl _ _ | with_reducible refine Kp.alloc ?_ _ | with_reducible refine Kp.drewN ?_ _ | with_reducible refine Kp.drew ?_ | with_reducible refine Kp.setCell ?_ _ ?_ | (intro hh; first | rfl | exact .inl rfl | exact .inr rfl | (exfalso; (try dsimp only at hh); omega))))) k5 (fun _ _ e => e)
              exact ⟨rfl, HKR.out.trans (S' := no) (by (repeat' (first | with_reducible exact Kp.refl _ _ | with_reducible refine Kp.alloc ?_ _ | with_reducible refine Kp.drewN ?_ _ | with_reducible refine Kp.drew ?_ | with_reducible refine Kp.setCell ?_ _ ?_ | with_reducible refine Kp.trans ?_ k6 (fun _ _ e => e) | (intro hh; first | rfl | exact .inl rfl | exact .inr rfl | (exfalso; (try dsimp only at hh); omega))))) (fun _ _ e => e)⟩
        case rest =>
          obtain ⟨rfl, kc⟩ := hcut
          clear q0 gnl n0 n1 n2 n3 n4 n5 n6 n7 n8 c3 htr hrr
          have HR2' := hide (kc.row HD2.out (fun _ _ => no_elim))
          obtain ⟨gnl, n0, n1, n2, n3, n4, n5, n6, n7, n8⟩ := DRow.at2 HR2'.out HND.out
          have c3 := (kc.cell hr2 no_elim 3).trans HN2.out
          have htr := Nat.lt_of_lt_of_le htb kc.size
          have hrr := Nat.lt_of_lt_of_le hr2 kc.size
          have HKC := hide kc
          clear kc
          cases hfit : fitF nd S
          · rw [hfit] at HFF
            clear hfit
            by_cases h33 : nd.op = 33
            · have HR := hide (show accG l.length (fauA l T) = (6, j) by
                have e6 : fauA l T j = 6 := by rw [HFF.out, if_neg (by decide), if_pos h33]
                have := accG_at hlt (f := fauA l T) (by rw [e6]; decide) HZ.out
                rw [e6] at this
                exact this)
              rw [h33] at n0
              clear h33
              go_wp2
              go_ret2
              rw [HL0.out, HACC.out, HR.out]
              exact ⟨rfl, HKW.out.trans HKC.out (fun _ _ e => e)⟩
            · have HR := hide (show accG l.length (fauA l T) = (5, j) by
                have e6 : fauA l T j = 5 := by rw [HFF.out, if_neg (by decide), if_neg h33]
                have := accG_at hlt (f := fauA l T) (by rw [e6]; decide) HZ.out
                rw [e6] at this
                exact this)
              have g33 : (nd.op == 33) = false := by simpa using h33
              clear h33
              go_wp2
              go_ret2
              rw [HL0.out, HACC.out, HR.out]
              exact ⟨rfl, HKW.out.trans HKC.out (fun _ _ e => e)⟩
          · rw [hfit] at HFF
            have HF0 := hide (show fauA l T j = 0 by rw [HFF.out, if_pos rfl])
            clear hfit
            go_wp2
            go_roundg (l.length - (j + 1))
            case measure => have := HKK.out; omega
            case rel => exact ⟨j + 1, by omega, rfl, by go_num, fun i hi => by
              rcases Nat.lt_or_ge i j with h1 | h1
              · exact HZ.out i h1
              · obtain rfl : i = j := by omega
                exact HF0.out, HKC.out⟩
    · obtain rfl : j = l.length := by omega
      have HR := hide (accG_none (f := fauA l T) HZ.out)
      go_wp2
      go_ret2
      rw [HL0.out, HACC.out, HR.out]
      exact ⟨rfl, HKW.out.trans HKR.out (fun _ _ e => e)⟩
end Go.Proofs.YtellieabhaphhaaGreatDoor

/-
  Accept: narrow's answer is the answer's.
-/
namespace Go.Proofs.YtellieabhaphhaaGreatDoor
open Go.RowKit

set_option maxRecDepth 100000 in
set_option maxHeartbeats 1600000 in
theorem stateOf_b (tb n : Nat) (T : Tbl) (i : Nat) (w : World) (h : Blk w tb (tCells T) 102) (hl : T.length = n) (hi : i < n) :
    Calls Tryz.prog 76 #[.slice (some ⟨tb, 0, none⟩) n n, .int .i64 i] w fun e w' => e = .returned (.agg (zc (encZ (T.getD i []))).toArray) ∧ Kp no w w' := by
  obtain ⟨m0, m1, m2, m3, m4, m5, hm⟩ : ∃ m0 m1 m2 m3 m4 m5, encZ (T.getD i []) = [m0, m1, m2, m3, m4, m5] := by
    match encZ (T.getD i []), encZ6 (T.getD i []) with
    | [m0, m1, m2, m3, m4, m5], _ => exact ⟨m0, m1, m2, m3, m4, m5, rfl⟩
  obtain ⟨c0, c1, c2, c3, c4, c5⟩ := tb_at h (by rw [hl]; exact hi) hm
  have htl := h.lt
  rw [hm]
  have d0 : decide ((i : Int) < 0) = false := by simp
  have d1 : decide ((n : Int) ≤ i) = false := by simp; omega
  have d2 : (i : Int) < n := by omega
  have d3 : decide (n ≤ i) = false := by simp; omega
  clear h hm hl
  go_enter Tryz.func76, Tryz.ntmps76
  go_wp2
  refine body_agg (Tb := 102) (b := w.heap.size) (cs := [.int .i64 m0, .int .i64 m1, .int .i64 m2, .int .i64 m3, .int .i64 m4, .int .i64 m5]) (.inr rfl) Tryz.results76 rfl rfl (by (repeat' (first | ((with_reducible show (_ : List Value) = _); rfl) | ((with_reducible refine Blk.newAt _ _ _ ?_); first | with_reducible rfl | (simp; done)) | with_reducible refine Blk.alloc ?_ _ | with_reducible refine Blk.drewN ?_ _ | with_reducible refine Blk.drew ?_ | ((with_reducible refine Blk.other ?_ _ ?_); rotate_left; ((try dsimp only); omega)) | with_reducible refine Blk.setB (cs0 := ?_) ?_ ?_))) Tryz.underlying102 rfl (by kernel_rfl) ?_
  exact ⟨rfl, by (repeat' (first | with_reducible exact Kp.refl _ _ | with_reducible refine Kp.alloc ?_ _ | with_reducible refine Kp.drewN ?_ _ | with_reducible refine Kp.drew ?_ | with_reducible refine Kp.setCell ?_ _ ?_ | (intro hh; first | rfl | exact .inl rfl | exact .inr rfl | (exfalso; (try dsimp only at hh); omega))))⟩

set_option maxRecDepth 100000 in
set_option maxHeartbeats 1600000 in
theorem firstFault_c (s : ByteArray) (v : Value) (l : List Nd) (tb : Nat) (T : Tbl) (w : World) (h : NRow w v (l.map (encX s))) (hB : Blk w tb (tCells T) 102) (hTl : T.length = l.length) (hT : TOk T) (hl : l.length ≤ 90) (hg : ∀ n ∈ l, Gd s n) :
    Calls Tryz.prog 46 #[v, .slice (some ⟨tb, 0, none⟩) l.length l.length] w fun e w' => e = ei2 (accG l.length (fauA l T)).1 (accG l.length (fauA l T)).2 ∧ Kp no w w' := by
  obtain ⟨a, cap, rfl⟩ := h.shape
  have HD := hide h
  rw [List.length_map]
  have HB := hide hB
  clear h hB
  generalize hAG : accG l.length (fauA l T) = AG at *
  have HAG := hide hAG
  clear hAG
  go_enter Tryz.func46, Tryz.ntmps46
  go_wp2
  go_loopg [12] l.length (fun k iv wr => ∃ j : Nat, j ≤ l.length ∧ k = l.length - j ∧ iv = .int .i64 j ∧ (∀ i, i < j → fauA l T i = 0) ∧ Kp no w wr)
  case atStart => exact ⟨0, Nat.zero_le _, rfl, rfl, fun i hi => by omega, Kp.refl _ _⟩
  case round =>
    obtain ⟨j, hj, hk, rfl, hz, kr⟩ := hrel
    have HKK := hide hk
    have HZ := hide hz
    have HKR := hide kr
    clear hk hz kr
    by_cases hlt : j < l.length
    · obtain ⟨nd, hnd⟩ : ∃ nd, l[j]? = some nd := ⟨_, List.getElem?_eq_getElem hlt⟩
      have HGD := hide (hg nd (List.mem_of_getElem? hnd))
      have HFA := hide (show fauA l T j = fauF nd (T.getD j []) by rw [fauA, hnd])
      obtain ⟨_, gn, ha, hgn, n0, n1, n2, n3, n4, n5, n6, n7, n8, n9, n10⟩ := NRow.at (HKR.out.row HD.out (fun _ _ => no_elim)) (k := j) (n := encX s nd) (by rw [List.getElem?_map, hnd]; rfl)
      subst ha
      have HSO := hide (hT.get j)
      have HST := hide (fun W hW => stateOf_b tb l.length T j W hW hTl hlt)
      have HFO := hide (fun W => faultOf_c nd (s.extract nd.a.toNat (nd.a + nd.l).toNat) (yesN nd) (noN nd) (T.getD j []) W HGD.out.g HSO.out)
      obtain ⟨m0, m1, m2, m3, m4, m5, hm⟩ := z6_six (encZ_z6 HSO.out)
      rw [hm] at HST HFO
      have HST2 : Hid (∀ W, Blk W tb (tCells T) 102 → Calls Tryz.prog 76 #[.slice (some ⟨tb, 0, none⟩) l.length l.length, .int .i64 j] W fun e w' => e = .returned (zv6 m0 m1 m2 m3 m4 m5) ∧ Kp no W w') := HST.out
      rw [show Value.agg (zc [m0, m1, m2, m3, m4, m5]).toArray = zv6 m0 m1 m2 m3 m4 m5 from rfl] at HFO
      rw [← HFA.out] at HFO
      clear HST hm hnd
      dsimp only [encX, encN] at n0 n1 n2 n3 n4 n5 n6 n7 n8 n9 n10
      generalize s.extract nd.a.toNat (nd.a + nd.l).toNat = tx at *
      generalize yesN nd = yn at *
      generalize noN nd = nn at *
      generalize actN nd.op = act at *
      generalize (if nd.op = 43 ∨ nd.op = 60 then nd.v else nd.y) = nwv at *
      generalize (if nd.op = 126 ∨ nd.op = 58 then bit nd.k else 0) = kdv at *
      generalize (consN nd).n = cnn at *
      generalize bit (consN nd).k = ckk at *
      generalize bit (consN nd).v = chh at *
      have hqI : (j : Int) < l.length := by omega
      have HAT := hide (fun hne => accG_at hlt (f := fauA l T) hne HZ.out)
      generalize hF : fauA l T j = F at *
      have HF := hide hF
      clear hF
      go_wp2_with fail
      refine (HST2.out _ ((HKR.out.blk HB.out no_elim).alloc _)).mono ?_
      rintro e w5 ⟨rfl, k5⟩
      have hN5 : Blk w5 wr.heap.size [.string tx, .int .i64 act, .int .i64 nd.x, .int .i64 nd.y, .int .i64 nwv, .int .i64 ckk, .int .i64 cnn, .int .i64 chh, .int .i64 kdv, .int .i64 yn, .int .i64 nn] 91 := k5.blk (by (repeat' (first | ((with_reducible show (_ : List Value) = _); rfl) | ((with_reducible refine Blk.newAt _ _ _ ?_); first | with_reducible rfl | (simp; done)) | with_reducible refine Blk.alloc ?_ _ | with_reducible refine Blk.drewN ?_ _ | with_reducible refine Blk.drew ?_ | ((with_reducible refine Blk.other ?_ _ ?_); rotate_left; ((try dsimp only); omega)) | with_reducible refine Blk.setB (cs0 := ?_) ?_ ?_))) no_elim
      have HK5 := hide (show Kp no w w5 from HKR.out.trans (S' := no) (Kp.trans (by (repeat' (first | with_reducible exact Kp.refl _ _ | with_reducible refine Kp.alloc ?_ _ | with_reducible refine Kp.drewN ?_ _ | with_reducible refine Kp.drew ?_ | with_reducible refine Kp.setCell ?_ _ ?_ | (intro hh; first | rfl | exact .inl rfl | exact .inr rfl | (exfalso; (try dsimp only at hh); omega))))) k5 (fun _ _ e => e)) (fun _ _ e => e))
      clear k5 n0 n1 n2 n3 n4 n5 n6 n7 n8 n9 n10
      obtain ⟨n0, n1, n2, n3, n4, n5, n6, n7, n8, n9, n10, nf⟩ := hN5.c11; have hnl := hN5.lt
      go_wp2_with fail
      refine (HFO.out _).mono ?_
      rintro e w6 ⟨rfl, k6⟩
      have HK6 := hide ((HK5.out.alloc _).trans k6 (fun _ _ e => e))
      by_cases hF0 : F = 0
      · subst hF0
        go_wp2
        go_roundg (l.length - (j + 1))
        case measure => have := HKK.out; omega
        case rel => exact ⟨j + 1, by omega, rfl, by go_num, fun i hi => by
          rcases Nat.lt_or_ge i j with h1 | h1
          · exact HZ.out i h1
          · obtain rfl : i = j := by omega
            exact HF.out, HK6.out⟩
      · have HR := hide (HAT.out hF0)
        have g0 : (F == 0) = false := by simpa using hF0
        have g1 : (F != 0) = true := by simpa using hF0
        clear hF0
        go_wp2
        go_ret2
        rw [← HAG.out, HR.out]
        exact ⟨rfl, HK6.out⟩
    · obtain rfl : j = l.length := by omega
      have HR := hide (accG_none (f := fauA l T) HZ.out)
      go_wp2
      go_ret2
      rw [← HAG.out, HR.out]
      exact ⟨rfl, HKR.out⟩
set_option maxHeartbeats 1600000 in
theorem naccept_long (s : ByteArray) (w : World) (hm : s.size ≤ maxLen) (hs : 900 < s.size) :
    Calls Tryz.prog 27 #[.string s] w fun e w' => e = ei2 1 0 ∧ Kp no w w' := by
  have HS := hide (nog_long s w hm hs)
  go_enter Tryz.func27, Tryz.ntmps27
  go_wp2_with fail
  refine HS.out.mono ?_
  rintro e w1 ⟨rfl, k1⟩
  go_wp2
  go_ret2
  exact ⟨rfl, k1⟩

set_option maxHeartbeats 1600000 in
theorem naccept_bad (s : ByteArray) (w : World) (hs : s.size ≤ 900) (hb : (graE s).1 ≠ 0) :
    Calls Tryz.prog 27 #[.string s] w fun e w' => e = ei2 (graE s).1 (graE s).2 ∧ Kp no w w' := by
  have HS := hide (nog_c s w hs)
  have hb' : (((graE s).1 : Int) == 0) = false := by simp; omega
  unfold NogPost at HS
  generalize graE s = ge at *
  obtain ⟨ge1, ge2⟩ := ge
  dsimp only at *
  clear hb
  go_enter Tryz.func27, Tryz.ntmps27
  go_wp2_with fail
  refine HS.out.mono ?_
  rintro e w1 ⟨v, rfl, k1, _⟩
  go_wp2
  go_ret2
  exact ⟨rfl, k1⟩

set_option maxHeartbeats 1600000 in
theorem naccept_good (s : ByteArray) (w : World) (hs : s.size ≤ 900) (hb : graE s = (0, 0)) :
    Calls Tryz.prog 27 #[.string s] w fun e w' => e = ei2 (accF (graF s).nodes).1 (accF (graF s).nodes).2 ∧ Kp no w w' := by
  have HS := hide (nog_c s w hs)
  have hlen := (graF_inv s).2
  unfold NogPost at HS
  rw [hb] at HS
  clear hb
  generalize graF s = st at *
  have HAC : Hid (accF st.nodes = accG st.nodes.length (fauA st.nodes (lstF st.nodes))) := rfl
  go_enter Tryz.func27, Tryz.ntmps27
  go_wp2_with fail
  refine HS.out.mono ?_
  rintro e w2 ⟨v, rfl, k2, hpost⟩
  obtain ⟨hR, hO, hgd⟩ := hpost trivial
  have HL := hide (leastTable_c s v st.nodes w2 hR hlen hgd)
  have HFF := hide (fun tb W (hW : NRow W v (st.nodes.map (encX s))) hB => firstFault_c s v st.nodes tb (lstF st.nodes) W hW hB (lst_len _) (lst_ok _) hlen hgd)
  have HRR := hide hR
  obtain ⟨a, cap, rfl⟩ := hR.shape
  rw [List.length_map] at HL HFF HRR ⊢
  clear hO hgd hpost HS hR
  go_wp2_with fail
  refine HL.out.mono ?_
  rintro e w3 ⟨tb, rfl, hB, k3⟩
  go_wp2_with fail
  refine (HFF.out tb _ (by exact k3.row HRR.out (fun _ _ => no_elim)) (by exact hB)).mono ?_
  rintro e w4 ⟨rfl, k4⟩
  unfold ei2
  go_wp2
  go_ret2
  rw [HAC.out]
  exact ⟨rfl, (k2.trans k3 (fun _ _ e => e)).trans k4 (fun _ _ e => e)⟩

/-- One call of Accept: both answer this. -/
def AccIs (s : ByteArray) (c p : Int) : Prop :=
  (∀ W, Calls Tryz.prog 27 #[.string s] W fun e w' => e = .returned (.tuple #[.int .i64 c, .int .i64 p]) ∧ Kp no W w') ∧
  (∀ W, Calls Tryz.prog 51 #[.string s] W fun e w' => e = .returned (.tuple #[.int .i64 c, .int .i64 p]) ∧ Kp no W w')

theorem accept_both (s : ByteArray) (hs : s.size ≤ maxLen) : ∃ c p, AccIs s c p := by
  by_cases hs9 : s.size ≤ 900
  · by_cases hb : (graE s).1 = 0
    · obtain ⟨e1, e2⟩ := graE_zero s hb
      obtain ⟨_, g2⟩ := graF_gd s
      exact ⟨_, _, fun W => naccept_good s W hs9 e1, fun W => raccept_good s W hs9 e1 (fun n hn => (g2 e2 n hn).g)⟩
    · exact ⟨_, _, fun W => naccept_bad s W hs9 hb, fun W => raccept_bad s W hs9 hb⟩
  · exact ⟨_, _, fun W => naccept_long s W hs (by omega), fun W => raccept_long s W hs (by omega)⟩
end Go.Proofs.YtellieabhaphhaaGreatDoor

/-
  The laws: one step of Accept.
-/
namespace Go.Proofs.YtellieabhaphhaaGreatDoor
open Go.RowKit

set_option maxRecDepth 100000 in
set_option maxHeartbeats 1600000 in
theorem lplays_accept (b c : Int) (s t u : ByteArray) (w : World) (hs : s.size ≤ maxLen) :
    Calls Tryz.prog 29 #[.agg #[.int .i64 5, .int .i64 b, .int .i64 c, .string s, .string t, .string u]] w fun e w' => e = .returned (.bool true) ∧ Kp no w w' := by
  obtain ⟨z, x, hw⟩ := accept_both s hs
  have HN := hide hw.1
  have HR := hide hw.2
  have HNU := hide (fun W => lnum_c z W)
  clear hw
  go_enter Tryz.func29, Tryz.ntmps29
  go_wp2_with fail
  refine (HN.out _).mono ?_
  rintro e w1 ⟨rfl, k1⟩
  have hO : Blk w1 w.heap.size [.int .i64 5, .int .i64 b, .int .i64 c, .string s, .string t, .string u] 26 := k1.blk (by (repeat' (first | ((with_reducible show (_ : List Value) = _); rfl) | ((with_reducible refine Blk.newAt _ _ _ ?_); first | with_reducible rfl | (simp; done)) | with_reducible refine Blk.alloc ?_ _ | with_reducible refine Blk.drewN ?_ _ | with_reducible refine Blk.drew ?_ | ((with_reducible refine Blk.other ?_ _ ?_); rotate_left; ((try dsimp only); omega)) | with_reducible refine Blk.setB (cs0 := ?_) ?_ ?_))) no_elim
  have o0 := hO.cell 0; have o1 := hO.cell 1; have o2 := hO.cell 2; have o3 := hO.cell 3; have o4 := hO.cell 4; have o5 := hO.cell 5
  simp only [List.getElem?_cons_zero, List.getElem?_cons_succ] at o0 o1 o2 o3 o4 o5
  have of := hO.frozen
  have hz := hO.lt
  go_wp2_with fail
  refine (HR.out _).mono ?_
  rintro e w2 ⟨rfl, k2⟩
  clear o0 o1 o2 o3 o4 o5 of
  go_wp2_with (go_at_call 18; refine (HNU.out _).mono ?_; rintro e w' ⟨rfl, rfl⟩)
  go_ret
  exact ⟨by simp, by (repeat' (first | with_reducible exact Kp.refl _ _ | with_reducible refine Kp.alloc ?_ _ | with_reducible refine Kp.drewN ?_ _ | with_reducible refine Kp.drew ?_ | with_reducible refine Kp.setCell ?_ _ ?_ | with_reducible refine Kp.trans ?_ k1 (fun _ _ e => e) | with_reducible refine Kp.trans ?_ k2 (fun _ _ e => e) | (intro hh; first | rfl | exact .inl rfl | exact .inr rfl | (exfalso; (try dsimp only at hh); omega))))⟩
end Go.Proofs.YtellieabhaphhaaGreatDoor

/-
  Accepts: the row and the card.
-/
namespace Go.Proofs.YtellieabhaphhaaGreatDoor
open Go.ChangeShapes Go.WideShapes Go.ChangeAt Go.RowKit Go.Deep

set_option maxHeartbeats 800000 in
theorem acceptsLaw_c (v : Value) (w : World) (h : Calls Tryz.prog 15 #[v, .int .i64 5, .int .i64 5] w fun e w' => e = .returned (.int .i64 (-1)) ∧ Kp no w w') :
    Calls Tryz.prog 12 #[v] w fun e w' => e = .returned (.bool true) ∧ Kp no w w' := by
  have H := hide h
  clear h
  go_enter Tryz.func12, Tryz.ntmps12
  go_wp2_with fail
  refine H.out.mono ?_
  rintro e w1 ⟨rfl, k1⟩
  go_wp2
  go_ret
  exact ⟨rfl, k1⟩

set_option maxRecDepth 100000 in
/-- For every script, in every world that holds the tables. -/
theorem accepts_contract (H : Type) (enc : TypeId × Value → H) (W : World) (base : Nat) (args : Array Value) (ds gs : List (DataW H)) (before : List MemPlace)
    (hval : ∀ (j : Nat) t v, Tryz.f12.params[j]? = some t → args[j]? = some v → Value.okWide Tryz.prog W .any base t v)
    (hW : DataW.Whole enc Tryz.prog Tryz.f12.params.toList Rows.acceptsSpec.vars false W args.toList ds gs before) (_hL : laidMetH Tryz.prog Rows.acceptsRow.laid W) :
    Calls Tryz.prog 12 args W fun e W' => ∃ v, e = .returned v ∧ Rows.acceptsSpec.post enc Tryz.prog Tryz.f12 false true false false W args v W' := by
  have hW' := hW
  obtain ⟨p, q, hA0, hV, rfl, hfz, hnd⟩ := hW
  have hA : DataW.TrodAll enc Tryz.prog W 0 (fun _ => true) true Tryz.f12.params.toList args.toList ds p := hA0
  rw [Tryz.params12] at hA hval
  obtain ⟨v0, d0, rfl, rfl, h0⟩ := trodAll_one hA
  obtain ⟨rfl, rfl⟩ := trodVars_none hV
  obtain ⟨ao, len, cap, rfl⟩ := okWide_slice Tryz.underlying22 (hval 0 22 v0 rfl rfl)
  have walk : Calls Tryz.prog 12 #[.slice ao len cap] W fun e w' => e = .returned (.bool true) ∧ Kp no W w' :=
    acceptsLaw_c _ W (script_upto h0 (fun _ => True) (fun _ _ _ _ => trivial) trivial 5 5 (fun o ho h1 h2 X hX => by
      have e3 : o.k = 5 := by omega
      rw [e3]
      exact lplays_accept o.b o.c o.s o.t o.u X ho.s))
  have hsh := (script_open h0).2
  refine walk.mono fun e W' ⟨he, k⟩ => ?_
  subst he
  have hold : ∀ q ∈ p, (fun b => decide (b < W.heap.size)) q.block = true := fun q hq => by simpa using hW'.lt q (by simpa using hq)
  refine ⟨_, rfl, [d0], [], p ++ [], [], p, [], hW', ?_, ?_, ?_, ?_, fun h => by cases h⟩
  · exact trodAll_mk1 (shut_bool Tryz.underlying4 _)
  · exact trodAll_mk1 (hsh W' k _ hold)
  · first | exact rfl | exact ⟨rfl, rfl⟩
  · exact Kp.keptBut k _
end Go.Proofs.YtellieabhaphhaaGreatDoor

/-
  Accepts: the card.
-/
namespace Go.Proofs.YtellieabhaphhaaGreatDoor
open Go.ChangeShapes Go.WideShapes Go.ChangeAt Go.RowKit Go.Deep

/-- A block that holds other cells. -/
def lay1 (c : Array Value) : Obj → Obj
  | .cells _ t frozen => .cells c t frozen
  | o => o

theorem laid_met (os : Os) : laidMet Tryz.prog Rows.acceptsRow.laid (({ World.holding Tryz.prog os ⟨#[], #[], []⟩ with heap := (((World.holding Tryz.prog os ⟨#[], #[], []⟩).heap.modify 0 (lay1 #[.int .u64 1, .int .u64 10, .int .u64 100, .int .u64 1000, .int .u64 10000, .int .u64 100000, .int .u64 1000000, .int .u64 10000000, .int .u64 100000000, .int .u64 1000000000, .int .u64 10000000000, .int .u64 100000000000, .int .u64 1000000000000, .int .u64 10000000000000, .int .u64 100000000000000, .int .u64 1000000000000000, .int .u64 10000000000000000, .int .u64 100000000000000000, .int .u64 1000000000000000000, .int .u64 10000000000000000000])).modify 1 (lay1 #[.int .u8 0, .int .u8 1, .int .u8 28, .int .u8 2, .int .u8 29, .int .u8 14, .int .u8 24, .int .u8 3, .int .u8 30, .int .u8 22, .int .u8 20, .int .u8 15, .int .u8 25, .int .u8 17, .int .u8 4, .int .u8 8, .int .u8 31, .int .u8 27, .int .u8 13, .int .u8 23, .int .u8 21, .int .u8 19, .int .u8 16, .int .u8 7, .int .u8 26, .int .u8 12, .int .u8 18, .int .u8 6, .int .u8 11, .int .u8 5, .int .u8 10, .int .u8 9])).modify 2 (lay1 #[.int .u8 0, .int .u8 1, .int .u8 56, .int .u8 2, .int .u8 57, .int .u8 49, .int .u8 28, .int .u8 3, .int .u8 61, .int .u8 58, .int .u8 42, .int .u8 50, .int .u8 38, .int .u8 29, .int .u8 17, .int .u8 4, .int .u8 62, .int .u8 47, .int .u8 59, .int .u8 36, .int .u8 45, .int .u8 43, .int .u8 51, .int .u8 22, .int .u8 53, .int .u8 39, .int .u8 33, .int .u8 30, .int .u8 24, .int .u8 18, .int .u8 12, .int .u8 5, .int .u8 63, .int .u8 55, .int .u8 48, .int .u8 27, .int .u8 60, .int .u8 41, .int .u8 37, .int .u8 16, .int .u8 46, .int .u8 35, .int .u8 44, .int .u8 21, .int .u8 52, .int .u8 32, .int .u8 23, .int .u8 11, .int .u8 54, .int .u8 26, .int .u8 40, .int .u8 15, .int .u8 34, .int .u8 20, .int .u8 31, .int .u8 10, .int .u8 25, .int .u8 14, .int .u8 19, .int .u8 9, .int .u8 13, .int .u8 8, .int .u8 7, .int .u8 6]) } : World).forCall (fun _ _ => 0) ⟨#[], #[.slice none 0 0], []⟩).memory :=
  laidMet_of_run' 8 (by kernel_rfl) (by kernel_rfl)

theorem accepts_reads (os : Os) {H : Type} (enc : TypeId × Value → H) : ∃ places, DataW.whole enc Tryz.prog (({ World.holding Tryz.prog os ⟨#[], #[], []⟩ with heap := (((World.holding Tryz.prog os ⟨#[], #[], []⟩).heap.modify 0 (lay1 #[.int .u64 1, .int .u64 10, .int .u64 100, .int .u64 1000, .int .u64 10000, .int .u64 100000, .int .u64 1000000, .int .u64 10000000, .int .u64 100000000, .int .u64 1000000000, .int .u64 10000000000, .int .u64 100000000000, .int .u64 1000000000000, .int .u64 10000000000000, .int .u64 100000000000000, .int .u64 1000000000000000, .int .u64 10000000000000000, .int .u64 100000000000000000, .int .u64 1000000000000000000, .int .u64 10000000000000000000])).modify 1 (lay1 #[.int .u8 0, .int .u8 1, .int .u8 28, .int .u8 2, .int .u8 29, .int .u8 14, .int .u8 24, .int .u8 3, .int .u8 30, .int .u8 22, .int .u8 20, .int .u8 15, .int .u8 25, .int .u8 17, .int .u8 4, .int .u8 8, .int .u8 31, .int .u8 27, .int .u8 13, .int .u8 23, .int .u8 21, .int .u8 19, .int .u8 16, .int .u8 7, .int .u8 26, .int .u8 12, .int .u8 18, .int .u8 6, .int .u8 11, .int .u8 5, .int .u8 10, .int .u8 9])).modify 2 (lay1 #[.int .u8 0, .int .u8 1, .int .u8 56, .int .u8 2, .int .u8 57, .int .u8 49, .int .u8 28, .int .u8 3, .int .u8 61, .int .u8 58, .int .u8 42, .int .u8 50, .int .u8 38, .int .u8 29, .int .u8 17, .int .u8 4, .int .u8 62, .int .u8 47, .int .u8 59, .int .u8 36, .int .u8 45, .int .u8 43, .int .u8 51, .int .u8 22, .int .u8 53, .int .u8 39, .int .u8 33, .int .u8 30, .int .u8 24, .int .u8 18, .int .u8 12, .int .u8 5, .int .u8 63, .int .u8 55, .int .u8 48, .int .u8 27, .int .u8 60, .int .u8 41, .int .u8 37, .int .u8 16, .int .u8 46, .int .u8 35, .int .u8 44, .int .u8 21, .int .u8 52, .int .u8 32, .int .u8 23, .int .u8 11, .int .u8 54, .int .u8 26, .int .u8 40, .int .u8 15, .int .u8 34, .int .u8 20, .int .u8 31, .int .u8 10, .int .u8 25, .int .u8 14, .int .u8 19, .int .u8 9, .int .u8 13, .int .u8 8, .int .u8 7, .int .u8 6]) } : World).forCall (fun _ _ => 0) ⟨#[], #[.slice none 0 0], []⟩).memory Tryz.f12.params.toList Rows.acceptsSpec.vars false #[Value.slice none 0 0].toList 8 = some ([.nil], [], places) :=
  ⟨[], by kernel_rfl⟩

set_option maxRecDepth 100000 in
theorem accepts_lifted (os : Os) (started : os.Started) (H : Type) (enc : TypeId × Value → H) (F : Stop.Interp) :
    ReturnsInHanded {} Tryz.checked os 12 .any ((OpenSpec.ofChange Rows.acceptsSpec).preRow enc Tryz.prog Tryz.f12 Rows.acceptsRow.domain false Rows.acceptsRow.laid) (((OpenSpec.ofChange Rows.acceptsSpec).at F).post enc Tryz.prog Tryz.f12 false true false false) := by
  obtain ⟨places, hx⟩ := accepts_reads os enc
  refine returnsInHanded_of_row (C := Tryz.checked) (s := OpenSpec.ofChange Rows.acceptsSpec) own started (by kernel_rfl) Tryz.func12
    (witness_row_at (enc := enc) (C := Tryz.checked) false ({ World.holding Tryz.prog os ⟨#[], #[], []⟩ with heap := (((World.holding Tryz.prog os ⟨#[], #[], []⟩).heap.modify 0 (lay1 #[.int .u64 1, .int .u64 10, .int .u64 100, .int .u64 1000, .int .u64 10000, .int .u64 100000, .int .u64 1000000, .int .u64 10000000, .int .u64 100000000, .int .u64 1000000000, .int .u64 10000000000, .int .u64 100000000000, .int .u64 1000000000000, .int .u64 10000000000000, .int .u64 100000000000000, .int .u64 1000000000000000, .int .u64 10000000000000000, .int .u64 100000000000000000, .int .u64 1000000000000000000, .int .u64 10000000000000000000])).modify 1 (lay1 #[.int .u8 0, .int .u8 1, .int .u8 28, .int .u8 2, .int .u8 29, .int .u8 14, .int .u8 24, .int .u8 3, .int .u8 30, .int .u8 22, .int .u8 20, .int .u8 15, .int .u8 25, .int .u8 17, .int .u8 4, .int .u8 8, .int .u8 31, .int .u8 27, .int .u8 13, .int .u8 23, .int .u8 21, .int .u8 19, .int .u8 16, .int .u8 7, .int .u8 26, .int .u8 12, .int .u8 18, .int .u8 6, .int .u8 11, .int .u8 5, .int .u8 10, .int .u8 9])).modify 2 (lay1 #[.int .u8 0, .int .u8 1, .int .u8 56, .int .u8 2, .int .u8 57, .int .u8 49, .int .u8 28, .int .u8 3, .int .u8 61, .int .u8 58, .int .u8 42, .int .u8 50, .int .u8 38, .int .u8 29, .int .u8 17, .int .u8 4, .int .u8 62, .int .u8 47, .int .u8 59, .int .u8 36, .int .u8 45, .int .u8 43, .int .u8 51, .int .u8 22, .int .u8 53, .int .u8 39, .int .u8 33, .int .u8 30, .int .u8 24, .int .u8 18, .int .u8 12, .int .u8 5, .int .u8 63, .int .u8 55, .int .u8 48, .int .u8 27, .int .u8 60, .int .u8 41, .int .u8 37, .int .u8 16, .int .u8 46, .int .u8 35, .int .u8 44, .int .u8 21, .int .u8 52, .int .u8 32, .int .u8 23, .int .u8 11, .int .u8 54, .int .u8 26, .int .u8 40, .int .u8 15, .int .u8 34, .int .u8 20, .int .u8 31, .int .u8 10, .int .u8 25, .int .u8 14, .int .u8 19, .int .u8 9, .int .u8 13, .int .u8 8, .int .u8 7, .int .u8 6]) } : World) #[.slice none 0 0] rfl (by kernel_rfl) (by kernel_rfl) (by kernel_rfl)
      (OpenSpec.preRow_of_cond 8 hx (by kernel_rfl) (fun k hk => by cases hk) (by kernel_rfl) (laid_met os))) ?_
  intro W base args ds gs before hval hW _ _ _ hL _ _
  exact accepts_contract H enc W base args ds gs before hval hW hL

theorem accepts_said : Rows.AcceptsSaid :=
  OpenClaim.holds_of_cond 12 Tryz.f12 rfl rfl rfl rfl rfl rfl rfl ⟨rfl, rfl, rfl, rfl, rfl⟩ rfl rfl rfl rfl rfl (by kernel_rfl) Tryz.func12 (by kernel_rfl)
    (of_decide_eq_true (by kernel_rfl)) (by unfold Func.isWrapper; first | (rw [if_pos (by decide +kernel)]; kernel_rfl) | (rw [if_neg (by decide +kernel)]; exact ⟨rfl, rfl⟩))
    (fun os started H enc _ F => by rw [OpenClaim.pre_eq_preRow]; exact accepts_lifted os started H enc F)

theorem accepts_plain (f : FuncId) (fn : Func) (hf : Tryz.pinned.checked.prog.funcNamed "narrow/narrowlaw.Accepts" = some f) (hfn : Tryz.pinned.checked.prog.funcs[f]? = some fn) :
    false = Tryz.pinned.checked.prog.looks [] ∧ ∀ (j : Nat) t, fn.params[j]? = some t → Tryz.pinned.checked.prog.wantsStandIn t = false := by
  obtain rfl : f = 12 := Option.some.inj ((show Tryz.prog.funcNamed "narrow/narrowlaw.Accepts" = some 12 by kernel_rfl).symm.trans hf) |>.symm
  obtain rfl : fn = Tryz.f12 := (Option.some.inj (Tryz.func12.symm.trans hfn)).symm
  refine ⟨by kernel_rfl, fun j t ht => ?_⟩
  rw [Tryz.params12] at ht
  obtain rfl : t = 22 := by simpa using Array.mem_of_getElem? ht
  exact (show Tryz.prog.wantsStandIn 22 = false by kernel_rfl)

theorem accepts_card : Rows.AcceptsCardSaid :=
  Claim7.holds_tied_plain_at .later [] _ _ _ _ accepts_said (fun _ h => by cases h) (by kernel_rfl) (fun _ h => by cases h) accepts_row_tie rfl ⟨rfl, rfl⟩ (by kernel_rfl) rfl accepts_plain (by kernel_rfl)
#print axioms accepts_card
end Go.Proofs.YtellieabhaphhaaGreatDoor
