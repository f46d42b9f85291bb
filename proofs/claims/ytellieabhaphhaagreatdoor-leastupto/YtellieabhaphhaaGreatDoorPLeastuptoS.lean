import Derived.Test.YtellieabhaphhaaGreatDoorPLeastuptoR
/-
  Least: does what Flow answers lie within the table that the script brings?
-/
namespace Go.Proofs.YtellieabhaphhaaGreatDoor
open Go.RowKit

theorem sz_getD (u : ByteArray) (i : Nat) (hu : u.size ≤ 2000000) : ((celF u i).getD ⟨#[]⟩).size ≤ 2000000 := by
  cases h : celF u i with
  | none => exact Nat.zero_le _
  | some line => exact Nat.le_trans (celF_size h) hu

/-- What one line comes to. -/
def LowP (l : List Nd) (u : ByteArray) (y f : Bool) (S U : List ByteArray) : Prop := ObU l u → y = true ∧ f = true ∧ InsP S U

set_option maxRecDepth 100000 in
set_option maxHeartbeats 6400000 in
theorem lower_c (a : Option Addr) (cap : Nat) (l : List Nd) (ok ob oc : Int) (os ot ou tt : ByteArray) (w : World) (hT : TT tt (lstF l)) (hF : ∀ W, Calls Tryz.prog 22 #[.string os] W fun e w' => e = .returned (.tuple #[.string tt, .int .i64 0]) ∧ Kp no W w') (hl90 : l.length ≤ 90) (hu : ou.size ≤ 2000000) :
    Calls Tryz.prog 25 #[.slice a l.length cap, .agg #[.int .i64 ok, .int .i64 ob, .int .i64 oc, .string os, .string ot, .string ou]] w fun e w' => RetB e (fun b => ObU l ou → b = true) ∧ Kp no w w' := by
  have HF := hide hF
  have HNU := hide (fun W => lnum_c 0 W)
  have HC1 := hide (fun j (hj : j < l.length) W => show Calls Tryz.prog 28 #[.string tt, .int .i64 j] W fun e w' => e = .returned (.tuple #[.string (txS ((lstF l).getD j [])), .bool true]) ∧ w' = W by
    have := cell_c tt j W hT.sz (by omega)
    rw [hT.cel j (by rw [lst_len]; exact hj)] at this
    exact this)
  have HS1 := hide (fun j (hj : j < l.length) W => show Calls Tryz.prog 43 #[.string (txS ((lstF l).getD j []))] W fun e w' => ∃ u, e = .returned (.tuple #[u, .bool true]) ∧ StrR w' u (((lstF l).getD j []).map sgB) ∧ New W u ∧ Kp no W w' by
    have := state_c (txS ((lstF l).getD j [])) W (Nat.le_trans (txS_size _ (hT.ok.get j)) (by decide))
    rw [hT.sta j (by rw [lst_len]; exact hj)] at this
    exact this)
  have HC2 := hide (fun j (hj : j < l.length) W => lcell_c ou j W hu (by omega))
  have HS2 := hide (fun j W => lstate_c ((celF ou j).getD ⟨#[]⟩) W (sz_getD ou j hu))
  have HIN := hide (fun j sv tv W (q1 : RV W sv (((lstF l).getD j []).map sgB)) (q2 : RV W tv (staF ((celF ou j).getD ⟨#[]⟩)).1) => linside_c sv tv (((lstF l).getD j []).map sgB) (staF ((celF ou j).getD ⟨#[]⟩)).1 W q1 q2
    (by
      rcases hT.ok.get j with h | h
      · rw [h]; exact .inl rfl
      · exact .inr ⟨by rw [List.length_map]; exact h.1, fun b hb => by
          obtain ⟨m, _, rfl⟩ := List.mem_map.1 hb
          exact Nat.le_trans (sg_size _) (by decide)⟩) (fun b hb => Nat.le_trans (staF_size _ b hb) (sz_getD ou j hu)))
  have HLOW := hide (fun j (hj : j < l.length) => show LowP l ou (celF ou j).isSome (staF ((celF ou j).getD ⟨#[]⟩)).2 (((lstF l).getD j []).map sgB) (staF ((celF ou j).getD ⟨#[]⟩)).1 from fun h => by
    obtain ⟨line, h1, h2, h3⟩ := low_of h hu j hj
    rw [h1]
    exact ⟨rfl, h2, h3⟩)
  unfold LowP at HLOW
  generalize ObU l ou = OB at *
  clear hT hF
  go_enter Tryz.func25, Tryz.ntmps25
  go_wp2_with fail
  refine (HF.out _).mono ?_
  rintro e v1 ⟨rfl, k1⟩
  have hO1 : Blk v1 w.heap.size [.int .i64 ok, .int .i64 ob, .int .i64 oc, .string os, .string ot, .string ou] 26 := k1.blk (by (repeat' (first | ((with_reducible show (_ : List Value) = _); rfl) | ((with_reducible refine Blk.newAt _ _ _ ?_); first | with_reducible rfl | (simp; done)) | with_reducible refine Blk.alloc ?_ _ | with_reducible refine Blk.drewN ?_ _ | with_reducible refine Blk.drew ?_ | ((with_reducible refine Blk.other ?_ _ ?_); rotate_left; ((try dsimp only); omega)) | with_reducible refine Blk.setB (cs0 := ?_) ?_ ?_))) no_elim
  have HK1 := hide (show Kp no w v1 by (repeat' (first | with_reducible exact Kp.refl _ _ | with_reducible refine Kp.alloc ?_ _ | with_reducible refine Kp.drewN ?_ _ | with_reducible refine Kp.drew ?_ | with_reducible refine Kp.setCell ?_ _ ?_ | with_reducible refine Kp.trans ?_ k1 (fun _ _ e => e) | (intro hh; first | rfl | exact .inl rfl | exact .inr rfl | (exfalso; (try dsimp only at hh); omega)))))
  clear k1
  go_wp2_with (go_at_call 18; refine (HNU.out _).mono ?_; rintro e w' ⟨rfl, hw⟩; obtain rfl := hw.symm)
  go_loopg [7] l.length (fun k iv wr => ∃ j : Nat, j ≤ l.length ∧ k = l.length - j ∧ iv = .int .i64 j ∧ Blk wr w.heap.size [.int .i64 ok, .int .i64 ob, .int .i64 oc, .string os, .string ot, .string ou] 26 ∧ Kp no w wr)
  case atStart => exact ⟨0, Nat.zero_le _, rfl, rfl, hO1, HK1.out⟩
  case round =>
    obtain ⟨j, hj, hk, rfl, hO, kr⟩ := hrel
    have HK := hide hk
    have HKR := hide kr
    clear hk kr hO1
    have o5 := hO.cell 5
    simp only [List.getElem?_cons_zero, List.getElem?_cons_succ] at o5
    have of := hO.frozen; have hol := hO.lt
    by_cases hlt : j < l.length
    · have HC1J := hide (HC1.out j hlt)
      have HS1J := hide (HS1.out j hlt)
      have HC2J := hide (HC2.out j hlt)
      have HS2J := hide (HS2.out j)
      have HINJ := hide (HIN.out j)
      have HLJ := hide (HLOW.out j hlt)
      have hls := sz_getD ou j hu
      clear HC1 HS1 HC2 HS2 HIN HLOW
      generalize (celF ou j).isSome = y at *
      generalize (celF ou j).getD ⟨#[]⟩ = line at *
      generalize (staF line).2 = f at *
      generalize (staF line).1 = U at *
      generalize txS ((lstF l).getD j []) = tx at *
      generalize ((lstF l).getD j []).map sgB = S at *
      have hjI : (j : Int) < l.length := by omega
      go_wp2_with fail
      refine (HC1J.out _).mono ?_
      rintro e w' ⟨rfl, hw⟩
      obtain rfl := hw.symm
      go_wp2_with fail
      refine (HC2J.out _).mono ?_
      rintro e w' ⟨rfl, hw⟩
      obtain rfl := hw.symm
      go_wp2_with fail
      refine (HS1J.out _).mono ?_
      rintro e w1 ⟨sv, rfl, hs1, _, k1⟩
      have HSV := hide (rv_of hs1)
      obtain ⟨sa, sc, rfl⟩ := hs1.shape
      have HO1 := hide (k1.blk hO no_elim)
      have HK1 := hide (HKR.out.trans k1 (fun _ _ e => e))
      clear hs1 k1 o5 of hol hO
      go_wp2_with fail
      refine (HS2J.out _).mono ?_
      rintro e w2 ⟨tv, rfl, hs2, _, k2⟩
      have HTV := hide (rv_of hs2)
      obtain ⟨ta, tc, rfl⟩ := hs2.shape
      have HSV2 := hide (k2.row HSV.out (fun _ _ => no_elim))
      have HO2 := hide (k2.blk HO1.out no_elim)
      have HK2 := hide (HK1.out.trans k2 (fun _ _ e => e))
      clear hs2 k2
      go_wp2_with fail
      refine (HINJ.out _ _ _ HSV2.out HTV.out).mono ?_
      rintro e w3 ⟨⟨b, rfl, hb⟩, k3⟩
      have HB := hide hb
      have HO3 := hide (k3.blk HO2.out no_elim)
      have HK3 := hide (HK2.out.trans k3 (fun _ _ e => e))
      clear hb k3
      cases y
      · have HX := hide (show OB → False from fun h => absurd (HLJ.out h).1 (by decide))
        clear HB HLJ
        cases f <;> cases b
        all_goals
          go_wp2
          go_ret
          exact ⟨RetB.mk (b := false) (fun h => (HX.out h).elim), HK3.out⟩
      cases f
      · have HX := hide (show OB → False from fun h => absurd (HLJ.out h).2.1 (by decide))
        clear HB HLJ
        cases b
        all_goals
          go_wp2
          go_ret
          exact ⟨RetB.mk (b := false) (fun h => (HX.out h).elim), HK3.out⟩
      cases b
      · have HX := hide (show OB → False from fun h => absurd (HB.out.2 (HLJ.out h).2.2) (by decide))
        clear HB HLJ
        go_wp2
        go_ret
        exact ⟨RetB.mk (b := false) (fun h => (HX.out h).elim), HK3.out⟩
      · clear HB HLJ
        go_wp2
        go_roundg (l.length - (j + 1))
        case measure => have := HK.out; omega
        case rel => exact ⟨j + 1, by omega, rfl, by go_num, HO3.out, HK3.out⟩
    · go_wp2
      go_ret
      exact ⟨RetB.mk (b := true) (fun _ => rfl), HKR.out⟩
end Go.Proofs.YtellieabhaphhaaGreatDoor

/-
  Least: every step.
-/
namespace Go.Proofs.YtellieabhaphhaaGreatDoor
open Go.RowKit

/-- A bool of which P is said. -/
def RetV (v : Value) (P : Bool → Prop) : Prop := ∃ b, v = .bool b ∧ P b
theorem RetV.mk {b : Bool} {P : Bool → Prop} (h : P b) : RetV (.bool b) P := ⟨b, rfl, h⟩

set_option maxRecDepth 100000 in
set_option maxHeartbeats 6400000 in
theorem leastLaw_c (ao : Option Addr) (n cap : Nat) (O : Nat → OpV) (w : World) (hn : n ≤ maxLen) (hS : 0 < n → ∃ a, ao = some a ∧ Scr w a n O ∧ a.block < w.heap.size) (hok : ∀ i, i < n → OpOk (O i)) (hU : ∀ i, i < n → (O i).u.size ≤ 2000000) (ht : Tab w) :
    Calls Tryz.prog 10 #[.slice ao n cap] w fun e w' => e = .returned (.bool true) ∧ Kp no w w' := by
  unfold maxLen at hn
  have HAL := hide (fun W (hW : Tab W) => alive_c W hW)
  go_enter Tryz.func10, Tryz.ntmps10
  go_wp2
  go_loopg [3] n (fun k iv wr => ∃ j : Nat, j ≤ n ∧ k = n - j ∧ iv = .int .i64 j ∧ Kp no w wr)
  case atStart => exact ⟨0, Nat.zero_le _, rfl, rfl, Kp.refl _ _⟩
  case round =>
    obtain ⟨j, hj, hk, rfl, kr⟩ := hrel
    have HK := hide hk
    have HKR := hide kr
    have hT0 := ht.kp kr no_elim
    clear hk
    by_cases hlt : j < n
    · by_cases h60 : (j : Int) < 1152921504606846976
      · have d60 := decide_eq_true h60
        clear h60
        obtain ⟨a, rfl, hSc, hab⟩ := hS (by omega)
        have hSr := hSc.kp kr hab
        have hal : a.block < wr.heap.size := by have := kr.size; omega
        clear kr
        have c0 := hSr j hlt 0 (by decide)
        have c1 := hSr j hlt 1 (by decide)
        have c2 := hSr j hlt 2 (by decide)
        have c3 := hSr j hlt 3 (by decide)
        have c4 := hSr j hlt 4 (by decide)
        have c5 := hSr j hlt 5 (by decide)
        have hokj := hok j hlt
        have hUj := hU j hlt
        clear hSr hS hSc hok hU
        generalize O j = o at *
        obtain ⟨ok, ob, oc, os, ot, ou⟩ := o
        have hos := hokj.s
        have hot := hokj.t
        have hou := hokj.u
        dsimp only at hos hot hou hUj
        clear hokj
        simp only [OpV.cells, List.getElem?_cons_zero, List.getElem?_cons_succ, Nat.add_zero] at c0 c1 c2 c3 c4 c5
        have HHN := hide hn
        have HCL := hide (show ∀ jj v, [Value.int .i64 ok, .int .i64 ob, .int .i64 oc, .string os, .string ot, .string ou][jj]? = some v → wr.cell? ((a.add (j * 6)).add jj) = some v from fun jj v hv => by
          have hjj := (List.getElem?_eq_some_iff.1 hv).1
          simp only [List.length_cons, List.length_nil] at hjj
          rw [Deep.add_add, ← hv]
          rcases (show jj = 0 ∨ jj = 1 ∨ jj = 2 ∨ jj = 3 ∨ jj = 4 ∨ jj = 5 by omega) with rfl | rfl | rfl | rfl | rfl | rfl
          · exact c0
          · exact c1
          · exact c2
          · exact c3
          · exact c4
          · exact c5)
        clear hn hab c0 c1 c2 c3 c4 c5
        have hwrap : IntKind.i64.wrap ((j : Int) + 1) = (j : Int) + 1 := Go.IntWalk.i64_in _ (by have := HHN.out; omega)
        have HD60 := hide d60
        clear hot hou
        rcases ob_cases os hos with ⟨c, hc0, hF, hL⟩ | ⟨h9, hE0, hgd, _, hF, hL⟩
        · have HL := hide hL
          have hc' : ((c : Int) == 0) = false := by simp [hc0]
          clear hF hL hc0 hos
          go_wp2_with (refine wpList_load_gen rfl 26 (.tmp 22) rfl (a.add (j * 6)) (by simp [Act.eval]) [Value.int .i64 ok, .int .i64 ob, .int .i64 oc, .string os, .string ot, .string ou] _ HCL.out Tryz.underlying26 rfl (by kernel_rfl) ?_)
          refine (HL.out _).mono ?_
          rintro e v2 ⟨⟨r2, p2, rfl⟩, k2⟩
          go_wp2
          go_roundg (n - (j + 1))
          case measure => have := HK.out; omega
          case rel =>
            have kk := HKR.out
            exact ⟨j + 1, by omega, rfl, by go_num, by (repeat' (first | with_reducible exact Kp.refl _ _ | with_reducible refine Kp.alloc ?_ _ | with_reducible refine Kp.drewN ?_ _ | with_reducible refine Kp.drew ?_ | with_reducible refine Kp.setCell ?_ _ ?_ | with_reducible refine Kp.trans ?_ kk (fun _ _ e => e) | with_reducible refine Kp.trans ?_ k2 (fun _ _ e => e) | (intro hh; first | rfl | exact .inl rfl | exact .inr rfl | (exfalso; (try dsimp only at hh); omega))))⟩
        · have HL := hide hL
          have hl90 := (graF_inv os).2
          have HTT := hide (tt_spl (lst_ok (graF os).nodes) (by rw [lst_len]; exact hl90))
          have HOB := hide (fun a cap W hD => lobeys_c a cap (graF os).nodes ou W hD hl90 (fun n hn => (hgd n hn).g) hUj)
          have HLO := hide (fun a cap W => lower_c a cap (graF os).nodes ok ob oc os ot ou _ W HTT.out hF hl90 hUj)
          clear hF hL hos hE0 hgd h9 HTT hl90
          generalize ObU (graF os).nodes ou = OB at *
          generalize (graF os).nodes = l at *
          go_wp2_with (refine wpList_load_gen rfl 26 (.tmp 22) rfl (a.add (j * 6)) (by simp [Act.eval]) [Value.int .i64 ok, .int .i64 ob, .int .i64 oc, .string os, .string ot, .string ou] _ HCL.out Tryz.underlying26 rfl (by kernel_rfl) ?_)
          refine (HL.out _).mono ?_
          rintro e v2 ⟨r, ra, rc, rfl, q3, hD, hrl, k2⟩
          have HDD := hide hD
          have hO1 : Blk v2 wr.heap.size [.int .i64 ok, .int .i64 ob, .int .i64 oc, .string os, .string ot, .string ou] 26 := k2.blk (by (repeat' (first | ((with_reducible show (_ : List Value) = _); rfl) | ((with_reducible refine Blk.newAt _ _ _ ?_); first | with_reducible rfl | (simp; done)) | with_reducible refine Blk.alloc ?_ _ | with_reducible refine Blk.drewN ?_ _ | with_reducible refine Blk.drew ?_ | ((with_reducible refine Blk.other ?_ _ ?_); rotate_left; ((try dsimp only); omega)) | with_reducible refine Blk.setB (cs0 := ?_) ?_ ?_))) no_elim
          have HK2 := hide (show Kp no w v2 by have kk := HKR.out; (repeat' (first | with_reducible exact Kp.refl _ _ | with_reducible refine Kp.alloc ?_ _ | with_reducible refine Kp.drewN ?_ _ | with_reducible refine Kp.drew ?_ | with_reducible refine Kp.setCell ?_ _ ?_ | with_reducible refine Kp.trans ?_ kk (fun _ _ e => e) | with_reducible refine Kp.trans ?_ k2 (fun _ _ e => e) | (intro hh; first | rfl | exact .inl rfl | exact .inr rfl | (exfalso; (try dsimp only at hh); omega)))))
          have c0' := hO1.cell 0; have c1' := hO1.cell 1; have c2' := hO1.cell 2; have c3' := hO1.cell 3; have c4' := hO1.cell 4; have o5 := hO1.cell 5
          simp only [List.getElem?_cons_zero, List.getElem?_cons_succ] at c0' c1' c2' c3' c4' o5
          have of := hO1.frozen; have hol := hO1.lt
          clear hD k2
          go_upto_region 7 with fail
          go_cut [8] from 10 to 50 (fun bv W5 => RetV bv (fun b => b = true → OB) ∧ Kp no v2 W5)
          case first =>
            go_region_with (go_at_call 24; refine (HOB.out _ _ _ (Kp.row (S := no) (by (repeat' (first | with_reducible exact Kp.refl _ _ | with_reducible refine Kp.alloc ?_ _ | with_reducible refine Kp.drewN ?_ _ | with_reducible refine Kp.drew ?_ | with_reducible refine Kp.setCell ?_ _ ?_ | (intro hh; first | rfl | exact .inl rfl | exact .inr rfl | (exfalso; (try dsimp only at hh); omega))))) HDD.out (fun _ _ => no_elim))).mono ?_; rintro e w5 ⟨⟨b1, rfl, hb1⟩, k5⟩)
            all_goals
              go_wp2
              go_meet
              case rel => exact ⟨RetV.mk hb1, by (repeat' (first | with_reducible exact Kp.refl _ _ | with_reducible refine Kp.alloc ?_ _ | with_reducible refine Kp.drewN ?_ _ | with_reducible refine Kp.drew ?_ | with_reducible refine Kp.setCell ?_ _ ?_ | with_reducible refine Kp.trans ?_ k5 (fun _ _ e => e) | (intro hh; first | rfl | exact .inl rfl | exact .inr rfl | (exfalso; (try dsimp only at hh); omega))))⟩
          case rest =>
          obtain ⟨⟨b1, rfl, hb1⟩, k3⟩ := hcut
          have HB1 := hide hb1
          have hO3 := k3.blk hO1 no_elim
          have hrl3 := Nat.lt_of_lt_of_le hrl k3.size
          have q33 := (k3.cell hrl no_elim 3).trans q3
          have HK3 := hide (HK2.out.trans k3 (fun _ _ e => e))
          clear hb1 k3 c0' c1' c2' c3' c4' o5 of hol q3 hO1 hrl HK2
          have c0' := hO3.cell 0; have c1' := hO3.cell 1; have c2' := hO3.cell 2; have c3' := hO3.cell 3; have c4' := hO3.cell 4; have o5 := hO3.cell 5
          simp only [List.getElem?_cons_zero, List.getElem?_cons_succ] at c0' c1' c2' c3' c4' o5
          have of := hO3.frozen; have hol := hO3.lt
          go_upto_region 8 with fail
          go_cut [9] from 10 to 50 (fun bv W5 => RetV bv (fun b => OB → b = true) ∧ Kp no w W5)
          case first =>
            go_region_with (go_at_call 25; refine (HLO.out _ _ _).mono ?_; rintro e w5 ⟨⟨b2, rfl, hb2⟩, k5⟩)
            all_goals
              go_wp2
              go_meet
              case rel => exact ⟨RetV.mk hb2, by (repeat' (first | with_reducible exact Kp.refl _ _ | with_reducible refine Kp.alloc ?_ _ | with_reducible refine Kp.drewN ?_ _ | with_reducible refine Kp.drew ?_ | with_reducible refine Kp.setCell ?_ _ ?_ | with_reducible refine Kp.trans ?_ HK3.out (fun _ _ e => e) | with_reducible refine Kp.trans ?_ k5 (fun _ _ e => e) | (intro hh; first | rfl | exact .inl rfl | exact .inr rfl | (exfalso; (try dsimp only at hh); omega))))⟩
          case rest =>
          obtain ⟨⟨b2, rfl, hb2⟩, k4⟩ := hcut
          have HK4 := hide k4
          cases b1
          · clear hb2 HB1
            cases b2
            all_goals
              go_wp2
              go_roundg (n - (j + 1))
              case measure => have := HK.out; omega
              case rel => exact ⟨j + 1, by omega, rfl, by go_num, HK4.out⟩
          · obtain rfl := hb2 (HB1.out rfl)
            clear hb2 HB1
            go_wp2
            go_roundg (n - (j + 1))
            case measure => have := HK.out; omega
            case rel => exact ⟨j + 1, by omega, rfl, by go_num, HK4.out⟩
      · have d60 := decide_eq_false h60
        clear h60 hS hok hn hU
        go_wp2_with fail
        refine (HAL.out _ hT0).mono ?_
        rintro e v1 ⟨rfl, k1⟩
        go_wp2
        go_ret
        exact ⟨rfl, HKR.out.trans k1 (fun _ _ e => e)⟩
    · have hn' := hide hn
      clear hS hok hn hU
      go_wp2_with fail
      refine (HAL.out _ hT0).mono ?_
      rintro e v1 ⟨rfl, k1⟩
      go_wp2
      go_ret
      exact ⟨rfl, HKR.out.trans k1 (fun _ _ e => e)⟩
end Go.Proofs.YtellieabhaphhaaGreatDoor

/-
  Least: the row and the card.
-/
namespace Go.Proofs.YtellieabhaphhaaGreatDoor
open Go.ChangeShapes Go.WideShapes Go.ChangeAt Go.RowKit Go.Deep

theorem pow_data : (Rows.laid_internal_strconv_uint64pow10 : DataW Unit) = Lib.tabData .u64 Lib.pow10Tab := by kernel_rfl

theorem tab_of {W : World} (h : laidMetH Tryz.prog Rows.leastRow.laid W) : Tab W := by
  have h1 : laidMet Tryz.prog Rows.leastRow.laid W := h
  obtain ⟨ps, ⟨g0, t0, cs0, f0, p0, q0, hg0, ht0, hv0, hd0, ⟨g1, t1, cs1, f1, p1, q1, hg1, ht1, hv1, hd1, ⟨g2, t2, cs2, f2, p2, q2, hg2, ht2, hv2, hd2, _, _⟩, _⟩, _⟩, _⟩ := h1
  obtain rfl := Option.some.inj (gtab.symm.trans hg2)
  obtain rfl := Option.some.inj (gT.symm.trans ht2)
  rw [pow_data] at hd2
  show Lib.TabIs _ _ _ _ _
  unfold Lib.TabIs
  rw [hv2, ← Lib.cells_of_tab Tryz.underlying211 Tryz.underlying205 c64 c20 hd2]

set_option maxRecDepth 100000 in
/-- For every script, in every world that holds the tables. -/
theorem least_contract (H : Type) (enc : TypeId × Value → H) (W : World) (base : Nat) (args : Array Value) (ds gs : List (DataW H)) (before : List MemPlace)
    (hval : ∀ (j : Nat) t v, Tryz.f10.params[j]? = some t → args[j]? = some v → Value.okWide Tryz.prog W .any base t v)
    (hW : DataW.Whole enc Tryz.prog Tryz.f10.params.toList Rows.leastSpec.vars false W args.toList ds gs before) (hL : laidMetH Tryz.prog Rows.leastRow.laid W) (hk : Rows.uptoSmall H (ds ++ gs) = true) :
    Calls Tryz.prog 10 args W fun e W' => ∃ v, e = .returned v ∧ Rows.leastSpec.post enc Tryz.prog Tryz.f10 false true false false W args v W' := by
  have hW' := hW
  obtain ⟨p, q, hA0, hV, rfl, hfz, hnd⟩ := hW
  have hA : DataW.TrodAll enc Tryz.prog W 0 (fun _ => true) true Tryz.f10.params.toList args.toList ds p := hA0
  rw [Tryz.params10] at hA hval
  obtain ⟨v0, d0, rfl, rfl, h0⟩ := trodAll_one hA
  obtain ⟨rfl, rfl⟩ := trodVars_none hV
  obtain ⟨ao, len, cap, rfl⟩ := okWide_slice Tryz.underlying22 (hval 0 22 v0 rfl rfl)
  have hB : Rows.uptoBulk d0 ≤ 1048576 := by
    have h : Rows.uptoBulkAll ([d0] ++ []) ≤ 1048576 := of_decide_eq_true hk
    simp only [List.append_nil, Rows.uptoBulkAll] at h
    omega
  have walk : Calls Tryz.prog 10 #[.slice ao len cap] W fun e w' => e = .returned (.bool true) ∧ Kp no W w' := by
    rcases (script_open_u h0).1 with rfl | ⟨a, O, rfl, hl, hb, hS, hO, hU⟩
    · exact leastLaw_c ao 0 cap (fun _ => ⟨0, 0, 0, (⟨#[]⟩ : ByteArray), (⟨#[]⟩ : ByteArray), (⟨#[]⟩ : ByteArray)⟩) W (Nat.zero_le _) (fun h => absurd h (by decide)) (fun i h => absurd h (Nat.not_lt_zero i)) (fun i h => absurd h (Nat.not_lt_zero i)) (tab_of hL)
    · exact leastLaw_c (some a) len cap O W hl (fun _ => ⟨a, rfl, hS, hb⟩) hO (hU hB) (tab_of hL)
  have hsh := (script_open_u h0).2
  refine walk.mono fun e W' ⟨he, k⟩ => ?_
  subst he
  have hold : ∀ q ∈ p, (fun b => decide (b < W.heap.size)) q.block = true := fun q hq => by simpa using hW'.lt q (by simpa using hq)
  refine ⟨_, rfl, [d0], [], p ++ [], [], p, [], hW', ?_, ?_, ?_, ?_, fun h => by cases h⟩
  · exact trodAll_mk1 (shut_bool Tryz.underlying4 _)
  · exact trodAll_mk1 (hsh W' k _ hold)
  · first | exact rfl | exact ⟨rfl, rfl⟩
  · exact Kp.keptBut k _
end Go.Proofs.YtellieabhaphhaaGreatDoor

/-
  Least: the card.
-/
namespace Go.Proofs.YtellieabhaphhaaGreatDoor
open Go.ChangeShapes Go.WideShapes Go.ChangeAt Go.RowKit Go.Deep

/-- A block that holds other cells. -/
def lay1 (c : Array Value) : Obj → Obj
  | .cells _ t frozen => .cells c t frozen
  | o => o

theorem laid_met (os : Os) : laidMet Tryz.prog Rows.leastUptoRow.laid (({ World.holding Tryz.prog os ⟨#[], #[], []⟩ with heap := (((World.holding Tryz.prog os ⟨#[], #[], []⟩).heap.modify 0 (lay1 #[.int .u64 1, .int .u64 10, .int .u64 100, .int .u64 1000, .int .u64 10000, .int .u64 100000, .int .u64 1000000, .int .u64 10000000, .int .u64 100000000, .int .u64 1000000000, .int .u64 10000000000, .int .u64 100000000000, .int .u64 1000000000000, .int .u64 10000000000000, .int .u64 100000000000000, .int .u64 1000000000000000, .int .u64 10000000000000000, .int .u64 100000000000000000, .int .u64 1000000000000000000, .int .u64 10000000000000000000])).modify 1 (lay1 #[.int .u8 0, .int .u8 1, .int .u8 28, .int .u8 2, .int .u8 29, .int .u8 14, .int .u8 24, .int .u8 3, .int .u8 30, .int .u8 22, .int .u8 20, .int .u8 15, .int .u8 25, .int .u8 17, .int .u8 4, .int .u8 8, .int .u8 31, .int .u8 27, .int .u8 13, .int .u8 23, .int .u8 21, .int .u8 19, .int .u8 16, .int .u8 7, .int .u8 26, .int .u8 12, .int .u8 18, .int .u8 6, .int .u8 11, .int .u8 5, .int .u8 10, .int .u8 9])).modify 2 (lay1 #[.int .u8 0, .int .u8 1, .int .u8 56, .int .u8 2, .int .u8 57, .int .u8 49, .int .u8 28, .int .u8 3, .int .u8 61, .int .u8 58, .int .u8 42, .int .u8 50, .int .u8 38, .int .u8 29, .int .u8 17, .int .u8 4, .int .u8 62, .int .u8 47, .int .u8 59, .int .u8 36, .int .u8 45, .int .u8 43, .int .u8 51, .int .u8 22, .int .u8 53, .int .u8 39, .int .u8 33, .int .u8 30, .int .u8 24, .int .u8 18, .int .u8 12, .int .u8 5, .int .u8 63, .int .u8 55, .int .u8 48, .int .u8 27, .int .u8 60, .int .u8 41, .int .u8 37, .int .u8 16, .int .u8 46, .int .u8 35, .int .u8 44, .int .u8 21, .int .u8 52, .int .u8 32, .int .u8 23, .int .u8 11, .int .u8 54, .int .u8 26, .int .u8 40, .int .u8 15, .int .u8 34, .int .u8 20, .int .u8 31, .int .u8 10, .int .u8 25, .int .u8 14, .int .u8 19, .int .u8 9, .int .u8 13, .int .u8 8, .int .u8 7, .int .u8 6]) } : World).forCall (fun _ _ => 0) ⟨#[], #[.slice none 0 0], []⟩).memory :=
  laidMet_of_run' 8 (by kernel_rfl) (by kernel_rfl)

theorem least_reads (os : Os) {H : Type} (enc : TypeId × Value → H) : ∃ places, DataW.whole enc Tryz.prog (({ World.holding Tryz.prog os ⟨#[], #[], []⟩ with heap := (((World.holding Tryz.prog os ⟨#[], #[], []⟩).heap.modify 0 (lay1 #[.int .u64 1, .int .u64 10, .int .u64 100, .int .u64 1000, .int .u64 10000, .int .u64 100000, .int .u64 1000000, .int .u64 10000000, .int .u64 100000000, .int .u64 1000000000, .int .u64 10000000000, .int .u64 100000000000, .int .u64 1000000000000, .int .u64 10000000000000, .int .u64 100000000000000, .int .u64 1000000000000000, .int .u64 10000000000000000, .int .u64 100000000000000000, .int .u64 1000000000000000000, .int .u64 10000000000000000000])).modify 1 (lay1 #[.int .u8 0, .int .u8 1, .int .u8 28, .int .u8 2, .int .u8 29, .int .u8 14, .int .u8 24, .int .u8 3, .int .u8 30, .int .u8 22, .int .u8 20, .int .u8 15, .int .u8 25, .int .u8 17, .int .u8 4, .int .u8 8, .int .u8 31, .int .u8 27, .int .u8 13, .int .u8 23, .int .u8 21, .int .u8 19, .int .u8 16, .int .u8 7, .int .u8 26, .int .u8 12, .int .u8 18, .int .u8 6, .int .u8 11, .int .u8 5, .int .u8 10, .int .u8 9])).modify 2 (lay1 #[.int .u8 0, .int .u8 1, .int .u8 56, .int .u8 2, .int .u8 57, .int .u8 49, .int .u8 28, .int .u8 3, .int .u8 61, .int .u8 58, .int .u8 42, .int .u8 50, .int .u8 38, .int .u8 29, .int .u8 17, .int .u8 4, .int .u8 62, .int .u8 47, .int .u8 59, .int .u8 36, .int .u8 45, .int .u8 43, .int .u8 51, .int .u8 22, .int .u8 53, .int .u8 39, .int .u8 33, .int .u8 30, .int .u8 24, .int .u8 18, .int .u8 12, .int .u8 5, .int .u8 63, .int .u8 55, .int .u8 48, .int .u8 27, .int .u8 60, .int .u8 41, .int .u8 37, .int .u8 16, .int .u8 46, .int .u8 35, .int .u8 44, .int .u8 21, .int .u8 52, .int .u8 32, .int .u8 23, .int .u8 11, .int .u8 54, .int .u8 26, .int .u8 40, .int .u8 15, .int .u8 34, .int .u8 20, .int .u8 31, .int .u8 10, .int .u8 25, .int .u8 14, .int .u8 19, .int .u8 9, .int .u8 13, .int .u8 8, .int .u8 7, .int .u8 6]) } : World).forCall (fun _ _ => 0) ⟨#[], #[.slice none 0 0], []⟩).memory Tryz.f10.params.toList Rows.leastSpec.vars false #[Value.slice none 0 0].toList 8 = some ([.nil], [], places) :=
  ⟨[], by kernel_rfl⟩

set_option maxRecDepth 100000 in
theorem least_lifted (os : Os) (started : os.Started) (H : Type) (enc : TypeId × Value → H) (F : Stop.Interp) :
    ReturnsInHanded {} Tryz.checked os 10 .any ((Rows.OpenSpec.upto Rows.leastSpec).preRow enc Tryz.prog Tryz.f10 Rows.leastUptoRow.domain false Rows.leastUptoRow.laid) (((Rows.OpenSpec.upto Rows.leastSpec).at F).post enc Tryz.prog Tryz.f10 false true false false) := by
  obtain ⟨places, hx⟩ := least_reads os enc
  refine returnsInHanded_of_row (C := Tryz.checked) (s := Rows.OpenSpec.upto Rows.leastSpec) own started (by kernel_rfl) Tryz.func10
    (witness_row_at (enc := enc) (C := Tryz.checked) false ({ World.holding Tryz.prog os ⟨#[], #[], []⟩ with heap := (((World.holding Tryz.prog os ⟨#[], #[], []⟩).heap.modify 0 (lay1 #[.int .u64 1, .int .u64 10, .int .u64 100, .int .u64 1000, .int .u64 10000, .int .u64 100000, .int .u64 1000000, .int .u64 10000000, .int .u64 100000000, .int .u64 1000000000, .int .u64 10000000000, .int .u64 100000000000, .int .u64 1000000000000, .int .u64 10000000000000, .int .u64 100000000000000, .int .u64 1000000000000000, .int .u64 10000000000000000, .int .u64 100000000000000000, .int .u64 1000000000000000000, .int .u64 10000000000000000000])).modify 1 (lay1 #[.int .u8 0, .int .u8 1, .int .u8 28, .int .u8 2, .int .u8 29, .int .u8 14, .int .u8 24, .int .u8 3, .int .u8 30, .int .u8 22, .int .u8 20, .int .u8 15, .int .u8 25, .int .u8 17, .int .u8 4, .int .u8 8, .int .u8 31, .int .u8 27, .int .u8 13, .int .u8 23, .int .u8 21, .int .u8 19, .int .u8 16, .int .u8 7, .int .u8 26, .int .u8 12, .int .u8 18, .int .u8 6, .int .u8 11, .int .u8 5, .int .u8 10, .int .u8 9])).modify 2 (lay1 #[.int .u8 0, .int .u8 1, .int .u8 56, .int .u8 2, .int .u8 57, .int .u8 49, .int .u8 28, .int .u8 3, .int .u8 61, .int .u8 58, .int .u8 42, .int .u8 50, .int .u8 38, .int .u8 29, .int .u8 17, .int .u8 4, .int .u8 62, .int .u8 47, .int .u8 59, .int .u8 36, .int .u8 45, .int .u8 43, .int .u8 51, .int .u8 22, .int .u8 53, .int .u8 39, .int .u8 33, .int .u8 30, .int .u8 24, .int .u8 18, .int .u8 12, .int .u8 5, .int .u8 63, .int .u8 55, .int .u8 48, .int .u8 27, .int .u8 60, .int .u8 41, .int .u8 37, .int .u8 16, .int .u8 46, .int .u8 35, .int .u8 44, .int .u8 21, .int .u8 52, .int .u8 32, .int .u8 23, .int .u8 11, .int .u8 54, .int .u8 26, .int .u8 40, .int .u8 15, .int .u8 34, .int .u8 20, .int .u8 31, .int .u8 10, .int .u8 25, .int .u8 14, .int .u8 19, .int .u8 9, .int .u8 13, .int .u8 8, .int .u8 7, .int .u8 6]) } : World) #[.slice none 0 0] rfl (by kernel_rfl) (by kernel_rfl) (by kernel_rfl)
      (OpenSpec.preRow_of_cond 8 hx (by kernel_rfl) (fun k hk => by cases hk; kernel_rfl) (by kernel_rfl) (laid_met os))) ?_
  intro W base args ds gs before hval hW _ hcond _ hL _ _
  exact least_contract H enc W base args ds gs before hval hW hL (hcond _ rfl)

theorem least_said : Rows.LeastUptoSaid :=
  OpenClaim.holds_of_cond 10 Tryz.f10 rfl rfl rfl rfl rfl rfl rfl ⟨rfl, rfl, rfl, rfl, rfl⟩ rfl rfl rfl rfl rfl (by kernel_rfl) Tryz.func10 (by kernel_rfl)
    (of_decide_eq_true (by kernel_rfl)) (by unfold Func.isWrapper; first | (rw [if_pos (by decide +kernel)]; kernel_rfl) | (rw [if_neg (by decide +kernel)]; exact ⟨rfl, rfl⟩))
    (fun os started H enc _ F => by rw [OpenClaim.pre_eq_preRow]; exact least_lifted os started H enc F)

theorem least_plain (f : FuncId) (fn : Func) (hf : Tryz.pinned.checked.prog.funcNamed "narrow/narrowlaw.Least" = some f) (hfn : Tryz.pinned.checked.prog.funcs[f]? = some fn) :
    false = Tryz.pinned.checked.prog.looks [] ∧ ∀ (j : Nat) t, fn.params[j]? = some t → Tryz.pinned.checked.prog.wantsStandIn t = false := by
  obtain rfl : f = 10 := Option.some.inj ((show Tryz.prog.funcNamed "narrow/narrowlaw.Least" = some 10 by kernel_rfl).symm.trans hf) |>.symm
  obtain rfl : fn = Tryz.f10 := (Option.some.inj (Tryz.func10.symm.trans hfn)).symm
  refine ⟨by kernel_rfl, fun j t ht => ?_⟩
  rw [Tryz.params10] at ht
  obtain rfl : t = 22 := by simpa using Array.mem_of_getElem? ht
  exact (show Tryz.prog.wantsStandIn 22 = false by kernel_rfl)

theorem leastupto_card : Rows.LeastUptoCardSaid :=
  Claim7.holds_tied_plain_at .later [] _ _ _ _ least_said (fun _ h => by cases h) (by kernel_rfl) (fun _ h => by cases h) leastUpto_row_tie rfl ⟨rfl, rfl⟩ (by kernel_rfl) rfl least_plain (by kernel_rfl)
#print axioms leastupto_card
end Go.Proofs.YtellieabhaphhaaGreatDoor
