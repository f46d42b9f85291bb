import Derived.Test.YtellieabhaphhaaGreatDoorPartI
import Derived.Test.YtellieabhaphhaaGreatDoorPartL
import Derived.Deep.WholeRow
import Derived.Deep.Slices
import Derived.IntWalk
/-
  narrowref.Walk.
-/
namespace Go.Proofs.YtellieabhaphhaaGreatDoor
open Go.RowKit

/-- A walk from node a on. -/
def wkF : Nat → List Nd → ByteArray → Mc → Int → Option Mc
  | 0, _, _, _, _ => none
  | f + 1, ND, inp, m, a =>
    if a < ND.length ∧ m.e = 8 then
      (if 0 ≤ a ∧ a < 100 then
        match ND[a.toNat]? with
        | none => none
        | some nd =>
          match m.l[nd.x.toNat]?, m.l[nd.y.toNat]?, m.l[nd.v.toNat]? with
          | some xu, some yu, some vu =>
            if (startF m a.toNat).2 then
              (if nd.op = 121 ∨ nd.op = 58 then wkF f ND inp (startF m a.toNat).1 (if holdF nd yu then nd.t else nd.f)
              else wkF f ND inp (doF inp nd nd.x.toNat xu yu vu (startF m a.toNat).1) nd.t)
            else wkF f ND inp (startF m a.toNat).1 a
          | _, _, _ => none
      else none)
    else some m

set_option maxRecDepth 100000 in
set_option maxHeartbeats 12800000 in
theorem walk_good (s inp : ByteArray) (fuel : Nat) (w : World) (hm : inp.size ≤ 40) (h : fuel ≤ 300) (hs : s.size ≤ 900) (hb : graE s = (0, 0)) (ht : Tab w)
    (hn : ∀ n ∈ (graF s).nodes, NOk n) (hi0 : (graF s).items = []) (htf : ∀ n ∈ (graF s).nodes, (-1 ≤ n.t ∧ n.t ≤ 1000) ∧ (-1 ≤ n.f ∧ n.f ≤ 1000)) (F : Nat) (mc' : Mc) (hE : wkF F (graF s).nodes inp (mc0 fuel) 0 = some mc') :
    Calls Tryz.prog 49 #[.string s, .string inp, .int .i64 fuel] w fun e w' => e = .returned (.tuple #[.string mc'.tr, .string mc'.out, .int .i64 (endE mc'.e)]) ∧ Kp no w w' := by
  have hm2 : inp.size ≤ maxLen := by unfold maxLen; omega
  have HG := hide (given_c inp fuel w hm2)
  rw [decide_eq_true (by omega)] at HG
  have HS := hide (lines_c s w hs)
  have HB := hide hb
  have hlen := (graF_inv s).2
  have HE := hide hE
  have ok0 := mc0_ok fuel h
  clear hE hb
  go_enter Tryz.func49, Tryz.ntmps49
  go_wp2_with fail
  refine HG.out.mono ?_
  rintro e w0 ⟨rfl, rfl⟩
  go_wp2_with fail
  refine HS.out.mono ?_
  rintro e w1 ⟨r, O, rfl, hr, k1, hO⟩
  rw [HB.out]
  have htl := ht.lt
  have ht1 := ht.kp k1 no_elim
  generalize graF s = st at *
  go_wp2_with fail
  refine (begin_c inp fuel _).mono ?_
  rintro e w2 ⟨m, lb, rfl, hmb, k2, hm1, hl1⟩
  have hs1 := k1.size
  have hr2 : Rp w2 r s st O := hr.kp k2 (fun _ _ => no_elim)
  have hRM : RM w2 m lb inp (mc0 fuel) r s st O := ⟨hmb, hr2, fun e => by have := hr.lt m e; omega, fun e => by have := hr.lt lb e; omega, ht1.kp k2 no_elim, by omega, by omega, ok0, hn, hm, by rw [hi0]; exact Nat.zero_le _, by omega⟩
  have k12 : Kp no w0 w2 := k1.trans k2 (fun _ _ e => e)
  have HK12 := hide k12
  have HRM := hide hRM
  clear k12 hRM hr2 hmb k1 k2 hr hO
  go_wp2
  go_loopg [14] F (fun k av wr => ∃ (a : Int) (mc1 : Mc), av = .int .i64 a ∧ -1 ≤ a ∧ a ≤ 1000 ∧ RM wr m lb inp mc1 r s st O ∧ Kp no w0 wr ∧ wkF k st.nodes inp mc1 a = some mc')
  case atStart => exact ⟨0, mc0 fuel, rfl, by decide, by decide, HRM.out, HK12.out, HE.out⟩
  case round =>
    obtain ⟨a, mc1, rfl, ha1, ha2, R1, K1, hE1⟩ := hrel
    have HK1 := hide K1
    clear K1
    obtain ⟨c0, c1, c2, c3, c4, c5, c6, cf⟩ := R1.mb.c
    obtain ⟨g3, cap3, n3⟩ := rp_nodes R1.rp
    have hrl := R1.rp.lt r R1.rp.own
    obtain ⟨hml, hll⟩ := R1.mb.lt
    cases gk with
    | zero => simp [wkF] at hE1
    | succ k =>
      rw [wkF] at hE1
      by_cases hgo : a < st.nodes.length ∧ mc1.e = 8
      case neg =>
        rw [if_neg hgo] at hE1
        simp only [Option.some.injEq] at hE1
        have HE1 := hide hE1
        clear hE1
        by_cases hlt : a < st.nodes.length
        · have e8 : ¬ mc1.e = 8 := fun e => hgo ⟨hlt, e⟩
          have f8 : (mc1.e == 8) = false := by simp [e8]
          clear hgo e8
          go_wp2_with fail
          refine (answer_c R1.mb).mono ?_
          rintro e w4 ⟨rfl, k4⟩
          go_wp2
          go_ret3
          rw [← HE1.out]
          exact ⟨rfl, HK1.out.trans k4 (fun x hx e => by have := HK12.out.size; rcases e with e | e <;> omega)⟩
        · clear hgo
          go_wp2_with fail
          refine (answer_c R1.mb).mono ?_
          rintro e w4 ⟨rfl, k4⟩
          go_wp2
          go_ret3
          rw [← HE1.out]
          exact ⟨rfl, HK1.out.trans k4 (fun x hx e => by have := HK12.out.size; rcases e with e | e <;> omega)⟩
      case pos =>
        rw [if_pos hgo] at hE1
        obtain ⟨hlt, e8⟩ := hgo
        rw [e8] at c6
        have HE8 := hide e8
        clear e8
        split at hE1
        case isFalse => simp at hE1
        rename_i ha
        obtain ⟨a, rfl⟩ := Int.eq_ofNat_of_zero_le ha.1
        rw [Int.toNat_natCast] at hE1
        have ha100 : a < 100 := by omega
        clear ha ha1 ha2
        cases hnd : st.nodes[a]? with
        | none => rw [hnd] at hE1; simp at hE1
        | some nd =>
          rw [hnd] at hE1
          dsimp only at hE1
          have hnk := R1.nok nd (List.mem_of_getElem? hnd)
          split at hE1
          case h_2 => simp at hE1
          rename_i xu yu vu hxu hyu hvu
          have hso := startF_ok a R1.ok
          have hLn := R1.ln
          obtain ⟨g2, cap2, hn2, _, q3, qc⟩ := R1.rp.node hnd
          have e0 := qc 0 (by decide); have e1 := qc 1 (by decide); have e2 := qc 2 (by decide); have e3 := qc 3 (by decide); have e4 := qc 4 (by decide); have e5 := qc 5 (by decide); have e6 := qc 6 (by decide); have e7 := qc 7 (by decide); have e8 := qc 8 (by decide)
          clear qc n3
          simp only [Nd.cells, List.getElem?_cons_zero, List.getElem?_cons_succ, Nat.add_zero] at e0 e1 e2 e3 e4 e5 e6 e7 e8
          have HS2 := hide (fun W (hW : MB W m lb inp mc1) => starts_c (w := W) (st := mc1) a ha100 hW (by have := R1.ok.tr; omega) (by have := R1.ok.left; omega))
          obtain ⟨ht1', hf1'⟩ := htf nd (List.mem_of_getElem? hnd)
          cases hst : startF mc1 a with
          | mk m0 ok =>
          rw [hst] at HS2 hso hE1
          clear hst
          dsimp only at hso HS2 hE1
          have hyy : nd.y = (nd.y.toNat : Int) := by have := hnk.y; omega
          have hyu0 : m0.l[nd.y.toNat]? = some yu := by rw [hso.2.2]; exact hyu
          have okd : ok = true → MOk (doF inp nd nd.x.toNat xu yu vu m0) := fun e => doF_ok hnk.k (R1.ok.v yu (List.mem_of_getElem? hyu)) (R1.ok.v vu (List.mem_of_getElem? hvu)) hso.1 (hso.2.1 e)
          have HDO := hide (fun (hok : ok = true) W (hW : RM W m lb inp m0 r s st O) => do_c (w := W) (m := m) (lb := lb) (inp := inp) (st := m0) (n := nd) (x := nd.x.toNat) (y := nd.y.toNat) (v := nd.v.toNat) (xu := xu) (yu := yu) (vu := vu)
            ⟨hW.mb, hW.inp, by have := hnk.x; omega, by have := hnk.y; omega, by have := hnk.v; omega, by rw [hso.2.2]; exact hxu, by rw [hso.2.2]; exact hyu, by rw [hso.2.2]; exact hvu, (R1.ok.v yu (List.mem_of_getElem? hyu)).1, (R1.ok.v vu (List.mem_of_getElem? hvu)).1, hnk.k, by have := hso.2.1 hok; omega, hW.tab, hW.tm, hW.tl⟩)
          have HHO := hide (fun W (hW : MB W m lb inp m0) => holds_c (w := W) (m := m) (lb := lb) (inp := inp) (st := m0) nd nd.y.toNat yu hW hyy hyu0)
          generalize hdm : doF inp nd nd.x.toNat xu yu vu m0 = md at *
          generalize hhb : holdF nd yu = hb at *
          clear hdm hhb hnk hnd hxu hyu hvu hyy hyu0
          obtain ⟨uo, ux, uy, uv, uk, ut, uf, ua, ul⟩ := nd
          dsimp only at *
          cases ok
          · simp only [Bool.false_eq_true, if_false] at hE1
            have HE1 := hide hE1
            clear hE1
            go_wp2_with fail
            refine (HS2.out _ (R1.mb.alloc _)).mono ?_
            rintro e w2 ⟨rfl, hm2, k2⟩
            have R2 := (R1.alloc _).next hm2 k2 hso.1
            have hL : Blk w2 wr.heap.size [.int .u8 uo, .int .i64 ux, .int .i64 uy, .int .i64 uv, .int .u8 uk, .int .i64 ut, .int .i64 uf, .int .i64 ua, .int .i64 ul] 63 := k2.blk (by (repeat' (first | ((with_reducible show (_ : List Value) = _); rfl) | ((with_reducible refine Blk.newAt _ _ _ ?_); first | with_reducible rfl | (simp; done)) | with_reducible refine Blk.alloc ?_ _ | with_reducible refine Blk.drewN ?_ _ | with_reducible refine Blk.drew ?_ | ((with_reducible refine Blk.other ?_ _ ?_); rotate_left; ((try dsimp only); omega)) | with_reducible refine Blk.setB (cs0 := ?_) ?_ ?_))) (by rintro (e | e) <;> omega)
            go_wp2
            go_roundg k
            case measure => omega
            case rel => exact ⟨a, m0, rfl, by omega, by omega, R2, (HK1.out.alloc _).trans k2 (fun x hx e => by have := HK12.out.size; rcases e with e | e <;> omega), HE1.out⟩
          · simp only [if_true] at hE1
            have hMO := okd rfl
            by_cases ht2 : uo = 121 ∨ uo = 58
            · rw [if_pos ht2] at hE1
              have HE1 := hide hE1
              clear hE1
              rcases ht2 with h121 | h58
              · subst h121
                cases hb
                · simp only [Bool.false_eq_true, if_false] at HE1
                  go_wp2_with fail
                  refine (HS2.out _ (R1.mb.alloc _)).mono ?_
                  rintro e w2 ⟨rfl, hm2, k2⟩
                  have R2 := (R1.alloc _).next hm2 k2 hso.1
                  have K2 := (HK1.out.alloc _).trans k2 (fun x hx e => by have := HK12.out.size; rcases e with e | e <;> omega)
                  have hL : Blk w2 wr.heap.size [.int .u8 121, .int .i64 ux, .int .i64 uy, .int .i64 uv, .int .u8 uk, .int .i64 ut, .int .i64 uf, .int .i64 ua, .int .i64 ul] 63 := k2.blk (by (repeat' (first | ((with_reducible show (_ : List Value) = _); rfl) | ((with_reducible refine Blk.newAt _ _ _ ?_); first | with_reducible rfl | (simp; done)) | with_reducible refine Blk.alloc ?_ _ | with_reducible refine Blk.drewN ?_ _ | with_reducible refine Blk.drew ?_ | ((with_reducible refine Blk.other ?_ _ ?_); rotate_left; ((try dsimp only); omega)) | with_reducible refine Blk.setB (cs0 := ?_) ?_ ?_))) (by rintro (e | e) <;> omega)
                  obtain ⟨l0, l1, l2, l3, l4, l5, l6, l7, l8, lf⟩ := hL.c9
                  have hzL := hL.lt
                  go_wp2_with fail
                  refine (HHO.out _ R2.mb).mono ?_
                  rintro e w3 ⟨rfl, k3⟩
                  have hL3 : Blk w3 wr.heap.size [.int .u8 121, .int .i64 ux, .int .i64 uy, .int .i64 uv, .int .u8 uk, .int .i64 ut, .int .i64 uf, .int .i64 ua, .int .i64 ul] 63 := k3.blk hL no_elim
                  obtain ⟨s0, s1, s2, s3, s4, s5, s6, s7, s8, sf⟩ := hL3.c9
                  go_wp2
                  go_roundg k
                  case measure => omega
                  case rel => exact ⟨uf, m0, rfl, by omega, by omega, R2.kp k3, K2.trans k3 (fun _ _ e => e), HE1.out⟩
                · simp only [if_true] at HE1
                  go_wp2_with fail
                  refine (HS2.out _ (R1.mb.alloc _)).mono ?_
                  rintro e w2 ⟨rfl, hm2, k2⟩
                  have R2 := (R1.alloc _).next hm2 k2 hso.1
                  have K2 := (HK1.out.alloc _).trans k2 (fun x hx e => by have := HK12.out.size; rcases e with e | e <;> omega)
                  have hL : Blk w2 wr.heap.size [.int .u8 121, .int .i64 ux, .int .i64 uy, .int .i64 uv, .int .u8 uk, .int .i64 ut, .int .i64 uf, .int .i64 ua, .int .i64 ul] 63 := k2.blk (by (repeat' (first | ((with_reducible show (_ : List Value) = _); rfl) | ((with_reducible refine Blk.newAt _ _ _ ?_); first | with_reducible rfl | (simp; done)) | with_reducible refine Blk.alloc ?_ _ | with_reducible refine Blk.drewN ?_ _ | with_reducible refine Blk.drew ?_ | ((with_reducible refine Blk.other ?_ _ ?_); rotate_left; ((try dsimp only); omega)) | with_reducible refine Blk.setB (cs0 := ?_) ?_ ?_))) (by rintro (e | e) <;> omega)
                  obtain ⟨l0, l1, l2, l3, l4, l5, l6, l7, l8, lf⟩ := hL.c9
                  have hzL := hL.lt
                  go_wp2_with fail
                  refine (HHO.out _ R2.mb).mono ?_
                  rintro e w3 ⟨rfl, k3⟩
                  have hL3 : Blk w3 wr.heap.size [.int .u8 121, .int .i64 ux, .int .i64 uy, .int .i64 uv, .int .u8 uk, .int .i64 ut, .int .i64 uf, .int .i64 ua, .int .i64 ul] 63 := k3.blk hL no_elim
                  obtain ⟨s0, s1, s2, s3, s4, s5, s6, s7, s8, sf⟩ := hL3.c9
                  go_wp2
                  go_roundg k
                  case measure => omega
                  case rel => exact ⟨ut, m0, rfl, by omega, by omega, R2.kp k3, K2.trans k3 (fun _ _ e => e), HE1.out⟩
              · subst h58
                cases hb
                · simp only [Bool.false_eq_true, if_false] at HE1
                  go_wp2_with fail
                  refine (HS2.out _ (R1.mb.alloc _)).mono ?_
                  rintro e w2 ⟨rfl, hm2, k2⟩
                  have R2 := (R1.alloc _).next hm2 k2 hso.1
                  have K2 := (HK1.out.alloc _).trans k2 (fun x hx e => by have := HK12.out.size; rcases e with e | e <;> omega)
                  have hL : Blk w2 wr.heap.size [.int .u8 58, .int .i64 ux, .int .i64 uy, .int .i64 uv, .int .u8 uk, .int .i64 ut, .int .i64 uf, .int .i64 ua, .int .i64 ul] 63 := k2.blk (by (repeat' (first | ((with_reducible show (_ : List Value) = _); rfl) | ((with_reducible refine Blk.newAt _ _ _ ?_); first | with_reducible rfl | (simp; done)) | with_reducible refine Blk.alloc ?_ _ | with_reducible refine Blk.drewN ?_ _ | with_reducible refine Blk.drew ?_ | ((with_reducible refine Blk.other ?_ _ ?_); rotate_left; ((try dsimp only); omega)) | with_reducible refine Blk.setB (cs0 := ?_) ?_ ?_))) (by rintro (e | e) <;> omega)
                  obtain ⟨l0, l1, l2, l3, l4, l5, l6, l7, l8, lf⟩ := hL.c9
                  have hzL := hL.lt
                  go_wp2_with fail
                  refine (HHO.out _ R2.mb).mono ?_
                  rintro e w3 ⟨rfl, k3⟩
                  have hL3 : Blk w3 wr.heap.size [.int .u8 58, .int .i64 ux, .int .i64 uy, .int .i64 uv, .int .u8 uk, .int .i64 ut, .int .i64 uf, .int .i64 ua, .int .i64 ul] 63 := k3.blk hL no_elim
                  obtain ⟨s0, s1, s2, s3, s4, s5, s6, s7, s8, sf⟩ := hL3.c9
                  go_wp2
                  go_roundg k
                  case measure => omega
                  case rel => exact ⟨uf, m0, rfl, by omega, by omega, R2.kp k3, K2.trans k3 (fun _ _ e => e), HE1.out⟩
                · simp only [if_true] at HE1
                  go_wp2_with fail
                  refine (HS2.out _ (R1.mb.alloc _)).mono ?_
                  rintro e w2 ⟨rfl, hm2, k2⟩
                  have R2 := (R1.alloc _).next hm2 k2 hso.1
                  have K2 := (HK1.out.alloc _).trans k2 (fun x hx e => by have := HK12.out.size; rcases e with e | e <;> omega)
                  have hL : Blk w2 wr.heap.size [.int .u8 58, .int .i64 ux, .int .i64 uy, .int .i64 uv, .int .u8 uk, .int .i64 ut, .int .i64 uf, .int .i64 ua, .int .i64 ul] 63 := k2.blk (by (repeat' (first | ((with_reducible show (_ : List Value) = _); rfl) | ((with_reducible refine Blk.newAt _ _ _ ?_); first | with_reducible rfl | (simp; done)) | with_reducible refine Blk.alloc ?_ _ | with_reducible refine Blk.drewN ?_ _ | with_reducible refine Blk.drew ?_ | ((with_reducible refine Blk.other ?_ _ ?_); rotate_left; ((try dsimp only); omega)) | with_reducible refine Blk.setB (cs0 := ?_) ?_ ?_))) (by rintro (e | e) <;> omega)
                  obtain ⟨l0, l1, l2, l3, l4, l5, l6, l7, l8, lf⟩ := hL.c9
                  have hzL := hL.lt
                  go_wp2_with fail
                  refine (HHO.out _ R2.mb).mono ?_
                  rintro e w3 ⟨rfl, k3⟩
                  have hL3 : Blk w3 wr.heap.size [.int .u8 58, .int .i64 ux, .int .i64 uy, .int .i64 uv, .int .u8 uk, .int .i64 ut, .int .i64 uf, .int .i64 ua, .int .i64 ul] 63 := k3.blk hL no_elim
                  obtain ⟨s0, s1, s2, s3, s4, s5, s6, s7, s8, sf⟩ := hL3.c9
                  go_wp2
                  go_roundg k
                  case measure => omega
                  case rel => exact ⟨ut, m0, rfl, by omega, by omega, R2.kp k3, K2.trans k3 (fun _ _ e => e), HE1.out⟩
            · rw [if_neg ht2] at hE1
              have HE1 := hide hE1
              clear hE1
              have f1 : (uo == 121) = false := by simp; omega
              have f2 : (uo == 58) = false := by simp; omega
              clear ht2
              go_wp2_with fail
              refine (HS2.out _ (R1.mb.alloc _)).mono ?_
              rintro e w2 ⟨rfl, hm2, k2⟩
              have R2 := (R1.alloc _).next hm2 k2 hso.1
              have K2 := (HK1.out.alloc _).trans k2 (fun x hx e => by have := HK12.out.size; rcases e with e | e <;> omega)
              have hL : Blk w2 wr.heap.size [.int .u8 uo, .int .i64 ux, .int .i64 uy, .int .i64 uv, .int .u8 uk, .int .i64 ut, .int .i64 uf, .int .i64 ua, .int .i64 ul] 63 := k2.blk (by (repeat' (first | ((with_reducible show (_ : List Value) = _); rfl) | ((with_reducible refine Blk.newAt _ _ _ ?_); first | with_reducible rfl | (simp; done)) | with_reducible refine Blk.alloc ?_ _ | with_reducible refine Blk.drewN ?_ _ | with_reducible refine Blk.drew ?_ | ((with_reducible refine Blk.other ?_ _ ?_); rotate_left; ((try dsimp only); omega)) | with_reducible refine Blk.setB (cs0 := ?_) ?_ ?_))) (by rintro (e | e) <;> omega)
              obtain ⟨l0, l1, l2, l3, l4, l5, l6, l7, l8, lf⟩ := hL.c9
              have hzL := hL.lt
              go_wp2_with fail
              refine (HDO.out trivial _ R2).mono ?_
              rintro e w3 ⟨rfl, hm3, k3⟩
              have hL3 : Blk w3 wr.heap.size [.int .u8 uo, .int .i64 ux, .int .i64 uy, .int .i64 uv, .int .u8 uk, .int .i64 ut, .int .i64 uf, .int .i64 ua, .int .i64 ul] 63 := k3.blk hL (by rintro (e | e) <;> omega)
              obtain ⟨s0, s1, s2, s3, s4, s5, s6, s7, s8, sf⟩ := hL3.c9
              go_wp2
              go_roundg k
              case measure => omega
              case rel => exact ⟨ut, md, rfl, by omega, by omega, R2.next hm3 k3 hMO, K2.trans k3 (fun x hx e => by have := HK12.out.size; rcases e with e | e <;> omega), HE1.out⟩
end Go.Proofs.YtellieabhaphhaaGreatDoor

/-
  narrow's run: a walk.
-/
namespace Go.Proofs.YtellieabhaphhaaGreatDoor
open Go.RowKit

/-- A whole struct into the block that was made last. -/
theorem wp_store_new {P : Program} {op : Oper} {a : Act} {K : Act → World → Prop} {Q : Exit → Act → World → Prop} (w0 : World) (ty : TypeId) (x y : Operand) (c c' : Array Value) (ho : op.op = .store ty x y)
    (hx : a.eval x = .pointer (some ⟨w0.heap.size, 0, none⟩)) (hy : a.eval y = .agg c') (hi : (P.info? ty).map (·.size) = some c'.size) (hs : c.size = c'.size) (h1 : c'.all (·.oneCell') = true)
    (h : K (a.put op.dst undef) (w0.alloc (.cells c' ty))) : op.wp P a (w0.alloc (.cells c ty)) K Q := by
  unfold Oper.wp execOp
  simp only [ho, hx, hy, Sem.run_bind, run_storeAt_new w0 ty c c' hi hs h1, Result.andThen_ok, Sem.run_pure]
  exact h

theorem wpList_store_new {P : Program} {ops : Array Oper} {rest : List Oper} {op : Oper} {a : Act} {Q : Exit → Act → World → Prop} (hgd : op.guard = none) (w0 : World) (ty : TypeId) (x y : Operand) (c c' : Array Value) (ho : op.op = .store ty x y)
    (hx : a.eval x = .pointer (some ⟨w0.heap.size, 0, none⟩)) (hy : a.eval y = .agg c') (hi : (P.info? ty).map (·.size) = some c'.size) (hs : c.size = c'.size) (h1 : c'.all (·.oneCell') = true)
    (h : wpList P ops Q rest (a.put op.dst undef) (w0.alloc (.cells c' ty))) : wpList P ops Q (op :: rest) a (w0.alloc (.cells c ty)) :=
  wpList_plain hgd fun _ hK => wp_store_new w0 ty x y c c' ho hx hy hi hs h1 (hK _ _ h)

theorem wpList_build_at {P : Program} {ops : Array Oper} {rest : List Oper} {o : Oper} {a : Act} {w : World} {Q : Exit → Act → World → Prop} (hg : o.guard = none) (t : TypeId) (parts : Array (Nat × Operand)) (ho : o.op = .build t parts)
    (vals : List (Nat × Value)) (hv : (parts.map fun (i, x) => (i, a.eval x)).toList = vals) (cells : Array Value) (hb : P.built t vals = some cells)
    (h : wpList P ops Q rest (a.put o.dst (.agg cells)) w) : wpList P ops Q (o :: rest) a w :=
  wpList_build hg t parts ho (by rw [hv, hb]; rfl) (by rw [hv, hb]; exact h)

theorem built_run (inp : ByteArray) : Tryz.prog.built 142 [(1, .string inp)] = some #[.int .i64 0, .int .i64 0, .int .i64 0, .int .i64 0, .int .i64 0, .int .i64 0, .int .i64 0, .int .i64 0, .int .i64 0, .int .i64 0, .int .i64 0, .int .i64 0, .int .i64 0, .int .i64 0, .int .i64 0, .int .i64 0, .int .i64 0, .int .i64 0, .string inp, .int .i64 0, .string ⟨#[]⟩, .string ⟨#[]⟩] := by kernel_rfl

theorem wpList_runs {P : Program} {ops : Array Oper} {rest : List Oper} {o : Oper} {a : Act} {w : World} {Q : Exit → Act → World → Prop} (hg : o.guard = none) (v : Value) (w' : World)
    (hrun : (execOp a.eval o).run P w = .ok (.value v) w') (h : wpList P ops Q rest (a.put o.dst v) w') : wpList P ops Q (o :: rest) a w :=
  wpList_plain hg fun _ hK => by
    unfold Oper.wp
    rw [hrun]
    exact hK _ _ h

theorem info_run : (Tryz.prog.info? 142).map (fun i => (i.zero, i.size)) = some (some (.agg #[.int .i64 0, .int .i64 0, .int .i64 0, .int .i64 0, .int .i64 0, .int .i64 0, .int .i64 0, .int .i64 0, .int .i64 0, .int .i64 0, .int .i64 0, .int .i64 0, .int .i64 0, .int .i64 0, .int .i64 0, .int .i64 0, .int .i64 0, .int .i64 0, .string ⟨#[]⟩, .int .i64 0, .string ⟨#[]⟩, .string ⟨#[]⟩]), 22) := by kernel_rfl

theorem alloc_run (w : World) (ρ : Operand → Value) (o : Oper) (ho : o.op = .alloc 142) : (execOp ρ o).run Tryz.prog w = .ok (.value (.pointer (some ⟨w.heap.size, 0, none⟩))) (w.alloc (.cells #[.int .i64 0, .int .i64 0, .int .i64 0, .int .i64 0, .int .i64 0, .int .i64 0, .int .i64 0, .int .i64 0, .int .i64 0, .int .i64 0, .int .i64 0, .int .i64 0, .int .i64 0, .int .i64 0, .int .i64 0, .int .i64 0, .int .i64 0, .int .i64 0, .string ⟨#[]⟩, .int .i64 0, .string ⟨#[]⟩, .string ⟨#[]⟩] 142)) := by
  have hz := (zero_of_info info_run).1
  unfold execOp
  simp only [ho, Instr.alloc, Sem.run_bind, hz, Result.andThen_ok]
  rfl

theorem ntest_c {w : World} {r : Nat} {inp : ByteArray} {m : Mc} {nd : Nd} {x y v : Nat} {xu yu vu : Vl} (tx : ByteArray) (yes no : Int) (p : StPre w r inp m nd x y v xu yu vu) (ht : nd.op = 121 ∨ nd.op = 58) :
    Calls Tryz.prog 101 #[.pointer (some ⟨r, 0, none⟩), .agg (encN nd tx yes no).cells.toArray] w fun e w' =>
      e = .returned (.int .i64 0) ∧ NB w' r inp m ∧ Kp (· = r) w w' := by
  obtain ⟨nb, g, hinp, hx, hy, hv, gx, gy, gv, vw, hout, htab, he⟩ := p
  have vy := vw yu (List.mem_of_getElem? gy)
  have by1 := bits_in nd.op yu.k g.op vy.k
  rw [inK_all vy.k (by omega) (by omega) (by omega) (by omega) (by omega)] at by1
  obtain ⟨op, nx, ny, nv, k, t, f, a, l⟩ := nd
  dsimp only at *
  subst hx hy hv
  rcases ht with rfl | rfl
  · exact nstep_12 tx 0 0 0 0 yes no x y y yu yu nb gy gy by1 by1
  · exact nstep_13 tx 0 0 0 (bit k) yes no x y y yu yu nb gy gy by1 by1

theorem bit_eq {k l : Int} (h : KOk k) (h' : KOk l) : (bit k == bit l) = (k == l) := by
  unfold KOk at h h'
  rcases h with rfl | rfl | rfl | rfl | rfl | rfl | rfl <;> rcases h' with rfl | rfl | rfl | rfl | rfl | rfl | rfl <;> decide

theorem nwayOf_t {w : World} {r : Nat} {inp : ByteArray} {m : Mc} {nd : Nd} {y : Nat} {yu : Vl} (tx : ByteArray) (yes nno : Int) (nb : NB w r inp m) (g : Gn nd) (hy : nd.y = y) (gy : m.l[y]? = some yu) (vy : VW yu) (ht : nd.op = 121 ∨ nd.op = 58) :
    Calls Tryz.prog 102 #[.pointer (some ⟨r, 0, none⟩), .agg (encN nd tx yes nno).cells.toArray] w fun e w' =>
      e = .returned (.int .i64 (if holdF nd yu then yes else nno)) ∧ Kp no w w' := by
  have gkd := g.kd
  obtain ⟨op, nx, ny, nv, k, t, f, a, l⟩ := nd
  dsimp only at *
  subst hy
  rcases ht with rfl | rfl
  · refine nway_of tx 12 nx y 0 0 0 0 yes nno y yu nb gy _ ?_
    rw [if_pos rfl]
    show _ = (if (121 : Int) = 58 then _ else _)
    rw [if_neg (by decide)]
    have h1 := vy.k
    unfold KOk at h1
    rcases h1 with e | e | e | e | e | e | e <;> rw [e] <;> rfl
  · refine nway_of tx 13 nx y 0 0 0 (bit k) yes nno y yu nb gy _ ?_
    rw [if_neg (by decide), if_pos rfl]
    show _ = (if (58 : Int) = 58 then _ else _)
    rw [if_pos rfl]
    exact bit_eq vy.k (gkd (.inl rfl))

theorem nwayOf_n {w : World} {r : Nat} {inp : ByteArray} {m : Mc} {nd : Nd} {y : Nat} {yu : Vl} (tx : ByteArray) (yes nno : Int) (nb : NB w r inp m) (hy : nd.y = y) (gy : m.l[y]? = some yu) (ht : ¬ (nd.op = 121 ∨ nd.op = 58)) :
    Calls Tryz.prog 102 #[.pointer (some ⟨r, 0, none⟩), .agg (encN nd tx yes nno).cells.toArray] w fun e w' =>
      e = .returned (.int .i64 yes) ∧ Kp no w w' := by
  have ha := actN_t nd.op
  obtain ⟨op, nx, ny, nv, k, t, f, a, l⟩ := nd
  dsimp only at *
  subst hy
  refine nway_of tx (actN op) nx _ _ _ _ _ yes nno y yu nb gy true ?_
  rw [if_neg (fun e => ht (ha.1 (.inl e))), if_neg (fun e => ht (ha.1 (.inr e)))]

/-- narrow's nodes are the answer's. -/
def NEq (L : List NN) (nds : List Nd) : Prop :=
  L.length = nds.length ∧ ∀ (i : Nat) (nd : Nd), nds[i]? = some nd → Gn nd ∧ ∃ tx yes nno, L[i]? = some (encN nd tx yes nno) ∧ (nd.op ≠ 33 → yes = nd.t ∧ -1 ≤ nd.t ∧ nd.t ≤ 1000) ∧ (nd.op = 121 ∨ nd.op = 58 → nno = nd.f ∧ -1 ≤ nd.f ∧ nd.f ≤ 1000)

theorem NB.trC {w : World} {r : Nat} {inp : ByteArray} {m : Mc} (h : NB w r inp m) : w.cell? ⟨r, 20, none⟩ = some (.string m.tr) := by
  obtain ⟨hb, h6⟩ := h
  obtain ⟨l, rd, left, tr, outp, me⟩ := m
  dsimp only at *
  obtain ⟨a, b, c, d, e, f, rfl⟩ := six_of h6
  exact hb.cell 20

theorem doF_e {inp : ByteArray} {n : Nd} {x : Nat} {xu yu vu : Vl} {m : Mc} (h : m.e = 8) : (doF inp n x xu yu vu m).e = 8 ∧ n.op ≠ 33 ∨ (doF inp n x xu yu vu m).e = 5 ∨ (doF inp n x xu yu vu m).e = 6 ∨ (doF inp n x xu yu vu m).e = 7 := by
  unfold doF
  repeat' split
  · exact .inr (.inr (.inl rfl))
  · exact .inr (.inl rfl)
  · exact .inr (.inl rfl)
  all_goals first | exact .inr (.inr (.inr rfl)) | exact .inl ⟨h, by assumption⟩ | exact .inl ⟨(worF_l inp n yu vu m).2.trans h, by assumption⟩

theorem nextF_left (inp : ByteArray) (m : Mc) : (nextF inp m).2.left = m.left := by unfold nextF; split <;> rfl
theorem worF_left (inp : ByteArray) (n : Nd) (y v : Vl) (m : Mc) : (worF inp n y v m).2.left = m.left := by
  unfold worF
  repeat' split
  · exact nextF_left inp m
  all_goals rfl
theorem doF_left {inp : ByteArray} {n : Nd} {x : Nat} {xu yu vu : Vl} {m : Mc} : (doF inp n x xu yu vu m).left = m.left := by
  unfold doF
  repeat' split
  all_goals first | rfl | exact worF_left inp n yu vu m

theorem NB.kp {w w' : World} {S : Nat → Prop} {r : Nat} {inp : ByteArray} {m : Mc} (h : NB w r inp m) (k : Kp S w w') (hn : ¬ S r) : NB w' r inp m := ⟨k.blk h.b hn, h.six⟩

theorem wkF_end {k : Nat} {nds : List Nd} {inp : ByteArray} {m mc' : Mc} {a : Int} (h : wkF k nds inp m a = some mc') (he : m.e ≠ 8) : mc' = m := by
  cases k with
  | zero => simp [wkF] at h
  | succ k =>
    rw [wkF, if_neg (fun e => he e.2)] at h
    simpa using h.symm

theorem NEq.of {s : ByteArray} {nds : List Nd} (h : ∀ n ∈ nds, Gd s n) : NEq (nds.map (encX s)) nds := by
  refine ⟨by simp, fun i nd hi => ?_⟩
  have hg := h nd (List.mem_of_getElem? hi)
  have tf := hg.tf
  refine ⟨hg.g, _, _, _, by rw [List.getElem?_map, hi]; rfl, fun h3 => ⟨by rw [yesN, if_neg h3], tf.1⟩, fun ht => ⟨by rw [noN, if_pos ht], tf.2⟩⟩

set_option maxRecDepth 100000 in
set_option maxHeartbeats 6400000 in
theorem nwalk_c (v : Value) (L : List NN) (nds : List Nd) (inp : ByteArray) (fuel : Nat) (w : World) (hR : NRow w v L) (hq : NEq L nds) (hl : nds.length ≤ 100) (hinp : inp.size ≤ 40) (hf : fuel ≤ 300) (ht : Tab w) (F : Nat) (mc' : Mc) (hE : wkF F nds inp (mc0 fuel) 0 = some mc') :
    Calls Tryz.prog 57 #[v, .string inp, .int .i64 fuel] w fun e w' => e = .returned (.tuple #[.string mc'.tr, .string mc'.out, .int .i64 (endE mc'.e)]) ∧ Kp no w w' := by
  have htl := ht.lt
  have HE := hide hE
  have HQ := hide hq
  obtain ⟨a, cap, rfl⟩ := hR.shape
  have hll : L.length ≤ 100 := by rw [hq.1]; exact hl
  clear hE hq
  go_enter Tryz.func57, Tryz.ntmps57
  go_wp2_with (first
    | (refine wpList_build_at rfl 142 #[(1, .tmp 15)] rfl [(1, .string inp)] (by simp [Act.eval]) _ (built_run inp) ?_)
    | (refine wpList_runs rfl _ _ (alloc_run _ _ _ rfl) ?_)
    | (refine wpList_store_new rfl w 142 (.tmp 9) (.tmp 16) #[.int .i64 0, .int .i64 0, .int .i64 0, .int .i64 0, .int .i64 0, .int .i64 0, .int .i64 0, .int .i64 0, .int .i64 0, .int .i64 0, .int .i64 0, .int .i64 0, .int .i64 0, .int .i64 0, .int .i64 0, .int .i64 0, .int .i64 0, .int .i64 0, .string ⟨#[]⟩, .int .i64 0, .string ⟨#[]⟩, .string ⟨#[]⟩] #[.int .i64 0, .int .i64 0, .int .i64 0, .int .i64 0, .int .i64 0, .int .i64 0, .int .i64 0, .int .i64 0, .int .i64 0, .int .i64 0, .int .i64 0, .int .i64 0, .int .i64 0, .int .i64 0, .int .i64 0, .int .i64 0, .int .i64 0, .int .i64 0, .string inp, .int .i64 0, .string ⟨#[]⟩, .string ⟨#[]⟩] rfl (by simp [Act.eval, Act.put]) (by simp [Act.eval, Act.put]) (zero_of_info info_run).2 rfl (all_oneCell_toArray (by simp [Value.oneCell'])) ?_))
  go_loopg [17] 6 (fun k i wr => ∃ j : Nat, j ≤ 6 ∧ k = 6 - j ∧ i = .int .i64 j ∧ Blk wr w.heap.size (nvCells (lj j) ++ [.string inp, .int .i64 0, .string ⟨#[]⟩, .string ⟨#[]⟩]) 142 ∧ Kp no w wr)
  case atStart => exact ⟨0, by decide, rfl, rfl, Blk.new w _ _, (Kp.refl no w).alloc _⟩
  case round =>
    obtain ⟨j, hj, hk, rfl, hb, kr⟩ := hrel
    have HK := hide hk
    have HKR := hide kr
    clear hk kr
    have hbl := hb.lt
    rcases (show j = 6 ∨ j = 0 ∨ j = 1 ∨ j = 2 ∨ j = 3 ∨ j = 4 ∨ j = 5 by omega) with rfl | rfl | rfl | rfl | rfl | rfl | rfl
    · have HB := hide hb
      clear hb
      have HM := hide (show NB wr w.heap.size inp (mc0 fuel) from ⟨HB.out, rfl⟩)
      go_wp2
      go_loopg [11, 12] F (fun k av sv wx => ∃ (at1 : Int) (m1 : Mc) (st : Nat), av = .int .i64 at1 ∧ sv = .int .i64 st ∧ -1 ≤ at1 ∧ at1 ≤ 1000 ∧ NB wx w.heap.size inp m1 ∧ MOk m1 ∧ m1.e = 8 ∧ (∀ u ∈ m1.l, VW u) ∧ st + m1.left = fuel ∧ Kp no w wx ∧ wkF k nds inp m1 at1 = some mc')
      case atStart => exact ⟨0, mc0 fuel, 0, rfl, rfl, by decide, by decide, HM.out, mc0_ok fuel hf, rfl, fun u hu => by
        have : u = zv := by
          simp only [mc0, lj, Nat.sub_self, List.replicate_zero, List.append_nil] at hu
          exact List.eq_of_mem_replicate hu
        rw [this]; exact VW.plain (by decide), Nat.zero_add _, HKR.out, HE.out⟩
      case round =>
        clear HK hbl HB HM HKR HE
        obtain ⟨at1, m1, st, rfl, rfl, ha1, ha2, hnb, hok, he8, hvw, hst, kr, hE⟩ := hrel
        have HKR := hide kr
        have HNB := hide hnb
        have HOK := hide hok
        have HVW := hide hvw
        have hT := (ht.kp kr no_elim)
        have HT := hide hT
        have hbl := hnb.b.lt
        have tc := hnb.trC
        have oc := hnb.outC
        have bf := hnb.b.frozen
        have HRW := hide (kr.row hR (fun _ _ => no_elim))
        clear kr hnb hok hvw hT
        have hne : w.heap.size ≠ 0 := by omega
        cases gk with
        | zero => simp [wkF] at hE
        | succ k =>
          rw [wkF] at hE
          by_cases hgo : at1 < nds.length ∧ m1.e = 8
          case neg =>
            rw [if_neg hgo] at hE
            simp only [Option.some.injEq] at hE
            have HE := hide hE
            have hlt : ¬ at1 < L.length := fun e => hgo ⟨by rw [← HQ.out.1]; exact e, he8⟩
            have HE8 := hide he8
            clear hE hgo he8
            have d1 : decide (0 ≤ at1) = true := by simp; omega
            go_wp2
            go_quiet (fail)
            go_wp2
            go_ret3
            rw [← HE.out, HE8.out]
            exact ⟨rfl, HKR.out.drewN _⟩
          case pos =>
            rw [if_pos hgo] at hE
            split at hE
            case isFalse => simp at hE
            rename_i ha
            obtain ⟨at1, rfl⟩ := Int.eq_ofNat_of_zero_le ha.1
            rw [Int.toNat_natCast] at hE
            have hlt : at1 < L.length := by rw [HQ.out.1]; omega
            have ha100 : at1 < 100 := by omega
            clear ha ha1 ha2 hgo
            cases hnd : nds[at1]? with
            | none => rw [hnd] at hE; simp at hE
            | some nd =>
              rw [hnd] at hE
              dsimp only at hE
              obtain ⟨hgn, tx0, yes0, nno0, hLi, hyes, hno⟩ := HQ.out.2 at1 nd hnd
              obtain ⟨_, g, rfl, hg, q0, q1, q2, q3, q4, q5, q6, q7, q8, q9, q10⟩ := NRow.at HRW.out hLi
              split at hE
              case h_2 => simp at hE
              rename_i xu yu vu hxu hyu hvu
              by_cases hl0 : m1.left = 0
              · have es : startF m1 at1 = ({ m1 with e := 4 }, false) := by rw [startF, if_pos hl0]
                rw [es] at hE
                simp only [Bool.false_eq_true, if_false] at hE
                have hend := wkF_end hE (by show (4 : Int) ≠ 8; decide)
                have HE := hide hend
                clear hE hend es hLi hyes hno q0 q1 q2 q3 q4 q5 q6 q7 q8 q9 q10
                have hst2 : (fuel : Int) ≤ st := by omega
                clear hst he8
                go_wp2
                go_quiet (fail)
                go_wp2
                go_ret3
                rw [HE.out]
                exact ⟨rfl, HKR.out.drewN _⟩
              · have es : startF m1 at1 = ({ m1 with left := m1.left - 1, tr := m1.tr ++ toldB at1 m1.l ++ sp }, true) := by rw [startF, if_neg hl0]
                have hso := startF_ok at1 HOK.out
                rw [es] at hE hso
                simp only [if_true] at hE
                have hTL := hide (fun W (hW : NB W w.heap.size inp m1) => ntell_c at1 ha100 hW (by have := HOK.out.tr; omega) HVW.out)
                have hM0 : Hid (∀ W, NB W w.heap.size inp { m1 with tr := m1.tr ++ toldB at1 m1.l ++ sp } → NB W w.heap.size inp { m1 with left := m1.left - 1, tr := m1.tr ++ toldB at1 m1.l ++ sp }) := hide (fun W h => ⟨h.b, h.six⟩)
                have he80 : ({ m1 with left := m1.left - 1, tr := m1.tr ++ toldB at1 m1.l ++ sp } : Mc).e = 8 := he8
                have hl0' : ({ m1 with left := m1.left - 1, tr := m1.tr ++ toldB at1 m1.l ++ sp } : Mc).l = m1.l := rfl
                have hle0 : ({ m1 with left := m1.left - 1, tr := m1.tr ++ toldB at1 m1.l ++ sp } : Mc).left + 1 = m1.left := by show m1.left - 1 + 1 = m1.left; omega
                generalize ({ m1 with tr := m1.tr ++ toldB at1 m1.l ++ sp } : Mc) = mt at *
                generalize ({ m1 with left := m1.left - 1, tr := m1.tr ++ toldB at1 m1.l ++ sp } : Mc) = m0 at *
                dsimp only at hso
                have hPre := hide (fun W (hW : NB W w.heap.size inp m0) (hTW : Tab W) => (show StPre W w.heap.size inp m0 nd nd.x.toNat nd.y.toNat nd.v.toNat xu yu vu from
                  ⟨hW, hgn, hinp, by have := hgn.x; omega, by have := hgn.y; omega, by have := hgn.v; omega, by rw [hl0']; exact hxu, by rw [hl0']; exact hyu, by rw [hl0']; exact hvu, by rw [hl0']; exact HVW.out, by have := hso.2.1 rfl; omega, hTW, he80⟩))
                have vy := HVW.out yu (List.mem_of_getElem? hyu)
                have hst1 : (st : Int) < fuel := by omega
                have HE80 := hide he80
                by_cases htst : nd.op = 121 ∨ nd.op = 58
                · rw [if_pos htst] at hE
                  have HE := hide hE
                  have HS := hide (fun W (hW : NB W w.heap.size inp m0) (hTW : Tab W) => ntest_c tx0 yes0 nno0 (hPre.out W hW hTW) htst)
                  have HWY := hide (fun W (hW : NB W w.heap.size inp m0) => nwayOf_t tx0 yes0 nno0 hW hgn (show nd.y = (nd.y.toNat : Nat) by have := hgn.y; omega) (by rw [hl0']; exact hyu) vy htst)
                  obtain ⟨hy1, hy2, hy3⟩ := hyes (by omega)
                  obtain ⟨hn1, hn2, hn3⟩ := hno htst
                  have HAT := hide (show (if holdF nd yu then yes0 else nno0) = (if holdF nd yu then nd.t else nd.f) by rw [hy1, hn1])
                  have HBD := hide (show -1 ≤ (if holdF nd yu then nd.t else nd.f) ∧ (if holdF nd yu then nd.t else nd.f) ≤ 1000 by split <;> omega)
                  rw [HAT.out] at HWY
                  generalize (if holdF nd yu = true then nd.t else nd.f) = an at *
                  clear hE hyes hno hy1 hy2 hy3 hn1 hn2 hn3 htst HAT
                  generalize hnn : encN nd tx0 yes0 nno0 = n at *
                  have HNN := hide hnn
                  clear hnn
                  obtain ⟨tx, act, nx, ny, nw, ck, cn, ch, kd, yes, nno⟩ := n
                  unfold NN.cells at HS HWY
                  dsimp only at HS HWY q0 q1 q2 q3 q4 q5 q6 q7 q8 q9 q10
                  clear es hLi he80 hxu hvu hPre
                  have HL0 := hide hl0'
                  have HLE := hide hle0
                  have HST := hide hst
                  have HSO := hide hso
                  clear hl0' hle0 hst hso hgn he8 hl0 hyu vy
                  go_wp2_with fail
                  refine (hTL.out _ ⟨Blk.alloc HNB.out.b _, HNB.out.six⟩).mono ?_
                  rintro e w2 ⟨rfl, h2, k2⟩
                  have h2' := hM0.out _ h2
                  have hN2 : Blk w2 wr.heap.size [.string tx, .int .i64 act, .int .i64 nx, .int .i64 ny, .int .i64 nw, .int .i64 ck, .int .i64 cn, .int .i64 ch, .int .i64 kd, .int .i64 yes, .int .i64 nno] 91 := k2.blk (by (repeat' (first | ((with_reducible show (_ : List Value) = _); rfl) | ((with_reducible refine Blk.newAt _ _ _ ?_); first | with_reducible rfl | (simp; done)) | with_reducible refine Blk.alloc ?_ _ | with_reducible refine Blk.drewN ?_ _ | with_reducible refine Blk.drew ?_ | ((with_reducible refine Blk.other ?_ _ ?_); rotate_left; ((try dsimp only); omega)) | with_reducible refine Blk.setB (cs0 := ?_) ?_ ?_))) (by omega)
                  obtain ⟨d0, d1, d2, d3, d4, d5, d6, d7, d8, d9, d10, df⟩ := hN2.c11
                  have hz2 := hN2.lt
                  have hT2 : Tab w2 := (HT.out.kp ((Kp.refl no wr).alloc _) no_elim).kp k2 (fun e => hne e.symm)
                  have K2 : Kp no w w2 := (HKR.out.alloc _).trans k2 (fun x hx e => by omega)
                  have HK2 := hide K2
                  clear K2 q0 q1 q2 q3 q4 q5 q6 q7 q8 q9 q10 tc oc bf
                  go_wp2_with fail
                  refine (HS.out _ h2' hT2).mono ?_
                  rintro e w3 ⟨rfl, h3, k3⟩
                  have hN3 : Blk w3 wr.heap.size [.string tx, .int .i64 act, .int .i64 nx, .int .i64 ny, .int .i64 nw, .int .i64 ck, .int .i64 cn, .int .i64 ch, .int .i64 kd, .int .i64 yes, .int .i64 nno] 91 := k3.blk hN2 (by omega)
                  obtain ⟨e0, e1, e2, e3, e4, e5, e6, e7, e8, e9, e10, ef⟩ := hN3.c11
                  have hz3 := hN3.lt
                  have K3 : Kp no w w3 := HK2.out.trans k3 (fun x hx e => by omega)
                  have HK3 := hide K3
                  clear K3 d0 d1 d2 d3 d4 d5 d6 d7 d8 d9 d10 df
                  go_wp2_with fail
                  refine (HWY.out _ h3).mono ?_
                  rintro e w4 ⟨rfl, k4⟩
                  go_wp2
                  go_roundg k
                  case measure => omega
                  case rel => exact ⟨an, m0, st + 1, rfl, by go_num, HBD.out.1, HBD.out.2, h3.kp k4 no_elim, HSO.out.1, HE80.out, by rw [HL0.out]; exact HVW.out, by have := HLE.out; have := HST.out; omega, HK3.out.trans k4 (fun _ _ e => e), HE.out⟩
                · rw [if_neg htst] at hE
                  have HS := hide (fun W (hW : NB W w.heap.size inp m0) (hTW : Tab W) => nstep_c tx0 yes0 nno0 (hPre.out W hW hTW) htst)
                  have hde := doF_e (inp := inp) (n := nd) (x := nd.x.toNat) (xu := xu) (yu := yu) (vu := vu) he80
                  have hdv := doF_vw (inp := inp) (n := nd) (x := nd.x.toNat) (xu := xu) (yu := yu) (vu := vu) (m := m0) hgn (by rw [hl0']; exact HVW.out) vy (HVW.out vu (List.mem_of_getElem? hvu))
                  have hdo : MOk (doF inp nd nd.x.toNat xu yu vu m0) := doF_ok hgn.k (HOK.out.v yu (List.mem_of_getElem? hyu)) (HOK.out.v vu (List.mem_of_getElem? hvu)) hso.1 (hso.2.1 rfl)
                  have hdl : (doF inp nd nd.x.toNat xu yu vu m0).left = m0.left := doF_left
                  generalize doF inp nd nd.x.toNat xu yu vu m0 = md at *
                  by_cases h8 : md.e = 8
                  · have h33 : nd.op ≠ 33 := by
                      rcases hde with h | h | h | h
                      · exact h.2
                      · omega
                      · omega
                      · omega
                    obtain ⟨hy1, hy2, hy3⟩ := hyes h33
                    obtain ⟨yu2, hyu2⟩ : ∃ yu2, md.l[nd.y.toNat]? = some yu2 := ⟨_, List.getElem?_eq_getElem (by have := hdo.six; have := hgn.y; omega)⟩
                    have HWY := hide (fun W (hW : NB W w.heap.size inp md) => (nwayOf_n tx0 yes0 nno0 hW (show nd.y = (nd.y.toNat : Nat) by have := hgn.y; omega) hyu2 htst).mono (R' := fun e w' => e = .returned (.int .i64 nd.t) ∧ Kp no W w') (fun e w' h => ⟨h.1.trans (by rw [hy1]), h.2⟩))
                    have HE := hide hE
                    have hBD : -1 ≤ nd.t ∧ nd.t ≤ 1000 := ⟨hy2, hy3⟩
                    have HBD := hide hBD
                    rw [h8] at HS
                    rw [show endE 8 = 0 from rfl] at HS
                    have HH8 := hide h8
                    generalize nd.t = an at *
                    have HDV := hide hdv
                    have HDO := hide hdo
                    have HDL := hide hdl
                    clear hE hyes hno hy1 hy2 hy3 htst hde hyu2 hBD h8 hdv hdo hdl
                    generalize hnn : encN nd tx0 yes0 nno0 = n at *
                    have HNN := hide hnn
                    clear hnn
                    obtain ⟨tx, act, nx, ny, nw, ck, cn, ch, kd, yes, nno⟩ := n
                    unfold NN.cells at HS HWY
                    dsimp only at HS HWY q0 q1 q2 q3 q4 q5 q6 q7 q8 q9 q10
                    clear es hLi he80 hxu hvu hPre
                    have HL0 := hide hl0'
                    have HLE := hide hle0
                    have HST := hide hst
                    have HSO := hide hso
                    clear hl0' hle0 hst hso hgn he8 hl0 hyu vy
                    go_wp2_with fail
                    refine (hTL.out _ ⟨Blk.alloc HNB.out.b _, HNB.out.six⟩).mono ?_
                    rintro e w2 ⟨rfl, h2, k2⟩
                    have h2' := hM0.out _ h2
                    have hN2 : Blk w2 wr.heap.size [.string tx, .int .i64 act, .int .i64 nx, .int .i64 ny, .int .i64 nw, .int .i64 ck, .int .i64 cn, .int .i64 ch, .int .i64 kd, .int .i64 yes, .int .i64 nno] 91 := k2.blk (by (repeat' (first | ((with_reducible show (_ : List Value) = _); rfl) | ((with_reducible refine Blk.newAt _ _ _ ?_); first | with_reducible rfl | (simp; done)) | with_reducible refine Blk.alloc ?_ _ | with_reducible refine Blk.drewN ?_ _ | with_reducible refine Blk.drew ?_ | ((with_reducible refine Blk.other ?_ _ ?_); rotate_left; ((try dsimp only); omega)) | with_reducible refine Blk.setB (cs0 := ?_) ?_ ?_))) (by omega)
                    obtain ⟨d0, d1, d2, d3, d4, d5, d6, d7, d8, d9, d10, df⟩ := hN2.c11
                    have hz2 := hN2.lt
                    have hT2 : Tab w2 := (HT.out.kp ((Kp.refl no wr).alloc _) no_elim).kp k2 (fun e => hne e.symm)
                    have K2 : Kp no w w2 := (HKR.out.alloc _).trans k2 (fun x hx e => by omega)
                    have HK2 := hide K2
                    clear K2 q0 q1 q2 q3 q4 q5 q6 q7 q8 q9 q10 tc oc bf
                    go_wp2_with fail
                    refine (HS.out _ h2' hT2).mono ?_
                    rintro e w3 ⟨rfl, h3, k3⟩
                    have hN3 : Blk w3 wr.heap.size [.string tx, .int .i64 act, .int .i64 nx, .int .i64 ny, .int .i64 nw, .int .i64 ck, .int .i64 cn, .int .i64 ch, .int .i64 kd, .int .i64 yes, .int .i64 nno] 91 := k3.blk hN2 (by omega)
                    obtain ⟨e0, e1, e2, e3, e4, e5, e6, e7, e8, e9, e10, ef⟩ := hN3.c11
                    have hz3 := hN3.lt
                    have K3 : Kp no w w3 := HK2.out.trans k3 (fun x hx e => by omega)
                    have HK3 := hide K3
                    clear K3 d0 d1 d2 d3 d4 d5 d6 d7 d8 d9 d10 df
                    go_wp2_with fail
                    refine (HWY.out _ h3).mono ?_
                    rintro e w4 ⟨rfl, k4⟩
                    go_wp2
                    go_roundg k
                    case measure => omega
                    case rel => exact ⟨an, md, st + 1, rfl, by go_num, HBD.out.1, HBD.out.2, h3.kp k4 no_elim, HDO.out, HH8.out, HDV.out, by have := HLE.out; have := HST.out; have := HDL.out; omega, HK3.out.trans k4 (fun _ _ e => e), HE.out⟩
                  · have hend := wkF_end hE h8
                    have HE := hide hend
                    have h567 : md.e = 5 ∨ md.e = 6 ∨ md.e = 7 := by omega
                    have he' : endE md.e = md.e := by rw [endE, if_neg h8]
                    rw [← he'] at h567
                    have hec : (endE md.e == 0) = false := by simp; omega
                    generalize hge : endE md.e = ee at *
                    have HGE := hide hge
                    clear hE hyes hno htst hde hend h8 h567 he' hge hdv hdo hdl
                    generalize hnn : encN nd tx0 yes0 nno0 = n at *
                    have HNN := hide hnn
                    clear hnn
                    obtain ⟨tx, act, nx, ny, nw, ck, cn, ch, kd, yes, nno⟩ := n
                    unfold NN.cells at HS
                    dsimp only at HS q0 q1 q2 q3 q4 q5 q6 q7 q8 q9 q10
                    clear es hLi he80 hxu hvu hPre
                    have HL0 := hide hl0'
                    have HLE := hide hle0
                    have HST := hide hst
                    have HSO := hide hso
                    clear hl0' hle0 hst hso hgn he8 hl0 hyu vy
                    go_wp2_with fail
                    refine (hTL.out _ ⟨Blk.alloc HNB.out.b _, HNB.out.six⟩).mono ?_
                    rintro e w2 ⟨rfl, h2, k2⟩
                    have h2' := hM0.out _ h2
                    have hN2 : Blk w2 wr.heap.size [.string tx, .int .i64 act, .int .i64 nx, .int .i64 ny, .int .i64 nw, .int .i64 ck, .int .i64 cn, .int .i64 ch, .int .i64 kd, .int .i64 yes, .int .i64 nno] 91 := k2.blk (by (repeat' (first | ((with_reducible show (_ : List Value) = _); rfl) | ((with_reducible refine Blk.newAt _ _ _ ?_); first | with_reducible rfl | (simp; done)) | with_reducible refine Blk.alloc ?_ _ | with_reducible refine Blk.drewN ?_ _ | with_reducible refine Blk.drew ?_ | ((with_reducible refine Blk.other ?_ _ ?_); rotate_left; ((try dsimp only); omega)) | with_reducible refine Blk.setB (cs0 := ?_) ?_ ?_))) (by omega)
                    obtain ⟨d0, d1, d2, d3, d4, d5, d6, d7, d8, d9, d10, df⟩ := hN2.c11
                    have hz2 := hN2.lt
                    have hT2 : Tab w2 := (HT.out.kp ((Kp.refl no wr).alloc _) no_elim).kp k2 (fun e => hne e.symm)
                    have K2 : Kp no w w2 := (HKR.out.alloc _).trans k2 (fun x hx e => by omega)
                    have HK2 := hide K2
                    clear K2 q0 q1 q2 q3 q4 q5 q6 q7 q8 q9 q10 tc oc bf
                    go_wp2_with fail
                    refine (HS.out _ h2' hT2).mono ?_
                    rintro e w3 ⟨rfl, h3, k3⟩
                    have hN3 : Blk w3 wr.heap.size [.string tx, .int .i64 act, .int .i64 nx, .int .i64 ny, .int .i64 nw, .int .i64 ck, .int .i64 cn, .int .i64 ch, .int .i64 kd, .int .i64 yes, .int .i64 nno] 91 := k3.blk hN2 (by omega)
                    obtain ⟨e0, e1, e2, e3, e4, e5, e6, e7, e8, e9, e10, ef⟩ := hN3.c11
                    have hz3 := hN3.lt
                    have K3 : Kp no w w3 := HK2.out.trans k3 (fun x hx e => by omega)
                    have HK3 := hide K3
                    clear K3 d0 d1 d2 d3 d4 d5 d6 d7 d8 d9 d10 df
                    have tc := h3.trC
                    have oc := h3.outC
                    have bf := h3.b.frozen
                    go_wp2
                    go_quiet (fail)
                    go_wp2
                    go_ret3
                    rw [HE.out, HGE.out]
                    exact ⟨rfl, HK3.out.drewN _⟩
    · have hb' : Blk wr w.heap.size [.int .i64 0, .int .i64 0, .int .i64 0, .int .i64 0, .int .i64 0, .int .i64 0, .int .i64 0, .int .i64 0, .int .i64 0, .int .i64 0, .int .i64 0, .int .i64 0, .int .i64 0, .int .i64 0, .int .i64 0, .int .i64 0, .int .i64 0, .int .i64 0, .string inp, .int .i64 0, .string ⟨#[]⟩, .string ⟨#[]⟩] 142 := hb
      have z1 := hb'.cell 0
      have z2 := hb'.cell 1
      have z3 := hb'.cell 2
      have zf := hb'.frozen
      simp only [List.getElem?_cons_zero, List.getElem?_cons_succ] at z1 z2 z3
      clear hb
      go_wp2
      go_roundg (6 - 1)
      case measure => have := HK.out; omega
      case rel =>
        have kk := HKR.out
        refine ⟨1, by omega, rfl, by go_num, ?_, by (repeat' (first | with_reducible exact Kp.refl _ _ | with_reducible refine Kp.alloc ?_ _ | with_reducible refine Kp.drewN ?_ _ | with_reducible refine Kp.drew ?_ | with_reducible refine Kp.setCell ?_ _ ?_ | with_reducible refine Kp.trans ?_ kk (fun _ _ e => e) | (intro hh; first | rfl | exact .inl rfl | exact .inr rfl | (exfalso; (try dsimp only at hh); omega))))⟩
        show Blk _ _ [.int .i64 8, .int .i64 0, .int .i64 0, .int .i64 0, .int .i64 0, .int .i64 0, .int .i64 0, .int .i64 0, .int .i64 0, .int .i64 0, .int .i64 0, .int .i64 0, .int .i64 0, .int .i64 0, .int .i64 0, .int .i64 0, .int .i64 0, .int .i64 0, .string inp, .int .i64 0, .string ⟨#[]⟩, .string ⟨#[]⟩] _
        (repeat' (first | ((with_reducible show (_ : List Value) = _); rfl) | with_reducible exact hb' | ((with_reducible refine Blk.newAt _ _ _ ?_); first | with_reducible rfl | (simp; done)) | with_reducible refine Blk.alloc ?_ _ | with_reducible refine Blk.drewN ?_ _ | with_reducible refine Blk.drew ?_ | ((with_reducible refine Blk.other ?_ _ ?_); rotate_left; ((try dsimp only); omega)) | with_reducible refine Blk.setB (cs0 := ?_) ?_ ?_))
    · have hb' : Blk wr w.heap.size [.int .i64 8, .int .i64 0, .int .i64 0, .int .i64 0, .int .i64 0, .int .i64 0, .int .i64 0, .int .i64 0, .int .i64 0, .int .i64 0, .int .i64 0, .int .i64 0, .int .i64 0, .int .i64 0, .int .i64 0, .int .i64 0, .int .i64 0, .int .i64 0, .string inp, .int .i64 0, .string ⟨#[]⟩, .string ⟨#[]⟩] 142 := hb
      have z1 := hb'.cell 3
      have z2 := hb'.cell 4
      have z3 := hb'.cell 5
      have zf := hb'.frozen
      simp only [List.getElem?_cons_zero, List.getElem?_cons_succ] at z1 z2 z3
      clear hb
      go_wp2
      go_roundg (6 - 2)
      case measure => have := HK.out; omega
      case rel =>
        have kk := HKR.out
        refine ⟨2, by omega, rfl, by go_num, ?_, by (repeat' (first | with_reducible exact Kp.refl _ _ | with_reducible refine Kp.alloc ?_ _ | with_reducible refine Kp.drewN ?_ _ | with_reducible refine Kp.drew ?_ | with_reducible refine Kp.setCell ?_ _ ?_ | with_reducible refine Kp.trans ?_ kk (fun _ _ e => e) | (intro hh; first | rfl | exact .inl rfl | exact .inr rfl | (exfalso; (try dsimp only at hh); omega))))⟩
        show Blk _ _ [.int .i64 8, .int .i64 0, .int .i64 0, .int .i64 8, .int .i64 0, .int .i64 0, .int .i64 0, .int .i64 0, .int .i64 0, .int .i64 0, .int .i64 0, .int .i64 0, .int .i64 0, .int .i64 0, .int .i64 0, .int .i64 0, .int .i64 0, .int .i64 0, .string inp, .int .i64 0, .string ⟨#[]⟩, .string ⟨#[]⟩] _
        (repeat' (first | ((with_reducible show (_ : List Value) = _); rfl) | with_reducible exact hb' | ((with_reducible refine Blk.newAt _ _ _ ?_); first | with_reducible rfl | (simp; done)) | with_reducible refine Blk.alloc ?_ _ | with_reducible refine Blk.drewN ?_ _ | with_reducible refine Blk.drew ?_ | ((with_reducible refine Blk.other ?_ _ ?_); rotate_left; ((try dsimp only); omega)) | with_reducible refine Blk.setB (cs0 := ?_) ?_ ?_))
    · have hb' : Blk wr w.heap.size [.int .i64 8, .int .i64 0, .int .i64 0, .int .i64 8, .int .i64 0, .int .i64 0, .int .i64 0, .int .i64 0, .int .i64 0, .int .i64 0, .int .i64 0, .int .i64 0, .int .i64 0, .int .i64 0, .int .i64 0, .int .i64 0, .int .i64 0, .int .i64 0, .string inp, .int .i64 0, .string ⟨#[]⟩, .string ⟨#[]⟩] 142 := hb
      have z1 := hb'.cell 6
      have z2 := hb'.cell 7
      have z3 := hb'.cell 8
      have zf := hb'.frozen
      simp only [List.getElem?_cons_zero, List.getElem?_cons_succ] at z1 z2 z3
      clear hb
      go_wp2
      go_roundg (6 - 3)
      case measure => have := HK.out; omega
      case rel =>
        have kk := HKR.out
        refine ⟨3, by omega, rfl, by go_num, ?_, by (repeat' (first | with_reducible exact Kp.refl _ _ | with_reducible refine Kp.alloc ?_ _ | with_reducible refine Kp.drewN ?_ _ | with_reducible refine Kp.drew ?_ | with_reducible refine Kp.setCell ?_ _ ?_ | with_reducible refine Kp.trans ?_ kk (fun _ _ e => e) | (intro hh; first | rfl | exact .inl rfl | exact .inr rfl | (exfalso; (try dsimp only at hh); omega))))⟩
        show Blk _ _ [.int .i64 8, .int .i64 0, .int .i64 0, .int .i64 8, .int .i64 0, .int .i64 0, .int .i64 8, .int .i64 0, .int .i64 0, .int .i64 0, .int .i64 0, .int .i64 0, .int .i64 0, .int .i64 0, .int .i64 0, .int .i64 0, .int .i64 0, .int .i64 0, .string inp, .int .i64 0, .string ⟨#[]⟩, .string ⟨#[]⟩] _
        (repeat' (first | ((with_reducible show (_ : List Value) = _); rfl) | with_reducible exact hb' | ((with_reducible refine Blk.newAt _ _ _ ?_); first | with_reducible rfl | (simp; done)) | with_reducible refine Blk.alloc ?_ _ | with_reducible refine Blk.drewN ?_ _ | with_reducible refine Blk.drew ?_ | ((with_reducible refine Blk.other ?_ _ ?_); rotate_left; ((try dsimp only); omega)) | with_reducible refine Blk.setB (cs0 := ?_) ?_ ?_))
    · have hb' : Blk wr w.heap.size [.int .i64 8, .int .i64 0, .int .i64 0, .int .i64 8, .int .i64 0, .int .i64 0, .int .i64 8, .int .i64 0, .int .i64 0, .int .i64 0, .int .i64 0, .int .i64 0, .int .i64 0, .int .i64 0, .int .i64 0, .int .i64 0, .int .i64 0, .int .i64 0, .string inp, .int .i64 0, .string ⟨#[]⟩, .string ⟨#[]⟩] 142 := hb
      have z1 := hb'.cell 9
      have z2 := hb'.cell 10
      have z3 := hb'.cell 11
      have zf := hb'.frozen
      simp only [List.getElem?_cons_zero, List.getElem?_cons_succ] at z1 z2 z3
      clear hb
      go_wp2
      go_roundg (6 - 4)
      case measure => have := HK.out; omega
      case rel =>
        have kk := HKR.out
        refine ⟨4, by omega, rfl, by go_num, ?_, by (repeat' (first | with_reducible exact Kp.refl _ _ | with_reducible refine Kp.alloc ?_ _ | with_reducible refine Kp.drewN ?_ _ | with_reducible refine Kp.drew ?_ | with_reducible refine Kp.setCell ?_ _ ?_ | with_reducible refine Kp.trans ?_ kk (fun _ _ e => e) | (intro hh; first | rfl | exact .inl rfl | exact .inr rfl | (exfalso; (try dsimp only at hh); omega))))⟩
        show Blk _ _ [.int .i64 8, .int .i64 0, .int .i64 0, .int .i64 8, .int .i64 0, .int .i64 0, .int .i64 8, .int .i64 0, .int .i64 0, .int .i64 8, .int .i64 0, .int .i64 0, .int .i64 0, .int .i64 0, .int .i64 0, .int .i64 0, .int .i64 0, .int .i64 0, .string inp, .int .i64 0, .string ⟨#[]⟩, .string ⟨#[]⟩] _
        (repeat' (first | ((with_reducible show (_ : List Value) = _); rfl) | with_reducible exact hb' | ((with_reducible refine Blk.newAt _ _ _ ?_); first | with_reducible rfl | (simp; done)) | with_reducible refine Blk.alloc ?_ _ | with_reducible refine Blk.drewN ?_ _ | with_reducible refine Blk.drew ?_ | ((with_reducible refine Blk.other ?_ _ ?_); rotate_left; ((try dsimp only); omega)) | with_reducible refine Blk.setB (cs0 := ?_) ?_ ?_))
    · have hb' : Blk wr w.heap.size [.int .i64 8, .int .i64 0, .int .i64 0, .int .i64 8, .int .i64 0, .int .i64 0, .int .i64 8, .int .i64 0, .int .i64 0, .int .i64 8, .int .i64 0, .int .i64 0, .int .i64 0, .int .i64 0, .int .i64 0, .int .i64 0, .int .i64 0, .int .i64 0, .string inp, .int .i64 0, .string ⟨#[]⟩, .string ⟨#[]⟩] 142 := hb
      have z1 := hb'.cell 12
      have z2 := hb'.cell 13
      have z3 := hb'.cell 14
      have zf := hb'.frozen
      simp only [List.getElem?_cons_zero, List.getElem?_cons_succ] at z1 z2 z3
      clear hb
      go_wp2
      go_roundg (6 - 5)
      case measure => have := HK.out; omega
      case rel =>
        have kk := HKR.out
        refine ⟨5, by omega, rfl, by go_num, ?_, by (repeat' (first | with_reducible exact Kp.refl _ _ | with_reducible refine Kp.alloc ?_ _ | with_reducible refine Kp.drewN ?_ _ | with_reducible refine Kp.drew ?_ | with_reducible refine Kp.setCell ?_ _ ?_ | with_reducible refine Kp.trans ?_ kk (fun _ _ e => e) | (intro hh; first | rfl | exact .inl rfl | exact .inr rfl | (exfalso; (try dsimp only at hh); omega))))⟩
        show Blk _ _ [.int .i64 8, .int .i64 0, .int .i64 0, .int .i64 8, .int .i64 0, .int .i64 0, .int .i64 8, .int .i64 0, .int .i64 0, .int .i64 8, .int .i64 0, .int .i64 0, .int .i64 8, .int .i64 0, .int .i64 0, .int .i64 0, .int .i64 0, .int .i64 0, .string inp, .int .i64 0, .string ⟨#[]⟩, .string ⟨#[]⟩] _
        (repeat' (first | ((with_reducible show (_ : List Value) = _); rfl) | with_reducible exact hb' | ((with_reducible refine Blk.newAt _ _ _ ?_); first | with_reducible rfl | (simp; done)) | with_reducible refine Blk.alloc ?_ _ | with_reducible refine Blk.drewN ?_ _ | with_reducible refine Blk.drew ?_ | ((with_reducible refine Blk.other ?_ _ ?_); rotate_left; ((try dsimp only); omega)) | with_reducible refine Blk.setB (cs0 := ?_) ?_ ?_))
    · have hb' : Blk wr w.heap.size [.int .i64 8, .int .i64 0, .int .i64 0, .int .i64 8, .int .i64 0, .int .i64 0, .int .i64 8, .int .i64 0, .int .i64 0, .int .i64 8, .int .i64 0, .int .i64 0, .int .i64 8, .int .i64 0, .int .i64 0, .int .i64 0, .int .i64 0, .int .i64 0, .string inp, .int .i64 0, .string ⟨#[]⟩, .string ⟨#[]⟩] 142 := hb
      have z1 := hb'.cell 15
      have z2 := hb'.cell 16
      have z3 := hb'.cell 17
      have zf := hb'.frozen
      simp only [List.getElem?_cons_zero, List.getElem?_cons_succ] at z1 z2 z3
      clear hb
      go_wp2
      go_roundg (6 - 6)
      case measure => have := HK.out; omega
      case rel =>
        have kk := HKR.out
        refine ⟨6, by omega, rfl, by go_num, ?_, by (repeat' (first | with_reducible exact Kp.refl _ _ | with_reducible refine Kp.alloc ?_ _ | with_reducible refine Kp.drewN ?_ _ | with_reducible refine Kp.drew ?_ | with_reducible refine Kp.setCell ?_ _ ?_ | with_reducible refine Kp.trans ?_ kk (fun _ _ e => e) | (intro hh; first | rfl | exact .inl rfl | exact .inr rfl | (exfalso; (try dsimp only at hh); omega))))⟩
        show Blk _ _ [.int .i64 8, .int .i64 0, .int .i64 0, .int .i64 8, .int .i64 0, .int .i64 0, .int .i64 8, .int .i64 0, .int .i64 0, .int .i64 8, .int .i64 0, .int .i64 0, .int .i64 8, .int .i64 0, .int .i64 0, .int .i64 8, .int .i64 0, .int .i64 0, .string inp, .int .i64 0, .string ⟨#[]⟩, .string ⟨#[]⟩] _
        (repeat' (first | ((with_reducible show (_ : List Value) = _); rfl) | with_reducible exact hb' | ((with_reducible refine Blk.newAt _ _ _ ?_); first | with_reducible rfl | (simp; done)) | with_reducible refine Blk.alloc ?_ _ | with_reducible refine Blk.drewN ?_ _ | with_reducible refine Blk.drew ?_ | ((with_reducible refine Blk.other ?_ _ ?_); rotate_left; ((try dsimp only); omega)) | with_reducible refine Blk.setB (cs0 := ?_) ?_ ?_))
end Go.Proofs.YtellieabhaphhaaGreatDoor

/-
  Walk: narrow's and the answer's, at every text.
-/
namespace Go.Proofs.YtellieabhaphhaaGreatDoor
open Go.RowKit

set_option maxHeartbeats 800000 in
theorem nwithin_c (inp : ByteArray) (fuel : Int) (w : World) (hm : inp.size ≤ maxLen) :
    Calls Tryz.prog 56 #[.string inp, .int .i64 fuel] w fun e w' => e = .returned (.bool (decide (inp.size ≤ 40 ∧ 0 ≤ fuel ∧ fuel ≤ 300))) ∧ w' = w := by
  unfold maxLen at hm
  by_cases h1 : inp.size ≤ 40
  · by_cases h2 : 0 ≤ fuel
    · by_cases h3 : fuel ≤ 300
      · rw [decide_eq_true ⟨h1, h2, h3⟩]
        go_enter Tryz.func56, Tryz.ntmps56
        go_wp2
        go_ret
        exact ⟨rfl, rfl⟩
      · rw [decide_eq_false (fun e => h3 e.2.2)]
        have d3 : decide (fuel ≤ 300) = false := by simp; omega
        clear h3
        go_enter Tryz.func56, Tryz.ntmps56
        go_wp2
        go_ret
        exact ⟨rfl, rfl⟩
    · rw [decide_eq_false (fun e => h2 e.2.1)]
      have d3 : decide (0 ≤ fuel) = false := by simp; omega
      clear h2
      go_enter Tryz.func56, Tryz.ntmps56
      go_wp2
      go_ret
      exact ⟨rfl, rfl⟩
  · rw [decide_eq_false (fun e => h1 e.1)]
    have d3 : decide ((inp.size : Int) ≤ 40) = false := by simp; omega
    go_enter Tryz.func56, Tryz.ntmps56
    go_wp2
    go_ret
    exact ⟨rfl, rfl⟩

def em3 (c : Int) : Ending := .returned (.tuple #[.string ByteArray.empty, .string ByteArray.empty, .int .i64 c])

set_option maxHeartbeats 1600000 in
theorem refwalk_long (s inp : ByteArray) (fuel : Int) (w : World) (hm : inp.size ≤ maxLen) (h : ¬ (inp.size ≤ 40 ∧ 0 ≤ fuel ∧ fuel ≤ 300)) :
    Calls Tryz.prog 49 #[.string s, .string inp, .int .i64 fuel] w fun e w' => e = em3 1 ∧ Kp no w w' := by
  have HG := hide (given_c inp fuel w hm)
  rw [decide_eq_false h] at HG
  clear h
  go_enter Tryz.func49, Tryz.ntmps49
  go_wp2_with fail
  refine HG.out.mono ?_
  rintro e w1 ⟨rfl, rfl⟩
  go_wp2
  go_ret3
  exact ⟨rfl, Kp.refl _ _⟩

set_option maxHeartbeats 1600000 in
theorem refwalk_big (s inp : ByteArray) (fuel : Int) (w : World) (hm : inp.size ≤ maxLen) (hm2 : s.size ≤ maxLen) (h : inp.size ≤ 40 ∧ 0 ≤ fuel ∧ fuel ≤ 300) (hs : 900 < s.size) :
    Calls Tryz.prog 49 #[.string s, .string inp, .int .i64 fuel] w fun e w' => e = em3 1 ∧ Kp no w w' := by
  have HG := hide (given_c inp fuel w hm)
  rw [decide_eq_true h] at HG
  have HS := hide (lines_long s w hm2 hs)
  clear h
  go_enter Tryz.func49, Tryz.ntmps49
  go_wp2_with fail
  refine HG.out.mono ?_
  rintro e w1 ⟨rfl, rfl⟩
  go_wp2_with fail
  refine HS.out.mono ?_
  rintro e w1 ⟨⟨r, rfl⟩, k1⟩
  go_wp2
  go_ret3
  exact ⟨rfl, k1⟩

set_option maxHeartbeats 1600000 in
theorem refwalk_bad (s inp : ByteArray) (fuel : Int) (w : World) (hm : inp.size ≤ maxLen) (h : inp.size ≤ 40 ∧ 0 ≤ fuel ∧ fuel ≤ 300) (hs : s.size ≤ 900) (hb : (graE s).1 ≠ 0) :
    Calls Tryz.prog 49 #[.string s, .string inp, .int .i64 fuel] w fun e w' => e = em3 (graE s).1 ∧ Kp no w w' := by
  have HG := hide (given_c inp fuel w hm)
  rw [decide_eq_true h] at HG
  have HS := hide (lines_c s w hs)
  have hb' : (((graE s).1 : Int) == 0) = false := by simp; omega
  unfold LinPost at HS
  generalize graE s = ge at *
  obtain ⟨ge1, ge2⟩ := ge
  dsimp only at *
  clear h hb
  go_enter Tryz.func49, Tryz.ntmps49
  go_wp2_with fail
  refine HG.out.mono ?_
  rintro e w1 ⟨rfl, rfl⟩
  go_wp2_with fail
  refine HS.out.mono ?_
  rintro e w1 ⟨r, O, rfl, hr, k1, hO⟩
  clear hr hO
  go_wp2
  go_ret3
  exact ⟨rfl, k1⟩

set_option maxHeartbeats 1600000 in
theorem nwalk_long (s inp : ByteArray) (fuel : Int) (w : World) (hm : inp.size ≤ maxLen) (h : ¬ (inp.size ≤ 40 ∧ 0 ≤ fuel ∧ fuel ≤ 300)) :
    Calls Tryz.prog 33 #[.string s, .string inp, .int .i64 fuel] w fun e w' => e = em3 1 ∧ Kp no w w' := by
  have HG := hide (nwithin_c inp fuel w hm)
  rw [decide_eq_false h] at HG
  clear h
  go_enter Tryz.func33, Tryz.ntmps33
  go_wp2_with fail
  refine HG.out.mono ?_
  rintro e w1 ⟨rfl, rfl⟩
  go_wp2
  go_ret3
  exact ⟨rfl, Kp.refl _ _⟩

set_option maxHeartbeats 1600000 in
theorem nwalk_big (s inp : ByteArray) (fuel : Int) (w : World) (hm : inp.size ≤ maxLen) (hm2 : s.size ≤ maxLen) (h : inp.size ≤ 40 ∧ 0 ≤ fuel ∧ fuel ≤ 300) (hs : 900 < s.size) :
    Calls Tryz.prog 33 #[.string s, .string inp, .int .i64 fuel] w fun e w' => e = em3 1 ∧ Kp no w w' := by
  have HG := hide (nwithin_c inp fuel w hm)
  rw [decide_eq_true h] at HG
  have HS := hide (nog_long s w hm2 hs)
  clear h
  go_enter Tryz.func33, Tryz.ntmps33
  go_wp2_with fail
  refine HG.out.mono ?_
  rintro e w1 ⟨rfl, rfl⟩
  go_wp2_with fail
  refine HS.out.mono ?_
  rintro e w1 ⟨rfl, k1⟩
  go_wp2
  go_ret3
  exact ⟨rfl, k1⟩

set_option maxHeartbeats 1600000 in
theorem nwalk_bad (s inp : ByteArray) (fuel : Int) (w : World) (hm : inp.size ≤ maxLen) (h : inp.size ≤ 40 ∧ 0 ≤ fuel ∧ fuel ≤ 300) (hs : s.size ≤ 900) (hb : (graE s).1 ≠ 0) :
    Calls Tryz.prog 33 #[.string s, .string inp, .int .i64 fuel] w fun e w' => e = em3 (graE s).1 ∧ Kp no w w' := by
  have HG := hide (nwithin_c inp fuel w hm)
  rw [decide_eq_true h] at HG
  have HS := hide (nog_c s w hs)
  have hb' : (((graE s).1 : Int) == 0) = false := by simp; omega
  unfold NogPost at HS
  generalize graE s = ge at *
  obtain ⟨ge1, ge2⟩ := ge
  dsimp only at *
  clear h hb
  go_enter Tryz.func33, Tryz.ntmps33
  go_wp2_with fail
  refine HG.out.mono ?_
  rintro e w1 ⟨rfl, rfl⟩
  go_wp2_with fail
  refine HS.out.mono ?_
  rintro e w1 ⟨v, rfl, k1, _⟩
  go_wp2
  go_ret3
  exact ⟨rfl, k1⟩

set_option maxRecDepth 100000 in
set_option maxHeartbeats 1600000 in
theorem nwalk_good (s inp : ByteArray) (fuel : Nat) (w : World) (hm : inp.size ≤ 40) (h : fuel ≤ 300) (hs : s.size ≤ 900) (hb : (graE s).1 = 0) (ht : Tab w) (F : Nat) (mc' : Mc) (hE : wkF F (graF s).nodes inp (mc0 fuel) 0 = some mc') :
    Calls Tryz.prog 33 #[.string s, .string inp, .int .i64 fuel] w fun e w' => e = .returned (.tuple #[.string mc'.tr, .string mc'.out, .int .i64 (endE mc'.e)]) ∧ Kp no w w' := by
  have hm2 : inp.size ≤ maxLen := by unfold maxLen; omega
  have HG := hide (nwithin_c inp fuel w hm2)
  rw [decide_eq_true (by omega)] at HG
  have HS := hide (nog_c s w hs)
  have hlen := (graF_inv s).2
  unfold NogPost at HS
  rw [hb] at HS
  have HE := hide hE
  clear hb hE
  go_enter Tryz.func33, Tryz.ntmps33
  go_wp2_with fail
  refine HG.out.mono ?_
  rintro e w1 ⟨rfl, rfl⟩
  go_wp2_with fail
  refine HS.out.mono ?_
  rintro e w2 ⟨v, rfl, k2, hpost⟩
  obtain ⟨hR, hO, hgd⟩ := hpost trivial
  have HW := hide (nwalk_c v _ _ inp fuel w2 hR (NEq.of hgd) (by omega) hm h (ht.kp k2 no_elim) F mc' HE.out)
  clear hO hgd hpost HE HS HG
  generalize (graF s).nodes.map (encX s) = L at *
  obtain ⟨a, cap, rfl⟩ := hR.shape
  clear hR hlen
  go_wp2_with fail
  refine HW.out.mono ?_
  rintro e w3 ⟨rfl, k3⟩
  go_wp2
  go_ret3
  exact ⟨rfl, k2.trans k3 (fun _ _ e => e)⟩

theorem doF_six {inp : ByteArray} {n : Nd} {x : Nat} {xu yu vu : Vl} {m : Mc} (h : m.l.length = 6) : (doF inp n x xu yu vu m).l.length = 6 := by
  unfold doF
  repeat' split
  all_goals first | exact h | (show ((worF inp n yu vu m).2.l.set x _).length = 6; rw [List.length_set, (worF_l inp n yu vu m).1]; exact h)

theorem wkF_total (nds : List Nd) (inp : ByteArray) (hl : nds.length ≤ 90) (hg : ∀ n ∈ nds, Gn n ∧ (n.op ≠ 33 → 0 ≤ n.t) ∧ (n.op = 121 ∨ n.op = 58 → 0 ≤ n.f)) :
    ∀ (c : Nat) (m : Mc) (a : Int), m.left = c → m.l.length = 6 → (m.e = 8 → 0 ≤ a) → ∃ mc', wkF (c + 3) nds inp m a = some mc' := by
  intro c
  induction c with
  | zero =>
    intro m a hc h6 ha
    by_cases hgo : a < nds.length ∧ m.e = 8
    · obtain ⟨at1, rfl⟩ := Int.eq_ofNat_of_zero_le (ha hgo.2)
      obtain ⟨nd, hnd⟩ : ∃ nd, nds[at1]? = some nd := ⟨_, List.getElem?_eq_getElem (by omega)⟩
      have g := (hg nd (List.mem_of_getElem? hnd)).1
      obtain ⟨xu, hxu⟩ : ∃ u, m.l[nd.x.toNat]? = some u := ⟨_, List.getElem?_eq_getElem (by have := g.x; omega)⟩
      obtain ⟨yu, hyu⟩ : ∃ u, m.l[nd.y.toNat]? = some u := ⟨_, List.getElem?_eq_getElem (by have := g.y; omega)⟩
      obtain ⟨vu, hvu⟩ : ∃ u, m.l[nd.v.toNat]? = some u := ⟨_, List.getElem?_eq_getElem (by have := g.v; omega)⟩
      have es : startF m at1 = ({ m with e := 4 }, false) := by rw [startF, if_pos hc]
      refine ⟨{ m with e := 4 }, ?_⟩
      rw [wkF, if_pos hgo, if_pos ⟨by omega, by omega⟩, Int.toNat_natCast, hnd]
      simp only [hxu, hyu, hvu, es, Bool.false_eq_true, if_false]
      rw [wkF, if_neg (fun e => by have := e.2; simp at this)]
    · exact ⟨m, by rw [wkF, if_neg hgo]⟩
  | succ c ih =>
    intro m a hc h6 ha
    by_cases hgo : a < nds.length ∧ m.e = 8
    · obtain ⟨at1, rfl⟩ := Int.eq_ofNat_of_zero_le (ha hgo.2)
      obtain ⟨nd, hnd⟩ : ∃ nd, nds[at1]? = some nd := ⟨_, List.getElem?_eq_getElem (by omega)⟩
      obtain ⟨g, gt, gf⟩ := hg nd (List.mem_of_getElem? hnd)
      obtain ⟨xu, hxu⟩ : ∃ u, m.l[nd.x.toNat]? = some u := ⟨_, List.getElem?_eq_getElem (by have := g.x; omega)⟩
      obtain ⟨yu, hyu⟩ : ∃ u, m.l[nd.y.toNat]? = some u := ⟨_, List.getElem?_eq_getElem (by have := g.y; omega)⟩
      obtain ⟨vu, hvu⟩ : ∃ u, m.l[nd.v.toNat]? = some u := ⟨_, List.getElem?_eq_getElem (by have := g.v; omega)⟩
      have es : startF m at1 = ({ m with left := m.left - 1, tr := m.tr ++ toldB at1 m.l ++ sp }, true) := by rw [startF, if_neg (by omega)]
      rw [show c + 1 + 3 = (c + 3) + 1 from rfl, wkF, if_pos hgo, if_pos ⟨by omega, by omega⟩, Int.toNat_natCast, hnd]
      simp only [hxu, hyu, hvu, es, if_true]
      have hle : ({ m with left := m.left - 1, tr := m.tr ++ toldB at1 m.l ++ sp } : Mc).left = c := by show m.left - 1 = c; omega
      have h60 : ({ m with left := m.left - 1, tr := m.tr ++ toldB at1 m.l ++ sp } : Mc).l.length = 6 := h6
      have he0 : ({ m with left := m.left - 1, tr := m.tr ++ toldB at1 m.l ++ sp } : Mc).e = 8 := hgo.2
      generalize ({ m with left := m.left - 1, tr := m.tr ++ toldB at1 m.l ++ sp } : Mc) = m0 at *
      by_cases ht : nd.op = 121 ∨ nd.op = 58
      · rw [if_pos ht]
        refine ih m0 _ hle h60 (fun _ => ?_)
        split
        · exact gt (by omega)
        · exact gf ht
      · rw [if_neg ht]
        refine ih _ _ (by rw [doF_left]; exact hle) (doF_six h60) (fun e8 => ?_)
        rcases doF_e (inp := inp) (n := nd) (x := nd.x.toNat) (xu := xu) (yu := yu) (vu := vu) he0 with h | h | h | h
        · exact gt h.2
        · omega
        · omega
        · omega
    · exact ⟨m, by rw [wkF, if_neg hgo]⟩

theorem graF_total (s inp : ByteArray) (fuel : Nat) (hg : ∀ n ∈ (graF s).nodes, Gd s n) : ∃ F mc', wkF F (graF s).nodes inp (mc0 fuel) 0 = some mc' := by
  obtain ⟨mc', h⟩ := wkF_total (graF s).nodes inp (graF_inv s).2 (fun n hn => ⟨(hg n hn).g, fun h => ((hg n hn).t h).1, fun h => ((hg n hn).f h).1⟩) fuel (mc0 fuel) 0 rfl rfl (fun _ => Int.le_refl _)
  exact ⟨_, mc', h⟩
end Go.Proofs.YtellieabhaphhaaGreatDoor

/-
  Walk: narrow's answer is the answer's.
-/
namespace Go.Proofs.YtellieabhaphhaaGreatDoor
open Go.RowKit

theorem lineF_items (s : ByteArray) (st : RS) : (lineF s st).items = st.items := by
  simp only [lineF]; split <;> rfl

theorem lnsF_gd : ∀ (f : Nat) (s : ByteArray) (st : RS), st.bad = false → (∀ n ∈ st.nodes, Gd s n) → (lnsF f s st).items = st.items ∧ ((lnsF f s st).bad = false → ∀ n ∈ (lnsF f s st).nodes, Gd s n) := by
  intro f
  induction f with
  | zero => intro s st _ h; exact ⟨rfl, fun _ => h⟩
  | succ f ih =>
    intro s st hb h
    rw [lnsF]
    split
    · rename_i hc
      split
      · exact ⟨rfl, fun e => by cases e⟩
      · cases hb2 : (lineF s st).bad
        · obtain ⟨nd, h1, h2, _⟩ := lineF_gd s st hc.2 hb2
          have := ih s (lineF s st) hb2 (fun n hn => by
            rw [h1, List.mem_append, List.mem_singleton] at hn
            rcases hn with h' | rfl
            · exact h n h'
            · exact h2)
          exact ⟨this.1.trans (lineF_items s st), this.2⟩
        · rw [lns_stop f s (lineF s st) (by rw [hb2]; simp)]
          exact ⟨lineF_items s st, fun e => by rw [hb2] at e; cases e⟩
    · exact ⟨rfl, fun _ => h⟩

theorem graF_gd (s : ByteArray) : (graF s).items = [] ∧ ((graF s).bad = false → ∀ n ∈ (graF s).nodes, Gd s n) :=
  lnsF_gd _ s rs0 rfl (fun n hn => by simp [rs0] at hn)

theorem graE_zero (s : ByteArray) (h : (graE s).1 = 0) : graE s = (0, 0) ∧ (graF s).bad = false := by
  unfold graE at h ⊢
  split
  · rename_i hb; rw [if_pos hb] at h; simp at h
  · rename_i hb
    rw [if_neg hb] at h
    refine ⟨?_, by simpa using hb⟩
    split
    · rename_i hl; rw [hl] at h; simp at h
    · rfl

/-- One call of Walk: both answer this. -/
def WalkIs (s inp : ByteArray) (fuel : Int) (t u : ByteArray) (c : Int) : Prop :=
  (∀ W, Tab W → Calls Tryz.prog 33 #[.string s, .string inp, .int .i64 fuel] W fun e w' => e = .returned (.tuple #[.string t, .string u, .int .i64 c]) ∧ Kp no W w') ∧
  (∀ W, Tab W → Calls Tryz.prog 49 #[.string s, .string inp, .int .i64 fuel] W fun e w' => e = .returned (.tuple #[.string t, .string u, .int .i64 c]) ∧ Kp no W w')

theorem walk_both (s inp : ByteArray) (fuel : Int) (hs : s.size ≤ maxLen) (hi : inp.size ≤ maxLen) : ∃ t u c, WalkIs s inp fuel t u c := by
  by_cases hg : inp.size ≤ 40 ∧ 0 ≤ fuel ∧ fuel ≤ 300
  · by_cases hs9 : s.size ≤ 900
    · by_cases hb : (graE s).1 = 0
      · obtain ⟨h1, h2, h3⟩ := hg
        obtain ⟨fuel, rfl⟩ := Int.eq_ofNat_of_zero_le h2
        obtain ⟨e1, e2⟩ := graE_zero s hb
        obtain ⟨g1, g2⟩ := graF_gd s
        have gd := g2 e2
        obtain ⟨F, mc', hE⟩ := graF_total s inp fuel gd
        exact ⟨_, _, _, fun W hW => nwalk_good s inp fuel W h1 (by omega) hs9 hb hW F mc' hE, fun W hW => walk_good s inp fuel W h1 (by omega) hs9 e1 hW (fun n hn => (gd n hn).g.nok) g1 (fun n hn => (gd n hn).tf) F mc' hE⟩
      · exact ⟨_, _, _, fun W _ => nwalk_bad s inp fuel W hi hg hs9 hb, fun W _ => refwalk_bad s inp fuel W hi hg hs9 hb⟩
    · exact ⟨_, _, _, fun W _ => nwalk_big s inp fuel W hi hs hg (by omega), fun W _ => refwalk_big s inp fuel W hi hs hg (by omega)⟩
  · exact ⟨_, _, _, fun W _ => nwalk_long s inp fuel W hi hg, fun W _ => refwalk_long s inp fuel W hi hg⟩
end Go.Proofs.YtellieabhaphhaaGreatDoor

/-
  The laws: one step.
-/
namespace Go.Proofs.YtellieabhaphhaaGreatDoor
open Go.RowKit

theorem lnum_c (c : Int) (w : World) :
    Calls Tryz.prog 18 #[.int .i64 c] w fun e w' => e = .returned (.int .i64 c) ∧ w' = w := by
  go_enter Tryz.func18, Tryz.ntmps18
  go_wp2
  go_ret
  exact ⟨rfl, rfl⟩

set_option maxHeartbeats 800000 in
theorem lwalks_c (s inp : ByteArray) (fuel : Int) (t u : ByteArray) (c : Int) (w : World) (h : WalkIs s inp fuel t u c) (ht : Tab w) :
    Calls Tryz.prog 19 #[.string s, .string inp, .int .i64 fuel] w fun e w' => e = .returned (.agg #[.string t, .string u, .int .i64 c]) ∧ Kp no w w' := by
  have HN := hide h.1
  have HNU := hide (fun W => lnum_c c W)
  clear h
  go_enter Tryz.func19, Tryz.ntmps19
  go_wp2_with fail
  refine (HN.out _ (ht.kp (by (repeat' (first | with_reducible exact Kp.refl _ _ | with_reducible refine Kp.alloc ?_ _ | with_reducible refine Kp.drewN ?_ _ | with_reducible refine Kp.drew ?_ | with_reducible refine Kp.setCell ?_ _ ?_ | (intro hh; first | rfl | exact .inl rfl | exact .inr rfl | (exfalso; (try dsimp only at hh); omega))))) no_elim)).mono ?_
  rintro e w1 ⟨rfl, k1⟩
  have hR : Blk w1 w.heap.size [.string ⟨#[]⟩, .string ⟨#[]⟩, .int .i64 0] 31 := k1.blk (by (repeat' (first | ((with_reducible show (_ : List Value) = _); rfl) | ((with_reducible refine Blk.newAt _ _ _ ?_); first | with_reducible rfl | (simp; done)) | with_reducible refine Blk.alloc ?_ _ | with_reducible refine Blk.drewN ?_ _ | with_reducible refine Blk.drew ?_ | ((with_reducible refine Blk.other ?_ _ ?_); rotate_left; ((try dsimp only); omega)) | with_reducible refine Blk.setB (cs0 := ?_) ?_ ?_))) no_elim
  obtain ⟨z0, z1, z2, zf⟩ := hR.c3
  have hz := hR.lt
  go_wp2_with (go_at_call 18; refine (HNU.out _).mono ?_; rintro e w' ⟨rfl, rfl⟩)
  refine body_agg (Tb := 31) (b := w.heap.size) (cs := [.string t, .string u, .int .i64 c]) (.inr rfl) Tryz.results19 rfl rfl (by (repeat' (first | ((with_reducible show (_ : List Value) = _); rfl) | with_reducible exact hR | ((with_reducible refine Blk.newAt _ _ _ ?_); first | with_reducible rfl | (simp; done)) | with_reducible refine Blk.alloc ?_ _ | with_reducible refine Blk.drewN ?_ _ | with_reducible refine Blk.drew ?_ | ((with_reducible refine Blk.other ?_ _ ?_); rotate_left; ((try dsimp only); omega)) | with_reducible refine Blk.setB (cs0 := ?_) ?_ ?_))) Tryz.underlying31 rfl (by kernel_rfl) ?_
  exact ⟨rfl, by (repeat' (first | with_reducible exact Kp.refl _ _ | with_reducible refine Kp.alloc ?_ _ | with_reducible refine Kp.drewN ?_ _ | with_reducible refine Kp.drew ?_ | with_reducible refine Kp.setCell ?_ _ ?_ | with_reducible refine Kp.trans ?_ k1 (fun _ _ e => e) | (intro hh; first | rfl | exact .inl rfl | exact .inr rfl | (exfalso; (try dsimp only at hh); omega))))⟩

set_option maxRecDepth 100000 in
set_option maxHeartbeats 1600000 in
theorem lplays_walk (b c : Int) (s t u : ByteArray) (w : World) (hs : s.size ≤ maxLen) (hi : t.size ≤ maxLen) (ht : Tab w) :
    Calls Tryz.prog 29 #[.agg #[.int .i64 3, .int .i64 b, .int .i64 c, .string s, .string t, .string u]] w fun e w' => e = .returned (.bool true) ∧ Kp no w w' := by
  obtain ⟨x, y, z, hw⟩ := walk_both s t b hs hi
  have HN := hide (fun W (hW : Tab W) => lwalks_c s t b x y z W hw hW)
  have HR := hide hw.2
  clear hw
  go_enter Tryz.func29, Tryz.ntmps29
  go_wp2_with fail
  refine (HN.out _ (ht.kp (by (repeat' (first | with_reducible exact Kp.refl _ _ | with_reducible refine Kp.alloc ?_ _ | with_reducible refine Kp.drewN ?_ _ | with_reducible refine Kp.drew ?_ | with_reducible refine Kp.setCell ?_ _ ?_ | (intro hh; first | rfl | exact .inl rfl | exact .inr rfl | (exfalso; (try dsimp only at hh); omega))))) no_elim)).mono ?_
  rintro e w1 ⟨rfl, k1⟩
  have hT1 : Tab w1 := (ht.kp ((Kp.refl no w).alloc _) no_elim).kp k1 no_elim
  have hO : Blk w1 w.heap.size [.int .i64 3, .int .i64 b, .int .i64 c, .string s, .string t, .string u] 26 := k1.blk (by (repeat' (first | ((with_reducible show (_ : List Value) = _); rfl) | ((with_reducible refine Blk.newAt _ _ _ ?_); first | with_reducible rfl | (simp; done)) | with_reducible refine Blk.alloc ?_ _ | with_reducible refine Blk.drewN ?_ _ | with_reducible refine Blk.drew ?_ | ((with_reducible refine Blk.other ?_ _ ?_); rotate_left; ((try dsimp only); omega)) | with_reducible refine Blk.setB (cs0 := ?_) ?_ ?_))) no_elim
  have o0 := hO.cell 0; have o1 := hO.cell 1; have o2 := hO.cell 2; have o3 := hO.cell 3; have o4 := hO.cell 4; have o5 := hO.cell 5
  simp only [List.getElem?_cons_zero, List.getElem?_cons_succ] at o0 o1 o2 o3 o4 o5
  have of := hO.frozen
  have hz := hO.lt
  go_wp2_with fail
  refine (HR.out _ (hT1.kp (by (repeat' (first | with_reducible exact Kp.refl _ _ | with_reducible refine Kp.alloc ?_ _ | with_reducible refine Kp.drewN ?_ _ | with_reducible refine Kp.drew ?_ | with_reducible refine Kp.setCell ?_ _ ?_ | (intro hh; first | rfl | exact .inl rfl | exact .inr rfl | (exfalso; (try dsimp only at hh); omega))))) no_elim)).mono ?_
  rintro e w2 ⟨rfl, k2⟩
  have hX : Blk w2 w1.heap.size [.string x, .string y, .int .i64 z] 31 := k2.blk (by (repeat' (first | ((with_reducible show (_ : List Value) = _); rfl) | ((with_reducible refine Blk.newAt _ _ _ ?_); first | with_reducible rfl | (simp; done)) | with_reducible refine Blk.alloc ?_ _ | with_reducible refine Blk.drewN ?_ _ | with_reducible refine Blk.drew ?_ | ((with_reducible refine Blk.other ?_ _ ?_); rotate_left; ((try dsimp only); omega)) | with_reducible refine Blk.setB (cs0 := ?_) ?_ ?_))) no_elim
  obtain ⟨z0, z1, z2, zf⟩ := hX.c3
  have hz2 := hX.lt
  clear o0 o1 o2 o3 o4 o5 of
  go_wp2
  go_ret
  exact ⟨by simp, by (repeat' (first | with_reducible exact Kp.refl _ _ | with_reducible refine Kp.alloc ?_ _ | with_reducible refine Kp.drewN ?_ _ | with_reducible refine Kp.drew ?_ | with_reducible refine Kp.setCell ?_ _ ?_ | with_reducible refine Kp.trans ?_ k1 (fun _ _ e => e) | with_reducible refine Kp.trans ?_ k2 (fun _ _ e => e) | (intro hh; first | rfl | exact .inl rfl | exact .inr rfl | (exfalso; (try dsimp only at hh); omega))))⟩
end Go.Proofs.YtellieabhaphhaaGreatDoor

/-
  The laws: a script.
-/
namespace Go.Proofs.YtellieabhaphhaaGreatDoor
open Go.RowKit

structure OpV where
  k : Int
  b : Int
  c : Int
  s : ByteArray
  t : ByteArray
  u : ByteArray

def OpV.cells (o : OpV) : List Value := [.int .i64 o.k, .int .i64 o.b, .int .i64 o.c, .string o.s, .string o.t, .string o.u]

/-- The script, as it lies in memory. -/
def Scr (w : World) (a : Addr) (n : Nat) (O : Nat → OpV) : Prop := ∀ i, i < n → ∀ j, j < 6 → w.cell? (a.add (i * 6 + j)) = (O i).cells[j]?

theorem run_loadVar_gen {P : Program} (w : World) (a : Addr) (ty : TypeId) (cs : List Value) (d : TypeDesc) (hc : ∀ j v, cs[j]? = some v → w.cell? (a.add j) = some v)
    (hu : P.underlying ty = some d) (hd : d.isRow = true) (hi : (P.info? ty).map (·.size) = some cs.length) :
    (loadVar ty a).run P w = .ok (.agg cs.toArray) w := by
  have hl : (loadCells a cs.length).run P w = .ok cs.toArray w := run_loadCells_list (P := P) w a cs hc
  cases hq : P.info? ty with
  | none => simp [hq] at hi
  | some i =>
    have hs : i.size = cs.length := by simpa [hq] using hi
    have hagg : (isAgg ty).run P w = .ok true w := by
      unfold isAgg
      rw [Sem.run_bind, run_underlying hu w]
      cases d <;> simp_all
    simp [loadVar, Sem.run_bind, hagg, sizeOf, typeInfo, hq, hs, hl]

theorem wp_load_gen {P : Program} {op : Oper} {a : Act} {w : World} {K : Act → World → Prop} {Q : Exit → Act → World → Prop} (ty : TypeId) (x : Operand) (ho : op.op = .load ty x)
    (b : Addr) (hx : a.eval x = .pointer (some b)) (cs : List Value) (d : TypeDesc) (hc : ∀ j v, cs[j]? = some v → w.cell? (b.add j) = some v)
    (hu : P.underlying ty = some d) (hd : d.isRow = true) (hi : (P.info? ty).map (·.size) = some cs.length)
    (h : K (a.put op.dst (.agg cs.toArray)) w) : op.wp P a w K Q := by
  unfold Oper.wp execOp
  simp only [ho, hx, Instr.loadAt, Instr.sureAddr, Sem.run_bind, Sem.run_pure, Result.andThen_ok, run_loadVar_gen w b ty cs d hc hu hd hi]
  exact h

theorem wpList_load_gen {P : Program} {ops : Array Oper} {rest : List Oper} {op : Oper} {a : Act} {w : World} {Q : Exit → Act → World → Prop} (hgd : op.guard = none) (ty : TypeId) (x : Operand) (ho : op.op = .load ty x)
    (b : Addr) (hx : a.eval x = .pointer (some b)) (cs : List Value) (d : TypeDesc) (hc : ∀ j v, cs[j]? = some v → w.cell? (b.add j) = some v)
    (hu : P.underlying ty = some d) (hd : d.isRow = true) (hi : (P.info? ty).map (·.size) = some cs.length)
    (h : wpList P ops Q rest (a.put op.dst (.agg cs.toArray)) w) : wpList P ops Q (op :: rest) a w :=
  wpList_plain hgd fun _ hK => wp_load_gen ty x ho b hx cs d hc hu hd hi (hK _ _ h)

theorem add_block (a : Addr) (k : Nat) : (a.add k).block = a.block := by unfold Addr.add; split <;> rfl

theorem Scr.kp {w w' : World} {a : Addr} {n : Nat} {O : Nat → OpV} (h : Scr w a n O) (k : Kp no w w') (hab : a.block < w.heap.size) : Scr w' a n O := fun i hi j hj => by
  rw [← h i hi j hj]
  exact World.cell?_of_block (by rw [add_block]; exact k.block a.block hab no_elim)

set_option maxRecDepth 100000 in
set_option maxHeartbeats 1600000 in
theorem lupto_c (a : Addr) (n cap : Nat) (O : Nat → OpV) (lo hi : Int) (w : World) (hn : n ≤ maxLen) (hS : Scr w a n O) (hab : a.block < w.heap.size) (ht : Tab w)
    (hp : ∀ i, i < n → lo ≤ (O i).k → (O i).k ≤ hi → ∀ W, Tab W → Calls Tryz.prog 29 #[.agg #[.int .i64 (O i).k, .int .i64 (O i).b, .int .i64 (O i).c, .string (O i).s, .string (O i).t, .string (O i).u]] W fun e w' => e = .returned (.bool true) ∧ Kp no W w') :
    Calls Tryz.prog 15 #[.slice (some a) n cap, .int .i64 lo, .int .i64 hi] w fun e w' => e = .returned (.int .i64 (-1)) ∧ Kp no w w' := by
  unfold maxLen at hn
  go_enter Tryz.func15, Tryz.ntmps15
  go_wp2
  go_loopg [7] n (fun k iv wr => ∃ j : Nat, j ≤ n ∧ k = n - j ∧ iv = .int .i64 j ∧ Kp no w wr)
  case atStart => exact ⟨0, Nat.zero_le _, rfl, rfl, Kp.refl _ _⟩
  case round =>
    obtain ⟨j, hj, hk, rfl, kr⟩ := hrel
    have HK := hide hk
    have HKR := hide kr
    have hSr := hS.kp kr hab
    have hTr := ht.kp kr no_elim
    have hal : a.block < wr.heap.size := by have := kr.size; omega
    clear hk kr
    by_cases hlt : j < n
    · by_cases h60 : (j : Int) < 1152921504606846976
      · have d60 := decide_eq_true h60
        clear h60
        have c0 := hSr j hlt 0 (by decide)
        have c1 := hSr j hlt 1 (by decide)
        have c2 := hSr j hlt 2 (by decide)
        have c3 := hSr j hlt 3 (by decide)
        have c4 := hSr j hlt 4 (by decide)
        have c5 := hSr j hlt 5 (by decide)
        have HP := hide (hp j hlt)
        clear hSr hS hp
        generalize O j = o at *
        obtain ⟨ok, ob, oc, os, ot, ou⟩ := o
        simp only [OpV.cells, List.getElem?_cons_zero, List.getElem?_cons_succ, Nat.add_zero] at c0 c1 c2 c3 c4 c5
        dsimp only at HP
        have HHN := hide hn
        have HCL := hide (show ∀ jj v, [Value.int .i64 ok, .int .i64 ob, .int .i64 oc, .string os, .string ot, .string ou][jj]? = some v → wr.cell? ((a.add (j * 6)).add jj) = some v from fun jj v hv => by
          have hjj := (List.getElem?_eq_some_iff.1 hv).1
          simp only [List.length_cons, List.length_nil] at hjj
          rw [Deep.add_add, ← hv]
          rcases (show jj = 0 ∨ jj = 1 ∨ jj = 2 ∨ jj = 3 ∨ jj = 4 ∨ jj = 5 by omega) with rfl | rfl | rfl | rfl | rfl | rfl
          · exact c0
          · exact c1
          · exact c2
          · exact c3
          · exact c4
          · exact c5)
        clear hn ht hab c0 c1 c2 c3 c4 c5
        have hwrap : IntKind.i64.wrap ((j : Int) + 1) = (j : Int) + 1 := Go.IntWalk.i64_in _ (by have := HHN.out; omega)
        have HD := hide d60
        by_cases hlo : lo ≤ ok
        · by_cases hhi : ok ≤ hi
          · have HPP := hide (HP.out hlo hhi)
            clear HP
            go_wp2_with (refine wpList_load_gen rfl 26 (.tmp 22) rfl (a.add (j * 6)) (by simp [Act.eval]) [Value.int .i64 ok, .int .i64 ob, .int .i64 oc, .string os, .string ot, .string ou] _ HCL.out Tryz.underlying26 rfl (by kernel_rfl) ?_)
            refine (HPP.out _ (hTr.kp (by (repeat' (first | with_reducible exact Kp.refl _ _ | with_reducible refine Kp.alloc ?_ _ | with_reducible refine Kp.drewN ?_ _ | with_reducible refine Kp.drew ?_ | with_reducible refine Kp.setCell ?_ _ ?_ | (intro hh; first | rfl | exact .inl rfl | exact .inr rfl | (exfalso; (try dsimp only at hh); omega))))) no_elim)).mono ?_
            rintro e w2 ⟨rfl, k2⟩
            clear hlo hhi hTr
            go_wp2
            go_roundg (n - (j + 1))
            case measure => have := HK.out; omega
            case rel =>
              have kk := HKR.out
              exact ⟨j + 1, by omega, rfl, by go_num, by (repeat' (first | with_reducible exact Kp.refl _ _ | with_reducible refine Kp.alloc ?_ _ | with_reducible refine Kp.drewN ?_ _ | with_reducible refine Kp.drew ?_ | with_reducible refine Kp.setCell ?_ _ ?_ | with_reducible refine Kp.trans ?_ kk (fun _ _ e => e) | with_reducible refine Kp.trans ?_ k2 (fun _ _ e => e) | (intro hh; first | rfl | exact .inl rfl | exact .inr rfl | (exfalso; (try dsimp only at hh); omega))))⟩
          · have d2 : decide (ok ≤ hi) = false := by simp; omega
            clear hhi HP hTr
            go_wp2_with (refine wpList_load_gen rfl 26 (.tmp 22) rfl (a.add (j * 6)) (by simp [Act.eval]) [Value.int .i64 ok, .int .i64 ob, .int .i64 oc, .string os, .string ot, .string ou] _ HCL.out Tryz.underlying26 rfl (by kernel_rfl) ?_)
            go_roundg (n - (j + 1))
            case measure => have := HK.out; omega
            case rel =>
              have kk := HKR.out
              exact ⟨j + 1, by omega, rfl, by go_num, by (repeat' (first | with_reducible exact Kp.refl _ _ | with_reducible refine Kp.alloc ?_ _ | with_reducible refine Kp.drewN ?_ _ | with_reducible refine Kp.drew ?_ | with_reducible refine Kp.setCell ?_ _ ?_ | with_reducible refine Kp.trans ?_ kk (fun _ _ e => e) | (intro hh; first | rfl | exact .inl rfl | exact .inr rfl | (exfalso; (try dsimp only at hh); omega))))⟩
        · have d1 : decide (lo ≤ ok) = false := by simp; omega
          clear hlo HP hTr
          go_wp2_with (refine wpList_load_gen rfl 26 (.tmp 22) rfl (a.add (j * 6)) (by simp [Act.eval]) [Value.int .i64 ok, .int .i64 ob, .int .i64 oc, .string os, .string ot, .string ou] _ HCL.out Tryz.underlying26 rfl (by kernel_rfl) ?_)
          go_roundg (n - (j + 1))
          case measure => have := HK.out; omega
          case rel =>
            have kk := HKR.out
            exact ⟨j + 1, by omega, rfl, by go_num, by (repeat' (first | with_reducible exact Kp.refl _ _ | with_reducible refine Kp.alloc ?_ _ | with_reducible refine Kp.drewN ?_ _ | with_reducible refine Kp.drew ?_ | with_reducible refine Kp.setCell ?_ _ ?_ | with_reducible refine Kp.trans ?_ kk (fun _ _ e => e) | (intro hh; first | rfl | exact .inl rfl | exact .inr rfl | (exfalso; (try dsimp only at hh); omega))))⟩
      · have d60 := decide_eq_false h60
        clear h60 hSr hS hp hn
        go_wp2
        go_ret
        exact ⟨rfl, HKR.out⟩
    · have hn' := hide hn
      clear hSr hS hp hn
      go_wp2
      go_ret
      exact ⟨rfl, HKR.out⟩
end Go.Proofs.YtellieabhaphhaaGreatDoor
