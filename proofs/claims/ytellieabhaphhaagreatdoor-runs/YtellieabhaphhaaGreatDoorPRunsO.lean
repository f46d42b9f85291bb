import Derived.Test.YtellieabhaphhaaGreatDoorPRunsN
/-
  narrowref's machine: the walk of a block.
-/
namespace Go.Proofs.YtellieabhaphhaaGreatDoor
open Go.RowKit

theorem stepF_split {inp : ByteArray} {ND : List Nd} {m m1 : Mc} {it : It} (h : stepF inp ND m it = some m1) :
    ∃ n : Nat, it.n = n ∧ n < 100 ∧ ∃ nd, ND[n]? = some nd ∧ ∃ xu yu vu, m.l[nd.x.toNat]? = some xu ∧ m.l[nd.y.toNat]? = some yu ∧ m.l[nd.v.toNat]? = some vu ∧
      ∃ m0 ok, startF m n = (m0, ok) ∧ m1 = if ok then doF inp nd nd.x.toNat xu yu vu m0 else m0 := by
  unfold stepF at h
  split at h
  · rename_i hn
    obtain ⟨n, hn'⟩ := Int.eq_ofNat_of_zero_le hn.1
    rw [hn', Int.toNat_natCast] at h
    refine ⟨n, hn', by omega, ?_⟩
    split at h
    · simp at h
    · rename_i nd hnd
      refine ⟨nd, hnd, ?_⟩
      split at h
      · rename_i xu yu vu hx hy hv
        refine ⟨xu, yu, vu, hx, hy, hv, (startF m n).1, (startF m n).2, rfl, ?_⟩
        split at h
        · rename_i hq; simp only [Option.some.injEq] at h; rw [← h, if_pos hq]
        · rename_i hq; simp only [Option.some.injEq] at h; rw [← h, if_neg hq]
      · simp at h
  · simp at h

set_option maxRecDepth 100000 in
set_option maxHeartbeats 12800000 in
theorem block_m {f : Nat} (ihl : ∀ k, k < f → LoopSaid k) (ih : ∀ k, k < f → BlockSaid k) : BlockSaid f := by
  intro w m lb inp mc r s st O i en mc' d hR hi hen h
  have IH := hide ih
  have IHL := hide ihl
  clear ih ihl
  have H0 := hide h
  clear h
  go_enter Tryz.func81, Tryz.ntmps81
  go_wp2
  go_loopg [2] f (fun k iv wr => ∃ i mc1, iv = .int .i64 (i : Nat) ∧ i ≤ 1000 ∧ RM wr m lb inp mc1 r s st O ∧ Kp (MK m lb) w wr ∧ k ≤ f ∧ exR k st.items st.nodes inp mc1 false i en = some (mc', d))
  case atStart => exact ⟨i, mc, rfl, hi, hR, Kp.refl _ _, Nat.le_refl _, H0.out⟩
  case round =>
    obtain ⟨i, mc1, rfl, hi', R1, K1, hkf, hE⟩ := hrel
    have HK1 := hide K1
    have HKF := hide hkf
    clear K1 hkf
    obtain ⟨c0, c1, c2, c3, c4, c5, c6, cf⟩ := R1.mb.c
    have hrl := R1.rp.lt r R1.rp.own
    obtain ⟨hml, hll⟩ := R1.mb.lt
    cases gk with
    | zero => simp [exR] at hE
    | succ k =>
      have hk := HKF.out
      rw [exR] at hE
      by_cases hgo : i < en ∧ mc1.e = 8
      case neg =>
        rw [if_neg hgo] at hE
        simp only [Option.some.injEq, Prod.mk.injEq] at hE
        obtain ⟨hE1, hE2⟩ := hE
        have HE1 := hide hE1
        have HE2 := hide hE2
        clear hE1 hE2
        by_cases hlt : i < en
        · have e8 : ¬ mc1.e = 8 := fun e => hgo ⟨hlt, e⟩
          have f8 : (mc1.e == 8) = false := by simp [e8]
          clear hgo e8
          go_wp2
          go_ret
          rw [← HE1.out, ← HE2.out]
          exact ⟨rfl, R1.mb, HK1.out⟩
        · clear hgo
          go_wp2
          go_ret
          rw [← HE1.out, ← HE2.out]
          exact ⟨rfl, R1.mb, HK1.out⟩
      case pos =>
        rw [if_pos hgo] at hE
        obtain ⟨hlt, e8⟩ := hgo
        rw [e8] at c6
        have HE8 := hide e8
        clear e8
        cases hit : st.items[i]? with
        | none => rw [hit] at hE; simp at hE
        | some it =>
          rw [hit] at hE
          dsimp only at hE
          obtain ⟨g, cap, hl, hog, q4, i0, i1, i2, i3⟩ := R1.rp.itemAt hit
          have hli := R1.li
          split at hE
          case isFalse => simp at hE
          rename_i hen'
          obtain ⟨hen1, hen2⟩ := hen'
          obtain ⟨ik, n, ie, ien⟩ := it
          dsimp only at *
          obtain ⟨nx, rfl⟩ := Int.eq_ofNat_of_zero_le hen1
          rw [Int.toNat_natCast] at hE
          clear hen1
          by_cases k115 : ik = 115
          · subst k115
            rw [if_pos rfl] at hE
            cases hs : stepF inp st.nodes mc1 ⟨115, n, ie, nx⟩ with
            | none => rw [hs] at hE; simp at hE
            | some m1 =>
              rw [hs] at hE
              have HE := hide hE
              clear hE
              have okm := stepF_ok R1.nok R1.ok hs
              obtain ⟨n', hn', hn1, nd, hnd, xu, yu, vu, hxu, hyu, hvu, m0, ok, hst, hm1⟩ := stepF_split hs
              dsimp only at hn'
              subst hn'
              clear hs
              have hso := startF_ok n' R1.ok
              have HS := hide (starts_c (st := mc1) n' hn1 (R1.mb.alloc (.cells #[.int .u8 115, .int .i64 n', .int .i64 ie, .int .i64 nx] 165)) (by have := R1.ok.tr; omega) (by have := R1.ok.left; omega))
              rw [hst] at HS hso
              clear hst
              dsimp only at hso HS
              have HM1 := hide hm1
              clear hm1
              cases ok
              · go_wp2_with fail
                refine HS.out.mono ?_
                rintro e w2 ⟨rfl, hm2, k2⟩
                have R2 := (R1.alloc _).next hm2 k2 hso.1
                have hL : Blk w2 wr.heap.size [.int .u8 115, .int .i64 n', .int .i64 ie, .int .i64 nx] 165 := k2.blk (by (repeat' (first | ((with_reducible show (_ : List Value) = _); rfl) | ((with_reducible refine Blk.newAt _ _ _ ?_); first | with_reducible rfl | (simp; done)) | with_reducible refine Blk.alloc ?_ _ | with_reducible refine Blk.drewN ?_ _ | with_reducible refine Blk.drew ?_ | ((with_reducible refine Blk.other ?_ _ ?_); rotate_left; ((try dsimp only); omega)) | with_reducible refine Blk.setB (cs0 := ?_) ?_ ?_))) (by rintro (e | e) <;> omega)
                obtain ⟨l0, l1, l2, l3, lf⟩ := hL.c4
                have hm0 := HM1.out
                simp only [Bool.false_eq_true, if_false] at hm0
                subst hm0
                go_wp2
                go_roundg k
                case measure => omega
                case rel => exact ⟨nx, m1, rfl, by omega, R2, by (repeat' (first | with_reducible exact Kp.refl _ _ | with_reducible refine Kp.alloc ?_ _ | with_reducible refine Kp.drewN ?_ _ | with_reducible refine Kp.drew ?_ | with_reducible refine Kp.setCell ?_ _ ?_ | with_reducible refine Kp.trans ?_ HK1.out (fun _ _ e => e) | with_reducible refine Kp.trans ?_ k2 (fun _ _ e => e) | (intro hh; first | rfl | exact .inl rfl | exact .inr rfl | (exfalso; (try dsimp only at hh); omega)))), by omega, HE.out⟩
              · go_wp2_with fail
                refine HS.out.mono ?_
                rintro e w2 ⟨rfl, hm2, k2⟩
                have R2 := (R1.alloc _).next hm2 k2 hso.1
                have hL : Blk w2 wr.heap.size [.int .u8 115, .int .i64 n', .int .i64 ie, .int .i64 nx] 165 := k2.blk (by (repeat' (first | ((with_reducible show (_ : List Value) = _); rfl) | ((with_reducible refine Blk.newAt _ _ _ ?_); first | with_reducible rfl | (simp; done)) | with_reducible refine Blk.alloc ?_ _ | with_reducible refine Blk.drewN ?_ _ | with_reducible refine Blk.drew ?_ | ((with_reducible refine Blk.other ?_ _ ?_); rotate_left; ((try dsimp only); omega)) | with_reducible refine Blk.setB (cs0 := ?_) ?_ ?_))) (by rintro (e | e) <;> omega)
                obtain ⟨l0, l1, l2, l3, lf⟩ := hL.c4
                have hzL := hL.lt
                obtain ⟨g2, cap2, hn2, _, q3, qc⟩ := R2.rp.node hnd
                have e0 := qc 0 (by decide); have e1 := qc 1 (by decide); have e2 := qc 2 (by decide); have e3 := qc 3 (by decide); have e4 := qc 4 (by decide); have e5 := qc 5 (by decide); have e6 := qc 6 (by decide); have e7 := qc 7 (by decide); have e8 := qc 8 (by decide)
                clear qc
                simp only [Nd.cells, List.getElem?_cons_zero, List.getElem?_cons_succ, Nat.add_zero] at e0 e1 e2 e3 e4 e5 e6 e7 e8
                have hln := R2.ln
                have hnk := R1.nok nd (List.mem_of_getElem? hnd)
                have hm1e := HM1.out
                simp only [if_true] at hm1e
                have HDO := hide (fun W (hW : RM W m lb inp m0 r s st O) => do_c (w := W) (m := m) (lb := lb) (inp := inp) (st := m0) (n := nd) (x := nd.x.toNat) (y := nd.y.toNat) (v := nd.v.toNat) (xu := xu) (yu := yu) (vu := vu)
                  ⟨hW.mb, hW.inp, by have := hnk.x; omega, by have := hnk.y; omega, by have := hnk.v; omega, by rw [hso.2.2]; exact hxu, by rw [hso.2.2]; exact hyu, by rw [hso.2.2]; exact hvu, (R1.ok.v yu (List.mem_of_getElem? hyu)).1, (R1.ok.v vu (List.mem_of_getElem? hvu)).1, hnk.k, by have := hso.2.1 trivial; omega, hW.tab, hW.tm, hW.tl⟩)
                rw [← hm1e] at HDO
                clear hm1e HM1 hso hnk hnd hxu hyu hvu
                obtain ⟨uo, ux, uy, uv, uk, ut, uf, ua, ul⟩ := nd
                dsimp only at *
                go_wp2
                go_region_with (go_at_call 87; refine (HDO.out _ (by exact R2.drew)).mono ?_; rintro e w3 ⟨rfl, hm3, k3⟩)
                all_goals
                  have hL3 : Blk w3 wr.heap.size [.int .u8 115, .int .i64 n', .int .i64 ie, .int .i64 nx] 165 := k3.blk hL (by rintro (e | e) <;> omega)
                  obtain ⟨s0, s1, s2, s3, sf⟩ := hL3.c4
                  go_wp2
                  go_roundg k
                  case measure => omega
                  case rel => exact ⟨nx, m1, rfl, by omega, R2.drew.next hm3 k3 okm, ((Kp.trans (HK1.out.alloc _) k2 (fun _ _ e => e)).drew).trans k3 (fun _ _ e => e), by omega, HE.out⟩
          have f115 : (ik == 115) = false := by simp [k115]
          rw [if_neg k115] at hE
          clear k115
          by_cases k62 : ik = 62
          · subst k62
            simp only [if_true, Option.some.injEq, Prod.mk.injEq] at hE
            obtain ⟨hE1, hE2⟩ := hE
            have HE1 := hide hE1
            have HE2 := hide hE2
            clear hE1 hE2
            go_wp2
            go_ret
            rw [← HE1.out, ← HE2.out]
            exact ⟨rfl, R1.mb.alloc _, HK1.out.alloc _⟩
          have f62 : (ik == 62) = false := by simp [k62]
          rw [if_neg k62] at hE
          clear k62
          by_cases k60 : ik = 60
          · subst k60
            simp only [if_true, Option.some.injEq, Prod.mk.injEq] at hE
            obtain ⟨hE1, hE2⟩ := hE
            have HE1 := hide hE1
            have HE2 := hide hE2
            clear hE1 hE2
            go_wp2
            go_ret
            rw [← HE1.out, ← HE2.out]
            exact ⟨rfl, R1.mb.alloc _, HK1.out.alloc _⟩
          have f60 : (ik == 60) = false := by simp [k60]
          rw [if_neg k60] at hE
          clear k60
          by_cases k119 : ik = 119
          · subst k119
            rw [if_pos rfl] at hE
            cases hs : exR k st.items st.nodes inp mc1 true i 0 with
            | none => rw [hs] at hE; simp at hE
            | some q =>
              obtain ⟨m2, wd⟩ := q
              rw [hs] at hE
              have HE := hide hE
              have ok2 := exR_ok _ _ _ _ _ _ _ _ _ _ R1.nok hs R1.ok
              have HL := hide (fun W (hW : RM W m lb inp mc1 r s st O) => IHL.out k (by omega) W m lb inp mc1 r s st O i m2 wd hW (by omega) hs)
              clear hs hE
              go_wp2_with fail
              refine (HL.out _ (R1.alloc _)).mono ?_
              rintro e w2 ⟨rfl, hm2, k2⟩
              have R2 := (R1.alloc _).next hm2 k2 ok2
              have hL : Blk w2 wr.heap.size [.int .u8 119, .int .i64 n, .int .i64 ie, .int .i64 nx] 165 := k2.blk (by (repeat' (first | ((with_reducible show (_ : List Value) = _); rfl) | ((with_reducible refine Blk.newAt _ _ _ ?_); first | with_reducible rfl | (simp; done)) | with_reducible refine Blk.alloc ?_ _ | with_reducible refine Blk.drewN ?_ _ | with_reducible refine Blk.drew ?_ | ((with_reducible refine Blk.other ?_ _ ?_); rotate_left; ((try dsimp only); omega)) | with_reducible refine Blk.setB (cs0 := ?_) ?_ ?_))) (by rintro (e | e) <;> omega)
              obtain ⟨l0, l1, l2, l3, lf⟩ := hL.c4
              go_wp2
              go_roundg k
              case measure => omega
              case rel => exact ⟨nx, m2, rfl, by omega, R2, by (repeat' (first | with_reducible exact Kp.refl _ _ | with_reducible refine Kp.alloc ?_ _ | with_reducible refine Kp.drewN ?_ _ | with_reducible refine Kp.drew ?_ | with_reducible refine Kp.setCell ?_ _ ?_ | with_reducible refine Kp.trans ?_ HK1.out (fun _ _ e => e) | with_reducible refine Kp.trans ?_ k2 (fun _ _ e => e) | (intro hh; first | rfl | exact .inl rfl | exact .inr rfl | (exfalso; (try dsimp only at hh); omega)))), by omega, HE.out⟩
          have f119 : (ik == 119) = false := by simp [k119]
          rw [if_neg k119] at hE
          clear k119
          by_cases k105 : ik = 105
          · subst k105
            rw [if_pos rfl] at hE
            cases hs : decF k st.items st.nodes mc1 (i + 1) with
            | none => rw [hs] at hE; simp at hE
            | some q =>
              obtain ⟨m1, c⟩ := q
              rw [hs] at hE
              dsimp only at hE
              have HD := hide (fun W (hW : RM W m lb inp mc1 r s st O) => decide_w k W m lb inp mc1 r s st O (i + 1) m1 c hW (by omega) hs)
              have ok1 := decF_ok _ _ _ _ _ _ _ hs R1.ok
              clear hs
              by_cases e1 : m1.e = 8
              case neg =>
                rw [if_pos e1] at hE
                have HE := hide hE
                clear hE
                go_wp2_with fail
                refine (HD.out _ (R1.alloc _)).mono ?_
                rintro e w2 ⟨rfl, hm2, k2⟩
                have R2 := (R1.alloc _).next hm2 k2 ok1
                have hL : Blk w2 wr.heap.size [.int .u8 105, .int .i64 n, .int .i64 ie, .int .i64 nx] 165 := k2.blk (by (repeat' (first | ((with_reducible show (_ : List Value) = _); rfl) | ((with_reducible refine Blk.newAt _ _ _ ?_); first | with_reducible rfl | (simp; done)) | with_reducible refine Blk.alloc ?_ _ | with_reducible refine Blk.drewN ?_ _ | with_reducible refine Blk.drew ?_ | ((with_reducible refine Blk.other ?_ _ ?_); rotate_left; ((try dsimp only); omega)) | with_reducible refine Blk.setB (cs0 := ?_) ?_ ?_))) (by rintro (e | e) <;> omega)
                obtain ⟨l0, l1, l2, l3, lf⟩ := hL.c4
                obtain ⟨a0, a1, a2, a3, a4, a5, a6, af⟩ := hm2.c
                have f8 : (m1.e == 8) = false := by simp [e1]
                clear e1
                go_wp2
                go_roundg k
                case measure => omega
                case rel => exact ⟨nx, m1, rfl, by omega, R2, by (repeat' (first | with_reducible exact Kp.refl _ _ | with_reducible refine Kp.alloc ?_ _ | with_reducible refine Kp.drewN ?_ _ | with_reducible refine Kp.drew ?_ | with_reducible refine Kp.setCell ?_ _ ?_ | with_reducible refine Kp.trans ?_ HK1.out (fun _ _ e => e) | with_reducible refine Kp.trans ?_ k2 (fun _ _ e => e) | (intro hh; first | rfl | exact .inl rfl | exact .inr rfl | (exfalso; (try dsimp only at hh); omega)))), by omega, HE.out⟩
              case pos =>
                rw [if_neg (by simp [e1])] at hE
                cases hit1 : st.items[i + 1]? with
                | none => rw [hit1] at hE; simp at hE
                | some it1 =>
                  rw [hit1] at hE
                  dsimp only at hE
                  split at hE
                  case isFalse => simp at hE
                  rename_i hb
                  obtain ⟨hb1, hb2, hb3, hb4⟩ := hb
                  obtain ⟨ae, hae⟩ := Int.eq_ofNat_of_zero_le hb1
                  obtain ⟨ie', rfl⟩ := Int.eq_ofNat_of_zero_le hb3
                  rw [hae, Int.toNat_natCast, Int.toNat_natCast] at hE
                  rw [hae] at hb2
                  cases hs2 : exR k st.items st.nodes inp m1 false (if c then ae else ie') (if c then ie' else nx) with
                  | none => rw [hs2] at hE; simp at hE
                  | some q =>
                  obtain ⟨m2, wd⟩ := q
                  rw [hs2] at hE
                  dsimp only at hE
                  have HE := hide hE
                  clear hE
                  have ok2 := exR_ok _ _ _ _ _ _ _ _ _ _ R1.nok hs2 ok1
                  have HB := hide (fun W (hW : RM W m lb inp m1 r s st O) => IH.out k (by omega) W m lb inp m1 r s st O _ _ m2 wd hW (by split <;> omega) (by split <;> omega) hs2)
                  clear hs2
                  go_wp2_with fail
                  refine (HD.out _ (R1.alloc _)).mono ?_
                  rintro e w2 ⟨rfl, hm2, k2⟩
                  have R2 := (R1.alloc _).next hm2 k2 ok1
                  have hL : Blk w2 wr.heap.size [.int .u8 105, .int .i64 n, .int .i64 ie', .int .i64 nx] 165 := k2.blk (by (repeat' (first | ((with_reducible show (_ : List Value) = _); rfl) | ((with_reducible refine Blk.newAt _ _ _ ?_); first | with_reducible rfl | (simp; done)) | with_reducible refine Blk.alloc ?_ _ | with_reducible refine Blk.drewN ?_ _ | with_reducible refine Blk.drew ?_ | ((with_reducible refine Blk.other ?_ _ ?_); rotate_left; ((try dsimp only); omega)) | with_reducible refine Blk.setB (cs0 := ?_) ?_ ?_))) (by rintro (e | e) <;> omega)
                  obtain ⟨l0, l1, l2, l3, lf⟩ := hL.c4
                  have hzL := hL.lt
                  obtain ⟨a0, a1, a2, a3, a4, a5, a6, af⟩ := hm2.c
                  rw [e1] at a6
                  clear e1
                  cases c
                  case false =>
                    simp only [Bool.false_eq_true, if_false] at HB
                    by_cases hw0 : wd = 0
                    · have HF := hide (show exR k st.items st.nodes inp m2 false nx en = some (mc', d) by have := HE.out; rwa [if_neg (by simp [hw0])] at this)
                      subst hw0
                      go_wp2_with fail
                      refine (HB.out _ R2).mono ?_; rintro e w3 ⟨rfl, hm3, k3⟩
                      all_goals
                        have hL3 : Blk w3 wr.heap.size [.int .u8 105, .int .i64 n, .int .i64 ie', .int .i64 nx] 165 := k3.blk hL (by rintro (e | e) <;> omega)
                        obtain ⟨s0, s1, s2, s3, sf⟩ := hL3.c4
                        go_wp2
                        go_roundg k
                        case measure => omega
                        case rel => exact ⟨nx, m2, rfl, by omega, R2.next hm3 k3 ok2, (Kp.trans (HK1.out.alloc _) k2 (fun _ _ e => e)).trans k3 (fun _ _ e => e), by omega, HF.out⟩
                    · have HF := hide (show m2 = mc' ∧ wd = d by have := HE.out; rw [if_pos hw0] at this; simp only [Option.some.injEq, Prod.mk.injEq] at this; exact this)
                      have hw0' : ((wd : Int) == 0) = false := by simp; omega
                      have hw0'' : ((wd : Int) != 0) = true := by simp; omega
                      clear hw0
                      go_wp2_with fail
                      refine (HB.out _ R2).mono ?_; rintro e w3 ⟨rfl, hm3, k3⟩
                      all_goals
                        go_wp2
                        go_ret
                        rw [← HF.out.1, ← HF.out.2]
                        exact ⟨rfl, hm3, (Kp.trans (HK1.out.alloc _) k2 (fun _ _ e => e)).trans k3 (fun _ _ e => e)⟩
                  case true =>
                    simp only [if_true] at HB
                    obtain ⟨g1, cap1, hl1, _, p4, _, _, _, j3⟩ := R2.rp.itemAt hit1
                    rw [hae] at j3
                    have hz1 : (i : Int) + 1 < (st.items.length : Int) := by omega
                    have hz2 : 0 ≤ (i : Int) + 1 := by omega
                    have hz4 : IntKind.i64.wrap ((i : Int) + 1) = (i : Int) + 1 := by rw [IntKind.wrap_i64]; omega
                    clear hae hb1 hb3
                    by_cases hw0 : wd = 0
                    · have HF := hide (show exR k st.items st.nodes inp m2 false nx en = some (mc', d) by have := HE.out; rwa [if_neg (by simp [hw0])] at this)
                      subst hw0
                      go_wp2
                      go_region_with (go_at_call 81; refine (HB.out _ (by exact R2.drew)).mono ?_; rintro e w3 ⟨rfl, hm3, k3⟩)
                      all_goals
                        have hL3 : Blk w3 wr.heap.size [.int .u8 105, .int .i64 n, .int .i64 ie', .int .i64 nx] 165 := k3.blk hL (by rintro (e | e) <;> omega)
                        obtain ⟨s0, s1, s2, s3, sf⟩ := hL3.c4
                        go_wp2
                        go_roundg k
                        case measure => omega
                        case rel => exact ⟨nx, m2, rfl, by omega, R2.drew.next hm3 k3 ok2, ((Kp.trans (HK1.out.alloc _) k2 (fun _ _ e => e)).drew).trans k3 (fun _ _ e => e), by omega, HF.out⟩
                    · have HF := hide (show m2 = mc' ∧ wd = d by have := HE.out; rw [if_pos hw0] at this; simp only [Option.some.injEq, Prod.mk.injEq] at this; exact this)
                      have hw0' : ((wd : Int) == 0) = false := by simp; omega
                      have hw0'' : ((wd : Int) != 0) = true := by simp; omega
                      clear hw0
                      go_wp2
                      go_region_with (go_at_call 81; refine (HB.out _ (by exact R2.drew)).mono ?_; rintro e w3 ⟨rfl, hm3, k3⟩)
                      all_goals
                        go_wp2
                        go_ret
                        rw [← HF.out.1, ← HF.out.2]
                        exact ⟨rfl, hm3, ((Kp.trans (HK1.out.alloc _) k2 (fun _ _ e => e)).drew).trans k3 (fun _ _ e => e)⟩
          have f105 : (ik == 105) = false := by simp [k105]
          rw [if_neg k105] at hE
          clear k105
          have HE := hide hE
          clear hE
          go_wp2
          go_roundg k
          case measure => omega
          case rel => exact ⟨nx, mc1, rfl, by omega, R1.alloc _, HK1.out.alloc _, by omega, HE.out⟩
end Go.Proofs.YtellieabhaphhaaGreatDoor

/-
  narrowref.Run, whole.
-/
namespace Go.Proofs.YtellieabhaphhaaGreatDoor
open Go.RowKit

theorem ex_all : ∀ f, LoopSaid f ∧ BlockSaid f := by
  intro f
  induction f using Nat.strongRecOn with
  | _ f ih => exact ⟨loop_w (fun k hk => (ih k hk).2), block_m (fun k hk => (ih k hk).1) (fun k hk => (ih k hk).2)⟩

set_option maxHeartbeats 1600000 in
theorem refrun_long (s inp : ByteArray) (fuel : Int) (w : World) (hm : inp.size ≤ maxLen) (h : ¬ (inp.size ≤ 40 ∧ 0 ≤ fuel ∧ fuel ≤ 300)) :
    Calls Tryz.prog 47 #[.string s, .string inp, .int .i64 fuel] w fun e w' => e = .returned (.tuple #[.string ByteArray.empty, .string ByteArray.empty, .int .i64 1]) ∧ Kp no w w' := by
  have HG := hide (given_c inp fuel w hm)
  rw [decide_eq_false h] at HG
  clear h
  go_enter Tryz.func47, Tryz.ntmps47
  go_wp2_with fail
  refine HG.out.mono ?_
  rintro e w1 ⟨rfl, rfl⟩
  go_wp2
  go_ret3
  exact ⟨rfl, Kp.refl _ _⟩

set_option maxHeartbeats 1600000 in
theorem refrun_big (s inp : ByteArray) (fuel : Int) (w : World) (hm : inp.size ≤ maxLen) (hm2 : s.size ≤ maxLen) (h : inp.size ≤ 40 ∧ 0 ≤ fuel ∧ fuel ≤ 300) (hs : 180 < s.size) :
    Calls Tryz.prog 47 #[.string s, .string inp, .int .i64 fuel] w fun e w' => e = .returned (.tuple #[.string ByteArray.empty, .string ByteArray.empty, .int .i64 1]) ∧ Kp no w w' := by
  have HG := hide (given_c inp fuel w hm)
  rw [decide_eq_true h] at HG
  have HS := hide (source_long s w hm2 hs)
  clear h
  go_enter Tryz.func47, Tryz.ntmps47
  go_wp2_with fail
  refine HG.out.mono ?_
  rintro e w1 ⟨rfl, rfl⟩
  go_wp2_with fail
  refine HS.out.mono ?_
  rintro e w1 ⟨⟨r, rfl⟩, k1⟩
  go_wp2
  go_ret3
  exact ⟨rfl, k1⟩

set_option maxHeartbeats 1600000 in
theorem refrun_bad (s inp : ByteArray) (fuel : Int) (w : World) (hm : inp.size ≤ maxLen) (h : inp.size ≤ 40 ∧ 0 ≤ fuel ∧ fuel ≤ 300) (hs : s.size ≤ 180) (hb : srcBad s = true) :
    Calls Tryz.prog 47 #[.string s, .string inp, .int .i64 fuel] w fun e w' => e = .returned (.tuple #[.string ByteArray.empty, .string ByteArray.empty, .int .i64 2]) ∧ Kp no w w' := by
  have HG := hide (given_c inp fuel w hm)
  rw [decide_eq_true h] at HG
  have HS := hide (source_c s w hs)
  have HB := hide hb
  clear h hb
  go_enter Tryz.func47, Tryz.ntmps47
  go_wp2_with fail
  refine HG.out.mono ?_
  rintro e w1 ⟨rfl, rfl⟩
  go_wp2_with fail
  refine HS.out.mono ?_
  rintro e w1 ⟨r, O, rfl, hr, k1, hO⟩
  rw [HB.out]
  simp only [if_true]
  go_wp2
  go_ret3
  exact ⟨rfl, k1⟩

set_option maxHeartbeats 3200000 in
theorem refrun_good (s inp : ByteArray) (fuel : Nat) (w : World) (hm : inp.size ≤ 40) (h : fuel ≤ 300) (hs : s.size ≤ 180) (hb : srcBad s = false) (ht : Tab w)
    (hn : ∀ n ∈ (srcF s).nodes, NOk n) (F : Nat) (mc' : Mc) (d : Nat) (hE : exR F (srcF s).items (srcF s).nodes inp (mc0 fuel) false 0 (srcF s).items.length = some (mc', d)) :
    Calls Tryz.prog 47 #[.string s, .string inp, .int .i64 fuel] w fun e w' => e = .returned (.tuple #[.string mc'.tr, .string mc'.out, .int .i64 (endE mc'.e)]) ∧ Kp no w w' := by
  have hm2 : inp.size ≤ maxLen := by unfold maxLen; omega
  have HG := hide (given_c inp fuel w hm2)
  rw [decide_eq_true (by omega)] at HG
  have HS := hide (source_c s w hs)
  have HB := hide hb
  have hlen := inv_len (by omega) (srcF_good s).inv
  have HE := hide hE
  have ok0 := mc0_ok fuel h
  clear hE hb
  go_enter Tryz.func47, Tryz.ntmps47
  go_wp2_with fail
  refine HG.out.mono ?_
  rintro e w0 ⟨rfl, rfl⟩
  go_wp2_with fail
  refine HS.out.mono ?_
  rintro e w1 ⟨r, O, rfl, hr, k1, hO⟩
  rw [HB.out]
  simp only [Bool.false_eq_true, if_false]
  have htl := ht.lt
  have ht1 := ht.kp k1 no_elim
  generalize srcF s = st at *
  go_wp2_with fail
  refine (begin_c inp fuel _).mono ?_
  rintro e w2 ⟨m, lb, rfl, hmb, k2, hm1, hl1⟩
  have hs1 := k1.size
  have hr2 : Rp w2 r s st O := hr.kp k2 (fun _ _ => no_elim)
  have hRM : RM w2 m lb inp (mc0 fuel) r s st O := ⟨hmb, hr2, fun e => by have := hr.lt m e; omega, fun e => by have := hr.lt lb e; omega, ht1.kp k2 no_elim, by omega, by omega, ok0, hn, hm, by omega, by omega⟩
  have hc4 : ∃ g cap, w2.cell? ⟨r, 4, none⟩ = some (.slice g st.items.length cap) := by
    obtain ⟨nv, iv, hB, hN, hI, _⟩ := hr2
    rcases hI.2 with ⟨rfl, h0⟩ | ⟨g, cap, cur, rfl, _⟩
    · exact ⟨none, 0, by rw [h0]; exact Blk.cell hB 4⟩
    · exact ⟨_, cap, Blk.cell hB 4⟩
  obtain ⟨g, cap, q4⟩ := hc4
  go_wp2_with fail
  refine ((ex_all F).2 w2 m lb inp (mc0 fuel) r s st O 0 st.items.length mc' d hRM (by omega) (by omega) HE.out).mono ?_
  rintro e w3 ⟨rfl, hm3, k3⟩
  go_wp2_with fail
  refine (answer_c hm3).mono ?_
  rintro e w4 ⟨rfl, k4⟩
  go_wp2
  go_ret3
  refine ⟨rfl, ?_⟩
  have k12 : Kp no w0 w2 := k1.trans k2 (fun _ _ e => e)
  exact (k12.trans k3 (fun x hx e => by rcases e with e | e <;> omega)).trans k4 (fun x hx e => by rcases e with e | e <;> omega)

theorem varF_lt (s : ByteArray) (p : Nat × Bool) : (varF s p).1 < 6 := by
  unfold varF; split
  · show (0 : Nat) < 6; decide
  · rename_i h; simp at h; show pk s p.1 - 97 < 6; omega

theorem valF_nok (s : ByteArray) (i : Nat) (n : Nd) (h : n.x < 6 ∧ 0 ≤ n.x) (hy : n.y = 0) (hv : n.v = 0) : NOk (valF s i n).1 := by
  have v1 := varF_lt s (i + 1, false)
  have v2 := varF_lt s (i, false)
  have v3 := varF_lt s (varF s (i + 1, false)).2
  unfold valF
  repeat' split
  · rename_i hd
    exact ⟨⟨h.2, h.1⟩, by simp only [hy]; omega, by simp only [hv]; omega, fun _ => by simp only []; omega⟩
  · rename_i hd hq
    exact ⟨⟨h.2, h.1⟩, by simp only [hy]; omega, by simp only [hv]; omega, fun e => absurd (show pk s i = 48 by simp only at e; omega) (fun e' => by omega)⟩
  · rename_i hd hq hq2
    exact ⟨⟨h.2, h.1⟩, by simp only []; omega, by simp only []; omega, fun e => absurd (show pk s i = 48 by simp only at e; omega) (fun e' => by omega)⟩
  · rename_i hd hq hq2 hq3
    exact ⟨⟨h.2, h.1⟩, by simp only []; omega, by simp only [hv]; omega, fun e => absurd (show pk s i = 48 by simp only at e; omega) (fun e' => by omega)⟩
  · exact ⟨⟨h.2, h.1⟩, by simp only []; omega, by simp only [hv]; omega, fun e => by simp at e⟩

theorem simpF_nok (s : ByteArray) (i : Nat) : NOk (simpF s i).1 := by
  have v1 := varF_lt s (i + 1, false)
  have v2 := varF_lt s (i, false)
  unfold simpF
  repeat' split
  · exact ⟨by simp [nd0], by simp only []; omega, by simp [nd0], fun e => by simp at e⟩
  · exact ⟨by simp [nd0], by simp [nd0], by simp [nd0], fun e => by simp at e⟩
  · exact ⟨by simp only []; omega, by simp [nd0], by simp [nd0], fun e => by simp at e⟩
  · exact ⟨by simp only []; omega, by simp [nd0], by simp [nd0], fun e => by simp [nd0] at e⟩
  · have := valF_nok s (eatF s (varF s (i, false)).2 61).1 { nd0 i with x := (varF s (i, false)).1 } (by simp only []; omega) rfl rfl
    exact ⟨this.x, this.y, this.v, this.k⟩

theorem testF_nok (s : ByteArray) (i : Nat) : NOk (testF s i).1 := by
  have v2 := varF_lt s (i, false)
  unfold testF
  split
  · exact ⟨by simp [ty0], by simp only []; omega, by simp [ty0], fun e => by simp at e⟩
  · exact ⟨by simp [ty0], by simp only []; omega, by simp [ty0], fun e => by simp [ty0] at e⟩

def AllN (st : RS) : Prop := ∀ n ∈ st.nodes, NOk n

theorem condF_n : ∀ (f : Nat) (s : ByteArray) (st : RS), AllN st → AllN (condF f s st) := by
  intro f
  induction f with
  | zero => intro s st h; exact h
  | succ f ih =>
    intro s st h
    unfold condF
    split
    · have h2 := ih s { st with i := st.i + 1, items := st.items ++ [⟨pk s st.i, 0, 0, 0⟩] } h
      intro n hn
      simp only [endAt] at hn
      split at hn
      · exact ih _ _ h2 n hn
      · exact h2 n hn
    · intro n hn
      simp only [condT, endAt, List.mem_append, List.mem_singleton] at hn
      rcases hn with hn | rfl
      · exact h n hn
      · exact testF_nok _ _

theorem blkF_n {S : RS → RS} (hS : ∀ st, AllN st → AllN (S st)) (s : ByteArray) (st : RS) (h : AllN st) : AllN (blkF S s st) := by
  intro n hn
  have e : (blkF S s st).nodes = (if (eatS s st 123).bad then eatS s st 123 else S (eatS s st 123)).nodes := rfl
  rw [e] at hn
  by_cases hb : (eatS s st 123).bad = true
  · rw [if_pos hb] at hn; exact h n hn
  · rw [if_neg hb] at hn; exact hS (eatS s st 123) h n hn

theorem stmtsF_n : ∀ (f : Nat) (s : ByteArray) (e : Nat) (st : RS), AllN st → AllN (stmtsF f s e st) := by
  intro f
  induction f with
  | zero => intro s e st h; exact h
  | succ f ih =>
    intro s e st h
    unfold stmtsF
    split
    · refine ih _ _ _ ?_
      unfold stF
      split
      · intro n hn
        simp only [ifF, endAt, eatS] at hn
        have a1 : AllN (condF f s (pushI (nextI st) 105 0)) := condF_n f s _ h
        have a2 := blkF_n (ih s 125) s _ a1
        have a3 : AllN (elseAt (blkF (stmtsF f s 125) s (condF f s (pushI (nextI st) 105 0))) st.items.length) := a2
        exact blkF_n (ih s 125) s _ a3 n hn
      split
      · intro n hn
        simp only [whF, endAt, eatS] at hn
        have a1 : AllN (condF f s (pushI (nextI st) 119 0)) := condF_n f s _ h
        have a2 : AllN { condF f s (pushI (nextI st) 119 0) with loops := (condF f s (pushI (nextI st) 119 0)).loops + 1 } := a1
        exact blkF_n (ih s 125) s _ a2 n hn
      split
      · split
        · exact h
        · exact h
      · intro n hn
        simp only [actF, eatS, endAt, List.mem_append, List.mem_singleton] at hn
        rcases hn with hn | rfl
        · exact h n hn
        · exact simpF_nok _ _
    · exact h

theorem src_nok (s : ByteArray) : ∀ n ∈ (srcF s).nodes, NOk n := stmtsF_n _ _ _ _ (by intro n hn; simp [rs0] at hn)
end Go.Proofs.YtellieabhaphhaaGreatDoor

/-
  Plain: a run over the pieces is a walk over the nodes: statements; a source.
-/
namespace Go.Proofs.YtellieabhaphhaaGreatDoor
open Go.RowKit

/-- An act. -/
theorem act_sim {W : Nat → Int × Int × Bool} {ND nds : List Nd} {inp : ByteArray} (hN : Nw W ND nds) {it : It} {c : Nat} {nx : Int} {F : Nat} {m mc' : Mc} (hn : it.n = (c : Int)) (hc : c < ND.length) (hW : W c = (nx, nx, false)) (he : m.e = 8) (hw : Wk nds inp F m c mc') :
    ∃ m1, stepF inp ND m it = some m1 ∧ ∃ F1, F1 < F ∧ Wk nds inp F1 m1 nx mc' := by
  obtain ⟨nd, hnd⟩ : ∃ nd, ND[c]? = some nd := ⟨_, List.getElem?_eq_getElem hc⟩
  obtain ⟨xu, yu, vu, c1, c2, c3, c4, F1, c5, c6, c7⟩ := wk_step hN hnd he hw
  have ht : ¬ (nd.op = 121 ∨ nd.op = 58) := by
    have := hN.tst c nd hnd
    rw [hW] at this
    exact of_decide_eq_false this.symm
  unfold stepF
  rw [hn, if_pos (by omega), Int.toNat_natCast, hnd]
  dsimp only
  rw [c2, c3, c4]
  dsimp only
  cases hs : (startF m c).2
  · exact ⟨_, by rw [if_neg (by decide)], F1, c5, c6 hs _⟩
  · refine ⟨_, by rw [if_pos rfl], F1, c5, ?_⟩
    have := (c7 hs).2 ht
    rw [hW] at this
    exact this

theorem ent_piece {IT : List It} {W : Nat → Int × Int × Bool} {f : Nat} {it : It} {i j c m : Nat} {nx' ou ag : Int} (h1 : IT[i]? = some it) (hj : j ≤ IT.length) (h : PcW (CdW f IT W) (StW f IT W) IT W it i j c m nx' ou ag) {e : Nat} {nx a : Int} (hie : i < e) (ha : entO IT i e nx ou ag = some a) :
    a = if it.k = 62 then ou else if it.k = 60 then ag else (c : Int) := by
  unfold entO at ha
  rw [if_neg (by omega), h1] at ha
  dsimp only at ha
  rcases h with ⟨k, n, _⟩ | ⟨k, _⟩ | ⟨k, a', b', p, q, t, g, q1, q2, q3, _⟩ | ⟨k, a', p, t, q1, q2, _⟩
  · rw [if_pos k, n] at ha
    rw [if_neg (by omega), if_neg (by omega)]
    exact (Option.some.inj ha).symm
  · rcases k with k | k
    · rw [if_neg (by omega), if_pos k] at ha
      rw [if_pos k]
      exact (Option.some.inj ha).symm
    · rw [if_neg (by omega), if_neg (by omega), if_pos k] at ha
      rw [if_neg (by omega), if_pos k]
      exact (Option.some.inj ha).symm
  · rw [if_neg (by omega), if_neg (by omega), if_neg (by omega), cdw_fst f q1 (IT.length + 1) (by omega)] at ha
    rw [if_neg (by omega), if_neg (by omega)]
    exact (Option.some.inj ha).symm
  · rw [if_neg (by omega), if_neg (by omega), if_neg (by omega), cdw_fst f q1 (IT.length + 1) (by omega)] at ha
    rw [if_neg (by omega), if_neg (by omega)]
    exact (Option.some.inj ha).symm

theorem pcs_sim {W : Nat → Int × Int × Bool} {IT : List It} {ND nds : List Nd} {inp : ByteArray} (hN : Nw W ND nds) : ∀ (f : Nat) {i e c d : Nat} {nx ou ag a : Int} {F : Nat} {m mc' : Mc}, StW f IT W i e c d nx ou ag → e ≤ IT.length → d ≤ ND.length →
    entO IT i e nx ou ag = some a → Wk nds inp F m a mc' → ∀ G, f + F ≤ G → ∃ m1 w, exR G IT ND inp m false i e = some (m1, w) ∧ Wk nds inp F m1 (tgW w nx ou ag) mc'
  | 0, _, _, _, _, _, _, _, _, _, _, _, h, _, _, _, _ => h.elim
  | f + 1, i, e, c, d, nx, ou, ag, a, F, m, mc', h, hei, hd, ha, hw => by
    intro G hG
    cases G with
    | zero => omega
    | succ G =>
      rw [exR]
      by_cases he0 : ¬ m.e = 8
      · rw [if_neg (fun z => he0 z.2)]
        exact ⟨_, _, rfl, hw.off he0 _ _⟩
      have he : m.e = 8 := Decidable.not_not.1 he0
      have hF1 := hw.pos he
      rcases h with ⟨hcd, ⟨rfl, rfl⟩ | ⟨hie, he1, it, j, mm, nx', h1, h2, h3, h4, h5, h6, h7, h8, h9⟩⟩
      · rw [if_neg (fun z => Nat.lt_irrefl _ z.1)]
        rw [entO_end] at ha
        obtain rfl := Option.some.inj ha
        exact ⟨_, _, rfl, hw⟩
      have hent := ent_piece h1 (by omega) h8 hie ha
      rw [if_pos ⟨hie, he⟩, h1]
      dsimp only
      rw [h2, if_pos (by omega), Int.toNat_natCast]
      have rest : ∀ F1 m1, F1 ≤ F → Wk nds inp F1 m1 nx' mc' → ∃ m2 w, exR G IT ND inp m1 false j e = some (m2, w) ∧ Wk nds inp F m2 (tgW w nx ou ag) mc' := by
        intro F1 m1 hF hw1
        obtain ⟨m2, w, x1, x2⟩ := pcs_sim hN f h9 hei hd h7 hw1 G (by omega)
        exact ⟨m2, w, x1, x2.mono hF⟩
      rcases h8 with ⟨k, n, q1, q2⟩ | ⟨k, q1⟩ | ⟨k, a', b', p, q, t, g, q1, q2, q3, q4, q5, q6, q7, q8⟩ | ⟨k, a', p, t, q1, q2, q3, q4⟩
      · rw [if_neg (by omega), if_neg (by omega)] at hent
        rw [hent] at hw
        obtain ⟨m1, x1, F1, x2, x3⟩ := act_sim hN n (by omega) q2 he hw
        rw [if_pos k, x1]
        exact rest F1 m1 (by omega) x3
      · rcases k with k | k
        · rw [if_pos k] at hent
          rw [if_neg (by omega), if_pos k]
          rw [hent] at hw
          exact ⟨_, _, rfl, hw⟩
        · rw [if_neg (by omega), if_pos k] at hent
          rw [if_neg (by omega), if_neg (by omega), if_pos k]
          rw [hent] at hw
          exact ⟨_, _, rfl, hw⟩
      · rw [if_neg (by omega), if_neg (by omega)] at hent
        rw [hent] at hw
        obtain ⟨w1, w2, i1, w3, w4, w5⟩ := cdw_lt q1
        have l1 := stw_le q5
        have l2 := stw_le q6
        obtain ⟨m1, b, d1, F1, d2, d3⟩ := dec_sim hN f q1 (by omega) he hw G (by omega)
        rw [if_neg (by omega), if_neg (by omega), if_neg (by omega), if_neg (by omega), if_pos k, d1]
        dsimp only
        by_cases he2 : m1.e = 8
        · rw [if_neg (by omega), w3]
          dsimp only
          rw [w4, q4, if_pos (by omega), Int.toNat_natCast, Int.toNat_natCast]
          have blk : ∃ m2 w, exR G IT ND inp m1 false (if b = true then a' else b') (if b = true then b' else j) = some (m2, w) ∧ Wk nds inp F1 m2 (tgW w nx' ou ag) mc' := by
            cases b
            · exact pcs_sim hN f q6 (by omega) (by omega) q8 d3 G (by omega)
            · exact pcs_sim hN f q5 (by omega) (by omega) q7 d3 G (by omega)
          obtain ⟨m2, w, x1, x2⟩ := blk
          rw [x1]
          dsimp only
          by_cases hw0 : w = 0
          · rw [if_neg (by omega)]
            rw [hw0] at x2
            exact rest F1 m2 (by omega) x2
          · rw [if_pos hw0]
            refine ⟨_, _, rfl, ?_⟩
            have e1 : tgW w nx' ou ag = tgW w nx ou ag := by unfold tgW; rw [if_neg hw0, if_neg hw0]
            rw [e1] at x2
            exact x2.mono (by omega)
        · rw [if_pos he2]
          exact rest F1 m1 (by omega) (d3.off he2 _ _)
      · rw [if_neg (by omega), if_neg (by omega)] at hent
        rw [hent] at hw
        have l1 := stw_le q3
        obtain ⟨m1, w, x1, x2⟩ := loop_sim hN h1 h2 (by omega) q1 (by omega) (fun F m mc' hb G hG => pcs_sim hN f q3 (by omega) (by omega) q4 hb G hG) F m mc' hw G (by omega)
        rw [if_neg (by omega), if_neg (by omega), if_neg (by omega), if_pos k, x1]
        exact rest F m1 (Nat.le_refl _) x2

/-- The nodes of a source, with their ways. -/
theorem src_nds {s : ByteArray} (hs : s.size ≤ 180) (h : (srE s).1 = 0) : ∃ nds, Nw (WyM (srM s)) (srcF s).nodes nds ∧ NEq (nodM (srM s)) nds ∧ nds.length ≤ 90 ∧ ∀ n ∈ nds, Gn n ∧ (n.op ≠ 33 → 0 ≤ n.t) ∧ (n.op = 121 ∨ n.op = 58 → 0 ≤ n.f) := by
  obtain ⟨hsn, hsl⟩ := src_nodes hs h
  have hN : nj (srM s).row = (srcF s).nodes.length := (src_par hs h 0 0).1.len
  obtain ⟨fr, hS, _⟩ := src_par hs h (nj (srM s).row : Nat) (nj (srM s).row : Nat)
  obtain ⟨nds, _, u⟩ := ps_of (s.size + 1) (ND := (srcF s).nodes) hS (Nat.le_refl _) (by omega)
  have hnl : (nodM (srM s)).length = (srcF s).nodes.length := by rw [nodM_nj, hN]
  have hget : ∀ n x, (srcF s).nodes[n]? = some x → nds[n]? = some (upW (WyM (srM s)) n x) := fun n x hn => by
    have := (List.getElem?_eq_some_iff.1 hn).1
    rw [u.get n x hn, if_pos ⟨Nat.zero_le _, by omega⟩]
  have key : ∀ n nd, (srcF s).nodes[n]? = some nd → ∃ y z, (nodM (srM s))[n]? = some (encN nd (txN s nd) y z) ∧ WyM (srM s) n = (y, z, decide (nd.op = 121 ∨ nd.op = 58)) ∧ (0 ≤ y ∧ y ≤ 90) ∧ (0 ≤ z ∧ z ≤ 90) := by
    intro n nd hn
    obtain ⟨y, z, h1, h2⟩ := nodM_at fr hn
    obtain ⟨nd', tx', y', z', q1, _, _, q2, q3, _⟩ := hsn _ (List.mem_of_getElem? h1)
    have ey : y = y' := congrArg NN.yes q1
    have ez : z = z' := congrArg NN.no q1
    exact ⟨y, z, h1, h2, by rw [ey]; exact q2, by rw [ez]; exact q3⟩
  have all : ∀ (n : Nat) (x' : Nd), nds[n]? = some x' → ∃ nd y z, (srcF s).nodes[n]? = some nd ∧ x' = (if decide (nd.op = 121 ∨ nd.op = 58) then { nd with t := y, f := z } else { nd with t := y }) ∧ (nodM (srM s))[n]? = some (encN nd (txN s nd) y z) ∧ (0 ≤ y ∧ y ≤ 90) ∧ (0 ≤ z ∧ z ≤ 90) ∧ Gn nd := by
    intro n x' hx
    have hl := (List.getElem?_eq_some_iff.1 hx).1
    have hl2 : n < (srcF s).nodes.length := by have := u.len; omega
    obtain ⟨nd, hn⟩ : ∃ nd, (srcF s).nodes[n]? = some nd := ⟨_, List.getElem?_eq_getElem hl2⟩
    obtain ⟨y, z, k1, k2, k3, k4⟩ := key n nd hn
    have e := hget n nd hn
    rw [hx] at e
    refine ⟨nd, y, z, hn, ?_, k1, k3, k4, (fr.2 nd (List.mem_of_getElem? hn)).g⟩
    rw [Option.some.inj e]
    unfold upW
    rw [k2]
  refine ⟨nds, ⟨u.len, hget, fun n x hn => ?_⟩, ⟨by rw [hnl, u.len], fun n x' hx => ?_⟩, by rw [u.len]; omega, fun x' hx => ?_⟩
  · obtain ⟨y, z, k1, k2, _⟩ := key n x hn
    rw [k2]
  · obtain ⟨nd, y, z, hn, e, k1, k3, k4, g⟩ := all n x' hx
    by_cases ht : nd.op = 121 ∨ nd.op = 58
    · rw [decide_eq_true ht, if_pos rfl] at e
      subst e
      exact ⟨⟨g.x, g.y, g.v, g.op, g.k, g.kd, fun z => absurd ht z⟩, _, y, z, k1, fun _ => ⟨rfl, by show -1 ≤ y; omega, by show y ≤ 1000; omega⟩, fun _ => ⟨rfl, by show -1 ≤ z; omega, by show z ≤ 1000; omega⟩⟩
    · rw [decide_eq_false ht] at e
      simp only [Bool.false_eq_true, if_false] at e
      subst e
      exact ⟨⟨g.x, g.y, g.v, g.op, g.k, g.kd, g.f⟩, _, y, z, k1, fun _ => ⟨rfl, by show -1 ≤ y; omega, by show y ≤ 1000; omega⟩, fun z => absurd z ht⟩
  · obtain ⟨n, hn, rfl⟩ := List.getElem_of_mem hx
    obtain ⟨nd, y, z, _, e, k1, k3, k4, g⟩ := all n _ (List.getElem?_eq_getElem hn)
    by_cases ht : nd.op = 121 ∨ nd.op = 58
    · rw [decide_eq_true ht, if_pos rfl] at e
      rw [e]
      exact ⟨⟨g.x, g.y, g.v, g.op, g.k, g.kd, fun z => absurd ht z⟩, fun _ => k3.1, fun _ => k4.1⟩
    · rw [decide_eq_false ht] at e
      simp only [Bool.false_eq_true, if_false] at e
      rw [e]
      exact ⟨⟨g.x, g.y, g.v, g.op, g.k, g.kd, g.f⟩, fun _ => k3.1, fun z => absurd z ht⟩

/-- A run begins at the first node. -/
theorem src_first {s : ByteArray} (hs : s.size ≤ 180) (h : (srE s).1 = 0) : entO (srcF s).items 0 (srcF s).items.length (nj (srM s).row : Nat) (nj (srM s).row : Nat) (nj (srM s).row : Nat) = some 0 := by
  obtain ⟨_, hS, hA⟩ := src_par hs h (nj (srM s).row : Nat) (nj (srM s).row : Nat)
  obtain ⟨_, _, hB⟩ := src_par hs h ((nj (srM s).row : Nat) + 1) ((nj (srM s).row : Nat) + 1)
  rw [hA]
  rcases hS with ⟨hcd, ⟨e1, e2⟩ | ⟨hie, he1, it, j, mm, nx', h1, h2, h3, h4, h5, h6, h7, h8, h9⟩⟩
  · rw [← e1, entO_end, ← e2] at hA
    rw [← Option.some.inj hA]
    rfl
  · have hent := ent_piece h1 h4 h8 hie hA
    by_cases k1 : it.k = 62
    · exfalso
      unfold entO at hA hB
      rw [if_neg (by omega), h1] at hA hB
      dsimp only at hA hB
      rw [if_neg (by omega), if_pos k1] at hA hB
      have := Option.some.inj hA
      have := Option.some.inj hB
      omega
    by_cases k2 : it.k = 60
    · exfalso
      unfold entO at hA hB
      rw [if_neg (by omega), h1] at hA hB
      dsimp only at hA hB
      rw [if_neg (by omega), if_neg k1, if_pos k2] at hA hB
      have := Option.some.inj hA
      have := Option.some.inj hB
      omega
    rw [if_neg k1, if_neg k2] at hent
    rw [hent]
    rfl

/-- A run over a source: both come to this. -/
theorem src_run {s : ByteArray} (hs : s.size ≤ 180) (h : (srE s).1 = 0) (inp : ByteArray) (fuel : Nat) : ∃ nds mc' F G d, NEq (nodM (srM s)) nds ∧ nds.length ≤ 100 ∧ wkF F nds inp (mc0 fuel) 0 = some mc' ∧
    exR G (srcF s).items (srcF s).nodes inp (mc0 fuel) false 0 (srcF s).items.length = some (mc', d) := by
  obtain ⟨nds, hN, hq, hl, hg⟩ := src_nds hs h
  obtain ⟨mc', hE⟩ := wkF_total nds inp hl hg fuel (mc0 fuel) 0 rfl rfl (fun _ => Int.le_refl _)
  have hnl : nj (srM s).row = (srcF s).nodes.length := (src_par hs h 0 0).1.len
  obtain ⟨_, hS, _⟩ := src_par hs h (nj (srM s).row : Nat) (nj (srM s).row : Nat)
  obtain ⟨m1, w, x1, x2⟩ := pcs_sim hN (s.size + 1) hS (Nat.le_refl _) (by omega) (src_first hs h) (wkF_wk hE) _ (Nat.le_refl _)
  have htg : tgW w (nj (srM s).row : Nat) (nj (srM s).row : Nat) (nj (srM s).row : Nat) = (nj (srM s).row : Nat) := by unfold tgW; split <;> (try split) <;> rfl
  rw [htg] at x2
  have hm : m1 = mc' := by
    rcases x2 with ⟨_, e⟩ | ⟨_, F', _, e⟩
    · exact e.symm
    · cases F' with
      | zero => cases e
      | succ F' =>
        rw [wkF, if_neg (fun z => by have := hN.len; omega)] at e
        exact Option.some.inj e
  rw [hm] at x1
  exact ⟨nds, mc', _, _, w, hq, by omega, hE, x1⟩
end Go.Proofs.YtellieabhaphhaaGreatDoor

/-
  Run: narrow's answer is the answer's.
-/
namespace Go.Proofs.YtellieabhaphhaaGreatDoor
open Go.RowKit

/-- One call of Run: both answer this. -/
def RunIs (s inp : ByteArray) (fuel : Int) (t u : ByteArray) (c : Int) : Prop :=
  (∀ W, Tab W → Calls Tryz.prog 32 #[.string s, .string inp, .int .i64 fuel] W fun e w' => e = .returned (.tuple #[.string t, .string u, .int .i64 c]) ∧ Kp no W w') ∧
  (∀ W, Tab W → Calls Tryz.prog 47 #[.string s, .string inp, .int .i64 fuel] W fun e w' => e = .returned (.tuple #[.string t, .string u, .int .i64 c]) ∧ Kp no W w')

theorem run_both (s inp : ByteArray) (fuel : Int) (hs : s.size ≤ maxLen) (hi : inp.size ≤ maxLen) : ∃ t u c, RunIs s inp fuel t u c := by
  by_cases hg : inp.size ≤ 40 ∧ 0 ≤ fuel ∧ fuel ≤ 300
  · by_cases hs9 : s.size ≤ 180
    · have e := src_same s
      cases hb : srcBad s
      · rw [hb] at e
        have e1 : (srE s).1 = 0 := by rw [e]; rfl
        obtain ⟨h1, h2, h3⟩ := hg
        obtain ⟨fuel, rfl⟩ := Int.eq_ofNat_of_zero_le h2
        obtain ⟨nds, mc', F, G, d, q1, q2, q3, q4⟩ := src_run hs9 e1 inp fuel
        exact ⟨_, _, _, fun W hW => nrun_good s inp fuel W h1 (by omega) hs9 e1 hW nds q1 q2 F mc' q3, fun W hW => refrun_good s inp fuel W h1 (by omega) hs9 hb hW (src_nok s) G mc' d q4⟩
      · rw [hb] at e
        have e1 : (srE s).1 = 2 := by rw [e]; rfl
        refine ⟨_, _, _, fun W _ => ?_, fun W _ => refrun_bad s inp fuel W hi hg hs9 hb⟩
        have := nrun_bad s inp fuel W hi hg hs9 (by omega)
        rw [e1] at this
        exact this
    · exact ⟨_, _, _, fun W _ => nrun_big s inp fuel W hi hs hg (by omega), fun W _ => refrun_big s inp fuel W hi hs hg (by omega)⟩
  · exact ⟨_, _, _, fun W _ => nrun_long s inp fuel W hi hg, fun W _ => refrun_long s inp fuel W hi hg⟩
end Go.Proofs.YtellieabhaphhaaGreatDoor

/-
  The laws: one step of Run.
-/
namespace Go.Proofs.YtellieabhaphhaaGreatDoor
open Go.RowKit

set_option maxHeartbeats 800000 in
theorem lrunp_c (s inp : ByteArray) (fuel : Int) (t u : ByteArray) (c : Int) (w : World) (h : RunIs s inp fuel t u c) (ht : Tab w) :
    Calls Tryz.prog 17 #[.string s, .string inp, .int .i64 fuel] w fun e w' => e = .returned (.agg #[.string t, .string u, .int .i64 c]) ∧ Kp no w w' := by
  have HN := hide h.1
  have HNU := hide (fun W => lnum_c c W)
  clear h
  go_enter Tryz.func17, Tryz.ntmps17
  go_wp2_with fail
  refine (HN.out _ (ht.kp (by (repeat' (first | with_reducible exact Kp.refl _ _ | with_reducible refine Kp.alloc ?_ _ | with_reducible refine Kp.drewN ?_ _ | with_reducible refine Kp.drew ?_ | with_reducible refine Kp.setCell ?_ _ ?_ | (intro hh; first | rfl | exact .inl rfl | exact .inr rfl | (exfalso; (try dsimp only at hh); omega))))) no_elim)).mono ?_
  rintro e w1 ⟨rfl, k1⟩
  have hR : Blk w1 w.heap.size [.string ⟨#[]⟩, .string ⟨#[]⟩, .int .i64 0] 31 := k1.blk (by (repeat' (first | ((with_reducible show (_ : List Value) = _); rfl) | ((with_reducible refine Blk.newAt _ _ _ ?_); first | with_reducible rfl | (simp; done)) | with_reducible refine Blk.alloc ?_ _ | with_reducible refine Blk.drewN ?_ _ | with_reducible refine Blk.drew ?_ | ((with_reducible refine Blk.other ?_ _ ?_); rotate_left; ((try dsimp only); omega)) | with_reducible refine Blk.setB (cs0 := ?_) ?_ ?_))) no_elim
  obtain ⟨z0, z1, z2, zf⟩ := hR.c3
  have hz := hR.lt
  go_wp2_with (go_at_call 18; refine (HNU.out _).mono ?_; rintro e w' ⟨rfl, rfl⟩)
  refine body_agg (Tb := 31) (b := w.heap.size) (cs := [.string t, .string u, .int .i64 c]) (.inr rfl) Tryz.results17 rfl rfl (by (repeat' (first | ((with_reducible show (_ : List Value) = _); rfl) | with_reducible exact hR | ((with_reducible refine Blk.newAt _ _ _ ?_); first | with_reducible rfl | (simp; done)) | with_reducible refine Blk.alloc ?_ _ | with_reducible refine Blk.drewN ?_ _ | with_reducible refine Blk.drew ?_ | ((with_reducible refine Blk.other ?_ _ ?_); rotate_left; ((try dsimp only); omega)) | with_reducible refine Blk.setB (cs0 := ?_) ?_ ?_))) Tryz.underlying31 rfl (by kernel_rfl) ?_
  exact ⟨rfl, by (repeat' (first | with_reducible exact Kp.refl _ _ | with_reducible refine Kp.alloc ?_ _ | with_reducible refine Kp.drewN ?_ _ | with_reducible refine Kp.drew ?_ | with_reducible refine Kp.setCell ?_ _ ?_ | with_reducible refine Kp.trans ?_ k1 (fun _ _ e => e) | (intro hh; first | rfl | exact .inl rfl | exact .inr rfl | (exfalso; (try dsimp only at hh); omega))))⟩

set_option maxRecDepth 100000 in
set_option maxHeartbeats 1600000 in
theorem lplays_run (b c : Int) (s t u : ByteArray) (w : World) (hs : s.size ≤ maxLen) (hi : t.size ≤ maxLen) (ht : Tab w) :
    Calls Tryz.prog 29 #[.agg #[.int .i64 1, .int .i64 b, .int .i64 c, .string s, .string t, .string u]] w fun e w' => e = .returned (.bool true) ∧ Kp no w w' := by
  obtain ⟨x, y, z, hw⟩ := run_both s t b hs hi
  have HN := hide (fun W (hW : Tab W) => lrunp_c s t b x y z W hw hW)
  have HR := hide hw.2
  clear hw
  go_enter Tryz.func29, Tryz.ntmps29
  go_wp2_with fail
  refine (HN.out _ (ht.kp (by (repeat' (first | with_reducible exact Kp.refl _ _ | with_reducible refine Kp.alloc ?_ _ | with_reducible refine Kp.drewN ?_ _ | with_reducible refine Kp.drew ?_ | with_reducible refine Kp.setCell ?_ _ ?_ | (intro hh; first | rfl | exact .inl rfl | exact .inr rfl | (exfalso; (try dsimp only at hh); omega))))) no_elim)).mono ?_
  rintro e w1 ⟨rfl, k1⟩
  have hT1 : Tab w1 := (ht.kp ((Kp.refl no w).alloc _) no_elim).kp k1 no_elim
  have hO : Blk w1 w.heap.size [.int .i64 1, .int .i64 b, .int .i64 c, .string s, .string t, .string u] 26 := k1.blk (by (repeat' (first | ((with_reducible show (_ : List Value) = _); rfl) | ((with_reducible refine Blk.newAt _ _ _ ?_); first | with_reducible rfl | (simp; done)) | with_reducible refine Blk.alloc ?_ _ | with_reducible refine Blk.drewN ?_ _ | with_reducible refine Blk.drew ?_ | ((with_reducible refine Blk.other ?_ _ ?_); rotate_left; ((try dsimp only); omega)) | with_reducible refine Blk.setB (cs0 := ?_) ?_ ?_))) no_elim
  have o0 := hO.cell 0; have o1 := hO.cell 1; have o2 := hO.cell 2; have o3 := hO.cell 3; have o4 := hO.cell 4; have o5 := hO.cell 5
  simp only [List.getElem?_cons_zero, List.getElem?_cons_succ] at o0 o1 o2 o3 o4 o5
  have of := hO.frozen
  have hz := hO.lt
  go_wp2_with fail
  refine (HR.out _ (hT1.kp (by (repeat' (first | with_reducible exact Kp.refl _ _ | with_reducible refine Kp.alloc ?_ _ | with_reducible refine Kp.drewN ?_ _ | with_reducible refine Kp.drew ?_ | with_reducible refine Kp.setCell ?_ _ ?_ | (intro hh; first | rfl | exact .inl rfl | exact .inr rfl | (exfalso; (try dsimp only at hh); omega))))) no_elim)).mono ?_
  rintro e w2 ⟨rfl, k2⟩
  have hX : Blk w2 w1.heap.size [.string x, .string y, .int .i64 z] 31 := k2.blk (by (repeat' (first | ((with_reducible show (_ : List Value) = _); rfl) | ((with_reducible refine Blk.newAt _ _ _ ?_); first | with_reducible rfl | (simp; done)) | with_reducible refine Blk.alloc ?_ _ | with_reducible refine Blk.drewN ?_ _ | with_reducible refine Blk.drew ?_ | ((with_reducible refine Blk.other ?_ _ ?_); rotate_left; ((try dsimp only); omega)) | with_reducible refine Blk.setB (cs0 := ?_) ?_ ?_))) no_elim
  obtain ⟨z0, z1, z2, zf⟩ := hX.c3
  have hz2 := hX.lt
  clear o0 o1 o2 o3 o4 o5 of
  go_wp2
  go_ret
  exact ⟨by simp, by (repeat' (first | with_reducible exact Kp.refl _ _ | with_reducible refine Kp.alloc ?_ _ | with_reducible refine Kp.drewN ?_ _ | with_reducible refine Kp.drew ?_ | with_reducible refine Kp.setCell ?_ _ ?_ | with_reducible refine Kp.trans ?_ k1 (fun _ _ e => e) | with_reducible refine Kp.trans ?_ k2 (fun _ _ e => e) | (intro hh; first | rfl | exact .inl rfl | exact .inr rfl | (exfalso; (try dsimp only at hh); omega))))⟩
end Go.Proofs.YtellieabhaphhaaGreatDoor

/-
  Runs: the row and the card.
-/
namespace Go.Proofs.YtellieabhaphhaaGreatDoor
open Go.ChangeShapes Go.WideShapes Go.ChangeAt Go.RowKit Go.Deep

theorem pow_data : (Rows.laid_internal_strconv_uint64pow10 : DataW Unit) = Lib.tabData .u64 Lib.pow10Tab := by kernel_rfl

theorem tab_of {W : World} (h : laidMetH Tryz.prog Rows.runsRow.laid W) : Tab W := by
  have h1 : laidMet Tryz.prog Rows.runsRow.laid W := h
  obtain ⟨ps, ⟨g0, t0, cs0, f0, p0, q0, hg0, ht0, hv0, hd0, ⟨g1, t1, cs1, f1, p1, q1, hg1, ht1, hv1, hd1, ⟨g2, t2, cs2, f2, p2, q2, hg2, ht2, hv2, hd2, _, _⟩, _⟩, _⟩, _⟩ := h1
  obtain rfl := Option.some.inj (gtab.symm.trans hg2)
  obtain rfl := Option.some.inj (gT.symm.trans ht2)
  rw [pow_data] at hd2
  show Lib.TabIs _ _ _ _ _
  unfold Lib.TabIs
  rw [hv2, ← Lib.cells_of_tab Tryz.underlying211 Tryz.underlying205 c64 c20 hd2]

set_option maxHeartbeats 800000 in
theorem runsLaw_c (v : Value) (w : World) (h : Calls Tryz.prog 15 #[v, .int .i64 1, .int .i64 1] w fun e w' => e = .returned (.int .i64 (-1)) ∧ Kp no w w') :
    Calls Tryz.prog 3 #[v] w fun e w' => e = .returned (.bool true) ∧ Kp no w w' := by
  have H := hide h
  clear h
  go_enter Tryz.func3, Tryz.ntmps3
  go_wp2_with fail
  refine H.out.mono ?_
  rintro e w1 ⟨rfl, k1⟩
  go_wp2
  go_ret
  exact ⟨rfl, k1⟩

set_option maxRecDepth 100000 in
/-- For every script, in every world that holds the tables. -/
theorem runs_contract (H : Type) (enc : TypeId × Value → H) (W : World) (base : Nat) (args : Array Value) (ds gs : List (DataW H)) (before : List MemPlace)
    (hval : ∀ (j : Nat) t v, Tryz.f3.params[j]? = some t → args[j]? = some v → Value.okWide Tryz.prog W .any base t v)
    (hW : DataW.Whole enc Tryz.prog Tryz.f3.params.toList Rows.runsSpec.vars false W args.toList ds gs before) (hL : laidMetH Tryz.prog Rows.runsRow.laid W) :
    Calls Tryz.prog 3 args W fun e W' => ∃ v, e = .returned v ∧ Rows.runsSpec.post enc Tryz.prog Tryz.f3 false true false false W args v W' := by
  have hW' := hW
  obtain ⟨p, q, hA0, hV, rfl, hfz, hnd⟩ := hW
  have hA : DataW.TrodAll enc Tryz.prog W 0 (fun _ => true) true Tryz.f3.params.toList args.toList ds p := hA0
  rw [Tryz.params3] at hA hval
  obtain ⟨v0, d0, rfl, rfl, h0⟩ := trodAll_one hA
  obtain ⟨rfl, rfl⟩ := trodVars_none hV
  obtain ⟨ao, len, cap, rfl⟩ := okWide_slice Tryz.underlying22 (hval 0 22 v0 rfl rfl)
  have walk : Calls Tryz.prog 3 #[.slice ao len cap] W fun e w' => e = .returned (.bool true) ∧ Kp no W w' :=
    runsLaw_c _ W (script_upto h0 Tab (fun X Y h k => Tab.kp h k no_elim) (tab_of hL) 1 1 (fun o ho h1 h2 X hX => by
      have e3 : o.k = 1 := by omega
      rw [e3]
      exact lplays_run o.b o.c o.s o.t o.u X ho.s ho.t hX))
  have hsh := (script_open h0).2
  refine walk.mono fun e W' ⟨he, k⟩ => ?_
  subst he
  have hold : ∀ q ∈ p, (fun b => decide (b < W.heap.size)) q.block = true := fun q hq => by simpa using hW'.lt q (by simpa using hq)
  refine ⟨_, rfl, [d0], [], p ++ [], [], p, [], hW', ?_, ?_, ?_, ?_, fun h => by cases h⟩
  · exact trodAll_mk1 (shut_bool Tryz.underlying4 _)
  · exact trodAll_mk1 (hsh W' k _ hold)
  · first | exact rfl | exact ⟨rfl, rfl⟩
  · exact Kp.keptBut k _
end Go.Proofs.YtellieabhaphhaaGreatDoor

/-
  Runs: the card.
-/
namespace Go.Proofs.YtellieabhaphhaaGreatDoor
open Go.ChangeShapes Go.WideShapes Go.ChangeAt Go.RowKit Go.Deep

/-- A block that holds other cells. -/
def lay1 (c : Array Value) : Obj → Obj
  | .cells _ t frozen => .cells c t frozen
  | o => o

theorem laid_met (os : Os) : laidMet Tryz.prog Rows.runsRow.laid (({ World.holding Tryz.prog os ⟨#[], #[], []⟩ with heap := (((World.holding Tryz.prog os ⟨#[], #[], []⟩).heap.modify 0 (lay1 #[.int .u64 1, .int .u64 10, .int .u64 100, .int .u64 1000, .int .u64 10000, .int .u64 100000, .int .u64 1000000, .int .u64 10000000, .int .u64 100000000, .int .u64 1000000000, .int .u64 10000000000, .int .u64 100000000000, .int .u64 1000000000000, .int .u64 10000000000000, .int .u64 100000000000000, .int .u64 1000000000000000, .int .u64 10000000000000000, .int .u64 100000000000000000, .int .u64 1000000000000000000, .int .u64 10000000000000000000])).modify 1 (lay1 #[.int .u8 0, .int .u8 1, .int .u8 28, .int .u8 2, .int .u8 29, .int .u8 14, .int .u8 24, .int .u8 3, .int .u8 30, .int .u8 22, .int .u8 20, .int .u8 15, .int .u8 25, .int .u8 17, .int .u8 4, .int .u8 8, .int .u8 31, .int .u8 27, .int .u8 13, .int .u8 23, .int .u8 21, .int .u8 19, .int .u8 16, .int .u8 7, .int .u8 26, .int .u8 12, .int .u8 18, .int .u8 6, .int .u8 11, .int .u8 5, .int .u8 10, .int .u8 9])).modify 2 (lay1 #[.int .u8 0, .int .u8 1, .int .u8 56, .int .u8 2, .int .u8 57, .int .u8 49, .int .u8 28, .int .u8 3, .int .u8 61, .int .u8 58, .int .u8 42, .int .u8 50, .int .u8 38, .int .u8 29, .int .u8 17, .int .u8 4, .int .u8 62, .int .u8 47, .int .u8 59, .int .u8 36, .int .u8 45, .int .u8 43, .int .u8 51, .int .u8 22, .int .u8 53, .int .u8 39, .int .u8 33, .int .u8 30, .int .u8 24, .int .u8 18, .int .u8 12, .int .u8 5, .int .u8 63, .int .u8 55, .int .u8 48, .int .u8 27, .int .u8 60, .int .u8 41, .int .u8 37, .int .u8 16, .int .u8 46, .int .u8 35, .int .u8 44, .int .u8 21, .int .u8 52, .int .u8 32, .int .u8 23, .int .u8 11, .int .u8 54, .int .u8 26, .int .u8 40, .int .u8 15, .int .u8 34, .int .u8 20, .int .u8 31, .int .u8 10, .int .u8 25, .int .u8 14, .int .u8 19, .int .u8 9, .int .u8 13, .int .u8 8, .int .u8 7, .int .u8 6]) } : World).forCall (fun _ _ => 0) ⟨#[], #[.slice none 0 0], []⟩).memory :=
  laidMet_of_run' 8 (by kernel_rfl) (by kernel_rfl)

theorem runs_reads (os : Os) {H : Type} (enc : TypeId × Value → H) : ∃ places, DataW.whole enc Tryz.prog (({ World.holding Tryz.prog os ⟨#[], #[], []⟩ with heap := (((World.holding Tryz.prog os ⟨#[], #[], []⟩).heap.modify 0 (lay1 #[.int .u64 1, .int .u64 10, .int .u64 100, .int .u64 1000, .int .u64 10000, .int .u64 100000, .int .u64 1000000, .int .u64 10000000, .int .u64 100000000, .int .u64 1000000000, .int .u64 10000000000, .int .u64 100000000000, .int .u64 1000000000000, .int .u64 10000000000000, .int .u64 100000000000000, .int .u64 1000000000000000, .int .u64 10000000000000000, .int .u64 100000000000000000, .int .u64 1000000000000000000, .int .u64 10000000000000000000])).modify 1 (lay1 #[.int .u8 0, .int .u8 1, .int .u8 28, .int .u8 2, .int .u8 29, .int .u8 14, .int .u8 24, .int .u8 3, .int .u8 30, .int .u8 22, .int .u8 20, .int .u8 15, .int .u8 25, .int .u8 17, .int .u8 4, .int .u8 8, .int .u8 31, .int .u8 27, .int .u8 13, .int .u8 23, .int .u8 21, .int .u8 19, .int .u8 16, .int .u8 7, .int .u8 26, .int .u8 12, .int .u8 18, .int .u8 6, .int .u8 11, .int .u8 5, .int .u8 10, .int .u8 9])).modify 2 (lay1 #[.int .u8 0, .int .u8 1, .int .u8 56, .int .u8 2, .int .u8 57, .int .u8 49, .int .u8 28, .int .u8 3, .int .u8 61, .int .u8 58, .int .u8 42, .int .u8 50, .int .u8 38, .int .u8 29, .int .u8 17, .int .u8 4, .int .u8 62, .int .u8 47, .int .u8 59, .int .u8 36, .int .u8 45, .int .u8 43, .int .u8 51, .int .u8 22, .int .u8 53, .int .u8 39, .int .u8 33, .int .u8 30, .int .u8 24, .int .u8 18, .int .u8 12, .int .u8 5, .int .u8 63, .int .u8 55, .int .u8 48, .int .u8 27, .int .u8 60, .int .u8 41, .int .u8 37, .int .u8 16, .int .u8 46, .int .u8 35, .int .u8 44, .int .u8 21, .int .u8 52, .int .u8 32, .int .u8 23, .int .u8 11, .int .u8 54, .int .u8 26, .int .u8 40, .int .u8 15, .int .u8 34, .int .u8 20, .int .u8 31, .int .u8 10, .int .u8 25, .int .u8 14, .int .u8 19, .int .u8 9, .int .u8 13, .int .u8 8, .int .u8 7, .int .u8 6]) } : World).forCall (fun _ _ => 0) ⟨#[], #[.slice none 0 0], []⟩).memory Tryz.f3.params.toList Rows.runsSpec.vars false #[Value.slice none 0 0].toList 8 = some ([.nil], [], places) :=
  ⟨[], by kernel_rfl⟩

set_option maxRecDepth 100000 in
theorem runs_lifted (os : Os) (started : os.Started) (H : Type) (enc : TypeId × Value → H) (F : Stop.Interp) :
    ReturnsInHanded {} Tryz.checked os 3 .any ((OpenSpec.ofChange Rows.runsSpec).preRow enc Tryz.prog Tryz.f3 Rows.runsRow.domain false Rows.runsRow.laid) (((OpenSpec.ofChange Rows.runsSpec).at F).post enc Tryz.prog Tryz.f3 false true false false) := by
  obtain ⟨places, hx⟩ := runs_reads os enc
  refine returnsInHanded_of_row (C := Tryz.checked) (s := OpenSpec.ofChange Rows.runsSpec) own started (by kernel_rfl) Tryz.func3
    (witness_row_at (enc := enc) (C := Tryz.checked) false ({ World.holding Tryz.prog os ⟨#[], #[], []⟩ with heap := (((World.holding Tryz.prog os ⟨#[], #[], []⟩).heap.modify 0 (lay1 #[.int .u64 1, .int .u64 10, .int .u64 100, .int .u64 1000, .int .u64 10000, .int .u64 100000, .int .u64 1000000, .int .u64 10000000, .int .u64 100000000, .int .u64 1000000000, .int .u64 10000000000, .int .u64 100000000000, .int .u64 1000000000000, .int .u64 10000000000000, .int .u64 100000000000000, .int .u64 1000000000000000, .int .u64 10000000000000000, .int .u64 100000000000000000, .int .u64 1000000000000000000, .int .u64 10000000000000000000])).modify 1 (lay1 #[.int .u8 0, .int .u8 1, .int .u8 28, .int .u8 2, .int .u8 29, .int .u8 14, .int .u8 24, .int .u8 3, .int .u8 30, .int .u8 22, .int .u8 20, .int .u8 15, .int .u8 25, .int .u8 17, .int .u8 4, .int .u8 8, .int .u8 31, .int .u8 27, .int .u8 13, .int .u8 23, .int .u8 21, .int .u8 19, .int .u8 16, .int .u8 7, .int .u8 26, .int .u8 12, .int .u8 18, .int .u8 6, .int .u8 11, .int .u8 5, .int .u8 10, .int .u8 9])).modify 2 (lay1 #[.int .u8 0, .int .u8 1, .int .u8 56, .int .u8 2, .int .u8 57, .int .u8 49, .int .u8 28, .int .u8 3, .int .u8 61, .int .u8 58, .int .u8 42, .int .u8 50, .int .u8 38, .int .u8 29, .int .u8 17, .int .u8 4, .int .u8 62, .int .u8 47, .int .u8 59, .int .u8 36, .int .u8 45, .int .u8 43, .int .u8 51, .int .u8 22, .int .u8 53, .int .u8 39, .int .u8 33, .int .u8 30, .int .u8 24, .int .u8 18, .int .u8 12, .int .u8 5, .int .u8 63, .int .u8 55, .int .u8 48, .int .u8 27, .int .u8 60, .int .u8 41, .int .u8 37, .int .u8 16, .int .u8 46, .int .u8 35, .int .u8 44, .int .u8 21, .int .u8 52, .int .u8 32, .int .u8 23, .int .u8 11, .int .u8 54, .int .u8 26, .int .u8 40, .int .u8 15, .int .u8 34, .int .u8 20, .int .u8 31, .int .u8 10, .int .u8 25, .int .u8 14, .int .u8 19, .int .u8 9, .int .u8 13, .int .u8 8, .int .u8 7, .int .u8 6]) } : World) #[.slice none 0 0] rfl (by kernel_rfl) (by kernel_rfl) (by kernel_rfl)
      (OpenSpec.preRow_of_cond 8 hx (by kernel_rfl) (fun k hk => by cases hk) (by kernel_rfl) (laid_met os))) ?_
  intro W base args ds gs before hval hW _ _ _ hL _ _
  exact runs_contract H enc W base args ds gs before hval hW hL

theorem runs_said : Rows.RunsSaid :=
  OpenClaim.holds_of_cond 3 Tryz.f3 rfl rfl rfl rfl rfl rfl rfl ⟨rfl, rfl, rfl, rfl, rfl⟩ rfl rfl rfl rfl rfl (by kernel_rfl) Tryz.func3 (by kernel_rfl)
    (of_decide_eq_true (by kernel_rfl)) (by unfold Func.isWrapper; first | (rw [if_pos (by decide +kernel)]; kernel_rfl) | (rw [if_neg (by decide +kernel)]; exact ⟨rfl, rfl⟩))
    (fun os started H enc _ F => by rw [OpenClaim.pre_eq_preRow]; exact runs_lifted os started H enc F)

theorem runs_plain (f : FuncId) (fn : Func) (hf : Tryz.pinned.checked.prog.funcNamed "narrow/narrowlaw.Runs" = some f) (hfn : Tryz.pinned.checked.prog.funcs[f]? = some fn) :
    false = Tryz.pinned.checked.prog.looks [] ∧ ∀ (j : Nat) t, fn.params[j]? = some t → Tryz.pinned.checked.prog.wantsStandIn t = false := by
  obtain rfl : f = 3 := Option.some.inj ((show Tryz.prog.funcNamed "narrow/narrowlaw.Runs" = some 3 by kernel_rfl).symm.trans hf) |>.symm
  obtain rfl : fn = Tryz.f3 := (Option.some.inj (Tryz.func3.symm.trans hfn)).symm
  refine ⟨by kernel_rfl, fun j t ht => ?_⟩
  rw [Tryz.params3] at ht
  obtain rfl : t = 22 := by simpa using Array.mem_of_getElem? ht
  exact (show Tryz.prog.wantsStandIn 22 = false by kernel_rfl)

theorem runs_card : Rows.RunsCardSaid :=
  Claim7.holds_tied_plain_at .later [] _ _ _ _ runs_said (fun _ h => by cases h) (by kernel_rfl) (fun _ h => by cases h) runs_row_tie rfl ⟨rfl, rfl⟩ (by kernel_rfl) rfl runs_plain (by kernel_rfl)
#print axioms runs_card
end Go.Proofs.YtellieabhaphhaaGreatDoor
