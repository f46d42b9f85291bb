import Derived.Test.YtellieabhaphhaaGreatDoorPLongerM
/-
  Longer: every step.
-/
namespace Go.Proofs.YtellieabhaphhaaGreatDoor
open Go.RowKit

set_option maxRecDepth 100000 in
set_option maxHeartbeats 6400000 in
theorem longer_c (ao : Option Addr) (n cap : Nat) (O : Nat → OpV) (w : World) (hn : n ≤ maxLen) (hS : 0 < n → ∃ a, ao = some a ∧ Scr w a n O ∧ a.block < w.heap.size) (hok : ∀ i, i < n → OpOk (O i)) (ht : Tab w) :
    Calls Tryz.prog 7 #[.slice ao n cap] w fun e w' => e = .returned (.bool true) ∧ Kp no w w' := by
  unfold maxLen at hn
  have HAL := hide (fun W (hW : Tab W) => alive_c W hW)
  go_enter Tryz.func7, Tryz.ntmps7
  go_wp2
  go_loopg [3] n (fun k iv wr => ∃ j : Nat, j ≤ n ∧ k = n - j ∧ iv = .int .i64 j ∧ Kp no w wr)
  case atStart => exact ⟨0, Nat.zero_le _, rfl, rfl, Kp.refl _ _⟩
  case round =>
    obtain ⟨j, hj, hk, rfl, kr⟩ := hrel
    have HK := hide hk
    have HKR := hide kr
    have hT0 := ht.kp kr no_elim
    clear hk
    by_cases hlt : j < n
    · by_cases h60 : (j : Int) < 1152921504606846976
      · have d60 := decide_eq_true h60
        clear h60
        obtain ⟨a, rfl, hSc, hab⟩ := hS (by omega)
        have hSr := hSc.kp kr hab
        have hal : a.block < wr.heap.size := by have := kr.size; omega
        clear kr
        have c0 := hSr j hlt 0 (by decide)
        have c1 := hSr j hlt 1 (by decide)
        have c2 := hSr j hlt 2 (by decide)
        have c3 := hSr j hlt 3 (by decide)
        have c4 := hSr j hlt 4 (by decide)
        have c5 := hSr j hlt 5 (by decide)
        have hokj := hok j hlt
        clear hSr hS hSc hok
        generalize O j = o at *
        obtain ⟨ok, ob, oc, os, ot, ou⟩ := o
        have hos := hokj.s
        dsimp only at hos
        clear hokj
        simp only [OpV.cells, List.getElem?_cons_zero, List.getElem?_cons_succ, Nat.add_zero] at c0 c1 c2 c3 c4 c5
        have HHN := hide hn
        have HCL := hide (show ∀ jj v, [Value.int .i64 ok, .int .i64 ob, .int .i64 oc, .string os, .string ot, .string ou][jj]? = some v → wr.cell? ((a.add (j * 6)).add jj) = some v from fun jj v hv => by
          have hjj := (List.getElem?_eq_some_iff.1 hv).1
          simp only [List.length_cons, List.length_nil] at hjj
          rw [Deep.add_add, ← hv]
          rcases (show jj = 0 ∨ jj = 1 ∨ jj = 2 ∨ jj = 3 ∨ jj = 4 ∨ jj = 5 by omega) with rfl | rfl | rfl | rfl | rfl | rfl
          · exact c0
          · exact c1
          · exact c2
          · exact c3
          · exact c4
          · exact c5)
        clear hn hab c0 c1 c2 c3 c4 c5
        have c0 : wr.cell? (a.add (j * 6)) = some (.int .i64 ok) := by
          have h := HCL.out 0 _ rfl
          rwa [Deep.add_add, Nat.add_zero] at h
        have c1 : wr.cell? ⟨(a.add (j * 6)).block, (a.add (j * 6)).off + 1, none⟩ = some (.int .i64 ob) := HCL.out 1 _ rfl
        have c2 : wr.cell? ⟨(a.add (j * 6)).block, (a.add (j * 6)).off + 2, none⟩ = some (.int .i64 oc) := HCL.out 2 _ rfl
        have c3 : wr.cell? ⟨(a.add (j * 6)).block, (a.add (j * 6)).off + 3, none⟩ = some (.string os) := HCL.out 3 _ rfl
        have c4 : wr.cell? ⟨(a.add (j * 6)).block, (a.add (j * 6)).off + 4, none⟩ = some (.string ot) := HCL.out 4 _ rfl
        have c5 : wr.cell? ⟨(a.add (j * 6)).block, (a.add (j * 6)).off + 5, none⟩ = some (.string ou) := HCL.out 5 _ rfl
        clear HCL
        have hwrap : IntKind.i64.wrap ((j : Int) + 1) = (j : Int) + 1 := Go.IntWalk.i64_in _ (by have := HHN.out; omega)
        have HD60 := hide d60
        obtain ⟨L, H, hsel⟩ : ∃ L H : Int, (oc < ob ∧ L = oc ∧ H = ob) ∨ (¬ oc < ob ∧ L = ob ∧ H = oc) := by
          rcases Int.lt_or_le oc ob with h | h
          · exact ⟨_, _, .inl ⟨h, rfl, rfl⟩⟩
          · exact ⟨_, _, .inr ⟨Int.not_lt.2 h, rfl, rfl⟩⟩
        by_cases hin : 0 ≤ L ∧ H ≤ 300 ∧ ot.size ≤ 40
        · obtain ⟨h1, h2, h3⟩ := hin
          have hLH : L ≤ H := by omega
          obtain ⟨lo, rfl⟩ := Int.eq_ofNat_of_zero_le h1
          obtain ⟨hi, rfl⟩ := Int.eq_ofNat_of_zero_le (Int.le_trans h1 hLH)
          obtain ⟨ta, ua, ca, tb, ub, cb, r1, r2, fr⟩ := runs_two os ot lo hi (by omega) (by omega) h3 hos
          obtain ⟨tc, uc, cc, td, ud, cd, s1, s2, fs⟩ := walks_three os ot lo hi (by omega) (by omega) h3 hos
          obtain ⟨uz, cz, z1, z2⟩ := walks_zero os ot h3 hos
          have HA := hide (fun W (hW : Tab W) => lruns_c os ot lo ta ua ca W r1 hW)
          have HB := hide (fun W (hW : Tab W) => lruns_c os ot hi tb ub cb W r2 hW)
          have HC := hide (fun W (hW : Tab W) => lwlk_c os ot lo tc uc cc W s1 hW)
          have HD := hide (fun W (hW : Tab W) => lwlk_c os ot hi td ud cd W s2 hW)
          have HZ := hide (fun W (hW : Tab W) => lwlk_c os ot 0 ⟨#[]⟩ uz cz W z1 hW)
          have HP := hide (fun W => further_c ta ua tb ub ca cb W fr)
          have HQ := hide (fun W => further_c tc uc td ud cc cd W fs)
          have h3' : (ot.size : Int) ≤ 40 := by omega
          clear r1 r2 fr s1 s2 fs z1 hLH
          have hzs : cz = 0 ∧ os = ⟨#[]⟩ ∨ ¬ cz = 0 := by
            by_cases h0 : cz = 0
            · exact .inl ⟨h0, z2 h0⟩
            · exact .inr h0
          clear z2 hos
          have HOO := hide (fun (X Y : World) (k : Kp no X Y) (h : Blk X wr.heap.size [.int .i64 ok, .int .i64 ob, .int .i64 oc, .string os, .string ot, .string ou] 26) => (k.blk h no_elim : Blk Y wr.heap.size [.int .i64 ok, .int .i64 ob, .int .i64 oc, .string os, .string ot, .string ou] 26))
          rcases hsel with ⟨hs1, rfl, rfl⟩ | ⟨hs1, rfl, rfl⟩
          all_goals
            repeat (first | go_values | go_skip | go_guarded | go_step | go_upon)
            refine (HA.out _ (hT0.kp (by (repeat' (first | with_reducible exact Kp.refl _ _ | with_reducible refine Kp.alloc ?_ _ | with_reducible refine Kp.drewN ?_ _ | with_reducible refine Kp.drew ?_ | with_reducible refine Kp.setCell ?_ _ ?_ | (intro hh; first | rfl | exact .inl rfl | exact .inr rfl | (exfalso; (try dsimp only at hh); omega))))) no_elim)).mono ?_
            rintro e v1 ⟨rfl, k1⟩
            have hT1 : Tab v1 := (hT0.kp (show Kp no wr _ by (repeat' (first | with_reducible exact Kp.refl _ _ | with_reducible refine Kp.alloc ?_ _ | with_reducible refine Kp.drewN ?_ _ | with_reducible refine Kp.drew ?_ | with_reducible refine Kp.setCell ?_ _ ?_ | (intro hh; first | rfl | exact .inl rfl | exact .inr rfl | (exfalso; (try dsimp only at hh); omega))))) no_elim).kp k1 no_elim
            have hO1 := HOO.out _ _ k1 (by (repeat' (first | ((with_reducible show (_ : List Value) = _); rfl) | ((with_reducible refine Blk.newAt _ _ _ ?_); first | with_reducible rfl | (simp; done)) | with_reducible refine Blk.alloc ?_ _ | with_reducible refine Blk.drewN ?_ _ | with_reducible refine Blk.drew ?_ | ((with_reducible refine Blk.other ?_ _ ?_); rotate_left; ((try dsimp only); omega)) | with_reducible refine Blk.setB (cs0 := ?_) ?_ ?_)))
            have o0 := hO1.cell 0; have o1 := hO1.cell 1; have o2 := hO1.cell 2; have o3 := hO1.cell 3; have o4 := hO1.cell 4; have o5 := hO1.cell 5
            simp only [List.getElem?_cons_zero, List.getElem?_cons_succ] at o0 o1 o2 o3 o4 o5
            have of := hO1.frozen; have hol := hO1.lt
            dsimp only
            go_at_K
            repeat (first | go_values | go_skip | go_guarded | go_step | go_upon)
            refine (HB.out _ (hT1.kp (by (repeat' (first | with_reducible exact Kp.refl _ _ | with_reducible refine Kp.alloc ?_ _ | with_reducible refine Kp.drewN ?_ _ | with_reducible refine Kp.drew ?_ | with_reducible refine Kp.setCell ?_ _ ?_ | (intro hh; first | rfl | exact .inl rfl | exact .inr rfl | (exfalso; (try dsimp only at hh); omega))))) no_elim)).mono ?_
            rintro e v2 ⟨rfl, k2⟩
            have hT2 : Tab v2 := (hT1.kp (show Kp no v1 _ by (repeat' (first | with_reducible exact Kp.refl _ _ | with_reducible refine Kp.alloc ?_ _ | with_reducible refine Kp.drewN ?_ _ | with_reducible refine Kp.drew ?_ | with_reducible refine Kp.setCell ?_ _ ?_ | (intro hh; first | rfl | exact .inl rfl | exact .inr rfl | (exfalso; (try dsimp only at hh); omega))))) no_elim).kp k2 no_elim
            have hO2 := HOO.out _ _ k2 (by (repeat' (first | ((with_reducible show (_ : List Value) = _); rfl) | with_reducible exact hO1 | ((with_reducible refine Blk.newAt _ _ _ ?_); first | with_reducible rfl | (simp; done)) | with_reducible refine Blk.alloc ?_ _ | with_reducible refine Blk.drewN ?_ _ | with_reducible refine Blk.drew ?_ | ((with_reducible refine Blk.other ?_ _ ?_); rotate_left; ((try dsimp only); omega)) | with_reducible refine Blk.setB (cs0 := ?_) ?_ ?_)))
            have hA2 : Blk v2 v1.heap.size [.string ta, .string ua, .int .i64 ca] 31 := k2.blk (by (repeat' (first | ((with_reducible show (_ : List Value) = _); rfl) | ((with_reducible refine Blk.newAt _ _ _ ?_); first | with_reducible rfl | (simp; done)) | with_reducible refine Blk.alloc ?_ _ | with_reducible refine Blk.drewN ?_ _ | with_reducible refine Blk.drew ?_ | ((with_reducible refine Blk.other ?_ _ ?_); rotate_left; ((try dsimp only); omega)) | with_reducible refine Blk.setB (cs0 := ?_) ?_ ?_))) no_elim
            clear o0 o1 o2 o3 o4 o5 of hol
            have o0 := hO2.cell 0; have o1 := hO2.cell 1; have o2 := hO2.cell 2; have o3 := hO2.cell 3; have o4 := hO2.cell 4; have o5 := hO2.cell 5
            simp only [List.getElem?_cons_zero, List.getElem?_cons_succ] at o0 o1 o2 o3 o4 o5
            have of := hO2.frozen; have hol := hO2.lt
            obtain ⟨nA0, nA1, nA2, nAf⟩ := hA2.c3; have nAl := hA2.lt
            dsimp only
            go_at_K
            repeat (first | go_values | go_skip | go_guarded | go_step | go_upon)
            refine (HC.out _ (hT2.kp (by (repeat' (first | with_reducible exact Kp.refl _ _ | with_reducible refine Kp.alloc ?_ _ | with_reducible refine Kp.drewN ?_ _ | with_reducible refine Kp.drew ?_ | with_reducible refine Kp.setCell ?_ _ ?_ | (intro hh; first | rfl | exact .inl rfl | exact .inr rfl | (exfalso; (try dsimp only at hh); omega))))) no_elim)).mono ?_
            rintro e v3 ⟨rfl, k3⟩
            have hT3 : Tab v3 := (hT2.kp (show Kp no v2 _ by (repeat' (first | with_reducible exact Kp.refl _ _ | with_reducible refine Kp.alloc ?_ _ | with_reducible refine Kp.drewN ?_ _ | with_reducible refine Kp.drew ?_ | with_reducible refine Kp.setCell ?_ _ ?_ | (intro hh; first | rfl | exact .inl rfl | exact .inr rfl | (exfalso; (try dsimp only at hh); omega))))) no_elim).kp k3 no_elim
            have hO3 := HOO.out _ _ k3 (by (repeat' (first | ((with_reducible show (_ : List Value) = _); rfl) | with_reducible exact hO2 | ((with_reducible refine Blk.newAt _ _ _ ?_); first | with_reducible rfl | (simp; done)) | with_reducible refine Blk.alloc ?_ _ | with_reducible refine Blk.drewN ?_ _ | with_reducible refine Blk.drew ?_ | ((with_reducible refine Blk.other ?_ _ ?_); rotate_left; ((try dsimp only); omega)) | with_reducible refine Blk.setB (cs0 := ?_) ?_ ?_)))
            have hA3 : Blk v3 v1.heap.size [.string ta, .string ua, .int .i64 ca] 31 := k3.blk (by (repeat' (first | ((with_reducible show (_ : List Value) = _); rfl) | with_reducible exact hA2 | ((with_reducible refine Blk.newAt _ _ _ ?_); first | with_reducible rfl | (simp; done)) | with_reducible refine Blk.alloc ?_ _ | with_reducible refine Blk.drewN ?_ _ | with_reducible refine Blk.drew ?_ | ((with_reducible refine Blk.other ?_ _ ?_); rotate_left; ((try dsimp only); omega)) | with_reducible refine Blk.setB (cs0 := ?_) ?_ ?_))) no_elim
            have hB3 : Blk v3 v2.heap.size [.string tb, .string ub, .int .i64 cb] 31 := k3.blk (by (repeat' (first | ((with_reducible show (_ : List Value) = _); rfl) | ((with_reducible refine Blk.newAt _ _ _ ?_); first | with_reducible rfl | (simp; done)) | with_reducible refine Blk.alloc ?_ _ | with_reducible refine Blk.drewN ?_ _ | with_reducible refine Blk.drew ?_ | ((with_reducible refine Blk.other ?_ _ ?_); rotate_left; ((try dsimp only); omega)) | with_reducible refine Blk.setB (cs0 := ?_) ?_ ?_))) no_elim
            clear o0 o1 o2 o3 o4 o5 of hol nA0 nA1 nA2 nAf nAl
            have o0 := hO3.cell 0; have o1 := hO3.cell 1; have o2 := hO3.cell 2; have o3 := hO3.cell 3; have o4 := hO3.cell 4; have o5 := hO3.cell 5
            simp only [List.getElem?_cons_zero, List.getElem?_cons_succ] at o0 o1 o2 o3 o4 o5
            have of := hO3.frozen; have hol := hO3.lt
            obtain ⟨nA0, nA1, nA2, nAf⟩ := hA3.c3; have nAl := hA3.lt
            obtain ⟨nB0, nB1, nB2, nBf⟩ := hB3.c3; have nBl := hB3.lt
            dsimp only
            go_at_K
            repeat (first | go_values | go_skip | go_guarded | go_step | go_upon)
            refine (HD.out _ (hT3.kp (by (repeat' (first | with_reducible exact Kp.refl _ _ | with_reducible refine Kp.alloc ?_ _ | with_reducible refine Kp.drewN ?_ _ | with_reducible refine Kp.drew ?_ | with_reducible refine Kp.setCell ?_ _ ?_ | (intro hh; first | rfl | exact .inl rfl | exact .inr rfl | (exfalso; (try dsimp only at hh); omega))))) no_elim)).mono ?_
            rintro e v4 ⟨rfl, k4⟩
            have hT4 : Tab v4 := (hT3.kp (show Kp no v3 _ by (repeat' (first | with_reducible exact Kp.refl _ _ | with_reducible refine Kp.alloc ?_ _ | with_reducible refine Kp.drewN ?_ _ | with_reducible refine Kp.drew ?_ | with_reducible refine Kp.setCell ?_ _ ?_ | (intro hh; first | rfl | exact .inl rfl | exact .inr rfl | (exfalso; (try dsimp only at hh); omega))))) no_elim).kp k4 no_elim
            have hO4 := HOO.out _ _ k4 (by (repeat' (first | ((with_reducible show (_ : List Value) = _); rfl) | with_reducible exact hO3 | ((with_reducible refine Blk.newAt _ _ _ ?_); first | with_reducible rfl | (simp; done)) | with_reducible refine Blk.alloc ?_ _ | with_reducible refine Blk.drewN ?_ _ | with_reducible refine Blk.drew ?_ | ((with_reducible refine Blk.other ?_ _ ?_); rotate_left; ((try dsimp only); omega)) | with_reducible refine Blk.setB (cs0 := ?_) ?_ ?_)))
            have hA4 : Blk v4 v1.heap.size [.string ta, .string ua, .int .i64 ca] 31 := k4.blk (by (repeat' (first | ((with_reducible show (_ : List Value) = _); rfl) | with_reducible exact hA3 | ((with_reducible refine Blk.newAt _ _ _ ?_); first | with_reducible rfl | (simp; done)) | with_reducible refine Blk.alloc ?_ _ | with_reducible refine Blk.drewN ?_ _ | with_reducible refine Blk.drew ?_ | ((with_reducible refine Blk.other ?_ _ ?_); rotate_left; ((try dsimp only); omega)) | with_reducible refine Blk.setB (cs0 := ?_) ?_ ?_))) no_elim
            have hB4 : Blk v4 v2.heap.size [.string tb, .string ub, .int .i64 cb] 31 := k4.blk (by (repeat' (first | ((with_reducible show (_ : List Value) = _); rfl) | with_reducible exact hB3 | ((with_reducible refine Blk.newAt _ _ _ ?_); first | with_reducible rfl | (simp; done)) | with_reducible refine Blk.alloc ?_ _ | with_reducible refine Blk.drewN ?_ _ | with_reducible refine Blk.drew ?_ | ((with_reducible refine Blk.other ?_ _ ?_); rotate_left; ((try dsimp only); omega)) | with_reducible refine Blk.setB (cs0 := ?_) ?_ ?_))) no_elim
            have hC4 : Blk v4 v3.heap.size [.string tc, .string uc, .int .i64 cc] 31 := k4.blk (by (repeat' (first | ((with_reducible show (_ : List Value) = _); rfl) | ((with_reducible refine Blk.newAt _ _ _ ?_); first | with_reducible rfl | (simp; done)) | with_reducible refine Blk.alloc ?_ _ | with_reducible refine Blk.drewN ?_ _ | with_reducible refine Blk.drew ?_ | ((with_reducible refine Blk.other ?_ _ ?_); rotate_left; ((try dsimp only); omega)) | with_reducible refine Blk.setB (cs0 := ?_) ?_ ?_))) no_elim
            clear o0 o1 o2 o3 o4 o5 of hol nA0 nA1 nA2 nAf nAl nB0 nB1 nB2 nBf nBl
            have o0 := hO4.cell 0; have o1 := hO4.cell 1; have o2 := hO4.cell 2; have o3 := hO4.cell 3; have o4 := hO4.cell 4; have o5 := hO4.cell 5
            simp only [List.getElem?_cons_zero, List.getElem?_cons_succ] at o0 o1 o2 o3 o4 o5
            have of := hO4.frozen; have hol := hO4.lt
            obtain ⟨nA0, nA1, nA2, nAf⟩ := hA4.c3; have nAl := hA4.lt
            obtain ⟨nB0, nB1, nB2, nBf⟩ := hB4.c3; have nBl := hB4.lt
            obtain ⟨nC0, nC1, nC2, nCf⟩ := hC4.c3; have nCl := hC4.lt
            dsimp only
            go_at_K
            repeat (first | go_values | go_skip | go_guarded | go_step | go_upon)
            refine (HZ.out _ (hT4.kp (by (repeat' (first | with_reducible exact Kp.refl _ _ | with_reducible refine Kp.alloc ?_ _ | with_reducible refine Kp.drewN ?_ _ | with_reducible refine Kp.drew ?_ | with_reducible refine Kp.setCell ?_ _ ?_ | (intro hh; first | rfl | exact .inl rfl | exact .inr rfl | (exfalso; (try dsimp only at hh); omega))))) no_elim)).mono ?_
            rintro e v5 ⟨rfl, k5⟩
            have hT5 : Tab v5 := (hT4.kp (show Kp no v4 _ by (repeat' (first | with_reducible exact Kp.refl _ _ | with_reducible refine Kp.alloc ?_ _ | with_reducible refine Kp.drewN ?_ _ | with_reducible refine Kp.drew ?_ | with_reducible refine Kp.setCell ?_ _ ?_ | (intro hh; first | rfl | exact .inl rfl | exact .inr rfl | (exfalso; (try dsimp only at hh); omega))))) no_elim).kp k5 no_elim
            have hO5 := HOO.out _ _ k5 (by (repeat' (first | ((with_reducible show (_ : List Value) = _); rfl) | with_reducible exact hO4 | ((with_reducible refine Blk.newAt _ _ _ ?_); first | with_reducible rfl | (simp; done)) | with_reducible refine Blk.alloc ?_ _ | with_reducible refine Blk.drewN ?_ _ | with_reducible refine Blk.drew ?_ | ((with_reducible refine Blk.other ?_ _ ?_); rotate_left; ((try dsimp only); omega)) | with_reducible refine Blk.setB (cs0 := ?_) ?_ ?_)))
            have hA5 : Blk v5 v1.heap.size [.string ta, .string ua, .int .i64 ca] 31 := k5.blk (by (repeat' (first | ((with_reducible show (_ : List Value) = _); rfl) | with_reducible exact hA4 | ((with_reducible refine Blk.newAt _ _ _ ?_); first | with_reducible rfl | (simp; done)) | with_reducible refine Blk.alloc ?_ _ | with_reducible refine Blk.drewN ?_ _ | with_reducible refine Blk.drew ?_ | ((with_reducible refine Blk.other ?_ _ ?_); rotate_left; ((try dsimp only); omega)) | with_reducible refine Blk.setB (cs0 := ?_) ?_ ?_))) no_elim
            have hB5 : Blk v5 v2.heap.size [.string tb, .string ub, .int .i64 cb] 31 := k5.blk (by (repeat' (first | ((with_reducible show (_ : List Value) = _); rfl) | with_reducible exact hB4 | ((with_reducible refine Blk.newAt _ _ _ ?_); first | with_reducible rfl | (simp; done)) | with_reducible refine Blk.alloc ?_ _ | with_reducible refine Blk.drewN ?_ _ | with_reducible refine Blk.drew ?_ | ((with_reducible refine Blk.other ?_ _ ?_); rotate_left; ((try dsimp only); omega)) | with_reducible refine Blk.setB (cs0 := ?_) ?_ ?_))) no_elim
            have hC5 : Blk v5 v3.heap.size [.string tc, .string uc, .int .i64 cc] 31 := k5.blk (by (repeat' (first | ((with_reducible show (_ : List Value) = _); rfl) | with_reducible exact hC4 | ((with_reducible refine Blk.newAt _ _ _ ?_); first | with_reducible rfl | (simp; done)) | with_reducible refine Blk.alloc ?_ _ | with_reducible refine Blk.drewN ?_ _ | with_reducible refine Blk.drew ?_ | ((with_reducible refine Blk.other ?_ _ ?_); rotate_left; ((try dsimp only); omega)) | with_reducible refine Blk.setB (cs0 := ?_) ?_ ?_))) no_elim
            have hD5 : Blk v5 v4.heap.size [.string td, .string ud, .int .i64 cd] 31 := k5.blk (by (repeat' (first | ((with_reducible show (_ : List Value) = _); rfl) | ((with_reducible refine Blk.newAt _ _ _ ?_); first | with_reducible rfl | (simp; done)) | with_reducible refine Blk.alloc ?_ _ | with_reducible refine Blk.drewN ?_ _ | with_reducible refine Blk.drew ?_ | ((with_reducible refine Blk.other ?_ _ ?_); rotate_left; ((try dsimp only); omega)) | with_reducible refine Blk.setB (cs0 := ?_) ?_ ?_))) no_elim
            clear o0 o1 o2 o3 o4 o5 of hol nA0 nA1 nA2 nAf nAl nB0 nB1 nB2 nBf nBl nC0 nC1 nC2 nCf nCl
            have o0 := hO5.cell 0; have o1 := hO5.cell 1; have o2 := hO5.cell 2; have o3 := hO5.cell 3; have o4 := hO5.cell 4; have o5 := hO5.cell 5
            simp only [List.getElem?_cons_zero, List.getElem?_cons_succ] at o0 o1 o2 o3 o4 o5
            have of := hO5.frozen; have hol := hO5.lt
            obtain ⟨nA0, nA1, nA2, nAf⟩ := hA5.c3; have nAl := hA5.lt
            obtain ⟨nB0, nB1, nB2, nBf⟩ := hB5.c3; have nBl := hB5.lt
            obtain ⟨nC0, nC1, nC2, nCf⟩ := hC5.c3; have nCl := hC5.lt
            obtain ⟨nD0, nD1, nD2, nDf⟩ := hD5.c3; have nDl := hD5.lt
            dsimp only
            go_at_K
            repeat (first | go_values | go_skip | go_guarded | go_step | go_upon)
            refine (HP.out _).mono ?_
            rintro e v6 ⟨rfl, k6⟩
            have hO6 := HOO.out _ _ k6 (by (repeat' (first | ((with_reducible show (_ : List Value) = _); rfl) | with_reducible exact hO5 | ((with_reducible refine Blk.newAt _ _ _ ?_); first | with_reducible rfl | (simp; done)) | with_reducible refine Blk.alloc ?_ _ | with_reducible refine Blk.drewN ?_ _ | with_reducible refine Blk.drew ?_ | ((with_reducible refine Blk.other ?_ _ ?_); rotate_left; ((try dsimp only); omega)) | with_reducible refine Blk.setB (cs0 := ?_) ?_ ?_)))
            have hC6 : Blk v6 v3.heap.size [.string tc, .string uc, .int .i64 cc] 31 := k6.blk (by (repeat' (first | ((with_reducible show (_ : List Value) = _); rfl) | with_reducible exact hC5 | ((with_reducible refine Blk.newAt _ _ _ ?_); first | with_reducible rfl | (simp; done)) | with_reducible refine Blk.alloc ?_ _ | with_reducible refine Blk.drewN ?_ _ | with_reducible refine Blk.drew ?_ | ((with_reducible refine Blk.other ?_ _ ?_); rotate_left; ((try dsimp only); omega)) | with_reducible refine Blk.setB (cs0 := ?_) ?_ ?_))) no_elim
            have hD6 : Blk v6 v4.heap.size [.string td, .string ud, .int .i64 cd] 31 := k6.blk (by (repeat' (first | ((with_reducible show (_ : List Value) = _); rfl) | with_reducible exact hD5 | ((with_reducible refine Blk.newAt _ _ _ ?_); first | with_reducible rfl | (simp; done)) | with_reducible refine Blk.alloc ?_ _ | with_reducible refine Blk.drewN ?_ _ | with_reducible refine Blk.drew ?_ | ((with_reducible refine Blk.other ?_ _ ?_); rotate_left; ((try dsimp only); omega)) | with_reducible refine Blk.setB (cs0 := ?_) ?_ ?_))) no_elim
            have hZ6 : Blk v6 v5.heap.size [.string ⟨#[]⟩, .string uz, .int .i64 cz] 31 := k6.blk (by (repeat' (first | ((with_reducible show (_ : List Value) = _); rfl) | ((with_reducible refine Blk.newAt _ _ _ ?_); first | with_reducible rfl | (simp; done)) | with_reducible refine Blk.alloc ?_ _ | with_reducible refine Blk.drewN ?_ _ | with_reducible refine Blk.drew ?_ | ((with_reducible refine Blk.other ?_ _ ?_); rotate_left; ((try dsimp only); omega)) | with_reducible refine Blk.setB (cs0 := ?_) ?_ ?_))) no_elim
            clear o0 o1 o2 o3 o4 o5 of hol nA0 nA1 nA2 nAf nAl nB0 nB1 nB2 nBf nBl nC0 nC1 nC2 nCf nCl nD0 nD1 nD2 nDf nDl
            have o0 := hO6.cell 0; have o1 := hO6.cell 1; have o2 := hO6.cell 2; have o3 := hO6.cell 3; have o4 := hO6.cell 4; have o5 := hO6.cell 5
            simp only [List.getElem?_cons_zero, List.getElem?_cons_succ] at o0 o1 o2 o3 o4 o5
            have of := hO6.frozen; have hol := hO6.lt
            obtain ⟨nC0, nC1, nC2, nCf⟩ := hC6.c3; have nCl := hC6.lt
            obtain ⟨nD0, nD1, nD2, nDf⟩ := hD6.c3; have nDl := hD6.lt
            dsimp only
            go_at_K
            repeat (first | go_values | go_skip | go_guarded | go_step | go_upon)
            refine (HQ.out _).mono ?_
            rintro e v7 ⟨rfl, k7⟩
            have hO7 := HOO.out _ _ k7 (by (repeat' (first | ((with_reducible show (_ : List Value) = _); rfl) | with_reducible exact hO6 | ((with_reducible refine Blk.newAt _ _ _ ?_); first | with_reducible rfl | (simp; done)) | with_reducible refine Blk.alloc ?_ _ | with_reducible refine Blk.drewN ?_ _ | with_reducible refine Blk.drew ?_ | ((with_reducible refine Blk.other ?_ _ ?_); rotate_left; ((try dsimp only); omega)) | with_reducible refine Blk.setB (cs0 := ?_) ?_ ?_)))
            have hZ7 : Blk v7 v5.heap.size [.string ⟨#[]⟩, .string uz, .int .i64 cz] 31 := k7.blk (by (repeat' (first | ((with_reducible show (_ : List Value) = _); rfl) | with_reducible exact hZ6 | ((with_reducible refine Blk.newAt _ _ _ ?_); first | with_reducible rfl | (simp; done)) | with_reducible refine Blk.alloc ?_ _ | with_reducible refine Blk.drewN ?_ _ | with_reducible refine Blk.drew ?_ | ((with_reducible refine Blk.other ?_ _ ?_); rotate_left; ((try dsimp only); omega)) | with_reducible refine Blk.setB (cs0 := ?_) ?_ ?_))) no_elim
            clear o0 o1 o2 o3 o4 o5 of hol nC0 nC1 nC2 nCf nCl nD0 nD1 nD2 nDf nDl
            have o3 := hO7.cell 3
            simp only [List.getElem?_cons_zero, List.getElem?_cons_succ] at o3
            have of := hO7.frozen; have hol := hO7.lt
            obtain ⟨nZ0, nZ1, nZ2, nZf⟩ := hZ7.c3; have nZl := hZ7.lt
            have KK := hide (show Kp no wr v7 by (repeat' (first | with_reducible exact Kp.refl _ _ | with_reducible refine Kp.alloc ?_ _ | with_reducible refine Kp.drewN ?_ _ | with_reducible refine Kp.drew ?_ | with_reducible refine Kp.setCell ?_ _ ?_ | with_reducible refine Kp.trans ?_ k1 (fun _ _ e => e) | with_reducible refine Kp.trans ?_ k2 (fun _ _ e => e) | with_reducible refine Kp.trans ?_ k3 (fun _ _ e => e) | with_reducible refine Kp.trans ?_ k4 (fun _ _ e => e) | with_reducible refine Kp.trans ?_ k5 (fun _ _ e => e) | with_reducible refine Kp.trans ?_ k6 (fun _ _ e => e) | with_reducible refine Kp.trans ?_ k7 (fun _ _ e => e) | (intro hh; first | rfl | exact .inl rfl | exact .inr rfl | (exfalso; (try dsimp only at hh); omega)))))
            clear k1 k2 k3 k4 k5 k6 k7
            rcases hzs with ⟨rfl, rfl⟩ | hz0
            · dsimp only
              go_at_K
              repeat (first | go_values | go_skip | go_guarded | go_step | go_upon)
              go_roundg (n - (j + 1))
              case measure => have := HK.out; omega
              case rel => exact ⟨j + 1, by omega, rfl, by go_num, HKR.out.trans KK.out (fun _ _ e => e)⟩
            · have hz0' : ((cz : Int) == 0) = false := by simp [hz0]
              clear hz0
              dsimp only
              go_at_K
              repeat (first | go_values | go_skip | go_guarded | go_step | go_upon)
              go_roundg (n - (j + 1))
              case measure => have := HK.out; omega
              case rel => exact ⟨j + 1, by omega, rfl, by go_num, HKR.out.trans KK.out (fun _ _ e => e)⟩
        · have hcs : ¬ (0 ≤ L) ∨ (0 ≤ L ∧ ¬ H ≤ 300) ∨ (0 ≤ L ∧ H ≤ 300 ∧ ¬ ((ot.size : Int) ≤ 40)) := by omega
          clear hin hos
          rcases hsel with ⟨hs1, rfl, rfl⟩ | ⟨hs1, rfl, rfl⟩
          all_goals
            rcases hcs with q1 | ⟨q1, q2⟩ | ⟨q1, q2, q3⟩
            all_goals
              repeat (first | go_values | go_skip | go_guarded | go_step | go_upon)
              go_roundg (n - (j + 1))
              case measure => have := HK.out; omega
              case rel => exact ⟨j + 1, by omega, rfl, by go_num, by have kk := HKR.out; (repeat' (first | with_reducible exact Kp.refl _ _ | with_reducible refine Kp.alloc ?_ _ | with_reducible refine Kp.drewN ?_ _ | with_reducible refine Kp.drew ?_ | with_reducible refine Kp.setCell ?_ _ ?_ | with_reducible refine Kp.trans ?_ kk (fun _ _ e => e) | (intro hh; first | rfl | exact .inl rfl | exact .inr rfl | (exfalso; (try dsimp only at hh); omega))))⟩
      · have d60 := decide_eq_false h60
        clear h60 hS hok hn
        go_wp2_with fail
        refine (HAL.out _ hT0).mono ?_
        rintro e v1 ⟨rfl, k1⟩
        go_wp2
        go_ret
        exact ⟨rfl, HKR.out.trans k1 (fun _ _ e => e)⟩
    · have hn' := hide hn
      clear hS hok hn
      go_wp2_with fail
      refine (HAL.out _ hT0).mono ?_
      rintro e v1 ⟨rfl, k1⟩
      go_wp2
      go_ret
      exact ⟨rfl, HKR.out.trans k1 (fun _ _ e => e)⟩
end Go.Proofs.YtellieabhaphhaaGreatDoor

/-
  Longer: the row and the card.
-/
namespace Go.Proofs.YtellieabhaphhaaGreatDoor
open Go.ChangeShapes Go.WideShapes Go.ChangeAt Go.RowKit Go.Deep

theorem pow_data : (Rows.laid_internal_strconv_uint64pow10 : DataW Unit) = Lib.tabData .u64 Lib.pow10Tab := by kernel_rfl

theorem tab_of {W : World} (h : laidMetH Tryz.prog Rows.longerRow.laid W) : Tab W := by
  have h1 : laidMet Tryz.prog Rows.longerRow.laid W := h
  obtain ⟨ps, ⟨g0, t0, cs0, f0, p0, q0, hg0, ht0, hv0, hd0, ⟨g1, t1, cs1, f1, p1, q1, hg1, ht1, hv1, hd1, ⟨g2, t2, cs2, f2, p2, q2, hg2, ht2, hv2, hd2, _, _⟩, _⟩, _⟩, _⟩ := h1
  obtain rfl := Option.some.inj (gtab.symm.trans hg2)
  obtain rfl := Option.some.inj (gT.symm.trans ht2)
  rw [pow_data] at hd2
  show Lib.TabIs _ _ _ _ _
  unfold Lib.TabIs
  rw [hv2, ← Lib.cells_of_tab Tryz.underlying211 Tryz.underlying205 c64 c20 hd2]

set_option maxRecDepth 100000 in
/-- For every script, in every world that holds the tables. -/
theorem longer_contract (H : Type) (enc : TypeId × Value → H) (W : World) (base : Nat) (args : Array Value) (ds gs : List (DataW H)) (before : List MemPlace)
    (hval : ∀ (j : Nat) t v, Tryz.f7.params[j]? = some t → args[j]? = some v → Value.okWide Tryz.prog W .any base t v)
    (hW : DataW.Whole enc Tryz.prog Tryz.f7.params.toList Rows.longerSpec.vars false W args.toList ds gs before) (hL : laidMetH Tryz.prog Rows.longerRow.laid W) :
    Calls Tryz.prog 7 args W fun e W' => ∃ v, e = .returned v ∧ Rows.longerSpec.post enc Tryz.prog Tryz.f7 false true false false W args v W' := by
  have hW' := hW
  obtain ⟨p, q, hA0, hV, rfl, hfz, hnd⟩ := hW
  have hA : DataW.TrodAll enc Tryz.prog W 0 (fun _ => true) true Tryz.f7.params.toList args.toList ds p := hA0
  rw [Tryz.params7] at hA hval
  obtain ⟨v0, d0, rfl, rfl, h0⟩ := trodAll_one hA
  obtain ⟨rfl, rfl⟩ := trodVars_none hV
  obtain ⟨ao, len, cap, rfl⟩ := okWide_slice Tryz.underlying22 (hval 0 22 v0 rfl rfl)
  have walk : Calls Tryz.prog 7 #[.slice ao len cap] W fun e w' => e = .returned (.bool true) ∧ Kp no W w' := by
    rcases (script_open h0).1 with rfl | ⟨a, O, rfl, hl, hb, hS, hO⟩
    · exact longer_c ao 0 cap (fun _ => ⟨0, 0, 0, (⟨#[]⟩ : ByteArray), (⟨#[]⟩ : ByteArray), (⟨#[]⟩ : ByteArray)⟩) W (Nat.zero_le _) (fun h => absurd h (by decide)) (fun i h => absurd h (Nat.not_lt_zero i)) (tab_of hL)
    · exact longer_c (some a) len cap O W hl (fun _ => ⟨a, rfl, hS, hb⟩) hO (tab_of hL)
  have hsh := (script_open h0).2
  refine walk.mono fun e W' ⟨he, k⟩ => ?_
  subst he
  have hold : ∀ q ∈ p, (fun b => decide (b < W.heap.size)) q.block = true := fun q hq => by simpa using hW'.lt q (by simpa using hq)
  refine ⟨_, rfl, [d0], [], p ++ [], [], p, [], hW', ?_, ?_, ?_, ?_, fun h => by cases h⟩
  · exact trodAll_mk1 (shut_bool Tryz.underlying4 _)
  · exact trodAll_mk1 (hsh W' k _ hold)
  · first | exact rfl | exact ⟨rfl, rfl⟩
  · exact Kp.keptBut k _
end Go.Proofs.YtellieabhaphhaaGreatDoor

/-
  Longer: the card.
-/
namespace Go.Proofs.YtellieabhaphhaaGreatDoor
open Go.ChangeShapes Go.WideShapes Go.ChangeAt Go.RowKit Go.Deep

/-- A block that holds other cells. -/
def lay1 (c : Array Value) : Obj → Obj
  | .cells _ t frozen => .cells c t frozen
  | o => o

theorem laid_met (os : Os) : laidMet Tryz.prog Rows.longerRow.laid (({ World.holding Tryz.prog os ⟨#[], #[], []⟩ with heap := (((World.holding Tryz.prog os ⟨#[], #[], []⟩).heap.modify 0 (lay1 #[.int .u64 1, .int .u64 10, .int .u64 100, .int .u64 1000, .int .u64 10000, .int .u64 100000, .int .u64 1000000, .int .u64 10000000, .int .u64 100000000, .int .u64 1000000000, .int .u64 10000000000, .int .u64 100000000000, .int .u64 1000000000000, .int .u64 10000000000000, .int .u64 100000000000000, .int .u64 1000000000000000, .int .u64 10000000000000000, .int .u64 100000000000000000, .int .u64 1000000000000000000, .int .u64 10000000000000000000])).modify 1 (lay1 #[.int .u8 0, .int .u8 1, .int .u8 28, .int .u8 2, .int .u8 29, .int .u8 14, .int .u8 24, .int .u8 3, .int .u8 30, .int .u8 22, .int .u8 20, .int .u8 15, .int .u8 25, .int .u8 17, .int .u8 4, .int .u8 8, .int .u8 31, .int .u8 27, .int .u8 13, .int .u8 23, .int .u8 21, .int .u8 19, .int .u8 16, .int .u8 7, .int .u8 26, .int .u8 12, .int .u8 18, .int .u8 6, .int .u8 11, .int .u8 5, .int .u8 10, .int .u8 9])).modify 2 (lay1 #[.int .u8 0, .int .u8 1, .int .u8 56, .int .u8 2, .int .u8 57, .int .u8 49, .int .u8 28, .int .u8 3, .int .u8 61, .int .u8 58, .int .u8 42, .int .u8 50, .int .u8 38, .int .u8 29, .int .u8 17, .int .u8 4, .int .u8 62, .int .u8 47, .int .u8 59, .int .u8 36, .int .u8 45, .int .u8 43, .int .u8 51, .int .u8 22, .int .u8 53, .int .u8 39, .int .u8 33, .int .u8 30, .int .u8 24, .int .u8 18, .int .u8 12, .int .u8 5, .int .u8 63, .int .u8 55, .int .u8 48, .int .u8 27, .int .u8 60, .int .u8 41, .int .u8 37, .int .u8 16, .int .u8 46, .int .u8 35, .int .u8 44, .int .u8 21, .int .u8 52, .int .u8 32, .int .u8 23, .int .u8 11, .int .u8 54, .int .u8 26, .int .u8 40, .int .u8 15, .int .u8 34, .int .u8 20, .int .u8 31, .int .u8 10, .int .u8 25, .int .u8 14, .int .u8 19, .int .u8 9, .int .u8 13, .int .u8 8, .int .u8 7, .int .u8 6]) } : World).forCall (fun _ _ => 0) ⟨#[], #[.slice none 0 0], []⟩).memory :=
  laidMet_of_run' 8 (by kernel_rfl) (by kernel_rfl)

theorem longer_reads (os : Os) {H : Type} (enc : TypeId × Value → H) : ∃ places, DataW.whole enc Tryz.prog (({ World.holding Tryz.prog os ⟨#[], #[], []⟩ with heap := (((World.holding Tryz.prog os ⟨#[], #[], []⟩).heap.modify 0 (lay1 #[.int .u64 1, .int .u64 10, .int .u64 100, .int .u64 1000, .int .u64 10000, .int .u64 100000, .int .u64 1000000, .int .u64 10000000, .int .u64 100000000, .int .u64 1000000000, .int .u64 10000000000, .int .u64 100000000000, .int .u64 1000000000000, .int .u64 10000000000000, .int .u64 100000000000000, .int .u64 1000000000000000, .int .u64 10000000000000000, .int .u64 100000000000000000, .int .u64 1000000000000000000, .int .u64 10000000000000000000])).modify 1 (lay1 #[.int .u8 0, .int .u8 1, .int .u8 28, .int .u8 2, .int .u8 29, .int .u8 14, .int .u8 24, .int .u8 3, .int .u8 30, .int .u8 22, .int .u8 20, .int .u8 15, .int .u8 25, .int .u8 17, .int .u8 4, .int .u8 8, .int .u8 31, .int .u8 27, .int .u8 13, .int .u8 23, .int .u8 21, .int .u8 19, .int .u8 16, .int .u8 7, .int .u8 26, .int .u8 12, .int .u8 18, .int .u8 6, .int .u8 11, .int .u8 5, .int .u8 10, .int .u8 9])).modify 2 (lay1 #[.int .u8 0, .int .u8 1, .int .u8 56, .int .u8 2, .int .u8 57, .int .u8 49, .int .u8 28, .int .u8 3, .int .u8 61, .int .u8 58, .int .u8 42, .int .u8 50, .int .u8 38, .int .u8 29, .int .u8 17, .int .u8 4, .int .u8 62, .int .u8 47, .int .u8 59, .int .u8 36, .int .u8 45, .int .u8 43, .int .u8 51, .int .u8 22, .int .u8 53, .int .u8 39, .int .u8 33, .int .u8 30, .int .u8 24, .int .u8 18, .int .u8 12, .int .u8 5, .int .u8 63, .int .u8 55, .int .u8 48, .int .u8 27, .int .u8 60, .int .u8 41, .int .u8 37, .int .u8 16, .int .u8 46, .int .u8 35, .int .u8 44, .int .u8 21, .int .u8 52, .int .u8 32, .int .u8 23, .int .u8 11, .int .u8 54, .int .u8 26, .int .u8 40, .int .u8 15, .int .u8 34, .int .u8 20, .int .u8 31, .int .u8 10, .int .u8 25, .int .u8 14, .int .u8 19, .int .u8 9, .int .u8 13, .int .u8 8, .int .u8 7, .int .u8 6]) } : World).forCall (fun _ _ => 0) ⟨#[], #[.slice none 0 0], []⟩).memory Tryz.f7.params.toList Rows.longerSpec.vars false #[Value.slice none 0 0].toList 8 = some ([.nil], [], places) :=
  ⟨[], by kernel_rfl⟩

set_option maxRecDepth 100000 in
theorem longer_lifted (os : Os) (started : os.Started) (H : Type) (enc : TypeId × Value → H) (F : Stop.Interp) :
    ReturnsInHanded {} Tryz.checked os 7 .any ((OpenSpec.ofChange Rows.longerSpec).preRow enc Tryz.prog Tryz.f7 Rows.longerRow.domain false Rows.longerRow.laid) (((OpenSpec.ofChange Rows.longerSpec).at F).post enc Tryz.prog Tryz.f7 false true false false) := by
  obtain ⟨places, hx⟩ := longer_reads os enc
  refine returnsInHanded_of_row (C := Tryz.checked) (s := OpenSpec.ofChange Rows.longerSpec) own started (by kernel_rfl) Tryz.func7
    (witness_row_at (enc := enc) (C := Tryz.checked) false ({ World.holding Tryz.prog os ⟨#[], #[], []⟩ with heap := (((World.holding Tryz.prog os ⟨#[], #[], []⟩).heap.modify 0 (lay1 #[.int .u64 1, .int .u64 10, .int .u64 100, .int .u64 1000, .int .u64 10000, .int .u64 100000, .int .u64 1000000, .int .u64 10000000, .int .u64 100000000, .int .u64 1000000000, .int .u64 10000000000, .int .u64 100000000000, .int .u64 1000000000000, .int .u64 10000000000000, .int .u64 100000000000000, .int .u64 1000000000000000, .int .u64 10000000000000000, .int .u64 100000000000000000, .int .u64 1000000000000000000, .int .u64 10000000000000000000])).modify 1 (lay1 #[.int .u8 0, .int .u8 1, .int .u8 28, .int .u8 2, .int .u8 29, .int .u8 14, .int .u8 24, .int .u8 3, .int .u8 30, .int .u8 22, .int .u8 20, .int .u8 15, .int .u8 25, .int .u8 17, .int .u8 4, .int .u8 8, .int .u8 31, .int .u8 27, .int .u8 13, .int .u8 23, .int .u8 21, .int .u8 19, .int .u8 16, .int .u8 7, .int .u8 26, .int .u8 12, .int .u8 18, .int .u8 6, .int .u8 11, .int .u8 5, .int .u8 10, .int .u8 9])).modify 2 (lay1 #[.int .u8 0, .int .u8 1, .int .u8 56, .int .u8 2, .int .u8 57, .int .u8 49, .int .u8 28, .int .u8 3, .int .u8 61, .int .u8 58, .int .u8 42, .int .u8 50, .int .u8 38, .int .u8 29, .int .u8 17, .int .u8 4, .int .u8 62, .int .u8 47, .int .u8 59, .int .u8 36, .int .u8 45, .int .u8 43, .int .u8 51, .int .u8 22, .int .u8 53, .int .u8 39, .int .u8 33, .int .u8 30, .int .u8 24, .int .u8 18, .int .u8 12, .int .u8 5, .int .u8 63, .int .u8 55, .int .u8 48, .int .u8 27, .int .u8 60, .int .u8 41, .int .u8 37, .int .u8 16, .int .u8 46, .int .u8 35, .int .u8 44, .int .u8 21, .int .u8 52, .int .u8 32, .int .u8 23, .int .u8 11, .int .u8 54, .int .u8 26, .int .u8 40, .int .u8 15, .int .u8 34, .int .u8 20, .int .u8 31, .int .u8 10, .int .u8 25, .int .u8 14, .int .u8 19, .int .u8 9, .int .u8 13, .int .u8 8, .int .u8 7, .int .u8 6]) } : World) #[.slice none 0 0] rfl (by kernel_rfl) (by kernel_rfl) (by kernel_rfl)
      (OpenSpec.preRow_of_cond 8 hx (by kernel_rfl) (fun k hk => by cases hk) (by kernel_rfl) (laid_met os))) ?_
  intro W base args ds gs before hval hW _ _ _ hL _ _
  exact longer_contract H enc W base args ds gs before hval hW hL

theorem longer_said : Rows.LongerSaid :=
  OpenClaim.holds_of_cond 7 Tryz.f7 rfl rfl rfl rfl rfl rfl rfl ⟨rfl, rfl, rfl, rfl, rfl⟩ rfl rfl rfl rfl rfl (by kernel_rfl) Tryz.func7 (by kernel_rfl)
    (of_decide_eq_true (by kernel_rfl)) (by unfold Func.isWrapper; first | (rw [if_pos (by decide +kernel)]; kernel_rfl) | (rw [if_neg (by decide +kernel)]; exact ⟨rfl, rfl⟩))
    (fun os started H enc _ F => by rw [OpenClaim.pre_eq_preRow]; exact longer_lifted os started H enc F)

theorem longer_plain (f : FuncId) (fn : Func) (hf : Tryz.pinned.checked.prog.funcNamed "narrow/narrowlaw.Longer" = some f) (hfn : Tryz.pinned.checked.prog.funcs[f]? = some fn) :
    false = Tryz.pinned.checked.prog.looks [] ∧ ∀ (j : Nat) t, fn.params[j]? = some t → Tryz.pinned.checked.prog.wantsStandIn t = false := by
  obtain rfl : f = 7 := Option.some.inj ((show Tryz.prog.funcNamed "narrow/narrowlaw.Longer" = some 7 by kernel_rfl).symm.trans hf) |>.symm
  obtain rfl : fn = Tryz.f7 := (Option.some.inj (Tryz.func7.symm.trans hfn)).symm
  refine ⟨by kernel_rfl, fun j t ht => ?_⟩
  rw [Tryz.params7] at ht
  obtain rfl : t = 22 := by simpa using Array.mem_of_getElem? ht
  exact (show Tryz.prog.wantsStandIn 22 = false by kernel_rfl)

theorem longer_card : Rows.LongerCardSaid :=
  Claim7.holds_tied_plain_at .later [] _ _ _ _ longer_said (fun _ h => by cases h) (by kernel_rfl) (fun _ h => by cases h) longer_row_tie rfl ⟨rfl, rfl⟩ (by kernel_rfl) rfl longer_plain (by kernel_rfl)
#print axioms longer_card
end Go.Proofs.YtellieabhaphhaaGreatDoor
