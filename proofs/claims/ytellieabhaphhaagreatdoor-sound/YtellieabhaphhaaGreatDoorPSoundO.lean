import Derived.Test.YtellieabhaphhaaGreatDoorPSoundN
/-
  narrow.Prune.
-/
namespace Go.Proofs.YtellieabhaphhaaGreatDoor
open Go.RowKit

theorem ext_size {s : ByteArray} {n : Nd} (hs : s.size ≤ 900) : (s.extract n.a.toNat (n.a + n.l).toNat).size ≤ 1000 := by
  rw [ByteArray.size_extract]; omega

theorem lwN_tx {n : NN} (y o : St) (en : Int) (h : n.tx.size ≤ 1000) : (lwN n y o en).tx.size ≤ 1000 := by
  unfold lwN
  repeat' split
  · exact h
  · show (ByteArray.mk #[42]).size ≤ 1000; decide
  · show (ByteArray.mk #[42]).size ≤ 1000; decide
  · exact h

theorem kpN_ln {s : ByteArray} {T : Tbl} {n : Nd} (S : St) (hs : s.size ≤ 900) (hT : T.length ≤ 90) : Ln (kpN s T n S) := by
  have h1 := cnt_le T (lwN (encX s n) (algF n true S) (algF n false S) T.length).yes.toNat
  have h2 := cnt_le T (lwN (encX s n) (algF n true S) (algF n false S) T.length).no.toNat
  refine ⟨lwN_tx _ _ _ (ext_size hs), fun _ => ?_, fun _ => ?_⟩
  · show 0 ≤ ((cntF T _ : Nat) : Int) ∧ ((cntF T _ : Nat) : Int) < 100; omega
  · show 0 ≤ ((cntF T _ : Nat) : Int) ∧ ((cntF T _ : Nat) : Int) < 100; omega

theorem kpL_ln {s : ByteArray} {T : Tbl} {l : List Nd} (hs : s.size ≤ 900) (hT : T.length ≤ 90) : ∀ j, ∀ n ∈ kpL s T l j, Ln n
  | 0, n, hn => by simp [kpL] at hn
  | j + 1, n, hn => by
    rw [kpL, List.mem_append] at hn
    rcases hn with hn | hn
    · exact kpL_ln hs hT j n hn
    · split at hn
      · split at hn
        · simp at hn
        · obtain rfl : n = _ := by simpa using hn
          exact kpN_ln _ hs hT
      · simp at hn

set_option maxHeartbeats 1600000 in
theorem nprune_good (s : ByteArray) (w : World) (hs : s.size ≤ 900) (hb : graE s = (0, 0)) :
    Calls Tryz.prog 34 #[.string s] w fun e w' => e = .returned (.tuple #[.string (graT (kpL s (lstF (graF s).nodes) (graF s).nodes (graF s).nodes.length)), .int .i64 0]) ∧ Kp no w w' := by
  have HS := hide (nog_c s w hs)
  have hlen := (graF_inv s).2
  unfold NogPost at HS
  rw [hb] at HS
  clear hb
  generalize graF s = st at *
  go_enter Tryz.func34, Tryz.ntmps34
  go_wp2_with fail
  refine HS.out.mono ?_
  rintro e w2 ⟨v, rfl, k2, hpost⟩
  obtain ⟨hR, hO, hgd⟩ := hpost trivial
  have HL := hide (leastTable_c s v st.nodes w2 hR hlen hgd)
  have HPN := hide (fun tb W (hW : NRow W v (st.nodes.map (encX s))) hB => prunedNodes_c s v st.nodes tb (lstF st.nodes) W hW hB (lst_len _) (lst_ok _) hlen hgd)
  have HGT := hide (fun u W hW => graphText_c u (kpL s (lstF st.nodes) st.nodes st.nodes.length) W hW (Nat.le_trans (kpL_len _ _ _ _) (by omega)) (kpL_ln hs (by rw [lst_len]; exact hlen) _))
  have HRR := hide hR
  obtain ⟨a, cap, rfl⟩ := hR.shape
  rw [List.length_map] at HL HPN HRR ⊢
  clear hO hgd hpost HS hR
  go_wp2_with fail
  refine HL.out.mono ?_
  rintro e w3 ⟨tb, rfl, hB, k3⟩
  go_wp2_with fail
  refine (HPN.out tb _ (by exact k3.row HRR.out (fun _ _ => no_elim)) (by exact hB)).mono ?_
  rintro e w4 ⟨u, rfl, hu, k4⟩
  have HU := hide hu
  obtain ⟨ua, uc, rfl⟩ := hu.shape
  go_wp2_with fail
  refine (HGT.out _ _ (by exact HU.out)).mono ?_
  rintro e w5 ⟨rfl, k5⟩
  go_wp2
  go_ret2
  exact ⟨rfl, ((k2.trans k3 (fun _ _ e => e)).trans k4 (fun _ _ e => e)).trans k5 (fun _ _ e => e)⟩
end Go.Proofs.YtellieabhaphhaaGreatDoor

/-
  The example of the laws: what the calls answer at the fixed texts.
-/
namespace Go.Proofs.YtellieabhaphhaaGreatDoor
open Go.RowKit

def aS : ByteArray := ⟨#[97, 61, 63, 59, 40, 97, 58, 110, 123, 98, 61, 43, 97, 97, 59, 94, 98, 59, 125, 123, 94, 97, 59, 125, 41]⟩
def aG : ByteArray := ⟨#[91, 38, 97, 33, 98, 123, 62, 59, 125, 93]⟩
def aP : ByteArray := ⟨#[97, 61, 49, 44, 48, 49, 59, 97, 58, 110, 44, 48, 50, 44, 48, 51, 59, 94, 97, 44, 48, 52, 59, 33, 59]⟩

def an0 : Nd := { op := 63, x := 0, y := 0, v := 0, k := 0, t := 1, f := -1, a := 0, l := 3 }
def an1 : Nd := { op := 58, x := 0, y := 0, v := 0, k := 110, t := 2, f := 4, a := 5, l := 3 }
def an2 : Nd := { op := 43, x := 1, y := 0, v := 0, k := 0, t := 3, f := -1, a := 9, l := 5 }
def an3 : Nd := { op := 94, x := 0, y := 1, v := 0, k := 0, t := 5, f := -1, a := 15, l := 2 }
def an4 : Nd := { op := 94, x := 0, y := 0, v := 0, k := 0, t := 5, f := -1, a := 20, l := 2 }

theorem ali_nodes : nodM (srM aS) = [encN an0 ⟨#[97, 61, 63]⟩ 1 1, encN an1 ⟨#[97, 58, 110]⟩ 2 4, encN an2 ⟨#[98, 61, 43, 97, 97]⟩ 3 3, encN an3 ⟨#[94, 98]⟩ 5 5, encN an4 ⟨#[94, 97]⟩ 5 5] := by kernel_rfl
theorem ali_ok : srE aS = (0, 0) := by kernel_rfl
theorem ali_gok : srE aG = (0, 0) := by kernel_rfl
theorem ali_graph : graT (nodM (srM aG)) = ⟨#[97, 44, 48, 49, 44, 48, 50, 59, 98, 44, 48, 50, 44, 48, 50, 59]⟩ := by kernel_rfl
theorem ali_wk : (wkF 20 [an0, an1, an2, an3, an4] ⟨#[55]⟩ (mc0 9) 0).map (fun m => (m.out, m.e)) = some (⟨#[49, 52, 32]⟩, 8) := by kernel_rfl
theorem ali_pok : graE aP = (0, 0) := by kernel_rfl

def aT : Tbl := (itF (graF aP).nodes 6 (tR (graF aP).nodes.length)).take (graF aP).nodes.length

theorem ali_lst : lstF (graF aP).nodes = aT := by
  unfold lstF aT
  rw [it_rest _ _ 6 (by kernel_rfl) 4000 (by decide)]
theorem ali_prune : graT (kpL aP aT (graF aP).nodes (graF aP).nodes.length) = ⟨#[97, 61, 49, 44, 48, 49, 59, 42, 44, 48, 50, 59, 94, 97, 44, 48, 51, 59]⟩ := by kernel_rfl
theorem ali_flow : (splB aT).size = 41 := by kernel_rfl
theorem ali_acc : (accF (graF aP).nodes).1 = 0 := by
  unfold accF
  rw [ali_lst]
  kernel_rfl

theorem ali_neq : NEq (nodM (srM aS)) [an0, an1, an2, an3, an4] := by
  rw [ali_nodes]
  refine ⟨rfl, fun i nd h => ?_⟩
  match i with
  | 0 =>
    obtain rfl : an0 = nd := by simpa using h
    exact ⟨⟨by decide, by decide, by decide, by unfold opOk; decide, by decide, fun e => absurd e (by decide), by decide⟩, _, _, _, rfl, by decide, by decide⟩
  | 1 =>
    obtain rfl : an1 = nd := by simpa using h
    exact ⟨⟨by decide, by decide, by decide, by unfold opOk; decide, by decide, fun _ => by unfold KOk; decide, by decide⟩, _, _, _, rfl, by decide, by decide⟩
  | 2 =>
    obtain rfl : an2 = nd := by simpa using h
    exact ⟨⟨by decide, by decide, by decide, by unfold opOk; decide, by decide, fun e => absurd e (by decide), by decide⟩, _, _, _, rfl, by decide, by decide⟩
  | 3 =>
    obtain rfl : an3 = nd := by simpa using h
    exact ⟨⟨by decide, by decide, by decide, by unfold opOk; decide, by decide, fun e => absurd e (by decide), by decide⟩, _, _, _, rfl, by decide, by decide⟩
  | 4 =>
    obtain rfl : an4 = nd := by simpa using h
    exact ⟨⟨by decide, by decide, by decide, by unfold opOk; decide, by decide, fun e => absurd e (by decide), by decide⟩, _, _, _, rfl, by decide, by decide⟩
  | i + 5 => simp at h

theorem ali_run (w : World) (ht : Tab w) : Calls Tryz.prog 32 #[.string aS, .string ⟨#[55]⟩, .int .i64 9] w fun e w' => (∃ t, e = .returned (.tuple #[.string t, .string ⟨#[49, 52, 32]⟩, .int .i64 0])) ∧ Kp no w w' := by
  have h := ali_wk
  cases hm : wkF 20 [an0, an1, an2, an3, an4] ⟨#[55]⟩ (mc0 9) 0 with
  | none => rw [hm] at h; cases h
  | some mc' =>
    rw [hm] at h
    simp only [Option.map_some, Option.some.injEq, Prod.mk.injEq] at h
    refine (nrun_good aS ⟨#[55]⟩ 9 w (by decide) (by decide) (by decide) (by rw [ali_ok]) ht _ ali_neq (by decide) 20 mc' hm).mono ?_
    rintro e w' ⟨rfl, k⟩
    rw [h.1, h.2]
    exact ⟨⟨_, rfl⟩, k⟩

theorem ali_graphc (w : World) : Calls Tryz.prog 16 #[.string aG] w fun e w' => e = .returned (.tuple #[.string ⟨#[97, 44, 48, 49, 44, 48, 50, 59, 98, 44, 48, 50, 44, 48, 50, 59]⟩, .int .i64 0, .int .i64 0]) ∧ Kp no w w' := by
  have h := ngraph_good aG w (by decide) (by rw [ali_gok])
  rw [ali_graph] at h
  exact h
theorem ali_prunec (w : World) : Calls Tryz.prog 34 #[.string aP] w fun e w' => e = .returned (.tuple #[.string ⟨#[97, 61, 49, 44, 48, 49, 59, 42, 44, 48, 50, 59, 94, 97, 44, 48, 51, 59]⟩, .int .i64 0]) ∧ Kp no w w' := by
  have h := nprune_good aP w (by decide) ali_pok
  rw [ali_lst, ali_prune] at h
  exact h
theorem ali_flowc (w : World) : Calls Tryz.prog 22 #[.string aP] w fun e w' => (∃ t, t.size = 41 ∧ e = .returned (.tuple #[.string t, .int .i64 0])) ∧ Kp no w w' := by
  have h := nflow_good aP w (by decide) ali_pok
  rw [ali_lst] at h
  exact h.mono fun e w' ⟨h1, h2⟩ => ⟨⟨_, ali_flow, h1⟩, h2⟩
theorem ali_accc (w : World) : Calls Tryz.prog 27 #[.string aP] w fun e w' => (∃ p : Int, e = .returned (.tuple #[.int .i64 0, .int .i64 p])) ∧ Kp no w w' := by
  have h := naccept_good aP w (by decide) ali_pok
  rw [ali_acc] at h
  exact h.mono fun e w' ⟨h1, h2⟩ => ⟨⟨_, h1⟩, h2⟩

set_option maxRecDepth 100000 in
set_option maxHeartbeats 1600000 in
theorem alive_c (w : World) (ht : Tab w) : Calls Tryz.prog 20 #[] w fun e w' => e = .returned (.bool true) ∧ Kp no w w' := by
  have HNU := hide (fun W => lnum_c 0 W)
  go_enter Tryz.func20, Tryz.ntmps20
  go_wp2_with fail
  refine (ali_run w ht).mono ?_
  rintro e w1 ⟨⟨t1, rfl⟩, k1⟩
  go_wp2_with fail
  refine (ali_graphc _).mono ?_
  rintro e w2 ⟨rfl, k2⟩
  go_wp2_with fail
  refine (ali_prunec _).mono ?_
  rintro e w3 ⟨rfl, k3⟩
  go_wp2_with fail
  refine (ali_flowc _).mono ?_
  rintro e w4 ⟨⟨t4, ht4, rfl⟩, k4⟩
  go_wp2_with fail
  refine (ali_accc _).mono ?_
  rintro e w5 ⟨⟨p5, rfl⟩, k5⟩
  have hk := hide ((((k1.trans k2 (fun _ _ e => e)).trans k3 (fun _ _ e => e)).trans k4 (fun _ _ e => e)).trans k5 (fun _ _ e => e))
  have h4 : t4.toList.isEmpty = false := by
    rw [ByteArray.toList_eq, List.isEmpty_eq_false_iff]
    intro e
    have h0 : t4.data.toList.length = 41 := ht4
    rw [e] at h0
    exact absurd h0 (by decide)
  have h5 : ¬ t4.toList = [] := by rw [List.isEmpty_eq_false_iff] at h4; exact h4
  clear k1 k2 k3 k4 k5
  go_wp2_with (go_at_call 18; refine (HNU.out _).mono ?_; rintro e w' ⟨rfl, rfl⟩)
  go_ret
  refine ⟨?_, hk.out⟩
  simp
end Go.Proofs.YtellieabhaphhaaGreatDoor

/-
  Sound: a walk.
-/
namespace Go.Proofs.YtellieabhaphhaaGreatDoor
open Go.RowKit

set_option maxRecDepth 100000 in
set_option maxHeartbeats 6400000 in
theorem sound_L (ok ob oc : Int) (os ot ou tx ux tf : ByteArray) (cf : Int) (w : World) (ht : Tab w) (hF : FloNN os tf cf) (hX : WlkIs os ot ob tx ux 1)
    (h : 40 < ot.size ∨ ob < 0 ∨ 300 < ob ∨ 900 < os.size) :
    Calls Tryz.prog 26 #[.agg #[.int .i64 ok, .int .i64 ob, .int .i64 oc, .string os, .string ot, .string ou]] w fun e w' => e = .returned (.bool true) ∧ Kp no w w' := by
  have HF := hide hF
  have HX := hide (fun W (hW : Tab W) => lwlk_c os ot ob tx ux 1 W hX hW)
  clear hF hX
  have hcs : ((40 : Int) < ot.size) ∨ (¬ (40 : Int) < ot.size ∧ ob < 0) ∨ (¬ (40 : Int) < ot.size ∧ ¬ ob < 0 ∧ 300 < ob) ∨ (¬ (40 : Int) < ot.size ∧ ¬ ob < 0 ∧ ¬ 300 < ob ∧ (900 : Int) < os.size) := by omega
  clear h
  rcases hcs with q1 | ⟨q1, q2⟩ | ⟨q1, q2, q3⟩ | ⟨q1, q2, q3, q4⟩
  all_goals
    go_enter Tryz.func26, Tryz.ntmps26
    repeat (first | go_values | go_skip | go_guarded | go_step | go_upon)
    refine (HF.out _).mono ?_
    rintro e v1 ⟨rfl, k1⟩
    have hT1 : Tab v1 := (ht.kp (show Kp no w _ by (repeat' (first | with_reducible exact Kp.refl _ _ | with_reducible refine Kp.alloc ?_ _ | with_reducible refine Kp.drewN ?_ _ | with_reducible refine Kp.drew ?_ | with_reducible refine Kp.setCell ?_ _ ?_ | (intro hh; first | rfl | exact .inl rfl | exact .inr rfl | (exfalso; (try dsimp only at hh); omega))))) no_elim).kp k1 no_elim
    have hO1 : Blk v1 w.heap.size [.int .i64 ok, .int .i64 ob, .int .i64 oc, .string os, .string ot, .string ou] 26 := k1.blk (by (repeat' (first | ((with_reducible show (_ : List Value) = _); rfl) | ((with_reducible refine Blk.newAt _ _ _ ?_); first | with_reducible rfl | (simp; done)) | with_reducible refine Blk.alloc ?_ _ | with_reducible refine Blk.drewN ?_ _ | with_reducible refine Blk.drew ?_ | ((with_reducible refine Blk.other ?_ _ ?_); rotate_left; ((try dsimp only); omega)) | with_reducible refine Blk.setB (cs0 := ?_) ?_ ?_))) no_elim
    have o1 := hO1.cell 1; have o3 := hO1.cell 3; have o4 := hO1.cell 4
    simp only [List.getElem?_cons_zero, List.getElem?_cons_succ] at o1 o3 o4
    have of := hO1.frozen; have hol := hO1.lt
    dsimp only
    go_at_K
    repeat (first | go_values | go_skip | go_guarded | go_step | go_upon)
    refine (HX.out _ (hT1.kp (by (repeat' (first | with_reducible exact Kp.refl _ _ | with_reducible refine Kp.alloc ?_ _ | with_reducible refine Kp.drewN ?_ _ | with_reducible refine Kp.drew ?_ | with_reducible refine Kp.setCell ?_ _ ?_ | (intro hh; first | rfl | exact .inl rfl | exact .inr rfl | (exfalso; (try dsimp only at hh); omega))))) no_elim)).mono ?_
    rintro e v2 ⟨rfl, k2⟩
    have hO2 : Blk v2 w.heap.size [.int .i64 ok, .int .i64 ob, .int .i64 oc, .string os, .string ot, .string ou] 26 := k2.blk (by (repeat' (first | ((with_reducible show (_ : List Value) = _); rfl) | with_reducible exact hO1 | ((with_reducible refine Blk.newAt _ _ _ ?_); first | with_reducible rfl | (simp; done)) | with_reducible refine Blk.alloc ?_ _ | with_reducible refine Blk.drewN ?_ _ | with_reducible refine Blk.drew ?_ | ((with_reducible refine Blk.other ?_ _ ?_); rotate_left; ((try dsimp only); omega)) | with_reducible refine Blk.setB (cs0 := ?_) ?_ ?_))) no_elim
    clear o1 o3 o4 of hol
    have o1 := hO2.cell 1; have o3 := hO2.cell 3; have o4 := hO2.cell 4
    simp only [List.getElem?_cons_zero, List.getElem?_cons_succ] at o1 o3 o4
    have of := hO2.frozen; have hol := hO2.lt
    have KK := hide (show Kp no w v2 by (repeat' (first | with_reducible exact Kp.refl _ _ | with_reducible refine Kp.alloc ?_ _ | with_reducible refine Kp.drewN ?_ _ | with_reducible refine Kp.drew ?_ | with_reducible refine Kp.setCell ?_ _ ?_ | with_reducible refine Kp.trans ?_ k1 (fun _ _ e => e) | with_reducible refine Kp.trans ?_ k2 (fun _ _ e => e) | (intro hh; first | rfl | exact .inl rfl | exact .inr rfl | (exfalso; (try dsimp only at hh); omega)))))
    clear k1 k2
    dsimp only
    go_at_K
    repeat (first | go_values | go_skip | go_guarded | go_step | go_upon)
    go_ret
    exact ⟨rfl, KK.out.alloc _⟩

set_option maxRecDepth 100000 in
set_option maxHeartbeats 6400000 in
theorem sound_B (ok ob oc : Int) (os ot ou ux tf : ByteArray) (c : Int) (w : World) (ht : Tab w) (hF : FloNN os tf c) (hX : WlkIs os ot ob ⟨#[]⟩ ux c)
    (h0 : c ≠ 0) (h1 : c ≠ 1) :
    Calls Tryz.prog 26 #[.agg #[.int .i64 ok, .int .i64 ob, .int .i64 oc, .string os, .string ot, .string ou]] w fun e w' => e = .returned (.bool true) ∧ Kp no w w' := by
  have HF := hide hF
  have HX := hide (fun W (hW : Tab W) => lwlk_c os ot ob ⟨#[]⟩ ux c W hX hW)
  have e1 : ((c : Int) == 1) = false := by simp [h1]
  have e0 : ((c : Int) != 0) = true := by simp [h0]
  clear hF hX h0 h1
  go_enter Tryz.func26, Tryz.ntmps26
  repeat (first | go_values | go_skip | go_guarded | go_step | go_upon)
  refine (HF.out _).mono ?_
  rintro e v1 ⟨rfl, k1⟩
  have hT1 : Tab v1 := (ht.kp (show Kp no w _ by (repeat' (first | with_reducible exact Kp.refl _ _ | with_reducible refine Kp.alloc ?_ _ | with_reducible refine Kp.drewN ?_ _ | with_reducible refine Kp.drew ?_ | with_reducible refine Kp.setCell ?_ _ ?_ | (intro hh; first | rfl | exact .inl rfl | exact .inr rfl | (exfalso; (try dsimp only at hh); omega))))) no_elim).kp k1 no_elim
  have hO1 : Blk v1 w.heap.size [.int .i64 ok, .int .i64 ob, .int .i64 oc, .string os, .string ot, .string ou] 26 := k1.blk (by (repeat' (first | ((with_reducible show (_ : List Value) = _); rfl) | ((with_reducible refine Blk.newAt _ _ _ ?_); first | with_reducible rfl | (simp; done)) | with_reducible refine Blk.alloc ?_ _ | with_reducible refine Blk.drewN ?_ _ | with_reducible refine Blk.drew ?_ | ((with_reducible refine Blk.other ?_ _ ?_); rotate_left; ((try dsimp only); omega)) | with_reducible refine Blk.setB (cs0 := ?_) ?_ ?_))) no_elim
  have o1 := hO1.cell 1; have o3 := hO1.cell 3; have o4 := hO1.cell 4
  simp only [List.getElem?_cons_zero, List.getElem?_cons_succ] at o1 o3 o4
  have of := hO1.frozen; have hol := hO1.lt
  dsimp only
  go_at_K
  repeat (first | go_values | go_skip | go_guarded | go_step | go_upon)
  refine (HX.out _ (hT1.kp (by (repeat' (first | with_reducible exact Kp.refl _ _ | with_reducible refine Kp.alloc ?_ _ | with_reducible refine Kp.drewN ?_ _ | with_reducible refine Kp.drew ?_ | with_reducible refine Kp.setCell ?_ _ ?_ | (intro hh; first | rfl | exact .inl rfl | exact .inr rfl | (exfalso; (try dsimp only at hh); omega))))) no_elim)).mono ?_
  rintro e v2 ⟨rfl, k2⟩
  have hO2 : Blk v2 w.heap.size [.int .i64 ok, .int .i64 ob, .int .i64 oc, .string os, .string ot, .string ou] 26 := k2.blk (by (repeat' (first | ((with_reducible show (_ : List Value) = _); rfl) | with_reducible exact hO1 | ((with_reducible refine Blk.newAt _ _ _ ?_); first | with_reducible rfl | (simp; done)) | with_reducible refine Blk.alloc ?_ _ | with_reducible refine Blk.drewN ?_ _ | with_reducible refine Blk.drew ?_ | ((with_reducible refine Blk.other ?_ _ ?_); rotate_left; ((try dsimp only); omega)) | with_reducible refine Blk.setB (cs0 := ?_) ?_ ?_))) no_elim
  clear o1 o3 o4 of hol
  have o1 := hO2.cell 1; have o3 := hO2.cell 3; have o4 := hO2.cell 4
  simp only [List.getElem?_cons_zero, List.getElem?_cons_succ] at o1 o3 o4
  have of := hO2.frozen; have hol := hO2.lt
  have KK := hide (show Kp no w v2 by (repeat' (first | with_reducible exact Kp.refl _ _ | with_reducible refine Kp.alloc ?_ _ | with_reducible refine Kp.drewN ?_ _ | with_reducible refine Kp.drew ?_ | with_reducible refine Kp.setCell ?_ _ ?_ | with_reducible refine Kp.trans ?_ k1 (fun _ _ e => e) | with_reducible refine Kp.trans ?_ k2 (fun _ _ e => e) | (intro hh; first | rfl | exact .inl rfl | exact .inr rfl | (exfalso; (try dsimp only at hh); omega)))))
  clear k1 k2
  dsimp only
  go_at_K
  repeat (first | go_values | go_skip | go_guarded | go_step | go_upon)
  refine (lnum_c _ _).mono ?_
  rintro e w' ⟨rfl, hw⟩
  obtain rfl := hw.symm
  dsimp only
  go_at_K
  repeat (first | go_values | go_skip | go_guarded | go_step | go_upon)
  go_quiet ((go_at_call 18; exact Calls.quiet_of_same (lnum_c _ _)))
  repeat (first | go_values | go_skip | go_guarded | go_step | go_upon)
  go_ret
  exact ⟨by simp, (KK.out.alloc _).drewN _⟩

set_option maxRecDepth 100000 in
set_option maxHeartbeats 6400000 in
theorem sound_G (ok ob oc : Int) (os ot ou tx ux tf : ByteArray) (cx : Int) (k : Nat) (w : World) (ht : Tab w) (hF : FloNN os tf 0) (hX : WlkIs os ot ob tx ux cx) (h1 : cx ≠ 1) (hk : tx.size = 9 * k) (hb : k ≤ 1000)
    (h4 : cx = 4 → ob = k) (h0 : k = 0 → ¬ 0 < ob ∨ os.data.toList = []) (hev : ∀ i, i < k → ∀ W, Calls Tryz.prog 45 #[.string tf, .string (tx.extract (9 * i) (9 * i + 9))] W fun e w' => e = .returned (.bool true) ∧ Kp no W w') :
    Calls Tryz.prog 26 #[.agg #[.int .i64 ok, .int .i64 ob, .int .i64 oc, .string os, .string ot, .string ou]] w fun e w' => e = .returned (.bool true) ∧ Kp no w w' := by
  have HF := hide hF
  have HX := hide (fun W (hW : Tab W) => lwlk_c os ot ob tx ux cx W hX hW)
  have HEV := hide hev
  have HSZ := hide hk
  have e1 : ((cx : Int) == 1) = false := by simp [h1]
  have hm1 : (tx.size : Int) % 9 = 0 := by omega
  have hm2 : Int.tmod (tx.size : Int) 9 = 0 := by rw [Int.tmod_eq_emod_of_nonneg (by omega)]; exact hm1
  have hmx : tx.size ≤ 9000 := by omega
  have hA : (cx = 4 ∧ 0 ≤ ob ∧ ob ≤ 1000 ∧ ((tx.size : Int) != 9 * ob) = false) ∨ ((cx : Int) == 4) = false := by
    by_cases h : cx = 4
    · have := h4 h
      exact .inl ⟨h, by omega, by omega, by rw [bne_eq_false_iff_eq]; omega⟩
    · exact .inr (by simp [h])
  have hB : tx.toList.isEmpty = false ∨ (tx.toList.isEmpty = true ∧ ((¬ 0 < ob) ∨ (0 < ob ∧ os.toList.isEmpty = true))) := by
    by_cases h : k = 0
    · have he : tx.toList.isEmpty = true := by
        rw [ByteArray.toList_eq, List.isEmpty_iff]
        exact List.length_eq_zero_iff.1 (show tx.data.toList.length = 0 by have : tx.data.toList.length = tx.size := rfl; omega)
      refine .inr ⟨he, ?_⟩
      by_cases hp : 0 < ob
      · refine .inr ⟨hp, ?_⟩
        rw [ByteArray.toList_eq, List.isEmpty_iff]
        exact (h0 h).resolve_left (fun e => e hp)
      · exact .inl hp
    · refine .inl ?_
      rw [ByteArray.toList_eq, List.isEmpty_eq_false_iff]
      intro e
      have : tx.data.toList.length = tx.size := rfl
      rw [e] at this
      simp at this
      omega
  clear hF hX h1 hev hk h4 h0 hb
  rcases hA with ⟨rfl, ha1, ha2, ha3⟩ | ha
  all_goals
    rcases hB with hb1 | ⟨hb1, hb2 | ⟨hb2, hb3⟩⟩
    all_goals
      go_enter Tryz.func26, Tryz.ntmps26
      repeat (first | go_values | go_skip | go_guarded | go_step | go_upon)
      refine (HF.out _).mono ?_
      rintro e v1 ⟨rfl, k1⟩
      have hT1 : Tab v1 := (ht.kp (show Kp no w _ by (repeat' (first | with_reducible exact Kp.refl _ _ | with_reducible refine Kp.alloc ?_ _ | with_reducible refine Kp.drewN ?_ _ | with_reducible refine Kp.drew ?_ | with_reducible refine Kp.setCell ?_ _ ?_ | (intro hh; first | rfl | exact .inl rfl | exact .inr rfl | (exfalso; (try dsimp only at hh); omega))))) no_elim).kp k1 no_elim
      have hO1 : Blk v1 w.heap.size [.int .i64 ok, .int .i64 ob, .int .i64 oc, .string os, .string ot, .string ou] 26 := k1.blk (by (repeat' (first | ((with_reducible show (_ : List Value) = _); rfl) | ((with_reducible refine Blk.newAt _ _ _ ?_); first | with_reducible rfl | (simp; done)) | with_reducible refine Blk.alloc ?_ _ | with_reducible refine Blk.drewN ?_ _ | with_reducible refine Blk.drew ?_ | ((with_reducible refine Blk.other ?_ _ ?_); rotate_left; ((try dsimp only); omega)) | with_reducible refine Blk.setB (cs0 := ?_) ?_ ?_))) no_elim
      have o1 := hO1.cell 1; have o3 := hO1.cell 3; have o4 := hO1.cell 4
      simp only [List.getElem?_cons_zero, List.getElem?_cons_succ] at o1 o3 o4
      have of := hO1.frozen; have hol := hO1.lt
      dsimp only
      go_at_K
      repeat (first | go_values | go_skip | go_guarded | go_step | go_upon)
      refine (HX.out _ (hT1.kp (by (repeat' (first | with_reducible exact Kp.refl _ _ | with_reducible refine Kp.alloc ?_ _ | with_reducible refine Kp.drewN ?_ _ | with_reducible refine Kp.drew ?_ | with_reducible refine Kp.setCell ?_ _ ?_ | (intro hh; first | rfl | exact .inl rfl | exact .inr rfl | (exfalso; (try dsimp only at hh); omega))))) no_elim)).mono ?_
      rintro e v2 ⟨rfl, k2⟩
      have hO2 : Blk v2 w.heap.size [.int .i64 ok, .int .i64 ob, .int .i64 oc, .string os, .string ot, .string ou] 26 := k2.blk (by (repeat' (first | ((with_reducible show (_ : List Value) = _); rfl) | with_reducible exact hO1 | ((with_reducible refine Blk.newAt _ _ _ ?_); first | with_reducible rfl | (simp; done)) | with_reducible refine Blk.alloc ?_ _ | with_reducible refine Blk.drewN ?_ _ | with_reducible refine Blk.drew ?_ | ((with_reducible refine Blk.other ?_ _ ?_); rotate_left; ((try dsimp only); omega)) | with_reducible refine Blk.setB (cs0 := ?_) ?_ ?_))) no_elim
      clear o1 o3 o4 of hol
      have o1 := hO2.cell 1; have o3 := hO2.cell 3; have o4 := hO2.cell 4
      simp only [List.getElem?_cons_zero, List.getElem?_cons_succ] at o1 o3 o4
      have of := hO2.frozen; have hol := hO2.lt
      have KK := hide (show Kp no w v2 by (repeat' (first | with_reducible exact Kp.refl _ _ | with_reducible refine Kp.alloc ?_ _ | with_reducible refine Kp.drewN ?_ _ | with_reducible refine Kp.drew ?_ | with_reducible refine Kp.setCell ?_ _ ?_ | with_reducible refine Kp.trans ?_ k1 (fun _ _ e => e) | with_reducible refine Kp.trans ?_ k2 (fun _ _ e => e) | (intro hh; first | rfl | exact .inl rfl | exact .inr rfl | (exfalso; (try dsimp only at hh); omega)))))
      clear k1 k2
      dsimp only
      go_at_K
      repeat (first | go_values | go_skip | go_guarded | go_step | go_upon)
      refine (lnum_c _ _).mono ?_
      rintro e w' ⟨rfl, hw⟩
      obtain rfl := hw.symm
      dsimp only
      go_at_K
      repeat (first | go_values | go_skip | go_guarded | go_step | go_upon)
      go_loopg [6] k (fun gk iv wr => ∃ j q : Nat, j ≤ k ∧ q = 9 * j ∧ gk = k - j ∧ iv = .int .i64 q ∧ Blk wr v2.heap.size [.string tx, .string ux, .int .i64 _] 31 ∧ Kp no w wr)
      case atStart => exact ⟨0, 0, Nat.zero_le _, rfl, rfl, rfl, by (repeat' (first | ((with_reducible show (_ : List Value) = _); rfl) | ((with_reducible refine Blk.newAt _ _ _ ?_); first | with_reducible rfl | (simp; done)) | with_reducible refine Blk.alloc ?_ _ | with_reducible refine Blk.drewN ?_ _ | with_reducible refine Blk.drew ?_ | ((with_reducible refine Blk.other ?_ _ ?_); rotate_left; ((try dsimp only); omega)) | with_reducible refine Blk.setB (cs0 := ?_) ?_ ?_)), KK.out.alloc _⟩
      case round =>
        clear o1 o3 o4 of hol hO1 hO2 hT1
        obtain ⟨j, q, hj, hq, hkk, rfl, hxb, kr⟩ := hrel
        have HK := hide hkk
        have HKR := hide kr
        have HXB := hide hxb
        have HQ := hide hq
        obtain ⟨x0, x1, x2, xf⟩ := hxb.c3; have hxl := hxb.lt
        clear hkk kr hxb
        by_cases hlt : j < k
        · have hqs : (q : Int) < (tx.size : Int) := by have := HSZ.out; omega
          have hq9 : q + 9 ≤ tx.size := by have := HSZ.out; omega
          have HEJ := hide (HEV.out j hlt)
          rw [← hq] at HEJ
          clear hq
          repeat (first | go_values | go_skip | go_guarded | go_step | go_upon)
          refine (HEJ.out _).mono ?_
          rintro e v5 ⟨rfl, k5⟩
          have hx5 := k5.blk HXB.out no_elim
          clear x0 x1 x2 xf hxl
          obtain ⟨x0, x1, x2, xf⟩ := hx5.c3; have hxl := hx5.lt
          dsimp only
          go_at_K
          repeat (first | go_values | go_skip | go_guarded | go_step | go_upon)
          go_roundg (k - (j + 1))
          case measure => have := HK.out; omega
          case rel => exact ⟨j + 1, q + 9, by omega, by have := HQ.out; omega, rfl, by go_num, hx5, HKR.out.trans k5 (fun _ _ e => e)⟩
        · have hqs : ¬ (q : Int) < (tx.size : Int) := by have := HSZ.out; omega
          clear hq
          repeat (first | go_values | go_skip | go_guarded | go_step | go_upon)
          go_ret
          exact ⟨rfl, HKR.out⟩
end Go.Proofs.YtellieabhaphhaaGreatDoor

/-
  Sound: every step.
-/
namespace Go.Proofs.YtellieabhaphhaaGreatDoor
open Go.RowKit

theorem told_nine (a : Nat) (l : List Vl) (h : l.length = 6) : (toldB a l ++ sp).size = 9 := by
  rw [ByteArray.size_append, toldB, kindsB_size, twoB_size, h]
  rfl

theorem wkF_trsz {nds : List Nd} {inp : ByteArray} : ∀ (F : Nat) (m : Mc) (a : Int) (r : Mc), wkF F nds inp m a = some r → m.l.length = 6 → r.tr.size ≤ m.tr.size + 9 * m.left := by
  intro F
  induction F with
  | zero => intro m a r h; simp [wkF] at h
  | succ f ih =>
    intro m a r h h6
    rw [wkF_step] at h
    cases hs : wkS nds inp m a with
    | none => rw [hs] at h; simp at h
    | some o =>
      rw [hs] at h
      cases o with
      | none =>
        simp only [Option.some.injEq] at h
        subst h
        omega
      | some q =>
        obtain ⟨_, _, _, nd, xu, yu, vu, _, _, _, _, hq⟩ := wkS_cases hs
        have ht := told_nine a.toNat m.l h6
        have hs2 : (m.tr ++ toldB a.toNat m.l ++ sp).size = m.tr.size + 9 := by rw [ByteArray.append_assoc, ByteArray.size_append, ht]
        rcases hq with ⟨_, rfl⟩ | ⟨hl, ⟨_, rfl⟩ | ⟨_, rfl⟩⟩
        · rw [wkF_end h (by show (4 : Int) ≠ 8; decide)]
          show m.tr.size ≤ _
          omega
        · have := ih _ _ r h h6
          have e1 : ({ m with left := m.left - 1, tr := m.tr ++ toldB a.toNat m.l ++ sp } : Mc).tr.size = m.tr.size + 9 := hs2
          have e2 : ({ m with left := m.left - 1, tr := m.tr ++ toldB a.toNat m.l ++ sp } : Mc).left = m.left - 1 := rfl
          rw [e1, e2] at this
          omega
        · have := ih _ _ r h (doF_six h6)
          rw [(doF_to inp nd nd.x.toNat xu yu vu _).1, doF_left] at this
          have e1 : ({ m with left := m.left - 1, tr := m.tr ++ toldB a.toNat m.l ++ sp } : Mc).tr.size = m.tr.size + 9 := hs2
          have e2 : ({ m with left := m.left - 1, tr := m.tr ++ toldB a.toNat m.l ++ sp } : Mc).left = m.left - 1 := rfl
          rw [e1, e2] at this
          omega

theorem sound_t (ok ob oc : Int) (os ot ou : ByteArray) (w : World) (hos : os.size ≤ maxLen) (hot : ot.size ≤ maxLen) (ht : Tab w) :
    Calls Tryz.prog 26 #[.agg #[.int .i64 ok, .int .i64 ob, .int .i64 oc, .string os, .string ot, .string ou]] w fun e w' => e = .returned (.bool true) ∧ Kp no w w' := by
  have hfl : ∃ tf cf, FloNN os tf cf := by
    by_cases h9 : os.size ≤ 900
    · by_cases hb : (graE os).1 = 0
      · exact ⟨_, _, fun W => nflow_good os W h9 (graE_zero os hb).1⟩
      · exact ⟨_, _, fun W => nflow_bad os W h9 hb⟩
    · exact ⟨_, _, fun W => nflow_long os W hos (by omega)⟩
  obtain ⟨tf, cf, hF⟩ := hfl
  by_cases hg : ot.size ≤ 40 ∧ 0 ≤ ob ∧ ob ≤ 300
  · by_cases h9 : os.size ≤ 900
    · by_cases hb : (graE os).1 = 0
      · obtain ⟨h1, h2, h3⟩ := hg
        obtain ⟨f, rfl⟩ := Int.eq_ofNat_of_zero_le h2
        obtain ⟨e1, e2⟩ := graE_zero os hb
        have gd := (graF_gd os).2 e2
        have hl := (graF_inv os).2
        obtain ⟨F, r, hr⟩ := graF_total os ot f gd
        obtain ⟨evs, t1, t2, t3, t4, _⟩ := gra_sound gd hr
        have tt := tt_spl (lst_ok (graF os).nodes) (by rw [lst_len]; exact hl)
        have hEv : ∀ ev ∈ evs, EvT (evB ev) ev.1 ((lstF (graF os).nodes).getD ev.1 []) := fun ev he => evT_of (by have := (t2 ev he).1; omega) (t2 ev he).2.1 (t2 ev he).2.2
        have h9s : ∀ ev ∈ evs, (evB ev).size = 9 := fun ev he => (hEv ev he).sz
        have hsz : r.tr.size = 9 * evs.length := by rw [t1]; exact cat_size evs h9s
        have hbd := wkF_trsz F (mc0 f) 0 r hr rfl
        have hbd' : r.tr.size ≤ 0 + 9 * f := hbd
        have hc := wkF_codes F (mc0 f) 0 r hr rfl
        refine sound_G ok f oc os ot ou r.tr r.out _ (endE r.e) evs.length w ht (fun W => nflow_good os W h9 e1) (fun W hW => nwalk_good os ot f W h1 (by omega) h9 hb hW F r hr) ?_ hsz (by omega) ?_ ?_ ?_
        · unfold endE
          split
          · decide
          · omega
        · intro h4
          rw [t3 ((endE_4 _).1 h4)]
        · intro h0
          have hev : evs = [] := List.length_eq_zero_iff.1 h0
          by_cases hn : (graF os).nodes = []
          · exact .inr (by rw [graF_none os e2 hn])
          · refine .inl (fun hp => t4 hn (by omega) hev)
        · intro i hi W
          have hmem := List.getElem?_eq_getElem hi
          have hin := t2 evs[i] (List.getElem_mem hi)
          rw [t1, cat_ext evs i evs[i] h9s hmem]
          exact event_t _ _ (lstF (graF os).nodes) evs[i].1 _ W tt (by rw [lst_len]; exact hin.1) rfl hin.2.1.sl (hEv evs[i] (List.getElem_mem hi))
      · have hsm := graE_small os
        exact sound_B ok ob oc os ot ou ⟨#[]⟩ _ (graE os).1 w ht (fun W => nflow_bad os W h9 hb) (fun W _ => nwalk_bad os ot ob W hot hg h9 hb) (by omega) (by omega)
    · exact sound_L ok ob oc os ot ou ⟨#[]⟩ ⟨#[]⟩ tf cf w ht hF (fun W _ => nwalk_big os ot ob W hot hos hg (by omega)) (.inr (.inr (.inr (by omega))))
  · exact sound_L ok ob oc os ot ou ⟨#[]⟩ ⟨#[]⟩ tf cf w ht hF (fun W _ => nwalk_long os ot ob W hot hg) (by omega)

set_option maxRecDepth 100000 in
set_option maxHeartbeats 6400000 in
theorem sound_c (ao : Option Addr) (n cap : Nat) (O : Nat → OpV) (w : World) (hn : n ≤ maxLen) (hS : 0 < n → ∃ a, ao = some a ∧ Scr w a n O ∧ a.block < w.heap.size) (hok : ∀ i, i < n → OpOk (O i)) (ht : Tab w) :
    Calls Tryz.prog 11 #[.slice ao n cap] w fun e w' => e = .returned (.bool true) ∧ Kp no w w' := by
  unfold maxLen at hn
  have HAL := hide (fun W (hW : Tab W) => alive_c W hW)
  go_enter Tryz.func11, Tryz.ntmps11
  go_wp2
  go_loopg [3] n (fun k iv wr => ∃ j : Nat, j ≤ n ∧ k = n - j ∧ iv = .int .i64 j ∧ Kp no w wr)
  case atStart => exact ⟨0, Nat.zero_le _, rfl, rfl, Kp.refl _ _⟩
  case round =>
    obtain ⟨j, hj, hk, rfl, kr⟩ := hrel
    have HK := hide hk
    have HKR := hide kr
    have hT0 := ht.kp kr no_elim
    clear hk
    by_cases hlt : j < n
    · by_cases h60 : (j : Int) < 1152921504606846976
      · have d60 := decide_eq_true h60
        clear h60
        obtain ⟨a, rfl, hSc, hab⟩ := hS (by omega)
        have hSr := hSc.kp kr hab
        have hal : a.block < wr.heap.size := by have := kr.size; omega
        clear kr
        have c0 := hSr j hlt 0 (by decide)
        have c1 := hSr j hlt 1 (by decide)
        have c2 := hSr j hlt 2 (by decide)
        have c3 := hSr j hlt 3 (by decide)
        have c4 := hSr j hlt 4 (by decide)
        have c5 := hSr j hlt 5 (by decide)
        have hokj := hok j hlt
        clear hSr hS hSc hok
        generalize O j = o at *
        obtain ⟨ok, ob, oc, os, ot, ou⟩ := o
        have hos := hokj.s
        have hot := hokj.t
        have hou := hokj.u
        dsimp only at hos hot hou
        clear hokj
        simp only [OpV.cells, List.getElem?_cons_zero, List.getElem?_cons_succ, Nat.add_zero] at c0 c1 c2 c3 c4 c5
        have HHN := hide hn
        have HCL := hide (show ∀ jj v, [Value.int .i64 ok, .int .i64 ob, .int .i64 oc, .string os, .string ot, .string ou][jj]? = some v → wr.cell? ((a.add (j * 6)).add jj) = some v from fun jj v hv => by
          have hjj := (List.getElem?_eq_some_iff.1 hv).1
          simp only [List.length_cons, List.length_nil] at hjj
          rw [Deep.add_add, ← hv]
          rcases (show jj = 0 ∨ jj = 1 ∨ jj = 2 ∨ jj = 3 ∨ jj = 4 ∨ jj = 5 by omega) with rfl | rfl | rfl | rfl | rfl | rfl
          · exact c0
          · exact c1
          · exact c2
          · exact c3
          · exact c4
          · exact c5)
        clear hn hab c0 c1 c2 c3 c4 c5
        have hwrap : IntKind.i64.wrap ((j : Int) + 1) = (j : Int) + 1 := Go.IntWalk.i64_in _ (by have := HHN.out; omega)
        have HD60 := hide d60
        clear hou
        have HS := hide (fun W (hW : Tab W) => sound_t ok ob oc os ot ou W hos hot hW)
        clear hos hot
        go_wp2_with (refine wpList_load_gen rfl 26 (.tmp 17) rfl (a.add (j * 6)) (by simp [Act.eval]) [Value.int .i64 ok, .int .i64 ob, .int .i64 oc, .string os, .string ot, .string ou] _ HCL.out Tryz.underlying26 rfl (by kernel_rfl) ?_)
        refine (HS.out _ hT0).mono ?_
        rintro e v1 ⟨rfl, k1⟩
        go_wp2
        go_roundg (n - (j + 1))
        case measure => have := HK.out; omega
        case rel => exact ⟨j + 1, by omega, rfl, by go_num, HKR.out.trans k1 (fun _ _ e => e)⟩
      · have d60 := decide_eq_false h60
        clear h60 hS hok hn
        go_wp2_with fail
        refine (HAL.out _ hT0).mono ?_
        rintro e v1 ⟨rfl, k1⟩
        go_wp2
        go_ret
        exact ⟨rfl, HKR.out.trans k1 (fun _ _ e => e)⟩
    · have hn' := hide hn
      clear hS hok hn
      go_wp2_with fail
      refine (HAL.out _ hT0).mono ?_
      rintro e v1 ⟨rfl, k1⟩
      go_wp2
      go_ret
      exact ⟨rfl, HKR.out.trans k1 (fun _ _ e => e)⟩
end Go.Proofs.YtellieabhaphhaaGreatDoor

/-
  Sound: the row and the card.
-/
namespace Go.Proofs.YtellieabhaphhaaGreatDoor
open Go.ChangeShapes Go.WideShapes Go.ChangeAt Go.RowKit Go.Deep

theorem pow_data : (Rows.laid_internal_strconv_uint64pow10 : DataW Unit) = Lib.tabData .u64 Lib.pow10Tab := by kernel_rfl

theorem tab_of {W : World} (h : laidMetH Tryz.prog Rows.soundRow.laid W) : Tab W := by
  have h1 : laidMet Tryz.prog Rows.soundRow.laid W := h
  obtain ⟨ps, ⟨g0, t0, cs0, f0, p0, q0, hg0, ht0, hv0, hd0, ⟨g1, t1, cs1, f1, p1, q1, hg1, ht1, hv1, hd1, ⟨g2, t2, cs2, f2, p2, q2, hg2, ht2, hv2, hd2, _, _⟩, _⟩, _⟩, _⟩ := h1
  obtain rfl := Option.some.inj (gtab.symm.trans hg2)
  obtain rfl := Option.some.inj (gT.symm.trans ht2)
  rw [pow_data] at hd2
  show Lib.TabIs _ _ _ _ _
  unfold Lib.TabIs
  rw [hv2, ← Lib.cells_of_tab Tryz.underlying211 Tryz.underlying205 c64 c20 hd2]

set_option maxRecDepth 100000 in
/-- For every script, in every world that holds the tables. -/
theorem sound_contract (H : Type) (enc : TypeId × Value → H) (W : World) (base : Nat) (args : Array Value) (ds gs : List (DataW H)) (before : List MemPlace)
    (hval : ∀ (j : Nat) t v, Tryz.f11.params[j]? = some t → args[j]? = some v → Value.okWide Tryz.prog W .any base t v)
    (hW : DataW.Whole enc Tryz.prog Tryz.f11.params.toList Rows.soundSpec.vars false W args.toList ds gs before) (hL : laidMetH Tryz.prog Rows.soundRow.laid W) :
    Calls Tryz.prog 11 args W fun e W' => ∃ v, e = .returned v ∧ Rows.soundSpec.post enc Tryz.prog Tryz.f11 false true false false W args v W' := by
  have hW' := hW
  obtain ⟨p, q, hA0, hV, rfl, hfz, hnd⟩ := hW
  have hA : DataW.TrodAll enc Tryz.prog W 0 (fun _ => true) true Tryz.f11.params.toList args.toList ds p := hA0
  rw [Tryz.params11] at hA hval
  obtain ⟨v0, d0, rfl, rfl, h0⟩ := trodAll_one hA
  obtain ⟨rfl, rfl⟩ := trodVars_none hV
  obtain ⟨ao, len, cap, rfl⟩ := okWide_slice Tryz.underlying22 (hval 0 22 v0 rfl rfl)
  have walk : Calls Tryz.prog 11 #[.slice ao len cap] W fun e w' => e = .returned (.bool true) ∧ Kp no W w' := by
    rcases (script_open h0).1 with rfl | ⟨a, O, rfl, hl, hb, hS, hO⟩
    · exact sound_c ao 0 cap (fun _ => ⟨0, 0, 0, (⟨#[]⟩ : ByteArray), (⟨#[]⟩ : ByteArray), (⟨#[]⟩ : ByteArray)⟩) W (Nat.zero_le _) (fun h => absurd h (by decide)) (fun i h => absurd h (Nat.not_lt_zero i)) (tab_of hL)
    · exact sound_c (some a) len cap O W hl (fun _ => ⟨a, rfl, hS, hb⟩) hO (tab_of hL)
  have hsh := (script_open h0).2
  refine walk.mono fun e W' ⟨he, k⟩ => ?_
  subst he
  have hold : ∀ q ∈ p, (fun b => decide (b < W.heap.size)) q.block = true := fun q hq => by simpa using hW'.lt q (by simpa using hq)
  refine ⟨_, rfl, [d0], [], p ++ [], [], p, [], hW', ?_, ?_, ?_, ?_, fun h => by cases h⟩
  · exact trodAll_mk1 (shut_bool Tryz.underlying4 _)
  · exact trodAll_mk1 (hsh W' k _ hold)
  · first | exact rfl | exact ⟨rfl, rfl⟩
  · exact Kp.keptBut k _
end Go.Proofs.YtellieabhaphhaaGreatDoor

/-
  Sound: the card.
-/
namespace Go.Proofs.YtellieabhaphhaaGreatDoor
open Go.ChangeShapes Go.WideShapes Go.ChangeAt Go.RowKit Go.Deep

/-- A block that holds other cells. -/
def lay1 (c : Array Value) : Obj → Obj
  | .cells _ t frozen => .cells c t frozen
  | o => o

theorem laid_met (os : Os) : laidMet Tryz.prog Rows.soundRow.laid (({ World.holding Tryz.prog os ⟨#[], #[], []⟩ with heap := (((World.holding Tryz.prog os ⟨#[], #[], []⟩).heap.modify 0 (lay1 #[.int .u64 1, .int .u64 10, .int .u64 100, .int .u64 1000, .int .u64 10000, .int .u64 100000, .int .u64 1000000, .int .u64 10000000, .int .u64 100000000, .int .u64 1000000000, .int .u64 10000000000, .int .u64 100000000000, .int .u64 1000000000000, .int .u64 10000000000000, .int .u64 100000000000000, .int .u64 1000000000000000, .int .u64 10000000000000000, .int .u64 100000000000000000, .int .u64 1000000000000000000, .int .u64 10000000000000000000])).modify 1 (lay1 #[.int .u8 0, .int .u8 1, .int .u8 28, .int .u8 2, .int .u8 29, .int .u8 14, .int .u8 24, .int .u8 3, .int .u8 30, .int .u8 22, .int .u8 20, .int .u8 15, .int .u8 25, .int .u8 17, .int .u8 4, .int .u8 8, .int .u8 31, .int .u8 27, .int .u8 13, .int .u8 23, .int .u8 21, .int .u8 19, .int .u8 16, .int .u8 7, .int .u8 26, .int .u8 12, .int .u8 18, .int .u8 6, .int .u8 11, .int .u8 5, .int .u8 10, .int .u8 9])).modify 2 (lay1 #[.int .u8 0, .int .u8 1, .int .u8 56, .int .u8 2, .int .u8 57, .int .u8 49, .int .u8 28, .int .u8 3, .int .u8 61, .int .u8 58, .int .u8 42, .int .u8 50, .int .u8 38, .int .u8 29, .int .u8 17, .int .u8 4, .int .u8 62, .int .u8 47, .int .u8 59, .int .u8 36, .int .u8 45, .int .u8 43, .int .u8 51, .int .u8 22, .int .u8 53, .int .u8 39, .int .u8 33, .int .u8 30, .int .u8 24, .int .u8 18, .int .u8 12, .int .u8 5, .int .u8 63, .int .u8 55, .int .u8 48, .int .u8 27, .int .u8 60, .int .u8 41, .int .u8 37, .int .u8 16, .int .u8 46, .int .u8 35, .int .u8 44, .int .u8 21, .int .u8 52, .int .u8 32, .int .u8 23, .int .u8 11, .int .u8 54, .int .u8 26, .int .u8 40, .int .u8 15, .int .u8 34, .int .u8 20, .int .u8 31, .int .u8 10, .int .u8 25, .int .u8 14, .int .u8 19, .int .u8 9, .int .u8 13, .int .u8 8, .int .u8 7, .int .u8 6]) } : World).forCall (fun _ _ => 0) ⟨#[], #[.slice none 0 0], []⟩).memory :=
  laidMet_of_run' 8 (by kernel_rfl) (by kernel_rfl)

theorem sound_reads (os : Os) {H : Type} (enc : TypeId × Value → H) : ∃ places, DataW.whole enc Tryz.prog (({ World.holding Tryz.prog os ⟨#[], #[], []⟩ with heap := (((World.holding Tryz.prog os ⟨#[], #[], []⟩).heap.modify 0 (lay1 #[.int .u64 1, .int .u64 10, .int .u64 100, .int .u64 1000, .int .u64 10000, .int .u64 100000, .int .u64 1000000, .int .u64 10000000, .int .u64 100000000, .int .u64 1000000000, .int .u64 10000000000, .int .u64 100000000000, .int .u64 1000000000000, .int .u64 10000000000000, .int .u64 100000000000000, .int .u64 1000000000000000, .int .u64 10000000000000000, .int .u64 100000000000000000, .int .u64 1000000000000000000, .int .u64 10000000000000000000])).modify 1 (lay1 #[.int .u8 0, .int .u8 1, .int .u8 28, .int .u8 2, .int .u8 29, .int .u8 14, .int .u8 24, .int .u8 3, .int .u8 30, .int .u8 22, .int .u8 20, .int .u8 15, .int .u8 25, .int .u8 17, .int .u8 4, .int .u8 8, .int .u8 31, .int .u8 27, .int .u8 13, .int .u8 23, .int .u8 21, .int .u8 19, .int .u8 16, .int .u8 7, .int .u8 26, .int .u8 12, .int .u8 18, .int .u8 6, .int .u8 11, .int .u8 5, .int .u8 10, .int .u8 9])).modify 2 (lay1 #[.int .u8 0, .int .u8 1, .int .u8 56, .int .u8 2, .int .u8 57, .int .u8 49, .int .u8 28, .int .u8 3, .int .u8 61, .int .u8 58, .int .u8 42, .int .u8 50, .int .u8 38, .int .u8 29, .int .u8 17, .int .u8 4, .int .u8 62, .int .u8 47, .int .u8 59, .int .u8 36, .int .u8 45, .int .u8 43, .int .u8 51, .int .u8 22, .int .u8 53, .int .u8 39, .int .u8 33, .int .u8 30, .int .u8 24, .int .u8 18, .int .u8 12, .int .u8 5, .int .u8 63, .int .u8 55, .int .u8 48, .int .u8 27, .int .u8 60, .int .u8 41, .int .u8 37, .int .u8 16, .int .u8 46, .int .u8 35, .int .u8 44, .int .u8 21, .int .u8 52, .int .u8 32, .int .u8 23, .int .u8 11, .int .u8 54, .int .u8 26, .int .u8 40, .int .u8 15, .int .u8 34, .int .u8 20, .int .u8 31, .int .u8 10, .int .u8 25, .int .u8 14, .int .u8 19, .int .u8 9, .int .u8 13, .int .u8 8, .int .u8 7, .int .u8 6]) } : World).forCall (fun _ _ => 0) ⟨#[], #[.slice none 0 0], []⟩).memory Tryz.f11.params.toList Rows.soundSpec.vars false #[Value.slice none 0 0].toList 8 = some ([.nil], [], places) :=
  ⟨[], by kernel_rfl⟩

set_option maxRecDepth 100000 in
theorem sound_lifted (os : Os) (started : os.Started) (H : Type) (enc : TypeId × Value → H) (F : Stop.Interp) :
    ReturnsInHanded {} Tryz.checked os 11 .any ((OpenSpec.ofChange Rows.soundSpec).preRow enc Tryz.prog Tryz.f11 Rows.soundRow.domain false Rows.soundRow.laid) (((OpenSpec.ofChange Rows.soundSpec).at F).post enc Tryz.prog Tryz.f11 false true false false) := by
  obtain ⟨places, hx⟩ := sound_reads os enc
  refine returnsInHanded_of_row (C := Tryz.checked) (s := OpenSpec.ofChange Rows.soundSpec) own started (by kernel_rfl) Tryz.func11
    (witness_row_at (enc := enc) (C := Tryz.checked) false ({ World.holding Tryz.prog os ⟨#[], #[], []⟩ with heap := (((World.holding Tryz.prog os ⟨#[], #[], []⟩).heap.modify 0 (lay1 #[.int .u64 1, .int .u64 10, .int .u64 100, .int .u64 1000, .int .u64 10000, .int .u64 100000, .int .u64 1000000, .int .u64 10000000, .int .u64 100000000, .int .u64 1000000000, .int .u64 10000000000, .int .u64 100000000000, .int .u64 1000000000000, .int .u64 10000000000000, .int .u64 100000000000000, .int .u64 1000000000000000, .int .u64 10000000000000000, .int .u64 100000000000000000, .int .u64 1000000000000000000, .int .u64 10000000000000000000])).modify 1 (lay1 #[.int .u8 0, .int .u8 1, .int .u8 28, .int .u8 2, .int .u8 29, .int .u8 14, .int .u8 24, .int .u8 3, .int .u8 30, .int .u8 22, .int .u8 20, .int .u8 15, .int .u8 25, .int .u8 17, .int .u8 4, .int .u8 8, .int .u8 31, .int .u8 27, .int .u8 13, .int .u8 23, .int .u8 21, .int .u8 19, .int .u8 16, .int .u8 7, .int .u8 26, .int .u8 12, .int .u8 18, .int .u8 6, .int .u8 11, .int .u8 5, .int .u8 10, .int .u8 9])).modify 2 (lay1 #[.int .u8 0, .int .u8 1, .int .u8 56, .int .u8 2, .int .u8 57, .int .u8 49, .int .u8 28, .int .u8 3, .int .u8 61, .int .u8 58, .int .u8 42, .int .u8 50, .int .u8 38, .int .u8 29, .int .u8 17, .int .u8 4, .int .u8 62, .int .u8 47, .int .u8 59, .int .u8 36, .int .u8 45, .int .u8 43, .int .u8 51, .int .u8 22, .int .u8 53, .int .u8 39, .int .u8 33, .int .u8 30, .int .u8 24, .int .u8 18, .int .u8 12, .int .u8 5, .int .u8 63, .int .u8 55, .int .u8 48, .int .u8 27, .int .u8 60, .int .u8 41, .int .u8 37, .int .u8 16, .int .u8 46, .int .u8 35, .int .u8 44, .int .u8 21, .int .u8 52, .int .u8 32, .int .u8 23, .int .u8 11, .int .u8 54, .int .u8 26, .int .u8 40, .int .u8 15, .int .u8 34, .int .u8 20, .int .u8 31, .int .u8 10, .int .u8 25, .int .u8 14, .int .u8 19, .int .u8 9, .int .u8 13, .int .u8 8, .int .u8 7, .int .u8 6]) } : World) #[.slice none 0 0] rfl (by kernel_rfl) (by kernel_rfl) (by kernel_rfl)
      (OpenSpec.preRow_of_cond 8 hx (by kernel_rfl) (fun k hk => by cases hk) (by kernel_rfl) (laid_met os))) ?_
  intro W base args ds gs before hval hW _ _ _ hL _ _
  exact sound_contract H enc W base args ds gs before hval hW hL

theorem sound_said : Rows.SoundSaid :=
  OpenClaim.holds_of_cond 11 Tryz.f11 rfl rfl rfl rfl rfl rfl rfl ⟨rfl, rfl, rfl, rfl, rfl⟩ rfl rfl rfl rfl rfl (by kernel_rfl) Tryz.func11 (by kernel_rfl)
    (of_decide_eq_true (by kernel_rfl)) (by unfold Func.isWrapper; first | (rw [if_pos (by decide +kernel)]; kernel_rfl) | (rw [if_neg (by decide +kernel)]; exact ⟨rfl, rfl⟩))
    (fun os started H enc _ F => by rw [OpenClaim.pre_eq_preRow]; exact sound_lifted os started H enc F)

theorem sound_plain (f : FuncId) (fn : Func) (hf : Tryz.pinned.checked.prog.funcNamed "narrow/narrowlaw.Sound" = some f) (hfn : Tryz.pinned.checked.prog.funcs[f]? = some fn) :
    false = Tryz.pinned.checked.prog.looks [] ∧ ∀ (j : Nat) t, fn.params[j]? = some t → Tryz.pinned.checked.prog.wantsStandIn t = false := by
  obtain rfl : f = 11 := Option.some.inj ((show Tryz.prog.funcNamed "narrow/narrowlaw.Sound" = some 11 by kernel_rfl).symm.trans hf) |>.symm
  obtain rfl : fn = Tryz.f11 := (Option.some.inj (Tryz.func11.symm.trans hfn)).symm
  refine ⟨by kernel_rfl, fun j t ht => ?_⟩
  rw [Tryz.params11] at ht
  obtain rfl : t = 22 := by simpa using Array.mem_of_getElem? ht
  exact (show Tryz.prog.wantsStandIn 22 = false by kernel_rfl)

theorem sound_card : Rows.SoundCardSaid :=
  Claim7.holds_tied_plain_at .later [] _ _ _ _ sound_said (fun _ h => by cases h) (by kernel_rfl) (fun _ h => by cases h) sound_row_tie rfl ⟨rfl, rfl⟩ (by kernel_rfl) rfl sound_plain (by kernel_rfl)
#print axioms sound_card
end Go.Proofs.YtellieabhaphhaaGreatDoor
