import Derived.Test.YtellieabhaphhaaGreatDoorPFaithfulM
/-
  Faithful: every step.
-/
namespace Go.Proofs.YtellieabhaphhaaGreatDoor
open Go.RowKit

/-- One call of Graph. -/
def GraIs (s g : ByteArray) (c p : Int) : Prop := ∀ W, Calls Tryz.prog 16 #[.string s] W fun e w' => e = .returned (.tuple #[.string g, .int .i64 c, .int .i64 p]) ∧ Kp no W w'

theorem src_nil : nodM (srM ⟨#[]⟩) = [] := by kernel_rfl
theorem src_empty (s : ByteArray) (h : s.size = 0) : nodM (srM s) = [] := by
  have e : s = ⟨#[]⟩ := ByteArray.ext (Array.ext' (List.length_eq_zero_iff.1 (show s.data.toList.length = 0 from h)))
  rw [e]
  exact src_nil

theorem fai_step (s inp : ByteArray) (fuel : Int) (hs : s.size ≤ maxLen) (hi : inp.size ≤ maxLen) :
    (∃ g t u c, GraIs s g 0 0 ∧ RunIs s inp fuel t u c ∧ WlkIs g inp fuel t u c ∧ ((g.data.toList = [] ∧ s.data.toList = []) ∨ (g.data.toList ≠ [] ∧ s.data.toList ≠ []))) ∨
    (∃ e p t u c, e ≠ 0 ∧ GraIs s ⟨#[]⟩ e p ∧ RunIs s inp fuel t u c ∧ (c = e ∨ c = 1)) := by
  have hlen : s.data.toList.length = s.size := rfl
  by_cases h9 : s.size ≤ 180
  · by_cases hb : (srE s).1 = 0
    · obtain ⟨b1, b2, b3⟩ := gra_back h9 hb
      obtain ⟨hsn, hl90⟩ := src_nodes h9 hb
      have hG : GraIs s (graT (nodM (srM s))) 0 0 := fun W => ngraph_good s W h9 hb
      have hE : ((graT (nodM (srM s))).data.toList = [] ∧ s.data.toList = []) ∨ ((graT (nodM (srM s))).data.toList ≠ [] ∧ s.data.toList ≠ []) := by
        have hgl : (graT (nodM (srM s))).data.toList.length = ((nodM (srM s)).flatMap nlB).length := by rw [gra_flat]
        have hnl := (nl_len (nodM (srM s))).1
        by_cases hz : s.size = 0
        · refine .inl ⟨?_, List.length_eq_zero_iff.1 (by omega)⟩
          rw [gra_flat, src_empty s hz]
          rfl
        · refine .inr ⟨fun e => ?_, fun e => hz (by rw [← hlen, e]; rfl)⟩
          rw [e] at hgl
          have h00 : ([] : List UInt8).length = 0 := rfl
          rw [h00] at hgl
          exact src_some h9 hb hz (List.length_eq_zero_iff.1 (by omega))
      generalize graT (nodM (srM s)) = g at *
      obtain ⟨e1, e2⟩ := graE_zero g b2
      have gd := (graF_gd g).2 e2
      by_cases hg : inp.size ≤ 40 ∧ 0 ≤ fuel ∧ fuel ≤ 300
      · obtain ⟨h1, h2, h3⟩ := hg
        obtain ⟨f, rfl⟩ := Int.eq_ofNat_of_zero_le h2
        obtain ⟨F, r, hr⟩ := graF_total g inp f gd
        exact .inl ⟨g, _, _, _, hG, fun W hW => nrun_good s inp f W h1 (by omega) h9 hb hW _ b3 (by rw [← b3.1]; omega) F r hr, fun W hW => nwalk_good g inp f W h1 (by omega) b1 b2 hW F r hr, hE⟩
      · exact .inl ⟨g, _, _, _, hG, fun W _ => nrun_long s inp fuel W hi hg, fun W _ => nwalk_long g inp fuel W hi hg, hE⟩
    · by_cases hg : inp.size ≤ 40 ∧ 0 ≤ fuel ∧ fuel ≤ 300
      · exact .inr ⟨_, _, _, _, _, hb, fun W => ngraph_bad s W h9 hb, fun W _ => nrun_bad s inp fuel W hi hg h9 hb, .inl rfl⟩
      · exact .inr ⟨_, _, _, _, _, hb, fun W => ngraph_bad s W h9 hb, fun W _ => nrun_long s inp fuel W hi hg, .inr rfl⟩
  · by_cases hg : inp.size ≤ 40 ∧ 0 ≤ fuel ∧ fuel ≤ 300
    · exact .inr ⟨1, 0, _, _, 1, by decide, fun W => ngraph_long s W hs (by omega), fun W _ => nrun_big s inp fuel W hi hs hg (by omega), .inl rfl⟩
    · exact .inr ⟨1, 0, _, _, 1, by decide, fun W => ngraph_long s W hs (by omega), fun W _ => nrun_long s inp fuel W hi hg, .inl rfl⟩

set_option maxRecDepth 100000 in
set_option maxHeartbeats 6400000 in
theorem faithful_c (ao : Option Addr) (n cap : Nat) (O : Nat → OpV) (w : World) (hn : n ≤ maxLen) (hS : 0 < n → ∃ a, ao = some a ∧ Scr w a n O ∧ a.block < w.heap.size) (hok : ∀ i, i < n → OpOk (O i)) (ht : Tab w) :
    Calls Tryz.prog 6 #[.slice ao n cap] w fun e w' => e = .returned (.bool true) ∧ Kp no w w' := by
  unfold maxLen at hn
  have HAL := hide (fun W (hW : Tab W) => alive_c W hW)
  go_enter Tryz.func6, Tryz.ntmps6
  go_wp2
  go_loopg [3] n (fun k iv wr => ∃ j : Nat, j ≤ n ∧ k = n - j ∧ iv = .int .i64 j ∧ Kp no w wr)
  case atStart => exact ⟨0, Nat.zero_le _, rfl, rfl, Kp.refl _ _⟩
  case round =>
    obtain ⟨j, hj, hk, rfl, kr⟩ := hrel
    have HK := hide hk
    have HKR := hide kr
    have hT0 := ht.kp kr no_elim
    clear hk
    by_cases hlt : j < n
    · by_cases h60 : (j : Int) < 1152921504606846976
      · have d60 := decide_eq_true h60
        clear h60
        obtain ⟨a, rfl, hSc, hab⟩ := hS (by omega)
        have hSr := hSc.kp kr hab
        have hal : a.block < wr.heap.size := by have := kr.size; omega
        clear kr
        have c0 := hSr j hlt 0 (by decide)
        have c1 := hSr j hlt 1 (by decide)
        have c2 := hSr j hlt 2 (by decide)
        have c3 := hSr j hlt 3 (by decide)
        have c4 := hSr j hlt 4 (by decide)
        have c5 := hSr j hlt 5 (by decide)
        have hokj := hok j hlt
        clear hSr hS hSc hok
        generalize O j = o at *
        obtain ⟨ok, ob, oc, os, ot, ou⟩ := o
        have hos := hokj.s
        have hot := hokj.t
        have hou := hokj.u
        dsimp only at hos hot hou
        clear hokj
        simp only [OpV.cells, List.getElem?_cons_zero, List.getElem?_cons_succ, Nat.add_zero] at c0 c1 c2 c3 c4 c5
        have HHN := hide hn
        have HCL := hide (show ∀ jj v, [Value.int .i64 ok, .int .i64 ob, .int .i64 oc, .string os, .string ot, .string ou][jj]? = some v → wr.cell? ((a.add (j * 6)).add jj) = some v from fun jj v hv => by
          have hjj := (List.getElem?_eq_some_iff.1 hv).1
          simp only [List.length_cons, List.length_nil] at hjj
          rw [Deep.add_add, ← hv]
          rcases (show jj = 0 ∨ jj = 1 ∨ jj = 2 ∨ jj = 3 ∨ jj = 4 ∨ jj = 5 by omega) with rfl | rfl | rfl | rfl | rfl | rfl
          · exact c0
          · exact c1
          · exact c2
          · exact c3
          · exact c4
          · exact c5)
        clear hn hab c0 c1 c2 c3 c4 c5
        have hwrap : IntKind.i64.wrap ((j : Int) + 1) = (j : Int) + 1 := Go.IntWalk.i64_in _ (by have := HHN.out; omega)
        have HD60 := hide d60
        clear hou
        rcases fai_step os ot ob hos hot with ⟨g, t, u, c, hG, hR, hW, hE⟩ | ⟨ec, ep, t, u, c, he0, hG, hR, hc⟩
        · have HG := hide hG
          have HX := hide (fun W (hW : Tab W) => lruns_c os ot ob t u c W hR hW)
          have HY := hide (fun W (hW2 : Tab W) => lwlk_c g ot ob t u c W hW hW2)
          have hEE : (g.toList.isEmpty = true ∧ os.toList.isEmpty = true) ∨ (g.toList.isEmpty = false ∧ os.toList.isEmpty = false) := by
            rw [ByteArray.toList_eq, ByteArray.toList_eq]
            rcases hE with ⟨a1, a2⟩ | ⟨a1, a2⟩
            · exact .inl ⟨by rw [a1]; rfl, by rw [a2]; rfl⟩
            · exact .inr ⟨by rw [List.isEmpty_eq_false_iff]; exact a1, by rw [List.isEmpty_eq_false_iff]; exact a2⟩
          clear hG hR hW hE hos hot
          rcases hEE with ⟨g1, s1⟩ | ⟨g1, s1⟩
          all_goals
            go_wp2_with (refine wpList_load_gen rfl 26 (.tmp 22) rfl (a.add (j * 6)) (by simp [Act.eval]) [Value.int .i64 ok, .int .i64 ob, .int .i64 oc, .string os, .string ot, .string ou] _ HCL.out Tryz.underlying26 rfl (by kernel_rfl) ?_)
            refine (HG.out _).mono ?_
            rintro e v1 ⟨rfl, k1⟩
            have hT1 : Tab v1 := (hT0.kp (show Kp no wr _ by (repeat' (first | with_reducible exact Kp.refl _ _ | with_reducible refine Kp.alloc ?_ _ | with_reducible refine Kp.drewN ?_ _ | with_reducible refine Kp.drew ?_ | with_reducible refine Kp.setCell ?_ _ ?_ | (intro hh; first | rfl | exact .inl rfl | exact .inr rfl | (exfalso; (try dsimp only at hh); omega))))) no_elim).kp k1 no_elim
            have hO1 : Blk v1 wr.heap.size [.int .i64 ok, .int .i64 ob, .int .i64 oc, .string os, .string ot, .string ou] 26 := k1.blk (by (repeat' (first | ((with_reducible show (_ : List Value) = _); rfl) | ((with_reducible refine Blk.newAt _ _ _ ?_); first | with_reducible rfl | (simp; done)) | with_reducible refine Blk.alloc ?_ _ | with_reducible refine Blk.drewN ?_ _ | with_reducible refine Blk.drew ?_ | ((with_reducible refine Blk.other ?_ _ ?_); rotate_left; ((try dsimp only); omega)) | with_reducible refine Blk.setB (cs0 := ?_) ?_ ?_))) no_elim
            have o1 := hO1.cell 1; have o3 := hO1.cell 3; have o4 := hO1.cell 4
            simp only [List.getElem?_cons_zero, List.getElem?_cons_succ] at o1 o3 o4
            have of := hO1.frozen; have hol := hO1.lt
            go_wp2_with fail
            refine (HX.out _ (hT1.kp (by (repeat' (first | with_reducible exact Kp.refl _ _ | with_reducible refine Kp.alloc ?_ _ | with_reducible refine Kp.drewN ?_ _ | with_reducible refine Kp.drew ?_ | with_reducible refine Kp.setCell ?_ _ ?_ | (intro hh; first | rfl | exact .inl rfl | exact .inr rfl | (exfalso; (try dsimp only at hh); omega))))) no_elim)).mono ?_
            rintro e v2 ⟨rfl, k2⟩
            have hT2 : Tab v2 := (hT1.kp (show Kp no v1 _ by (repeat' (first | with_reducible exact Kp.refl _ _ | with_reducible refine Kp.alloc ?_ _ | with_reducible refine Kp.drewN ?_ _ | with_reducible refine Kp.drew ?_ | with_reducible refine Kp.setCell ?_ _ ?_ | (intro hh; first | rfl | exact .inl rfl | exact .inr rfl | (exfalso; (try dsimp only at hh); omega))))) no_elim).kp k2 no_elim
            have hO2 : Blk v2 wr.heap.size [.int .i64 ok, .int .i64 ob, .int .i64 oc, .string os, .string ot, .string ou] 26 := k2.blk (by (repeat' (first | ((with_reducible show (_ : List Value) = _); rfl) | with_reducible exact hO1 | ((with_reducible refine Blk.newAt _ _ _ ?_); first | with_reducible rfl | (simp; done)) | with_reducible refine Blk.alloc ?_ _ | with_reducible refine Blk.drewN ?_ _ | with_reducible refine Blk.drew ?_ | ((with_reducible refine Blk.other ?_ _ ?_); rotate_left; ((try dsimp only); omega)) | with_reducible refine Blk.setB (cs0 := ?_) ?_ ?_))) no_elim
            clear o1 o3 o4 of hol
            have o1 := hO2.cell 1; have o3 := hO2.cell 3; have o4 := hO2.cell 4
            simp only [List.getElem?_cons_zero, List.getElem?_cons_succ] at o1 o3 o4
            have of := hO2.frozen; have hol := hO2.lt
            go_wp2_with (go_at_call 18; refine (lnum_c _ _).mono ?_; rintro e w' ⟨rfl, hw⟩; obtain rfl := hw.symm)
            refine (HY.out _ (hT2.kp (by (repeat' (first | with_reducible exact Kp.refl _ _ | with_reducible refine Kp.alloc ?_ _ | with_reducible refine Kp.drewN ?_ _ | with_reducible refine Kp.drew ?_ | with_reducible refine Kp.setCell ?_ _ ?_ | (intro hh; first | rfl | exact .inl rfl | exact .inr rfl | (exfalso; (try dsimp only at hh); omega))))) no_elim)).mono ?_
            rintro e v3 ⟨rfl, k3⟩
            have hO3 : Blk v3 wr.heap.size [.int .i64 ok, .int .i64 ob, .int .i64 oc, .string os, .string ot, .string ou] 26 := k3.blk (by (repeat' (first | ((with_reducible show (_ : List Value) = _); rfl) | with_reducible exact hO2 | ((with_reducible refine Blk.newAt _ _ _ ?_); first | with_reducible rfl | (simp; done)) | with_reducible refine Blk.alloc ?_ _ | with_reducible refine Blk.drewN ?_ _ | with_reducible refine Blk.drew ?_ | ((with_reducible refine Blk.other ?_ _ ?_); rotate_left; ((try dsimp only); omega)) | with_reducible refine Blk.setB (cs0 := ?_) ?_ ?_))) no_elim
            have hX3 : Blk v3 v2.heap.size [.string t, .string u, .int .i64 c] 31 := k3.blk (by (repeat' (first | ((with_reducible show (_ : List Value) = _); rfl) | ((with_reducible refine Blk.newAt _ _ _ ?_); first | with_reducible rfl | (simp; done)) | with_reducible refine Blk.alloc ?_ _ | with_reducible refine Blk.drewN ?_ _ | with_reducible refine Blk.drew ?_ | ((with_reducible refine Blk.other ?_ _ ?_); rotate_left; ((try dsimp only); omega)) | with_reducible refine Blk.setB (cs0 := ?_) ?_ ?_))) no_elim
            clear o1 o3 o4 of hol
            have o3 := hO3.cell 3
            simp only [List.getElem?_cons_zero, List.getElem?_cons_succ] at o3
            have of := hO3.frozen; have hol := hO3.lt
            obtain ⟨x0, x1, x2, xf⟩ := hX3.c3; have hxl := hX3.lt
            have KK := hide (show Kp no wr v3 by (repeat' (first | with_reducible exact Kp.refl _ _ | with_reducible refine Kp.alloc ?_ _ | with_reducible refine Kp.drewN ?_ _ | with_reducible refine Kp.drew ?_ | with_reducible refine Kp.setCell ?_ _ ?_ | with_reducible refine Kp.trans ?_ k1 (fun _ _ e => e) | with_reducible refine Kp.trans ?_ k2 (fun _ _ e => e) | with_reducible refine Kp.trans ?_ k3 (fun _ _ e => e) | (intro hh; first | rfl | exact .inl rfl | exact .inr rfl | (exfalso; (try dsimp only at hh); omega)))))
            clear k1 k2 k3
            go_wp2_with (go_at_call 18; refine (lnum_c _ _).mono ?_; rintro e w' ⟨rfl, hw⟩; obtain rfl := hw.symm)
            go_roundg (n - (j + 1))
            case measure => have := HK.out; omega
            case rel => exact ⟨j + 1, by omega, rfl, by go_num, HKR.out.trans (S' := no) (by have kk := KK.out; (repeat' (first | with_reducible exact Kp.refl _ _ | with_reducible refine Kp.alloc ?_ _ | with_reducible refine Kp.drewN ?_ _ | with_reducible refine Kp.drew ?_ | with_reducible refine Kp.setCell ?_ _ ?_ | with_reducible refine Kp.trans ?_ kk (fun _ _ e => e) | (intro hh; first | rfl | exact .inl rfl | exact .inr rfl | (exfalso; (try dsimp only at hh); omega))))) (fun _ _ e => e)⟩
        · have HG := hide hG
          have HX := hide (fun W (hW : Tab W) => lruns_c os ot ob t u c W hR hW)
          have e0 : ((ec : Int) == 0) = false := by simp [he0]
          have e0' : ((ec : Int) != 0) = true := by simp [he0]
          have hcs : c = ec ∨ (((c : Int) != ec) = true ∧ c = 1) := by
            by_cases h : c = ec
            · exact .inl h
            · exact .inr ⟨by simp [h], hc.resolve_left h⟩
          clear hG hR hc he0 hos hot
          rcases hcs with rfl | ⟨h1, rfl⟩
          all_goals
            go_wp2_with (refine wpList_load_gen rfl 26 (.tmp 22) rfl (a.add (j * 6)) (by simp [Act.eval]) [Value.int .i64 ok, .int .i64 ob, .int .i64 oc, .string os, .string ot, .string ou] _ HCL.out Tryz.underlying26 rfl (by kernel_rfl) ?_)
            refine (HG.out _).mono ?_
            rintro e v1 ⟨rfl, k1⟩
            have hT1 : Tab v1 := (hT0.kp (show Kp no wr _ by (repeat' (first | with_reducible exact Kp.refl _ _ | with_reducible refine Kp.alloc ?_ _ | with_reducible refine Kp.drewN ?_ _ | with_reducible refine Kp.drew ?_ | with_reducible refine Kp.setCell ?_ _ ?_ | (intro hh; first | rfl | exact .inl rfl | exact .inr rfl | (exfalso; (try dsimp only at hh); omega))))) no_elim).kp k1 no_elim
            have hO1 : Blk v1 wr.heap.size [.int .i64 ok, .int .i64 ob, .int .i64 oc, .string os, .string ot, .string ou] 26 := k1.blk (by (repeat' (first | ((with_reducible show (_ : List Value) = _); rfl) | ((with_reducible refine Blk.newAt _ _ _ ?_); first | with_reducible rfl | (simp; done)) | with_reducible refine Blk.alloc ?_ _ | with_reducible refine Blk.drewN ?_ _ | with_reducible refine Blk.drew ?_ | ((with_reducible refine Blk.other ?_ _ ?_); rotate_left; ((try dsimp only); omega)) | with_reducible refine Blk.setB (cs0 := ?_) ?_ ?_))) no_elim
            have o1 := hO1.cell 1; have o3 := hO1.cell 3; have o4 := hO1.cell 4
            simp only [List.getElem?_cons_zero, List.getElem?_cons_succ] at o1 o3 o4
            have of := hO1.frozen; have hol := hO1.lt
            go_wp2_with fail
            refine (HX.out _ (hT1.kp (by (repeat' (first | with_reducible exact Kp.refl _ _ | with_reducible refine Kp.alloc ?_ _ | with_reducible refine Kp.drewN ?_ _ | with_reducible refine Kp.drew ?_ | with_reducible refine Kp.setCell ?_ _ ?_ | (intro hh; first | rfl | exact .inl rfl | exact .inr rfl | (exfalso; (try dsimp only at hh); omega))))) no_elim)).mono ?_
            rintro e v2 ⟨rfl, k2⟩
            have hT2 : Tab v2 := (hT1.kp (show Kp no v1 _ by (repeat' (first | with_reducible exact Kp.refl _ _ | with_reducible refine Kp.alloc ?_ _ | with_reducible refine Kp.drewN ?_ _ | with_reducible refine Kp.drew ?_ | with_reducible refine Kp.setCell ?_ _ ?_ | (intro hh; first | rfl | exact .inl rfl | exact .inr rfl | (exfalso; (try dsimp only at hh); omega))))) no_elim).kp k2 no_elim
            have hO2 : Blk v2 wr.heap.size [.int .i64 ok, .int .i64 ob, .int .i64 oc, .string os, .string ot, .string ou] 26 := k2.blk (by (repeat' (first | ((with_reducible show (_ : List Value) = _); rfl) | with_reducible exact hO1 | ((with_reducible refine Blk.newAt _ _ _ ?_); first | with_reducible rfl | (simp; done)) | with_reducible refine Blk.alloc ?_ _ | with_reducible refine Blk.drewN ?_ _ | with_reducible refine Blk.drew ?_ | ((with_reducible refine Blk.other ?_ _ ?_); rotate_left; ((try dsimp only); omega)) | with_reducible refine Blk.setB (cs0 := ?_) ?_ ?_))) no_elim
            clear o1 o3 o4 of hol
            have o1 := hO2.cell 1; have o3 := hO2.cell 3; have o4 := hO2.cell 4
            simp only [List.getElem?_cons_zero, List.getElem?_cons_succ] at o1 o3 o4
            have of := hO2.frozen; have hol := hO2.lt
            have KK := hide (show Kp no wr v2 by (repeat' (first | with_reducible exact Kp.refl _ _ | with_reducible refine Kp.alloc ?_ _ | with_reducible refine Kp.drewN ?_ _ | with_reducible refine Kp.drew ?_ | with_reducible refine Kp.setCell ?_ _ ?_ | with_reducible refine Kp.trans ?_ k1 (fun _ _ e => e) | with_reducible refine Kp.trans ?_ k2 (fun _ _ e => e) | (intro hh; first | rfl | exact .inl rfl | exact .inr rfl | (exfalso; (try dsimp only at hh); omega)))))
            clear k1 k2
            go_wp2_with (go_at_call 18; refine (lnum_c _ _).mono ?_; rintro e w' ⟨rfl, hw⟩; obtain rfl := hw.symm)
            go_quiet ((go_at_call 18; exact Calls.quiet_of_same (lnum_c _ _)))
            go_wp2_with (go_at_call 18; refine (lnum_c _ _).mono ?_; rintro e w' ⟨rfl, hw⟩; obtain rfl := hw.symm)
            go_roundg (n - (j + 1))
            case measure => have := HK.out; omega
            case rel => exact ⟨j + 1, by omega, rfl, by go_num, HKR.out.trans (S' := no) (by have kk := KK.out; (repeat' (first | with_reducible exact Kp.refl _ _ | with_reducible refine Kp.alloc ?_ _ | with_reducible refine Kp.drewN ?_ _ | with_reducible refine Kp.drew ?_ | with_reducible refine Kp.setCell ?_ _ ?_ | with_reducible refine Kp.trans ?_ kk (fun _ _ e => e) | (intro hh; first | rfl | exact .inl rfl | exact .inr rfl | (exfalso; (try dsimp only at hh); omega))))) (fun _ _ e => e)⟩
      · have d60 := decide_eq_false h60
        clear h60 hS hok hn
        go_wp2_with fail
        refine (HAL.out _ hT0).mono ?_
        rintro e v1 ⟨rfl, k1⟩
        go_wp2
        go_ret
        exact ⟨rfl, HKR.out.trans k1 (fun _ _ e => e)⟩
    · have hn' := hide hn
      clear hS hok hn
      go_wp2_with fail
      refine (HAL.out _ hT0).mono ?_
      rintro e v1 ⟨rfl, k1⟩
      go_wp2
      go_ret
      exact ⟨rfl, HKR.out.trans k1 (fun _ _ e => e)⟩
end Go.Proofs.YtellieabhaphhaaGreatDoor

/-
  Faithful: the row and the card.
-/
namespace Go.Proofs.YtellieabhaphhaaGreatDoor
open Go.ChangeShapes Go.WideShapes Go.ChangeAt Go.RowKit Go.Deep

theorem pow_data : (Rows.laid_internal_strconv_uint64pow10 : DataW Unit) = Lib.tabData .u64 Lib.pow10Tab := by kernel_rfl

theorem tab_of {W : World} (h : laidMetH Tryz.prog Rows.faithfulRow.laid W) : Tab W := by
  have h1 : laidMet Tryz.prog Rows.faithfulRow.laid W := h
  obtain ⟨ps, ⟨g0, t0, cs0, f0, p0, q0, hg0, ht0, hv0, hd0, ⟨g1, t1, cs1, f1, p1, q1, hg1, ht1, hv1, hd1, ⟨g2, t2, cs2, f2, p2, q2, hg2, ht2, hv2, hd2, _, _⟩, _⟩, _⟩, _⟩ := h1
  obtain rfl := Option.some.inj (gtab.symm.trans hg2)
  obtain rfl := Option.some.inj (gT.symm.trans ht2)
  rw [pow_data] at hd2
  show Lib.TabIs _ _ _ _ _
  unfold Lib.TabIs
  rw [hv2, ← Lib.cells_of_tab Tryz.underlying211 Tryz.underlying205 c64 c20 hd2]

set_option maxRecDepth 100000 in
/-- For every script, in every world that holds the tables. -/
theorem faithful_contract (H : Type) (enc : TypeId × Value → H) (W : World) (base : Nat) (args : Array Value) (ds gs : List (DataW H)) (before : List MemPlace)
    (hval : ∀ (j : Nat) t v, Tryz.f6.params[j]? = some t → args[j]? = some v → Value.okWide Tryz.prog W .any base t v)
    (hW : DataW.Whole enc Tryz.prog Tryz.f6.params.toList Rows.faithfulSpec.vars false W args.toList ds gs before) (hL : laidMetH Tryz.prog Rows.faithfulRow.laid W) :
    Calls Tryz.prog 6 args W fun e W' => ∃ v, e = .returned v ∧ Rows.faithfulSpec.post enc Tryz.prog Tryz.f6 false true false false W args v W' := by
  have hW' := hW
  obtain ⟨p, q, hA0, hV, rfl, hfz, hnd⟩ := hW
  have hA : DataW.TrodAll enc Tryz.prog W 0 (fun _ => true) true Tryz.f6.params.toList args.toList ds p := hA0
  rw [Tryz.params6] at hA hval
  obtain ⟨v0, d0, rfl, rfl, h0⟩ := trodAll_one hA
  obtain ⟨rfl, rfl⟩ := trodVars_none hV
  obtain ⟨ao, len, cap, rfl⟩ := okWide_slice Tryz.underlying22 (hval 0 22 v0 rfl rfl)
  have walk : Calls Tryz.prog 6 #[.slice ao len cap] W fun e w' => e = .returned (.bool true) ∧ Kp no W w' := by
    rcases (script_open h0).1 with rfl | ⟨a, O, rfl, hl, hb, hS, hO⟩
    · exact faithful_c ao 0 cap (fun _ => ⟨0, 0, 0, (⟨#[]⟩ : ByteArray), (⟨#[]⟩ : ByteArray), (⟨#[]⟩ : ByteArray)⟩) W (Nat.zero_le _) (fun h => absurd h (by decide)) (fun i h => absurd h (Nat.not_lt_zero i)) (tab_of hL)
    · exact faithful_c (some a) len cap O W hl (fun _ => ⟨a, rfl, hS, hb⟩) hO (tab_of hL)
  have hsh := (script_open h0).2
  refine walk.mono fun e W' ⟨he, k⟩ => ?_
  subst he
  have hold : ∀ q ∈ p, (fun b => decide (b < W.heap.size)) q.block = true := fun q hq => by simpa using hW'.lt q (by simpa using hq)
  refine ⟨_, rfl, [d0], [], p ++ [], [], p, [], hW', ?_, ?_, ?_, ?_, fun h => by cases h⟩
  · exact trodAll_mk1 (shut_bool Tryz.underlying4 _)
  · exact trodAll_mk1 (hsh W' k _ hold)
  · first | exact rfl | exact ⟨rfl, rfl⟩
  · exact Kp.keptBut k _
end Go.Proofs.YtellieabhaphhaaGreatDoor

/-
  Faithful: the card.
-/
namespace Go.Proofs.YtellieabhaphhaaGreatDoor
open Go.ChangeShapes Go.WideShapes Go.ChangeAt Go.RowKit Go.Deep

/-- A block that holds other cells. -/
def lay1 (c : Array Value) : Obj → Obj
  | .cells _ t frozen => .cells c t frozen
  | o => o

theorem laid_met (os : Os) : laidMet Tryz.prog Rows.faithfulRow.laid (({ World.holding Tryz.prog os ⟨#[], #[], []⟩ with heap := (((World.holding Tryz.prog os ⟨#[], #[], []⟩).heap.modify 0 (lay1 #[.int .u64 1, .int .u64 10, .int .u64 100, .int .u64 1000, .int .u64 10000, .int .u64 100000, .int .u64 1000000, .int .u64 10000000, .int .u64 100000000, .int .u64 1000000000, .int .u64 10000000000, .int .u64 100000000000, .int .u64 1000000000000, .int .u64 10000000000000, .int .u64 100000000000000, .int .u64 1000000000000000, .int .u64 10000000000000000, .int .u64 100000000000000000, .int .u64 1000000000000000000, .int .u64 10000000000000000000])).modify 1 (lay1 #[.int .u8 0, .int .u8 1, .int .u8 28, .int .u8 2, .int .u8 29, .int .u8 14, .int .u8 24, .int .u8 3, .int .u8 30, .int .u8 22, .int .u8 20, .int .u8 15, .int .u8 25, .int .u8 17, .int .u8 4, .int .u8 8, .int .u8 31, .int .u8 27, .int .u8 13, .int .u8 23, .int .u8 21, .int .u8 19, .int .u8 16, .int .u8 7, .int .u8 26, .int .u8 12, .int .u8 18, .int .u8 6, .int .u8 11, .int .u8 5, .int .u8 10, .int .u8 9])).modify 2 (lay1 #[.int .u8 0, .int .u8 1, .int .u8 56, .int .u8 2, .int .u8 57, .int .u8 49, .int .u8 28, .int .u8 3, .int .u8 61, .int .u8 58, .int .u8 42, .int .u8 50, .int .u8 38, .int .u8 29, .int .u8 17, .int .u8 4, .int .u8 62, .int .u8 47, .int .u8 59, .int .u8 36, .int .u8 45, .int .u8 43, .int .u8 51, .int .u8 22, .int .u8 53, .int .u8 39, .int .u8 33, .int .u8 30, .int .u8 24, .int .u8 18, .int .u8 12, .int .u8 5, .int .u8 63, .int .u8 55, .int .u8 48, .int .u8 27, .int .u8 60, .int .u8 41, .int .u8 37, .int .u8 16, .int .u8 46, .int .u8 35, .int .u8 44, .int .u8 21, .int .u8 52, .int .u8 32, .int .u8 23, .int .u8 11, .int .u8 54, .int .u8 26, .int .u8 40, .int .u8 15, .int .u8 34, .int .u8 20, .int .u8 31, .int .u8 10, .int .u8 25, .int .u8 14, .int .u8 19, .int .u8 9, .int .u8 13, .int .u8 8, .int .u8 7, .int .u8 6]) } : World).forCall (fun _ _ => 0) ⟨#[], #[.slice none 0 0], []⟩).memory :=
  laidMet_of_run' 8 (by kernel_rfl) (by kernel_rfl)

theorem faithful_reads (os : Os) {H : Type} (enc : TypeId × Value → H) : ∃ places, DataW.whole enc Tryz.prog (({ World.holding Tryz.prog os ⟨#[], #[], []⟩ with heap := (((World.holding Tryz.prog os ⟨#[], #[], []⟩).heap.modify 0 (lay1 #[.int .u64 1, .int .u64 10, .int .u64 100, .int .u64 1000, .int .u64 10000, .int .u64 100000, .int .u64 1000000, .int .u64 10000000, .int .u64 100000000, .int .u64 1000000000, .int .u64 10000000000, .int .u64 100000000000, .int .u64 1000000000000, .int .u64 10000000000000, .int .u64 100000000000000, .int .u64 1000000000000000, .int .u64 10000000000000000, .int .u64 100000000000000000, .int .u64 1000000000000000000, .int .u64 10000000000000000000])).modify 1 (lay1 #[.int .u8 0, .int .u8 1, .int .u8 28, .int .u8 2, .int .u8 29, .int .u8 14, .int .u8 24, .int .u8 3, .int .u8 30, .int .u8 22, .int .u8 20, .int .u8 15, .int .u8 25, .int .u8 17, .int .u8 4, .int .u8 8, .int .u8 31, .int .u8 27, .int .u8 13, .int .u8 23, .int .u8 21, .int .u8 19, .int .u8 16, .int .u8 7, .int .u8 26, .int .u8 12, .int .u8 18, .int .u8 6, .int .u8 11, .int .u8 5, .int .u8 10, .int .u8 9])).modify 2 (lay1 #[.int .u8 0, .int .u8 1, .int .u8 56, .int .u8 2, .int .u8 57, .int .u8 49, .int .u8 28, .int .u8 3, .int .u8 61, .int .u8 58, .int .u8 42, .int .u8 50, .int .u8 38, .int .u8 29, .int .u8 17, .int .u8 4, .int .u8 62, .int .u8 47, .int .u8 59, .int .u8 36, .int .u8 45, .int .u8 43, .int .u8 51, .int .u8 22, .int .u8 53, .int .u8 39, .int .u8 33, .int .u8 30, .int .u8 24, .int .u8 18, .int .u8 12, .int .u8 5, .int .u8 63, .int .u8 55, .int .u8 48, .int .u8 27, .int .u8 60, .int .u8 41, .int .u8 37, .int .u8 16, .int .u8 46, .int .u8 35, .int .u8 44, .int .u8 21, .int .u8 52, .int .u8 32, .int .u8 23, .int .u8 11, .int .u8 54, .int .u8 26, .int .u8 40, .int .u8 15, .int .u8 34, .int .u8 20, .int .u8 31, .int .u8 10, .int .u8 25, .int .u8 14, .int .u8 19, .int .u8 9, .int .u8 13, .int .u8 8, .int .u8 7, .int .u8 6]) } : World).forCall (fun _ _ => 0) ⟨#[], #[.slice none 0 0], []⟩).memory Tryz.f6.params.toList Rows.faithfulSpec.vars false #[Value.slice none 0 0].toList 8 = some ([.nil], [], places) :=
  ⟨[], by kernel_rfl⟩

set_option maxRecDepth 100000 in
theorem faithful_lifted (os : Os) (started : os.Started) (H : Type) (enc : TypeId × Value → H) (F : Stop.Interp) :
    ReturnsInHanded {} Tryz.checked os 6 .any ((OpenSpec.ofChange Rows.faithfulSpec).preRow enc Tryz.prog Tryz.f6 Rows.faithfulRow.domain false Rows.faithfulRow.laid) (((OpenSpec.ofChange Rows.faithfulSpec).at F).post enc Tryz.prog Tryz.f6 false true false false) := by
  obtain ⟨places, hx⟩ := faithful_reads os enc
  refine returnsInHanded_of_row (C := Tryz.checked) (s := OpenSpec.ofChange Rows.faithfulSpec) own started (by kernel_rfl) Tryz.func6
    (witness_row_at (enc := enc) (C := Tryz.checked) false ({ World.holding Tryz.prog os ⟨#[], #[], []⟩ with heap := (((World.holding Tryz.prog os ⟨#[], #[], []⟩).heap.modify 0 (lay1 #[.int .u64 1, .int .u64 10, .int .u64 100, .int .u64 1000, .int .u64 10000, .int .u64 100000, .int .u64 1000000, .int .u64 10000000, .int .u64 100000000, .int .u64 1000000000, .int .u64 10000000000, .int .u64 100000000000, .int .u64 1000000000000, .int .u64 10000000000000, .int .u64 100000000000000, .int .u64 1000000000000000, .int .u64 10000000000000000, .int .u64 100000000000000000, .int .u64 1000000000000000000, .int .u64 10000000000000000000])).modify 1 (lay1 #[.int .u8 0, .int .u8 1, .int .u8 28, .int .u8 2, .int .u8 29, .int .u8 14, .int .u8 24, .int .u8 3, .int .u8 30, .int .u8 22, .int .u8 20, .int .u8 15, .int .u8 25, .int .u8 17, .int .u8 4, .int .u8 8, .int .u8 31, .int .u8 27, .int .u8 13, .int .u8 23, .int .u8 21, .int .u8 19, .int .u8 16, .int .u8 7, .int .u8 26, .int .u8 12, .int .u8 18, .int .u8 6, .int .u8 11, .int .u8 5, .int .u8 10, .int .u8 9])).modify 2 (lay1 #[.int .u8 0, .int .u8 1, .int .u8 56, .int .u8 2, .int .u8 57, .int .u8 49, .int .u8 28, .int .u8 3, .int .u8 61, .int .u8 58, .int .u8 42, .int .u8 50, .int .u8 38, .int .u8 29, .int .u8 17, .int .u8 4, .int .u8 62, .int .u8 47, .int .u8 59, .int .u8 36, .int .u8 45, .int .u8 43, .int .u8 51, .int .u8 22, .int .u8 53, .int .u8 39, .int .u8 33, .int .u8 30, .int .u8 24, .int .u8 18, .int .u8 12, .int .u8 5, .int .u8 63, .int .u8 55, .int .u8 48, .int .u8 27, .int .u8 60, .int .u8 41, .int .u8 37, .int .u8 16, .int .u8 46, .int .u8 35, .int .u8 44, .int .u8 21, .int .u8 52, .int .u8 32, .int .u8 23, .int .u8 11, .int .u8 54, .int .u8 26, .int .u8 40, .int .u8 15, .int .u8 34, .int .u8 20, .int .u8 31, .int .u8 10, .int .u8 25, .int .u8 14, .int .u8 19, .int .u8 9, .int .u8 13, .int .u8 8, .int .u8 7, .int .u8 6]) } : World) #[.slice none 0 0] rfl (by kernel_rfl) (by kernel_rfl) (by kernel_rfl)
      (OpenSpec.preRow_of_cond 8 hx (by kernel_rfl) (fun k hk => by cases hk) (by kernel_rfl) (laid_met os))) ?_
  intro W base args ds gs before hval hW _ _ _ hL _ _
  exact faithful_contract H enc W base args ds gs before hval hW hL

theorem faithful_said : Rows.FaithfulSaid :=
  OpenClaim.holds_of_cond 6 Tryz.f6 rfl rfl rfl rfl rfl rfl rfl ⟨rfl, rfl, rfl, rfl, rfl⟩ rfl rfl rfl rfl rfl (by kernel_rfl) Tryz.func6 (by kernel_rfl)
    (of_decide_eq_true (by kernel_rfl)) (by unfold Func.isWrapper; first | (rw [if_pos (by decide +kernel)]; kernel_rfl) | (rw [if_neg (by decide +kernel)]; exact ⟨rfl, rfl⟩))
    (fun os started H enc _ F => by rw [OpenClaim.pre_eq_preRow]; exact faithful_lifted os started H enc F)

theorem faithful_plain (f : FuncId) (fn : Func) (hf : Tryz.pinned.checked.prog.funcNamed "narrow/narrowlaw.Faithful" = some f) (hfn : Tryz.pinned.checked.prog.funcs[f]? = some fn) :
    false = Tryz.pinned.checked.prog.looks [] ∧ ∀ (j : Nat) t, fn.params[j]? = some t → Tryz.pinned.checked.prog.wantsStandIn t = false := by
  obtain rfl : f = 6 := Option.some.inj ((show Tryz.prog.funcNamed "narrow/narrowlaw.Faithful" = some 6 by kernel_rfl).symm.trans hf) |>.symm
  obtain rfl : fn = Tryz.f6 := (Option.some.inj (Tryz.func6.symm.trans hfn)).symm
  refine ⟨by kernel_rfl, fun j t ht => ?_⟩
  rw [Tryz.params6] at ht
  obtain rfl : t = 22 := by simpa using Array.mem_of_getElem? ht
  exact (show Tryz.prog.wantsStandIn 22 = false by kernel_rfl)

theorem faithful_card : Rows.FaithfulCardSaid :=
  Claim7.holds_tied_plain_at .later [] _ _ _ _ faithful_said (fun _ h => by cases h) (by kernel_rfl) (fun _ h => by cases h) faithful_row_tie rfl ⟨rfl, rfl⟩ (by kernel_rfl) rfl faithful_plain (by kernel_rfl)
#print axioms faithful_card
end Go.Proofs.YtellieabhaphhaaGreatDoor
