import Derived.Test.YtellieabhaphhaaGreatDoorPObeysR
/-
  Obeys: every step.
-/
namespace Go.Proofs.YtellieabhaphhaaGreatDoor
open Go.RowKit

/-- A graph that is none: both say so. -/
def ObBad (s : ByteArray) (c : Int) : Prop := c ≠ 0 ∧ (∀ W, Calls Tryz.prog 22 #[.string s] W fun e w' => (∃ t, e = .returned (.tuple #[.string t, .int .i64 c])) ∧ Kp no W w') ∧
    (∀ W, Calls Tryz.prog 23 #[.string s] W fun e w' => (∃ r p, e = .returned (.tuple #[.pointer (some ⟨r, 0, none⟩), .int .i64 c, .int .i64 p])) ∧ Kp no W w')

def LinG (l : List Nd) (W : World) (e : Ending) (w' : World) : Prop :=
  ∃ r a cap, e = .returned (.tuple #[.pointer (some ⟨r, 0, none⟩), .int .i64 0, .int .i64 0]) ∧ w'.cell? ⟨r, 3, none⟩ = some (.slice a l.length cap) ∧ DRow w' (.slice a l.length cap) l ∧ r < w'.heap.size ∧ Kp no W w'

def ObGood (s t : ByteArray) (l : List Nd) : Prop := (∀ W, Calls Tryz.prog 22 #[.string s] W fun e w' => e = .returned (.tuple #[.string t, .int .i64 0]) ∧ Kp no W w') ∧
    (∀ W, Calls Tryz.prog 23 #[.string s] W fun e w' => LinG l W e w')

theorem lin_good (s : ByteArray) (hs : s.size ≤ 900) (hb : graE s = (0, 0)) (W : World) : Calls Tryz.prog 23 #[.string s] W fun e w' => LinG (graF s).nodes W e w' :=
  (lines_c s W hs).mono fun e w' h => by
    obtain ⟨r, O, h1, h2, h3, _⟩ := h
    rw [hb] at h1
    obtain ⟨a, cap, n3, hD, hrl⟩ := rp_drow h2
    exact ⟨r, a, cap, h1, n3, hD, hrl, h3⟩

theorem lin_bad (s : ByteArray) (hs : s.size ≤ 900) (W : World) : Calls Tryz.prog 23 #[.string s] W fun e w' => (∃ r p, e = .returned (.tuple #[.pointer (some ⟨r, 0, none⟩), .int .i64 (graE s).1, .int .i64 p])) ∧ Kp no W w' :=
  (lines_c s W hs).mono fun e w' h => by
    obtain ⟨r, O, h1, h2, h3, _⟩ := h
    exact ⟨⟨r, _, h1⟩, h3⟩

theorem ob_cases (s : ByteArray) (hs : s.size ≤ maxLen) : (∃ c, ObBad s c) ∨ (s.size ≤ 900 ∧ graE s = (0, 0) ∧ (∀ n ∈ (graF s).nodes, Gd s n) ∧ (graF s).bad = false ∧ ObGood s (splB (lstF (graF s).nodes)) (graF s).nodes) := by
  by_cases h9 : s.size ≤ 900
  · by_cases hb : (graE s).1 = 0
    · obtain ⟨e1, e2⟩ := graE_zero s hb
      exact .inr ⟨h9, e1, (graF_gd s).2 e2, e2, fun W => nflow_good s W h9 e1, fun W => lin_good s h9 e1 W⟩
    · exact .inl ⟨(graE s).1, by omega, fun W => (nflow_bad s W h9 hb).mono fun e w' h => ⟨⟨_, h.1⟩, h.2⟩, fun W => lin_bad s h9 W⟩
  · exact .inl ⟨1, by decide, fun W => (nflow_long s W hs (by omega)).mono fun e w' h => ⟨⟨_, h.1⟩, h.2⟩, fun W => (lines_long s W hs (by omega)).mono fun e w' h => by
      obtain ⟨⟨r, h1⟩, h2⟩ := h
      exact ⟨⟨r, 0, h1⟩, h2⟩⟩

theorem obeys_lst (s : ByteArray) (hs : s.size ≤ 900) (hg : ∀ n ∈ (graF s).nodes, Gd s n) (a : Option Addr) (cap : Nat) (W : World) (hD : DRow W (.slice a (graF s).nodes.length cap) (graF s).nodes) :
    Calls Tryz.prog 24 #[.slice a (graF s).nodes.length cap, .string (splB (lstF (graF s).nodes))] W fun e w' => e = .returned (.bool true) ∧ Kp no W w' := by
  have hl := (graF_inv s).2
  have _ := hs
  exact obeys_t a cap _ _ (lstF (graF s).nodes) W hD (lst_len _) (tt_spl (lst_ok _) (by rw [lst_len]; exact hl)) (fun n hn => (hg n hn).g)
    (fun h => by rw [h]; decide) (fun h => lst_start _ h) (fun i nd h => lst_keeps _ hl i nd h)

set_option maxRecDepth 100000 in
set_option maxHeartbeats 6400000 in
theorem obeysLaw_c (ao : Option Addr) (n cap : Nat) (O : Nat → OpV) (w : World) (hn : n ≤ maxLen) (hS : 0 < n → ∃ a, ao = some a ∧ Scr w a n O ∧ a.block < w.heap.size) (hok : ∀ i, i < n → OpOk (O i)) (ht : Tab w) :
    Calls Tryz.prog 9 #[.slice ao n cap] w fun e w' => e = .returned (.bool true) ∧ Kp no w w' := by
  unfold maxLen at hn
  have HAL := hide (fun W (hW : Tab W) => alive_c W hW)
  go_enter Tryz.func9, Tryz.ntmps9
  go_wp2
  go_loopg [3] n (fun k iv wr => ∃ j : Nat, j ≤ n ∧ k = n - j ∧ iv = .int .i64 j ∧ Kp no w wr)
  case atStart => exact ⟨0, Nat.zero_le _, rfl, rfl, Kp.refl _ _⟩
  case round =>
    obtain ⟨j, hj, hk, rfl, kr⟩ := hrel
    have HK := hide hk
    have HKR := hide kr
    have hT0 := ht.kp kr no_elim
    clear hk
    by_cases hlt : j < n
    · by_cases h60 : (j : Int) < 1152921504606846976
      · have d60 := decide_eq_true h60
        clear h60
        obtain ⟨a, rfl, hSc, hab⟩ := hS (by omega)
        have hSr := hSc.kp kr hab
        have hal : a.block < wr.heap.size := by have := kr.size; omega
        clear kr
        have c0 := hSr j hlt 0 (by decide)
        have c1 := hSr j hlt 1 (by decide)
        have c2 := hSr j hlt 2 (by decide)
        have c3 := hSr j hlt 3 (by decide)
        have c4 := hSr j hlt 4 (by decide)
        have c5 := hSr j hlt 5 (by decide)
        have hokj := hok j hlt
        clear hSr hS hSc hok
        generalize O j = o at *
        obtain ⟨ok, ob, oc, os, ot, ou⟩ := o
        have hos := hokj.s
        have hot := hokj.t
        have hou := hokj.u
        dsimp only at hos hot hou
        clear hokj
        simp only [OpV.cells, List.getElem?_cons_zero, List.getElem?_cons_succ, Nat.add_zero] at c0 c1 c2 c3 c4 c5
        have HHN := hide hn
        have HCL := hide (show ∀ jj v, [Value.int .i64 ok, .int .i64 ob, .int .i64 oc, .string os, .string ot, .string ou][jj]? = some v → wr.cell? ((a.add (j * 6)).add jj) = some v from fun jj v hv => by
          have hjj := (List.getElem?_eq_some_iff.1 hv).1
          simp only [List.length_cons, List.length_nil] at hjj
          rw [Deep.add_add, ← hv]
          rcases (show jj = 0 ∨ jj = 1 ∨ jj = 2 ∨ jj = 3 ∨ jj = 4 ∨ jj = 5 by omega) with rfl | rfl | rfl | rfl | rfl | rfl
          · exact c0
          · exact c1
          · exact c2
          · exact c3
          · exact c4
          · exact c5)
        clear hn hab c0 c1 c2 c3 c4 c5
        have hwrap : IntKind.i64.wrap ((j : Int) + 1) = (j : Int) + 1 := Go.IntWalk.i64_in _ (by have := HHN.out; omega)
        have HD60 := hide d60
        clear hot hou
        rcases ob_cases os hos with ⟨c, hc0, hF, hL⟩ | ⟨h9, hE0, hgd, _, hF, hL⟩
        · have HF := hide hF
          have HL := hide hL
          have HNU := hide (fun W => lnum_c c W)
          have hc' : ((c : Int) == 0) = false := by simp [hc0]
          clear hF hL hc0 hos
          go_wp2_with (refine wpList_load_gen rfl 26 (.tmp 23) rfl (a.add (j * 6)) (by simp [Act.eval]) [Value.int .i64 ok, .int .i64 ob, .int .i64 oc, .string os, .string ot, .string ou] _ HCL.out Tryz.underlying26 rfl (by kernel_rfl) ?_)
          refine (HF.out _).mono ?_
          rintro e v1 ⟨⟨t1, rfl⟩, k1⟩
          have hO1 : Blk v1 wr.heap.size [.int .i64 ok, .int .i64 ob, .int .i64 oc, .string os, .string ot, .string ou] 26 := k1.blk (by (repeat' (first | ((with_reducible show (_ : List Value) = _); rfl) | ((with_reducible refine Blk.newAt _ _ _ ?_); first | with_reducible rfl | (simp; done)) | with_reducible refine Blk.alloc ?_ _ | with_reducible refine Blk.drewN ?_ _ | with_reducible refine Blk.drew ?_ | ((with_reducible refine Blk.other ?_ _ ?_); rotate_left; ((try dsimp only); omega)) | with_reducible refine Blk.setB (cs0 := ?_) ?_ ?_))) no_elim
          have o3 := hO1.cell 3
          simp only [List.getElem?_cons_zero, List.getElem?_cons_succ] at o3
          have of := hO1.frozen; have hol := hO1.lt
          go_wp2_with fail
          refine (HL.out _).mono ?_
          rintro e v2 ⟨⟨r2, p2, rfl⟩, k2⟩
          go_wp2_with (go_at_call 18; refine (HNU.out _).mono ?_; rintro e w' ⟨rfl, hw⟩; obtain rfl := hw.symm)
          go_roundg (n - (j + 1))
          case measure => have := HK.out; omega
          case rel =>
            have kk := HKR.out
            exact ⟨j + 1, by omega, rfl, by go_num, by (repeat' (first | with_reducible exact Kp.refl _ _ | with_reducible refine Kp.alloc ?_ _ | with_reducible refine Kp.drewN ?_ _ | with_reducible refine Kp.drew ?_ | with_reducible refine Kp.setCell ?_ _ ?_ | with_reducible refine Kp.trans ?_ kk (fun _ _ e => e) | with_reducible refine Kp.trans ?_ k1 (fun _ _ e => e) | with_reducible refine Kp.trans ?_ k2 (fun _ _ e => e) | (intro hh; first | rfl | exact .inl rfl | exact .inr rfl | (exfalso; (try dsimp only at hh); omega))))⟩
        · have HF := hide hF
          have HL := hide hL
          have HOB := hide (fun a cap W hD => obeys_lst os h9 hgd a cap W hD)
          have HNU := hide (fun W => lnum_c 0 W)
          clear hF hL hos hE0 hgd h9
          generalize splB (lstF (graF os).nodes) = tt at *
          generalize (graF os).nodes = l at *
          go_wp2_with (refine wpList_load_gen rfl 26 (.tmp 23) rfl (a.add (j * 6)) (by simp [Act.eval]) [Value.int .i64 ok, .int .i64 ob, .int .i64 oc, .string os, .string ot, .string ou] _ HCL.out Tryz.underlying26 rfl (by kernel_rfl) ?_)
          refine (HF.out _).mono ?_
          rintro e v1 ⟨rfl, k1⟩
          have hO1 : Blk v1 wr.heap.size [.int .i64 ok, .int .i64 ob, .int .i64 oc, .string os, .string ot, .string ou] 26 := k1.blk (by (repeat' (first | ((with_reducible show (_ : List Value) = _); rfl) | ((with_reducible refine Blk.newAt _ _ _ ?_); first | with_reducible rfl | (simp; done)) | with_reducible refine Blk.alloc ?_ _ | with_reducible refine Blk.drewN ?_ _ | with_reducible refine Blk.drew ?_ | ((with_reducible refine Blk.other ?_ _ ?_); rotate_left; ((try dsimp only); omega)) | with_reducible refine Blk.setB (cs0 := ?_) ?_ ?_))) no_elim
          have o3 := hO1.cell 3
          simp only [List.getElem?_cons_zero, List.getElem?_cons_succ] at o3
          have of := hO1.frozen; have hol := hO1.lt
          go_wp2_with fail
          refine (HL.out _).mono ?_
          rintro e v2 ⟨r, ra, rc, rfl, q3, hD, hrl, k2⟩
          have HDD := hide hD
          clear hD
          go_wp2_with (go_at_call 18; refine (HNU.out _).mono ?_; rintro e w' ⟨rfl, hw⟩; obtain rfl := hw.symm)
          refine (HOB.out _ _ _ HDD.out).mono ?_
          rintro e v3 ⟨rfl, k3⟩
          go_wp2
          go_roundg (n - (j + 1))
          case measure => have := HK.out; omega
          case rel =>
            have kk := HKR.out
            exact ⟨j + 1, by omega, rfl, by go_num, by (repeat' (first | with_reducible exact Kp.refl _ _ | with_reducible refine Kp.alloc ?_ _ | with_reducible refine Kp.drewN ?_ _ | with_reducible refine Kp.drew ?_ | with_reducible refine Kp.setCell ?_ _ ?_ | with_reducible refine Kp.trans ?_ kk (fun _ _ e => e) | with_reducible refine Kp.trans ?_ k1 (fun _ _ e => e) | with_reducible refine Kp.trans ?_ k2 (fun _ _ e => e) | with_reducible refine Kp.trans ?_ k3 (fun _ _ e => e) | (intro hh; first | rfl | exact .inl rfl | exact .inr rfl | (exfalso; (try dsimp only at hh); omega))))⟩
      · have d60 := decide_eq_false h60
        clear h60 hS hok hn
        go_wp2_with fail
        refine (HAL.out _ hT0).mono ?_
        rintro e v1 ⟨rfl, k1⟩
        go_wp2
        go_ret
        exact ⟨rfl, HKR.out.trans k1 (fun _ _ e => e)⟩
    · have hn' := hide hn
      clear hS hok hn
      go_wp2_with fail
      refine (HAL.out _ hT0).mono ?_
      rintro e v1 ⟨rfl, k1⟩
      go_wp2
      go_ret
      exact ⟨rfl, HKR.out.trans k1 (fun _ _ e => e)⟩
end Go.Proofs.YtellieabhaphhaaGreatDoor

/-
  Obeys: the row and the card.
-/
namespace Go.Proofs.YtellieabhaphhaaGreatDoor
open Go.ChangeShapes Go.WideShapes Go.ChangeAt Go.RowKit Go.Deep

theorem pow_data : (Rows.laid_internal_strconv_uint64pow10 : DataW Unit) = Lib.tabData .u64 Lib.pow10Tab := by kernel_rfl

theorem tab_of {W : World} (h : laidMetH Tryz.prog Rows.obeysRow.laid W) : Tab W := by
  have h1 : laidMet Tryz.prog Rows.obeysRow.laid W := h
  obtain ⟨ps, ⟨g0, t0, cs0, f0, p0, q0, hg0, ht0, hv0, hd0, ⟨g1, t1, cs1, f1, p1, q1, hg1, ht1, hv1, hd1, ⟨g2, t2, cs2, f2, p2, q2, hg2, ht2, hv2, hd2, _, _⟩, _⟩, _⟩, _⟩ := h1
  obtain rfl := Option.some.inj (gtab.symm.trans hg2)
  obtain rfl := Option.some.inj (gT.symm.trans ht2)
  rw [pow_data] at hd2
  show Lib.TabIs _ _ _ _ _
  unfold Lib.TabIs
  rw [hv2, ← Lib.cells_of_tab Tryz.underlying211 Tryz.underlying205 c64 c20 hd2]

set_option maxRecDepth 100000 in
/-- For every script, in every world that holds the tables. -/
theorem obeys_contract (H : Type) (enc : TypeId × Value → H) (W : World) (base : Nat) (args : Array Value) (ds gs : List (DataW H)) (before : List MemPlace)
    (hval : ∀ (j : Nat) t v, Tryz.f9.params[j]? = some t → args[j]? = some v → Value.okWide Tryz.prog W .any base t v)
    (hW : DataW.Whole enc Tryz.prog Tryz.f9.params.toList Rows.obeysSpec.vars false W args.toList ds gs before) (hL : laidMetH Tryz.prog Rows.obeysRow.laid W) :
    Calls Tryz.prog 9 args W fun e W' => ∃ v, e = .returned v ∧ Rows.obeysSpec.post enc Tryz.prog Tryz.f9 false true false false W args v W' := by
  have hW' := hW
  obtain ⟨p, q, hA0, hV, rfl, hfz, hnd⟩ := hW
  have hA : DataW.TrodAll enc Tryz.prog W 0 (fun _ => true) true Tryz.f9.params.toList args.toList ds p := hA0
  rw [Tryz.params9] at hA hval
  obtain ⟨v0, d0, rfl, rfl, h0⟩ := trodAll_one hA
  obtain ⟨rfl, rfl⟩ := trodVars_none hV
  obtain ⟨ao, len, cap, rfl⟩ := okWide_slice Tryz.underlying22 (hval 0 22 v0 rfl rfl)
  have walk : Calls Tryz.prog 9 #[.slice ao len cap] W fun e w' => e = .returned (.bool true) ∧ Kp no W w' := by
    rcases (script_open h0).1 with rfl | ⟨a, O, rfl, hl, hb, hS, hO⟩
    · exact obeysLaw_c ao 0 cap (fun _ => ⟨0, 0, 0, (⟨#[]⟩ : ByteArray), (⟨#[]⟩ : ByteArray), (⟨#[]⟩ : ByteArray)⟩) W (Nat.zero_le _) (fun h => absurd h (by decide)) (fun i h => absurd h (Nat.not_lt_zero i)) (tab_of hL)
    · exact obeysLaw_c (some a) len cap O W hl (fun _ => ⟨a, rfl, hS, hb⟩) hO (tab_of hL)
  have hsh := (script_open h0).2
  refine walk.mono fun e W' ⟨he, k⟩ => ?_
  subst he
  have hold : ∀ q ∈ p, (fun b => decide (b < W.heap.size)) q.block = true := fun q hq => by simpa using hW'.lt q (by simpa using hq)
  refine ⟨_, rfl, [d0], [], p ++ [], [], p, [], hW', ?_, ?_, ?_, ?_, fun h => by cases h⟩
  · exact trodAll_mk1 (shut_bool Tryz.underlying4 _)
  · exact trodAll_mk1 (hsh W' k _ hold)
  · first | exact rfl | exact ⟨rfl, rfl⟩
  · exact Kp.keptBut k _
end Go.Proofs.YtellieabhaphhaaGreatDoor

/-
  Obeys: the card.
-/
namespace Go.Proofs.YtellieabhaphhaaGreatDoor
open Go.ChangeShapes Go.WideShapes Go.ChangeAt Go.RowKit Go.Deep

/-- A block that holds other cells. -/
def lay1 (c : Array Value) : Obj → Obj
  | .cells _ t frozen => .cells c t frozen
  | o => o

theorem laid_met (os : Os) : laidMet Tryz.prog Rows.obeysRow.laid (({ World.holding Tryz.prog os ⟨#[], #[], []⟩ with heap := (((World.holding Tryz.prog os ⟨#[], #[], []⟩).heap.modify 0 (lay1 #[.int .u64 1, .int .u64 10, .int .u64 100, .int .u64 1000, .int .u64 10000, .int .u64 100000, .int .u64 1000000, .int .u64 10000000, .int .u64 100000000, .int .u64 1000000000, .int .u64 10000000000, .int .u64 100000000000, .int .u64 1000000000000, .int .u64 10000000000000, .int .u64 100000000000000, .int .u64 1000000000000000, .int .u64 10000000000000000, .int .u64 100000000000000000, .int .u64 1000000000000000000, .int .u64 10000000000000000000])).modify 1 (lay1 #[.int .u8 0, .int .u8 1, .int .u8 28, .int .u8 2, .int .u8 29, .int .u8 14, .int .u8 24, .int .u8 3, .int .u8 30, .int .u8 22, .int .u8 20, .int .u8 15, .int .u8 25, .int .u8 17, .int .u8 4, .int .u8 8, .int .u8 31, .int .u8 27, .int .u8 13, .int .u8 23, .int .u8 21, .int .u8 19, .int .u8 16, .int .u8 7, .int .u8 26, .int .u8 12, .int .u8 18, .int .u8 6, .int .u8 11, .int .u8 5, .int .u8 10, .int .u8 9])).modify 2 (lay1 #[.int .u8 0, .int .u8 1, .int .u8 56, .int .u8 2, .int .u8 57, .int .u8 49, .int .u8 28, .int .u8 3, .int .u8 61, .int .u8 58, .int .u8 42, .int .u8 50, .int .u8 38, .int .u8 29, .int .u8 17, .int .u8 4, .int .u8 62, .int .u8 47, .int .u8 59, .int .u8 36, .int .u8 45, .int .u8 43, .int .u8 51, .int .u8 22, .int .u8 53, .int .u8 39, .int .u8 33, .int .u8 30, .int .u8 24, .int .u8 18, .int .u8 12, .int .u8 5, .int .u8 63, .int .u8 55, .int .u8 48, .int .u8 27, .int .u8 60, .int .u8 41, .int .u8 37, .int .u8 16, .int .u8 46, .int .u8 35, .int .u8 44, .int .u8 21, .int .u8 52, .int .u8 32, .int .u8 23, .int .u8 11, .int .u8 54, .int .u8 26, .int .u8 40, .int .u8 15, .int .u8 34, .int .u8 20, .int .u8 31, .int .u8 10, .int .u8 25, .int .u8 14, .int .u8 19, .int .u8 9, .int .u8 13, .int .u8 8, .int .u8 7, .int .u8 6]) } : World).forCall (fun _ _ => 0) ⟨#[], #[.slice none 0 0], []⟩).memory :=
  laidMet_of_run' 8 (by kernel_rfl) (by kernel_rfl)

theorem obeys_reads (os : Os) {H : Type} (enc : TypeId × Value → H) : ∃ places, DataW.whole enc Tryz.prog (({ World.holding Tryz.prog os ⟨#[], #[], []⟩ with heap := (((World.holding Tryz.prog os ⟨#[], #[], []⟩).heap.modify 0 (lay1 #[.int .u64 1, .int .u64 10, .int .u64 100, .int .u64 1000, .int .u64 10000, .int .u64 100000, .int .u64 1000000, .int .u64 10000000, .int .u64 100000000, .int .u64 1000000000, .int .u64 10000000000, .int .u64 100000000000, .int .u64 1000000000000, .int .u64 10000000000000, .int .u64 100000000000000, .int .u64 1000000000000000, .int .u64 10000000000000000, .int .u64 100000000000000000, .int .u64 1000000000000000000, .int .u64 10000000000000000000])).modify 1 (lay1 #[.int .u8 0, .int .u8 1, .int .u8 28, .int .u8 2, .int .u8 29, .int .u8 14, .int .u8 24, .int .u8 3, .int .u8 30, .int .u8 22, .int .u8 20, .int .u8 15, .int .u8 25, .int .u8 17, .int .u8 4, .int .u8 8, .int .u8 31, .int .u8 27, .int .u8 13, .int .u8 23, .int .u8 21, .int .u8 19, .int .u8 16, .int .u8 7, .int .u8 26, .int .u8 12, .int .u8 18, .int .u8 6, .int .u8 11, .int .u8 5, .int .u8 10, .int .u8 9])).modify 2 (lay1 #[.int .u8 0, .int .u8 1, .int .u8 56, .int .u8 2, .int .u8 57, .int .u8 49, .int .u8 28, .int .u8 3, .int .u8 61, .int .u8 58, .int .u8 42, .int .u8 50, .int .u8 38, .int .u8 29, .int .u8 17, .int .u8 4, .int .u8 62, .int .u8 47, .int .u8 59, .int .u8 36, .int .u8 45, .int .u8 43, .int .u8 51, .int .u8 22, .int .u8 53, .int .u8 39, .int .u8 33, .int .u8 30, .int .u8 24, .int .u8 18, .int .u8 12, .int .u8 5, .int .u8 63, .int .u8 55, .int .u8 48, .int .u8 27, .int .u8 60, .int .u8 41, .int .u8 37, .int .u8 16, .int .u8 46, .int .u8 35, .int .u8 44, .int .u8 21, .int .u8 52, .int .u8 32, .int .u8 23, .int .u8 11, .int .u8 54, .int .u8 26, .int .u8 40, .int .u8 15, .int .u8 34, .int .u8 20, .int .u8 31, .int .u8 10, .int .u8 25, .int .u8 14, .int .u8 19, .int .u8 9, .int .u8 13, .int .u8 8, .int .u8 7, .int .u8 6]) } : World).forCall (fun _ _ => 0) ⟨#[], #[.slice none 0 0], []⟩).memory Tryz.f9.params.toList Rows.obeysSpec.vars false #[Value.slice none 0 0].toList 8 = some ([.nil], [], places) :=
  ⟨[], by kernel_rfl⟩

set_option maxRecDepth 100000 in
theorem obeys_lifted (os : Os) (started : os.Started) (H : Type) (enc : TypeId × Value → H) (F : Stop.Interp) :
    ReturnsInHanded {} Tryz.checked os 9 .any ((OpenSpec.ofChange Rows.obeysSpec).preRow enc Tryz.prog Tryz.f9 Rows.obeysRow.domain false Rows.obeysRow.laid) (((OpenSpec.ofChange Rows.obeysSpec).at F).post enc Tryz.prog Tryz.f9 false true false false) := by
  obtain ⟨places, hx⟩ := obeys_reads os enc
  refine returnsInHanded_of_row (C := Tryz.checked) (s := OpenSpec.ofChange Rows.obeysSpec) own started (by kernel_rfl) Tryz.func9
    (witness_row_at (enc := enc) (C := Tryz.checked) false ({ World.holding Tryz.prog os ⟨#[], #[], []⟩ with heap := (((World.holding Tryz.prog os ⟨#[], #[], []⟩).heap.modify 0 (lay1 #[.int .u64 1, .int .u64 10, .int .u64 100, .int .u64 1000, .int .u64 10000, .int .u64 100000, .int .u64 1000000, .int .u64 10000000, .int .u64 100000000, .int .u64 1000000000, .int .u64 10000000000, .int .u64 100000000000, .int .u64 1000000000000, .int .u64 10000000000000, .int .u64 100000000000000, .int .u64 1000000000000000, .int .u64 10000000000000000, .int .u64 100000000000000000, .int .u64 1000000000000000000, .int .u64 10000000000000000000])).modify 1 (lay1 #[.int .u8 0, .int .u8 1, .int .u8 28, .int .u8 2, .int .u8 29, .int .u8 14, .int .u8 24, .int .u8 3, .int .u8 30, .int .u8 22, .int .u8 20, .int .u8 15, .int .u8 25, .int .u8 17, .int .u8 4, .int .u8 8, .int .u8 31, .int .u8 27, .int .u8 13, .int .u8 23, .int .u8 21, .int .u8 19, .int .u8 16, .int .u8 7, .int .u8 26, .int .u8 12, .int .u8 18, .int .u8 6, .int .u8 11, .int .u8 5, .int .u8 10, .int .u8 9])).modify 2 (lay1 #[.int .u8 0, .int .u8 1, .int .u8 56, .int .u8 2, .int .u8 57, .int .u8 49, .int .u8 28, .int .u8 3, .int .u8 61, .int .u8 58, .int .u8 42, .int .u8 50, .int .u8 38, .int .u8 29, .int .u8 17, .int .u8 4, .int .u8 62, .int .u8 47, .int .u8 59, .int .u8 36, .int .u8 45, .int .u8 43, .int .u8 51, .int .u8 22, .int .u8 53, .int .u8 39, .int .u8 33, .int .u8 30, .int .u8 24, .int .u8 18, .int .u8 12, .int .u8 5, .int .u8 63, .int .u8 55, .int .u8 48, .int .u8 27, .int .u8 60, .int .u8 41, .int .u8 37, .int .u8 16, .int .u8 46, .int .u8 35, .int .u8 44, .int .u8 21, .int .u8 52, .int .u8 32, .int .u8 23, .int .u8 11, .int .u8 54, .int .u8 26, .int .u8 40, .int .u8 15, .int .u8 34, .int .u8 20, .int .u8 31, .int .u8 10, .int .u8 25, .int .u8 14, .int .u8 19, .int .u8 9, .int .u8 13, .int .u8 8, .int .u8 7, .int .u8 6]) } : World) #[.slice none 0 0] rfl (by kernel_rfl) (by kernel_rfl) (by kernel_rfl)
      (OpenSpec.preRow_of_cond 8 hx (by kernel_rfl) (fun k hk => by cases hk) (by kernel_rfl) (laid_met os))) ?_
  intro W base args ds gs before hval hW _ _ _ hL _ _
  exact obeys_contract H enc W base args ds gs before hval hW hL

theorem obeys_said : Rows.ObeysSaid :=
  OpenClaim.holds_of_cond 9 Tryz.f9 rfl rfl rfl rfl rfl rfl rfl ⟨rfl, rfl, rfl, rfl, rfl⟩ rfl rfl rfl rfl rfl (by kernel_rfl) Tryz.func9 (by kernel_rfl)
    (of_decide_eq_true (by kernel_rfl)) (by unfold Func.isWrapper; first | (rw [if_pos (by decide +kernel)]; kernel_rfl) | (rw [if_neg (by decide +kernel)]; exact ⟨rfl, rfl⟩))
    (fun os started H enc _ F => by rw [OpenClaim.pre_eq_preRow]; exact obeys_lifted os started H enc F)

theorem obeys_plain (f : FuncId) (fn : Func) (hf : Tryz.pinned.checked.prog.funcNamed "narrow/narrowlaw.Obeys" = some f) (hfn : Tryz.pinned.checked.prog.funcs[f]? = some fn) :
    false = Tryz.pinned.checked.prog.looks [] ∧ ∀ (j : Nat) t, fn.params[j]? = some t → Tryz.pinned.checked.prog.wantsStandIn t = false := by
  obtain rfl : f = 9 := Option.some.inj ((show Tryz.prog.funcNamed "narrow/narrowlaw.Obeys" = some 9 by kernel_rfl).symm.trans hf) |>.symm
  obtain rfl : fn = Tryz.f9 := (Option.some.inj (Tryz.func9.symm.trans hfn)).symm
  refine ⟨by kernel_rfl, fun j t ht => ?_⟩
  rw [Tryz.params9] at ht
  obtain rfl : t = 22 := by simpa using Array.mem_of_getElem? ht
  exact (show Tryz.prog.wantsStandIn 22 = false by kernel_rfl)

theorem obeys_card : Rows.ObeysCardSaid :=
  Claim7.holds_tied_plain_at .later [] _ _ _ _ obeys_said (fun _ h => by cases h) (by kernel_rfl) (fun _ h => by cases h) obeys_row_tie rfl ⟨rfl, rfl⟩ (by kernel_rfl) rfl obeys_plain (by kernel_rfl)
#print axioms obeys_card
end Go.Proofs.YtellieabhaphhaaGreatDoor
