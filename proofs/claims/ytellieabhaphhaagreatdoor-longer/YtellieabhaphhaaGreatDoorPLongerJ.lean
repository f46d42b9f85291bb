import Derived.Test.YtellieabhaphhaaGreatDoorPLongerI
/-
  Plain: a graph's nodes are well made.
-/
namespace Go.Proofs.YtellieabhaphhaaGreatDoor
open Go.RowKit

theorem lineF_items (s : ByteArray) (st : RS) : (lineF s st).items = st.items := by
  simp only [lineF]; split <;> rfl

theorem lnsF_gd : ∀ (f : Nat) (s : ByteArray) (st : RS), st.bad = false → (∀ n ∈ st.nodes, Gd s n) → (lnsF f s st).items = st.items ∧ ((lnsF f s st).bad = false → ∀ n ∈ (lnsF f s st).nodes, Gd s n) := by
  intro f
  induction f with
  | zero => intro s st _ h; exact ⟨rfl, fun _ => h⟩
  | succ f ih =>
    intro s st hb h
    rw [lnsF]
    split
    · rename_i hc
      split
      · exact ⟨rfl, fun e => by cases e⟩
      · cases hb2 : (lineF s st).bad
        · obtain ⟨nd, h1, h2, _⟩ := lineF_gd s st hc.2 hb2
          have := ih s (lineF s st) hb2 (fun n hn => by
            rw [h1, List.mem_append, List.mem_singleton] at hn
            rcases hn with h' | rfl
            · exact h n h'
            · exact h2)
          exact ⟨this.1.trans (lineF_items s st), this.2⟩
        · rw [lns_stop f s (lineF s st) (by rw [hb2]; simp)]
          exact ⟨lineF_items s st, fun e => by rw [hb2] at e; cases e⟩
    · exact ⟨rfl, fun _ => h⟩

theorem graF_gd (s : ByteArray) : (graF s).items = [] ∧ ((graF s).bad = false → ∀ n ∈ (graF s).nodes, Gd s n) :=
  lnsF_gd _ s rs0 rfl (fun n hn => by simp [rs0] at hn)

theorem graE_zero (s : ByteArray) (h : (graE s).1 = 0) : graE s = (0, 0) ∧ (graF s).bad = false := by
  unfold graE at h ⊢
  split
  · rename_i hb; rw [if_pos hb] at h; simp at h
  · rename_i hb
    rw [if_neg hb] at h
    refine ⟨?_, by simpa using hb⟩
    split
    · rename_i hl; rw [hl] at h; simp at h
    · rfl
end Go.Proofs.YtellieabhaphhaaGreatDoor

/-
  Longer: its helpers.
-/
namespace Go.Proofs.YtellieabhaphhaaGreatDoor
open Go.RowKit

/-- One call of Run. -/
def RunIs (s inp : ByteArray) (fuel : Int) (t u : ByteArray) (c : Int) : Prop :=
  ∀ W, Tab W → Calls Tryz.prog 32 #[.string s, .string inp, .int .i64 fuel] W fun e w' => e = .returned (.tuple #[.string t, .string u, .int .i64 c]) ∧ Kp no W w'
/-- One call of Walk. -/
def WlkIs (s inp : ByteArray) (fuel : Int) (t u : ByteArray) (c : Int) : Prop :=
  ∀ W, Tab W → Calls Tryz.prog 33 #[.string s, .string inp, .int .i64 fuel] W fun e w' => e = .returned (.tuple #[.string t, .string u, .int .i64 c]) ∧ Kp no W w'

/-- The first with less fuel, the second with more. -/
def Fur (t u : ByteArray) (c : Int) (t' u' : ByteArray) (c' : Int) : Prop := (c ≠ 4 → t' = t ∧ u' = u ∧ c' = c) ∧ (c = 4 → Pre t t' ∧ Pre u u')
theorem Fur.refl (t u : ByteArray) (c : Int) : Fur t u c t u c := ⟨fun _ => ⟨rfl, rfl, rfl⟩, fun _ => ⟨Pre.refl _, Pre.refl _⟩⟩

theorem endE_4 (e : Int) : endE e = 4 ↔ e = 4 := by
  unfold endE
  split
  · rename_i h; subst h; decide
  · exact Iff.rfl

theorem fur_wk {F F' lo hi : Nat} {ND : List Nd} {inp : ByteArray} {r r' : Mc} (hl : lo ≤ hi) (h : wkF F ND inp (mc0 lo) 0 = some r) (h' : wkF F' ND inp (mc0 hi) 0 = some r') :
    Fur r.tr r.out (endE r.e) r'.tr r'.out (endE r'.e) := by
  obtain ⟨a, b⟩ := wkF_fuel hl h h'
  refine ⟨fun hc => ?_, fun _ => a⟩
  obtain ⟨b1, b2, b3⟩ := b (fun e => hc ((endE_4 _).2 e))
  exact ⟨b1, b2, by rw [b3]⟩

theorem runs_two (s inp : ByteArray) (lo hi : Nat) (hl : lo ≤ hi) (hh : hi ≤ 300) (hi' : inp.size ≤ 40) (hs : s.size ≤ maxLen) :
    ∃ t u c t' u' c', RunIs s inp lo t u c ∧ RunIs s inp hi t' u' c' ∧ Fur t u c t' u' c' := by
  have hm : inp.size ≤ maxLen := by unfold maxLen; omega
  by_cases h9 : s.size ≤ 180
  · by_cases hb : (srE s).1 = 0
    · obtain ⟨hsn, hlen⟩ := src_nodes h9 hb
      obtain ⟨nds, hq, hg⟩ := nds_of _ hsn
      have hnl : nds.length ≤ 90 := by rw [← hq.1]; exact hlen
      obtain ⟨r, hr⟩ := wkF_total nds inp hnl hg lo (mc0 lo) 0 rfl rfl (fun _ => Int.le_refl _)
      obtain ⟨r', hr'⟩ := wkF_total nds inp hnl hg hi (mc0 hi) 0 rfl rfl (fun _ => Int.le_refl _)
      exact ⟨_, _, _, _, _, _, fun W hW => nrun_good s inp lo W hi' (by omega) h9 hb hW nds hq (by omega) _ r hr, fun W hW => nrun_good s inp hi W hi' (by omega) h9 hb hW nds hq (by omega) _ r' hr', fur_wk hl hr hr'⟩
    · exact ⟨_, _, _, _, _, _, fun W _ => nrun_bad s inp lo W hm (by omega) h9 hb, fun W _ => nrun_bad s inp hi W hm (by omega) h9 hb, Fur.refl _ _ _⟩
  · exact ⟨_, _, _, _, _, _, fun W _ => nrun_big s inp lo W hm hs (by omega) (by omega), fun W _ => nrun_big s inp hi W hm hs (by omega) (by omega), Fur.refl _ _ _⟩

theorem lineF_nodes (s : ByteArray) (st : RS) : (lineF s st).nodes ≠ [] ∨ ((lineF s st).bad = true ∧ (lineF s st).nodes = st.nodes) := by
  unfold lineF
  split
  · exact .inr ⟨rfl, rfl⟩
  · exact .inl (by simp)

theorem lnsF_some : ∀ (f : Nat) (s : ByteArray) (st : RS), st.nodes ≠ [] → (lnsF f s st).nodes ≠ [] := by
  intro f
  induction f with
  | zero => intro s st h; exact h
  | succ f ih =>
    intro s st h
    unfold lnsF
    split
    · split
      · exact h
      · refine ih s _ ?_
        rcases lineF_nodes s st with h1 | ⟨_, h1⟩
        · exact h1
        · rw [h1]; exact h
    · exact h

theorem graF_none (s : ByteArray) (hb : (graF s).bad = false) (hn : (graF s).nodes = []) : s = ⟨#[]⟩ := by
  have h0 : s.size = 0 := by
    rcases Nat.eq_zero_or_pos s.size with h | h
    · exact h
    · exfalso
      have e : graF s = lnsF s.size s (lineF s rs0) := by
        unfold graF
        rw [lnsF, if_pos ⟨rfl, h⟩, if_neg (by decide)]
      rw [e] at hb hn
      rcases lineF_nodes s rs0 with h1 | ⟨h1, _⟩
      · exact lnsF_some _ _ _ h1 hn
      · rw [lns_stop _ _ _ (fun k => by rw [h1] at k; cases k.1), h1] at hb
        cases hb
  obtain ⟨⟨l⟩⟩ := s
  have : l.length = 0 := h0
  obtain rfl := List.length_eq_zero_iff.1 this
  rfl

theorem walks_zero (s inp : ByteArray) (hi' : inp.size ≤ 40) (hs : s.size ≤ maxLen) : ∃ u c, WlkIs s inp 0 ⟨#[]⟩ u c ∧ (c = 0 → s = ⟨#[]⟩) := by
  have hm : inp.size ≤ maxLen := by unfold maxLen; omega
  by_cases h9 : s.size ≤ 900
  · by_cases hb : (graE s).1 = 0
    · obtain ⟨e1, e2⟩ := graE_zero s hb
      have gd := (graF_gd s).2 e2
      obtain ⟨F, r, hr⟩ := graF_total s inp 0 gd
      obtain ⟨h1, h2⟩ := wkF_none hr
      refine ⟨r.out, endE r.e, fun W hW => ?_, fun h => ?_⟩
      · have := nwalk_good s inp 0 W hi' (by omega) h9 hb hW F r hr
        rw [h1] at this
        exact this
      · refine graF_none s e2 (h2 ?_)
        unfold endE at h
        split at h
        · assumption
        · rename_i h8
          exact absurd h (wkF_e0 hr)
    · exact ⟨_, _, fun W _ => nwalk_bad s inp 0 W hm (by omega) h9 hb, fun h => absurd h (by omega)⟩
  · exact ⟨_, _, fun W _ => nwalk_big s inp 0 W hm hs (by omega) (by omega), fun h => absurd h (by decide)⟩

theorem walks_three (s inp : ByteArray) (lo hi : Nat) (hl : lo ≤ hi) (hh : hi ≤ 300) (hi' : inp.size ≤ 40) (hs : s.size ≤ maxLen) :
    ∃ t u c t' u' c', WlkIs s inp lo t u c ∧ WlkIs s inp hi t' u' c' ∧ Fur t u c t' u' c' := by
  have hm : inp.size ≤ maxLen := by unfold maxLen; omega
  by_cases h9 : s.size ≤ 900
  · by_cases hb : (graE s).1 = 0
    · obtain ⟨e1, e2⟩ := graE_zero s hb
      have gd := (graF_gd s).2 e2
      obtain ⟨F, r, hr⟩ := graF_total s inp lo gd
      obtain ⟨F', r', hr'⟩ := graF_total s inp hi gd
      exact ⟨_, _, _, _, _, _, fun W hW => nwalk_good s inp lo W hi' (by omega) h9 hb hW F r hr, fun W hW => nwalk_good s inp hi W hi' (by omega) h9 hb hW F' r' hr', fur_wk hl hr hr'⟩
    · exact ⟨_, _, _, _, _, _, fun W _ => nwalk_bad s inp lo W hm (by omega) h9 hb, fun W _ => nwalk_bad s inp hi W hm (by omega) h9 hb, Fur.refl _ _ _⟩
  · exact ⟨_, _, _, _, _, _, fun W _ => nwalk_big s inp lo W hm hs (by omega) (by omega), fun W _ => nwalk_big s inp hi W hm hs (by omega) (by omega), Fur.refl _ _ _⟩
end Go.Proofs.YtellieabhaphhaaGreatDoor

/-
  Longer: the walks of its helpers.
-/
namespace Go.Proofs.YtellieabhaphhaaGreatDoor
open Go.RowKit

set_option maxHeartbeats 800000 in
theorem lruns_c (s inp : ByteArray) (fuel : Int) (t u : ByteArray) (c : Int) (w : World) (h : RunIs s inp fuel t u c) (ht : Tab w) :
    Calls Tryz.prog 17 #[.string s, .string inp, .int .i64 fuel] w fun e w' => e = .returned (.agg #[.string t, .string u, .int .i64 c]) ∧ Kp no w w' := by
  have HN := hide h
  have HNU := hide (fun W => lnum_c c W)
  clear h
  go_enter Tryz.func17, Tryz.ntmps17
  go_wp2_with fail
  refine (HN.out _ (ht.kp (by (repeat' (first | with_reducible exact Kp.refl _ _ | with_reducible refine Kp.alloc ?_ _ | with_reducible refine Kp.drewN ?_ _ | with_reducible refine Kp.drew ?_ | with_reducible refine Kp.setCell ?_ _ ?_ | (intro hh; first | rfl | exact .inl rfl | exact .inr rfl | (exfalso; (try dsimp only at hh); omega))))) no_elim)).mono ?_
  rintro e w1 ⟨rfl, k1⟩
  have hR : Blk w1 w.heap.size [.string ⟨#[]⟩, .string ⟨#[]⟩, .int .i64 0] 31 := k1.blk (by (repeat' (first | ((with_reducible show (_ : List Value) = _); rfl) | ((with_reducible refine Blk.newAt _ _ _ ?_); first | with_reducible rfl | (simp; done)) | with_reducible refine Blk.alloc ?_ _ | with_reducible refine Blk.drewN ?_ _ | with_reducible refine Blk.drew ?_ | ((with_reducible refine Blk.other ?_ _ ?_); rotate_left; ((try dsimp only); omega)) | with_reducible refine Blk.setB (cs0 := ?_) ?_ ?_))) no_elim
  obtain ⟨z0, z1, z2, zf⟩ := hR.c3
  have hz := hR.lt
  go_wp2_with (go_at_call 18; refine (HNU.out _).mono ?_; rintro e w' ⟨rfl, rfl⟩)
  refine body_agg (Tb := 31) (b := w.heap.size) (cs := [.string t, .string u, .int .i64 c]) (.inr rfl) Tryz.results17 rfl rfl (by (repeat' (first | ((with_reducible show (_ : List Value) = _); rfl) | with_reducible exact hR | ((with_reducible refine Blk.newAt _ _ _ ?_); first | with_reducible rfl | (simp; done)) | with_reducible refine Blk.alloc ?_ _ | with_reducible refine Blk.drewN ?_ _ | with_reducible refine Blk.drew ?_ | ((with_reducible refine Blk.other ?_ _ ?_); rotate_left; ((try dsimp only); omega)) | with_reducible refine Blk.setB (cs0 := ?_) ?_ ?_))) Tryz.underlying31 rfl (by kernel_rfl) ?_
  exact ⟨rfl, by (repeat' (first | with_reducible exact Kp.refl _ _ | with_reducible refine Kp.alloc ?_ _ | with_reducible refine Kp.drewN ?_ _ | with_reducible refine Kp.drew ?_ | with_reducible refine Kp.setCell ?_ _ ?_ | with_reducible refine Kp.trans ?_ k1 (fun _ _ e => e) | (intro hh; first | rfl | exact .inl rfl | exact .inr rfl | (exfalso; (try dsimp only at hh); omega))))⟩

set_option maxHeartbeats 800000 in
theorem lwlk_c (s inp : ByteArray) (fuel : Int) (t u : ByteArray) (c : Int) (w : World) (h : WlkIs s inp fuel t u c) (ht : Tab w) :
    Calls Tryz.prog 19 #[.string s, .string inp, .int .i64 fuel] w fun e w' => e = .returned (.agg #[.string t, .string u, .int .i64 c]) ∧ Kp no w w' := by
  have HN := hide h
  have HNU := hide (fun W => lnum_c c W)
  clear h
  go_enter Tryz.func19, Tryz.ntmps19
  go_wp2_with fail
  refine (HN.out _ (ht.kp (by (repeat' (first | with_reducible exact Kp.refl _ _ | with_reducible refine Kp.alloc ?_ _ | with_reducible refine Kp.drewN ?_ _ | with_reducible refine Kp.drew ?_ | with_reducible refine Kp.setCell ?_ _ ?_ | (intro hh; first | rfl | exact .inl rfl | exact .inr rfl | (exfalso; (try dsimp only at hh); omega))))) no_elim)).mono ?_
  rintro e w1 ⟨rfl, k1⟩
  have hR : Blk w1 w.heap.size [.string ⟨#[]⟩, .string ⟨#[]⟩, .int .i64 0] 31 := k1.blk (by (repeat' (first | ((with_reducible show (_ : List Value) = _); rfl) | ((with_reducible refine Blk.newAt _ _ _ ?_); first | with_reducible rfl | (simp; done)) | with_reducible refine Blk.alloc ?_ _ | with_reducible refine Blk.drewN ?_ _ | with_reducible refine Blk.drew ?_ | ((with_reducible refine Blk.other ?_ _ ?_); rotate_left; ((try dsimp only); omega)) | with_reducible refine Blk.setB (cs0 := ?_) ?_ ?_))) no_elim
  obtain ⟨z0, z1, z2, zf⟩ := hR.c3
  have hz := hR.lt
  go_wp2_with (go_at_call 18; refine (HNU.out _).mono ?_; rintro e w' ⟨rfl, rfl⟩)
  refine body_agg (Tb := 31) (b := w.heap.size) (cs := [.string t, .string u, .int .i64 c]) (.inr rfl) Tryz.results19 rfl rfl (by (repeat' (first | ((with_reducible show (_ : List Value) = _); rfl) | with_reducible exact hR | ((with_reducible refine Blk.newAt _ _ _ ?_); first | with_reducible rfl | (simp; done)) | with_reducible refine Blk.alloc ?_ _ | with_reducible refine Blk.drewN ?_ _ | with_reducible refine Blk.drew ?_ | ((with_reducible refine Blk.other ?_ _ ?_); rotate_left; ((try dsimp only); omega)) | with_reducible refine Blk.setB (cs0 := ?_) ?_ ?_))) Tryz.underlying31 rfl (by kernel_rfl) ?_
  exact ⟨rfl, by (repeat' (first | with_reducible exact Kp.refl _ _ | with_reducible refine Kp.alloc ?_ _ | with_reducible refine Kp.drewN ?_ _ | with_reducible refine Kp.drew ?_ | with_reducible refine Kp.setCell ?_ _ ?_ | with_reducible refine Kp.trans ?_ k1 (fun _ _ e => e) | (intro hh; first | rfl | exact .inl rfl | exact .inr rfl | (exfalso; (try dsimp only at hh); omega))))⟩

theorem pre_ext (a c : ByteArray) : (a ++ c).extract 0 a.size = a := by
  apply ByteArray.ext
  rw [ByteArray.data_extract, ByteArray.data_append]
  show (a.data ++ c.data).extract 0 a.data.size = a.data
  simp

set_option maxHeartbeats 800000 in
theorem begins_c (a b : ByteArray) (w : World) (h : Pre a b) :
    Calls Tryz.prog 35 #[.string a, .string b] w fun e w' => e = .returned (.bool true) ∧ Kp no w w' := by
  obtain ⟨c, rfl⟩ := h
  have h1 : a.size ≤ (a ++ c).size := by rw [ByteArray.size_append]; omega
  have h2 := pre_ext a c
  have h1' : (a.size : Int) ≤ (a ++ c).size := by omega
  generalize a ++ c = b at *
  go_enter Tryz.func35, Tryz.ntmps35
  go_wp2
  go_ret
  exact ⟨rfl, Kp.refl _ _⟩

set_option maxRecDepth 100000 in
set_option maxHeartbeats 800000 in
theorem further_c (t u t' u' : ByteArray) (c c' : Int) (w : World) (h : Fur t u c t' u' c') :
    Calls Tryz.prog 21 #[.agg #[.string t, .string u, .int .i64 c], .agg #[.string t', .string u', .int .i64 c']] w fun e w' => e = .returned (.bool true) ∧ Kp no w w' := by
  by_cases h4 : c = 4
  · obtain ⟨h1, h2⟩ := h.2 h4
    subst h4
    have H1 := hide (fun W => begins_c t t' W h1)
    have H2 := hide (fun W => begins_c u u' W h2)
    clear h h1 h2
    go_enter Tryz.func21, Tryz.ntmps21
    go_wp2_with fail
    refine (H1.out _).mono ?_
    rintro e w1 ⟨rfl, k1⟩
    have hA : Blk w1 w.heap.size [.string t, .string u, .int .i64 4] 31 := k1.blk (by (repeat' (first | ((with_reducible show (_ : List Value) = _); rfl) | ((with_reducible refine Blk.newAt _ _ _ ?_); first | with_reducible rfl | (simp; done)) | with_reducible refine Blk.alloc ?_ _ | with_reducible refine Blk.drewN ?_ _ | with_reducible refine Blk.drew ?_ | ((with_reducible refine Blk.other ?_ _ ?_); rotate_left; ((try dsimp only); omega)) | with_reducible refine Blk.setB (cs0 := ?_) ?_ ?_))) no_elim
    have hB : Blk w1 (w.heap.size + 1) [.string t', .string u', .int .i64 c'] 31 := k1.blk (by (repeat' (first | ((with_reducible show (_ : List Value) = _); rfl) | ((with_reducible refine Blk.newAt _ _ _ ?_); first | with_reducible rfl | (simp; done)) | with_reducible refine Blk.alloc ?_ _ | with_reducible refine Blk.drewN ?_ _ | with_reducible refine Blk.drew ?_ | ((with_reducible refine Blk.other ?_ _ ?_); rotate_left; ((try dsimp only); omega)) | with_reducible refine Blk.setB (cs0 := ?_) ?_ ?_))) no_elim
    obtain ⟨a0, a1, a2, af⟩ := hA.c3
    obtain ⟨b0, b1, b2, bf⟩ := hB.c3
    have hal := hA.lt
    have hbl := hB.lt
    go_wp2_with fail
    refine (H2.out _).mono ?_
    rintro e w2 ⟨rfl, k2⟩
    go_wp2
    go_ret
    exact ⟨rfl, by (repeat' (first | with_reducible exact Kp.refl _ _ | with_reducible refine Kp.alloc ?_ _ | with_reducible refine Kp.drewN ?_ _ | with_reducible refine Kp.drew ?_ | with_reducible refine Kp.setCell ?_ _ ?_ | with_reducible refine Kp.trans ?_ k1 (fun _ _ e => e) | with_reducible refine Kp.trans ?_ k2 (fun _ _ e => e) | (intro hh; first | rfl | exact .inl rfl | exact .inr rfl | (exfalso; (try dsimp only at hh); omega))))⟩
  · obtain ⟨rfl, rfl, rfl⟩ := h.1 h4
    have h4' : ((c' : Int) != 4) = true := by simp [h4]
    clear h h4
    go_enter Tryz.func21, Tryz.ntmps21
    go_wp2
    go_ret
    exact ⟨by simp, by (repeat' (first | with_reducible exact Kp.refl _ _ | with_reducible refine Kp.alloc ?_ _ | with_reducible refine Kp.drewN ?_ _ | with_reducible refine Kp.drew ?_ | with_reducible refine Kp.setCell ?_ _ ?_ | (intro hh; first | rfl | exact .inl rfl | exact .inr rfl | (exfalso; (try dsimp only at hh); omega))))⟩
end Go.Proofs.YtellieabhaphhaaGreatDoor

/-
  narrowref's Prune: numbers anew.
-/
namespace Go.Proofs.YtellieabhaphhaaGreatDoor
open Go.RowKit

/-- How many of the first i lines have a state. -/
def cntF (T : Tbl) (i : Nat) : Nat := (T.take i).countP (fun s => decide (s ≠ []))

theorem cnt_succ (T : Tbl) (j : Nat) (h : j < T.length) : cntF T (j + 1) = cntF T j + (if T.getD j [] = [] then 0 else 1) := by
  unfold cntF
  rw [List.take_succ_eq_append_getElem h, List.countP_append, List.getD_eq_getElem?_getD, List.getElem?_eq_getElem h, Option.getD_some, List.countP_cons, List.countP_nil]
  by_cases e : T[j] = [] <;> simp [e]

theorem cnt_le (T : Tbl) (i : Nat) : cntF T i ≤ T.length := by
  unfold cntF
  refine Nat.le_trans List.countP_le_length ?_
  rw [List.length_take]
  exact Nat.min_le_right _ _

theorem cnt_top (T : Tbl) {i : Nat} (h : T.length ≤ i) : cntF T i = cntF T T.length := by
  unfold cntF
  rw [List.take_of_length_le h, List.take_length]

end Go.Proofs.YtellieabhaphhaaGreatDoor

/-
  narrow's flow: sets of kinds as numbers.
-/
namespace Go.Proofs.YtellieabhaphhaaGreatDoor
open Go.RowKit

theorem ofi_nat (a : Nat) (ha : a < 128) : (BitVec.ofInt 64 (a : Int)).toNat = a := by
  rw [BitVec.ofInt_natCast, BitVec.toNat_ofNat]; exact Nat.mod_eq_of_lt (by omega)

theorem bits_and_nat (a b : Nat) (ha : a < 128) (hb : b < 128) : bits .and .i64 (a : Int) (b : Int) = ((a &&& b : Nat) : Int) := by
  have := and_lt b ha
  show IntKind.i64.wrap ((BitVec.ofInt 64 (a : Int) &&& BitVec.ofInt 64 (b : Int)).toNat : Int) = _
  rw [BitVec.toNat_and, ofi_nat a ha, ofi_nat b hb, IntKind.wrap_i64]
  omega

theorem bits_or_nat (a b : Nat) (ha : a < 128) (hb : b < 128) : bits .or .i64 (a : Int) (b : Int) = ((a ||| b : Nat) : Int) := by
  have := or_lt ha hb
  show IntKind.i64.wrap ((BitVec.ofInt 64 (a : Int) ||| BitVec.ofInt 64 (b : Int)).toNat : Int) = _
  rw [BitVec.toNat_or, ofi_nat a ha, ofi_nat b hb, IntKind.wrap_i64]
  omega

theorem not_bits (a b : Nat) (ha : a < 128) (hb : b < 128) : a &&& (2 ^ 64 - 1 - b) = a &&& (127 ^^^ b) := by
  refine Nat.eq_of_testBit_eq fun i => ?_
  rw [Nat.testBit_and, Nat.testBit_and, Nat.sub_sub, Nat.add_comm 1 b, Nat.testBit_two_pow_sub_succ (by omega), Nat.testBit_xor]
  by_cases hi : i < 7
  · rw [decide_eq_true (by omega : i < 64)]
    have : Nat.testBit 127 i = true := by
      rcases (show i = 0 ∨ i = 1 ∨ i = 2 ∨ i = 3 ∨ i = 4 ∨ i = 5 ∨ i = 6 by omega) with rfl | rfl | rfl | rfl | rfl | rfl | rfl <;> decide
    rw [this]
    cases b.testBit i <;> simp
  · have h2 : 128 ≤ 2 ^ i := by
      have : 2 ^ 7 ≤ 2 ^ i := Nat.pow_le_pow_right (by decide) (by omega)
      omega
    rw [Nat.testBit_lt_two_pow (show a < 2 ^ i by omega)]
    simp

theorem bits_not_nat (a b : Nat) (ha : a < 128) (hb : b < 128) : bits .andNot .i64 (a : Int) (b : Int) = ((a &&& (127 ^^^ b) : Nat) : Int) := by
  have := and_lt (127 ^^^ b) ha
  show IntKind.i64.wrap ((BitVec.ofInt 64 (a : Int) &&& ~~~(BitVec.ofInt 64 (b : Int))).toNat : Int) = _
  rw [BitVec.toNat_and, BitVec.toNat_not, ofi_nat a ha, ofi_nat b hb, not_bits a b ha hb, IntKind.wrap_i64]
  omega

/-- A state's sets, as narrow holds them. -/
def zc (Z : St) : List Value := Z.map (fun (m : Nat) => Value.int .i64 (m : Int))

/-- Six sets. -/
structure Z6 (Z : St) : Prop where
  len : Z.length = 6
  lt : ∀ m ∈ Z, m < 128

theorem Z6.get {Z : St} (h : Z6 Z) (i : Nat) : Z.getD i 0 < 128 := by
  rw [List.getD_eq_getElem?_getD]
  cases hx : Z[i]? with
  | none => simp
  | some m => exact h.lt m (List.mem_of_getElem? hx)

theorem Z6.set {Z : St} (h : Z6 Z) (i : Nat) {m : Nat} (hm : m < 128) : Z6 (Z.set i m) :=
  ⟨by rw [List.length_set]; exact h.len, fun z hz => by
    rcases List.mem_or_eq_of_mem_set hz with h1 | rfl
    · exact h.lt z h1
    · exact hm⟩

/-- A state in a block. -/
abbrev ZB (w : World) (b : Nat) (Z : St) : Prop := Blk w b (zc Z) 102

theorem ZB.at {w : World} {b : Nat} {Z : St} (h : ZB w b Z) {i : Nat} (hi : i < Z.length) : w.cell? ⟨b, i, none⟩ = some (.int .i64 (Z.getD i 0 : Nat)) := by
  rw [Blk.cell h]
  simp [zc, List.getD_eq_getElem?_getD, hi]

theorem zc_set (Z : St) (i m : Nat) : (zc Z).set i (.int .i64 (m : Int)) = zc (Z.set i m) := by
  unfold zc; rw [List.map_set]

theorem ZB.set {w : World} {b : Nat} {Z : St} (h : ZB w b Z) (i m : Nat) : ZB (w.setCell ⟨b, i, none⟩ (.int .i64 (m : Int))) b (Z.set i m) := by
  have := Blk.set h i (.int .i64 (m : Int))
  rwa [zc_set] at this

theorem zb_six {w : World} {b : Nat} {Z : St} (h : ZB w b Z) (h6 : Z6 Z) : ∃ m0 m1 m2 m3 m4 m5 : Nat, Z = [m0, m1, m2, m3, m4, m5] := by
  match Z, h6.len with
  | [m0, m1, m2, m3, m4, m5], _ => exact ⟨m0, m1, m2, m3, m4, m5, rfl⟩

theorem zIx (w : World) (m0 m1 m2 m3 m4 m5 : Nat) (j : Nat) (hj : j < 6) : (Instr.index 100 (.agg #[.int .i64 m0, .int .i64 m1, .int .i64 m2, .int .i64 m3, .int .i64 m4, .int .i64 m5]) (.int .i64 (j : Int))).run Tryz.prog w = .ok (.int .i64 (List.getD [m0, m1, m2, m3, m4, m5] j 0 : Nat)) w := by
  rcases (show j = 0 ∨ j = 1 ∨ j = 2 ∨ j = 3 ∨ j = 4 ∨ j = 5 by omega) with rfl | rfl | rfl | rfl | rfl | rfl <;> simp [Instr.index, go_sem]

theorem exS_no {Z : St} {j : Nat} (hj : j < Z.length) (h : Z.getD j 0 = 0) : exS Z = false := by
  unfold exS
  rw [List.all_eq_false]
  rw [List.getD_eq_getElem?_getD, List.getElem?_eq_getElem hj, Option.getD_some] at h
  exact ⟨Z[j], List.getElem_mem hj, by simp [h]⟩

theorem exS_yes {Z : St} (h : ∀ i, i < Z.length → Z.getD i 0 ≠ 0) : exS Z = true := by
  unfold exS
  rw [List.all_eq_true]
  intro m hm
  obtain ⟨i, hi, rfl⟩ := List.getElem_of_mem hm
  have := h i hi
  rw [List.getD_eq_getElem?_getD, List.getElem?_eq_getElem hi, Option.getD_some] at this
  simpa using this

set_option maxRecDepth 100000 in
set_option maxHeartbeats 1600000 in
theorem exists_c (b : Nat) (Z : St) (w : World) (h : ZB w b Z) (h6 : Z6 Z) :
    Calls Tryz.prog 103 #[.pointer (some ⟨b, 0, none⟩)] w fun e w' => e = .returned (.bool (exS Z)) ∧ w' = w := by
  obtain ⟨m0, m1, m2, m3, m4, m5, rfl⟩ := zb_six h h6
  have c0 := Blk.cell h 0; have c1 := Blk.cell h 1; have c2 := Blk.cell h 2; have c3 := Blk.cell h 3; have c4 := Blk.cell h 4; have c5 := Blk.cell h 5
  simp only [zc, List.map_cons, List.map_nil, List.getElem?_cons_zero, List.getElem?_cons_succ] at c0 c1 c2 c3 c4 c5
  have hlt := Blk.lt h
  have HIX := hide (fun W j hj => zIx W m0 m1 m2 m3 m4 m5 j hj)
  have HNO := hide (fun j hj h => exS_no (Z := [m0, m1, m2, m3, m4, m5]) (j := j) hj h)
  have HYES := hide (exS_yes (Z := [m0, m1, m2, m3, m4, m5]))
  clear h
  generalize hE : exS [m0, m1, m2, m3, m4, m5] = E at *
  clear hE
  go_enter Tryz.func103, Tryz.ntmps103
  go_wp2
  go_loopg [9] 6 (fun k iv wr => ∃ j : Nat, j ≤ 6 ∧ k = 6 - j ∧ iv = .int .i64 j ∧ (∀ i, i < j → List.getD [m0, m1, m2, m3, m4, m5] i 0 ≠ 0) ∧ wr = w)
  case atStart => exact ⟨0, by decide, rfl, rfl, fun i hi => by omega, rfl⟩
  case round =>
    obtain ⟨j, hj, hk, rfl, hz, rfl⟩ := hrel
    have HKK := hide hk
    have HZ := hide hz
    clear hk hz
    by_cases hlt6 : j < 6
    · have hix := HIX.out wr j hlt6
      have HN2 := hide (HNO.out j hlt6)
      generalize hmm : List.getD [m0, m1, m2, m3, m4, m5] j 0 = m at *
      have HMM := hide hmm
      clear hmm
      by_cases hm : m = 0
      · have HF := hide (HN2.out hm)
        subst hm
        go_wp2
        go_ret
        rw [HF.out]
        exact ⟨rfl, rfl⟩
      · have hm' : ((m : Int) == 0) = false := by simp; omega
        go_wp2
        go_roundg (6 - (j + 1))
        case measure => have := HKK.out; omega
        case rel => exact ⟨j + 1, by omega, rfl, by go_num, fun i hi => by
          rcases Nat.lt_or_ge i j with h1 | h1
          · exact HZ.out i h1
          · obtain rfl : i = j := by omega
            rw [HMM.out]; exact hm, rfl⟩
    · obtain rfl : j = 6 := by omega
      have HT := hide (HYES.out (fun i hi => HZ.out i hi))
      go_wp2
      go_ret
      rw [HT.out]
      exact ⟨rfl, rfl⟩

set_option maxRecDepth 100000 in
set_option maxHeartbeats 1600000 in
theorem kindsOf_c (b : Nat) (Z : St) (v : Nat) (w : World) (h : ZB w b Z) (h6 : Z6 Z) (hv : v < 6) :
    Calls Tryz.prog 122 #[.pointer (some ⟨b, 0, none⟩), .int .i64 v] w fun e w' => e = .returned (.int .i64 (Z.getD v 0 : Nat)) ∧ w' = w := by
  have hc := ZB.at h (i := v) (by rw [h6.len]; exact hv)
  have hlt := Blk.lt h
  generalize Z.getD v 0 = m at *
  have d0 : decide ((v : Int) < 0) = false := by simp
  have d1 : decide ((6 : Int) ≤ v) = false := by simp; omega
  have d2 : (v : Int) < 6 := by omega
  clear h
  go_enter Tryz.func122, Tryz.ntmps122
  go_wp2
  go_ret
  exact ⟨rfl, rfl⟩

set_option maxRecDepth 100000 in
set_option maxHeartbeats 1600000 in
theorem zset_c (b : Nat) (Z : St) (v m : Nat) (w : World) (h : ZB w b Z) (h6 : Z6 Z) (hv : v < 6) :
    Calls Tryz.prog 157 #[.pointer (some ⟨b, 0, none⟩), .int .i64 v, .int .i64 (m : Int)] w fun e w' => e = .returned (.tuple #[]) ∧ ZB w' b (Z.set v m) ∧ Kp (· = b) w w' := by
  have hc := ZB.at h (i := v) (by rw [h6.len]; exact hv)
  have hlt := Blk.lt h
  have hf := Blk.frozen h
  have HS := hide (h.set v m)
  generalize Z.getD v 0 = m0 at *
  have d0 : (0 : Int) ≤ (v : Int) := by omega
  have d2 : (v : Int) < 6 := by omega
  clear h
  go_enter Tryz.func157, Tryz.ntmps157
  go_wp2
  go_end0
  exact ⟨rfl, HS.out, (Kp.refl _ _).setCell _ (fun _ => rfl)⟩

set_option maxRecDepth 100000 in
set_option maxHeartbeats 1600000 in
theorem keep_c (b : Nat) (Z : St) (v m : Nat) (w : World) (h : ZB w b Z) (h6 : Z6 Z) (hv : v < 6) (hm : m < 128) :
    Calls Tryz.prog 153 #[.pointer (some ⟨b, 0, none⟩), .int .i64 v, .int .i64 (m : Int)] w fun e w' => e = .returned (.tuple #[]) ∧ ZB w' b (Z.set v (Z.getD v 0 &&& m)) ∧ Kp (· = b) w w' := by
  have HK := hide (kindsOf_c b Z v w h h6 hv)
  have HB := hide (bits_and_nat (Z.getD v 0) m (h6.get v) hm)
  have HS := hide (zset_c b Z v (Z.getD v 0 &&& m) w h h6 hv)
  generalize Z.getD v 0 = m0 at *
  go_enter Tryz.func153, Tryz.ntmps153
  go_wp2_with fail
  refine HK.out.mono ?_
  rintro e w' ⟨rfl, rfl⟩
  go_wp2_with fail
  rw [HB.out]
  refine HS.out.mono ?_
  rintro e w' ⟨rfl, h1, h2⟩
  go_wp2
  go_end0
  exact ⟨rfl, h1, h2⟩

def fZ (j : Nat) : St := (List.range 6).map (fun i => if i < j then 8 else 0)
theorem fZ_set (j : Nat) (hj : j < 6) : (fZ j).set j 8 = fZ (j + 1) := by
  rcases (show j = 0 ∨ j = 1 ∨ j = 2 ∨ j = 3 ∨ j = 4 ∨ j = 5 by omega) with rfl | rfl | rfl | rfl | rfl | rfl <;> decide
theorem fZ_len (j : Nat) : (fZ j).length = 6 := by simp [fZ]

theorem Blk.c6 {w : World} {b : Nat} {a0 a1 a2 a3 a4 a5 : Value} {T : TypeId} (h : Blk w b [a0, a1, a2, a3, a4, a5] T) :
    w.cell? ⟨b, 0, none⟩ = some a0 ∧ w.cell? ⟨b, 1, none⟩ = some a1 ∧ w.cell? ⟨b, 2, none⟩ = some a2 ∧ w.cell? ⟨b, 3, none⟩ = some a3 ∧ w.cell? ⟨b, 4, none⟩ = some a4 ∧ w.cell? ⟨b, 5, none⟩ = some a5 ∧ (∀ o, w.frozen? ⟨b, o, none⟩ = false) ∧ b < w.heap.size :=
  ⟨h.cell 0, h.cell 1, h.cell 2, h.cell 3, h.cell 4, h.cell 5, h.frozen, h.lt⟩

set_option maxRecDepth 100000 in
set_option maxHeartbeats 1600000 in
theorem firstState_c (w : World) :
    Calls Tryz.prog 61 #[] w fun e w' => e = .returned (.agg (zc st0).toArray) ∧ Kp no w w' := by
  go_enter Tryz.func61, Tryz.ntmps61
  go_wp2
  go_loopg [4] 6 (fun k iv wr => ∃ j : Nat, j ≤ 6 ∧ k = 6 - j ∧ iv = .int .i64 j ∧ ZB wr (w.heap.size + 1) (fZ j) ∧ ZB wr w.heap.size [0, 0, 0, 0, 0, 0] ∧ Kp no w wr)
  case atStart => exact ⟨0, by decide, rfl, rfl, by (show Blk _ _ [.int .i64 0, .int .i64 0, .int .i64 0, .int .i64 0, .int .i64 0, .int .i64 0] _); (repeat' (first | ((with_reducible show (_ : List Value) = _); rfl) | ((with_reducible refine Blk.newAt _ _ _ ?_); first | with_reducible rfl | (simp; done)) | with_reducible refine Blk.alloc ?_ _ | with_reducible refine Blk.drewN ?_ _ | with_reducible refine Blk.drew ?_ | ((with_reducible refine Blk.other ?_ _ ?_); rotate_left; ((try dsimp only); omega)) | with_reducible refine Blk.setB (cs0 := ?_) ?_ ?_)), by (show Blk _ _ [.int .i64 0, .int .i64 0, .int .i64 0, .int .i64 0, .int .i64 0, .int .i64 0] _); (repeat' (first | ((with_reducible show (_ : List Value) = _); rfl) | ((with_reducible refine Blk.newAt _ _ _ ?_); first | with_reducible rfl | (simp; done)) | with_reducible refine Blk.alloc ?_ _ | with_reducible refine Blk.drewN ?_ _ | with_reducible refine Blk.drew ?_ | ((with_reducible refine Blk.other ?_ _ ?_); rotate_left; ((try dsimp only); omega)) | with_reducible refine Blk.setB (cs0 := ?_) ?_ ?_)), by (repeat' (first | with_reducible exact Kp.refl _ _ | with_reducible refine Kp.alloc ?_ _ | with_reducible refine Kp.drewN ?_ _ | with_reducible refine Kp.drew ?_ | with_reducible refine Kp.setCell ?_ _ ?_ | (intro hh; first | rfl | exact .inl rfl | exact .inr rfl | (exfalso; (try dsimp only at hh); omega))))⟩
  case round =>
    obtain ⟨j, hj, hk, rfl, hz, hr, kr⟩ := hrel
    have HKK := hide hk
    have HZ := hide hz
    have HR := hide hr
    have HKR := hide kr
    clear hk hz hr kr
    by_cases hlt6 : j < 6
    · have hc := ZB.at HZ.out (i := j) (by rw [fZ_len]; exact hlt6)
      have hf := Blk.frozen HZ.out
      have hl := Blk.lt HZ.out
      have hjI : (j : Int) < 6 := by omega
      generalize (fZ j).getD j 0 = m0 at *
      go_wp2
      go_roundg (6 - (j + 1))
      case measure => have := HKK.out; omega
      case rel =>
        have h2 := HZ.out.set j 8
        rw [fZ_set j hlt6] at h2
        exact ⟨j + 1, by omega, rfl, by go_num, h2, Blk.other HR.out _ (by dsimp only; omega), HKR.out.setCell _ (fun h => by dsimp only at h; omega)⟩
    · obtain rfl : j = 6 := by omega
      have hz : Blk wr (w.heap.size + 1) [.int .i64 8, .int .i64 8, .int .i64 8, .int .i64 8, .int .i64 8, .int .i64 8] 102 := HZ.out
      have hr : Blk wr w.heap.size [.int .i64 0, .int .i64 0, .int .i64 0, .int .i64 0, .int .i64 0, .int .i64 0] 102 := HR.out
      have HRB := hide hr
      obtain ⟨c0, c1, c2, c3, c4, c5, cf, cl⟩ := hz.c6
      obtain ⟨d0, d1, d2, d3, d4, d5, df, dl⟩ := hr.c6
      clear hz hr
      have kk := HKR.out
      go_wp2
      have hr2 := HRB.out
      refine body_agg (Tb := 102) (b := w.heap.size) (cs := [.int .i64 8, .int .i64 8, .int .i64 8, .int .i64 8, .int .i64 8, .int .i64 8]) (.inr rfl) Tryz.results61 rfl rfl (by (repeat' (first | ((with_reducible show (_ : List Value) = _); rfl) | with_reducible exact hr2 | ((with_reducible refine Blk.newAt _ _ _ ?_); first | with_reducible rfl | (simp; done)) | with_reducible refine Blk.alloc ?_ _ | with_reducible refine Blk.drewN ?_ _ | with_reducible refine Blk.drew ?_ | ((with_reducible refine Blk.other ?_ _ ?_); rotate_left; ((try dsimp only); omega)) | with_reducible refine Blk.setB (cs0 := ?_) ?_ ?_))) Tryz.underlying102 rfl (by kernel_rfl) ?_
      exact ⟨rfl, by (repeat' (first | with_reducible exact Kp.refl _ _ | with_reducible refine Kp.alloc ?_ _ | with_reducible refine Kp.drewN ?_ _ | with_reducible refine Kp.drew ?_ | with_reducible refine Kp.setCell ?_ _ ?_ | with_reducible refine Kp.trans ?_ kk (fun _ _ e => e) | (intro hh; first | rfl | exact .inl rfl | exact .inr rfl | (exfalso; (try dsimp only at hh); omega))))⟩
end Go.Proofs.YtellieabhaphhaaGreatDoor

/-
  narrow's flow: the join of two states; what nodes give.
-/
namespace Go.Proofs.YtellieabhaphhaaGreatDoor
open Go.RowKit

def jnZ (s t : St) : St := if exS t then List.zipWith (· ||| ·) s t else s

abbrev zv6 (m0 m1 m2 m3 m4 m5 : Nat) : Value := .agg #[.int .i64 m0, .int .i64 m1, .int .i64 m2, .int .i64 m3, .int .i64 m4, .int .i64 m5]

def orJ (A B : St) (j : Nat) : St := (List.zipWith (· ||| ·) A B).take j ++ A.drop j

theorem orJ_step (a0 a1 a2 a3 a4 a5 b0 b1 b2 b3 b4 b5 : Nat) (j : Nat) (hj : j < 6) :
    (orJ [a0, a1, a2, a3, a4, a5] [b0, b1, b2, b3, b4, b5] j).length = 6 ∧ (orJ [a0, a1, a2, a3, a4, a5] [b0, b1, b2, b3, b4, b5] j).getD j 0 = List.getD [a0, a1, a2, a3, a4, a5] j 0 ∧
    (orJ [a0, a1, a2, a3, a4, a5] [b0, b1, b2, b3, b4, b5] j).set j (List.getD [a0, a1, a2, a3, a4, a5] j 0 ||| List.getD [b0, b1, b2, b3, b4, b5] j 0) = orJ [a0, a1, a2, a3, a4, a5] [b0, b1, b2, b3, b4, b5] (j + 1) := by
  rcases (show j = 0 ∨ j = 1 ∨ j = 2 ∨ j = 3 ∨ j = 4 ∨ j = 5 by omega) with rfl | rfl | rfl | rfl | rfl | rfl <;> exact ⟨rfl, rfl, rfl⟩

set_option maxRecDepth 100000 in
set_option maxHeartbeats 1600000 in
theorem joined_c (a0 a1 a2 a3 a4 a5 b0 b1 b2 b3 b4 b5 : Nat) (w : World) (ha : Z6 [a0, a1, a2, a3, a4, a5]) (hb : Z6 [b0, b1, b2, b3, b4, b5]) :
    Calls Tryz.prog 110 #[zv6 a0 a1 a2 a3 a4 a5, zv6 b0 b1 b2 b3 b4 b5] w fun e w' => e = .returned (.agg (zc (jnZ [a0, a1, a2, a3, a4, a5] [b0, b1, b2, b3, b4, b5])).toArray) ∧ Kp no w w' := by
  have HX := hide (fun b W h => exists_c b [b0, b1, b2, b3, b4, b5] W h hb)
  go_enter Tryz.func110, Tryz.ntmps110
  go_wp2_with fail
  refine (HX.out _ _ (by (show Blk _ _ [.int .i64 b0, .int .i64 b1, .int .i64 b2, .int .i64 b3, .int .i64 b4, .int .i64 b5] _); (repeat' (first | ((with_reducible show (_ : List Value) = _); rfl) | ((with_reducible refine Blk.newAt _ _ _ ?_); first | with_reducible rfl | (simp; done)) | with_reducible refine Blk.alloc ?_ _ | with_reducible refine Blk.drewN ?_ _ | with_reducible refine Blk.drew ?_ | ((with_reducible refine Blk.other ?_ _ ?_); rotate_left; ((try dsimp only); omega)) | with_reducible refine Blk.setB (cs0 := ?_) ?_ ?_)))).mono ?_
  rintro e w' ⟨rfl, rfl⟩
  cases hE : exS [b0, b1, b2, b3, b4, b5]
  · have HJ := hide (show jnZ [a0, a1, a2, a3, a4, a5] [b0, b1, b2, b3, b4, b5] = [a0, a1, a2, a3, a4, a5] by rw [jnZ, hE]; rfl)
    clear hE
    go_wp2
    refine body_agg (Tb := 102) (b := w.heap.size + 1 + 1) (cs := [.int .i64 a0, .int .i64 a1, .int .i64 a2, .int .i64 a3, .int .i64 a4, .int .i64 a5]) (.inr rfl) Tryz.results110 rfl rfl (by (repeat' (first | ((with_reducible show (_ : List Value) = _); rfl) | ((with_reducible refine Blk.newAt _ _ _ ?_); first | with_reducible rfl | (simp; done)) | with_reducible refine Blk.alloc ?_ _ | with_reducible refine Blk.drewN ?_ _ | with_reducible refine Blk.drew ?_ | ((with_reducible refine Blk.other ?_ _ ?_); rotate_left; ((try dsimp only); omega)) | with_reducible refine Blk.setB (cs0 := ?_) ?_ ?_))) Tryz.underlying102 rfl (by kernel_rfl) ?_
    rw [HJ.out]
    exact ⟨rfl, by (repeat' (first | with_reducible exact Kp.refl _ _ | with_reducible refine Kp.alloc ?_ _ | with_reducible refine Kp.drewN ?_ _ | with_reducible refine Kp.drew ?_ | with_reducible refine Kp.setCell ?_ _ ?_ | (intro hh; first | rfl | exact .inl rfl | exact .inr rfl | (exfalso; (try dsimp only at hh); omega))))⟩
  · have HJ := hide (show jnZ [a0, a1, a2, a3, a4, a5] [b0, b1, b2, b3, b4, b5] = [a0 ||| b0, a1 ||| b1, a2 ||| b2, a3 ||| b3, a4 ||| b4, a5 ||| b5] by rw [jnZ, hE]; rfl)
    clear hE HX
    have HIX := hide (fun W j hj => zIx W b0 b1 b2 b3 b4 b5 j hj)
    have HOJ := hide (orJ_step a0 a1 a2 a3 a4 a5 b0 b1 b2 b3 b4 b5)
    go_wp2
    go_loopg [12] 6 (fun k iv wr => ∃ j : Nat, j ≤ 6 ∧ k = 6 - j ∧ iv = .int .i64 j ∧ ZB wr w.heap.size (orJ [a0, a1, a2, a3, a4, a5] [b0, b1, b2, b3, b4, b5] j) ∧ ZB wr (w.heap.size + 1 + 1) [0, 0, 0, 0, 0, 0] ∧ Kp no w wr)
    case atStart => exact ⟨0, by decide, rfl, rfl, by (show Blk _ _ [.int .i64 a0, .int .i64 a1, .int .i64 a2, .int .i64 a3, .int .i64 a4, .int .i64 a5] _); (repeat' (first | ((with_reducible show (_ : List Value) = _); rfl) | ((with_reducible refine Blk.newAt _ _ _ ?_); first | with_reducible rfl | (simp; done)) | with_reducible refine Blk.alloc ?_ _ | with_reducible refine Blk.drewN ?_ _ | with_reducible refine Blk.drew ?_ | ((with_reducible refine Blk.other ?_ _ ?_); rotate_left; ((try dsimp only); omega)) | with_reducible refine Blk.setB (cs0 := ?_) ?_ ?_)), by (show Blk _ _ [.int .i64 0, .int .i64 0, .int .i64 0, .int .i64 0, .int .i64 0, .int .i64 0] _); (repeat' (first | ((with_reducible show (_ : List Value) = _); rfl) | ((with_reducible refine Blk.newAt _ _ _ ?_); first | with_reducible rfl | (simp; done)) | with_reducible refine Blk.alloc ?_ _ | with_reducible refine Blk.drewN ?_ _ | with_reducible refine Blk.drew ?_ | ((with_reducible refine Blk.other ?_ _ ?_); rotate_left; ((try dsimp only); omega)) | with_reducible refine Blk.setB (cs0 := ?_) ?_ ?_)), by (repeat' (first | with_reducible exact Kp.refl _ _ | with_reducible refine Kp.alloc ?_ _ | with_reducible refine Kp.drewN ?_ _ | with_reducible refine Kp.drew ?_ | with_reducible refine Kp.setCell ?_ _ ?_ | (intro hh; first | rfl | exact .inl rfl | exact .inr rfl | (exfalso; (try dsimp only at hh); omega))))⟩
    case round =>
      obtain ⟨j, hj, hk, rfl, hz, hr, kr⟩ := hrel
      have HKK := hide hk
      have HZ := hide hz
      have HR := hide hr
      have HKR := hide kr
      clear hk hz hr kr
      by_cases hlt6 : j < 6
      · obtain ⟨e1, e2, e3⟩ := HOJ.out j hlt6
        have hc := ZB.at HZ.out (i := j) (by rw [e1]; exact hlt6)
        rw [e2] at hc
        have HE3 := hide e3
        have hf := Blk.frozen HZ.out
        have hl := Blk.lt HZ.out
        have hjI : (j : Int) < 6 := by omega
        have hix := HIX.out wr j hlt6
        have hbo := bits_or_nat _ _ (ha.get j) (hb.get j)
        clear e1 e2 e3 HIX HOJ
        generalize hgA : List.getD [a0, a1, a2, a3, a4, a5] j 0 = mA at *
        generalize hgB : List.getD [b0, b1, b2, b3, b4, b5] j 0 = mB at *
        clear hgA hgB
        go_wp2
        go_roundg (6 - (j + 1))
        case measure => have := HKK.out; omega
        case rel =>
          have h2 := HZ.out.set j (mA ||| mB)
          rw [HE3.out] at h2
          exact ⟨j + 1, by omega, rfl, by go_num, h2, Blk.other HR.out _ (by dsimp only; omega), HKR.out.setCell _ (fun h => by dsimp only at h; omega)⟩
      · obtain rfl : j = 6 := by omega
        have hz : Blk wr w.heap.size [.int .i64 (a0 ||| b0 : Nat), .int .i64 (a1 ||| b1 : Nat), .int .i64 (a2 ||| b2 : Nat), .int .i64 (a3 ||| b3 : Nat), .int .i64 (a4 ||| b4 : Nat), .int .i64 (a5 ||| b5 : Nat)] 102 := HZ.out
        have hr : Blk wr (w.heap.size + 1 + 1) [.int .i64 0, .int .i64 0, .int .i64 0, .int .i64 0, .int .i64 0, .int .i64 0] 102 := HR.out
        have HRB := hide hr
        obtain ⟨c0, c1, c2, c3, c4, c5, cf, cl⟩ := hz.c6
        obtain ⟨d0, d1, d2, d3, d4, d5, df, dl⟩ := hr.c6
        clear hz hr
        have kk := HKR.out
        go_wp2
        have hr2 := HRB.out
        refine body_agg (Tb := 102) (b := w.heap.size + 1 + 1) (cs := [.int .i64 (a0 ||| b0 : Nat), .int .i64 (a1 ||| b1 : Nat), .int .i64 (a2 ||| b2 : Nat), .int .i64 (a3 ||| b3 : Nat), .int .i64 (a4 ||| b4 : Nat), .int .i64 (a5 ||| b5 : Nat)]) (.inr rfl) Tryz.results110 rfl rfl (by (repeat' (first | ((with_reducible show (_ : List Value) = _); rfl) | with_reducible exact hr2 | ((with_reducible refine Blk.newAt _ _ _ ?_); first | with_reducible rfl | (simp; done)) | with_reducible refine Blk.alloc ?_ _ | with_reducible refine Blk.drewN ?_ _ | with_reducible refine Blk.drew ?_ | ((with_reducible refine Blk.other ?_ _ ?_); rotate_left; ((try dsimp only); omega)) | with_reducible refine Blk.setB (cs0 := ?_) ?_ ?_))) Tryz.underlying102 rfl (by kernel_rfl) ?_
        rw [HJ.out]
        exact ⟨rfl, by (repeat' (first | with_reducible exact Kp.refl _ _ | with_reducible refine Kp.alloc ?_ _ | with_reducible refine Kp.drewN ?_ _ | with_reducible refine Kp.drew ?_ | with_reducible refine Kp.setCell ?_ _ ?_ | with_reducible refine Kp.trans ?_ kk (fun _ _ e => e) | (intro hh; first | rfl | exact .inl rfl | exact .inr rfl | (exfalso; (try dsimp only at hh); omega))))⟩
def setF (a : Int) : Bool := decide (1 ≤ a ∧ a ≤ 8)

set_option maxHeartbeats 1600000 in
theorem setsVariable_c (a : Int) (w : World) (h0 : 0 ≤ a) (h14 : a ≤ 14) :
    Calls Tryz.prog 155 #[.int .i64 a] w fun e w' => e = .returned (.bool (setF a)) ∧ w' = w := by
  rcases (show a = 0 ∨ a = 1 ∨ a = 2 ∨ a = 3 ∨ a = 4 ∨ a = 5 ∨ a = 6 ∨ a = 7 ∨ a = 8 ∨ a = 9 ∨ a = 10 ∨ a = 11 ∨ a = 12 ∨ a = 13 ∨ a = 14 by omega) with rfl | rfl | rfl | rfl | rfl | rfl | rfl | rfl | rfl | rfl | rfl | rfl | rfl | rfl | rfl
  all_goals
    go_enter Tryz.func155, Tryz.ntmps155
    go_wp2
    go_ret
    exact ⟨rfl, rfl⟩

def heldZ (y : Nat) : Nat := (if y.testBit 4 then 1 else 0) ||| (if y.testBit 5 then 14 else 0)

theorem and16 : ∀ y, y < 128 → (((y &&& 16 : Nat) : Int) != 0) = y.testBit 4 := by decide
theorem and32 : ∀ y, y < 128 → (((y &&& 32 : Nat) : Int) != 0) = y.testBit 5 := by decide

set_option maxHeartbeats 1600000 in
theorem kindsHeld_c (y : Nat) (w : World) (hy : y < 128) :
    Calls Tryz.prog 177 #[.int .i64 (y : Int)] w fun e w' => e = .returned (.int .i64 (heldZ y : Nat)) ∧ w' = w := by
  have b1 : bits .and .i64 (y : Int) 16 = ((y &&& 16 : Nat) : Int) := bits_and_nat y 16 hy (by decide)
  have b2 : bits .and .i64 (y : Int) 32 = ((y &&& 32 : Nat) : Int) := bits_and_nat y 32 hy (by decide)
  have f1 := and16 y hy
  have f2 := and32 y hy
  have HE : Hid (heldZ y = (if y.testBit 4 then 1 else 0) ||| (if y.testBit 5 then 14 else 0)) := rfl
  rw [HE.out]
  clear HE
  generalize y.testBit 4 = p at *
  generalize y.testBit 5 = q at *
  generalize ((y &&& 16 : Nat) : Int) = v1 at *
  generalize ((y &&& 32 : Nat) : Int) = v2 at *
  have o1 : bits .or .i64 0 1 = 1 := by decide
  have o2 : bits .or .i64 0 14 = 14 := by decide
  have o3 : bits .or .i64 1 14 = 15 := by decide
  cases p <;> cases q
  all_goals
    go_enter Tryz.func177, Tryz.ntmps177
    go_wp2
    go_ret
    exact ⟨rfl, rfl⟩

/-- What a node gives its variable, of what it reads. -/
def giZ (act ck : Int) (y : Nat) : Int :=
  if act = 1 then ck else if act = 2 then 127 else if act = 4 then 1 else if act = 5 then 6 else if act = 6 then 16 else if act = 7 then 32 else if act = 8 then (heldZ y : Nat) else (y : Int)

set_option maxHeartbeats 3200000 in
theorem kindsGiven_c (n : NN) (y : Nat) (w : World) (hy : y < 128) (h0 : 0 ≤ n.act) (h14 : n.act ≤ 14) :
    Calls Tryz.prog 156 #[.agg #[.string n.tx, .int .i64 n.act, .int .i64 n.x, .int .i64 n.y, .int .i64 n.w, .int .i64 n.ck, .int .i64 n.cn, .int .i64 n.ch, .int .i64 n.kd, .int .i64 n.yes, .int .i64 n.no], .int .i64 (y : Int)] w fun e w' => e = .returned (.int .i64 (giZ n.act n.ck y)) ∧ Kp no w w' := by
  have HK := hide (fun W => kindsHeld_c y W hy)
  obtain ⟨tx, act, nx, ny, nw, ck, cn, ch, kd, yes, no⟩ := n
  dsimp only at *
  rcases (show act = 0 ∨ act = 1 ∨ act = 2 ∨ act = 3 ∨ act = 4 ∨ act = 5 ∨ act = 6 ∨ act = 7 ∨ act = 8 ∨ act = 9 ∨ act = 10 ∨ act = 11 ∨ act = 12 ∨ act = 13 ∨ act = 14 by omega) with rfl | rfl | rfl | rfl | rfl | rfl | rfl | rfl | rfl | rfl | rfl | rfl | rfl | rfl | rfl
  all_goals
    clear h0 h14
    go_enter Tryz.func156, Tryz.ntmps156
    go_wp2_with (go_at_call 177; refine (HK.out _).mono ?_; rintro e w' ⟨rfl, rfl⟩)
    go_ret
    exact ⟨rfl, by (repeat' (first | with_reducible exact Kp.refl _ _ | with_reducible refine Kp.alloc ?_ _ | with_reducible refine Kp.drewN ?_ _ | with_reducible refine Kp.drew ?_ | with_reducible refine Kp.setCell ?_ _ ?_ | (intro hh; first | rfl | exact .inl rfl | exact .inr rfl | (exfalso; (try dsimp only at hh); omega))))⟩
end Go.Proofs.YtellieabhaphhaaGreatDoor
