import Derived.Test.YtellieabhaphhaaGreatDoorPartC
import Derived.Test.YtellieabhaphhaaGreatDoorPartD
import Derived.Test.YtellieabhaphhaaGreatDoorPartL
import Derived.Test.YtellieabhaphhaaGreatDoorPartK
/-
  narrowref's flow: sets.
-/
namespace Go.Proofs.YtellieabhaphhaaGreatDoor
open Go.RowKit

set_option maxHeartbeats 400000 in
theorem fin_c (c : Nat) (s : ByteArray) (w : World) (hs : s.size ≤ 1000) :
    Calls Tryz.prog 74 #[.string s, .int .u8 c] w fun e w' => e = .returned (.bool (amF c s.data.toList)) ∧ w' = w := by
  go_enter Tryz.func74, Tryz.ntmps74
  go_wp2_with (go_at_call 121; refine (among_c c _ _ hs).mono ?_; rintro e w' ⟨rfl, rfl⟩)
  go_ret
  exact ⟨rfl, rfl⟩

/-- The signs chosen among the first j. -/
def selN (p : Nat → Bool) (j : Nat) : ByteArray := ⟨((KS.take j).filter (fun u => p u.toNat)).toArray⟩

theorem selN_all (p : Nat → Bool) : selN p 7 = selB p := rfl

theorem selN_yes (p : Nat → Bool) (j : Nat) (hj : j < 7) (h : p (KB[j]'hj).toNat = true) : selN p j ++ KB.extract j (j + 1) = selN p (j + 1) := by
  have h : p (KS[j]'hj).toNat = true := h
  have e : KB.extract j (j + 1) = ⟨#[KS[j]'hj]⟩ := by
    rcases (show j = 0 ∨ j = 1 ∨ j = 2 ∨ j = 3 ∨ j = 4 ∨ j = 5 ∨ j = 6 by omega) with rfl | rfl | rfl | rfl | rfl | rfl | rfl <;> rfl
  rw [e]
  unfold selN
  rw [List.take_succ_eq_append_getElem hj, List.filter_append]
  simp only [List.filter_cons, h, if_true, List.filter_nil]
  apply ByteArray.ext
  simp

theorem selN_no (p : Nat → Bool) (j : Nat) (hj : j < 7) (h : p (KB[j]'hj).toNat = false) : selN p j = selN p (j + 1) := by
  have h : p (KS[j]'hj).toNat = false := h
  unfold selN
  rw [List.take_succ_eq_append_getElem hj, List.filter_append]
  simp [h]

theorem selN_size (p : Nat → Bool) (j : Nat) : (selN p j).size ≤ 7 := by
  show (List.filter _ _).toArray.size ≤ 7
  rw [List.size_toArray]
  exact Nat.le_trans (List.length_filter_le _ _) (by rw [List.length_take]; exact Nat.min_le_right _ _)

set_option maxHeartbeats 800000 in
theorem both_c (a b : ByteArray) (w : World) (ha : a.size ≤ 1000) (hb : b.size ≤ 1000) :
    Calls Tryz.prog 117 #[.string a, .string b] w fun e w' => e = .returned (.string (bothB a b)) ∧ w' = w := by
  have HA := hide (fun c => fin_c c a w ha)
  have HB := hide (fun c => fin_c c b w hb)
  clear ha hb
  go_enter Tryz.func117, Tryz.ntmps117
  go_wp2
  go_loopg [5, 6] 7 (fun k tv iv wr => ∃ j : Nat, j ≤ 7 ∧ k = 7 - j ∧ iv = .int .i64 j ∧ tv = .string (selN (fun c => amF c a.data.toList && amF c b.data.toList) j) ∧ wr = w)
  case atStart => exact ⟨0, by decide, rfl, rfl, rfl, rfl⟩
  case round =>
    obtain ⟨j, hj, hk, rfl, rfl, rfl⟩ := hrel
    have HKK := hide hk
    clear hk
    by_cases hlt : j < 7
    · have HY := hide (selN_yes (fun c => amF c a.data.toList && amF c b.data.toList) j hlt)
      have HN := hide (selN_no (fun c => amF c a.data.toList && amF c b.data.toList) j hlt)
      have hsz := selN_size (fun c => amF c a.data.toList && amF c b.data.toList) j
      have hrel : ∀ tj, selN (fun c => amF c a.data.toList && amF c b.data.toList) (j + 1) = tj → Hid (selN (fun c => amF c a.data.toList && amF c b.data.toList) (j + 1) = tj) := fun _ h => h
      generalize selN (fun c => amF c a.data.toList && amF c b.data.toList) j = tj at *
      go_wp2_with fail
      refine (HA.out _).mono ?_
      rintro e w' ⟨rfl, rfl⟩
      go_wp2_with fail
      refine (HB.out _).mono ?_
      rintro e w' ⟨rfl, rfl⟩
      generalize amF _ a.data.toList = p at *
      generalize amF _ b.data.toList = q at *
      clear HA HB
      cases p <;> cases q
      all_goals
        go_wp2
        go_roundg (7 - (j + 1))
        case measure => have := HKK.out; omega
        case rel => exact ⟨j + 1, by omega, rfl, by go_num, by first | rw [← HN.out rfl] | rw [← HY.out rfl], rfl⟩
    · obtain rfl : j = 7 := by omega
      go_wp2
      go_ret
      exact ⟨rfl, rfl⟩

set_option maxHeartbeats 800000 in
theorem either_c (a b : ByteArray) (w : World) (ha : a.size ≤ 1000) (hb : b.size ≤ 1000) :
    Calls Tryz.prog 182 #[.string a, .string b] w fun e w' => e = .returned (.string (eitherB a b)) ∧ w' = w := by
  have HA := hide (fun c => fin_c c a w ha)
  have HB := hide (fun c => fin_c c b w hb)
  clear ha hb
  go_enter Tryz.func182, Tryz.ntmps182
  go_wp2
  go_loopg [5, 6] 7 (fun k tv iv wr => ∃ j : Nat, j ≤ 7 ∧ k = 7 - j ∧ iv = .int .i64 j ∧ tv = .string (selN (fun c => amF c a.data.toList || amF c b.data.toList) j) ∧ wr = w)
  case atStart => exact ⟨0, by decide, rfl, rfl, rfl, rfl⟩
  case round =>
    obtain ⟨j, hj, hk, rfl, rfl, rfl⟩ := hrel
    have HKK := hide hk
    clear hk
    by_cases hlt : j < 7
    · have HY := hide (selN_yes (fun c => amF c a.data.toList || amF c b.data.toList) j hlt)
      have HN := hide (selN_no (fun c => amF c a.data.toList || amF c b.data.toList) j hlt)
      have hsz := selN_size (fun c => amF c a.data.toList || amF c b.data.toList) j
      have hrel : ∀ tj, selN (fun c => amF c a.data.toList || amF c b.data.toList) (j + 1) = tj → Hid (selN (fun c => amF c a.data.toList || amF c b.data.toList) (j + 1) = tj) := fun _ h => h
      generalize selN (fun c => amF c a.data.toList || amF c b.data.toList) j = tj at *
      go_wp2_with fail
      refine (HA.out _).mono ?_
      rintro e w' ⟨rfl, rfl⟩
      go_wp2_with fail
      refine (HB.out _).mono ?_
      rintro e w' ⟨rfl, rfl⟩
      generalize amF _ a.data.toList = p at *
      generalize amF _ b.data.toList = q at *
      clear HA HB
      cases p <;> cases q
      all_goals
        go_wp2
        go_roundg (7 - (j + 1))
        case measure => have := HKK.out; omega
        case rel => exact ⟨j + 1, by omega, rfl, by go_num, by first | rw [← HN.out rfl] | rw [← HY.out rfl], rfl⟩
    · obtain rfl : j = 7 := by omega
      go_wp2
      go_ret
      exact ⟨rfl, rfl⟩

theorem sub_take (a b : ByteArray) (k : Nat) (h : k < a.size) : ((a.data.toList.take (k + 1)).all (fun u => amF u.toNat b.data.toList)) = ((a.data.toList.take k).all (fun u => amF u.toNat b.data.toList) && amF (a[k]).toNat b.data.toList) := by
  rw [List.take_succ_eq_append_getElem (by simpa using h), List.all_append]; simp; rfl
theorem sub_mono (a b : ByteArray) (k : Nat) (h : ((a.data.toList.take k).all (fun u => amF u.toNat b.data.toList)) = false) : subB a b = false := by
  simp only [subB, List.all_eq_false] at h ⊢
  obtain ⟨x, hx, e⟩ := h
  exact ⟨x, List.mem_of_mem_take hx, e⟩

set_option maxHeartbeats 800000 in
theorem within_c (a b : ByteArray) (w : World) (ha : a.size ≤ 1000) (hb : b.size ≤ 1000) :
    Calls Tryz.prog 75 #[.string a, .string b] w fun e w' => e = .returned (.bool (subB a b)) ∧ w' = w := by
  have HB := hide (fun c => fin_c c b w hb)
  clear hb
  go_enter Tryz.func75, Tryz.ntmps75
  go_wp2
  go_loopg [5] a.size (fun k iv wr => ∃ j : Nat, j ≤ a.size ∧ k = a.size - j ∧ iv = .int .i64 j ∧ ((a.data.toList.take j).all (fun u => amF u.toNat b.data.toList)) = true ∧ wr = w)
  case atStart => exact ⟨0, Nat.zero_le _, rfl, rfl, rfl, rfl⟩
  case round =>
    obtain ⟨j, hj, hk, rfl, ht, rfl⟩ := hrel
    have HKK := hide hk
    have HT := hide ht
    clear hk ht
    by_cases hlt : j < a.size
    · have HS := hide (sub_take a b j hlt)
      have HM := hide (sub_mono a b (j + 1))
      rw [HT.out, Bool.true_and] at HS
      rw [HS.out] at HM
      go_wp2_with fail
      refine (HB.out _).mono ?_
      rintro e w' ⟨rfl, rfl⟩
      generalize amF _ b.data.toList = q at *
      cases q
      · go_wp2
        go_ret
        rw [HM.out trivial]
        exact ⟨rfl, rfl⟩
      · go_wp2
        go_roundg (a.size - (j + 1))
        case measure => have := HKK.out; omega
        case rel => exact ⟨j + 1, by omega, rfl, by go_num, HS.out, rfl⟩
    · have HF := hide (show subB a b = true by
        have := HT.out
        rwa [List.take_of_length_le (by simp; omega)] at this)
      go_wp2
      go_ret
      rw [HF.out]
      exact ⟨rfl, rfl⟩
end Go.Proofs.YtellieabhaphhaaGreatDoor

/-
  narrowref's flow: states.
-/
namespace Go.Proofs.YtellieabhaphhaaGreatDoor
open Go.RowKit

theorem info_str : (Tryz.prog.info? 9).map (fun i => (i.zero, i.size, i.bytes)) = some (some (.string ⟨#[]⟩), 1, 16) := by kernel_rfl

/-- A state's slice. -/
abbrev SV (w : World) (v : Value) (s : St) : Prop := Row w v 9 1 s.length (sgS s)

theorem sgS_len (s : St) : (sgS s).length = s.length := by simp [sgS]

theorem SV.shape {w : World} {v : Value} {s : St} (h : SV w v s) : ∃ a cap, v = .slice a s.length cap := by
  rcases h.2 with ⟨rfl, h0⟩ | ⟨g, cap, cur, rfl, _⟩
  · exact ⟨none, 0, by rw [h0]⟩
  · exact ⟨_, _, rfl⟩

theorem SV.nil (w : World) : SV w (.slice none 0 0) [] := ⟨rfl, .inl ⟨rfl, rfl⟩⟩

theorem SV.at {w : World} {a : Option Addr} {cap n : Nat} {s : St} (h : Row w (.slice a n cap) 9 1 n (sgS s)) {k : Nat} (hk : k < n) :
    ∃ g, a = some ⟨g, 0, none⟩ ∧ g < w.heap.size ∧ w.cell? ⟨g, k, none⟩ = some (.string (sgB (s.getD k 0))) := by
  obtain ⟨g, cap', e, _, hg⟩ := World.ownsRow.form h (by omega)
  injection e with e1 e2 e3
  subst e1
  have hk : k < s.length := by have := h.1; rw [sgS_len] at this; omega
  refine ⟨g, rfl, Row.lt h (b := g) rfl, ?_⟩
  rw [Row.cell h _ (by omega)]
  simp [sgS, List.getD_eq_getElem?_getD, List.getElem?_eq_getElem hk]

theorem set_take (s : St) (x m : Nat) (hx : x < s.length) : (∀ j, j = x → (sgS (s.set x m)).take (j + 1) = (sgS (s.set x m)).take j ++ [.string (sgB m)]) ∧ (∀ j, j < s.length → j ≠ x → (sgS (s.set x m)).take (j + 1) = (sgS (s.set x m)).take j ++ [.string (sgB (s.getD j 0))]) := by
  constructor
  · rintro j rfl
    rw [List.take_succ_eq_append_getElem (by simpa [sgS] using hx)]
    simp [sgS]
  · intro j hj hne
    rw [List.take_succ_eq_append_getElem (by simpa [sgS] using hj)]
    simp [sgS, hj, Ne.symm hne]

/-- A value's block is a new one. -/
def New (w : World) (v : Value) : Prop := ∀ b, v.ownBlock = some b → w.heap.size ≤ b

theorem New.none (w : World) : New w (.slice none 0 0) := fun b h => by cases h

/-- Behind an append of a string. -/
theorem app_step {w wr w' : World} {tv : Value} {o : Obj} {g : Nat} (HN : New w tv) (HK : Kp no w wr) (hgrow : (wr.alloc o).grownBy w' tv.ownBlock) (hat : tv.ownBlock = some g ∨ g = (wr.alloc o).heap.size) (n cap : Nat) :
    New w (.slice (some ⟨g, 0, none⟩) n cap) ∧ Kp no w w' := by
  have hsz := HK.size
  refine ⟨fun b hb => ?_, (HK.alloc _).grown hgrow (fun k hk e => by have := HN k e; omega)⟩
  have hb' : g = b := by simpa [Value.ownBlock] using hb
  subst hb'
  rcases hat with h | h
  · exact HN _ h
  · simp at h; omega

set_option maxRecDepth 100000 in
set_option maxHeartbeats 1600000 in
theorem with_c (v : Value) (s : St) (x m : Nat) (w : World) (h : SV w v s) (hs : SOk s) (hx : x < 6) (hm : m < 128) :
    Calls Tryz.prog 118 #[v, .int .i64 x, .string (sgB m)] w fun e w' => ∃ u, e = .returned u ∧ SV w' u (withS s x m) ∧ New w u ∧ Kp no w w' := by
  obtain ⟨i0, hi, hz0, hz1, hz2⟩ := info_parts info_str
  obtain ⟨a, cap, rfl⟩ := h.shape
  by_cases h0 : s = []
  · subst h0
    have HE := hide (show withS [] x m = [] from rfl)
    go_enter Tryz.func118, Tryz.ntmps118
    go_wp2
    go_ret
    exact ⟨_, rfl, by rw [HE.out]; exact SV.nil _, New.none _, Kp.refl _ _⟩
  by_cases hm0 : m = 0
  · subst hm0
    have HE := hide (show withS s x 0 = [] by simp [withS])
    have h6 := (hs.resolve_left h0).1
    rw [sg_zero]
    go_enter Tryz.func118, Tryz.ntmps118
    go_wp2
    go_ret
    exact ⟨_, rfl, by rw [HE.out]; exact SV.nil _, New.none _, Kp.refl _ _⟩
  · have h6 := (hs.resolve_left h0).1
    have HE := hide (show withS s x m = s.set x m by rw [withS, if_neg (by simp [h0, hm0])])
    have hne : (sgB m).toList.isEmpty = false := by
      have h1 : sgB m ≠ ⟨#[]⟩ := fun e => hm0 ((sg_empty hm).1 e)
      rw [ByteArray.toList_eq]
      cases hl : (sgB m).data.toList with
      | nil => exact absurd (ByteArray.ext (by simpa using hl)) h1
      | cons _ _ => rfl
    have HS := hide (set_take s x m (by omega))
    have hzz : Hid (sgB m = sgB m) := rfl
    have hsz := sg_size m
    have HX := hide (show ∀ j, j < 6 → ∃ l : List Value, (sgS (s.set x m)).take j = l ∧ l.length = j ∧ (j = x → (sgS (s.set x m)).take (j + 1) = l ++ [.string (sgB m)]) ∧ (j ≠ x → (sgS (s.set x m)).take (j + 1) = l ++ [.string (sgB (s.getD j 0))]) from fun j hj => ⟨_, rfl, by simp [sgS]; omega, HS.out.1 j, HS.out.2 j (by omega)⟩)
    have HXL := hide (show (sgS (s.set x m)).take 6 = sgS (s.set x m) from List.take_of_length_le (by simp [sgS]; omega))
    have HL2 := hide (show (s.set x m).length = 6 by simp [h6])
    rw [HE.out]
    clear HS hzz h0 hm0
    generalize sgB m = z at *
    generalize hR : sgS (s.set x m) = R at *
    have HRR := hide hR
    clear hR
    have h' : Row w (.slice a s.length cap) 9 1 s.length (sgS s) := h
    clear h
    rw [h6] at h' ⊢
    have H6 := hide h6
    clear h6
    go_enter Tryz.func118, Tryz.ntmps118
    go_wp2
    go_loopg [7, 8] 6 (fun k tv iv wr => ∃ j : Nat, j ≤ 6 ∧ k = 6 - j ∧ iv = .int .i64 j ∧ Row wr tv 9 1 j (R.take j) ∧ New w tv ∧ Kp no w wr)
    case atStart => exact ⟨0, Nat.zero_le _, rfl, rfl, ⟨rfl, .inl ⟨rfl, rfl⟩⟩, New.none _, Kp.refl _ _⟩
    case round =>
      obtain ⟨j, hj, hk, rfl, hrow, hnew, kr⟩ := hrel
      have HKK := hide hk
      have HR := hide hrow
      have HN := hide hnew
      have HK := hide kr
      clear hk hrow hnew kr
      by_cases hlt : j < 6
      · obtain ⟨l, e1, e2, e3, e4⟩ := HX.out j hlt
        rw [e1] at HR
        have HE3 := hide e3
        have HE4 := hide e4
        have HE2 := hide e2
        clear e1 e2 e3 e4 HX
        by_cases hjx : j = x
        · subst hjx
          have hone : ∀ u ∈ [Value.string z], u.oneCell' = true := by simp [Value.oneCell']
          go_wp2_with (at_builtin; refine wpList_append_lies _ rfl (.tmp 25) (.tmp 27) 65 rfl 0 9 i0 _ 1 16 Tryz.underlying65 hi hz0 hz1 hz2 rfl (by decide) _ j l (by simp [Act.eval]; rfl) (by exact World.ownsRow.alloc HR.out _) ⟨wr.heap.size, 0, none⟩ 1 1 [.string z] (by simp [Act.eval]) rfl (by exact Blk.news (Blk.new wr [.string z] _)) hone (by decide) (by unfold maxLen; omega) (by omega) (Nat.zero_le _) _ rfl ?_; intro g cap w' hown hgrow hat hlt)
          go_roundg (6 - (j + 1))
          case measure => have := HKK.out; omega
          case rel =>
            have ha := app_step HN.out HK.out hgrow hat (j + 1) cap
            exact ⟨j + 1, by omega, rfl, by go_num, by rw [HE3.out trivial]; exact hown, ha.1, ha.2⟩
        · obtain ⟨g0, rfl, hg0, hc0⟩ := SV.at (HK.out.row h' (fun _ _ => no_elim)) (k := j) (by omega)
          have HE5 := hide (HE4.out hjx)
          have hsz := sg_size (s.getD j 0)
          have hjx' : ((j : Int) == x) = false := by simp; omega
          clear HE3 HE4 h'
          generalize sgB (s.getD j 0) = zj at *
          have hone : ∀ u ∈ [Value.string zj], u.oneCell' = true := by simp [Value.oneCell']
          go_wp2_with (at_builtin; refine wpList_append_lies _ rfl (.tmp 29) (.tmp 34) 65 rfl 0 9 i0 _ 1 16 Tryz.underlying65 hi hz0 hz1 hz2 rfl (by decide) _ j l (by simp [Act.eval]; rfl) (by exact World.ownsRow.alloc HR.out _) ⟨wr.heap.size, 0, none⟩ 1 1 [.string zj] (by simp [Act.eval]) rfl (by exact Blk.news (Blk.new wr [.string zj] _)) hone (by decide) (by unfold maxLen; omega) (by omega) (Nat.zero_le _) _ rfl ?_; intro g cap w' hown hgrow hat hlt)
          go_roundg (6 - (j + 1))
          case measure => have := HKK.out; omega
          case rel =>
            have ha := app_step HN.out HK.out hgrow hat (j + 1) cap
            exact ⟨j + 1, by omega, rfl, by go_num, by rw [HE5.out]; exact hown, ha.1, ha.2⟩
      · obtain rfl : j = 6 := by omega
        go_wp2
        go_ret
        refine ⟨_, rfl, ?_, HN.out, HK.out⟩
        have := HR.out
        rw [HXL.out] at this
        show Row _ _ _ _ (s.set x m).length (sgS (s.set x m))
        rw [HL2.out, HRR.out]
        exact this
end Go.Proofs.YtellieabhaphhaaGreatDoor

/-
  narrowref's flow: the first state, and the join of two.
-/
namespace Go.Proofs.YtellieabhaphhaaGreatDoor
open Go.RowKit

theorem sg_z : sgB 8 = ⟨#[122]⟩ := by decide

set_option maxRecDepth 100000 in
set_option maxHeartbeats 1600000 in
theorem start_c (w : World) :
    Calls Tryz.prog 41 #[] w fun e w' => ∃ u, e = .returned u ∧ SV w' u [8, 8, 8, 8, 8, 8] ∧ New w u ∧ Kp no w w' := by
  obtain ⟨i0, hi, hz0, hz1, hz2⟩ := info_parts info_str
  have HX := hide (show ∀ j, j < 6 → ∃ l : List Value, (sgS [8, 8, 8, 8, 8, 8]).take j = l ∧ (sgS [8, 8, 8, 8, 8, 8]).take (j + 1) = l ++ [.string ⟨#[122]⟩] from fun j hj => ⟨_, rfl, by
    rw [← sg_z]
    rcases (show j = 0 ∨ j = 1 ∨ j = 2 ∨ j = 3 ∨ j = 4 ∨ j = 5 by omega) with rfl | rfl | rfl | rfl | rfl | rfl <;> rfl⟩)
  have HXL := hide (show (sgS [8, 8, 8, 8, 8, 8]).take 6 = sgS [8, 8, 8, 8, 8, 8] from rfl)
  generalize hR : sgS [8, 8, 8, 8, 8, 8] = R at *
  have HRR := hide hR
  clear hR
  go_enter Tryz.func41, Tryz.ntmps41
  go_wp2
  go_loopg [1, 2] 6 (fun k tv iv wr => ∃ j : Nat, j ≤ 6 ∧ k = 6 - j ∧ iv = .int .i64 j ∧ Row wr tv 9 1 j (R.take j) ∧ New w tv ∧ Kp no w wr)
  case atStart => exact ⟨0, Nat.zero_le _, rfl, rfl, ⟨rfl, .inl ⟨rfl, rfl⟩⟩, New.none _, Kp.refl _ _⟩
  case round =>
    obtain ⟨j, hj, hk, rfl, hrow, hnew, kr⟩ := hrel
    have HKK := hide hk
    have HR := hide hrow
    have HN := hide hnew
    have HK := hide kr
    clear hk hrow hnew kr
    by_cases hlt : j < 6
    · obtain ⟨l, e1, e2⟩ := HX.out j hlt
      rw [e1] at HR
      have HE3 := hide e2
      clear e1 e2 HX
      have hone : ∀ u ∈ [Value.string ⟨#[122]⟩], u.oneCell' = true := by simp [Value.oneCell']
      go_wp2_with (at_builtin; refine wpList_append_lies _ rfl (.tmp 7) (.tmp 8) 65 rfl 0 9 i0 _ 1 16 Tryz.underlying65 hi hz0 hz1 hz2 rfl (by decide) _ j l (by simp [Act.eval]; rfl) (by exact World.ownsRow.alloc HR.out _) ⟨wr.heap.size, 0, none⟩ 1 1 [.string ⟨#[122]⟩] (by simp [Act.eval]) rfl (by exact Blk.news (Blk.new wr [.string ⟨#[122]⟩] _)) hone (by decide) (by unfold maxLen; omega) (by omega) (Nat.zero_le _) _ rfl ?_; intro g cap w' hown hgrow hat hlt)
      go_roundg (6 - (j + 1))
      case measure => have := HKK.out; omega
      case rel =>
        have ha := app_step HN.out HK.out hgrow hat (j + 1) cap
        exact ⟨j + 1, by omega, rfl, by go_num, by rw [HE3.out]; exact hown, ha.1, ha.2⟩
    · obtain rfl : j = 6 := by omega
      go_wp2
      go_ret
      refine ⟨_, rfl, ?_, HN.out, HK.out⟩
      have := HR.out
      rw [HXL.out] at this
      show Row _ _ _ _ 6 (sgS [8, 8, 8, 8, 8, 8])
      rw [HRR.out]
      exact this

theorem zip_take (a b : St) (h : a.length = b.length) (j : Nat) (hj : j < a.length) :
    (sgS (List.zipWith (· ||| ·) a b)).take (j + 1) = (sgS (List.zipWith (· ||| ·) a b)).take j ++ [.string (sgB (a.getD j 0 ||| b.getD j 0))] ∧
    decide ((List.zipWith (· ||| ·) a b).take (j + 1) ≠ a.take (j + 1)) = (decide ((List.zipWith (· ||| ·) a b).take j ≠ a.take j) || decide (a.getD j 0 ||| b.getD j 0 ≠ a.getD j 0)) := by
  have hb : j < b.length := by omega
  have hz : j < (List.zipWith (· ||| ·) a b).length := by rw [List.length_zipWith]; omega
  constructor
  · rw [List.take_succ_eq_append_getElem (by simpa [sgS] using hz)]
    simp [sgS, hj, hb]
  · rw [List.take_succ_eq_append_getElem hz, List.take_succ_eq_append_getElem hj, List.getElem_zipWith]
    simp only [List.getD_eq_getElem?_getD, List.getElem?_eq_getElem hj, List.getElem?_eq_getElem hb, Option.getD_some]
    by_cases h1 : (List.zipWith (· ||| ·) a b).take j = a.take j
    · rw [h1]
      have e1 : (List.take j a ++ [a[j] ||| b[j]] = List.take j a ++ [a[j]]) ↔ a[j] ||| b[j] = a[j] := ⟨fun e => by simpa using List.append_cancel_left e, fun e => by rw [e]⟩
      have e2 : decide (List.take j a ≠ List.take j a) = false := by simp
      rw [e2, Bool.false_or, decide_eq_decide]
      exact not_congr e1
    · have : ¬ (List.take j (List.zipWith (· ||| ·) a b) ++ [a[j] ||| b[j]] = List.take j a ++ [a[j]]) := fun e => h1 (List.append_inj_left e (by simp; omega))
      rw [decide_eq_true (by exact this), decide_eq_true (by exact h1), Bool.true_or]

theorem bytes_eqb (a b : ByteArray) : (a.toList == b.toList) = decide (a = b) := by
  rw [ByteArray.toList_eq, ByteArray.toList_eq, Bool.eq_iff_iff, beq_iff_eq, decide_eq_true_iff]
  exact ⟨fun e => ByteArray.ext (by simpa using e), fun e => by rw [e]⟩
theorem bytes_ne (a b : ByteArray) : (!(a.toList == b.toList)) = decide (¬ a = b) := by rw [bytes_eqb, decide_not]

set_option maxRecDepth 100000 in
set_option maxHeartbeats 1600000 in
theorem join_c (va vb : Value) (a b : St) (w : World) (ha : SV w va a) (hb : SV w vb b) (oa : SOk a) (ob : SOk b) :
    Calls Tryz.prog 166 #[va, vb] w fun e w' => ∃ u, e = .returned (.tuple #[u, .bool (joinR a b).2]) ∧ SV w' u (joinR a b).1 ∧ (u = va ∨ u = vb ∨ New w u) ∧ Kp no w w' := by
  obtain ⟨i0, hi, hz0, hz1, hz2⟩ := info_parts info_str
  obtain ⟨aa, ca, rfl⟩ := ha.shape
  obtain ⟨ab, cb, rfl⟩ := hb.shape
  by_cases hb0 : b = []
  · subst hb0
    have HE := hide (show joinR a [] = (a, false) from rfl)
    rw [HE.out]
    have HA := hide ha
    clear ha
    go_enter Tryz.func166, Tryz.ntmps166
    go_wp2
    go_ret2
    exact ⟨_, rfl, HA.out, .inl rfl, Kp.refl _ _⟩
  have hb6 := (ob.resolve_left hb0).1
  by_cases ha0 : a = []
  · subst ha0
    have HE := hide (show joinR [] b = (b, true) by simp [joinR, hb0])
    rw [HE.out]
    have HB := hide hb
    clear hb
    have hq : ((b.length : Int) == 0) = false := by rw [hb6]; rfl
    clear hb6
    go_enter Tryz.func166, Tryz.ntmps166
    go_wp2
    go_ret2
    exact ⟨_, rfl, HB.out, .inr (.inl rfl), Kp.refl _ _⟩
  · have ha6 := (oa.resolve_left ha0).1
    have HE := hide (show joinR a b = (List.zipWith (· ||| ·) a b, decide (List.zipWith (· ||| ·) a b ≠ a)) by simp [joinR, hb0, ha0])
    rw [HE.out]
    have HZ := hide (zip_take a b (by omega))
    have HL := hide (show (List.zipWith (· ||| ·) a b).length = 6 by rw [List.length_zipWith]; omega)
    have HAL := hide (show a.length = 6 from ha6)
    generalize hZZ : List.zipWith (· ||| ·) a b = Z at *
    clear hZZ
    have ha' : Row w (.slice aa a.length ca) 9 1 a.length (sgS a) := ha
    have hb' : Row w (.slice ab b.length cb) 9 1 b.length (sgS b) := hb
    rw [ha6] at ha' ⊢
    rw [hb6] at hb' ⊢
    clear ha6 hb6 ha0 hb0 ha hb
    go_enter Tryz.func166, Tryz.ntmps166
    go_wp2
    go_loopg [6, 7, 8] 6 (fun k tv uv iv wr => ∃ j : Nat, j ≤ 6 ∧ k = 6 - j ∧ iv = .int .i64 j ∧ Row wr tv 9 1 j ((sgS Z).take j) ∧ uv = .bool (decide (Z.take j ≠ a.take j)) ∧ New w tv ∧ Kp no w wr)
    case atStart => exact ⟨0, Nat.zero_le _, rfl, rfl, ⟨rfl, .inl ⟨rfl, rfl⟩⟩, rfl, New.none _, Kp.refl _ _⟩
    case round =>
      obtain ⟨j, hj, hk, rfl, hrow, rfl, hnew, kr⟩ := hrel
      have HKK := hide hk
      have HR := hide hrow
      have HN := hide hnew
      have HK := hide kr
      clear hk hrow hnew kr
      by_cases hlt : j < 6
      · obtain ⟨e1, e2⟩ := HZ.out j (by rw [HAL.out]; exact hlt)
        obtain ⟨g1, rfl, hg1w, hc1w⟩ := SV.at ha' (k := j) hlt
        obtain ⟨g2, rfl, hg2w, hc2w⟩ := SV.at hb' (k := j) hlt
        have hc1 := (HK.out.cell hg1w no_elim j).trans hc1w
        have hc2 := (HK.out.cell hg2w no_elim j).trans hc2w
        have HC1 := hide hc1w
        have hg1 := Nat.lt_of_lt_of_le hg1w HK.out.size
        have hg2 := Nat.lt_of_lt_of_le hg2w HK.out.size
        clear hc1w hc2w
        have HEI := hide (fun W => either_c (sgB (a.getD j 0)) (sgB (b.getD j 0)) W (Nat.le_trans (sg_size _) (by decide)) (Nat.le_trans (sg_size _) (by decide)))
        rw [either_sg] at HEI
        have HE1 := hide e1
        have HE2 := hide e2
        clear e1 e2 HZ ha' hb'
        have hjI : (j : Int) < 6 := by omega
        have HV := hide (show (sgB (a.getD j 0 ||| b.getD j 0) = sgB (a.getD j 0)) ↔ a.getD j 0 ||| b.getD j 0 = a.getD j 0 from ⟨fun e => sg_inj (or_lt (oa.get j) (ob.get j)) (oa.get j) e, fun e => by rw [e]⟩)
        have hs1 := sg_size (a.getD j 0 ||| b.getD j 0)
        generalize sgB (a.getD j 0 ||| b.getD j 0) = zc at *
        generalize sgB (a.getD j 0) = za at *
        generalize sgB (b.getD j 0) = zb at *
        generalize hl : (sgS Z).take j = l at *
        generalize hq : decide (Z.take j ≠ a.take j) = q at *
        clear hl hq
        have hone : ∀ u ∈ [Value.string zc], u.oneCell' = true := by simp [Value.oneCell']
        cases q
        all_goals
          go_wp2
          go_quiet ((go_at_call 182; exact Calls.quiet_of_same (HEI.out _)))
          go_wp2_with (at_builtin; refine wpList_append_lies _ rfl (.tmp 33) (.tmp 35) 65 rfl 0 9 i0 _ 1 16 Tryz.underlying65 hi hz0 hz1 hz2 rfl (by decide) _ j l (by simp [Act.eval]; rfl) (by exact World.ownsRow.alloc HR.out _) ⟨wr.heap.size, 0, none⟩ 1 1 [.string zc] (by simp [Act.eval]) rfl (by exact Blk.news (Blk.new _ [.string zc] _)) hone (by decide) (by unfold maxLen; omega) (by omega) (Nat.zero_le _) _ rfl ?_; intro g cap w' hown hgrow hat hlt; have hap := hide (app_step HN.out (HK.out.drewN _) hgrow hat (j + 1) cap); have hc1' := (hap.out.2.cell hg1w no_elim j).trans HC1.out; have hg1' := Nat.lt_of_lt_of_le hg1w hap.out.2.size)
          go_roundg (6 - (j + 1))
          case measure => have := HKK.out; omega
          case rel =>
            refine ⟨j + 1, by omega, rfl, by go_num, by rw [HE1.out]; exact hown, ?_, hap.out.1, hap.out.2⟩
            have h2 := HE2.out
            simp only [Bool.true_or, Bool.false_or] at h2
            rw [h2]
            all_goals rw [bytes_ne, decide_not, decide_not, decide_eq_decide.2 HV.out]
      · obtain rfl : j = 6 := by omega
        go_wp2
        go_ret2
        refine ⟨_, ?_, ?_, .inr (.inr HN.out), HK.out⟩
        · rw [List.take_of_length_le (by rw [HL.out]; exact Nat.le_refl _), List.take_of_length_le (by rw [HAL.out]; exact Nat.le_refl _)]
          rfl
        · have := HR.out
          rw [List.take_of_length_le (by rw [sgS_len, HL.out]; exact Nat.le_refl _)] at this
          show Row _ _ _ _ Z.length (sgS Z)
          rw [HL.out]
          exact this
end Go.Proofs.YtellieabhaphhaaGreatDoor

/-
  narrowref's flow: what a node gives, what comes behind it.
-/
namespace Go.Proofs.YtellieabhaphhaaGreatDoor
open Go.RowKit

set_option maxHeartbeats 400000 in
theorem ftest_c (n : Nd) (w : World) :
    Calls Tryz.prog 71 #[.agg #[.int .u8 n.op, .int .i64 n.x, .int .i64 n.y, .int .i64 n.v, .int .u8 n.k, .int .i64 n.t, .int .i64 n.f, .int .i64 n.a, .int .i64 n.l]] w fun e w' => e = .returned (.bool (decide (n.op = 121 ∨ n.op = 58))) ∧ Kp no w w' := by
  generalize n.op = o
  by_cases h1 : o = 121
  · subst h1
    go_enter Tryz.func71, Tryz.ntmps71
    go_wp2
    all_goals
      go_ret
      exact ⟨rfl, by (repeat' (first | with_reducible exact Kp.refl _ _ | with_reducible refine Kp.alloc ?_ _ | with_reducible refine Kp.drewN ?_ _ | with_reducible refine Kp.drew ?_ | with_reducible refine Kp.setCell ?_ _ ?_ | (intro hh; first | rfl | exact .inl rfl | exact .inr rfl | (exfalso; (try dsimp only at hh); omega))))⟩
  by_cases h2 : o = 58
  · subst h2
    go_enter Tryz.func71, Tryz.ntmps71
    go_wp2
    all_goals
      go_ret
      exact ⟨rfl, by (repeat' (first | with_reducible exact Kp.refl _ _ | with_reducible refine Kp.alloc ?_ _ | with_reducible refine Kp.drewN ?_ _ | with_reducible refine Kp.drew ?_ | with_reducible refine Kp.setCell ?_ _ ?_ | (intro hh; first | rfl | exact .inl rfl | exact .inr rfl | (exfalso; (try dsimp only at hh); omega))))⟩
  · have g1 : (o == 121) = false := by simp [h1]
    have g2 : (o == 58) = false := by simp [h2]
    rw [decide_eq_false (by simp [h1, h2])]
    go_enter Tryz.func71, Tryz.ntmps71
    go_wp2
    all_goals
      go_ret
      exact ⟨rfl, by (repeat' (first | with_reducible exact Kp.refl _ _ | with_reducible refine Kp.alloc ?_ _ | with_reducible refine Kp.drewN ?_ _ | with_reducible refine Kp.drew ?_ | with_reducible refine Kp.setCell ?_ _ ?_ | (intro hh; first | rfl | exact .inl rfl | exact .inr rfl | (exfalso; (try dsimp only at hh); omega))))⟩

theorem sg_1 : sgB 1 = ⟨#[110]⟩ := by decide
theorem sg_2 : sgB 2 = ⟨#[116]⟩ := by decide
theorem sg_4 : sgB 4 = ⟨#[102]⟩ := by decide
theorem sg_6 : sgB 6 = ⟨#[116, 102]⟩ := by decide
theorem sg_127 : sgB 127 = ⟨#[110, 116, 102, 122, 65, 66, 67]⟩ := by decide
theorem sg_16 : sgB 16 = ⟨#[65]⟩ := by decide
theorem sg_32 : sgB 32 = ⟨#[66]⟩ := by decide
theorem sg_64 : sgB 64 = ⟨#[67]⟩ := by decide
theorem sg_14 : sgB 14 = ⟨#[116, 102, 122]⟩ := by decide
theorem sg_48 : sgB 48 = ⟨#[65, 66]⟩ := by decide

theorem tak_sg (op : Int) : takF op = sgB (tkN op) := by
  unfold takF tkN
  repeat' split
  · exact sg_1.symm
  · exact sg_14.symm
  · exact sg_48.symm
  · exact sg_127.symm

theorem conv1' (W : World) (k : Int) (b : Nat) (hb : b = W.heap.size) : (convert 156 9 (.slice (some ⟨b, 0, none⟩) 1 1)).run Tryz.prog (W.alloc (.cells #[.int .u8 k] 5)) = .ok (.string (strOfNums [k])) (W.alloc (.cells #[.int .u8 k] 5)) := by
  subst hb; exact conv1 W k

/-- The ops of nodes that give a variable a value. -/
def opG (o : Int) : Prop := o = 48 ∨ o = 84 ∨ o = 70 ∨ o = 90 ∨ o = 67 ∨ o = 63 ∨ o = 118 ∨ o = 43 ∨ o = 60 ∨ o = 65 ∨ o = 66 ∨ o = 46

set_option maxRecDepth 100000 in
set_option maxHeartbeats 3200000 in
theorem gives_c (n : Nd) (y : Nat) (w : World) (ho : opG n.op) :
    Calls Tryz.prog 120 #[.agg #[.int .u8 n.op, .int .i64 n.x, .int .i64 n.y, .int .i64 n.v, .int .u8 n.k, .int .i64 n.t, .int .i64 n.f, .int .i64 n.a, .int .i64 n.l], .string (sgB y)] w fun e w' => e = .returned (.string (sgB (givN n.op y))) ∧ Kp no w w' := by
  have hA := hide (am_sg y 65 (by decide))
  have hB := hide (am_sg y 66 (by decide))
  have HI := hide (fun c W => fin_c c (sgB y) W (Nat.le_trans (sg_size _) (by decide)))
  have hsz := sg_size y
  have hc := conv1'
  generalize n.op = o at *
  unfold opG at ho
  rcases ho with rfl | rfl | rfl | rfl | rfl | rfl | rfl | rfl | rfl | rfl | rfl | rfl
  · rw [show sgB (givN 48 y) = ⟨#[110]⟩ from sg_1]
    generalize sgB y = z at *
    go_enter Tryz.func120, Tryz.ntmps120
    go_wp2
    go_ret
    exact ⟨rfl, by (repeat' (first | with_reducible exact Kp.refl _ _ | with_reducible refine Kp.alloc ?_ _ | with_reducible refine Kp.drewN ?_ _ | with_reducible refine Kp.drew ?_ | with_reducible refine Kp.setCell ?_ _ ?_ | (intro hh; first | rfl | exact .inl rfl | exact .inr rfl | (exfalso; (try dsimp only at hh); omega))))⟩
  · rw [show sgB (givN 84 y) = ⟨#[116]⟩ from sg_2]
    generalize sgB y = z at *
    go_enter Tryz.func120, Tryz.ntmps120
    go_wp2
    go_ret
    exact ⟨rfl, by (repeat' (first | with_reducible exact Kp.refl _ _ | with_reducible refine Kp.alloc ?_ _ | with_reducible refine Kp.drewN ?_ _ | with_reducible refine Kp.drew ?_ | with_reducible refine Kp.setCell ?_ _ ?_ | (intro hh; first | rfl | exact .inl rfl | exact .inr rfl | (exfalso; (try dsimp only at hh); omega))))⟩
  · rw [show sgB (givN 70 y) = ⟨#[102]⟩ from sg_4]
    generalize sgB y = z at *
    go_enter Tryz.func120, Tryz.ntmps120
    go_wp2
    go_ret
    exact ⟨rfl, by (repeat' (first | with_reducible exact Kp.refl _ _ | with_reducible refine Kp.alloc ?_ _ | with_reducible refine Kp.drewN ?_ _ | with_reducible refine Kp.drew ?_ | with_reducible refine Kp.setCell ?_ _ ?_ | (intro hh; first | rfl | exact .inl rfl | exact .inr rfl | (exfalso; (try dsimp only at hh); omega))))⟩
  · rw [show sgB (givN 90 y) = ⟨#[122]⟩ from sg_z]
    generalize sgB y = z at *
    go_enter Tryz.func120, Tryz.ntmps120
    go_wp2
    go_ret
    exact ⟨rfl, by (repeat' (first | with_reducible exact Kp.refl _ _ | with_reducible refine Kp.alloc ?_ _ | with_reducible refine Kp.drewN ?_ _ | with_reducible refine Kp.drew ?_ | with_reducible refine Kp.setCell ?_ _ ?_ | (intro hh; first | rfl | exact .inl rfl | exact .inr rfl | (exfalso; (try dsimp only at hh); omega))))⟩
  · rw [show sgB (givN 67 y) = strOfNums [67] from sg_64.trans (by decide)]
    generalize sgB y = z at *
    go_enter Tryz.func120, Tryz.ntmps120
    go_wp2
    go_ret
    exact ⟨rfl, by (repeat' (first | with_reducible exact Kp.refl _ _ | with_reducible refine Kp.alloc ?_ _ | with_reducible refine Kp.drewN ?_ _ | with_reducible refine Kp.drew ?_ | with_reducible refine Kp.setCell ?_ _ ?_ | (intro hh; first | rfl | exact .inl rfl | exact .inr rfl | (exfalso; (try dsimp only at hh); omega))))⟩
  · rw [show sgB (givN 63 y) = ⟨#[110, 116, 102, 122, 65, 66, 67]⟩ from sg_127]
    generalize sgB y = z at *
    go_enter Tryz.func120, Tryz.ntmps120
    go_wp2
    go_ret
    exact ⟨rfl, by (repeat' (first | with_reducible exact Kp.refl _ _ | with_reducible refine Kp.alloc ?_ _ | with_reducible refine Kp.drewN ?_ _ | with_reducible refine Kp.drew ?_ | with_reducible refine Kp.setCell ?_ _ ?_ | (intro hh; first | rfl | exact .inl rfl | exact .inr rfl | (exfalso; (try dsimp only at hh); omega))))⟩
  · rw [show sgB (givN 118 y) = sgB y from rfl]
    generalize sgB y = z at *
    go_enter Tryz.func120, Tryz.ntmps120
    go_wp2
    go_ret
    exact ⟨rfl, by (repeat' (first | with_reducible exact Kp.refl _ _ | with_reducible refine Kp.alloc ?_ _ | with_reducible refine Kp.drewN ?_ _ | with_reducible refine Kp.drew ?_ | with_reducible refine Kp.setCell ?_ _ ?_ | (intro hh; first | rfl | exact .inl rfl | exact .inr rfl | (exfalso; (try dsimp only at hh); omega))))⟩
  · rw [show sgB (givN 43 y) = ⟨#[110]⟩ from sg_1]
    generalize sgB y = z at *
    go_enter Tryz.func120, Tryz.ntmps120
    go_wp2
    go_ret
    exact ⟨rfl, by (repeat' (first | with_reducible exact Kp.refl _ _ | with_reducible refine Kp.alloc ?_ _ | with_reducible refine Kp.drewN ?_ _ | with_reducible refine Kp.drew ?_ | with_reducible refine Kp.setCell ?_ _ ?_ | (intro hh; first | rfl | exact .inl rfl | exact .inr rfl | (exfalso; (try dsimp only at hh); omega))))⟩
  · rw [show sgB (givN 60 y) = ⟨#[116, 102]⟩ from sg_6]
    generalize sgB y = z at *
    go_enter Tryz.func120, Tryz.ntmps120
    go_wp2
    go_ret
    exact ⟨rfl, by (repeat' (first | with_reducible exact Kp.refl _ _ | with_reducible refine Kp.alloc ?_ _ | with_reducible refine Kp.drewN ?_ _ | with_reducible refine Kp.drew ?_ | with_reducible refine Kp.setCell ?_ _ ?_ | (intro hh; first | rfl | exact .inl rfl | exact .inr rfl | (exfalso; (try dsimp only at hh); omega))))⟩
  · rw [show sgB (givN 65 y) = strOfNums [65] from sg_16.trans (by decide)]
    generalize sgB y = z at *
    go_enter Tryz.func120, Tryz.ntmps120
    go_wp2
    go_ret
    exact ⟨rfl, by (repeat' (first | with_reducible exact Kp.refl _ _ | with_reducible refine Kp.alloc ?_ _ | with_reducible refine Kp.drewN ?_ _ | with_reducible refine Kp.drew ?_ | with_reducible refine Kp.setCell ?_ _ ?_ | (intro hh; first | rfl | exact .inl rfl | exact .inr rfl | (exfalso; (try dsimp only at hh); omega))))⟩
  · rw [show sgB (givN 66 y) = strOfNums [66] from sg_32.trans (by decide)]
    generalize sgB y = z at *
    go_enter Tryz.func120, Tryz.ntmps120
    go_wp2
    go_ret
    exact ⟨rfl, by (repeat' (first | with_reducible exact Kp.refl _ _ | with_reducible refine Kp.alloc ?_ _ | with_reducible refine Kp.drewN ?_ _ | with_reducible refine Kp.drew ?_ | with_reducible refine Kp.setCell ?_ _ ?_ | (intro hh; first | rfl | exact .inl rfl | exact .inr rfl | (exfalso; (try dsimp only at hh); omega))))⟩
  · have HG := hide (show sgB (givN 46 y) = sgB ((if y.testBit 4 then 1 else 0) ||| (if y.testBit 5 then 14 else 0)) from rfl)
    rw [HG.out]
    have HA : Hid (amF 65 (sgB y).data.toList = y.testBit 4) := hA.out
    have HB : Hid (amF 66 (sgB y).data.toList = y.testBit 5) := hB.out
    have HIA := hide (fun W => HI.out 65 W)
    have HIB := hide (fun W => HI.out 66 W)
    rw [HA.out] at HIA
    rw [HB.out] at HIB
    clear hA hB HA HB HI HG
    generalize sgB y = z at *
    generalize y.testBit 4 = p at *
    generalize y.testBit 5 = q at *
    have HF := hide (show sgB ((if p = true then 1 else 0) ||| (if q = true then 14 else 0)) = (if p then ⟨#[110]⟩ else ⟨#[]⟩) ++ (if q then ⟨#[116, 102, 122]⟩ else ⟨#[]⟩) by cases p <;> cases q <;> decide)
    rw [HF.out]
    clear HF
    cases p <;> cases q
    all_goals
      simp only [if_true, Bool.false_eq_true, if_false]
      go_enter Tryz.func120, Tryz.ntmps120
      go_wp2_with (first | (go_at_call_of 0 (z); fail) | (go_at_call 74; first | (refine (HIA.out _).mono ?_; rintro e w' ⟨rfl, rfl⟩) | (refine (HIB.out _).mono ?_; rintro e w' ⟨rfl, rfl⟩)))
      go_ret
      exact ⟨rfl, by (repeat' (first | with_reducible exact Kp.refl _ _ | with_reducible refine Kp.alloc ?_ _ | with_reducible refine Kp.drewN ?_ _ | with_reducible refine Kp.drew ?_ | with_reducible refine Kp.setCell ?_ _ ?_ | (intro hh; first | rfl | exact .inl rfl | exact .inr rfl | (exfalso; (try dsimp only at hh); omega))))⟩
end Go.Proofs.YtellieabhaphhaaGreatDoor

/-
  narrow's flow: what comes along a way is what the answer says.
-/
namespace Go.Proofs.YtellieabhaphhaaGreatDoor
open Go.RowKit

/-- What comes along a way of a node. -/
def algF (n : Nd) (b : Bool) (S : St) : St := if n.op = 121 ∨ n.op = 58 then hldF n b S else behF n S

/-- Six sets, none empty. -/
structure Ful (S : St) : Prop where
  z : Z6 S
  ne : ∀ i, i < 6 → S.getD i 0 ≠ 0

theorem SOk.ful {S : St} (h : SOk S) (h0 : S ≠ []) : Ful S := by
  obtain ⟨h6, hm⟩ := h.resolve_left h0
  refine ⟨⟨h6, fun m hm' => (hm m hm').2⟩, fun i hi => ?_⟩
  rw [List.getD_eq_getElem?_getD, List.getElem?_eq_getElem (by omega), Option.getD_some]
  exact (hm _ (List.getElem_mem _)).1

theorem Ful.ex {S : St} (h : Ful S) : exS S = true := exS_yes (fun i hi => h.ne i (by rw [h.z.len] at hi; exact hi))
theorem Ful.nrm {S : St} (h : Ful S) : nrm S = S := by rw [Go.Proofs.YtellieabhaphhaaGreatDoor.nrm, h.ex]; rfl
theorem Ful.nil {S : St} (h : Ful S) : S ≠ [] := fun e => by have := h.z.len; rw [e] at this; cases this

theorem getD_set_self {S : St} {y m : Nat} (h : y < S.length) : (S.set y m).getD y 0 = m := by
  rw [List.getD_eq_getElem?_getD, List.getElem?_set_self h]; rfl
theorem getD_set_ne {S : St} {y z m : Nat} (h : y ≠ z) : (S.set y m).getD z 0 = S.getD z 0 := by
  rw [List.getD_eq_getElem?_getD, List.getElem?_set_ne h, ← List.getD_eq_getElem?_getD]

theorem Ful.set {S : St} (h : Ful S) (y : Nat) {m : Nat} (hm : m < 128) (h0 : m ≠ 0) (hy : y < 6) : Ful (S.set y m) := by
  refine ⟨h.z.set y hm, fun i hi => ?_⟩
  by_cases e : y = i
  · subst e; rw [getD_set_self (by rw [h.z.len]; exact hy)]; exact h0
  · rw [getD_set_ne e]; exact h.ne i hi

theorem nrm_zero {S : St} {y : Nat} (hy : y < S.length) (h : S.getD y 0 = 0) : nrm S = [] := by
  rw [nrm, exS_no hy h]; rfl

/-- A set that is set: the state is as 'with' says. -/
theorem nrm_set {S : St} (h : Ful S) {y m : Nat} (hy : y < 6) (hm : m < 128) : nrm (S.set y m) = withS S y m := by
  have hl := h.z.len
  by_cases h0 : m = 0
  · subst h0
    rw [nrm_zero (y := y) (by rw [List.length_set]; omega) (getD_set_self (by omega)), withS, if_pos (.inr rfl)]
  · rw [(h.set y hm h0 hy).nrm, withS, if_neg (by simp [h0, h.nil])]

theorem nrm_keep {S : St} (h : Ful S) {y m : Nat} (hy : y < 6) : nrm (keZ S y m) = withS S y (S.getD y 0 &&& m) := nrm_set h hy (and_lt m (h.z.get y))

theorem and_127 {m : Nat} (h : m < 128) : m &&& 127 = m := by
  have := Nat.and_two_pow_sub_one_eq_mod m 7
  rw [show 2 ^ 7 - 1 = 127 from rfl] at this
  rw [this]
  exact Nat.mod_eq_of_lt h

theorem set_self {S : St} {y : Nat} (h : y < S.length) : S.set y (S.getD y 0) = S := by
  rw [List.getD_eq_getElem?_getD, List.getElem?_eq_getElem h, Option.getD_some, List.set_getElem_self]

theorem keep_all {S : St} (h : Z6 S) {y : Nat} (hy : y < 6) : keZ S y 127 = S := by
  rw [keZ, and_127 (h.get y), set_self (by rw [h.len]; exact hy)]

theorem keep_twice {S : St} (h : Z6 S) {y m : Nat} (hy : y < 6) : keZ (keZ S y m) y m = keZ S y m := by
  have e : (keZ S y m).getD y 0 = S.getD y 0 &&& m := getD_set_self (by rw [h.len]; exact hy)
  rw [keZ, e, Nat.and_assoc, Nat.and_self]
  exact List.set_set ..

/-- What a node gives, by its op. -/
def giN (op : Int) (u : Nat) : Nat := if op = 94 ∨ op = 42 ∨ op = 121 ∨ op = 58 ∨ op = 126 then u else givN op u

theorem tk_of {op : Int} (h : opOk op) : tkM (actN op) = ((tkN op : Nat) : Int) := by
  unfold opOk at h
  rcases h with rfl | rfl | rfl | rfl | rfl | rfl | rfl | rfl | rfl | rfl | rfl | rfl | rfl | rfl | rfl | rfl | rfl | rfl <;> rfl
theorem tk_lt (op : Int) : tkN op < 128 := by unfold tkN; repeat' split
                                              all_goals decide

theorem gi_of {n : Nd} (h : opOk n.op) (h33 : n.op ≠ 33) (u : Nat) : giZ (actN n.op) (bit (consN n).k) u = ((giN n.op u : Nat) : Int) := by
  obtain ⟨op, nx, ny, nv, nk, nt, nf, na, nl⟩ := n
  dsimp only at *
  unfold opOk at h
  rcases h with rfl | rfl | rfl | rfl | rfl | rfl | rfl | rfl | rfl | rfl | rfl | rfl | rfl | rfl | rfl | rfl | rfl | rfl
  all_goals first | rfl | exact absurd rfl h33

theorem gi_lt (op : Int) (u : Nat) (h : u < 128) : giN op u < 128 := by
  unfold giN
  split
  · exact h
  · exact givN_lt op h

theorem act_le {op : Int} (h : opOk op) : 0 ≤ actN op ∧ actN op ≤ 14 := by
  unfold opOk at h
  rcases h with rfl | rfl | rfl | rfl | rfl | rfl | rfl | rfl | rfl | rfl | rfl | rfl | rfl | rfl | rfl | rfl | rfl | rfl <;> decide

theorem Z6.al {S : St} (h : Z6 S) (act : Int) (gi : Nat → Nat) (hg : ∀ u, u < 128 → gi u < 128) (x y : Nat) : Z6 (alZ act gi S x y) := by
  unfold alZ
  split
  · exact h.set x (hg _ (h.get y))
  · exact h

/-- Nodes that give a value. -/
theorem al_give {n : Nd} {S : St} (h : Ful S) {x y v : Nat} (hx : n.x = x) (hy : n.y = y) (hv : n.v = v) (hx6 : x < 6) (hy6 : y < 6) (hv6 : v < 6) (ho : opG n.op) :
    nrm (alZ (actN n.op) (giN n.op) (keZ (keZ S y (tkN n.op)) (if n.op = 43 ∨ n.op = 60 then v else y) (tkN n.op)) x y) = behF n S := by
  have hset : setF (actN n.op) = true := by
    unfold opG at ho
    rcases ho with e | e | e | e | e | e | e | e | e | e | e | e <;> rw [e] <;> rfl
  have hgi : giN n.op = givN n.op := by
    unfold opG at ho
    funext u
    rw [giN, if_neg (by omega)]
  have htk := tk_lt n.op
  have hm : S.getD y 0 &&& tkN n.op < 128 := and_lt _ (h.z.get y)
  rw [hgi]
  unfold opG at ho
  have hB : behF n S = withS (if withS S y (S.getD y 0 &&& tkN n.op) ≠ [] ∧ (n.op = 43 ∨ n.op = 60) then withS (withS S y (S.getD y 0 &&& tkN n.op)) v ((withS S y (S.getD y 0 &&& tkN n.op)).getD v 0 &&& tkN n.op) else withS S y (S.getD y 0 &&& tkN n.op)) x (givN n.op (S.getD y 0 &&& tkN n.op)) := by
    rw [behF, if_neg (by omega), if_neg (by omega), if_neg (by omega), hx, hy, hv, Int.toNat_natCast, Int.toNat_natCast, Int.toNat_natCast]
  rw [hB]
  clear hB
  have hl := h.z.len
  by_cases h0 : S.getD y 0 &&& tkN n.op = 0
  · -- nothing is left of y
    have hw : withS S y (S.getD y 0 &&& tkN n.op) = [] := by rw [withS, if_pos (.inr h0)]
    rw [hw, if_neg (fun e : ([] : St) ≠ [] ∧ _ => e.1 rfl)]
    have h1 : (keZ S y (tkN n.op)).getD y 0 = 0 := by rw [keZ, getD_set_self (by omega), h0]
    have hl1 : (keZ S y (tkN n.op)).length = 6 := (h.z.ke y _).len
    have h2 : (keZ (keZ S y (tkN n.op)) (if n.op = 43 ∨ n.op = 60 then v else y) (tkN n.op)).getD y 0 = 0 := by
      generalize (if n.op = 43 ∨ n.op = 60 then v else y) = z
      rw [keZ]
      by_cases e : z = y
      · subst e; rw [getD_set_self (by omega), h1, Nat.zero_and]
      · rw [getD_set_ne e, h1]
    have hl2 : (keZ (keZ S y (tkN n.op)) (if n.op = 43 ∨ n.op = 60 then v else y) (tkN n.op)).length = 6 := ((h.z.ke y _).ke _ _).len
    rw [alZ, exS_no (by omega) h2, Bool.false_and]
    rw [if_neg (by decide), nrm_zero (by omega) h2]
    simp [withS]
  · have hw : withS S y (S.getD y 0 &&& tkN n.op) = keZ S y (tkN n.op) := by rw [withS, if_neg (fun e => e.elim h.nil h0)]; rfl
    have hF1 : Ful (keZ S y (tkN n.op)) := h.set y hm h0 hy6
    rw [hw]
    by_cases ht : n.op = 43 ∨ n.op = 60
    · rw [if_pos ht, if_pos ⟨hF1.nil, ht⟩]
      generalize hS1 : keZ S y (tkN n.op) = S1 at *
      have hm2 : S1.getD v 0 &&& tkN n.op < 128 := and_lt _ (hF1.z.get v)
      by_cases h02 : S1.getD v 0 &&& tkN n.op = 0
      · have hw2 : withS S1 v (S1.getD v 0 &&& tkN n.op) = [] := by rw [withS, if_pos (.inr h02)]
        have h2 : (keZ S1 v (tkN n.op)).getD v 0 = 0 := by rw [keZ, getD_set_self (by rw [hF1.z.len]; exact hv6), h02]
        have hl2 : (keZ S1 v (tkN n.op)).length = 6 := (hF1.z.ke v _).len
        rw [hw2, alZ, exS_no (by omega) h2, Bool.false_and, if_neg (by decide), nrm_zero (by omega) h2]
        simp [withS]
      · have hw2 : withS S1 v (S1.getD v 0 &&& tkN n.op) = keZ S1 v (tkN n.op) := by rw [withS, if_neg (fun e => e.elim hF1.nil h02)]; rfl
        have hF2 : Ful (keZ S1 v (tkN n.op)) := hF1.set v hm2 h02 hv6
        have hgy : ∀ u, givN n.op u = givN n.op (S.getD y 0 &&& tkN n.op) := by
          intro u
          rcases ht with e | e <;> rw [e] <;> rfl
        rw [hw2, alZ, hF2.ex, hset, Bool.true_and, if_pos rfl, nrm_set hF2 hx6 (givN_lt _ (hF2.z.get y)), hgy]
    · rw [if_neg ht, if_neg (fun e => ht e.2), keep_twice h.z hy6]
      have hgy : (keZ S y (tkN n.op)).getD y 0 = S.getD y 0 &&& tkN n.op := getD_set_self (by omega)
      rw [alZ, hF1.ex, hset, Bool.true_and, if_pos rfl, nrm_set hF1 hx6 (givN_lt _ (hF1.z.get y)), hgy]
end Go.Proofs.YtellieabhaphhaaGreatDoor

/-
  narrow's flow: a node's ways; tables.
-/
namespace Go.Proofs.YtellieabhaphhaaGreatDoor
open Go.RowKit

theorem z6_six {Z : St} (h6 : Z6 Z) : ∃ m0 m1 m2 m3 m4 m5 : Nat, Z = [m0, m1, m2, m3, m4, m5] := by
  match Z, h6.len with
  | [m0, m1, m2, m3, m4, m5], _ => exact ⟨m0, m1, m2, m3, m4, m5, rfl⟩

theorem bitN_cast (k : Int) : ((bitN k : Nat) : Int) = bit k := by
  unfold bitN bit; repeat' split
  all_goals rfl

def kdN (n : Nd) : Nat := if n.op = 126 ∨ n.op = 58 then bitN n.k else 0
theorem kdN_lt (n : Nd) : kdN n < 128 := by unfold kdN; split; exact bitN_lt _; decide
theorem kdN_cast (n : Nd) : ((kdN n : Nat) : Int) = (if n.op = 126 ∨ n.op = 58 then bit n.k else 0) := by
  unfold kdN; split
  · exact bitN_cast _
  · rfl

theorem way_of {n : Nd} (hg : Gn n) (ht : n.op = 121 ∨ n.op = 58) (b : Bool) : waZ (actN n.op) (kdN n) b = wayM n b := by
  rcases ht with e | e
  · rw [waZ, wayM, e]; cases b <;> rfl
  · have hk := hg.kd (.inl e)
    rw [waZ, wayM, kdN, e]
    unfold KOk at hk
    rcases hk with h | h | h | h | h | h | h <;> rw [h] <;> cases b <;> rfl

theorem act_class {op : Int} (h : opOk op) : (op = 126 ∧ actN op = 10) ∨ (op = 33 ∧ actN op = 11) ∨ ((op = 121 ∨ op = 58) ∧ (actN op = 12 ∨ actN op = 13)) ∨
    ((op = 94 ∨ op = 42 ∨ opG op) ∧ actN op ≠ 10 ∧ actN op ≠ 11 ∧ actN op ≠ 12 ∧ actN op ≠ 13) := by
  unfold opOk at h
  unfold opG
  rcases h with rfl | rfl | rfl | rfl | rfl | rfl | rfl | rfl | rfl | rfl | rfl | rfl | rfl | rfl | rfl | rfl | rfl | rfl <;> decide

theorem nrm_no : nrm [0, 0, 0, 0, 0, 0] = [] := rfl
theorem no_z6 : Z6 [0, 0, 0, 0, 0, 0] := ⟨rfl, by decide⟩

theorem al_plain {op : Int} {S : St} (gi : Nat → Nat) (x y : Nat) (hs : setF (actN op) = false) : alZ (actN op) gi S x y = S := by rw [alZ, hs, Bool.and_false]; rfl

theorem along_c (n : Nd) (tx : ByteArray) (yes nwy : Int) (S : St) (b : Bool) (w : World) (hg : Gn n) (hS : Ful S) :
    Calls Tryz.prog 111 #[.agg #[.string tx, .int .i64 (actN n.op), .int .i64 n.x, .int .i64 n.y, .int .i64 (if n.op = 43 ∨ n.op = 60 then n.v else n.y), .int .i64 (bit (consN n).k), .int .i64 (consN n).n, .int .i64 (bit (consN n).v), .int .i64 (if n.op = 126 ∨ n.op = 58 then bit n.k else 0), .int .i64 yes, .int .i64 nwy], .agg (zc S).toArray, .bool b] w
      fun e w' => ∃ Z, e = .returned (.agg (zc Z).toArray) ∧ Z6 Z ∧ nrm Z = algF n b S ∧ Kp no w w' := by
  obtain ⟨x, hx⟩ := Int.eq_ofNat_of_zero_le hg.x.1
  obtain ⟨y, hy⟩ := Int.eq_ofNat_of_zero_le hg.y.1
  obtain ⟨v, hv⟩ := Int.eq_ofNat_of_zero_le hg.v.1
  have hx6 : x < 6 := by have := hg.x.2; omega
  have hy6 : y < 6 := by have := hg.y.2; omega
  have hv6 : v < 6 := by have := hg.v.2; omega
  obtain ⟨a0, a14⟩ := act_le hg.op
  have htk := tk_of hg.op
  have htl := tk_lt n.op
  have hw : (if n.op = 43 ∨ n.op = 60 then n.v else n.y) = (((if n.op = 43 ∨ n.op = 60 then v else y) : Nat) : Int) := by split <;> assumption
  have hw6 : (if n.op = 43 ∨ n.op = 60 then v else y) < 6 := by split <;> assumption
  have hk := kdN_cast n
  have hkl := kdN_lt n
  obtain ⟨s0, s1, s2, s3, s4, s5, hs⟩ := z6_six hS.z
  have hz := hS.z
  rw [hw, ← hk, hx, hy]
  rcases act_class hg.op with ⟨ho, ha⟩ | ⟨ho, ha⟩ | ⟨ho, ha⟩ | ⟨ho, ha⟩
  · -- a cast
    have hgi := gi_of hg.op (by omega)
    have h127 : tkN n.op = 127 := by rw [ho]; rfl
    have key := stateAlong_k tx (actN n.op) (bit (consN n).k) (consN n).n (bit (consN n).v) yes nwy x y (if n.op = 43 ∨ n.op = 60 then v else y) (kdN n) s0 s1 s2 s3 s4 s5 b w (hs ▸ hz) hkl hx6 hy6 hw6 a0 a14 ha (tkN n.op) htk htl (giN n.op) (fun u _ => hgi u) (gi_lt n.op)
    rw [← hs] at key
    subst hs
    refine key.mono fun e w' ⟨h1, h2⟩ => ⟨_, h1, (((hz.ke y _).ke _ _).ke _ _).al _ _ (gi_lt n.op) _ _, ?_, h2⟩
    rw [h127, keep_all hz hy6, keep_all hz hw6, alZ, show setF (actN n.op) = false by rw [ha]; rfl, Bool.and_false, if_neg (by decide), nrm_keep hS hx6]
    rw [algF, if_neg (by omega), behF, if_neg (by omega), if_neg (by omega), if_pos ho, hx, Int.toNat_natCast, kdN, if_pos (.inl ho)]
  · -- never
    have key := stateAlong_n tx (actN n.op) (bit (consN n).k) (consN n).n (bit (consN n).v) yes nwy x y (if n.op = 43 ∨ n.op = 60 then v else y) (kdN n) s0 s1 s2 s3 s4 s5 b w (hs ▸ hz) hy6 hw6 ha (tkN n.op) htk htl
    subst hs
    refine key.mono fun e w' ⟨h1, h2⟩ => ⟨_, h1, no_z6, ?_, h2⟩
    rw [nrm_no, algF, if_neg (by omega), behF, if_pos ho]
  · -- a test
    have hgi := gi_of hg.op (by omega)
    have h127 : tkN n.op = 127 := by rcases ho with e | e <;> rw [e] <;> rfl
    have key := stateAlong_t tx (actN n.op) (bit (consN n).k) (consN n).n (bit (consN n).v) yes nwy x y (if n.op = 43 ∨ n.op = 60 then v else y) (kdN n) s0 s1 s2 s3 s4 s5 b w (hs ▸ hz) hkl hx6 hy6 hw6 a0 a14 ha (tkN n.op) htk htl (giN n.op) (fun u _ => hgi u) (gi_lt n.op)
    rw [← hs] at key
    subst hs
    refine key.mono fun e w' ⟨h1, h2⟩ => ⟨_, h1, (((hz.ke y _).ke _ _).ke _ _).al _ _ (gi_lt n.op) _ _, ?_, h2⟩
    rw [h127, keep_all hz hy6, keep_all hz hw6, alZ, show setF (actN n.op) = false by rcases ha with e | e <;> rw [e] <;> rfl, Bool.and_false, if_neg (by decide), nrm_keep hS hy6, way_of hg ho]
    rw [algF, if_pos ho, hldF, hy, Int.toNat_natCast]
  · have hgi := gi_of hg.op (by unfold opG at ho; omega)
    have key := stateAlong_o tx (actN n.op) (bit (consN n).k) (consN n).n (bit (consN n).v) yes nwy x y (if n.op = 43 ∨ n.op = 60 then v else y) (kdN n) s0 s1 s2 s3 s4 s5 b w (hs ▸ hz) hx6 hy6 hw6 a0 a14 ha (tkN n.op) htk htl (giN n.op) (fun u _ => hgi u) (gi_lt n.op)
    rw [← hs] at key
    subst hs
    refine key.mono fun e w' ⟨h1, h2⟩ => ⟨_, h1, ((hz.ke y _).ke _ _).al _ _ (gi_lt n.op) _ _, ?_, h2⟩
    rcases ho with e | e | e
    · have h127 : tkN n.op = 127 := by rw [e]; rfl
      rw [h127, keep_all hz hy6, keep_all hz hw6, al_plain _ _ _ (by rw [e]; rfl), hS.nrm, algF, if_neg (by omega), behF, if_neg (by omega), if_pos (.inr e)]
    · have h127 : tkN n.op = 127 := by rw [e]; rfl
      rw [h127, keep_all hz hy6, keep_all hz hw6, al_plain _ _ _ (by rw [e]; rfl), hS.nrm, algF, if_neg (by omega), behF, if_neg (by omega), if_pos (.inl e)]
    · rw [al_give hS hx hy hv hx6 hy6 hv6 e, algF, if_neg (by unfold opG at e; omega)]
end Go.Proofs.YtellieabhaphhaaGreatDoor

/-
  narrow's flow: tables.
-/
namespace Go.Proofs.YtellieabhaphhaaGreatDoor
open Go.RowKit

/-- A state as narrow's tables hold it. -/
def encZ (s : St) : St := if s.length = 6 then s else [0, 0, 0, 0, 0, 0]
def tCells (T : Tbl) : List Value := T.flatMap (fun s => zc (encZ s))

theorem encZ6 (s : St) : (encZ s).length = 6 := by unfold encZ; split; assumption; rfl
theorem zce6 (s : St) : (zc (encZ s)).length = 6 := by rw [zc, List.length_map]; exact encZ6 s

theorem encZ_nil : encZ [] = [0, 0, 0, 0, 0, 0] := rfl
theorem encZ_ful {s : St} (h : Ful s) : encZ s = s := by rw [encZ, if_pos h.z.len]

theorem encZ_z6 {s : St} (h : SOk s) : Z6 (encZ s) := by
  by_cases h0 : s = []
  · subst h0; exact no_z6
  · rw [encZ_ful (h.ful h0)]; exact (h.ful h0).z

theorem nrm_enc {s : St} (h : SOk s) : nrm (encZ s) = s := by
  by_cases h0 : s = []
  · subst h0; rfl
  · rw [encZ_ful (h.ful h0), (h.ful h0).nrm]

theorem exS_enc {s : St} (h : SOk s) : exS (encZ s) = decide (s ≠ []) := by
  by_cases h0 : s = []
  · subst h0; rfl
  · rw [encZ_ful (h.ful h0), (h.ful h0).ex, decide_eq_true h0]

/-- Six cells of a row are set at once. -/
theorem flat_six (f : St → List Value) (hf : ∀ s, (f s).length = 6) (x : St) (a0 a1 a2 a3 a4 a5 : Value) (hx : f x = [a0, a1, a2, a3, a4, a5]) : ∀ (T : Tbl) (i : Nat), i < T.length →
    ((((((T.flatMap f).set (i * 6) a0).set (i * 6 + 1) a1).set (i * 6 + 2) a2).set (i * 6 + 3) a3).set (i * 6 + 4) a4).set (i * 6 + 5) a5 = (T.set i x).flatMap f
  | [], i, h => by simp at h
  | s :: T, 0, _ => by
    obtain ⟨b0, b1, b2, b3, b4, b5, hb⟩ : ∃ b0 b1 b2 b3 b4 b5, f s = [b0, b1, b2, b3, b4, b5] := by
      match f s, hf s with
      | [b0, b1, b2, b3, b4, b5], _ => exact ⟨b0, b1, b2, b3, b4, b5, rfl⟩
    rw [List.set_cons_zero, List.flatMap_cons, List.flatMap_cons, hx, hb]
    rfl
  | s :: T, i + 1, h => by
    have ih := flat_six f hf x a0 a1 a2 a3 a4 a5 hx T i (by simpa using h)
    obtain ⟨b0, b1, b2, b3, b4, b5, hb⟩ : ∃ b0 b1 b2 b3 b4 b5, f s = [b0, b1, b2, b3, b4, b5] := by
      match f s, hf s with
      | [b0, b1, b2, b3, b4, b5], _ => exact ⟨b0, b1, b2, b3, b4, b5, rfl⟩
    rw [List.set_cons_succ, List.flatMap_cons, List.flatMap_cons, hb, ← ih]
    have e : (i + 1) * 6 = i * 6 + 1 + 1 + 1 + 1 + 1 + 1 := by omega
    have e1 : (i + 1) * 6 + 1 = i * 6 + 1 + 1 + 1 + 1 + 1 + 1 + 1 := by omega
    have e2 : (i + 1) * 6 + 2 = i * 6 + 2 + 1 + 1 + 1 + 1 + 1 + 1 := by omega
    have e3 : (i + 1) * 6 + 3 = i * 6 + 3 + 1 + 1 + 1 + 1 + 1 + 1 := by omega
    have e4 : (i + 1) * 6 + 4 = i * 6 + 4 + 1 + 1 + 1 + 1 + 1 + 1 := by omega
    have e5 : (i + 1) * 6 + 5 = i * 6 + 5 + 1 + 1 + 1 + 1 + 1 + 1 := by omega
    rw [e5, e4, e3, e2, e1, e]
    rfl

/-- The flow at work. -/
structure FT (w : World) (fp tb n : Nat) (T : Tbl) (g : Bool) : Prop where
  p : Blk w fp [.slice (some ⟨tb, 0, none⟩) n n, .bool g] 99
  ne : fp ≠ tb
  len : T.length = n
  b : Blk w tb (tCells T) 102

def TK2 (fp tb : Nat) (b : Nat) : Prop := b = fp ∨ b = tb

theorem FT.at {w : World} {fp tb n : Nat} {T : Tbl} {g : Bool} (h : FT w fp tb n T g) {i : Nat} (hi : i < n) {m0 m1 m2 m3 m4 m5 : Nat} (hm : encZ (T.getD i []) = [m0, m1, m2, m3, m4, m5]) :
    w.cell? ⟨tb, i * 6, none⟩ = some (.int .i64 m0) ∧ w.cell? ⟨tb, i * 6 + 1, none⟩ = some (.int .i64 m1) ∧ w.cell? ⟨tb, i * 6 + 2, none⟩ = some (.int .i64 m2) ∧ w.cell? ⟨tb, i * 6 + 3, none⟩ = some (.int .i64 m3) ∧ w.cell? ⟨tb, i * 6 + 4, none⟩ = some (.int .i64 m4) ∧ w.cell? ⟨tb, i * 6 + 5, none⟩ = some (.int .i64 m5) := by
  have hl : i < T.length := by rw [h.len]; exact hi
  rw [List.getD_eq_getElem?_getD, List.getElem?_eq_getElem hl, Option.getD_some] at hm
  have hc : ∀ j, j < 6 → w.cell? ⟨tb, i * 6 + j, none⟩ = (zc [m0, m1, m2, m3, m4, m5])[j]? := fun j hj => by
    rw [h.b.cell, tCells, flat_get (fun s => zc (encZ s)) 6 zce6 T i j hl hj, hm]
  exact ⟨hc 0 (by decide), hc 1 (by decide), hc 2 (by decide), hc 3 (by decide), hc 4 (by decide), hc 5 (by decide)⟩

theorem FT.c {w : World} {fp tb n : Nat} {T : Tbl} {g : Bool} (h : FT w fp tb n T g) : w.cell? ⟨fp, 0, none⟩ = some (.slice (some ⟨tb, 0, none⟩) n n) ∧ w.cell? ⟨fp, 1, none⟩ = some (.bool g) ∧ (∀ o, w.frozen? ⟨fp, o, none⟩ = false) ∧ (∀ o, w.frozen? ⟨tb, o, none⟩ = false) ∧ fp < w.heap.size ∧ tb < w.heap.size :=
  ⟨h.p.cell 0, h.p.cell 1, h.p.frozen, h.b.frozen, h.p.lt, h.b.lt⟩

theorem FT.kp {w w' : World} {fp tb n : Nat} {T : Tbl} {g : Bool} (h : FT w fp tb n T g) (k : Kp no w w') : FT w' fp tb n T g :=
  ⟨k.blk h.p no_elim, h.ne, h.len, k.blk h.b no_elim⟩

theorem FT.turn {w : World} {fp tb n : Nat} {T : Tbl} {g : Bool} (h : FT w fp tb n T g) (b : Bool) : FT (w.setCell ⟨fp, 1, none⟩ (.bool b)) fp tb n T b :=
  ⟨h.p.set 1 (.bool b), h.ne, h.len, Blk.other h.b _ (fun e => h.ne e.symm)⟩

theorem FT.set {w : World} {fp tb n : Nat} {T : Tbl} {g : Bool} (h : FT w fp tb n T g) {i : Nat} (hi : i < n) {s : St} {m0 m1 m2 m3 m4 m5 : Nat} (hm : encZ s = [m0, m1, m2, m3, m4, m5]) :
    FT ((((((w.setCell ⟨tb, i * 6, none⟩ (.int .i64 m0)).setCell ⟨tb, i * 6 + 1, none⟩ (.int .i64 m1)).setCell ⟨tb, i * 6 + 2, none⟩ (.int .i64 m2)).setCell ⟨tb, i * 6 + 3, none⟩ (.int .i64 m3)).setCell ⟨tb, i * 6 + 4, none⟩ (.int .i64 m4)).setCell ⟨tb, i * 6 + 5, none⟩ (.int .i64 m5)) fp tb n (T.set i s) g := by
  have hne : fp ≠ tb := h.ne
  refine ⟨Blk.other (Blk.other (Blk.other (Blk.other (Blk.other (Blk.other h.p _ hne) _ hne) _ hne) _ hne) _ hne) _ hne, hne, by rw [List.length_set]; exact h.len, ?_⟩
  have h2 := (((((h.b.set (i * 6) (.int .i64 m0)).set (i * 6 + 1) (.int .i64 m1)).set (i * 6 + 2) (.int .i64 m2)).set (i * 6 + 3) (.int .i64 m3)).set (i * 6 + 4) (.int .i64 m4)).set (i * 6 + 5) (.int .i64 m5)
  rw [tCells, flat_six (fun s => zc (encZ s)) zce6 s _ _ _ _ _ _ (by rw [hm]; rfl) T i (by rw [h.len]; exact hi)] at h2
  exact h2

set_option maxRecDepth 100000 in
set_option maxHeartbeats 1600000 in
theorem stateOf_c (fp tb n : Nat) (T : Tbl) (g : Bool) (i : Nat) (w : World) (h : FT w fp tb n T g) (hi : i < n) :
    Calls Tryz.prog 76 #[.slice (some ⟨tb, 0, none⟩) n n, .int .i64 i] w fun e w' => e = .returned (.agg (zc (encZ (T.getD i []))).toArray) ∧ Kp no w w' := by
  obtain ⟨m0, m1, m2, m3, m4, m5, hm⟩ : ∃ m0 m1 m2 m3 m4 m5, encZ (T.getD i []) = [m0, m1, m2, m3, m4, m5] := by
    match encZ (T.getD i []), encZ6 (T.getD i []) with
    | [m0, m1, m2, m3, m4, m5], _ => exact ⟨m0, m1, m2, m3, m4, m5, rfl⟩
  obtain ⟨c0, c1, c2, c3, c4, c5⟩ := h.at hi hm
  have htl := h.b.lt
  rw [hm]
  have d0 : decide ((i : Int) < 0) = false := by simp
  have d1 : decide ((n : Int) ≤ i) = false := by simp; omega
  have d2 : (i : Int) < n := by omega
  have d3 : decide (n ≤ i) = false := by simp; omega
  clear h hm
  go_enter Tryz.func76, Tryz.ntmps76
  go_wp2
  refine body_agg (Tb := 102) (b := w.heap.size) (cs := [.int .i64 m0, .int .i64 m1, .int .i64 m2, .int .i64 m3, .int .i64 m4, .int .i64 m5]) (.inr rfl) Tryz.results76 rfl rfl (by (repeat' (first | ((with_reducible show (_ : List Value) = _); rfl) | ((with_reducible refine Blk.newAt _ _ _ ?_); first | with_reducible rfl | (simp; done)) | with_reducible refine Blk.alloc ?_ _ | with_reducible refine Blk.drewN ?_ _ | with_reducible refine Blk.drew ?_ | ((with_reducible refine Blk.other ?_ _ ?_); rotate_left; ((try dsimp only); omega)) | with_reducible refine Blk.setB (cs0 := ?_) ?_ ?_))) Tryz.underlying102 rfl (by kernel_rfl) ?_
  exact ⟨rfl, by (repeat' (first | with_reducible exact Kp.refl _ _ | with_reducible refine Kp.alloc ?_ _ | with_reducible refine Kp.drewN ?_ _ | with_reducible refine Kp.drew ?_ | with_reducible refine Kp.setCell ?_ _ ?_ | (intro hh; first | rfl | exact .inl rfl | exact .inr rfl | (exfalso; (try dsimp only at hh); omega))))⟩
set_option maxHeartbeats 1600000 in
theorem eqArr (w : World) (a0 a1 a2 a3 a4 a5 b0 b1 b2 b3 b4 b5 : Int) : (Op.equalIn 9999 100 (.agg #[.int .i64 a0, .int .i64 a1, .int .i64 a2, .int .i64 a3, .int .i64 a4, .int .i64 a5]) (.agg #[.int .i64 b0, .int .i64 b1, .int .i64 b2, .int .i64 b3, .int .i64 b4, .int .i64 b5])).run Tryz.prog w = .ok (a0 == b0 && (a1 == b1 && (a2 == b2 && (a3 == b3 && (a4 == b4 && a5 == b5))))) w := by
  have u3 := Tryz.underlying87
  have a3' := Tryz.isAgg87
  have z3 := Tryz.sizeOf87
  rw [show (9999 : Nat) = 9998 + 1 from rfl, Op.equalIn]
  simp only [Sem.run_bind, run_underlying Tryz.underlying100, Result.andThen_ok]
  simp only [Std.Legacy.Range.forIn_eq_forIn_range', Std.Legacy.Range.size, Nat.sub_zero, Nat.add_sub_cancel, Nat.div_one, List.range'_succ, List.range'_zero, List.forIn_cons, List.forIn_nil]
  go_simp
  by_cases h0 : a0 = b0
  · by_cases h1 : a1 = b1
    · by_cases h2 : a2 = b2
      · by_cases h3 : a3 = b3
        · by_cases h4 : a4 = b4
          · by_cases h5 : a5 = b5 <;> simp [h0, h1, h2, h3, h4, h5]
          · simp [h0, h1, h2, h3, h4]
        · simp [h0, h1, h2, h3]
      · simp [h0, h1, h2]
    · simp [h0, h1]
  · simp [h0]

theorem eqArr_list (a0 a1 a2 a3 a4 a5 b0 b1 b2 b3 b4 b5 : Nat) : ((a0 : Int) == b0 && ((a1 : Int) == b1 && ((a2 : Int) == b2 && ((a3 : Int) == b3 && ((a4 : Int) == b4 && (a5 : Int) == b5))))) = decide ([a0, a1, a2, a3, a4, a5] = [b0, b1, b2, b3, b4, b5]) := by
  rw [Bool.eq_iff_iff, decide_eq_true_iff]
  simp [Int.ofNat_inj]

theorem zip_zero {Z : St} (h : Z6 Z) : List.zipWith (· ||| ·) [0, 0, 0, 0, 0, 0] Z = Z := by
  obtain ⟨m0, m1, m2, m3, m4, m5, rfl⟩ := z6_six h
  simp

theorem jn_join {S Z : St} (hS : SOk S) (hZ : Z6 Z) : jnZ (encZ S) Z = encZ (joinR S (nrm Z)).1 ∧ (joinR S (nrm Z)).2 = decide (jnZ (encZ S) Z ≠ encZ S) := by
  cases hE : exS Z
  · have h1 : nrm Z = [] := by rw [nrm, hE]; rfl
    have h2 : jnZ (encZ S) Z = encZ S := by rw [jnZ, hE]; rfl
    rw [h1, h2]
    exact ⟨rfl, by simp [joinR]⟩
  · have h1 : nrm Z = Z := by rw [nrm, hE]; rfl
    have h2 : jnZ (encZ S) Z = List.zipWith (· ||| ·) (encZ S) Z := by rw [jnZ, hE]; rfl
    have hZ0 : Z ≠ [] := fun e => by have := hZ.len; rw [e] at this; cases this
    rw [h1, h2]
    by_cases h0 : S = []
    · subst h0
      have hj : joinR [] Z = (Z, true) := by rw [joinR, if_neg hZ0, if_pos rfl]
      rw [hj, encZ_nil, zip_zero hZ]
      refine ⟨by rw [encZ, if_pos hZ.len], ?_⟩
      rw [eq_comm, decide_eq_true_iff]
      intro e
      rw [e] at hE
      cases hE
    · have hF := hS.ful h0
      have hj : joinR S Z = (List.zipWith (· ||| ·) S Z, decide (List.zipWith (· ||| ·) S Z ≠ S)) := by rw [joinR, if_neg hZ0, if_neg h0]
      rw [hj, encZ_ful hF]
      refine ⟨?_, rfl⟩
      rw [encZ, if_pos (by rw [List.length_zipWith, hF.z.len, hZ.len]; rfl)]

set_option maxRecDepth 100000 in
set_option maxHeartbeats 800000 in
theorem come_c (fp tb n : Nat) (T : Tbl) (g : Bool) (i : Int) (Z : St) (w : World) (h : FT w fp tb n T g) (hT : TOk T) (hZ : Z6 Z) :
    Calls Tryz.prog 62 #[.pointer (some ⟨fp, 0, none⟩), .int .i64 i, .agg (zc Z).toArray] w fun e w' => e = .returned (.tuple #[]) ∧ FT w' fp tb n (intoF T i (nrm Z)).1 (g || (intoF T i (nrm Z)).2) ∧ Kp (TK2 fp tb) w w' := by
  obtain ⟨z0, z1, z2, z3, z4, z5, rfl⟩ := z6_six hZ
  rw [show Value.agg (zc [z0, z1, z2, z3, z4, z5]).toArray = zv6 z0 z1 z2 z3 z4 z5 from rfl]
  obtain ⟨c0, c1, cf, cg, cl, cm⟩ := h.c
  have HH := hide h
  have hl := h.len
  by_cases hi0 : i < 0
  · have HE := hide (show intoF T i (nrm [z0, z1, z2, z3, z4, z5]) = (T, false) by rw [intoF, if_neg (by omega)])
    rw [HE.out, Bool.or_false]
    clear hl
    go_enter Tryz.func62, Tryz.ntmps62
    go_wp2
    refine bodyPost_ret (results_none rfl _ _ _) rfl ?_
    exact ⟨rfl, HH.out.kp (by (repeat' (first | with_reducible exact Kp.refl _ _ | with_reducible refine Kp.alloc ?_ _ | with_reducible refine Kp.drewN ?_ _ | with_reducible refine Kp.drew ?_ | with_reducible refine Kp.setCell ?_ _ ?_ | (intro hh; first | rfl | exact .inl rfl | exact .inr rfl | (exfalso; (try dsimp only at hh); omega))))), by (repeat' (first | with_reducible exact Kp.refl _ _ | with_reducible refine Kp.alloc ?_ _ | with_reducible refine Kp.drewN ?_ _ | with_reducible refine Kp.drew ?_ | with_reducible refine Kp.setCell ?_ _ ?_ | (intro hh; first | rfl | exact .inl rfl | exact .inr rfl | (exfalso; (try dsimp only at hh); omega))))⟩
  by_cases hin : (n : Int) ≤ i
  · have HE := hide (show intoF T i (nrm [z0, z1, z2, z3, z4, z5]) = (T, false) by rw [intoF, if_neg (by omega)])
    rw [HE.out, Bool.or_false]
    have d0 : decide (i < 0) = false := by simp; omega
    clear hl hi0
    go_enter Tryz.func62, Tryz.ntmps62
    go_wp2
    refine bodyPost_ret (results_none rfl _ _ _) rfl ?_
    exact ⟨rfl, HH.out.kp (by (repeat' (first | with_reducible exact Kp.refl _ _ | with_reducible refine Kp.alloc ?_ _ | with_reducible refine Kp.drewN ?_ _ | with_reducible refine Kp.drew ?_ | with_reducible refine Kp.setCell ?_ _ ?_ | (intro hh; first | rfl | exact .inl rfl | exact .inr rfl | (exfalso; (try dsimp only at hh); omega))))), by (repeat' (first | with_reducible exact Kp.refl _ _ | with_reducible refine Kp.alloc ?_ _ | with_reducible refine Kp.drewN ?_ _ | with_reducible refine Kp.drew ?_ | with_reducible refine Kp.setCell ?_ _ ?_ | (intro hh; first | rfl | exact .inl rfl | exact .inr rfl | (exfalso; (try dsimp only at hh); omega))))⟩
  · obtain ⟨k, rfl⟩ := Int.eq_ofNat_of_zero_le (by omega : 0 ≤ i)
    have hk : k < n := by omega
    have HE := hide (show intoF T k (nrm [z0, z1, z2, z3, z4, z5]) = (T.set k (joinR (T.getD k []) (nrm [z0, z1, z2, z3, z4, z5])).1, (joinR (T.getD k []) (nrm [z0, z1, z2, z3, z4, z5])).2) by rw [intoF, if_pos (by omega), Int.toNat_natCast])
    rw [HE.out]
    have d0 : decide ((k : Int) < 0) = false := by simp
    have d1 : decide (n ≤ k) = false := by simp; omega
    have d2 : decide ((n : Int) ≤ k) = false := by simp; omega
    have hkI : (k : Int) < n := by omega
    obtain ⟨m0, m1, m2, m3, m4, m5, hm⟩ := z6_six (encZ_z6 (hT.get k))
    obtain ⟨q0, q1, q2, q3, q4, q5⟩ := h.at hk hm
    obtain ⟨j1, j2⟩ := jn_join (hT.get k) hZ
    have hSet : T.set k (T.getD k []) = T := set_getD (by omega)
    have hsame : (joinR (T.getD k []) (nrm [z0, z1, z2, z3, z4, z5])).2 = false → (joinR (T.getD k []) (nrm [z0, z1, z2, z3, z4, z5])).1 = T.getD k [] := join_same
    have HJ := hide (fun W => joined_c m0 m1 m2 m3 m4 m5 z0 z1 z2 z3 z4 z5 W (hm ▸ encZ_z6 (hT.get k)) hZ)
    rw [hm] at j1 j2
    have hjz : Z6 (jnZ [m0, m1, m2, m3, m4, m5] [z0, z1, z2, z3, z4, z5]) := by
      rw [j1]
      exact encZ_z6 ((hT.get k).join (by unfold nrm; split; exact .inr ⟨rfl, fun m hm' => ⟨by rename_i hx; have := List.all_eq_true.1 hx m hm'; simpa using this, hZ.lt m hm'⟩⟩; exact .inl rfl))
    obtain ⟨r0, r1, r2, r3, r4, r5, hr⟩ := z6_six hjz
    rw [hr] at HJ j1 j2
    have HJJ : Hid (∀ W, Calls Tryz.prog 110 #[zv6 m0 m1 m2 m3 m4 m5, zv6 z0 z1 z2 z3 z4 z5] W fun e w' => e = .returned (zv6 r0 r1 r2 r3 r4 r5) ∧ Kp no W w') := fun W => HJ.out W
    clear HJ
    clear hl hi0 hin h hm hr hjz
    have HTG := hide (hT.get k)
    have HTG2 : Hid (SOk (T.getD k [])) := HTG.out
    clear HTG
    generalize T.getD k [] = S0 at *
    clear HE HTG2
    have HTG := hide (hT.get k)
    generalize joinR S0 (nrm [z0, z1, z2, z3, z4, z5]) = J at *
    obtain ⟨J1, J2⟩ := J
    dsimp only at *
    have HJ1 := hide j1
    have HJ2 := hide j2
    have HST := hide hSet
    have HSM := hide hsame
    clear j1 j2 hSet hsame
    go_enter Tryz.func62, Tryz.ntmps62
    go_wp2_with fail
    refine (HJJ.out _).mono ?_
    rintro e w1 ⟨rfl, k1⟩
    have HF1 := hide (HH.out.kp (Kp.trans (by (repeat' (first | with_reducible exact Kp.refl _ _ | with_reducible refine Kp.alloc ?_ _ | with_reducible refine Kp.drewN ?_ _ | with_reducible refine Kp.drew ?_ | with_reducible refine Kp.setCell ?_ _ ?_ | (intro hh; first | rfl | exact .inl rfl | exact .inr rfl | (exfalso; (try dsimp only at hh); omega))))) k1 (fun _ _ e => e)))
    have HK1 := hide (show Kp no w w1 from Kp.trans (by (repeat' (first | with_reducible exact Kp.refl _ _ | with_reducible refine Kp.alloc ?_ _ | with_reducible refine Kp.drewN ?_ _ | with_reducible refine Kp.drew ?_ | with_reducible refine Kp.setCell ?_ _ ?_ | (intro hh; first | rfl | exact .inl rfl | exact .inr rfl | (exfalso; (try dsimp only at hh); omega))))) k1 (fun _ _ e => e))
    have hob : Blk w1 (w.heap.size + 1) [.int .i64 m0, .int .i64 m1, .int .i64 m2, .int .i64 m3, .int .i64 m4, .int .i64 m5] 102 := k1.blk (by (repeat' (first | ((with_reducible show (_ : List Value) = _); rfl) | ((with_reducible refine Blk.newAt _ _ _ ?_); first | with_reducible rfl | (simp; done)) | with_reducible refine Blk.alloc ?_ _ | with_reducible refine Blk.drewN ?_ _ | with_reducible refine Blk.drew ?_ | ((with_reducible refine Blk.other ?_ _ ?_); rotate_left; ((try dsimp only); omega)) | with_reducible refine Blk.setB (cs0 := ?_) ?_ ?_))) no_elim
    have hk1 := (HK1.out).size
    have hcl0 := cl
    have hcm0 := cm
    clear c0 c1 cf cg cl cm q0 q1 q2 q3 q4 q5 k1
    obtain ⟨c0, c1, cf, cg, cl, cm⟩ := HF1.out.c
    obtain ⟨o0, o1, o2, o3, o4, o5, of, ol⟩ := hob.c6
    have heq : ∀ W, (Op.equalIn 9999 100 (.agg #[.int .i64 r0, .int .i64 r1, .int .i64 r2, .int .i64 r3, .int .i64 r4, .int .i64 r5]) (.agg #[.int .i64 m0, .int .i64 m1, .int .i64 m2, .int .i64 m3, .int .i64 m4, .int .i64 m5])).run Tryz.prog W = .ok (decide ([r0, r1, r2, r3, r4, r5] = [m0, m1, m2, m3, m4, m5])) W := fun W => by
      rw [eqArr, eqArr_list]
    have HJ3 := hide (show J2 = !decide ([r0, r1, r2, r3, r4, r5] = [m0, m1, m2, m3, m4, m5]) by rw [HJ2.out, decide_not])
    have hne := HF1.out.ne
    obtain ⟨t0, t1, t2, t3, t4, t5, ht⟩ := z6_six (encZ_z6 (HTG.out))
    obtain ⟨q0, q1, q2, q3, q4, q5⟩ := HF1.out.at hk ht
    clear ht HJ2
    generalize decide ([r0, r1, r2, r3, r4, r5] = [m0, m1, m2, m3, m4, m5]) = q at *
    cases q
    · go_wp2
      refine wp_gen (fun W => FT W fp tb n T g ∧ Blk W w1.heap.size [.int .i64 r0, .int .i64 r1, .int .i64 r2, .int .i64 r3, .int .i64 r4, .int .i64 r5] 102 ∧ Kp no w W) ⟨HF1.out.kp ((Kp.refl _ _).alloc _), by (repeat' (first | ((with_reducible show (_ : List Value) = _); rfl) | ((with_reducible refine Blk.newAt _ _ _ ?_); first | with_reducible rfl | (simp; done)) | with_reducible refine Blk.alloc ?_ _ | with_reducible refine Blk.drewN ?_ _ | with_reducible refine Blk.drew ?_ | ((with_reducible refine Blk.other ?_ _ ?_); rotate_left; ((try dsimp only); omega)) | with_reducible refine Blk.setB (cs0 := ?_) ?_ ?_)), HK1.out.alloc _⟩ ?_
      rintro W ⟨hFW, hRW, kW⟩
      have HFW := hide hFW
      have HKW := hide kW
      clear c0 c1 cf cg cl cm q0 q1 q2 q3 q4 q5 o0 o1 o2 o3 o4 o5 of ol
      obtain ⟨c0, c1, cf, cg, cl, cm⟩ := hFW.c
      obtain ⟨t0, t1, t2, t3, t4, t5, ht⟩ := z6_six (encZ_z6 (HTG.out))
      obtain ⟨q0, q1, q2, q3, q4, q5⟩ := hFW.at hk ht
      obtain ⟨o0, o1, o2, o3, o4, o5, of, ol⟩ := hRW.c6
      clear hFW hRW kW ht
      go_region
      all_goals
        go_wp2
        go_end0
        rw [HJ3.out, Bool.not_false, Bool.or_true]
        refine ⟨rfl, ((HFW.out.set hk HJ1.out.symm).turn true).kp ((Kp.refl _ _).drew), ?_⟩
        have kk := HKW.out.mono (S' := TK2 fp tb) (fun _ e => e.elim)
        exact (((((((kk.setCell _ (fun _ => .inr rfl)).setCell _ (fun _ => .inr rfl)).setCell _ (fun _ => .inr rfl)).setCell _ (fun _ => .inr rfl)).setCell _ (fun _ => .inr rfl)).setCell _ (fun _ => .inr rfl)).setCell _ (fun _ => .inl rfl)).drew
    · go_wp2
      go_end0
      have hj : J1 = S0 := HSM.out (by rw [HJ3.out]; rfl)
      rw [HJ3.out, Bool.not_true, Bool.or_false, hj, HST.out]
      refine ⟨rfl, HF1.out.kp ((Kp.refl _ _).alloc _), ?_⟩
      have kk := HK1.out.mono (S' := TK2 fp tb) (fun _ e => e.elim)
      exact kk.alloc _
end Go.Proofs.YtellieabhaphhaaGreatDoor
