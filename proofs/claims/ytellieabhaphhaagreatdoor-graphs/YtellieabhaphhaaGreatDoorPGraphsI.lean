import Derived.Test.YtellieabhaphhaaGreatDoorPGraphsH
/-
  A graph's text: what narrow writes.
-/
namespace Go.Proofs.YtellieabhaphhaaGreatDoor
open Go.RowKit

/-- A line. -/
def lnTx (n : NN) : ByteArray := n.tx ++ (if n.act = 11 then ⟨#[]⟩ else ⟨#[44]⟩ ++ twoB n.yes.toNat) ++ (if n.act = 12 ∨ n.act = 13 then ⟨#[44]⟩ ++ twoB n.no.toNat else ⟨#[]⟩) ++ ⟨#[59]⟩

/-- A node that can be written. -/
structure Ln (n : NN) : Prop where
  tx : n.tx.size ≤ 1000
  yes : n.act ≠ 11 → 0 ≤ n.yes ∧ n.yes < 100
  no : n.act = 12 ∨ n.act = 13 → 0 ≤ n.no ∧ n.no < 100

theorem lnTx_size {n : NN} (h : Ln n) : (lnTx n).size ≤ 1007 := by
  have h1 := h.tx
  have h2 : ∀ k, (twoB k).size = 2 := twoB_size
  unfold lnTx
  rw [ByteArray.size_append, ByteArray.size_append, ByteArray.size_append, show (ByteArray.mk #[59]).size = 1 from rfl]
  have h3 : (if n.act = 11 then (⟨#[]⟩ : ByteArray) else ⟨#[44]⟩ ++ twoB n.yes.toNat).size ≤ 3 := by
    split
    · decide
    · rw [ByteArray.size_append, h2]; decide
  have h4 : (if n.act = 12 ∨ n.act = 13 then (⟨#[44]⟩ : ByteArray) ++ twoB n.no.toNat else ⟨#[]⟩).size ≤ 3 := by
    split
    · rw [ByteArray.size_append, h2]; decide
    · decide
  omega

set_option maxRecDepth 100000 in
set_option maxHeartbeats 1600000 in
theorem lineText_c (n : NN) (w : World) (h : Ln n) :
    Calls Tryz.prog 55 #[.agg #[.string n.tx, .int .i64 n.act, .int .i64 n.x, .int .i64 n.y, .int .i64 n.w, .int .i64 n.ck, .int .i64 n.cn, .int .i64 n.ch, .int .i64 n.kd, .int .i64 n.yes, .int .i64 n.no]] w fun e w' => e = .returned (.string (lnTx n)) ∧ Kp no w w' := by
  have HT := hide (fun W => nisTest_c n.act W)
  have htx := h.tx
  have e59 : (ByteArray.mk #[59]).size = 1 := rfl
  have e44 : (ByteArray.mk #[44]).size = 1 := rfl
  by_cases h11 : n.act = 11
  · have HE := hide (show lnTx n = n.tx ++ ⟨#[59]⟩ by rw [lnTx, if_pos h11, if_neg (by omega), ba_nil, ba_nil])
    rw [HE.out]
    obtain ⟨tx, act, nx, ny, nw, ck, cn, ch, kd, yes, nno⟩ := n
    dsimp only at *
    subst h11
    clear h HE
    go_enter Tryz.func55, Tryz.ntmps55
    go_wp2_with (go_at_call 99; refine (HT.out _).mono ?_; rintro e w' ⟨rfl, rfl⟩)
    go_ret
    exact ⟨rfl, by (repeat' (first | with_reducible exact Kp.refl _ _ | with_reducible refine Kp.alloc ?_ _ | with_reducible refine Kp.drewN ?_ _ | with_reducible refine Kp.drew ?_ | with_reducible refine Kp.setCell ?_ _ ?_ | (intro hh; first | rfl | exact .inl rfl | exact .inr rfl | (exfalso; (try dsimp only at hh); omega))))⟩
  · obtain ⟨y1, y2⟩ := h.yes h11
    obtain ⟨yn, hyn⟩ := Int.eq_ofNat_of_zero_le y1
    by_cases ht : n.act = 12 ∨ n.act = 13
    · obtain ⟨o1, o2⟩ := h.no ht
      obtain ⟨on, hon⟩ := Int.eq_ofNat_of_zero_le o1
      have HE := hide (show lnTx n = n.tx ++ (⟨#[44]⟩ ++ twoB yn) ++ (⟨#[44]⟩ ++ twoB on) ++ ⟨#[59]⟩ by rw [lnTx, if_neg h11, if_pos ht, hyn, hon, Int.toNat_natCast, Int.toNat_natCast])
      rw [HE.out]
      rw [decide_eq_true ht] at HT
      have HY := hide (fun W => ntwo_c yn W (by omega))
      have HO := hide (fun W => ntwo_c on W (by omega))
      have s1 := twoB_size yn
      have s2 := twoB_size on
      have g11 : (n.act == 11) = false := by simpa using h11
      have g11' : (n.act != 11) = true := by simpa using h11
      obtain ⟨tx, act, nx, ny, nw, ck, cn, ch, kd, yes, nno⟩ := n
      dsimp only at *
      subst hyn hon
      clear h HE ht h11
      generalize twoB yn = ty at *
      generalize twoB on = to at *
      go_enter Tryz.func55, Tryz.ntmps55
      go_wp2_with fail
      refine (HY.out _).mono ?_
      rintro e w1 ⟨rfl, k1⟩
      have hN1 : Blk w1 w.heap.size [.string tx, .int .i64 act, .int .i64 nx, .int .i64 ny, .int .i64 nw, .int .i64 ck, .int .i64 cn, .int .i64 ch, .int .i64 kd, .int .i64 yn, .int .i64 on] 91 := k1.blk (by (repeat' (first | ((with_reducible show (_ : List Value) = _); rfl) | ((with_reducible refine Blk.newAt _ _ _ ?_); first | with_reducible rfl | (simp; done)) | with_reducible refine Blk.alloc ?_ _ | with_reducible refine Blk.drewN ?_ _ | with_reducible refine Blk.drew ?_ | ((with_reducible refine Blk.other ?_ _ ?_); rotate_left; ((try dsimp only); omega)) | with_reducible refine Blk.setB (cs0 := ?_) ?_ ?_))) no_elim
      have HK1 := hide (show Kp no w w1 from Kp.trans (by (repeat' (first | with_reducible exact Kp.refl _ _ | with_reducible refine Kp.alloc ?_ _ | with_reducible refine Kp.drewN ?_ _ | with_reducible refine Kp.drew ?_ | with_reducible refine Kp.setCell ?_ _ ?_ | (intro hh; first | rfl | exact .inl rfl | exact .inr rfl | (exfalso; (try dsimp only at hh); omega))))) k1 (fun _ _ e => e))
      obtain ⟨n0, n1, n2, n3, n4, n5, n6, n7, n8, n9, n10, nf⟩ := hN1.c11; have hnl := hN1.lt
      clear k1
      go_wp2_with fail
      refine (HT.out _).mono ?_
      rintro e w' ⟨rfl, rfl⟩
      go_wp2_with fail
      refine (HO.out _).mono ?_
      rintro e w2 ⟨rfl, k2⟩
      go_wp2
      go_ret
      exact ⟨rfl, HK1.out.trans k2 (fun _ _ e => e)⟩
    · have HE := hide (show lnTx n = n.tx ++ (⟨#[44]⟩ ++ twoB yn) ++ ⟨#[59]⟩ by rw [lnTx, if_neg h11, if_neg ht, hyn, Int.toNat_natCast, ba_nil])
      rw [HE.out]
      rw [decide_eq_false ht] at HT
      have HY := hide (fun W => ntwo_c yn W (by omega))
      have s1 := twoB_size yn
      have g11 : (n.act == 11) = false := by simpa using h11
      have g11' : (n.act != 11) = true := by simpa using h11
      obtain ⟨tx, act, nx, ny, nw, ck, cn, ch, kd, yes, nno⟩ := n
      dsimp only at *
      subst hyn
      clear h HE ht h11
      generalize twoB yn = ty at *
      go_enter Tryz.func55, Tryz.ntmps55
      go_wp2_with fail
      refine (HY.out _).mono ?_
      rintro e w1 ⟨rfl, k1⟩
      have hN1 : Blk w1 w.heap.size [.string tx, .int .i64 act, .int .i64 nx, .int .i64 ny, .int .i64 nw, .int .i64 ck, .int .i64 cn, .int .i64 ch, .int .i64 kd, .int .i64 yn, .int .i64 nno] 91 := k1.blk (by (repeat' (first | ((with_reducible show (_ : List Value) = _); rfl) | ((with_reducible refine Blk.newAt _ _ _ ?_); first | with_reducible rfl | (simp; done)) | with_reducible refine Blk.alloc ?_ _ | with_reducible refine Blk.drewN ?_ _ | with_reducible refine Blk.drew ?_ | ((with_reducible refine Blk.other ?_ _ ?_); rotate_left; ((try dsimp only); omega)) | with_reducible refine Blk.setB (cs0 := ?_) ?_ ?_))) no_elim
      have HK1 := hide (show Kp no w w1 from Kp.trans (by (repeat' (first | with_reducible exact Kp.refl _ _ | with_reducible refine Kp.alloc ?_ _ | with_reducible refine Kp.drewN ?_ _ | with_reducible refine Kp.drew ?_ | with_reducible refine Kp.setCell ?_ _ ?_ | (intro hh; first | rfl | exact .inl rfl | exact .inr rfl | (exfalso; (try dsimp only at hh); omega))))) k1 (fun _ _ e => e))
      obtain ⟨n0, n1, n2, n3, n4, n5, n6, n7, n8, n9, n10, nf⟩ := hN1.c11; have hnl := hN1.lt
      clear k1
      go_wp2_with fail
      refine (HT.out _).mono ?_
      rintro e w' ⟨rfl, rfl⟩
      go_wp2
      go_ret
      exact ⟨rfl, HK1.out⟩

def graT (L : List NN) : ByteArray := L.foldl (fun a n => a ++ lnTx n) ⟨#[]⟩

theorem graT_take (L : List NN) (j : Nat) (n : NN) (h : L[j]? = some n) : graT (L.take (j + 1)) = graT (L.take j) ++ lnTx n := by
  obtain ⟨hj, rfl⟩ := List.getElem?_eq_some_iff.1 h
  rw [List.take_succ_eq_append_getElem hj]
  unfold graT
  rw [List.foldl_append]
  rfl

theorem graT_size {L : List NN} (h : ∀ n ∈ L, Ln n) : (graT L).size ≤ 1007 * L.length := by
  have key : ∀ (L : List NN) (a : ByteArray), (∀ n ∈ L, Ln n) → (L.foldl (fun a n => a ++ lnTx n) a).size ≤ a.size + 1007 * L.length := by
    intro L
    induction L with
    | nil => intro a _; simp
    | cons n L ih =>
      intro a h
      have h1 := ih (a ++ lnTx n) (fun z hz => h z (List.mem_cons_of_mem _ hz))
      have h2 := lnTx_size (h n (List.mem_cons_self ..))
      rw [ByteArray.size_append] at h1
      rw [List.foldl_cons, List.length_cons]
      omega
  have := key L ⟨#[]⟩ h
  rw [show (ByteArray.mk #[]).size = 0 from rfl, Nat.zero_add] at this
  exact this

set_option maxRecDepth 100000 in
set_option maxHeartbeats 1600000 in
theorem graphText_c (v : Value) (L : List NN) (w : World) (h : NRow w v L) (hl : L.length ≤ 100) (hL : ∀ n ∈ L, Ln n) :
    Calls Tryz.prog 31 #[v] w fun e w' => e = .returned (.string (graT L)) ∧ Kp no w w' := by
  obtain ⟨a, cap, rfl⟩ := h.shape
  have HD := hide h
  clear h
  go_enter Tryz.func31, Tryz.ntmps31
  go_wp2
  go_loopg [3, 9] L.length (fun k tv iv wr => ∃ j : Nat, j ≤ L.length ∧ k = L.length - j ∧ iv = .int .i64 j ∧ tv = .string (graT (L.take j)) ∧ Kp no w wr)
  case atStart => exact ⟨0, Nat.zero_le _, rfl, rfl, rfl, Kp.refl _ _⟩
  case round =>
    obtain ⟨j, hj, hk, rfl, rfl, kr⟩ := hrel
    have HKK := hide hk
    have HKR := hide kr
    clear hk kr
    by_cases hlt : j < L.length
    · obtain ⟨nd, hnd⟩ : ∃ nd, L[j]? = some nd := ⟨_, List.getElem?_eq_getElem hlt⟩
      have HLN := hide (hL nd (List.mem_of_getElem? hnd))
      obtain ⟨_, gn, ha, hgn, n0, n1, n2, n3, n4, n5, n6, n7, n8, n9, n10⟩ := NRow.at (HKR.out.row HD.out (fun _ _ => no_elim)) hnd
      subst ha
      have HT := hide (graT_take L j nd hnd)
      have hsz : (graT (L.take j)).size ≤ 100700 := Nat.le_trans (graT_size (fun n hn => hL n (List.mem_of_mem_take hn))) (by rw [List.length_take]; omega)
      have hs2 := lnTx_size HLN.out
      have HC := hide (fun W => lineText_c nd W HLN.out)
      have hjI : (j : Int) < L.length := by omega
      generalize graT (L.take j) = acc at *
      generalize lnTx nd = ln at *
      clear hnd
      obtain ⟨tx, act, nx, ny, nw, ck, cn, ch, kd, yes, nno⟩ := nd
      dsimp only at *
      go_wp2_with fail
      refine (HC.out _).mono ?_
      rintro e w5 ⟨rfl, k5⟩
      go_wp2
      go_roundg (L.length - (j + 1))
      case measure => have := HKK.out; omega
      case rel => exact ⟨j + 1, by omega, rfl, by go_num, by rw [HT.out], (HKR.out.alloc _).trans k5 (fun _ _ e => e)⟩
    · obtain rfl : j = L.length := by omega
      rw [List.take_length]
      go_wp2
      go_ret
      exact ⟨rfl, HKR.out⟩
end Go.Proofs.YtellieabhaphhaaGreatDoor

/-
  narrow.Run, narrow.Graph.
-/
namespace Go.Proofs.YtellieabhaphhaaGreatDoor
open Go.RowKit

theorem nj_take (row : List NN) (j : Nat) : nj (row.take (j + 1)) = nj (row.take j) + (match row[j]? with | some n => if n.act ≠ 15 then 1 else 0 | none => 0) := by
  unfold nj
  rw [List.take_add_one, List.countP_append]
  cases row[j]? with
  | none => rfl
  | some n =>
    show _ + List.countP _ [n] = _ + _
    rw [List.countP_cons, List.countP_nil, Nat.zero_add]
    by_cases h : n.act = 15 <;> simp [h]

theorem ahdA_nj (row : List NN) (p : Nat) : ∀ j, ahdA row p j ≤ nj (row.take j)
  | 0 => Nat.zero_le _
  | j + 1 => by
    have := ahdA_nj row p j
    rw [ahdA, nj_take]
    cases row[j]? with
    | none => exact this
    | some n =>
      dsimp only
      by_cases h : n.act = 15
      · rw [if_neg (fun e => e.2 h), if_neg (fun e => e h)]; exact this
      · rw [if_pos h]
        split <;> omega

theorem nbhM_le (m : MS) (k : Int) : nbhM m k ≤ nj m.row := by
  have := ahdA_nj m.row (hopM m m.row.length (plcM m k)) m.row.length
  rw [List.take_length] at this
  exact this

theorem nodA_nj (m : MS) : ∀ j, (nodA m j).length = nj (m.row.take j)
  | 0 => rfl
  | j + 1 => by
    have := nodA_nj m j
    rw [nodA, nj_take, List.length_append, this]
    cases m.row[j]? with
    | none => rfl
    | some n =>
      dsimp only
      by_cases h : n.act = 15
      · rw [if_pos h, if_neg (fun e => e h)]; rfl
      · rw [if_neg h, if_pos h]; rfl

theorem nodM_nj (m : MS) : (nodM m).length = nj m.row := by
  have := nodA_nj m m.row.length
  rw [List.take_length] at this
  exact this

theorem nodA_mem (m : MS) : ∀ j n, n ∈ nodA m j → ∃ n0 ∈ m.row, n0.act ≠ 15 ∧ n = n0.setW (nbhM m n0.yes) (nbhM m n0.no)
  | 0, n, h => by cases h
  | j + 1, n, h => by
    rw [nodA] at h
    rcases List.mem_append.1 h with h | h
    · exact nodA_mem m j n h
    · cases hj : m.row[j]? with
      | none => rw [hj] at h; cases h
      | some n0 =>
        rw [hj] at h
        dsimp only at h
        by_cases ha : n0.act = 15
        · rw [if_pos ha] at h; cases h
        · rw [if_neg ha] at h
          obtain rfl : n = _ := by simpa using h
          exact ⟨n0, List.mem_of_getElem? hj, ha, rfl⟩

/-- A node as the maker leaves it. -/
def SN (n : NN) : Prop := ∃ nd tx y z, n = encN nd tx y z ∧ Gn nd ∧ tx.size ≤ 1000 ∧ (0 ≤ y ∧ y ≤ 90) ∧ (0 ≤ z ∧ z ≤ 90) ∧ TxP nd tx

theorem src_nodes {s : ByteArray} (hs : s.size ≤ 180) (h : (srE s).1 = 0) : (∀ n ∈ nodM (srM s), SN n) ∧ (nodM (srM s)).length ≤ 90 := by
  obtain ⟨_, g2, g3, _⟩ := srM_good hs h
  refine ⟨fun n hn => ?_, by rw [nodM_nj]; exact g2⟩
  obtain ⟨n0, h1, h2, rfl⟩ := nodA_mem (srM s) _ n hn
  rcases g3 n0 h1 with h3 | ⟨_, nd, tx, y, z, rfl, hg, ht, hp⟩
  · exact absurd h3 h2
  · have b1 := nbhM_le (srM s) (encN nd tx y z).yes
    have b2 := nbhM_le (srM s) (encN nd tx y z).no
    exact ⟨nd, tx, _, _, encW nd tx y z _ _, hg, ht, ⟨Int.natCast_nonneg _, by omega⟩, ⟨Int.natCast_nonneg _, by omega⟩, hp⟩

def gr3 (t : ByteArray) (e p : Int) : Ending := .returned (.tuple #[.string t, .int .i64 e, .int .i64 p])

set_option maxHeartbeats 1600000 in
theorem ngraph_long (s : ByteArray) (w : World) (hm : s.size ≤ maxLen) (hs : 180 < s.size) :
    Calls Tryz.prog 16 #[.string s] w fun e w' => e = gr3 em 1 0 ∧ Kp no w w' := by
  have HS := hide (nos_long s w hm hs)
  go_enter Tryz.func16, Tryz.ntmps16
  go_wp2_with fail
  refine HS.out.mono ?_
  rintro e w1 ⟨rfl, k1⟩
  go_wp2
  go_ret3
  exact ⟨rfl, k1⟩

set_option maxHeartbeats 1600000 in
theorem ngraph_bad (s : ByteArray) (w : World) (hs : s.size ≤ 180) (hb : (srE s).1 ≠ 0) :
    Calls Tryz.prog 16 #[.string s] w fun e w' => e = gr3 em (srE s).1 (srE s).2 ∧ Kp no w w' := by
  have HS := hide (nos_c s w hs)
  have hb' : (((srE s).1 : Int) == 0) = false := by simp; omega
  unfold SrcP at HS
  generalize srE s = ge at *
  obtain ⟨ge1, ge2⟩ := ge
  dsimp only at *
  clear hb
  go_enter Tryz.func16, Tryz.ntmps16
  go_wp2_with fail
  refine HS.out.mono ?_
  rintro e w1 ⟨v, rfl, k1, _⟩
  go_wp2
  go_ret3
  exact ⟨rfl, k1⟩

theorem SN.ln {n : NN} (h : SN n) : Ln n := by
  obtain ⟨nd, tx, y, z, rfl, _, ht, hy, hz, _⟩ := h
  exact ⟨ht, fun _ => by show 0 ≤ y ∧ y < 100; omega, fun _ => by show 0 ≤ z ∧ z < 100; omega⟩

set_option maxHeartbeats 1600000 in
theorem ngraph_good (s : ByteArray) (w : World) (hs : s.size ≤ 180) (hb : (srE s).1 = 0) :
    Calls Tryz.prog 16 #[.string s] w fun e w' => e = gr3 (graT (nodM (srM s))) 0 0 ∧ Kp no w w' := by
  have HS := hide (nos_c s w hs)
  obtain ⟨hsn, hlen⟩ := src_nodes hs hb
  unfold SrcP at HS
  rw [hb] at HS
  have HGT := hide (fun u W hW => graphText_c u (nodM (srM s)) W hW (by omega) (fun n hn => (hsn n hn).ln))
  clear hb hsn
  generalize nodM (srM s) = L at *
  go_enter Tryz.func16, Tryz.ntmps16
  go_wp2_with fail
  refine HS.out.mono ?_
  rintro e w2 ⟨v, rfl, k2, hpost⟩
  obtain ⟨hR, hO⟩ := hpost trivial
  have HR := hide hR
  obtain ⟨a, cap, rfl⟩ := hR.shape
  clear hO hpost HS hR
  go_wp2_with fail
  refine (HGT.out _ _ (by exact HR.out)).mono ?_
  rintro e w5 ⟨rfl, k5⟩
  go_wp2
  go_ret3
  exact ⟨rfl, k2.trans k5 (fun _ _ e => e)⟩
end Go.Proofs.YtellieabhaphhaaGreatDoor

/-
  Plain: both readers of a source side by side: what stays as it is while they go on; conditions.
-/
namespace Go.Proofs.YtellieabhaphhaaGreatDoor
open Go.RowKit

/-- From L on b holds what a holds. -/
def Ag {α : Type} (L : Nat) (a b : List α) : Prop := ∀ k, L ≤ k → k < a.length → b[k]? = a[k]?

section
variable {α : Type} {L L' k : Nat} {a b c : List α}
theorem Ag.refl : Ag L a a := fun _ _ _ => rfl
theorem Ag.trans (h : Ag L a b) (g : Ag L b c) : Ag L a c := fun k h1 h2 => by
  have e := h k h1 h2
  have hb : k < b.length := by
    rcases Nat.lt_or_ge k b.length with h3 | h3
    · exact h3
    · rw [List.getElem?_eq_none h3, List.getElem?_eq_getElem h2] at e; cases e
  rw [g k h1 hb, e]
theorem Ag.mono (h : Ag L a b) (hL : L ≤ L') : Ag L' a b := fun k h1 h2 => h k (Nat.le_trans hL h1) h2
theorem Ag.app (a x : List α) : Ag L a (a ++ x) := fun k _ h2 => by rw [List.getElem?_append_left h2]
theorem Ag.set (h : Ag L a b) (v : α) (hk : k < L ∨ a.length ≤ k) : Ag L a (b.set k v) := fun j h1 h2 => by
  rw [List.getElem?_set_ne (by omega)]; exact h j h1 h2
theorem Ag.mod (h : Ag L a b) (f : α → α) (hk : k < L ∨ a.length ≤ k) : Ag L a (b.modify k f) := fun j h1 h2 => by
  have hne : ¬ k = j := by omega
  rw [List.getElem?_modify, h j h1 h2]
  cases a[j]? <;> simp [hne]
theorem Ag.unmod {f : α → α} (h : Ag L (a.modify k f) b) (hk : k < L') (hL : L ≤ L') : Ag L' a b := fun j h1 h2 => by
  rw [h j (by omega) (by rw [List.length_modify]; exact h2), List.getElem?_modify]
  have hne : ¬ k = j := by omega
  cases a[j]? <;> simp [hne]
theorem Ag.len (h : Ag 0 a b) : a.length ≤ b.length := by
  cases hl : a.length with
  | zero => exact Nat.zero_le _
  | succ n =>
    have e := h n (Nat.zero_le _) (by omega)
    rcases Nat.lt_or_ge n b.length with h3 | h3
    · exact h3
    · rw [List.getElem?_eq_none h3, List.getElem?_eq_getElem (by omega)] at e; cases e
theorem Ag.take (h : Ag 0 a b) {p : Nat} (hp : p ≤ a.length) : b.take p = a.take p := by
  apply List.ext_getElem?
  intro i
  rw [List.getElem?_take, List.getElem?_take]
  split
  · exact h i (Nat.zero_le _) (by omega)
  · rfl
theorem Ag.at (h : Ag L a b) (hk : L ≤ k) {x : α} (hx : a[k]? = some x) : b[k]? = some x := by
  rw [h k hk (List.getElem?_eq_some_iff.1 hx).1, hx]
end

/-- The maker has gone on from a to b; of its marks those from L on stand. -/
structure Xe (L : Nat) (a b : MS) : Prop where
  row : Ag 0 a.row b.row
  mm : Ag L a.marks b.marks

section
variable {L L' k : Nat} {a b c : MS} {s : ByteArray}
theorem Xe.refl : Xe L a a := ⟨Ag.refl, Ag.refl⟩
theorem Xe.trans (h : Xe L a b) (g : Xe L b c) : Xe L a c := ⟨h.row.trans g.row, h.mm.trans g.mm⟩
theorem Xe.mono (h : Xe L a b) (hL : L ≤ L') : Xe L' a b := ⟨h.row, h.mm.mono hL⟩
theorem xe_exp (l : List UInt8) : Xe L a (expM s a l) := ⟨Ag.refl, Ag.refl⟩
theorem xe_new : Xe L a (newM a) := ⟨Ag.refl, Ag.app _ _⟩
theorem xe_new3 : Xe L a (new3 a) := xe_new.trans (xe_new.trans xe_new)
theorem xe_jmp (k : Int) : Xe L a (jmpM a k) := ⟨Ag.app _ _, Ag.refl⟩
theorem Xe.lay (h : Xe L a b) (hk : k < L ∨ a.marks.length ≤ k) : Xe L a (layM b k) := ⟨h.row, h.mm.set _ hk⟩
theorem xe_lay (hk : k < L) : Xe L a (layM a k) := Xe.refl.lay (.inl hk)
end

theorem lay_at {m : MS} {k : Nat} (h : k < m.marks.length) : (layM m k).marks[k]? = some m.row.length := by
  show (m.marks.set k m.row.length)[k]? = _
  rw [List.getElem?_set_self h]

theorem plc_of {m : MS} {k v : Nat} (h : m.marks[k]? = some v) : plcM m (k : Int) = v := by
  have hl := (List.getElem?_eq_some_iff.1 h).1
  unfold plcM
  rw [if_neg (by omega), Int.toNat_natCast, List.getD_eq_getElem?_getD, h]
  rfl

/-- Where from each place of the row a run comes to, and the nodes' ways. -/
structure Fin' (M : MS) (Ld : Nat → Int) (W : Nat → Int × Int × Bool) : Prop where
  node : ∀ p n, M.row[p]? = some n → n.act ≠ 15 → Ld p = (nj (M.row.take p) : Nat) ∧ W (nj (M.row.take p)) = (Ld (plcM M n.yes), Ld (plcM M n.no), decide (n.act = 12 ∨ n.act = 13))
  jump : ∀ p k, M.row[p]? = some (jumpN k) → Ld p = Ld (plcM M k)

/-- A node's own text. -/
def txN (s : ByteArray) (nd : Nd) : ByteArray := s.extract nd.a.toNat (nd.a + nd.l).toNat

structure N1 (s : ByteArray) (nd : Nd) : Prop where
  g : Gn nd
  a : 0 ≤ nd.a
  l : 0 ≤ nd.l
  al : nd.a + nd.l ≤ s.size

/-- The nodes of the row are the nodes of the other reader. -/
def FR (s : ByteArray) (row : List NN) (nodes : List Nd) : Prop :=
  (row.filter (fun n => decide (n.act ≠ 15))).map (fun n => n.setW 0 0) = nodes.map (fun nd => encN nd (txN s nd) 0 0) ∧ ∀ nd ∈ nodes, N1 s nd

theorem FR.len {s : ByteArray} {row : List NN} {nodes : List Nd} (h : FR s row nodes) : nj row = nodes.length := by
  have := congrArg List.length h.1
  rw [List.length_map, List.length_map] at this
  rw [nj, List.countP_eq_length_filter, this]

theorem FR.jump {s : ByteArray} {row : List NN} {nodes : List Nd} (h : FR s row nodes) (k : Int) : FR s (row ++ [jumpN k]) nodes := by
  refine ⟨?_, h.2⟩
  rw [List.filter_append]
  have : [jumpN k].filter (fun n => decide (n.act ≠ 15)) = [] := rfl
  rw [this, List.append_nil]
  exact h.1

theorem FR.one {s : ByteArray} {row : List NN} {nodes : List Nd} (h : FR s row nodes) (nd : Nd) (y z : Int) (hn : N1 s nd) : FR s (row ++ [encN nd (txN s nd) y z]) (nodes ++ [nd]) := by
  refine ⟨?_, fun x hx => ?_⟩
  · rw [List.filter_append]
    have : [encN nd (txN s nd) y z].filter (fun n => decide (n.act ≠ 15)) = [encN nd (txN s nd) y z] := by
      rw [List.filter_cons, if_pos (decide_eq_true (show (encN nd (txN s nd) y z).act ≠ 15 from actN_ne nd.op))]; rfl
    rw [this, List.map_append, List.map_append, h.1]
    rfl
  · rcases List.mem_append.1 hx with h1 | h1
    · exact h.2 x h1
    · obtain rfl : x = nd := by simpa using h1
      exact hn

/-- The condition at item i, up to e: its nodes are c up to d, W their ways, and it leads to t and g. -/
def CdW : Nat → List It → (Nat → Int × Int × Bool) → Nat → Nat → Nat → Nat → Int → Int → Prop
  | 0, _, _, _, _, _, _, _, _ => False
  | f + 1, IT, W, i, e, c, d, t, g => ∃ it, IT[i]? = some it ∧ it.en = (e : Int) ∧ e ≤ 1000 ∧ i < e ∧ c < d ∧
      ((it.k = 99 ∧ it.n = (c : Int) ∧ d = c + 1 ∧ e = i + 1 ∧ W c = (t, g, true)) ∨
       (it.k = 33 ∧ CdW f IT W (i + 1) e c d g t) ∨
       (it.k = 38 ∧ ∃ e1 m, CdW f IT W (i + 1) e1 c m m g ∧ CdW f IT W e1 e m d t g) ∨
       (it.k = 124 ∧ ∃ e1 m, CdW f IT W (i + 1) e1 c m t m ∧ CdW f IT W e1 e m d t g))

theorem cdw_lt {f : Nat} {IT : List It} {W : Nat → Int × Int × Bool} {i e c d : Nat} {t g : Int} (h : CdW f IT W i e c d t g) : i < e ∧ c < d ∧ ∃ it, IT[i]? = some it ∧ it.en = (e : Int) ∧ e ≤ 1000 := by
  cases f with
  | zero => exact h.elim
  | succ f => obtain ⟨it, h1, h2, h3, h4, h5, _⟩ := h; exact ⟨h4, h5, it, h1, h2, h3⟩

theorem cdw_fst : ∀ (f : Nat) {IT : List It} {W : Nat → Int × Int × Bool} {i e c d : Nat} {t g : Int}, CdW f IT W i e c d t g → ∀ F, e - i ≤ F → firG F IT i = some (c : Int)
  | 0, _, _, _, _, _, _, _, _, h => h.elim
  | f + 1, IT, W, i, e, c, d, t, g, h => by
    intro F hF
    obtain ⟨it, h1, h2, h3, h4, h5, h6⟩ := h
    cases F with
    | zero => omega
    | succ F =>
      rw [firG, h1]
      dsimp only
      rcases h6 with ⟨k, n, _⟩ | ⟨k, q⟩ | ⟨k, e1, m, q, q2⟩ | ⟨k, e1, m, q, q2⟩
      · rw [if_pos k, n]
      · rw [if_neg (by omega)]; exact cdw_fst f q F (by omega)
      · rw [if_neg (by omega)]; exact cdw_fst f q F (by have := (cdw_lt q2).1; omega)
      · rw [if_neg (by omega)]; exact cdw_fst f q F (by have := (cdw_lt q2).1; omega)

/-- Both readers have gone on. -/
structure Pr (s : ByteArray) (m : MS) (st : RS) (m' : MS) (st' : RS) : Prop where
  p : m'.p = (st'.i, false)
  b : st'.bad = false
  lo : st'.loops = st.loops
  fr : FR s m'.row st'.nodes
  x : Xe 0 m m'
  y : Ag 0 st.items st'.items
  ge : st.i ≤ st'.i
  le : st'.i ≤ s.size

theorem nj_mono {a b : List NN} (h : Ag 0 a b) : nj a ≤ nj b := by
  have e := h.take (Nat.le_refl _)
  rw [List.take_length] at e
  rw [← e]
  unfold nj
  exact List.Sublist.countP_le (List.take_sublist _ _)

theorem fin_node {M : MS} {Ld : Nat → Int} {W : Nat → Int × Int × Bool} (h : Fin' M Ld W) {m : MS} {row : List NN} {n : NN} (hx : Ag 0 (row ++ [n]) m.row) (hM : Ag 0 m.row M.row) (hn : n.act ≠ 15) :
    Ld row.length = (nj row : Nat) ∧ W (nj row) = (Ld (plcM M n.yes), Ld (plcM M n.no), decide (n.act = 12 ∨ n.act = 13)) := by
  have hM2 := hx.trans hM
  have h1 : M.row[row.length]? = some n := hM2.at (Nat.zero_le _) (by simp)
  have h2 : M.row.take row.length = row := by
    rw [hM2.take (by simp), List.take_append_of_le_length (Nat.le_refl _), List.take_length]
  have := h.node _ _ h1 hn
  rw [h2] at this
  exact this

theorem act_tst {op : Int} (h : opOk op) : (actN op = 12 ∨ actN op = 13) ↔ (op = 121 ∨ op = 58) := by
  unfold opOk at h
  rcases h with rfl | rfl | rfl | rfl | rfl | rfl | rfl | rfl | rfl | rfl | rfl | rfl | rfl | rfl | rfl | rfl | rfl | rfl <;> decide

theorem nj_encN (row : List NN) (nd : Nd) (tx : ByteArray) (y z : Int) : nj (row ++ [encN nd tx y z]) = nj row + 1 := by
  unfold nj
  rw [List.countP_append]
  have : List.countP (fun n => decide (n.act ≠ 15)) [encN nd tx y z] = 1 := by
    rw [List.countP_cons, if_pos (decide_eq_true (show (encN nd tx y z).act ≠ 15 from actN_ne nd.op)), List.countP_nil]
  rw [this]

/-- What is said of a condition. -/
structure CPar (s : ByteArray) (f : Nat) (yes no : Int) (m : MS) (st : RS) (m' : MS) (st' : RS) : Prop where
  r : Pr s m st m' st'
  nd : ∃ n, m'.row[m.row.length]? = some n ∧ n.act ≠ 15
  al : ∀ p n, m.row.length ≤ p → m'.row[p]? = some n → n.act ≠ 15
  w : ∀ M IT Ld W, Fin' M Ld W → Xe m.marks.length m' M → Ag st.items.length st'.items IT → IT.length ≤ 1000 →
    CdW f IT W st.items.length st'.items.length (nj m.row) (nj m'.row) (Ld (plcM M yes)) (Ld (plcM M no))

/-- Each jump leads on, or to a node. -/
def JOk (M : MS) (lo hi : Nat) : Prop := ∀ p n, lo ≤ p → p < hi → M.row[p]? = some n → n.act = 15 → p < plcM M n.yes ∨ ∃ n', M.row[plcM M n.yes]? = some n' ∧ n'.act ≠ 15

theorem JOk.join {M : MS} {a b c : Nat} (h : JOk M a b) (k : JOk M b c) : JOk M a c := fun p n h1 h2 => by
  rcases Nat.lt_or_ge p b with h3 | h3
  · exact h p n h1 h3
  · exact k p n h3 h2
theorem jok_one {M : MS} {a : Nat} {n : NN} (hn : M.row[a]? = some n) (h : n.act = 15 → a < plcM M n.yes ∨ ∃ n', M.row[plcM M n.yes]? = some n' ∧ n'.act ≠ 15) : JOk M a (a + 1) := fun p n' h1 h2 h3 h4 => by
  obtain rfl : p = a := by omega
  rw [hn] at h3
  obtain rfl : n = n' := by simpa using h3
  exact h h4
theorem jok_nodes {M : MS} {m' : MS} {a : Nat} (hx : Ag 0 m'.row M.row) (h : ∀ p n, a ≤ p → m'.row[p]? = some n → n.act ≠ 15) : JOk M a m'.row.length := fun p n h1 h2 h3 h4 => by
  rw [hx p (Nat.zero_le _) h2] at h3
  exact absurd h4 (h p n h1 h3)

theorem ag_le {α : Type} {L : Nat} {a b : List α} (h : Ag L a b) (hL : L < a.length) : a.length ≤ b.length := by
  have e := h (a.length - 1) (by omega) (by omega)
  rcases Nat.lt_or_ge (a.length - 1) b.length with h3 | h3
  · omega
  · rw [List.getElem?_eq_none h3, List.getElem?_eq_getElem (by omega)] at e; cases e
end Go.Proofs.YtellieabhaphhaaGreatDoor

/-
  Plain: both readers side by side: a condition.
-/
namespace Go.Proofs.YtellieabhaphhaaGreatDoor
open Go.RowKit

theorem modify_at {α : Type} {l : List α} {k : Nat} {x : α} (f : α → α) (h : l[k]? = some x) : (l.modify k f)[k]? = some (f x) := by
  rw [List.getElem?_modify, h]; simp

/-- A test. -/
theorem par_test {f : Nat} {s : ByteArray} {yes no : Int} {m : MS} {st : RS} (hp : m.p = (st.i, false)) (hi : st.i ≤ s.size) (hfr : FR s m.row st.nodes) (hg : (tstM s yes no m).p.2 = false) :
    CPar s (f + 1) yes no m st (tstM s yes no m) (condT s st) := by
  obtain ⟨r1, r2⟩ := tst_ref s st.i
  have hg' : (testF s st.i).2.2 = false := by
    have : (tstF s m.p).2.2 = false := hg
    rw [hp, r1] at this; exact this
  obtain ⟨g1, g2, g3⟩ := testF_gn s st.i hg'
  have hge := testF_ge s st.i
  have hle := testF_le s st.i hi
  have hn1 : N1 s (testF s st.i).1 := ⟨g1, by omega, by omega, by omega⟩
  have htx : sinceB s m.p.1 (tstF s m.p).2.1 = txN s (testF s st.i).1 := by
    unfold sinceB txN
    rw [hp, r1, g2, g3, Int.toNat_natCast]
    congr 1
    omega
  have hrow : (tstM s yes no m).row = m.row ++ [encN (testF s st.i).1 (txN s (testF s st.i).1) yes no] := by
    show m.row ++ [((tstF s m.p).1.setT (sinceB s m.p.1 (tstF s m.p).2.1)).setW yes no] = _
    rw [htx, hp, r2]
    rfl
  have hit : (condT s st).items = (st.items ++ [(⟨99, st.nodes.length, 0, 0⟩ : It)]).modify st.items.length (fun x => { x with en := ((st.items ++ [(⟨99, st.nodes.length, 0, 0⟩ : It)]).length : Nat) }) := rfl
  have hl : (condT s st).items.length = st.items.length + 1 := by rw [hit, List.length_modify, List.length_append]; rfl
  refine ⟨⟨?_, hg', rfl, ?_, ⟨?_, Ag.refl⟩, ?_, hge.1, hle⟩, ?_, ?_, ?_⟩
  · show (tstF s m.p).2 = _
    rw [hp, r1]
    exact Prod.ext rfl hg'
  · rw [hrow]; exact hfr.one _ _ _ hn1
  · rw [hrow]; exact Ag.app _ _
  · rw [hit]; exact (Ag.app _ _).mod _ (.inr (Nat.le_refl _))
  · refine ⟨encN (testF s st.i).1 (txN s (testF s st.i).1) yes no, ?_, actN_ne (testF s st.i).1.op⟩
    · rw [hrow, List.getElem?_append_right (Nat.le_refl _), Nat.sub_self]; rfl
  · intro p n h1 h2
    rw [hrow, List.getElem?_append_right h1] at h2
    have : n ∈ [encN (testF s st.i).1 (txN s (testF s st.i).1) yes no] := List.mem_of_getElem? h2
    obtain rfl : n = _ := by simpa using this
    exact actN_ne (testF s st.i).1.op
  · intro M IT Ld W hF hX hI hIl
    obtain ⟨q1, q2⟩ := fin_node hF (m := tstM s yes no m) (row := m.row) (n := encN (testF s st.i).1 (txN s (testF s st.i).1) yes no) (by rw [hrow]; exact Ag.refl) hX.row (actN_ne _)
    have hc : nj (tstM s yes no m).row = nj m.row + 1 := by rw [hrow, nj_encN]
    have hop : decide ((encN (testF s st.i).1 (txN s (testF s st.i).1) yes no).act = 12 ∨ (encN (testF s st.i).1 (txN s (testF s st.i).1) yes no).act = 13) = true := decide_eq_true ((act_tst g1.op).2 (testF_op s st.i))
    rw [hop] at q2
    refine ⟨⟨99, st.nodes.length, 0, (st.items.length + 1 : Nat)⟩, ?_, by rw [hl], ?_, by omega, by omega, .inl ⟨rfl, ?_, hc, hl, q2⟩⟩
    · refine hI.at (Nat.le_refl _) ?_
      rw [hit, modify_at _ (x := (⟨99, st.nodes.length, 0, 0⟩ : It)) (by simp)]
      simp
    · have := ag_le hI (by omega); omega
    · rw [hfr.len]

def pushOp (s : ByteArray) (st : RS) : RS := { st with i := st.i + 1, items := st.items ++ [⟨pk s st.i, 0, 0, 0⟩] }

/-- What a sign stands ahead of: its item. -/
theorem op_item {s : ByteArray} {st st3 : RS} {IT : List It} (h : Ag 0 (pushOp s st).items st3.items) (hI : Ag st.items.length (endAt st3 st.items.length).items IT) :
    IT[st.items.length]? = some ⟨pk s st.i, 0, 0, (st3.items.length : Nat)⟩ := by
  refine hI.at (Nat.le_refl _) ?_
  have h1 : st3.items[st.items.length]? = some ⟨pk s st.i, 0, 0, 0⟩ := h.at (Nat.zero_le _) (by show (st.items ++ _)[_]? = _; simp)
  show (st3.items.modify st.items.length (fun x => { x with en := (st3.items.length : Nat) }))[st.items.length]? = _
  rw [modify_at _ h1]

theorem endAt_len (st : RS) (k : Nat) : (endAt st k).items.length = st.items.length := List.length_modify ..

theorem par_cond : ∀ (f : Nat) (s : ByteArray) (yes no : Int) (m : MS) (st : RS), s.size ≤ 1000 → m.p = (st.i, false) → st.bad = false → st.i ≤ s.size → s.size - st.i < f → FR s m.row st.nodes →
    (condM f s yes no m).p.2 = false → CPar s f yes no m st (condM f s yes no m) (condF f s st)
  | 0, _, _, _, _, _, _, _, _, _, h, _, _ => by omega
  | f + 1, s, yes, no, m, st, hs, hp, hb, hi, hf, hfr, hg => by
    have hpk : pkb s m.p = pk s st.i := by rw [hp, pkb_false]
    rw [condM] at hg ⊢
    rw [condF]
    rw [hpk] at hg ⊢
    by_cases h33 : pk s st.i = 33
    · rw [if_pos h33] at hg ⊢
      have hop : isOp (pk s st.i) = true := by simp [isOp, h33]
      obtain ⟨e1, e2, e3⟩ := eat_at (s := s) (p := m.p) (c := 33) (by rw [hpk]; exact h33) (by decide)
      rw [hp] at e2
      have hst : (if isOp (pk s st.i) = true then
          (let st2 := condF f s { st with i := st.i + 1, items := st.items ++ [⟨pk s st.i, 0, 0, 0⟩] }
           let st3 := if (pk s st.i != 33 && !st2.bad) then condF f s st2 else st2
           endAt st3 st.items.length) else condT s st) = endAt (condF f s (pushOp s st)) st.items.length := by
        rw [if_pos hop]
        have : ¬ ((pk s st.i != 33 && !(condF f s { st with i := st.i + 1, items := st.items ++ [⟨pk s st.i, 0, 0, 0⟩] }).bad) = true) := by simp [h33]
        dsimp only
        rw [if_neg this]
        rfl
      rw [hst]
      have x1 : (expM s m [33]).p = ((pushOp s st).i, false) := by rw [expM_p, e1, hp]; rfl
      have ih := par_cond f s no yes (expM s m [33]) (pushOp s st) hs x1 hb (by show st.i + 1 ≤ _; omega) (by show s.size - (st.i + 1) < f; omega) hfr hg
      have hpl : (pushOp s st).items.length = st.items.length + 1 := by show (st.items ++ [_]).length = _; simp
      have h0 : Ag 0 st.items (pushOp s st).items := Ag.app _ _
      have hln := ih.r.y.len
      refine ⟨⟨ih.r.p, ih.r.b, ih.r.lo, ih.r.fr, (xe_exp _).trans ih.r.x, (h0.trans ih.r.y).mod _ (.inr (Nat.le_refl _)), by have := ih.r.ge; show st.i ≤ _; exact Nat.le_trans (Nat.le_succ _) this, ih.r.le⟩, ih.nd, ih.al, ?_⟩
      intro M IT Ld W hF hX hI hIl
      have hit := op_item ih.r.y hI
      have hI2 : Ag (pushOp s st).items.length (condF f s (pushOp s st)).items IT := hI.unmod (by omega) (by omega)
      have hw := ih.w M IT Ld W hF hX hI2 hIl
      rw [hpl] at hw
      obtain ⟨w1, w2, _, _, _, w3⟩ := cdw_lt hw
      exact ⟨_, hit, by rw [endAt_len], by rw [endAt_len]; exact w3, by rw [endAt_len]; omega, w2, .inr (.inl ⟨by simp [h33], by rw [endAt_len]; exact hw⟩)⟩
    rw [if_neg h33] at hg ⊢
    by_cases h38 : pk s st.i = 38
    · rw [if_pos h38] at hg ⊢
      have hop : isOp (pk s st.i) = true := by simp [isOp, h38]
      obtain ⟨e1, e2, e3⟩ := eat_at (s := s) (p := m.p) (c := 38) (by rw [hpk]; exact h38) (by decide)
      rw [hp] at e2
      have x1 : (newM (expM s m [38])).p = ((pushOp s st).i, false) := by rw [newM_p, expM_p, e1, hp]; rfl
      have hpl : (pushOp s st).items.length = st.items.length + 1 := by show (st.items ++ [_]).length = _; simp
      have h0 : Ag 0 st.items (pushOp s st).items := Ag.app _ _
      have hi1 : (pushOp s st).i = st.i + 1 := rfl
      have hi0 : (newM (expM s m [38])).p.1 = st.i + 1 := by rw [x1, hi1]
      have mc := condM_mc f s m.marks.length no (newM (expM s m [38])) (by omega) (by omega)
      have hy3 : (condM f s m.marks.length no (newM (expM s m [38]))).p.2 = false := by
        have := (condM_gp f s yes no (layM (condM f s m.marks.length no (newM (expM s m [38]))) m.marks.length) hs (by rw [layM_p]; have := mc.lo; omega) (by rw [layM_p]; exact mc.i) hg).1
        exact this
      have ih1 := par_cond f s m.marks.length no (newM (expM s m [38])) (pushOp s st) hs x1 hb (by omega) (by omega) hfr hy3
      have hst : (if isOp (pk s st.i) = true then
          (let st2 := condF f s { st with i := st.i + 1, items := st.items ++ [⟨pk s st.i, 0, 0, 0⟩] }
           let st3 := if (pk s st.i != 33 && !st2.bad) then condF f s st2 else st2
           endAt st3 st.items.length) else condT s st) = endAt (condF f s (condF f s (pushOp s st))) st.items.length := by
        rw [if_pos hop]
        have hbb : (condF f s { st with i := st.i + 1, items := st.items ++ [⟨pk s st.i, 0, 0, 0⟩] }).bad = false := ih1.r.b
        have : ((pk s st.i != 33 && !(condF f s { st with i := st.i + 1, items := st.items ++ [⟨pk s st.i, 0, 0, 0⟩] }).bad) = true) := by rw [hbb]; simp [h38]
        dsimp only
        rw [if_pos this]
        rfl
      rw [hst]
      generalize condM f s m.marks.length no (newM (expM s m [38])) = y3 at *
      generalize hc1 : condF f s (pushOp s st) = c1 at *
      have ih2 := par_cond f s yes no (layM y3 m.marks.length) c1 hs ih1.r.p ih1.r.b ih1.r.le (by have := ih1.r.ge; omega) ih1.r.fr hg
      generalize condM f s yes no (layM y3 m.marks.length) = m' at *
      generalize condF f s c1 = c2 at *
      have hln1 := ih1.r.y.len
      have hln2 := ih2.r.y.len
      have hmx : Xe 0 m y3 := ((xe_exp _).trans xe_new).trans ih1.r.x
      have hml : m.marks.length < y3.marks.length := by
        have := ih1.r.x.mm.len
        have e : (newM (expM s m [38])).marks.length = m.marks.length + 1 := by show (m.marks ++ [0]).length = _; simp
        omega
      refine ⟨⟨ih2.r.p, ih2.r.b, ih2.r.lo.trans ih1.r.lo, ih2.r.fr, (hmx.lay (.inr (Nat.le_refl _))).trans ih2.r.x, ((h0.trans ih1.r.y).trans ih2.r.y).mod _ (.inr (Nat.le_refl _)), by have := ih1.r.ge; have := ih2.r.ge; show st.i ≤ c2.i; omega, ih2.r.le⟩, ?_, ?_, ?_⟩
      · obtain ⟨n, n1, n2⟩ := ih1.nd
        exact ⟨n, ih2.r.x.row.at (Nat.zero_le _) n1, n2⟩
      · intro p n h1 h2
        rcases Nat.lt_or_ge p y3.row.length with h3 | h3
        · rw [ih2.r.x.row p (Nat.zero_le _) h3] at h2
          exact ih1.al p n h1 h2
        · exact ih2.al p n h3 h2
      intro M IT Ld W hF hX hI hIl
      have hit := op_item (ih1.r.y.trans ih2.r.y) hI
      have hI2 : Ag (st.items.length + 1) c2.items IT := hI.unmod (by omega) (by omega)
      have hI1 : Ag (pushOp s st).items.length c1.items IT := by rw [hpl]; exact (ih2.r.y.mono (Nat.zero_le _)).trans hI2
      have hX2 : Xe m.marks.length (layM y3 m.marks.length) M := (ih2.r.x.mono (Nat.zero_le _)).trans hX
      have hlm : (layM y3 m.marks.length).marks.length = y3.marks.length := List.length_set ..
      have hX1 : Xe (m.marks.length + 1) y3 M := (xe_lay (Nat.lt_succ_self _)).trans (hX2.mono (Nat.le_succ _))
      have hnl : (newM (expM s m [38])).marks.length = m.marks.length + 1 := by show (m.marks ++ [0]).length = _; simp
      have hw1 := ih1.w M IT Ld W hF (by rw [hnl]; exact hX1) hI1 hIl
      have hw2 := ih2.w M IT Ld W hF (hX.mono (by rw [hlm]; omega)) (hI2.mono (by omega)) hIl
      have hmk : plcM M (m.marks.length : Nat) = y3.row.length := plc_of (hX2.mm.at (Nat.le_refl _) (lay_at hml))
      obtain ⟨n, n1, n2⟩ := ih2.nd
      have hld : Ld y3.row.length = (nj y3.row : Nat) := by
        have := (hF.node y3.row.length n (hX.row.at (Nat.zero_le _) n1) n2).1
        rw [this, hX2.row.take (p := y3.row.length) (Nat.le_refl _)]
        show ((nj (y3.row.take y3.row.length) : Nat) : Int) = _
        rw [List.take_length]
      rw [hmk, hld, hpl] at hw1
      obtain ⟨w1, w2, _⟩ := cdw_lt hw1
      obtain ⟨w4, w5, _, _, _, w6⟩ := cdw_lt hw2
      refine ⟨_, hit, by rw [endAt_len], by rw [endAt_len]; exact w6, by rw [endAt_len]; omega, Nat.lt_trans w2 w5, .inr (.inr (.inl ⟨by simp [h38], c1.items.length, nj y3.row, hw1, ?_⟩))⟩
      rw [endAt_len]; exact hw2
    rw [if_neg h38] at hg ⊢
    by_cases h124 : pk s st.i = 124
    · rw [if_pos h124] at hg ⊢
      have hop : isOp (pk s st.i) = true := by simp [isOp, h124]
      obtain ⟨e1, e2, e3⟩ := eat_at (s := s) (p := m.p) (c := 124) (by rw [hpk]; exact h124) (by decide)
      rw [hp] at e2
      have x1 : (newM (expM s m [124])).p = ((pushOp s st).i, false) := by rw [newM_p, expM_p, e1, hp]; rfl
      have hpl : (pushOp s st).items.length = st.items.length + 1 := by show (st.items ++ [_]).length = _; simp
      have h0 : Ag 0 st.items (pushOp s st).items := Ag.app _ _
      have hi1 : (pushOp s st).i = st.i + 1 := rfl
      have hi0 : (newM (expM s m [124])).p.1 = st.i + 1 := by rw [x1, hi1]
      have mc := condM_mc f s yes m.marks.length (newM (expM s m [124])) (by omega) (by omega)
      have hy3 : (condM f s yes m.marks.length (newM (expM s m [124]))).p.2 = false := by
        have := (condM_gp f s yes no (layM (condM f s yes m.marks.length (newM (expM s m [124]))) m.marks.length) hs (by rw [layM_p]; have := mc.lo; omega) (by rw [layM_p]; exact mc.i) hg).1
        exact this
      have ih1 := par_cond f s yes m.marks.length (newM (expM s m [124])) (pushOp s st) hs x1 hb (by omega) (by omega) hfr hy3
      have hst : (if isOp (pk s st.i) = true then
          (let st2 := condF f s { st with i := st.i + 1, items := st.items ++ [⟨pk s st.i, 0, 0, 0⟩] }
           let st3 := if (pk s st.i != 33 && !st2.bad) then condF f s st2 else st2
           endAt st3 st.items.length) else condT s st) = endAt (condF f s (condF f s (pushOp s st))) st.items.length := by
        rw [if_pos hop]
        have hbb : (condF f s { st with i := st.i + 1, items := st.items ++ [⟨pk s st.i, 0, 0, 0⟩] }).bad = false := ih1.r.b
        have : ((pk s st.i != 33 && !(condF f s { st with i := st.i + 1, items := st.items ++ [⟨pk s st.i, 0, 0, 0⟩] }).bad) = true) := by rw [hbb]; simp [h124]
        dsimp only
        rw [if_pos this]
        rfl
      rw [hst]
      generalize condM f s yes m.marks.length (newM (expM s m [124])) = y3 at *
      generalize hc1 : condF f s (pushOp s st) = c1 at *
      have ih2 := par_cond f s yes no (layM y3 m.marks.length) c1 hs ih1.r.p ih1.r.b ih1.r.le (by have := ih1.r.ge; omega) ih1.r.fr hg
      generalize condM f s yes no (layM y3 m.marks.length) = m' at *
      generalize condF f s c1 = c2 at *
      have hln1 := ih1.r.y.len
      have hln2 := ih2.r.y.len
      have hmx : Xe 0 m y3 := ((xe_exp _).trans xe_new).trans ih1.r.x
      have hml : m.marks.length < y3.marks.length := by
        have := ih1.r.x.mm.len
        have e : (newM (expM s m [124])).marks.length = m.marks.length + 1 := by show (m.marks ++ [0]).length = _; simp
        omega
      refine ⟨⟨ih2.r.p, ih2.r.b, ih2.r.lo.trans ih1.r.lo, ih2.r.fr, (hmx.lay (.inr (Nat.le_refl _))).trans ih2.r.x, ((h0.trans ih1.r.y).trans ih2.r.y).mod _ (.inr (Nat.le_refl _)), by have := ih1.r.ge; have := ih2.r.ge; show st.i ≤ c2.i; omega, ih2.r.le⟩, ?_, ?_, ?_⟩
      · obtain ⟨n, n1, n2⟩ := ih1.nd
        exact ⟨n, ih2.r.x.row.at (Nat.zero_le _) n1, n2⟩
      · intro p n h1 h2
        rcases Nat.lt_or_ge p y3.row.length with h3 | h3
        · rw [ih2.r.x.row p (Nat.zero_le _) h3] at h2
          exact ih1.al p n h1 h2
        · exact ih2.al p n h3 h2
      intro M IT Ld W hF hX hI hIl
      have hit := op_item (ih1.r.y.trans ih2.r.y) hI
      have hI2 : Ag (st.items.length + 1) c2.items IT := hI.unmod (by omega) (by omega)
      have hI1 : Ag (pushOp s st).items.length c1.items IT := by rw [hpl]; exact (ih2.r.y.mono (Nat.zero_le _)).trans hI2
      have hX2 : Xe m.marks.length (layM y3 m.marks.length) M := (ih2.r.x.mono (Nat.zero_le _)).trans hX
      have hlm : (layM y3 m.marks.length).marks.length = y3.marks.length := List.length_set ..
      have hX1 : Xe (m.marks.length + 1) y3 M := (xe_lay (Nat.lt_succ_self _)).trans (hX2.mono (Nat.le_succ _))
      have hnl : (newM (expM s m [124])).marks.length = m.marks.length + 1 := by show (m.marks ++ [0]).length = _; simp
      have hw1 := ih1.w M IT Ld W hF (by rw [hnl]; exact hX1) hI1 hIl
      have hw2 := ih2.w M IT Ld W hF (hX.mono (by rw [hlm]; omega)) (hI2.mono (by omega)) hIl
      have hmk : plcM M (m.marks.length : Nat) = y3.row.length := plc_of (hX2.mm.at (Nat.le_refl _) (lay_at hml))
      obtain ⟨n, n1, n2⟩ := ih2.nd
      have hld : Ld y3.row.length = (nj y3.row : Nat) := by
        have := (hF.node y3.row.length n (hX.row.at (Nat.zero_le _) n1) n2).1
        rw [this, hX2.row.take (p := y3.row.length) (Nat.le_refl _)]
        show ((nj (y3.row.take y3.row.length) : Nat) : Int) = _
        rw [List.take_length]
      rw [hmk, hld, hpl] at hw1
      obtain ⟨w1, w2, _⟩ := cdw_lt hw1
      obtain ⟨w4, w5, _, _, _, w6⟩ := cdw_lt hw2
      refine ⟨_, hit, by rw [endAt_len], by rw [endAt_len]; exact w6, by rw [endAt_len]; omega, Nat.lt_trans w2 w5, .inr (.inr (.inr ⟨by simp [h124], c1.items.length, nj y3.row, hw1, ?_⟩))⟩
      rw [endAt_len]; exact hw2
    · rw [if_neg h124] at hg ⊢
      have hop : ¬ isOp (pk s st.i) = true := by simp [isOp, h33, h38, h124]
      rw [if_neg hop]
      exact par_test hp hi hfr hg
end Go.Proofs.YtellieabhaphhaaGreatDoor

/-
  Plain: both readers side by side: statements.
-/
namespace Go.Proofs.YtellieabhaphhaaGreatDoor
open Go.RowKit

/-- The piece at item i, up to j: its nodes are c up to m; behind it a run goes on at nx. -/
def PcW (C : Nat → Nat → Nat → Nat → Int → Int → Prop) (S : Nat → Nat → Nat → Nat → Int → Int → Int → Prop) (IT : List It) (W : Nat → Int × Int × Bool) (it : It) (i j c m : Nat) (nx ou ag : Int) : Prop :=
  (it.k = 115 ∧ it.n = (c : Int) ∧ m = c + 1 ∧ W c = (nx, nx, false)) ∨
  ((it.k = 62 ∨ it.k = 60) ∧ m = c) ∨
  (it.k = 105 ∧ ∃ a b p q t g, C (i + 1) a c p t g ∧ a ≤ b ∧ b ≤ j ∧ it.els = (b : Int) ∧ S a b p q nx ou ag ∧ S b j q m nx ou ag ∧ entO IT a b nx ou ag = some t ∧ entO IT b j nx ou ag = some g) ∨
  (it.k = 119 ∧ ∃ a p t, C (i + 1) a c p t nx ∧ a ≤ j ∧ S a j p m c nx c ∧ entO IT a j c nx c = some t)

/-- The pieces from item i up to e: their nodes are c up to d; behind them a run goes on at nx. -/
def StW : Nat → List It → (Nat → Int × Int × Bool) → Nat → Nat → Nat → Nat → Int → Int → Int → Prop
  | 0, _, _, _, _, _, _, _, _, _ => False
  | f + 1, IT, W, i, e, c, d, nx, ou, ag => c ≤ d ∧ ((i = e ∧ c = d) ∨
      (i < e ∧ e ≤ 1000 ∧ ∃ (it : It) (j m : Nat) (nx' : Int), IT[i]? = some it ∧ it.en = (j : Int) ∧ i < j ∧ j ≤ e ∧ c ≤ m ∧ m ≤ d ∧ entO IT j e nx ou ag = some nx' ∧
        PcW (CdW f IT W) (StW f IT W) IT W it i j c m nx' ou ag ∧ StW f IT W j e m d nx ou ag))

/-- The marks of the loop around. -/
def JH (M : MS) (lp : Bool) (h b : Int) (hi : Nat) : Prop := lp = true → hi ≤ plcM M b ∧ ∃ n, M.row[plcM M h]? = some n ∧ n.act ≠ 15

/-- What is said of statements. -/
def SPar (s : ByteArray) (f E : Nat) (S : Int → Int → MS → MS) (R : RS → RS) : Prop :=
  ∀ (lp : Bool) (h b : Int) (m : MS) (st : RS), lpOk lp h b → decide (st.loops ≠ 0) = lp → m.p = (st.i, false) → st.bad = false → st.i ≤ s.size → s.size - st.i < f → FR s m.row st.nodes →
    (S h b m).p.2 = false → (pk s (S h b m).p.1 = E ∨ s.size ≤ (S h b m).p.1) →
    Pr s m st (S h b m) (R st) ∧ (∀ M, Xe m.marks.length (S h b m) M → JH M lp h b (S h b m).row.length → JOk M m.row.length (S h b m).row.length) ∧ ∀ M IT Ld W nx ou ag, Fin' M Ld W → Xe m.marks.length (S h b m) M → Ag st.items.length (R st).items IT → IT.length ≤ 1000 →
      nx = Ld (S h b m).row.length → (lp = true → ou = Ld (plcM M b) ∧ ag = Ld (plcM M h)) →
      StW f IT W st.items.length (R st).items.length (nj m.row) (nj (S h b m).row) nx ou ag ∧ entO IT st.items.length (R st).items.length nx ou ag = some (Ld m.row.length)

/-- What is said of one statement. -/
def OPar (s : ByteArray) (f : Nat) (lp : Bool) (h b : Int) (m : MS) (st : RS) (m' : MS) (st' : RS) : Prop :=
    Pr s m st m' st' ∧ st.items.length < st'.items.length ∧ (∀ M, Xe m.marks.length m' M → JH M lp h b m'.row.length → JOk M m.row.length m'.row.length) ∧ ∀ M IT Ld W nx ou ag, Fin' M Ld W → Xe m.marks.length m' M → Ag st.items.length st'.items IT → IT.length ≤ 1000 →
      nx = Ld m'.row.length → (lp = true → ou = Ld (plcM M b) ∧ ag = Ld (plcM M h)) →
      ∃ it, IT[st.items.length]? = some it ∧ it.en = (st'.items.length : Int) ∧ PcW (CdW f IT W) (StW f IT W) IT W it st.items.length st'.items.length (nj m.row) (nj m'.row) nx ou ag ∧
        ∀ e nx0, st.items.length < e → entO IT st.items.length e nx0 ou ag = some (Ld m.row.length)

theorem eatS_at {s : ByteArray} {st : RS} {c : Nat} (hb : st.bad = false) (h : pk s st.i = c) (hc : c ≠ 0) : eatS s st c = { st with i := st.i + 1 } := by
  have e : eatF s (st.i, st.bad) c = (st.i + 1, false) := by
    rw [eatF_pkb s _ c hc, hb, pkb_false, if_pos h]
  unfold eatS
  rw [e, ← hb]

theorem exp1_good {s : ByteArray} {p : Nat × Bool} {c : UInt8} (h : (expF s p [c]).2 = false) : p.2 = false ∧ pk s p.1 = c.toNat ∧ expF s p [c] = (p.1 + 1, false) := eatF_good s p c.toNat h

theorem exp2_good {s : ByteArray} {p : Nat × Bool} {c d : UInt8} (h : (expF s p [c, d]).2 = false) : p.2 = false ∧ pk s p.1 = c.toNat ∧ pk s (p.1 + 1) = d.toNat ∧ expF s p [c, d] = (p.1 + 2, false) := by
  have h1 : (expF s (eatF s p c.toNat) [d]).2 = false := h
  obtain ⟨a1, a2, a3⟩ := exp1_good h1
  obtain ⟨b1, b2, b3⟩ := eatF_good s p c.toNat a1
  rw [b3] at a2 a3
  refine ⟨b1, b2, a2, ?_⟩
  show expF s (eatF s p c.toNat) [d] = _
  rw [b3, a3]

theorem par_act {f : Nat} {s : ByteArray} {lp : Bool} {h b : Int} {m : MS} {st : RS} (hp : m.p = (st.i, false)) (hi : st.i < s.size) (hfr : FR s m.row st.nodes) (hg : (actM s m).p.2 = false) :
    OPar s f lp h b m st (actM s m) (actF s st) := by
  obtain ⟨r1, r2⟩ := nac_ref s st.i
  have hg0 : (expF s (nacF s m.p).2 [59]).2 = false := hg
  obtain ⟨a1, a2, a3⟩ := exp1_good hg0
  rw [hp, r1] at a1 a2 a3
  have hr2 := r2 a1
  obtain ⟨g1, g2, g3⟩ := simpF_gn s st.i a1
  have hge := simpF_ge s st.i
  have hle := simpF_le s st.i (Nat.le_of_lt hi)
  have hn1 : N1 s (simpF s st.i).1 := ⟨g1, by omega, by omega, by omega⟩
  have htx : sinceB s m.p.1 (nacF s m.p).2.1 = txN s (simpF s st.i).1 := by
    unfold sinceB txN
    rw [hp, r1, g2, g3, Int.toNat_natCast]
    congr 1
    omega
  have hrow : (actM s m).row = m.row ++ [encN (simpF s st.i).1 (txN s (simpF s st.i).1) m.marks.length m.marks.length] := by
    show m.row ++ [((nacF s m.p).1.setT (sinceB s m.p.1 (nacF s m.p).2.1)).setW m.marks.length m.marks.length] = _
    rw [htx, hp, hr2]
    rfl
  have hmk : (actM s m).marks = (m.marks ++ [0]).set m.marks.length (m.row.length + 1) := by
    show (m.marks ++ [0]).set m.marks.length (m.row ++ [_]).length = _
    rw [List.length_append]; rfl
  have hmk2 : (actM s m).marks[m.marks.length]? = some (m.row.length + 1) := by rw [hmk, List.getElem?_set_self (by simp)]
  have hst : actF s st = { st with i := (simpF s st.i).2.1 + 1, bad := false, nodes := st.nodes ++ [(simpF s st.i).1], items := (st.items ++ [(⟨115, st.nodes.length, 0, 0⟩ : It)]).modify st.items.length (fun x => { x with en := ((st.items ++ [(⟨115, st.nodes.length, 0, 0⟩ : It)]).length : Nat) }) } := by
    unfold actF
    rw [eatS_at a1 (c := 59) a2 (by decide)]
    unfold endAt
    dsimp only
    rw [a1]
  have hil : (actF s st).items.length = st.items.length + 1 := by rw [hst]; dsimp only; rw [List.length_modify, List.length_append]; rfl
  have hbyte := pk_in s (simpF s st.i).2.1 (by rw [a2]; decide)
  refine ⟨⟨?_, by rw [hst], by rw [hst], ?_, ⟨?_, ?_⟩, ?_, ?_, ?_⟩, by omega, ?_, ?_⟩
  · show expF s (nacF s m.p).2 [59] = _
    rw [hp, r1, a3, hst]
  · rw [hrow, hst]; exact hfr.one _ _ _ hn1
  · rw [hrow]; exact Ag.app _ _
  · rw [hmk]; exact (Ag.app _ _).set _ (.inr (Nat.le_refl _))
  · rw [hst]; exact (Ag.app _ _).mod _ (.inr (Nat.le_refl _))
  · rw [hst]; dsimp only; have := hge.1; omega
  · rw [hst]; dsimp only; omega
  · intro M hX _
    rw [hrow, List.length_append]
    exact jok_one (n := encN (simpF s st.i).1 (txN s (simpF s st.i).1) m.marks.length m.marks.length) (hX.row.at (Nat.zero_le _) (by rw [hrow]; simp)) (fun e => absurd e (actN_ne (simpF s st.i).1.op))
  · intro M IT Ld W nx ou ag hF hX hI hIl hnx hlp
    obtain ⟨q1, q2⟩ := fin_node hF (m := actM s m) (row := m.row) (n := encN (simpF s st.i).1 (txN s (simpF s st.i).1) m.marks.length m.marks.length) (by rw [hrow]; exact Ag.refl) hX.row (actN_ne _)
    have hc : nj (actM s m).row = nj m.row + 1 := by rw [hrow, nj_encN]
    have hit : IT[st.items.length]? = some ⟨115, st.nodes.length, 0, (st.items.length + 1 : Nat)⟩ := by
      refine hI.at (Nat.le_refl _) ?_
      rw [hst]
      dsimp only
      rw [modify_at _ (x := (⟨115, st.nodes.length, 0, 0⟩ : It)) (by simp)]
      simp
    have hpl : plcM M (m.marks.length : Nat) = m.row.length + 1 := plc_of (hX.mm.at (Nat.le_refl _) hmk2)
    have hrl : (actM s m).row.length = m.row.length + 1 := by rw [hrow, List.length_append]; rfl
    refine ⟨_, hit, by rw [hil], .inl ⟨rfl, by rw [hfr.len], hc, ?_⟩, ?_⟩
    · have hop : decide ((encN (simpF s st.i).1 (txN s (simpF s st.i).1) m.marks.length m.marks.length).act = 12 ∨ (encN (simpF s st.i).1 (txN s (simpF s st.i).1) m.marks.length m.marks.length).act = 13) = false :=
        decide_eq_false (fun e => by have := (act_tst g1.op).1 e; have := simpF_op s st.i; omega)
      rw [q2, hop]
      show (Ld (plcM M (m.marks.length : Nat)), Ld (plcM M (m.marks.length : Nat)), false) = _
      rw [hpl, hnx, hrl]
    · intro e nx0 he
      unfold entO
      rw [if_neg (by omega), hit]
      dsimp only
      rw [if_pos rfl, q1, hfr.len]

theorem par_lep {f : Nat} {s : ByteArray} {lp : Bool} {h b : Int} {m : MS} {st : RS} {c : UInt8} {k : Int} (hc : c = 62 ∨ c = 60) (hk : k = if c = 62 then b else h) (hl : lpOk lp h b) (hlp : decide (st.loops ≠ 0) = lp) (hp : m.p = (st.i, false)) (hb : st.bad = false) (hfr : FR s m.row st.nodes) (hpk : pk s st.i = c.toNat)
    (hg : (lepM s [c, 59] k m).p.2 = false) :
    OPar s f lp h b m st (lepM s [c, 59] k m) (if st.loops = 0 then { st with bad := true } else lpF s st) := by
  have hk1 : k ≠ -1 := by
    intro e
    unfold lepM at hg
    rw [if_pos e] at hg
    cases hg
  have hlt : lp = true := by
    rcases hl with ⟨q, _⟩ | ⟨_, q1, q2⟩
    · exact q
    · exfalso
      apply hk1
      rw [hk]
      split
      · exact q2
      · exact q1
  subst hlt
  have hlo : st.loops ≠ 0 := by simpa using hlp
  rw [if_neg hlo]
  unfold lepM at hg ⊢
  rw [if_neg hk1] at hg ⊢
  have hg0 : (expF s m.p [c, 59]).2 = false := hg
  obtain ⟨a1, a2, a3, a4⟩ := exp2_good hg0
  rw [hp] at a2 a3 a4
  have hst : lpF s st = { st with i := st.i + 2, items := (st.items ++ [(⟨pk s st.i, 0, 0, 0⟩ : It)]).modify st.items.length (fun x => { x with en := ((st.items ++ [(⟨pk s st.i, 0, 0, 0⟩ : It)]).length : Nat) }) } := by
    unfold lpF
    rw [eatS_at (by exact hb) (c := 59) (by exact a3) (by decide)]
    rfl
  have hil : (lpF s st).items.length = st.items.length + 1 := by rw [hst]; dsimp only; rw [List.length_modify, List.length_append]; rfl
  have hin := pk_in s (st.i + 1) (by rw [a3]; decide)
  refine ⟨⟨?_, by rw [hst]; exact hb, by rw [hst], ?_, (xe_exp _).trans (xe_jmp _), ?_, ?_, ?_⟩, by omega, ?_, ?_⟩
  · show expF s m.p [c, 59] = _
    rw [hp, a4, hst]
  · rw [hst]; exact hfr.jump k
  · rw [hst]; exact (Ag.app _ _).mod _ (.inr (Nat.le_refl _))
  · rw [hst]; dsimp only; omega
  · rw [hst]; dsimp only; omega
  · intro M hX hJ
    obtain ⟨j1, j2⟩ := hJ rfl
    have hrl : (jmpM (expM s m [c, 59]) k).row.length = m.row.length + 1 := by show (m.row ++ [_]).length = _; simp
    rw [hrl] at j1 ⊢
    refine jok_one (n := jumpN k) (hX.row.at (Nat.zero_le _) (by show (m.row ++ [jumpN k])[_]? = _; simp)) (fun _ => ?_)
    show _ < plcM M k ∨ ∃ n', M.row[plcM M k]? = some n' ∧ n'.act ≠ 15
    rw [hk]
    split
    · exact .inl (by omega)
    · exact .inr j2
  · intro M IT Ld W nx ou ag hF hX hI hIl hnx hlp
    obtain ⟨l1, l2⟩ := hlp rfl
    have hit : IT[st.items.length]? = some ⟨pk s st.i, 0, 0, (st.items.length + 1 : Nat)⟩ := by
      refine hI.at (Nat.le_refl _) ?_
      rw [hst]
      dsimp only
      rw [modify_at _ (x := (⟨pk s st.i, 0, 0, 0⟩ : It)) (by simp)]
      simp
    have hj : Ld m.row.length = Ld (plcM M k) := hF.jump _ _ (hX.row.at (Nat.zero_le _) (by show (m.row ++ [jumpN k])[_]? = _; simp))
    refine ⟨_, hit, by rw [hil], .inr (.inl ⟨?_, nj_jump m.row k⟩), ?_⟩
    · rw [hpk]; rcases hc with rfl | rfl
      · exact .inl rfl
      · exact .inr rfl
    · intro e nx0 he
      unfold entO
      rw [if_neg (by omega), hit]
      dsimp only
      rw [hpk, hj, hk]
      rcases hc with rfl | rfl
      · rw [if_neg (by decide), if_pos (by decide), l1]; rfl
      · rw [if_neg (by decide), if_neg (by decide), if_pos (by decide), l2]; rfl
end Go.Proofs.YtellieabhaphhaaGreatDoor

/-
  Plain: both readers side by side: a choice, a loop, all statements.
-/
namespace Go.Proofs.YtellieabhaphhaaGreatDoor
open Go.RowKit

theorem mk_lay {m : MS} {k k' v : Nat} (h : m.marks[k]? = some v) (hne : k' ≠ k) : (layM m k').marks[k]? = some v := by
  show (m.marks.set k' _)[k]? = _
  rw [List.getElem?_set_ne hne, h]

theorem fin_first {M : MS} {Ld : Nat → Int} {W : Nat → Int × Int × Bool} (h : Fin' M Ld W) {m m' : MS} (hx : Ag 0 m.row m'.row) (hM : Ag 0 m'.row M.row) (hn : ∃ n, m'.row[m.row.length]? = some n ∧ n.act ≠ 15) : Ld m.row.length = (nj m.row : Nat) := by
  obtain ⟨n, n1, n2⟩ := hn
  have := (h.node _ _ (hM.at (Nat.zero_le _) n1) n2).1
  rw [(hx.trans hM).take (Nat.le_refl _), List.take_length] at this
  exact this

theorem blk_at {R : RS → RS} {s : ByteArray} {st : RS} (hb : st.bad = false) (h : pk s st.i = 123) : blkF R s st = eatS s (R { st with i := st.i + 1 }) 125 := by
  unfold blkF
  rw [eatS_at hb h (by decide), if_neg (by rw [hb]; decide)]

theorem par_cho {f : Nat} {s : ByteArray} {S : Int → Int → MS → MS} {R : RS → RS} {lp : Bool} {h b : Int} {m : MS} {st : RS} (hs : s.size ≤ 1000) (hS : SMG s f S) (hG : SGp s f S) (hP : SPar s f 125 S R)
    (hl : lpOk lp h b) (hlp : decide (st.loops ≠ 0) = lp) (hp : m.p = (st.i, false)) (hb : st.bad = false) (hf : s.size - st.i < f + 1) (hfr : FR s m.row st.nodes) (hpk : pk s st.i = 40)
    (hg : (choM f S s h b m).p.2 = false) : OPar s f lp h b m st (choM f S s h b m) (ifF f R s st) := by
  have hc : pkb s m.p = 40 := by rw [hp, pkb_false]; exact hpk
  obtain ⟨e1, e2, e3⟩ := eat_at (c := 40) hc (by decide)
  have hin : st.i < s.size := by rw [hp] at e2; exact e2
  unfold choM at hg ⊢
  dsimp only at hg ⊢
  have hL := new3_len m
  have X1 : Xe 0 m (expM s (new3 m) [40]) := xe_new3.trans (xe_exp _)
  have L1 : (expM s (new3 m) [40]).marks.length = m.marks.length + 3 := hL
  have R1 : (expM s (new3 m) [40]).row = m.row := rfl
  have p1 : (expM s (new3 m) [40]).p = (st.i + 1, false) := by rw [expM_p, new3_p, e1, hp]
  generalize expM s (new3 m) [40] = x1 at *
  have q1 : x1.p.1 = st.i + 1 := by rw [p1]
  have g2 := condM_mc f s m.marks.length (m.marks.length + 1 : Nat) x1 (by omega) (by omega)
  have C2 := par_cond f s m.marks.length (m.marks.length + 1 : Nat) x1 (pushI (nextI st) 105 0) hs p1 hb (by show st.i + 1 ≤ _; omega) (by show s.size - (st.i + 1) < f; omega) (by rw [R1]; exact hfr)
  generalize condM f s m.marks.length (m.marks.length + 1 : Nat) x1 = x2 at *
  have g3 := expM_mg (l := [123]) (by decide) g2.i
  have k3 := fun z => exp1_good (s := s) (p := x2.p) (c := 123) z
  have X3 : Xe 0 x2 (expM s x2 [123]) := xe_exp _
  have R3 : (expM s x2 [123]).row = x2.row := rfl
  have M3 : (expM s x2 [123]).marks = x2.marks := rfl
  have P3 : (expM s x2 [123]).p = expF s x2.p [123] := rfl
  generalize expM s x2 [123] = x3 at *
  have g4 := layM_mg (k := m.marks.length) g3.i
  have R4 : (layM x3 m.marks.length).row = x3.row := rfl
  have P4 : (layM x3 m.marks.length).p = x3.p := rfl
  have L4 := layM_len x3 m.marks.length
  have X4 : Xe (m.marks.length + 1) x3 (layM x3 m.marks.length) := xe_lay (Nat.lt_succ_self _)
  have A4 : m.marks.length < x3.marks.length → (layM x3 m.marks.length).marks[m.marks.length]? = some x3.row.length := fun z => lay_at z
  have Y4 : Xe 0 m x3 → Xe 0 m (layM x3 m.marks.length) := fun z => z.lay (.inr (Nat.le_refl _))
  generalize layM x3 m.marks.length = x4 at *
  have lo4 : x1.p.1 ≤ x4.p.1 := Nat.le_trans g2.lo (Nat.le_trans g3.lo g4.lo)
  have i4 := g4.i
  have g5 := hS h b x4 g4.i (fun _ => by omega)
  have k5 := hG h b x4 g4.i (fun _ => by omega)
  have S5 := fun r => hP lp h b x4 r hl
  generalize S h b x4 = x5 at *
  have g6 := expM_mg (l := [125, 123]) (by decide) g5.i
  have k6 := fun z => exp2_good (s := s) (p := x5.p) (c := 125) (d := 123) z
  have X6 : Xe 0 x5 (expM s x5 [125, 123]) := xe_exp _
  have R6 : (expM s x5 [125, 123]).row = x5.row := rfl
  have P6 : (expM s x5 [125, 123]).p = expF s x5.p [125, 123] := rfl
  generalize expM s x5 [125, 123] = x6 at *
  have p7 := jmpM_p x6 (m.marks.length + 2 : Nat)
  have X7 : Xe 0 x6 (jmpM x6 (m.marks.length + 2 : Nat)) := xe_jmp _
  have R7 : (jmpM x6 (m.marks.length + 2 : Nat)).row = x6.row ++ [jumpN (m.marks.length + 2 : Nat)] := rfl
  have M7 : (jmpM x6 (m.marks.length + 2 : Nat)).marks = x6.marks := rfl
  generalize jmpM x6 (m.marks.length + 2 : Nat) = x7 at *
  have g8 := layM_mg (s := s) (m := x7) (k := m.marks.length + 1) (by rw [p7]; exact g6.i)
  have R8 : (layM x7 (m.marks.length + 1)).row = x7.row := rfl
  have P8 : (layM x7 (m.marks.length + 1)).p = x7.p := rfl
  have L8 := layM_len x7 (m.marks.length + 1)
  have X8 : Xe (m.marks.length + 2) x7 (layM x7 (m.marks.length + 1)) := xe_lay (by omega)
  have A8 : m.marks.length + 1 < x7.marks.length → (layM x7 (m.marks.length + 1)).marks[m.marks.length + 1]? = some x7.row.length := fun z => lay_at z
  have B8 : ∀ v, x7.marks[m.marks.length]? = some v → (layM x7 (m.marks.length + 1)).marks[m.marks.length]? = some v := fun v z => mk_lay z (by omega)
  have Y8 : Xe 0 m x7 → Xe 0 m (layM x7 (m.marks.length + 1)) := fun z => z.lay (.inr (by omega))
  generalize layM x7 (m.marks.length + 1) = x8 at *
  have lo8 : x4.p.1 ≤ x8.p.1 := Nat.le_trans g5.lo (Nat.le_trans g6.lo (by rw [← p7]; exact g8.lo))
  have i8 := g8.i
  have k9 := hG h b x8 g8.i (fun _ => by omega)
  have S9 := fun r => hP lp h b x8 r hl
  generalize S h b x8 = x9 at *
  have k10 := fun z => exp2_good (s := s) (p := x9.p) (c := 125) (d := 41) z
  have X10 : Xe 0 x9 (expM s x9 [125, 41]) := xe_exp _
  have R10 : (expM s x9 [125, 41]).row = x9.row := rfl
  have M10 : (expM s x9 [125, 41]).marks = x9.marks := rfl
  have P10 : (expM s x9 [125, 41]).p = expF s x9.p [125, 41] := rfl
  generalize expM s x9 [125, 41] = x10 at *
  have R11 : (layM x10 (m.marks.length + 2)).row = x10.row := rfl
  have P11 : (layM x10 (m.marks.length + 2)).p = x10.p := rfl
  have X11 : Xe (m.marks.length + 3) x10 (layM x10 (m.marks.length + 2)) := xe_lay (by omega)
  have A11 : m.marks.length + 2 < x10.marks.length → (layM x10 (m.marks.length + 2)).marks[m.marks.length + 2]? = some x10.row.length := fun z => lay_at z
  have B11 : ∀ k v, k < m.marks.length + 2 → x10.marks[k]? = some v → (layM x10 (m.marks.length + 2)).marks[k]? = some v := fun k v hk z => mk_lay z (by omega)
  have Y11 : Xe 0 m x10 → Xe 0 m (layM x10 (m.marks.length + 2)) := fun z => z.lay (.inr (by omega))
  generalize layM x10 (m.marks.length + 2) = x11 at *
  -- back: all went well
  obtain ⟨v9, a9, b9, c9⟩ := k10 (by rw [← P10, ← P11]; exact hg)
  have v8 := (k9 v9).1
  obtain ⟨v5, a5, b5, c5⟩ := k6 (by rw [← P6, ← p7, ← P8]; exact v8)
  have v4 := (k5 v5).1
  obtain ⟨v2, a2, c2⟩ := k3 (by rw [← P3, ← P4]; exact v4)
  have C2 := C2 v2
  -- the other reader
  generalize hr2 : condF f s (pushI (nextI st) 105 0) = r2 at *
  have hx2 : x2.p.1 = r2.i := by rw [C2.r.p]
  rw [hx2] at a2 c2
  have hp4 : x4.p = (r2.i + 1, false) := by rw [P4, P3, c2]
  have hin2 := pk_in s r2.i (by rw [a2]; decide)
  have hr2i := C2.r.ge
  have hr2i' : (pushI (nextI st) 105 0).i = st.i + 1 := rfl
  have hlo2 : r2.loops = st.loops := C2.r.lo
  have S5 := S5 { r2 with i := r2.i + 1 } (by show decide (r2.loops ≠ 0) = lp; rw [hlo2]; exact hlp) hp4 C2.r.b (by show r2.i + 1 ≤ _; omega) (by show s.size - (r2.i + 1) < f; omega) (by rw [R4, R3]; exact C2.r.fr) v5 (.inl a5)
  have e5 : blkF R s r2 = eatS s (R { r2 with i := r2.i + 1 }) 125 := blk_at C2.r.b a2
  generalize R { r2 with i := r2.i + 1 } = r5 at *
  obtain ⟨S5, J5, W5⟩ := S5
  have hx5 : x5.p.1 = r5.i := by rw [S5.p]
  rw [hx5] at a5 b5 c5
  have e6 : blkF R s r2 = { r5 with i := r5.i + 1 } := by rw [e5, eatS_at (c := 125) S5.b a5 (by decide)]
  have hin5 := pk_in s (r5.i + 1) (by rw [b5]; decide)
  have hp8 : x8.p = (r5.i + 2, false) := by rw [P8, p7, P6, c5]
  have e7 : elseAt (blkF R s r2) st.items.length = { r5 with i := r5.i + 1, items := r5.items.modify st.items.length (fun x => { x with els := (r5.items.length : Nat) }) } := by rw [e6]; rfl
  have hr5i : r2.i + 1 ≤ r5.i := S5.ge
  have hlo5 : r5.loops = r2.loops := S5.lo
  have S9 := S9 { r5 with i := r5.i + 2, items := r5.items.modify st.items.length (fun x => { x with els := (r5.items.length : Nat) }) } (by show decide (r5.loops ≠ 0) = lp; rw [hlo5, hlo2]; exact hlp) hp8 S5.b (by show r5.i + 2 ≤ _; omega) (by show s.size - (r5.i + 2) < f; omega) (by rw [R8, R7, R6]; exact S5.fr.jump _) v9 (.inl a9)
  have e9 : blkF R s (elseAt (blkF R s r2) st.items.length) = eatS s (R { r5 with i := r5.i + 2, items := r5.items.modify st.items.length (fun x => { x with els := (r5.items.length : Nat) }) }) 125 := by
    rw [e7, blk_at (by exact S5.b) (by exact b5)]
  generalize hr8 : ({ r5 with i := r5.i + 2, items := r5.items.modify st.items.length (fun x => { x with els := (r5.items.length : Nat) }) } : RS) = r8 at *
  have r8i : r8.items = r5.items.modify st.items.length (fun x => { x with els := (r5.items.length : Nat) }) := by rw [← hr8]
  have r8p : r8.i = r5.i + 2 := by rw [← hr8]
  have r8l : r8.loops = r5.loops := by rw [← hr8]
  generalize R r8 = r9 at *
  obtain ⟨S9, J9, W9⟩ := S9
  have hx9 : x9.p.1 = r9.i := by rw [S9.p]
  rw [hx9] at a9 b9 c9
  have hr9i : r5.i + 2 ≤ r9.i := by rw [← r8p]; exact S9.ge
  have hin9 := pk_in s (r9.i + 1) (by rw [b9]; decide)
  have eR : ifF f R s st = { r9 with i := r9.i + 2, items := r9.items.modify st.items.length (fun x => { x with en := (r9.items.length : Nat) }) } := by
    unfold ifF
    rw [hr2, e9, eatS_at (c := 125) S9.b a9 (by decide), eatS_at (c := 41) (by exact S9.b) (by exact b9) (by decide)]
    rfl
  have l1 : (pushI (nextI st) 105 0).items.length = st.items.length + 1 := by show (st.items ++ [_]).length = _; simp
  have y1 : Ag 0 st.items (pushI (nextI st) 105 0).items := Ag.app _ _
  have y2 : Ag 0 st.items r5.items := y1.trans (C2.r.y.trans S5.y)
  have l2 := C2.r.y.len
  have l5 : r2.items.length ≤ r5.items.length := S5.y.len
  have l8 : r8.items.length = r5.items.length := by rw [r8i, List.length_modify]
  have l9 := S9.y.len
  have lE : (ifF f R s st).items.length = r9.items.length := by rw [eR]; exact List.length_modify ..
  have Z2 : Xe 0 m x3 := X1.trans (C2.r.x.trans X3)
  have Z7 : Xe 0 m x7 := (Y4 Z2).trans (S5.x.trans (X6.trans X7))
  have Z10 : Xe 0 m x10 := (Y8 Z7).trans (S9.x.trans X10)
  have hx1l : x1.marks.length ≤ x2.marks.length := C2.r.x.mm.len
  have hx5l : x4.marks.length ≤ x5.marks.length := S5.x.mm.len
  have hx6l : x5.marks.length ≤ x6.marks.length := X6.mm.len
  have hx9l : x8.marks.length ≤ x9.marks.length := S9.x.mm.len
  rw [M3] at L4
  rw [M7] at L8
  refine ⟨⟨?_, by rw [eR]; exact S9.b, by rw [eR]; exact S9.lo.trans (r8l.trans (hlo5.trans hlo2)), by rw [eR, R11, R10]; exact S9.fr, Y11 Z10, ?_, by rw [eR]; show st.i ≤ r9.i + 2; omega, by rw [eR]; show r9.i + 2 ≤ _; omega⟩, by omega, ?_, ?_⟩
  · rw [P11, P10, c9, eR]
  · rw [eR]
    exact (((y2.mod _ (.inr (Nat.le_refl _))).trans (by rw [← r8i]; exact S9.y))).mod _ (.inr (Nat.le_refl _))
  · intro M hX hJ
    have hX10 : Xe (m.marks.length + 3) x10 M := X11.trans (hX.mono (by omega))
    have hX9 : Xe (m.marks.length + 3) x9 M := (X10.mono (Nat.zero_le _)).trans hX10
    have hX7 : Xe (m.marks.length + 3) x7 M := (X8.mono (by omega)).trans ((S9.x.mono (Nat.zero_le _)).trans hX9)
    have hX6 : Xe (m.marks.length + 3) x6 M := (X7.mono (Nat.zero_le _)).trans hX7
    have hX5 : Xe (m.marks.length + 3) x5 M := (X6.mono (Nat.zero_le _)).trans hX6
    have hX2 : Xe (m.marks.length + 3) x2 M := (X3.mono (Nat.zero_le _)).trans ((X4.mono (by omega)).trans ((S5.x.mono (Nat.zero_le _)).trans hX5))
    have k2 : plcM M (m.marks.length + 2 : Nat) = x10.row.length := plc_of (hX.mm.at (by omega) (A11 (by rw [M10]; omega)))
    have w5 := S5.x.row.len
    have w9 := S9.x.row.len
    have w7 : x7.row.length = x5.row.length + 1 := by rw [R7, R6, List.length_append]; rfl
    have hJ5 : JH M lp h b x5.row.length := fun e => ⟨by have := (hJ e).1; rw [R11, R10] at this; rw [R8] at w9; omega, (hJ e).2⟩
    have hJ9 : JH M lp h b x9.row.length := fun e => by have := hJ e; rw [R11, R10] at this; exact this
    have q2 : JOk M m.row.length x2.row.length := jok_nodes hX2.row (by rw [← R1]; exact C2.al)
    have q5 := J5 M (hX5.mono (by rw [L4]; omega)) hJ5
    rw [R4, R3] at q5
    have q7 : JOk M x5.row.length (x5.row.length + 1) := jok_one (n := jumpN (m.marks.length + 2 : Nat)) (hX7.row.at (Nat.zero_le _) (by rw [R7, R6]; simp)) (fun _ => .inl (by
      show _ < plcM M (m.marks.length + 2 : Nat)
      rw [k2, R10]; rw [R8] at w9; omega))
    have q9 := J9 M (hX9.mono (by rw [L8]; omega)) hJ9
    rw [R8, w7] at q9
    rw [R11, R10]
    exact ((q2.join q5).join q7).join q9
  intro M IT Ld W nx ou ag hF hX hI hIl hnx hlp2
  -- what of the marks and of the items stands at the end
  have hI9 : Ag (st.items.length + 1) r9.items IT := by rw [eR] at hI; exact hI.unmod (by omega) (by omega)
  have hI5 : Ag (st.items.length + 1) r5.items IT := by
    have := (S9.y.mono (Nat.zero_le (st.items.length + 1))).trans hI9
    rw [r8i] at this
    exact this.unmod (by omega) (Nat.le_refl _)
  have hI2 : Ag (st.items.length + 1) r2.items IT := (S5.y.mono (Nat.zero_le _)).trans hI5
  have hit : IT[st.items.length]? = some ⟨105, 0, (r5.items.length : Nat), (r9.items.length : Nat)⟩ := by
    refine hI.at (Nat.le_refl _) ?_
    rw [eR]
    have h1 : r5.items[st.items.length]? = some ⟨105, 0, 0, 0⟩ := (C2.r.y.trans S5.y).at (Nat.zero_le _) (by show (st.items ++ _)[_]? = _; simp)
    have h2 : r9.items[st.items.length]? = some ⟨105, 0, (r5.items.length : Nat), 0⟩ := S9.y.at (Nat.zero_le _) (by rw [r8i, modify_at _ h1])
    dsimp only
    rw [modify_at _ h2]
  have hX10 : Xe (m.marks.length + 3) x10 M := X11.trans (hX.mono (by omega))
  have hX9 : Xe (m.marks.length + 3) x9 M := (X10.mono (Nat.zero_le _)).trans hX10
  have hX7 : Xe (m.marks.length + 3) x7 M := (X8.mono (by omega)).trans ((S9.x.mono (Nat.zero_le _)).trans hX9)
  have hX6 : Xe (m.marks.length + 3) x6 M := (X7.mono (Nat.zero_le _)).trans hX7
  have hX5 : Xe (m.marks.length + 3) x5 M := (X6.mono (Nat.zero_le _)).trans hX6
  have hX2 : Xe (m.marks.length + 3) x2 M := (X3.mono (Nat.zero_le _)).trans ((X4.mono (by omega)).trans ((S5.x.mono (Nat.zero_le _)).trans hX5))
  have m4 : x4.marks[m.marks.length]? = some x2.row.length := by rw [A4 (by rw [M3]; omega), R3]
  have m7 : x7.marks[m.marks.length]? = some x2.row.length := (S5.x.trans (X6.trans X7)).mm.at (Nat.zero_le _) m4
  have m10 : x10.marks[m.marks.length]? = some x2.row.length := (S9.x.trans X10).mm.at (Nat.zero_le _) (B8 _ m7)
  have k0 : plcM M (m.marks.length : Nat) = x2.row.length := plc_of (hX.mm.at (Nat.le_refl _) (B11 _ _ (by omega) m10))
  have n8 : x8.marks[m.marks.length + 1]? = some x7.row.length := A8 (by rw [M7]; omega)
  have n10 : x10.marks[m.marks.length + 1]? = some x7.row.length := (S9.x.trans X10).mm.at (Nat.zero_le _) n8
  have k1 : plcM M (m.marks.length + 1 : Nat) = x7.row.length := plc_of (hX.mm.at (by omega) (B11 _ _ (by omega) n10))
  have k2 : plcM M (m.marks.length + 2 : Nat) = x10.row.length := plc_of (hX.mm.at (by omega) (A11 (by rw [M10]; omega)))
  have j7 : Ld x5.row.length = nx := by
    have : M.row[x5.row.length]? = some (jumpN (m.marks.length + 2 : Nat)) := hX7.row.at (Nat.zero_le _) (by rw [R7, R6]; simp)
    rw [hF.jump _ _ this, k2, hnx, R11]
  have j9 : Ld x9.row.length = nx := by rw [hnx, R11, R10]
  have hw2 := C2.w M IT Ld W hF (by rw [L1]; exact hX2) (by rw [l1]; exact hI2) hIl
  rw [k0, k1, l1, R1] at hw2
  obtain ⟨w5, f5⟩ := W5 M IT Ld W nx ou ag hF (hX5.mono (by rw [L4]; omega)) (hI5.mono (by show _ ≤ r2.items.length; omega)) hIl j7.symm hlp2
  obtain ⟨w9, f9⟩ := W9 M IT Ld W nx ou ag hF (hX9.mono (by rw [L8]; omega)) (hI9.mono (by rw [l8]; omega)) hIl j9.symm hlp2
  have hfi : Ld m.row.length = (nj m.row : Nat) := by
    have := fin_first hF (m := x1) (m' := x2) C2.r.x.row hX2.row C2.nd
    rw [R1] at this; exact this
  rw [l8] at w9 f9
  rw [R4, R3] at w5 f5
  have hn7 : nj x7.row = nj x5.row := by rw [R7, R6, nj_jump]
  rw [R8] at f9
  rw [R8, hn7] at w9
  refine ⟨_, hit, by rw [lE], .inr (.inr (.inl ⟨rfl, r2.items.length, r5.items.length, nj x2.row, nj x5.row, Ld x2.row.length, Ld x7.row.length, hw2, l5, by omega, rfl, w5, ?_, f5, ?_⟩)), ?_⟩
  · rw [R11, R10, lE]; exact w9
  · rw [lE]; exact f9
  · intro e nx0 he
    unfold entO
    rw [if_neg (by omega), hit]
    dsimp only
    rw [if_neg (by decide), if_neg (by decide), if_neg (by decide), hfi]
    have := ag_le hI2 (cdw_lt hw2).1
    exact cdw_fst f hw2 _ (by omega)

theorem par_lop {f : Nat} {s : ByteArray} {S : Int → Int → MS → MS} {R : RS → RS} {lp : Bool} {h b : Int} {m : MS} {st : RS} (hs : s.size ≤ 1000) (hG : SGp s f S) (hP : SPar s f 125 S R)
    (hp : m.p = (st.i, false)) (hb : st.bad = false) (hf : s.size - st.i < f + 1) (hfr : FR s m.row st.nodes) (hpk : pk s st.i = 91)
    (hg : (lopM f S s m).p.2 = false) : OPar s f lp h b m st (lopM f S s m) (whF f R s st) := by
  have hc : pkb s m.p = 91 := by rw [hp, pkb_false]; exact hpk
  obtain ⟨e1, e2, e3⟩ := eat_at (c := 91) hc (by decide)
  have hin : st.i < s.size := by rw [hp] at e2; exact e2
  unfold lopM at hg ⊢
  dsimp only at hg ⊢
  have hL := new3_len m
  have X1 : Xe 0 m (layM (expM s (new3 m) [91]) m.marks.length) := (xe_new3.trans (xe_exp _)).lay (.inr (Nat.le_refl _))
  have L1 : (layM (expM s (new3 m) [91]) m.marks.length).marks.length = m.marks.length + 3 := by rw [layM_len]; exact hL
  have R1 : (layM (expM s (new3 m) [91]) m.marks.length).row = m.row := rfl
  have A1 : (layM (expM s (new3 m) [91]) m.marks.length).marks[m.marks.length]? = some m.row.length := lay_at (by show m.marks.length < (new3 m).marks.length; omega)
  have p1 : (layM (expM s (new3 m) [91]) m.marks.length).p = (st.i + 1, false) := by rw [layM_p, expM_p, new3_p, e1, hp]
  generalize layM (expM s (new3 m) [91]) m.marks.length = x1 at *
  have q1 : x1.p.1 = st.i + 1 := by rw [p1]
  have g2 := condM_mc f s (m.marks.length + 1 : Nat) (m.marks.length + 2 : Nat) x1 (by omega) (by omega)
  have C2 := par_cond f s (m.marks.length + 1 : Nat) (m.marks.length + 2 : Nat) x1 (pushI (nextI st) 119 0) hs p1 hb (by show st.i + 1 ≤ _; omega) (by show s.size - (st.i + 1) < f; omega) (by rw [R1]; exact hfr)
  generalize condM f s (m.marks.length + 1 : Nat) (m.marks.length + 2 : Nat) x1 = x2 at *
  have g3 := expM_mg (l := [123]) (by decide) g2.i
  have k3 := fun z => exp1_good (s := s) (p := x2.p) (c := 123) z
  have X3 : Xe 0 x2 (expM s x2 [123]) := xe_exp _
  have R3 : (expM s x2 [123]).row = x2.row := rfl
  have M3 : (expM s x2 [123]).marks = x2.marks := rfl
  have P3 : (expM s x2 [123]).p = expF s x2.p [123] := rfl
  generalize expM s x2 [123] = x3 at *
  have g4 := layM_mg (k := m.marks.length + 1) g3.i
  have R4 : (layM x3 (m.marks.length + 1)).row = x3.row := rfl
  have P4 : (layM x3 (m.marks.length + 1)).p = x3.p := rfl
  have L4 := layM_len x3 (m.marks.length + 1)
  have X4 : Xe (m.marks.length + 2) x3 (layM x3 (m.marks.length + 1)) := xe_lay (by omega)
  have A4 : m.marks.length + 1 < x3.marks.length → (layM x3 (m.marks.length + 1)).marks[m.marks.length + 1]? = some x3.row.length := fun z => lay_at z
  have B4 : ∀ v, x3.marks[m.marks.length]? = some v → (layM x3 (m.marks.length + 1)).marks[m.marks.length]? = some v := fun v z => mk_lay z (by omega)
  have Y4 : Xe 0 m x3 → Xe 0 m (layM x3 (m.marks.length + 1)) := fun z => z.lay (.inr (by omega))
  generalize layM x3 (m.marks.length + 1) = x4 at *
  have lo4 : x1.p.1 ≤ x4.p.1 := Nat.le_trans g2.lo (Nat.le_trans g3.lo g4.lo)
  have i4 := g4.i
  have k5 := hG m.marks.length (m.marks.length + 2 : Nat) x4 g4.i (fun _ => by omega)
  have S5 := fun r => hP true m.marks.length (m.marks.length + 2 : Nat) x4 r (.inl ⟨rfl, by omega, by omega⟩)
  generalize S m.marks.length (m.marks.length + 2 : Nat) x4 = x5 at *
  have k6 := fun z => exp2_good (s := s) (p := x5.p) (c := 125) (d := 93) z
  have X6 : Xe 0 x5 (expM s x5 [125, 93]) := xe_exp _
  have R6 : (expM s x5 [125, 93]).row = x5.row := rfl
  have P6 : (expM s x5 [125, 93]).p = expF s x5.p [125, 93] := rfl
  generalize expM s x5 [125, 93] = x6 at *
  have p7 := jmpM_p x6 m.marks.length
  have X7 : Xe 0 x6 (jmpM x6 m.marks.length) := xe_jmp _
  have R7 : (jmpM x6 m.marks.length).row = x6.row ++ [jumpN m.marks.length] := rfl
  have M7 : (jmpM x6 m.marks.length).marks = x6.marks := rfl
  generalize jmpM x6 m.marks.length = x7 at *
  have R8 : (layM x7 (m.marks.length + 2)).row = x7.row := rfl
  have P8 : (layM x7 (m.marks.length + 2)).p = x7.p := rfl
  have X8 : Xe (m.marks.length + 3) x7 (layM x7 (m.marks.length + 2)) := xe_lay (by omega)
  have A8 : m.marks.length + 2 < x7.marks.length → (layM x7 (m.marks.length + 2)).marks[m.marks.length + 2]? = some x7.row.length := fun z => lay_at z
  have B8 : ∀ k v, k < m.marks.length + 2 → x7.marks[k]? = some v → (layM x7 (m.marks.length + 2)).marks[k]? = some v := fun k v hk z => mk_lay z (by omega)
  have Y8 : Xe 0 m x7 → Xe 0 m (layM x7 (m.marks.length + 2)) := fun z => z.lay (.inr (by omega))
  generalize layM x7 (m.marks.length + 2) = x8 at *
  obtain ⟨v5, a5, b5, c5⟩ := k6 (by rw [← P6, ← p7, ← P8]; exact hg)
  have v4 := (k5 v5).1
  obtain ⟨v2, a2, c2⟩ := k3 (by rw [← P3, ← P4]; exact v4)
  have C2 := C2 v2
  generalize hr2 : condF f s (pushI (nextI st) 119 0) = r2 at *
  have hx2 : x2.p.1 = r2.i := by rw [C2.r.p]
  rw [hx2] at a2 c2
  have hp4 : x4.p = (r2.i + 1, false) := by rw [P4, P3, c2]
  have hin2 := pk_in s r2.i (by rw [a2]; decide)
  have hr2i := C2.r.ge
  have hr2i' : (pushI (nextI st) 119 0).i = st.i + 1 := rfl
  have hlo2 : r2.loops = st.loops := C2.r.lo
  have S5 := S5 { r2 with i := r2.i + 1, loops := r2.loops + 1 } (by simp) hp4 C2.r.b (by show r2.i + 1 ≤ _; omega) (by show s.size - (r2.i + 1) < f; omega) (by rw [R4, R3]; exact C2.r.fr) v5 (.inl a5)
  have e5 : blkF R s { r2 with loops := r2.loops + 1 } = eatS s (R { r2 with i := r2.i + 1, loops := r2.loops + 1 }) 125 := blk_at (by exact C2.r.b) (by exact a2)
  generalize R { r2 with i := r2.i + 1, loops := r2.loops + 1 } = r5 at *
  obtain ⟨S5, J5, W5⟩ := S5
  have hx5 : x5.p.1 = r5.i := by rw [S5.p]
  rw [hx5] at a5 b5 c5
  have hin5 := pk_in s (r5.i + 1) (by rw [b5]; decide)
  have hr5i : r2.i + 1 ≤ r5.i := S5.ge
  have hlo5 : r5.loops = r2.loops + 1 := S5.lo
  have eR : whF f R s st = { r5 with i := r5.i + 2, loops := r5.loops - 1, items := r5.items.modify st.items.length (fun x => { x with en := (r5.items.length : Nat) }) } := by
    unfold whF
    dsimp only
    rw [hr2, e5, eatS_at (c := 125) S5.b a5 (by decide), eatS_at (c := 93) (by exact S5.b) (by exact b5) (by decide)]
    rfl
  have l1 : (pushI (nextI st) 119 0).items.length = st.items.length + 1 := by show (st.items ++ [_]).length = _; simp
  have y1 : Ag 0 st.items (pushI (nextI st) 119 0).items := Ag.app _ _
  have y5 : Ag 0 r2.items r5.items := S5.y
  have l2 := C2.r.y.len
  have l5 := y5.len
  have lE : (whF f R s st).items.length = r5.items.length := by rw [eR]; exact List.length_modify ..
  have Z2 : Xe 0 m x3 := X1.trans (C2.r.x.trans X3)
  have Z7 : Xe 0 m x7 := (Y4 Z2).trans (S5.x.trans (X6.trans X7))
  have hx1l : x1.marks.length ≤ x2.marks.length := C2.r.x.mm.len
  have hx5l : x4.marks.length ≤ x5.marks.length := S5.x.mm.len
  have hx6l : x5.marks.length ≤ x6.marks.length := X6.mm.len
  rw [M3] at L4
  refine ⟨⟨?_, by rw [eR]; exact S5.b, by rw [eR]; show r5.loops - 1 = _; omega, by rw [eR, R8, R7, R6]; exact S5.fr.jump _, Y8 Z7, ?_, by rw [eR]; show st.i ≤ r5.i + 2; omega, by rw [eR]; show r5.i + 2 ≤ _; omega⟩, by omega, ?_, ?_⟩
  · rw [P8, p7, P6, c5, eR]
  · rw [eR]
    exact (y1.trans (C2.r.y.trans y5)).mod _ (.inr (Nat.le_refl _))
  · intro M hX hJ
    have hX7 : Xe (m.marks.length + 3) x7 M := X8.trans (hX.mono (by omega))
    have hX6 : Xe (m.marks.length + 3) x6 M := (X7.mono (Nat.zero_le _)).trans hX7
    have hX5 : Xe (m.marks.length + 3) x5 M := (X6.mono (Nat.zero_le _)).trans hX6
    have hX2 : Xe (m.marks.length + 3) x2 M := (X3.mono (Nat.zero_le _)).trans ((X4.mono (by omega)).trans ((S5.x.mono (Nat.zero_le _)).trans hX5))
    have n4 : x4.marks[m.marks.length]? = some m.row.length := B4 _ ((C2.r.x.trans X3).mm.at (Nat.zero_le _) A1)
    have n7 : x7.marks[m.marks.length]? = some m.row.length := (S5.x.trans (X6.trans X7)).mm.at (Nat.zero_le _) n4
    have k0 : plcM M (m.marks.length : Nat) = m.row.length := plc_of (hX.mm.at (Nat.le_refl _) (B8 _ _ (by omega) n7))
    have k2 : plcM M (m.marks.length + 2 : Nat) = x7.row.length := plc_of (hX.mm.at (by omega) (A8 (by rw [M7]; omega)))
    have w7 : x7.row.length = x5.row.length + 1 := by rw [R7, R6, List.length_append]; rfl
    obtain ⟨nn, nn1, nn2⟩ := C2.nd
    rw [R1] at nn1
    have hnode : ∃ n, M.row[plcM M (m.marks.length : Nat)]? = some n ∧ n.act ≠ 15 := ⟨nn, by rw [k0]; exact hX2.row.at (Nat.zero_le _) nn1, nn2⟩
    have q2 : JOk M m.row.length x2.row.length := jok_nodes hX2.row (by rw [← R1]; exact C2.al)
    have q5 := J5 M (hX5.mono (by rw [L4]; omega)) (fun _ => ⟨by rw [k2]; omega, hnode⟩)
    rw [R4, R3] at q5
    have q7 : JOk M x5.row.length (x5.row.length + 1) := jok_one (n := jumpN m.marks.length) (hX7.row.at (Nat.zero_le _) (by rw [R7, R6]; simp)) (fun _ => .inr hnode)
    rw [R8, w7]
    exact (q2.join q5).join q7
  intro M IT Ld W nx ou ag hF hX hI hIl hnx hlp2
  have hI5 : Ag (st.items.length + 1) r5.items IT := by rw [eR] at hI; exact hI.unmod (by omega) (by omega)
  have hI2 : Ag (st.items.length + 1) r2.items IT := (y5.mono (Nat.zero_le _)).trans hI5
  have hit : IT[st.items.length]? = some ⟨119, 0, 0, (r5.items.length : Nat)⟩ := by
    refine hI.at (Nat.le_refl _) ?_
    rw [eR]
    have h1 : r5.items[st.items.length]? = some ⟨119, 0, 0, 0⟩ := (C2.r.y.trans y5).at (Nat.zero_le _) (by show (st.items ++ _)[_]? = _; simp)
    dsimp only
    rw [modify_at _ h1]
  have hX7 : Xe (m.marks.length + 3) x7 M := X8.trans (hX.mono (by omega))
  have hX6 : Xe (m.marks.length + 3) x6 M := (X7.mono (Nat.zero_le _)).trans hX7
  have hX5 : Xe (m.marks.length + 3) x5 M := (X6.mono (Nat.zero_le _)).trans hX6
  have hX2 : Xe (m.marks.length + 3) x2 M := (X3.mono (Nat.zero_le _)).trans ((X4.mono (by omega)).trans ((S5.x.mono (Nat.zero_le _)).trans hX5))
  have n4 : x4.marks[m.marks.length]? = some m.row.length := B4 _ ((C2.r.x.trans X3).mm.at (Nat.zero_le _) A1)
  have n7 : x7.marks[m.marks.length]? = some m.row.length := (S5.x.trans (X6.trans X7)).mm.at (Nat.zero_le _) n4
  have k0 : plcM M (m.marks.length : Nat) = m.row.length := plc_of (hX.mm.at (Nat.le_refl _) (B8 _ _ (by omega) n7))
  have m4 : x4.marks[m.marks.length + 1]? = some x2.row.length := by rw [A4 (by rw [M3]; omega), R3]
  have m7 : x7.marks[m.marks.length + 1]? = some x2.row.length := (S5.x.trans (X6.trans X7)).mm.at (Nat.zero_le _) m4
  have k1 : plcM M (m.marks.length + 1 : Nat) = x2.row.length := plc_of (hX.mm.at (by omega) (B8 _ _ (by omega) m7))
  have k2 : plcM M (m.marks.length + 2 : Nat) = x7.row.length := plc_of (hX.mm.at (by omega) (A8 (by rw [M7]; omega)))
  have hfi : Ld m.row.length = (nj m.row : Nat) := by
    have := fin_first hF (m := x1) (m' := x2) C2.r.x.row hX2.row C2.nd
    rw [R1] at this; exact this
  have j7 : Ld x5.row.length = (nj m.row : Nat) := by
    have : M.row[x5.row.length]? = some (jumpN m.marks.length) := hX7.row.at (Nat.zero_le _) (by rw [R7, R6]; simp)
    rw [hF.jump _ _ this, k0, hfi]
  have hnx' : Ld x7.row.length = nx := by rw [hnx, R8]
  have hw2 := C2.w M IT Ld W hF (by rw [L1]; exact hX2) (by rw [l1]; exact hI2) hIl
  rw [k1, k2, l1, R1, hnx'] at hw2
  obtain ⟨w5, f5⟩ := W5 M IT Ld W (nj m.row : Nat) nx (nj m.row : Nat) hF (hX5.mono (by rw [L4]; omega)) (hI5.mono (by show _ ≤ r2.items.length; omega)) hIl j7.symm (fun _ => ⟨by rw [k2, hnx'], by rw [k0, hfi]⟩)
  rw [R4, R3] at w5 f5
  have hn7 : nj x7.row = nj x5.row := by rw [R7, R6, nj_jump]
  refine ⟨_, hit, by rw [lE], .inr (.inr (.inr ⟨rfl, r2.items.length, nj x2.row, Ld x2.row.length, hw2, by omega, ?_, ?_⟩)), ?_⟩
  · rw [R8, hn7, lE]; exact w5
  · rw [lE]; exact f5
  · intro e nx0 he
    unfold entO
    rw [if_neg (by omega), hit]
    dsimp only
    rw [if_neg (by decide), if_neg (by decide), if_neg (by decide), hfi]
    have := ag_le hI2 (cdw_lt hw2).1
    exact cdw_fst f hw2 _ (by omega)

theorem par_st {f : Nat} {s : ByteArray} {S : Int → Int → MS → MS} {R : RS → RS} {lp : Bool} {h b : Int} {m : MS} {st : RS} (hs : s.size ≤ 1000) (hS : SMG s f S) (hG : SGp s f S) (hP : SPar s f 125 S R)
    (hl : lpOk lp h b) (hlp : decide (st.loops ≠ 0) = lp) (hp : m.p = (st.i, false)) (hb : st.bad = false) (hi : st.i < s.size) (hf : s.size - st.i < f + 1) (hfr : FR s m.row st.nodes)
    (hg : (stM f S s h b m).p.2 = false) : OPar s f lp h b m st (stM f S s h b m) (stF f R s st) := by
  have hpk : pkb s m.p = pk s st.i := by rw [hp, pkb_false]
  unfold stM at hg ⊢
  unfold stF
  rw [hpk] at hg ⊢
  by_cases h40 : pk s st.i = 40
  · rw [if_pos h40] at hg ⊢
    rw [if_pos h40]
    exact par_cho hs hS hG hP hl hlp hp hb hf hfr h40 hg
  rw [if_neg h40] at hg ⊢
  rw [if_neg h40]
  by_cases h91 : pk s st.i = 91
  · rw [if_pos h91] at hg ⊢
    rw [if_pos h91]
    exact par_lop hs hG hP hp hb hf hfr h91 hg
  rw [if_neg h91] at hg ⊢
  rw [if_neg h91]
  by_cases h62 : pk s st.i = 62
  · rw [if_pos h62] at hg ⊢
    rw [if_pos (.inl h62)]
    exact par_lep (c := 62) (.inl rfl) (by rw [if_pos rfl]) hl hlp hp hb hfr h62 hg
  rw [if_neg h62] at hg ⊢
  by_cases h60 : pk s st.i = 60
  · rw [if_pos h60] at hg ⊢
    rw [if_pos (.inr h60)]
    exact par_lep (c := 60) (.inr rfl) (by rw [if_neg (by decide)]) hl hlp hp hb hfr h60 hg
  · rw [if_neg h60] at hg ⊢
    rw [if_neg (by omega)]
    exact par_act hp hi hfr hg

theorem entO_end {IT : List It} {i : Nat} {nx ou ag : Int} : entO IT i i nx ou ag = some nx := by
  unfold entO; rw [if_pos (Nat.le_refl _)]

theorem par_stms : ∀ (f : Nat) (s : ByteArray) (E : Nat), s.size ≤ 1000 → (E = 125 ∨ E = 0) → SPar s f E (stmM f s) (stmtsF f s E)
  | 0, _, _, _, _ => fun _ _ _ _ _ _ _ _ _ _ h => by omega
  | f + 1, s, E, hs, hE => by
    intro lp h b m st hl hlp hp hb hi hf hfr hg hend
    have hpk : pkb s m.p = pk s st.i := by rw [hp, pkb_false]
    rw [stmM] at hg hend ⊢
    rw [stmtsF]
    by_cases hc : pk s st.i ≠ 125 ∧ pk s st.i ≠ 0
    · rw [if_pos (by rw [hpk]; exact hc)] at hg hend ⊢
      have hin := pk_in s st.i hc.2
      rw [if_pos ⟨hb, by omega, hin⟩]
      have hm1 : m.p.1 = st.i := by rw [hp]
      have hm2 : m.p.2 = false := by rw [hp]
      have gM := stM_mg (h := h) (b := b) (m := m) (stmM_mg f s) (by rw [hpk]; exact hc.2) (by omega)
      have hgx : (stM f (stmM f s) s h b m).p.2 = false := (stmM_gp f s hs h b _ gM.1.i (fun z => by have := gM.2 z; have := gM.1.i; omega) hg).1
      have O := par_st (lp := lp) (h := h) (b := b) hs (stmM_mg f s) (stmM_gp f s hs) (par_stms f s 125 hs (.inl rfl)) hl hlp hp hb hin hf hfr hgx
      have hlt := gM.2 hgx
      generalize stM f (stmM f s) s h b m = x at *
      generalize stF f (stmtsF f s 125) s st = y at *
      obtain ⟨P, hlen, JO, O⟩ := O
      have hxi : x.p.1 = y.i := by rw [P.p]
      have ih := par_stms f s E hs hE lp h b x y hl (by rw [P.lo]; exact hlp) P.p P.b P.le (by have := P.le; omega) P.fr hg hend
      generalize stmM f s h b x = x' at *
      generalize stmtsF f s E y = y' at *
      obtain ⟨P2, J2, O2⟩ := ih
      refine ⟨⟨P2.p, P2.b, P2.lo.trans P.lo, P2.fr, P.x.trans P2.x, P.y.trans P2.y, Nat.le_trans P.ge P2.ge, P2.le⟩, ?_, ?_⟩
      · intro M hX hJ
        have hX1 : Xe m.marks.length x M := (P2.x.mono (Nat.zero_le _)).trans hX
        have w2 := P2.x.row.len
        exact (JO M hX1 (fun e => ⟨by have := (hJ e).1; omega, (hJ e).2⟩)).join (J2 M (hX.mono P.x.mm.len) hJ)
      intro M IT Ld W nx ou ag hF hX hI hIl hnx hlp2
      have hyl := P2.y.len
      have hI1 : Ag st.items.length y.items IT := (P2.y.mono (Nat.zero_le _)).trans hI
      have hX1 : Xe m.marks.length x M := (P2.x.mono (Nat.zero_le _)).trans hX
      have hxm := P.x.mm.len
      obtain ⟨s2, n2⟩ := O2 M IT Ld W nx ou ag hF (hX.mono hxm) (hI.mono (by omega)) hIl hnx hlp2
      obtain ⟨it, i1, i2, i3, i4⟩ := O M IT Ld W (Ld x.row.length) ou ag hF hX1 hI1 hIl rfl hlp2
      have hd1 := nj_mono P.x.row
      have hd2 := nj_mono P2.x.row
      have hle := ag_le hI (by omega)
      exact ⟨⟨Nat.le_trans hd1 hd2, .inr ⟨by omega, by omega, it, y.items.length, nj x.row, _, i1, i2, hlen, hyl, hd1, hd2, n2, i3, s2⟩⟩, i4 _ _ (by omega)⟩
    · rw [if_neg (by rw [hpk]; exact hc)] at hg hend ⊢
      have hmi : m.p.1 = st.i := by rw [hp]
      rw [hmi] at hend
      have hno : ¬ (st.bad = false ∧ pk s st.i ≠ E ∧ st.i < s.size) := by
        rintro ⟨_, z1, z2⟩
        rcases hend with q | q
        · exact z1 q
        · omega
      rw [if_neg hno]
      refine ⟨⟨hp, hb, rfl, hfr, Xe.refl, Ag.refl, Nat.le_refl _, hi⟩, fun M _ _ p n h1 h2 => by omega, ?_⟩
      intro M IT Ld W nx ou ag hF hX hI hIl hnx hlp2
      exact ⟨⟨Nat.le_refl _, .inl ⟨rfl, rfl⟩⟩, by rw [entO_end, hnx]⟩
end Go.Proofs.YtellieabhaphhaaGreatDoor
