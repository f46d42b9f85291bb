import Derived.Test.YtellieabhaphhabGreatDoorPPrunedO
/-
  Plain: the pruned graph, written and read again.
-/
namespace Go.Proofs.YtellieabhaphhabGreatDoor
open Go.RowKit

/-- How long a node's line is. -/
def lsz (nd : Nd) : Nat := nd.l.toNat + (if nd.op = 33 then 0 else 3) + (if nd.op = 121 ∨ nd.op = 58 then 3 else 0) + 1

theorem eat_len {s : ByteArray} {p : Nat × Bool} {c : Nat} (h : (eatF s p c).2 = false) : (eatF s p c).1 = p.1 + 1 ∧ p.2 = false := by
  unfold eatF at h ⊢
  split
  · rename_i hc; rw [if_pos hc] at h; cases h
  · rename_i hc
    refine ⟨rfl, ?_⟩
    cases hp : p.2 with
    | false => rfl
    | true => rw [hp] at hc; simp at hc
theorem dig_len {s : ByteArray} {p : Nat × Bool} (h : (digF s p).2.2 = false) : (digF s p).2.1 = p.1 + 1 ∧ p.2 = false := by
  unfold digF at h ⊢
  split
  · rename_i hc; rw [if_pos hc] at h; cases h
  · rename_i hc
    refine ⟨rfl, ?_⟩
    cases hp : p.2 with
    | false => rfl
    | true => rw [hp] at hc; simp at hc
theorem way_len {s : ByteArray} {p : Nat × Bool} (h : (wayF s p).2.2 = false) : (wayF s p).2.1 = p.1 + 3 ∧ p.2 = false := by
  obtain ⟨a1, a2⟩ := dig_len (s := s) (p := (digF s (eatF s p 44)).2) h
  obtain ⟨b1, b2⟩ := dig_len (s := s) (p := eatF s p 44) a2
  obtain ⟨c1, c2⟩ := eat_len b2
  refine ⟨?_, c2⟩
  show (digF s (digF s (eatF s p 44)).2).2.1 = _
  omega

/-- A node as a graph's line has it: a text of its own, or a star. -/
def RdT (nd : Nd) (tx : ByteArray) : Prop :=
  (nd.op = 42 ∧ nd.x = 0 ∧ nd.y = 0 ∧ nd.v = 0 ∧ nd.k = 0 ∧ nd.l = 1 ∧ tx = ⟨#[42]⟩) ∨
  (∃ nd0, TxP nd0 tx ∧ nd.op = nd0.op ∧ nd.x = nd0.x ∧ nd.y = nd0.y ∧ nd.v = nd0.v ∧ nd.k = nd0.k ∧ nd.l = nd0.l ∧ nd0.l = tx.size ∧ (¬ (nd.op = 121 ∨ nd.op = 58) → nd0.f = -1))

theorem txp_l {nd : Nd} {s : ByteArray} {i j : Nat} (hij : i ≤ j) (hj : j ≤ s.size) (h : nd.l = (j : Int) - i) : nd.l = ((sinceB s i j).size : Int) := by
  have : (sinceB s i j).size = j - i := by
    show (s.extract i j).size = _
    rw [ByteArray.size_extract]; omega
  rw [this]; omega

theorem star_ext {s : ByteArray} {i : Nat} (h : pk s i = 42) : s.extract i (i + 1) = ⟨#[42]⟩ := by
  have hi := pk_in s i (by rw [h]; decide)
  apply ByteArray.ext
  apply Array.ext'
  show (s.extract i (i + 1)).data.toList = [42]
  rw [ext_list, List.take_succ_eq_append_getElem (show i < s.data.toList.length from hi), List.drop_append_of_le_length (by rw [List.length_take]; have : s.data.toList.length = s.size := rfl; omega), List.drop_eq_nil_of_le (by rw [List.length_take]; omega)]
  unfold pk at h
  rw [dif_pos hi] at h
  show [] ++ [s.data.toList[i]] = [42]
  have h' : s.data.toList[i] = 42 := UInt8.toNat_inj.1 h
  rw [h']; rfl

theorem lineF_rd (s : ByteArray) (st : RS) (hi : st.i < s.size) (hb : (lineF s st).bad = false) :
    ∃ nd, (lineF s st).nodes = st.nodes ++ [nd] ∧ RdT nd (s.extract nd.a.toNat (nd.a + nd.l).toNat) ∧ (lineF s st).i = st.i + lsz nd := by
  have e0 := lineF_eq s st
  have hle := lineN_le s st.i hi
  have hge := lineN_ge s st.i
  by_cases hN : (lineN s st.i).2.2 = true
  · rw [e0, lineR, if_pos hN] at hb; cases hb
  have hN' : (lineN s st.i).2.2 = false := by simpa using hN
  obtain ⟨g1, g2, g3⟩ := lineN_gn s st.i hN'
  have hgt := hge.2 hN'
  have hrd : RdT (lineN s st.i).1 (s.extract (lineN s st.i).1.a.toNat ((lineN s st.i).1.a + (lineN s st.i).1.l).toNat) := by
    have e1 : s.extract (lineN s st.i).1.a.toNat ((lineN s st.i).1.a + (lineN s st.i).1.l).toNat = sinceB s st.i (lineN s st.i).2.1 := by
      rw [g2, g3, sinceB]; congr 1; omega
    rw [e1]
    have hlz := txp_l (s := s) (Nat.le_of_lt hgt) hle g3
    have hff := g1.f
    clear e1
    unfold lineN at hN' hle hgt hlz hff ⊢
    by_cases h1 : pk s st.i = 42
    · rw [if_pos h1]
      exact .inl ⟨rfl, rfl, rfl, rfl, rfl, rfl, star_ext h1⟩
    · rw [if_neg h1] at hN' hle hgt hlz hff ⊢
      by_cases h2 : 97 ≤ pk s st.i ∧ pk s st.i ≤ 102 ∧ pk s (st.i + 1) ≠ 61 ∧ pk s (st.i + 1) ≠ 126
      · rw [if_pos h2] at hN' hle hgt hlz hff ⊢
        exact .inr ⟨_, ⟨s, st.i, _, rfl, Nat.le_of_lt hgt, hle, .inr (Prod.ext rfl (Prod.ext rfl hN'))⟩, rfl, rfl, rfl, rfl, rfl, rfl, hlz, hff⟩
      · rw [if_neg h2] at hN' hle hgt hlz hff ⊢
        exact .inr ⟨_, ⟨s, st.i, _, rfl, Nat.le_of_lt hgt, hle, .inl (Prod.ext rfl (Prod.ext rfl hN'))⟩, rfl, rfl, rfl, rfl, rfl, rfl, hlz, hff⟩
  rw [e0, lineR, if_neg hN] at hb ⊢
  refine ⟨_, rfl, ?_, ?_⟩
  · rcases hrd with h | ⟨n0, h1, h2, h3, h4, h5, h6, h7, h8, h9⟩
    · exact .inl h
    · exact .inr ⟨n0, h1, h2, h3, h4, h5, h6, h7, h8, h9⟩
  · have hb' : (eatF s (lineG s (lineN s st.i).1 (lineT s (lineN s st.i).1 (lineN s st.i).2).2).2 59).2 = false := hb
    obtain ⟨c1, c2⟩ := eat_len hb'
    show (eatF s (lineG s (lineN s st.i).1 (lineT s (lineN s st.i).1 (lineN s st.i).2).2).2 59).1 = st.i + ((lineN s st.i).1.l.toNat + (if (lineN s st.i).1.op = 33 then 0 else 3) + (if (lineN s st.i).1.op = 121 ∨ (lineN s st.i).1.op = 58 then 3 else 0) + 1)
    rw [c1]
    have hl : (lineN s st.i).1.l.toNat + st.i = (lineN s st.i).2.1 := by omega
    generalize lineN s st.i = z at *
    by_cases ht : z.1.op = 121 ∨ z.1.op = 58
    · have h33 : ¬ z.1.op = 33 := by omega
      unfold lineG at c2 ⊢
      rw [if_pos ht] at c2 ⊢
      obtain ⟨d1, d2⟩ := way_len c2
      unfold lineT at d1 d2 ⊢
      rw [if_neg h33] at d1 d2 ⊢
      obtain ⟨f1, f2⟩ := way_len d2
      rw [if_neg h33, if_pos ht]
      dsimp only at d1 f1 ⊢
      omega
    · unfold lineG at c2 ⊢
      rw [if_neg ht] at c2 ⊢
      unfold lineT at c2 ⊢
      by_cases h33 : z.1.op = 33
      · rw [if_pos h33, if_pos h33, if_neg ht]
        dsimp only
        omega
      · rw [if_neg h33] at c2
        obtain ⟨f1, f2⟩ := way_len c2
        rw [if_neg h33, if_neg h33, if_neg ht]
        dsimp only
        omega

def szL (l : List Nd) : Nat := (l.map lsz).sum

theorem lnsF_rd : ∀ (f : Nat) (s : ByteArray) (st : RS), st.bad = false → s.size - st.i < f → st.i = szL st.nodes → st.i ≤ s.size → (∀ n ∈ st.nodes, RdT n (s.extract n.a.toNat (n.a + n.l).toNat)) →
    ((lnsF f s st).bad = false → (∀ n ∈ (lnsF f s st).nodes, RdT n (s.extract n.a.toNat (n.a + n.l).toNat)) ∧ szL (lnsF f s st).nodes = s.size) := by
  intro f
  induction f with
  | zero => intro s st _ h; omega
  | succ f ih =>
    intro s st hb hf hsz hle h
    rw [lnsF]
    split
    · rename_i hc
      split
      · intro e; cases e
      · cases hb2 : (lineF s st).bad
        · obtain ⟨nd, h1, h2, h3⟩ := lineF_rd s st hc.2 hb2
          have hpos : 0 < lsz nd := by unfold lsz; omega
          have hle2 : (lineF s st).i ≤ s.size := (lineF_inv s st hc.2).1
          exact ih s (lineF s st) hb2 (by omega) (by rw [h3, h1, hsz]; simp [szL]) hle2 (fun n hn => by
            rw [h1, List.mem_append, List.mem_singleton] at hn
            rcases hn with h' | rfl
            · exact h n h'
            · exact h2)
        · rw [lns_stop f s (lineF s st) (by rw [hb2]; simp)]
          intro e; rw [hb2] at e; cases e
    · rename_i hc
      intro _
      have : ¬ st.i < s.size := fun e => hc ⟨hb, e⟩
      exact ⟨h, by omega⟩

theorem graF_rd (s : ByteArray) (h : (graF s).bad = false) : (∀ n ∈ (graF s).nodes, RdT n (s.extract n.a.toNat (n.a + n.l).toNat)) ∧ szL (graF s).nodes = s.size :=
  lnsF_rd _ s rs0 rfl (by show s.size - 0 < _; omega) rfl (Nat.zero_le _) (fun n hn => by simp [rs0] at hn) h

/-- A node that can be written out of s and read again. -/
structure PF (s : ByteArray) (P : Nd) : Prop where
  tx : RdT P (s.extract P.a.toNat (P.a + P.l).toNat)
  t3 : P.op = 33 → P.t = -1
  t : P.op ≠ 33 → 0 ≤ P.t ∧ P.t ≤ 90
  f : P.op = 121 ∨ P.op = 58 → 0 ≤ P.f ∧ P.f ≤ 90
  f3 : ¬ (P.op = 121 ∨ P.op = 58) → P.f = -1

def lbB (s : ByteArray) (P : Nd) : List UInt8 := (linB s P).data.toList

theorem wri_flat (s : ByteArray) (l : List Nd) : (wriF s l).data.toList = l.flatMap (lbB s) := by
  have key : ∀ (l : List Nd) (a : ByteArray), (l.foldl (fun a n => a ++ linB s n) a).data.toList = a.data.toList ++ l.flatMap (lbB s) := by
    intro l
    induction l with
    | nil => intro a; simp
    | cons n l ih =>
      intro a
      rw [List.foldl_cons, ih]
      simp [lbB]
  exact (key l ⟨#[]⟩).trans (by simp)

theorem lb_len {s : ByteArray} {P : Nd} (h : PF s P) : (lbB s P).length = lsz P := by
  have e : (lbB s P).length = (linB s P).size := rfl
  have hl : ((s.extract P.a.toNat (P.a + P.l).toNat).size : Int) = P.l := by
    rcases h.tx with ⟨_, _, _, _, _, h6, h7⟩ | ⟨n0, _, _, _, _, _, _, h7, h8, _⟩
    · rw [h7, h6]; rfl
    · omega
  have w1 : (wayB P.t).size = if P.op = 33 then 0 else 3 := by
    by_cases h33 : P.op = 33
    · rw [if_pos h33, h.t3 h33]; rfl
    · rw [if_neg h33, wayB, if_pos (h.t h33).1, ByteArray.size_append, twoB_size]; rfl
  have w2 : (wayB P.f).size = if P.op = 121 ∨ P.op = 58 then 3 else 0 := by
    by_cases ht : P.op = 121 ∨ P.op = 58
    · rw [if_pos ht, wayB, if_pos (h.f ht).1, ByteArray.size_append, twoB_size]; rfl
    · rw [if_neg ht, h.f3 ht]; rfl
  rw [e]
  unfold linB lsz
  rw [ByteArray.size_append, ByteArray.size_append, ByteArray.size_append, w1, w2, show (ByteArray.mk #[59]).size = 1 from rfl]
  omega

theorem lb_split (s : ByteArray) (P : Nd) : lbB s P = (s.extract P.a.toNat (P.a + P.l).toNat).data.toList ++ ((wayB P.t).data.toList ++ ((wayB P.f).data.toList ++ [59])) := by
  unfold lbB linB
  simp

theorem line_back {s g : ByteArray} {st : RS} {P : Nd} (h : PF s P) (hA : At g st.i (lbB s P)) :
    lineF g st = { st with i := st.i + (lbB s P).length, bad := false, nodes := st.nodes ++ [{ P with a := st.i }] } := by
  have hlen := lb_len h
  rcases h.tx with ⟨h1, h2, h3, h4, h5, h6, h7⟩ | ⟨n0, h1, h2, h3, h4, h5, h6, h7, h8, h9⟩
  · have h33 : P.op ≠ 33 := by omega
    have ht : ¬ (P.op = 121 ∨ P.op = 58) := by omega
    rw [lb_split, h7] at hA
    have p0 : pk g st.i = 42 := hA.left.head
    have hB := hA.right
    have hw : (wayB P.t) = (⟨#[44]⟩ : ByteArray) ++ twoB P.t.toNat := by rw [wayB, if_pos (h.t h33).1]
    have hf : (wayB P.f) = ⟨#[]⟩ := by rw [h.f3 ht]; rfl
    rw [hw, hf] at hB
    have w1 := way_read (h.t h33).1 (h.t h33).2 hB.left
    have hC := hB.right
    have hl3 : ((⟨#[44]⟩ : ByteArray) ++ twoB P.t.toNat).data.toList.length = 3 := by rw [ByteArray.data_append, Array.toList_append]; rfl
    rw [hl3] at hC
    have p59 : pk g (st.i + 1 + 3) = 59 := hC.head
    have e59 : eatF g (st.i + 1 + 3, false) 59 = (st.i + 1 + 3 + 1, false) := by rw [eatF_pkb g _ 59 (by decide), pkb_false, if_pos p59]
    have hN : lineN g st.i = ({ op := 42, x := 0, y := 0, v := 0, k := 0, t := 0, f := -1, a := st.i, l := 1 }, (st.i + 1, false)) := by unfold lineN; rw [if_pos p0]
    have w1' : wayF g (st.i + 1, false) = (P.t.toNat, (st.i + 1 + 3, false)) := w1
    rw [hlen, lineF_eq, hN]
    unfold lineR lineT lineG
    rw [if_neg (by show ¬ (false = true); decide)]
    dsimp only
    rw [if_neg (by decide), if_neg (by decide)]
    dsimp only
    rw [w1']
    dsimp only
    rw [e59]
    have hP : ({ P with a := st.i } : Nd) = { op := 42, x := 0, y := 0, v := 0, k := 0, t := ((P.t.toNat : Nat) : Int), f := -1, a := st.i, l := 1 } := by
      obtain ⟨op, x, y, v, k, t, f, a, l⟩ := P
      dsimp only at *
      have ht0 := (h.t h33).1
      have hf0 := h.f3 ht
      dsimp only at ht0 hf0
      subst h1 h2 h3 h4 h5 h6 hf0
      rw [Int.toNat_of_nonneg ht0]
    rw [hP]
    have hz : lsz P = 5 := by unfold lsz; rw [if_neg h33, if_neg ht, h6]; rfl
    rw [hz]
  · have hy : 0 ≤ (if P.op = 33 then 0 else P.t) ∧ (if P.op = 33 then 0 else P.t) ≤ 90 := by
      by_cases h33 : P.op = 33
      · rw [if_pos h33]; omega
      · rw [if_neg h33]; exact h.t h33
    have hz : 0 ≤ (if P.op = 121 ∨ P.op = 58 then P.f else 0) ∧ (if P.op = 121 ∨ P.op = 58 then P.f else 0) ≤ 90 := by
      by_cases hh : P.op = 121 ∨ P.op = 58
      · rw [if_pos hh]; exact h.f hh
      · rw [if_neg hh]; omega
    have hnl : lbB s P = nlB (encN n0 (s.extract P.a.toNat (P.a + P.l).toNat) (if P.op = 33 then 0 else P.t) (if P.op = 121 ∨ P.op = 58 then P.f else 0)) := by
      have a1 := actN_11 n0.op
      have a2 := actN_t n0.op
      have wA : wayB P.t = if actN n0.op = 11 then ⟨#[]⟩ else ⟨#[44]⟩ ++ twoB (if P.op = 33 then 0 else P.t).toNat := by
        by_cases h33 : P.op = 33
        · rw [if_pos (a1.2 (h2 ▸ h33)), h.t3 h33]; rfl
        · rw [if_neg (fun e => h33 (h2 ▸ a1.1 e)), if_neg h33, wayB, if_pos (h.t h33).1]
      have wB : wayB P.f = if actN n0.op = 12 ∨ actN n0.op = 13 then ⟨#[44]⟩ ++ twoB (if P.op = 121 ∨ P.op = 58 then P.f else 0).toNat else ⟨#[]⟩ := by
        by_cases hh : P.op = 121 ∨ P.op = 58
        · rw [if_pos (a2.2 (h2 ▸ hh)), if_pos hh, wayB, if_pos (h.f hh).1]
        · rw [if_neg (fun e => hh (h2 ▸ a2.1 e)), h.f3 hh]; rfl
      unfold lbB linB nlB lnTx
      rw [wA, wB]
      rfl
    rw [hnl] at hA ⊢
    rw [line_read h1 hy hz hA]
    have hP : reN n0 st.i (if P.op = 33 then 0 else P.t) (if P.op = 121 ∨ P.op = 58 then P.f else 0) = { P with a := st.i } := by
      have q1 := h.t3
      have q2 := h.f3
      obtain ⟨op, x, y, v, k, t, f, a, l⟩ := P
      obtain ⟨op', x', y', v', k', t', f', a', l'⟩ := n0
      dsimp only at *
      subst h2 h3 h4 h5 h6 h7
      unfold reN
      dsimp only
      congr 1
      · by_cases h33 : op = 33
        · rw [if_pos h33, q1 h33]
        · rw [if_neg h33, if_neg h33]
      · by_cases hh : op = 121 ∨ op = 58
        · rw [if_pos hh, if_pos hh]
        · rw [if_neg hh, h9 hh, q2 hh]
    rw [hP]

theorem lb_pos {s : ByteArray} (P : Nd) : 0 < (lbB s P).length := by
  rw [lb_split]
  simp
  omega

theorem lns_back (s : ByteArray) : ∀ (L : List Nd), (∀ P ∈ L, PF s P) → ∀ (f : Nat) (g : ByteArray) (st : RS), L.length < f → At g st.i (L.flatMap (lbB s)) → st.i + (L.flatMap (lbB s)).length = g.size → st.bad = false → st.nodes.length + L.length ≤ 90 →
    ∃ nds, lnsF f g st = { st with i := g.size, bad := false, nodes := st.nodes ++ nds } ∧ nds.length = L.length ∧ ∀ (k : Nat) (P : Nd), L[k]? = some P → ∃ p, nds[k]? = some { P with a := ((p : Nat) : Int) } ∧ At g p (lbB s P) ∧ p + (lbB s P).length ≤ g.size
  | [], _, f, g, st, hf, _, hsz, hb, _ => by
    refine ⟨[], ?_, rfl, fun i nd h => by simp at h⟩
    rw [lns_stop _ _ _ (fun e => by simp at hsz; omega)]
    obtain ⟨i, b, nodes, items, loops⟩ := st
    simp at hsz hb
    subst hsz hb
    simp
  | P :: L, hN, f, g, st, hf, hA, hsz, hb, h90 => by
    rw [List.flatMap_cons] at hA hsz
    have hpos := lb_pos (s := s) P
    rw [List.length_append] at hsz
    rw [List.length_cons] at hf h90
    obtain ⟨f, rfl⟩ : ∃ k, f = k + 1 := ⟨f - 1, by omega⟩
    have hr := line_back (st := st) (hN P (List.mem_cons_self ..)) hA.left
    obtain ⟨nds, h1, h2, h3⟩ := lns_back s L (fun m hm => hN m (List.mem_cons_of_mem _ hm)) f g { st with i := st.i + (lbB s P).length, bad := false, nodes := st.nodes ++ [{ P with a := st.i }] } (by omega) hA.right
      (by show st.i + (lbB s P).length + _ = _; omega) rfl (by show (st.nodes ++ [{ P with a := st.i }]).length + _ ≤ 90; rw [List.length_append, List.length_singleton]; omega)
    refine ⟨{ P with a := st.i } :: nds, ?_, by rw [List.length_cons, List.length_cons, h2], ?_⟩
    · rw [lnsF, if_pos ⟨hb, by omega⟩, if_neg (by omega), hr, h1]
      simp
    · intro k Q hk
      cases k with
      | zero =>
        obtain rfl : P = Q := by simpa using hk
        exact ⟨st.i, rfl, hA.left, by omega⟩
      | succ k => exact h3 k Q (by simpa using hk)
end Go.Proofs.YtellieabhaphhabGreatDoor

/-
  Plain: the pruned graph is a graph; pruned again it is the same.
-/
namespace Go.Proofs.YtellieabhaphhabGreatDoor
open Go.RowKit

abbrev starB : ByteArray := ⟨#[42]⟩

theorem cnt_le' (T : Tbl) (i : Nat) : cntF T i ≤ cntF T T.length := by
  unfold cntF
  rw [List.take_length]
  exact (List.take_sublist i T).countP_le
theorem ren_le (T : Tbl) (i : Nat) (s : St) : renF T i s ≤ cntF T T.length := by
  unfold renF
  split
  · exact Nat.le_refl _
  · exact cnt_le' T i

theorem RdT.ways {nd : Nd} {tx : ByteArray} (h : RdT nd tx) (t f : Int) : RdT { nd with t := t, f := f } tx := by
  rcases h with h | ⟨n0, h1, h2, h3, h4, h5, h6, h7, h8, h9⟩
  · exact .inl h
  · exact .inr ⟨n0, h1, h2, h3, h4, h5, h6, h7, h8, h9⟩

theorem prnN_pf {s : ByteArray} {T : Tbl} {nd : Nd} (S : St) (h : Gd s nd) (hr : RdT nd (s.extract nd.a.toNat (nd.a + nd.l).toNat)) (hT : T.length ≤ 90) : PF (s ++ starB) (prnN s.size T nd S) := by
  have hb : ∀ i s', renF T i s' ≤ 90 := fun i s' => by
    have := ren_le T i s'
    have := cnt_le T T.length
    omega
  have htx : RdT nd ((s ++ starB).extract nd.a.toNat (nd.a + nd.l).toNat) := by rw [node_text h]; exact hr
  unfold prnN
  by_cases ht : nd.op = 121 ∨ nd.op = 58
  · rw [if_pos ht]
    by_cases hc : hldF nd true S ≠ [] ∧ hldF nd false S ≠ []
    · rw [if_pos hc]
      have b1 := hb nd.t.toNat (hldF nd true S)
      have b2 := hb nd.f.toNat (hldF nd false S)
      exact ⟨htx.ways _ _, fun e => absurd (show nd.op = 33 from e) (by omega), fun _ => ⟨Int.natCast_nonneg _, by dsimp only; omega⟩, fun _ => ⟨Int.natCast_nonneg _, by dsimp only; omega⟩, fun e => absurd ht e⟩
    · rw [if_neg hc]
      have hst : RdT (⟨42, 0, 0, 0, 0, if hldF nd true S = [] then (renF T nd.f.toNat (hldF nd false S) : Nat) else (renF T nd.t.toNat (hldF nd true S) : Nat), -1, s.size, 1⟩ : Nd) ((s ++ starB).extract ((s.size : Nat) : Int).toNat (((s.size : Nat) : Int) + 1).toNat) :=
        .inl ⟨rfl, rfl, rfl, rfl, rfl, rfl, by
          rw [Int.toNat_natCast, show (((s.size : Nat) : Int) + 1).toNat = s.size + 1 by omega]
          exact ext_star s⟩
      have b1 := hb nd.t.toNat (hldF nd true S)
      have b2 := hb nd.f.toNat (hldF nd false S)
      refine ⟨hst, fun e => absurd (show (42 : Int) = 33 from e) (by decide), fun _ => ?_, fun e => absurd (show (42 : Int) = 121 ∨ (42 : Int) = 58 from e) (by decide), fun _ => rfl⟩
      dsimp only
      split
      · exact ⟨Int.natCast_nonneg _, by omega⟩
      · exact ⟨Int.natCast_nonneg _, by omega⟩
  · rw [if_neg ht]
    by_cases h33 : nd.op = 33
    · rw [if_pos h33]
      exact ⟨htx, h.t3, fun e => absurd h33 e, fun e => absurd e ht, h.g.f⟩
    · rw [if_neg h33]
      have b1 := hb nd.t.toNat (behF nd S)
      exact ⟨htx.ways _ nd.f, fun e => absurd (show nd.op = 33 from e) h33, fun _ => ⟨Int.natCast_nonneg _, by dsimp only; omega⟩, fun e => absurd (show nd.op = 121 ∨ nd.op = 58 from e) ht, h.g.f⟩

theorem prnN_sz (g : Nat) (T : Tbl) {nd : Nd} (S : St) (h : 0 < nd.l) : lsz (prnN g T nd S) ≤ lsz nd := by
  unfold prnN
  by_cases ht : nd.op = 121 ∨ nd.op = 58
  · rw [if_pos ht]
    split
    · exact Nat.le_refl _
    · unfold lsz
      rw [if_neg (show ¬ (42 : Int) = 33 by decide), if_neg (show ¬ ((42 : Int) = 121 ∨ (42 : Int) = 58) by decide), if_neg (show ¬ nd.op = 33 by omega), if_pos ht]
      show (1 : Int).toNat + 3 + 0 + 1 ≤ _
      have : (1 : Int).toNat = 1 := rfl
      omega
  · rw [if_neg ht]
    split
    · exact Nat.le_refl _
    · exact Nat.le_refl _

theorem szL_app (a b : List Nd) : szL (a ++ b) = szL a + szL b := by simp [szL]

theorem prnL_sz (g : Nat) (T : Tbl) (l : List Nd) (h : ∀ n ∈ l, 0 < n.l) : ∀ j, j ≤ l.length → szL (prnL g T l j) ≤ szL (l.take j)
  | 0, _ => by simp [prnL, szL]
  | j + 1, hj => by
    have ih := prnL_sz g T l h j (by omega)
    rw [prnL, szL_app, List.take_succ_eq_append_getElem hj, szL_app, List.getElem?_eq_getElem hj]
    dsimp only
    have hz := prnN_sz g T (T.getD j []) (h l[j] (List.getElem_mem hj))
    have e1 : szL [l[j]] = lsz l[j] := by simp [szL]
    by_cases e : T.getD j [] = []
    · rw [if_pos e]
      have : szL ([] : List Nd) = 0 := rfl
      omega
    · rw [if_neg e]
      have : szL [prnN g T l[j] (T.getD j [])] = lsz (prnN g T l[j] (T.getD j [])) := by simp [szL]
      omega

theorem prn_mem {g : Nat} {T : Tbl} {l : List Nd} : ∀ j, ∀ P ∈ prnL g T l j, ∃ nd ∈ l, ∃ S, P = prnN g T nd S
  | 0, P, h => by simp [prnL] at h
  | j + 1, P, h => by
    rw [prnL, List.mem_append] at h
    rcases h with h | h
    · exact prn_mem j P h
    · cases hl : l[j]? with
      | none => rw [hl] at h; simp at h
      | some nd =>
        rw [hl] at h
        dsimp only at h
        by_cases e : T.getD j [] = []
        · rw [if_pos e] at h; simp at h
        · rw [if_neg e] at h
          exact ⟨nd, List.mem_of_getElem? hl, _, by simpa using h⟩

theorem prnN_eqn (g : Nat) (T : Tbl) (nd : Nd) (S : St) (p : Int) : Eqn { prnN g T nd S with a := p } (prnN 0 T nd S) := by
  unfold prnN
  by_cases ht : nd.op = 121 ∨ nd.op = 58
  · rw [if_pos ht, if_pos ht]
    by_cases hc : hldF nd true S ≠ [] ∧ hldF nd false S ≠ []
    · rw [if_pos hc, if_pos hc]; exact ⟨rfl, rfl, rfl, rfl, rfl, rfl, rfl⟩
    · rw [if_neg hc, if_neg hc]; exact ⟨rfl, rfl, rfl, rfl, rfl, rfl, rfl⟩
  · rw [if_neg ht, if_neg ht]
    by_cases h33 : nd.op = 33
    · rw [if_pos h33]; exact ⟨rfl, rfl, rfl, rfl, rfl, rfl, rfl⟩
    · rw [if_neg h33]; exact ⟨rfl, rfl, rfl, rfl, rfl, rfl, rfl⟩

theorem prnN_ways {T : Tbl} {nd : Nd} {g : Nat} (S : St) (h : nd.op = 33 → nd.t = -1) (hf : ¬ (nd.op = 121 ∨ nd.op = 58) → nd.f = -1) : (prnN g T nd S).t ≤ cntF T T.length ∧ (prnN g T nd S).f ≤ cntF T T.length := by
  unfold prnN
  by_cases ht : nd.op = 121 ∨ nd.op = 58
  · rw [if_pos ht]
    have b1 := ren_le T nd.t.toNat (hldF nd true S)
    have b2 := ren_le T nd.f.toNat (hldF nd false S)
    split
    · exact ⟨by dsimp only; omega, by dsimp only; omega⟩
    · refine ⟨?_, by dsimp only; omega⟩
      dsimp only
      split <;> omega
  · rw [if_neg ht]
    have := hf ht
    split
    · rename_i h33
      have := h h33
      exact ⟨by omega, by omega⟩
    · have b1 := ren_le T nd.t.toNat (behF nd S)
      exact ⟨by dsimp only; omega, by dsimp only; omega⟩

theorem gl_of {s : ByteArray} (h : graE s = (0, 0)) : Gl (graF s).nodes := by
  obtain ⟨_, hb⟩ := graE_zero s (by rw [h])
  have hg := (graF_gd s).2 hb
  have hl : linkAt (graF s).nodes = none := by
    unfold graE at h
    rw [if_neg (by rw [hb]; decide)] at h
    cases hk : linkAt (graF s).nodes with
    | none => rfl
    | some i => rw [hk] at h; simp at h
  unfold linkAt at hl
  rw [List.findIdx?_eq_none_iff] at hl
  have hle : ∀ nd ∈ (graF s).nodes, nd.t ≤ (graF s).nodes.length ∧ nd.f ≤ (graF s).nodes.length := fun nd hn => by
    have := hl nd hn
    unfold badLink at this
    rw [Bool.or_eq_false_iff, decide_eq_false_iff_not, decide_eq_false_iff_not] at this
    omega
  exact ⟨fun nd hn => (hg nd hn).g, fun nd hn h33 => ⟨((hg nd hn).t h33).1, (hle nd hn).1⟩, fun nd hn ht => ⟨((hg nd hn).f ht).1, (hle nd hn).2⟩, (graF_inv s).2⟩

/-- What Prune answers. -/
def pruT (s : ByteArray) : ByteArray := wriF (s ++ starB) (prnL s.size (lstF (graF s).nodes) (graF s).nodes (graF s).nodes.length)

theorem pruT_read {s : ByteArray} (hs : s.size ≤ 900) (hE : graE s = (0, 0)) :
    (pruT s).size ≤ 900 ∧ graE (pruT s) = (0, 0) ∧ (graF (pruT s)).nodes.length = cntF (lstF (graF s).nodes) (lstF (graF s).nodes).length ∧
    (∀ (k : Nat) (P : Nd), (prnL s.size (lstF (graF s).nodes) (graF s).nodes (graF s).nodes.length)[k]? = some P → ∃ p : Nat, (graF (pruT s)).nodes[k]? = some { P with a := (p : Int) } ∧ At (pruT s) p (lbB (s ++ starB) P) ∧ p + (lbB (s ++ starB) P).length ≤ (pruT s).size) := by
  obtain ⟨_, hb⟩ := graE_zero s (by rw [hE])
  have hg := (graF_gd s).2 hb
  obtain ⟨hrd, hsz⟩ := graF_rd s hb
  have h90 := (graF_inv s).2
  have hlen := lst_len (graF s).nodes
  unfold pruT
  have hpl := prn_len s.size (lstF (graF s).nodes) (graF s).nodes hlen (graF s).nodes.length (Nat.le_refl _)
  have hpz := prnL_sz s.size (lstF (graF s).nodes) (graF s).nodes (fun n hn => (hg n hn).l) (graF s).nodes.length (Nat.le_refl _)
  rw [List.take_length] at hpz
  have hpf : ∀ P ∈ prnL s.size (lstF (graF s).nodes) (graF s).nodes (graF s).nodes.length, PF (s ++ starB) P := fun P hP => by
    obtain ⟨nd, hn, S, rfl⟩ := prn_mem _ P hP
    exact prnN_pf S (hg nd hn) (hrd nd hn) (by omega)
  have hpw : ∀ P ∈ prnL s.size (lstF (graF s).nodes) (graF s).nodes (graF s).nodes.length, P.t ≤ cntF (lstF (graF s).nodes) (lstF (graF s).nodes).length ∧ P.f ≤ cntF (lstF (graF s).nodes) (lstF (graF s).nodes).length := fun P hP => by
    obtain ⟨nd, hn, S, rfl⟩ := prn_mem _ P hP
    exact prnN_ways S (hg nd hn).t3 (hg nd hn).g.f
  rw [← hlen] at hpl
  have hc90 := cnt_le (lstF (graF s).nodes) (lstF (graF s).nodes).length
  generalize cntF (lstF (graF s).nodes) (lstF (graF s).nodes).length = N at *
  rw [hlen] at hpl
  generalize prnL s.size (lstF (graF s).nodes) (graF s).nodes (graF s).nodes.length = L at *
  have hfl : (L.flatMap (lbB (s ++ starB))).length = szL L := by
    clear hpl hpz hpw
    induction L with
    | nil => rfl
    | cons P L ih =>
      rw [List.flatMap_cons, List.length_append, lb_len (hpf P (List.mem_cons_self ..)), ih (fun Q hQ => hpf Q (List.mem_cons_of_mem _ hQ))]
      simp [szL]
  have hgs : (wriF (s ++ starB) L).size = (L.flatMap (lbB (s ++ starB))).length := by rw [← wri_flat]; rfl
  have hA : At (wriF (s ++ starB) L) 0 (L.flatMap (lbB (s ++ starB))) := by rw [← wri_flat]; exact At.self _
  have hll : L.length ≤ (L.flatMap (lbB (s ++ starB))).length := by
    clear hpl hpz hpw hfl hgs hA hpf
    induction L with
    | nil => exact Nat.le_refl _
    | cons P L ih =>
      have := lb_pos (s := s ++ starB) P
      rw [List.flatMap_cons, List.length_append, List.length_cons]
      omega
  generalize wriF (s ++ starB) L = g at *
  obtain ⟨nds, h1, h2, h3⟩ := lns_back (s ++ starB) L hpf (g.size + 1) g rs0 (by omega) hA (by show 0 + _ = _; omega) rfl (by show 0 + L.length ≤ 90; omega)
  have hF : graF g = { rs0 with i := g.size, bad := false, nodes := [] ++ nds } := h1
  have hn : (graF g).nodes = nds := by rw [hF]; rfl
  refine ⟨by omega, ?_, by rw [hn]; omega, by rw [hn]; exact h3⟩
  unfold graE
  rw [if_neg (by rw [hF]; show ¬ (false = true); decide), hn]
  have hl : linkAt nds = none := by
    unfold linkAt
    rw [List.findIdx?_eq_none_iff]
    intro nd hnd
    obtain ⟨i, hi, rfl⟩ := List.getElem_of_mem hnd
    have hiL : i < L.length := by omega
    obtain ⟨p, e, _⟩ := h3 i L[i] (List.getElem?_eq_getElem hiL)
    rw [List.getElem?_eq_getElem hi] at e
    have e2 := Option.some.inj e
    have hw := hpw L[i] (List.getElem_mem hiL)
    unfold badLink
    rw [e2, Bool.or_eq_false_iff, decide_eq_false_iff_not, decide_eq_false_iff_not]
    dsimp only
    omega
  rw [hl]

theorem pruT_prn {s : ByteArray} (hs : s.size ≤ 900) (hE : graE s = (0, 0)) : Prn (graF s).nodes (lstF (graF s).nodes) (graF (pruT s)).nodes := by
  obtain ⟨_, _, h3, h4⟩ := pruT_read hs hE
  refine ⟨h3, fun i nd hnd hne => ?_⟩
  obtain ⟨p, e, _⟩ := h4 _ _ (prn_get s.size _ _ (lst_len _) _ (Nat.le_refl _) i nd (List.getElem?_eq_some_iff.1 hnd).1 hnd hne)
  exact ⟨_, e, prnN_eqn _ _ _ _ _⟩

-- once more
theorem cnt_all {T : Tbl} (h : ∀ s ∈ T, s ≠ []) {j : Nat} (hj : j ≤ T.length) : cntF T j = j := by
  unfold cntF
  rw [List.countP_eq_length.2 (fun s hs => by simpa using h s (List.mem_of_mem_take hs)), List.length_take]
  omega

theorem kept_ne (T : Tbl) : ∀ s ∈ kept T, s ≠ [] := fun s hs => by simpa [kept] using (List.mem_filter.1 hs).2

theorem at_ext {g : ByteArray} {p : Nat} {tx : ByteArray} {C : List UInt8} (h : At g p (tx.data.toList ++ C)) (hp : p + tx.size ≤ g.size) : g.extract p (p + tx.size) = tx := by
  have hl := h.left
  apply ByteArray.ext
  apply Array.ext'
  show (g.extract p (p + tx.size)).data.toList = tx.data.toList
  rw [ext_list]
  have e1 : g.data.toList.length = g.size := rfl
  have e2 : tx.data.toList.length = tx.size := rfl
  apply List.ext_getElem
  · rw [List.length_drop, List.length_take]; omega
  · intro i hi hj
    have hk := hl i tx.data.toList[i] (List.getElem?_eq_getElem hj)
    have hpi : p + i < g.size := by omega
    unfold pk at hk
    rw [dif_pos hpi] at hk
    rw [List.getElem_drop, List.getElem_take]
    exact UInt8.toNat_inj.1 hk

theorem pru_line {s g : ByteArray} {T : Tbl} {nd P : Nd} {S : St} {p : Nat} (hP : P = prnN s.size T nd S) (hpf : PF (s ++ starB) P) (hA : At g p (lbB (s ++ starB) P)) (hle : p + (lbB (s ++ starB) P).length ≤ g.size) (hb : P.t ≤ cntF T T.length ∧ P.f ≤ cntF T T.length) :
    lbB (g ++ starB) (prnN g.size (kept T) { P with a := (p : Int) } S) = lbB (s ++ starB) P := by
  have hklen := kept_len T
  have hren : ∀ (j : Int) (s' : St), 0 ≤ j → j ≤ cntF T T.length → (s' = [] → j = cntF T T.length) → ((renF (kept T) j.toNat s' : Nat) : Int) = j := by
    intro j s' h0 h1 h2
    unfold renF
    by_cases e : s' = []
    · rw [if_pos e, cnt_all (kept_ne T) (Nat.le_refl _), hklen]; exact (h2 e).symm
    · rw [if_neg e, cnt_all (kept_ne T) (by omega)]; omega
  have hsz : ((s ++ starB).extract P.a.toNat (P.a + P.l).toNat).size = P.l.toNat := by
    rcases hpf.tx with ⟨_, _, _, _, _, h6, h7⟩ | ⟨n0, _, _, _, _, _, _, h7, h8, _⟩
    · rw [h7, h6]; rfl
    · omega
  have hl0 : 0 ≤ P.l := by
    rcases hpf.tx with ⟨_, _, _, _, _, h6, _⟩ | ⟨n0, _, _, _, _, _, _, h7, h8, _⟩
    · omega
    · omega
  have hin : p + ((s ++ starB).extract P.a.toNat (P.a + P.l).toNat).size ≤ g.size := by
    have := congrArg List.length (lb_split (s ++ starB) P)
    rw [List.length_append] at this
    have e : ((s ++ starB).extract P.a.toNat (P.a + P.l).toNat).data.toList.length = ((s ++ starB).extract P.a.toNat (P.a + P.l).toNat).size := rfl
    omega
  have htx : (g ++ starB).extract p (p + P.l.toNat) = (s ++ starB).extract P.a.toNat (P.a + P.l).toNat := by
    rw [ext_app (by omega), ← hsz]
    rw [lb_split] at hA
    exact at_ext hA hin
  have key : ∀ Q : Nd, Q.a = (p : Int) → Q.l = P.l → Q.t = P.t → Q.f = P.f → lbB (g ++ starB) Q = lbB (s ++ starB) P := by
    intro Q q1 q2 q3 q4
    rw [lb_split, lb_split, q1, q2, q3, q4, Int.toNat_natCast, show ((p : Int) + P.l).toNat = p + P.l.toNat by omega, htx]
  unfold prnN
  by_cases ht : P.op = 121 ∨ P.op = 58
  · rw [if_pos (show ({ P with a := (p : Int) } : Nd).op = 121 ∨ ({ P with a := (p : Int) } : Nd).op = 58 from ht)]
    have hh : ∀ b, hldF ({ P with a := (p : Int) } : Nd) b S = hldF P b S := fun _ => rfl
    have hboth : hldF P true S ≠ [] ∧ hldF P false S ≠ [] := by
      have hc := prn_cases T nd S { P with a := 0 } (by rw [hP]; exact prnN_eqn _ _ _ _ _)
      rcases hc with ⟨_, b1, b2, e1, _, e3, _, e5, _⟩ | ⟨_, _, e1, _⟩ | ⟨_, _, _, e1, _⟩ | ⟨hn, e1, _⟩
      · have h1 : ∀ b, hldF P b S = hldF nd b S := fun b => hld_op (show P.op = nd.op from e1) (show P.y = nd.y from e3) (show P.k = nd.k from e5) b S
        rw [h1, h1]; exact ⟨b1, b2⟩
      · have : P.op = 42 := e1; omega
      · have : P.op = 42 := e1; omega
      · have : P.op = nd.op := e1
        rw [this] at ht
        exact absurd ht hn
    rw [if_pos (show hldF ({ P with a := (p : Int) } : Nd) true S ≠ [] ∧ hldF ({ P with a := (p : Int) } : Nd) false S ≠ [] from hboth)]
    refine key _ rfl rfl ?_ ?_
    · exact hren P.t _ (hpf.t (by omega)).1 hb.1 (fun e => absurd e hboth.1)
    · exact hren P.f _ (hpf.f ht).1 hb.2 (fun e => absurd e hboth.2)
  · rw [if_neg (show ¬ (({ P with a := (p : Int) } : Nd).op = 121 ∨ ({ P with a := (p : Int) } : Nd).op = 58) from ht)]
    by_cases h33 : P.op = 33
    · rw [if_pos (show ({ P with a := (p : Int) } : Nd).op = 33 from h33)]
      exact key _ rfl rfl rfl rfl
    · rw [if_neg (show ¬ ({ P with a := (p : Int) } : Nd).op = 33 from h33)]
      refine key _ rfl rfl ?_ rfl
      refine hren P.t _ (hpf.t h33).1 hb.1 (fun e => ?_)
      have e' : behF P S = [] := e
      have hc := prn_cases T nd S { P with a := 0 } (by rw [hP]; exact prnN_eqn _ _ _ _ _)
      rcases hc with ⟨hn, _, _, e1, _⟩ | ⟨hn, b1, e1, _, _, _, e6⟩ | ⟨hn, b1, b2, e1, _, _, _, e6⟩ | ⟨hn, e1, e2, e3, e4, e5, e6, _⟩
      · have : P.op = nd.op := e1
        rw [← this] at hn
        exact absurd hn ht
      · have h42 : P.op = 42 := e1
        unfold behF at e'
        rw [if_neg h33, if_pos (.inl h42)] at e'
        have e6' : P.t = (renF T nd.f.toNat (hldF nd false S) : Nat) := e6
        have hz : hldF nd false [] = [] := by unfold hldF withS; rw [if_pos (.inl rfl)]
        rw [e6', e', hz]
        unfold renF
        rw [if_pos rfl]
      · have h42 : P.op = 42 := e1
        unfold behF at e'
        rw [if_neg h33, if_pos (.inl h42)] at e'
        rw [e'] at b1
        exact absurd (by unfold hldF withS; rw [if_pos (.inl rfl)]) b1
      · have e6' : P.t = (renF T nd.t.toNat (behF nd S) : Nat) := e6 (by rw [← show P.op = nd.op from e1]; exact h33)
        have hbb : behF P S = behF nd S := beh_op (show P.op = nd.op from e1) (show P.x = nd.x from e2) (show P.y = nd.y from e3) (show P.v = nd.v from e4) (show P.k = nd.k from e5) S
        rw [e6', ← hbb, e']
        unfold renF
        rw [if_pos rfl]

set_option maxHeartbeats 1600000 in
/-- Pruned again it is the same. -/
theorem pruT_again {s : ByteArray} (hs : s.size ≤ 900) (hE : graE s = (0, 0)) : pruT (pruT s) = pruT s := by
  obtain ⟨_, hb⟩ := graE_zero s (by rw [hE])
  have hg := (graF_gd s).2 hb
  obtain ⟨hrd, _⟩ := graF_rd s hb
  have h90 := (graF_inv s).2
  obtain ⟨r1, r2, r3, r4⟩ := pruT_read hs hE
  have hT := lst_prn (gl_of hE) (pruT_prn hs hE)
  have hlen := lst_len (graF s).nodes
  have hpl := prn_len s.size (lstF (graF s).nodes) (graF s).nodes hlen (graF s).nodes.length (Nat.le_refl _)
  have hwr : (pruT s).data.toList = (prnL s.size (lstF (graF s).nodes) (graF s).nodes (graF s).nodes.length).flatMap (lbB (s ++ starB)) := wri_flat _ _
  apply ByteArray.ext
  apply Array.ext'
  rw [hwr]
  show (wriF (pruT s ++ starB) (prnL (pruT s).size (lstF (graF (pruT s)).nodes) (graF (pruT s)).nodes (graF (pruT s)).nodes.length)).data.toList = _
  rw [wri_flat]
  have hlen2 := lst_len (graF (pruT s)).nodes
  have hpl2 := prn_len (pruT s).size (lstF (graF (pruT s)).nodes) (graF (pruT s)).nodes hlen2 (graF (pruT s)).nodes.length (Nat.le_refl _)
  have hall2 : ∀ s' ∈ lstF (graF (pruT s)).nodes, s' ≠ [] := by rw [hT]; exact kept_ne _
  have hcnt : ∀ j, j ≤ (graF (pruT s)).nodes.length → cntF (lstF (graF (pruT s)).nodes) j = j := fun j hj => cnt_all hall2 (by omega)
  have hmain : (prnL (pruT s).size (lstF (graF (pruT s)).nodes) (graF (pruT s)).nodes (graF (pruT s)).nodes.length).map (lbB (pruT s ++ starB)) = (prnL s.size (lstF (graF s).nodes) (graF s).nodes (graF s).nodes.length).map (lbB (s ++ starB)) := by
    apply List.ext_getElem?
    intro k
    rw [List.getElem?_map, List.getElem?_map]
    by_cases hk : k < (graF (pruT s)).nodes.length
    · have hk' : k < cntF (lstF (graF s).nodes) (lstF (graF s).nodes).length := by omega
      obtain ⟨i, hi, hne, hci⟩ := cnt_up (lstF (graF s).nodes) _ k hk' (Nat.le_refl _)
      have hil : i < (graF s).nodes.length := by omega
      have hget := prn_get s.size _ _ hlen _ (Nat.le_refl _) i (graF s).nodes[i] hil (List.getElem?_eq_getElem hil) hne
      rw [hci] at hget
      obtain ⟨p, e1, e2, e3⟩ := r4 k _ hget
      have hne2 : (lstF (graF (pruT s)).nodes).getD k [] ≠ [] := by
        rw [hT, ← hci, kept_getD hne]; exact hne
      have hget2 := prn_get (pruT s).size _ _ hlen2 _ (Nat.le_refl _) k _ hk e1 hne2
      rw [hcnt k (by omega)] at hget2
      rw [hget, hget2, Option.map_some, Option.map_some]
      refine congrArg some ?_
      have hS : (lstF (graF (pruT s)).nodes).getD k [] = (lstF (graF s).nodes).getD i [] := by rw [hT, ← hci, kept_getD hne]
      rw [hS, hT]
      have hmem := List.getElem_mem hil
      exact pru_line rfl (prnN_pf _ (hg _ hmem) (hrd _ hmem) (by omega)) e2 e3 (prnN_ways _ (hg _ hmem).t3 (hg _ hmem).g.f)
    · have h1 : (prnL (pruT s).size (lstF (graF (pruT s)).nodes) (graF (pruT s)).nodes (graF (pruT s)).nodes.length)[k]? = none := by
        rw [List.getElem?_eq_none]
        rw [hpl2, hcnt _ (Nat.le_refl _)]
        omega
      have h2 : (prnL s.size (lstF (graF s).nodes) (graF s).nodes (graF s).nodes.length)[k]? = none := by
        rw [List.getElem?_eq_none]
        rw [hpl, ← hlen, ← r3]
        omega
      rw [h1, h2]
      rfl
  rw [List.flatMap_def, List.flatMap_def, hmain]
end Go.Proofs.YtellieabhaphhabGreatDoor

/-
  Pruned: the states that are left, one behind the other.
-/
namespace Go.Proofs.YtellieabhaphhabGreatDoor
open Go.RowKit

/-- The lines that are no question mark; cur: what of a line has been read. -/
def filL : List UInt8 → List UInt8 → List UInt8
  | [], _ => []
  | c :: l, cur => if c = 59 then (if cur = [63] then [] else cur ++ [59]) ++ filL l [] else filL l (cur ++ [c])
def filB (t : ByteArray) : ByteArray := ⟨(filL t.data.toList []).toArray⟩

theorem fil_end {l cur : List UInt8} : filL (59 :: l) cur = (if cur = [63] then [] else cur ++ [59]) ++ filL l [] := by rw [filL, if_pos rfl]
theorem fil_ne {c : UInt8} {l cur : List UInt8} (h : ¬ c = 59) : filL (c :: l) cur = filL l (cur ++ [c]) := by rw [filL, if_neg h]

theorem fil_skip : ∀ (l rest cur : List UInt8), (∀ c ∈ l, ¬ c = 59) → filL (l ++ rest) cur = filL rest (cur ++ l)
  | [], rest, cur, _ => by simp
  | c :: l, rest, cur, h => by
    rw [List.cons_append, fil_ne (h c (List.mem_cons_self ..)), fil_skip l rest _ (fun x hx => h x (List.mem_cons_of_mem _ hx)), List.append_assoc, List.singleton_append]

theorem tx_q (s : St) : (txS s).data.toList = [63] ↔ s = [] := by
  constructor
  · intro h
    apply Classical.byContradiction
    intro h0
    unfold txS at h
    rw [if_neg h0, stB_flat] at h
    obtain ⟨m, s', rfl⟩ := List.exists_cons_of_ne_nil h0
    have : (46 : UInt8) ∈ ([63] : List UInt8) := by rw [← h]; simp
    exact absurd this (by decide)
  · rintro rfl; rfl

theorem fil_flat : ∀ T : Tbl, filL (flT T) [] = flT (kept T)
  | [] => rfl
  | s :: T => by
    have e : flT (s :: T) = (txS s).data.toList ++ (59 :: flT T) := by simp [flT]
    rw [e, fil_skip _ _ _ (tx_no s), List.nil_append, fil_end, fil_flat T]
    unfold kept
    by_cases h : s = []
    · rw [if_pos ((tx_q s).2 h), List.filter_cons_of_neg (by simp [h])]; rfl
    · rw [if_neg (fun e => h ((tx_q s).1 e)), List.filter_cons_of_pos (by simp [h])]
      simp [flT]

theorem fil_spl (T : Tbl) : filB (splB T) = splB (kept T) := by
  apply ByteArray.ext
  apply Array.ext'
  show (filL (splB T).data.toList []).toArray.toList = _
  rw [spl_flat, spl_flat, fil_flat]

set_option maxHeartbeats 3200000 in
theorem same_c (t u : ByteArray) (w : World) (ht : t.size ≤ 100000) :
    Calls Tryz.prog 12 #[.string t, .string u] w fun e w' => e = .returned (.bool (decide (filB t = u))) ∧ Kp no w w' := by
  have HV : Hid (filB t = ⟨(filL t.data.toList []).toArray⟩) := rfl
  have hlen : t.data.toList.length = t.size := rfl
  generalize filB t = FB at *
  go_enter Tryz.func12, Tryz.ntmps12
  go_wp2
  go_loopg [5, 6] (t.size + 1) (fun k sv iv wr => ∃ (acc : ByteArray) (i : Nat), i ≤ t.size + 1 ∧ k = t.size + 1 - i ∧ iv = .int .i64 i ∧ sv = .string acc ∧ acc.size ≤ i ∧ acc.data.toList ++ filL (t.data.toList.drop i) [] = filL t.data.toList [] ∧ Kp no w wr)
  case atStart => exact ⟨⟨#[]⟩, 0, Nat.zero_le _, rfl, rfl, rfl, Nat.le_refl _, rfl, Kp.refl _ _⟩
  case round =>
    obtain ⟨acc, i, hi, hk, rfl, rfl, hacc, hE, kr⟩ := hrel
    have HK := hide hk
    have HE := hide hE
    have HKR := hide kr
    clear hk hE kr
    by_cases hlt : i < t.size
    · go_wp2
      go_loopg [7] (t.size - i) (fun k jv wx => ∃ j : Nat, i ≤ j ∧ j ≤ t.size ∧ k = t.size - j ∧ jv = .int .i64 j ∧ filL (t.data.toList.drop i) [] = filL (t.data.toList.drop j) ((t.data.toList.take j).drop i) ∧ Kp no w wx)
      case atStart => exact ⟨i, Nat.le_refl _, by omega, rfl, rfl, by have e0 : (t.data.toList.take i).drop i = [] := List.drop_eq_nil_of_le (by rw [List.length_take]; omega); rw [e0], HKR.out⟩
      case round =>
        obtain ⟨j, hij, hj, hk2, rfl, hE2, kx⟩ := hrel
        rename_i wx
        have HK2 := hide hk2
        have HE2 := hide hE2
        have HKX := hide kx
        clear hk2 hE2 kx
        by_cases hjt : j < t.size
        · have hl2 : j < t.data.toList.length := hjt
          have HD := hide (show t.data.toList.drop j = t.data.toList[j] :: t.data.toList.drop (j + 1) from List.drop_eq_getElem_cons hl2)
          have HT := hide (show t.data.toList.take (j + 1) = t.data.toList.take j ++ [t.data.toList[j]] from List.take_succ_eq_append_getElem hl2)
          by_cases hc : t[j] = 59
          · have hc' : ((t[j].toNat : Int) == 59) = true := by rw [hc]; rfl
            have hc'' : ((t[j].toNat : Int) != 59) = false := by rw [hc]; rfl
            have HC := hide (show t.data.toList[j] = 59 from hc)
            rw [HC.out] at HD
            clear hc
            have HX := hide (show (t.extract i j).data.toList = (t.data.toList.take j).drop i from ext_list t i j)
            have hxs : (t.extract i j).size = j - i := by rw [ByteArray.size_extract]; omega
            have e59 : (ByteArray.mk #[59]).size = 1 := rfl
            by_cases hq : t.extract i j = ⟨#[63]⟩
            · have hq' : ((t.extract i j).toList == [63]) = true := by rw [hq, ByteArray.toList_eq]; rfl
              have HR := hide (show acc.data.toList ++ filL (t.data.toList.drop (j + 1)) [] = filL t.data.toList [] by
                rw [← HE.out, HE2.out, HD.out, fil_end, ← HX.out, hq, if_pos rfl, List.nil_append])
              clear hq
              go_wp2
              go_roundg (t.size + 1 - (j + 1))
              case measure => have := HK.out; omega
              case rel => exact ⟨acc, j + 1, by omega, rfl, by go_num, rfl, by omega, HR.out, HKX.out⟩
            · have hq' : ((t.extract i j).toList == [63]) = false := by
                rw [beq_eq_false_iff_ne]
                intro e
                rw [ByteArray.toList_eq] at e
                exact hq (ByteArray.ext (Array.ext' e))
              have HR := hide (show (acc ++ t.extract i j ++ ⟨#[59]⟩).data.toList ++ filL (t.data.toList.drop (j + 1)) [] = filL t.data.toList [] by
                rw [← HE.out, HE2.out, HD.out, fil_end, ← HX.out, if_neg (fun e => hq (ByteArray.ext (Array.ext' e)))]
                simp)
              clear hq
              go_wp2
              go_roundg (t.size + 1 - (j + 1))
              case measure => have := HK.out; omega
              case rel => exact ⟨acc ++ t.extract i j ++ ⟨#[59]⟩, j + 1, by omega, rfl, by go_num, rfl, by rw [ByteArray.size_append, ByteArray.size_append]; omega, HR.out, HKX.out⟩
          · have hc' : ((t[j].toNat : Int) == 59) = false := by
              rw [beq_eq_false_iff_ne]
              intro e
              exact hc (UInt8.toNat_inj.1 (by show t[j].toNat = 59; omega))
            have hc'' : ((t[j].toNat : Int) != 59) = true := by rw [bne, hc']; rfl
            have HC := hide (show ¬ t.data.toList[j] = 59 from hc)
            have HR := hide (show filL (t.data.toList.drop i) [] = filL (t.data.toList.drop (j + 1)) ((t.data.toList.take (j + 1)).drop i) by
              rw [HE2.out, HD.out, fil_ne HC.out, HT.out, List.drop_append_of_le_length (by rw [List.length_take]; omega)])
            clear hc
            go_wp2
            go_roundg (t.size - (j + 1))
            case measure => have := HK2.out; omega
            case rel => exact ⟨j + 1, by omega, by omega, rfl, by go_num, HR.out, HKX.out⟩
        · obtain rfl : j = t.size := by omega
          have HR := hide (show acc.data.toList ++ filL (t.data.toList.drop (t.size + 1)) [] = filL t.data.toList [] by
            have e1 : t.data.toList.drop t.size = [] := List.drop_eq_nil_of_le (by omega)
            have e2 : t.data.toList.drop (t.size + 1) = [] := List.drop_eq_nil_of_le (by omega)
            rw [← HE.out, HE2.out, e1, e2]
            rfl)
          go_wp2
          go_roundg (t.size + 1 - (t.size + 1))
          case measure => have := HK.out; omega
          case rel => exact ⟨acc, t.size + 1, Nat.le_refl _, rfl, by go_num, rfl, by omega, HR.out, HKX.out⟩
    · have HR := hide (show FB = acc by
        rw [HV.out]
        apply ByteArray.ext
        apply Array.ext'
        show (filL t.data.toList []).toArray.toList = _
        rw [← HE.out, List.drop_eq_nil_of_le (by omega)]
        simp [filL])
      go_wp2
      go_ret
      refine ⟨?_, HKR.out⟩
      rw [HR.out, bytes_eqb]
      rfl
end Go.Proofs.YtellieabhaphhabGreatDoor

/-
  Flow: narrow's answer is the answer's.
-/
namespace Go.Proofs.YtellieabhaphhabGreatDoor
open Go.RowKit

set_option maxHeartbeats 1600000 in
theorem nflow_long (s : ByteArray) (w : World) (hm : s.size ≤ maxLen) (hs : 900 < s.size) :
    Calls Tryz.prog 9 #[.string s] w fun e w' => e = em2 1 ∧ Kp no w w' := by
  have HS := hide (nog_long s w hm hs)
  go_enter Tryz.func9, Tryz.ntmps9
  go_wp2_with fail
  refine HS.out.mono ?_
  rintro e w1 ⟨rfl, k1⟩
  go_wp2
  go_ret2
  exact ⟨rfl, k1⟩

set_option maxHeartbeats 1600000 in
theorem nflow_bad (s : ByteArray) (w : World) (hs : s.size ≤ 900) (hb : (graE s).1 ≠ 0) :
    Calls Tryz.prog 9 #[.string s] w fun e w' => e = em2 (graE s).1 ∧ Kp no w w' := by
  have HS := hide (nog_c s w hs)
  have hb' : (((graE s).1 : Int) == 0) = false := by simp; omega
  unfold NogPost at HS
  generalize graE s = ge at *
  obtain ⟨ge1, ge2⟩ := ge
  dsimp only at *
  clear hb
  go_enter Tryz.func9, Tryz.ntmps9
  go_wp2_with fail
  refine HS.out.mono ?_
  rintro e w1 ⟨v, rfl, k1, _⟩
  go_wp2
  go_ret2
  exact ⟨rfl, k1⟩

set_option maxHeartbeats 1600000 in
theorem nflow_good (s : ByteArray) (w : World) (hs : s.size ≤ 900) (hb : graE s = (0, 0)) :
    Calls Tryz.prog 9 #[.string s] w fun e w' => e = .returned (.tuple #[.string (splB (lstF (graF s).nodes)), .int .i64 0]) ∧ Kp no w w' := by
  have HS := hide (nog_c s w hs)
  have hlen := (graF_inv s).2
  unfold NogPost at HS
  rw [hb] at HS
  clear hb
  generalize graF s = st at *
  go_enter Tryz.func9, Tryz.ntmps9
  go_wp2_with fail
  refine HS.out.mono ?_
  rintro e w2 ⟨v, rfl, k2, hpost⟩
  obtain ⟨hR, hO, hgd⟩ := hpost trivial
  have HL := hide (leastTable_c s v st.nodes w2 hR hlen hgd)
  obtain ⟨a, cap, rfl⟩ := hR.shape
  rw [List.length_map] at HL ⊢
  clear hO hgd hpost HS hR
  go_wp2_with fail
  refine HL.out.mono ?_
  rintro e w3 ⟨tb, rfl, hB, k3⟩
  have HT := hide (fun W hW => tableText_c tb (lstF st.nodes) W hW (lst_ok st.nodes) (by rw [lst_len]; exact hlen))
  rw [lst_len] at HT
  go_wp2_with fail
  refine (HT.out _ (by exact hB)).mono ?_
  rintro e w4 ⟨rfl, k4⟩
  go_wp2
  go_ret2
  exact ⟨rfl, (k2.trans k3 (fun _ _ e => e)).trans k4 (fun _ _ e => e)⟩

end Go.Proofs.YtellieabhaphhabGreatDoor

/-
  Safe: what the three calls answer.
-/
namespace Go.Proofs.YtellieabhaphhabGreatDoor
open Go.RowKit

def FloNN (s t : ByteArray) (c : Int) : Prop := ∀ W, Calls Tryz.prog 9 #[.string s] W fun e w' => e = .returned (.tuple #[.string t, .int .i64 c]) ∧ Kp no W w'

theorem mc0_vw (fuel : Nat) : ∀ u ∈ (mc0 fuel).l, VW u := by
  intro u hu
  have : u = zv := by
    simp only [mc0, lj, Nat.sub_self, List.replicate_zero, List.append_nil] at hu
    exact List.eq_of_mem_replicate hu
  rw [this]; exact VW.plain (by decide)

theorem st_in (fuel : Nat) : InS (mc0 fuel).l [8, 8, 8, 8, 8, 8] := by
  refine ⟨rfl, rfl, fun i u hu => ?_⟩
  have h1 : u ∈ (mc0 fuel).l := List.mem_of_getElem? hu
  have hk : u.k = 122 := by
    simp only [mc0, lj, Nat.sub_self, List.replicate_zero, List.append_nil] at h1
    rw [List.eq_of_mem_replicate h1]; rfl
  have hi : i < 6 := (List.getElem?_eq_some_iff.1 hu).1
  rw [hk]
  rcases (show i = 0 ∨ i = 1 ∨ i = 2 ∨ i = 3 ∨ i = 4 ∨ i = 5 by omega) with rfl | rfl | rfl | rfl | rfl | rfl <;> (unfold inB; decide)

end Go.Proofs.YtellieabhaphhabGreatDoor

/-
  Pruned: one graph and one run.
-/
namespace Go.Proofs.YtellieabhaphhabGreatDoor
open Go.RowKit

set_option maxHeartbeats 800000 in
theorem pwlk_c (s inp : ByteArray) (fuel : Int) (t u : ByteArray) (c : Int) (w : World) (h : WlkIs s inp fuel t u c) (ht : Tab w) :
    Calls Tryz.prog 11 #[.string s, .string inp, .int .i64 fuel] w fun e w' => e = .returned (.agg #[.string t, .string u, .int .i64 c]) ∧ Kp no w w' := by
  have HN := hide h
  have HNU := hide (fun W => lnum_c c W)
  clear h
  go_enter Tryz.func11, Tryz.ntmps11
  go_wp2_with fail
  refine (HN.out _ (ht.kp (by (repeat' (first | with_reducible exact Kp.refl _ _ | with_reducible refine Kp.alloc ?_ _ | with_reducible refine Kp.drewN ?_ _ | with_reducible refine Kp.drew ?_ | with_reducible refine Kp.setCell ?_ _ ?_ | (intro hh; first | rfl | exact .inl rfl | exact .inr rfl | (exfalso; (try dsimp only at hh); omega))))) no_elim)).mono ?_
  rintro e w1 ⟨rfl, k1⟩
  have hR : Blk w1 w.heap.size [.string ⟨#[]⟩, .string ⟨#[]⟩, .int .i64 0] 34 := k1.blk (by (repeat' (first | ((with_reducible show (_ : List Value) = _); rfl) | ((with_reducible refine Blk.newAt _ _ _ ?_); first | with_reducible rfl | (simp; done)) | with_reducible refine Blk.alloc ?_ _ | with_reducible refine Blk.drewN ?_ _ | with_reducible refine Blk.drew ?_ | ((with_reducible refine Blk.other ?_ _ ?_); rotate_left; ((try dsimp only); omega)) | with_reducible refine Blk.setB (cs0 := ?_) ?_ ?_))) no_elim
  obtain ⟨z0, z1, z2, zf⟩ := hR.c3
  have hz := hR.lt
  go_wp2_with (go_at_call 10; refine (HNU.out _).mono ?_; rintro e w' ⟨rfl, rfl⟩)
  refine body_agg (Tb := 34) (b := w.heap.size) (cs := [.string t, .string u, .int .i64 c]) (.inr rfl) Tryz.results11 rfl rfl (by (repeat' (first | ((with_reducible show (_ : List Value) = _); rfl) | with_reducible exact hR | ((with_reducible refine Blk.newAt _ _ _ ?_); first | with_reducible rfl | (simp; done)) | with_reducible refine Blk.alloc ?_ _ | with_reducible refine Blk.drewN ?_ _ | with_reducible refine Blk.drew ?_ | ((with_reducible refine Blk.other ?_ _ ?_); rotate_left; ((try dsimp only); omega)) | with_reducible refine Blk.setB (cs0 := ?_) ?_ ?_))) Tryz.underlying34 rfl (by kernel_rfl) ?_
  exact ⟨rfl, by (repeat' (first | with_reducible exact Kp.refl _ _ | with_reducible refine Kp.alloc ?_ _ | with_reducible refine Kp.drewN ?_ _ | with_reducible refine Kp.drew ?_ | with_reducible refine Kp.setCell ?_ _ ?_ | with_reducible refine Kp.trans ?_ k1 (fun _ _ e => e) | (intro hh; first | rfl | exact .inl rfl | exact .inr rfl | (exfalso; (try dsimp only at hh); omega))))⟩

def PruN (s t : ByteArray) (c : Int) : Prop := ∀ W, Calls Tryz.prog 8 #[.string s] W fun e w' => e = .returned (.tuple #[.string t, .int .i64 c]) ∧ Kp no W w'

theorem pru_good {s : ByteArray} (hs : s.size ≤ 900) (hE : graE s = (0, 0)) : PruN s (pruT s) 0 := by
  intro W
  obtain ⟨_, hb⟩ := graE_zero s (by rw [hE])
  have := nprune_good s W hs hE
  rw [prune_text (lst_ok _) ((graF_gd s).2 hb)] at this
  exact this

/-- Both walks. -/
theorem wlk_pair {s inp : ByteArray} {fuel : Int} (hs : s.size ≤ 900) (hE : graE s = (0, 0)) (hi : inp.size ≤ maxLen) :
    ∃ tx ux c ty, WlkIs s inp fuel tx ux c ∧ WlkIs (pruT s) inp fuel ty ux c ∧ tx.size = ty.size ∧ tx.size ≤ 100000 := by
  obtain ⟨_, hb⟩ := graE_zero s (by rw [hE])
  obtain ⟨r1, r2, _⟩ := pruT_read hs hE
  by_cases hg : inp.size ≤ 40 ∧ 0 ≤ fuel ∧ fuel ≤ 300
  · obtain ⟨h1, h2, h3⟩ := hg
    obtain ⟨f, rfl⟩ := Int.eq_ofNat_of_zero_le h2
    have gd := (graF_gd s).2 hb
    obtain ⟨F, r, hr⟩ := graF_total s inp f gd
    have h0 : (0 : Int) < (graF s).nodes.length → InS (mc0 f).l ((lstF (graF s).nodes).getD (0 : Int).toNat []) := fun h => by
      have hne : (graF s).nodes ≠ [] := fun e => by rw [e] at h; exact absurd h (by decide)
      exact rch_in (lst_start _ hne) (st_in f) (Int.le_refl _) (by rw [lst_len]; exact h)
    obtain ⟨t', w1, w2⟩ := wk_prn (gl_of hE) (pruT_prn hs hE) F (mc0 f) (mc0 f).tr 0 r hr rfl (mc0_vw f) rfl (Int.le_refl _) (Int.natCast_nonneg _) h0 rfl
    have hc0 : ((cntF (lstF (graF s).nodes) (0 : Int).toNat : Nat) : Int) = 0 := by simp [cntF]
    rw [hc0] at w1
    have w1' : wkF F (graF (pruT s)).nodes inp (mc0 f) 0 = some (wT r t') := w1
    have hbd := wk_trsz F (mc0 f) 0 r hr rfl
    have hbd' : r.tr.size ≤ 0 + 9 * f := hbd
    exact ⟨r.tr, r.out, endE r.e, t', fun W hW => nwalk_good s inp f W h1 (by omega) hs (by rw [hE]) hW F r hr, fun W hW => nwalk_good (pruT s) inp f W h1 (by omega) r1 (by rw [r2]) hW F (wT r t') w1', w2.symm, by omega⟩
  · exact ⟨_, _, _, _, fun W _ => nwalk_long s inp fuel W hi hg, fun W _ => nwalk_long (pruT s) inp fuel W hi hg, rfl, Nat.zero_le _⟩

theorem pru_empty {s : ByteArray} (hs : s.size ≤ 900) (hE : graE s = (0, 0)) : pruT s = ⟨#[]⟩ ↔ s = ⟨#[]⟩ := by
  obtain ⟨_, hb⟩ := graE_zero s (by rw [hE])
  obtain ⟨hrd, hsz⟩ := graF_rd s hb
  obtain ⟨r1, r2, r3, _⟩ := pruT_read hs hE
  obtain ⟨_, hb2⟩ := graE_zero (pruT s) (by rw [r2])
  obtain ⟨_, hsz2⟩ := graF_rd (pruT s) hb2
  have hz : ∀ (l : List Nd), szL l = 0 ↔ l = [] := fun l => by
    cases l with
    | nil => exact ⟨fun _ => rfl, fun _ => rfl⟩
    | cons n l =>
      refine ⟨fun h => ?_, fun h => by cases h⟩
      have : szL (n :: l) = lsz n + szL l := by simp [szL]
      have : 0 < lsz n := by unfold lsz; omega
      omega
  have he : ∀ b : ByteArray, b = ⟨#[]⟩ ↔ b.size = 0 := fun b => ⟨fun h => by rw [h]; rfl, fun h => ByteArray.ext (Array.eq_empty_of_size_eq_zero h)⟩
  rw [he, he, ← hsz, ← hsz2, hz, hz]
  constructor
  · intro h
    apply Classical.byContradiction
    intro hne
    have hs := lst_start _ hne
    have hp := List.length_pos_iff.2 hne
    rcases hs with q | q | q | q
    · exact absurd q (by decide)
    · rw [lst_len] at q; omega
    · cases q
    · have h2 : (lstF (graF s).nodes).getD 0 [] ≠ [] := q.ne (by decide)
      have := cnt_lt h2
      rw [← r3, h] at this
      exact absurd this (Nat.not_lt_zero _)
  · intro h
    apply List.eq_nil_of_length_eq_zero
    rw [r3, h]
    rfl

set_option maxRecDepth 100000 in
set_option maxHeartbeats 6400000 in
theorem pruned_B (ok ob oc : Int) (os ot ou : ByteArray) (c : Int) (w : World) (hP : PruN os ⟨#[]⟩ c) (hF : FloNN os ⟨#[]⟩ c) (h0 : c ≠ 0) :
    Calls Tryz.prog 5 #[.agg #[.int .i64 ok, .int .i64 ob, .int .i64 oc, .string os, .string ot, .string ou]] w fun e w' => e = .returned (.bool true) ∧ Kp no w w' := by
  have HP := hide hP
  have HF := hide hF
  have HNU := hide (fun W => lnum_c c W)
  have e0 : ((c : Int) != 0) = true := by simp [h0]
  have e1 : ((c : Int) == 0) = false := by simp [h0]
  clear hP hF h0
  go_enter Tryz.func5, Tryz.ntmps5
  repeat (first | go_values | go_skip | go_guarded | go_step | go_upon)
  refine (HP.out _).mono ?_
  rintro e v1 ⟨rfl, k1⟩
  have hO1 : Blk v1 w.heap.size [.int .i64 ok, .int .i64 ob, .int .i64 oc, .string os, .string ot, .string ou] 25 := k1.blk (by (repeat' (first | ((with_reducible show (_ : List Value) = _); rfl) | ((with_reducible refine Blk.newAt _ _ _ ?_); first | with_reducible rfl | (simp; done)) | with_reducible refine Blk.alloc ?_ _ | with_reducible refine Blk.drewN ?_ _ | with_reducible refine Blk.drew ?_ | ((with_reducible refine Blk.other ?_ _ ?_); rotate_left; ((try dsimp only); omega)) | with_reducible refine Blk.setB (cs0 := ?_) ?_ ?_))) no_elim
  have o3 := hO1.cell 3
  simp only [List.getElem?_cons_zero, List.getElem?_cons_succ] at o3
  have of := hO1.frozen; have hol := hO1.lt
  dsimp only
  go_at_K
  repeat (first | go_values | go_skip | go_guarded | go_step | go_upon)
  refine (HF.out _).mono ?_
  rintro e v2 ⟨rfl, k2⟩
  have KK := hide (show Kp no w v2 by (repeat' (first | with_reducible exact Kp.refl _ _ | with_reducible refine Kp.alloc ?_ _ | with_reducible refine Kp.drewN ?_ _ | with_reducible refine Kp.drew ?_ | with_reducible refine Kp.setCell ?_ _ ?_ | with_reducible refine Kp.trans ?_ k1 (fun _ _ e => e) | with_reducible refine Kp.trans ?_ k2 (fun _ _ e => e) | (intro hh; first | rfl | exact .inl rfl | exact .inr rfl | (exfalso; (try dsimp only at hh); omega)))))
  clear k1 k2 o3 of hol
  dsimp only
  go_at_K
  go_wp2_with (go_at_call 10; refine (HNU.out _).mono ?_; rintro e w' ⟨rfl, hw⟩; obtain rfl := hw.symm)
  go_ret
  exact ⟨rfl, KK.out⟩

set_option maxRecDepth 100000 in
set_option maxHeartbeats 12800000 in
theorem pruned_G (ok ob oc : Int) (os ot ou g t u tx ux ty : ByteArray) (cx : Int) (w : World) (ht : Tab w) (hP : PruN os g 0) (hF : FloNN os t 0) (hX : WlkIs os ot ob tx ux cx) (hY : WlkIs g ot ob ty ux cx) (hsz : tx.size = ty.size) (_hsm : tx.size ≤ 100000)
    (hFg : FloNN g u 0) (hPg : PruN g g 0) (hem : g = ⟨#[]⟩ ↔ os = ⟨#[]⟩) (hsame : filB t = u) (htz : t.size ≤ 100000) :
    Calls Tryz.prog 5 #[.agg #[.int .i64 ok, .int .i64 ob, .int .i64 oc, .string os, .string ot, .string ou]] w fun e w' => e = .returned (.bool true) ∧ Kp no w w' := by
  have HP := hide hP
  have HF := hide hF
  have HX := hide (fun W (hW : Tab W) => pwlk_c os ot ob tx ux cx W hX hW)
  have HY := hide (fun W (hW : Tab W) => pwlk_c g ot ob ty ux cx W hY hW)
  have HFG := hide hFg
  have HPG := hide hPg
  have HS := hide (fun W => same_c t u W htz)
  rw [decide_eq_true hsame] at HS
  have HNU := hide (fun W => lnum_c 0 W)
  have hgE : (g.toList.isEmpty = true ∧ os.toList.isEmpty = true) ∨ (g.toList.isEmpty = false ∧ os.toList.isEmpty = false) := by
    have hb : ∀ b : ByteArray, b.toList.isEmpty = decide (b = ⟨#[]⟩) := fun b => by
      rw [ByteArray.toList_eq, Bool.eq_iff_iff, decide_eq_true_iff, List.isEmpty_iff]
      exact ⟨fun h => ByteArray.ext (Array.ext' h), fun h => by rw [h]⟩
    rw [hb, hb]
    by_cases h : os = ⟨#[]⟩
    · exact .inl ⟨decide_eq_true (hem.2 h), decide_eq_true h⟩
    · exact .inr ⟨decide_eq_false (fun e => h (hem.1 e)), decide_eq_false h⟩
  clear hP hF hX hY hFg hPg hem hsame
  have hszI : (tx.size : Int) = ty.size := by omega
  rcases hgE with ⟨g1, g2⟩ | ⟨g1, g2⟩
  all_goals
    go_enter Tryz.func5, Tryz.ntmps5
    repeat (first | go_values | go_skip | go_guarded | go_step | go_upon)
    refine (HP.out _).mono ?_
    rintro e v1 ⟨rfl, k1⟩
    have hT1 : Tab v1 := (ht.kp (show Kp no w _ by (repeat' (first | with_reducible exact Kp.refl _ _ | with_reducible refine Kp.alloc ?_ _ | with_reducible refine Kp.drewN ?_ _ | with_reducible refine Kp.drew ?_ | with_reducible refine Kp.setCell ?_ _ ?_ | (intro hh; first | rfl | exact .inl rfl | exact .inr rfl | (exfalso; (try dsimp only at hh); omega))))) no_elim).kp k1 no_elim
    have hO1 : Blk v1 w.heap.size [.int .i64 ok, .int .i64 ob, .int .i64 oc, .string os, .string ot, .string ou] 25 := k1.blk (by (repeat' (first | ((with_reducible show (_ : List Value) = _); rfl) | ((with_reducible refine Blk.newAt _ _ _ ?_); first | with_reducible rfl | (simp; done)) | with_reducible refine Blk.alloc ?_ _ | with_reducible refine Blk.drewN ?_ _ | with_reducible refine Blk.drew ?_ | ((with_reducible refine Blk.other ?_ _ ?_); rotate_left; ((try dsimp only); omega)) | with_reducible refine Blk.setB (cs0 := ?_) ?_ ?_))) no_elim
    have o3 := hO1.cell 3
    simp only [List.getElem?_cons_zero, List.getElem?_cons_succ] at o3
    have of := hO1.frozen; have hol := hO1.lt
    have HK1 := hide (show Kp no w v1 by (repeat' (first | with_reducible exact Kp.refl _ _ | with_reducible refine Kp.alloc ?_ _ | with_reducible refine Kp.drewN ?_ _ | with_reducible refine Kp.drew ?_ | with_reducible refine Kp.setCell ?_ _ ?_ | with_reducible refine Kp.trans ?_ k1 (fun _ _ e => e) | (intro hh; first | rfl | exact .inl rfl | exact .inr rfl | (exfalso; (try dsimp only at hh); omega)))))
    clear k1
    dsimp only
    go_at_K
    repeat (first | go_values | go_skip | go_guarded | go_step | go_upon)
    refine (HF.out _).mono ?_
    rintro e v2 ⟨rfl, k2⟩
    have hT2 : Tab v2 := (hT1.kp (show Kp no v1 _ by (repeat' (first | with_reducible exact Kp.refl _ _ | with_reducible refine Kp.alloc ?_ _ | with_reducible refine Kp.drewN ?_ _ | with_reducible refine Kp.drew ?_ | with_reducible refine Kp.setCell ?_ _ ?_ | (intro hh; first | rfl | exact .inl rfl | exact .inr rfl | (exfalso; (try dsimp only at hh); omega))))) no_elim).kp k2 no_elim
    have hO2 : Blk v2 w.heap.size [.int .i64 ok, .int .i64 ob, .int .i64 oc, .string os, .string ot, .string ou] 25 := k2.blk (by (repeat' (first | ((with_reducible show (_ : List Value) = _); rfl) | with_reducible exact hO1 | ((with_reducible refine Blk.newAt _ _ _ ?_); first | with_reducible rfl | (simp; done)) | with_reducible refine Blk.alloc ?_ _ | with_reducible refine Blk.drewN ?_ _ | with_reducible refine Blk.drew ?_ | ((with_reducible refine Blk.other ?_ _ ?_); rotate_left; ((try dsimp only); omega)) | with_reducible refine Blk.setB (cs0 := ?_) ?_ ?_))) no_elim
    clear o3 of hol
    have o1 := hO2.cell 1; have o3 := hO2.cell 3; have o4 := hO2.cell 4
    simp only [List.getElem?_cons_zero, List.getElem?_cons_succ] at o1 o3 o4
    have of := hO2.frozen; have hol := hO2.lt
    have HK2 := hide (show Kp no w v2 by have kk := HK1.out; (repeat' (first | with_reducible exact Kp.refl _ _ | with_reducible refine Kp.alloc ?_ _ | with_reducible refine Kp.drewN ?_ _ | with_reducible refine Kp.drew ?_ | with_reducible refine Kp.setCell ?_ _ ?_ | with_reducible refine Kp.trans ?_ kk (fun _ _ e => e) | with_reducible refine Kp.trans ?_ k2 (fun _ _ e => e) | (intro hh; first | rfl | exact .inl rfl | exact .inr rfl | (exfalso; (try dsimp only at hh); omega)))))
    clear k2
    dsimp only
    go_at_K
    go_wp2_with (go_at_call 10; refine (HNU.out _).mono ?_; rintro e w' ⟨rfl, hw⟩; obtain rfl := hw.symm)
    refine (HX.out _ (hT2.kp (by (repeat' (first | with_reducible exact Kp.refl _ _ | with_reducible refine Kp.alloc ?_ _ | with_reducible refine Kp.drewN ?_ _ | with_reducible refine Kp.drew ?_ | with_reducible refine Kp.setCell ?_ _ ?_ | (intro hh; first | rfl | exact .inl rfl | exact .inr rfl | (exfalso; (try dsimp only at hh); omega))))) no_elim)).mono ?_
    rintro e v3 ⟨rfl, k3⟩
    have hT3 : Tab v3 := (hT2.kp (show Kp no v2 _ by (repeat' (first | with_reducible exact Kp.refl _ _ | with_reducible refine Kp.alloc ?_ _ | with_reducible refine Kp.drewN ?_ _ | with_reducible refine Kp.drew ?_ | with_reducible refine Kp.setCell ?_ _ ?_ | (intro hh; first | rfl | exact .inl rfl | exact .inr rfl | (exfalso; (try dsimp only at hh); omega))))) no_elim).kp k3 no_elim
    have hO3 : Blk v3 w.heap.size [.int .i64 ok, .int .i64 ob, .int .i64 oc, .string os, .string ot, .string ou] 25 := k3.blk (by (repeat' (first | ((with_reducible show (_ : List Value) = _); rfl) | with_reducible exact hO2 | ((with_reducible refine Blk.newAt _ _ _ ?_); first | with_reducible rfl | (simp; done)) | with_reducible refine Blk.alloc ?_ _ | with_reducible refine Blk.drewN ?_ _ | with_reducible refine Blk.drew ?_ | ((with_reducible refine Blk.other ?_ _ ?_); rotate_left; ((try dsimp only); omega)) | with_reducible refine Blk.setB (cs0 := ?_) ?_ ?_))) no_elim
    clear o1 o3 o4 of hol
    have o1 := hO3.cell 1; have o3 := hO3.cell 3; have o4 := hO3.cell 4
    simp only [List.getElem?_cons_zero, List.getElem?_cons_succ] at o1 o3 o4
    have of := hO3.frozen; have hol := hO3.lt
    have HK3 := hide (show Kp no w v3 by have kk := HK2.out; (repeat' (first | with_reducible exact Kp.refl _ _ | with_reducible refine Kp.alloc ?_ _ | with_reducible refine Kp.drewN ?_ _ | with_reducible refine Kp.drew ?_ | with_reducible refine Kp.setCell ?_ _ ?_ | with_reducible refine Kp.trans ?_ kk (fun _ _ e => e) | with_reducible refine Kp.trans ?_ k3 (fun _ _ e => e) | (intro hh; first | rfl | exact .inl rfl | exact .inr rfl | (exfalso; (try dsimp only at hh); omega)))))
    clear k3
    go_wp2_with fail
    refine (HY.out _ (hT3.kp (by (repeat' (first | with_reducible exact Kp.refl _ _ | with_reducible refine Kp.alloc ?_ _ | with_reducible refine Kp.drewN ?_ _ | with_reducible refine Kp.drew ?_ | with_reducible refine Kp.setCell ?_ _ ?_ | (intro hh; first | rfl | exact .inl rfl | exact .inr rfl | (exfalso; (try dsimp only at hh); omega))))) no_elim)).mono ?_
    rintro e v4 ⟨rfl, k4⟩
    have hO4 : Blk v4 w.heap.size [.int .i64 ok, .int .i64 ob, .int .i64 oc, .string os, .string ot, .string ou] 25 := k4.blk (by (repeat' (first | ((with_reducible show (_ : List Value) = _); rfl) | with_reducible exact hO3 | ((with_reducible refine Blk.newAt _ _ _ ?_); first | with_reducible rfl | (simp; done)) | with_reducible refine Blk.alloc ?_ _ | with_reducible refine Blk.drewN ?_ _ | with_reducible refine Blk.drew ?_ | ((with_reducible refine Blk.other ?_ _ ?_); rotate_left; ((try dsimp only); omega)) | with_reducible refine Blk.setB (cs0 := ?_) ?_ ?_))) no_elim
    have hX4 : Blk v4 v3.heap.size [.string tx, .string ux, .int .i64 cx] 34 := k4.blk (by (repeat' (first | ((with_reducible show (_ : List Value) = _); rfl) | ((with_reducible refine Blk.newAt _ _ _ ?_); first | with_reducible rfl | (simp; done)) | with_reducible refine Blk.alloc ?_ _ | with_reducible refine Blk.drewN ?_ _ | with_reducible refine Blk.drew ?_ | ((with_reducible refine Blk.other ?_ _ ?_); rotate_left; ((try dsimp only); omega)) | with_reducible refine Blk.setB (cs0 := ?_) ?_ ?_))) no_elim
    have HK4 := hide (show Kp no w v4 by have kk := HK3.out; (repeat' (first | with_reducible exact Kp.refl _ _ | with_reducible refine Kp.alloc ?_ _ | with_reducible refine Kp.drewN ?_ _ | with_reducible refine Kp.drew ?_ | with_reducible refine Kp.setCell ?_ _ ?_ | with_reducible refine Kp.trans ?_ kk (fun _ _ e => e) | with_reducible refine Kp.trans ?_ k4 (fun _ _ e => e) | (intro hh; first | rfl | exact .inl rfl | exact .inr rfl | (exfalso; (try dsimp only at hh); omega)))))
    clear o1 o3 o4 of hol k4
    have o3 := hO4.cell 3
    simp only [List.getElem?_cons_zero, List.getElem?_cons_succ] at o3
    have of := hO4.frozen; have hol := hO4.lt
    obtain ⟨x0, x1, x2, xf⟩ := hX4.c3; have hxl := hX4.lt
    go_wp2_with fail
    refine (HFG.out _).mono ?_
    rintro e v5 ⟨rfl, k5⟩
    have hO5 : Blk v5 w.heap.size [.int .i64 ok, .int .i64 ob, .int .i64 oc, .string os, .string ot, .string ou] 25 := k5.blk (by (repeat' (first | ((with_reducible show (_ : List Value) = _); rfl) | with_reducible exact hO4 | ((with_reducible refine Blk.newAt _ _ _ ?_); first | with_reducible rfl | (simp; done)) | with_reducible refine Blk.alloc ?_ _ | with_reducible refine Blk.drewN ?_ _ | with_reducible refine Blk.drew ?_ | ((with_reducible refine Blk.other ?_ _ ?_); rotate_left; ((try dsimp only); omega)) | with_reducible refine Blk.setB (cs0 := ?_) ?_ ?_))) no_elim
    have HK5 := hide (show Kp no w v5 by have kk := HK4.out; (repeat' (first | with_reducible exact Kp.refl _ _ | with_reducible refine Kp.alloc ?_ _ | with_reducible refine Kp.drewN ?_ _ | with_reducible refine Kp.drew ?_ | with_reducible refine Kp.setCell ?_ _ ?_ | with_reducible refine Kp.trans ?_ kk (fun _ _ e => e) | with_reducible refine Kp.trans ?_ k5 (fun _ _ e => e) | (intro hh; first | rfl | exact .inl rfl | exact .inr rfl | (exfalso; (try dsimp only at hh); omega)))))
    clear o3 of hol k5 x0 x1 x2 xf hxl
    have o3 := hO5.cell 3
    simp only [List.getElem?_cons_zero, List.getElem?_cons_succ] at o3
    have of := hO5.frozen; have hol := hO5.lt
    go_wp2_with fail
    refine (HPG.out _).mono ?_
    rintro e v6 ⟨rfl, k6⟩
    have hO6 : Blk v6 w.heap.size [.int .i64 ok, .int .i64 ob, .int .i64 oc, .string os, .string ot, .string ou] 25 := k6.blk (by (repeat' (first | ((with_reducible show (_ : List Value) = _); rfl) | with_reducible exact hO5 | ((with_reducible refine Blk.newAt _ _ _ ?_); first | with_reducible rfl | (simp; done)) | with_reducible refine Blk.alloc ?_ _ | with_reducible refine Blk.drewN ?_ _ | with_reducible refine Blk.drew ?_ | ((with_reducible refine Blk.other ?_ _ ?_); rotate_left; ((try dsimp only); omega)) | with_reducible refine Blk.setB (cs0 := ?_) ?_ ?_))) no_elim
    have HK6 := hide (show Kp no w v6 by have kk := HK5.out; (repeat' (first | with_reducible exact Kp.refl _ _ | with_reducible refine Kp.alloc ?_ _ | with_reducible refine Kp.drewN ?_ _ | with_reducible refine Kp.drew ?_ | with_reducible refine Kp.setCell ?_ _ ?_ | with_reducible refine Kp.trans ?_ kk (fun _ _ e => e) | with_reducible refine Kp.trans ?_ k6 (fun _ _ e => e) | (intro hh; first | rfl | exact .inl rfl | exact .inr rfl | (exfalso; (try dsimp only at hh); omega)))))
    clear o3 of hol k6
    have o3 := hO6.cell 3
    simp only [List.getElem?_cons_zero, List.getElem?_cons_succ] at o3
    have of := hO6.frozen; have hol := hO6.lt
    go_wp2_with (go_at_call 10; refine (HNU.out _).mono ?_; rintro e w' ⟨rfl, hw⟩; obtain rfl := hw.symm)
    refine (HS.out _).mono ?_
    rintro e v7 ⟨rfl, k7⟩
    go_wp2
    go_ret
    exact ⟨rfl, HK6.out.trans k7 (fun _ _ e => e)⟩
end Go.Proofs.YtellieabhaphhabGreatDoor

/-
  The example of the laws: what the calls answer at the fixed texts.
-/
namespace Go.Proofs.YtellieabhaphhabGreatDoor
open Go.RowKit

def aS : ByteArray := ⟨#[97, 61, 63, 59, 40, 97, 58, 110, 123, 98, 61, 43, 97, 97, 59, 94, 98, 59, 125, 123, 94, 97, 59, 125, 41]⟩
def aG : ByteArray := ⟨#[91, 38, 97, 33, 98, 123, 62, 59, 125, 93]⟩
def aP : ByteArray := ⟨#[97, 61, 49, 44, 48, 49, 59, 97, 58, 110, 44, 48, 50, 44, 48, 51, 59, 94, 97, 44, 48, 52, 59, 33, 59]⟩

def an0 : Nd := { op := 63, x := 0, y := 0, v := 0, k := 0, t := 1, f := -1, a := 0, l := 3 }
def an1 : Nd := { op := 58, x := 0, y := 0, v := 0, k := 110, t := 2, f := 4, a := 5, l := 3 }
def an2 : Nd := { op := 43, x := 1, y := 0, v := 0, k := 0, t := 3, f := -1, a := 9, l := 5 }
def an3 : Nd := { op := 94, x := 0, y := 1, v := 0, k := 0, t := 5, f := -1, a := 15, l := 2 }
def an4 : Nd := { op := 94, x := 0, y := 0, v := 0, k := 0, t := 5, f := -1, a := 20, l := 2 }

theorem ali_nodes : nodM (srM aS) = [encN an0 ⟨#[97, 61, 63]⟩ 1 1, encN an1 ⟨#[97, 58, 110]⟩ 2 4, encN an2 ⟨#[98, 61, 43, 97, 97]⟩ 3 3, encN an3 ⟨#[94, 98]⟩ 5 5, encN an4 ⟨#[94, 97]⟩ 5 5] := by kernel_rfl
theorem ali_ok : srE aS = (0, 0) := by kernel_rfl
theorem ali_gok : srE aG = (0, 0) := by kernel_rfl
theorem ali_graph : graT (nodM (srM aG)) = ⟨#[97, 44, 48, 49, 44, 48, 50, 59, 98, 44, 48, 50, 44, 48, 50, 59]⟩ := by kernel_rfl
theorem ali_wk : (wkF 20 [an0, an1, an2, an3, an4] ⟨#[55]⟩ (mc0 9) 0).map (fun m => (m.out, m.e)) = some (⟨#[49, 52, 32]⟩, 8) := by kernel_rfl
theorem ali_pok : graE aP = (0, 0) := by kernel_rfl

def aT : Tbl := (itF (graF aP).nodes 6 (tR (graF aP).nodes.length)).take (graF aP).nodes.length

theorem ali_lst : lstF (graF aP).nodes = aT := by
  unfold lstF aT
  rw [it_rest _ _ 6 (by kernel_rfl) 4000 (by decide)]
theorem ali_prune : graT (kpL aP aT (graF aP).nodes (graF aP).nodes.length) = ⟨#[97, 61, 49, 44, 48, 49, 59, 42, 44, 48, 50, 59, 94, 97, 44, 48, 51, 59]⟩ := by kernel_rfl
theorem ali_flow : (splB aT).size = 41 := by kernel_rfl
theorem ali_acc : (accF (graF aP).nodes).1 = 0 := by
  unfold accF
  rw [ali_lst]
  kernel_rfl

theorem ali_neq : NEq (nodM (srM aS)) [an0, an1, an2, an3, an4] := by
  rw [ali_nodes]
  refine ⟨rfl, fun i nd h => ?_⟩
  match i with
  | 0 =>
    obtain rfl : an0 = nd := by simpa using h
    exact ⟨⟨by decide, by decide, by decide, by unfold opOk; decide, by decide, fun e => absurd e (by decide), by decide⟩, _, _, _, rfl, by decide, by decide⟩
  | 1 =>
    obtain rfl : an1 = nd := by simpa using h
    exact ⟨⟨by decide, by decide, by decide, by unfold opOk; decide, by decide, fun _ => by unfold KOk; decide, by decide⟩, _, _, _, rfl, by decide, by decide⟩
  | 2 =>
    obtain rfl : an2 = nd := by simpa using h
    exact ⟨⟨by decide, by decide, by decide, by unfold opOk; decide, by decide, fun e => absurd e (by decide), by decide⟩, _, _, _, rfl, by decide, by decide⟩
  | 3 =>
    obtain rfl : an3 = nd := by simpa using h
    exact ⟨⟨by decide, by decide, by decide, by unfold opOk; decide, by decide, fun e => absurd e (by decide), by decide⟩, _, _, _, rfl, by decide, by decide⟩
  | 4 =>
    obtain rfl : an4 = nd := by simpa using h
    exact ⟨⟨by decide, by decide, by decide, by unfold opOk; decide, by decide, fun e => absurd e (by decide), by decide⟩, _, _, _, rfl, by decide, by decide⟩
  | i + 5 => simp at h

theorem ali_run (w : World) (ht : Tab w) : Calls Tryz.prog 13 #[.string aS, .string ⟨#[55]⟩, .int .i64 9] w fun e w' => (∃ t, e = .returned (.tuple #[.string t, .string ⟨#[49, 52, 32]⟩, .int .i64 0])) ∧ Kp no w w' := by
  have h := ali_wk
  cases hm : wkF 20 [an0, an1, an2, an3, an4] ⟨#[55]⟩ (mc0 9) 0 with
  | none => rw [hm] at h; cases h
  | some mc' =>
    rw [hm] at h
    simp only [Option.map_some, Option.some.injEq, Prod.mk.injEq] at h
    refine (nrun_good aS ⟨#[55]⟩ 9 w (by decide) (by decide) (by decide) (by rw [ali_ok]) ht _ ali_neq (by decide) 20 mc' hm).mono ?_
    rintro e w' ⟨rfl, k⟩
    rw [h.1, h.2]
    exact ⟨⟨_, rfl⟩, k⟩

theorem ali_graphc (w : World) : Calls Tryz.prog 14 #[.string aG] w fun e w' => e = .returned (.tuple #[.string ⟨#[97, 44, 48, 49, 44, 48, 50, 59, 98, 44, 48, 50, 44, 48, 50, 59]⟩, .int .i64 0, .int .i64 0]) ∧ Kp no w w' := by
  have h := ngraph_good aG w (by decide) (by rw [ali_gok])
  rw [ali_graph] at h
  exact h
theorem ali_prunec (w : World) : Calls Tryz.prog 8 #[.string aP] w fun e w' => e = .returned (.tuple #[.string ⟨#[97, 61, 49, 44, 48, 49, 59, 42, 44, 48, 50, 59, 94, 97, 44, 48, 51, 59]⟩, .int .i64 0]) ∧ Kp no w w' := by
  have h := nprune_good aP w (by decide) ali_pok
  rw [ali_lst, ali_prune] at h
  exact h
theorem ali_flowc (w : World) : Calls Tryz.prog 9 #[.string aP] w fun e w' => (∃ t, t.size = 41 ∧ e = .returned (.tuple #[.string t, .int .i64 0])) ∧ Kp no w w' := by
  have h := nflow_good aP w (by decide) ali_pok
  rw [ali_lst] at h
  exact h.mono fun e w' ⟨h1, h2⟩ => ⟨⟨_, ali_flow, h1⟩, h2⟩
theorem ali_accc (w : World) : Calls Tryz.prog 15 #[.string aP] w fun e w' => (∃ p : Int, e = .returned (.tuple #[.int .i64 0, .int .i64 p])) ∧ Kp no w w' := by
  have h := naccept_good aP w (by decide) ali_pok
  rw [ali_acc] at h
  exact h.mono fun e w' ⟨h1, h2⟩ => ⟨⟨_, h1⟩, h2⟩

set_option maxRecDepth 100000 in
set_option maxHeartbeats 1600000 in
theorem alive_c (w : World) (ht : Tab w) : Calls Tryz.prog 6 #[] w fun e w' => e = .returned (.bool true) ∧ Kp no w w' := by
  have HNU := hide (fun W => lnum_c 0 W)
  go_enter Tryz.func6, Tryz.ntmps6
  go_wp2_with fail
  refine (ali_run w ht).mono ?_
  rintro e w1 ⟨⟨t1, rfl⟩, k1⟩
  go_wp2_with fail
  refine (ali_graphc _).mono ?_
  rintro e w2 ⟨rfl, k2⟩
  go_wp2_with fail
  refine (ali_prunec _).mono ?_
  rintro e w3 ⟨rfl, k3⟩
  go_wp2_with fail
  refine (ali_flowc _).mono ?_
  rintro e w4 ⟨⟨t4, ht4, rfl⟩, k4⟩
  go_wp2_with fail
  refine (ali_accc _).mono ?_
  rintro e w5 ⟨⟨p5, rfl⟩, k5⟩
  have hk := hide ((((k1.trans k2 (fun _ _ e => e)).trans k3 (fun _ _ e => e)).trans k4 (fun _ _ e => e)).trans k5 (fun _ _ e => e))
  have h4 : t4.toList.isEmpty = false := by
    rw [ByteArray.toList_eq, List.isEmpty_eq_false_iff]
    intro e
    have h0 : t4.data.toList.length = 41 := ht4
    rw [e] at h0
    exact absurd h0 (by decide)
  have h5 : ¬ t4.toList = [] := by rw [List.isEmpty_eq_false_iff] at h4; exact h4
  clear k1 k2 k3 k4 k5
  go_wp2_with (go_at_call 10; refine (HNU.out _).mono ?_; rintro e w' ⟨rfl, rfl⟩)
  go_ret
  refine ⟨?_, hk.out⟩
  simp
end Go.Proofs.YtellieabhaphhabGreatDoor

/-
  Pruned: every step.
-/
namespace Go.Proofs.YtellieabhaphhabGreatDoor
open Go.RowKit

theorem pruned_t (ok ob oc : Int) (os ot ou : ByteArray) (w : World) (hos : os.size ≤ maxLen) (hot : ot.size ≤ maxLen) (ht : Tab w) :
    Calls Tryz.prog 5 #[.agg #[.int .i64 ok, .int .i64 ob, .int .i64 oc, .string os, .string ot, .string ou]] w fun e w' => e = .returned (.bool true) ∧ Kp no w w' := by
  by_cases h9 : os.size ≤ 900
  · by_cases hb : (graE os).1 = 0
    · obtain ⟨e1, e2⟩ := graE_zero os hb
      obtain ⟨r1, r2, _⟩ := pruT_read h9 e1
      obtain ⟨tx, ux, c, ty, x1, x2, x3, x4⟩ := wlk_pair (fuel := ob) h9 e1 hot
      have hl := (graF_inv os).2
      have hfg : FloNN (pruT os) (splB (kept (lstF (graF os).nodes))) 0 := fun W => by
        have := nflow_good (pruT os) W r1 r2
        rw [lst_prn (gl_of e1) (pruT_prn h9 e1)] at this
        exact this
      have hpg : PruN (pruT os) (pruT os) 0 := by
        have := pru_good r1 r2
        rw [pruT_again h9 e1] at this
        exact this
      have hsz := spl_size (lstF (graF os).nodes) (lst_ok _)
      rw [lst_len] at hsz
      exact pruned_G ok ob oc os ot ou (pruT os) _ _ tx ux ty c w ht (pru_good h9 e1) (fun W => nflow_good os W h9 e1) x1 x2 x3 x4 hfg hpg (pru_empty h9 e1) (fil_spl _) (by omega)
    · exact pruned_B ok ob oc os ot ou ((graE os).1 : Nat) w (fun W => nprune_bad os W h9 hb) (fun W => nflow_bad os W h9 hb) (by omega)
  · exact pruned_B ok ob oc os ot ou 1 w (fun W => nprune_long os W hos (by omega)) (fun W => nflow_long os W hos (by omega)) (by decide)

set_option maxRecDepth 100000 in
set_option maxHeartbeats 6400000 in
theorem prunedLaw_c (ao : Option Addr) (n cap : Nat) (O : Nat → OpV) (w : World) (hn : n ≤ maxLen) (hS : 0 < n → ∃ a, ao = some a ∧ Scr w a n O ∧ a.block < w.heap.size) (hok : ∀ i, i < n → OpOk (O i)) (ht : Tab w) :
    Calls Tryz.prog 3 #[.slice ao n cap] w fun e w' => e = .returned (.bool true) ∧ Kp no w w' := by
  unfold maxLen at hn
  have HAL := hide (fun W (hW : Tab W) => alive_c W hW)
  go_enter Tryz.func3, Tryz.ntmps3
  go_wp2
  go_loopg [3] n (fun k iv wr => ∃ j : Nat, j ≤ n ∧ k = n - j ∧ iv = .int .i64 j ∧ Kp no w wr)
  case atStart => exact ⟨0, Nat.zero_le _, rfl, rfl, Kp.refl _ _⟩
  case round =>
    obtain ⟨j, hj, hk, rfl, kr⟩ := hrel
    have HK := hide hk
    have HKR := hide kr
    have hT0 := ht.kp kr no_elim
    clear hk
    by_cases hlt : j < n
    · by_cases h60 : (j : Int) < 1152921504606846976
      · have d60 := decide_eq_true h60
        clear h60
        obtain ⟨a, rfl, hSc, hab⟩ := hS (by omega)
        have hSr := hSc.kp kr hab
        have hal : a.block < wr.heap.size := by have := kr.size; omega
        clear kr
        have c0 := hSr j hlt 0 (by decide)
        have c1 := hSr j hlt 1 (by decide)
        have c2 := hSr j hlt 2 (by decide)
        have c3 := hSr j hlt 3 (by decide)
        have c4 := hSr j hlt 4 (by decide)
        have c5 := hSr j hlt 5 (by decide)
        have hokj := hok j hlt
        clear hSr hS hSc hok
        generalize O j = o at *
        obtain ⟨ok, ob, oc, os, ot, ou⟩ := o
        have hos := hokj.s
        have hot := hokj.t
        have hou := hokj.u
        dsimp only at hos hot hou
        clear hokj
        simp only [OpV.cells, List.getElem?_cons_zero, List.getElem?_cons_succ, Nat.add_zero] at c0 c1 c2 c3 c4 c5
        have HHN := hide hn
        have HCL := hide (show ∀ jj v, [Value.int .i64 ok, .int .i64 ob, .int .i64 oc, .string os, .string ot, .string ou][jj]? = some v → wr.cell? ((a.add (j * 6)).add jj) = some v from fun jj v hv => by
          have hjj := (List.getElem?_eq_some_iff.1 hv).1
          simp only [List.length_cons, List.length_nil] at hjj
          rw [Deep.add_add, ← hv]
          rcases (show jj = 0 ∨ jj = 1 ∨ jj = 2 ∨ jj = 3 ∨ jj = 4 ∨ jj = 5 by omega) with rfl | rfl | rfl | rfl | rfl | rfl
          · exact c0
          · exact c1
          · exact c2
          · exact c3
          · exact c4
          · exact c5)
        clear hn hab c0 c1 c2 c3 c4 c5
        have hwrap : IntKind.i64.wrap ((j : Int) + 1) = (j : Int) + 1 := Go.IntWalk.i64_in _ (by have := HHN.out; omega)
        have HD60 := hide d60
        clear hou
        have HS := hide (fun W (hW : Tab W) => pruned_t ok ob oc os ot ou W hos hot hW)
        clear hos hot
        go_wp2_with (refine wpList_load_gen rfl 25 (.tmp 17) rfl (a.add (j * 6)) (by simp [Act.eval]) [Value.int .i64 ok, .int .i64 ob, .int .i64 oc, .string os, .string ot, .string ou] _ HCL.out Tryz.underlying25 rfl (by kernel_rfl) ?_)
        refine (HS.out _ hT0).mono ?_
        rintro e v1 ⟨rfl, k1⟩
        go_wp2
        go_roundg (n - (j + 1))
        case measure => have := HK.out; omega
        case rel => exact ⟨j + 1, by omega, rfl, by go_num, HKR.out.trans k1 (fun _ _ e => e)⟩
      · have d60 := decide_eq_false h60
        clear h60 hS hok hn
        go_wp2_with fail
        refine (HAL.out _ hT0).mono ?_
        rintro e v1 ⟨rfl, k1⟩
        go_wp2
        go_ret
        exact ⟨rfl, HKR.out.trans k1 (fun _ _ e => e)⟩
    · have hn' := hide hn
      clear hS hok hn
      go_wp2_with fail
      refine (HAL.out _ hT0).mono ?_
      rintro e v1 ⟨rfl, k1⟩
      go_wp2
      go_ret
      exact ⟨rfl, HKR.out.trans k1 (fun _ _ e => e)⟩
end Go.Proofs.YtellieabhaphhabGreatDoor

/-
  Pruned: the row and the card.
-/
namespace Go.Proofs.YtellieabhaphhabGreatDoor
open Go.ChangeShapes Go.WideShapes Go.ChangeAt Go.RowKit Go.Deep

theorem pow_data : (Rows.laid_internal_strconv_uint64pow10 : DataW Unit) = Lib.tabData .u64 Lib.pow10Tab := by kernel_rfl

theorem tab_of {W : World} (h : laidMetH Tryz.prog Rows.prunedRow.laid W) : Tab W := by
  have h1 : laidMet Tryz.prog Rows.prunedRow.laid W := h
  obtain ⟨ps, ⟨g0, t0, cs0, f0, p0, q0, hg0, ht0, hv0, hd0, ⟨g1, t1, cs1, f1, p1, q1, hg1, ht1, hv1, hd1, ⟨g2, t2, cs2, f2, p2, q2, hg2, ht2, hv2, hd2, _, _⟩, _⟩, _⟩, _⟩ := h1
  obtain rfl := Option.some.inj (gtab.symm.trans hg2)
  obtain rfl := Option.some.inj (gT.symm.trans ht2)
  rw [pow_data] at hd2
  show Lib.TabIs _ _ _ _ _
  unfold Lib.TabIs
  rw [hv2, ← Lib.cells_of_tab Tryz.underlying202 Tryz.underlying196 c64 c20 hd2]

set_option maxRecDepth 100000 in
/-- For every script, in every world that holds the tables. -/
theorem pruned_contract (H : Type) (enc : TypeId × Value → H) (W : World) (base : Nat) (args : Array Value) (ds gs : List (DataW H)) (before : List MemPlace)
    (hval : ∀ (j : Nat) t v, Tryz.f3.params[j]? = some t → args[j]? = some v → Value.okWide Tryz.prog W .any base t v)
    (hW : DataW.Whole enc Tryz.prog Tryz.f3.params.toList Rows.prunedSpec.vars false W args.toList ds gs before) (hL : laidMetH Tryz.prog Rows.prunedRow.laid W) :
    Calls Tryz.prog 3 args W fun e W' => ∃ v, e = .returned v ∧ Rows.prunedSpec.post enc Tryz.prog Tryz.f3 false true false false W args v W' := by
  have hW' := hW
  obtain ⟨p, q, hA0, hV, rfl, hfz, hnd⟩ := hW
  have hA : DataW.TrodAll enc Tryz.prog W 0 (fun _ => true) true Tryz.f3.params.toList args.toList ds p := hA0
  rw [Tryz.params3] at hA hval
  obtain ⟨v0, d0, rfl, rfl, h0⟩ := trodAll_one hA
  obtain ⟨rfl, rfl⟩ := trodVars_none hV
  obtain ⟨ao, len, cap, rfl⟩ := okWide_slice Tryz.underlying22 (hval 0 22 v0 rfl rfl)
  have walk : Calls Tryz.prog 3 #[.slice ao len cap] W fun e w' => e = .returned (.bool true) ∧ Kp no W w' := by
    rcases (script_open h0).1 with rfl | ⟨a, O, rfl, hl, hb, hS, hO⟩
    · exact prunedLaw_c ao 0 cap (fun _ => ⟨0, 0, 0, (⟨#[]⟩ : ByteArray), (⟨#[]⟩ : ByteArray), (⟨#[]⟩ : ByteArray)⟩) W (Nat.zero_le _) (fun h => absurd h (by decide)) (fun i h => absurd h (Nat.not_lt_zero i)) (tab_of hL)
    · exact prunedLaw_c (some a) len cap O W hl (fun _ => ⟨a, rfl, hS, hb⟩) hO (tab_of hL)
  have hsh := (script_open h0).2
  refine walk.mono fun e W' ⟨he, k⟩ => ?_
  subst he
  have hold : ∀ q ∈ p, (fun b => decide (b < W.heap.size)) q.block = true := fun q hq => by simpa using hW'.lt q (by simpa using hq)
  refine ⟨_, rfl, [d0], [], p ++ [], [], p, [], hW', ?_, ?_, ?_, ?_, fun h => by cases h⟩
  · exact trodAll_mk1 (shut_bool Tryz.underlying4 _)
  · exact trodAll_mk1 (hsh W' k _ hold)
  · first | exact rfl | exact ⟨rfl, rfl⟩
  · exact Kp.keptBut k _
end Go.Proofs.YtellieabhaphhabGreatDoor
