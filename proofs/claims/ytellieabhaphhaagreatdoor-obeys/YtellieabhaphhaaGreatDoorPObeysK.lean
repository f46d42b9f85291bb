import Derived.Test.YtellieabhaphhaaGreatDoorPObeysJ
/-
  narrow's flow: tables.
-/
namespace Go.Proofs.YtellieabhaphhaaGreatDoor
open Go.RowKit

/-- A state as narrow's tables hold it. -/
def encZ (s : St) : St := if s.length = 6 then s else [0, 0, 0, 0, 0, 0]
def tCells (T : Tbl) : List Value := T.flatMap (fun s => zc (encZ s))

theorem encZ6 (s : St) : (encZ s).length = 6 := by unfold encZ; split; assumption; rfl
theorem zce6 (s : St) : (zc (encZ s)).length = 6 := by rw [zc, List.length_map]; exact encZ6 s

theorem encZ_nil : encZ [] = [0, 0, 0, 0, 0, 0] := rfl
theorem encZ_ful {s : St} (h : Ful s) : encZ s = s := by rw [encZ, if_pos h.z.len]

theorem encZ_z6 {s : St} (h : SOk s) : Z6 (encZ s) := by
  by_cases h0 : s = []
  · subst h0; exact no_z6
  · rw [encZ_ful (h.ful h0)]; exact (h.ful h0).z

theorem exS_enc {s : St} (h : SOk s) : exS (encZ s) = decide (s ≠ []) := by
  by_cases h0 : s = []
  · subst h0; rfl
  · rw [encZ_ful (h.ful h0), (h.ful h0).ex, decide_eq_true h0]

/-- Six cells of a row are set at once. -/
theorem flat_six (f : St → List Value) (hf : ∀ s, (f s).length = 6) (x : St) (a0 a1 a2 a3 a4 a5 : Value) (hx : f x = [a0, a1, a2, a3, a4, a5]) : ∀ (T : Tbl) (i : Nat), i < T.length →
    ((((((T.flatMap f).set (i * 6) a0).set (i * 6 + 1) a1).set (i * 6 + 2) a2).set (i * 6 + 3) a3).set (i * 6 + 4) a4).set (i * 6 + 5) a5 = (T.set i x).flatMap f
  | [], i, h => by simp at h
  | s :: T, 0, _ => by
    obtain ⟨b0, b1, b2, b3, b4, b5, hb⟩ : ∃ b0 b1 b2 b3 b4 b5, f s = [b0, b1, b2, b3, b4, b5] := by
      match f s, hf s with
      | [b0, b1, b2, b3, b4, b5], _ => exact ⟨b0, b1, b2, b3, b4, b5, rfl⟩
    rw [List.set_cons_zero, List.flatMap_cons, List.flatMap_cons, hx, hb]
    rfl
  | s :: T, i + 1, h => by
    have ih := flat_six f hf x a0 a1 a2 a3 a4 a5 hx T i (by simpa using h)
    obtain ⟨b0, b1, b2, b3, b4, b5, hb⟩ : ∃ b0 b1 b2 b3 b4 b5, f s = [b0, b1, b2, b3, b4, b5] := by
      match f s, hf s with
      | [b0, b1, b2, b3, b4, b5], _ => exact ⟨b0, b1, b2, b3, b4, b5, rfl⟩
    rw [List.set_cons_succ, List.flatMap_cons, List.flatMap_cons, hb, ← ih]
    have e : (i + 1) * 6 = i * 6 + 1 + 1 + 1 + 1 + 1 + 1 := by omega
    have e1 : (i + 1) * 6 + 1 = i * 6 + 1 + 1 + 1 + 1 + 1 + 1 + 1 := by omega
    have e2 : (i + 1) * 6 + 2 = i * 6 + 2 + 1 + 1 + 1 + 1 + 1 + 1 := by omega
    have e3 : (i + 1) * 6 + 3 = i * 6 + 3 + 1 + 1 + 1 + 1 + 1 + 1 := by omega
    have e4 : (i + 1) * 6 + 4 = i * 6 + 4 + 1 + 1 + 1 + 1 + 1 + 1 := by omega
    have e5 : (i + 1) * 6 + 5 = i * 6 + 5 + 1 + 1 + 1 + 1 + 1 + 1 := by omega
    rw [e5, e4, e3, e2, e1, e]
    rfl

/-- The flow at work. -/
structure FT (w : World) (fp tb n : Nat) (T : Tbl) (g : Bool) : Prop where
  p : Blk w fp [.slice (some ⟨tb, 0, none⟩) n n, .bool g] 99
  ne : fp ≠ tb
  len : T.length = n
  b : Blk w tb (tCells T) 102

def TK2 (fp tb : Nat) (b : Nat) : Prop := b = fp ∨ b = tb

theorem FT.at {w : World} {fp tb n : Nat} {T : Tbl} {g : Bool} (h : FT w fp tb n T g) {i : Nat} (hi : i < n) {m0 m1 m2 m3 m4 m5 : Nat} (hm : encZ (T.getD i []) = [m0, m1, m2, m3, m4, m5]) :
    w.cell? ⟨tb, i * 6, none⟩ = some (.int .i64 m0) ∧ w.cell? ⟨tb, i * 6 + 1, none⟩ = some (.int .i64 m1) ∧ w.cell? ⟨tb, i * 6 + 2, none⟩ = some (.int .i64 m2) ∧ w.cell? ⟨tb, i * 6 + 3, none⟩ = some (.int .i64 m3) ∧ w.cell? ⟨tb, i * 6 + 4, none⟩ = some (.int .i64 m4) ∧ w.cell? ⟨tb, i * 6 + 5, none⟩ = some (.int .i64 m5) := by
  have hl : i < T.length := by rw [h.len]; exact hi
  rw [List.getD_eq_getElem?_getD, List.getElem?_eq_getElem hl, Option.getD_some] at hm
  have hc : ∀ j, j < 6 → w.cell? ⟨tb, i * 6 + j, none⟩ = (zc [m0, m1, m2, m3, m4, m5])[j]? := fun j hj => by
    rw [h.b.cell, tCells, flat_get (fun s => zc (encZ s)) 6 zce6 T i j hl hj, hm]
  exact ⟨hc 0 (by decide), hc 1 (by decide), hc 2 (by decide), hc 3 (by decide), hc 4 (by decide), hc 5 (by decide)⟩

theorem FT.c {w : World} {fp tb n : Nat} {T : Tbl} {g : Bool} (h : FT w fp tb n T g) : w.cell? ⟨fp, 0, none⟩ = some (.slice (some ⟨tb, 0, none⟩) n n) ∧ w.cell? ⟨fp, 1, none⟩ = some (.bool g) ∧ (∀ o, w.frozen? ⟨fp, o, none⟩ = false) ∧ (∀ o, w.frozen? ⟨tb, o, none⟩ = false) ∧ fp < w.heap.size ∧ tb < w.heap.size :=
  ⟨h.p.cell 0, h.p.cell 1, h.p.frozen, h.b.frozen, h.p.lt, h.b.lt⟩

theorem FT.kp {w w' : World} {fp tb n : Nat} {T : Tbl} {g : Bool} (h : FT w fp tb n T g) (k : Kp no w w') : FT w' fp tb n T g :=
  ⟨k.blk h.p no_elim, h.ne, h.len, k.blk h.b no_elim⟩

theorem FT.turn {w : World} {fp tb n : Nat} {T : Tbl} {g : Bool} (h : FT w fp tb n T g) (b : Bool) : FT (w.setCell ⟨fp, 1, none⟩ (.bool b)) fp tb n T b :=
  ⟨h.p.set 1 (.bool b), h.ne, h.len, Blk.other h.b _ (fun e => h.ne e.symm)⟩

theorem FT.set {w : World} {fp tb n : Nat} {T : Tbl} {g : Bool} (h : FT w fp tb n T g) {i : Nat} (hi : i < n) {s : St} {m0 m1 m2 m3 m4 m5 : Nat} (hm : encZ s = [m0, m1, m2, m3, m4, m5]) :
    FT ((((((w.setCell ⟨tb, i * 6, none⟩ (.int .i64 m0)).setCell ⟨tb, i * 6 + 1, none⟩ (.int .i64 m1)).setCell ⟨tb, i * 6 + 2, none⟩ (.int .i64 m2)).setCell ⟨tb, i * 6 + 3, none⟩ (.int .i64 m3)).setCell ⟨tb, i * 6 + 4, none⟩ (.int .i64 m4)).setCell ⟨tb, i * 6 + 5, none⟩ (.int .i64 m5)) fp tb n (T.set i s) g := by
  have hne : fp ≠ tb := h.ne
  refine ⟨Blk.other (Blk.other (Blk.other (Blk.other (Blk.other (Blk.other h.p _ hne) _ hne) _ hne) _ hne) _ hne) _ hne, hne, by rw [List.length_set]; exact h.len, ?_⟩
  have h2 := (((((h.b.set (i * 6) (.int .i64 m0)).set (i * 6 + 1) (.int .i64 m1)).set (i * 6 + 2) (.int .i64 m2)).set (i * 6 + 3) (.int .i64 m3)).set (i * 6 + 4) (.int .i64 m4)).set (i * 6 + 5) (.int .i64 m5)
  rw [tCells, flat_six (fun s => zc (encZ s)) zce6 s _ _ _ _ _ _ (by rw [hm]; rfl) T i (by rw [h.len]; exact hi)] at h2
  exact h2

set_option maxRecDepth 100000 in
set_option maxHeartbeats 1600000 in
theorem stateOf_c (fp tb n : Nat) (T : Tbl) (g : Bool) (i : Nat) (w : World) (h : FT w fp tb n T g) (hi : i < n) :
    Calls Tryz.prog 76 #[.slice (some ⟨tb, 0, none⟩) n n, .int .i64 i] w fun e w' => e = .returned (.agg (zc (encZ (T.getD i []))).toArray) ∧ Kp no w w' := by
  obtain ⟨m0, m1, m2, m3, m4, m5, hm⟩ : ∃ m0 m1 m2 m3 m4 m5, encZ (T.getD i []) = [m0, m1, m2, m3, m4, m5] := by
    match encZ (T.getD i []), encZ6 (T.getD i []) with
    | [m0, m1, m2, m3, m4, m5], _ => exact ⟨m0, m1, m2, m3, m4, m5, rfl⟩
  obtain ⟨c0, c1, c2, c3, c4, c5⟩ := h.at hi hm
  have htl := h.b.lt
  rw [hm]
  have d0 : decide ((i : Int) < 0) = false := by simp
  have d1 : decide ((n : Int) ≤ i) = false := by simp; omega
  have d2 : (i : Int) < n := by omega
  have d3 : decide (n ≤ i) = false := by simp; omega
  clear h hm
  go_enter Tryz.func76, Tryz.ntmps76
  go_wp2
  refine body_agg (Tb := 102) (b := w.heap.size) (cs := [.int .i64 m0, .int .i64 m1, .int .i64 m2, .int .i64 m3, .int .i64 m4, .int .i64 m5]) (.inr rfl) Tryz.results76 rfl rfl (by (repeat' (first | ((with_reducible show (_ : List Value) = _); rfl) | ((with_reducible refine Blk.newAt _ _ _ ?_); first | with_reducible rfl | (simp; done)) | with_reducible refine Blk.alloc ?_ _ | with_reducible refine Blk.drewN ?_ _ | with_reducible refine Blk.drew ?_ | ((with_reducible refine Blk.other ?_ _ ?_); rotate_left; ((try dsimp only); omega)) | with_reducible refine Blk.setB (cs0 := ?_) ?_ ?_))) Tryz.underlying102 rfl (by kernel_rfl) ?_
  exact ⟨rfl, by (repeat' (first | with_reducible exact Kp.refl _ _ | with_reducible refine Kp.alloc ?_ _ | with_reducible refine Kp.drewN ?_ _ | with_reducible refine Kp.drew ?_ | with_reducible refine Kp.setCell ?_ _ ?_ | (intro hh; first | rfl | exact .inl rfl | exact .inr rfl | (exfalso; (try dsimp only at hh); omega))))⟩
set_option maxHeartbeats 1600000 in
theorem eqArr (w : World) (a0 a1 a2 a3 a4 a5 b0 b1 b2 b3 b4 b5 : Int) : (Op.equalIn 9999 100 (.agg #[.int .i64 a0, .int .i64 a1, .int .i64 a2, .int .i64 a3, .int .i64 a4, .int .i64 a5]) (.agg #[.int .i64 b0, .int .i64 b1, .int .i64 b2, .int .i64 b3, .int .i64 b4, .int .i64 b5])).run Tryz.prog w = .ok (a0 == b0 && (a1 == b1 && (a2 == b2 && (a3 == b3 && (a4 == b4 && a5 == b5))))) w := by
  have u3 := Tryz.underlying87
  have a3' := Tryz.isAgg87
  have z3 := Tryz.sizeOf87
  rw [show (9999 : Nat) = 9998 + 1 from rfl, Op.equalIn]
  simp only [Sem.run_bind, run_underlying Tryz.underlying100, Result.andThen_ok]
  simp only [Std.Legacy.Range.forIn_eq_forIn_range', Std.Legacy.Range.size, Nat.sub_zero, Nat.add_sub_cancel, Nat.div_one, List.range'_succ, List.range'_zero, List.forIn_cons, List.forIn_nil]
  go_simp
  by_cases h0 : a0 = b0
  · by_cases h1 : a1 = b1
    · by_cases h2 : a2 = b2
      · by_cases h3 : a3 = b3
        · by_cases h4 : a4 = b4
          · by_cases h5 : a5 = b5 <;> simp [h0, h1, h2, h3, h4, h5]
          · simp [h0, h1, h2, h3, h4]
        · simp [h0, h1, h2, h3]
      · simp [h0, h1, h2]
    · simp [h0, h1]
  · simp [h0]

theorem eqArr_list (a0 a1 a2 a3 a4 a5 b0 b1 b2 b3 b4 b5 : Nat) : ((a0 : Int) == b0 && ((a1 : Int) == b1 && ((a2 : Int) == b2 && ((a3 : Int) == b3 && ((a4 : Int) == b4 && (a5 : Int) == b5))))) = decide ([a0, a1, a2, a3, a4, a5] = [b0, b1, b2, b3, b4, b5]) := by
  rw [Bool.eq_iff_iff, decide_eq_true_iff]
  simp [Int.ofNat_inj]

theorem zip_zero {Z : St} (h : Z6 Z) : List.zipWith (· ||| ·) [0, 0, 0, 0, 0, 0] Z = Z := by
  obtain ⟨m0, m1, m2, m3, m4, m5, rfl⟩ := z6_six h
  simp

theorem jn_join {S Z : St} (hS : SOk S) (hZ : Z6 Z) : jnZ (encZ S) Z = encZ (joinR S (nrm Z)).1 ∧ (joinR S (nrm Z)).2 = decide (jnZ (encZ S) Z ≠ encZ S) := by
  cases hE : exS Z
  · have h1 : nrm Z = [] := by rw [nrm, hE]; rfl
    have h2 : jnZ (encZ S) Z = encZ S := by rw [jnZ, hE]; rfl
    rw [h1, h2]
    exact ⟨rfl, by simp [joinR]⟩
  · have h1 : nrm Z = Z := by rw [nrm, hE]; rfl
    have h2 : jnZ (encZ S) Z = List.zipWith (· ||| ·) (encZ S) Z := by rw [jnZ, hE]; rfl
    have hZ0 : Z ≠ [] := fun e => by have := hZ.len; rw [e] at this; cases this
    rw [h1, h2]
    by_cases h0 : S = []
    · subst h0
      have hj : joinR [] Z = (Z, true) := by rw [joinR, if_neg hZ0, if_pos rfl]
      rw [hj, encZ_nil, zip_zero hZ]
      refine ⟨by rw [encZ, if_pos hZ.len], ?_⟩
      rw [eq_comm, decide_eq_true_iff]
      intro e
      rw [e] at hE
      cases hE
    · have hF := hS.ful h0
      have hj : joinR S Z = (List.zipWith (· ||| ·) S Z, decide (List.zipWith (· ||| ·) S Z ≠ S)) := by rw [joinR, if_neg hZ0, if_neg h0]
      rw [hj, encZ_ful hF]
      refine ⟨?_, rfl⟩
      rw [encZ, if_pos (by rw [List.length_zipWith, hF.z.len, hZ.len]; rfl)]

set_option maxRecDepth 100000 in
set_option maxHeartbeats 800000 in
theorem come_c (fp tb n : Nat) (T : Tbl) (g : Bool) (i : Int) (Z : St) (w : World) (h : FT w fp tb n T g) (hT : TOk T) (hZ : Z6 Z) :
    Calls Tryz.prog 62 #[.pointer (some ⟨fp, 0, none⟩), .int .i64 i, .agg (zc Z).toArray] w fun e w' => e = .returned (.tuple #[]) ∧ FT w' fp tb n (intoF T i (nrm Z)).1 (g || (intoF T i (nrm Z)).2) ∧ Kp (TK2 fp tb) w w' := by
  obtain ⟨z0, z1, z2, z3, z4, z5, rfl⟩ := z6_six hZ
  rw [show Value.agg (zc [z0, z1, z2, z3, z4, z5]).toArray = zv6 z0 z1 z2 z3 z4 z5 from rfl]
  obtain ⟨c0, c1, cf, cg, cl, cm⟩ := h.c
  have HH := hide h
  have hl := h.len
  by_cases hi0 : i < 0
  · have HE := hide (show intoF T i (nrm [z0, z1, z2, z3, z4, z5]) = (T, false) by rw [intoF, if_neg (by omega)])
    rw [HE.out, Bool.or_false]
    clear hl
    go_enter Tryz.func62, Tryz.ntmps62
    go_wp2
    refine bodyPost_ret (results_none rfl _ _ _) rfl ?_
    exact ⟨rfl, HH.out.kp (by (repeat' (first | with_reducible exact Kp.refl _ _ | with_reducible refine Kp.alloc ?_ _ | with_reducible refine Kp.drewN ?_ _ | with_reducible refine Kp.drew ?_ | with_reducible refine Kp.setCell ?_ _ ?_ | (intro hh; first | rfl | exact .inl rfl | exact .inr rfl | (exfalso; (try dsimp only at hh); omega))))), by (repeat' (first | with_reducible exact Kp.refl _ _ | with_reducible refine Kp.alloc ?_ _ | with_reducible refine Kp.drewN ?_ _ | with_reducible refine Kp.drew ?_ | with_reducible refine Kp.setCell ?_ _ ?_ | (intro hh; first | rfl | exact .inl rfl | exact .inr rfl | (exfalso; (try dsimp only at hh); omega))))⟩
  by_cases hin : (n : Int) ≤ i
  · have HE := hide (show intoF T i (nrm [z0, z1, z2, z3, z4, z5]) = (T, false) by rw [intoF, if_neg (by omega)])
    rw [HE.out, Bool.or_false]
    have d0 : decide (i < 0) = false := by simp; omega
    clear hl hi0
    go_enter Tryz.func62, Tryz.ntmps62
    go_wp2
    refine bodyPost_ret (results_none rfl _ _ _) rfl ?_
    exact ⟨rfl, HH.out.kp (by (repeat' (first | with_reducible exact Kp.refl _ _ | with_reducible refine Kp.alloc ?_ _ | with_reducible refine Kp.drewN ?_ _ | with_reducible refine Kp.drew ?_ | with_reducible refine Kp.setCell ?_ _ ?_ | (intro hh; first | rfl | exact .inl rfl | exact .inr rfl | (exfalso; (try dsimp only at hh); omega))))), by (repeat' (first | with_reducible exact Kp.refl _ _ | with_reducible refine Kp.alloc ?_ _ | with_reducible refine Kp.drewN ?_ _ | with_reducible refine Kp.drew ?_ | with_reducible refine Kp.setCell ?_ _ ?_ | (intro hh; first | rfl | exact .inl rfl | exact .inr rfl | (exfalso; (try dsimp only at hh); omega))))⟩
  · obtain ⟨k, rfl⟩ := Int.eq_ofNat_of_zero_le (by omega : 0 ≤ i)
    have hk : k < n := by omega
    have HE := hide (show intoF T k (nrm [z0, z1, z2, z3, z4, z5]) = (T.set k (joinR (T.getD k []) (nrm [z0, z1, z2, z3, z4, z5])).1, (joinR (T.getD k []) (nrm [z0, z1, z2, z3, z4, z5])).2) by rw [intoF, if_pos (by omega), Int.toNat_natCast])
    rw [HE.out]
    have d0 : decide ((k : Int) < 0) = false := by simp
    have d1 : decide (n ≤ k) = false := by simp; omega
    have d2 : decide ((n : Int) ≤ k) = false := by simp; omega
    have hkI : (k : Int) < n := by omega
    obtain ⟨m0, m1, m2, m3, m4, m5, hm⟩ := z6_six (encZ_z6 (hT.get k))
    obtain ⟨q0, q1, q2, q3, q4, q5⟩ := h.at hk hm
    obtain ⟨j1, j2⟩ := jn_join (hT.get k) hZ
    have hSet : T.set k (T.getD k []) = T := set_getD (by omega)
    have hsame : (joinR (T.getD k []) (nrm [z0, z1, z2, z3, z4, z5])).2 = false → (joinR (T.getD k []) (nrm [z0, z1, z2, z3, z4, z5])).1 = T.getD k [] := join_same
    have HJ := hide (fun W => joined_c m0 m1 m2 m3 m4 m5 z0 z1 z2 z3 z4 z5 W (hm ▸ encZ_z6 (hT.get k)) hZ)
    rw [hm] at j1 j2
    have hjz : Z6 (jnZ [m0, m1, m2, m3, m4, m5] [z0, z1, z2, z3, z4, z5]) := by
      rw [j1]
      exact encZ_z6 ((hT.get k).join (by unfold nrm; split; exact .inr ⟨rfl, fun m hm' => ⟨by rename_i hx; have := List.all_eq_true.1 hx m hm'; simpa using this, hZ.lt m hm'⟩⟩; exact .inl rfl))
    obtain ⟨r0, r1, r2, r3, r4, r5, hr⟩ := z6_six hjz
    rw [hr] at HJ j1 j2
    have HJJ : Hid (∀ W, Calls Tryz.prog 110 #[zv6 m0 m1 m2 m3 m4 m5, zv6 z0 z1 z2 z3 z4 z5] W fun e w' => e = .returned (zv6 r0 r1 r2 r3 r4 r5) ∧ Kp no W w') := fun W => HJ.out W
    clear HJ
    clear hl hi0 hin h hm hr hjz
    have HTG := hide (hT.get k)
    have HTG2 : Hid (SOk (T.getD k [])) := HTG.out
    clear HTG
    generalize T.getD k [] = S0 at *
    clear HE HTG2
    have HTG := hide (hT.get k)
    generalize joinR S0 (nrm [z0, z1, z2, z3, z4, z5]) = J at *
    obtain ⟨J1, J2⟩ := J
    dsimp only at *
    have HJ1 := hide j1
    have HJ2 := hide j2
    have HST := hide hSet
    have HSM := hide hsame
    clear j1 j2 hSet hsame
    go_enter Tryz.func62, Tryz.ntmps62
    go_wp2_with fail
    refine (HJJ.out _).mono ?_
    rintro e w1 ⟨rfl, k1⟩
    have HF1 := hide (HH.out.kp (Kp.trans (by (repeat' (first | with_reducible exact Kp.refl _ _ | with_reducible refine Kp.alloc ?_ _ | with_reducible refine Kp.drewN ?_ _ | with_reducible refine Kp.drew ?_ | with_reducible refine Kp.setCell ?_ _ ?_ | (intro hh; first | rfl | exact .inl rfl | exact .inr rfl | (exfalso; (try dsimp only at hh); omega))))) k1 (fun _ _ e => e)))
    have HK1 := hide (show Kp no w w1 from Kp.trans (by (repeat' (first | with_reducible exact Kp.refl _ _ | with_reducible refine Kp.alloc ?_ _ | with_reducible refine Kp.drewN ?_ _ | with_reducible refine Kp.drew ?_ | with_reducible refine Kp.setCell ?_ _ ?_ | (intro hh; first | rfl | exact .inl rfl | exact .inr rfl | (exfalso; (try dsimp only at hh); omega))))) k1 (fun _ _ e => e))
    have hob : Blk w1 (w.heap.size + 1) [.int .i64 m0, .int .i64 m1, .int .i64 m2, .int .i64 m3, .int .i64 m4, .int .i64 m5] 102 := k1.blk (by (repeat' (first | ((with_reducible show (_ : List Value) = _); rfl) | ((with_reducible refine Blk.newAt _ _ _ ?_); first | with_reducible rfl | (simp; done)) | with_reducible refine Blk.alloc ?_ _ | with_reducible refine Blk.drewN ?_ _ | with_reducible refine Blk.drew ?_ | ((with_reducible refine Blk.other ?_ _ ?_); rotate_left; ((try dsimp only); omega)) | with_reducible refine Blk.setB (cs0 := ?_) ?_ ?_))) no_elim
    have hk1 := (HK1.out).size
    have hcl0 := cl
    have hcm0 := cm
    clear c0 c1 cf cg cl cm q0 q1 q2 q3 q4 q5 k1
    obtain ⟨c0, c1, cf, cg, cl, cm⟩ := HF1.out.c
    obtain ⟨o0, o1, o2, o3, o4, o5, of, ol⟩ := hob.c6
    have heq : ∀ W, (Op.equalIn 9999 100 (.agg #[.int .i64 r0, .int .i64 r1, .int .i64 r2, .int .i64 r3, .int .i64 r4, .int .i64 r5]) (.agg #[.int .i64 m0, .int .i64 m1, .int .i64 m2, .int .i64 m3, .int .i64 m4, .int .i64 m5])).run Tryz.prog W = .ok (decide ([r0, r1, r2, r3, r4, r5] = [m0, m1, m2, m3, m4, m5])) W := fun W => by
      rw [eqArr, eqArr_list]
    have HJ3 := hide (show J2 = !decide ([r0, r1, r2, r3, r4, r5] = [m0, m1, m2, m3, m4, m5]) by rw [HJ2.out, decide_not])
    have hne := HF1.out.ne
    obtain ⟨t0, t1, t2, t3, t4, t5, ht⟩ := z6_six (encZ_z6 (HTG.out))
    obtain ⟨q0, q1, q2, q3, q4, q5⟩ := HF1.out.at hk ht
    clear ht HJ2
    generalize decide ([r0, r1, r2, r3, r4, r5] = [m0, m1, m2, m3, m4, m5]) = q at *
    cases q
    · go_wp2
      refine wp_gen (fun W => FT W fp tb n T g ∧ Blk W w1.heap.size [.int .i64 r0, .int .i64 r1, .int .i64 r2, .int .i64 r3, .int .i64 r4, .int .i64 r5] 102 ∧ Kp no w W) ⟨HF1.out.kp ((Kp.refl _ _).alloc _), by (repeat' (first | ((with_reducible show (_ : List Value) = _); rfl) | ((with_reducible refine Blk.newAt _ _ _ ?_); first | with_reducible rfl | (simp; done)) | with_reducible refine Blk.alloc ?_ _ | with_reducible refine Blk.drewN ?_ _ | with_reducible refine Blk.drew ?_ | ((with_reducible refine Blk.other ?_ _ ?_); rotate_left; ((try dsimp only); omega)) | with_reducible refine Blk.setB (cs0 := ?_) ?_ ?_)), HK1.out.alloc _⟩ ?_
      rintro W ⟨hFW, hRW, kW⟩
      have HFW := hide hFW
      have HKW := hide kW
      clear c0 c1 cf cg cl cm q0 q1 q2 q3 q4 q5 o0 o1 o2 o3 o4 o5 of ol
      obtain ⟨c0, c1, cf, cg, cl, cm⟩ := hFW.c
      obtain ⟨t0, t1, t2, t3, t4, t5, ht⟩ := z6_six (encZ_z6 (HTG.out))
      obtain ⟨q0, q1, q2, q3, q4, q5⟩ := hFW.at hk ht
      obtain ⟨o0, o1, o2, o3, o4, o5, of, ol⟩ := hRW.c6
      clear hFW hRW kW ht
      go_region
      all_goals
        go_wp2
        go_end0
        rw [HJ3.out, Bool.not_false, Bool.or_true]
        refine ⟨rfl, ((HFW.out.set hk HJ1.out.symm).turn true).kp ((Kp.refl _ _).drew), ?_⟩
        have kk := HKW.out.mono (S' := TK2 fp tb) (fun _ e => e.elim)
        exact (((((((kk.setCell _ (fun _ => .inr rfl)).setCell _ (fun _ => .inr rfl)).setCell _ (fun _ => .inr rfl)).setCell _ (fun _ => .inr rfl)).setCell _ (fun _ => .inr rfl)).setCell _ (fun _ => .inr rfl)).setCell _ (fun _ => .inl rfl)).drew
    · go_wp2
      go_end0
      have hj : J1 = S0 := HSM.out (by rw [HJ3.out]; rfl)
      rw [HJ3.out, Bool.not_true, Bool.or_false, hj, HST.out]
      refine ⟨rfl, HF1.out.kp ((Kp.refl _ _).alloc _), ?_⟩
      have kk := HK1.out.mono (S' := TK2 fp tb) (fun _ e => e.elim)
      exact kk.alloc _
end Go.Proofs.YtellieabhaphhaaGreatDoor

/-
  narrow's flow: the least table.
-/
namespace Go.Proofs.YtellieabhaphhaaGreatDoor
open Go.RowKit

theorem into_nil (T : Tbl) (i : Int) : intoF T i [] = (T, false) := by
  unfold intoF
  split
  · rename_i h
    have e : joinR (T.getD i.toNat []) [] = (T.getD i.toNat [], false) := by rw [joinR, if_pos rfl]
    rw [e, set_getD (by omega)]
  · rfl

theorem or_again (a b : Nat) : a ||| b ||| b = a ||| b := by rw [Nat.or_assoc, Nat.or_self]

theorem zip_again : ∀ (a b : St), List.zipWith (· ||| ·) (List.zipWith (· ||| ·) a b) b = List.zipWith (· ||| ·) a b
  | [], _ => by simp
  | _ :: _, [] => by simp
  | x :: a, y :: b => by simp only [List.zipWith_cons_cons, zip_again a b, or_again]

theorem join_again {a s : St} (ha : SOk a) (hs : SOk s) : joinR (joinR a s).1 s = ((joinR a s).1, false) := by
  by_cases h0 : s = []
  · subst h0; rfl
  · by_cases h1 : a = []
    · subst h1
      have e : joinR [] s = (s, true) := by rw [joinR, if_neg h0, if_pos rfl]
      have hz : List.zipWith (· ||| ·) s s = s := by
        have : ∀ s : St, List.zipWith (· ||| ·) s s = s := by
          intro s
          induction s with
          | nil => rfl
          | cons x s ih => simp only [List.zipWith_cons_cons, ih, Nat.or_self]
        exact this s
      rw [e, joinR, if_neg h0, if_neg h0, hz]; simp
    · have hl := (hs.resolve_left h0).1
      have hl2 := (ha.resolve_left h1).1
      have e : joinR a s = (List.zipWith (· ||| ·) a s, decide (List.zipWith (· ||| ·) a s ≠ a)) := by rw [joinR, if_neg h0, if_neg h1]
      have hne : List.zipWith (· ||| ·) a s ≠ [] := fun e => by
        have := congrArg List.length e
        rw [List.length_zipWith, hl, hl2] at this
        cases this
      rw [e, joinR, if_neg h0, if_neg hne, zip_again]; simp

theorem into_again {T : Tbl} (hT : TOk T) (i : Int) {s : St} (hs : SOk s) : intoF (intoF T i s).1 i s = ((intoF T i s).1, false) := by
  by_cases h : 0 ≤ i ∧ i < T.length
  · have e : intoF T i s = (T.set i.toNat (joinR (T.getD i.toNat []) s).1, (joinR (T.getD i.toNat []) s).2) := by rw [intoF, if_pos h]
    rw [e]
    have hl : i.toNat < T.length := by omega
    have g : (T.set i.toNat (joinR (T.getD i.toNat []) s).1).getD i.toNat [] = (joinR (T.getD i.toNat []) s).1 := by
      rw [List.getD_eq_getElem?_getD, List.getElem?_set_self hl]; rfl
    rw [intoF, if_pos (by rw [List.length_set]; exact h)]
    dsimp only
    rw [g, join_again (hT.get _) hs, List.set_set]
  · have e : intoF T i s = (T, false) := by rw [intoF, if_neg h]
    rw [e]; exact e

theorem SOk.alg {S : St} (n : Nd) (b : Bool) (h : SOk S) : SOk (algF n b S) := by
  unfold algF; split
  · exact h.hld n b
  · exact h.beh n

/-- What narrow does with a node is what the answer does. -/
theorem pas_two {n : Nd} {T : Tbl} (hT : TOk T) {i : Nat} {S : St} (hS : T.getD i [] = S) (h0 : S ≠ []) :
    pasF n i T = ((intoF (intoF T (yesN n) (algF n true S)).1 (noN n) (algF n false S)).1, (intoF T (yesN n) (algF n true S)).2 || (intoF (intoF T (yesN n) (algF n true S)).1 (noN n) (algF n false S)).2) := by
  have hSO : SOk S := hS ▸ hT.get i
  rw [pasF, hS, if_neg h0]
  by_cases ht : n.op = 121 ∨ n.op = 58
  · rw [if_pos ht, algF, algF, if_pos ht, if_pos ht, yesN, noN, if_pos ht, if_neg (by omega)]
  · rw [if_neg ht, algF, algF, if_neg ht, if_neg ht, noN, if_neg ht]
    by_cases h3 : n.op = 33
    · have hb : behF n S = [] := by rw [behF, if_pos h3]
      rw [hb, into_nil, into_nil, into_nil]; rfl
    · rw [yesN, if_neg h3, into_again hT _ (hSO.beh n), Bool.or_false]

set_option maxRecDepth 100000 in
set_option maxHeartbeats 1600000 in
theorem pass_c (fp tb n : Nat) (T : Tbl) (g : Bool) (i : Nat) (nd : Nd) (tx : ByteArray) (w : World) (h : FT w fp tb n T g) (hT : TOk T) (hi : i < n) (hg : Gn nd) :
    Calls Tryz.prog 63 #[.pointer (some ⟨fp, 0, none⟩), .int .i64 i, .agg #[.string tx, .int .i64 (actN nd.op), .int .i64 nd.x, .int .i64 nd.y, .int .i64 (if nd.op = 43 ∨ nd.op = 60 then nd.v else nd.y), .int .i64 (bit (consN nd).k), .int .i64 (consN nd).n, .int .i64 (bit (consN nd).v), .int .i64 (if nd.op = 126 ∨ nd.op = 58 then bit nd.k else 0), .int .i64 (yesN nd), .int .i64 (noN nd)]] w
      fun e w' => e = .returned (.tuple #[]) ∧ FT w' fp tb n (pasF nd i T).1 (g || (pasF nd i T).2) ∧ Kp (TK2 fp tb) w w' := by
  have HH := hide h
  have HSO := hide (fun W hW => stateOf_c fp tb n T g i W hW hi)
  have hSk := hT.get i
  obtain ⟨m0, m1, m2, m3, m4, m5, hm⟩ := z6_six (encZ_z6 hSk)
  obtain ⟨c0, c1, cf, cg, cl, cm⟩ := h.c
  have HAL := hide (fun b S W hF => along_c nd tx (yesN nd) (noN nd) S b W hg hF)
  have HP2 := hide (fun h0 => pas_two (n := nd) (i := i) (S := T.getD i []) hT rfl h0)
  have HP1 := hide (fun h0 : T.getD i [] = [] => show pasF nd i T = (T, false) by rw [pasF, if_pos h0])
  have HEX := hide (exS_enc hSk)
  generalize hSS : T.getD i [] = S at *
  clear hSS
  rw [hm] at HSO HEX
  have HZ6 := hide (show Z6 [m0, m1, m2, m3, m4, m5] from hm ▸ encZ_z6 hSk)
  have HM := hide hm
  have HSOK := hide hSk
  clear h hm hSk
  generalize pasF nd i T = PF at *
  generalize yesN nd = yn at *
  generalize noN nd = nn at *
  generalize actN nd.op = act at *
  generalize (if nd.op = 43 ∨ nd.op = 60 then nd.v else nd.y) = nwv at *
  generalize (if nd.op = 126 ∨ nd.op = 58 then bit nd.k else 0) = kdv at *
  generalize (consN nd).n = cnn at *
  generalize bit (consN nd).k = ckk at *
  generalize bit (consN nd).v = chh at *
  have HSO2 : Hid (∀ W, FT W fp tb n T g → Calls Tryz.prog 76 #[.slice (some ⟨tb, 0, none⟩) n n, .int .i64 i] W fun e w' => e = .returned (zv6 m0 m1 m2 m3 m4 m5) ∧ Kp no W w') := fun W hW => HSO.out W hW
  clear HSO
  go_enter Tryz.func63, Tryz.ntmps63
  go_wp2_with fail
  refine (HSO2.out _ (HH.out.kp (by (repeat' (first | with_reducible exact Kp.refl _ _ | with_reducible refine Kp.alloc ?_ _ | with_reducible refine Kp.drewN ?_ _ | with_reducible refine Kp.drew ?_ | with_reducible refine Kp.setCell ?_ _ ?_ | (intro hh; first | rfl | exact .inl rfl | exact .inr rfl | (exfalso; (try dsimp only at hh); omega))))))).mono ?_
  rintro e w1 ⟨rfl, k1⟩
  have hN1 : Blk w1 w.heap.size [.string tx, .int .i64 act, .int .i64 nd.x, .int .i64 nd.y, .int .i64 nwv, .int .i64 ckk, .int .i64 cnn, .int .i64 chh, .int .i64 kdv, .int .i64 yn, .int .i64 nn] 91 := k1.blk (by (repeat' (first | ((with_reducible show (_ : List Value) = _); rfl) | ((with_reducible refine Blk.newAt _ _ _ ?_); first | with_reducible rfl | (simp; done)) | with_reducible refine Blk.alloc ?_ _ | with_reducible refine Blk.drewN ?_ _ | with_reducible refine Blk.drew ?_ | ((with_reducible refine Blk.other ?_ _ ?_); rotate_left; ((try dsimp only); omega)) | with_reducible refine Blk.setB (cs0 := ?_) ?_ ?_))) no_elim
  have HF1 := hide (HH.out.kp (Kp.trans (by (repeat' (first | with_reducible exact Kp.refl _ _ | with_reducible refine Kp.alloc ?_ _ | with_reducible refine Kp.drewN ?_ _ | with_reducible refine Kp.drew ?_ | with_reducible refine Kp.setCell ?_ _ ?_ | (intro hh; first | rfl | exact .inl rfl | exact .inr rfl | (exfalso; (try dsimp only at hh); omega))))) k1 (fun _ _ e => e)))
  have HK1 := hide (show Kp no w w1 from Kp.trans (by (repeat' (first | with_reducible exact Kp.refl _ _ | with_reducible refine Kp.alloc ?_ _ | with_reducible refine Kp.drewN ?_ _ | with_reducible refine Kp.drew ?_ | with_reducible refine Kp.setCell ?_ _ ?_ | (intro hh; first | rfl | exact .inl rfl | exact .inr rfl | (exfalso; (try dsimp only at hh); omega))))) k1 (fun _ _ e => e))
  have hs1 := HK1.out.size
  have hnl := hN1.lt
  clear k1 HSO2 c0 c1 cf cg cl cm
  go_wp2_with fail
  refine (exists_c _ [m0, m1, m2, m3, m4, m5] _ (by (show Blk _ _ [.int .i64 m0, .int .i64 m1, .int .i64 m2, .int .i64 m3, .int .i64 m4, .int .i64 m5] _); (repeat' (first | ((with_reducible show (_ : List Value) = _); rfl) | ((with_reducible refine Blk.newAt _ _ _ ?_); first | with_reducible rfl | (simp; done)) | with_reducible refine Blk.alloc ?_ _ | with_reducible refine Blk.drewN ?_ _ | with_reducible refine Blk.drew ?_ | ((with_reducible refine Blk.other ?_ _ ?_); rotate_left; ((try dsimp only); omega)) | with_reducible refine Blk.setB (cs0 := ?_) ?_ ?_))) HZ6.out).mono ?_
  rintro e w' ⟨rfl, rfl⟩
  rw [HEX.out]
  clear HEX
  by_cases h0 : S = []
  · have HPP := hide (HP1.out h0)
    rw [decide_eq_false (fun e => e h0)]
    go_wp2
    refine bodyPost_ret (results_none rfl _ _ _) rfl ?_
    rw [HPP.out, Bool.or_false]
    exact ⟨rfl, HF1.out.kp ((Kp.refl _ _).alloc _), (HK1.out.alloc _).mono (fun _ e => e.elim)⟩
  · have hFul := HSOK.out.ful h0
    have hSm : S = [m0, m1, m2, m3, m4, m5] := by rw [← encZ_ful hFul]; exact HM.out
    have HPP := hide (HP2.out h0)
    rw [decide_eq_true h0]
    clear HP1 HP2 h0 HM
    subst hSm
    have HFU := hide hFul
    clear hFul
    obtain ⟨n0, n1, n2, n3, n4, n5, n6, n7, n8, n9, n10, nf⟩ := hN1.c11
    go_wp2_with fail
    refine (HAL.out true [m0, m1, m2, m3, m4, m5] _ HFU.out).mono ?_
    rintro e w3 ⟨Z, rfl, hZ6, hZn, k3⟩
    obtain ⟨y0, y1, y2, y3, y4, y5, rfl⟩ := z6_six hZ6
    rw [show Value.agg (zc [y0, y1, y2, y3, y4, y5]).toArray = zv6 y0 y1 y2 y3 y4 y5 from rfl]
    have hN3 : Blk w3 w.heap.size [.string tx, .int .i64 act, .int .i64 nd.x, .int .i64 nd.y, .int .i64 nwv, .int .i64 ckk, .int .i64 cnn, .int .i64 chh, .int .i64 kdv, .int .i64 yn, .int .i64 nn] 91 := k3.blk (by (repeat' (first | ((with_reducible show (_ : List Value) = _); rfl) | with_reducible exact hN1 | ((with_reducible refine Blk.newAt _ _ _ ?_); first | with_reducible rfl | (simp; done)) | with_reducible refine Blk.alloc ?_ _ | with_reducible refine Blk.drewN ?_ _ | with_reducible refine Blk.drew ?_ | ((with_reducible refine Blk.other ?_ _ ?_); rotate_left; ((try dsimp only); omega)) | with_reducible refine Blk.setB (cs0 := ?_) ?_ ?_))) no_elim
    have hA3 : Blk w3 w1.heap.size [.int .i64 m0, .int .i64 m1, .int .i64 m2, .int .i64 m3, .int .i64 m4, .int .i64 m5] 102 := k3.blk (by (repeat' (first | ((with_reducible show (_ : List Value) = _); rfl) | ((with_reducible refine Blk.newAt _ _ _ ?_); first | with_reducible rfl | (simp; done)) | with_reducible refine Blk.alloc ?_ _ | with_reducible refine Blk.drewN ?_ _ | with_reducible refine Blk.drew ?_ | ((with_reducible refine Blk.other ?_ _ ?_); rotate_left; ((try dsimp only); omega)) | with_reducible refine Blk.setB (cs0 := ?_) ?_ ?_))) no_elim
    have HF3 := hide (HF1.out.kp (Kp.trans (by (repeat' (first | with_reducible exact Kp.refl _ _ | with_reducible refine Kp.alloc ?_ _ | with_reducible refine Kp.drewN ?_ _ | with_reducible refine Kp.drew ?_ | with_reducible refine Kp.setCell ?_ _ ?_ | (intro hh; first | rfl | exact .inl rfl | exact .inr rfl | (exfalso; (try dsimp only at hh); omega))))) k3 (fun _ _ e => e)))
    have HK3 := hide (HK1.out.trans (S' := no) (Kp.trans (by (repeat' (first | with_reducible exact Kp.refl _ _ | with_reducible refine Kp.alloc ?_ _ | with_reducible refine Kp.drewN ?_ _ | with_reducible refine Kp.drew ?_ | with_reducible refine Kp.setCell ?_ _ ?_ | (intro hh; first | rfl | exact .inl rfl | exact .inr rfl | (exfalso; (try dsimp only at hh); omega))))) k3 (fun _ _ e => e)) (fun _ _ e => e))
    have HZY := hide hZ6
    have HNY := hide hZn
    clear k3 n0 n1 n2 n3 n4 n5 n6 n7 n8 n9 n10 nf hN1 hnl HF1 HK1 hZ6 hZn
    obtain ⟨n0, n1, n2, n3, n4, n5, n6, n7, n8, n9, n10, nf⟩ := hN3.c11; have hnl := hN3.lt
    obtain ⟨a0, a1, a2, a3, a4, a5, af, al⟩ := hA3.c6
    go_wp2_with fail
    refine (HAL.out false [m0, m1, m2, m3, m4, m5] _ HFU.out).mono ?_
    rintro e w4 ⟨Z2, rfl, hZ6, hZn, k4⟩
    obtain ⟨o0, o1, o2, o3, o4, o5, rfl⟩ := z6_six hZ6
    rw [show Value.agg (zc [o0, o1, o2, o3, o4, o5]).toArray = zv6 o0 o1 o2 o3 o4 o5 from rfl]
    have hN4 : Blk w4 w.heap.size [.string tx, .int .i64 act, .int .i64 nd.x, .int .i64 nd.y, .int .i64 nwv, .int .i64 ckk, .int .i64 cnn, .int .i64 chh, .int .i64 kdv, .int .i64 yn, .int .i64 nn] 91 := k4.blk (by (repeat' (first | ((with_reducible show (_ : List Value) = _); rfl) | with_reducible exact hN3 | ((with_reducible refine Blk.newAt _ _ _ ?_); first | with_reducible rfl | (simp; done)) | with_reducible refine Blk.alloc ?_ _ | with_reducible refine Blk.drewN ?_ _ | with_reducible refine Blk.drew ?_ | ((with_reducible refine Blk.other ?_ _ ?_); rotate_left; ((try dsimp only); omega)) | with_reducible refine Blk.setB (cs0 := ?_) ?_ ?_))) no_elim
    have hY4 : Blk w4 w3.heap.size [.int .i64 y0, .int .i64 y1, .int .i64 y2, .int .i64 y3, .int .i64 y4, .int .i64 y5] 102 := k4.blk (by (repeat' (first | ((with_reducible show (_ : List Value) = _); rfl) | ((with_reducible refine Blk.newAt _ _ _ ?_); first | with_reducible rfl | (simp; done)) | with_reducible refine Blk.alloc ?_ _ | with_reducible refine Blk.drewN ?_ _ | with_reducible refine Blk.drew ?_ | ((with_reducible refine Blk.other ?_ _ ?_); rotate_left; ((try dsimp only); omega)) | with_reducible refine Blk.setB (cs0 := ?_) ?_ ?_))) no_elim
    have HF4 := hide (HF3.out.kp (Kp.trans (by (repeat' (first | with_reducible exact Kp.refl _ _ | with_reducible refine Kp.alloc ?_ _ | with_reducible refine Kp.drewN ?_ _ | with_reducible refine Kp.drew ?_ | with_reducible refine Kp.setCell ?_ _ ?_ | (intro hh; first | rfl | exact .inl rfl | exact .inr rfl | (exfalso; (try dsimp only at hh); omega))))) k4 (fun _ _ e => e)))
    have HK4 := hide (HK3.out.trans (S' := no) (Kp.trans (by (repeat' (first | with_reducible exact Kp.refl _ _ | with_reducible refine Kp.alloc ?_ _ | with_reducible refine Kp.drewN ?_ _ | with_reducible refine Kp.drew ?_ | with_reducible refine Kp.setCell ?_ _ ?_ | (intro hh; first | rfl | exact .inl rfl | exact .inr rfl | (exfalso; (try dsimp only at hh); omega))))) k4 (fun _ _ e => e)) (fun _ _ e => e))
    have HZO := hide hZ6
    have HNO := hide hZn
    clear k4 n0 n1 n2 n3 n4 n5 n6 n7 n8 n9 n10 nf hN3 hnl a0 a1 a2 a3 a4 a5 af al hA3 HF3 HK3 hZ6 hZn
    obtain ⟨n0, n1, n2, n3, n4, n5, n6, n7, n8, n9, n10, nf⟩ := hN4.c11; have hnl := hN4.lt
    obtain ⟨b0, b1, b2, b3, b4, b5, bf, bl⟩ := hY4.c6
    have HCO1 := hide (fun W hW => come_c fp tb n T g yn [y0, y1, y2, y3, y4, y5] W hW hT HZY.out)
    have HOK1 := hide (hT.into yn (HSOK.out.alg nd true))
    rw [HNY.out] at HCO1
    rw [show Value.agg (zc [y0, y1, y2, y3, y4, y5]).toArray = zv6 y0 y1 y2 y3 y4 y5 from rfl] at HCO1
    have HCO2 := hide (fun W g hW => come_c fp tb n (intoF T yn (algF nd true [m0, m1, m2, m3, m4, m5])).1 g nn [o0, o1, o2, o3, o4, o5] W hW HOK1.out HZO.out)
    rw [HNO.out] at HCO2
    rw [show Value.agg (zc [o0, o1, o2, o3, o4, o5]).toArray = zv6 o0 o1 o2 o3 o4 o5 from rfl] at HCO2
    generalize intoF T yn (algF nd true [m0, m1, m2, m3, m4, m5]) = I1 at *
    obtain ⟨T1, g1⟩ := I1
    dsimp only at HCO1 HCO2 HPP
    go_wp2_with fail
    refine (HCO1.out _ (HF4.out.kp (by (repeat' (first | with_reducible exact Kp.refl _ _ | with_reducible refine Kp.alloc ?_ _ | with_reducible refine Kp.drewN ?_ _ | with_reducible refine Kp.drew ?_ | with_reducible refine Kp.setCell ?_ _ ?_ | (intro hh; first | rfl | exact .inl rfl | exact .inr rfl | (exfalso; (try dsimp only at hh); omega))))))).mono ?_
    rintro e w5 ⟨rfl, hF5, k5⟩
    have hne : ∀ b, w.heap.size ≤ b → ¬ TK2 fp tb b := fun b hb e => by
      have := HH.out.c.2.2.2.2
      rcases e with rfl | rfl <;> omega
    have hN5 : Blk w5 w.heap.size [.string tx, .int .i64 act, .int .i64 nd.x, .int .i64 nd.y, .int .i64 nwv, .int .i64 ckk, .int .i64 cnn, .int .i64 chh, .int .i64 kdv, .int .i64 yn, .int .i64 nn] 91 := k5.blk (by (repeat' (first | ((with_reducible show (_ : List Value) = _); rfl) | with_reducible exact hN4 | ((with_reducible refine Blk.newAt _ _ _ ?_); first | with_reducible rfl | (simp; done)) | with_reducible refine Blk.alloc ?_ _ | with_reducible refine Blk.drewN ?_ _ | with_reducible refine Blk.drew ?_ | ((with_reducible refine Blk.other ?_ _ ?_); rotate_left; ((try dsimp only); omega)) | with_reducible refine Blk.setB (cs0 := ?_) ?_ ?_))) (hne _ (Nat.le_refl _))
    have hO5 : Blk w5 w4.heap.size [.int .i64 o0, .int .i64 o1, .int .i64 o2, .int .i64 o3, .int .i64 o4, .int .i64 o5] 102 := k5.blk (by (repeat' (first | ((with_reducible show (_ : List Value) = _); rfl) | ((with_reducible refine Blk.newAt _ _ _ ?_); first | with_reducible rfl | (simp; done)) | with_reducible refine Blk.alloc ?_ _ | with_reducible refine Blk.drewN ?_ _ | with_reducible refine Blk.drew ?_ | ((with_reducible refine Blk.other ?_ _ ?_); rotate_left; ((try dsimp only); omega)) | with_reducible refine Blk.setB (cs0 := ?_) ?_ ?_))) (hne _ HK4.out.size)
    have HK5 := hide (show Kp (TK2 fp tb) w w5 from Kp.trans (S' := TK2 fp tb) (HK4.out.mono (fun _ e => e.elim) |>.alloc _) k5 (fun _ _ e => e))
    clear k5 n0 n1 n2 n3 n4 n5 n6 n7 n8 n9 n10 nf hN4 hnl b0 b1 b2 b3 b4 b5 bf bl hY4
    obtain ⟨n0, n1, n2, n3, n4, n5, n6, n7, n8, n9, n10, nf⟩ := hN5.c11; have hnl := hN5.lt
    obtain ⟨b0, b1, b2, b3, b4, b5, bf, bl⟩ := hO5.c6
    have HF5 := hide hF5
    clear hF5
    go_wp2_with fail
    refine (HCO2.out _ _ HF5.out).mono ?_
    rintro e w6 ⟨rfl, hF6, k6⟩
    go_wp2
    go_end0
    rw [HPP.out]
    refine ⟨rfl, ?_, HK5.out.trans k6 (fun _ _ e => e)⟩
    rw [← Bool.or_assoc]
    exact hF6
end Go.Proofs.YtellieabhaphhaaGreatDoor

/-
  narrow's flow: the least table.
-/
namespace Go.Proofs.YtellieabhaphhaaGreatDoor
open Go.RowKit

theorem info_st : (Tryz.prog.info? 102).map (fun i => (i.zero, i.size, i.bytes)) = some (some (.agg #[.int .i64 0, .int .i64 0, .int .i64 0, .int .i64 0, .int .i64 0, .int .i64 0]), 6, 48) := by kernel_rfl

theorem made_six (n : Nat) : (madeCells (Value.agg #[.int .i64 0, .int .i64 0, .int .i64 0, .int .i64 0, .int .i64 0, .int .i64 0]).cells (n * 6)).toList = tCells (List.replicate n []) := by
  apply List.ext_getElem
  · rw [tCells, flat_len _ 6 zce6]; simp [madeCells]
  · intro i h1 h2
    have hc : (Value.agg #[.int .i64 0, .int .i64 0, .int .i64 0, .int .i64 0, .int .i64 0, .int .i64 0]).cells = #[.int .i64 0, .int .i64 0, .int .i64 0, .int .i64 0, .int .i64 0, .int .i64 0] := rfl
    have hall : ∀ v ∈ tCells (List.replicate n []), v = .int .i64 0 := by
      intro v hv
      rw [tCells, List.mem_flatMap] at hv
      obtain ⟨s, hs, hv⟩ := hv
      rw [List.eq_of_mem_replicate hs] at hv
      simp [zc, encZ] at hv
      exact hv
    rw [hall _ (List.getElem_mem h2)]
    simp only [madeCells, hc, Array.getElem_toList, Array.getElem_map, Array.getElem_range]
    have hm : i % 6 < 6 := Nat.mod_lt _ (by decide)
    rcases (show i % 6 = 0 ∨ i % 6 = 1 ∨ i % 6 = 2 ∨ i % 6 = 3 ∨ i % 6 = 4 ∨ i % 6 = 5 by omega) with e | e | e | e | e | e <;> simp [e]

theorem rowk_blk {w : World} {b n k : Nat} {T : TypeId} {vs : List Value} (h : Row w (.slice (some ⟨b, 0, none⟩) n n) T k n vs) : Blk w b vs T := by
  rcases h.2 with ⟨e, _⟩ | ⟨g, cap, cur, e, _, hg, _, _, hs, ht⟩
  · cases e
  · injection e with e1 e2 e3
    injection e1 with e1
    injection e1 with e1
    subst e1 e3
    rw [List.take_of_length_le (by simp [hs])] at ht
    unfold Blk
    rw [hg, ← ht]

/-- The table at the beginning. -/
def tN (n : Nat) : Tbl := (tR n).take n

theorem tN_into (n : Nat) : intoF (List.replicate n []) 0 st0 = (tN n, decide (0 < n)) := by
  cases n with
  | zero => rfl
  | succ n =>
    rw [intoF, if_pos (by simp)]
    have e : joinR ((List.replicate (n + 1) ([] : St)).getD (0 : Int).toNat []) st0 = (st0, true) := rfl
    rw [e]
    refine Prod.ext ?_ (by simp)
    show (List.replicate (n + 1) ([] : St)).set 0 st0 = (st0 :: List.replicate (n + 1) []).take (n + 1)
    rw [List.replicate_succ, List.set_cons_zero, List.take_succ_cons, ← List.replicate_succ, List.take_replicate]
    simp

theorem tN_len (n : Nat) : (tN n).length = n := by rw [tN, tR, List.length_take]; simp
theorem tN_ok (n : Nat) : TOk (tN n) := fun s hs => tR_ok n s (List.mem_of_mem_take hs)
theorem rep_ok (n : Nat) : TOk (List.replicate n []) := fun s hs => by rw [List.eq_of_mem_replicate hs]; exact .nil

theorem lst_tN (l : List Nd) : lstF l = itF l 4000 (tN l.length) := by
  rw [lstF, it_take (Nat.le_refl _) (by simp [tR])]; rfl

theorem st0_z6 : Z6 st0 := ⟨rfl, by decide⟩
theorem nrm_st0 : nrm st0 = st0 := rfl

/-- The flow and the nodes. -/
structure NS (w : World) (fp tb n : Nat) (T : Tbl) (g : Bool) (v : Value) (L : List NN) : Prop where
  f : FT w fp tb n T g
  r : NRow w v L
  o1 : v.ownBlock ≠ some fp
  o2 : v.ownBlock ≠ some tb

theorem NS.kp {w w' : World} {fp tb n : Nat} {T : Tbl} {g : Bool} {v : Value} {L : List NN} (h : NS w fp tb n T g v L) (k : Kp no w w') : NS w' fp tb n T g v L :=
  ⟨h.f.kp k, k.row h.r (fun _ _ => no_elim), h.o1, h.o2⟩
theorem NS.tk {w w' : World} {fp tb n : Nat} {T T' : Tbl} {g g' : Bool} {v : Value} {L : List NN} (h : NS w fp tb n T g v L) (k : Kp (TK2 fp tb) w w') (f : FT w' fp tb n T' g') : NS w' fp tb n T' g' v L :=
  ⟨f, k.row h.r (fun b hb e => by rcases e with rfl | rfl; exact h.o1 hb; exact h.o2 hb), h.o1, h.o2⟩
theorem NS.turn {w : World} {fp tb n : Nat} {T : Tbl} {g : Bool} {v : Value} {L : List NN} (h : NS w fp tb n T g v L) (b : Bool) : NS (w.setCell ⟨fp, 1, none⟩ (.bool b)) fp tb n T b v L :=
  ⟨h.f.turn b, Row.set h.r _ h.o1, h.o1, h.o2⟩

set_option maxRecDepth 100000 in
set_option maxHeartbeats 1600000 in
theorem leastTable_c (s : ByteArray) (v : Value) (l : List Nd) (w : World) (h : NRow w v (l.map (encX s))) (hl : l.length ≤ 90) (hg : ∀ n ∈ l, Gd s n) :
    Calls Tryz.prog 37 #[v] w fun e w' => ∃ tb, e = .returned (.slice (some ⟨tb, 0, none⟩) l.length l.length) ∧ Blk w' tb (tCells (lstF l)) 102 ∧ Kp no w w' := by
  obtain ⟨i0, hi, hz0, hz1, hz2⟩ := info_parts info_st
  obtain ⟨a, cap, rfl⟩ := h.shape
  rw [List.length_map] at h ⊢
  have HD := hide h
  clear h
  go_enter Tryz.func37, Tryz.ntmps37
  go_wp2_with (at_make; refine wpList_make_full _ rfl (.tmp 8) (.tmp 8) 59 rfl 0 102 i0 _ 6 Tryz.underlying59 hi hz0 hz1 .i64 .i64 (l.length : Int) (l.length : Int) l.length (by simp [Act.eval]) (by simp [Act.eval]) rfl rfl (by rw [hz2]; omega) (by unfold maxLen; omega) (Nat.zero_le _) ?_; intro w1 hrow hgrow)
  have k1 : Kp no w w1 := (Kp.refl _ _).grown hgrow (fun k _ e => by cases e)
  have hb := rowk_blk hrow
  rw [made_six] at hb
  have hbl := hb.lt
  have hN0 : NS (w1.alloc (.cells #[.slice (some ⟨w.heap.size, 0, none⟩) l.length l.length, .bool false] 99)) w1.heap.size w.heap.size l.length (List.replicate l.length []) false (.slice a l.length cap) (l.map (encX s)) := by
    refine ⟨⟨by (repeat' (first | ((with_reducible show (_ : List Value) = _); rfl) | ((with_reducible refine Blk.newAt _ _ _ ?_); first | with_reducible rfl | (simp; done)) | with_reducible refine Blk.alloc ?_ _ | with_reducible refine Blk.drewN ?_ _ | with_reducible refine Blk.drew ?_ | ((with_reducible refine Blk.other ?_ _ ?_); rotate_left; ((try dsimp only); omega)) | with_reducible refine Blk.setB (cs0 := ?_) ?_ ?_)), by omega, by simp, hb.alloc _⟩, World.ownsRow.alloc (k1.row HD.out (fun _ _ => no_elim)) _, ?_, ?_⟩
    · intro e; have := Row.lt HD.out e; have := k1.size; omega
    · intro e; have := Row.lt HD.out e; omega
  have hk0 : Kp no w (w1.alloc (.cells #[.slice (some ⟨w.heap.size, 0, none⟩) l.length l.length, .bool false] 99)) := k1.alloc _
  have hs1 := k1.size
  refine (firstState_c _).mono ?_
  rintro e w2 ⟨rfl, k2⟩
  rw [show Value.agg (zc st0).toArray = zv6 8 8 8 8 8 8 from rfl]
  have HN2 := hide (hN0.kp k2)
  have HK2 := hide (hk0.trans k2 (fun _ _ e => e))
  clear hN0 hk0 k2 hb hrow hgrow k1 hbl
  generalize w1.heap.size = fp at *
  obtain ⟨tb, htb⟩ : ∃ tb, tb = w.heap.size := ⟨_, rfl⟩
  rw [← htb] at HN2 ⊢
  have HTB := hide htb
  have HTP := hide hs1
  clear hs1 htb
  have HCO := hide (fun W hW => come_c fp tb l.length (List.replicate l.length []) false 0 st0 W hW (rep_ok _) st0_z6)
  rw [nrm_st0, tN_into, Bool.false_or] at HCO
  rw [show Value.agg (zc st0).toArray = zv6 8 8 8 8 8 8 from rfl] at HCO
  dsimp only at HCO
  go_wp2_with fail
  refine (HCO.out _ (HN2.out.f.kp (by (repeat' (first | with_reducible exact Kp.refl _ _ | with_reducible refine Kp.alloc ?_ _ | with_reducible refine Kp.drewN ?_ _ | with_reducible refine Kp.drew ?_ | with_reducible refine Kp.setCell ?_ _ ?_ | (intro hh; first | rfl | exact .inl rfl | exact .inr rfl | (exfalso; (try dsimp only at hh); omega))))))).mono ?_
  rintro e w3 ⟨rfl, hF3, k3⟩
  have HN3 := hide ((HN2.out.kp (by (repeat' (first | with_reducible exact Kp.refl _ _ | with_reducible refine Kp.alloc ?_ _ | with_reducible refine Kp.drewN ?_ _ | with_reducible refine Kp.drew ?_ | with_reducible refine Kp.setCell ?_ _ ?_ | (intro hh; first | rfl | exact .inl rfl | exact .inr rfl | (exfalso; (try dsimp only at hh); omega)))))).tk k3 hF3)
  have HK3 := hide ((HK2.out.alloc _).trans k3 (fun x hx e => by have := HTB.out; have := HTP.out; rcases e with rfl | rfl <;> omega))
  clear hF3 k3 HN2 HK2 HCO
  have HOK := hide (tN_ok l.length)
  have HTL := hide (tN_len l.length)
  have HFIN := hide (lst_tN l)
  go_wp2
  go_loopg [] 4000 (fun k wr => ∃ (j : Nat) (g : Bool), k = 4000 - j ∧ NS wr fp tb l.length (itF l j (tN l.length)) g (.slice a l.length cap) (l.map (encX s)) ∧ (g = true → j ≤ mT (itF l j (tN l.length))) ∧ (g = false → (swpF l 0 (itF l j (tN l.length))).1 = itF l j (tN l.length) ∧ j ≤ 4000) ∧ Kp no w wr)
  case atStart =>
    refine ⟨0, _, rfl, HN3.out, fun _ => Nat.zero_le _, fun e => ⟨?_, Nat.zero_le _⟩, HK3.out⟩
    have h0 : l.length = 0 := by have := of_decide_eq_false e; omega
    rw [List.length_eq_zero_iff.1 h0]
    rfl
  case round =>
    obtain ⟨j, g, hk, hS, hgt, hgf, kr⟩ := hrel
    have HKK := hide hk
    have HS := hide hS
    have HGT := hide hgt
    have HGF := hide hgf
    have HKR := hide kr
    obtain ⟨c0, c1, cf, cg, cl, cm⟩ := hS.f.c
    have HTO := hide (TOk.it (l := l) (k := j) HOK.out)
    have HIT := hide (it_succ l j (tN l.length))
    have HRST := hide (fun hf hj => it_rest l (tN l.length) j hf 4000 hj)
    have HBD := hide (show mT (itF l j (tN l.length)) ≤ 3780 from Nat.le_trans (mT_le HTO.out) (by rw [it_len, HTL.out]; omega))
    clear hk hS hgt hgf kr
    generalize hTT : itF l j (tN l.length) = T at *
    cases g
    · obtain ⟨hf, hj⟩ := HGF.out rfl
      have HR2 := hide (HRST.out hf hj)
      clear hf hj hTT
      go_wp2
      go_ret
      refine ⟨tb, rfl, ?_, HKR.out⟩
      rw [HFIN.out, HR2.out]
      exact HS.out.f.b
    · have hj := HGT.out rfl
      have hsw := swp_le (l := l) (i := 0) HTO.out
      have HSW := hide hsw
      clear hTT hsw
      go_wp2
      go_loopg [19] l.length (fun k iv wx => ∃ q : Nat, q ≤ l.length ∧ k = l.length - q ∧ iv = .int .i64 q ∧ NS wx fp tb l.length (swpF (l.take q) 0 T).1 (swpF (l.take q) 0 T).2 (.slice a l.length cap) (l.map (encX s)) ∧ Kp no w wx)
      case atStart => exact ⟨0, Nat.zero_le _, rfl, rfl, HS.out.turn false, HKR.out.setCell _ (fun hb => by have := HTP.out; dsimp only at hb; omega)⟩
      case round =>
        obtain ⟨q, hq, hk2, rfl, hS2, kx⟩ := hrel
        have HKK2 := hide hk2
        have HB := hide hS2
        have HKB := hide kx
        clear hk2 hS2 kx c0 c1 cf cg cl cm
        by_cases hlt : q < l.length
        · obtain ⟨nd, hnd⟩ : ∃ nd, l[q]? = some nd := ⟨_, List.getElem?_eq_getElem hlt⟩
          have HGD := hide (hg nd (List.mem_of_getElem? hnd))
          have HSN := hide (show swpF (l.take (q + 1)) 0 T = ((pasF nd q (swpF (l.take q) 0 T).1).1, (swpF (l.take q) 0 T).2 || (pasF nd q (swpF (l.take q) 0 T).1).2) by
            obtain ⟨h1, rfl⟩ := List.getElem?_eq_some_iff.1 hnd
            rw [List.take_succ_eq_append_getElem h1, swp_snoc, List.length_take, Nat.min_eq_left hq, Nat.zero_add])
          have HTQ := hide (TOk.swp (l := l.take q) (i := 0) HTO.out)
          have hRR : NRow wr (.slice a (l.map (encX s)).length cap) (l.map (encX s)) := by
            have := HB.out.r
            rw [show (Value.slice a l.length cap) = .slice a (l.map (encX s)).length cap by rw [List.length_map]] at this
            exact this
          obtain ⟨_, gn, ha, hgn, n0, n1, n2, n3, n4, n5, n6, n7, n8, n9, n10⟩ := NRow.at hRR (k := q) (n := encX s nd) (by rw [List.getElem?_map, hnd]; rfl)
          subst ha
          clear hnd hRR
          generalize swpF (l.take q) 0 T = TG at *
          obtain ⟨T1, g1⟩ := TG
          dsimp only at HSN HTQ HB
          have HPA := hide (fun W hW => pass_c fp tb l.length T1 g1 q nd (s.extract nd.a.toNat (nd.a + nd.l).toNat) W hW HTQ.out hlt HGD.out.g)
          dsimp only [encX, encN] at n0 n1 n2 n3 n4 n5 n6 n7 n8 n9 n10
          generalize s.extract nd.a.toNat (nd.a + nd.l).toNat = tx at *
          generalize pasF nd q T1 = PF at *
          generalize yesN nd = yn at *
          generalize noN nd = nn at *
          generalize actN nd.op = act at *
          generalize (if nd.op = 43 ∨ nd.op = 60 then nd.v else nd.y) = nwv at *
          generalize (if nd.op = 126 ∨ nd.op = 58 then bit nd.k else 0) = kdv at *
          generalize (consN nd).n = cnn at *
          generalize bit (consN nd).k = ckk at *
          generalize bit (consN nd).v = chh at *
          have hqI : (q : Int) < l.length := by omega
          go_wp2_with fail
          refine (HPA.out _ (HB.out.f.kp (by (repeat' (first | with_reducible exact Kp.refl _ _ | with_reducible refine Kp.alloc ?_ _ | with_reducible refine Kp.drewN ?_ _ | with_reducible refine Kp.drew ?_ | with_reducible refine Kp.setCell ?_ _ ?_ | (intro hh; first | rfl | exact .inl rfl | exact .inr rfl | (exfalso; (try dsimp only at hh); omega))))))).mono ?_
          rintro e w5 ⟨rfl, hF5, k5⟩
          have HB5 := hide ((HB.out.kp (by (repeat' (first | with_reducible exact Kp.refl _ _ | with_reducible refine Kp.alloc ?_ _ | with_reducible refine Kp.drewN ?_ _ | with_reducible refine Kp.drew ?_ | with_reducible refine Kp.setCell ?_ _ ?_ | (intro hh; first | rfl | exact .inl rfl | exact .inr rfl | (exfalso; (try dsimp only at hh); omega)))))).tk k5 hF5)
          have HK5 := hide ((HKB.out.alloc _).trans k5 (fun x hx e => by have := HTB.out; have := HTP.out; rcases e with rfl | rfl <;> omega))
          go_wp2
          go_roundg (l.length - (q + 1))
          case measure => have := HKK2.out; omega
          case rel => exact ⟨q + 1, by omega, rfl, by go_num, by rw [HSN.out]; exact HB5.out, HK5.out⟩
        · obtain rfl : q = l.length := by omega
          rw [List.take_length] at HB
          go_wp2
          go_roundg (4000 - (j + 1))
          case measure => have := HKK.out; have := HBD.out; omega
          case rel =>
            refine ⟨j + 1, _, rfl, by rw [HIT.out]; exact HB.out, ?_, ?_, HKB.out⟩
            · intro e
              rw [HIT.out]
              have := HSW.out.2 e
              omega
            · intro e
              rw [HIT.out, swp_same e]
              exact ⟨swp_same e, by have := HBD.out; omega⟩
end Go.Proofs.YtellieabhaphhaaGreatDoor

/-
  narrowref's flow: what comes behind a node, and along the ways of a test.
-/
namespace Go.Proofs.YtellieabhaphhaaGreatDoor
open Go.RowKit

set_option maxRecDepth 100000 in
set_option maxHeartbeats 1600000 in
theorem behind_one (n : Nd) (v : Value) (s : St) (w : World) (h : SV w v s) (hs : SOk s) (h0 : s ≠ []) (hg : Gn n) (hG : opG n.op) (ho : ¬ (n.op = 43 ∨ n.op = 60)) :
    Calls Tryz.prog 72 #[.agg #[.int .u8 n.op, .int .i64 n.x, .int .i64 n.y, .int .i64 n.v, .int .u8 n.k, .int .i64 n.t, .int .i64 n.f, .int .i64 n.a, .int .i64 n.l], v] w fun e w' => ∃ u, e = .returned u ∧ SV w' u (behF n s) ∧ New w u ∧ Kp no w w' := by
  obtain ⟨x, hx⟩ := Int.eq_ofNat_of_zero_le hg.x.1
  obtain ⟨y, hy⟩ := Int.eq_ofNat_of_zero_le hg.y.1
  have hx6 : x < 6 := by have := hg.x.2; omega
  have hy6 : y < 6 := by have := hg.y.2; omega
  have hG0 := hG
  unfold opG at hG
  have HE := hide (show behF n s = withS (withS s y (s.getD y 0 &&& tkN n.op)) x (givN n.op (s.getD y 0 &&& tkN n.op)) by
    rw [behF, if_neg (by omega), if_neg (by omega), if_neg (by omega), if_neg (fun e => ho e.2), hx, hy]; rfl)
  rw [HE.out]
  obtain ⟨h6, hm⟩ := hs.resolve_left h0
  have HS := hide h
  obtain ⟨a, cap, rfl⟩ := h.shape
  have h' : Row w (.slice a s.length cap) 9 1 s.length (sgS s) := h
  rw [h6] at h' HS ⊢
  clear h
  have HT := hide (fun W => takes_c n W)
  rw [tak_sg] at HT
  have HV := hide (fun Y W => gives_c n Y W hG0)
  obtain ⟨op, nx, ny, nv, nk, nt, nff, na, nl⟩ := n
  dsimp only at *
  subst hx hy
  obtain ⟨g, rfl, hgl, hgc⟩ := SV.at h' (k := y) hy6
  have HB := hide (fun W => both_c (sgB (s.getD y 0)) (sgB (tkN op)) W (Nat.le_trans (sg_size _) (by decide)) (Nat.le_trans (sg_size _) (by decide)))
  rw [both_sg] at HB
  have HM := hide (and_lt (tkN op) (hs.get y))
  have HGC := hide hgc
  have g1 : (op == 33) = false := by simp; omega
  have g2 : (op == 42) = false := by simp; omega
  have g3 : (op == 94) = false := by simp; omega
  have g4 : (op == 126) = false := by simp; omega
  have g5 : (op == 43) = false := by simp; omega
  have g6 : (op == 60) = false := by simp; omega
  clear hG ho hG0 HE h6 hm
  generalize s.getD y 0 &&& tkN op = m at *
  generalize tkN op = tk at *
  have hsz := sg_size (s.getD y 0)
  generalize sgB (s.getD y 0) = sy at *
  go_enter Tryz.func72, Tryz.ntmps72
  go_wp2_with fail
  refine wp_gen (fun W => Blk W w.heap.size [.int .u8 op, .int .i64 x, .int .i64 y, .int .i64 nv, .int .u8 nk, .int .i64 nt, .int .i64 nff, .int .i64 na, .int .i64 nl] 63 ∧ Kp no w W) ⟨by (repeat' (first | ((with_reducible show (_ : List Value) = _); rfl) | ((with_reducible refine Blk.newAt _ _ _ ?_); first | with_reducible rfl | (simp; done)) | with_reducible refine Blk.alloc ?_ _ | with_reducible refine Blk.drewN ?_ _ | with_reducible refine Blk.drew ?_ | ((with_reducible refine Blk.other ?_ _ ?_); rotate_left; ((try dsimp only); omega)) | with_reducible refine Blk.setB (cs0 := ?_) ?_ ?_)), by (repeat' (first | with_reducible exact Kp.refl _ _ | with_reducible refine Kp.alloc ?_ _ | with_reducible refine Kp.drewN ?_ _ | with_reducible refine Kp.drew ?_ | with_reducible refine Kp.setCell ?_ _ ?_ | (intro hh; first | rfl | exact .inl rfl | exact .inr rfl | (exfalso; (try dsimp only at hh); omega))))⟩ ?_
  rintro W ⟨hN, hk⟩
  obtain ⟨n0, n1, n2, n3, n4, n5, n6, n7, n8, nf⟩ := hN.c9; have hnl := hN.lt
  have nn := hN.cell
  have hc1 := (hk.cell hgl no_elim y).trans HGC.out
  have hg1 := Nat.lt_of_lt_of_le hgl hk.size
  have hyI : (y : Int) < 6 := by omega
  go_cut [6] from 10 (fun yv W5 => yv = .string (sgB m) ∧ Blk W5 w.heap.size [.int .u8 op, .int .i64 x, .int .i64 y, .int .i64 nv, .int .u8 nk, .int .i64 nt, .int .i64 nff, .int .i64 na, .int .i64 nl] 63 ∧ Kp no w W5)
  case first =>
    go_region_with (first | (go_at_call 119; refine (HT.out _).mono ?_; rintro e w5 ⟨rfl, k5⟩; have hN5 := k5.blk (b := w.heap.size) hN no_elim; obtain ⟨n0, n1, n2, n3, n4, n5, n6, n7, n8, nf⟩ := hN5.c9; have hnl := hN5.lt; have hk5 : Kp no w w5 := Kp.trans (by (repeat' (first | with_reducible exact Kp.refl _ _ | with_reducible refine Kp.alloc ?_ _ | with_reducible refine Kp.drewN ?_ _ | with_reducible refine Kp.drew ?_ | with_reducible refine Kp.setCell ?_ _ ?_ | with_reducible refine Kp.trans ?_ hk (fun _ _ e => e) | (intro hh; first | rfl | exact .inl rfl | exact .inr rfl | (exfalso; (try dsimp only at hh); omega))))) k5 (fun _ _ e => e); have hc5 := (hk5.cell hgl no_elim y).trans HGC.out; have hg5 := Nat.lt_of_lt_of_le hgl hk5.size) | (go_at_call 117; refine (HB.out _).mono ?_; rintro e w' ⟨rfl, rfl⟩))
    all_goals
      go_wp2
      go_meet
      case rel => exact ⟨rfl, hN5, by (repeat' (first | with_reducible exact Kp.refl _ _ | with_reducible refine Kp.alloc ?_ _ | with_reducible refine Kp.drewN ?_ _ | with_reducible refine Kp.drew ?_ | with_reducible refine Kp.setCell ?_ _ ?_ | with_reducible refine Kp.trans ?_ hk5 (fun _ _ e => e) | (intro hh; first | rfl | exact .inl rfl | exact .inr rfl | (exfalso; (try dsimp only at hh); omega))))⟩
  case rest =>
    obtain ⟨rfl, hN5, hk5⟩ := hcut
    obtain ⟨p0, p1, p2, p3, p4, p5, p6, p7, p8, pf⟩ := hN5.c9; have hpl := hN5.lt
    clear n0 n1 n2 n3 n4 n5 n6 n7 n8 hnl hN hk nn hc1 hg1
    go_wp2_with fail
    refine (with_c _ s y m _ (Kp.row (S := no) (by (repeat' (first | with_reducible exact Kp.refl _ _ | with_reducible refine Kp.alloc ?_ _ | with_reducible refine Kp.drewN ?_ _ | with_reducible refine Kp.drew ?_ | with_reducible refine Kp.setCell ?_ _ ?_ | with_reducible refine Kp.trans ?_ hk5 (fun _ _ e => e) | (intro hh; first | rfl | exact .inl rfl | exact .inr rfl | (exfalso; (try dsimp only at hh); omega))))) HS.out (fun _ _ => no_elim)) hs hy6 HM.out).mono ?_
    rintro e w6 ⟨u, rfl, hu, hnew, k6⟩
    have hN6 := k6.blk (b := w.heap.size) hN5 no_elim
    have hk6 : Kp no w w6 := Kp.trans (by (repeat' (first | with_reducible exact Kp.refl _ _ | with_reducible refine Kp.alloc ?_ _ | with_reducible refine Kp.drewN ?_ _ | with_reducible refine Kp.drew ?_ | with_reducible refine Kp.setCell ?_ _ ?_ | with_reducible refine Kp.trans ?_ hk5 (fun _ _ e => e) | (intro hh; first | rfl | exact .inl rfl | exact .inr rfl | (exfalso; (try dsimp only at hh); omega))))) k6 (fun _ _ e => e)
    obtain ⟨m0, m1, m2, m3, m4, m5, m6, m7, m8, mf⟩ := hN6.c9; have hml := hN6.lt
    have ok2 := hs.withS y m HM.out
    obtain ⟨au, cu, rfl⟩ := hu.shape
    have HU := hide hu
    have OK2 := hide ok2
    clear hnew hu
    generalize ht0 : withS s y m = t at *
    have HT0 := hide ht0
    clear ht0
    have ht06 : t.length = 0 ∨ t.length = 6 := by
      rcases ok2 with rfl | h
      · exact .inl rfl
      · exact .inr h.1
    rcases ht06 with ht | ht
    all_goals
      rw [ht] at HU ⊢
      clear ht ok2 p0 p1 p2 p3 p4 p5 p6 p7 p8 pf hpl
      go_wp2_with fail
      refine (HV.out m _).mono ?_
      rintro e w7 ⟨rfl, k7⟩
      have hk7 : Kp no w w7 := Kp.trans (by (repeat' (first | with_reducible exact Kp.refl _ _ | with_reducible refine Kp.alloc ?_ _ | with_reducible refine Kp.drewN ?_ _ | with_reducible refine Kp.drew ?_ | with_reducible refine Kp.setCell ?_ _ ?_ | with_reducible refine Kp.trans ?_ hk6 (fun _ _ e => e) | (intro hh; first | rfl | exact .inl rfl | exact .inr rfl | (exfalso; (try dsimp only at hh); omega))))) k7 (fun _ _ e => e)
      have hN7 := k7.blk (b := w.heap.size) hN6 no_elim
      obtain ⟨q0, q1, q2, q3, q4, q5, q6, q7, q8, qf⟩ := hN7.c9; have hql := hN7.lt
      go_wp2_with fail
      refine (with_c _ t x (givN op m) _ (Kp.row (S := no) (by (repeat' (first | with_reducible exact Kp.refl _ _ | with_reducible refine Kp.alloc ?_ _ | with_reducible refine Kp.drewN ?_ _ | with_reducible refine Kp.drew ?_ | with_reducible refine Kp.setCell ?_ _ ?_ | with_reducible refine Kp.trans ?_ k7 (fun _ _ e => e) | (intro hh; first | rfl | exact .inl rfl | exact .inr rfl | (exfalso; (try dsimp only at hh); omega))))) HU.out (fun _ _ => no_elim)) OK2.out hx6 (givN_lt op HM.out)).mono ?_
      rintro e w8 ⟨u2, rfl, hu2, hnew2, k8⟩
      go_wp2
      go_ret
      exact ⟨_, rfl, by rw [HT0.out]; exact hu2, fun b hb => Nat.le_trans hk7.size (hnew2 b hb), Kp.trans (by (repeat' (first | with_reducible exact Kp.refl _ _ | with_reducible refine Kp.alloc ?_ _ | with_reducible refine Kp.drewN ?_ _ | with_reducible refine Kp.drew ?_ | with_reducible refine Kp.setCell ?_ _ ?_ | with_reducible refine Kp.trans ?_ hk7 (fun _ _ e => e) | (intro hh; first | rfl | exact .inl rfl | exact .inr rfl | (exfalso; (try dsimp only at hh); omega))))) k8 (fun _ _ e => e)⟩
end Go.Proofs.YtellieabhaphhaaGreatDoor

/-
  narrowref's flow: what comes behind a node of two operands, a cast, and the others; along the ways of a test.
-/
namespace Go.Proofs.YtellieabhaphhaaGreatDoor
open Go.RowKit

set_option maxRecDepth 100000 in
set_option maxHeartbeats 3200000 in
theorem behind_two (n : Nd) (v : Value) (s : St) (w : World) (h : SV w v s) (hs : SOk s) (h0 : s ≠ []) (hg : Gn n) (ho : n.op = 43 ∨ n.op = 60) :
    Calls Tryz.prog 72 #[.agg #[.int .u8 n.op, .int .i64 n.x, .int .i64 n.y, .int .i64 n.v, .int .u8 n.k, .int .i64 n.t, .int .i64 n.f, .int .i64 n.a, .int .i64 n.l], v] w fun e w' => ∃ u, e = .returned u ∧ SV w' u (behF n s) ∧ New w u ∧ Kp no w w' := by
  obtain ⟨x, hx⟩ := Int.eq_ofNat_of_zero_le hg.x.1
  obtain ⟨y, hy⟩ := Int.eq_ofNat_of_zero_le hg.y.1
  have hx6 : x < 6 := by have := hg.x.2; omega
  have hy6 : y < 6 := by have := hg.y.2; omega
  obtain ⟨z, hz⟩ := Int.eq_ofNat_of_zero_le hg.v.1
  have hz6 : z < 6 := by have := hg.v.2; omega
  have hG0 : opG n.op := by unfold opG; omega
  have HE0 := hide (show withS s y (s.getD y 0 &&& tkN n.op) = [] → behF n s = [] from fun e => by
    rw [behF, if_neg (by omega), if_neg (by omega), if_neg (by omega), hy, Int.toNat_natCast, e, if_neg (by simp)]; simp [withS])
  have HE1 := hide (show withS s y (s.getD y 0 &&& tkN n.op) ≠ [] → behF n s = withS (withS (withS s y (s.getD y 0 &&& tkN n.op)) z ((withS s y (s.getD y 0 &&& tkN n.op)).getD z 0 &&& tkN n.op)) x (givN n.op (s.getD y 0 &&& tkN n.op)) from fun e => by
    rw [behF, if_neg (by omega), if_neg (by omega), if_neg (by omega), hx, hy, hz, Int.toNat_natCast, Int.toNat_natCast, Int.toNat_natCast, if_pos ⟨e, ho⟩])
  generalize behF n s = B at *
  obtain ⟨h6, hm⟩ := hs.resolve_left h0
  have HS := hide h
  obtain ⟨a, cap, rfl⟩ := h.shape
  have h' : Row w (.slice a s.length cap) 9 1 s.length (sgS s) := h
  rw [h6] at h' HS ⊢
  clear h
  have HT := hide (fun W => takes_c n W)
  rw [tak_sg] at HT
  have HV := hide (fun Y W => gives_c n Y W hG0)
  obtain ⟨op, nx, ny, nv, nk, nt, nff, na, nl⟩ := n
  dsimp only at *
  subst hx hy hz
  obtain ⟨g, rfl, hgl, hgc⟩ := SV.at h' (k := y) hy6
  have HB := hide (fun W => both_c (sgB (s.getD y 0)) (sgB (tkN op)) W (Nat.le_trans (sg_size _) (by decide)) (Nat.le_trans (sg_size _) (by decide)))
  rw [both_sg] at HB
  have HM := hide (and_lt (tkN op) (hs.get y))
  have HGC := hide hgc
  have g1 : (op == 33) = false := by simp; omega
  have g2 : (op == 42) = false := by simp; omega
  have g3 : (op == 94) = false := by simp; omega
  have g4 : (op == 126) = false := by simp; omega
  clear hG0 h6 hm
  generalize s.getD y 0 &&& tkN op = m at *
  have HTK := hide (fun a W => both_c (sgB a) (sgB (tkN op)) W (Nat.le_trans (sg_size _) (by decide)) (Nat.le_trans (sg_size _) (by decide)))
  generalize tkN op = tk at *
  have hsz := sg_size (s.getD y 0)
  generalize sgB (s.getD y 0) = sy at *
  have hgg : ((op == 43) = true) ∨ ((op == 43) = false ∧ (op == 60) = true) := by
    rcases ho with rfl | rfl
    · exact .inl rfl
    · exact .inr ⟨rfl, rfl⟩
  clear ho
  rcases hgg with g5 | ⟨g5, g6⟩
  all_goals
    go_enter Tryz.func72, Tryz.ntmps72
    go_wp2_with fail
    refine wp_gen (fun W => Blk W w.heap.size [.int .u8 op, .int .i64 x, .int .i64 y, .int .i64 z, .int .u8 nk, .int .i64 nt, .int .i64 nff, .int .i64 na, .int .i64 nl] 63 ∧ Kp no w W) ⟨by (repeat' (first | ((with_reducible show (_ : List Value) = _); rfl) | ((with_reducible refine Blk.newAt _ _ _ ?_); first | with_reducible rfl | (simp; done)) | with_reducible refine Blk.alloc ?_ _ | with_reducible refine Blk.drewN ?_ _ | with_reducible refine Blk.drew ?_ | ((with_reducible refine Blk.other ?_ _ ?_); rotate_left; ((try dsimp only); omega)) | with_reducible refine Blk.setB (cs0 := ?_) ?_ ?_)), by (repeat' (first | with_reducible exact Kp.refl _ _ | with_reducible refine Kp.alloc ?_ _ | with_reducible refine Kp.drewN ?_ _ | with_reducible refine Kp.drew ?_ | with_reducible refine Kp.setCell ?_ _ ?_ | (intro hh; first | rfl | exact .inl rfl | exact .inr rfl | (exfalso; (try dsimp only at hh); omega))))⟩ ?_
    rintro W ⟨hN, hk⟩
    obtain ⟨n0, n1, n2, n3, n4, n5, n6, n7, n8, nf⟩ := hN.c9; have hnl := hN.lt
    have nn := hN.cell
    have hc1 := (hk.cell hgl no_elim y).trans HGC.out
    have hg1 := Nat.lt_of_lt_of_le hgl hk.size
    have hyI : (y : Int) < 6 := by omega
    go_cut [6] from 10 (fun yv W5 => yv = .string (sgB m) ∧ Blk W5 w.heap.size [.int .u8 op, .int .i64 x, .int .i64 y, .int .i64 z, .int .u8 nk, .int .i64 nt, .int .i64 nff, .int .i64 na, .int .i64 nl] 63 ∧ Kp no w W5)
    case first =>
      go_region_with (first | (go_at_call 119; refine (HT.out _).mono ?_; rintro e w5 ⟨rfl, k5⟩; have hN5 := k5.blk (b := w.heap.size) hN no_elim; obtain ⟨n0, n1, n2, n3, n4, n5, n6, n7, n8, nf⟩ := hN5.c9; have hnl := hN5.lt; have hk5 : Kp no w w5 := Kp.trans (by (repeat' (first | with_reducible exact Kp.refl _ _ | with_reducible refine Kp.alloc ?_ _ | with_reducible refine Kp.drewN ?_ _ | with_reducible refine Kp.drew ?_ | with_reducible refine Kp.setCell ?_ _ ?_ | with_reducible refine Kp.trans ?_ hk (fun _ _ e => e) | (intro hh; first | rfl | exact .inl rfl | exact .inr rfl | (exfalso; (try dsimp only at hh); omega))))) k5 (fun _ _ e => e); have hc5 := (hk5.cell hgl no_elim y).trans HGC.out; have hg5 := Nat.lt_of_lt_of_le hgl hk5.size) | (go_at_call 117; refine (HB.out _).mono ?_; rintro e w' ⟨rfl, rfl⟩))
      all_goals
        go_wp2
        go_meet
        case rel => exact ⟨rfl, hN5, by (repeat' (first | with_reducible exact Kp.refl _ _ | with_reducible refine Kp.alloc ?_ _ | with_reducible refine Kp.drewN ?_ _ | with_reducible refine Kp.drew ?_ | with_reducible refine Kp.setCell ?_ _ ?_ | with_reducible refine Kp.trans ?_ hk5 (fun _ _ e => e) | (intro hh; first | rfl | exact .inl rfl | exact .inr rfl | (exfalso; (try dsimp only at hh); omega))))⟩
    case rest =>
      obtain ⟨rfl, hN5, hk5⟩ := hcut
      obtain ⟨p0, p1, p2, p3, p4, p5, p6, p7, p8, pf⟩ := hN5.c9; have hpl := hN5.lt
      clear n0 n1 n2 n3 n4 n5 n6 n7 n8 hnl hN hk nn hc1 hg1
      go_wp2_with fail
      refine (with_c _ s y m _ (Kp.row (S := no) (by (repeat' (first | with_reducible exact Kp.refl _ _ | with_reducible refine Kp.alloc ?_ _ | with_reducible refine Kp.drewN ?_ _ | with_reducible refine Kp.drew ?_ | with_reducible refine Kp.setCell ?_ _ ?_ | with_reducible refine Kp.trans ?_ hk5 (fun _ _ e => e) | (intro hh; first | rfl | exact .inl rfl | exact .inr rfl | (exfalso; (try dsimp only at hh); omega))))) HS.out (fun _ _ => no_elim)) hs hy6 HM.out).mono ?_
      rintro e w6 ⟨u, rfl, hu, hnew, k6⟩
      have hN6 := k6.blk (b := w.heap.size) hN5 no_elim
      have hk6 : Kp no w w6 := Kp.trans (by (repeat' (first | with_reducible exact Kp.refl _ _ | with_reducible refine Kp.alloc ?_ _ | with_reducible refine Kp.drewN ?_ _ | with_reducible refine Kp.drew ?_ | with_reducible refine Kp.setCell ?_ _ ?_ | with_reducible refine Kp.trans ?_ hk5 (fun _ _ e => e) | (intro hh; first | rfl | exact .inl rfl | exact .inr rfl | (exfalso; (try dsimp only at hh); omega))))) k6 (fun _ _ e => e)
      obtain ⟨m0, m1, m2, m3, m4, m5, m6, m7, m8, mf⟩ := hN6.c9; have hml := hN6.lt
      have ok2 := hs.withS y m HM.out
      obtain ⟨au, cu, rfl⟩ := hu.shape
      have HU := hide hu
      have OK2 := hide ok2
      clear hnew hu
      generalize ht0 : withS s y m = t at *
      have HT0 := hide ht0
      clear ht0
      have ht06 : t.length = 0 ∨ t.length = 6 := by
        rcases ok2 with rfl | h
        · exact .inl rfl
        · exact .inr h.1
      rcases ht06 with ht | ht
      · have ht' : t = [] := List.length_eq_zero_iff.1 ht
        have HE2 := hide (HE0.out ht')
        rw [ht] at HU ⊢
        clear ht ok2 p0 p1 p2 p3 p4 p5 p6 p7 p8 pf hpl
        go_wp2_with fail
        refine (HV.out m _).mono ?_
        rintro e w7 ⟨rfl, k7⟩
        have hk7 : Kp no w w7 := Kp.trans (by (repeat' (first | with_reducible exact Kp.refl _ _ | with_reducible refine Kp.alloc ?_ _ | with_reducible refine Kp.drewN ?_ _ | with_reducible refine Kp.drew ?_ | with_reducible refine Kp.setCell ?_ _ ?_ | with_reducible refine Kp.trans ?_ hk6 (fun _ _ e => e) | (intro hh; first | rfl | exact .inl rfl | exact .inr rfl | (exfalso; (try dsimp only at hh); omega))))) k7 (fun _ _ e => e)
        have hN7 := k7.blk (b := w.heap.size) hN6 no_elim
        obtain ⟨q0, q1, q2, q3, q4, q5, q6, q7, q8, qf⟩ := hN7.c9; have hql := hN7.lt
        go_wp2_with fail
        refine (with_c _ t x (givN _ m) _ (Kp.row (S := no) (by (repeat' (first | with_reducible exact Kp.refl _ _ | with_reducible refine Kp.alloc ?_ _ | with_reducible refine Kp.drewN ?_ _ | with_reducible refine Kp.drew ?_ | with_reducible refine Kp.setCell ?_ _ ?_ | with_reducible refine Kp.trans ?_ k7 (fun _ _ e => e) | (intro hh; first | rfl | exact .inl rfl | exact .inr rfl | (exfalso; (try dsimp only at hh); omega))))) HU.out (fun _ _ => no_elim)) OK2.out hx6 (givN_lt _ HM.out)).mono ?_
        rintro e w8 ⟨u2, rfl, hu2, hnew2, k8⟩
        have hu3 : SV w8 u2 [] := by rw [ht'] at hu2; exact hu2
        go_wp2
        go_ret
        exact ⟨_, rfl, by rw [HE2.out]; exact hu3, fun b hb => Nat.le_trans hk7.size (hnew2 b hb), Kp.trans (by (repeat' (first | with_reducible exact Kp.refl _ _ | with_reducible refine Kp.alloc ?_ _ | with_reducible refine Kp.drewN ?_ _ | with_reducible refine Kp.drew ?_ | with_reducible refine Kp.setCell ?_ _ ?_ | with_reducible refine Kp.trans ?_ hk7 (fun _ _ e => e) | (intro hh; first | rfl | exact .inl rfl | exact .inr rfl | (exfalso; (try dsimp only at hh); omega))))) k8 (fun _ _ e => e)⟩
      · have htne : t ≠ [] := fun e => by rw [e] at ht; cases ht
        have HE2 := hide (HE1.out htne)
        have HUR : Hid (Row w6 (.slice au t.length cu) 9 1 t.length (sgS t)) := HU.out
        rw [ht] at HU HUR ⊢
        obtain ⟨gt, rfl, hgt, hgtc⟩ := SV.at HUR.out (k := z) hz6
        have HC2 := hide hgtc
        have HK6 := hide hk6
        have HM2 := hide (and_lt tk (OK2.out.get z))
        clear ht ok2 p0 p1 p2 p3 p4 p5 p6 p7 p8 pf hpl htne
        generalize hm2 : t.getD z 0 &&& tk = m2' at *
        have HM3 := hide hm2
        clear hm2
        have hzI : (z : Int) < 6 := by omega
        have hst := sg_size (t.getD z 0)
        have HTB : Hid (∀ W, Calls Tryz.prog 117 #[.string (sgB (t.getD z 0)), .string (sgB tk)] W fun e w' => e = .returned (.string (sgB m2')) ∧ w' = W) := fun W => by
          have := HTK.out (t.getD z 0) W
          rw [both_sg, HM3.out] at this
          exact this
        generalize sgB (t.getD z 0) = sz at *
        go_upto_region 13 with fail
        clear m0 m1 m2 m3 m4 m5 m6 m7 m8 mf hml
        refine wp_gen (fun W => Blk W w.heap.size [.int .u8 op, .int .i64 x, .int .i64 y, .int .i64 z, .int .u8 nk, .int .i64 nt, .int .i64 nff, .int .i64 na, .int .i64 nl] 63 ∧ Kp no w6 W) ⟨hN6, by (repeat' (first | with_reducible exact Kp.refl _ _ | with_reducible refine Kp.alloc ?_ _ | with_reducible refine Kp.drewN ?_ _ | with_reducible refine Kp.drew ?_ | with_reducible refine Kp.setCell ?_ _ ?_ | (intro hh; first | rfl | exact .inl rfl | exact .inr rfl | (exfalso; (try dsimp only at hh); omega))))⟩ ?_
        rintro W6 ⟨hN6, hkw⟩
        have hk6' : Kp no w W6 := hk6.trans hkw (fun _ _ e => e)
        clear hk6
        have hk6 := hk6'
        clear hk6'
        obtain ⟨m0, m1, m2, m3, m4, m5, m6, m7, m8, mf⟩ := hN6.c9; have hml := hN6.lt
        have hc6 := (hkw.cell hgt no_elim z).trans HC2.out
        have hg6 := Nat.lt_of_lt_of_le hgt hkw.size
        go_cut [8] from 10 (fun vv W5 => vv = .string (sgB m2') ∧ Blk W5 w.heap.size [.int .u8 op, .int .i64 x, .int .i64 y, .int .i64 z, .int .u8 nk, .int .i64 nt, .int .i64 nff, .int .i64 na, .int .i64 nl] 63 ∧ Kp no w6 W5)
        case first =>
          go_region_with (first | (go_at_call 119; refine (HT.out _).mono ?_; rintro e w5 ⟨rfl, k5⟩; have hN5 := k5.blk (b := w.heap.size) hN6 no_elim; obtain ⟨n0, n1, n2, n3, n4, n5, n6, n7, n8, nf⟩ := hN5.c9; have hnl := hN5.lt; have hk5 : Kp no w6 w5 := Kp.trans (by (repeat' (first | with_reducible exact Kp.refl _ _ | with_reducible refine Kp.alloc ?_ _ | with_reducible refine Kp.drewN ?_ _ | with_reducible refine Kp.drew ?_ | with_reducible refine Kp.setCell ?_ _ ?_ | with_reducible refine Kp.trans ?_ hkw (fun _ _ e => e) | (intro hh; first | rfl | exact .inl rfl | exact .inr rfl | (exfalso; (try dsimp only at hh); omega))))) k5 (fun _ _ e => e); have hc5 := (hk5.cell hgt no_elim z).trans HC2.out; have hg5 := Nat.lt_of_lt_of_le hgt hk5.size) | (go_at_call 117; refine (HTB.out _).mono ?_; rintro e w' ⟨rfl, rfl⟩))
          all_goals
            go_wp2
            go_meet
            case rel => exact ⟨rfl, hN5, by (repeat' (first | with_reducible exact Kp.refl _ _ | with_reducible refine Kp.alloc ?_ _ | with_reducible refine Kp.drewN ?_ _ | with_reducible refine Kp.drew ?_ | with_reducible refine Kp.setCell ?_ _ ?_ | with_reducible refine Kp.trans ?_ hk5 (fun _ _ e => e) | (intro hh; first | rfl | exact .inl rfl | exact .inr rfl | (exfalso; (try dsimp only at hh); omega))))⟩
        case rest =>
          obtain ⟨rfl, hN8, hk8⟩ := hcut
          clear m0 m1 m2 m3 m4 m5 m6 m7 m8 mf hml hN6 hk6 hkw hc6 hg6 hgtc
          obtain ⟨p0, p1, p2, p3, p4, p5, p6, p7, p8, pf⟩ := hN8.c9; have hpl := hN8.lt
          go_wp2_with fail
          refine (with_c _ t z m2' _ (Kp.row (S := no) (by (repeat' (first | with_reducible exact Kp.refl _ _ | with_reducible refine Kp.alloc ?_ _ | with_reducible refine Kp.drewN ?_ _ | with_reducible refine Kp.drew ?_ | with_reducible refine Kp.setCell ?_ _ ?_ | with_reducible refine Kp.trans ?_ hk8 (fun _ _ e => e) | (intro hh; first | rfl | exact .inl rfl | exact .inr rfl | (exfalso; (try dsimp only at hh); omega))))) HU.out (fun _ _ => no_elim)) OK2.out hz6 HM2.out).mono ?_
          rintro e w9 ⟨u3, rfl, hu3, _, k9⟩
          have hk9 : Kp no w6 w9 := Kp.trans (by (repeat' (first | with_reducible exact Kp.refl _ _ | with_reducible refine Kp.alloc ?_ _ | with_reducible refine Kp.drewN ?_ _ | with_reducible refine Kp.drew ?_ | with_reducible refine Kp.setCell ?_ _ ?_ | with_reducible refine Kp.trans ?_ hk8 (fun _ _ e => e) | (intro hh; first | rfl | exact .inl rfl | exact .inr rfl | (exfalso; (try dsimp only at hh); omega))))) k9 (fun _ _ e => e)
          have hN9 := k9.blk (b := w.heap.size) hN8 no_elim
          obtain ⟨m0, m1, m2, m3, m4, m5, m6, m7, m8, mf⟩ := hN9.c9; have hml := hN9.lt
          clear p0 p1 p2 p3 p4 p5 p6 p7 p8 pf hpl
          have HU3 := hide hu3
          have OK3 := hide (OK2.out.withS z m2' HM2.out)
          clear hu3
          generalize ht3 : withS t z m2' = t3 at *
          clear ht3
          go_wp2_with fail
          refine (HV.out m _).mono ?_
          rintro e w10 ⟨rfl, k10⟩
          have hk10 : Kp no w6 w10 := Kp.trans (by (repeat' (first | with_reducible exact Kp.refl _ _ | with_reducible refine Kp.alloc ?_ _ | with_reducible refine Kp.drewN ?_ _ | with_reducible refine Kp.drew ?_ | with_reducible refine Kp.setCell ?_ _ ?_ | with_reducible refine Kp.trans ?_ hk9 (fun _ _ e => e) | (intro hh; first | rfl | exact .inl rfl | exact .inr rfl | (exfalso; (try dsimp only at hh); omega))))) k10 (fun _ _ e => e)
          have hN10 := k10.blk (b := w.heap.size) hN9 no_elim
          obtain ⟨q0, q1, q2, q3, q4, q5, q6, q7, q8, qf⟩ := hN10.c9; have hql := hN10.lt
          go_wp2_with fail
          refine (with_c _ t3 x (givN _ m) _ (Kp.row (S := no) (by (repeat' (first | with_reducible exact Kp.refl _ _ | with_reducible refine Kp.alloc ?_ _ | with_reducible refine Kp.drewN ?_ _ | with_reducible refine Kp.drew ?_ | with_reducible refine Kp.setCell ?_ _ ?_ | with_reducible refine Kp.trans ?_ k10 (fun _ _ e => e) | (intro hh; first | rfl | exact .inl rfl | exact .inr rfl | (exfalso; (try dsimp only at hh); omega))))) HU3.out (fun _ _ => no_elim)) OK3.out hx6 (givN_lt _ HM.out)).mono ?_
          rintro e w11 ⟨u2, rfl, hu2, hnew2, k11⟩
          have hkf : Kp no w6 w11 := Kp.trans (by (repeat' (first | with_reducible exact Kp.refl _ _ | with_reducible refine Kp.alloc ?_ _ | with_reducible refine Kp.drewN ?_ _ | with_reducible refine Kp.drew ?_ | with_reducible refine Kp.setCell ?_ _ ?_ | with_reducible refine Kp.trans ?_ hk10 (fun _ _ e => e) | (intro hh; first | rfl | exact .inl rfl | exact .inr rfl | (exfalso; (try dsimp only at hh); omega))))) k11 (fun _ _ e => e)
          go_wp2
          go_ret
          exact ⟨_, rfl, by rw [HE2.out]; exact hu2, fun b hb => Nat.le_trans (Nat.le_trans HK6.out.size hk10.size) (hnew2 b hb), by (repeat' (first | with_reducible exact Kp.refl _ _ | with_reducible refine Kp.alloc ?_ _ | with_reducible refine Kp.drewN ?_ _ | with_reducible refine Kp.drew ?_ | with_reducible refine Kp.setCell ?_ _ ?_ | with_reducible refine Kp.trans ?_ HK6.out (fun _ _ e => e) | with_reducible refine Kp.trans ?_ hkf (fun _ _ e => e) | (intro hh; first | rfl | exact .inl rfl | exact .inr rfl | (exfalso; (try dsimp only at hh); omega))))⟩
end Go.Proofs.YtellieabhaphhaaGreatDoor

/-
  narrowref's flow: what comes behind a cast and the others; along the ways of a test.
-/
namespace Go.Proofs.YtellieabhaphhaaGreatDoor
open Go.RowKit

set_option maxRecDepth 100000 in
set_option maxHeartbeats 1600000 in
theorem behind_never (n : Nd) (v : Value) (s : St) (w : World) (ho : n.op = 33) :
    Calls Tryz.prog 72 #[.agg #[.int .u8 n.op, .int .i64 n.x, .int .i64 n.y, .int .i64 n.v, .int .u8 n.k, .int .i64 n.t, .int .i64 n.f, .int .i64 n.a, .int .i64 n.l], v] w fun e w' => ∃ u, e = .returned u ∧ SV w' u (behF n s) ∧ (u = v ∨ New w u) ∧ Kp no w w' := by
  have HE := hide (show behF n s = [] by rw [behF, if_pos ho])
  rw [HE.out, ho]
  go_enter Tryz.func72, Tryz.ntmps72
  go_wp2
  go_ret
  exact ⟨_, rfl, SV.nil _, .inr (New.none _), by (repeat' (first | with_reducible exact Kp.refl _ _ | with_reducible refine Kp.alloc ?_ _ | with_reducible refine Kp.drewN ?_ _ | with_reducible refine Kp.drew ?_ | with_reducible refine Kp.setCell ?_ _ ?_ | (intro hh; first | rfl | exact .inl rfl | exact .inr rfl | (exfalso; (try dsimp only at hh); omega))))⟩

set_option maxRecDepth 100000 in
set_option maxHeartbeats 1600000 in
theorem behind_same (n : Nd) (v : Value) (s : St) (w : World) (h : SV w v s) (ho : n.op = 42 ∨ n.op = 94) :
    Calls Tryz.prog 72 #[.agg #[.int .u8 n.op, .int .i64 n.x, .int .i64 n.y, .int .i64 n.v, .int .u8 n.k, .int .i64 n.t, .int .i64 n.f, .int .i64 n.a, .int .i64 n.l], v] w fun e w' => ∃ u, e = .returned u ∧ SV w' u (behF n s) ∧ (u = v ∨ New w u) ∧ Kp no w w' := by
  have HE := hide (show behF n s = s by rw [behF, if_neg (by omega), if_pos ho])
  rw [HE.out]
  have HS := hide h
  clear h
  rcases ho with ho | ho
  all_goals
    rw [ho]
    clear ho
    go_enter Tryz.func72, Tryz.ntmps72
    go_wp2
    go_ret
    exact ⟨_, rfl, Kp.row (S := no) (by (repeat' (first | with_reducible exact Kp.refl _ _ | with_reducible refine Kp.alloc ?_ _ | with_reducible refine Kp.drewN ?_ _ | with_reducible refine Kp.drew ?_ | with_reducible refine Kp.setCell ?_ _ ?_ | (intro hh; first | rfl | exact .inl rfl | exact .inr rfl | (exfalso; (try dsimp only at hh); omega))))) HS.out (fun _ _ => no_elim), .inl rfl, by (repeat' (first | with_reducible exact Kp.refl _ _ | with_reducible refine Kp.alloc ?_ _ | with_reducible refine Kp.drewN ?_ _ | with_reducible refine Kp.drew ?_ | with_reducible refine Kp.setCell ?_ _ ?_ | (intro hh; first | rfl | exact .inl rfl | exact .inr rfl | (exfalso; (try dsimp only at hh); omega))))⟩

theorem conv1d (W : World) (k : Int) (b : Nat) (hb : b = W.heap.size) : (convert 156 9 (.slice (some ⟨b, 0, none⟩) 1 1)).run Tryz.prog (W.alloc (.cells #[.int .u8 k] 5)).drew = .ok (.string (strOfNums [k])) (W.alloc (.cells #[.int .u8 k] 5)).drew := by
  subst hb
  exact conv1 W.drew k

theorem str_sg (k : Int) (h : KOk k) : strOfNums [k] = sgB (bitN k) := by
  unfold KOk at h
  rcases h with rfl | rfl | rfl | rfl | rfl | rfl | rfl <;> decide

set_option maxRecDepth 100000 in
set_option maxHeartbeats 1600000 in
theorem behind_cast (n : Nd) (v : Value) (s : St) (w : World) (h : SV w v s) (hs : SOk s) (h0 : s ≠ []) (hg : Gn n) (ho : n.op = 126) :
    Calls Tryz.prog 72 #[.agg #[.int .u8 n.op, .int .i64 n.x, .int .i64 n.y, .int .i64 n.v, .int .u8 n.k, .int .i64 n.t, .int .i64 n.f, .int .i64 n.a, .int .i64 n.l], v] w fun e w' => ∃ u, e = .returned u ∧ SV w' u (behF n s) ∧ New w u ∧ Kp no w w' := by
  obtain ⟨x, hx⟩ := Int.eq_ofNat_of_zero_le hg.x.1
  have hx6 : x < 6 := by have := hg.x.2; omega
  have HK := hide (str_sg n.k (hg.kd (.inr ho)))
  have HE := hide (show behF n s = withS s x (s.getD x 0 &&& bitN n.k) by
    rw [behF, if_neg (by omega), if_neg (by omega), if_pos ho, hx, Int.toNat_natCast])
  rw [HE.out]
  obtain ⟨h6, hm⟩ := hs.resolve_left h0
  have HS := hide h
  obtain ⟨a, cap, rfl⟩ := h.shape
  have h' : Row w (.slice a s.length cap) 9 1 s.length (sgS s) := h
  rw [h6] at h' HS ⊢
  clear h
  obtain ⟨op, nx, ny, nv, nk, nt, nff, na, nl⟩ := n
  dsimp only at *
  subst hx ho
  obtain ⟨g, rfl, hgl, hgc⟩ := SV.at h' (k := x) hx6
  have HB := hide (fun W => both_c (sgB (s.getD x 0)) (sgB (bitN nk)) W (Nat.le_trans (sg_size _) (by decide)) (Nat.le_trans (sg_size _) (by decide)))
  rw [both_sg] at HB
  have HM := hide (and_lt (bitN nk) (hs.get x))
  have HGC := hide hgc
  rw [← HK.out] at HB
  clear HE h6 hm HK
  generalize s.getD x 0 &&& bitN nk = m at *
  have hsz := sg_size (s.getD x 0)
  generalize sgB (s.getD x 0) = sx at *
  have hc := conv1'
  have hcd := conv1d
  go_enter Tryz.func72, Tryz.ntmps72
  go_wp2_with fail
  refine wp_gen (fun W => Blk W w.heap.size [.int .u8 126, .int .i64 x, .int .i64 ny, .int .i64 nv, .int .u8 nk, .int .i64 nt, .int .i64 nff, .int .i64 na, .int .i64 nl] 63 ∧ Kp no w W) ⟨by (repeat' (first | ((with_reducible show (_ : List Value) = _); rfl) | ((with_reducible refine Blk.newAt _ _ _ ?_); first | with_reducible rfl | (simp; done)) | with_reducible refine Blk.alloc ?_ _ | with_reducible refine Blk.drewN ?_ _ | with_reducible refine Blk.drew ?_ | ((with_reducible refine Blk.other ?_ _ ?_); rotate_left; ((try dsimp only); omega)) | with_reducible refine Blk.setB (cs0 := ?_) ?_ ?_)), by (repeat' (first | with_reducible exact Kp.refl _ _ | with_reducible refine Kp.alloc ?_ _ | with_reducible refine Kp.drewN ?_ _ | with_reducible refine Kp.drew ?_ | with_reducible refine Kp.setCell ?_ _ ?_ | (intro hh; first | rfl | exact .inl rfl | exact .inr rfl | (exfalso; (try dsimp only at hh); omega))))⟩ ?_
  rintro W ⟨hN, hk⟩
  obtain ⟨n0, n1, n2, n3, n4, n5, n6, n7, n8, nf⟩ := hN.c9; have hnl := hN.lt
  have hc1 := (hk.cell hgl no_elim x).trans HGC.out
  have hg1 := Nat.lt_of_lt_of_le hgl hk.size
  have hxI : (x : Int) < 6 := by omega
  go_cut [5] from 10 (fun yv W5 => yv = .string (sgB m) ∧ Blk W5 w.heap.size [.int .u8 126, .int .i64 x, .int .i64 ny, .int .i64 nv, .int .u8 nk, .int .i64 nt, .int .i64 nff, .int .i64 na, .int .i64 nl] 63 ∧ Kp no w W5)
  case first =>
    go_region_with (go_at_call 117; refine (HB.out _).mono ?_; rintro e w' ⟨rfl, rfl⟩)
    all_goals
      go_wp2
      go_meet
      case rel => exact ⟨rfl, by (repeat' (first | ((with_reducible show (_ : List Value) = _); rfl) | with_reducible exact hN | ((with_reducible refine Blk.newAt _ _ _ ?_); first | with_reducible rfl | (simp; done)) | with_reducible refine Blk.alloc ?_ _ | with_reducible refine Blk.drewN ?_ _ | with_reducible refine Blk.drew ?_ | ((with_reducible refine Blk.other ?_ _ ?_); rotate_left; ((try dsimp only); omega)) | with_reducible refine Blk.setB (cs0 := ?_) ?_ ?_)), by (repeat' (first | with_reducible exact Kp.refl _ _ | with_reducible refine Kp.alloc ?_ _ | with_reducible refine Kp.drewN ?_ _ | with_reducible refine Kp.drew ?_ | with_reducible refine Kp.setCell ?_ _ ?_ | with_reducible refine Kp.trans ?_ hk (fun _ _ e => e) | (intro hh; first | rfl | exact .inl rfl | exact .inr rfl | (exfalso; (try dsimp only at hh); omega))))⟩
  case rest =>
    obtain ⟨rfl, hN5, hk5⟩ := hcut
    clear n0 n1 n2 n3 n4 n5 n6 n7 n8 hnl hN hk hc1 hg1
    obtain ⟨p0, p1, p2, p3, p4, p5, p6, p7, p8, pf⟩ := hN5.c9; have hpl := hN5.lt
    go_wp2_with fail
    refine (with_c _ s x m _ (Kp.row (S := no) (by (repeat' (first | with_reducible exact Kp.refl _ _ | with_reducible refine Kp.alloc ?_ _ | with_reducible refine Kp.drewN ?_ _ | with_reducible refine Kp.drew ?_ | with_reducible refine Kp.setCell ?_ _ ?_ | with_reducible refine Kp.trans ?_ hk5 (fun _ _ e => e) | (intro hh; first | rfl | exact .inl rfl | exact .inr rfl | (exfalso; (try dsimp only at hh); omega))))) HS.out (fun _ _ => no_elim)) hs hx6 HM.out).mono ?_
    rintro e w6 ⟨u, rfl, hu, hnew, k6⟩
    go_wp2
    go_ret
    exact ⟨_, rfl, hu, fun b hb => Nat.le_trans hk5.size (hnew b hb), Kp.trans (by (repeat' (first | with_reducible exact Kp.refl _ _ | with_reducible refine Kp.alloc ?_ _ | with_reducible refine Kp.drewN ?_ _ | with_reducible refine Kp.drew ?_ | with_reducible refine Kp.setCell ?_ _ ?_ | with_reducible refine Kp.trans ?_ hk5 (fun _ _ e => e) | (intro hh; first | rfl | exact .inl rfl | exact .inr rfl | (exfalso; (try dsimp only at hh); omega))))) k6 (fun _ _ e => e)⟩

theorem not_sg (k : Int) (h : KOk k) : selB (fun c => !decide ((c : Int) = k)) = sgB (127 ^^^ bitN k) := by
  unfold KOk at h
  rcases h with rfl | rfl | rfl | rfl | rfl | rfl | rfl <;> decide

theorem sg_115 : sgB 115 = ⟨#[110, 116, 65, 66, 67]⟩ := by decide
theorem sg_13 : sgB 13 = ⟨#[110, 102, 122]⟩ := by decide
end Go.Proofs.YtellieabhaphhaaGreatDoor
