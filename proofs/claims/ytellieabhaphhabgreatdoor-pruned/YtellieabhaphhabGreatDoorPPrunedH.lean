import Derived.Test.YtellieabhaphhabGreatDoorPPrunedG
/-
  narrow's flow: tables.
-/
namespace Go.Proofs.YtellieabhaphhabGreatDoor
open Go.RowKit

/-- A state as narrow's tables hold it. -/
def encZ (s : St) : St := if s.length = 6 then s else [0, 0, 0, 0, 0, 0]
def tCells (T : Tbl) : List Value := T.flatMap (fun s => zc (encZ s))

theorem encZ6 (s : St) : (encZ s).length = 6 := by unfold encZ; split; assumption; rfl
theorem zce6 (s : St) : (zc (encZ s)).length = 6 := by rw [zc, List.length_map]; exact encZ6 s

theorem encZ_nil : encZ [] = [0, 0, 0, 0, 0, 0] := rfl
theorem encZ_ful {s : St} (h : Ful s) : encZ s = s := by rw [encZ, if_pos h.z.len]

theorem encZ_z6 {s : St} (h : SOk s) : Z6 (encZ s) := by
  by_cases h0 : s = []
  · subst h0; exact no_z6
  · rw [encZ_ful (h.ful h0)]; exact (h.ful h0).z

theorem exS_enc {s : St} (h : SOk s) : exS (encZ s) = decide (s ≠ []) := by
  by_cases h0 : s = []
  · subst h0; rfl
  · rw [encZ_ful (h.ful h0), (h.ful h0).ex, decide_eq_true h0]

/-- Six cells of a row are set at once. -/
theorem flat_six (f : St → List Value) (hf : ∀ s, (f s).length = 6) (x : St) (a0 a1 a2 a3 a4 a5 : Value) (hx : f x = [a0, a1, a2, a3, a4, a5]) : ∀ (T : Tbl) (i : Nat), i < T.length →
    ((((((T.flatMap f).set (i * 6) a0).set (i * 6 + 1) a1).set (i * 6 + 2) a2).set (i * 6 + 3) a3).set (i * 6 + 4) a4).set (i * 6 + 5) a5 = (T.set i x).flatMap f
  | [], i, h => by simp at h
  | s :: T, 0, _ => by
    obtain ⟨b0, b1, b2, b3, b4, b5, hb⟩ : ∃ b0 b1 b2 b3 b4 b5, f s = [b0, b1, b2, b3, b4, b5] := by
      match f s, hf s with
      | [b0, b1, b2, b3, b4, b5], _ => exact ⟨b0, b1, b2, b3, b4, b5, rfl⟩
    rw [List.set_cons_zero, List.flatMap_cons, List.flatMap_cons, hx, hb]
    rfl
  | s :: T, i + 1, h => by
    have ih := flat_six f hf x a0 a1 a2 a3 a4 a5 hx T i (by simpa using h)
    obtain ⟨b0, b1, b2, b3, b4, b5, hb⟩ : ∃ b0 b1 b2 b3 b4 b5, f s = [b0, b1, b2, b3, b4, b5] := by
      match f s, hf s with
      | [b0, b1, b2, b3, b4, b5], _ => exact ⟨b0, b1, b2, b3, b4, b5, rfl⟩
    rw [List.set_cons_succ, List.flatMap_cons, List.flatMap_cons, hb, ← ih]
    have e : (i + 1) * 6 = i * 6 + 1 + 1 + 1 + 1 + 1 + 1 := by omega
    have e1 : (i + 1) * 6 + 1 = i * 6 + 1 + 1 + 1 + 1 + 1 + 1 + 1 := by omega
    have e2 : (i + 1) * 6 + 2 = i * 6 + 2 + 1 + 1 + 1 + 1 + 1 + 1 := by omega
    have e3 : (i + 1) * 6 + 3 = i * 6 + 3 + 1 + 1 + 1 + 1 + 1 + 1 := by omega
    have e4 : (i + 1) * 6 + 4 = i * 6 + 4 + 1 + 1 + 1 + 1 + 1 + 1 := by omega
    have e5 : (i + 1) * 6 + 5 = i * 6 + 5 + 1 + 1 + 1 + 1 + 1 + 1 := by omega
    rw [e5, e4, e3, e2, e1, e]
    rfl

/-- The flow at work. -/
structure FT (w : World) (fp tb n : Nat) (T : Tbl) (g : Bool) : Prop where
  p : Blk w fp [.slice (some ⟨tb, 0, none⟩) n n, .bool g] 72
  ne : fp ≠ tb
  len : T.length = n
  b : Blk w tb (tCells T) 75

def TK2 (fp tb : Nat) (b : Nat) : Prop := b = fp ∨ b = tb

theorem FT.at {w : World} {fp tb n : Nat} {T : Tbl} {g : Bool} (h : FT w fp tb n T g) {i : Nat} (hi : i < n) {m0 m1 m2 m3 m4 m5 : Nat} (hm : encZ (T.getD i []) = [m0, m1, m2, m3, m4, m5]) :
    w.cell? ⟨tb, i * 6, none⟩ = some (.int .i64 m0) ∧ w.cell? ⟨tb, i * 6 + 1, none⟩ = some (.int .i64 m1) ∧ w.cell? ⟨tb, i * 6 + 2, none⟩ = some (.int .i64 m2) ∧ w.cell? ⟨tb, i * 6 + 3, none⟩ = some (.int .i64 m3) ∧ w.cell? ⟨tb, i * 6 + 4, none⟩ = some (.int .i64 m4) ∧ w.cell? ⟨tb, i * 6 + 5, none⟩ = some (.int .i64 m5) := by
  have hl : i < T.length := by rw [h.len]; exact hi
  rw [List.getD_eq_getElem?_getD, List.getElem?_eq_getElem hl, Option.getD_some] at hm
  have hc : ∀ j, j < 6 → w.cell? ⟨tb, i * 6 + j, none⟩ = (zc [m0, m1, m2, m3, m4, m5])[j]? := fun j hj => by
    rw [h.b.cell, tCells, flat_get (fun s => zc (encZ s)) 6 zce6 T i j hl hj, hm]
  exact ⟨hc 0 (by decide), hc 1 (by decide), hc 2 (by decide), hc 3 (by decide), hc 4 (by decide), hc 5 (by decide)⟩

theorem FT.c {w : World} {fp tb n : Nat} {T : Tbl} {g : Bool} (h : FT w fp tb n T g) : w.cell? ⟨fp, 0, none⟩ = some (.slice (some ⟨tb, 0, none⟩) n n) ∧ w.cell? ⟨fp, 1, none⟩ = some (.bool g) ∧ (∀ o, w.frozen? ⟨fp, o, none⟩ = false) ∧ (∀ o, w.frozen? ⟨tb, o, none⟩ = false) ∧ fp < w.heap.size ∧ tb < w.heap.size :=
  ⟨h.p.cell 0, h.p.cell 1, h.p.frozen, h.b.frozen, h.p.lt, h.b.lt⟩

theorem FT.kp {w w' : World} {fp tb n : Nat} {T : Tbl} {g : Bool} (h : FT w fp tb n T g) (k : Kp no w w') : FT w' fp tb n T g :=
  ⟨k.blk h.p no_elim, h.ne, h.len, k.blk h.b no_elim⟩

theorem FT.turn {w : World} {fp tb n : Nat} {T : Tbl} {g : Bool} (h : FT w fp tb n T g) (b : Bool) : FT (w.setCell ⟨fp, 1, none⟩ (.bool b)) fp tb n T b :=
  ⟨h.p.set 1 (.bool b), h.ne, h.len, Blk.other h.b _ (fun e => h.ne e.symm)⟩

theorem FT.set {w : World} {fp tb n : Nat} {T : Tbl} {g : Bool} (h : FT w fp tb n T g) {i : Nat} (hi : i < n) {s : St} {m0 m1 m2 m3 m4 m5 : Nat} (hm : encZ s = [m0, m1, m2, m3, m4, m5]) :
    FT ((((((w.setCell ⟨tb, i * 6, none⟩ (.int .i64 m0)).setCell ⟨tb, i * 6 + 1, none⟩ (.int .i64 m1)).setCell ⟨tb, i * 6 + 2, none⟩ (.int .i64 m2)).setCell ⟨tb, i * 6 + 3, none⟩ (.int .i64 m3)).setCell ⟨tb, i * 6 + 4, none⟩ (.int .i64 m4)).setCell ⟨tb, i * 6 + 5, none⟩ (.int .i64 m5)) fp tb n (T.set i s) g := by
  have hne : fp ≠ tb := h.ne
  refine ⟨Blk.other (Blk.other (Blk.other (Blk.other (Blk.other (Blk.other h.p _ hne) _ hne) _ hne) _ hne) _ hne) _ hne, hne, by rw [List.length_set]; exact h.len, ?_⟩
  have h2 := (((((h.b.set (i * 6) (.int .i64 m0)).set (i * 6 + 1) (.int .i64 m1)).set (i * 6 + 2) (.int .i64 m2)).set (i * 6 + 3) (.int .i64 m3)).set (i * 6 + 4) (.int .i64 m4)).set (i * 6 + 5) (.int .i64 m5)
  rw [tCells, flat_six (fun s => zc (encZ s)) zce6 s _ _ _ _ _ _ (by rw [hm]; rfl) T i (by rw [h.len]; exact hi)] at h2
  exact h2

set_option maxRecDepth 100000 in
set_option maxHeartbeats 1600000 in
theorem stateOf_c (fp tb n : Nat) (T : Tbl) (g : Bool) (i : Nat) (w : World) (h : FT w fp tb n T g) (hi : i < n) :
    Calls Tryz.prog 39 #[.slice (some ⟨tb, 0, none⟩) n n, .int .i64 i] w fun e w' => e = .returned (.agg (zc (encZ (T.getD i []))).toArray) ∧ Kp no w w' := by
  obtain ⟨m0, m1, m2, m3, m4, m5, hm⟩ : ∃ m0 m1 m2 m3 m4 m5, encZ (T.getD i []) = [m0, m1, m2, m3, m4, m5] := by
    match encZ (T.getD i []), encZ6 (T.getD i []) with
    | [m0, m1, m2, m3, m4, m5], _ => exact ⟨m0, m1, m2, m3, m4, m5, rfl⟩
  obtain ⟨c0, c1, c2, c3, c4, c5⟩ := h.at hi hm
  have htl := h.b.lt
  rw [hm]
  have d0 : decide ((i : Int) < 0) = false := by simp
  have d1 : decide ((n : Int) ≤ i) = false := by simp; omega
  have d2 : (i : Int) < n := by omega
  have d3 : decide (n ≤ i) = false := by simp; omega
  clear h hm
  go_enter Tryz.func39, Tryz.ntmps39
  go_wp2
  refine body_agg (Tb := 75) (b := w.heap.size) (cs := [.int .i64 m0, .int .i64 m1, .int .i64 m2, .int .i64 m3, .int .i64 m4, .int .i64 m5]) (.inr rfl) Tryz.results39 rfl rfl (by (repeat' (first | ((with_reducible show (_ : List Value) = _); rfl) | ((with_reducible refine Blk.newAt _ _ _ ?_); first | with_reducible rfl | (simp; done)) | with_reducible refine Blk.alloc ?_ _ | with_reducible refine Blk.drewN ?_ _ | with_reducible refine Blk.drew ?_ | ((with_reducible refine Blk.other ?_ _ ?_); rotate_left; ((try dsimp only); omega)) | with_reducible refine Blk.setB (cs0 := ?_) ?_ ?_))) Tryz.underlying75 rfl (by kernel_rfl) ?_
  exact ⟨rfl, by (repeat' (first | with_reducible exact Kp.refl _ _ | with_reducible refine Kp.alloc ?_ _ | with_reducible refine Kp.drewN ?_ _ | with_reducible refine Kp.drew ?_ | with_reducible refine Kp.setCell ?_ _ ?_ | (intro hh; first | rfl | exact .inl rfl | exact .inr rfl | (exfalso; (try dsimp only at hh); omega))))⟩
set_option maxHeartbeats 1600000 in
theorem eqArr (w : World) (a0 a1 a2 a3 a4 a5 b0 b1 b2 b3 b4 b5 : Int) : (Op.equalIn 9999 73 (.agg #[.int .i64 a0, .int .i64 a1, .int .i64 a2, .int .i64 a3, .int .i64 a4, .int .i64 a5]) (.agg #[.int .i64 b0, .int .i64 b1, .int .i64 b2, .int .i64 b3, .int .i64 b4, .int .i64 b5])).run Tryz.prog w = .ok (a0 == b0 && (a1 == b1 && (a2 == b2 && (a3 == b3 && (a4 == b4 && a5 == b5))))) w := by
  have u3 := Tryz.underlying64
  have a3' := Tryz.isAgg64
  have z3 := Tryz.sizeOf64
  rw [show (9999 : Nat) = 9998 + 1 from rfl, Op.equalIn]
  simp only [Sem.run_bind, run_underlying Tryz.underlying73, Result.andThen_ok]
  simp only [Std.Legacy.Range.forIn_eq_forIn_range', Std.Legacy.Range.size, Nat.sub_zero, Nat.add_sub_cancel, Nat.div_one, List.range'_succ, List.range'_zero, List.forIn_cons, List.forIn_nil]
  go_simp
  by_cases h0 : a0 = b0
  · by_cases h1 : a1 = b1
    · by_cases h2 : a2 = b2
      · by_cases h3 : a3 = b3
        · by_cases h4 : a4 = b4
          · by_cases h5 : a5 = b5 <;> simp [h0, h1, h2, h3, h4, h5]
          · simp [h0, h1, h2, h3, h4]
        · simp [h0, h1, h2, h3]
      · simp [h0, h1, h2]
    · simp [h0, h1]
  · simp [h0]

theorem eqArr_list (a0 a1 a2 a3 a4 a5 b0 b1 b2 b3 b4 b5 : Nat) : ((a0 : Int) == b0 && ((a1 : Int) == b1 && ((a2 : Int) == b2 && ((a3 : Int) == b3 && ((a4 : Int) == b4 && (a5 : Int) == b5))))) = decide ([a0, a1, a2, a3, a4, a5] = [b0, b1, b2, b3, b4, b5]) := by
  rw [Bool.eq_iff_iff, decide_eq_true_iff]
  simp [Int.ofNat_inj]

theorem zip_zero {Z : St} (h : Z6 Z) : List.zipWith (· ||| ·) [0, 0, 0, 0, 0, 0] Z = Z := by
  obtain ⟨m0, m1, m2, m3, m4, m5, rfl⟩ := z6_six h
  simp

theorem jn_join {S Z : St} (hS : SOk S) (hZ : Z6 Z) : jnZ (encZ S) Z = encZ (joinR S (nrm Z)).1 ∧ (joinR S (nrm Z)).2 = decide (jnZ (encZ S) Z ≠ encZ S) := by
  cases hE : exS Z
  · have h1 : nrm Z = [] := by rw [nrm, hE]; rfl
    have h2 : jnZ (encZ S) Z = encZ S := by rw [jnZ, hE]; rfl
    rw [h1, h2]
    exact ⟨rfl, by simp [joinR]⟩
  · have h1 : nrm Z = Z := by rw [nrm, hE]; rfl
    have h2 : jnZ (encZ S) Z = List.zipWith (· ||| ·) (encZ S) Z := by rw [jnZ, hE]; rfl
    have hZ0 : Z ≠ [] := fun e => by have := hZ.len; rw [e] at this; cases this
    rw [h1, h2]
    by_cases h0 : S = []
    · subst h0
      have hj : joinR [] Z = (Z, true) := by rw [joinR, if_neg hZ0, if_pos rfl]
      rw [hj, encZ_nil, zip_zero hZ]
      refine ⟨by rw [encZ, if_pos hZ.len], ?_⟩
      rw [eq_comm, decide_eq_true_iff]
      intro e
      rw [e] at hE
      cases hE
    · have hF := hS.ful h0
      have hj : joinR S Z = (List.zipWith (· ||| ·) S Z, decide (List.zipWith (· ||| ·) S Z ≠ S)) := by rw [joinR, if_neg hZ0, if_neg h0]
      rw [hj, encZ_ful hF]
      refine ⟨?_, rfl⟩
      rw [encZ, if_pos (by rw [List.length_zipWith, hF.z.len, hZ.len]; rfl)]

set_option maxRecDepth 100000 in
set_option maxHeartbeats 800000 in
theorem come_c (fp tb n : Nat) (T : Tbl) (g : Bool) (i : Int) (Z : St) (w : World) (h : FT w fp tb n T g) (hT : TOk T) (hZ : Z6 Z) :
    Calls Tryz.prog 37 #[.pointer (some ⟨fp, 0, none⟩), .int .i64 i, .agg (zc Z).toArray] w fun e w' => e = .returned (.tuple #[]) ∧ FT w' fp tb n (intoF T i (nrm Z)).1 (g || (intoF T i (nrm Z)).2) ∧ Kp (TK2 fp tb) w w' := by
  obtain ⟨z0, z1, z2, z3, z4, z5, rfl⟩ := z6_six hZ
  rw [show Value.agg (zc [z0, z1, z2, z3, z4, z5]).toArray = zv6 z0 z1 z2 z3 z4 z5 from rfl]
  obtain ⟨c0, c1, cf, cg, cl, cm⟩ := h.c
  have HH := hide h
  have hl := h.len
  by_cases hi0 : i < 0
  · have HE := hide (show intoF T i (nrm [z0, z1, z2, z3, z4, z5]) = (T, false) by rw [intoF, if_neg (by omega)])
    rw [HE.out, Bool.or_false]
    clear hl
    go_enter Tryz.func37, Tryz.ntmps37
    go_wp2
    refine bodyPost_ret (results_none rfl _ _ _) rfl ?_
    exact ⟨rfl, HH.out.kp (by (repeat' (first | with_reducible exact Kp.refl _ _ | with_reducible refine Kp.alloc ?_ _ | with_reducible refine Kp.drewN ?_ _ | with_reducible refine Kp.drew ?_ | with_reducible refine Kp.setCell ?_ _ ?_ | (intro hh; first | rfl | exact .inl rfl | exact .inr rfl | (exfalso; (try dsimp only at hh); omega))))), by (repeat' (first | with_reducible exact Kp.refl _ _ | with_reducible refine Kp.alloc ?_ _ | with_reducible refine Kp.drewN ?_ _ | with_reducible refine Kp.drew ?_ | with_reducible refine Kp.setCell ?_ _ ?_ | (intro hh; first | rfl | exact .inl rfl | exact .inr rfl | (exfalso; (try dsimp only at hh); omega))))⟩
  by_cases hin : (n : Int) ≤ i
  · have HE := hide (show intoF T i (nrm [z0, z1, z2, z3, z4, z5]) = (T, false) by rw [intoF, if_neg (by omega)])
    rw [HE.out, Bool.or_false]
    have d0 : decide (i < 0) = false := by simp; omega
    clear hl hi0
    go_enter Tryz.func37, Tryz.ntmps37
    go_wp2
    refine bodyPost_ret (results_none rfl _ _ _) rfl ?_
    exact ⟨rfl, HH.out.kp (by (repeat' (first | with_reducible exact Kp.refl _ _ | with_reducible refine Kp.alloc ?_ _ | with_reducible refine Kp.drewN ?_ _ | with_reducible refine Kp.drew ?_ | with_reducible refine Kp.setCell ?_ _ ?_ | (intro hh; first | rfl | exact .inl rfl | exact .inr rfl | (exfalso; (try dsimp only at hh); omega))))), by (repeat' (first | with_reducible exact Kp.refl _ _ | with_reducible refine Kp.alloc ?_ _ | with_reducible refine Kp.drewN ?_ _ | with_reducible refine Kp.drew ?_ | with_reducible refine Kp.setCell ?_ _ ?_ | (intro hh; first | rfl | exact .inl rfl | exact .inr rfl | (exfalso; (try dsimp only at hh); omega))))⟩
  · obtain ⟨k, rfl⟩ := Int.eq_ofNat_of_zero_le (by omega : 0 ≤ i)
    have hk : k < n := by omega
    have HE := hide (show intoF T k (nrm [z0, z1, z2, z3, z4, z5]) = (T.set k (joinR (T.getD k []) (nrm [z0, z1, z2, z3, z4, z5])).1, (joinR (T.getD k []) (nrm [z0, z1, z2, z3, z4, z5])).2) by rw [intoF, if_pos (by omega), Int.toNat_natCast])
    rw [HE.out]
    have d0 : decide ((k : Int) < 0) = false := by simp
    have d1 : decide (n ≤ k) = false := by simp; omega
    have d2 : decide ((n : Int) ≤ k) = false := by simp; omega
    have hkI : (k : Int) < n := by omega
    obtain ⟨m0, m1, m2, m3, m4, m5, hm⟩ := z6_six (encZ_z6 (hT.get k))
    obtain ⟨q0, q1, q2, q3, q4, q5⟩ := h.at hk hm
    obtain ⟨j1, j2⟩ := jn_join (hT.get k) hZ
    have hSet : T.set k (T.getD k []) = T := set_getD (by omega)
    have hsame : (joinR (T.getD k []) (nrm [z0, z1, z2, z3, z4, z5])).2 = false → (joinR (T.getD k []) (nrm [z0, z1, z2, z3, z4, z5])).1 = T.getD k [] := join_same
    have HJ := hide (fun W => joined_c m0 m1 m2 m3 m4 m5 z0 z1 z2 z3 z4 z5 W (hm ▸ encZ_z6 (hT.get k)) hZ)
    rw [hm] at j1 j2
    have hjz : Z6 (jnZ [m0, m1, m2, m3, m4, m5] [z0, z1, z2, z3, z4, z5]) := by
      rw [j1]
      exact encZ_z6 ((hT.get k).join (by unfold nrm; split; exact .inr ⟨rfl, fun m hm' => ⟨by rename_i hx; have := List.all_eq_true.1 hx m hm'; simpa using this, hZ.lt m hm'⟩⟩; exact .inl rfl))
    obtain ⟨r0, r1, r2, r3, r4, r5, hr⟩ := z6_six hjz
    rw [hr] at HJ j1 j2
    have HJJ : Hid (∀ W, Calls Tryz.prog 74 #[zv6 m0 m1 m2 m3 m4 m5, zv6 z0 z1 z2 z3 z4 z5] W fun e w' => e = .returned (zv6 r0 r1 r2 r3 r4 r5) ∧ Kp no W w') := fun W => HJ.out W
    clear HJ
    clear hl hi0 hin h hm hr hjz
    have HTG := hide (hT.get k)
    have HTG2 : Hid (SOk (T.getD k [])) := HTG.out
    clear HTG
    generalize T.getD k [] = S0 at *
    clear HE HTG2
    have HTG := hide (hT.get k)
    generalize joinR S0 (nrm [z0, z1, z2, z3, z4, z5]) = J at *
    obtain ⟨J1, J2⟩ := J
    dsimp only at *
    have HJ1 := hide j1
    have HJ2 := hide j2
    have HST := hide hSet
    have HSM := hide hsame
    clear j1 j2 hSet hsame
    go_enter Tryz.func37, Tryz.ntmps37
    go_wp2_with fail
    refine (HJJ.out _).mono ?_
    rintro e w1 ⟨rfl, k1⟩
    have HF1 := hide (HH.out.kp (Kp.trans (by (repeat' (first | with_reducible exact Kp.refl _ _ | with_reducible refine Kp.alloc ?_ _ | with_reducible refine Kp.drewN ?_ _ | with_reducible refine Kp.drew ?_ | with_reducible refine Kp.setCell ?_ _ ?_ | (intro hh; first | rfl | exact .inl rfl | exact .inr rfl | (exfalso; (try dsimp only at hh); omega))))) k1 (fun _ _ e => e)))
    have HK1 := hide (show Kp no w w1 from Kp.trans (by (repeat' (first | with_reducible exact Kp.refl _ _ | with_reducible refine Kp.alloc ?_ _ | with_reducible refine Kp.drewN ?_ _ | with_reducible refine Kp.drew ?_ | with_reducible refine Kp.setCell ?_ _ ?_ | (intro hh; first | rfl | exact .inl rfl | exact .inr rfl | (exfalso; (try dsimp only at hh); omega))))) k1 (fun _ _ e => e))
    have hob : Blk w1 (w.heap.size + 1) [.int .i64 m0, .int .i64 m1, .int .i64 m2, .int .i64 m3, .int .i64 m4, .int .i64 m5] 75 := k1.blk (by (repeat' (first | ((with_reducible show (_ : List Value) = _); rfl) | ((with_reducible refine Blk.newAt _ _ _ ?_); first | with_reducible rfl | (simp; done)) | with_reducible refine Blk.alloc ?_ _ | with_reducible refine Blk.drewN ?_ _ | with_reducible refine Blk.drew ?_ | ((with_reducible refine Blk.other ?_ _ ?_); rotate_left; ((try dsimp only); omega)) | with_reducible refine Blk.setB (cs0 := ?_) ?_ ?_))) no_elim
    have hk1 := (HK1.out).size
    have hcl0 := cl
    have hcm0 := cm
    clear c0 c1 cf cg cl cm q0 q1 q2 q3 q4 q5 k1
    obtain ⟨c0, c1, cf, cg, cl, cm⟩ := HF1.out.c
    obtain ⟨o0, o1, o2, o3, o4, o5, of, ol⟩ := hob.c6
    have heq : ∀ W, (Op.equalIn 9999 73 (.agg #[.int .i64 r0, .int .i64 r1, .int .i64 r2, .int .i64 r3, .int .i64 r4, .int .i64 r5]) (.agg #[.int .i64 m0, .int .i64 m1, .int .i64 m2, .int .i64 m3, .int .i64 m4, .int .i64 m5])).run Tryz.prog W = .ok (decide ([r0, r1, r2, r3, r4, r5] = [m0, m1, m2, m3, m4, m5])) W := fun W => by
      rw [eqArr, eqArr_list]
    have HJ3 := hide (show J2 = !decide ([r0, r1, r2, r3, r4, r5] = [m0, m1, m2, m3, m4, m5]) by rw [HJ2.out, decide_not])
    have hne := HF1.out.ne
    obtain ⟨t0, t1, t2, t3, t4, t5, ht⟩ := z6_six (encZ_z6 (HTG.out))
    obtain ⟨q0, q1, q2, q3, q4, q5⟩ := HF1.out.at hk ht
    clear ht HJ2
    generalize decide ([r0, r1, r2, r3, r4, r5] = [m0, m1, m2, m3, m4, m5]) = q at *
    cases q
    · go_wp2
      refine wp_gen (fun W => FT W fp tb n T g ∧ Blk W w1.heap.size [.int .i64 r0, .int .i64 r1, .int .i64 r2, .int .i64 r3, .int .i64 r4, .int .i64 r5] 75 ∧ Kp no w W) ⟨HF1.out.kp ((Kp.refl _ _).alloc _), by (repeat' (first | ((with_reducible show (_ : List Value) = _); rfl) | ((with_reducible refine Blk.newAt _ _ _ ?_); first | with_reducible rfl | (simp; done)) | with_reducible refine Blk.alloc ?_ _ | with_reducible refine Blk.drewN ?_ _ | with_reducible refine Blk.drew ?_ | ((with_reducible refine Blk.other ?_ _ ?_); rotate_left; ((try dsimp only); omega)) | with_reducible refine Blk.setB (cs0 := ?_) ?_ ?_)), HK1.out.alloc _⟩ ?_
      rintro W ⟨hFW, hRW, kW⟩
      have HFW := hide hFW
      have HKW := hide kW
      clear c0 c1 cf cg cl cm q0 q1 q2 q3 q4 q5 o0 o1 o2 o3 o4 o5 of ol
      obtain ⟨c0, c1, cf, cg, cl, cm⟩ := hFW.c
      obtain ⟨t0, t1, t2, t3, t4, t5, ht⟩ := z6_six (encZ_z6 (HTG.out))
      obtain ⟨q0, q1, q2, q3, q4, q5⟩ := hFW.at hk ht
      obtain ⟨o0, o1, o2, o3, o4, o5, of, ol⟩ := hRW.c6
      clear hFW hRW kW ht
      go_region
      all_goals
        go_wp2
        go_end0
        rw [HJ3.out, Bool.not_false, Bool.or_true]
        refine ⟨rfl, ((HFW.out.set hk HJ1.out.symm).turn true).kp ((Kp.refl _ _).drew), ?_⟩
        have kk := HKW.out.mono (S' := TK2 fp tb) (fun _ e => e.elim)
        exact (((((((kk.setCell _ (fun _ => .inr rfl)).setCell _ (fun _ => .inr rfl)).setCell _ (fun _ => .inr rfl)).setCell _ (fun _ => .inr rfl)).setCell _ (fun _ => .inr rfl)).setCell _ (fun _ => .inr rfl)).setCell _ (fun _ => .inl rfl)).drew
    · go_wp2
      go_end0
      have hj : J1 = S0 := HSM.out (by rw [HJ3.out]; rfl)
      rw [HJ3.out, Bool.not_true, Bool.or_false, hj, HST.out]
      refine ⟨rfl, HF1.out.kp ((Kp.refl _ _).alloc _), ?_⟩
      have kk := HK1.out.mono (S' := TK2 fp tb) (fun _ e => e.elim)
      exact kk.alloc _
end Go.Proofs.YtellieabhaphhabGreatDoor

/-
  narrow's flow: the least table.
-/
namespace Go.Proofs.YtellieabhaphhabGreatDoor
open Go.RowKit

theorem into_nil (T : Tbl) (i : Int) : intoF T i [] = (T, false) := by
  unfold intoF
  split
  · rename_i h
    have e : joinR (T.getD i.toNat []) [] = (T.getD i.toNat [], false) := by rw [joinR, if_pos rfl]
    rw [e, set_getD (by omega)]
  · rfl

theorem or_again (a b : Nat) : a ||| b ||| b = a ||| b := by rw [Nat.or_assoc, Nat.or_self]

theorem zip_again : ∀ (a b : St), List.zipWith (· ||| ·) (List.zipWith (· ||| ·) a b) b = List.zipWith (· ||| ·) a b
  | [], _ => by simp
  | _ :: _, [] => by simp
  | x :: a, y :: b => by simp only [List.zipWith_cons_cons, zip_again a b, or_again]

theorem join_again {a s : St} (ha : SOk a) (hs : SOk s) : joinR (joinR a s).1 s = ((joinR a s).1, false) := by
  by_cases h0 : s = []
  · subst h0; rfl
  · by_cases h1 : a = []
    · subst h1
      have e : joinR [] s = (s, true) := by rw [joinR, if_neg h0, if_pos rfl]
      have hz : List.zipWith (· ||| ·) s s = s := by
        have : ∀ s : St, List.zipWith (· ||| ·) s s = s := by
          intro s
          induction s with
          | nil => rfl
          | cons x s ih => simp only [List.zipWith_cons_cons, ih, Nat.or_self]
        exact this s
      rw [e, joinR, if_neg h0, if_neg h0, hz]; simp
    · have hl := (hs.resolve_left h0).1
      have hl2 := (ha.resolve_left h1).1
      have e : joinR a s = (List.zipWith (· ||| ·) a s, decide (List.zipWith (· ||| ·) a s ≠ a)) := by rw [joinR, if_neg h0, if_neg h1]
      have hne : List.zipWith (· ||| ·) a s ≠ [] := fun e => by
        have := congrArg List.length e
        rw [List.length_zipWith, hl, hl2] at this
        cases this
      rw [e, joinR, if_neg h0, if_neg hne, zip_again]; simp

theorem into_again {T : Tbl} (hT : TOk T) (i : Int) {s : St} (hs : SOk s) : intoF (intoF T i s).1 i s = ((intoF T i s).1, false) := by
  by_cases h : 0 ≤ i ∧ i < T.length
  · have e : intoF T i s = (T.set i.toNat (joinR (T.getD i.toNat []) s).1, (joinR (T.getD i.toNat []) s).2) := by rw [intoF, if_pos h]
    rw [e]
    have hl : i.toNat < T.length := by omega
    have g : (T.set i.toNat (joinR (T.getD i.toNat []) s).1).getD i.toNat [] = (joinR (T.getD i.toNat []) s).1 := by
      rw [List.getD_eq_getElem?_getD, List.getElem?_set_self hl]; rfl
    rw [intoF, if_pos (by rw [List.length_set]; exact h)]
    dsimp only
    rw [g, join_again (hT.get _) hs, List.set_set]
  · have e : intoF T i s = (T, false) := by rw [intoF, if_neg h]
    rw [e]; exact e

theorem SOk.alg {S : St} (n : Nd) (b : Bool) (h : SOk S) : SOk (algF n b S) := by
  unfold algF; split
  · exact h.hld n b
  · exact h.beh n

/-- What narrow does with a node is what the answer does. -/
theorem pas_two {n : Nd} {T : Tbl} (hT : TOk T) {i : Nat} {S : St} (hS : T.getD i [] = S) (h0 : S ≠ []) :
    pasF n i T = ((intoF (intoF T (yesN n) (algF n true S)).1 (noN n) (algF n false S)).1, (intoF T (yesN n) (algF n true S)).2 || (intoF (intoF T (yesN n) (algF n true S)).1 (noN n) (algF n false S)).2) := by
  have hSO : SOk S := hS ▸ hT.get i
  rw [pasF, hS, if_neg h0]
  by_cases ht : n.op = 121 ∨ n.op = 58
  · rw [if_pos ht, algF, algF, if_pos ht, if_pos ht, yesN, noN, if_pos ht, if_neg (by omega)]
  · rw [if_neg ht, algF, algF, if_neg ht, if_neg ht, noN, if_neg ht]
    by_cases h3 : n.op = 33
    · have hb : behF n S = [] := by rw [behF, if_pos h3]
      rw [hb, into_nil, into_nil, into_nil]; rfl
    · rw [yesN, if_neg h3, into_again hT _ (hSO.beh n), Bool.or_false]

set_option maxRecDepth 100000 in
set_option maxHeartbeats 1600000 in
theorem pass_c (fp tb n : Nat) (T : Tbl) (g : Bool) (i : Nat) (nd : Nd) (tx : ByteArray) (w : World) (h : FT w fp tb n T g) (hT : TOk T) (hi : i < n) (hg : Gn nd) :
    Calls Tryz.prog 38 #[.pointer (some ⟨fp, 0, none⟩), .int .i64 i, .agg #[.string tx, .int .i64 (actN nd.op), .int .i64 nd.x, .int .i64 nd.y, .int .i64 (if nd.op = 43 ∨ nd.op = 60 then nd.v else nd.y), .int .i64 (bit (consN nd).k), .int .i64 (consN nd).n, .int .i64 (bit (consN nd).v), .int .i64 (if nd.op = 126 ∨ nd.op = 58 then bit nd.k else 0), .int .i64 (yesN nd), .int .i64 (noN nd)]] w
      fun e w' => e = .returned (.tuple #[]) ∧ FT w' fp tb n (pasF nd i T).1 (g || (pasF nd i T).2) ∧ Kp (TK2 fp tb) w w' := by
  have HH := hide h
  have HSO := hide (fun W hW => stateOf_c fp tb n T g i W hW hi)
  have hSk := hT.get i
  obtain ⟨m0, m1, m2, m3, m4, m5, hm⟩ := z6_six (encZ_z6 hSk)
  obtain ⟨c0, c1, cf, cg, cl, cm⟩ := h.c
  have HAL := hide (fun b S W hF => along_c nd tx (yesN nd) (noN nd) S b W hg hF)
  have HP2 := hide (fun h0 => pas_two (n := nd) (i := i) (S := T.getD i []) hT rfl h0)
  have HP1 := hide (fun h0 : T.getD i [] = [] => show pasF nd i T = (T, false) by rw [pasF, if_pos h0])
  have HEX := hide (exS_enc hSk)
  generalize hSS : T.getD i [] = S at *
  clear hSS
  rw [hm] at HSO HEX
  have HZ6 := hide (show Z6 [m0, m1, m2, m3, m4, m5] from hm ▸ encZ_z6 hSk)
  have HM := hide hm
  have HSOK := hide hSk
  clear h hm hSk
  generalize pasF nd i T = PF at *
  generalize yesN nd = yn at *
  generalize noN nd = nn at *
  generalize actN nd.op = act at *
  generalize (if nd.op = 43 ∨ nd.op = 60 then nd.v else nd.y) = nwv at *
  generalize (if nd.op = 126 ∨ nd.op = 58 then bit nd.k else 0) = kdv at *
  generalize (consN nd).n = cnn at *
  generalize bit (consN nd).k = ckk at *
  generalize bit (consN nd).v = chh at *
  have HSO2 : Hid (∀ W, FT W fp tb n T g → Calls Tryz.prog 39 #[.slice (some ⟨tb, 0, none⟩) n n, .int .i64 i] W fun e w' => e = .returned (zv6 m0 m1 m2 m3 m4 m5) ∧ Kp no W w') := fun W hW => HSO.out W hW
  clear HSO
  go_enter Tryz.func38, Tryz.ntmps38
  go_wp2_with fail
  refine (HSO2.out _ (HH.out.kp (by (repeat' (first | with_reducible exact Kp.refl _ _ | with_reducible refine Kp.alloc ?_ _ | with_reducible refine Kp.drewN ?_ _ | with_reducible refine Kp.drew ?_ | with_reducible refine Kp.setCell ?_ _ ?_ | (intro hh; first | rfl | exact .inl rfl | exact .inr rfl | (exfalso; (try dsimp only at hh); omega))))))).mono ?_
  rintro e w1 ⟨rfl, k1⟩
  have hN1 : Blk w1 w.heap.size [.string tx, .int .i64 act, .int .i64 nd.x, .int .i64 nd.y, .int .i64 nwv, .int .i64 ckk, .int .i64 cnn, .int .i64 chh, .int .i64 kdv, .int .i64 yn, .int .i64 nn] 68 := k1.blk (by (repeat' (first | ((with_reducible show (_ : List Value) = _); rfl) | ((with_reducible refine Blk.newAt _ _ _ ?_); first | with_reducible rfl | (simp; done)) | with_reducible refine Blk.alloc ?_ _ | with_reducible refine Blk.drewN ?_ _ | with_reducible refine Blk.drew ?_ | ((with_reducible refine Blk.other ?_ _ ?_); rotate_left; ((try dsimp only); omega)) | with_reducible refine Blk.setB (cs0 := ?_) ?_ ?_))) no_elim
  have HF1 := hide (HH.out.kp (Kp.trans (by (repeat' (first | with_reducible exact Kp.refl _ _ | with_reducible refine Kp.alloc ?_ _ | with_reducible refine Kp.drewN ?_ _ | with_reducible refine Kp.drew ?_ | with_reducible refine Kp.setCell ?_ _ ?_ | (intro hh; first | rfl | exact .inl rfl | exact .inr rfl | (exfalso; (try dsimp only at hh); omega))))) k1 (fun _ _ e => e)))
  have HK1 := hide (show Kp no w w1 from Kp.trans (by (repeat' (first | with_reducible exact Kp.refl _ _ | with_reducible refine Kp.alloc ?_ _ | with_reducible refine Kp.drewN ?_ _ | with_reducible refine Kp.drew ?_ | with_reducible refine Kp.setCell ?_ _ ?_ | (intro hh; first | rfl | exact .inl rfl | exact .inr rfl | (exfalso; (try dsimp only at hh); omega))))) k1 (fun _ _ e => e))
  have hs1 := HK1.out.size
  have hnl := hN1.lt
  clear k1 HSO2 c0 c1 cf cg cl cm
  go_wp2_with fail
  refine (exists_c _ [m0, m1, m2, m3, m4, m5] _ (by (show Blk _ _ [.int .i64 m0, .int .i64 m1, .int .i64 m2, .int .i64 m3, .int .i64 m4, .int .i64 m5] _); (repeat' (first | ((with_reducible show (_ : List Value) = _); rfl) | ((with_reducible refine Blk.newAt _ _ _ ?_); first | with_reducible rfl | (simp; done)) | with_reducible refine Blk.alloc ?_ _ | with_reducible refine Blk.drewN ?_ _ | with_reducible refine Blk.drew ?_ | ((with_reducible refine Blk.other ?_ _ ?_); rotate_left; ((try dsimp only); omega)) | with_reducible refine Blk.setB (cs0 := ?_) ?_ ?_))) HZ6.out).mono ?_
  rintro e w' ⟨rfl, rfl⟩
  rw [HEX.out]
  clear HEX
  by_cases h0 : S = []
  · have HPP := hide (HP1.out h0)
    rw [decide_eq_false (fun e => e h0)]
    go_wp2
    refine bodyPost_ret (results_none rfl _ _ _) rfl ?_
    rw [HPP.out, Bool.or_false]
    exact ⟨rfl, HF1.out.kp ((Kp.refl _ _).alloc _), (HK1.out.alloc _).mono (fun _ e => e.elim)⟩
  · have hFul := HSOK.out.ful h0
    have hSm : S = [m0, m1, m2, m3, m4, m5] := by rw [← encZ_ful hFul]; exact HM.out
    have HPP := hide (HP2.out h0)
    rw [decide_eq_true h0]
    clear HP1 HP2 h0 HM
    subst hSm
    have HFU := hide hFul
    clear hFul
    obtain ⟨n0, n1, n2, n3, n4, n5, n6, n7, n8, n9, n10, nf⟩ := hN1.c11
    go_wp2_with fail
    refine (HAL.out true [m0, m1, m2, m3, m4, m5] _ HFU.out).mono ?_
    rintro e w3 ⟨Z, rfl, hZ6, hZn, k3⟩
    obtain ⟨y0, y1, y2, y3, y4, y5, rfl⟩ := z6_six hZ6
    rw [show Value.agg (zc [y0, y1, y2, y3, y4, y5]).toArray = zv6 y0 y1 y2 y3 y4 y5 from rfl]
    have hN3 : Blk w3 w.heap.size [.string tx, .int .i64 act, .int .i64 nd.x, .int .i64 nd.y, .int .i64 nwv, .int .i64 ckk, .int .i64 cnn, .int .i64 chh, .int .i64 kdv, .int .i64 yn, .int .i64 nn] 68 := k3.blk (by (repeat' (first | ((with_reducible show (_ : List Value) = _); rfl) | with_reducible exact hN1 | ((with_reducible refine Blk.newAt _ _ _ ?_); first | with_reducible rfl | (simp; done)) | with_reducible refine Blk.alloc ?_ _ | with_reducible refine Blk.drewN ?_ _ | with_reducible refine Blk.drew ?_ | ((with_reducible refine Blk.other ?_ _ ?_); rotate_left; ((try dsimp only); omega)) | with_reducible refine Blk.setB (cs0 := ?_) ?_ ?_))) no_elim
    have hA3 : Blk w3 w1.heap.size [.int .i64 m0, .int .i64 m1, .int .i64 m2, .int .i64 m3, .int .i64 m4, .int .i64 m5] 75 := k3.blk (by (repeat' (first | ((with_reducible show (_ : List Value) = _); rfl) | ((with_reducible refine Blk.newAt _ _ _ ?_); first | with_reducible rfl | (simp; done)) | with_reducible refine Blk.alloc ?_ _ | with_reducible refine Blk.drewN ?_ _ | with_reducible refine Blk.drew ?_ | ((with_reducible refine Blk.other ?_ _ ?_); rotate_left; ((try dsimp only); omega)) | with_reducible refine Blk.setB (cs0 := ?_) ?_ ?_))) no_elim
    have HF3 := hide (HF1.out.kp (Kp.trans (by (repeat' (first | with_reducible exact Kp.refl _ _ | with_reducible refine Kp.alloc ?_ _ | with_reducible refine Kp.drewN ?_ _ | with_reducible refine Kp.drew ?_ | with_reducible refine Kp.setCell ?_ _ ?_ | (intro hh; first | rfl | exact .inl rfl | exact .inr rfl | (exfalso; (try dsimp only at hh); omega))))) k3 (fun _ _ e => e)))
    have HK3 := hide (HK1.out.trans (S' := no) (Kp.trans (by (repeat' (first | with_reducible exact Kp.refl _ _ | with_reducible refine Kp.alloc ?_ _ | with_reducible refine Kp.drewN ?_ _ | with_reducible refine Kp.drew ?_ | with_reducible refine Kp.setCell ?_ _ ?_ | (intro hh; first | rfl | exact .inl rfl | exact .inr rfl | (exfalso; (try dsimp only at hh); omega))))) k3 (fun _ _ e => e)) (fun _ _ e => e))
    have HZY := hide hZ6
    have HNY := hide hZn
    clear k3 n0 n1 n2 n3 n4 n5 n6 n7 n8 n9 n10 nf hN1 hnl HF1 HK1 hZ6 hZn
    obtain ⟨n0, n1, n2, n3, n4, n5, n6, n7, n8, n9, n10, nf⟩ := hN3.c11; have hnl := hN3.lt
    obtain ⟨a0, a1, a2, a3, a4, a5, af, al⟩ := hA3.c6
    go_wp2_with fail
    refine (HAL.out false [m0, m1, m2, m3, m4, m5] _ HFU.out).mono ?_
    rintro e w4 ⟨Z2, rfl, hZ6, hZn, k4⟩
    obtain ⟨o0, o1, o2, o3, o4, o5, rfl⟩ := z6_six hZ6
    rw [show Value.agg (zc [o0, o1, o2, o3, o4, o5]).toArray = zv6 o0 o1 o2 o3 o4 o5 from rfl]
    have hN4 : Blk w4 w.heap.size [.string tx, .int .i64 act, .int .i64 nd.x, .int .i64 nd.y, .int .i64 nwv, .int .i64 ckk, .int .i64 cnn, .int .i64 chh, .int .i64 kdv, .int .i64 yn, .int .i64 nn] 68 := k4.blk (by (repeat' (first | ((with_reducible show (_ : List Value) = _); rfl) | with_reducible exact hN3 | ((with_reducible refine Blk.newAt _ _ _ ?_); first | with_reducible rfl | (simp; done)) | with_reducible refine Blk.alloc ?_ _ | with_reducible refine Blk.drewN ?_ _ | with_reducible refine Blk.drew ?_ | ((with_reducible refine Blk.other ?_ _ ?_); rotate_left; ((try dsimp only); omega)) | with_reducible refine Blk.setB (cs0 := ?_) ?_ ?_))) no_elim
    have hY4 : Blk w4 w3.heap.size [.int .i64 y0, .int .i64 y1, .int .i64 y2, .int .i64 y3, .int .i64 y4, .int .i64 y5] 75 := k4.blk (by (repeat' (first | ((with_reducible show (_ : List Value) = _); rfl) | ((with_reducible refine Blk.newAt _ _ _ ?_); first | with_reducible rfl | (simp; done)) | with_reducible refine Blk.alloc ?_ _ | with_reducible refine Blk.drewN ?_ _ | with_reducible refine Blk.drew ?_ | ((with_reducible refine Blk.other ?_ _ ?_); rotate_left; ((try dsimp only); omega)) | with_reducible refine Blk.setB (cs0 := ?_) ?_ ?_))) no_elim
    have HF4 := hide (HF3.out.kp (Kp.trans (by (repeat' (first | with_reducible exact Kp.refl _ _ | with_reducible refine Kp.alloc ?_ _ | with_reducible refine Kp.drewN ?_ _ | with_reducible refine Kp.drew ?_ | with_reducible refine Kp.setCell ?_ _ ?_ | (intro hh; first | rfl | exact .inl rfl | exact .inr rfl | (exfalso; (try dsimp only at hh); omega))))) k4 (fun _ _ e => e)))
    have HK4 := hide (HK3.out.trans (S' := no) (Kp.trans (by (repeat' (first | with_reducible exact Kp.refl _ _ | with_reducible refine Kp.alloc ?_ _ | with_reducible refine Kp.drewN ?_ _ | with_reducible refine Kp.drew ?_ | with_reducible refine Kp.setCell ?_ _ ?_ | (intro hh; first | rfl | exact .inl rfl | exact .inr rfl | (exfalso; (try dsimp only at hh); omega))))) k4 (fun _ _ e => e)) (fun _ _ e => e))
    have HZO := hide hZ6
    have HNO := hide hZn
    clear k4 n0 n1 n2 n3 n4 n5 n6 n7 n8 n9 n10 nf hN3 hnl a0 a1 a2 a3 a4 a5 af al hA3 HF3 HK3 hZ6 hZn
    obtain ⟨n0, n1, n2, n3, n4, n5, n6, n7, n8, n9, n10, nf⟩ := hN4.c11; have hnl := hN4.lt
    obtain ⟨b0, b1, b2, b3, b4, b5, bf, bl⟩ := hY4.c6
    have HCO1 := hide (fun W hW => come_c fp tb n T g yn [y0, y1, y2, y3, y4, y5] W hW hT HZY.out)
    have HOK1 := hide (hT.into yn (HSOK.out.alg nd true))
    rw [HNY.out] at HCO1
    rw [show Value.agg (zc [y0, y1, y2, y3, y4, y5]).toArray = zv6 y0 y1 y2 y3 y4 y5 from rfl] at HCO1
    have HCO2 := hide (fun W g hW => come_c fp tb n (intoF T yn (algF nd true [m0, m1, m2, m3, m4, m5])).1 g nn [o0, o1, o2, o3, o4, o5] W hW HOK1.out HZO.out)
    rw [HNO.out] at HCO2
    rw [show Value.agg (zc [o0, o1, o2, o3, o4, o5]).toArray = zv6 o0 o1 o2 o3 o4 o5 from rfl] at HCO2
    generalize intoF T yn (algF nd true [m0, m1, m2, m3, m4, m5]) = I1 at *
    obtain ⟨T1, g1⟩ := I1
    dsimp only at HCO1 HCO2 HPP
    go_wp2_with fail
    refine (HCO1.out _ (HF4.out.kp (by (repeat' (first | with_reducible exact Kp.refl _ _ | with_reducible refine Kp.alloc ?_ _ | with_reducible refine Kp.drewN ?_ _ | with_reducible refine Kp.drew ?_ | with_reducible refine Kp.setCell ?_ _ ?_ | (intro hh; first | rfl | exact .inl rfl | exact .inr rfl | (exfalso; (try dsimp only at hh); omega))))))).mono ?_
    rintro e w5 ⟨rfl, hF5, k5⟩
    have hne : ∀ b, w.heap.size ≤ b → ¬ TK2 fp tb b := fun b hb e => by
      have := HH.out.c.2.2.2.2
      rcases e with rfl | rfl <;> omega
    have hN5 : Blk w5 w.heap.size [.string tx, .int .i64 act, .int .i64 nd.x, .int .i64 nd.y, .int .i64 nwv, .int .i64 ckk, .int .i64 cnn, .int .i64 chh, .int .i64 kdv, .int .i64 yn, .int .i64 nn] 68 := k5.blk (by (repeat' (first | ((with_reducible show (_ : List Value) = _); rfl) | with_reducible exact hN4 | ((with_reducible refine Blk.newAt _ _ _ ?_); first | with_reducible rfl | (simp; done)) | with_reducible refine Blk.alloc ?_ _ | with_reducible refine Blk.drewN ?_ _ | with_reducible refine Blk.drew ?_ | ((with_reducible refine Blk.other ?_ _ ?_); rotate_left; ((try dsimp only); omega)) | with_reducible refine Blk.setB (cs0 := ?_) ?_ ?_))) (hne _ (Nat.le_refl _))
    have hO5 : Blk w5 w4.heap.size [.int .i64 o0, .int .i64 o1, .int .i64 o2, .int .i64 o3, .int .i64 o4, .int .i64 o5] 75 := k5.blk (by (repeat' (first | ((with_reducible show (_ : List Value) = _); rfl) | ((with_reducible refine Blk.newAt _ _ _ ?_); first | with_reducible rfl | (simp; done)) | with_reducible refine Blk.alloc ?_ _ | with_reducible refine Blk.drewN ?_ _ | with_reducible refine Blk.drew ?_ | ((with_reducible refine Blk.other ?_ _ ?_); rotate_left; ((try dsimp only); omega)) | with_reducible refine Blk.setB (cs0 := ?_) ?_ ?_))) (hne _ HK4.out.size)
    have HK5 := hide (show Kp (TK2 fp tb) w w5 from Kp.trans (S' := TK2 fp tb) (HK4.out.mono (fun _ e => e.elim) |>.alloc _) k5 (fun _ _ e => e))
    clear k5 n0 n1 n2 n3 n4 n5 n6 n7 n8 n9 n10 nf hN4 hnl b0 b1 b2 b3 b4 b5 bf bl hY4
    obtain ⟨n0, n1, n2, n3, n4, n5, n6, n7, n8, n9, n10, nf⟩ := hN5.c11; have hnl := hN5.lt
    obtain ⟨b0, b1, b2, b3, b4, b5, bf, bl⟩ := hO5.c6
    have HF5 := hide hF5
    clear hF5
    go_wp2_with fail
    refine (HCO2.out _ _ HF5.out).mono ?_
    rintro e w6 ⟨rfl, hF6, k6⟩
    go_wp2
    go_end0
    rw [HPP.out]
    refine ⟨rfl, ?_, HK5.out.trans k6 (fun _ _ e => e)⟩
    rw [← Bool.or_assoc]
    exact hF6
end Go.Proofs.YtellieabhaphhabGreatDoor

/-
  narrow's flow: the least table.
-/
namespace Go.Proofs.YtellieabhaphhabGreatDoor
open Go.RowKit

theorem info_st : (Tryz.prog.info? 75).map (fun i => (i.zero, i.size, i.bytes)) = some (some (.agg #[.int .i64 0, .int .i64 0, .int .i64 0, .int .i64 0, .int .i64 0, .int .i64 0]), 6, 48) := by kernel_rfl

theorem made_six (n : Nat) : (madeCells (Value.agg #[.int .i64 0, .int .i64 0, .int .i64 0, .int .i64 0, .int .i64 0, .int .i64 0]).cells (n * 6)).toList = tCells (List.replicate n []) := by
  apply List.ext_getElem
  · rw [tCells, flat_len _ 6 zce6]; simp [madeCells]
  · intro i h1 h2
    have hc : (Value.agg #[.int .i64 0, .int .i64 0, .int .i64 0, .int .i64 0, .int .i64 0, .int .i64 0]).cells = #[.int .i64 0, .int .i64 0, .int .i64 0, .int .i64 0, .int .i64 0, .int .i64 0] := rfl
    have hall : ∀ v ∈ tCells (List.replicate n []), v = .int .i64 0 := by
      intro v hv
      rw [tCells, List.mem_flatMap] at hv
      obtain ⟨s, hs, hv⟩ := hv
      rw [List.eq_of_mem_replicate hs] at hv
      simp [zc, encZ] at hv
      exact hv
    rw [hall _ (List.getElem_mem h2)]
    simp only [madeCells, hc, Array.getElem_toList, Array.getElem_map, Array.getElem_range]
    have hm : i % 6 < 6 := Nat.mod_lt _ (by decide)
    rcases (show i % 6 = 0 ∨ i % 6 = 1 ∨ i % 6 = 2 ∨ i % 6 = 3 ∨ i % 6 = 4 ∨ i % 6 = 5 by omega) with e | e | e | e | e | e <;> simp [e]

theorem rowk_blk {w : World} {b n k : Nat} {T : TypeId} {vs : List Value} (h : Row w (.slice (some ⟨b, 0, none⟩) n n) T k n vs) : Blk w b vs T := by
  rcases h.2 with ⟨e, _⟩ | ⟨g, cap, cur, e, _, hg, _, _, hs, ht⟩
  · cases e
  · injection e with e1 e2 e3
    injection e1 with e1
    injection e1 with e1
    subst e1 e3
    rw [List.take_of_length_le (by simp [hs])] at ht
    unfold Blk
    rw [hg, ← ht]

/-- The table at the beginning. -/
def tN (n : Nat) : Tbl := (tR n).take n

theorem tN_into (n : Nat) : intoF (List.replicate n []) 0 st0 = (tN n, decide (0 < n)) := by
  cases n with
  | zero => rfl
  | succ n =>
    rw [intoF, if_pos (by simp)]
    have e : joinR ((List.replicate (n + 1) ([] : St)).getD (0 : Int).toNat []) st0 = (st0, true) := rfl
    rw [e]
    refine Prod.ext ?_ (by simp)
    show (List.replicate (n + 1) ([] : St)).set 0 st0 = (st0 :: List.replicate (n + 1) []).take (n + 1)
    rw [List.replicate_succ, List.set_cons_zero, List.take_succ_cons, ← List.replicate_succ, List.take_replicate]
    simp

theorem tN_len (n : Nat) : (tN n).length = n := by rw [tN, tR, List.length_take]; simp
theorem tN_ok (n : Nat) : TOk (tN n) := fun s hs => tR_ok n s (List.mem_of_mem_take hs)
theorem rep_ok (n : Nat) : TOk (List.replicate n []) := fun s hs => by rw [List.eq_of_mem_replicate hs]; exact .nil

theorem lst_tN (l : List Nd) : lstF l = itF l 4000 (tN l.length) := by
  rw [lstF, it_take (Nat.le_refl _) (by simp [tR])]; rfl

theorem st0_z6 : Z6 st0 := ⟨rfl, by decide⟩
theorem nrm_st0 : nrm st0 = st0 := rfl

/-- The flow and the nodes. -/
structure NS (w : World) (fp tb n : Nat) (T : Tbl) (g : Bool) (v : Value) (L : List NN) : Prop where
  f : FT w fp tb n T g
  r : NRow w v L
  o1 : v.ownBlock ≠ some fp
  o2 : v.ownBlock ≠ some tb

theorem NS.kp {w w' : World} {fp tb n : Nat} {T : Tbl} {g : Bool} {v : Value} {L : List NN} (h : NS w fp tb n T g v L) (k : Kp no w w') : NS w' fp tb n T g v L :=
  ⟨h.f.kp k, k.row h.r (fun _ _ => no_elim), h.o1, h.o2⟩
theorem NS.tk {w w' : World} {fp tb n : Nat} {T T' : Tbl} {g g' : Bool} {v : Value} {L : List NN} (h : NS w fp tb n T g v L) (k : Kp (TK2 fp tb) w w') (f : FT w' fp tb n T' g') : NS w' fp tb n T' g' v L :=
  ⟨f, k.row h.r (fun b hb e => by rcases e with rfl | rfl; exact h.o1 hb; exact h.o2 hb), h.o1, h.o2⟩
theorem NS.turn {w : World} {fp tb n : Nat} {T : Tbl} {g : Bool} {v : Value} {L : List NN} (h : NS w fp tb n T g v L) (b : Bool) : NS (w.setCell ⟨fp, 1, none⟩ (.bool b)) fp tb n T b v L :=
  ⟨h.f.turn b, Row.set h.r _ h.o1, h.o1, h.o2⟩

set_option maxRecDepth 100000 in
set_option maxHeartbeats 1600000 in
theorem leastTable_c (s : ByteArray) (v : Value) (l : List Nd) (w : World) (h : NRow w v (l.map (encX s))) (hl : l.length ≤ 90) (hg : ∀ n ∈ l, Gd s n) :
    Calls Tryz.prog 18 #[v] w fun e w' => ∃ tb, e = .returned (.slice (some ⟨tb, 0, none⟩) l.length l.length) ∧ Blk w' tb (tCells (lstF l)) 75 ∧ Kp no w w' := by
  obtain ⟨i0, hi, hz0, hz1, hz2⟩ := info_parts info_st
  obtain ⟨a, cap, rfl⟩ := h.shape
  rw [List.length_map] at h ⊢
  have HD := hide h
  clear h
  go_enter Tryz.func18, Tryz.ntmps18
  go_wp2_with (at_make; refine wpList_make_full _ rfl (.tmp 8) (.tmp 8) 46 rfl 0 75 i0 _ 6 Tryz.underlying46 hi hz0 hz1 .i64 .i64 (l.length : Int) (l.length : Int) l.length (by simp [Act.eval]) (by simp [Act.eval]) rfl rfl (by rw [hz2]; omega) (by unfold maxLen; omega) (Nat.zero_le _) ?_; intro w1 hrow hgrow)
  have k1 : Kp no w w1 := (Kp.refl _ _).grown hgrow (fun k _ e => by cases e)
  have hb := rowk_blk hrow
  rw [made_six] at hb
  have hbl := hb.lt
  have hN0 : NS (w1.alloc (.cells #[.slice (some ⟨w.heap.size, 0, none⟩) l.length l.length, .bool false] 72)) w1.heap.size w.heap.size l.length (List.replicate l.length []) false (.slice a l.length cap) (l.map (encX s)) := by
    refine ⟨⟨by (repeat' (first | ((with_reducible show (_ : List Value) = _); rfl) | ((with_reducible refine Blk.newAt _ _ _ ?_); first | with_reducible rfl | (simp; done)) | with_reducible refine Blk.alloc ?_ _ | with_reducible refine Blk.drewN ?_ _ | with_reducible refine Blk.drew ?_ | ((with_reducible refine Blk.other ?_ _ ?_); rotate_left; ((try dsimp only); omega)) | with_reducible refine Blk.setB (cs0 := ?_) ?_ ?_)), by omega, by simp, hb.alloc _⟩, World.ownsRow.alloc (k1.row HD.out (fun _ _ => no_elim)) _, ?_, ?_⟩
    · intro e; have := Row.lt HD.out e; have := k1.size; omega
    · intro e; have := Row.lt HD.out e; omega
  have hk0 : Kp no w (w1.alloc (.cells #[.slice (some ⟨w.heap.size, 0, none⟩) l.length l.length, .bool false] 72)) := k1.alloc _
  have hs1 := k1.size
  refine (firstState_c _).mono ?_
  rintro e w2 ⟨rfl, k2⟩
  rw [show Value.agg (zc st0).toArray = zv6 8 8 8 8 8 8 from rfl]
  have HN2 := hide (hN0.kp k2)
  have HK2 := hide (hk0.trans k2 (fun _ _ e => e))
  clear hN0 hk0 k2 hb hrow hgrow k1 hbl
  generalize w1.heap.size = fp at *
  obtain ⟨tb, htb⟩ : ∃ tb, tb = w.heap.size := ⟨_, rfl⟩
  rw [← htb] at HN2 ⊢
  have HTB := hide htb
  have HTP := hide hs1
  clear hs1 htb
  have HCO := hide (fun W hW => come_c fp tb l.length (List.replicate l.length []) false 0 st0 W hW (rep_ok _) st0_z6)
  rw [nrm_st0, tN_into, Bool.false_or] at HCO
  rw [show Value.agg (zc st0).toArray = zv6 8 8 8 8 8 8 from rfl] at HCO
  dsimp only at HCO
  go_wp2_with fail
  refine (HCO.out _ (HN2.out.f.kp (by (repeat' (first | with_reducible exact Kp.refl _ _ | with_reducible refine Kp.alloc ?_ _ | with_reducible refine Kp.drewN ?_ _ | with_reducible refine Kp.drew ?_ | with_reducible refine Kp.setCell ?_ _ ?_ | (intro hh; first | rfl | exact .inl rfl | exact .inr rfl | (exfalso; (try dsimp only at hh); omega))))))).mono ?_
  rintro e w3 ⟨rfl, hF3, k3⟩
  have HN3 := hide ((HN2.out.kp (by (repeat' (first | with_reducible exact Kp.refl _ _ | with_reducible refine Kp.alloc ?_ _ | with_reducible refine Kp.drewN ?_ _ | with_reducible refine Kp.drew ?_ | with_reducible refine Kp.setCell ?_ _ ?_ | (intro hh; first | rfl | exact .inl rfl | exact .inr rfl | (exfalso; (try dsimp only at hh); omega)))))).tk k3 hF3)
  have HK3 := hide ((HK2.out.alloc _).trans k3 (fun x hx e => by have := HTB.out; have := HTP.out; rcases e with rfl | rfl <;> omega))
  clear hF3 k3 HN2 HK2 HCO
  have HOK := hide (tN_ok l.length)
  have HTL := hide (tN_len l.length)
  have HFIN := hide (lst_tN l)
  go_wp2
  go_loopg [] 4000 (fun k wr => ∃ (j : Nat) (g : Bool), k = 4000 - j ∧ NS wr fp tb l.length (itF l j (tN l.length)) g (.slice a l.length cap) (l.map (encX s)) ∧ (g = true → j ≤ mT (itF l j (tN l.length))) ∧ (g = false → (swpF l 0 (itF l j (tN l.length))).1 = itF l j (tN l.length) ∧ j ≤ 4000) ∧ Kp no w wr)
  case atStart =>
    refine ⟨0, _, rfl, HN3.out, fun _ => Nat.zero_le _, fun e => ⟨?_, Nat.zero_le _⟩, HK3.out⟩
    have h0 : l.length = 0 := by have := of_decide_eq_false e; omega
    rw [List.length_eq_zero_iff.1 h0]
    rfl
  case round =>
    obtain ⟨j, g, hk, hS, hgt, hgf, kr⟩ := hrel
    have HKK := hide hk
    have HS := hide hS
    have HGT := hide hgt
    have HGF := hide hgf
    have HKR := hide kr
    obtain ⟨c0, c1, cf, cg, cl, cm⟩ := hS.f.c
    have HTO := hide (TOk.it (l := l) (k := j) HOK.out)
    have HIT := hide (it_succ l j (tN l.length))
    have HRST := hide (fun hf hj => it_rest l (tN l.length) j hf 4000 hj)
    have HBD := hide (show mT (itF l j (tN l.length)) ≤ 3780 from Nat.le_trans (mT_le HTO.out) (by rw [it_len, HTL.out]; omega))
    clear hk hS hgt hgf kr
    generalize hTT : itF l j (tN l.length) = T at *
    cases g
    · obtain ⟨hf, hj⟩ := HGF.out rfl
      have HR2 := hide (HRST.out hf hj)
      clear hf hj hTT
      go_wp2
      go_ret
      refine ⟨tb, rfl, ?_, HKR.out⟩
      rw [HFIN.out, HR2.out]
      exact HS.out.f.b
    · have hj := HGT.out rfl
      have hsw := swp_le (l := l) (i := 0) HTO.out
      have HSW := hide hsw
      clear hTT hsw
      go_wp2
      go_loopg [19] l.length (fun k iv wx => ∃ q : Nat, q ≤ l.length ∧ k = l.length - q ∧ iv = .int .i64 q ∧ NS wx fp tb l.length (swpF (l.take q) 0 T).1 (swpF (l.take q) 0 T).2 (.slice a l.length cap) (l.map (encX s)) ∧ Kp no w wx)
      case atStart => exact ⟨0, Nat.zero_le _, rfl, rfl, HS.out.turn false, HKR.out.setCell _ (fun hb => by have := HTP.out; dsimp only at hb; omega)⟩
      case round =>
        obtain ⟨q, hq, hk2, rfl, hS2, kx⟩ := hrel
        have HKK2 := hide hk2
        have HB := hide hS2
        have HKB := hide kx
        clear hk2 hS2 kx c0 c1 cf cg cl cm
        by_cases hlt : q < l.length
        · obtain ⟨nd, hnd⟩ : ∃ nd, l[q]? = some nd := ⟨_, List.getElem?_eq_getElem hlt⟩
          have HGD := hide (hg nd (List.mem_of_getElem? hnd))
          have HSN := hide (show swpF (l.take (q + 1)) 0 T = ((pasF nd q (swpF (l.take q) 0 T).1).1, (swpF (l.take q) 0 T).2 || (pasF nd q (swpF (l.take q) 0 T).1).2) by
            obtain ⟨h1, rfl⟩ := List.getElem?_eq_some_iff.1 hnd
            rw [List.take_succ_eq_append_getElem h1, swp_snoc, List.length_take, Nat.min_eq_left hq, Nat.zero_add])
          have HTQ := hide (TOk.swp (l := l.take q) (i := 0) HTO.out)
          have hRR : NRow wr (.slice a (l.map (encX s)).length cap) (l.map (encX s)) := by
            have := HB.out.r
            rw [show (Value.slice a l.length cap) = .slice a (l.map (encX s)).length cap by rw [List.length_map]] at this
            exact this
          obtain ⟨_, gn, ha, hgn, n0, n1, n2, n3, n4, n5, n6, n7, n8, n9, n10⟩ := NRow.at hRR (k := q) (n := encX s nd) (by rw [List.getElem?_map, hnd]; rfl)
          subst ha
          clear hnd hRR
          generalize swpF (l.take q) 0 T = TG at *
          obtain ⟨T1, g1⟩ := TG
          dsimp only at HSN HTQ HB
          have HPA := hide (fun W hW => pass_c fp tb l.length T1 g1 q nd (s.extract nd.a.toNat (nd.a + nd.l).toNat) W hW HTQ.out hlt HGD.out.g)
          dsimp only [encX, encN] at n0 n1 n2 n3 n4 n5 n6 n7 n8 n9 n10
          generalize s.extract nd.a.toNat (nd.a + nd.l).toNat = tx at *
          generalize pasF nd q T1 = PF at *
          generalize yesN nd = yn at *
          generalize noN nd = nn at *
          generalize actN nd.op = act at *
          generalize (if nd.op = 43 ∨ nd.op = 60 then nd.v else nd.y) = nwv at *
          generalize (if nd.op = 126 ∨ nd.op = 58 then bit nd.k else 0) = kdv at *
          generalize (consN nd).n = cnn at *
          generalize bit (consN nd).k = ckk at *
          generalize bit (consN nd).v = chh at *
          have hqI : (q : Int) < l.length := by omega
          go_wp2_with fail
          refine (HPA.out _ (HB.out.f.kp (by (repeat' (first | with_reducible exact Kp.refl _ _ | with_reducible refine Kp.alloc ?_ _ | with_reducible refine Kp.drewN ?_ _ | with_reducible refine Kp.drew ?_ | with_reducible refine Kp.setCell ?_ _ ?_ | (intro hh; first | rfl | exact .inl rfl | exact .inr rfl | (exfalso; (try dsimp only at hh); omega))))))).mono ?_
          rintro e w5 ⟨rfl, hF5, k5⟩
          have HB5 := hide ((HB.out.kp (by (repeat' (first | with_reducible exact Kp.refl _ _ | with_reducible refine Kp.alloc ?_ _ | with_reducible refine Kp.drewN ?_ _ | with_reducible refine Kp.drew ?_ | with_reducible refine Kp.setCell ?_ _ ?_ | (intro hh; first | rfl | exact .inl rfl | exact .inr rfl | (exfalso; (try dsimp only at hh); omega)))))).tk k5 hF5)
          have HK5 := hide ((HKB.out.alloc _).trans k5 (fun x hx e => by have := HTB.out; have := HTP.out; rcases e with rfl | rfl <;> omega))
          go_wp2
          go_roundg (l.length - (q + 1))
          case measure => have := HKK2.out; omega
          case rel => exact ⟨q + 1, by omega, rfl, by go_num, by rw [HSN.out]; exact HB5.out, HK5.out⟩
        · obtain rfl : q = l.length := by omega
          rw [List.take_length] at HB
          go_wp2
          go_roundg (4000 - (j + 1))
          case measure => have := HKK.out; have := HBD.out; omega
          case rel =>
            refine ⟨j + 1, _, rfl, by rw [HIT.out]; exact HB.out, ?_, ?_, HKB.out⟩
            · intro e
              rw [HIT.out]
              have := HSW.out.2 e
              omega
            · intro e
              rw [HIT.out, swp_same e]
              exact ⟨swp_same e, by have := HBD.out; omega⟩
end Go.Proofs.YtellieabhaphhabGreatDoor

/-
  narrowref's flow: tables.
-/
namespace Go.Proofs.YtellieabhaphhabGreatDoor
open Go.RowKit

/-- A table at work. -/
structure TbR (w : World) (tp tb n : Nat) (T : Tbl) (g : Bool) : Prop where
  p : Blk w tp [.slice (some ⟨tb, 0, none⟩) n n, .bool g] 164
  ne : tp ≠ tb
  len : T.length = n
  ex : ∃ vs : List Value, vs.length = n ∧ Blk w tb vs 122 ∧ ∀ i v, vs[i]? = some v → SV w v (T.getD i []) ∧ v.ownBlock ≠ some tp ∧ v.ownBlock ≠ some tb

theorem TbR.kp {w w' : World} {tp tb n : Nat} {T : Tbl} {g : Bool} (h : TbR w tp tb n T g) (k : Kp no w w') : TbR w' tp tb n T g := by
  obtain ⟨vs, h1, h2, h3⟩ := h.ex
  exact ⟨k.blk h.p no_elim, h.ne, h.len, vs, h1, k.blk h2 no_elim, fun i v hv => ⟨k.row (h3 i v hv).1 (fun _ _ => no_elim), (h3 i v hv).2⟩⟩

def TK (tp tb : Nat) (b : Nat) : Prop := b = tp ∨ b = tb

theorem TbR.set {w : World} {tp tb n : Nat} {T : Tbl} {g : Bool} (h : TbR w tp tb n T g) {i : Nat} (hi : i < n) {u : Value} {s : St} (hu : SV w u s) (h1 : u.ownBlock ≠ some tp) (h2 : u.ownBlock ≠ some tb) :
    TbR (w.setCell ⟨tb, i, none⟩ u) tp tb n (T.set i s) g := by
  obtain ⟨vs, e1, e2, e3⟩ := h.ex
  refine ⟨Blk.other h.p _ (fun e => h.ne e), h.ne, by rw [List.length_set]; exact h.len, vs.set i u, by simpa using e1, e2.set i u, ?_⟩
  intro j v hv
  by_cases hj : j = i
  · subst hj
    rw [List.getElem?_set_self (by omega)] at hv
    obtain rfl : u = v := by simpa using hv
    refine ⟨?_, h1, h2⟩
    rw [List.getD_eq_getElem?_getD, List.getElem?_set_self (by rw [h.len]; exact hi)]
    exact Row.set hu _ h2
  · rw [List.getElem?_set_ne (Ne.symm hj)] at hv
    obtain ⟨a1, a2, a3⟩ := e3 j v hv
    refine ⟨?_, a2, a3⟩
    rw [List.getD_eq_getElem?_getD, List.getElem?_set_ne (Ne.symm hj), ← List.getD_eq_getElem?_getD]
    exact Row.set a1 _ a3

theorem TbR.turn {w : World} {tp tb n : Nat} {T : Tbl} {g : Bool} (h : TbR w tp tb n T g) (b : Bool) : TbR (w.setCell ⟨tp, 1, none⟩ (.bool b)) tp tb n T b := by
  obtain ⟨vs, e1, e2, e3⟩ := h.ex
  refine ⟨h.p.set 1 (.bool b), h.ne, h.len, vs, e1, Blk.other e2 _ (fun e => h.ne e.symm), fun j v hv => ?_⟩
  obtain ⟨a1, a2, a3⟩ := e3 j v hv
  exact ⟨Row.set a1 _ a2, a2, a3⟩

theorem TbR.drew {w : World} {tp tb n : Nat} {T : Tbl} {g : Bool} (h : TbR w tp tb n T g) : TbR w.drew tp tb n T g := h.kp (Kp.refl _ _).drew
theorem TbR.drewN {w : World} {tp tb n : Nat} {T : Tbl} {g : Bool} (h : TbR w tp tb n T g) (k : Nat) : TbR (w.drewN k) tp tb n T g := h.kp ((Kp.refl _ _).drewN k)

theorem TbR.c {w : World} {tp tb n : Nat} {T : Tbl} {g : Bool} (h : TbR w tp tb n T g) : w.cell? ⟨tp, 0, none⟩ = some (.slice (some ⟨tb, 0, none⟩) n n) ∧ w.cell? ⟨tp, 1, none⟩ = some (.bool g) ∧ (∀ o, w.frozen? ⟨tp, o, none⟩ = false) ∧ (∀ o, w.frozen? ⟨tb, o, none⟩ = false) ∧ tp < w.heap.size ∧ tb < w.heap.size := by
  obtain ⟨vs, e1, e2, e3⟩ := h.ex
  exact ⟨h.p.cell 0, h.p.cell 1, h.p.frozen, e2.frozen, h.p.lt, e2.lt⟩

theorem TbR.at {w : World} {tp tb n : Nat} {T : Tbl} {g : Bool} (h : TbR w tp tb n T g) {i : Nat} (hi : i < n) :
    ∃ a cap, w.cell? ⟨tb, i, none⟩ = some (.slice a (T.getD i []).length cap) ∧ SV w (.slice a (T.getD i []).length cap) (T.getD i []) ∧ Value.ownBlock (.slice a (T.getD i []).length cap) ≠ some tp ∧ Value.ownBlock (.slice a (T.getD i []).length cap) ≠ some tb := by
  obtain ⟨vs, e1, e2, e3⟩ := h.ex
  obtain ⟨v, hv⟩ : ∃ v, vs[i]? = some v := ⟨_, List.getElem?_eq_getElem (by omega)⟩
  obtain ⟨a1, a2, a3⟩ := e3 i v hv
  obtain ⟨a, cap, rfl⟩ := SV.shape a1
  exact ⟨a, cap, (e2.cell i).trans hv, a1, a2, a3⟩

end Go.Proofs.YtellieabhaphhabGreatDoor

/-
  narrowref's flow: the least table.
-/
namespace Go.Proofs.YtellieabhaphhabGreatDoor
open Go.RowKit

abbrev DRow (w : World) (v : Value) (l : List Nd) : Prop := Row w v 111 9 l.length (nCells l)

theorem DRow.shape {w : World} {v : Value} {l : List Nd} (h : DRow w v l) : ∃ a cap, v = .slice a l.length cap := by
  rcases h.2 with ⟨rfl, h0⟩ | ⟨g, cap, cur, rfl, _⟩
  · exact ⟨none, 0, by rw [h0]⟩
  · exact ⟨_, _, rfl⟩

theorem DRow.at {w : World} {a : Option Addr} {cap : Nat} {l : List Nd} (h : DRow w (.slice a l.length cap) l) {k : Nat} {n : Nd} (hk : l[k]? = some n) :
    k < l.length ∧ ∃ g, a = some ⟨g, 0, none⟩ ∧ g < w.heap.size ∧ w.cell? ⟨g, k * 9, none⟩ = some (.int .u8 n.op) ∧ w.cell? ⟨g, k * 9 + 1, none⟩ = some (.int .i64 n.x) ∧ w.cell? ⟨g, k * 9 + 2, none⟩ = some (.int .i64 n.y) ∧ w.cell? ⟨g, k * 9 + 3, none⟩ = some (.int .i64 n.v) ∧ w.cell? ⟨g, k * 9 + 4, none⟩ = some (.int .u8 n.k) ∧ w.cell? ⟨g, k * 9 + 5, none⟩ = some (.int .i64 n.t) ∧ w.cell? ⟨g, k * 9 + 6, none⟩ = some (.int .i64 n.f) ∧ w.cell? ⟨g, k * 9 + 7, none⟩ = some (.int .i64 n.a) ∧ w.cell? ⟨g, k * 9 + 8, none⟩ = some (.int .i64 n.l) := by
  obtain ⟨hl, rfl⟩ := List.getElem?_eq_some_iff.1 hk
  obtain ⟨g, cap', e, _, hg⟩ := World.ownsRow.form h (by omega)
  injection e with e1 e2 e3
  subst e1
  have hc : ∀ j, j < 9 → w.cell? ⟨g, k * 9 + j, none⟩ = l[k].cells[j]? := fun j hj => by
    rw [Row.cell h _ (by have := Nat.mul_le_mul_right 9 hl; omega)]
    exact flat_get Nd.cells 9 nd9 l k j hl hj
  have hlt := Row.lt h (b := g) rfl
  exact ⟨hl, g, rfl, hlt, hc 0 (by decide), hc 1 (by decide), hc 2 (by decide), hc 3 (by decide), hc 4 (by decide), hc 5 (by decide), hc 6 (by decide), hc 7 (by decide), hc 8 (by decide)⟩

/-- The table and the nodes. -/
structure LSc (w : World) (tp tb n : Nat) (T : Tbl) (g : Bool) (v : Value) (l : List Nd) : Prop where
  t : TbR w tp tb n T g
  r : DRow w v l
  o1 : v.ownBlock ≠ some tp
  o2 : v.ownBlock ≠ some tb

theorem LSc.kp {w w' : World} {tp tb n : Nat} {T : Tbl} {g : Bool} {v : Value} {l : List Nd} (h : LSc w tp tb n T g v l) (k : Kp no w w') : LSc w' tp tb n T g v l :=
  ⟨h.t.kp k, k.row h.r (fun _ _ => no_elim), h.o1, h.o2⟩

theorem LSc.tk {w w' : World} {tp tb n : Nat} {T T' : Tbl} {g g' : Bool} {v : Value} {l : List Nd} (h : LSc w tp tb n T g v l) (k : Kp (TK tp tb) w w') (t : TbR w' tp tb n T' g') : LSc w' tp tb n T' g' v l :=
  ⟨t, k.row h.r (fun b hb e => by rcases e with rfl | rfl; exact h.o1 hb; exact h.o2 hb), h.o1, h.o2⟩

theorem LSc.turn {w : World} {tp tb n : Nat} {T : Tbl} {g : Bool} {v : Value} {l : List Nd} (h : LSc w tp tb n T g v l) (b : Bool) : LSc (w.setCell ⟨tp, 1, none⟩ (.bool b)) tp tb n T b v l :=
  ⟨h.t.turn b, Row.set h.r _ h.o1, h.o1, h.o2⟩

/-- A table, as it is handed on. -/
def TV (w : World) (v : Value) (T : Tbl) : Prop :=
  ∃ tb cap, v = .slice (some ⟨tb, 0, none⟩) T.length cap ∧ tb < w.heap.size ∧ ∀ i, i < T.length → ∃ a c, w.cell? ⟨tb, i, none⟩ = some (.slice a (T.getD i []).length c) ∧ SV w (.slice a (T.getD i []).length c) (T.getD i [])

theorem New.ne {w : World} {v : Value} {b : Nat} (h : New w v) (hb : b < w.heap.size) : v.ownBlock ≠ some b := fun e => by have := h b e; omega

/-- A state beside the table. -/
def SB (w : World) (tp tb : Nat) (u : Value) (s : St) : Prop := SV w u s ∧ u.ownBlock ≠ some tp ∧ u.ownBlock ≠ some tb

theorem SB.tk {w w' : World} {tp tb : Nat} {u : Value} {s : St} (h : SB w tp tb u s) (k : Kp (TK tp tb) w w') : SB w' tp tb u s :=
  ⟨k.row h.1 (fun b hb e => by rcases e with rfl | rfl; exact h.2.1 hb; exact h.2.2 hb), h.2⟩
theorem SB.kp {w w' : World} {tp tb : Nat} {u : Value} {s : St} (h : SB w tp tb u s) (k : Kp no w w') : SB w' tp tb u s := ⟨k.row h.1 (fun _ _ => no_elim), h.2⟩

end Go.Proofs.YtellieabhaphhabGreatDoor

/-
  narrowref's flow: a table as a text; Flow.
-/
namespace Go.Proofs.YtellieabhaphhabGreatDoor
open Go.RowKit

def stB (a : ByteArray) (s : St) : ByteArray := s.foldl (fun a m => a ++ sgB m ++ ⟨#[46]⟩) a
def rowB (a : ByteArray) (s : St) : ByteArray := stB (if s = [] then a ++ ⟨#[63]⟩ else a) s ++ ⟨#[59]⟩
def splB (T : Tbl) : ByteArray := T.foldl rowB ⟨#[]⟩

theorem stB_take (a : ByteArray) (s : St) (j : Nat) (h : j < s.length) : stB a (s.take (j + 1)) = stB a (s.take j) ++ sgB (s.getD j 0) ++ ⟨#[46]⟩ := by
  rw [List.take_succ_eq_append_getElem h]
  unfold stB
  rw [List.foldl_append, List.getD_eq_getElem?_getD, List.getElem?_eq_getElem h]
  rfl

theorem splB_take (T : Tbl) (j : Nat) (h : j < T.length) : splB (T.take (j + 1)) = rowB (splB (T.take j)) (T.getD j []) := by
  rw [List.take_succ_eq_append_getElem h]
  unfold splB
  rw [List.foldl_append, List.getD_eq_getElem?_getD, List.getElem?_eq_getElem h]
  rfl

theorem stB_size (a : ByteArray) (s : St) : (stB a s).size ≤ a.size + 8 * s.length := by
  unfold stB
  induction s generalizing a with
  | nil => simp
  | cons m s ih =>
    have h1 := ih (a ++ sgB m ++ ⟨#[46]⟩)
    have h2 := sg_size m
    rw [ByteArray.size_append, ByteArray.size_append, show (ByteArray.mk #[46]).size = 1 from rfl] at h1
    rw [List.foldl_cons, List.length_cons]
    omega

theorem rowB_size (a : ByteArray) (s : St) (hs : SOk s) : (rowB a s).size ≤ a.size + 50 := by
  unfold rowB
  have h6 : s.length ≤ 6 := by rcases hs with rfl | h; exact Nat.zero_le _; omega
  have h1 := stB_size (if s = [] then a ++ ⟨#[63]⟩ else a) s
  have h2 : (if s = [] then a ++ ⟨#[63]⟩ else a).size ≤ a.size + 1 := by
    split
    · rw [ByteArray.size_append]; exact Nat.le_refl _
    · omega
  rw [ByteArray.size_append, show (ByteArray.mk #[59]).size = 1 from rfl]
  omega

theorem splB_size (T : Tbl) (h : TOk T) : (splB T).size ≤ 50 * T.length := by
  have key : ∀ (T : Tbl) (a : ByteArray), TOk T → (T.foldl rowB a).size ≤ a.size + 50 * T.length := by
    intro T
    induction T with
    | nil => intro a _; simp
    | cons s T ih =>
      intro a h
      have h1 := ih (rowB a s) (fun z hz => h z (List.mem_cons_of_mem _ hz))
      have h2 := rowB_size a s (h s (List.mem_cons_self ..))
      rw [List.foldl_cons, List.length_cons]
      omega
  have := key T ⟨#[]⟩ h
  rw [show (ByteArray.mk #[]).size = 0 from rfl, Nat.zero_add] at this
  exact this

theorem TOk.take {T : Tbl} (h : TOk T) (j : Nat) : TOk (T.take j) := fun s hs => h s (List.mem_of_mem_take hs)

def em2 (c : Int) : Ending := .returned (.tuple #[.string ByteArray.empty, .int .i64 c])

end Go.Proofs.YtellieabhaphhabGreatDoor

/-
  narrow's flow: a table as a text.
-/
namespace Go.Proofs.YtellieabhaphhabGreatDoor
open Go.RowKit

theorem and_pow0 : ∀ m, m < 128 → (((m &&& 1 : Nat) : Int) != 0) = m.testBit 0 := by decide
theorem and_pow1 : ∀ m, m < 128 → (((m &&& 2 : Nat) : Int) != 0) = m.testBit 1 := by decide
theorem and_pow2 : ∀ m, m < 128 → (((m &&& 4 : Nat) : Int) != 0) = m.testBit 2 := by decide
theorem and_pow3 : ∀ m, m < 128 → (((m &&& 8 : Nat) : Int) != 0) = m.testBit 3 := by decide
theorem and_pow4 : ∀ m, m < 128 → (((m &&& 16 : Nat) : Int) != 0) = m.testBit 4 := by decide
theorem and_pow5 : ∀ m, m < 128 → (((m &&& 32 : Nat) : Int) != 0) = m.testBit 5 := by decide
theorem and_pow6 : ∀ m, m < 128 → (((m &&& 64 : Nat) : Int) != 0) = m.testBit 6 := by decide

set_option maxRecDepth 100000 in
set_option maxHeartbeats 1600000 in
theorem kindsText_c (m : Nat) (w : World) (hm : m < 128) :
    Calls Tryz.prog 78 #[.int .i64 (m : Int)] w fun e w' => e = .returned (.string (sgB m)) ∧ w' = w := by
  go_enter Tryz.func78, Tryz.ntmps78
  go_wp2
  go_loopg [3, 4] 7 (fun k tv kv wr => ∃ j : Nat, j ≤ 7 ∧ k = 7 - j ∧ kv = .int .i64 ((2 ^ j : Nat) : Int) ∧ tv = .string (selN (fun c => m.testBit (kix c)) j) ∧ wr = w)
  case atStart => exact ⟨0, by decide, rfl, rfl, rfl, rfl⟩
  case round =>
    obtain ⟨j, hj, hk, rfl, rfl, rfl⟩ := hrel
    have HKK := hide hk
    clear hk
    rcases (show j = 7 ∨ j = 0 ∨ j = 1 ∨ j = 2 ∨ j = 3 ∨ j = 4 ∨ j = 5 ∨ j = 6 by omega) with rfl | rfl | rfl | rfl | rfl | rfl | rfl | rfl
    · go_wp2
      go_ret
      exact ⟨rfl, rfl⟩
    · have HY := hide (selN_yes (fun c => m.testBit (kix c)) 0 (by decide))
      have HN := hide (selN_no (fun c => m.testBit (kix c)) 0 (by decide))
      have hsz := selN_size (fun c => m.testBit (kix c)) 0
      have HKS := hide (fun W => nkindSign_c 110 (by unfold KOk; omega) W)
      have hb : bits .and .i64 (m : Int) 1 = ((m &&& 1 : Nat) : Int) := bits_and_nat m 1 hm (by decide)
      have hq := and_pow0 m hm
      have HY2 : Hid (m.testBit 0 = true → selN (fun c => m.testBit (kix c)) 0 ++ strOfNums [110] = selN (fun c => m.testBit (kix c)) 1) := HY.out
      have HN2 : Hid (m.testBit 0 = false → selN (fun c => m.testBit (kix c)) 0 = selN (fun c => m.testBit (kix c)) 1) := HN.out
      have HKS2 : Hid (∀ W, Calls Tryz.prog 85 #[.int .i64 1] W fun e w' => e = .returned (.string (strOfNums [110])) ∧ w' = W) := HKS.out
      have hs1 := str1 110
      clear HY HN HKS
      generalize ((m &&& 1 : Nat) : Int) = v at *
      generalize m.testBit 0 = p at *
      generalize selN (fun c => m.testBit (kix c)) 0 = tj at *
      cases p
      all_goals
        go_wp2_with (go_at_call 85; refine (HKS2.out _).mono ?_; rintro e w' ⟨rfl, rfl⟩)
        go_roundg (7 - 1)
        case measure => have := HKK.out; omega
        case rel => exact ⟨1, by decide, rfl, rfl, by first | (rw [← HN2.out (by first | rfl | trivial)]; done) | (rw [← HY2.out (by first | rfl | trivial)]; done), rfl⟩
    · have HY := hide (selN_yes (fun c => m.testBit (kix c)) 1 (by decide))
      have HN := hide (selN_no (fun c => m.testBit (kix c)) 1 (by decide))
      have hsz := selN_size (fun c => m.testBit (kix c)) 1
      have HKS := hide (fun W => nkindSign_c 116 (by unfold KOk; omega) W)
      have hb : bits .and .i64 (m : Int) 2 = ((m &&& 2 : Nat) : Int) := bits_and_nat m 2 hm (by decide)
      have hq := and_pow1 m hm
      have HY2 : Hid (m.testBit 1 = true → selN (fun c => m.testBit (kix c)) 1 ++ strOfNums [116] = selN (fun c => m.testBit (kix c)) 2) := HY.out
      have HN2 : Hid (m.testBit 1 = false → selN (fun c => m.testBit (kix c)) 1 = selN (fun c => m.testBit (kix c)) 2) := HN.out
      have HKS2 : Hid (∀ W, Calls Tryz.prog 85 #[.int .i64 2] W fun e w' => e = .returned (.string (strOfNums [116])) ∧ w' = W) := HKS.out
      have hs1 := str1 116
      clear HY HN HKS
      generalize ((m &&& 2 : Nat) : Int) = v at *
      generalize m.testBit 1 = p at *
      generalize selN (fun c => m.testBit (kix c)) 1 = tj at *
      cases p
      all_goals
        go_wp2_with (go_at_call 85; refine (HKS2.out _).mono ?_; rintro e w' ⟨rfl, rfl⟩)
        go_roundg (7 - 2)
        case measure => have := HKK.out; omega
        case rel => exact ⟨2, by decide, rfl, rfl, by first | (rw [← HN2.out (by first | rfl | trivial)]; done) | (rw [← HY2.out (by first | rfl | trivial)]; done), rfl⟩
    · have HY := hide (selN_yes (fun c => m.testBit (kix c)) 2 (by decide))
      have HN := hide (selN_no (fun c => m.testBit (kix c)) 2 (by decide))
      have hsz := selN_size (fun c => m.testBit (kix c)) 2
      have HKS := hide (fun W => nkindSign_c 102 (by unfold KOk; omega) W)
      have hb : bits .and .i64 (m : Int) 4 = ((m &&& 4 : Nat) : Int) := bits_and_nat m 4 hm (by decide)
      have hq := and_pow2 m hm
      have HY2 : Hid (m.testBit 2 = true → selN (fun c => m.testBit (kix c)) 2 ++ strOfNums [102] = selN (fun c => m.testBit (kix c)) 3) := HY.out
      have HN2 : Hid (m.testBit 2 = false → selN (fun c => m.testBit (kix c)) 2 = selN (fun c => m.testBit (kix c)) 3) := HN.out
      have HKS2 : Hid (∀ W, Calls Tryz.prog 85 #[.int .i64 4] W fun e w' => e = .returned (.string (strOfNums [102])) ∧ w' = W) := HKS.out
      have hs1 := str1 102
      clear HY HN HKS
      generalize ((m &&& 4 : Nat) : Int) = v at *
      generalize m.testBit 2 = p at *
      generalize selN (fun c => m.testBit (kix c)) 2 = tj at *
      cases p
      all_goals
        go_wp2_with (go_at_call 85; refine (HKS2.out _).mono ?_; rintro e w' ⟨rfl, rfl⟩)
        go_roundg (7 - 3)
        case measure => have := HKK.out; omega
        case rel => exact ⟨3, by decide, rfl, rfl, by first | (rw [← HN2.out (by first | rfl | trivial)]; done) | (rw [← HY2.out (by first | rfl | trivial)]; done), rfl⟩
    · have HY := hide (selN_yes (fun c => m.testBit (kix c)) 3 (by decide))
      have HN := hide (selN_no (fun c => m.testBit (kix c)) 3 (by decide))
      have hsz := selN_size (fun c => m.testBit (kix c)) 3
      have HKS := hide (fun W => nkindSign_c 122 (by unfold KOk; omega) W)
      have hb : bits .and .i64 (m : Int) 8 = ((m &&& 8 : Nat) : Int) := bits_and_nat m 8 hm (by decide)
      have hq := and_pow3 m hm
      have HY2 : Hid (m.testBit 3 = true → selN (fun c => m.testBit (kix c)) 3 ++ strOfNums [122] = selN (fun c => m.testBit (kix c)) 4) := HY.out
      have HN2 : Hid (m.testBit 3 = false → selN (fun c => m.testBit (kix c)) 3 = selN (fun c => m.testBit (kix c)) 4) := HN.out
      have HKS2 : Hid (∀ W, Calls Tryz.prog 85 #[.int .i64 8] W fun e w' => e = .returned (.string (strOfNums [122])) ∧ w' = W) := HKS.out
      have hs1 := str1 122
      clear HY HN HKS
      generalize ((m &&& 8 : Nat) : Int) = v at *
      generalize m.testBit 3 = p at *
      generalize selN (fun c => m.testBit (kix c)) 3 = tj at *
      cases p
      all_goals
        go_wp2_with (go_at_call 85; refine (HKS2.out _).mono ?_; rintro e w' ⟨rfl, rfl⟩)
        go_roundg (7 - 4)
        case measure => have := HKK.out; omega
        case rel => exact ⟨4, by decide, rfl, rfl, by first | (rw [← HN2.out (by first | rfl | trivial)]; done) | (rw [← HY2.out (by first | rfl | trivial)]; done), rfl⟩
    · have HY := hide (selN_yes (fun c => m.testBit (kix c)) 4 (by decide))
      have HN := hide (selN_no (fun c => m.testBit (kix c)) 4 (by decide))
      have hsz := selN_size (fun c => m.testBit (kix c)) 4
      have HKS := hide (fun W => nkindSign_c 65 (by unfold KOk; omega) W)
      have hb : bits .and .i64 (m : Int) 16 = ((m &&& 16 : Nat) : Int) := bits_and_nat m 16 hm (by decide)
      have hq := and_pow4 m hm
      have HY2 : Hid (m.testBit 4 = true → selN (fun c => m.testBit (kix c)) 4 ++ strOfNums [65] = selN (fun c => m.testBit (kix c)) 5) := HY.out
      have HN2 : Hid (m.testBit 4 = false → selN (fun c => m.testBit (kix c)) 4 = selN (fun c => m.testBit (kix c)) 5) := HN.out
      have HKS2 : Hid (∀ W, Calls Tryz.prog 85 #[.int .i64 16] W fun e w' => e = .returned (.string (strOfNums [65])) ∧ w' = W) := HKS.out
      have hs1 := str1 65
      clear HY HN HKS
      generalize ((m &&& 16 : Nat) : Int) = v at *
      generalize m.testBit 4 = p at *
      generalize selN (fun c => m.testBit (kix c)) 4 = tj at *
      cases p
      all_goals
        go_wp2_with (go_at_call 85; refine (HKS2.out _).mono ?_; rintro e w' ⟨rfl, rfl⟩)
        go_roundg (7 - 5)
        case measure => have := HKK.out; omega
        case rel => exact ⟨5, by decide, rfl, rfl, by first | (rw [← HN2.out (by first | rfl | trivial)]; done) | (rw [← HY2.out (by first | rfl | trivial)]; done), rfl⟩
    · have HY := hide (selN_yes (fun c => m.testBit (kix c)) 5 (by decide))
      have HN := hide (selN_no (fun c => m.testBit (kix c)) 5 (by decide))
      have hsz := selN_size (fun c => m.testBit (kix c)) 5
      have HKS := hide (fun W => nkindSign_c 66 (by unfold KOk; omega) W)
      have hb : bits .and .i64 (m : Int) 32 = ((m &&& 32 : Nat) : Int) := bits_and_nat m 32 hm (by decide)
      have hq := and_pow5 m hm
      have HY2 : Hid (m.testBit 5 = true → selN (fun c => m.testBit (kix c)) 5 ++ strOfNums [66] = selN (fun c => m.testBit (kix c)) 6) := HY.out
      have HN2 : Hid (m.testBit 5 = false → selN (fun c => m.testBit (kix c)) 5 = selN (fun c => m.testBit (kix c)) 6) := HN.out
      have HKS2 : Hid (∀ W, Calls Tryz.prog 85 #[.int .i64 32] W fun e w' => e = .returned (.string (strOfNums [66])) ∧ w' = W) := HKS.out
      have hs1 := str1 66
      clear HY HN HKS
      generalize ((m &&& 32 : Nat) : Int) = v at *
      generalize m.testBit 5 = p at *
      generalize selN (fun c => m.testBit (kix c)) 5 = tj at *
      cases p
      all_goals
        go_wp2_with (go_at_call 85; refine (HKS2.out _).mono ?_; rintro e w' ⟨rfl, rfl⟩)
        go_roundg (7 - 6)
        case measure => have := HKK.out; omega
        case rel => exact ⟨6, by decide, rfl, rfl, by first | (rw [← HN2.out (by first | rfl | trivial)]; done) | (rw [← HY2.out (by first | rfl | trivial)]; done), rfl⟩
    · have HY := hide (selN_yes (fun c => m.testBit (kix c)) 6 (by decide))
      have HN := hide (selN_no (fun c => m.testBit (kix c)) 6 (by decide))
      have hsz := selN_size (fun c => m.testBit (kix c)) 6
      have HKS := hide (fun W => nkindSign_c 67 (by unfold KOk; omega) W)
      have hb : bits .and .i64 (m : Int) 64 = ((m &&& 64 : Nat) : Int) := bits_and_nat m 64 hm (by decide)
      have hq := and_pow6 m hm
      have HY2 : Hid (m.testBit 6 = true → selN (fun c => m.testBit (kix c)) 6 ++ strOfNums [67] = selN (fun c => m.testBit (kix c)) 7) := HY.out
      have HN2 : Hid (m.testBit 6 = false → selN (fun c => m.testBit (kix c)) 6 = selN (fun c => m.testBit (kix c)) 7) := HN.out
      have HKS2 : Hid (∀ W, Calls Tryz.prog 85 #[.int .i64 64] W fun e w' => e = .returned (.string (strOfNums [67])) ∧ w' = W) := HKS.out
      have hs1 := str1 67
      clear HY HN HKS
      generalize ((m &&& 64 : Nat) : Int) = v at *
      generalize m.testBit 6 = p at *
      generalize selN (fun c => m.testBit (kix c)) 6 = tj at *
      cases p
      all_goals
        go_wp2_with (go_at_call 85; refine (HKS2.out _).mono ?_; rintro e w' ⟨rfl, rfl⟩)
        go_roundg (7 - 7)
        case measure => have := HKK.out; omega
        case rel => exact ⟨7, by decide, rfl, rfl, by first | (rw [← HN2.out (by first | rfl | trivial)]; done) | (rw [← HY2.out (by first | rfl | trivial)]; done), rfl⟩
/-- A state's text. -/
def txS (s : St) : ByteArray := if s = [] then ⟨#[63]⟩ else stB ⟨#[]⟩ s

theorem stB_acc (a : ByteArray) (s : St) : stB a s = a ++ stB ⟨#[]⟩ s := by
  have key : ∀ (s : St) (a b : ByteArray), stB (a ++ b) s = a ++ stB b s := by
    intro s
    induction s with
    | nil => intro a b; rfl
    | cons m s ih =>
      intro a b
      show stB (a ++ b ++ sgB m ++ ⟨#[46]⟩) s = a ++ stB (b ++ sgB m ++ ⟨#[46]⟩) s
      rw [← ih, ba_assoc, ba_assoc]
  have := key s a ⟨#[]⟩
  rw [show a ++ (⟨#[]⟩ : ByteArray) = a from ByteArray.append_empty] at this
  exact this

theorem rowB_tx (a : ByteArray) (s : St) : rowB a s = a ++ (txS s ++ ⟨#[59]⟩) := by
  unfold rowB txS
  split
  · rename_i h; subst h
    show a ++ ⟨#[63]⟩ ++ ⟨#[59]⟩ = _
    rw [ba_assoc]
  · rw [stB_acc, ba_assoc]

theorem txS_size (s : St) (h : SOk s) : (txS s).size ≤ 48 := by
  unfold txS
  split
  · decide
  · rename_i h0
    have h1 := stB_size ⟨#[]⟩ s
    have h2 := (h.resolve_left h0).1
    have h3 : (ByteArray.mk #[]).size = 0 := rfl
    omega

set_option maxRecDepth 100000 in
set_option maxHeartbeats 1600000 in
theorem stateText_c (s : St) (w : World) (h : SOk s) :
    Calls Tryz.prog 44 #[.agg (zc (encZ s)).toArray] w fun e w' => e = .returned (.string (txS s)) ∧ Kp no w w' := by
  obtain ⟨m0, m1, m2, m3, m4, m5, hm⟩ := z6_six (encZ_z6 h)
  have HZ6 := hide (show Z6 [m0, m1, m2, m3, m4, m5] from hm ▸ encZ_z6 h)
  have HEX := hide (exS_enc h)
  rw [hm] at HEX ⊢
  rw [show Value.agg (zc [m0, m1, m2, m3, m4, m5]).toArray = zv6 m0 m1 m2 m3 m4 m5 from rfl]
  have HX := hide (fun b W hW => exists_c b [m0, m1, m2, m3, m4, m5] W hW HZ6.out)
  rw [HEX.out] at HX
  by_cases h0 : s = []
  · rw [decide_eq_false (fun e => e h0)] at HX
    have HT := hide (show txS s = ⟨#[63]⟩ by rw [txS, if_pos h0])
    clear h0 hm HEX
    go_enter Tryz.func44, Tryz.ntmps44
    go_wp2_with fail
    refine (HX.out _ _ (by (show Blk _ _ [.int .i64 m0, .int .i64 m1, .int .i64 m2, .int .i64 m3, .int .i64 m4, .int .i64 m5] _); (repeat' (first | ((with_reducible show (_ : List Value) = _); rfl) | ((with_reducible refine Blk.newAt _ _ _ ?_); first | with_reducible rfl | (simp; done)) | with_reducible refine Blk.alloc ?_ _ | with_reducible refine Blk.drewN ?_ _ | with_reducible refine Blk.drew ?_ | ((with_reducible refine Blk.other ?_ _ ?_); rotate_left; ((try dsimp only); omega)) | with_reducible refine Blk.setB (cs0 := ?_) ?_ ?_)))).mono ?_
    rintro e w' ⟨rfl, rfl⟩
    go_wp2
    go_ret
    rw [HT.out]
    exact ⟨rfl, by (repeat' (first | with_reducible exact Kp.refl _ _ | with_reducible refine Kp.alloc ?_ _ | with_reducible refine Kp.drewN ?_ _ | with_reducible refine Kp.drew ?_ | with_reducible refine Kp.setCell ?_ _ ?_ | (intro hh; first | rfl | exact .inl rfl | exact .inr rfl | (exfalso; (try dsimp only at hh); omega))))⟩
  · rw [decide_eq_true h0] at HX
    have hF := h.ful h0
    have hs : s = [m0, m1, m2, m3, m4, m5] := by rw [← encZ_ful hF]; exact hm
    have HT := hide (show txS s = stB ⟨#[]⟩ [m0, m1, m2, m3, m4, m5] by rw [txS, if_neg h0, hs])
    have HIX := hide (fun W j hj => zIx W m0 m1 m2 m3 m4 m5 j hj)
    have HST := hide (fun j hj => stB_take ⟨#[]⟩ [m0, m1, m2, m3, m4, m5] j hj)
    have HSZ := hide (fun j => stB_size ⟨#[]⟩ (List.take j [m0, m1, m2, m3, m4, m5]))
    have HKT := hide (fun j W => kindsText_c (List.getD [m0, m1, m2, m3, m4, m5] j 0) W (HZ6.out.get j))
    clear h0 hm HEX hF hs h
    go_enter Tryz.func44, Tryz.ntmps44
    go_wp2_with fail
    refine (HX.out _ _ (by (show Blk _ _ [.int .i64 m0, .int .i64 m1, .int .i64 m2, .int .i64 m3, .int .i64 m4, .int .i64 m5] _); (repeat' (first | ((with_reducible show (_ : List Value) = _); rfl) | ((with_reducible refine Blk.newAt _ _ _ ?_); first | with_reducible rfl | (simp; done)) | with_reducible refine Blk.alloc ?_ _ | with_reducible refine Blk.drewN ?_ _ | with_reducible refine Blk.drew ?_ | ((with_reducible refine Blk.other ?_ _ ?_); rotate_left; ((try dsimp only); omega)) | with_reducible refine Blk.setB (cs0 := ?_) ?_ ?_)))).mono ?_
    rintro e w' ⟨rfl, rfl⟩
    clear HX
    go_wp2
    go_loopg [3, 11] 6 (fun k tv iv wr => ∃ j : Nat, j ≤ 6 ∧ k = 6 - j ∧ iv = .int .i64 j ∧ tv = .string (stB ⟨#[]⟩ (List.take j [m0, m1, m2, m3, m4, m5])) ∧ Kp no w wr)
    case atStart => exact ⟨0, by decide, rfl, rfl, rfl, by (repeat' (first | with_reducible exact Kp.refl _ _ | with_reducible refine Kp.alloc ?_ _ | with_reducible refine Kp.drewN ?_ _ | with_reducible refine Kp.drew ?_ | with_reducible refine Kp.setCell ?_ _ ?_ | (intro hh; first | rfl | exact .inl rfl | exact .inr rfl | (exfalso; (try dsimp only at hh); omega))))⟩
    case round =>
      obtain ⟨j, hj, hk, rfl, rfl, kr⟩ := hrel
      have HKK := hide hk
      have HKR := hide kr
      clear hk kr
      by_cases hlt : j < 6
      · have hix := HIX.out wr j hlt
        have HS2 := hide (HST.out j hlt)
        have hz2 := HSZ.out j
        have hz3 : (stB ⟨#[]⟩ (List.take j [m0, m1, m2, m3, m4, m5])).size ≤ 48 := Nat.le_trans hz2 (by rw [List.length_take, show (ByteArray.mk #[]).size = 0 from rfl]; simp; omega)
        have HK2 := hide (HKT.out j)
        have hs4 := sg_size (List.getD [m0, m1, m2, m3, m4, m5] j 0)
        have e46 : (ByteArray.mk #[46]).size = 1 := rfl
        clear hz2 HIX HST HSZ HKT
        generalize hgd : List.getD [m0, m1, m2, m3, m4, m5] j 0 = mj at *
        clear hgd
        generalize stB ⟨#[]⟩ (List.take j [m0, m1, m2, m3, m4, m5]) = acc at *
        generalize sgB mj = sg at *
        go_wp2_with (go_at_call 78; refine (HK2.out _).mono ?_; rintro e w' ⟨rfl, rfl⟩)
        go_roundg (6 - (j + 1))
        case measure => have := HKK.out; omega
        case rel => exact ⟨j + 1, by omega, rfl, by go_num, by rw [HS2.out, ba_assoc], HKR.out⟩
      · obtain rfl : j = 6 := by omega
        go_wp2
        go_ret
        rw [HT.out]
        exact ⟨rfl, HKR.out⟩

/-- A table's block. -/
theorem tb_at {w : World} {tb : Nat} {T : Tbl} (h : Blk w tb (tCells T) 75) {i : Nat} (hi : i < T.length) {m0 m1 m2 m3 m4 m5 : Nat} (hm : encZ (T.getD i []) = [m0, m1, m2, m3, m4, m5]) :
    w.cell? ⟨tb, i * 6, none⟩ = some (.int .i64 m0) ∧ w.cell? ⟨tb, i * 6 + 1, none⟩ = some (.int .i64 m1) ∧ w.cell? ⟨tb, i * 6 + 2, none⟩ = some (.int .i64 m2) ∧ w.cell? ⟨tb, i * 6 + 3, none⟩ = some (.int .i64 m3) ∧ w.cell? ⟨tb, i * 6 + 4, none⟩ = some (.int .i64 m4) ∧ w.cell? ⟨tb, i * 6 + 5, none⟩ = some (.int .i64 m5) := by
  rw [List.getD_eq_getElem?_getD, List.getElem?_eq_getElem hi, Option.getD_some] at hm
  have hc : ∀ j, j < 6 → w.cell? ⟨tb, i * 6 + j, none⟩ = (zc [m0, m1, m2, m3, m4, m5])[j]? := fun j hj => by
    rw [h.cell, tCells, flat_get (fun s => zc (encZ s)) 6 zce6 T i j hi hj, hm]
  exact ⟨hc 0 (by decide), hc 1 (by decide), hc 2 (by decide), hc 3 (by decide), hc 4 (by decide), hc 5 (by decide)⟩

set_option maxRecDepth 100000 in
set_option maxHeartbeats 1600000 in
theorem tableText_c (tb : Nat) (T : Tbl) (w : World) (h : Blk w tb (tCells T) 75) (hT : TOk T) (hl : T.length ≤ 90) :
    Calls Tryz.prog 21 #[.slice (some ⟨tb, 0, none⟩) T.length T.length] w fun e w' => e = .returned (.string (splB T)) ∧ Kp no w w' := by
  have HB := hide h
  clear h
  go_enter Tryz.func21, Tryz.ntmps21
  go_wp2
  go_loopg [3, 9] T.length (fun k sv iv wr => ∃ j : Nat, j ≤ T.length ∧ k = T.length - j ∧ iv = .int .i64 j ∧ sv = .string (splB (T.take j)) ∧ Kp no w wr)
  case atStart => exact ⟨0, Nat.zero_le _, rfl, rfl, rfl, Kp.refl _ _⟩
  case round =>
    obtain ⟨j, hj, hk, rfl, rfl, kr⟩ := hrel
    have HKK := hide hk
    have HKR := hide kr
    clear hk kr
    by_cases hlt : j < T.length
    · have HRW := hide (splB_take T j hlt)
      have hsz := Nat.le_trans (splB_size _ (hT.take j)) (Nat.mul_le_mul_left 50 (show (T.take j).length ≤ 90 by rw [List.length_take]; omega))
      have hSO := hT.get j
      obtain ⟨m0, m1, m2, m3, m4, m5, hm⟩ := z6_six (encZ_z6 hSO)
      have hbr := HKR.out.blk HB.out no_elim
      obtain ⟨c0, c1, c2, c3, c4, c5⟩ := tb_at hbr hlt hm
      have hbl := hbr.lt
      have HTX := hide (fun W => stateText_c (T.getD j []) W hSO)
      rw [hm] at HTX
      have HTX2 : Hid (∀ W, Calls Tryz.prog 44 #[zv6 m0 m1 m2 m3 m4 m5] W fun e w' => e = .returned (.string (txS (T.getD j []))) ∧ Kp no W w') := HTX.out
      have hs2 := txS_size _ hSO
      rw [rowB_tx] at HRW
      have e59 : (ByteArray.mk #[59]).size = 1 := rfl
      clear hbr hSO hm HTX
      generalize txS (T.getD j []) = tx at *
      generalize splB (T.take j) = acc at *
      have hjI : (j : Int) < T.length := by omega
      go_wp2_with fail
      refine (HTX2.out _).mono ?_
      rintro e w5 ⟨rfl, k5⟩
      go_wp2
      go_roundg (T.length - (j + 1))
      case measure => have := HKK.out; omega
      case rel => exact ⟨j + 1, by omega, rfl, by go_num, by rw [HRW.out], (HKR.out.alloc _).trans k5 (fun _ _ e => e)⟩
    · obtain rfl : j = T.length := by omega
      rw [List.take_length]
      go_wp2
      go_ret
      exact ⟨rfl, HKR.out⟩
end Go.Proofs.YtellieabhaphhabGreatDoor

/-
  The outright laws, plain: lines, sets, states within states.
-/
namespace Go.Proofs.YtellieabhaphhabGreatDoor
open Go.RowKit

theorem ext_list (t : ByteArray) (a b : Nat) : (t.extract a b).data.toList = (t.data.toList.take b).drop a := by
  rw [ByteArray.data_extract, Array.toList_extract, List.extract_eq_take_drop, List.drop_take]

/-- The state a lies within b (nothing lies within everything). -/
def SubS (a b : St) : Prop := a = [] ∨ (a.length = 6 ∧ b.length = 6 ∧ ∀ v, v < 6 → a.getD v 0 &&& b.getD v 0 = a.getD v 0)

/-- The state s comes to no more than the table says of place j. -/
def Rch (T : Tbl) (j : Int) (s : St) : Prop := j < 0 ∨ (T.length : Int) ≤ j ∨ s = [] ∨ SubS s (T.getD j.toNat [])

def Keeps (nd : Nd) (T : Tbl) (S : St) : Prop :=
  S = [] ∨ ((¬ (nd.op = 121 ∨ nd.op = 58) → Rch T nd.t (behF nd S)) ∧ (nd.op = 121 ∨ nd.op = 58 → Rch T nd.t (hldF nd true S) ∧ Rch T nd.f (hldF nd false S)))
end Go.Proofs.YtellieabhaphhabGreatDoor
