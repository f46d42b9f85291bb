import Derived.Test.YtellieabhaphhaaGreatDoorPLeastuptoP
/-
  narrow's run: a walk.
-/
namespace Go.Proofs.YtellieabhaphhaaGreatDoor
open Go.RowKit

/-- A whole struct into the block that was made last. -/
theorem wp_store_new {P : Program} {op : Oper} {a : Act} {K : Act → World → Prop} {Q : Exit → Act → World → Prop} (w0 : World) (ty : TypeId) (x y : Operand) (c c' : Array Value) (ho : op.op = .store ty x y)
    (hx : a.eval x = .pointer (some ⟨w0.heap.size, 0, none⟩)) (hy : a.eval y = .agg c') (hi : (P.info? ty).map (·.size) = some c'.size) (hs : c.size = c'.size) (h1 : c'.all (·.oneCell') = true)
    (h : K (a.put op.dst undef) (w0.alloc (.cells c' ty))) : op.wp P a (w0.alloc (.cells c ty)) K Q := by
  unfold Oper.wp execOp
  simp only [ho, hx, hy, Sem.run_bind, run_storeAt_new w0 ty c c' hi hs h1, Result.andThen_ok, Sem.run_pure]
  exact h

theorem wpList_store_new {P : Program} {ops : Array Oper} {rest : List Oper} {op : Oper} {a : Act} {Q : Exit → Act → World → Prop} (hgd : op.guard = none) (w0 : World) (ty : TypeId) (x y : Operand) (c c' : Array Value) (ho : op.op = .store ty x y)
    (hx : a.eval x = .pointer (some ⟨w0.heap.size, 0, none⟩)) (hy : a.eval y = .agg c') (hi : (P.info? ty).map (·.size) = some c'.size) (hs : c.size = c'.size) (h1 : c'.all (·.oneCell') = true)
    (h : wpList P ops Q rest (a.put op.dst undef) (w0.alloc (.cells c' ty))) : wpList P ops Q (op :: rest) a (w0.alloc (.cells c ty)) :=
  wpList_plain hgd fun _ hK => wp_store_new w0 ty x y c c' ho hx hy hi hs h1 (hK _ _ h)

theorem wpList_build_at {P : Program} {ops : Array Oper} {rest : List Oper} {o : Oper} {a : Act} {w : World} {Q : Exit → Act → World → Prop} (hg : o.guard = none) (t : TypeId) (parts : Array (Nat × Operand)) (ho : o.op = .build t parts)
    (vals : List (Nat × Value)) (hv : (parts.map fun (i, x) => (i, a.eval x)).toList = vals) (cells : Array Value) (hb : P.built t vals = some cells)
    (h : wpList P ops Q rest (a.put o.dst (.agg cells)) w) : wpList P ops Q (o :: rest) a w :=
  wpList_build hg t parts ho (by rw [hv, hb]; rfl) (by rw [hv, hb]; exact h)

theorem built_run (inp : ByteArray) : Tryz.prog.built 142 [(1, .string inp)] = some #[.int .i64 0, .int .i64 0, .int .i64 0, .int .i64 0, .int .i64 0, .int .i64 0, .int .i64 0, .int .i64 0, .int .i64 0, .int .i64 0, .int .i64 0, .int .i64 0, .int .i64 0, .int .i64 0, .int .i64 0, .int .i64 0, .int .i64 0, .int .i64 0, .string inp, .int .i64 0, .string ⟨#[]⟩, .string ⟨#[]⟩] := by kernel_rfl

theorem wpList_runs {P : Program} {ops : Array Oper} {rest : List Oper} {o : Oper} {a : Act} {w : World} {Q : Exit → Act → World → Prop} (hg : o.guard = none) (v : Value) (w' : World)
    (hrun : (execOp a.eval o).run P w = .ok (.value v) w') (h : wpList P ops Q rest (a.put o.dst v) w') : wpList P ops Q (o :: rest) a w :=
  wpList_plain hg fun _ hK => by
    unfold Oper.wp
    rw [hrun]
    exact hK _ _ h

theorem info_run : (Tryz.prog.info? 142).map (fun i => (i.zero, i.size)) = some (some (.agg #[.int .i64 0, .int .i64 0, .int .i64 0, .int .i64 0, .int .i64 0, .int .i64 0, .int .i64 0, .int .i64 0, .int .i64 0, .int .i64 0, .int .i64 0, .int .i64 0, .int .i64 0, .int .i64 0, .int .i64 0, .int .i64 0, .int .i64 0, .int .i64 0, .string ⟨#[]⟩, .int .i64 0, .string ⟨#[]⟩, .string ⟨#[]⟩]), 22) := by kernel_rfl

theorem alloc_run (w : World) (ρ : Operand → Value) (o : Oper) (ho : o.op = .alloc 142) : (execOp ρ o).run Tryz.prog w = .ok (.value (.pointer (some ⟨w.heap.size, 0, none⟩))) (w.alloc (.cells #[.int .i64 0, .int .i64 0, .int .i64 0, .int .i64 0, .int .i64 0, .int .i64 0, .int .i64 0, .int .i64 0, .int .i64 0, .int .i64 0, .int .i64 0, .int .i64 0, .int .i64 0, .int .i64 0, .int .i64 0, .int .i64 0, .int .i64 0, .int .i64 0, .string ⟨#[]⟩, .int .i64 0, .string ⟨#[]⟩, .string ⟨#[]⟩] 142)) := by
  have hz := (zero_of_info info_run).1
  unfold execOp
  simp only [ho, Instr.alloc, Sem.run_bind, hz, Result.andThen_ok]
  rfl

theorem ntest_c {w : World} {r : Nat} {inp : ByteArray} {m : Mc} {nd : Nd} {x y v : Nat} {xu yu vu : Vl} (tx : ByteArray) (yes no : Int) (p : StPre w r inp m nd x y v xu yu vu) (ht : nd.op = 121 ∨ nd.op = 58) :
    Calls Tryz.prog 101 #[.pointer (some ⟨r, 0, none⟩), .agg (encN nd tx yes no).cells.toArray] w fun e w' =>
      e = .returned (.int .i64 0) ∧ NB w' r inp m ∧ Kp (· = r) w w' := by
  obtain ⟨nb, g, hinp, hx, hy, hv, gx, gy, gv, vw, hout, htab, he⟩ := p
  have vy := vw yu (List.mem_of_getElem? gy)
  have by1 := bits_in nd.op yu.k g.op vy.k
  rw [inK_all vy.k (by omega) (by omega) (by omega) (by omega) (by omega)] at by1
  obtain ⟨op, nx, ny, nv, k, t, f, a, l⟩ := nd
  dsimp only at *
  subst hx hy hv
  rcases ht with rfl | rfl
  · exact nstep_12 tx 0 0 0 0 yes no x y y yu yu nb gy gy by1 by1
  · exact nstep_13 tx 0 0 0 (bit k) yes no x y y yu yu nb gy gy by1 by1

theorem bit_eq {k l : Int} (h : KOk k) (h' : KOk l) : (bit k == bit l) = (k == l) := by
  unfold KOk at h h'
  rcases h with rfl | rfl | rfl | rfl | rfl | rfl | rfl <;> rcases h' with rfl | rfl | rfl | rfl | rfl | rfl | rfl <;> decide

theorem nwayOf_t {w : World} {r : Nat} {inp : ByteArray} {m : Mc} {nd : Nd} {y : Nat} {yu : Vl} (tx : ByteArray) (yes nno : Int) (nb : NB w r inp m) (g : Gn nd) (hy : nd.y = y) (gy : m.l[y]? = some yu) (vy : VW yu) (ht : nd.op = 121 ∨ nd.op = 58) :
    Calls Tryz.prog 102 #[.pointer (some ⟨r, 0, none⟩), .agg (encN nd tx yes nno).cells.toArray] w fun e w' =>
      e = .returned (.int .i64 (if holdF nd yu then yes else nno)) ∧ Kp no w w' := by
  have gkd := g.kd
  obtain ⟨op, nx, ny, nv, k, t, f, a, l⟩ := nd
  dsimp only at *
  subst hy
  rcases ht with rfl | rfl
  · refine nway_of tx 12 nx y 0 0 0 0 yes nno y yu nb gy _ ?_
    rw [if_pos rfl]
    show _ = (if (121 : Int) = 58 then _ else _)
    rw [if_neg (by decide)]
    have h1 := vy.k
    unfold KOk at h1
    rcases h1 with e | e | e | e | e | e | e <;> rw [e] <;> rfl
  · refine nway_of tx 13 nx y 0 0 0 (bit k) yes nno y yu nb gy _ ?_
    rw [if_neg (by decide), if_pos rfl]
    show _ = (if (58 : Int) = 58 then _ else _)
    rw [if_pos rfl]
    exact bit_eq vy.k (gkd (.inl rfl))

theorem nwayOf_n {w : World} {r : Nat} {inp : ByteArray} {m : Mc} {nd : Nd} {y : Nat} {yu : Vl} (tx : ByteArray) (yes nno : Int) (nb : NB w r inp m) (hy : nd.y = y) (gy : m.l[y]? = some yu) (ht : ¬ (nd.op = 121 ∨ nd.op = 58)) :
    Calls Tryz.prog 102 #[.pointer (some ⟨r, 0, none⟩), .agg (encN nd tx yes nno).cells.toArray] w fun e w' =>
      e = .returned (.int .i64 yes) ∧ Kp no w w' := by
  have ha := actN_t nd.op
  obtain ⟨op, nx, ny, nv, k, t, f, a, l⟩ := nd
  dsimp only at *
  subst hy
  refine nway_of tx (actN op) nx _ _ _ _ _ yes nno y yu nb gy true ?_
  rw [if_neg (fun e => ht (ha.1 (.inl e))), if_neg (fun e => ht (ha.1 (.inr e)))]

/-- narrow's nodes are the answer's. -/
def NEq (L : List NN) (nds : List Nd) : Prop :=
  L.length = nds.length ∧ ∀ (i : Nat) (nd : Nd), nds[i]? = some nd → Gn nd ∧ ∃ tx yes nno, L[i]? = some (encN nd tx yes nno) ∧ (nd.op ≠ 33 → yes = nd.t ∧ -1 ≤ nd.t ∧ nd.t ≤ 1000) ∧ (nd.op = 121 ∨ nd.op = 58 → nno = nd.f ∧ -1 ≤ nd.f ∧ nd.f ≤ 1000)

theorem NB.trC {w : World} {r : Nat} {inp : ByteArray} {m : Mc} (h : NB w r inp m) : w.cell? ⟨r, 20, none⟩ = some (.string m.tr) := by
  obtain ⟨hb, h6⟩ := h
  obtain ⟨l, rd, left, tr, outp, me⟩ := m
  dsimp only at *
  obtain ⟨a, b, c, d, e, f, rfl⟩ := six_of h6
  exact hb.cell 20

theorem doF_e {inp : ByteArray} {n : Nd} {x : Nat} {xu yu vu : Vl} {m : Mc} (h : m.e = 8) : (doF inp n x xu yu vu m).e = 8 ∧ n.op ≠ 33 ∨ (doF inp n x xu yu vu m).e = 5 ∨ (doF inp n x xu yu vu m).e = 6 ∨ (doF inp n x xu yu vu m).e = 7 := by
  unfold doF
  repeat' split
  · exact .inr (.inr (.inl rfl))
  · exact .inr (.inl rfl)
  · exact .inr (.inl rfl)
  all_goals first | exact .inr (.inr (.inr rfl)) | exact .inl ⟨h, by assumption⟩ | exact .inl ⟨(worF_l inp n yu vu m).2.trans h, by assumption⟩

theorem nextF_left (inp : ByteArray) (m : Mc) : (nextF inp m).2.left = m.left := by unfold nextF; split <;> rfl
theorem worF_left (inp : ByteArray) (n : Nd) (y v : Vl) (m : Mc) : (worF inp n y v m).2.left = m.left := by
  unfold worF
  repeat' split
  · exact nextF_left inp m
  all_goals rfl
theorem doF_left {inp : ByteArray} {n : Nd} {x : Nat} {xu yu vu : Vl} {m : Mc} : (doF inp n x xu yu vu m).left = m.left := by
  unfold doF
  repeat' split
  all_goals first | rfl | exact worF_left inp n yu vu m

theorem NB.kp {w w' : World} {S : Nat → Prop} {r : Nat} {inp : ByteArray} {m : Mc} (h : NB w r inp m) (k : Kp S w w') (hn : ¬ S r) : NB w' r inp m := ⟨k.blk h.b hn, h.six⟩

theorem wkF_end {k : Nat} {nds : List Nd} {inp : ByteArray} {m mc' : Mc} {a : Int} (h : wkF k nds inp m a = some mc') (he : m.e ≠ 8) : mc' = m := by
  cases k with
  | zero => simp [wkF] at h
  | succ k =>
    rw [wkF, if_neg (fun e => he e.2)] at h
    simpa using h.symm

theorem NEq.of {s : ByteArray} {nds : List Nd} (h : ∀ n ∈ nds, Gd s n) : NEq (nds.map (encX s)) nds := by
  refine ⟨by simp, fun i nd hi => ?_⟩
  have hg := h nd (List.mem_of_getElem? hi)
  have tf := hg.tf
  refine ⟨hg.g, _, _, _, by rw [List.getElem?_map, hi]; rfl, fun h3 => ⟨by rw [yesN, if_neg h3], tf.1⟩, fun ht => ⟨by rw [noN, if_pos ht], tf.2⟩⟩

set_option maxRecDepth 100000 in
set_option maxHeartbeats 6400000 in
theorem nwalk_c (v : Value) (L : List NN) (nds : List Nd) (inp : ByteArray) (fuel : Nat) (w : World) (hR : NRow w v L) (hq : NEq L nds) (hl : nds.length ≤ 100) (hinp : inp.size ≤ 40) (hf : fuel ≤ 300) (ht : Tab w) (F : Nat) (mc' : Mc) (hE : wkF F nds inp (mc0 fuel) 0 = some mc') :
    Calls Tryz.prog 57 #[v, .string inp, .int .i64 fuel] w fun e w' => e = .returned (.tuple #[.string mc'.tr, .string mc'.out, .int .i64 (endE mc'.e)]) ∧ Kp no w w' := by
  have htl := ht.lt
  have HE := hide hE
  have HQ := hide hq
  obtain ⟨a, cap, rfl⟩ := hR.shape
  have hll : L.length ≤ 100 := by rw [hq.1]; exact hl
  clear hE hq
  go_enter Tryz.func57, Tryz.ntmps57
  go_wp2_with (first
    | (refine wpList_build_at rfl 142 #[(1, .tmp 15)] rfl [(1, .string inp)] (by simp [Act.eval]) _ (built_run inp) ?_)
    | (refine wpList_runs rfl _ _ (alloc_run _ _ _ rfl) ?_)
    | (refine wpList_store_new rfl w 142 (.tmp 9) (.tmp 16) #[.int .i64 0, .int .i64 0, .int .i64 0, .int .i64 0, .int .i64 0, .int .i64 0, .int .i64 0, .int .i64 0, .int .i64 0, .int .i64 0, .int .i64 0, .int .i64 0, .int .i64 0, .int .i64 0, .int .i64 0, .int .i64 0, .int .i64 0, .int .i64 0, .string ⟨#[]⟩, .int .i64 0, .string ⟨#[]⟩, .string ⟨#[]⟩] #[.int .i64 0, .int .i64 0, .int .i64 0, .int .i64 0, .int .i64 0, .int .i64 0, .int .i64 0, .int .i64 0, .int .i64 0, .int .i64 0, .int .i64 0, .int .i64 0, .int .i64 0, .int .i64 0, .int .i64 0, .int .i64 0, .int .i64 0, .int .i64 0, .string inp, .int .i64 0, .string ⟨#[]⟩, .string ⟨#[]⟩] rfl (by simp [Act.eval, Act.put]) (by simp [Act.eval, Act.put]) (zero_of_info info_run).2 rfl (all_oneCell_toArray (by simp [Value.oneCell'])) ?_))
  go_loopg [17] 6 (fun k i wr => ∃ j : Nat, j ≤ 6 ∧ k = 6 - j ∧ i = .int .i64 j ∧ Blk wr w.heap.size (nvCells (lj j) ++ [.string inp, .int .i64 0, .string ⟨#[]⟩, .string ⟨#[]⟩]) 142 ∧ Kp no w wr)
  case atStart => exact ⟨0, by decide, rfl, rfl, Blk.new w _ _, (Kp.refl no w).alloc _⟩
  case round =>
    obtain ⟨j, hj, hk, rfl, hb, kr⟩ := hrel
    have HK := hide hk
    have HKR := hide kr
    clear hk kr
    have hbl := hb.lt
    rcases (show j = 6 ∨ j = 0 ∨ j = 1 ∨ j = 2 ∨ j = 3 ∨ j = 4 ∨ j = 5 by omega) with rfl | rfl | rfl | rfl | rfl | rfl | rfl
    · have HB := hide hb
      clear hb
      have HM := hide (show NB wr w.heap.size inp (mc0 fuel) from ⟨HB.out, rfl⟩)
      go_wp2
      go_loopg [11, 12] F (fun k av sv wx => ∃ (at1 : Int) (m1 : Mc) (st : Nat), av = .int .i64 at1 ∧ sv = .int .i64 st ∧ -1 ≤ at1 ∧ at1 ≤ 1000 ∧ NB wx w.heap.size inp m1 ∧ MOk m1 ∧ m1.e = 8 ∧ (∀ u ∈ m1.l, VW u) ∧ st + m1.left = fuel ∧ Kp no w wx ∧ wkF k nds inp m1 at1 = some mc')
      case atStart => exact ⟨0, mc0 fuel, 0, rfl, rfl, by decide, by decide, HM.out, mc0_ok fuel hf, rfl, fun u hu => by
        have : u = zv := by
          simp only [mc0, lj, Nat.sub_self, List.replicate_zero, List.append_nil] at hu
          exact List.eq_of_mem_replicate hu
        rw [this]; exact VW.plain (by decide), Nat.zero_add _, HKR.out, HE.out⟩
      case round =>
        clear HK hbl HB HM HKR HE
        obtain ⟨at1, m1, st, rfl, rfl, ha1, ha2, hnb, hok, he8, hvw, hst, kr, hE⟩ := hrel
        have HKR := hide kr
        have HNB := hide hnb
        have HOK := hide hok
        have HVW := hide hvw
        have hT := (ht.kp kr no_elim)
        have HT := hide hT
        have hbl := hnb.b.lt
        have tc := hnb.trC
        have oc := hnb.outC
        have bf := hnb.b.frozen
        have HRW := hide (kr.row hR (fun _ _ => no_elim))
        clear kr hnb hok hvw hT
        have hne : w.heap.size ≠ 0 := by omega
        cases gk with
        | zero => simp [wkF] at hE
        | succ k =>
          rw [wkF] at hE
          by_cases hgo : at1 < nds.length ∧ m1.e = 8
          case neg =>
            rw [if_neg hgo] at hE
            simp only [Option.some.injEq] at hE
            have HE := hide hE
            have hlt : ¬ at1 < L.length := fun e => hgo ⟨by rw [← HQ.out.1]; exact e, he8⟩
            have HE8 := hide he8
            clear hE hgo he8
            have d1 : decide (0 ≤ at1) = true := by simp; omega
            go_wp2
            go_quiet (fail)
            go_wp2
            go_ret3
            rw [← HE.out, HE8.out]
            exact ⟨rfl, HKR.out.drewN _⟩
          case pos =>
            rw [if_pos hgo] at hE
            split at hE
            case isFalse => simp at hE
            rename_i ha
            obtain ⟨at1, rfl⟩ := Int.eq_ofNat_of_zero_le ha.1
            rw [Int.toNat_natCast] at hE
            have hlt : at1 < L.length := by rw [HQ.out.1]; omega
            have ha100 : at1 < 100 := by omega
            clear ha ha1 ha2 hgo
            cases hnd : nds[at1]? with
            | none => rw [hnd] at hE; simp at hE
            | some nd =>
              rw [hnd] at hE
              dsimp only at hE
              obtain ⟨hgn, tx0, yes0, nno0, hLi, hyes, hno⟩ := HQ.out.2 at1 nd hnd
              obtain ⟨_, g, rfl, hg, q0, q1, q2, q3, q4, q5, q6, q7, q8, q9, q10⟩ := NRow.at HRW.out hLi
              split at hE
              case h_2 => simp at hE
              rename_i xu yu vu hxu hyu hvu
              by_cases hl0 : m1.left = 0
              · have es : startF m1 at1 = ({ m1 with e := 4 }, false) := by rw [startF, if_pos hl0]
                rw [es] at hE
                simp only [Bool.false_eq_true, if_false] at hE
                have hend := wkF_end hE (by show (4 : Int) ≠ 8; decide)
                have HE := hide hend
                clear hE hend es hLi hyes hno q0 q1 q2 q3 q4 q5 q6 q7 q8 q9 q10
                have hst2 : (fuel : Int) ≤ st := by omega
                clear hst he8
                go_wp2
                go_quiet (fail)
                go_wp2
                go_ret3
                rw [HE.out]
                exact ⟨rfl, HKR.out.drewN _⟩
              · have es : startF m1 at1 = ({ m1 with left := m1.left - 1, tr := m1.tr ++ toldB at1 m1.l ++ sp }, true) := by rw [startF, if_neg hl0]
                have hso := startF_ok at1 HOK.out
                rw [es] at hE hso
                simp only [if_true] at hE
                have hTL := hide (fun W (hW : NB W w.heap.size inp m1) => ntell_c at1 ha100 hW (by have := HOK.out.tr; omega) HVW.out)
                have hM0 : Hid (∀ W, NB W w.heap.size inp { m1 with tr := m1.tr ++ toldB at1 m1.l ++ sp } → NB W w.heap.size inp { m1 with left := m1.left - 1, tr := m1.tr ++ toldB at1 m1.l ++ sp }) := hide (fun W h => ⟨h.b, h.six⟩)
                have he80 : ({ m1 with left := m1.left - 1, tr := m1.tr ++ toldB at1 m1.l ++ sp } : Mc).e = 8 := he8
                have hl0' : ({ m1 with left := m1.left - 1, tr := m1.tr ++ toldB at1 m1.l ++ sp } : Mc).l = m1.l := rfl
                have hle0 : ({ m1 with left := m1.left - 1, tr := m1.tr ++ toldB at1 m1.l ++ sp } : Mc).left + 1 = m1.left := by show m1.left - 1 + 1 = m1.left; omega
                generalize ({ m1 with tr := m1.tr ++ toldB at1 m1.l ++ sp } : Mc) = mt at *
                generalize ({ m1 with left := m1.left - 1, tr := m1.tr ++ toldB at1 m1.l ++ sp } : Mc) = m0 at *
                dsimp only at hso
                have hPre := hide (fun W (hW : NB W w.heap.size inp m0) (hTW : Tab W) => (show StPre W w.heap.size inp m0 nd nd.x.toNat nd.y.toNat nd.v.toNat xu yu vu from
                  ⟨hW, hgn, hinp, by have := hgn.x; omega, by have := hgn.y; omega, by have := hgn.v; omega, by rw [hl0']; exact hxu, by rw [hl0']; exact hyu, by rw [hl0']; exact hvu, by rw [hl0']; exact HVW.out, by have := hso.2.1 rfl; omega, hTW, he80⟩))
                have vy := HVW.out yu (List.mem_of_getElem? hyu)
                have hst1 : (st : Int) < fuel := by omega
                have HE80 := hide he80
                by_cases htst : nd.op = 121 ∨ nd.op = 58
                · rw [if_pos htst] at hE
                  have HE := hide hE
                  have HS := hide (fun W (hW : NB W w.heap.size inp m0) (hTW : Tab W) => ntest_c tx0 yes0 nno0 (hPre.out W hW hTW) htst)
                  have HWY := hide (fun W (hW : NB W w.heap.size inp m0) => nwayOf_t tx0 yes0 nno0 hW hgn (show nd.y = (nd.y.toNat : Nat) by have := hgn.y; omega) (by rw [hl0']; exact hyu) vy htst)
                  obtain ⟨hy1, hy2, hy3⟩ := hyes (by omega)
                  obtain ⟨hn1, hn2, hn3⟩ := hno htst
                  have HAT := hide (show (if holdF nd yu then yes0 else nno0) = (if holdF nd yu then nd.t else nd.f) by rw [hy1, hn1])
                  have HBD := hide (show -1 ≤ (if holdF nd yu then nd.t else nd.f) ∧ (if holdF nd yu then nd.t else nd.f) ≤ 1000 by split <;> omega)
                  rw [HAT.out] at HWY
                  generalize (if holdF nd yu = true then nd.t else nd.f) = an at *
                  clear hE hyes hno hy1 hy2 hy3 hn1 hn2 hn3 htst HAT
                  generalize hnn : encN nd tx0 yes0 nno0 = n at *
                  have HNN := hide hnn
                  clear hnn
                  obtain ⟨tx, act, nx, ny, nw, ck, cn, ch, kd, yes, nno⟩ := n
                  unfold NN.cells at HS HWY
                  dsimp only at HS HWY q0 q1 q2 q3 q4 q5 q6 q7 q8 q9 q10
                  clear es hLi he80 hxu hvu hPre
                  have HL0 := hide hl0'
                  have HLE := hide hle0
                  have HST := hide hst
                  have HSO := hide hso
                  clear hl0' hle0 hst hso hgn he8 hl0 hyu vy
                  go_wp2_with fail
                  refine (hTL.out _ ⟨Blk.alloc HNB.out.b _, HNB.out.six⟩).mono ?_
                  rintro e w2 ⟨rfl, h2, k2⟩
                  have h2' := hM0.out _ h2
                  have hN2 : Blk w2 wr.heap.size [.string tx, .int .i64 act, .int .i64 nx, .int .i64 ny, .int .i64 nw, .int .i64 ck, .int .i64 cn, .int .i64 ch, .int .i64 kd, .int .i64 yes, .int .i64 nno] 91 := k2.blk (by (repeat' (first | ((with_reducible show (_ : List Value) = _); rfl) | ((with_reducible refine Blk.newAt _ _ _ ?_); first | with_reducible rfl | (simp; done)) | with_reducible refine Blk.alloc ?_ _ | with_reducible refine Blk.drewN ?_ _ | with_reducible refine Blk.drew ?_ | ((with_reducible refine Blk.other ?_ _ ?_); rotate_left; ((try dsimp only); omega)) | with_reducible refine Blk.setB (cs0 := ?_) ?_ ?_))) (by omega)
                  obtain ⟨d0, d1, d2, d3, d4, d5, d6, d7, d8, d9, d10, df⟩ := hN2.c11
                  have hz2 := hN2.lt
                  have hT2 : Tab w2 := (HT.out.kp ((Kp.refl no wr).alloc _) no_elim).kp k2 (fun e => hne e.symm)
                  have K2 : Kp no w w2 := (HKR.out.alloc _).trans k2 (fun x hx e => by omega)
                  have HK2 := hide K2
                  clear K2 q0 q1 q2 q3 q4 q5 q6 q7 q8 q9 q10 tc oc bf
                  go_wp2_with fail
                  refine (HS.out _ h2' hT2).mono ?_
                  rintro e w3 ⟨rfl, h3, k3⟩
                  have hN3 : Blk w3 wr.heap.size [.string tx, .int .i64 act, .int .i64 nx, .int .i64 ny, .int .i64 nw, .int .i64 ck, .int .i64 cn, .int .i64 ch, .int .i64 kd, .int .i64 yes, .int .i64 nno] 91 := k3.blk hN2 (by omega)
                  obtain ⟨e0, e1, e2, e3, e4, e5, e6, e7, e8, e9, e10, ef⟩ := hN3.c11
                  have hz3 := hN3.lt
                  have K3 : Kp no w w3 := HK2.out.trans k3 (fun x hx e => by omega)
                  have HK3 := hide K3
                  clear K3 d0 d1 d2 d3 d4 d5 d6 d7 d8 d9 d10 df
                  go_wp2_with fail
                  refine (HWY.out _ h3).mono ?_
                  rintro e w4 ⟨rfl, k4⟩
                  go_wp2
                  go_roundg k
                  case measure => omega
                  case rel => exact ⟨an, m0, st + 1, rfl, by go_num, HBD.out.1, HBD.out.2, h3.kp k4 no_elim, HSO.out.1, HE80.out, by rw [HL0.out]; exact HVW.out, by have := HLE.out; have := HST.out; omega, HK3.out.trans k4 (fun _ _ e => e), HE.out⟩
                · rw [if_neg htst] at hE
                  have HS := hide (fun W (hW : NB W w.heap.size inp m0) (hTW : Tab W) => nstep_c tx0 yes0 nno0 (hPre.out W hW hTW) htst)
                  have hde := doF_e (inp := inp) (n := nd) (x := nd.x.toNat) (xu := xu) (yu := yu) (vu := vu) he80
                  have hdv := doF_vw (inp := inp) (n := nd) (x := nd.x.toNat) (xu := xu) (yu := yu) (vu := vu) (m := m0) hgn (by rw [hl0']; exact HVW.out) vy (HVW.out vu (List.mem_of_getElem? hvu))
                  have hdo : MOk (doF inp nd nd.x.toNat xu yu vu m0) := doF_ok hgn.k (HOK.out.v yu (List.mem_of_getElem? hyu)) (HOK.out.v vu (List.mem_of_getElem? hvu)) hso.1 (hso.2.1 rfl)
                  have hdl : (doF inp nd nd.x.toNat xu yu vu m0).left = m0.left := doF_left
                  generalize doF inp nd nd.x.toNat xu yu vu m0 = md at *
                  by_cases h8 : md.e = 8
                  · have h33 : nd.op ≠ 33 := by
                      rcases hde with h | h | h | h
                      · exact h.2
                      · omega
                      · omega
                      · omega
                    obtain ⟨hy1, hy2, hy3⟩ := hyes h33
                    obtain ⟨yu2, hyu2⟩ : ∃ yu2, md.l[nd.y.toNat]? = some yu2 := ⟨_, List.getElem?_eq_getElem (by have := hdo.six; have := hgn.y; omega)⟩
                    have HWY := hide (fun W (hW : NB W w.heap.size inp md) => (nwayOf_n tx0 yes0 nno0 hW (show nd.y = (nd.y.toNat : Nat) by have := hgn.y; omega) hyu2 htst).mono (R' := fun e w' => e = .returned (.int .i64 nd.t) ∧ Kp no W w') (fun e w' h => ⟨h.1.trans (by rw [hy1]), h.2⟩))
                    have HE := hide hE
                    have hBD : -1 ≤ nd.t ∧ nd.t ≤ 1000 := ⟨hy2, hy3⟩
                    have HBD := hide hBD
                    rw [h8] at HS
                    rw [show endE 8 = 0 from rfl] at HS
                    have HH8 := hide h8
                    generalize nd.t = an at *
                    have HDV := hide hdv
                    have HDO := hide hdo
                    have HDL := hide hdl
                    clear hE hyes hno hy1 hy2 hy3 htst hde hyu2 hBD h8 hdv hdo hdl
                    generalize hnn : encN nd tx0 yes0 nno0 = n at *
                    have HNN := hide hnn
                    clear hnn
                    obtain ⟨tx, act, nx, ny, nw, ck, cn, ch, kd, yes, nno⟩ := n
                    unfold NN.cells at HS HWY
                    dsimp only at HS HWY q0 q1 q2 q3 q4 q5 q6 q7 q8 q9 q10
                    clear es hLi he80 hxu hvu hPre
                    have HL0 := hide hl0'
                    have HLE := hide hle0
                    have HST := hide hst
                    have HSO := hide hso
                    clear hl0' hle0 hst hso hgn he8 hl0 hyu vy
                    go_wp2_with fail
                    refine (hTL.out _ ⟨Blk.alloc HNB.out.b _, HNB.out.six⟩).mono ?_
                    rintro e w2 ⟨rfl, h2, k2⟩
                    have h2' := hM0.out _ h2
                    have hN2 : Blk w2 wr.heap.size [.string tx, .int .i64 act, .int .i64 nx, .int .i64 ny, .int .i64 nw, .int .i64 ck, .int .i64 cn, .int .i64 ch, .int .i64 kd, .int .i64 yes, .int .i64 nno] 91 := k2.blk (by (repeat' (first | ((with_reducible show (_ : List Value) = _); rfl) | ((with_reducible refine Blk.newAt _ _ _ ?_); first | with_reducible rfl | (simp; done)) | with_reducible refine Blk.alloc ?_ _ | with_reducible refine Blk.drewN ?_ _ | with_reducible refine Blk.drew ?_ | ((with_reducible refine Blk.other ?_ _ ?_); rotate_left; ((try dsimp only); omega)) | with_reducible refine Blk.setB (cs0 := ?_) ?_ ?_))) (by omega)
                    obtain ⟨d0, d1, d2, d3, d4, d5, d6, d7, d8, d9, d10, df⟩ := hN2.c11
                    have hz2 := hN2.lt
                    have hT2 : Tab w2 := (HT.out.kp ((Kp.refl no wr).alloc _) no_elim).kp k2 (fun e => hne e.symm)
                    have K2 : Kp no w w2 := (HKR.out.alloc _).trans k2 (fun x hx e => by omega)
                    have HK2 := hide K2
                    clear K2 q0 q1 q2 q3 q4 q5 q6 q7 q8 q9 q10 tc oc bf
                    go_wp2_with fail
                    refine (HS.out _ h2' hT2).mono ?_
                    rintro e w3 ⟨rfl, h3, k3⟩
                    have hN3 : Blk w3 wr.heap.size [.string tx, .int .i64 act, .int .i64 nx, .int .i64 ny, .int .i64 nw, .int .i64 ck, .int .i64 cn, .int .i64 ch, .int .i64 kd, .int .i64 yes, .int .i64 nno] 91 := k3.blk hN2 (by omega)
                    obtain ⟨e0, e1, e2, e3, e4, e5, e6, e7, e8, e9, e10, ef⟩ := hN3.c11
                    have hz3 := hN3.lt
                    have K3 : Kp no w w3 := HK2.out.trans k3 (fun x hx e => by omega)
                    have HK3 := hide K3
                    clear K3 d0 d1 d2 d3 d4 d5 d6 d7 d8 d9 d10 df
                    go_wp2_with fail
                    refine (HWY.out _ h3).mono ?_
                    rintro e w4 ⟨rfl, k4⟩
                    go_wp2
                    go_roundg k
                    case measure => omega
                    case rel => exact ⟨an, md, st + 1, rfl, by go_num, HBD.out.1, HBD.out.2, h3.kp k4 no_elim, HDO.out, HH8.out, HDV.out, by have := HLE.out; have := HST.out; have := HDL.out; omega, HK3.out.trans k4 (fun _ _ e => e), HE.out⟩
                  · have hend := wkF_end hE h8
                    have HE := hide hend
                    have h567 : md.e = 5 ∨ md.e = 6 ∨ md.e = 7 := by omega
                    have he' : endE md.e = md.e := by rw [endE, if_neg h8]
                    rw [← he'] at h567
                    have hec : (endE md.e == 0) = false := by simp; omega
                    generalize hge : endE md.e = ee at *
                    have HGE := hide hge
                    clear hE hyes hno htst hde hend h8 h567 he' hge hdv hdo hdl
                    generalize hnn : encN nd tx0 yes0 nno0 = n at *
                    have HNN := hide hnn
                    clear hnn
                    obtain ⟨tx, act, nx, ny, nw, ck, cn, ch, kd, yes, nno⟩ := n
                    unfold NN.cells at HS
                    dsimp only at HS q0 q1 q2 q3 q4 q5 q6 q7 q8 q9 q10
                    clear es hLi he80 hxu hvu hPre
                    have HL0 := hide hl0'
                    have HLE := hide hle0
                    have HST := hide hst
                    have HSO := hide hso
                    clear hl0' hle0 hst hso hgn he8 hl0 hyu vy
                    go_wp2_with fail
                    refine (hTL.out _ ⟨Blk.alloc HNB.out.b _, HNB.out.six⟩).mono ?_
                    rintro e w2 ⟨rfl, h2, k2⟩
                    have h2' := hM0.out _ h2
                    have hN2 : Blk w2 wr.heap.size [.string tx, .int .i64 act, .int .i64 nx, .int .i64 ny, .int .i64 nw, .int .i64 ck, .int .i64 cn, .int .i64 ch, .int .i64 kd, .int .i64 yes, .int .i64 nno] 91 := k2.blk (by (repeat' (first | ((with_reducible show (_ : List Value) = _); rfl) | ((with_reducible refine Blk.newAt _ _ _ ?_); first | with_reducible rfl | (simp; done)) | with_reducible refine Blk.alloc ?_ _ | with_reducible refine Blk.drewN ?_ _ | with_reducible refine Blk.drew ?_ | ((with_reducible refine Blk.other ?_ _ ?_); rotate_left; ((try dsimp only); omega)) | with_reducible refine Blk.setB (cs0 := ?_) ?_ ?_))) (by omega)
                    obtain ⟨d0, d1, d2, d3, d4, d5, d6, d7, d8, d9, d10, df⟩ := hN2.c11
                    have hz2 := hN2.lt
                    have hT2 : Tab w2 := (HT.out.kp ((Kp.refl no wr).alloc _) no_elim).kp k2 (fun e => hne e.symm)
                    have K2 : Kp no w w2 := (HKR.out.alloc _).trans k2 (fun x hx e => by omega)
                    have HK2 := hide K2
                    clear K2 q0 q1 q2 q3 q4 q5 q6 q7 q8 q9 q10 tc oc bf
                    go_wp2_with fail
                    refine (HS.out _ h2' hT2).mono ?_
                    rintro e w3 ⟨rfl, h3, k3⟩
                    have hN3 : Blk w3 wr.heap.size [.string tx, .int .i64 act, .int .i64 nx, .int .i64 ny, .int .i64 nw, .int .i64 ck, .int .i64 cn, .int .i64 ch, .int .i64 kd, .int .i64 yes, .int .i64 nno] 91 := k3.blk hN2 (by omega)
                    obtain ⟨e0, e1, e2, e3, e4, e5, e6, e7, e8, e9, e10, ef⟩ := hN3.c11
                    have hz3 := hN3.lt
                    have K3 : Kp no w w3 := HK2.out.trans k3 (fun x hx e => by omega)
                    have HK3 := hide K3
                    clear K3 d0 d1 d2 d3 d4 d5 d6 d7 d8 d9 d10 df
                    have tc := h3.trC
                    have oc := h3.outC
                    have bf := h3.b.frozen
                    go_wp2
                    go_quiet (fail)
                    go_wp2
                    go_ret3
                    rw [HE.out, HGE.out]
                    exact ⟨rfl, HK3.out.drewN _⟩
    · have hb' : Blk wr w.heap.size [.int .i64 0, .int .i64 0, .int .i64 0, .int .i64 0, .int .i64 0, .int .i64 0, .int .i64 0, .int .i64 0, .int .i64 0, .int .i64 0, .int .i64 0, .int .i64 0, .int .i64 0, .int .i64 0, .int .i64 0, .int .i64 0, .int .i64 0, .int .i64 0, .string inp, .int .i64 0, .string ⟨#[]⟩, .string ⟨#[]⟩] 142 := hb
      have z1 := hb'.cell 0
      have z2 := hb'.cell 1
      have z3 := hb'.cell 2
      have zf := hb'.frozen
      simp only [List.getElem?_cons_zero, List.getElem?_cons_succ] at z1 z2 z3
      clear hb
      go_wp2
      go_roundg (6 - 1)
      case measure => have := HK.out; omega
      case rel =>
        have kk := HKR.out
        refine ⟨1, by omega, rfl, by go_num, ?_, by (repeat' (first | with_reducible exact Kp.refl _ _ | with_reducible refine Kp.alloc ?_ _ | with_reducible refine Kp.drewN ?_ _ | with_reducible refine Kp.drew ?_ | with_reducible refine Kp.setCell ?_ _ ?_ | with_reducible refine Kp.trans ?_ kk (fun _ _ e => e) | (intro hh; first | rfl | exact .inl rfl | exact .inr rfl | (exfalso; (try dsimp only at hh); omega))))⟩
        show Blk _ _ [.int .i64 8, .int .i64 0, .int .i64 0, .int .i64 0, .int .i64 0, .int .i64 0, .int .i64 0, .int .i64 0, .int .i64 0, .int .i64 0, .int .i64 0, .int .i64 0, .int .i64 0, .int .i64 0, .int .i64 0, .int .i64 0, .int .i64 0, .int .i64 0, .string inp, .int .i64 0, .string ⟨#[]⟩, .string ⟨#[]⟩] _
        (repeat' (first | ((with_reducible show (_ : List Value) = _); rfl) | with_reducible exact hb' | ((with_reducible refine Blk.newAt _ _ _ ?_); first | with_reducible rfl | (simp; done)) | with_reducible refine Blk.alloc ?_ _ | with_reducible refine Blk.drewN ?_ _ | with_reducible refine Blk.drew ?_ | ((with_reducible refine Blk.other ?_ _ ?_); rotate_left; ((try dsimp only); omega)) | with_reducible refine Blk.setB (cs0 := ?_) ?_ ?_))
    · have hb' : Blk wr w.heap.size [.int .i64 8, .int .i64 0, .int .i64 0, .int .i64 0, .int .i64 0, .int .i64 0, .int .i64 0, .int .i64 0, .int .i64 0, .int .i64 0, .int .i64 0, .int .i64 0, .int .i64 0, .int .i64 0, .int .i64 0, .int .i64 0, .int .i64 0, .int .i64 0, .string inp, .int .i64 0, .string ⟨#[]⟩, .string ⟨#[]⟩] 142 := hb
      have z1 := hb'.cell 3
      have z2 := hb'.cell 4
      have z3 := hb'.cell 5
      have zf := hb'.frozen
      simp only [List.getElem?_cons_zero, List.getElem?_cons_succ] at z1 z2 z3
      clear hb
      go_wp2
      go_roundg (6 - 2)
      case measure => have := HK.out; omega
      case rel =>
        have kk := HKR.out
        refine ⟨2, by omega, rfl, by go_num, ?_, by (repeat' (first | with_reducible exact Kp.refl _ _ | with_reducible refine Kp.alloc ?_ _ | with_reducible refine Kp.drewN ?_ _ | with_reducible refine Kp.drew ?_ | with_reducible refine Kp.setCell ?_ _ ?_ | with_reducible refine Kp.trans ?_ kk (fun _ _ e => e) | (intro hh; first | rfl | exact .inl rfl | exact .inr rfl | (exfalso; (try dsimp only at hh); omega))))⟩
        show Blk _ _ [.int .i64 8, .int .i64 0, .int .i64 0, .int .i64 8, .int .i64 0, .int .i64 0, .int .i64 0, .int .i64 0, .int .i64 0, .int .i64 0, .int .i64 0, .int .i64 0, .int .i64 0, .int .i64 0, .int .i64 0, .int .i64 0, .int .i64 0, .int .i64 0, .string inp, .int .i64 0, .string ⟨#[]⟩, .string ⟨#[]⟩] _
        (repeat' (first | ((with_reducible show (_ : List Value) = _); rfl) | with_reducible exact hb' | ((with_reducible refine Blk.newAt _ _ _ ?_); first | with_reducible rfl | (simp; done)) | with_reducible refine Blk.alloc ?_ _ | with_reducible refine Blk.drewN ?_ _ | with_reducible refine Blk.drew ?_ | ((with_reducible refine Blk.other ?_ _ ?_); rotate_left; ((try dsimp only); omega)) | with_reducible refine Blk.setB (cs0 := ?_) ?_ ?_))
    · have hb' : Blk wr w.heap.size [.int .i64 8, .int .i64 0, .int .i64 0, .int .i64 8, .int .i64 0, .int .i64 0, .int .i64 0, .int .i64 0, .int .i64 0, .int .i64 0, .int .i64 0, .int .i64 0, .int .i64 0, .int .i64 0, .int .i64 0, .int .i64 0, .int .i64 0, .int .i64 0, .string inp, .int .i64 0, .string ⟨#[]⟩, .string ⟨#[]⟩] 142 := hb
      have z1 := hb'.cell 6
      have z2 := hb'.cell 7
      have z3 := hb'.cell 8
      have zf := hb'.frozen
      simp only [List.getElem?_cons_zero, List.getElem?_cons_succ] at z1 z2 z3
      clear hb
      go_wp2
      go_roundg (6 - 3)
      case measure => have := HK.out; omega
      case rel =>
        have kk := HKR.out
        refine ⟨3, by omega, rfl, by go_num, ?_, by (repeat' (first | with_reducible exact Kp.refl _ _ | with_reducible refine Kp.alloc ?_ _ | with_reducible refine Kp.drewN ?_ _ | with_reducible refine Kp.drew ?_ | with_reducible refine Kp.setCell ?_ _ ?_ | with_reducible refine Kp.trans ?_ kk (fun _ _ e => e) | (intro hh; first | rfl | exact .inl rfl | exact .inr rfl | (exfalso; (try dsimp only at hh); omega))))⟩
        show Blk _ _ [.int .i64 8, .int .i64 0, .int .i64 0, .int .i64 8, .int .i64 0, .int .i64 0, .int .i64 8, .int .i64 0, .int .i64 0, .int .i64 0, .int .i64 0, .int .i64 0, .int .i64 0, .int .i64 0, .int .i64 0, .int .i64 0, .int .i64 0, .int .i64 0, .string inp, .int .i64 0, .string ⟨#[]⟩, .string ⟨#[]⟩] _
        (repeat' (first | ((with_reducible show (_ : List Value) = _); rfl) | with_reducible exact hb' | ((with_reducible refine Blk.newAt _ _ _ ?_); first | with_reducible rfl | (simp; done)) | with_reducible refine Blk.alloc ?_ _ | with_reducible refine Blk.drewN ?_ _ | with_reducible refine Blk.drew ?_ | ((with_reducible refine Blk.other ?_ _ ?_); rotate_left; ((try dsimp only); omega)) | with_reducible refine Blk.setB (cs0 := ?_) ?_ ?_))
    · have hb' : Blk wr w.heap.size [.int .i64 8, .int .i64 0, .int .i64 0, .int .i64 8, .int .i64 0, .int .i64 0, .int .i64 8, .int .i64 0, .int .i64 0, .int .i64 0, .int .i64 0, .int .i64 0, .int .i64 0, .int .i64 0, .int .i64 0, .int .i64 0, .int .i64 0, .int .i64 0, .string inp, .int .i64 0, .string ⟨#[]⟩, .string ⟨#[]⟩] 142 := hb
      have z1 := hb'.cell 9
      have z2 := hb'.cell 10
      have z3 := hb'.cell 11
      have zf := hb'.frozen
      simp only [List.getElem?_cons_zero, List.getElem?_cons_succ] at z1 z2 z3
      clear hb
      go_wp2
      go_roundg (6 - 4)
      case measure => have := HK.out; omega
      case rel =>
        have kk := HKR.out
        refine ⟨4, by omega, rfl, by go_num, ?_, by (repeat' (first | with_reducible exact Kp.refl _ _ | with_reducible refine Kp.alloc ?_ _ | with_reducible refine Kp.drewN ?_ _ | with_reducible refine Kp.drew ?_ | with_reducible refine Kp.setCell ?_ _ ?_ | with_reducible refine Kp.trans ?_ kk (fun _ _ e => e) | (intro hh; first | rfl | exact .inl rfl | exact .inr rfl | (exfalso; (try dsimp only at hh); omega))))⟩
        show Blk _ _ [.int .i64 8, .int .i64 0, .int .i64 0, .int .i64 8, .int .i64 0, .int .i64 0, .int .i64 8, .int .i64 0, .int .i64 0, .int .i64 8, .int .i64 0, .int .i64 0, .int .i64 0, .int .i64 0, .int .i64 0, .int .i64 0, .int .i64 0, .int .i64 0, .string inp, .int .i64 0, .string ⟨#[]⟩, .string ⟨#[]⟩] _
        (repeat' (first | ((with_reducible show (_ : List Value) = _); rfl) | with_reducible exact hb' | ((with_reducible refine Blk.newAt _ _ _ ?_); first | with_reducible rfl | (simp; done)) | with_reducible refine Blk.alloc ?_ _ | with_reducible refine Blk.drewN ?_ _ | with_reducible refine Blk.drew ?_ | ((with_reducible refine Blk.other ?_ _ ?_); rotate_left; ((try dsimp only); omega)) | with_reducible refine Blk.setB (cs0 := ?_) ?_ ?_))
    · have hb' : Blk wr w.heap.size [.int .i64 8, .int .i64 0, .int .i64 0, .int .i64 8, .int .i64 0, .int .i64 0, .int .i64 8, .int .i64 0, .int .i64 0, .int .i64 8, .int .i64 0, .int .i64 0, .int .i64 0, .int .i64 0, .int .i64 0, .int .i64 0, .int .i64 0, .int .i64 0, .string inp, .int .i64 0, .string ⟨#[]⟩, .string ⟨#[]⟩] 142 := hb
      have z1 := hb'.cell 12
      have z2 := hb'.cell 13
      have z3 := hb'.cell 14
      have zf := hb'.frozen
      simp only [List.getElem?_cons_zero, List.getElem?_cons_succ] at z1 z2 z3
      clear hb
      go_wp2
      go_roundg (6 - 5)
      case measure => have := HK.out; omega
      case rel =>
        have kk := HKR.out
        refine ⟨5, by omega, rfl, by go_num, ?_, by (repeat' (first | with_reducible exact Kp.refl _ _ | with_reducible refine Kp.alloc ?_ _ | with_reducible refine Kp.drewN ?_ _ | with_reducible refine Kp.drew ?_ | with_reducible refine Kp.setCell ?_ _ ?_ | with_reducible refine Kp.trans ?_ kk (fun _ _ e => e) | (intro hh; first | rfl | exact .inl rfl | exact .inr rfl | (exfalso; (try dsimp only at hh); omega))))⟩
        show Blk _ _ [.int .i64 8, .int .i64 0, .int .i64 0, .int .i64 8, .int .i64 0, .int .i64 0, .int .i64 8, .int .i64 0, .int .i64 0, .int .i64 8, .int .i64 0, .int .i64 0, .int .i64 8, .int .i64 0, .int .i64 0, .int .i64 0, .int .i64 0, .int .i64 0, .string inp, .int .i64 0, .string ⟨#[]⟩, .string ⟨#[]⟩] _
        (repeat' (first | ((with_reducible show (_ : List Value) = _); rfl) | with_reducible exact hb' | ((with_reducible refine Blk.newAt _ _ _ ?_); first | with_reducible rfl | (simp; done)) | with_reducible refine Blk.alloc ?_ _ | with_reducible refine Blk.drewN ?_ _ | with_reducible refine Blk.drew ?_ | ((with_reducible refine Blk.other ?_ _ ?_); rotate_left; ((try dsimp only); omega)) | with_reducible refine Blk.setB (cs0 := ?_) ?_ ?_))
    · have hb' : Blk wr w.heap.size [.int .i64 8, .int .i64 0, .int .i64 0, .int .i64 8, .int .i64 0, .int .i64 0, .int .i64 8, .int .i64 0, .int .i64 0, .int .i64 8, .int .i64 0, .int .i64 0, .int .i64 8, .int .i64 0, .int .i64 0, .int .i64 0, .int .i64 0, .int .i64 0, .string inp, .int .i64 0, .string ⟨#[]⟩, .string ⟨#[]⟩] 142 := hb
      have z1 := hb'.cell 15
      have z2 := hb'.cell 16
      have z3 := hb'.cell 17
      have zf := hb'.frozen
      simp only [List.getElem?_cons_zero, List.getElem?_cons_succ] at z1 z2 z3
      clear hb
      go_wp2
      go_roundg (6 - 6)
      case measure => have := HK.out; omega
      case rel =>
        have kk := HKR.out
        refine ⟨6, by omega, rfl, by go_num, ?_, by (repeat' (first | with_reducible exact Kp.refl _ _ | with_reducible refine Kp.alloc ?_ _ | with_reducible refine Kp.drewN ?_ _ | with_reducible refine Kp.drew ?_ | with_reducible refine Kp.setCell ?_ _ ?_ | with_reducible refine Kp.trans ?_ kk (fun _ _ e => e) | (intro hh; first | rfl | exact .inl rfl | exact .inr rfl | (exfalso; (try dsimp only at hh); omega))))⟩
        show Blk _ _ [.int .i64 8, .int .i64 0, .int .i64 0, .int .i64 8, .int .i64 0, .int .i64 0, .int .i64 8, .int .i64 0, .int .i64 0, .int .i64 8, .int .i64 0, .int .i64 0, .int .i64 8, .int .i64 0, .int .i64 0, .int .i64 8, .int .i64 0, .int .i64 0, .string inp, .int .i64 0, .string ⟨#[]⟩, .string ⟨#[]⟩] _
        (repeat' (first | ((with_reducible show (_ : List Value) = _); rfl) | with_reducible exact hb' | ((with_reducible refine Blk.newAt _ _ _ ?_); first | with_reducible rfl | (simp; done)) | with_reducible refine Blk.alloc ?_ _ | with_reducible refine Blk.drewN ?_ _ | with_reducible refine Blk.drew ?_ | ((with_reducible refine Blk.other ?_ _ ?_); rotate_left; ((try dsimp only); omega)) | with_reducible refine Blk.setB (cs0 := ?_) ?_ ?_))
end Go.Proofs.YtellieabhaphhaaGreatDoor

/-
  Plain: what the maker lays of a text that is a source: how many nodes, and of which form.
-/
namespace Go.Proofs.YtellieabhaphhaaGreatDoor
open Go.RowKit

def nj (row : List NN) : Nat := row.countP (fun n => decide (n.act ≠ 15))

theorem nj_jump (row : List NN) (k : Int) : nj (row ++ [jumpN k]) = nj row := by
  unfold nj; rw [List.countP_append]; rfl
theorem nj_one (row : List NN) (n : NN) : nj (row ++ [n]) ≤ nj row + 1 := by
  unfold nj; rw [List.countP_append]
  have : List.countP (fun n => decide (n.act ≠ 15)) [n] ≤ [n].length := List.countP_le_length
  simp only [List.length_singleton] at this
  omega

/-- How many bytes the nodes' own texts have. -/
def sz (row : List NN) : Nat := (row.map (fun n => n.tx.size)).sum
theorem sz_one (row : List NN) (n : NN) : sz (row ++ [n]) = sz row + n.tx.size := by simp [sz]

/-- The node's own text, where it was read. -/
def TxP (nd : Nd) (tx : ByteArray) : Prop := ∃ s i j, tx = sinceB s i j ∧ i ≤ j ∧ j ≤ s.size ∧ (simpF s i = (nd, (j, false)) ∨ testF s i = (nd, (j, false)))

/-- A jump, or a node. -/
def RN (n : NN) : Prop := n.act = 15 ∨ (n.act ≠ 15 ∧ ∃ nd tx y z, n = encN nd tx y z ∧ Gn nd ∧ tx.size ≤ 1000 ∧ TxP nd tx)

/-- Where it ends well: how it came there. -/
def Gp (c : Int) (m m' : MS) : Prop := m'.p.2 = false → m.p.2 = false ∧ (∀ n ∈ m'.row, n ∈ m.row ∨ RN n) ∧ 2 * (nj m'.row : Int) + m.p.1 ≤ 2 * nj m.row + m'.p.1 + c ∧ sz m'.row + m.p.1 ≤ sz m.row + m'.p.1

theorem Gp.trans {a b : Int} {m m1 m2 : MS} (h : Gp a m m1) (k : Gp b m1 m2) : Gp (a + b) m m2 := by
  intro hb
  obtain ⟨k1, k2, k3, k4⟩ := k hb
  obtain ⟨h1, h2, h3, h4⟩ := h k1
  exact ⟨h1, fun n hn => (k2 n hn).elim (h2 n) .inr, by omega, by omega⟩
theorem Gp.mono {a b : Int} {m m' : MS} (h : Gp a m m') (hab : a ≤ b) : Gp b m m' := fun hb => let ⟨h1, h2, h3, h4⟩ := h hb; ⟨h1, h2, by omega, h4⟩
theorem Gp.of {c : Int} {m m' : MS} (hp : m'.p = m.p) (hr : m'.row = m.row) (hc : 0 ≤ c) : Gp c m m' := by
  intro hb
  rw [hp] at hb
  refine ⟨hb, fun n hn => .inl (hr ▸ hn), ?_, ?_⟩
  · rw [hp, hr]; omega
  · rw [hp, hr]; exact Nat.le_refl _
theorem Gp.refl (m : MS) : Gp 0 m m := Gp.of rfl rfl (Int.le_refl _)
theorem layM_gp (m : MS) (k : Nat) : Gp 0 m (layM m k) := Gp.of rfl rfl (Int.le_refl _)
theorem newM_gp (m : MS) : Gp 0 m (newM m) := Gp.of rfl rfl (Int.le_refl _)
theorem new3_gp (m : MS) : Gp 0 m (new3 m) := Gp.of rfl rfl (Int.le_refl _)
theorem jmpM_gp (m : MS) (k : Int) : Gp 0 m (jmpM m k) := by
  intro hb
  refine ⟨hb, fun n hn => ?_, ?_, ?_⟩
  · rcases List.mem_append.1 hn with h | h
    · exact .inl h
    · obtain rfl : n = jumpN k := by simpa using h
      exact .inr (.inl rfl)
  · show 2 * (nj (m.row ++ [jumpN k]) : Int) + _ ≤ _
    rw [nj_jump, jmpM_p]; omega
  · show sz (m.row ++ [jumpN k]) + _ ≤ _
    rw [sz_one, jmpM_p]; exact Nat.le_refl _

theorem expF_good (s : ByteArray) : ∀ (l : List UInt8) (p : Nat × Bool), (expF s p l).2 = false → p.2 = false ∧ (expF s p l).1 = p.1 + l.length
  | [], p, h => ⟨h, rfl⟩
  | c :: l, p, h => by
    have ih := expF_good s l (eatF s p c.toNat) h
    obtain ⟨e1, e2, e3⟩ := eatF_good s p c.toNat ih.1
    refine ⟨e1, ?_⟩
    show (expF s (eatF s p c.toNat) l).1 = _
    rw [ih.2, e3, List.length_cons]
    omega

theorem expM_gp (s : ByteArray) (m : MS) (l : List UInt8) : Gp (-(l.length : Int)) m (expM s m l) := by
  intro hb
  obtain ⟨e1, e2⟩ := expF_good s l m.p hb
  refine ⟨e1, fun n hn => .inl hn, ?_, ?_⟩
  · rw [expM_p, e2, expM_row]
    omega
  · rw [expM_p, e2, expM_row]
    omega

theorem actN_ne (o : Int) : actN o ≠ 15 := by
  unfold actN
  intro h
  repeat' split at h
  all_goals omega

theorem tst_ref (s : ByteArray) (i : Nat) : (tstF s (i, false)).2 = (testF s i).2 ∧ (tstF s (i, false)).1 = encN (testF s i).1 em 0 0 := by
  unfold tstF queF testF
  generalize varF s (i, false) = q
  obtain ⟨k, q, b⟩ := q
  dsimp only
  cases b
  · by_cases h : pk s q = 58
    · rw [pkb_false, if_pos h, if_pos ⟨rfl, h⟩]
      exact ⟨rfl, rfl⟩
    · rw [pkb_false, if_neg h, if_neg (fun e => h e.2)]
      exact ⟨rfl, rfl⟩
  · rw [pkb_true, if_neg (by decide), if_neg (fun e => by cases e.1)]
    exact ⟨rfl, rfl⟩

theorem since_size (s : ByteArray) (a b : Nat) (hs : s.size ≤ 1000) : (sinceB s a b).size ≤ 1000 := by
  unfold sinceB
  rw [ByteArray.size_extract]; omega

theorem tstM_gp {s : ByteArray} {m : MS} (yes no : Int) (hs : s.size ≤ 1000) (hi : m.p.1 ≤ s.size) : Gp 1 m (tstM s yes no m) := by
  intro hb
  have hb' : (tstF s m.p).2.2 = false := hb
  have b0 := (tstF_bc s m.p hi).1
  have hp : m.p.2 = false := by
    have h1 := bc_live hb'
    cases h : m.p.2
    · rfl
    · rw [h1] at b0; simp [bc, h] at b0
  have e : m.p = (m.p.1, false) := by rw [← hp]
  obtain ⟨r1, r2⟩ := tst_ref s m.p.1
  rw [← e] at r1 r2
  have g := testF_gn s m.p.1 (by rw [← r1]; exact hb')
  have htp : TxP (testF s m.p.1).1 (sinceB s m.p.1 (tstF s m.p).2.1) := ⟨s, m.p.1, (tstF s m.p).2.1, rfl, (tstF_bc s m.p hi).2.1, (tstF_bc s m.p hi).2.2, .inr (by
    have hbb : (testF s m.p.1).2 = ((tstF s m.p).2.1, false) := by rw [← r1]; exact Prod.ext rfl hb'
    exact Prod.ext rfl hbb)⟩
  refine ⟨hp, fun n hn => ?_, ?_, ?_⟩
  · rcases List.mem_append.1 hn with h | h
    · exact .inl h
    · obtain rfl : n = _ := by simpa using h
      rw [r2]
      exact .inr (.inr ⟨actN_ne _, _, _, _, _, rfl, g.1, since_size s _ _ hs, htp⟩)
  · have h1 : nj (tstM s yes no m).row ≤ nj m.row + 1 := nj_one m.row _
    have h2 : m.p.1 + 1 ≤ (tstM s yes no m).p.1 := by
      show m.p.1 + 1 ≤ (tstF s m.p).2.1
      have v := varF_ge s m.p
      have hv : (varF s m.p).2.2 = false := by
        have q := (queF_bc s (varF s m.p).2 (varF s m.p).1 (varF_le s m.p hi)).1
        have : bc (tstF s m.p).2 = 0 := bc_live hb'
        cases h : (varF s m.p).2.2
        · rfl
        · unfold tstF at this; rw [this] at q; simp [bc, h] at q
      have q2 := (queF_bc s (varF s m.p).2 (varF s m.p).1 (varF_le s m.p hi)).2.1
      have := v.2 hv
      show m.p.1 + 1 ≤ (queF s (varF s m.p).2 (varF s m.p).1).2.1
      omega
    omega
  · show sz (m.row ++ [_]) + m.p.1 ≤ sz m.row + (tstF s m.p).2.1
    rw [sz_one]
    show sz m.row + (sinceB s m.p.1 (tstF s m.p).2.1).size + m.p.1 ≤ _
    have := tstF_bc s m.p hi
    unfold sinceB
    rw [ByteArray.size_extract]
    omega

theorem condM_gp : ∀ (f : Nat) (s : ByteArray) (yes no : Int) (m : MS), s.size ≤ 1000 → s.size - m.p.1 < f → m.p.1 ≤ s.size → Gp 1 m (condM f s yes no m)
  | 0, _, _, _, _, _, h, _ => by omega
  | f + 1, s, yes, no, m, hs, hf, hi => by
    rw [condM]
    split
    · rename_i hc
      obtain ⟨e1, e2, e3⟩ := eat_at (c := 33) hc (by decide)
      have x1 : (expM s m [33]).p.1 = m.p.1 + 1 := by rw [expM_p, e1]
      exact ((expM_gp s m [33]).trans (condM_gp f s no yes (expM s m [33]) hs (by omega) (by omega))).mono (by decide)
    split
    · rename_i _ hc
      obtain ⟨e1, e2, e3⟩ := eat_at (c := 38) hc (by decide)
      have x1 : (newM (expM s m [38])).p.1 = m.p.1 + 1 := by rw [newM_p, expM_p, e1]
      have g := condM_mc f s m.marks.length no (newM (expM s m [38])) (by omega) (by omega)
      have k1 := condM_gp f s m.marks.length no (newM (expM s m [38])) hs (by omega) (by omega)
      generalize condM f s m.marks.length no (newM (expM s m [38])) = y3 at *
      have g1 := g.lo; have g2 := g.i
      have k2 := condM_gp f s yes no (layM y3 m.marks.length) hs (by rw [layM_p]; omega) (by rw [layM_p]; omega)
      exact (((expM_gp s m [38]).trans (newM_gp _)).trans ((k1.trans (layM_gp y3 m.marks.length)).trans k2)).mono (by decide)
    split
    · rename_i _ _ hc
      obtain ⟨e1, e2, e3⟩ := eat_at (c := 124) hc (by decide)
      have x1 : (newM (expM s m [124])).p.1 = m.p.1 + 1 := by rw [newM_p, expM_p, e1]
      have g := condM_mc f s yes m.marks.length (newM (expM s m [124])) (by omega) (by omega)
      have k1 := condM_gp f s yes m.marks.length (newM (expM s m [124])) hs (by omega) (by omega)
      generalize condM f s yes m.marks.length (newM (expM s m [124])) = y3 at *
      have g1 := g.lo; have g2 := g.i
      have k2 := condM_gp f s yes no (layM y3 m.marks.length) hs (by rw [layM_p]; omega) (by rw [layM_p]; omega)
      exact (((expM_gp s m [124]).trans (newM_gp _)).trans ((k1.trans (layM_gp y3 m.marks.length)).trans k2)).mono (by decide)
    · exact tstM_gp yes no hs hi

theorem actM_gp {s : ByteArray} {m : MS} (hs : s.size ≤ 1000) (h : pkb s m.p ≠ 0) : Gp 0 m (actM s m) := by
  intro hb
  obtain ⟨h1, h2⟩ := pkb_live h
  have e : m.p = (m.p.1, false) := by rw [← h1]
  have hb' : (expF s (nacF s m.p).2 [59]).2 = false := hb
  obtain ⟨e1, e2⟩ := expF_good s [59] _ hb'
  obtain ⟨r1, r2⟩ := nac_ref s m.p.1
  rw [← e] at r1 r2
  rw [r1] at e1
  have g := simpF_gn s m.p.1 e1
  have hge := (simpF_ge s m.p.1).2 e1
  have hle := simpF_le s m.p.1 (Nat.le_of_lt h2)
  have htp : TxP (simpF s m.p.1).1 (sinceB s m.p.1 (nacF s m.p).2.1) := ⟨s, m.p.1, (nacF s m.p).2.1, rfl, by rw [r1]; omega, by rw [r1]; exact hle, .inl (Prod.ext rfl (Prod.ext (by rw [r1]) e1))⟩
  refine ⟨h1, fun n hn => ?_, ?_, ?_⟩
  · rcases List.mem_append.1 hn with h | h
    · exact .inl h
    · obtain rfl : n = _ := by simpa using h
      rw [r2 e1]
      exact .inr (.inr ⟨actN_ne _, _, _, _, _, rfl, g.1, since_size s _ _ hs, htp⟩)
  · have h3 : nj (actM s m).row ≤ nj m.row + 1 := nj_one m.row _
    have h4 : (actM s m).p.1 = (simpF s m.p.1).2.1 + 1 := by
      show (expF s (nacF s m.p).2 [59]).1 = _
      rw [e2, r1]; rfl
    omega
  · have h4 : (actM s m).p.1 = (simpF s m.p.1).2.1 + 1 := by
      show (expF s (nacF s m.p).2 [59]).1 = _
      rw [e2, r1]; rfl
    rw [h4]
    show sz (m.row ++ [_]) + m.p.1 ≤ _
    rw [sz_one]
    show sz m.row + (sinceB s m.p.1 (nacF s m.p).2.1).size + m.p.1 ≤ _
    unfold sinceB
    rw [ByteArray.size_extract, r1]
    omega

theorem lepM_gp (s : ByteArray) (m : MS) (l : List UInt8) (k : Int) : Gp 0 m (lepM s l k m) := by
  unfold lepM
  split
  · intro hb; cases hb
  · exact ((expM_gp s m l).trans (jmpM_gp _ k)).mono (by omega)

def SGp (s : ByteArray) (n : Nat) (S : Int → Int → MS → MS) : Prop := ∀ h b m, m.p.1 ≤ s.size → (m.p.2 = false → s.size - m.p.1 < n) → Gp 0 m (S h b m)

theorem choM_gp {f : Nat} {s : ByteArray} {S : Int → Int → MS → MS} {h b : Int} {m : MS} (hs : s.size ≤ 1000) (hS : SMG s f S) (hG : SGp s f S) (hc : pkb s m.p = 40) (hf : s.size - m.p.1 < f + 1) : Gp 0 m (choM f S s h b m) := by
  obtain ⟨e1, e2, e3⟩ := eat_at (c := 40) hc (by decide)
  unfold choM
  dsimp only
  have k1 := (new3_gp m).trans (expM_gp s (new3 m) [40])
  have q1 : (expM s (new3 m) [40]).p.1 = m.p.1 + 1 := by rw [expM_p, new3_p, e1]
  generalize expM s (new3 m) [40] = x1 at *
  have g2 := condM_mc f s m.marks.length (m.marks.length + 1 : Nat) x1 (by omega) (by omega)
  have k2 := condM_gp f s m.marks.length (m.marks.length + 1 : Nat) x1 hs (by omega) (by omega)
  generalize condM f s m.marks.length (m.marks.length + 1 : Nat) x1 = x2 at *
  have g3 := expM_mg (l := [123]) (by decide) g2.i
  have k3 := expM_gp s x2 [123]
  generalize expM s x2 [123] = x3 at *
  have g4 := layM_mg (k := m.marks.length) g3.i
  have k4 := layM_gp x3 m.marks.length
  generalize layM x3 m.marks.length = x4 at *
  have lo4 : x1.p.1 ≤ x4.p.1 := Nat.le_trans g2.lo (Nat.le_trans g3.lo g4.lo)
  have i4 := g4.i
  have g5 := hS h b x4 g4.i (fun _ => by omega)
  have k5 := hG h b x4 g4.i (fun _ => by omega)
  generalize S h b x4 = x5 at *
  have g6 := expM_mg (l := [125, 123]) (by decide) g5.i
  have k6 := expM_gp s x5 [125, 123]
  generalize expM s x5 [125, 123] = x6 at *
  have p7 := jmpM_p x6 (m.marks.length + 2 : Nat)
  have k7 := jmpM_gp x6 (m.marks.length + 2 : Nat)
  generalize jmpM x6 (m.marks.length + 2 : Nat) = x7 at *
  have g8 := layM_mg (s := s) (m := x7) (k := m.marks.length + 1) (by rw [p7]; exact g6.i)
  have k8 := layM_gp x7 (m.marks.length + 1)
  generalize layM x7 (m.marks.length + 1) = x8 at *
  have lo8 : x4.p.1 ≤ x8.p.1 := Nat.le_trans g5.lo (Nat.le_trans g6.lo (by rw [← p7]; exact g8.lo))
  have i8 := g8.i
  have k9 := hG h b x8 g8.i (fun _ => by omega)
  generalize S h b x8 = x9 at *
  have k10 := expM_gp s x9 [125, 41]
  generalize expM s x9 [125, 41] = x10 at *
  have k11 := layM_gp x10 (m.marks.length + 2)
  generalize layM x10 (m.marks.length + 2) = x11 at *
  exact (((((((((k1.trans k2).trans k3).trans k4).trans k5).trans k6).trans k7).trans k8).trans k9).trans (k10.trans k11)).mono (by decide)

theorem lopM_gp {f : Nat} {s : ByteArray} {S : Int → Int → MS → MS} {m : MS} (hs : s.size ≤ 1000) (hG : SGp s f S) (hc : pkb s m.p = 91) (hf : s.size - m.p.1 < f + 1) : Gp 0 m (lopM f S s m) := by
  obtain ⟨e1, e2, e3⟩ := eat_at (c := 91) hc (by decide)
  unfold lopM
  dsimp only
  have k1 := ((new3_gp m).trans (expM_gp s (new3 m) [91])).trans (layM_gp _ m.marks.length)
  have q1 : (layM (expM s (new3 m) [91]) m.marks.length).p.1 = m.p.1 + 1 := by rw [layM_p, expM_p, new3_p, e1]
  generalize layM (expM s (new3 m) [91]) m.marks.length = x1 at *
  have g2 := condM_mc f s (m.marks.length + 1 : Nat) (m.marks.length + 2 : Nat) x1 (by omega) (by omega)
  have k2 := condM_gp f s (m.marks.length + 1 : Nat) (m.marks.length + 2 : Nat) x1 hs (by omega) (by omega)
  generalize condM f s (m.marks.length + 1 : Nat) (m.marks.length + 2 : Nat) x1 = x2 at *
  have g3 := expM_mg (l := [123]) (by decide) g2.i
  have k3 := expM_gp s x2 [123]
  generalize expM s x2 [123] = x3 at *
  have g4 := layM_mg (k := m.marks.length + 1) g3.i
  have k4 := layM_gp x3 (m.marks.length + 1)
  generalize layM x3 (m.marks.length + 1) = x4 at *
  have lo4 : x1.p.1 ≤ x4.p.1 := Nat.le_trans g2.lo (Nat.le_trans g3.lo g4.lo)
  have i4 := g4.i
  have k5 := hG m.marks.length (m.marks.length + 2 : Nat) x4 g4.i (fun _ => by omega)
  generalize S m.marks.length (m.marks.length + 2 : Nat) x4 = x5 at *
  have k6 := expM_gp s x5 [125, 93]
  generalize expM s x5 [125, 93] = x6 at *
  have k7 := jmpM_gp x6 m.marks.length
  generalize jmpM x6 m.marks.length = x7 at *
  have k8 := layM_gp x7 (m.marks.length + 2)
  exact (((((((k1.trans k2).trans k3).trans k4).trans k5).trans k6).trans k7).trans k8).mono (by decide)

theorem stM_gp {f : Nat} {s : ByteArray} {S : Int → Int → MS → MS} {h b : Int} {m : MS} (hs : s.size ≤ 1000) (hS : SMG s f S) (hG : SGp s f S) (hp : pkb s m.p ≠ 0) (hf : s.size - m.p.1 < f + 1) : Gp 0 m (stM f S s h b m) := by
  unfold stM
  split
  · rename_i hc; exact choM_gp hs hS hG hc hf
  split
  · rename_i hc; exact lopM_gp hs hG hc hf
  split
  · exact lepM_gp s m _ b
  split
  · exact lepM_gp s m _ h
  · exact actM_gp hs hp

theorem stmM_gp : ∀ (f : Nat) (s : ByteArray), s.size ≤ 1000 → SGp s f (stmM f s)
  | 0, s, _ => fun h b m _ _ => Gp.refl m
  | f + 1, s, hs => fun h b m hi hf => by
    rw [stmM]
    split
    · rename_i hc
      have hl := pkb_live hc.2
      have g := stM_mg (h := h) (b := b) (stmM_mg f s) hc.2 (hf hl.1)
      have k := stM_gp (h := h) (b := b) hs (stmM_mg f s) (stmM_gp f s hs) hc.2 (hf hl.1)
      have hl2 := hf hl.1
      generalize stM f (stmM f s) s h b m = x at *
      exact (k.trans (stmM_gp f s hs h b x g.1.i (fun hb => by have := g.2 hb; have := g.1.i; omega))).mono (by decide)
    · exact Gp.refl m

def ms0 : MS := { p := (0, false), row := [], marks := [] }

/-- A source, as the maker reads it. -/
def srM (s : ByteArray) : MS := stmM (s.size + 1) s (-1) (-1) ms0

def srE (s : ByteArray) : Int × Int := if (srM s).p.2 = true ∨ (srM s).p.1 ≠ s.size then (2, (srM s).p.1) else (0, 0)

theorem srM_mi (s : ByteArray) : MI s (srM s) := MI.mg (m := ms0) ⟨Nat.zero_le _, Nat.zero_le _, Nat.zero_le _⟩ (stmM_mg (s.size + 1) s (-1) (-1) ms0 (Nat.zero_le _) (fun _ => by show s.size - 0 < _; omega))

theorem srM_good {s : ByteArray} (hs : s.size ≤ 180) (h : (srE s).1 = 0) : (srM s).p = (s.size, false) ∧ nj (srM s).row ≤ 90 ∧ (∀ n ∈ (srM s).row, RN n) ∧ sz (srM s).row ≤ 180 := by
  unfold srE at h
  split at h
  · simp at h
  · rename_i hn
    have h1 : (srM s).p.2 = false := by cases hb : (srM s).p.2; rfl; exact absurd (.inl hb) hn
    have h2 : (srM s).p.1 = s.size := by
      rcases Nat.decEq (srM s).p.1 s.size with h | h
      · exact absurd (.inr h) hn
      · exact h
    have g := stmM_gp (s.size + 1) s (by omega) (-1) (-1) ms0 (Nat.zero_le _) (fun _ => by show s.size - 0 < _; omega) h1
    obtain ⟨_, g2, g3, g4⟩ := g
    have g3' : 2 * (nj (srM s).row : Int) + (0 : Nat) ≤ 2 * (0 : Nat) + (srM s).p.1 + 0 := g3
    have g4' : sz (srM s).row + 0 ≤ 0 + (srM s).p.1 := g4
    exact ⟨by rw [← h1, ← h2], by omega, fun n hn => (g2 n hn).elim (fun e => by cases e) id, by omega⟩
end Go.Proofs.YtellieabhaphhaaGreatDoor

/-
  narrow: the nodes of a source.
-/
namespace Go.Proofs.YtellieabhaphhaaGreatDoor
open Go.RowKit

def SrcP (s : ByteArray) (w : World) (e : Ending) (w' : World) : Prop :=
  ∃ v, e = .returned (.tuple #[v, .int .i64 (srE s).1, .int .i64 (srE s).2]) ∧ Kp no w w' ∧ ((srE s).1 = 0 → NRow w' v (nodM (srM s)) ∧ New w v)

set_option maxHeartbeats 1600000 in
theorem nos_c (s : ByteArray) (w : World) (hs : s.size ≤ 180) :
    Calls Tryz.prog 30 #[.string s] w fun e w' => SrcP s w e w' := by
  have HS := hide (fun W r O (hM : Mp W r s ms0 O) => stm_all (s.size + 1) r s (-1) (-1) ms0 hs (fun _ => by show s.size - 0 < _; omega) ⟨Nat.zero_le _, Nat.zero_le _, Nat.zero_le _⟩ W O hM)
  have HF : Hid (srM s = stmM (s.size + 1) s (-1) (-1) ms0) := rfl
  have hI := srM_mi s
  have n1 := hI.row; have n2 := hI.mm; have n3 := hI.i; have nb := bc_le (srM s).p
  clear hI
  have HE : Hid (srE s = if (srM s).p.2 = true ∨ (srM s).p.1 ≠ s.size then (2, ((srM s).p.1 : Int)) else (0, 0)) := rfl
  go_enter Tryz.func30, Tryz.ntmps30
  go_wp2_with fail
  have h0 : Mp (w.alloc (.cells #[.string s, .int .i64 0, .bool false, .slice none 0 0, .slice none 0 0] 84)) w.heap.size s ms0 (Own w.heap.size (.slice none 0 0) (.slice none 0 0)) :=
    ⟨_, _, Blk.new w [.string s, .int .i64 0, .bool false, .slice none 0 0, .slice none 0 0] _, World.ownsRow_nil _ _ _ _, World.ownsRow_nil _ _ _ _, by simp [Value.ownBlock], by simp [Value.ownBlock], by simp [Value.ownBlock], rfl⟩
  refine (HS.out _ w.heap.size _ h0).mono ?_
  rw [← HF.out]
  rintro e w1 ⟨rfl, O1, h1, t1⟩
  generalize hst : srM s = m at h1 n1 n2 n3 nb HE
  have HST := hide hst
  clear hst
  have hk : Kp no w w1 := ((Kp.refl no w).alloc _).trans t1.1 (fun x hx e => by
    rcases e with e | e | e
    · omega
    · simp [Value.ownBlock] at e
    · simp [Value.ownBlock] at e)
  obtain ⟨c0, c1, c2, cf⟩ := h1.c
  have HMO : Hid (∃ nv iv, Mo w1 w.heap.size s m nv iv) := by
    obtain ⟨nv, iv, hB, hN, hI, d1, d2, d3, _⟩ := h1
    exact ⟨nv, iv, hB, hN, hI⟩
  have HK := hide hk
  have hsz := hk.size
  clear hk t1 h1 h0 HS HF
  cases hb : m.p.2
  · rw [hb] at c2
    by_cases hi : m.p.1 = s.size
    · have e1 : srE s = (0, 0) := by rw [HE.out, if_neg (by rw [hb]; simp [hi])]
      obtain ⟨nv, iv, hMo⟩ := HMO.out
      have HN := hide (mnodes_c w1 hMo (by omega))
      have hi' : ((m.p.1 : Int) != (s.size : Int)) = false := by simp [hi]
      have E1 := hide e1
      clear hMo e1 HE hb hi
      generalize m.p.1 = pi at *
      go_wp2_with fail
      refine HN.out.mono ?_
      rintro e w2 ⟨u, rfl, hu, ho, k2⟩
      have HU := hide hu
      have HO := hide ho
      obtain ⟨ua, uc, rfl⟩ := hu.shape
      clear hu ho
      go_wp2
      go_ret3
      exact ⟨_, by rw [E1.out]; rfl, HK.out.trans k2 (fun _ _ e => e), fun _ => ⟨by rw [HST.out]; exact HU.out, fun b hb => by have := HO.out b hb; omega⟩⟩
    · have e1 : srE s = (2, (m.p.1 : Int)) := by rw [HE.out, if_pos (.inr hi)]
      have hi' : ((m.p.1 : Int) != (s.size : Int)) = true := by simp; omega
      have E1 := hide e1
      clear e1 HE hb hi HMO
      generalize m.p.1 = pi at *
      go_wp2
      go_quiet (fail)
      go_wp2
      go_ret3
      exact ⟨_, by rw [E1.out]; rfl, HK.out.drewN _, fun h => absurd h (by rw [E1.out]; show ¬ (2 : Int) = 0; decide)⟩
  · rw [hb] at c2
    have e1 : srE s = (2, (m.p.1 : Int)) := by rw [HE.out, if_pos (.inl hb)]
    have E1 := hide e1
    clear e1 HE hb HMO
    generalize m.p.1 = pi at *
    go_wp2
    go_quiet (fail)
    go_wp2
    go_ret3
    exact ⟨_, by rw [E1.out]; rfl, HK.out.drewN _, fun h => absurd h (by rw [E1.out]; show ¬ (2 : Int) = 0; decide)⟩
end Go.Proofs.YtellieabhaphhaaGreatDoor

/-
  Walk: narrow's and the answer's, at every text.
-/
namespace Go.Proofs.YtellieabhaphhaaGreatDoor
open Go.RowKit

set_option maxHeartbeats 800000 in
theorem nwithin_c (inp : ByteArray) (fuel : Int) (w : World) (hm : inp.size ≤ maxLen) :
    Calls Tryz.prog 56 #[.string inp, .int .i64 fuel] w fun e w' => e = .returned (.bool (decide (inp.size ≤ 40 ∧ 0 ≤ fuel ∧ fuel ≤ 300))) ∧ w' = w := by
  unfold maxLen at hm
  by_cases h1 : inp.size ≤ 40
  · by_cases h2 : 0 ≤ fuel
    · by_cases h3 : fuel ≤ 300
      · rw [decide_eq_true ⟨h1, h2, h3⟩]
        go_enter Tryz.func56, Tryz.ntmps56
        go_wp2
        go_ret
        exact ⟨rfl, rfl⟩
      · rw [decide_eq_false (fun e => h3 e.2.2)]
        have d3 : decide (fuel ≤ 300) = false := by simp; omega
        clear h3
        go_enter Tryz.func56, Tryz.ntmps56
        go_wp2
        go_ret
        exact ⟨rfl, rfl⟩
    · rw [decide_eq_false (fun e => h2 e.2.1)]
      have d3 : decide (0 ≤ fuel) = false := by simp; omega
      clear h2
      go_enter Tryz.func56, Tryz.ntmps56
      go_wp2
      go_ret
      exact ⟨rfl, rfl⟩
  · rw [decide_eq_false (fun e => h1 e.1)]
    have d3 : decide ((inp.size : Int) ≤ 40) = false := by simp; omega
    go_enter Tryz.func56, Tryz.ntmps56
    go_wp2
    go_ret
    exact ⟨rfl, rfl⟩

end Go.Proofs.YtellieabhaphhaaGreatDoor

/-
  A graph's text: what the answer writes.
-/
namespace Go.Proofs.YtellieabhaphhaaGreatDoor
open Go.RowKit

theorem ba_nil (a : ByteArray) : a ++ (⟨#[]⟩ : ByteArray) = a := ByteArray.append_empty

end Go.Proofs.YtellieabhaphhaaGreatDoor

/-
  A graph's text: what narrow writes.
-/
namespace Go.Proofs.YtellieabhaphhaaGreatDoor
open Go.RowKit

/-- A line. -/
def lnTx (n : NN) : ByteArray := n.tx ++ (if n.act = 11 then ⟨#[]⟩ else ⟨#[44]⟩ ++ twoB n.yes.toNat) ++ (if n.act = 12 ∨ n.act = 13 then ⟨#[44]⟩ ++ twoB n.no.toNat else ⟨#[]⟩) ++ ⟨#[59]⟩

/-- A node that can be written. -/
structure Ln (n : NN) : Prop where
  tx : n.tx.size ≤ 1000
  yes : n.act ≠ 11 → 0 ≤ n.yes ∧ n.yes < 100
  no : n.act = 12 ∨ n.act = 13 → 0 ≤ n.no ∧ n.no < 100

theorem lnTx_size {n : NN} (h : Ln n) : (lnTx n).size ≤ 1007 := by
  have h1 := h.tx
  have h2 : ∀ k, (twoB k).size = 2 := twoB_size
  unfold lnTx
  rw [ByteArray.size_append, ByteArray.size_append, ByteArray.size_append, show (ByteArray.mk #[59]).size = 1 from rfl]
  have h3 : (if n.act = 11 then (⟨#[]⟩ : ByteArray) else ⟨#[44]⟩ ++ twoB n.yes.toNat).size ≤ 3 := by
    split
    · decide
    · rw [ByteArray.size_append, h2]; decide
  have h4 : (if n.act = 12 ∨ n.act = 13 then (⟨#[44]⟩ : ByteArray) ++ twoB n.no.toNat else ⟨#[]⟩).size ≤ 3 := by
    split
    · rw [ByteArray.size_append, h2]; decide
    · decide
  omega

set_option maxRecDepth 100000 in
set_option maxHeartbeats 1600000 in
theorem lineText_c (n : NN) (w : World) (h : Ln n) :
    Calls Tryz.prog 55 #[.agg #[.string n.tx, .int .i64 n.act, .int .i64 n.x, .int .i64 n.y, .int .i64 n.w, .int .i64 n.ck, .int .i64 n.cn, .int .i64 n.ch, .int .i64 n.kd, .int .i64 n.yes, .int .i64 n.no]] w fun e w' => e = .returned (.string (lnTx n)) ∧ Kp no w w' := by
  have HT := hide (fun W => nisTest_c n.act W)
  have htx := h.tx
  have e59 : (ByteArray.mk #[59]).size = 1 := rfl
  have e44 : (ByteArray.mk #[44]).size = 1 := rfl
  by_cases h11 : n.act = 11
  · have HE := hide (show lnTx n = n.tx ++ ⟨#[59]⟩ by rw [lnTx, if_pos h11, if_neg (by omega), ba_nil, ba_nil])
    rw [HE.out]
    obtain ⟨tx, act, nx, ny, nw, ck, cn, ch, kd, yes, nno⟩ := n
    dsimp only at *
    subst h11
    clear h HE
    go_enter Tryz.func55, Tryz.ntmps55
    go_wp2_with (go_at_call 99; refine (HT.out _).mono ?_; rintro e w' ⟨rfl, rfl⟩)
    go_ret
    exact ⟨rfl, by (repeat' (first | with_reducible exact Kp.refl _ _ | with_reducible refine Kp.alloc ?_ _ | with_reducible refine Kp.drewN ?_ _ | with_reducible refine Kp.drew ?_ | with_reducible refine Kp.setCell ?_ _ ?_ | (intro hh; first | rfl | exact .inl rfl | exact .inr rfl | (exfalso; (try dsimp only at hh); omega))))⟩
  · obtain ⟨y1, y2⟩ := h.yes h11
    obtain ⟨yn, hyn⟩ := Int.eq_ofNat_of_zero_le y1
    by_cases ht : n.act = 12 ∨ n.act = 13
    · obtain ⟨o1, o2⟩ := h.no ht
      obtain ⟨on, hon⟩ := Int.eq_ofNat_of_zero_le o1
      have HE := hide (show lnTx n = n.tx ++ (⟨#[44]⟩ ++ twoB yn) ++ (⟨#[44]⟩ ++ twoB on) ++ ⟨#[59]⟩ by rw [lnTx, if_neg h11, if_pos ht, hyn, hon, Int.toNat_natCast, Int.toNat_natCast])
      rw [HE.out]
      rw [decide_eq_true ht] at HT
      have HY := hide (fun W => ntwo_c yn W (by omega))
      have HO := hide (fun W => ntwo_c on W (by omega))
      have s1 := twoB_size yn
      have s2 := twoB_size on
      have g11 : (n.act == 11) = false := by simpa using h11
      have g11' : (n.act != 11) = true := by simpa using h11
      obtain ⟨tx, act, nx, ny, nw, ck, cn, ch, kd, yes, nno⟩ := n
      dsimp only at *
      subst hyn hon
      clear h HE ht h11
      generalize twoB yn = ty at *
      generalize twoB on = tn at *
      go_enter Tryz.func55, Tryz.ntmps55
      go_wp2_with fail
      refine (HY.out _).mono ?_
      rintro e w1 ⟨rfl, k1⟩
      have hN1 : Blk w1 w.heap.size [.string tx, .int .i64 act, .int .i64 nx, .int .i64 ny, .int .i64 nw, .int .i64 ck, .int .i64 cn, .int .i64 ch, .int .i64 kd, .int .i64 yn, .int .i64 on] 91 := k1.blk (by (repeat' (first | ((with_reducible show (_ : List Value) = _); rfl) | ((with_reducible refine Blk.newAt _ _ _ ?_); first | with_reducible rfl | (simp; done)) | with_reducible refine Blk.alloc ?_ _ | with_reducible refine Blk.drewN ?_ _ | with_reducible refine Blk.drew ?_ | ((with_reducible refine Blk.other ?_ _ ?_); rotate_left; ((try dsimp only); omega)) | with_reducible refine Blk.setB (cs0 := ?_) ?_ ?_))) no_elim
      have HK1 := hide (show Kp no w w1 from Kp.trans (by (repeat' (first | with_reducible exact Kp.refl _ _ | with_reducible refine Kp.alloc ?_ _ | with_reducible refine Kp.drewN ?_ _ | with_reducible refine Kp.drew ?_ | with_reducible refine Kp.setCell ?_ _ ?_ | (intro hh; first | rfl | exact .inl rfl | exact .inr rfl | (exfalso; (try dsimp only at hh); omega))))) k1 (fun _ _ e => e))
      obtain ⟨n0, n1, n2, n3, n4, n5, n6, n7, n8, n9, n10, nf⟩ := hN1.c11; have hnl := hN1.lt
      clear k1
      go_wp2_with fail
      refine (HT.out _).mono ?_
      rintro e w' ⟨rfl, rfl⟩
      go_wp2_with fail
      refine (HO.out _).mono ?_
      rintro e w2 ⟨rfl, k2⟩
      go_wp2
      go_ret
      exact ⟨rfl, HK1.out.trans k2 (fun _ _ e => e)⟩
    · have HE := hide (show lnTx n = n.tx ++ (⟨#[44]⟩ ++ twoB yn) ++ ⟨#[59]⟩ by rw [lnTx, if_neg h11, if_neg ht, hyn, Int.toNat_natCast, ba_nil])
      rw [HE.out]
      rw [decide_eq_false ht] at HT
      have HY := hide (fun W => ntwo_c yn W (by omega))
      have s1 := twoB_size yn
      have g11 : (n.act == 11) = false := by simpa using h11
      have g11' : (n.act != 11) = true := by simpa using h11
      obtain ⟨tx, act, nx, ny, nw, ck, cn, ch, kd, yes, nno⟩ := n
      dsimp only at *
      subst hyn
      clear h HE ht h11
      generalize twoB yn = ty at *
      go_enter Tryz.func55, Tryz.ntmps55
      go_wp2_with fail
      refine (HY.out _).mono ?_
      rintro e w1 ⟨rfl, k1⟩
      have hN1 : Blk w1 w.heap.size [.string tx, .int .i64 act, .int .i64 nx, .int .i64 ny, .int .i64 nw, .int .i64 ck, .int .i64 cn, .int .i64 ch, .int .i64 kd, .int .i64 yn, .int .i64 nno] 91 := k1.blk (by (repeat' (first | ((with_reducible show (_ : List Value) = _); rfl) | ((with_reducible refine Blk.newAt _ _ _ ?_); first | with_reducible rfl | (simp; done)) | with_reducible refine Blk.alloc ?_ _ | with_reducible refine Blk.drewN ?_ _ | with_reducible refine Blk.drew ?_ | ((with_reducible refine Blk.other ?_ _ ?_); rotate_left; ((try dsimp only); omega)) | with_reducible refine Blk.setB (cs0 := ?_) ?_ ?_))) no_elim
      have HK1 := hide (show Kp no w w1 from Kp.trans (by (repeat' (first | with_reducible exact Kp.refl _ _ | with_reducible refine Kp.alloc ?_ _ | with_reducible refine Kp.drewN ?_ _ | with_reducible refine Kp.drew ?_ | with_reducible refine Kp.setCell ?_ _ ?_ | (intro hh; first | rfl | exact .inl rfl | exact .inr rfl | (exfalso; (try dsimp only at hh); omega))))) k1 (fun _ _ e => e))
      obtain ⟨n0, n1, n2, n3, n4, n5, n6, n7, n8, n9, n10, nf⟩ := hN1.c11; have hnl := hN1.lt
      clear k1
      go_wp2_with fail
      refine (HT.out _).mono ?_
      rintro e w' ⟨rfl, rfl⟩
      go_wp2
      go_ret
      exact ⟨rfl, HK1.out⟩

def graT (L : List NN) : ByteArray := L.foldl (fun a n => a ++ lnTx n) ⟨#[]⟩

theorem graT_take (L : List NN) (j : Nat) (n : NN) (h : L[j]? = some n) : graT (L.take (j + 1)) = graT (L.take j) ++ lnTx n := by
  obtain ⟨hj, rfl⟩ := List.getElem?_eq_some_iff.1 h
  rw [List.take_succ_eq_append_getElem hj]
  unfold graT
  rw [List.foldl_append]
  rfl

theorem graT_size {L : List NN} (h : ∀ n ∈ L, Ln n) : (graT L).size ≤ 1007 * L.length := by
  have key : ∀ (L : List NN) (a : ByteArray), (∀ n ∈ L, Ln n) → (L.foldl (fun a n => a ++ lnTx n) a).size ≤ a.size + 1007 * L.length := by
    intro L
    induction L with
    | nil => intro a _; simp
    | cons n L ih =>
      intro a h
      have h1 := ih (a ++ lnTx n) (fun z hz => h z (List.mem_cons_of_mem _ hz))
      have h2 := lnTx_size (h n (List.mem_cons_self ..))
      rw [ByteArray.size_append] at h1
      rw [List.foldl_cons, List.length_cons]
      omega
  have := key L ⟨#[]⟩ h
  rw [show (ByteArray.mk #[]).size = 0 from rfl, Nat.zero_add] at this
  exact this

set_option maxRecDepth 100000 in
set_option maxHeartbeats 1600000 in
theorem graphText_c (v : Value) (L : List NN) (w : World) (h : NRow w v L) (hl : L.length ≤ 100) (hL : ∀ n ∈ L, Ln n) :
    Calls Tryz.prog 31 #[v] w fun e w' => e = .returned (.string (graT L)) ∧ Kp no w w' := by
  obtain ⟨a, cap, rfl⟩ := h.shape
  have HD := hide h
  clear h
  go_enter Tryz.func31, Tryz.ntmps31
  go_wp2
  go_loopg [3, 9] L.length (fun k tv iv wr => ∃ j : Nat, j ≤ L.length ∧ k = L.length - j ∧ iv = .int .i64 j ∧ tv = .string (graT (L.take j)) ∧ Kp no w wr)
  case atStart => exact ⟨0, Nat.zero_le _, rfl, rfl, rfl, Kp.refl _ _⟩
  case round =>
    obtain ⟨j, hj, hk, rfl, rfl, kr⟩ := hrel
    have HKK := hide hk
    have HKR := hide kr
    clear hk kr
    by_cases hlt : j < L.length
    · obtain ⟨nd, hnd⟩ : ∃ nd, L[j]? = some nd := ⟨_, List.getElem?_eq_getElem hlt⟩
      have HLN := hide (hL nd (List.mem_of_getElem? hnd))
      obtain ⟨_, gn, ha, hgn, n0, n1, n2, n3, n4, n5, n6, n7, n8, n9, n10⟩ := NRow.at (HKR.out.row HD.out (fun _ _ => no_elim)) hnd
      subst ha
      have HT := hide (graT_take L j nd hnd)
      have hsz : (graT (L.take j)).size ≤ 100700 := Nat.le_trans (graT_size (fun n hn => hL n (List.mem_of_mem_take hn))) (by rw [List.length_take]; omega)
      have hs2 := lnTx_size HLN.out
      have HC := hide (fun W => lineText_c nd W HLN.out)
      have hjI : (j : Int) < L.length := by omega
      generalize graT (L.take j) = acc at *
      generalize lnTx nd = ln at *
      clear hnd
      obtain ⟨tx, act, nx, ny, nw, ck, cn, ch, kd, yes, nno⟩ := nd
      dsimp only at *
      go_wp2_with fail
      refine (HC.out _).mono ?_
      rintro e w5 ⟨rfl, k5⟩
      go_wp2
      go_roundg (L.length - (j + 1))
      case measure => have := HKK.out; omega
      case rel => exact ⟨j + 1, by omega, rfl, by go_num, by rw [HT.out], (HKR.out.alloc _).trans k5 (fun _ _ e => e)⟩
    · obtain rfl : j = L.length := by omega
      rw [List.take_length]
      go_wp2
      go_ret
      exact ⟨rfl, HKR.out⟩
end Go.Proofs.YtellieabhaphhaaGreatDoor

/-
  narrow.Run, narrow.Graph.
-/
namespace Go.Proofs.YtellieabhaphhaaGreatDoor
open Go.RowKit

theorem nj_take (row : List NN) (j : Nat) : nj (row.take (j + 1)) = nj (row.take j) + (match row[j]? with | some n => if n.act ≠ 15 then 1 else 0 | none => 0) := by
  unfold nj
  rw [List.take_add_one, List.countP_append]
  cases row[j]? with
  | none => rfl
  | some n =>
    show _ + List.countP _ [n] = _ + _
    rw [List.countP_cons, List.countP_nil, Nat.zero_add]
    by_cases h : n.act = 15 <;> simp [h]

theorem ahdA_nj (row : List NN) (p : Nat) : ∀ j, ahdA row p j ≤ nj (row.take j)
  | 0 => Nat.zero_le _
  | j + 1 => by
    have := ahdA_nj row p j
    rw [ahdA, nj_take]
    cases row[j]? with
    | none => exact this
    | some n =>
      dsimp only
      by_cases h : n.act = 15
      · rw [if_neg (fun e => e.2 h), if_neg (fun e => e h)]; exact this
      · rw [if_pos h]
        split <;> omega

theorem nbhM_le (m : MS) (k : Int) : nbhM m k ≤ nj m.row := by
  have := ahdA_nj m.row (hopM m m.row.length (plcM m k)) m.row.length
  rw [List.take_length] at this
  exact this

theorem nodA_nj (m : MS) : ∀ j, (nodA m j).length = nj (m.row.take j)
  | 0 => rfl
  | j + 1 => by
    have := nodA_nj m j
    rw [nodA, nj_take, List.length_append, this]
    cases m.row[j]? with
    | none => rfl
    | some n =>
      dsimp only
      by_cases h : n.act = 15
      · rw [if_pos h, if_neg (fun e => e h)]; rfl
      · rw [if_neg h, if_pos h]; rfl

theorem nodM_nj (m : MS) : (nodM m).length = nj m.row := by
  have := nodA_nj m m.row.length
  rw [List.take_length] at this
  exact this

theorem nodA_mem (m : MS) : ∀ j n, n ∈ nodA m j → ∃ n0 ∈ m.row, n0.act ≠ 15 ∧ n = n0.setW (nbhM m n0.yes) (nbhM m n0.no)
  | 0, n, h => by cases h
  | j + 1, n, h => by
    rw [nodA] at h
    rcases List.mem_append.1 h with h | h
    · exact nodA_mem m j n h
    · cases hj : m.row[j]? with
      | none => rw [hj] at h; cases h
      | some n0 =>
        rw [hj] at h
        dsimp only at h
        by_cases ha : n0.act = 15
        · rw [if_pos ha] at h; cases h
        · rw [if_neg ha] at h
          obtain rfl : n = _ := by simpa using h
          exact ⟨n0, List.mem_of_getElem? hj, ha, rfl⟩

/-- A node as the maker leaves it. -/
def SN (n : NN) : Prop := ∃ nd tx y z, n = encN nd tx y z ∧ Gn nd ∧ tx.size ≤ 1000 ∧ (0 ≤ y ∧ y ≤ 90) ∧ (0 ≤ z ∧ z ≤ 90) ∧ TxP nd tx

theorem src_nodes {s : ByteArray} (hs : s.size ≤ 180) (h : (srE s).1 = 0) : (∀ n ∈ nodM (srM s), SN n) ∧ (nodM (srM s)).length ≤ 90 := by
  obtain ⟨_, g2, g3, _⟩ := srM_good hs h
  refine ⟨fun n hn => ?_, by rw [nodM_nj]; exact g2⟩
  obtain ⟨n0, h1, h2, rfl⟩ := nodA_mem (srM s) _ n hn
  rcases g3 n0 h1 with h3 | ⟨_, nd, tx, y, z, rfl, hg, ht, hp⟩
  · exact absurd h3 h2
  · have b1 := nbhM_le (srM s) (encN nd tx y z).yes
    have b2 := nbhM_le (srM s) (encN nd tx y z).no
    exact ⟨nd, tx, _, _, encW nd tx y z _ _, hg, ht, ⟨Int.natCast_nonneg _, by omega⟩, ⟨Int.natCast_nonneg _, by omega⟩, hp⟩

set_option maxRecDepth 100000 in
set_option maxHeartbeats 1600000 in
theorem nrun_good (s inp : ByteArray) (fuel : Nat) (w : World) (hm : inp.size ≤ 40) (h : fuel ≤ 300) (hs : s.size ≤ 180) (hb : (srE s).1 = 0) (ht : Tab w) (nds : List Nd) (hq : NEq (nodM (srM s)) nds) (hl : nds.length ≤ 100) (F : Nat) (mc' : Mc) (hE : wkF F nds inp (mc0 fuel) 0 = some mc') :
    Calls Tryz.prog 32 #[.string s, .string inp, .int .i64 fuel] w fun e w' => e = .returned (.tuple #[.string mc'.tr, .string mc'.out, .int .i64 (endE mc'.e)]) ∧ Kp no w w' := by
  have hm2 : inp.size ≤ maxLen := by unfold maxLen; omega
  have HG := hide (nwithin_c inp fuel w hm2)
  rw [decide_eq_true (by omega)] at HG
  have HS := hide (nos_c s w hs)
  unfold SrcP at HS
  rw [hb] at HS
  have HE := hide hE
  have HQ := hide hq
  clear hb hE hq
  go_enter Tryz.func32, Tryz.ntmps32
  go_wp2_with fail
  refine HG.out.mono ?_
  rintro e w1 ⟨rfl, rfl⟩
  go_wp2_with fail
  refine HS.out.mono ?_
  rintro e w2 ⟨v, rfl, k2, hpost⟩
  obtain ⟨hR, hO⟩ := hpost trivial
  have HW := hide (nwalk_c v _ _ inp fuel w2 hR HQ.out hl hm h (ht.kp k2 no_elim) F mc' HE.out)
  clear hO hpost HE HS HG HQ
  generalize nodM (srM s) = L at *
  obtain ⟨a, cap, rfl⟩ := hR.shape
  clear hR
  go_wp2_with fail
  refine HW.out.mono ?_
  rintro e w3 ⟨rfl, k3⟩
  go_wp2
  go_ret3
  exact ⟨rfl, k2.trans k3 (fun _ _ e => e)⟩

def gr3 (t : ByteArray) (e p : Int) : Ending := .returned (.tuple #[.string t, .int .i64 e, .int .i64 p])

theorem SN.ln {n : NN} (h : SN n) : Ln n := by
  obtain ⟨nd, tx, y, z, rfl, _, ht, hy, hz, _⟩ := h
  exact ⟨ht, fun _ => by show 0 ≤ y ∧ y < 100; omega, fun _ => by show 0 ≤ z ∧ z < 100; omega⟩

set_option maxHeartbeats 1600000 in
theorem ngraph_good (s : ByteArray) (w : World) (hs : s.size ≤ 180) (hb : (srE s).1 = 0) :
    Calls Tryz.prog 16 #[.string s] w fun e w' => e = gr3 (graT (nodM (srM s))) 0 0 ∧ Kp no w w' := by
  have HS := hide (nos_c s w hs)
  obtain ⟨hsn, hlen⟩ := src_nodes hs hb
  unfold SrcP at HS
  rw [hb] at HS
  have HGT := hide (fun u W hW => graphText_c u (nodM (srM s)) W hW (by omega) (fun n hn => (hsn n hn).ln))
  clear hb hsn
  generalize nodM (srM s) = L at *
  go_enter Tryz.func16, Tryz.ntmps16
  go_wp2_with fail
  refine HS.out.mono ?_
  rintro e w2 ⟨v, rfl, k2, hpost⟩
  obtain ⟨hR, hO⟩ := hpost trivial
  have HR := hide hR
  obtain ⟨a, cap, rfl⟩ := hR.shape
  clear hO hpost HS hR
  go_wp2_with fail
  refine (HGT.out _ _ (by exact HR.out)).mono ?_
  rintro e w5 ⟨rfl, k5⟩
  go_wp2
  go_ret3
  exact ⟨rfl, k2.trans k5 (fun _ _ e => e)⟩
end Go.Proofs.YtellieabhaphhaaGreatDoor

/-
  narrowref's Prune: numbers anew.
-/
namespace Go.Proofs.YtellieabhaphhaaGreatDoor
open Go.RowKit

/-- How many of the first i lines have a state. -/
def cntF (T : Tbl) (i : Nat) : Nat := (T.take i).countP (fun s => decide (s ≠ []))

theorem cnt_succ (T : Tbl) (j : Nat) (h : j < T.length) : cntF T (j + 1) = cntF T j + (if T.getD j [] = [] then 0 else 1) := by
  unfold cntF
  rw [List.take_succ_eq_append_getElem h, List.countP_append, List.getD_eq_getElem?_getD, List.getElem?_eq_getElem h, Option.getD_some, List.countP_cons, List.countP_nil]
  by_cases e : T[j] = [] <;> simp [e]

theorem cnt_le (T : Tbl) (i : Nat) : cntF T i ≤ T.length := by
  unfold cntF
  refine Nat.le_trans List.countP_le_length ?_
  rw [List.length_take]
  exact Nat.min_le_right _ _

theorem cnt_top (T : Tbl) {i : Nat} (h : T.length ≤ i) : cntF T i = cntF T T.length := by
  unfold cntF
  rw [List.take_of_length_le h, List.take_length]

end Go.Proofs.YtellieabhaphhaaGreatDoor

/-
  narrow's Prune: numbers anew, nodes that idle.
-/
namespace Go.Proofs.YtellieabhaphhaaGreatDoor
open Go.RowKit

set_option maxRecDepth 100000 in
set_option maxHeartbeats 1600000 in
theorem statesAhead_c (tb : Nat) (T : Tbl) (i : Nat) (w : World) (h : Blk w tb (tCells T) 102) (hT : TOk T) (hl : T.length ≤ 90) :
    Calls Tryz.prog 105 #[.slice (some ⟨tb, 0, none⟩) T.length T.length, .int .i64 i] w fun e w' => e = .returned (.int .i64 (cntF T i)) ∧ Kp no w w' := by
  have HB := hide h
  have HCL := hide (cnt_le T)
  have HCT := hide (fun i (h : T.length ≤ i) => cnt_top T h)
  clear h
  go_enter Tryz.func105, Tryz.ntmps105
  go_wp2
  go_loopg [5, 10] T.length (fun k nv kv wr => ∃ j : Nat, j ≤ T.length ∧ k = T.length - j ∧ kv = .int .i64 j ∧ nv = .int .i64 (cntF T (min j i)) ∧ Kp no w wr)
  case atStart => exact ⟨0, Nat.zero_le _, rfl, rfl, by rw [Nat.zero_min]; rfl, Kp.refl _ _⟩
  case round =>
    obtain ⟨j, hj, hk, rfl, rfl, kr⟩ := hrel
    have HKK := hide hk
    have HKR := hide kr
    clear hk kr
    by_cases hlt : j < T.length
    · have HCS := hide (cnt_succ T j hlt)
      have hb2 := HCL.out (min j i)
      have hSO := hT.get j
      obtain ⟨m0, m1, m2, m3, m4, m5, hm⟩ := z6_six (encZ_z6 hSO)
      have hbr := HKR.out.blk HB.out no_elim
      obtain ⟨c0, c1, c2, c3, c4, c5⟩ := tb_at hbr hlt hm
      have hbl := hbr.lt
      have HZ6 := hide (show Z6 [m0, m1, m2, m3, m4, m5] from hm ▸ encZ_z6 hSO)
      have HEX := hide (exS_enc hSO)
      rw [hm] at HEX
      have HX := hide (fun b W hW => exists_c b [m0, m1, m2, m3, m4, m5] W hW HZ6.out)
      rw [HEX.out] at HX
      have hjI : (j : Int) < T.length := by omega
      clear hbr hSO hm HEX
      generalize T.getD j [] = S at *
      by_cases hji : j < i
      · have hjiI : (j : Int) < (i : Int) := by omega
        by_cases hS0 : S = []
        · rw [decide_eq_false (fun e => e hS0)] at HX
          have HM := hide (show cntF T (min (j + 1) i) = cntF T (min j i) by rw [Nat.min_eq_left (by omega), Nat.min_eq_left (by omega), HCS.out, if_pos hS0, Nat.add_zero])
          clear hS0
          go_wp2_with (go_at_call 103; refine (HX.out _ _ (by (show Blk _ _ [.int .i64 m0, .int .i64 m1, .int .i64 m2, .int .i64 m3, .int .i64 m4, .int .i64 m5] _); (repeat' (first | ((with_reducible show (_ : List Value) = _); rfl) | ((with_reducible refine Blk.newAt _ _ _ ?_); first | with_reducible rfl | (simp; done)) | with_reducible refine Blk.alloc ?_ _ | with_reducible refine Blk.drewN ?_ _ | with_reducible refine Blk.drew ?_ | ((with_reducible refine Blk.other ?_ _ ?_); rotate_left; ((try dsimp only); omega)) | with_reducible refine Blk.setB (cs0 := ?_) ?_ ?_)))).mono ?_; rintro e w' ⟨rfl, rfl⟩)
          go_roundg (T.length - (j + 1))
          case measure => have := HKK.out; omega
          case rel => exact ⟨j + 1, by omega, rfl, by go_num, by rw [HM.out], HKR.out.alloc _⟩
        · rw [decide_eq_true hS0] at HX
          have HM := hide (show cntF T (min (j + 1) i) = cntF T (min j i) + 1 by rw [Nat.min_eq_left (by omega), Nat.min_eq_left (by omega), HCS.out, if_neg hS0])
          clear hS0
          go_wp2_with (go_at_call 103; refine (HX.out _ _ (by (show Blk _ _ [.int .i64 m0, .int .i64 m1, .int .i64 m2, .int .i64 m3, .int .i64 m4, .int .i64 m5] _); (repeat' (first | ((with_reducible show (_ : List Value) = _); rfl) | ((with_reducible refine Blk.newAt _ _ _ ?_); first | with_reducible rfl | (simp; done)) | with_reducible refine Blk.alloc ?_ _ | with_reducible refine Blk.drewN ?_ _ | with_reducible refine Blk.drew ?_ | ((with_reducible refine Blk.other ?_ _ ?_); rotate_left; ((try dsimp only); omega)) | with_reducible refine Blk.setB (cs0 := ?_) ?_ ?_)))).mono ?_; rintro e w' ⟨rfl, rfl⟩)
          go_roundg (T.length - (j + 1))
          case measure => have := HKK.out; omega
          case rel => exact ⟨j + 1, by omega, rfl, by go_num, by rw [HM.out]; push_cast; rfl, HKR.out.alloc _⟩
      · have hjiI : decide ((j : Int) < (i : Int)) = false := by simp; omega
        have hjiN : decide (j < i) = false := by simp; omega
        have HM := hide (show cntF T (min (j + 1) i) = cntF T (min j i) by rw [Nat.min_eq_right (by omega), Nat.min_eq_right (by omega)])
        clear hji
        go_wp2
        go_roundg (T.length - (j + 1))
        case measure => have := HKK.out; omega
        case rel => exact ⟨j + 1, by omega, rfl, by go_num, by rw [HM.out], HKR.out.alloc _⟩
    · obtain rfl : j = T.length := by omega
      have HM := hide (show cntF T (min T.length i) = cntF T i by
        rcases Nat.lt_or_ge i T.length with h1 | h1
        · rw [Nat.min_eq_right (by omega)]
        · rw [Nat.min_eq_left h1, HCT.out i h1])
      go_wp2
      go_ret
      rw [← HM.out]
      exact ⟨rfl, HKR.out⟩

/-- A node that only goes on. -/
def idlN (k : Int) : NN := ⟨⟨#[42]⟩, 14, 0, 0, 0, 0, 0, 0, 0, k, k⟩

set_option maxRecDepth 100000 in
set_option maxHeartbeats 1600000 in
theorem idleNode_c (k : Int) (w : World) :
    Calls Tryz.prog 148 #[.int .i64 k] w fun e w' => e = .returned (.agg (idlN k).cells.toArray) ∧ Kp no w w' := by
  go_enter Tryz.func148, Tryz.ntmps148
  go_wp2
  refine body_agg (Tb := 91) (b := w.heap.size) (cs := (idlN k).cells) (.inr rfl) Tryz.results148 rfl rfl (by (show Blk _ _ [.string ⟨#[42]⟩, .int .i64 14, .int .i64 0, .int .i64 0, .int .i64 0, .int .i64 0, .int .i64 0, .int .i64 0, .int .i64 0, .int .i64 k, .int .i64 k] _); (repeat' (first | ((with_reducible show (_ : List Value) = _); rfl) | ((with_reducible refine Blk.newAt _ _ _ ?_); first | with_reducible rfl | (simp; done)) | with_reducible refine Blk.alloc ?_ _ | with_reducible refine Blk.drewN ?_ _ | with_reducible refine Blk.drew ?_ | ((with_reducible refine Blk.other ?_ _ ?_); rotate_left; ((try dsimp only); omega)) | with_reducible refine Blk.setB (cs0 := ?_) ?_ ?_))) Tryz.underlying91 rfl (by kernel_rfl) ?_
  exact ⟨rfl, by (repeat' (first | with_reducible exact Kp.refl _ _ | with_reducible refine Kp.alloc ?_ _ | with_reducible refine Kp.drewN ?_ _ | with_reducible refine Kp.drew ?_ | with_reducible refine Kp.setCell ?_ _ ?_ | (intro hh; first | rfl | exact .inl rfl | exact .inr rfl | (exfalso; (try dsimp only at hh); omega))))⟩
end Go.Proofs.YtellieabhaphhaaGreatDoor
