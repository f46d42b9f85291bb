import Derived.Test.YtellieabhaphhaaGreatDoorPLongerF
/-
  narrow's run: a walk.
-/
namespace Go.Proofs.YtellieabhaphhaaGreatDoor
open Go.RowKit

/-- A whole struct into the block that was made last. -/
theorem wp_store_new {P : Program} {op : Oper} {a : Act} {K : Act → World → Prop} {Q : Exit → Act → World → Prop} (w0 : World) (ty : TypeId) (x y : Operand) (c c' : Array Value) (ho : op.op = .store ty x y)
    (hx : a.eval x = .pointer (some ⟨w0.heap.size, 0, none⟩)) (hy : a.eval y = .agg c') (hi : (P.info? ty).map (·.size) = some c'.size) (hs : c.size = c'.size) (h1 : c'.all (·.oneCell') = true)
    (h : K (a.put op.dst undef) (w0.alloc (.cells c' ty))) : op.wp P a (w0.alloc (.cells c ty)) K Q := by
  unfold Oper.wp execOp
  simp only [ho, hx, hy, Sem.run_bind, run_storeAt_new w0 ty c c' hi hs h1, Result.andThen_ok, Sem.run_pure]
  exact h

theorem wpList_store_new {P : Program} {ops : Array Oper} {rest : List Oper} {op : Oper} {a : Act} {Q : Exit → Act → World → Prop} (hgd : op.guard = none) (w0 : World) (ty : TypeId) (x y : Operand) (c c' : Array Value) (ho : op.op = .store ty x y)
    (hx : a.eval x = .pointer (some ⟨w0.heap.size, 0, none⟩)) (hy : a.eval y = .agg c') (hi : (P.info? ty).map (·.size) = some c'.size) (hs : c.size = c'.size) (h1 : c'.all (·.oneCell') = true)
    (h : wpList P ops Q rest (a.put op.dst undef) (w0.alloc (.cells c' ty))) : wpList P ops Q (op :: rest) a (w0.alloc (.cells c ty)) :=
  wpList_plain hgd fun _ hK => wp_store_new w0 ty x y c c' ho hx hy hi hs h1 (hK _ _ h)

theorem wpList_build_at {P : Program} {ops : Array Oper} {rest : List Oper} {o : Oper} {a : Act} {w : World} {Q : Exit → Act → World → Prop} (hg : o.guard = none) (t : TypeId) (parts : Array (Nat × Operand)) (ho : o.op = .build t parts)
    (vals : List (Nat × Value)) (hv : (parts.map fun (i, x) => (i, a.eval x)).toList = vals) (cells : Array Value) (hb : P.built t vals = some cells)
    (h : wpList P ops Q rest (a.put o.dst (.agg cells)) w) : wpList P ops Q (o :: rest) a w :=
  wpList_build hg t parts ho (by rw [hv, hb]; rfl) (by rw [hv, hb]; exact h)

theorem built_run (inp : ByteArray) : Tryz.prog.built 142 [(1, .string inp)] = some #[.int .i64 0, .int .i64 0, .int .i64 0, .int .i64 0, .int .i64 0, .int .i64 0, .int .i64 0, .int .i64 0, .int .i64 0, .int .i64 0, .int .i64 0, .int .i64 0, .int .i64 0, .int .i64 0, .int .i64 0, .int .i64 0, .int .i64 0, .int .i64 0, .string inp, .int .i64 0, .string ⟨#[]⟩, .string ⟨#[]⟩] := by kernel_rfl

theorem wpList_runs {P : Program} {ops : Array Oper} {rest : List Oper} {o : Oper} {a : Act} {w : World} {Q : Exit → Act → World → Prop} (hg : o.guard = none) (v : Value) (w' : World)
    (hrun : (execOp a.eval o).run P w = .ok (.value v) w') (h : wpList P ops Q rest (a.put o.dst v) w') : wpList P ops Q (o :: rest) a w :=
  wpList_plain hg fun _ hK => by
    unfold Oper.wp
    rw [hrun]
    exact hK _ _ h

theorem info_run : (Tryz.prog.info? 142).map (fun i => (i.zero, i.size)) = some (some (.agg #[.int .i64 0, .int .i64 0, .int .i64 0, .int .i64 0, .int .i64 0, .int .i64 0, .int .i64 0, .int .i64 0, .int .i64 0, .int .i64 0, .int .i64 0, .int .i64 0, .int .i64 0, .int .i64 0, .int .i64 0, .int .i64 0, .int .i64 0, .int .i64 0, .string ⟨#[]⟩, .int .i64 0, .string ⟨#[]⟩, .string ⟨#[]⟩]), 22) := by kernel_rfl

theorem alloc_run (w : World) (ρ : Operand → Value) (o : Oper) (ho : o.op = .alloc 142) : (execOp ρ o).run Tryz.prog w = .ok (.value (.pointer (some ⟨w.heap.size, 0, none⟩))) (w.alloc (.cells #[.int .i64 0, .int .i64 0, .int .i64 0, .int .i64 0, .int .i64 0, .int .i64 0, .int .i64 0, .int .i64 0, .int .i64 0, .int .i64 0, .int .i64 0, .int .i64 0, .int .i64 0, .int .i64 0, .int .i64 0, .int .i64 0, .int .i64 0, .int .i64 0, .string ⟨#[]⟩, .int .i64 0, .string ⟨#[]⟩, .string ⟨#[]⟩] 142)) := by
  have hz := (zero_of_info info_run).1
  unfold execOp
  simp only [ho, Instr.alloc, Sem.run_bind, hz, Result.andThen_ok]
  rfl

theorem ntest_c {w : World} {r : Nat} {inp : ByteArray} {m : Mc} {nd : Nd} {x y v : Nat} {xu yu vu : Vl} (tx : ByteArray) (yes no : Int) (p : StPre w r inp m nd x y v xu yu vu) (ht : nd.op = 121 ∨ nd.op = 58) :
    Calls Tryz.prog 101 #[.pointer (some ⟨r, 0, none⟩), .agg (encN nd tx yes no).cells.toArray] w fun e w' =>
      e = .returned (.int .i64 0) ∧ NB w' r inp m ∧ Kp (· = r) w w' := by
  obtain ⟨nb, g, hinp, hx, hy, hv, gx, gy, gv, vw, hout, htab, he⟩ := p
  have vy := vw yu (List.mem_of_getElem? gy)
  have by1 := bits_in nd.op yu.k g.op vy.k
  rw [inK_all vy.k (by omega) (by omega) (by omega) (by omega) (by omega)] at by1
  obtain ⟨op, nx, ny, nv, k, t, f, a, l⟩ := nd
  dsimp only at *
  subst hx hy hv
  rcases ht with rfl | rfl
  · exact nstep_12 tx 0 0 0 0 yes no x y y yu yu nb gy gy by1 by1
  · exact nstep_13 tx 0 0 0 (bit k) yes no x y y yu yu nb gy gy by1 by1

theorem bit_eq {k l : Int} (h : KOk k) (h' : KOk l) : (bit k == bit l) = (k == l) := by
  unfold KOk at h h'
  rcases h with rfl | rfl | rfl | rfl | rfl | rfl | rfl <;> rcases h' with rfl | rfl | rfl | rfl | rfl | rfl | rfl <;> decide

theorem nwayOf_t {w : World} {r : Nat} {inp : ByteArray} {m : Mc} {nd : Nd} {y : Nat} {yu : Vl} (tx : ByteArray) (yes nno : Int) (nb : NB w r inp m) (g : Gn nd) (hy : nd.y = y) (gy : m.l[y]? = some yu) (vy : VW yu) (ht : nd.op = 121 ∨ nd.op = 58) :
    Calls Tryz.prog 102 #[.pointer (some ⟨r, 0, none⟩), .agg (encN nd tx yes nno).cells.toArray] w fun e w' =>
      e = .returned (.int .i64 (if holdF nd yu then yes else nno)) ∧ Kp no w w' := by
  have gkd := g.kd
  obtain ⟨op, nx, ny, nv, k, t, f, a, l⟩ := nd
  dsimp only at *
  subst hy
  rcases ht with rfl | rfl
  · refine nway_of tx 12 nx y 0 0 0 0 yes nno y yu nb gy _ ?_
    rw [if_pos rfl]
    show _ = (if (121 : Int) = 58 then _ else _)
    rw [if_neg (by decide)]
    have h1 := vy.k
    unfold KOk at h1
    rcases h1 with e | e | e | e | e | e | e <;> rw [e] <;> rfl
  · refine nway_of tx 13 nx y 0 0 0 (bit k) yes nno y yu nb gy _ ?_
    rw [if_neg (by decide), if_pos rfl]
    show _ = (if (58 : Int) = 58 then _ else _)
    rw [if_pos rfl]
    exact bit_eq vy.k (gkd (.inl rfl))

theorem nwayOf_n {w : World} {r : Nat} {inp : ByteArray} {m : Mc} {nd : Nd} {y : Nat} {yu : Vl} (tx : ByteArray) (yes nno : Int) (nb : NB w r inp m) (hy : nd.y = y) (gy : m.l[y]? = some yu) (ht : ¬ (nd.op = 121 ∨ nd.op = 58)) :
    Calls Tryz.prog 102 #[.pointer (some ⟨r, 0, none⟩), .agg (encN nd tx yes nno).cells.toArray] w fun e w' =>
      e = .returned (.int .i64 yes) ∧ Kp no w w' := by
  have ha := actN_t nd.op
  obtain ⟨op, nx, ny, nv, k, t, f, a, l⟩ := nd
  dsimp only at *
  subst hy
  refine nway_of tx (actN op) nx _ _ _ _ _ yes nno y yu nb gy true ?_
  rw [if_neg (fun e => ht (ha.1 (.inl e))), if_neg (fun e => ht (ha.1 (.inr e)))]

/-- narrow's nodes are the answer's. -/
def NEq (L : List NN) (nds : List Nd) : Prop :=
  L.length = nds.length ∧ ∀ (i : Nat) (nd : Nd), nds[i]? = some nd → Gn nd ∧ ∃ tx yes nno, L[i]? = some (encN nd tx yes nno) ∧ (nd.op ≠ 33 → yes = nd.t ∧ -1 ≤ nd.t ∧ nd.t ≤ 1000) ∧ (nd.op = 121 ∨ nd.op = 58 → nno = nd.f ∧ -1 ≤ nd.f ∧ nd.f ≤ 1000)

theorem NB.trC {w : World} {r : Nat} {inp : ByteArray} {m : Mc} (h : NB w r inp m) : w.cell? ⟨r, 20, none⟩ = some (.string m.tr) := by
  obtain ⟨hb, h6⟩ := h
  obtain ⟨l, rd, left, tr, outp, me⟩ := m
  dsimp only at *
  obtain ⟨a, b, c, d, e, f, rfl⟩ := six_of h6
  exact hb.cell 20

theorem doF_e {inp : ByteArray} {n : Nd} {x : Nat} {xu yu vu : Vl} {m : Mc} (h : m.e = 8) : (doF inp n x xu yu vu m).e = 8 ∧ n.op ≠ 33 ∨ (doF inp n x xu yu vu m).e = 5 ∨ (doF inp n x xu yu vu m).e = 6 ∨ (doF inp n x xu yu vu m).e = 7 := by
  unfold doF
  repeat' split
  · exact .inr (.inr (.inl rfl))
  · exact .inr (.inl rfl)
  · exact .inr (.inl rfl)
  all_goals first | exact .inr (.inr (.inr rfl)) | exact .inl ⟨h, by assumption⟩ | exact .inl ⟨(worF_l inp n yu vu m).2.trans h, by assumption⟩

theorem nextF_left (inp : ByteArray) (m : Mc) : (nextF inp m).2.left = m.left := by unfold nextF; split <;> rfl
theorem worF_left (inp : ByteArray) (n : Nd) (y v : Vl) (m : Mc) : (worF inp n y v m).2.left = m.left := by
  unfold worF
  repeat' split
  · exact nextF_left inp m
  all_goals rfl
theorem doF_left {inp : ByteArray} {n : Nd} {x : Nat} {xu yu vu : Vl} {m : Mc} : (doF inp n x xu yu vu m).left = m.left := by
  unfold doF
  repeat' split
  all_goals first | rfl | exact worF_left inp n yu vu m

theorem NB.kp {w w' : World} {S : Nat → Prop} {r : Nat} {inp : ByteArray} {m : Mc} (h : NB w r inp m) (k : Kp S w w') (hn : ¬ S r) : NB w' r inp m := ⟨k.blk h.b hn, h.six⟩

theorem wkF_end {k : Nat} {nds : List Nd} {inp : ByteArray} {m mc' : Mc} {a : Int} (h : wkF k nds inp m a = some mc') (he : m.e ≠ 8) : mc' = m := by
  cases k with
  | zero => simp [wkF] at h
  | succ k =>
    rw [wkF, if_neg (fun e => he e.2)] at h
    simpa using h.symm

theorem NEq.of {s : ByteArray} {nds : List Nd} (h : ∀ n ∈ nds, Gd s n) : NEq (nds.map (encX s)) nds := by
  refine ⟨by simp, fun i nd hi => ?_⟩
  have hg := h nd (List.mem_of_getElem? hi)
  have tf := hg.tf
  refine ⟨hg.g, _, _, _, by rw [List.getElem?_map, hi]; rfl, fun h3 => ⟨by rw [yesN, if_neg h3], tf.1⟩, fun ht => ⟨by rw [noN, if_pos ht], tf.2⟩⟩

set_option maxRecDepth 100000 in
set_option maxHeartbeats 6400000 in
theorem nwalk_c (v : Value) (L : List NN) (nds : List Nd) (inp : ByteArray) (fuel : Nat) (w : World) (hR : NRow w v L) (hq : NEq L nds) (hl : nds.length ≤ 100) (hinp : inp.size ≤ 40) (hf : fuel ≤ 300) (ht : Tab w) (F : Nat) (mc' : Mc) (hE : wkF F nds inp (mc0 fuel) 0 = some mc') :
    Calls Tryz.prog 57 #[v, .string inp, .int .i64 fuel] w fun e w' => e = .returned (.tuple #[.string mc'.tr, .string mc'.out, .int .i64 (endE mc'.e)]) ∧ Kp no w w' := by
  have htl := ht.lt
  have HE := hide hE
  have HQ := hide hq
  obtain ⟨a, cap, rfl⟩ := hR.shape
  have hll : L.length ≤ 100 := by rw [hq.1]; exact hl
  clear hE hq
  go_enter Tryz.func57, Tryz.ntmps57
  go_wp2_with (first
    | (refine wpList_build_at rfl 142 #[(1, .tmp 15)] rfl [(1, .string inp)] (by simp [Act.eval]) _ (built_run inp) ?_)
    | (refine wpList_runs rfl _ _ (alloc_run _ _ _ rfl) ?_)
    | (refine wpList_store_new rfl w 142 (.tmp 9) (.tmp 16) #[.int .i64 0, .int .i64 0, .int .i64 0, .int .i64 0, .int .i64 0, .int .i64 0, .int .i64 0, .int .i64 0, .int .i64 0, .int .i64 0, .int .i64 0, .int .i64 0, .int .i64 0, .int .i64 0, .int .i64 0, .int .i64 0, .int .i64 0, .int .i64 0, .string ⟨#[]⟩, .int .i64 0, .string ⟨#[]⟩, .string ⟨#[]⟩] #[.int .i64 0, .int .i64 0, .int .i64 0, .int .i64 0, .int .i64 0, .int .i64 0, .int .i64 0, .int .i64 0, .int .i64 0, .int .i64 0, .int .i64 0, .int .i64 0, .int .i64 0, .int .i64 0, .int .i64 0, .int .i64 0, .int .i64 0, .int .i64 0, .string inp, .int .i64 0, .string ⟨#[]⟩, .string ⟨#[]⟩] rfl (by simp [Act.eval, Act.put]) (by simp [Act.eval, Act.put]) (zero_of_info info_run).2 rfl (all_oneCell_toArray (by simp [Value.oneCell'])) ?_))
  go_loopg [17] 6 (fun k i wr => ∃ j : Nat, j ≤ 6 ∧ k = 6 - j ∧ i = .int .i64 j ∧ Blk wr w.heap.size (nvCells (lj j) ++ [.string inp, .int .i64 0, .string ⟨#[]⟩, .string ⟨#[]⟩]) 142 ∧ Kp no w wr)
  case atStart => exact ⟨0, by decide, rfl, rfl, Blk.new w _ _, (Kp.refl no w).alloc _⟩
  case round =>
    obtain ⟨j, hj, hk, rfl, hb, kr⟩ := hrel
    have HK := hide hk
    have HKR := hide kr
    clear hk kr
    have hbl := hb.lt
    rcases (show j = 6 ∨ j = 0 ∨ j = 1 ∨ j = 2 ∨ j = 3 ∨ j = 4 ∨ j = 5 by omega) with rfl | rfl | rfl | rfl | rfl | rfl | rfl
    · have HB := hide hb
      clear hb
      have HM := hide (show NB wr w.heap.size inp (mc0 fuel) from ⟨HB.out, rfl⟩)
      go_wp2
      go_loopg [11, 12] F (fun k av sv wx => ∃ (at1 : Int) (m1 : Mc) (st : Nat), av = .int .i64 at1 ∧ sv = .int .i64 st ∧ -1 ≤ at1 ∧ at1 ≤ 1000 ∧ NB wx w.heap.size inp m1 ∧ MOk m1 ∧ m1.e = 8 ∧ (∀ u ∈ m1.l, VW u) ∧ st + m1.left = fuel ∧ Kp no w wx ∧ wkF k nds inp m1 at1 = some mc')
      case atStart => exact ⟨0, mc0 fuel, 0, rfl, rfl, by decide, by decide, HM.out, mc0_ok fuel hf, rfl, fun u hu => by
        have : u = zv := by
          simp only [mc0, lj, Nat.sub_self, List.replicate_zero, List.append_nil] at hu
          exact List.eq_of_mem_replicate hu
        rw [this]; exact VW.plain (by decide), Nat.zero_add _, HKR.out, HE.out⟩
      case round =>
        clear HK hbl HB HM HKR HE
        obtain ⟨at1, m1, st, rfl, rfl, ha1, ha2, hnb, hok, he8, hvw, hst, kr, hE⟩ := hrel
        have HKR := hide kr
        have HNB := hide hnb
        have HOK := hide hok
        have HVW := hide hvw
        have hT := (ht.kp kr no_elim)
        have HT := hide hT
        have hbl := hnb.b.lt
        have tc := hnb.trC
        have oc := hnb.outC
        have bf := hnb.b.frozen
        have HRW := hide (kr.row hR (fun _ _ => no_elim))
        clear kr hnb hok hvw hT
        have hne : w.heap.size ≠ 0 := by omega
        cases gk with
        | zero => simp [wkF] at hE
        | succ k =>
          rw [wkF] at hE
          by_cases hgo : at1 < nds.length ∧ m1.e = 8
          case neg =>
            rw [if_neg hgo] at hE
            simp only [Option.some.injEq] at hE
            have HE := hide hE
            have hlt : ¬ at1 < L.length := fun e => hgo ⟨by rw [← HQ.out.1]; exact e, he8⟩
            have HE8 := hide he8
            clear hE hgo he8
            have d1 : decide (0 ≤ at1) = true := by simp; omega
            go_wp2
            go_quiet (fail)
            go_wp2
            go_ret3
            rw [← HE.out, HE8.out]
            exact ⟨rfl, HKR.out.drewN _⟩
          case pos =>
            rw [if_pos hgo] at hE
            split at hE
            case isFalse => simp at hE
            rename_i ha
            obtain ⟨at1, rfl⟩ := Int.eq_ofNat_of_zero_le ha.1
            rw [Int.toNat_natCast] at hE
            have hlt : at1 < L.length := by rw [HQ.out.1]; omega
            have ha100 : at1 < 100 := by omega
            clear ha ha1 ha2 hgo
            cases hnd : nds[at1]? with
            | none => rw [hnd] at hE; simp at hE
            | some nd =>
              rw [hnd] at hE
              dsimp only at hE
              obtain ⟨hgn, tx0, yes0, nno0, hLi, hyes, hno⟩ := HQ.out.2 at1 nd hnd
              obtain ⟨_, g, rfl, hg, q0, q1, q2, q3, q4, q5, q6, q7, q8, q9, q10⟩ := NRow.at HRW.out hLi
              split at hE
              case h_2 => simp at hE
              rename_i xu yu vu hxu hyu hvu
              by_cases hl0 : m1.left = 0
              · have es : startF m1 at1 = ({ m1 with e := 4 }, false) := by rw [startF, if_pos hl0]
                rw [es] at hE
                simp only [Bool.false_eq_true, if_false] at hE
                have hend := wkF_end hE (by show (4 : Int) ≠ 8; decide)
                have HE := hide hend
                clear hE hend es hLi hyes hno q0 q1 q2 q3 q4 q5 q6 q7 q8 q9 q10
                have hst2 : (fuel : Int) ≤ st := by omega
                clear hst he8
                go_wp2
                go_quiet (fail)
                go_wp2
                go_ret3
                rw [HE.out]
                exact ⟨rfl, HKR.out.drewN _⟩
              · have es : startF m1 at1 = ({ m1 with left := m1.left - 1, tr := m1.tr ++ toldB at1 m1.l ++ sp }, true) := by rw [startF, if_neg hl0]
                have hso := startF_ok at1 HOK.out
                rw [es] at hE hso
                simp only [if_true] at hE
                have hTL := hide (fun W (hW : NB W w.heap.size inp m1) => ntell_c at1 ha100 hW (by have := HOK.out.tr; omega) HVW.out)
                have hM0 : Hid (∀ W, NB W w.heap.size inp { m1 with tr := m1.tr ++ toldB at1 m1.l ++ sp } → NB W w.heap.size inp { m1 with left := m1.left - 1, tr := m1.tr ++ toldB at1 m1.l ++ sp }) := hide (fun W h => ⟨h.b, h.six⟩)
                have he80 : ({ m1 with left := m1.left - 1, tr := m1.tr ++ toldB at1 m1.l ++ sp } : Mc).e = 8 := he8
                have hl0' : ({ m1 with left := m1.left - 1, tr := m1.tr ++ toldB at1 m1.l ++ sp } : Mc).l = m1.l := rfl
                have hle0 : ({ m1 with left := m1.left - 1, tr := m1.tr ++ toldB at1 m1.l ++ sp } : Mc).left + 1 = m1.left := by show m1.left - 1 + 1 = m1.left; omega
                generalize ({ m1 with tr := m1.tr ++ toldB at1 m1.l ++ sp } : Mc) = mt at *
                generalize ({ m1 with left := m1.left - 1, tr := m1.tr ++ toldB at1 m1.l ++ sp } : Mc) = m0 at *
                dsimp only at hso
                have hPre := hide (fun W (hW : NB W w.heap.size inp m0) (hTW : Tab W) => (show StPre W w.heap.size inp m0 nd nd.x.toNat nd.y.toNat nd.v.toNat xu yu vu from
                  ⟨hW, hgn, hinp, by have := hgn.x; omega, by have := hgn.y; omega, by have := hgn.v; omega, by rw [hl0']; exact hxu, by rw [hl0']; exact hyu, by rw [hl0']; exact hvu, by rw [hl0']; exact HVW.out, by have := hso.2.1 rfl; omega, hTW, he80⟩))
                have vy := HVW.out yu (List.mem_of_getElem? hyu)
                have hst1 : (st : Int) < fuel := by omega
                have HE80 := hide he80
                by_cases htst : nd.op = 121 ∨ nd.op = 58
                · rw [if_pos htst] at hE
                  have HE := hide hE
                  have HS := hide (fun W (hW : NB W w.heap.size inp m0) (hTW : Tab W) => ntest_c tx0 yes0 nno0 (hPre.out W hW hTW) htst)
                  have HWY := hide (fun W (hW : NB W w.heap.size inp m0) => nwayOf_t tx0 yes0 nno0 hW hgn (show nd.y = (nd.y.toNat : Nat) by have := hgn.y; omega) (by rw [hl0']; exact hyu) vy htst)
                  obtain ⟨hy1, hy2, hy3⟩ := hyes (by omega)
                  obtain ⟨hn1, hn2, hn3⟩ := hno htst
                  have HAT := hide (show (if holdF nd yu then yes0 else nno0) = (if holdF nd yu then nd.t else nd.f) by rw [hy1, hn1])
                  have HBD := hide (show -1 ≤ (if holdF nd yu then nd.t else nd.f) ∧ (if holdF nd yu then nd.t else nd.f) ≤ 1000 by split <;> omega)
                  rw [HAT.out] at HWY
                  generalize (if holdF nd yu = true then nd.t else nd.f) = an at *
                  clear hE hyes hno hy1 hy2 hy3 hn1 hn2 hn3 htst HAT
                  generalize hnn : encN nd tx0 yes0 nno0 = n at *
                  have HNN := hide hnn
                  clear hnn
                  obtain ⟨tx, act, nx, ny, nw, ck, cn, ch, kd, yes, nno⟩ := n
                  unfold NN.cells at HS HWY
                  dsimp only at HS HWY q0 q1 q2 q3 q4 q5 q6 q7 q8 q9 q10
                  clear es hLi he80 hxu hvu hPre
                  have HL0 := hide hl0'
                  have HLE := hide hle0
                  have HST := hide hst
                  have HSO := hide hso
                  clear hl0' hle0 hst hso hgn he8 hl0 hyu vy
                  go_wp2_with fail
                  refine (hTL.out _ ⟨Blk.alloc HNB.out.b _, HNB.out.six⟩).mono ?_
                  rintro e w2 ⟨rfl, h2, k2⟩
                  have h2' := hM0.out _ h2
                  have hN2 : Blk w2 wr.heap.size [.string tx, .int .i64 act, .int .i64 nx, .int .i64 ny, .int .i64 nw, .int .i64 ck, .int .i64 cn, .int .i64 ch, .int .i64 kd, .int .i64 yes, .int .i64 nno] 91 := k2.blk (by (repeat' (first | ((with_reducible show (_ : List Value) = _); rfl) | ((with_reducible refine Blk.newAt _ _ _ ?_); first | with_reducible rfl | (simp; done)) | with_reducible refine Blk.alloc ?_ _ | with_reducible refine Blk.drewN ?_ _ | with_reducible refine Blk.drew ?_ | ((with_reducible refine Blk.other ?_ _ ?_); rotate_left; ((try dsimp only); omega)) | with_reducible refine Blk.setB (cs0 := ?_) ?_ ?_))) (by omega)
                  obtain ⟨d0, d1, d2, d3, d4, d5, d6, d7, d8, d9, d10, df⟩ := hN2.c11
                  have hz2 := hN2.lt
                  have hT2 : Tab w2 := (HT.out.kp ((Kp.refl no wr).alloc _) no_elim).kp k2 (fun e => hne e.symm)
                  have K2 : Kp no w w2 := (HKR.out.alloc _).trans k2 (fun x hx e => by omega)
                  have HK2 := hide K2
                  clear K2 q0 q1 q2 q3 q4 q5 q6 q7 q8 q9 q10 tc oc bf
                  go_wp2_with fail
                  refine (HS.out _ h2' hT2).mono ?_
                  rintro e w3 ⟨rfl, h3, k3⟩
                  have hN3 : Blk w3 wr.heap.size [.string tx, .int .i64 act, .int .i64 nx, .int .i64 ny, .int .i64 nw, .int .i64 ck, .int .i64 cn, .int .i64 ch, .int .i64 kd, .int .i64 yes, .int .i64 nno] 91 := k3.blk hN2 (by omega)
                  obtain ⟨e0, e1, e2, e3, e4, e5, e6, e7, e8, e9, e10, ef⟩ := hN3.c11
                  have hz3 := hN3.lt
                  have K3 : Kp no w w3 := HK2.out.trans k3 (fun x hx e => by omega)
                  have HK3 := hide K3
                  clear K3 d0 d1 d2 d3 d4 d5 d6 d7 d8 d9 d10 df
                  go_wp2_with fail
                  refine (HWY.out _ h3).mono ?_
                  rintro e w4 ⟨rfl, k4⟩
                  go_wp2
                  go_roundg k
                  case measure => omega
                  case rel => exact ⟨an, m0, st + 1, rfl, by go_num, HBD.out.1, HBD.out.2, h3.kp k4 no_elim, HSO.out.1, HE80.out, by rw [HL0.out]; exact HVW.out, by have := HLE.out; have := HST.out; omega, HK3.out.trans k4 (fun _ _ e => e), HE.out⟩
                · rw [if_neg htst] at hE
                  have HS := hide (fun W (hW : NB W w.heap.size inp m0) (hTW : Tab W) => nstep_c tx0 yes0 nno0 (hPre.out W hW hTW) htst)
                  have hde := doF_e (inp := inp) (n := nd) (x := nd.x.toNat) (xu := xu) (yu := yu) (vu := vu) he80
                  have hdv := doF_vw (inp := inp) (n := nd) (x := nd.x.toNat) (xu := xu) (yu := yu) (vu := vu) (m := m0) hgn (by rw [hl0']; exact HVW.out) vy (HVW.out vu (List.mem_of_getElem? hvu))
                  have hdo : MOk (doF inp nd nd.x.toNat xu yu vu m0) := doF_ok hgn.k (HOK.out.v yu (List.mem_of_getElem? hyu)) (HOK.out.v vu (List.mem_of_getElem? hvu)) hso.1 (hso.2.1 rfl)
                  have hdl : (doF inp nd nd.x.toNat xu yu vu m0).left = m0.left := doF_left
                  generalize doF inp nd nd.x.toNat xu yu vu m0 = md at *
                  by_cases h8 : md.e = 8
                  · have h33 : nd.op ≠ 33 := by
                      rcases hde with h | h | h | h
                      · exact h.2
                      · omega
                      · omega
                      · omega
                    obtain ⟨hy1, hy2, hy3⟩ := hyes h33
                    obtain ⟨yu2, hyu2⟩ : ∃ yu2, md.l[nd.y.toNat]? = some yu2 := ⟨_, List.getElem?_eq_getElem (by have := hdo.six; have := hgn.y; omega)⟩
                    have HWY := hide (fun W (hW : NB W w.heap.size inp md) => (nwayOf_n tx0 yes0 nno0 hW (show nd.y = (nd.y.toNat : Nat) by have := hgn.y; omega) hyu2 htst).mono (R' := fun e w' => e = .returned (.int .i64 nd.t) ∧ Kp no W w') (fun e w' h => ⟨h.1.trans (by rw [hy1]), h.2⟩))
                    have HE := hide hE
                    have hBD : -1 ≤ nd.t ∧ nd.t ≤ 1000 := ⟨hy2, hy3⟩
                    have HBD := hide hBD
                    rw [h8] at HS
                    rw [show endE 8 = 0 from rfl] at HS
                    have HH8 := hide h8
                    generalize nd.t = an at *
                    have HDV := hide hdv
                    have HDO := hide hdo
                    have HDL := hide hdl
                    clear hE hyes hno hy1 hy2 hy3 htst hde hyu2 hBD h8 hdv hdo hdl
                    generalize hnn : encN nd tx0 yes0 nno0 = n at *
                    have HNN := hide hnn
                    clear hnn
                    obtain ⟨tx, act, nx, ny, nw, ck, cn, ch, kd, yes, nno⟩ := n
                    unfold NN.cells at HS HWY
                    dsimp only at HS HWY q0 q1 q2 q3 q4 q5 q6 q7 q8 q9 q10
                    clear es hLi he80 hxu hvu hPre
                    have HL0 := hide hl0'
                    have HLE := hide hle0
                    have HST := hide hst
                    have HSO := hide hso
                    clear hl0' hle0 hst hso hgn he8 hl0 hyu vy
                    go_wp2_with fail
                    refine (hTL.out _ ⟨Blk.alloc HNB.out.b _, HNB.out.six⟩).mono ?_
                    rintro e w2 ⟨rfl, h2, k2⟩
                    have h2' := hM0.out _ h2
                    have hN2 : Blk w2 wr.heap.size [.string tx, .int .i64 act, .int .i64 nx, .int .i64 ny, .int .i64 nw, .int .i64 ck, .int .i64 cn, .int .i64 ch, .int .i64 kd, .int .i64 yes, .int .i64 nno] 91 := k2.blk (by (repeat' (first | ((with_reducible show (_ : List Value) = _); rfl) | ((with_reducible refine Blk.newAt _ _ _ ?_); first | with_reducible rfl | (simp; done)) | with_reducible refine Blk.alloc ?_ _ | with_reducible refine Blk.drewN ?_ _ | with_reducible refine Blk.drew ?_ | ((with_reducible refine Blk.other ?_ _ ?_); rotate_left; ((try dsimp only); omega)) | with_reducible refine Blk.setB (cs0 := ?_) ?_ ?_))) (by omega)
                    obtain ⟨d0, d1, d2, d3, d4, d5, d6, d7, d8, d9, d10, df⟩ := hN2.c11
                    have hz2 := hN2.lt
                    have hT2 : Tab w2 := (HT.out.kp ((Kp.refl no wr).alloc _) no_elim).kp k2 (fun e => hne e.symm)
                    have K2 : Kp no w w2 := (HKR.out.alloc _).trans k2 (fun x hx e => by omega)
                    have HK2 := hide K2
                    clear K2 q0 q1 q2 q3 q4 q5 q6 q7 q8 q9 q10 tc oc bf
                    go_wp2_with fail
                    refine (HS.out _ h2' hT2).mono ?_
                    rintro e w3 ⟨rfl, h3, k3⟩
                    have hN3 : Blk w3 wr.heap.size [.string tx, .int .i64 act, .int .i64 nx, .int .i64 ny, .int .i64 nw, .int .i64 ck, .int .i64 cn, .int .i64 ch, .int .i64 kd, .int .i64 yes, .int .i64 nno] 91 := k3.blk hN2 (by omega)
                    obtain ⟨e0, e1, e2, e3, e4, e5, e6, e7, e8, e9, e10, ef⟩ := hN3.c11
                    have hz3 := hN3.lt
                    have K3 : Kp no w w3 := HK2.out.trans k3 (fun x hx e => by omega)
                    have HK3 := hide K3
                    clear K3 d0 d1 d2 d3 d4 d5 d6 d7 d8 d9 d10 df
                    go_wp2_with fail
                    refine (HWY.out _ h3).mono ?_
                    rintro e w4 ⟨rfl, k4⟩
                    go_wp2
                    go_roundg k
                    case measure => omega
                    case rel => exact ⟨an, md, st + 1, rfl, by go_num, HBD.out.1, HBD.out.2, h3.kp k4 no_elim, HDO.out, HH8.out, HDV.out, by have := HLE.out; have := HST.out; have := HDL.out; omega, HK3.out.trans k4 (fun _ _ e => e), HE.out⟩
                  · have hend := wkF_end hE h8
                    have HE := hide hend
                    have h567 : md.e = 5 ∨ md.e = 6 ∨ md.e = 7 := by omega
                    have he' : endE md.e = md.e := by rw [endE, if_neg h8]
                    rw [← he'] at h567
                    have hec : (endE md.e == 0) = false := by simp; omega
                    generalize hge : endE md.e = ee at *
                    have HGE := hide hge
                    clear hE hyes hno htst hde hend h8 h567 he' hge hdv hdo hdl
                    generalize hnn : encN nd tx0 yes0 nno0 = n at *
                    have HNN := hide hnn
                    clear hnn
                    obtain ⟨tx, act, nx, ny, nw, ck, cn, ch, kd, yes, nno⟩ := n
                    unfold NN.cells at HS
                    dsimp only at HS q0 q1 q2 q3 q4 q5 q6 q7 q8 q9 q10
                    clear es hLi he80 hxu hvu hPre
                    have HL0 := hide hl0'
                    have HLE := hide hle0
                    have HST := hide hst
                    have HSO := hide hso
                    clear hl0' hle0 hst hso hgn he8 hl0 hyu vy
                    go_wp2_with fail
                    refine (hTL.out _ ⟨Blk.alloc HNB.out.b _, HNB.out.six⟩).mono ?_
                    rintro e w2 ⟨rfl, h2, k2⟩
                    have h2' := hM0.out _ h2
                    have hN2 : Blk w2 wr.heap.size [.string tx, .int .i64 act, .int .i64 nx, .int .i64 ny, .int .i64 nw, .int .i64 ck, .int .i64 cn, .int .i64 ch, .int .i64 kd, .int .i64 yes, .int .i64 nno] 91 := k2.blk (by (repeat' (first | ((with_reducible show (_ : List Value) = _); rfl) | ((with_reducible refine Blk.newAt _ _ _ ?_); first | with_reducible rfl | (simp; done)) | with_reducible refine Blk.alloc ?_ _ | with_reducible refine Blk.drewN ?_ _ | with_reducible refine Blk.drew ?_ | ((with_reducible refine Blk.other ?_ _ ?_); rotate_left; ((try dsimp only); omega)) | with_reducible refine Blk.setB (cs0 := ?_) ?_ ?_))) (by omega)
                    obtain ⟨d0, d1, d2, d3, d4, d5, d6, d7, d8, d9, d10, df⟩ := hN2.c11
                    have hz2 := hN2.lt
                    have hT2 : Tab w2 := (HT.out.kp ((Kp.refl no wr).alloc _) no_elim).kp k2 (fun e => hne e.symm)
                    have K2 : Kp no w w2 := (HKR.out.alloc _).trans k2 (fun x hx e => by omega)
                    have HK2 := hide K2
                    clear K2 q0 q1 q2 q3 q4 q5 q6 q7 q8 q9 q10 tc oc bf
                    go_wp2_with fail
                    refine (HS.out _ h2' hT2).mono ?_
                    rintro e w3 ⟨rfl, h3, k3⟩
                    have hN3 : Blk w3 wr.heap.size [.string tx, .int .i64 act, .int .i64 nx, .int .i64 ny, .int .i64 nw, .int .i64 ck, .int .i64 cn, .int .i64 ch, .int .i64 kd, .int .i64 yes, .int .i64 nno] 91 := k3.blk hN2 (by omega)
                    obtain ⟨e0, e1, e2, e3, e4, e5, e6, e7, e8, e9, e10, ef⟩ := hN3.c11
                    have hz3 := hN3.lt
                    have K3 : Kp no w w3 := HK2.out.trans k3 (fun x hx e => by omega)
                    have HK3 := hide K3
                    clear K3 d0 d1 d2 d3 d4 d5 d6 d7 d8 d9 d10 df
                    have tc := h3.trC
                    have oc := h3.outC
                    have bf := h3.b.frozen
                    go_wp2
                    go_quiet (fail)
                    go_wp2
                    go_ret3
                    rw [HE.out, HGE.out]
                    exact ⟨rfl, HK3.out.drewN _⟩
    · have hb' : Blk wr w.heap.size [.int .i64 0, .int .i64 0, .int .i64 0, .int .i64 0, .int .i64 0, .int .i64 0, .int .i64 0, .int .i64 0, .int .i64 0, .int .i64 0, .int .i64 0, .int .i64 0, .int .i64 0, .int .i64 0, .int .i64 0, .int .i64 0, .int .i64 0, .int .i64 0, .string inp, .int .i64 0, .string ⟨#[]⟩, .string ⟨#[]⟩] 142 := hb
      have z1 := hb'.cell 0
      have z2 := hb'.cell 1
      have z3 := hb'.cell 2
      have zf := hb'.frozen
      simp only [List.getElem?_cons_zero, List.getElem?_cons_succ] at z1 z2 z3
      clear hb
      go_wp2
      go_roundg (6 - 1)
      case measure => have := HK.out; omega
      case rel =>
        have kk := HKR.out
        refine ⟨1, by omega, rfl, by go_num, ?_, by (repeat' (first | with_reducible exact Kp.refl _ _ | with_reducible refine Kp.alloc ?_ _ | with_reducible refine Kp.drewN ?_ _ | with_reducible refine Kp.drew ?_ | with_reducible refine Kp.setCell ?_ _ ?_ | with_reducible refine Kp.trans ?_ kk (fun _ _ e => e) | (intro hh; first | rfl | exact .inl rfl | exact .inr rfl | (exfalso; (try dsimp only at hh); omega))))⟩
        show Blk _ _ [.int .i64 8, .int .i64 0, .int .i64 0, .int .i64 0, .int .i64 0, .int .i64 0, .int .i64 0, .int .i64 0, .int .i64 0, .int .i64 0, .int .i64 0, .int .i64 0, .int .i64 0, .int .i64 0, .int .i64 0, .int .i64 0, .int .i64 0, .int .i64 0, .string inp, .int .i64 0, .string ⟨#[]⟩, .string ⟨#[]⟩] _
        (repeat' (first | ((with_reducible show (_ : List Value) = _); rfl) | with_reducible exact hb' | ((with_reducible refine Blk.newAt _ _ _ ?_); first | with_reducible rfl | (simp; done)) | with_reducible refine Blk.alloc ?_ _ | with_reducible refine Blk.drewN ?_ _ | with_reducible refine Blk.drew ?_ | ((with_reducible refine Blk.other ?_ _ ?_); rotate_left; ((try dsimp only); omega)) | with_reducible refine Blk.setB (cs0 := ?_) ?_ ?_))
    · have hb' : Blk wr w.heap.size [.int .i64 8, .int .i64 0, .int .i64 0, .int .i64 0, .int .i64 0, .int .i64 0, .int .i64 0, .int .i64 0, .int .i64 0, .int .i64 0, .int .i64 0, .int .i64 0, .int .i64 0, .int .i64 0, .int .i64 0, .int .i64 0, .int .i64 0, .int .i64 0, .string inp, .int .i64 0, .string ⟨#[]⟩, .string ⟨#[]⟩] 142 := hb
      have z1 := hb'.cell 3
      have z2 := hb'.cell 4
      have z3 := hb'.cell 5
      have zf := hb'.frozen
      simp only [List.getElem?_cons_zero, List.getElem?_cons_succ] at z1 z2 z3
      clear hb
      go_wp2
      go_roundg (6 - 2)
      case measure => have := HK.out; omega
      case rel =>
        have kk := HKR.out
        refine ⟨2, by omega, rfl, by go_num, ?_, by (repeat' (first | with_reducible exact Kp.refl _ _ | with_reducible refine Kp.alloc ?_ _ | with_reducible refine Kp.drewN ?_ _ | with_reducible refine Kp.drew ?_ | with_reducible refine Kp.setCell ?_ _ ?_ | with_reducible refine Kp.trans ?_ kk (fun _ _ e => e) | (intro hh; first | rfl | exact .inl rfl | exact .inr rfl | (exfalso; (try dsimp only at hh); omega))))⟩
        show Blk _ _ [.int .i64 8, .int .i64 0, .int .i64 0, .int .i64 8, .int .i64 0, .int .i64 0, .int .i64 0, .int .i64 0, .int .i64 0, .int .i64 0, .int .i64 0, .int .i64 0, .int .i64 0, .int .i64 0, .int .i64 0, .int .i64 0, .int .i64 0, .int .i64 0, .string inp, .int .i64 0, .string ⟨#[]⟩, .string ⟨#[]⟩] _
        (repeat' (first | ((with_reducible show (_ : List Value) = _); rfl) | with_reducible exact hb' | ((with_reducible refine Blk.newAt _ _ _ ?_); first | with_reducible rfl | (simp; done)) | with_reducible refine Blk.alloc ?_ _ | with_reducible refine Blk.drewN ?_ _ | with_reducible refine Blk.drew ?_ | ((with_reducible refine Blk.other ?_ _ ?_); rotate_left; ((try dsimp only); omega)) | with_reducible refine Blk.setB (cs0 := ?_) ?_ ?_))
    · have hb' : Blk wr w.heap.size [.int .i64 8, .int .i64 0, .int .i64 0, .int .i64 8, .int .i64 0, .int .i64 0, .int .i64 0, .int .i64 0, .int .i64 0, .int .i64 0, .int .i64 0, .int .i64 0, .int .i64 0, .int .i64 0, .int .i64 0, .int .i64 0, .int .i64 0, .int .i64 0, .string inp, .int .i64 0, .string ⟨#[]⟩, .string ⟨#[]⟩] 142 := hb
      have z1 := hb'.cell 6
      have z2 := hb'.cell 7
      have z3 := hb'.cell 8
      have zf := hb'.frozen
      simp only [List.getElem?_cons_zero, List.getElem?_cons_succ] at z1 z2 z3
      clear hb
      go_wp2
      go_roundg (6 - 3)
      case measure => have := HK.out; omega
      case rel =>
        have kk := HKR.out
        refine ⟨3, by omega, rfl, by go_num, ?_, by (repeat' (first | with_reducible exact Kp.refl _ _ | with_reducible refine Kp.alloc ?_ _ | with_reducible refine Kp.drewN ?_ _ | with_reducible refine Kp.drew ?_ | with_reducible refine Kp.setCell ?_ _ ?_ | with_reducible refine Kp.trans ?_ kk (fun _ _ e => e) | (intro hh; first | rfl | exact .inl rfl | exact .inr rfl | (exfalso; (try dsimp only at hh); omega))))⟩
        show Blk _ _ [.int .i64 8, .int .i64 0, .int .i64 0, .int .i64 8, .int .i64 0, .int .i64 0, .int .i64 8, .int .i64 0, .int .i64 0, .int .i64 0, .int .i64 0, .int .i64 0, .int .i64 0, .int .i64 0, .int .i64 0, .int .i64 0, .int .i64 0, .int .i64 0, .string inp, .int .i64 0, .string ⟨#[]⟩, .string ⟨#[]⟩] _
        (repeat' (first | ((with_reducible show (_ : List Value) = _); rfl) | with_reducible exact hb' | ((with_reducible refine Blk.newAt _ _ _ ?_); first | with_reducible rfl | (simp; done)) | with_reducible refine Blk.alloc ?_ _ | with_reducible refine Blk.drewN ?_ _ | with_reducible refine Blk.drew ?_ | ((with_reducible refine Blk.other ?_ _ ?_); rotate_left; ((try dsimp only); omega)) | with_reducible refine Blk.setB (cs0 := ?_) ?_ ?_))
    · have hb' : Blk wr w.heap.size [.int .i64 8, .int .i64 0, .int .i64 0, .int .i64 8, .int .i64 0, .int .i64 0, .int .i64 8, .int .i64 0, .int .i64 0, .int .i64 0, .int .i64 0, .int .i64 0, .int .i64 0, .int .i64 0, .int .i64 0, .int .i64 0, .int .i64 0, .int .i64 0, .string inp, .int .i64 0, .string ⟨#[]⟩, .string ⟨#[]⟩] 142 := hb
      have z1 := hb'.cell 9
      have z2 := hb'.cell 10
      have z3 := hb'.cell 11
      have zf := hb'.frozen
      simp only [List.getElem?_cons_zero, List.getElem?_cons_succ] at z1 z2 z3
      clear hb
      go_wp2
      go_roundg (6 - 4)
      case measure => have := HK.out; omega
      case rel =>
        have kk := HKR.out
        refine ⟨4, by omega, rfl, by go_num, ?_, by (repeat' (first | with_reducible exact Kp.refl _ _ | with_reducible refine Kp.alloc ?_ _ | with_reducible refine Kp.drewN ?_ _ | with_reducible refine Kp.drew ?_ | with_reducible refine Kp.setCell ?_ _ ?_ | with_reducible refine Kp.trans ?_ kk (fun _ _ e => e) | (intro hh; first | rfl | exact .inl rfl | exact .inr rfl | (exfalso; (try dsimp only at hh); omega))))⟩
        show Blk _ _ [.int .i64 8, .int .i64 0, .int .i64 0, .int .i64 8, .int .i64 0, .int .i64 0, .int .i64 8, .int .i64 0, .int .i64 0, .int .i64 8, .int .i64 0, .int .i64 0, .int .i64 0, .int .i64 0, .int .i64 0, .int .i64 0, .int .i64 0, .int .i64 0, .string inp, .int .i64 0, .string ⟨#[]⟩, .string ⟨#[]⟩] _
        (repeat' (first | ((with_reducible show (_ : List Value) = _); rfl) | with_reducible exact hb' | ((with_reducible refine Blk.newAt _ _ _ ?_); first | with_reducible rfl | (simp; done)) | with_reducible refine Blk.alloc ?_ _ | with_reducible refine Blk.drewN ?_ _ | with_reducible refine Blk.drew ?_ | ((with_reducible refine Blk.other ?_ _ ?_); rotate_left; ((try dsimp only); omega)) | with_reducible refine Blk.setB (cs0 := ?_) ?_ ?_))
    · have hb' : Blk wr w.heap.size [.int .i64 8, .int .i64 0, .int .i64 0, .int .i64 8, .int .i64 0, .int .i64 0, .int .i64 8, .int .i64 0, .int .i64 0, .int .i64 8, .int .i64 0, .int .i64 0, .int .i64 0, .int .i64 0, .int .i64 0, .int .i64 0, .int .i64 0, .int .i64 0, .string inp, .int .i64 0, .string ⟨#[]⟩, .string ⟨#[]⟩] 142 := hb
      have z1 := hb'.cell 12
      have z2 := hb'.cell 13
      have z3 := hb'.cell 14
      have zf := hb'.frozen
      simp only [List.getElem?_cons_zero, List.getElem?_cons_succ] at z1 z2 z3
      clear hb
      go_wp2
      go_roundg (6 - 5)
      case measure => have := HK.out; omega
      case rel =>
        have kk := HKR.out
        refine ⟨5, by omega, rfl, by go_num, ?_, by (repeat' (first | with_reducible exact Kp.refl _ _ | with_reducible refine Kp.alloc ?_ _ | with_reducible refine Kp.drewN ?_ _ | with_reducible refine Kp.drew ?_ | with_reducible refine Kp.setCell ?_ _ ?_ | with_reducible refine Kp.trans ?_ kk (fun _ _ e => e) | (intro hh; first | rfl | exact .inl rfl | exact .inr rfl | (exfalso; (try dsimp only at hh); omega))))⟩
        show Blk _ _ [.int .i64 8, .int .i64 0, .int .i64 0, .int .i64 8, .int .i64 0, .int .i64 0, .int .i64 8, .int .i64 0, .int .i64 0, .int .i64 8, .int .i64 0, .int .i64 0, .int .i64 8, .int .i64 0, .int .i64 0, .int .i64 0, .int .i64 0, .int .i64 0, .string inp, .int .i64 0, .string ⟨#[]⟩, .string ⟨#[]⟩] _
        (repeat' (first | ((with_reducible show (_ : List Value) = _); rfl) | with_reducible exact hb' | ((with_reducible refine Blk.newAt _ _ _ ?_); first | with_reducible rfl | (simp; done)) | with_reducible refine Blk.alloc ?_ _ | with_reducible refine Blk.drewN ?_ _ | with_reducible refine Blk.drew ?_ | ((with_reducible refine Blk.other ?_ _ ?_); rotate_left; ((try dsimp only); omega)) | with_reducible refine Blk.setB (cs0 := ?_) ?_ ?_))
    · have hb' : Blk wr w.heap.size [.int .i64 8, .int .i64 0, .int .i64 0, .int .i64 8, .int .i64 0, .int .i64 0, .int .i64 8, .int .i64 0, .int .i64 0, .int .i64 8, .int .i64 0, .int .i64 0, .int .i64 8, .int .i64 0, .int .i64 0, .int .i64 0, .int .i64 0, .int .i64 0, .string inp, .int .i64 0, .string ⟨#[]⟩, .string ⟨#[]⟩] 142 := hb
      have z1 := hb'.cell 15
      have z2 := hb'.cell 16
      have z3 := hb'.cell 17
      have zf := hb'.frozen
      simp only [List.getElem?_cons_zero, List.getElem?_cons_succ] at z1 z2 z3
      clear hb
      go_wp2
      go_roundg (6 - 6)
      case measure => have := HK.out; omega
      case rel =>
        have kk := HKR.out
        refine ⟨6, by omega, rfl, by go_num, ?_, by (repeat' (first | with_reducible exact Kp.refl _ _ | with_reducible refine Kp.alloc ?_ _ | with_reducible refine Kp.drewN ?_ _ | with_reducible refine Kp.drew ?_ | with_reducible refine Kp.setCell ?_ _ ?_ | with_reducible refine Kp.trans ?_ kk (fun _ _ e => e) | (intro hh; first | rfl | exact .inl rfl | exact .inr rfl | (exfalso; (try dsimp only at hh); omega))))⟩
        show Blk _ _ [.int .i64 8, .int .i64 0, .int .i64 0, .int .i64 8, .int .i64 0, .int .i64 0, .int .i64 8, .int .i64 0, .int .i64 0, .int .i64 8, .int .i64 0, .int .i64 0, .int .i64 8, .int .i64 0, .int .i64 0, .int .i64 8, .int .i64 0, .int .i64 0, .string inp, .int .i64 0, .string ⟨#[]⟩, .string ⟨#[]⟩] _
        (repeat' (first | ((with_reducible show (_ : List Value) = _); rfl) | with_reducible exact hb' | ((with_reducible refine Blk.newAt _ _ _ ?_); first | with_reducible rfl | (simp; done)) | with_reducible refine Blk.alloc ?_ _ | with_reducible refine Blk.drewN ?_ _ | with_reducible refine Blk.drew ?_ | ((with_reducible refine Blk.other ?_ _ ?_); rotate_left; ((try dsimp only); omega)) | with_reducible refine Blk.setB (cs0 := ?_) ?_ ?_))
end Go.Proofs.YtellieabhaphhaaGreatDoor

/-
  Walk: narrow's and the answer's, at every text.
-/
namespace Go.Proofs.YtellieabhaphhaaGreatDoor
open Go.RowKit

set_option maxHeartbeats 800000 in
theorem nwithin_c (inp : ByteArray) (fuel : Int) (w : World) (hm : inp.size ≤ maxLen) :
    Calls Tryz.prog 56 #[.string inp, .int .i64 fuel] w fun e w' => e = .returned (.bool (decide (inp.size ≤ 40 ∧ 0 ≤ fuel ∧ fuel ≤ 300))) ∧ w' = w := by
  unfold maxLen at hm
  by_cases h1 : inp.size ≤ 40
  · by_cases h2 : 0 ≤ fuel
    · by_cases h3 : fuel ≤ 300
      · rw [decide_eq_true ⟨h1, h2, h3⟩]
        go_enter Tryz.func56, Tryz.ntmps56
        go_wp2
        go_ret
        exact ⟨rfl, rfl⟩
      · rw [decide_eq_false (fun e => h3 e.2.2)]
        have d3 : decide (fuel ≤ 300) = false := by simp; omega
        clear h3
        go_enter Tryz.func56, Tryz.ntmps56
        go_wp2
        go_ret
        exact ⟨rfl, rfl⟩
    · rw [decide_eq_false (fun e => h2 e.2.1)]
      have d3 : decide (0 ≤ fuel) = false := by simp; omega
      clear h2
      go_enter Tryz.func56, Tryz.ntmps56
      go_wp2
      go_ret
      exact ⟨rfl, rfl⟩
  · rw [decide_eq_false (fun e => h1 e.1)]
    have d3 : decide ((inp.size : Int) ≤ 40) = false := by simp; omega
    go_enter Tryz.func56, Tryz.ntmps56
    go_wp2
    go_ret
    exact ⟨rfl, rfl⟩

def em3 (c : Int) : Ending := .returned (.tuple #[.string ByteArray.empty, .string ByteArray.empty, .int .i64 c])

set_option maxHeartbeats 1600000 in
theorem nwalk_big (s inp : ByteArray) (fuel : Int) (w : World) (hm : inp.size ≤ maxLen) (hm2 : s.size ≤ maxLen) (h : inp.size ≤ 40 ∧ 0 ≤ fuel ∧ fuel ≤ 300) (hs : 900 < s.size) :
    Calls Tryz.prog 33 #[.string s, .string inp, .int .i64 fuel] w fun e w' => e = em3 1 ∧ Kp no w w' := by
  have HG := hide (nwithin_c inp fuel w hm)
  rw [decide_eq_true h] at HG
  have HS := hide (nog_long s w hm2 hs)
  clear h
  go_enter Tryz.func33, Tryz.ntmps33
  go_wp2_with fail
  refine HG.out.mono ?_
  rintro e w1 ⟨rfl, rfl⟩
  go_wp2_with fail
  refine HS.out.mono ?_
  rintro e w1 ⟨rfl, k1⟩
  go_wp2
  go_ret3
  exact ⟨rfl, k1⟩

set_option maxHeartbeats 1600000 in
theorem nwalk_bad (s inp : ByteArray) (fuel : Int) (w : World) (hm : inp.size ≤ maxLen) (h : inp.size ≤ 40 ∧ 0 ≤ fuel ∧ fuel ≤ 300) (hs : s.size ≤ 900) (hb : (graE s).1 ≠ 0) :
    Calls Tryz.prog 33 #[.string s, .string inp, .int .i64 fuel] w fun e w' => e = em3 (graE s).1 ∧ Kp no w w' := by
  have HG := hide (nwithin_c inp fuel w hm)
  rw [decide_eq_true h] at HG
  have HS := hide (nog_c s w hs)
  have hb' : (((graE s).1 : Int) == 0) = false := by simp; omega
  unfold NogPost at HS
  generalize graE s = ge at *
  obtain ⟨ge1, ge2⟩ := ge
  dsimp only at *
  clear h hb
  go_enter Tryz.func33, Tryz.ntmps33
  go_wp2_with fail
  refine HG.out.mono ?_
  rintro e w1 ⟨rfl, rfl⟩
  go_wp2_with fail
  refine HS.out.mono ?_
  rintro e w1 ⟨v, rfl, k1, _⟩
  go_wp2
  go_ret3
  exact ⟨rfl, k1⟩

set_option maxRecDepth 100000 in
set_option maxHeartbeats 1600000 in
theorem nwalk_good (s inp : ByteArray) (fuel : Nat) (w : World) (hm : inp.size ≤ 40) (h : fuel ≤ 300) (hs : s.size ≤ 900) (hb : (graE s).1 = 0) (ht : Tab w) (F : Nat) (mc' : Mc) (hE : wkF F (graF s).nodes inp (mc0 fuel) 0 = some mc') :
    Calls Tryz.prog 33 #[.string s, .string inp, .int .i64 fuel] w fun e w' => e = .returned (.tuple #[.string mc'.tr, .string mc'.out, .int .i64 (endE mc'.e)]) ∧ Kp no w w' := by
  have hm2 : inp.size ≤ maxLen := by unfold maxLen; omega
  have HG := hide (nwithin_c inp fuel w hm2)
  rw [decide_eq_true (by omega)] at HG
  have HS := hide (nog_c s w hs)
  have hlen := (graF_inv s).2
  unfold NogPost at HS
  rw [hb] at HS
  have HE := hide hE
  clear hb hE
  go_enter Tryz.func33, Tryz.ntmps33
  go_wp2_with fail
  refine HG.out.mono ?_
  rintro e w1 ⟨rfl, rfl⟩
  go_wp2_with fail
  refine HS.out.mono ?_
  rintro e w2 ⟨v, rfl, k2, hpost⟩
  obtain ⟨hR, hO, hgd⟩ := hpost trivial
  have HW := hide (nwalk_c v _ _ inp fuel w2 hR (NEq.of hgd) (by omega) hm h (ht.kp k2 no_elim) F mc' HE.out)
  clear hO hgd hpost HE HS HG
  generalize (graF s).nodes.map (encX s) = L at *
  obtain ⟨a, cap, rfl⟩ := hR.shape
  clear hR hlen
  go_wp2_with fail
  refine HW.out.mono ?_
  rintro e w3 ⟨rfl, k3⟩
  go_wp2
  go_ret3
  exact ⟨rfl, k2.trans k3 (fun _ _ e => e)⟩

theorem doF_six {inp : ByteArray} {n : Nd} {x : Nat} {xu yu vu : Vl} {m : Mc} (h : m.l.length = 6) : (doF inp n x xu yu vu m).l.length = 6 := by
  unfold doF
  repeat' split
  all_goals first | exact h | (show ((worF inp n yu vu m).2.l.set x _).length = 6; rw [List.length_set, (worF_l inp n yu vu m).1]; exact h)

theorem wkF_total (nds : List Nd) (inp : ByteArray) (hl : nds.length ≤ 90) (hg : ∀ n ∈ nds, Gn n ∧ (n.op ≠ 33 → 0 ≤ n.t) ∧ (n.op = 121 ∨ n.op = 58 → 0 ≤ n.f)) :
    ∀ (c : Nat) (m : Mc) (a : Int), m.left = c → m.l.length = 6 → (m.e = 8 → 0 ≤ a) → ∃ mc', wkF (c + 3) nds inp m a = some mc' := by
  intro c
  induction c with
  | zero =>
    intro m a hc h6 ha
    by_cases hgo : a < nds.length ∧ m.e = 8
    · obtain ⟨at1, rfl⟩ := Int.eq_ofNat_of_zero_le (ha hgo.2)
      obtain ⟨nd, hnd⟩ : ∃ nd, nds[at1]? = some nd := ⟨_, List.getElem?_eq_getElem (by omega)⟩
      have g := (hg nd (List.mem_of_getElem? hnd)).1
      obtain ⟨xu, hxu⟩ : ∃ u, m.l[nd.x.toNat]? = some u := ⟨_, List.getElem?_eq_getElem (by have := g.x; omega)⟩
      obtain ⟨yu, hyu⟩ : ∃ u, m.l[nd.y.toNat]? = some u := ⟨_, List.getElem?_eq_getElem (by have := g.y; omega)⟩
      obtain ⟨vu, hvu⟩ : ∃ u, m.l[nd.v.toNat]? = some u := ⟨_, List.getElem?_eq_getElem (by have := g.v; omega)⟩
      have es : startF m at1 = ({ m with e := 4 }, false) := by rw [startF, if_pos hc]
      refine ⟨{ m with e := 4 }, ?_⟩
      rw [wkF, if_pos hgo, if_pos ⟨by omega, by omega⟩, Int.toNat_natCast, hnd]
      simp only [hxu, hyu, hvu, es, Bool.false_eq_true, if_false]
      rw [wkF, if_neg (fun e => by have := e.2; simp at this)]
    · exact ⟨m, by rw [wkF, if_neg hgo]⟩
  | succ c ih =>
    intro m a hc h6 ha
    by_cases hgo : a < nds.length ∧ m.e = 8
    · obtain ⟨at1, rfl⟩ := Int.eq_ofNat_of_zero_le (ha hgo.2)
      obtain ⟨nd, hnd⟩ : ∃ nd, nds[at1]? = some nd := ⟨_, List.getElem?_eq_getElem (by omega)⟩
      obtain ⟨g, gt, gf⟩ := hg nd (List.mem_of_getElem? hnd)
      obtain ⟨xu, hxu⟩ : ∃ u, m.l[nd.x.toNat]? = some u := ⟨_, List.getElem?_eq_getElem (by have := g.x; omega)⟩
      obtain ⟨yu, hyu⟩ : ∃ u, m.l[nd.y.toNat]? = some u := ⟨_, List.getElem?_eq_getElem (by have := g.y; omega)⟩
      obtain ⟨vu, hvu⟩ : ∃ u, m.l[nd.v.toNat]? = some u := ⟨_, List.getElem?_eq_getElem (by have := g.v; omega)⟩
      have es : startF m at1 = ({ m with left := m.left - 1, tr := m.tr ++ toldB at1 m.l ++ sp }, true) := by rw [startF, if_neg (by omega)]
      rw [show c + 1 + 3 = (c + 3) + 1 from rfl, wkF, if_pos hgo, if_pos ⟨by omega, by omega⟩, Int.toNat_natCast, hnd]
      simp only [hxu, hyu, hvu, es, if_true]
      have hle : ({ m with left := m.left - 1, tr := m.tr ++ toldB at1 m.l ++ sp } : Mc).left = c := by show m.left - 1 = c; omega
      have h60 : ({ m with left := m.left - 1, tr := m.tr ++ toldB at1 m.l ++ sp } : Mc).l.length = 6 := h6
      have he0 : ({ m with left := m.left - 1, tr := m.tr ++ toldB at1 m.l ++ sp } : Mc).e = 8 := hgo.2
      generalize ({ m with left := m.left - 1, tr := m.tr ++ toldB at1 m.l ++ sp } : Mc) = m0 at *
      by_cases ht : nd.op = 121 ∨ nd.op = 58
      · rw [if_pos ht]
        refine ih m0 _ hle h60 (fun _ => ?_)
        split
        · exact gt (by omega)
        · exact gf ht
      · rw [if_neg ht]
        refine ih _ _ (by rw [doF_left]; exact hle) (doF_six h60) (fun e8 => ?_)
        rcases doF_e (inp := inp) (n := nd) (x := nd.x.toNat) (xu := xu) (yu := yu) (vu := vu) he0 with h | h | h | h
        · exact gt h.2
        · omega
        · omega
        · omega
    · exact ⟨m, by rw [wkF, if_neg hgo]⟩

theorem graF_total (s inp : ByteArray) (fuel : Nat) (hg : ∀ n ∈ (graF s).nodes, Gd s n) : ∃ F mc', wkF F (graF s).nodes inp (mc0 fuel) 0 = some mc' := by
  obtain ⟨mc', h⟩ := wkF_total (graF s).nodes inp (graF_inv s).2 (fun n hn => ⟨(hg n hn).g, fun h => ((hg n hn).t h).1, fun h => ((hg n hn).f h).1⟩) fuel (mc0 fuel) 0 rfl rfl (fun _ => Int.le_refl _)
  exact ⟨_, mc', h⟩
end Go.Proofs.YtellieabhaphhaaGreatDoor

/-
  Plain: a walk with more fuel.
-/
namespace Go.Proofs.YtellieabhaphhaaGreatDoor
open Go.RowKit

/-- a is the beginning of b. -/
def Pre (a b : ByteArray) : Prop := ∃ c, b = a ++ c
theorem Pre.refl (a : ByteArray) : Pre a a := ⟨ByteArray.empty, by simp⟩
theorem Pre.trans {a b c : ByteArray} (h : Pre a b) (k : Pre b c) : Pre a c := by
  obtain ⟨x, rfl⟩ := h
  obtain ⟨y, rfl⟩ := k
  exact ⟨x ++ y, by rw [ByteArray.append_assoc]⟩
theorem Pre.app (a b : ByteArray) : Pre a (a ++ b) := ⟨b, rfl⟩
theorem Pre.app2 (a b c : ByteArray) : Pre a (a ++ b ++ c) := (Pre.app a b).trans (Pre.app _ c)

/-- The machine with another fuel. -/
def wL (m : Mc) (k : Nat) : Mc := { m with left := k }

theorem nextF_wL (inp : ByteArray) (m : Mc) (k : Nat) : nextF inp (wL m k) = ((nextF inp m).1, wL (nextF inp m).2 k) := by
  unfold nextF wL; dsimp only; split <;> rfl
theorem worF_wL (inp : ByteArray) (n : Nd) (y v : Vl) (m : Mc) (k : Nat) : worF inp n y v (wL m k) = ((worF inp n y v m).1, wL (worF inp n y v m).2 k) := by
  unfold worF
  repeat' split
  all_goals first | rfl | exact nextF_wL inp m k
theorem doF_wL (inp : ByteArray) (n : Nd) (x : Nat) (xu yu vu : Vl) (m : Mc) (k : Nat) : doF inp n x xu yu vu (wL m k) = wL (doF inp n x xu yu vu m) k := by
  unfold doF
  rw [worF_wL]
  repeat' split
  all_goals rfl
theorem nextF_to (inp : ByteArray) (m : Mc) : (nextF inp m).2.tr = m.tr ∧ (nextF inp m).2.out = m.out := by unfold nextF; split <;> exact ⟨rfl, rfl⟩
theorem worF_to (inp : ByteArray) (n : Nd) (y v : Vl) (m : Mc) : (worF inp n y v m).2.tr = m.tr ∧ (worF inp n y v m).2.out = m.out := by
  unfold worF
  repeat' split
  all_goals first | exact ⟨rfl, rfl⟩ | exact nextF_to inp m
theorem doF_to (inp : ByteArray) (n : Nd) (x : Nat) (xu yu vu : Vl) (m : Mc) : (doF inp n x xu yu vu m).tr = m.tr ∧ Pre m.out (doF inp n x xu yu vu m).out := by
  have h := worF_to inp n yu vu m
  unfold doF
  repeat' split
  all_goals first | exact ⟨rfl, Pre.refl _⟩ | exact ⟨rfl, Pre.app2 _ _ _⟩ | exact ⟨h.1, by show Pre m.out (worF inp n yu vu m).2.out; rw [h.2]; exact Pre.refl _⟩

/-- One step of a walk: it ends, or goes on. -/
def wkS (ND : List Nd) (inp : ByteArray) (m : Mc) (a : Int) : Option (Option (Mc × Int)) :=
  if a < ND.length ∧ m.e = 8 then
    (if 0 ≤ a ∧ a < 100 then
      match ND[a.toNat]? with
      | none => none
      | some nd =>
        match m.l[nd.x.toNat]?, m.l[nd.y.toNat]?, m.l[nd.v.toNat]? with
        | some xu, some yu, some vu =>
          if m.left = 0 then some (some ({ m with e := 4 }, a))
          else (if nd.op = 121 ∨ nd.op = 58 then some (some ({ m with left := m.left - 1, tr := m.tr ++ toldB a.toNat m.l ++ sp }, (if holdF nd yu then nd.t else nd.f)))
            else some (some (doF inp nd nd.x.toNat xu yu vu { m with left := m.left - 1, tr := m.tr ++ toldB a.toNat m.l ++ sp }, nd.t)))
        | _, _, _ => none
    else none)
  else some none

theorem wkF_step (f : Nat) (ND : List Nd) (inp : ByteArray) (m : Mc) (a : Int) :
    wkF (f + 1) ND inp m a = match wkS ND inp m a with | none => none | some none => some m | some (some q) => wkF f ND inp q.1 q.2 := by
  rw [wkF, wkS]
  split
  · split
    · cases ND[a.toNat]? with
      | none => rfl
      | some nd =>
        dsimp only
        cases m.l[nd.x.toNat]? <;> cases m.l[nd.y.toNat]? <;> cases m.l[nd.v.toNat]? <;> try rfl
        dsimp only
        unfold startF
        by_cases hl : m.left = 0
        · rw [if_pos hl, if_pos hl]; rfl
        · rw [if_neg hl, if_neg hl]
          by_cases ht : nd.op = 121 ∨ nd.op = 58
          · rw [if_pos ht, if_pos ht]; rfl
          · rw [if_neg ht, if_neg ht]; rfl
    · rfl
  · rfl

/-- What a step does, and what it does with more fuel. -/
theorem wkS_more {ND : List Nd} {inp : ByteArray} {m : Mc} {a : Int} {q : Mc × Int} (d : Nat) (h : wkS ND inp m a = some (some q)) :
    Pre m.tr q.1.tr ∧ Pre m.out q.1.out ∧ (q.1 = { m with e := 4 } ∨ wkS ND inp (wL m (m.left + d)) a = some (some (wL q.1 (q.1.left + d), q.2))) := by
  unfold wkS at h
  split at h
  case isFalse => simp at h
  rename_i hgo
  split at h
  case isFalse => simp at h
  rename_i ha
  cases hnd : ND[a.toNat]? with
  | none => rw [hnd] at h; simp at h
  | some nd =>
    rw [hnd] at h
    dsimp only at h
    split at h
    case h_2 => simp at h
    rename_i xu yu vu hx hy hv
    by_cases hl : m.left = 0
    · rw [if_pos hl] at h
      simp only [Option.some.injEq] at h
      subst h
      exact ⟨Pre.refl _, Pre.refl _, .inl rfl⟩
    · rw [if_neg hl] at h
      have hgo' : a < ND.length ∧ (wL m (m.left + d)).e = 8 := hgo
      have hl' : ¬ (wL m (m.left + d)).left = 0 := by show ¬ m.left + d = 0; omega
      have e0 : ({ wL m (m.left + d) with left := (wL m (m.left + d)).left - 1, tr := (wL m (m.left + d)).tr ++ toldB a.toNat (wL m (m.left + d)).l ++ sp } : Mc) = wL { m with left := m.left - 1, tr := m.tr ++ toldB a.toNat m.l ++ sp } (m.left - 1 + d) := by
        unfold wL
        simp only [Mc.mk.injEq, true_and, and_true]
        omega
      by_cases ht : nd.op = 121 ∨ nd.op = 58
      · rw [if_pos ht] at h
        simp only [Option.some.injEq] at h
        subst h
        refine ⟨Pre.app2 _ _ _, Pre.refl _, .inr ?_⟩
        unfold wkS
        rw [if_pos hgo', if_pos ha, hnd]
        dsimp only
        have hx' : (wL m (m.left + d)).l[nd.x.toNat]? = some xu := hx
        have hy' : (wL m (m.left + d)).l[nd.y.toNat]? = some yu := hy
        have hv' : (wL m (m.left + d)).l[nd.v.toNat]? = some vu := hv
        rw [hx', hy', hv']
        dsimp only
        rw [if_neg hl', if_pos ht, e0]
      · rw [if_neg ht] at h
        simp only [Option.some.injEq] at h
        subst h
        have hd := doF_to inp nd nd.x.toNat xu yu vu { m with left := m.left - 1, tr := m.tr ++ toldB a.toNat m.l ++ sp }
        refine ⟨by rw [hd.1]; exact Pre.app2 _ _ _, hd.2, .inr ?_⟩
        unfold wkS
        rw [if_pos hgo', if_pos ha, hnd]
        dsimp only
        have hx' : (wL m (m.left + d)).l[nd.x.toNat]? = some xu := hx
        have hy' : (wL m (m.left + d)).l[nd.y.toNat]? = some yu := hy
        have hv' : (wL m (m.left + d)).l[nd.v.toNat]? = some vu := hv
        rw [hx', hy', hv']
        dsimp only
        rw [if_neg hl', if_neg ht, e0, doF_wL, doF_left]

theorem wkF_grow : ∀ (F : Nat) {ND : List Nd} {inp : ByteArray} {m r : Mc} {a : Int}, wkF F ND inp m a = some r → Pre m.tr r.tr ∧ Pre m.out r.out
  | 0, _, _, _, _, _, h => by simp [wkF] at h
  | f + 1, ND, inp, m, r, a, h => by
    rw [wkF_step] at h
    cases hs : wkS ND inp m a with
    | none => rw [hs] at h; simp at h
    | some o =>
      rw [hs] at h
      cases o with
      | none => simp only [Option.some.injEq] at h; subst h; exact ⟨Pre.refl _, Pre.refl _⟩
      | some q =>
        have g := wkS_more 0 hs
        have k := wkF_grow f h
        exact ⟨g.1.trans k.1, g.2.1.trans k.2⟩

theorem wkF_more : ∀ (F F' d : Nat) {ND : List Nd} {inp : ByteArray} {m r r' : Mc} {a : Int}, wkF F ND inp m a = some r → wkF F' ND inp (wL m (m.left + d)) a = some r' →
    (Pre r.tr r'.tr ∧ Pre r.out r'.out) ∧ (r.e ≠ 4 → r'.tr = r.tr ∧ r'.out = r.out ∧ r'.e = r.e)
  | 0, _, _, _, _, _, _, _, _, h, _ => by simp [wkF] at h
  | _ + 1, 0, _, _, _, _, _, _, _, _, h => by simp [wkF] at h
  | f + 1, f' + 1, d, ND, inp, m, r, r', a, h, h' => by
    rw [wkF_step] at h
    cases hs : wkS ND inp m a with
    | none => rw [hs] at h; simp at h
    | some o =>
      rw [hs] at h
      cases o with
      | none =>
        simp only [Option.some.injEq] at h
        subst h
        have hs' : wkS ND inp (wL m (m.left + d)) a = some none := by
          unfold wkS at hs ⊢
          split at hs
          · split at hs
            · cases hnd : ND[a.toNat]? with
              | none => rw [hnd] at hs; simp at hs
              | some nd =>
                rw [hnd] at hs
                dsimp only at hs
                split at hs
                · split at hs
                  · simp at hs
                  · split at hs <;> simp at hs
                · simp at hs
            · simp at hs
          · rename_i hn
            rw [if_neg (show ¬ (a < ND.length ∧ (wL m (m.left + d)).e = 8) from hn)]
        rw [wkF_step, hs'] at h'
        simp only [Option.some.injEq] at h'
        subst h'
        exact ⟨⟨Pre.refl _, Pre.refl _⟩, fun _ => ⟨rfl, rfl, rfl⟩⟩
      | some q =>
        obtain ⟨g1, g2, g3⟩ := wkS_more d hs
        rcases g3 with g3 | g3
        · have e4 : q.1.e ≠ 8 := by rw [g3]; show (4 : Int) ≠ 8; decide
          have hr := wkF_end h e4
          have k := wkF_grow (f' + 1) h'
          rw [hr, g3]
          exact ⟨k, fun hne => absurd rfl hne⟩
        · rw [wkF_step, g3] at h'
          exact wkF_more f f' d h h'

theorem wkF_fuel {F F' lo hi : Nat} {ND : List Nd} {inp : ByteArray} {r r' : Mc} (hl : lo ≤ hi) (h : wkF F ND inp (mc0 lo) 0 = some r) (h' : wkF F' ND inp (mc0 hi) 0 = some r') :
    (Pre r.tr r'.tr ∧ Pre r.out r'.out) ∧ (r.e ≠ 4 → r'.tr = r.tr ∧ r'.out = r.out ∧ r'.e = r.e) := by
  have e : mc0 hi = wL (mc0 lo) ((mc0 lo).left + (hi - lo)) := by
    unfold mc0 wL
    simp only [Mc.mk.injEq, true_and, and_true]
    omega
  rw [e] at h'
  exact wkF_more F F' (hi - lo) h h'

theorem wkF_none {F : Nat} {ND : List Nd} {inp : ByteArray} {r : Mc} (h : wkF F ND inp (mc0 0) 0 = some r) : r.tr = ByteArray.empty ∧ (r.e = 8 → ND = []) := by
  cases F with
  | zero => simp [wkF] at h
  | succ f =>
    rw [wkF_step] at h
    cases hs : wkS ND inp (mc0 0) 0 with
    | none => rw [hs] at h; simp at h
    | some o =>
      rw [hs] at h
      unfold wkS at hs
      cases o with
      | none =>
        simp only [Option.some.injEq] at h
        subst h
        refine ⟨rfl, fun _ => ?_⟩
        split at hs
        · split at hs
          · split at hs
            · simp at hs
            · split at hs
              · split at hs
                · simp at hs
                · split at hs <;> simp at hs
              · simp at hs
          · simp at hs
        · rename_i hn
          cases ND with
          | nil => rfl
          | cons n l => exact absurd ⟨by show (0 : Int) < ((n :: l).length : Nat); rw [List.length_cons]; omega, rfl⟩ hn
      | some q =>
        have e4 : q.1 = { mc0 0 with e := 4 } := by
          split at hs
          · split at hs
            · split at hs
              · simp at hs
              · split at hs
                · rw [if_pos (show (mc0 0).left = 0 from rfl)] at hs
                  simp only [Option.some.injEq] at hs
                  subst hs; rfl
                · simp at hs
            · simp at hs
          · simp at hs
        have hr := wkF_end h (by rw [e4]; show (4 : Int) ≠ 8; decide)
        rw [hr, e4]
        exact ⟨rfl, fun h8 => absurd h8 (by show ¬ (4 : Int) = 8; decide)⟩

theorem wkF_e0 {F : Nat} {ND : List Nd} {inp : ByteArray} {r : Mc} (h : wkF F ND inp (mc0 0) 0 = some r) : ¬ r.e = 0 := by
  cases F with
  | zero => simp [wkF] at h
  | succ f =>
    rw [wkF_step] at h
    cases hs : wkS ND inp (mc0 0) 0 with
    | none => rw [hs] at h; simp at h
    | some o =>
      rw [hs] at h
      cases o with
      | none =>
        simp only [Option.some.injEq] at h
        subst h
        show ¬ (8 : Int) = 0
        decide
      | some q =>
        have e4 : q.1 = { mc0 0 with e := 4 } := by
          unfold wkS at hs
          split at hs
          · split at hs
            · split at hs
              · simp at hs
              · split at hs
                · rw [if_pos (show (mc0 0).left = 0 from rfl)] at hs
                  simp only [Option.some.injEq] at hs
                  subst hs; rfl
                · simp at hs
            · simp at hs
          · simp at hs
        have hr := wkF_end h (by rw [e4]; show (4 : Int) ≠ 8; decide)
        rw [hr, e4]
        show ¬ (4 : Int) = 0
        decide
end Go.Proofs.YtellieabhaphhaaGreatDoor

/-
  narrow's maker: what it lays: nodes and marks.
-/
namespace Go.Proofs.YtellieabhaphhaaGreatDoor
open Go.RowKit

/-- The maker at work: where it reads, its row, its marks. -/
structure MS where
  p : Nat × Bool
  row : List NN
  marks : List Nat

def mCells (l : List Nat) : List Value := l.map (fun (k : Nat) => Value.int .i64 k)

abbrev MRow (w : World) (v : Value) (l : List Nat) : Prop := Row w v 3 1 l.length (mCells l)

/-- Its block and its two rows; O: the blocks that are its own. -/
def Mp (w : World) (r : Nat) (s : ByteArray) (m : MS) (O : Nat → Prop) : Prop :=
  ∃ nv iv, NR w r s m.p [nv, iv] 84 ∧ NRow w nv m.row ∧ MRow w iv m.marks ∧
    nv.ownBlock ≠ some r ∧ iv.ownBlock ≠ some r ∧ (∀ b, nv.ownBlock = some b → iv.ownBlock ≠ some b) ∧ O = Own r nv iv

def MWent (w : World) (O : Nat → Prop) (r : Nat) (s : ByteArray) (m : MS) (w' : World) : Prop := ∃ O', Mp w' r s m O' ∧ Th O w O' w'

theorem MWent.drew {w w' : World} {O : Nat → Prop} {r : Nat} {s : ByteArray} {m : MS} (h : MWent w O r s m w') : MWent w O r s m w'.drew :=
  let ⟨O', h1, h2⟩ := h
  ⟨O', h1, h2.drew⟩

section
variable {w : World} {r : Nat} {s : ByteArray} {m : MS} {O : Nat → Prop}
theorem Mp.n (h : Mp w r s m O) (n : Nat) : Mp (w.drewN n) r s m O := h
theorem Mp.drew (h : Mp w r s m O) : Mp w.drew r s m O := h
theorem Mp.own (h : Mp w r s m O) : O r := by
  obtain ⟨nv, iv, hB, hN, hI, d1, d2, d3, rfl⟩ := h; exact .inl rfl
theorem Mp.lt (h : Mp w r s m O) : ∀ b, O b → b < w.heap.size := by
  obtain ⟨nv, iv, hB, hN, hI, d1, d2, d3, rfl⟩ := h
  rintro b (h | h | h)
  · subst h; exact hB.lt
  · exact Row.lt hN h
  · exact Row.lt hI h
theorem Mp.c (h : Mp w r s m O) : w.cell? ⟨r, 0, none⟩ = some (.string s) ∧ w.cell? ⟨r, 1, none⟩ = some (.int .i64 m.p.1) ∧ w.cell? ⟨r, 2, none⟩ = some (.bool m.p.2) ∧ ∀ o, w.frozen? ⟨r, o, none⟩ = false := by
  obtain ⟨nv, iv, hB, hN, hI, d1, d2, d3, rfl⟩ := h
  exact ⟨Blk.cell hB 0, Blk.cell hB 1, Blk.cell hB 2, Blk.frozen hB⟩
theorem Mp.alloc (h : Mp w r s m O) (o : Obj) : Mp (w.alloc o) r s m O := by
  obtain ⟨nv, iv, hB, hN, hI, d1, d2, d3, rfl⟩ := h
  exact ⟨nv, iv, Blk.alloc hB o, World.ownsRow.alloc hN o, World.ownsRow.alloc hI o, d1, d2, d3, rfl⟩
theorem Mp.other (h : Mp w r s m O) {b o : Nat} (v : Value) (hb : ¬ O b) : Mp (w.setCell ⟨b, o, none⟩ v) r s m O := by
  obtain ⟨nv, iv, hB, hN, hI, d1, d2, d3, rfl⟩ := h
  exact ⟨nv, iv, Blk.other hB v (fun e => hb (.inl e.symm)), Row.set hN v (fun e => hb (.inr (.inl e))), Row.set hI v (fun e => hb (.inr (.inr e))), d1, d2, d3, rfl⟩
theorem Mp.setBad (h : Mp w r s m O) : Mp (w.setCell ⟨r, 2, none⟩ (.bool true)) r s { m with p := (m.p.1, true) } O := by
  obtain ⟨nv, iv, hB, hN, hI, d1, d2, d3, rfl⟩ := h
  exact ⟨nv, iv, Blk.set hB 2 _, Row.set hN _ d1, Row.set hI _ d2, d1, d2, d3, rfl⟩

theorem mwent_rb {w' : World} {nv iv : Value} {p : Nat × Bool} (hN : NRow w nv m.row) (hI : MRow w iv m.marks)
    (d1 : nv.ownBlock ≠ some r) (d2 : iv.ownBlock ≠ some r) (d3 : ∀ b, nv.ownBlock = some b → iv.ownBlock ≠ some b)
    (hB' : NR w' r s p [nv, iv] 84) (hk : Kp (· = r) w w') : MWent w (Own r nv iv) r s { m with p := p } w' :=
  ⟨_, ⟨nv, iv, hB', hk.row hN (fun b hb e => d1 (by rw [hb, e])), hk.row hI (fun b hb e => d2 (by rw [hb, e])), d1, d2, d3, rfl⟩, hk.mono (fun _ e => .inl e), fun _ h _ => h⟩

def expM (s : ByteArray) (m : MS) (l : List UInt8) : MS := { m with p := expF s m.p l }

theorem mpeek_w (h : Mp w r s m O) (hs : s.size ≤ 1000) (hi : m.p.1 ≤ s.size) : Calls Tryz.prog 92 #[.pointer (some ⟨r, 0, none⟩)] w fun e w' => e = .returned (.int .u8 (pkb s m.p)) ∧ ∃ n, w' = w.drewN n := by
  obtain ⟨nv, iv, hB, hN, hI, d1, d2, d3, rfl⟩ := h
  exact npeek_c r m.p.1 s m.p.2 _ _ w hs hi hB

theorem mexpect_w (h : Mp w r s m O) (u : ByteArray) (hs : s.size ≤ 1000) (hi : m.p.1 ≤ s.size) (hu : u.size ≤ 10) (hz : ∀ k (h : k < u.size), (u[k]).toNat ≠ 0) :
    Calls Tryz.prog 109 #[.pointer (some ⟨r, 0, none⟩), .string u] w fun e w' => e = .returned (.tuple #[]) ∧ MWent w O r s (expM s m u.data.toList) w' := by
  obtain ⟨nv, iv, hB, hN, hI, d1, d2, d3, rfl⟩ := h
  exact (nexpect_c r m.p.1 s u m.p.2 _ _ w hs hi hu hz hB).mono fun e w' ⟨h1, h2, h3⟩ => ⟨h1, mwent_rb hN hI d1 d2 d3 h2 h3⟩

theorem maction_w (h : Mp w r s m O) (hs : s.size ≤ 1000) (hi : m.p.1 ≤ s.size) :
    Calls Tryz.prog 138 #[.pointer (some ⟨r, 0, none⟩)] w fun e w' => e = .returned (.agg (nacF s m.p).1.cells.toArray) ∧ MWent w O r s { m with p := (nacF s m.p).2 } w' := by
  obtain ⟨nv, iv, hB, hN, hI, d1, d2, d3, rfl⟩ := h
  exact (naction_c r m.p.1 s m.p.2 _ _ w hs hi hB).mono fun e w' ⟨h1, h2, h3⟩ => ⟨h1, mwent_rb hN hI d1 d2 d3 h2 h3⟩

theorem msince_w (h : Mp w r s m O) (a : Nat) (hs : s.size ≤ 1000) (hi : m.p.1 ≤ s.size) (ha : a ≤ m.p.1) :
    Calls Tryz.prog 107 #[.pointer (some ⟨r, 0, none⟩), .int .i64 a] w fun e w' => e = .returned (.string (sinceB s a m.p.1)) ∧ ∃ n, w' = w.drewN n := by
  obtain ⟨nv, iv, hB, hN, hI, d1, d2, d3, rfl⟩ := h
  exact nsince_c r m.p.1 a s m.p.2 _ _ w hs hi ha hB
end

/-- A test, as a function. -/
def tstF (s : ByteArray) (p : Nat × Bool) : NN × (Nat × Bool) := queF s (varF s p).2 (varF s p).1

set_option maxHeartbeats 800000 in
theorem nrtest_c (r i : Nat) (s : ByteArray) (bad : Bool) (rest : List Value) (T : TypeId) (w : World) (hs : s.size ≤ 1000) (hi : i ≤ s.size)
    (h : NR w r s (i, bad) rest T) :
    Calls Tryz.prog 167 #[.pointer (some ⟨r, 0, none⟩)] w fun e w' => e = .returned (.agg (tstF s (i, bad)).1.cells.toArray) ∧ NR w' r s (tstF s (i, bad)).2 rest T ∧ Kp (· = r) w w' := by
  have HV : Hid (tstF s (i, bad) = queF s (varF s (i, bad)).2 (varF s (i, bad)).1) := rfl
  have hr := h.lt
  have hb : Blk w r (.string s :: .int .i64 i :: .bool bad :: rest) T := h
  have HK := hide (fun W (hW : NR W r s (i, bad) rest T) => nvariable_c r i s bad rest T W hs hi hW)
  have hq := varF_le s (i, bad) hi
  have HK2 := hide (fun W (hW : NR W r s (varF s (i, bad)).2 rest T) => nquestion_c r (varF s (i, bad)).2.1 (varF s (i, bad)).1 s (varF s (i, bad)).2.2 rest T W hs hq hW)
  generalize varF s (i, bad) = q at *
  obtain ⟨k, q⟩ := q
  dsimp only at HK2 HV HK
  rw [show (q.1, q.2) = q from rfl] at HK2
  generalize queF s q k = q2 at *
  obtain ⟨⟨g0, g1, g2, g3, g4, g5, g6, g7, g8, g9, g10⟩, q2⟩ := q2
  clear h
  unfold NN.cells at HK2
  dsimp only at HK2
  go_enter Tryz.func167, Tryz.ntmps167
  go_wp2_with fail
  refine (HK.out _ (by (show Blk _ _ _ _); (repeat' (first | ((with_reducible show (_ : List Value) = _); rfl) | with_reducible exact hb | ((with_reducible refine Blk.newAt _ _ _ ?_); first | with_reducible rfl | (simp; done)) | with_reducible refine Blk.alloc ?_ _ | with_reducible refine Blk.drewN ?_ _ | with_reducible refine Blk.drew ?_ | ((with_reducible refine Blk.other ?_ _ ?_); rotate_left; ((try dsimp only); omega)) | with_reducible refine Blk.setB (cs0 := ?_) ?_ ?_)))).mono ?_
  rintro e w1 ⟨rfl, hNw1, kw1⟩
  have hbw1 : Blk w1 r (.string s :: .int .i64 q.1 :: .bool q.2 :: rest) T := hNw1
  have hrw1 := hbw1.lt
  have hR1 : Blk w1 w.heap.size [.string ⟨#[]⟩, .int .i64 0, .int .i64 0, .int .i64 0, .int .i64 0, .int .i64 0, .int .i64 0, .int .i64 0, .int .i64 0, .int .i64 0, .int .i64 0] 91 := kw1.blk (by (repeat' (first | ((with_reducible show (_ : List Value) = _); rfl) | with_reducible exact hb | ((with_reducible refine Blk.newAt _ _ _ ?_); first | with_reducible rfl | (simp; done)) | with_reducible refine Blk.alloc ?_ _ | with_reducible refine Blk.drewN ?_ _ | with_reducible refine Blk.drew ?_ | ((with_reducible refine Blk.other ?_ _ ?_); rotate_left; ((try dsimp only); omega)) | with_reducible refine Blk.setB (cs0 := ?_) ?_ ?_))) (by omega)
  obtain ⟨z1_0, z1_1, z1_2, z1_3, z1_4, z1_5, z1_6, z1_7, z1_8, z1_9, z1_10, zf1⟩ := hR1.c11
  have hz1 := hR1.lt
  go_wp2_with fail
  refine (HK2.out _ (by (show Blk _ _ _ _); (repeat' (first | ((with_reducible show (_ : List Value) = _); rfl) | with_reducible exact hbw1 | ((with_reducible refine Blk.newAt _ _ _ ?_); first | with_reducible rfl | (simp; done)) | with_reducible refine Blk.alloc ?_ _ | with_reducible refine Blk.drewN ?_ _ | with_reducible refine Blk.drew ?_ | ((with_reducible refine Blk.other ?_ _ ?_); rotate_left; ((try dsimp only); omega)) | with_reducible refine Blk.setB (cs0 := ?_) ?_ ?_)))).mono ?_
  rintro e w2 ⟨rfl, hNw2, kw2⟩
  have hbw2 : Blk w2 r (.string s :: .int .i64 q2.1 :: .bool q2.2 :: rest) T := hNw2
  have hrw2 := hbw2.lt
  have hR2 : Blk w2 w.heap.size [.string ⟨#[]⟩, .int .i64 0, .int .i64 0, .int .i64 0, .int .i64 0, .int .i64 0, .int .i64 0, .int .i64 0, .int .i64 0, .int .i64 0, .int .i64 0] 91 := kw2.blk (by (repeat' (first | ((with_reducible show (_ : List Value) = _); rfl) | with_reducible exact hR1 | ((with_reducible refine Blk.newAt _ _ _ ?_); first | with_reducible rfl | (simp; done)) | with_reducible refine Blk.alloc ?_ _ | with_reducible refine Blk.drewN ?_ _ | with_reducible refine Blk.drew ?_ | ((with_reducible refine Blk.other ?_ _ ?_); rotate_left; ((try dsimp only); omega)) | with_reducible refine Blk.setB (cs0 := ?_) ?_ ?_))) (by omega)
  obtain ⟨z2_0, z2_1, z2_2, z2_3, z2_4, z2_5, z2_6, z2_7, z2_8, z2_9, z2_10, zf2⟩ := hR2.c11
  have hz2 := hR2.lt
  go_wp2
  refine body_agg (Tb := 91) (b := w.heap.size) (cs := [.string g0, .int .i64 g1, .int .i64 g2, .int .i64 g3, .int .i64 g4, .int .i64 g5, .int .i64 g6, .int .i64 g7, .int .i64 g8, .int .i64 g9, .int .i64 g10]) (.inr rfl) Tryz.results167 rfl rfl (by (repeat' (first | ((with_reducible show (_ : List Value) = _); rfl) | with_reducible exact hR2 | ((with_reducible refine Blk.newAt _ _ _ ?_); first | with_reducible rfl | (simp; done)) | with_reducible refine Blk.alloc ?_ _ | with_reducible refine Blk.drewN ?_ _ | with_reducible refine Blk.drew ?_ | ((with_reducible refine Blk.other ?_ _ ?_); rotate_left; ((try dsimp only); omega)) | with_reducible refine Blk.setB (cs0 := ?_) ?_ ?_))) Tryz.underlying91 rfl (by kernel_rfl) ?_
  rw [HV.out]
  exact ⟨rfl, by (show Blk _ _ _ _); (repeat' (first | ((with_reducible show (_ : List Value) = _); rfl) | with_reducible exact hbw2 | ((with_reducible refine Blk.newAt _ _ _ ?_); first | with_reducible rfl | (simp; done)) | with_reducible refine Blk.alloc ?_ _ | with_reducible refine Blk.drewN ?_ _ | with_reducible refine Blk.drew ?_ | ((with_reducible refine Blk.other ?_ _ ?_); rotate_left; ((try dsimp only); omega)) | with_reducible refine Blk.setB (cs0 := ?_) ?_ ?_)), by (repeat' (first | with_reducible exact Kp.refl _ _ | with_reducible refine Kp.alloc ?_ _ | with_reducible refine Kp.drewN ?_ _ | with_reducible refine Kp.drew ?_ | with_reducible refine Kp.setCell ?_ _ ?_ | with_reducible refine Kp.trans ?_ kw1 (fun _ _ e => e) | with_reducible refine Kp.trans ?_ kw2 (fun _ _ e => e) | (intro hh; first | rfl | exact .inl rfl | exact .inr rfl | (exfalso; (try dsimp only at hh); omega))))⟩

theorem mtest_w {w : World} {r : Nat} {s : ByteArray} {m : MS} {O : Nat → Prop} (h : Mp w r s m O) (hs : s.size ≤ 1000) (hi : m.p.1 ≤ s.size) :
    Calls Tryz.prog 167 #[.pointer (some ⟨r, 0, none⟩)] w fun e w' => e = .returned (.agg (tstF s m.p).1.cells.toArray) ∧ MWent w O r s { m with p := (tstF s m.p).2 } w' := by
  obtain ⟨nv, iv, hB, hN, hI, d1, d2, d3, rfl⟩ := h
  exact (nrtest_c r m.p.1 s m.p.2 _ _ w hs hi hB).mono fun e w' ⟨h1, h2, h3⟩ => ⟨h1, mwent_rb hN hI d1 d2 d3 h2 h3⟩

theorem info_mint : (Tryz.prog.info? 3).map (fun i => (i.zero, i.size, i.bytes)) = some (some (.int .i64 0), 1, 8) := by kernel_rfl

theorem mwent_row {w W w' : World} {r : Nat} {s : ByteArray} {m : MS} {nv iv : Value} {n : NN} {g cap H : Nat}
    (hB : NR w r s m.p [nv, iv] 84) (hI : MRow w iv m.marks)
    (d1 : nv.ownBlock ≠ some r) (d2 : iv.ownBlock ≠ some r) (d3 : ∀ b, nv.ownBlock = some b → iv.ownBlock ≠ some b) (hk : Kp no w W)
    (hown : w'.ownsRow 0 91 11 (.slice (some ⟨g, 0, none⟩) (m.row.length + 1) cap) (m.row.length + 1) (nnCells m.row ++ n.cells))
    (hgrow : W.grownBy w' nv.ownBlock) (hat : nv.ownBlock = some g ∨ g = H) (hH : w.heap.size ≤ H) :
    MWent w (Own r nv iv) r s { m with row := m.row ++ [n] } (w'.setCell ⟨r, 3, none⟩ (.slice (some ⟨g, 0, none⟩) (m.row.length + 1) cap)) := by
  have hr := hB.lt
  have hg : g ≠ r := by
    rcases hat with h | h
    · exact fun e => d1 (by rw [h, e])
    · omega
  have hIW : MRow W iv m.marks := hk.row hI (fun _ _ => no_elim)
  refine ⟨Own r (.slice (some ⟨g, 0, none⟩) (m.row.length + 1) cap) iv, ⟨_, iv, ?_, ?_, ?_, ?_, d2, ?_, rfl⟩, ?_, ?_⟩
  · exact Blk.set (grown_blk hgrow (hk.blk hB no_elim) d1) 3 _
  · have e1 : nnCells (m.row ++ [n]) = nnCells m.row ++ n.cells := by simp [nnCells]
    have e2 : (m.row ++ [n]).length = m.row.length + 1 := by simp
    show Row _ _ _ _ (m.row ++ [n]).length (nnCells (m.row ++ [n]))
    rw [e1, e2]
    exact Row.set hown _ (by simpa [Value.ownBlock] using hg)
  · refine Row.set (World.ownsRow.kept hIW hgrow ?_) _ d2
    cases hv : iv.ownBlock with
    | none => exact .inl rfl
    | some b => exact .inr (fun e => d3 b e.symm hv)
  · simpa [Value.ownBlock] using hg
  · intro b hb hv
    have hb' : g = b := by simpa [Value.ownBlock] using hb
    subst hb'
    rcases hat with h | h
    · exact d3 _ h hv
    · have := Row.lt hI hv; omega
  · exact ((hk.mono (fun _ e => e.elim)).grown hgrow (fun k _ e => .inr (.inl e))).setCell _ (fun _ => .inl rfl)
  · rintro b (h | h | h) hlt
    · exact .inl h
    · have hb' : g = b := by simpa [Value.ownBlock] using h
      subst hb'
      rcases hat with h | h
      · exact .inr (.inl h)
      · omega
    · exact .inr (.inr h)

theorem mwent_marks {w W w' : World} {r : Nat} {s : ByteArray} {m : MS} {nv iv : Value} {g cap H : Nat}
    (hB : NR w r s m.p [nv, iv] 84) (hN : NRow w nv m.row)
    (d1 : nv.ownBlock ≠ some r) (d2 : iv.ownBlock ≠ some r) (d3 : ∀ b, nv.ownBlock = some b → iv.ownBlock ≠ some b) (hk : Kp no w W)
    (hown : w'.ownsRow 0 3 1 (.slice (some ⟨g, 0, none⟩) (m.marks.length + 1) cap) (m.marks.length + 1) (mCells m.marks ++ [.int .i64 0]))
    (hgrow : W.grownBy w' iv.ownBlock) (hat : iv.ownBlock = some g ∨ g = H) (hH : w.heap.size ≤ H) :
    MWent w (Own r nv iv) r s { m with marks := m.marks ++ [0] } (w'.setCell ⟨r, 4, none⟩ (.slice (some ⟨g, 0, none⟩) (m.marks.length + 1) cap)) := by
  have hr := hB.lt
  have hg : g ≠ r := by
    rcases hat with h | h
    · exact fun e => d2 (by rw [h, e])
    · omega
  have hNW : NRow W nv m.row := hk.row hN (fun _ _ => no_elim)
  refine ⟨Own r nv (.slice (some ⟨g, 0, none⟩) (m.marks.length + 1) cap), ⟨nv, _, ?_, ?_, ?_, d1, ?_, ?_, rfl⟩, ?_, ?_⟩
  · exact Blk.set (grown_blk hgrow (hk.blk hB no_elim) d2) 4 _
  · refine Row.set (World.ownsRow.kept hNW hgrow ?_) _ d1
    cases hv : nv.ownBlock with
    | none => exact .inl rfl
    | some b => exact .inr (fun e => d3 b hv e.symm)
  · have e1 : mCells (m.marks ++ [0]) = mCells m.marks ++ [.int .i64 0] := by simp [mCells]
    have e2 : (m.marks ++ [0]).length = m.marks.length + 1 := by simp
    show Row _ _ _ _ (m.marks ++ [0]).length (mCells (m.marks ++ [0]))
    rw [e1, e2]
    exact Row.set hown _ (by simpa [Value.ownBlock] using hg)
  · simpa [Value.ownBlock] using hg
  · intro b hb hv
    have hb' : g = b := by simpa [Value.ownBlock] using hv
    subst hb'
    rcases hat with h | h
    · exact d3 _ hb h
    · have := Row.lt hN hb; omega
  · exact ((hk.mono (fun _ e => e.elim)).grown hgrow (fun k _ e => .inr (.inr e))).setCell _ (fun _ => .inl rfl)
  · rintro b (h | h | h) hlt
    · exact .inl h
    · exact .inr (.inl h)
    · have hb' : g = b := by simpa [Value.ownBlock] using h
      subst hb'
      rcases hat with h | h
      · exact .inr (.inr h)
      · omega

def newM (m : MS) : MS := { m with marks := m.marks ++ [0] }
def layM (m : MS) (k : Nat) : MS := { m with marks := m.marks.set k m.row.length }
def jumpN (k : Int) : NN := { nn0 with act := 15, yes := k, no := k }
def jmpM (m : MS) (k : Int) : MS := { m with row := m.row ++ [jumpN k] }

set_option maxHeartbeats 1600000 in
theorem nnewMark_c {r : Nat} {s : ByteArray} {m : MS} {O : Nat → Prop} {w : World} (hn : m.marks.length ≤ 2000) (h : Mp w r s m O) :
    Calls Tryz.prog 134 #[.pointer (some ⟨r, 0, none⟩)] w fun e w' => e = .returned (.int .i64 m.marks.length) ∧ MWent w O r s (newM m) w' := by
  obtain ⟨nv, iv, hB, hN, hI, d1, d2, d3, rfl⟩ := h
  obtain ⟨i0, hi, hz0, hz1, hz2⟩ := info_parts info_mint
  have hr := hB.lt
  have hb : Blk w r [.string s, .int .i64 m.p.1, .bool m.p.2, nv, iv] 84 := hB
  have q4 := hb.cell 4
  simp only [List.getElem?_cons_zero, List.getElem?_cons_succ] at q4
  have qf := hb.frozen
  have hone : ∀ u ∈ [Value.int .i64 0], u.oneCell' = true := by simp [Value.oneCell']
  go_enter Tryz.func134, Tryz.ntmps134
  go_wp2_with (at_builtin; refine wpList_append_lies _ rfl (.tmp 7) (.tmp 8) 82 rfl 0 3 i0 _ 1 8 Tryz.underlying82 hi hz0 hz1 hz2 rfl (by decide) iv m.marks.length (mCells m.marks) (by simp [Act.eval]) (by exact World.ownsRow.alloc hI _) ⟨w.heap.size, 0, none⟩ 1 1 [Value.int .i64 0] (by simp [Act.eval]) rfl (by exact Blk.news (Blk.new w [Value.int .i64 0] _)) hone (by decide) (by unfold maxLen; omega) (by omega) (Nat.zero_le _) _ rfl ?_; intro g cap w' hown hgrow hat hlt; have hb' := grown_blk hgrow (Blk.alloc hb _) d2; have q4' := hb'.cell 4; have qf' := hb'.frozen; simp only [List.getElem?_cons_zero, List.getElem?_cons_succ] at q4')
  go_ret
  exact ⟨ret_i64 (by push_cast; omega), mwent_marks hB hN d1 d2 d3 (W := w.alloc _) ((Kp.refl _ _).alloc _) hown hgrow hat (by simp)⟩

set_option maxHeartbeats 1600000 in
theorem njump_c {r : Nat} {s : ByteArray} {m : MS} {O : Nat → Prop} {w : World} (k : Int) (hn : m.row.length ≤ 2000) (h : Mp w r s m O) :
    Calls Tryz.prog 137 #[.pointer (some ⟨r, 0, none⟩), .int .i64 k] w fun e w' => e = .returned (.tuple #[]) ∧ MWent w O r s (jmpM m k) w' := by
  obtain ⟨nv, iv, hB, hN, hI, d1, d2, d3, rfl⟩ := h
  obtain ⟨i0, hi, hz0, hz1, hz2⟩ := info_parts info_nn
  have hr := hB.lt
  have hb : Blk w r [.string s, .int .i64 m.p.1, .bool m.p.2, nv, iv] 84 := hB
  have q3 := hb.cell 3
  simp only [List.getElem?_cons_zero, List.getElem?_cons_succ] at q3
  have qf := hb.frozen
  have hone : ∀ u ∈ (jumpN k).cells, u.oneCell' = true := by simp [jumpN, NN.cells, Value.oneCell']
  go_enter Tryz.func137, Tryz.ntmps137
  go_wp2_with (at_builtin; refine wpList_append_lies _ rfl (.tmp 8) (.tmp 12) 52 rfl 0 91 i0 _ 11 96 Tryz.underlying52 hi hz0 hz1 hz2 rfl (by decide) nv m.row.length (nnCells m.row) (by simp [Act.eval]) (by exact World.ownsRow.alloc hN _) ⟨w.heap.size, 0, none⟩ 1 1 (jumpN k).cells (by simp [Act.eval]) rfl (by exact Blk.news (Blk.new w (jumpN k).cells _)) hone (by decide) (by unfold maxLen; omega) (by omega) (Nat.zero_le _) _ rfl ?_; intro g cap w' hown hgrow hat hlt; have hb' := grown_blk hgrow (Blk.alloc hb _) d1; have q3' := hb'.cell 3; have qf' := hb'.frozen; simp only [List.getElem?_cons_zero, List.getElem?_cons_succ] at q3')
  go_end0
  exact ⟨rfl, mwent_row hB hI d1 d2 d3 (W := w.alloc _) ((Kp.refl _ _).alloc _) hown hgrow hat (by simp)⟩

set_option maxHeartbeats 1600000 in
theorem nlayMark_c {r : Nat} {s : ByteArray} {m : MS} {O : Nat → Prop} {w : World} (k : Nat) (hn : m.marks.length ≤ 2000) (_ : m.row.length ≤ 2000) (hk : k < m.marks.length) (h : Mp w r s m O) :
    Calls Tryz.prog 136 #[.pointer (some ⟨r, 0, none⟩), .int .i64 k] w fun e w' => e = .returned (.tuple #[]) ∧ MWent w O r s (layM m k) w' := by
  obtain ⟨nv, iv, hB, hN, hI, d1, d2, d3, rfl⟩ := h
  have hr := hB.lt
  have hb : Blk w r [.string s, .int .i64 m.p.1, .bool m.p.2, nv, iv] 84 := hB
  obtain ⟨g, cap, rfl, _, hg⟩ := World.ownsRow.form hI (by omega)
  obtain ⟨a, cap2, rfl⟩ := hN.shape
  have q3 := hb.cell 3
  have q4 := hb.cell 4
  simp only [List.getElem?_cons_zero, List.getElem?_cons_succ] at q3 q4
  have qf := hb.frozen
  have hgr : r ≠ g := fun e => d2 (by simp [Value.ownBlock, e])
  have ck : w.cell? ⟨g, k, none⟩ = some (.int .i64 m.marks[k]) := by
    have := Row.cell hI k (by omega)
    rw [this, mCells, List.getElem?_map, List.getElem?_eq_getElem hk]; rfl
  have cf := Row.frozen hI
  have hW : Hid (MWent w (Own r (.slice a m.row.length cap2) (.slice (some ⟨g, 0, none⟩) m.marks.length cap)) r s (layM m k) (w.setCell ⟨g, k, none⟩ (.int .i64 m.row.length))) := by
    refine ⟨_, ⟨.slice a m.row.length cap2, .slice (some ⟨g, 0, none⟩) m.marks.length cap, Blk.other hB _ hgr, Row.set hN _ (fun e => d3 g e rfl), ?_, d1, d2, d3, rfl⟩, (Kp.refl _ _).setCell _ (fun _ => .inr (.inr rfl)), fun b h _ => h⟩
    show Row _ _ _ _ (m.marks.set k m.row.length).length (mCells (m.marks.set k m.row.length))
    rw [List.length_set, mCells, List.map_set]
    exact hI.setIn _ _
  clear hI hN hB
  generalize m.marks[k] = mk at *
  go_enter Tryz.func136, Tryz.ntmps136
  go_wp2
  go_region
  all_goals
    go_wp2
    go_end0
    exact ⟨rfl, hW.out.drew⟩
end Go.Proofs.YtellieabhaphhaaGreatDoor
