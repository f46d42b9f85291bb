import Derived.Test.YtellieabhaphhabGreatDoorPPrunedL
/-
  narrow's run: a walk.
-/
namespace Go.Proofs.YtellieabhaphhabGreatDoor
open Go.RowKit

/-- A whole struct into the block that was made last. -/
theorem wp_store_new {P : Program} {op : Oper} {a : Act} {K : Act → World → Prop} {Q : Exit → Act → World → Prop} (w0 : World) (ty : TypeId) (x y : Operand) (c c' : Array Value) (ho : op.op = .store ty x y)
    (hx : a.eval x = .pointer (some ⟨w0.heap.size, 0, none⟩)) (hy : a.eval y = .agg c') (hi : (P.info? ty).map (·.size) = some c'.size) (hs : c.size = c'.size) (h1 : c'.all (·.oneCell') = true)
    (h : K (a.put op.dst undef) (w0.alloc (.cells c' ty))) : op.wp P a (w0.alloc (.cells c ty)) K Q := by
  unfold Oper.wp execOp
  simp only [ho, hx, hy, Sem.run_bind, run_storeAt_new w0 ty c c' hi hs h1, Result.andThen_ok, Sem.run_pure]
  exact h

theorem wpList_store_new {P : Program} {ops : Array Oper} {rest : List Oper} {op : Oper} {a : Act} {Q : Exit → Act → World → Prop} (hgd : op.guard = none) (w0 : World) (ty : TypeId) (x y : Operand) (c c' : Array Value) (ho : op.op = .store ty x y)
    (hx : a.eval x = .pointer (some ⟨w0.heap.size, 0, none⟩)) (hy : a.eval y = .agg c') (hi : (P.info? ty).map (·.size) = some c'.size) (hs : c.size = c'.size) (h1 : c'.all (·.oneCell') = true)
    (h : wpList P ops Q rest (a.put op.dst undef) (w0.alloc (.cells c' ty))) : wpList P ops Q (op :: rest) a (w0.alloc (.cells c ty)) :=
  wpList_plain hgd fun _ hK => wp_store_new w0 ty x y c c' ho hx hy hi hs h1 (hK _ _ h)

theorem wpList_build_at {P : Program} {ops : Array Oper} {rest : List Oper} {o : Oper} {a : Act} {w : World} {Q : Exit → Act → World → Prop} (hg : o.guard = none) (t : TypeId) (parts : Array (Nat × Operand)) (ho : o.op = .build t parts)
    (vals : List (Nat × Value)) (hv : (parts.map fun (i, x) => (i, a.eval x)).toList = vals) (cells : Array Value) (hb : P.built t vals = some cells)
    (h : wpList P ops Q rest (a.put o.dst (.agg cells)) w) : wpList P ops Q (o :: rest) a w :=
  wpList_build hg t parts ho (by rw [hv, hb]; rfl) (by rw [hv, hb]; exact h)

theorem built_run (inp : ByteArray) : Tryz.prog.built 91 [(1, .string inp)] = some #[.int .i64 0, .int .i64 0, .int .i64 0, .int .i64 0, .int .i64 0, .int .i64 0, .int .i64 0, .int .i64 0, .int .i64 0, .int .i64 0, .int .i64 0, .int .i64 0, .int .i64 0, .int .i64 0, .int .i64 0, .int .i64 0, .int .i64 0, .int .i64 0, .string inp, .int .i64 0, .string ⟨#[]⟩, .string ⟨#[]⟩] := by kernel_rfl

theorem wpList_runs {P : Program} {ops : Array Oper} {rest : List Oper} {o : Oper} {a : Act} {w : World} {Q : Exit → Act → World → Prop} (hg : o.guard = none) (v : Value) (w' : World)
    (hrun : (execOp a.eval o).run P w = .ok (.value v) w') (h : wpList P ops Q rest (a.put o.dst v) w') : wpList P ops Q (o :: rest) a w :=
  wpList_plain hg fun _ hK => by
    unfold Oper.wp
    rw [hrun]
    exact hK _ _ h

theorem info_run : (Tryz.prog.info? 91).map (fun i => (i.zero, i.size)) = some (some (.agg #[.int .i64 0, .int .i64 0, .int .i64 0, .int .i64 0, .int .i64 0, .int .i64 0, .int .i64 0, .int .i64 0, .int .i64 0, .int .i64 0, .int .i64 0, .int .i64 0, .int .i64 0, .int .i64 0, .int .i64 0, .int .i64 0, .int .i64 0, .int .i64 0, .string ⟨#[]⟩, .int .i64 0, .string ⟨#[]⟩, .string ⟨#[]⟩]), 22) := by kernel_rfl

theorem alloc_run (w : World) (ρ : Operand → Value) (o : Oper) (ho : o.op = .alloc 91) : (execOp ρ o).run Tryz.prog w = .ok (.value (.pointer (some ⟨w.heap.size, 0, none⟩))) (w.alloc (.cells #[.int .i64 0, .int .i64 0, .int .i64 0, .int .i64 0, .int .i64 0, .int .i64 0, .int .i64 0, .int .i64 0, .int .i64 0, .int .i64 0, .int .i64 0, .int .i64 0, .int .i64 0, .int .i64 0, .int .i64 0, .int .i64 0, .int .i64 0, .int .i64 0, .string ⟨#[]⟩, .int .i64 0, .string ⟨#[]⟩, .string ⟨#[]⟩] 91)) := by
  have hz := (zero_of_info info_run).1
  unfold execOp
  simp only [ho, Instr.alloc, Sem.run_bind, hz, Result.andThen_ok]
  rfl

theorem ntest_c {w : World} {r : Nat} {inp : ByteArray} {m : Mc} {nd : Nd} {x y v : Nat} {xu yu vu : Vl} (tx : ByteArray) (yes no : Int) (p : StPre w r inp m nd x y v xu yu vu) (ht : nd.op = 121 ∨ nd.op = 58) :
    Calls Tryz.prog 48 #[.pointer (some ⟨r, 0, none⟩), .agg (encN nd tx yes no).cells.toArray] w fun e w' =>
      e = .returned (.int .i64 0) ∧ NB w' r inp m ∧ Kp (· = r) w w' := by
  obtain ⟨nb, g, hinp, hx, hy, hv, gx, gy, gv, vw, hout, htab, he⟩ := p
  have vy := vw yu (List.mem_of_getElem? gy)
  have by1 := bits_in nd.op yu.k g.op vy.k
  rw [inK_all vy.k (by omega) (by omega) (by omega) (by omega) (by omega)] at by1
  obtain ⟨op, nx, ny, nv, k, t, f, a, l⟩ := nd
  dsimp only at *
  subst hx hy hv
  rcases ht with rfl | rfl
  · exact nstep_12 tx 0 0 0 0 yes no x y y yu yu nb gy gy by1 by1
  · exact nstep_13 tx 0 0 0 (bit k) yes no x y y yu yu nb gy gy by1 by1

theorem bit_eq {k l : Int} (h : KOk k) (h' : KOk l) : (bit k == bit l) = (k == l) := by
  unfold KOk at h h'
  rcases h with rfl | rfl | rfl | rfl | rfl | rfl | rfl <;> rcases h' with rfl | rfl | rfl | rfl | rfl | rfl | rfl <;> decide

theorem nwayOf_t {w : World} {r : Nat} {inp : ByteArray} {m : Mc} {nd : Nd} {y : Nat} {yu : Vl} (tx : ByteArray) (yes nno : Int) (nb : NB w r inp m) (g : Gn nd) (hy : nd.y = y) (gy : m.l[y]? = some yu) (vy : VW yu) (ht : nd.op = 121 ∨ nd.op = 58) :
    Calls Tryz.prog 49 #[.pointer (some ⟨r, 0, none⟩), .agg (encN nd tx yes nno).cells.toArray] w fun e w' =>
      e = .returned (.int .i64 (if holdF nd yu then yes else nno)) ∧ Kp no w w' := by
  have gkd := g.kd
  obtain ⟨op, nx, ny, nv, k, t, f, a, l⟩ := nd
  dsimp only at *
  subst hy
  rcases ht with rfl | rfl
  · refine nway_of tx 12 nx y 0 0 0 0 yes nno y yu nb gy _ ?_
    rw [if_pos rfl]
    show _ = (if (121 : Int) = 58 then _ else _)
    rw [if_neg (by decide)]
    have h1 := vy.k
    unfold KOk at h1
    rcases h1 with e | e | e | e | e | e | e <;> rw [e] <;> rfl
  · refine nway_of tx 13 nx y 0 0 0 (bit k) yes nno y yu nb gy _ ?_
    rw [if_neg (by decide), if_pos rfl]
    show _ = (if (58 : Int) = 58 then _ else _)
    rw [if_pos rfl]
    exact bit_eq vy.k (gkd (.inl rfl))

theorem nwayOf_n {w : World} {r : Nat} {inp : ByteArray} {m : Mc} {nd : Nd} {y : Nat} {yu : Vl} (tx : ByteArray) (yes nno : Int) (nb : NB w r inp m) (hy : nd.y = y) (gy : m.l[y]? = some yu) (ht : ¬ (nd.op = 121 ∨ nd.op = 58)) :
    Calls Tryz.prog 49 #[.pointer (some ⟨r, 0, none⟩), .agg (encN nd tx yes nno).cells.toArray] w fun e w' =>
      e = .returned (.int .i64 yes) ∧ Kp no w w' := by
  have ha := actN_t nd.op
  obtain ⟨op, nx, ny, nv, k, t, f, a, l⟩ := nd
  dsimp only at *
  subst hy
  refine nway_of tx (actN op) nx _ _ _ _ _ yes nno y yu nb gy true ?_
  rw [if_neg (fun e => ht (ha.1 (.inl e))), if_neg (fun e => ht (ha.1 (.inr e)))]

/-- narrow's nodes are the answer's. -/
def NEq (L : List NN) (nds : List Nd) : Prop :=
  L.length = nds.length ∧ ∀ (i : Nat) (nd : Nd), nds[i]? = some nd → Gn nd ∧ ∃ tx yes nno, L[i]? = some (encN nd tx yes nno) ∧ (nd.op ≠ 33 → yes = nd.t ∧ -1 ≤ nd.t ∧ nd.t ≤ 1000) ∧ (nd.op = 121 ∨ nd.op = 58 → nno = nd.f ∧ -1 ≤ nd.f ∧ nd.f ≤ 1000)

theorem NB.trC {w : World} {r : Nat} {inp : ByteArray} {m : Mc} (h : NB w r inp m) : w.cell? ⟨r, 20, none⟩ = some (.string m.tr) := by
  obtain ⟨hb, h6⟩ := h
  obtain ⟨l, rd, left, tr, outp, me⟩ := m
  dsimp only at *
  obtain ⟨a, b, c, d, e, f, rfl⟩ := six_of h6
  exact hb.cell 20

theorem doF_e {inp : ByteArray} {n : Nd} {x : Nat} {xu yu vu : Vl} {m : Mc} (h : m.e = 8) : (doF inp n x xu yu vu m).e = 8 ∧ n.op ≠ 33 ∨ (doF inp n x xu yu vu m).e = 5 ∨ (doF inp n x xu yu vu m).e = 6 ∨ (doF inp n x xu yu vu m).e = 7 := by
  unfold doF
  repeat' split
  · exact .inr (.inr (.inl rfl))
  · exact .inr (.inl rfl)
  · exact .inr (.inl rfl)
  all_goals first | exact .inr (.inr (.inr rfl)) | exact .inl ⟨h, by assumption⟩ | exact .inl ⟨(worF_l inp n yu vu m).2.trans h, by assumption⟩

theorem nextF_left (inp : ByteArray) (m : Mc) : (nextF inp m).2.left = m.left := by unfold nextF; split <;> rfl
theorem worF_left (inp : ByteArray) (n : Nd) (y v : Vl) (m : Mc) : (worF inp n y v m).2.left = m.left := by
  unfold worF
  repeat' split
  · exact nextF_left inp m
  all_goals rfl
theorem doF_left {inp : ByteArray} {n : Nd} {x : Nat} {xu yu vu : Vl} {m : Mc} : (doF inp n x xu yu vu m).left = m.left := by
  unfold doF
  repeat' split
  all_goals first | rfl | exact worF_left inp n yu vu m

theorem NB.kp {w w' : World} {S : Nat → Prop} {r : Nat} {inp : ByteArray} {m : Mc} (h : NB w r inp m) (k : Kp S w w') (hn : ¬ S r) : NB w' r inp m := ⟨k.blk h.b hn, h.six⟩

theorem wkF_end {k : Nat} {nds : List Nd} {inp : ByteArray} {m mc' : Mc} {a : Int} (h : wkF k nds inp m a = some mc') (he : m.e ≠ 8) : mc' = m := by
  cases k with
  | zero => simp [wkF] at h
  | succ k =>
    rw [wkF, if_neg (fun e => he e.2)] at h
    simpa using h.symm

theorem NEq.of {s : ByteArray} {nds : List Nd} (h : ∀ n ∈ nds, Gd s n) : NEq (nds.map (encX s)) nds := by
  refine ⟨by simp, fun i nd hi => ?_⟩
  have hg := h nd (List.mem_of_getElem? hi)
  have tf := hg.tf
  refine ⟨hg.g, _, _, _, by rw [List.getElem?_map, hi]; rfl, fun h3 => ⟨by rw [yesN, if_neg h3], tf.1⟩, fun ht => ⟨by rw [noN, if_pos ht], tf.2⟩⟩

set_option maxRecDepth 100000 in
set_option maxHeartbeats 6400000 in
theorem nwalk_c (v : Value) (L : List NN) (nds : List Nd) (inp : ByteArray) (fuel : Nat) (w : World) (hR : NRow w v L) (hq : NEq L nds) (hl : nds.length ≤ 100) (hinp : inp.size ≤ 40) (hf : fuel ≤ 300) (ht : Tab w) (F : Nat) (mc' : Mc) (hE : wkF F nds inp (mc0 fuel) 0 = some mc') :
    Calls Tryz.prog 25 #[v, .string inp, .int .i64 fuel] w fun e w' => e = .returned (.tuple #[.string mc'.tr, .string mc'.out, .int .i64 (endE mc'.e)]) ∧ Kp no w w' := by
  have htl := ht.lt
  have HE := hide hE
  have HQ := hide hq
  obtain ⟨a, cap, rfl⟩ := hR.shape
  have hll : L.length ≤ 100 := by rw [hq.1]; exact hl
  clear hE hq
  go_enter Tryz.func25, Tryz.ntmps25
  go_wp2_with (first
    | (refine wpList_build_at rfl 91 #[(1, .tmp 15)] rfl [(1, .string inp)] (by simp [Act.eval]) _ (built_run inp) ?_)
    | (refine wpList_runs rfl _ _ (alloc_run _ _ _ rfl) ?_)
    | (refine wpList_store_new rfl w 91 (.tmp 9) (.tmp 16) #[.int .i64 0, .int .i64 0, .int .i64 0, .int .i64 0, .int .i64 0, .int .i64 0, .int .i64 0, .int .i64 0, .int .i64 0, .int .i64 0, .int .i64 0, .int .i64 0, .int .i64 0, .int .i64 0, .int .i64 0, .int .i64 0, .int .i64 0, .int .i64 0, .string ⟨#[]⟩, .int .i64 0, .string ⟨#[]⟩, .string ⟨#[]⟩] #[.int .i64 0, .int .i64 0, .int .i64 0, .int .i64 0, .int .i64 0, .int .i64 0, .int .i64 0, .int .i64 0, .int .i64 0, .int .i64 0, .int .i64 0, .int .i64 0, .int .i64 0, .int .i64 0, .int .i64 0, .int .i64 0, .int .i64 0, .int .i64 0, .string inp, .int .i64 0, .string ⟨#[]⟩, .string ⟨#[]⟩] rfl (by simp [Act.eval, Act.put]) (by simp [Act.eval, Act.put]) (zero_of_info info_run).2 rfl (all_oneCell_toArray (by simp [Value.oneCell'])) ?_))
  go_loopg [17] 6 (fun k i wr => ∃ j : Nat, j ≤ 6 ∧ k = 6 - j ∧ i = .int .i64 j ∧ Blk wr w.heap.size (nvCells (lj j) ++ [.string inp, .int .i64 0, .string ⟨#[]⟩, .string ⟨#[]⟩]) 91 ∧ Kp no w wr)
  case atStart => exact ⟨0, by decide, rfl, rfl, Blk.new w _ _, (Kp.refl no w).alloc _⟩
  case round =>
    obtain ⟨j, hj, hk, rfl, hb, kr⟩ := hrel
    have HK := hide hk
    have HKR := hide kr
    clear hk kr
    have hbl := hb.lt
    rcases (show j = 6 ∨ j = 0 ∨ j = 1 ∨ j = 2 ∨ j = 3 ∨ j = 4 ∨ j = 5 by omega) with rfl | rfl | rfl | rfl | rfl | rfl | rfl
    · have HB := hide hb
      clear hb
      have HM := hide (show NB wr w.heap.size inp (mc0 fuel) from ⟨HB.out, rfl⟩)
      go_wp2
      go_loopg [11, 12] F (fun k av sv wx => ∃ (at1 : Int) (m1 : Mc) (st : Nat), av = .int .i64 at1 ∧ sv = .int .i64 st ∧ -1 ≤ at1 ∧ at1 ≤ 1000 ∧ NB wx w.heap.size inp m1 ∧ MOk m1 ∧ m1.e = 8 ∧ (∀ u ∈ m1.l, VW u) ∧ st + m1.left = fuel ∧ Kp no w wx ∧ wkF k nds inp m1 at1 = some mc')
      case atStart => exact ⟨0, mc0 fuel, 0, rfl, rfl, by decide, by decide, HM.out, mc0_ok fuel hf, rfl, fun u hu => by
        have : u = zv := by
          simp only [mc0, lj, Nat.sub_self, List.replicate_zero, List.append_nil] at hu
          exact List.eq_of_mem_replicate hu
        rw [this]; exact VW.plain (by decide), Nat.zero_add _, HKR.out, HE.out⟩
      case round =>
        clear HK hbl HB HM HKR HE
        obtain ⟨at1, m1, st, rfl, rfl, ha1, ha2, hnb, hok, he8, hvw, hst, kr, hE⟩ := hrel
        have HKR := hide kr
        have HNB := hide hnb
        have HOK := hide hok
        have HVW := hide hvw
        have hT := (ht.kp kr no_elim)
        have HT := hide hT
        have hbl := hnb.b.lt
        have tc := hnb.trC
        have oc := hnb.outC
        have bf := hnb.b.frozen
        have HRW := hide (kr.row hR (fun _ _ => no_elim))
        clear kr hnb hok hvw hT
        have hne : w.heap.size ≠ 0 := by omega
        cases gk with
        | zero => simp [wkF] at hE
        | succ k =>
          rw [wkF] at hE
          by_cases hgo : at1 < nds.length ∧ m1.e = 8
          case neg =>
            rw [if_neg hgo] at hE
            simp only [Option.some.injEq] at hE
            have HE := hide hE
            have hlt : ¬ at1 < L.length := fun e => hgo ⟨by rw [← HQ.out.1]; exact e, he8⟩
            have HE8 := hide he8
            clear hE hgo he8
            have d1 : decide (0 ≤ at1) = true := by simp; omega
            go_wp2
            go_quiet (fail)
            go_wp2
            go_ret3
            rw [← HE.out, HE8.out]
            exact ⟨rfl, HKR.out.drewN _⟩
          case pos =>
            rw [if_pos hgo] at hE
            split at hE
            case isFalse => simp at hE
            rename_i ha
            obtain ⟨at1, rfl⟩ := Int.eq_ofNat_of_zero_le ha.1
            rw [Int.toNat_natCast] at hE
            have hlt : at1 < L.length := by rw [HQ.out.1]; omega
            have ha100 : at1 < 100 := by omega
            clear ha ha1 ha2 hgo
            cases hnd : nds[at1]? with
            | none => rw [hnd] at hE; simp at hE
            | some nd =>
              rw [hnd] at hE
              dsimp only at hE
              obtain ⟨hgn, tx0, yes0, nno0, hLi, hyes, hno⟩ := HQ.out.2 at1 nd hnd
              obtain ⟨_, g, rfl, hg, q0, q1, q2, q3, q4, q5, q6, q7, q8, q9, q10⟩ := NRow.at HRW.out hLi
              split at hE
              case h_2 => simp at hE
              rename_i xu yu vu hxu hyu hvu
              by_cases hl0 : m1.left = 0
              · have es : startF m1 at1 = ({ m1 with e := 4 }, false) := by rw [startF, if_pos hl0]
                rw [es] at hE
                simp only [Bool.false_eq_true, if_false] at hE
                have hend := wkF_end hE (by show (4 : Int) ≠ 8; decide)
                have HE := hide hend
                clear hE hend es hLi hyes hno q0 q1 q2 q3 q4 q5 q6 q7 q8 q9 q10
                have hst2 : (fuel : Int) ≤ st := by omega
                clear hst he8
                go_wp2
                go_quiet (fail)
                go_wp2
                go_ret3
                rw [HE.out]
                exact ⟨rfl, HKR.out.drewN _⟩
              · have es : startF m1 at1 = ({ m1 with left := m1.left - 1, tr := m1.tr ++ toldB at1 m1.l ++ sp }, true) := by rw [startF, if_neg hl0]
                have hso := startF_ok at1 HOK.out
                rw [es] at hE hso
                simp only [if_true] at hE
                have hTL := hide (fun W (hW : NB W w.heap.size inp m1) => ntell_c at1 ha100 hW (by have := HOK.out.tr; omega) HVW.out)
                have hM0 : Hid (∀ W, NB W w.heap.size inp { m1 with tr := m1.tr ++ toldB at1 m1.l ++ sp } → NB W w.heap.size inp { m1 with left := m1.left - 1, tr := m1.tr ++ toldB at1 m1.l ++ sp }) := hide (fun W h => ⟨h.b, h.six⟩)
                have he80 : ({ m1 with left := m1.left - 1, tr := m1.tr ++ toldB at1 m1.l ++ sp } : Mc).e = 8 := he8
                have hl0' : ({ m1 with left := m1.left - 1, tr := m1.tr ++ toldB at1 m1.l ++ sp } : Mc).l = m1.l := rfl
                have hle0 : ({ m1 with left := m1.left - 1, tr := m1.tr ++ toldB at1 m1.l ++ sp } : Mc).left + 1 = m1.left := by show m1.left - 1 + 1 = m1.left; omega
                generalize ({ m1 with tr := m1.tr ++ toldB at1 m1.l ++ sp } : Mc) = mt at *
                generalize ({ m1 with left := m1.left - 1, tr := m1.tr ++ toldB at1 m1.l ++ sp } : Mc) = m0 at *
                dsimp only at hso
                have hPre := hide (fun W (hW : NB W w.heap.size inp m0) (hTW : Tab W) => (show StPre W w.heap.size inp m0 nd nd.x.toNat nd.y.toNat nd.v.toNat xu yu vu from
                  ⟨hW, hgn, hinp, by have := hgn.x; omega, by have := hgn.y; omega, by have := hgn.v; omega, by rw [hl0']; exact hxu, by rw [hl0']; exact hyu, by rw [hl0']; exact hvu, by rw [hl0']; exact HVW.out, by have := hso.2.1 rfl; omega, hTW, he80⟩))
                have vy := HVW.out yu (List.mem_of_getElem? hyu)
                have hst1 : (st : Int) < fuel := by omega
                have HE80 := hide he80
                by_cases htst : nd.op = 121 ∨ nd.op = 58
                · rw [if_pos htst] at hE
                  have HE := hide hE
                  have HS := hide (fun W (hW : NB W w.heap.size inp m0) (hTW : Tab W) => ntest_c tx0 yes0 nno0 (hPre.out W hW hTW) htst)
                  have HWY := hide (fun W (hW : NB W w.heap.size inp m0) => nwayOf_t tx0 yes0 nno0 hW hgn (show nd.y = (nd.y.toNat : Nat) by have := hgn.y; omega) (by rw [hl0']; exact hyu) vy htst)
                  obtain ⟨hy1, hy2, hy3⟩ := hyes (by omega)
                  obtain ⟨hn1, hn2, hn3⟩ := hno htst
                  have HAT := hide (show (if holdF nd yu then yes0 else nno0) = (if holdF nd yu then nd.t else nd.f) by rw [hy1, hn1])
                  have HBD := hide (show -1 ≤ (if holdF nd yu then nd.t else nd.f) ∧ (if holdF nd yu then nd.t else nd.f) ≤ 1000 by split <;> omega)
                  rw [HAT.out] at HWY
                  generalize (if holdF nd yu = true then nd.t else nd.f) = an at *
                  clear hE hyes hno hy1 hy2 hy3 hn1 hn2 hn3 htst HAT
                  generalize hnn : encN nd tx0 yes0 nno0 = n at *
                  have HNN := hide hnn
                  clear hnn
                  obtain ⟨tx, act, nx, ny, nw, ck, cn, ch, kd, yes, nno⟩ := n
                  unfold NN.cells at HS HWY
                  dsimp only at HS HWY q0 q1 q2 q3 q4 q5 q6 q7 q8 q9 q10
                  clear es hLi he80 hxu hvu hPre
                  have HL0 := hide hl0'
                  have HLE := hide hle0
                  have HST := hide hst
                  have HSO := hide hso
                  clear hl0' hle0 hst hso hgn he8 hl0 hyu vy
                  go_wp2_with fail
                  refine (hTL.out _ ⟨Blk.alloc HNB.out.b _, HNB.out.six⟩).mono ?_
                  rintro e w2 ⟨rfl, h2, k2⟩
                  have h2' := hM0.out _ h2
                  have hN2 : Blk w2 wr.heap.size [.string tx, .int .i64 act, .int .i64 nx, .int .i64 ny, .int .i64 nw, .int .i64 ck, .int .i64 cn, .int .i64 ch, .int .i64 kd, .int .i64 yes, .int .i64 nno] 68 := k2.blk (by (repeat' (first | ((with_reducible show (_ : List Value) = _); rfl) | ((with_reducible refine Blk.newAt _ _ _ ?_); first | with_reducible rfl | (simp; done)) | with_reducible refine Blk.alloc ?_ _ | with_reducible refine Blk.drewN ?_ _ | with_reducible refine Blk.drew ?_ | ((with_reducible refine Blk.other ?_ _ ?_); rotate_left; ((try dsimp only); omega)) | with_reducible refine Blk.setB (cs0 := ?_) ?_ ?_))) (by omega)
                  obtain ⟨d0, d1, d2, d3, d4, d5, d6, d7, d8, d9, d10, df⟩ := hN2.c11
                  have hz2 := hN2.lt
                  have hT2 : Tab w2 := (HT.out.kp ((Kp.refl no wr).alloc _) no_elim).kp k2 (fun e => hne e.symm)
                  have K2 : Kp no w w2 := (HKR.out.alloc _).trans k2 (fun x hx e => by omega)
                  have HK2 := hide K2
                  clear K2 q0 q1 q2 q3 q4 q5 q6 q7 q8 q9 q10 tc oc bf
                  go_wp2_with fail
                  refine (HS.out _ h2' hT2).mono ?_
                  rintro e w3 ⟨rfl, h3, k3⟩
                  have hN3 : Blk w3 wr.heap.size [.string tx, .int .i64 act, .int .i64 nx, .int .i64 ny, .int .i64 nw, .int .i64 ck, .int .i64 cn, .int .i64 ch, .int .i64 kd, .int .i64 yes, .int .i64 nno] 68 := k3.blk hN2 (by omega)
                  obtain ⟨e0, e1, e2, e3, e4, e5, e6, e7, e8, e9, e10, ef⟩ := hN3.c11
                  have hz3 := hN3.lt
                  have K3 : Kp no w w3 := HK2.out.trans k3 (fun x hx e => by omega)
                  have HK3 := hide K3
                  clear K3 d0 d1 d2 d3 d4 d5 d6 d7 d8 d9 d10 df
                  go_wp2_with fail
                  refine (HWY.out _ h3).mono ?_
                  rintro e w4 ⟨rfl, k4⟩
                  go_wp2
                  go_roundg k
                  case measure => omega
                  case rel => exact ⟨an, m0, st + 1, rfl, by go_num, HBD.out.1, HBD.out.2, h3.kp k4 no_elim, HSO.out.1, HE80.out, by rw [HL0.out]; exact HVW.out, by have := HLE.out; have := HST.out; omega, HK3.out.trans k4 (fun _ _ e => e), HE.out⟩
                · rw [if_neg htst] at hE
                  have HS := hide (fun W (hW : NB W w.heap.size inp m0) (hTW : Tab W) => nstep_c tx0 yes0 nno0 (hPre.out W hW hTW) htst)
                  have hde := doF_e (inp := inp) (n := nd) (x := nd.x.toNat) (xu := xu) (yu := yu) (vu := vu) he80
                  have hdv := doF_vw (inp := inp) (n := nd) (x := nd.x.toNat) (xu := xu) (yu := yu) (vu := vu) (m := m0) hgn (by rw [hl0']; exact HVW.out) vy (HVW.out vu (List.mem_of_getElem? hvu))
                  have hdo : MOk (doF inp nd nd.x.toNat xu yu vu m0) := doF_ok hgn.k (HOK.out.v yu (List.mem_of_getElem? hyu)) (HOK.out.v vu (List.mem_of_getElem? hvu)) hso.1 (hso.2.1 rfl)
                  have hdl : (doF inp nd nd.x.toNat xu yu vu m0).left = m0.left := doF_left
                  generalize doF inp nd nd.x.toNat xu yu vu m0 = md at *
                  by_cases h8 : md.e = 8
                  · have h33 : nd.op ≠ 33 := by
                      rcases hde with h | h | h | h
                      · exact h.2
                      · omega
                      · omega
                      · omega
                    obtain ⟨hy1, hy2, hy3⟩ := hyes h33
                    obtain ⟨yu2, hyu2⟩ : ∃ yu2, md.l[nd.y.toNat]? = some yu2 := ⟨_, List.getElem?_eq_getElem (by have := hdo.six; have := hgn.y; omega)⟩
                    have HWY := hide (fun W (hW : NB W w.heap.size inp md) => (nwayOf_n tx0 yes0 nno0 hW (show nd.y = (nd.y.toNat : Nat) by have := hgn.y; omega) hyu2 htst).mono (R' := fun e w' => e = .returned (.int .i64 nd.t) ∧ Kp no W w') (fun e w' h => ⟨h.1.trans (by rw [hy1]), h.2⟩))
                    have HE := hide hE
                    have hBD : -1 ≤ nd.t ∧ nd.t ≤ 1000 := ⟨hy2, hy3⟩
                    have HBD := hide hBD
                    rw [h8] at HS
                    rw [show endE 8 = 0 from rfl] at HS
                    have HH8 := hide h8
                    generalize nd.t = an at *
                    have HDV := hide hdv
                    have HDO := hide hdo
                    have HDL := hide hdl
                    clear hE hyes hno hy1 hy2 hy3 htst hde hyu2 hBD h8 hdv hdo hdl
                    generalize hnn : encN nd tx0 yes0 nno0 = n at *
                    have HNN := hide hnn
                    clear hnn
                    obtain ⟨tx, act, nx, ny, nw, ck, cn, ch, kd, yes, nno⟩ := n
                    unfold NN.cells at HS HWY
                    dsimp only at HS HWY q0 q1 q2 q3 q4 q5 q6 q7 q8 q9 q10
                    clear es hLi he80 hxu hvu hPre
                    have HL0 := hide hl0'
                    have HLE := hide hle0
                    have HST := hide hst
                    have HSO := hide hso
                    clear hl0' hle0 hst hso hgn he8 hl0 hyu vy
                    go_wp2_with fail
                    refine (hTL.out _ ⟨Blk.alloc HNB.out.b _, HNB.out.six⟩).mono ?_
                    rintro e w2 ⟨rfl, h2, k2⟩
                    have h2' := hM0.out _ h2
                    have hN2 : Blk w2 wr.heap.size [.string tx, .int .i64 act, .int .i64 nx, .int .i64 ny, .int .i64 nw, .int .i64 ck, .int .i64 cn, .int .i64 ch, .int .i64 kd, .int .i64 yes, .int .i64 nno] 68 := k2.blk (by (repeat' (first | ((with_reducible show (_ : List Value) = _); rfl) | ((with_reducible refine Blk.newAt _ _ _ ?_); first | with_reducible rfl | (simp; done)) | with_reducible refine Blk.alloc ?_ _ | with_reducible refine Blk.drewN ?_ _ | with_reducible refine Blk.drew ?_ | ((with_reducible refine Blk.other ?_ _ ?_); rotate_left; ((try dsimp only); omega)) | with_reducible refine Blk.setB (cs0 := ?_) ?_ ?_))) (by omega)
                    obtain ⟨d0, d1, d2, d3, d4, d5, d6, d7, d8, d9, d10, df⟩ := hN2.c11
                    have hz2 := hN2.lt
                    have hT2 : Tab w2 := (HT.out.kp ((Kp.refl no wr).alloc _) no_elim).kp k2 (fun e => hne e.symm)
                    have K2 : Kp no w w2 := (HKR.out.alloc _).trans k2 (fun x hx e => by omega)
                    have HK2 := hide K2
                    clear K2 q0 q1 q2 q3 q4 q5 q6 q7 q8 q9 q10 tc oc bf
                    go_wp2_with fail
                    refine (HS.out _ h2' hT2).mono ?_
                    rintro e w3 ⟨rfl, h3, k3⟩
                    have hN3 : Blk w3 wr.heap.size [.string tx, .int .i64 act, .int .i64 nx, .int .i64 ny, .int .i64 nw, .int .i64 ck, .int .i64 cn, .int .i64 ch, .int .i64 kd, .int .i64 yes, .int .i64 nno] 68 := k3.blk hN2 (by omega)
                    obtain ⟨e0, e1, e2, e3, e4, e5, e6, e7, e8, e9, e10, ef⟩ := hN3.c11
                    have hz3 := hN3.lt
                    have K3 : Kp no w w3 := HK2.out.trans k3 (fun x hx e => by omega)
                    have HK3 := hide K3
                    clear K3 d0 d1 d2 d3 d4 d5 d6 d7 d8 d9 d10 df
                    go_wp2_with fail
                    refine (HWY.out _ h3).mono ?_
                    rintro e w4 ⟨rfl, k4⟩
                    go_wp2
                    go_roundg k
                    case measure => omega
                    case rel => exact ⟨an, md, st + 1, rfl, by go_num, HBD.out.1, HBD.out.2, h3.kp k4 no_elim, HDO.out, HH8.out, HDV.out, by have := HLE.out; have := HST.out; have := HDL.out; omega, HK3.out.trans k4 (fun _ _ e => e), HE.out⟩
                  · have hend := wkF_end hE h8
                    have HE := hide hend
                    have h567 : md.e = 5 ∨ md.e = 6 ∨ md.e = 7 := by omega
                    have he' : endE md.e = md.e := by rw [endE, if_neg h8]
                    rw [← he'] at h567
                    have hec : (endE md.e == 0) = false := by simp; omega
                    generalize hge : endE md.e = ee at *
                    have HGE := hide hge
                    clear hE hyes hno htst hde hend h8 h567 he' hge hdv hdo hdl
                    generalize hnn : encN nd tx0 yes0 nno0 = n at *
                    have HNN := hide hnn
                    clear hnn
                    obtain ⟨tx, act, nx, ny, nw, ck, cn, ch, kd, yes, nno⟩ := n
                    unfold NN.cells at HS
                    dsimp only at HS q0 q1 q2 q3 q4 q5 q6 q7 q8 q9 q10
                    clear es hLi he80 hxu hvu hPre
                    have HL0 := hide hl0'
                    have HLE := hide hle0
                    have HST := hide hst
                    have HSO := hide hso
                    clear hl0' hle0 hst hso hgn he8 hl0 hyu vy
                    go_wp2_with fail
                    refine (hTL.out _ ⟨Blk.alloc HNB.out.b _, HNB.out.six⟩).mono ?_
                    rintro e w2 ⟨rfl, h2, k2⟩
                    have h2' := hM0.out _ h2
                    have hN2 : Blk w2 wr.heap.size [.string tx, .int .i64 act, .int .i64 nx, .int .i64 ny, .int .i64 nw, .int .i64 ck, .int .i64 cn, .int .i64 ch, .int .i64 kd, .int .i64 yes, .int .i64 nno] 68 := k2.blk (by (repeat' (first | ((with_reducible show (_ : List Value) = _); rfl) | ((with_reducible refine Blk.newAt _ _ _ ?_); first | with_reducible rfl | (simp; done)) | with_reducible refine Blk.alloc ?_ _ | with_reducible refine Blk.drewN ?_ _ | with_reducible refine Blk.drew ?_ | ((with_reducible refine Blk.other ?_ _ ?_); rotate_left; ((try dsimp only); omega)) | with_reducible refine Blk.setB (cs0 := ?_) ?_ ?_))) (by omega)
                    obtain ⟨d0, d1, d2, d3, d4, d5, d6, d7, d8, d9, d10, df⟩ := hN2.c11
                    have hz2 := hN2.lt
                    have hT2 : Tab w2 := (HT.out.kp ((Kp.refl no wr).alloc _) no_elim).kp k2 (fun e => hne e.symm)
                    have K2 : Kp no w w2 := (HKR.out.alloc _).trans k2 (fun x hx e => by omega)
                    have HK2 := hide K2
                    clear K2 q0 q1 q2 q3 q4 q5 q6 q7 q8 q9 q10 tc oc bf
                    go_wp2_with fail
                    refine (HS.out _ h2' hT2).mono ?_
                    rintro e w3 ⟨rfl, h3, k3⟩
                    have hN3 : Blk w3 wr.heap.size [.string tx, .int .i64 act, .int .i64 nx, .int .i64 ny, .int .i64 nw, .int .i64 ck, .int .i64 cn, .int .i64 ch, .int .i64 kd, .int .i64 yes, .int .i64 nno] 68 := k3.blk hN2 (by omega)
                    obtain ⟨e0, e1, e2, e3, e4, e5, e6, e7, e8, e9, e10, ef⟩ := hN3.c11
                    have hz3 := hN3.lt
                    have K3 : Kp no w w3 := HK2.out.trans k3 (fun x hx e => by omega)
                    have HK3 := hide K3
                    clear K3 d0 d1 d2 d3 d4 d5 d6 d7 d8 d9 d10 df
                    have tc := h3.trC
                    have oc := h3.outC
                    have bf := h3.b.frozen
                    go_wp2
                    go_quiet (fail)
                    go_wp2
                    go_ret3
                    rw [HE.out, HGE.out]
                    exact ⟨rfl, HK3.out.drewN _⟩
    · have hb' : Blk wr w.heap.size [.int .i64 0, .int .i64 0, .int .i64 0, .int .i64 0, .int .i64 0, .int .i64 0, .int .i64 0, .int .i64 0, .int .i64 0, .int .i64 0, .int .i64 0, .int .i64 0, .int .i64 0, .int .i64 0, .int .i64 0, .int .i64 0, .int .i64 0, .int .i64 0, .string inp, .int .i64 0, .string ⟨#[]⟩, .string ⟨#[]⟩] 91 := hb
      have z1 := hb'.cell 0
      have z2 := hb'.cell 1
      have z3 := hb'.cell 2
      have zf := hb'.frozen
      simp only [List.getElem?_cons_zero, List.getElem?_cons_succ] at z1 z2 z3
      clear hb
      go_wp2
      go_roundg (6 - 1)
      case measure => have := HK.out; omega
      case rel =>
        have kk := HKR.out
        refine ⟨1, by omega, rfl, by go_num, ?_, by (repeat' (first | with_reducible exact Kp.refl _ _ | with_reducible refine Kp.alloc ?_ _ | with_reducible refine Kp.drewN ?_ _ | with_reducible refine Kp.drew ?_ | with_reducible refine Kp.setCell ?_ _ ?_ | with_reducible refine Kp.trans ?_ kk (fun _ _ e => e) | (intro hh; first | rfl | exact .inl rfl | exact .inr rfl | (exfalso; (try dsimp only at hh); omega))))⟩
        show Blk _ _ [.int .i64 8, .int .i64 0, .int .i64 0, .int .i64 0, .int .i64 0, .int .i64 0, .int .i64 0, .int .i64 0, .int .i64 0, .int .i64 0, .int .i64 0, .int .i64 0, .int .i64 0, .int .i64 0, .int .i64 0, .int .i64 0, .int .i64 0, .int .i64 0, .string inp, .int .i64 0, .string ⟨#[]⟩, .string ⟨#[]⟩] _
        (repeat' (first | ((with_reducible show (_ : List Value) = _); rfl) | with_reducible exact hb' | ((with_reducible refine Blk.newAt _ _ _ ?_); first | with_reducible rfl | (simp; done)) | with_reducible refine Blk.alloc ?_ _ | with_reducible refine Blk.drewN ?_ _ | with_reducible refine Blk.drew ?_ | ((with_reducible refine Blk.other ?_ _ ?_); rotate_left; ((try dsimp only); omega)) | with_reducible refine Blk.setB (cs0 := ?_) ?_ ?_))
    · have hb' : Blk wr w.heap.size [.int .i64 8, .int .i64 0, .int .i64 0, .int .i64 0, .int .i64 0, .int .i64 0, .int .i64 0, .int .i64 0, .int .i64 0, .int .i64 0, .int .i64 0, .int .i64 0, .int .i64 0, .int .i64 0, .int .i64 0, .int .i64 0, .int .i64 0, .int .i64 0, .string inp, .int .i64 0, .string ⟨#[]⟩, .string ⟨#[]⟩] 91 := hb
      have z1 := hb'.cell 3
      have z2 := hb'.cell 4
      have z3 := hb'.cell 5
      have zf := hb'.frozen
      simp only [List.getElem?_cons_zero, List.getElem?_cons_succ] at z1 z2 z3
      clear hb
      go_wp2
      go_roundg (6 - 2)
      case measure => have := HK.out; omega
      case rel =>
        have kk := HKR.out
        refine ⟨2, by omega, rfl, by go_num, ?_, by (repeat' (first | with_reducible exact Kp.refl _ _ | with_reducible refine Kp.alloc ?_ _ | with_reducible refine Kp.drewN ?_ _ | with_reducible refine Kp.drew ?_ | with_reducible refine Kp.setCell ?_ _ ?_ | with_reducible refine Kp.trans ?_ kk (fun _ _ e => e) | (intro hh; first | rfl | exact .inl rfl | exact .inr rfl | (exfalso; (try dsimp only at hh); omega))))⟩
        show Blk _ _ [.int .i64 8, .int .i64 0, .int .i64 0, .int .i64 8, .int .i64 0, .int .i64 0, .int .i64 0, .int .i64 0, .int .i64 0, .int .i64 0, .int .i64 0, .int .i64 0, .int .i64 0, .int .i64 0, .int .i64 0, .int .i64 0, .int .i64 0, .int .i64 0, .string inp, .int .i64 0, .string ⟨#[]⟩, .string ⟨#[]⟩] _
        (repeat' (first | ((with_reducible show (_ : List Value) = _); rfl) | with_reducible exact hb' | ((with_reducible refine Blk.newAt _ _ _ ?_); first | with_reducible rfl | (simp; done)) | with_reducible refine Blk.alloc ?_ _ | with_reducible refine Blk.drewN ?_ _ | with_reducible refine Blk.drew ?_ | ((with_reducible refine Blk.other ?_ _ ?_); rotate_left; ((try dsimp only); omega)) | with_reducible refine Blk.setB (cs0 := ?_) ?_ ?_))
    · have hb' : Blk wr w.heap.size [.int .i64 8, .int .i64 0, .int .i64 0, .int .i64 8, .int .i64 0, .int .i64 0, .int .i64 0, .int .i64 0, .int .i64 0, .int .i64 0, .int .i64 0, .int .i64 0, .int .i64 0, .int .i64 0, .int .i64 0, .int .i64 0, .int .i64 0, .int .i64 0, .string inp, .int .i64 0, .string ⟨#[]⟩, .string ⟨#[]⟩] 91 := hb
      have z1 := hb'.cell 6
      have z2 := hb'.cell 7
      have z3 := hb'.cell 8
      have zf := hb'.frozen
      simp only [List.getElem?_cons_zero, List.getElem?_cons_succ] at z1 z2 z3
      clear hb
      go_wp2
      go_roundg (6 - 3)
      case measure => have := HK.out; omega
      case rel =>
        have kk := HKR.out
        refine ⟨3, by omega, rfl, by go_num, ?_, by (repeat' (first | with_reducible exact Kp.refl _ _ | with_reducible refine Kp.alloc ?_ _ | with_reducible refine Kp.drewN ?_ _ | with_reducible refine Kp.drew ?_ | with_reducible refine Kp.setCell ?_ _ ?_ | with_reducible refine Kp.trans ?_ kk (fun _ _ e => e) | (intro hh; first | rfl | exact .inl rfl | exact .inr rfl | (exfalso; (try dsimp only at hh); omega))))⟩
        show Blk _ _ [.int .i64 8, .int .i64 0, .int .i64 0, .int .i64 8, .int .i64 0, .int .i64 0, .int .i64 8, .int .i64 0, .int .i64 0, .int .i64 0, .int .i64 0, .int .i64 0, .int .i64 0, .int .i64 0, .int .i64 0, .int .i64 0, .int .i64 0, .int .i64 0, .string inp, .int .i64 0, .string ⟨#[]⟩, .string ⟨#[]⟩] _
        (repeat' (first | ((with_reducible show (_ : List Value) = _); rfl) | with_reducible exact hb' | ((with_reducible refine Blk.newAt _ _ _ ?_); first | with_reducible rfl | (simp; done)) | with_reducible refine Blk.alloc ?_ _ | with_reducible refine Blk.drewN ?_ _ | with_reducible refine Blk.drew ?_ | ((with_reducible refine Blk.other ?_ _ ?_); rotate_left; ((try dsimp only); omega)) | with_reducible refine Blk.setB (cs0 := ?_) ?_ ?_))
    · have hb' : Blk wr w.heap.size [.int .i64 8, .int .i64 0, .int .i64 0, .int .i64 8, .int .i64 0, .int .i64 0, .int .i64 8, .int .i64 0, .int .i64 0, .int .i64 0, .int .i64 0, .int .i64 0, .int .i64 0, .int .i64 0, .int .i64 0, .int .i64 0, .int .i64 0, .int .i64 0, .string inp, .int .i64 0, .string ⟨#[]⟩, .string ⟨#[]⟩] 91 := hb
      have z1 := hb'.cell 9
      have z2 := hb'.cell 10
      have z3 := hb'.cell 11
      have zf := hb'.frozen
      simp only [List.getElem?_cons_zero, List.getElem?_cons_succ] at z1 z2 z3
      clear hb
      go_wp2
      go_roundg (6 - 4)
      case measure => have := HK.out; omega
      case rel =>
        have kk := HKR.out
        refine ⟨4, by omega, rfl, by go_num, ?_, by (repeat' (first | with_reducible exact Kp.refl _ _ | with_reducible refine Kp.alloc ?_ _ | with_reducible refine Kp.drewN ?_ _ | with_reducible refine Kp.drew ?_ | with_reducible refine Kp.setCell ?_ _ ?_ | with_reducible refine Kp.trans ?_ kk (fun _ _ e => e) | (intro hh; first | rfl | exact .inl rfl | exact .inr rfl | (exfalso; (try dsimp only at hh); omega))))⟩
        show Blk _ _ [.int .i64 8, .int .i64 0, .int .i64 0, .int .i64 8, .int .i64 0, .int .i64 0, .int .i64 8, .int .i64 0, .int .i64 0, .int .i64 8, .int .i64 0, .int .i64 0, .int .i64 0, .int .i64 0, .int .i64 0, .int .i64 0, .int .i64 0, .int .i64 0, .string inp, .int .i64 0, .string ⟨#[]⟩, .string ⟨#[]⟩] _
        (repeat' (first | ((with_reducible show (_ : List Value) = _); rfl) | with_reducible exact hb' | ((with_reducible refine Blk.newAt _ _ _ ?_); first | with_reducible rfl | (simp; done)) | with_reducible refine Blk.alloc ?_ _ | with_reducible refine Blk.drewN ?_ _ | with_reducible refine Blk.drew ?_ | ((with_reducible refine Blk.other ?_ _ ?_); rotate_left; ((try dsimp only); omega)) | with_reducible refine Blk.setB (cs0 := ?_) ?_ ?_))
    · have hb' : Blk wr w.heap.size [.int .i64 8, .int .i64 0, .int .i64 0, .int .i64 8, .int .i64 0, .int .i64 0, .int .i64 8, .int .i64 0, .int .i64 0, .int .i64 8, .int .i64 0, .int .i64 0, .int .i64 0, .int .i64 0, .int .i64 0, .int .i64 0, .int .i64 0, .int .i64 0, .string inp, .int .i64 0, .string ⟨#[]⟩, .string ⟨#[]⟩] 91 := hb
      have z1 := hb'.cell 12
      have z2 := hb'.cell 13
      have z3 := hb'.cell 14
      have zf := hb'.frozen
      simp only [List.getElem?_cons_zero, List.getElem?_cons_succ] at z1 z2 z3
      clear hb
      go_wp2
      go_roundg (6 - 5)
      case measure => have := HK.out; omega
      case rel =>
        have kk := HKR.out
        refine ⟨5, by omega, rfl, by go_num, ?_, by (repeat' (first | with_reducible exact Kp.refl _ _ | with_reducible refine Kp.alloc ?_ _ | with_reducible refine Kp.drewN ?_ _ | with_reducible refine Kp.drew ?_ | with_reducible refine Kp.setCell ?_ _ ?_ | with_reducible refine Kp.trans ?_ kk (fun _ _ e => e) | (intro hh; first | rfl | exact .inl rfl | exact .inr rfl | (exfalso; (try dsimp only at hh); omega))))⟩
        show Blk _ _ [.int .i64 8, .int .i64 0, .int .i64 0, .int .i64 8, .int .i64 0, .int .i64 0, .int .i64 8, .int .i64 0, .int .i64 0, .int .i64 8, .int .i64 0, .int .i64 0, .int .i64 8, .int .i64 0, .int .i64 0, .int .i64 0, .int .i64 0, .int .i64 0, .string inp, .int .i64 0, .string ⟨#[]⟩, .string ⟨#[]⟩] _
        (repeat' (first | ((with_reducible show (_ : List Value) = _); rfl) | with_reducible exact hb' | ((with_reducible refine Blk.newAt _ _ _ ?_); first | with_reducible rfl | (simp; done)) | with_reducible refine Blk.alloc ?_ _ | with_reducible refine Blk.drewN ?_ _ | with_reducible refine Blk.drew ?_ | ((with_reducible refine Blk.other ?_ _ ?_); rotate_left; ((try dsimp only); omega)) | with_reducible refine Blk.setB (cs0 := ?_) ?_ ?_))
    · have hb' : Blk wr w.heap.size [.int .i64 8, .int .i64 0, .int .i64 0, .int .i64 8, .int .i64 0, .int .i64 0, .int .i64 8, .int .i64 0, .int .i64 0, .int .i64 8, .int .i64 0, .int .i64 0, .int .i64 8, .int .i64 0, .int .i64 0, .int .i64 0, .int .i64 0, .int .i64 0, .string inp, .int .i64 0, .string ⟨#[]⟩, .string ⟨#[]⟩] 91 := hb
      have z1 := hb'.cell 15
      have z2 := hb'.cell 16
      have z3 := hb'.cell 17
      have zf := hb'.frozen
      simp only [List.getElem?_cons_zero, List.getElem?_cons_succ] at z1 z2 z3
      clear hb
      go_wp2
      go_roundg (6 - 6)
      case measure => have := HK.out; omega
      case rel =>
        have kk := HKR.out
        refine ⟨6, by omega, rfl, by go_num, ?_, by (repeat' (first | with_reducible exact Kp.refl _ _ | with_reducible refine Kp.alloc ?_ _ | with_reducible refine Kp.drewN ?_ _ | with_reducible refine Kp.drew ?_ | with_reducible refine Kp.setCell ?_ _ ?_ | with_reducible refine Kp.trans ?_ kk (fun _ _ e => e) | (intro hh; first | rfl | exact .inl rfl | exact .inr rfl | (exfalso; (try dsimp only at hh); omega))))⟩
        show Blk _ _ [.int .i64 8, .int .i64 0, .int .i64 0, .int .i64 8, .int .i64 0, .int .i64 0, .int .i64 8, .int .i64 0, .int .i64 0, .int .i64 8, .int .i64 0, .int .i64 0, .int .i64 8, .int .i64 0, .int .i64 0, .int .i64 8, .int .i64 0, .int .i64 0, .string inp, .int .i64 0, .string ⟨#[]⟩, .string ⟨#[]⟩] _
        (repeat' (first | ((with_reducible show (_ : List Value) = _); rfl) | with_reducible exact hb' | ((with_reducible refine Blk.newAt _ _ _ ?_); first | with_reducible rfl | (simp; done)) | with_reducible refine Blk.alloc ?_ _ | with_reducible refine Blk.drewN ?_ _ | with_reducible refine Blk.drew ?_ | ((with_reducible refine Blk.other ?_ _ ?_); rotate_left; ((try dsimp only); omega)) | with_reducible refine Blk.setB (cs0 := ?_) ?_ ?_))
end Go.Proofs.YtellieabhaphhabGreatDoor

/-
  Walk: narrow's and the answer's, at every text.
-/
namespace Go.Proofs.YtellieabhaphhabGreatDoor
open Go.RowKit

set_option maxHeartbeats 800000 in
theorem nwithin_c (inp : ByteArray) (fuel : Int) (w : World) (hm : inp.size ≤ maxLen) :
    Calls Tryz.prog 23 #[.string inp, .int .i64 fuel] w fun e w' => e = .returned (.bool (decide (inp.size ≤ 40 ∧ 0 ≤ fuel ∧ fuel ≤ 300))) ∧ w' = w := by
  unfold maxLen at hm
  by_cases h1 : inp.size ≤ 40
  · by_cases h2 : 0 ≤ fuel
    · by_cases h3 : fuel ≤ 300
      · rw [decide_eq_true ⟨h1, h2, h3⟩]
        go_enter Tryz.func23, Tryz.ntmps23
        go_wp2
        go_ret
        exact ⟨rfl, rfl⟩
      · rw [decide_eq_false (fun e => h3 e.2.2)]
        have d3 : decide (fuel ≤ 300) = false := by simp; omega
        clear h3
        go_enter Tryz.func23, Tryz.ntmps23
        go_wp2
        go_ret
        exact ⟨rfl, rfl⟩
    · rw [decide_eq_false (fun e => h2 e.2.1)]
      have d3 : decide (0 ≤ fuel) = false := by simp; omega
      clear h2
      go_enter Tryz.func23, Tryz.ntmps23
      go_wp2
      go_ret
      exact ⟨rfl, rfl⟩
  · rw [decide_eq_false (fun e => h1 e.1)]
    have d3 : decide ((inp.size : Int) ≤ 40) = false := by simp; omega
    go_enter Tryz.func23, Tryz.ntmps23
    go_wp2
    go_ret
    exact ⟨rfl, rfl⟩

def em3 (c : Int) : Ending := .returned (.tuple #[.string ByteArray.empty, .string ByteArray.empty, .int .i64 c])

set_option maxHeartbeats 1600000 in
theorem nwalk_long (s inp : ByteArray) (fuel : Int) (w : World) (hm : inp.size ≤ maxLen) (h : ¬ (inp.size ≤ 40 ∧ 0 ≤ fuel ∧ fuel ≤ 300)) :
    Calls Tryz.prog 22 #[.string s, .string inp, .int .i64 fuel] w fun e w' => e = em3 1 ∧ Kp no w w' := by
  have HG := hide (nwithin_c inp fuel w hm)
  rw [decide_eq_false h] at HG
  clear h
  go_enter Tryz.func22, Tryz.ntmps22
  go_wp2_with fail
  refine HG.out.mono ?_
  rintro e w1 ⟨rfl, rfl⟩
  go_wp2
  go_ret3
  exact ⟨rfl, Kp.refl _ _⟩

set_option maxRecDepth 100000 in
set_option maxHeartbeats 1600000 in
theorem nwalk_good (s inp : ByteArray) (fuel : Nat) (w : World) (hm : inp.size ≤ 40) (h : fuel ≤ 300) (hs : s.size ≤ 900) (hb : (graE s).1 = 0) (ht : Tab w) (F : Nat) (mc' : Mc) (hE : wkF F (graF s).nodes inp (mc0 fuel) 0 = some mc') :
    Calls Tryz.prog 22 #[.string s, .string inp, .int .i64 fuel] w fun e w' => e = .returned (.tuple #[.string mc'.tr, .string mc'.out, .int .i64 (endE mc'.e)]) ∧ Kp no w w' := by
  have hm2 : inp.size ≤ maxLen := by unfold maxLen; omega
  have HG := hide (nwithin_c inp fuel w hm2)
  rw [decide_eq_true (by omega)] at HG
  have HS := hide (nog_c s w hs)
  have hlen := (graF_inv s).2
  unfold NogPost at HS
  rw [hb] at HS
  have HE := hide hE
  clear hb hE
  go_enter Tryz.func22, Tryz.ntmps22
  go_wp2_with fail
  refine HG.out.mono ?_
  rintro e w1 ⟨rfl, rfl⟩
  go_wp2_with fail
  refine HS.out.mono ?_
  rintro e w2 ⟨v, rfl, k2, hpost⟩
  obtain ⟨hR, hO, hgd⟩ := hpost trivial
  have HW := hide (nwalk_c v _ _ inp fuel w2 hR (NEq.of hgd) (by omega) hm h (ht.kp k2 no_elim) F mc' HE.out)
  clear hO hgd hpost HE HS HG
  generalize (graF s).nodes.map (encX s) = L at *
  obtain ⟨a, cap, rfl⟩ := hR.shape
  clear hR hlen
  go_wp2_with fail
  refine HW.out.mono ?_
  rintro e w3 ⟨rfl, k3⟩
  go_wp2
  go_ret3
  exact ⟨rfl, k2.trans k3 (fun _ _ e => e)⟩

theorem doF_six {inp : ByteArray} {n : Nd} {x : Nat} {xu yu vu : Vl} {m : Mc} (h : m.l.length = 6) : (doF inp n x xu yu vu m).l.length = 6 := by
  unfold doF
  repeat' split
  all_goals first | exact h | (show ((worF inp n yu vu m).2.l.set x _).length = 6; rw [List.length_set, (worF_l inp n yu vu m).1]; exact h)

theorem wkF_total (nds : List Nd) (inp : ByteArray) (hl : nds.length ≤ 90) (hg : ∀ n ∈ nds, Gn n ∧ (n.op ≠ 33 → 0 ≤ n.t) ∧ (n.op = 121 ∨ n.op = 58 → 0 ≤ n.f)) :
    ∀ (c : Nat) (m : Mc) (a : Int), m.left = c → m.l.length = 6 → (m.e = 8 → 0 ≤ a) → ∃ mc', wkF (c + 3) nds inp m a = some mc' := by
  intro c
  induction c with
  | zero =>
    intro m a hc h6 ha
    by_cases hgo : a < nds.length ∧ m.e = 8
    · obtain ⟨at1, rfl⟩ := Int.eq_ofNat_of_zero_le (ha hgo.2)
      obtain ⟨nd, hnd⟩ : ∃ nd, nds[at1]? = some nd := ⟨_, List.getElem?_eq_getElem (by omega)⟩
      have g := (hg nd (List.mem_of_getElem? hnd)).1
      obtain ⟨xu, hxu⟩ : ∃ u, m.l[nd.x.toNat]? = some u := ⟨_, List.getElem?_eq_getElem (by have := g.x; omega)⟩
      obtain ⟨yu, hyu⟩ : ∃ u, m.l[nd.y.toNat]? = some u := ⟨_, List.getElem?_eq_getElem (by have := g.y; omega)⟩
      obtain ⟨vu, hvu⟩ : ∃ u, m.l[nd.v.toNat]? = some u := ⟨_, List.getElem?_eq_getElem (by have := g.v; omega)⟩
      have es : startF m at1 = ({ m with e := 4 }, false) := by rw [startF, if_pos hc]
      refine ⟨{ m with e := 4 }, ?_⟩
      rw [wkF, if_pos hgo, if_pos ⟨by omega, by omega⟩, Int.toNat_natCast, hnd]
      simp only [hxu, hyu, hvu, es, Bool.false_eq_true, if_false]
      rw [wkF, if_neg (fun e => by have := e.2; simp at this)]
    · exact ⟨m, by rw [wkF, if_neg hgo]⟩
  | succ c ih =>
    intro m a hc h6 ha
    by_cases hgo : a < nds.length ∧ m.e = 8
    · obtain ⟨at1, rfl⟩ := Int.eq_ofNat_of_zero_le (ha hgo.2)
      obtain ⟨nd, hnd⟩ : ∃ nd, nds[at1]? = some nd := ⟨_, List.getElem?_eq_getElem (by omega)⟩
      obtain ⟨g, gt, gf⟩ := hg nd (List.mem_of_getElem? hnd)
      obtain ⟨xu, hxu⟩ : ∃ u, m.l[nd.x.toNat]? = some u := ⟨_, List.getElem?_eq_getElem (by have := g.x; omega)⟩
      obtain ⟨yu, hyu⟩ : ∃ u, m.l[nd.y.toNat]? = some u := ⟨_, List.getElem?_eq_getElem (by have := g.y; omega)⟩
      obtain ⟨vu, hvu⟩ : ∃ u, m.l[nd.v.toNat]? = some u := ⟨_, List.getElem?_eq_getElem (by have := g.v; omega)⟩
      have es : startF m at1 = ({ m with left := m.left - 1, tr := m.tr ++ toldB at1 m.l ++ sp }, true) := by rw [startF, if_neg (by omega)]
      rw [show c + 1 + 3 = (c + 3) + 1 from rfl, wkF, if_pos hgo, if_pos ⟨by omega, by omega⟩, Int.toNat_natCast, hnd]
      simp only [hxu, hyu, hvu, es, if_true]
      have hle : ({ m with left := m.left - 1, tr := m.tr ++ toldB at1 m.l ++ sp } : Mc).left = c := by show m.left - 1 = c; omega
      have h60 : ({ m with left := m.left - 1, tr := m.tr ++ toldB at1 m.l ++ sp } : Mc).l.length = 6 := h6
      have he0 : ({ m with left := m.left - 1, tr := m.tr ++ toldB at1 m.l ++ sp } : Mc).e = 8 := hgo.2
      generalize ({ m with left := m.left - 1, tr := m.tr ++ toldB at1 m.l ++ sp } : Mc) = m0 at *
      by_cases ht : nd.op = 121 ∨ nd.op = 58
      · rw [if_pos ht]
        refine ih m0 _ hle h60 (fun _ => ?_)
        split
        · exact gt (by omega)
        · exact gf ht
      · rw [if_neg ht]
        refine ih _ _ (by rw [doF_left]; exact hle) (doF_six h60) (fun e8 => ?_)
        rcases doF_e (inp := inp) (n := nd) (x := nd.x.toNat) (xu := xu) (yu := yu) (vu := vu) he0 with h | h | h | h
        · exact gt h.2
        · omega
        · omega
        · omega
    · exact ⟨m, by rw [wkF, if_neg hgo]⟩

theorem graF_total (s inp : ByteArray) (fuel : Nat) (hg : ∀ n ∈ (graF s).nodes, Gd s n) : ∃ F mc', wkF F (graF s).nodes inp (mc0 fuel) 0 = some mc' := by
  obtain ⟨mc', h⟩ := wkF_total (graF s).nodes inp (graF_inv s).2 (fun n hn => ⟨(hg n hn).g, fun h => ((hg n hn).t h).1, fun h => ((hg n hn).f h).1⟩) fuel (mc0 fuel) 0 rfl rfl (fun _ => Int.le_refl _)
  exact ⟨_, mc', h⟩
end Go.Proofs.YtellieabhaphhabGreatDoor

/-
  Plain: a walk with more fuel.
-/
namespace Go.Proofs.YtellieabhaphhabGreatDoor
open Go.RowKit

/-- a is the beginning of b. -/
def Pre (a b : ByteArray) : Prop := ∃ c, b = a ++ c
theorem Pre.refl (a : ByteArray) : Pre a a := ⟨ByteArray.empty, by simp⟩
theorem Pre.trans {a b c : ByteArray} (h : Pre a b) (k : Pre b c) : Pre a c := by
  obtain ⟨x, rfl⟩ := h
  obtain ⟨y, rfl⟩ := k
  exact ⟨x ++ y, by rw [ByteArray.append_assoc]⟩
theorem Pre.app (a b : ByteArray) : Pre a (a ++ b) := ⟨b, rfl⟩
theorem Pre.app2 (a b c : ByteArray) : Pre a (a ++ b ++ c) := (Pre.app a b).trans (Pre.app _ c)

theorem nextF_to (inp : ByteArray) (m : Mc) : (nextF inp m).2.tr = m.tr ∧ (nextF inp m).2.out = m.out := by unfold nextF; split <;> exact ⟨rfl, rfl⟩
theorem worF_to (inp : ByteArray) (n : Nd) (y v : Vl) (m : Mc) : (worF inp n y v m).2.tr = m.tr ∧ (worF inp n y v m).2.out = m.out := by
  unfold worF
  repeat' split
  all_goals first | exact ⟨rfl, rfl⟩ | exact nextF_to inp m
theorem doF_to (inp : ByteArray) (n : Nd) (x : Nat) (xu yu vu : Vl) (m : Mc) : (doF inp n x xu yu vu m).tr = m.tr ∧ Pre m.out (doF inp n x xu yu vu m).out := by
  have h := worF_to inp n yu vu m
  unfold doF
  repeat' split
  all_goals first | exact ⟨rfl, Pre.refl _⟩ | exact ⟨rfl, Pre.app2 _ _ _⟩ | exact ⟨h.1, by show Pre m.out (worF inp n yu vu m).2.out; rw [h.2]; exact Pre.refl _⟩

/-- One step of a walk: it ends, or goes on. -/
def wkS (ND : List Nd) (inp : ByteArray) (m : Mc) (a : Int) : Option (Option (Mc × Int)) :=
  if a < ND.length ∧ m.e = 8 then
    (if 0 ≤ a ∧ a < 100 then
      match ND[a.toNat]? with
      | none => none
      | some nd =>
        match m.l[nd.x.toNat]?, m.l[nd.y.toNat]?, m.l[nd.v.toNat]? with
        | some xu, some yu, some vu =>
          if m.left = 0 then some (some ({ m with e := 4 }, a))
          else (if nd.op = 121 ∨ nd.op = 58 then some (some ({ m with left := m.left - 1, tr := m.tr ++ toldB a.toNat m.l ++ sp }, (if holdF nd yu then nd.t else nd.f)))
            else some (some (doF inp nd nd.x.toNat xu yu vu { m with left := m.left - 1, tr := m.tr ++ toldB a.toNat m.l ++ sp }, nd.t)))
        | _, _, _ => none
    else none)
  else some none

theorem wkF_step (f : Nat) (ND : List Nd) (inp : ByteArray) (m : Mc) (a : Int) :
    wkF (f + 1) ND inp m a = match wkS ND inp m a with | none => none | some none => some m | some (some q) => wkF f ND inp q.1 q.2 := by
  rw [wkF, wkS]
  split
  · split
    · cases ND[a.toNat]? with
      | none => rfl
      | some nd =>
        dsimp only
        cases m.l[nd.x.toNat]? <;> cases m.l[nd.y.toNat]? <;> cases m.l[nd.v.toNat]? <;> try rfl
        dsimp only
        unfold startF
        by_cases hl : m.left = 0
        · rw [if_pos hl, if_pos hl]; rfl
        · rw [if_neg hl, if_neg hl]
          by_cases ht : nd.op = 121 ∨ nd.op = 58
          · rw [if_pos ht, if_pos ht]; rfl
          · rw [if_neg ht, if_neg ht]; rfl
    · rfl
  · rfl

end Go.Proofs.YtellieabhaphhabGreatDoor

/-
  Plain: a walk stays within the table.
-/
namespace Go.Proofs.YtellieabhaphhabGreatDoor
open Go.RowKit

/-- The kind k is in the set m. -/
def inB (m : Nat) (k : Int) : Prop := m.testBit (kix k.toNat) = true

theorem inB_and {a b : Nat} {k : Int} : inB (a &&& b) k ↔ inB a k ∧ inB b k := by unfold inB; rw [Nat.testBit_and, Bool.and_eq_true]
theorem inB_ne {m : Nat} {k : Int} (h : inB m k) : m ≠ 0 := fun e => by rw [e] at h; unfold inB at h; rw [Nat.zero_testBit] at h; cases h

theorem inB_self {k : Int} (h : KOk k) : inB (bitN k) k := by
  unfold KOk at h
  rcases h with rfl | rfl | rfl | rfl | rfl | rfl | rfl <;> (unfold inB; decide)
theorem inB_other {k q : Int} (h : KOk k) (hq : KOk q) (hne : ¬ k = q) : inB (127 ^^^ bitN q) k := by
  unfold KOk at h hq
  rcases h with rfl | rfl | rfl | rfl | rfl | rfl | rfl <;> rcases hq with rfl | rfl | rfl | rfl | rfl | rfl | rfl <;> first | exact absurd rfl hne | (unfold inB; decide)
theorem inB_all {k : Int} (h : KOk k) : inB 127 k := by
  unfold KOk at h
  rcases h with rfl | rfl | rfl | rfl | rfl | rfl | rfl <;> (unfold inB; decide)

theorem inK_iff {op k : Int} (h : KOk k) : inK op k = true ↔ inB (tkN op) k := by
  unfold KOk at h
  unfold inK takF tkN inB
  repeat' split
  all_goals (rcases h with rfl | rfl | rfl | rfl | rfl | rfl | rfl <;> decide)

theorem way_yes {nd : Nd} {u : Vl} (hn : Gn nd) (hu : VW u) (h : holdF nd u = true) : inB (wayM nd true) u.k := by
  unfold holdF at h
  unfold wayM
  by_cases h8 : nd.op = 58
  · rw [if_pos h8] at h ⊢
    have e : u.k = nd.k := by simpa using h
    rw [e]
    exact inB_self (hn.kd (.inl h8))
  · rw [if_neg h8] at h ⊢
    have hk := hu.k
    unfold KOk at hk
    simp only [Bool.and_eq_true, bne_iff_ne, ne_eq, Bool.or_eq_true] at h
    show inB 115 u.k
    rcases hk with e | e | e | e | e | e | e <;> rw [e] at h ⊢ <;> first | (unfold inB; decide) | (exfalso; omega)

theorem way_no {nd : Nd} {u : Vl} (hn : Gn nd) (hu : VW u) (h : holdF nd u = false) : inB (wayM nd false) u.k := by
  unfold holdF at h
  unfold wayM
  by_cases h8 : nd.op = 58
  · rw [if_pos h8] at h ⊢
    have e : ¬ u.k = nd.k := by simpa using h
    exact inB_other hu.k (hn.kd (.inl h8)) e
  · rw [if_neg h8] at h ⊢
    have hk := hu.k
    unfold KOk at hk
    show inB 13 u.k
    rcases hk with e | e | e | e | e | e | e <;> rw [e] at h ⊢ <;> first | (unfold inB; decide) | (exfalso; simp at h)

/-- Each variable's value is of a kind of the state. -/
structure InS (l : List Vl) (S : St) : Prop where
  sl : S.length = 6
  ll : l.length = 6
  v : ∀ i u, l[i]? = some u → inB (S.getD i 0) u.k

theorem InS.ne {l : List Vl} {S : St} (h : InS l S) : S ≠ [] := fun e => by have := h.sl; rw [e] at this; cases this

theorem InS.put {l : List Vl} {S : St} {x m : Nat} {u : Vl} (h : InS l S) (hx : x < 6) (hm : inB m u.k) : InS (l.set x u) (withS S x m) := by
  have e : withS S x m = S.set x m := by rw [withS, if_neg (by rintro (h0 | h0); exact h.ne h0; exact inB_ne hm h0)]
  rw [e]
  refine ⟨by rw [List.length_set]; exact h.sl, by rw [List.length_set]; exact h.ll, fun i q hq => ?_⟩
  by_cases hi : x = i
  · subst hi
    rw [List.getElem?_set_self (by have := h.ll; omega)] at hq
    obtain rfl : u = q := by simpa using hq
    rw [List.getD_eq_getElem?_getD, List.getElem?_set_self (by have := h.sl; omega)]
    exact hm
  · rw [List.getElem?_set_ne hi] at hq
    rw [List.getD_eq_getElem?_getD, List.getElem?_set_ne hi, ← List.getD_eq_getElem?_getD]
    exact h.v i q hq

theorem vset_self {l : List Vl} {x : Nat} {u : Vl} (h : l[x]? = some u) : l.set x u = l := by
  obtain ⟨hx, rfl⟩ := List.getElem?_eq_some_iff.1 h
  exact List.set_getElem_self hx

theorem InS.with {l : List Vl} {S : St} {x m : Nat} {u : Vl} (h : InS l S) (hu : l[x]? = some u) (hm : inB m u.k) : InS l (withS S x m) := by
  have hx : x < 6 := by have := (List.getElem?_eq_some_iff.1 hu).1; have := h.ll; omega
  have := h.put hx hm
  rwa [vset_self hu] at this

theorem InS.sub {l : List Vl} {S R : St} (h : InS l S) (k : SubS S R) : InS l R := by
  rcases k with k | ⟨_, k2, k3⟩
  · exact absurd k h.ne
  · refine ⟨k2, h.ll, fun i u hu => ?_⟩
    have hi : i < 6 := by have := (List.getElem?_eq_some_iff.1 hu).1; have := h.ll; omega
    have := h.v i u hu
    rw [← k3 i hi] at this
    exact (inB_and.1 this).2

theorem hld_in {nd : Nd} {l : List Vl} {S : St} {yu : Vl} (hn : Gn nd) (h : InS l S) (hy : l[nd.y.toNat]? = some yu) (hu : VW yu) (b : Bool) (hb : holdF nd yu = b) : InS l (hldF nd b S) := by
  unfold hldF
  refine h.with hy (inB_and.2 ⟨h.v _ _ hy, ?_⟩)
  cases b
  · exact way_no hn hu hb
  · exact way_yes hn hu hb

theorem inVal_k (c : Nat) : KOk (inVal c).k := by
  unfold inVal KOk
  repeat' split
  all_goals simp

theorem wor_in {inp : ByteArray} {nd : Nd} {yu vu : Vl} {m : Mc} {y' : Nat} (hn : Gn nd) (hu : VW yu) (hy : inB y' yu.k) (hk : inK nd.op yu.k = true) (ho : ¬ (nd.op = 33 ∨ nd.op = 42 ∨ nd.op = 94 ∨ nd.op = 126 ∨ nd.op = 121 ∨ nd.op = 58)) :
    inB (givN nd.op y') (worF inp nd yu vu m).1.k := by
  have hop := hn.op
  unfold opOk at hop
  unfold worF
  by_cases h1 : nd.op = 63
  · rw [if_pos h1]
    have e : givN nd.op y' = 127 := by rw [h1]; rfl
    rw [e]
    unfold nextF
    split
    · exact inB_all (inVal_k _)
    · exact inB_all (inVal_k _)
  rw [if_neg h1]
  by_cases h2 : nd.op = 118
  · rw [if_pos h2]
    have e : givN nd.op y' = y' := by rw [h2]; rfl
    rw [e]; exact hy
  rw [if_neg h2]
  by_cases h3 : nd.op = 43
  · rw [if_pos h3]
    have e : givN nd.op y' = 1 := by rw [h3]; rfl
    rw [e]; show inB 1 110; unfold inB; decide
  rw [if_neg h3]
  by_cases h4 : nd.op = 60
  · rw [if_pos h4]
    have e : givN nd.op y' = 6 := by rw [h4]; rfl
    rw [e]
    split
    · show inB 6 116; unfold inB; decide
    · show inB 6 102; unfold inB; decide
  rw [if_neg h4]
  by_cases h5 : nd.op = 65
  · rw [if_pos h5]
    have e : givN nd.op y' = 16 := by rw [h5]; rfl
    rw [e]; show inB 16 65; unfold inB; decide
  rw [if_neg h5]
  by_cases h6 : nd.op = 66
  · rw [if_pos h6]
    have e : givN nd.op y' = 32 := by rw [h6]; rfl
    rw [e]; show inB 32 66; unfold inB; decide
  rw [if_neg h6]
  by_cases h7 : nd.op = 46
  · rw [if_pos h7]
    have e : givN nd.op y' = ((if y'.testBit 4 then 1 else 0) ||| (if y'.testBit 5 then 14 else 0)) := by rw [h7]; rfl
    rw [e]
    have hkk := (inK_iff hu.k).1 hk
    rw [h7] at hkk
    have hk2 := hu.k
    unfold KOk at hk2
    have hor : ∀ {a b : Nat} {k : Int}, inB a k ∨ inB b k → inB (a ||| b) k := fun h => by unfold inB at h ⊢; rw [Nat.testBit_or, Bool.or_eq_true]; exact h
    show inB _ (partF yu).k
    unfold partF
    rcases hk2 with e1 | e1 | e1 | e1 | e1 | e1 | e1
    · rw [e1] at hkk; exact absurd hkk (by unfold inB; decide)
    · rw [e1] at hkk; exact absurd hkk (by unfold inB; decide)
    · rw [e1] at hkk; exact absurd hkk (by unfold inB; decide)
    · rw [e1] at hkk; exact absurd hkk (by unfold inB; decide)
    · rw [if_pos e1]
      rw [e1] at hy
      have hb : y'.testBit 4 = true := hy
      rw [if_pos hb]
      exact hor (.inl (by show inB 1 110; unfold inB; decide))
    · rw [if_neg (show ¬ yu.k = 65 by rw [e1]; decide)]
      rw [e1] at hy
      have hb : y'.testBit 5 = true := hy
      rw [if_pos hb]
      refine hor (.inr ?_)
      rcases hu.b e1 with h | h | h
      · show inB 14 yu.v; rw [h]; unfold inB; decide
      · show inB 14 yu.v; rw [h]; unfold inB; decide
      · show inB 14 yu.v; rw [h]; unfold inB; decide
    · rw [e1] at hkk; exact absurd hkk (by unfold inB; decide)
  rw [if_neg h7]
  rcases (show nd.op = 48 ∨ nd.op = 84 ∨ nd.op = 70 ∨ nd.op = 90 ∨ nd.op = 67 by omega) with h | h | h | h | h
  all_goals
    have e : givN nd.op y' = bitN (consF nd).k := by unfold consF; rw [h]; rfl
    rw [e]
    refine inB_self ?_
    unfold consF KOk
    rw [h]
    simp

theorem wor_l (inp : ByteArray) (n : Nd) (y v : Vl) (m : Mc) : (worF inp n y v m).2.l = m.l := (worF_l inp n y v m).1

theorem do_in {inp : ByteArray} {nd : Nd} {m : Mc} {S : St} {xu yu vu : Vl} (hn : Gn nd) (h : InS m.l S) (hx : m.l[nd.x.toNat]? = some xu) (hy : m.l[nd.y.toNat]? = some yu) (hv : m.l[nd.v.toNat]? = some vu) (wy : VW yu) (wv : VW vu)
    (ht : ¬ (nd.op = 121 ∨ nd.op = 58)) (he : (doF inp nd nd.x.toNat xu yu vu m).e = 8) : InS (doF inp nd nd.x.toNat xu yu vu m).l (behF nd S) := by
  have hx6 : nd.x.toNat < 6 := by have := hn.x; omega
  unfold doF at he ⊢
  unfold behF
  by_cases h33 : nd.op = 33
  · rw [if_pos h33] at he; exact absurd he (by show ¬ (6 : Int) = 8; decide)
  rw [if_neg h33] at he ⊢
  rw [if_neg h33]
  cases hk : inK nd.op yu.k
  · rw [if_pos hk] at he; exact absurd he (by show ¬ (5 : Int) = 8; decide)
  rw [hk, if_neg (by decide)] at he
  rw [if_neg (by decide)]
  by_cases hk2 : (nd.op = 43 ∨ nd.op = 60) ∧ inK nd.op vu.k = false
  · rw [if_pos hk2] at he; exact absurd he (by show ¬ (5 : Int) = 8; decide)
  rw [if_neg hk2] at he ⊢
  by_cases h42 : nd.op = 42
  · rw [if_pos h42, if_pos (.inl h42)]; exact h
  rw [if_neg h42] at he ⊢
  by_cases h94 : nd.op = 94
  · rw [if_pos h94, if_pos (.inr h94)]; exact h
  rw [if_neg h94] at he ⊢
  rw [if_neg (by omega : ¬ (nd.op = 42 ∨ nd.op = 94))]
  by_cases h126 : nd.op = 126
  · rw [if_pos h126] at he ⊢
    rw [if_pos h126]
    by_cases hkk : xu.k = nd.k
    · rw [if_pos hkk]
      refine h.with hx (inB_and.2 ⟨h.v _ _ hx, ?_⟩)
      rw [hkk]
      exact inB_self (hn.kd (.inr h126))
    · rw [if_neg hkk] at he; exact absurd he (by show ¬ (7 : Int) = 8; decide)
  rw [if_neg h126] at he ⊢
  rw [if_neg h126]
  have hyk : inB (S.getD nd.y.toNat 0 &&& tkN nd.op) yu.k := inB_and.2 ⟨h.v _ _ hy, (inK_iff wy.k).1 hk⟩
  have h1 : InS m.l (withS S nd.y.toNat (S.getD nd.y.toNat 0 &&& tkN nd.op)) := h.with hy hyk
  have hw := wor_in (inp := inp) (vu := vu) (m := m) hn wy hyk hk (by omega)
  show InS ((worF inp nd yu vu m).2.l.set nd.x.toNat (worF inp nd yu vu m).1) _
  rw [wor_l]
  by_cases h2 : nd.op = 43 ∨ nd.op = 60
  · rw [if_pos ⟨h1.ne, h2⟩]
    have hvk : inK nd.op vu.k = true := by
      cases hq : inK nd.op vu.k
      · exact absurd ⟨h2, hq⟩ hk2
      · rfl
    exact (h1.with hv (inB_and.2 ⟨h1.v _ _ hv, (inK_iff wv.k).1 hvk⟩)).put hx6 hw
  · rw [if_neg (fun e => h2 e.2)]
    exact h1.put hx6 hw
end Go.Proofs.YtellieabhaphhabGreatDoor

/-
  Plain: every event of a walk lies within the table.
-/
namespace Go.Proofs.YtellieabhaphhabGreatDoor
open Go.RowKit

theorem wkS_none {ND : List Nd} {inp : ByteArray} {m : Mc} {a : Int} (h : wkS ND inp m a = some none) : ¬ (a < ND.length ∧ m.e = 8) := by
  intro hgo
  unfold wkS at h
  rw [if_pos hgo] at h
  split at h
  · split at h
    · simp at h
    · split at h
      · split at h
        · simp at h
        · split at h <;> simp at h
      · simp at h
  · simp at h

theorem wkS_cases {ND : List Nd} {inp : ByteArray} {m : Mc} {a : Int} {q : Mc × Int} (h : wkS ND inp m a = some (some q)) :
    a < ND.length ∧ m.e = 8 ∧ 0 ≤ a ∧ ∃ nd xu yu vu, ND[a.toNat]? = some nd ∧ m.l[nd.x.toNat]? = some xu ∧ m.l[nd.y.toNat]? = some yu ∧ m.l[nd.v.toNat]? = some vu ∧
      ((m.left = 0 ∧ q = ({ m with e := 4 }, a)) ∨ (m.left ≠ 0 ∧ (((nd.op = 121 ∨ nd.op = 58) ∧ q = ({ m with left := m.left - 1, tr := m.tr ++ toldB a.toNat m.l ++ sp }, (if holdF nd yu then nd.t else nd.f))) ∨
        (¬ (nd.op = 121 ∨ nd.op = 58) ∧ q = (doF inp nd nd.x.toNat xu yu vu { m with left := m.left - 1, tr := m.tr ++ toldB a.toNat m.l ++ sp }, nd.t))))) := by
  unfold wkS at h
  split at h
  case isFalse => simp at h
  rename_i hgo
  split at h
  case isFalse => simp at h
  rename_i ha
  cases hnd : ND[a.toNat]? with
  | none => rw [hnd] at h; simp at h
  | some nd =>
    rw [hnd] at h
    dsimp only at h
    split at h
    case h_2 => simp at h
    rename_i xu yu vu hx hy hv
    refine ⟨hgo.1, hgo.2, ha.1, nd, xu, yu, vu, rfl, hx, hy, hv, ?_⟩
    by_cases hl : m.left = 0
    · rw [if_pos hl] at h
      simp only [Option.some.injEq] at h
      exact .inl ⟨hl, h.symm⟩
    · rw [if_neg hl] at h
      by_cases ht : nd.op = 121 ∨ nd.op = 58
      · rw [if_pos ht] at h
        simp only [Option.some.injEq] at h
        exact .inr ⟨hl, .inl ⟨ht, h.symm⟩⟩
      · rw [if_neg ht] at h
        simp only [Option.some.injEq] at h
        exact .inr ⟨hl, .inr ⟨ht, h.symm⟩⟩

theorem rch_in {T : Tbl} {j : Int} {s : St} {l : List Vl} (h : Rch T j s) (hi : InS l s) (hj : 0 ≤ j) (hl : j < T.length) : InS l (T.getD j.toNat []) := by
  rcases h with h | h | h | h
  · omega
  · omega
  · exact absurd h hi.ne
  · exact hi.sub h

end Go.Proofs.YtellieabhaphhabGreatDoor

/-
  Plain: a walk of the pruned graph.
-/
namespace Go.Proofs.YtellieabhaphhabGreatDoor
open Go.RowKit

/-- The machine with another trace. -/
def wT (m : Mc) (t : ByteArray) : Mc := { m with tr := t }

theorem nextF_wT (inp : ByteArray) (m : Mc) (t : ByteArray) : nextF inp (wT m t) = ((nextF inp m).1, wT (nextF inp m).2 t) := by
  unfold nextF wT; dsimp only; split <;> rfl
theorem worF_wT (inp : ByteArray) (n : Nd) (y v : Vl) (m : Mc) (t : ByteArray) : worF inp n y v (wT m t) = ((worF inp n y v m).1, wT (worF inp n y v m).2 t) := by
  unfold worF
  repeat' split
  all_goals first | rfl | exact nextF_wT inp m t
theorem doF_wT (inp : ByteArray) (n : Nd) (x : Nat) (xu yu vu : Vl) (m : Mc) (t : ByteArray) : doF inp n x xu yu vu (wT m t) = wT (doF inp n x xu yu vu m) t := by
  unfold doF
  rw [worF_wT]
  repeat' split
  all_goals rfl

theorem doF_op {inp : ByteArray} {a b : Nd} (h1 : a.op = b.op) (h5 : a.k = b.k) (x : Nat) (xu yu vu : Vl) (m : Mc) : doF inp a x xu yu vu m = doF inp b x xu yu vu m := by
  unfold doF worF consF
  rw [h1, h5]

theorem holdF_op {a b : Nd} (h1 : a.op = b.op) (h5 : a.k = b.k) (u : Vl) : holdF a u = holdF b u := by
  unfold holdF; rw [h1, h5]

theorem doF_star {inp : ByteArray} {n : Nd} (h : n.op = 42) (x : Nat) (xu vu : Vl) {yu : Vl} (hy : VW yu) (m : Mc) : doF inp n x xu yu vu m = m := by
  have hk : inK n.op yu.k = true := by
    rw [inK_iff hy.k, h]
    exact inB_all hy.k
  unfold doF
  rw [if_neg (by omega), if_neg (by rw [hk]; decide), if_neg (by omega), if_pos h]

theorem wkS_at {ND : List Nd} {inp : ByteArray} {m : Mc} {a : Int} {nd : Nd} {xu yu vu : Vl} (hlt : a < ND.length) (h8 : m.e = 8) (h0 : 0 ≤ a) (h1 : a < 100) (hnd : ND[a.toNat]? = some nd)
    (hx : m.l[nd.x.toNat]? = some xu) (hy : m.l[nd.y.toNat]? = some yu) (hv : m.l[nd.v.toNat]? = some vu) :
    wkS ND inp m a = if m.left = 0 then some (some ({ m with e := 4 }, a))
          else (if nd.op = 121 ∨ nd.op = 58 then some (some ({ m with left := m.left - 1, tr := m.tr ++ toldB a.toNat m.l ++ sp }, (if holdF nd yu then nd.t else nd.f)))
            else some (some (doF inp nd nd.x.toNat xu yu vu { m with left := m.left - 1, tr := m.tr ++ toldB a.toNat m.l ++ sp }, nd.t))) := by
  unfold wkS
  rw [if_pos ⟨hlt, h8⟩, if_pos ⟨h0, h1⟩, hnd]
  dsimp only
  rw [hx, hy, hv]

theorem wkF_stop {k : Nat} {ND : List Nd} {inp : ByteArray} {m r : Mc} {a b : Int} {ND2 : List Nd} {m2 : Mc} (h : wkF k ND2 inp m2 b = some r) (he : ¬ (a < ND.length ∧ m.e = 8)) : wkF k ND inp m a = some m := by
  cases k with
  | zero => simp [wkF] at h
  | succ k => rw [wkF, if_neg he]

theorem told_sz (m : Mc) (t : ByteArray) (a b : Nat) (h : t.size = m.tr.size) : (t ++ toldB a m.l ++ sp).size = (m.tr ++ toldB b m.l ++ sp).size := by
  simp only [ByteArray.size_append, told_size, h]

theorem wk_prn {l l' : List Nd} (hl : Gl l) (h : Prn l (lstF l) l') {inp : ByteArray} :
    ∀ (F : Nat) (m : Mc) (t : ByteArray) (a : Int) (r : Mc), wkF F l inp m a = some r → m.e = 8 → (∀ u ∈ m.l, VW u) → m.l.length = 6 → 0 ≤ a → a ≤ l.length → (a < l.length → InS m.l ((lstF l).getD a.toNat [])) → t.size = m.tr.size →
      ∃ t', wkF F l' inp (wT m t) (cntF (lstF l) a.toNat : Nat) = some (wT r t') ∧ t'.size = r.tr.size := by
  have hlen := lst_len l
  have h90 : l'.length ≤ 90 := by rw [h.len]; have := cnt_le (lstF l) (lstF l).length; have := hl.n; omega
  intro F
  induction F with
  | zero => intro m t a r h; simp [wkF] at h
  | succ f ih =>
    intro m t a r hw h8 hvw h6 ha hal hin ht
    have hw0 := hw
    rw [wkF_step] at hw
    cases hs : wkS l inp m a with
    | none => rw [hs] at hw; simp at hw
    | some o =>
      rw [hs] at hw
      cases o with
      | none =>
        simp only [Option.some.injEq] at hw
        subst hw
        have hn := wkS_none hs
        have hal2 : a = l.length := by
          apply Classical.byContradiction
          intro hc
          exact hn ⟨by omega, h8⟩
        refine ⟨t, wkF_stop hw0 (fun hc => ?_), ht⟩
        have := hc.1
        rw [h.len, hlen, hal2, Int.toNat_natCast] at this
        omega
      | some q =>
        obtain ⟨hlt, _, _, nd, xu, yu, vu, hnd, hx, hy, hv, hq⟩ := wkS_cases hs
        have hS := hin hlt
        have hmem := List.mem_of_getElem? hnd
        have gn := hl.g nd hmem
        have hkp := (lst_keeps l hl.n _ nd hnd).resolve_left hS.ne
        have wy := hvw yu (List.mem_of_getElem? hy)
        have wv := hvw vu (List.mem_of_getElem? hv)
        obtain ⟨nd', hnd', hE⟩ := h.at' _ nd hnd hS.ne
        have hcl := cnt_lt hS.ne
        have hlt' : ((cntF (lstF l) a.toNat : Nat) : Int) < l'.length := by rw [h.len]; omega
        have h100 : ((cntF (lstF l) a.toNat : Nat) : Int) < 100 := by omega
        have hnd2 : l'[((cntF (lstF l) a.toNat : Nat) : Int).toNat]? = some nd' := by rw [Int.toNat_natCast]; exact hnd'
        have hstep : ∀ xu' yu' vu', m.l[nd'.x.toNat]? = some xu' → m.l[nd'.y.toNat]? = some yu' → m.l[nd'.v.toNat]? = some vu' → wkS l' inp (wT m t) (cntF (lstF l) a.toNat : Nat) = if m.left = 0 then some (some ({ wT m t with e := 4 }, ((cntF (lstF l) a.toNat : Nat) : Int)))
          else (if nd'.op = 121 ∨ nd'.op = 58 then some (some ({ wT m t with left := m.left - 1, tr := t ++ toldB (cntF (lstF l) a.toNat) m.l ++ sp }, (if holdF nd' yu' then nd'.t else nd'.f)))
            else some (some (doF inp nd' nd'.x.toNat xu' yu' vu' { wT m t with left := m.left - 1, tr := t ++ toldB (cntF (lstF l) a.toNat) m.l ++ sp }, nd'.t))) :=
          fun xu' yu' vu' q1 q2 q3 => by
            have := wkS_at (inp := inp) (m := wT m t) hlt' h8 (Int.natCast_nonneg _) h100 hnd2 (xu := xu') (yu := yu') (vu := vu') q1 q2 q3
            rw [Int.toNat_natCast] at this
            exact this
        have hsz := told_sz m t (cntF (lstF l) a.toNat) a.toNat ht
        have hvals : ∀ z : Int, z = 0 → ∃ u, m.l[z.toNat]? = some u := fun z hz => by
          subst hz
          exact ⟨m.l[0], List.getElem?_eq_getElem (by omega)⟩
        generalize t ++ toldB (cntF (lstF l) a.toNat) m.l ++ sp = t2 at *
        generalize (lstF l).getD a.toNat [] = S at *
        rcases hq with ⟨hl0, rfl⟩ | ⟨hl0, ⟨htt, rfl⟩ | ⟨htt, rfl⟩⟩
        · have hr := wkF_end hw (by show (4 : Int) ≠ 8; decide)
          have hlk : ∃ xu' yu' vu', m.l[nd'.x.toNat]? = some xu' ∧ m.l[nd'.y.toNat]? = some yu' ∧ m.l[nd'.v.toNat]? = some vu' := by
            rcases prn_cases _ nd S nd' hE with ⟨_, _, _, e1, e2, e3, e4, _⟩ | ⟨_, _, e1, e2, e3, e4, _⟩ | ⟨_, _, _, e1, e2, e3, e4, _⟩ | ⟨_, e1, e2, e3, e4, _⟩
            · exact ⟨xu, yu, vu, by rw [e2]; exact hx, by rw [e3]; exact hy, by rw [e4]; exact hv⟩
            · obtain ⟨u1, v1⟩ := hvals _ e2; obtain ⟨u2, v2⟩ := hvals _ e3; obtain ⟨u3, v3⟩ := hvals _ e4
              exact ⟨u1, u2, u3, v1, v2, v3⟩
            · obtain ⟨u1, v1⟩ := hvals _ e2; obtain ⟨u2, v2⟩ := hvals _ e3; obtain ⟨u3, v3⟩ := hvals _ e4
              exact ⟨u1, u2, u3, v1, v2, v3⟩
            · exact ⟨xu, yu, vu, by rw [e2]; exact hx, by rw [e3]; exact hy, by rw [e4]; exact hv⟩
          obtain ⟨xu', yu', vu', q1, q2, q3⟩ := hlk
          refine ⟨t, ?_, by rw [hr]; exact ht⟩
          rw [wkF_step, hstep xu' yu' vu' q1 q2 q3, if_pos hl0, hr]
          dsimp only
          exact wkF_stop hw (fun hc => absurd hc.2 (by show ¬ (4 : Int) = 8; decide))
        · -- a test
          have hkt := hkp.2 htt
          have hIn := fun b hb => hld_in gn hS hy wy b hb
          rcases prn_cases _ nd S nd' hE with ⟨_, _, _, e1, e2, e3, e4, e5, e6, e7⟩ | ⟨_, b1, e1, e2, e3, e4, e6⟩ | ⟨_, b1, b2, e1, e2, e3, e4, e6⟩ | ⟨hc, _⟩
          · have hst := hstep xu yu vu (by rw [e2]; exact hx) (by rw [e3]; exact hy) (by rw [e4]; exact hv)
            rw [if_neg hl0, if_pos (by rw [e1]; exact htt)] at hst
            cases hb : holdF nd yu
            · rw [hb, if_neg (by decide)] at hw
              rw [holdF_op e1 e5, hb, if_neg (by decide), e7, ren_way (hIn false hb).ne] at hst
              obtain ⟨t', w1, w2⟩ := ih { m with left := m.left - 1, tr := m.tr ++ toldB a.toNat m.l ++ sp } t2 nd.f r hw h8 hvw h6 (hl.f nd hmem htt).1 (hl.f nd hmem htt).2 (fun hlt2 => rch_in hkt.2 (hIn false hb) (hl.f nd hmem htt).1 (by omega)) hsz
              exact ⟨t', by rw [wkF_step, hst]; exact w1, w2⟩
            · rw [hb, if_pos rfl] at hw
              rw [holdF_op e1 e5, hb, if_pos rfl, e6, ren_way (hIn true hb).ne] at hst
              obtain ⟨t', w1, w2⟩ := ih { m with left := m.left - 1, tr := m.tr ++ toldB a.toNat m.l ++ sp } t2 nd.t r hw h8 hvw h6 (hl.t nd hmem (by omega)).1 (hl.t nd hmem (by omega)).2 (fun hlt2 => rch_in hkt.1 (hIn true hb) (hl.t nd hmem (by omega)).1 (by omega)) hsz
              exact ⟨t', by rw [wkF_step, hst]; exact w1, w2⟩
          · obtain ⟨u1, v1⟩ := hvals _ e2; obtain ⟨u2, v2⟩ := hvals _ e3; obtain ⟨u3, v3⟩ := hvals _ e4
            have hst := hstep u1 u2 u3 v1 v2 v3
            rw [if_neg hl0, if_neg (by rw [e1]; decide), doF_star e1 _ _ _ (hvw u2 (List.mem_of_getElem? v2))] at hst
            cases hb : holdF nd yu
            · rw [hb, if_neg (by decide)] at hw
              rw [e6, ren_way (hIn false hb).ne] at hst
              obtain ⟨t', w1, w2⟩ := ih { m with left := m.left - 1, tr := m.tr ++ toldB a.toNat m.l ++ sp } t2 nd.f r hw h8 hvw h6 (hl.f nd hmem htt).1 (hl.f nd hmem htt).2 (fun hlt2 => rch_in hkt.2 (hIn false hb) (hl.f nd hmem htt).1 (by omega)) hsz
              exact ⟨t', by rw [wkF_step, hst]; exact w1, w2⟩
            · exact absurd b1 (hIn true hb).ne
          · obtain ⟨u1, v1⟩ := hvals _ e2; obtain ⟨u2, v2⟩ := hvals _ e3; obtain ⟨u3, v3⟩ := hvals _ e4
            have hst := hstep u1 u2 u3 v1 v2 v3
            rw [if_neg hl0, if_neg (by rw [e1]; decide), doF_star e1 _ _ _ (hvw u2 (List.mem_of_getElem? v2))] at hst
            cases hb : holdF nd yu
            · exact absurd b2 (hIn false hb).ne
            · rw [hb, if_pos rfl] at hw
              rw [e6, ren_way (hIn true hb).ne] at hst
              obtain ⟨t', w1, w2⟩ := ih { m with left := m.left - 1, tr := m.tr ++ toldB a.toNat m.l ++ sp } t2 nd.t r hw h8 hvw h6 (hl.t nd hmem (by omega)).1 (hl.t nd hmem (by omega)).2 (fun hlt2 => rch_in hkt.1 (hIn true hb) (hl.t nd hmem (by omega)).1 (by omega)) hsz
              exact ⟨t', by rw [wkF_step, hst]; exact w1, w2⟩
          · exact absurd htt hc
        · have hkb := hkp.1 htt
          rcases prn_cases _ nd S nd' hE with ⟨hc, _⟩ | ⟨hc, _⟩ | ⟨hc, _⟩ | ⟨_, e1, e2, e3, e4, e5, e6, e7⟩
          · exact absurd hc htt
          · exact absurd hc htt
          · exact absurd hc htt
          have hst := hstep xu yu vu (by rw [e2]; exact hx) (by rw [e3]; exact hy) (by rw [e4]; exact hv)
          rw [if_neg hl0, if_neg (by rw [e1]; exact htt), doF_op e1 e5, e2] at hst
          have hm2 : ({ wT m t with left := m.left - 1, tr := t2 } : Mc) = wT { m with left := m.left - 1, tr := m.tr ++ toldB a.toNat m.l ++ sp } t2 := rfl
          rw [hm2, doF_wT] at hst
          have hS0 : InS ({ m with left := m.left - 1, tr := m.tr ++ toldB a.toNat m.l ++ sp } : Mc).l S := hS
          have hx0 : ({ m with left := m.left - 1, tr := m.tr ++ toldB a.toNat m.l ++ sp } : Mc).l[nd.x.toNat]? = some xu := hx
          have hy0 : ({ m with left := m.left - 1, tr := m.tr ++ toldB a.toNat m.l ++ sp } : Mc).l[nd.y.toNat]? = some yu := hy
          have hv0 : ({ m with left := m.left - 1, tr := m.tr ++ toldB a.toNat m.l ++ sp } : Mc).l[nd.v.toNat]? = some vu := hv
          have hvw0 : ∀ u ∈ ({ m with left := m.left - 1, tr := m.tr ++ toldB a.toNat m.l ++ sp } : Mc).l, VW u := hvw
          have h60 : ({ m with left := m.left - 1, tr := m.tr ++ toldB a.toNat m.l ++ sp } : Mc).l.length = 6 := h6
          have hsz0 : t2.size = ({ m with left := m.left - 1, tr := m.tr ++ toldB a.toNat m.l ++ sp } : Mc).tr.size := hsz
          generalize ({ m with left := m.left - 1, tr := m.tr ++ toldB a.toNat m.l ++ sp } : Mc) = m0 at *
          have hto := (doF_to inp nd nd.x.toNat xu yu vu m0).1
          by_cases he : (doF inp nd nd.x.toNat xu yu vu m0).e = 8
          · have h33 : nd.op ≠ 33 := fun e => by unfold doF at he; rw [if_pos e] at he; exact absurd he (by show ¬ (6 : Int) = 8; decide)
            have hdi := do_in (inp := inp) gn hS0 hx0 hy0 hv0 wy wv htt he
            rw [e6 h33, ren_way hdi.ne] at hst
            obtain ⟨t', w1, w2⟩ := ih _ t2 nd.t r hw he (doF_vw gn hvw0 wy wv) (doF_six h60) (hl.t nd hmem h33).1 (hl.t nd hmem h33).2 (fun hlt2 => rch_in hkb hdi (hl.t nd hmem h33).1 (by omega)) (by rw [hto]; exact hsz0)
            exact ⟨t', by rw [wkF_step, hst]; exact w1, w2⟩
          · have hr := wkF_end hw he
            refine ⟨t2, ?_, by rw [hr]; show t2.size = (doF inp nd nd.x.toNat xu yu vu m0).tr.size; rw [hto]; exact hsz0⟩
            rw [wkF_step, hst, hr]
            exact wkF_stop hw (fun hc => absurd hc.2 he)
theorem told_9 (a : Nat) (l : List Vl) (h : l.length = 6) : (toldB a l ++ sp).size = 9 := by
  rw [ByteArray.size_append, toldB, kindsB_size, twoB_size, h]
  rfl

theorem wk_trsz {nds : List Nd} {inp : ByteArray} : ∀ (F : Nat) (m : Mc) (a : Int) (r : Mc), wkF F nds inp m a = some r → m.l.length = 6 → r.tr.size ≤ m.tr.size + 9 * m.left := by
  intro F
  induction F with
  | zero => intro m a r h; simp [wkF] at h
  | succ f ih =>
    intro m a r h h6
    rw [wkF_step] at h
    cases hs : wkS nds inp m a with
    | none => rw [hs] at h; simp at h
    | some o =>
      rw [hs] at h
      cases o with
      | none =>
        simp only [Option.some.injEq] at h
        subst h
        omega
      | some q =>
        obtain ⟨_, _, _, nd, xu, yu, vu, _, _, _, _, hq⟩ := wkS_cases hs
        have ht := told_9 a.toNat m.l h6
        have hs2 : (m.tr ++ toldB a.toNat m.l ++ sp).size = m.tr.size + 9 := by rw [ByteArray.append_assoc, ByteArray.size_append, ht]
        rcases hq with ⟨_, rfl⟩ | ⟨hl, ⟨_, rfl⟩ | ⟨_, rfl⟩⟩
        · rw [wkF_end h (by show (4 : Int) ≠ 8; decide)]
          show m.tr.size ≤ _
          omega
        · have := ih _ _ r h h6
          have e1 : ({ m with left := m.left - 1, tr := m.tr ++ toldB a.toNat m.l ++ sp } : Mc).tr.size = m.tr.size + 9 := hs2
          have e2 : ({ m with left := m.left - 1, tr := m.tr ++ toldB a.toNat m.l ++ sp } : Mc).left = m.left - 1 := rfl
          rw [e1, e2] at this
          omega
        · have := ih _ _ r h (doF_six h6)
          rw [(doF_to inp nd nd.x.toNat xu yu vu _).1, doF_left] at this
          have e1 : ({ m with left := m.left - 1, tr := m.tr ++ toldB a.toNat m.l ++ sp } : Mc).tr.size = m.tr.size + 9 := hs2
          have e2 : ({ m with left := m.left - 1, tr := m.tr ++ toldB a.toNat m.l ++ sp } : Mc).left = m.left - 1 := rfl
          rw [e1, e2] at this
          omega

end Go.Proofs.YtellieabhaphhabGreatDoor
