import Derived.Test.YtellieabhaphhabGreatDoorPAllK
namespace Go.Proofs.YtellieabhaphhabGreatDoor
open Go.RowKit
theorem mk_lay {m:MS} {k k' v:Nat} (h:m.marks[k]?=some v) (hne:k'≠k):(layM m k').marks[k]?=some v:=by
 show (m.marks.set k' _)[k]?=_
 rw [List.getElem?_set_ne hne,h]
theorem fin_first {M:MS} {Ld:Nat→Int} {W:Nat→Int × Int × Bool} (h:Fin' M Ld W) {m m':MS} (hx:Ag 0 m.row m'.row) (hM:Ag 0 m'.row M.row) (hn:∃ n,m'.row[m.row.length]?=some n∧n.act≠15):Ld m.row.length=(nj m.row:Nat):=by
 obtain ⟨n,n1,n2⟩:=hn
 have:=(h.node _ _ (hM.at (Nat.zero_le _) n1) n2).1
 rw [(hx.trans hM).take (Nat.le_refl _),List.take_length] at this
 exact this
theorem blk_at {R:RS→RS} {s:ByteArray} {st:RS} (hb:st.bad=false) (h:pk s st.i=123):blkF R s st=eatS s (R { st with i:=st.i+1 }) 125:=by
 unfold blkF
 rw [eatS_at hb h (by decide),if_neg (by rw [hb];decide)]
theorem par_cho {f:Nat} {s:ByteArray} {S:Int→Int→MS→MS} {R:RS→RS} {lp:Bool} {h b:Int} {m:MS} {st:RS} (hs:s.size≤1000) (hS:SMG s f S) (hG:SGp s f S) (hP:SPar s f 125 S R)
  (hl:lpOk lp h b) (hlp:decide (st.loops≠0)=lp) (hp:m.p=(st.i,false)) (hb:st.bad=false) (hf:s.size-st.i<f+1) (hfr:FR s m.row st.nodes) (hpk:pk s st.i=40)
  (hg:(choM f S s h b m).p.2=false):OPar s f lp h b m st (choM f S s h b m) (ifF f R s st):=by
 have hc:pkb s m.p=40:=by rw [hp,pkb_false];exact hpk
 obtain ⟨e1,e2,e3⟩:=eat_at (c:=40) hc (by decide)
 have hin:st.i<s.size:=by rw [hp] at e2;exact e2
 unfold choM at hg ⊢
 dsimp only at hg ⊢
 have hL:=new3_len m
 have X1:Xe 0 m (expM s (new3 m) [40]):=xe_new3.trans (xe_exp _)
 have L1:(expM s (new3 m) [40]).marks.length=m.marks.length+3:=hL
 have R1:(expM s (new3 m) [40]).row=m.row:=rfl
 have p1:(expM s (new3 m) [40]).p=(st.i+1,false):=by rw [expM_p,new3_p,e1,hp]
 generalize expM s (new3 m) [40]=x1 at *
 have q1:x1.p.1=st.i+1:=by rw [p1]
 have g2:=condM_mc f s m.marks.length (m.marks.length+1:Nat) x1 (by omega) (by omega)
 have C2:=par_cond f s m.marks.length (m.marks.length+1:Nat) x1 (pushI (nextI st) 105 0) hs p1 hb (by show st.i+1≤_;omega) (by show s.size-(st.i+1)<f;omega) (by rw [R1];exact hfr)
 generalize condM f s m.marks.length (m.marks.length+1:Nat) x1=x2 at *
 have g3:=expM_mg (l:=[123]) (by decide) g2.i
 have k3:=fun z=>exp1_good (s:=s) (p:=x2.p) (c:=123) z
 have X3:Xe 0 x2 (expM s x2 [123]):=xe_exp _
 have R3:(expM s x2 [123]).row=x2.row:=rfl
 have M3:(expM s x2 [123]).marks=x2.marks:=rfl
 have P3:(expM s x2 [123]).p=expF s x2.p [123]:=rfl
 generalize expM s x2 [123]=x3 at *
 have g4:=layM_mg (k:=m.marks.length) g3.i
 have R4:(layM x3 m.marks.length).row=x3.row:=rfl
 have P4:(layM x3 m.marks.length).p=x3.p:=rfl
 have L4:=layM_len x3 m.marks.length
 have X4:Xe (m.marks.length+1) x3 (layM x3 m.marks.length):=xe_lay (Nat.lt_succ_self _)
 have A4:m.marks.length<x3.marks.length→(layM x3 m.marks.length).marks[m.marks.length]?=some x3.row.length:=fun z=>lay_at z
 have Y4:Xe 0 m x3→Xe 0 m (layM x3 m.marks.length):=fun z=>z.lay (.inr (Nat.le_refl _))
 generalize layM x3 m.marks.length=x4 at *
 have lo4:x1.p.1≤x4.p.1:=Nat.le_trans g2.lo (Nat.le_trans g3.lo g4.lo)
 have i4:=g4.i
 have g5:=hS h b x4 g4.i (fun _=>by omega)
 have k5:=hG h b x4 g4.i (fun _=>by omega)
 have S5:=fun r=>hP lp h b x4 r hl
 generalize S h b x4=x5 at *
 have g6:=expM_mg (l:=[125,123]) (by decide) g5.i
 have k6:=fun z=>exp2_good (s:=s) (p:=x5.p) (c:=125) (d:=123) z
 have X6:Xe 0 x5 (expM s x5 [125,123]):=xe_exp _
 have R6:(expM s x5 [125,123]).row=x5.row:=rfl
 have P6:(expM s x5 [125,123]).p=expF s x5.p [125,123]:=rfl
 generalize expM s x5 [125,123]=x6 at *
 have p7:=jmpM_p x6 (m.marks.length+2:Nat)
 have X7:Xe 0 x6 (jmpM x6 (m.marks.length+2:Nat)):=xe_jmp _
 have R7:(jmpM x6 (m.marks.length+2:Nat)).row=x6.row++[jumpN (m.marks.length+2:Nat)]:=rfl
 have M7:(jmpM x6 (m.marks.length+2:Nat)).marks=x6.marks:=rfl
 generalize jmpM x6 (m.marks.length+2:Nat)=x7 at *
 have g8:=layM_mg (s:=s) (m:=x7) (k:=m.marks.length+1) (by rw [p7];exact g6.i)
 have R8:(layM x7 (m.marks.length+1)).row=x7.row:=rfl
 have P8:(layM x7 (m.marks.length+1)).p=x7.p:=rfl
 have L8:=layM_len x7 (m.marks.length+1)
 have X8:Xe (m.marks.length+2) x7 (layM x7 (m.marks.length+1)):=xe_lay (by omega)
 have A8:m.marks.length+1<x7.marks.length→(layM x7 (m.marks.length+1)).marks[m.marks.length+1]?=some x7.row.length:=fun z=>lay_at z
 have B8:∀ v,x7.marks[m.marks.length]?=some v→(layM x7 (m.marks.length+1)).marks[m.marks.length]?=some v:=fun v z=>mk_lay z (by omega)
 have Y8:Xe 0 m x7→Xe 0 m (layM x7 (m.marks.length+1)):=fun z=>z.lay (.inr (by omega))
 generalize layM x7 (m.marks.length+1)=x8 at *
 have lo8:x4.p.1≤x8.p.1:=Nat.le_trans g5.lo (Nat.le_trans g6.lo (by rw [← p7];exact g8.lo))
 have i8:=g8.i
 have k9:=hG h b x8 g8.i (fun _=>by omega)
 have S9:=fun r=>hP lp h b x8 r hl
 generalize S h b x8=x9 at *
 have k10:=fun z=>exp2_good (s:=s) (p:=x9.p) (c:=125) (d:=41) z
 have X10:Xe 0 x9 (expM s x9 [125,41]):=xe_exp _
 have R10:(expM s x9 [125,41]).row=x9.row:=rfl
 have M10:(expM s x9 [125,41]).marks=x9.marks:=rfl
 have P10:(expM s x9 [125,41]).p=expF s x9.p [125,41]:=rfl
 generalize expM s x9 [125,41]=x10 at *
 have R11:(layM x10 (m.marks.length+2)).row=x10.row:=rfl
 have P11:(layM x10 (m.marks.length+2)).p=x10.p:=rfl
 have X11:Xe (m.marks.length+3) x10 (layM x10 (m.marks.length+2)):=xe_lay (by omega)
 have A11:m.marks.length+2<x10.marks.length→(layM x10 (m.marks.length+2)).marks[m.marks.length+2]?=some x10.row.length:=fun z=>lay_at z
 have B11:∀ k v,k<m.marks.length+2→x10.marks[k]?=some v→(layM x10 (m.marks.length+2)).marks[k]?=some v:=fun k v hk z=>mk_lay z (by omega)
 have Y11:Xe 0 m x10→Xe 0 m (layM x10 (m.marks.length+2)):=fun z=>z.lay (.inr (by omega))
 generalize layM x10 (m.marks.length+2)=x11 at *
 obtain ⟨v9,a9,b9,c9⟩:=k10 (by rw [← P10,← P11];exact hg)
 have v8:=(k9 v9).1
 obtain ⟨v5,a5,b5,c5⟩:=k6 (by rw [← P6,← p7,← P8];exact v8)
 have v4:=(k5 v5).1
 obtain ⟨v2,a2,c2⟩:=k3 (by rw [← P3,← P4];exact v4)
 have C2:=C2 v2
 generalize hr2:condF f s (pushI (nextI st) 105 0)=r2 at *
 have hx2:x2.p.1=r2.i:=by rw [C2.r.p]
 rw [hx2] at a2 c2
 have hp4:x4.p=(r2.i+1,false):=by rw [P4,P3,c2]
 have hin2:=pk_in s r2.i (by rw [a2];decide)
 have hr2i:=C2.r.ge
 have hr2i':(pushI (nextI st) 105 0).i=st.i+1:=rfl
 have hlo2:r2.loops=st.loops:=C2.r.lo
 have S5:=S5 { r2 with i:=r2.i+1 } (by show decide (r2.loops≠0)=lp;rw [hlo2];exact hlp) hp4 C2.r.b (by show r2.i+1≤_;omega) (by show s.size-(r2.i+1)<f;omega) (by rw [R4,R3];exact C2.r.fr) v5 (.inl a5)
 have e5:blkF R s r2=eatS s (R { r2 with i:=r2.i+1 }) 125:=blk_at C2.r.b a2
 generalize R { r2 with i:=r2.i+1 }=r5 at *
 obtain ⟨S5,J5,W5⟩:=S5
 have hx5:x5.p.1=r5.i:=by rw [S5.p]
 rw [hx5] at a5 b5 c5
 have e6:blkF R s r2={ r5 with i:=r5.i+1 }:=by rw [e5,eatS_at (c:=125) S5.b a5 (by decide)]
 have hin5:=pk_in s (r5.i+1) (by rw [b5];decide)
 have hp8:x8.p=(r5.i+2,false):=by rw [P8,p7,P6,c5]
 have e7:elseAt (blkF R s r2) st.items.length={ r5 with i:=r5.i+1,items:=r5.items.modify st.items.length (fun x=>{ x with els:=(r5.items.length:Nat) }) }:=by rw [e6];rfl
 have hr5i:r2.i+1≤r5.i:=S5.ge
 have hlo5:r5.loops=r2.loops:=S5.lo
 have S9:=S9 { r5 with i:=r5.i+2,items:=r5.items.modify st.items.length (fun x=>{ x with els:=(r5.items.length:Nat) }) } (by show decide (r5.loops≠0)=lp;rw [hlo5,hlo2];exact hlp) hp8 S5.b (by show r5.i+2≤_;omega) (by show s.size-(r5.i+2)<f;omega) (by rw [R8,R7,R6];exact S5.fr.jump _) v9 (.inl a9)
 have e9:blkF R s (elseAt (blkF R s r2) st.items.length)=eatS s (R { r5 with i:=r5.i+2,items:=r5.items.modify st.items.length (fun x=>{ x with els:=(r5.items.length:Nat) }) }) 125:=by
  rw [e7,blk_at (by exact S5.b) (by exact b5)]
 generalize hr8:({ r5 with i:=r5.i+2,items:=r5.items.modify st.items.length (fun x=>{ x with els:=(r5.items.length:Nat) }) }:RS)=r8 at *
 have r8i:r8.items=r5.items.modify st.items.length (fun x=>{ x with els:=(r5.items.length:Nat) }):=by rw [← hr8]
 have r8p:r8.i=r5.i+2:=by rw [← hr8]
 have r8l:r8.loops=r5.loops:=by rw [← hr8]
 generalize R r8=r9 at *
 obtain ⟨S9,J9,W9⟩:=S9
 have hx9:x9.p.1=r9.i:=by rw [S9.p]
 rw [hx9] at a9 b9 c9
 have hr9i:r5.i+2≤r9.i:=by rw [← r8p];exact S9.ge
 have hin9:=pk_in s (r9.i+1) (by rw [b9];decide)
 have eR:ifF f R s st={ r9 with i:=r9.i+2,items:=r9.items.modify st.items.length (fun x=>{ x with en:=(r9.items.length:Nat) }) }:=by
  unfold ifF
  rw [hr2,e9,eatS_at (c:=125) S9.b a9 (by decide),eatS_at (c:=41) (by exact S9.b) (by exact b9) (by decide)]
  rfl
 have l1:(pushI (nextI st) 105 0).items.length=st.items.length+1:=by show (st.items++[_]).length=_;simp
 have y1:Ag 0 st.items (pushI (nextI st) 105 0).items:=Ag.app _ _
 have y2:Ag 0 st.items r5.items:=y1.trans (C2.r.y.trans S5.y)
 have l2:=C2.r.y.len
 have l5:r2.items.length≤r5.items.length:=S5.y.len
 have l8:r8.items.length=r5.items.length:=by rw [r8i,List.length_modify]
 have l9:=S9.y.len
 have lE:(ifF f R s st).items.length=r9.items.length:=by rw [eR];exact List.length_modify ..
 have Z2:Xe 0 m x3:=X1.trans (C2.r.x.trans X3)
 have Z7:Xe 0 m x7:=(Y4 Z2).trans (S5.x.trans (X6.trans X7))
 have Z10:Xe 0 m x10:=(Y8 Z7).trans (S9.x.trans X10)
 have hx1l:x1.marks.length≤x2.marks.length:=C2.r.x.mm.len
 have hx5l:x4.marks.length≤x5.marks.length:=S5.x.mm.len
 have hx6l:x5.marks.length≤x6.marks.length:=X6.mm.len
 have hx9l:x8.marks.length≤x9.marks.length:=S9.x.mm.len
 rw [M3] at L4
 rw [M7] at L8
 refine ⟨⟨?_,by rw [eR];exact S9.b,by rw [eR];exact S9.lo.trans (r8l.trans (hlo5.trans hlo2)),by rw [eR,R11,R10];exact S9.fr,Y11 Z10,?_,by rw [eR];show st.i≤r9.i+2;omega,by rw [eR];show r9.i+2≤_;omega⟩,by omega,?_,?_⟩
 ·rw [P11,P10,c9,eR]
 ·rw [eR]
  exact (((y2.mod _ (.inr (Nat.le_refl _))).trans (by rw [← r8i];exact S9.y))).mod _ (.inr (Nat.le_refl _))
 ·intro M hX hJ
  have hX10:Xe (m.marks.length+3) x10 M:=X11.trans (hX.mono (by omega))
  have hX9:Xe (m.marks.length+3) x9 M:=(X10.mono (Nat.zero_le _)).trans hX10
  have hX7:Xe (m.marks.length+3) x7 M:=(X8.mono (by omega)).trans ((S9.x.mono (Nat.zero_le _)).trans hX9)
  have hX6:Xe (m.marks.length+3) x6 M:=(X7.mono (Nat.zero_le _)).trans hX7
  have hX5:Xe (m.marks.length+3) x5 M:=(X6.mono (Nat.zero_le _)).trans hX6
  have hX2:Xe (m.marks.length+3) x2 M:=(X3.mono (Nat.zero_le _)).trans ((X4.mono (by omega)).trans ((S5.x.mono (Nat.zero_le _)).trans hX5))
  have k2:plcM M (m.marks.length+2:Nat)=x10.row.length:=plc_of (hX.mm.at (by omega) (A11 (by rw [M10];omega)))
  have w5:=S5.x.row.len
  have w9:=S9.x.row.len
  have w7:x7.row.length=x5.row.length+1:=by rw [R7,R6,List.length_append];rfl
  have hJ5:JH M lp h b x5.row.length:=fun e=>⟨by have:=(hJ e).1;rw [R11,R10] at this;rw [R8] at w9;omega,(hJ e).2⟩
  have hJ9:JH M lp h b x9.row.length:=fun e=>by have:=hJ e;rw [R11,R10] at this;exact this
  have q2:JOk M m.row.length x2.row.length:=jok_nodes hX2.row (by rw [← R1];exact C2.al)
  have q5:=J5 M (hX5.mono (by rw [L4];omega)) hJ5
  rw [R4,R3] at q5
  have q7:JOk M x5.row.length (x5.row.length+1):=jok_one (n:=jumpN (m.marks.length+2:Nat)) (hX7.row.at (Nat.zero_le _) (by rw [R7,R6];simp)) (fun _=>.inl (by
   show _<plcM M (m.marks.length+2:Nat)
   rw [k2,R10];rw [R8] at w9;omega))
  have q9:=J9 M (hX9.mono (by rw [L8];omega)) hJ9
  rw [R8,w7] at q9
  rw [R11,R10]
  exact ((q2.join q5).join q7).join q9
 intro M IT Ld W nx ou ag hF hX hI hIl hnx hlp2
 have hI9:Ag (st.items.length+1) r9.items IT:=by rw [eR] at hI;exact hI.unmod (by omega) (by omega)
 have hI5:Ag (st.items.length+1) r5.items IT:=by
  have:=(S9.y.mono (Nat.zero_le (st.items.length+1))).trans hI9
  rw [r8i] at this
  exact this.unmod (by omega) (Nat.le_refl _)
 have hI2:Ag (st.items.length+1) r2.items IT:=(S5.y.mono (Nat.zero_le _)).trans hI5
 have hit:IT[st.items.length]?=some ⟨105,0,(r5.items.length:Nat),(r9.items.length:Nat)⟩:=by
  refine hI.at (Nat.le_refl _) ?_
  rw [eR]
  have h1:r5.items[st.items.length]?=some ⟨105,0,0,0⟩:=(C2.r.y.trans S5.y).at (Nat.zero_le _) (by show (st.items++_)[_]?=_;simp)
  have h2:r9.items[st.items.length]?=some ⟨105,0,(r5.items.length:Nat),0⟩:=S9.y.at (Nat.zero_le _) (by rw [r8i,modify_at _ h1])
  dsimp only
  rw [modify_at _ h2]
 have hX10:Xe (m.marks.length+3) x10 M:=X11.trans (hX.mono (by omega))
 have hX9:Xe (m.marks.length+3) x9 M:=(X10.mono (Nat.zero_le _)).trans hX10
 have hX7:Xe (m.marks.length+3) x7 M:=(X8.mono (by omega)).trans ((S9.x.mono (Nat.zero_le _)).trans hX9)
 have hX6:Xe (m.marks.length+3) x6 M:=(X7.mono (Nat.zero_le _)).trans hX7
 have hX5:Xe (m.marks.length+3) x5 M:=(X6.mono (Nat.zero_le _)).trans hX6
 have hX2:Xe (m.marks.length+3) x2 M:=(X3.mono (Nat.zero_le _)).trans ((X4.mono (by omega)).trans ((S5.x.mono (Nat.zero_le _)).trans hX5))
 have m4:x4.marks[m.marks.length]?=some x2.row.length:=by rw [A4 (by rw [M3];omega),R3]
 have m7:x7.marks[m.marks.length]?=some x2.row.length:=(S5.x.trans (X6.trans X7)).mm.at (Nat.zero_le _) m4
 have m10:x10.marks[m.marks.length]?=some x2.row.length:=(S9.x.trans X10).mm.at (Nat.zero_le _) (B8 _ m7)
 have k0:plcM M (m.marks.length:Nat)=x2.row.length:=plc_of (hX.mm.at (Nat.le_refl _) (B11 _ _ (by omega) m10))
 have n8:x8.marks[m.marks.length+1]?=some x7.row.length:=A8 (by rw [M7];omega)
 have n10:x10.marks[m.marks.length+1]?=some x7.row.length:=(S9.x.trans X10).mm.at (Nat.zero_le _) n8
 have k1:plcM M (m.marks.length+1:Nat)=x7.row.length:=plc_of (hX.mm.at (by omega) (B11 _ _ (by omega) n10))
 have k2:plcM M (m.marks.length+2:Nat)=x10.row.length:=plc_of (hX.mm.at (by omega) (A11 (by rw [M10];omega)))
 have j7:Ld x5.row.length=nx:=by
  have:M.row[x5.row.length]?=some (jumpN (m.marks.length+2:Nat)):=hX7.row.at (Nat.zero_le _) (by rw [R7,R6];simp)
  rw [hF.jump _ _ this,k2,hnx,R11]
 have j9:Ld x9.row.length=nx:=by rw [hnx,R11,R10]
 have hw2:=C2.w M IT Ld W hF (by rw [L1];exact hX2) (by rw [l1];exact hI2) hIl
 rw [k0,k1,l1,R1] at hw2
 obtain ⟨w5,f5⟩:=W5 M IT Ld W nx ou ag hF (hX5.mono (by rw [L4];omega)) (hI5.mono (by show _≤r2.items.length;omega)) hIl j7.symm hlp2
 obtain ⟨w9,f9⟩:=W9 M IT Ld W nx ou ag hF (hX9.mono (by rw [L8];omega)) (hI9.mono (by rw [l8];omega)) hIl j9.symm hlp2
 have hfi:Ld m.row.length=(nj m.row:Nat):=by
  have:=fin_first hF (m:=x1) (m':=x2) C2.r.x.row hX2.row C2.nd
  rw [R1] at this;exact this
 rw [l8] at w9 f9
 rw [R4,R3] at w5 f5
 have hn7:nj x7.row=nj x5.row:=by rw [R7,R6,nj_jump]
 rw [R8] at f9
 rw [R8,hn7] at w9
 refine ⟨_,hit,by rw [lE],.inr (.inr (.inl ⟨rfl,r2.items.length,r5.items.length,nj x2.row,nj x5.row,Ld x2.row.length,Ld x7.row.length,hw2,l5,by omega,rfl,w5,?_,f5,?_⟩)),?_⟩
 ·rw [R11,R10,lE];exact w9
 ·rw [lE];exact f9
 ·intro e nx0 he
  unfold entO
  rw [if_neg (by omega),hit]
  dsimp only
  rw [if_neg (by decide),if_neg (by decide),if_neg (by decide),hfi]
  have:=ag_le hI2 (cdw_lt hw2).1
  exact cdw_fst f hw2 _ (by omega)
theorem par_lop {f:Nat} {s:ByteArray} {S:Int→Int→MS→MS} {R:RS→RS} {lp:Bool} {h b:Int} {m:MS} {st:RS} (hs:s.size≤1000) (hG:SGp s f S) (hP:SPar s f 125 S R)
  (hp:m.p=(st.i,false)) (hb:st.bad=false) (hf:s.size-st.i<f+1) (hfr:FR s m.row st.nodes) (hpk:pk s st.i=91)
  (hg:(lopM f S s m).p.2=false):OPar s f lp h b m st (lopM f S s m) (whF f R s st):=by
 have hc:pkb s m.p=91:=by rw [hp,pkb_false];exact hpk
 obtain ⟨e1,e2,e3⟩:=eat_at (c:=91) hc (by decide)
 have hin:st.i<s.size:=by rw [hp] at e2;exact e2
 unfold lopM at hg ⊢
 dsimp only at hg ⊢
 have hL:=new3_len m
 have X1:Xe 0 m (layM (expM s (new3 m) [91]) m.marks.length):=(xe_new3.trans (xe_exp _)).lay (.inr (Nat.le_refl _))
 have L1:(layM (expM s (new3 m) [91]) m.marks.length).marks.length=m.marks.length+3:=by rw [layM_len];exact hL
 have R1:(layM (expM s (new3 m) [91]) m.marks.length).row=m.row:=rfl
 have A1:(layM (expM s (new3 m) [91]) m.marks.length).marks[m.marks.length]?=some m.row.length:=lay_at (by show m.marks.length<(new3 m).marks.length;omega)
 have p1:(layM (expM s (new3 m) [91]) m.marks.length).p=(st.i+1,false):=by rw [layM_p,expM_p,new3_p,e1,hp]
 generalize layM (expM s (new3 m) [91]) m.marks.length=x1 at *
 have q1:x1.p.1=st.i+1:=by rw [p1]
 have g2:=condM_mc f s (m.marks.length+1:Nat) (m.marks.length+2:Nat) x1 (by omega) (by omega)
 have C2:=par_cond f s (m.marks.length+1:Nat) (m.marks.length+2:Nat) x1 (pushI (nextI st) 119 0) hs p1 hb (by show st.i+1≤_;omega) (by show s.size-(st.i+1)<f;omega) (by rw [R1];exact hfr)
 generalize condM f s (m.marks.length+1:Nat) (m.marks.length+2:Nat) x1=x2 at *
 have g3:=expM_mg (l:=[123]) (by decide) g2.i
 have k3:=fun z=>exp1_good (s:=s) (p:=x2.p) (c:=123) z
 have X3:Xe 0 x2 (expM s x2 [123]):=xe_exp _
 have R3:(expM s x2 [123]).row=x2.row:=rfl
 have M3:(expM s x2 [123]).marks=x2.marks:=rfl
 have P3:(expM s x2 [123]).p=expF s x2.p [123]:=rfl
 generalize expM s x2 [123]=x3 at *
 have g4:=layM_mg (k:=m.marks.length+1) g3.i
 have R4:(layM x3 (m.marks.length+1)).row=x3.row:=rfl
 have P4:(layM x3 (m.marks.length+1)).p=x3.p:=rfl
 have L4:=layM_len x3 (m.marks.length+1)
 have X4:Xe (m.marks.length+2) x3 (layM x3 (m.marks.length+1)):=xe_lay (by omega)
 have A4:m.marks.length+1<x3.marks.length→(layM x3 (m.marks.length+1)).marks[m.marks.length+1]?=some x3.row.length:=fun z=>lay_at z
 have B4:∀ v,x3.marks[m.marks.length]?=some v→(layM x3 (m.marks.length+1)).marks[m.marks.length]?=some v:=fun v z=>mk_lay z (by omega)
 have Y4:Xe 0 m x3→Xe 0 m (layM x3 (m.marks.length+1)):=fun z=>z.lay (.inr (by omega))
 generalize layM x3 (m.marks.length+1)=x4 at *
 have lo4:x1.p.1≤x4.p.1:=Nat.le_trans g2.lo (Nat.le_trans g3.lo g4.lo)
 have i4:=g4.i
 have k5:=hG m.marks.length (m.marks.length+2:Nat) x4 g4.i (fun _=>by omega)
 have S5:=fun r=>hP true m.marks.length (m.marks.length+2:Nat) x4 r (.inl ⟨rfl,by omega,by omega⟩)
 generalize S m.marks.length (m.marks.length+2:Nat) x4=x5 at *
 have k6:=fun z=>exp2_good (s:=s) (p:=x5.p) (c:=125) (d:=93) z
 have X6:Xe 0 x5 (expM s x5 [125,93]):=xe_exp _
 have R6:(expM s x5 [125,93]).row=x5.row:=rfl
 have P6:(expM s x5 [125,93]).p=expF s x5.p [125,93]:=rfl
 generalize expM s x5 [125,93]=x6 at *
 have p7:=jmpM_p x6 m.marks.length
 have X7:Xe 0 x6 (jmpM x6 m.marks.length):=xe_jmp _
 have R7:(jmpM x6 m.marks.length).row=x6.row++[jumpN m.marks.length]:=rfl
 have M7:(jmpM x6 m.marks.length).marks=x6.marks:=rfl
 generalize jmpM x6 m.marks.length=x7 at *
 have R8:(layM x7 (m.marks.length+2)).row=x7.row:=rfl
 have P8:(layM x7 (m.marks.length+2)).p=x7.p:=rfl
 have X8:Xe (m.marks.length+3) x7 (layM x7 (m.marks.length+2)):=xe_lay (by omega)
 have A8:m.marks.length+2<x7.marks.length→(layM x7 (m.marks.length+2)).marks[m.marks.length+2]?=some x7.row.length:=fun z=>lay_at z
 have B8:∀ k v,k<m.marks.length+2→x7.marks[k]?=some v→(layM x7 (m.marks.length+2)).marks[k]?=some v:=fun k v hk z=>mk_lay z (by omega)
 have Y8:Xe 0 m x7→Xe 0 m (layM x7 (m.marks.length+2)):=fun z=>z.lay (.inr (by omega))
 generalize layM x7 (m.marks.length+2)=x8 at *
 obtain ⟨v5,a5,b5,c5⟩:=k6 (by rw [← P6,← p7,← P8];exact hg)
 have v4:=(k5 v5).1
 obtain ⟨v2,a2,c2⟩:=k3 (by rw [← P3,← P4];exact v4)
 have C2:=C2 v2
 generalize hr2:condF f s (pushI (nextI st) 119 0)=r2 at *
 have hx2:x2.p.1=r2.i:=by rw [C2.r.p]
 rw [hx2] at a2 c2
 have hp4:x4.p=(r2.i+1,false):=by rw [P4,P3,c2]
 have hin2:=pk_in s r2.i (by rw [a2];decide)
 have hr2i:=C2.r.ge
 have hr2i':(pushI (nextI st) 119 0).i=st.i+1:=rfl
 have hlo2:r2.loops=st.loops:=C2.r.lo
 have S5:=S5 { r2 with i:=r2.i+1,loops:=r2.loops+1 } (by simp) hp4 C2.r.b (by show r2.i+1≤_;omega) (by show s.size-(r2.i+1)<f;omega) (by rw [R4,R3];exact C2.r.fr) v5 (.inl a5)
 have e5:blkF R s { r2 with loops:=r2.loops+1 }=eatS s (R { r2 with i:=r2.i+1,loops:=r2.loops+1 }) 125:=blk_at (by exact C2.r.b) (by exact a2)
 generalize R { r2 with i:=r2.i+1,loops:=r2.loops+1 }=r5 at *
 obtain ⟨S5,J5,W5⟩:=S5
 have hx5:x5.p.1=r5.i:=by rw [S5.p]
 rw [hx5] at a5 b5 c5
 have hin5:=pk_in s (r5.i+1) (by rw [b5];decide)
 have hr5i:r2.i+1≤r5.i:=S5.ge
 have hlo5:r5.loops=r2.loops+1:=S5.lo
 have eR:whF f R s st={ r5 with i:=r5.i+2,loops:=r5.loops-1,items:=r5.items.modify st.items.length (fun x=>{ x with en:=(r5.items.length:Nat) }) }:=by
  unfold whF
  dsimp only
  rw [hr2,e5,eatS_at (c:=125) S5.b a5 (by decide),eatS_at (c:=93) (by exact S5.b) (by exact b5) (by decide)]
  rfl
 have l1:(pushI (nextI st) 119 0).items.length=st.items.length+1:=by show (st.items++[_]).length=_;simp
 have y1:Ag 0 st.items (pushI (nextI st) 119 0).items:=Ag.app _ _
 have y5:Ag 0 r2.items r5.items:=S5.y
 have l2:=C2.r.y.len
 have l5:=y5.len
 have lE:(whF f R s st).items.length=r5.items.length:=by rw [eR];exact List.length_modify ..
 have Z2:Xe 0 m x3:=X1.trans (C2.r.x.trans X3)
 have Z7:Xe 0 m x7:=(Y4 Z2).trans (S5.x.trans (X6.trans X7))
 have hx1l:x1.marks.length≤x2.marks.length:=C2.r.x.mm.len
 have hx5l:x4.marks.length≤x5.marks.length:=S5.x.mm.len
 have hx6l:x5.marks.length≤x6.marks.length:=X6.mm.len
 rw [M3] at L4
 refine ⟨⟨?_,by rw [eR];exact S5.b,by rw [eR];show r5.loops-1=_;omega,by rw [eR,R8,R7,R6];exact S5.fr.jump _,Y8 Z7,?_,by rw [eR];show st.i≤r5.i+2;omega,by rw [eR];show r5.i+2≤_;omega⟩,by omega,?_,?_⟩
 ·rw [P8,p7,P6,c5,eR]
 ·rw [eR]
  exact (y1.trans (C2.r.y.trans y5)).mod _ (.inr (Nat.le_refl _))
 ·intro M hX hJ
  have hX7:Xe (m.marks.length+3) x7 M:=X8.trans (hX.mono (by omega))
  have hX6:Xe (m.marks.length+3) x6 M:=(X7.mono (Nat.zero_le _)).trans hX7
  have hX5:Xe (m.marks.length+3) x5 M:=(X6.mono (Nat.zero_le _)).trans hX6
  have hX2:Xe (m.marks.length+3) x2 M:=(X3.mono (Nat.zero_le _)).trans ((X4.mono (by omega)).trans ((S5.x.mono (Nat.zero_le _)).trans hX5))
  have n4:x4.marks[m.marks.length]?=some m.row.length:=B4 _ ((C2.r.x.trans X3).mm.at (Nat.zero_le _) A1)
  have n7:x7.marks[m.marks.length]?=some m.row.length:=(S5.x.trans (X6.trans X7)).mm.at (Nat.zero_le _) n4
  have k0:plcM M (m.marks.length:Nat)=m.row.length:=plc_of (hX.mm.at (Nat.le_refl _) (B8 _ _ (by omega) n7))
  have k2:plcM M (m.marks.length+2:Nat)=x7.row.length:=plc_of (hX.mm.at (by omega) (A8 (by rw [M7];omega)))
  have w7:x7.row.length=x5.row.length+1:=by rw [R7,R6,List.length_append];rfl
  obtain ⟨nn,nn1,nn2⟩:=C2.nd
  rw [R1] at nn1
  have hnode:∃ n,M.row[plcM M (m.marks.length:Nat)]?=some n∧n.act≠15:=⟨nn,by rw [k0];exact hX2.row.at (Nat.zero_le _) nn1,nn2⟩
  have q2:JOk M m.row.length x2.row.length:=jok_nodes hX2.row (by rw [← R1];exact C2.al)
  have q5:=J5 M (hX5.mono (by rw [L4];omega)) (fun _=>⟨by rw [k2];omega,hnode⟩)
  rw [R4,R3] at q5
  have q7:JOk M x5.row.length (x5.row.length+1):=jok_one (n:=jumpN m.marks.length) (hX7.row.at (Nat.zero_le _) (by rw [R7,R6];simp)) (fun _=>.inr hnode)
  rw [R8,w7]
  exact (q2.join q5).join q7
 intro M IT Ld W nx ou ag hF hX hI hIl hnx hlp2
 have hI5:Ag (st.items.length+1) r5.items IT:=by rw [eR] at hI;exact hI.unmod (by omega) (by omega)
 have hI2:Ag (st.items.length+1) r2.items IT:=(y5.mono (Nat.zero_le _)).trans hI5
 have hit:IT[st.items.length]?=some ⟨119,0,0,(r5.items.length:Nat)⟩:=by
  refine hI.at (Nat.le_refl _) ?_
  rw [eR]
  have h1:r5.items[st.items.length]?=some ⟨119,0,0,0⟩:=(C2.r.y.trans y5).at (Nat.zero_le _) (by show (st.items++_)[_]?=_;simp)
  dsimp only
  rw [modify_at _ h1]
 have hX7:Xe (m.marks.length+3) x7 M:=X8.trans (hX.mono (by omega))
 have hX6:Xe (m.marks.length+3) x6 M:=(X7.mono (Nat.zero_le _)).trans hX7
 have hX5:Xe (m.marks.length+3) x5 M:=(X6.mono (Nat.zero_le _)).trans hX6
 have hX2:Xe (m.marks.length+3) x2 M:=(X3.mono (Nat.zero_le _)).trans ((X4.mono (by omega)).trans ((S5.x.mono (Nat.zero_le _)).trans hX5))
 have n4:x4.marks[m.marks.length]?=some m.row.length:=B4 _ ((C2.r.x.trans X3).mm.at (Nat.zero_le _) A1)
 have n7:x7.marks[m.marks.length]?=some m.row.length:=(S5.x.trans (X6.trans X7)).mm.at (Nat.zero_le _) n4
 have k0:plcM M (m.marks.length:Nat)=m.row.length:=plc_of (hX.mm.at (Nat.le_refl _) (B8 _ _ (by omega) n7))
 have m4:x4.marks[m.marks.length+1]?=some x2.row.length:=by rw [A4 (by rw [M3];omega),R3]
 have m7:x7.marks[m.marks.length+1]?=some x2.row.length:=(S5.x.trans (X6.trans X7)).mm.at (Nat.zero_le _) m4
 have k1:plcM M (m.marks.length+1:Nat)=x2.row.length:=plc_of (hX.mm.at (by omega) (B8 _ _ (by omega) m7))
 have k2:plcM M (m.marks.length+2:Nat)=x7.row.length:=plc_of (hX.mm.at (by omega) (A8 (by rw [M7];omega)))
 have hfi:Ld m.row.length=(nj m.row:Nat):=by
  have:=fin_first hF (m:=x1) (m':=x2) C2.r.x.row hX2.row C2.nd
  rw [R1] at this;exact this
 have j7:Ld x5.row.length=(nj m.row:Nat):=by
  have:M.row[x5.row.length]?=some (jumpN m.marks.length):=hX7.row.at (Nat.zero_le _) (by rw [R7,R6];simp)
  rw [hF.jump _ _ this,k0,hfi]
 have hnx':Ld x7.row.length=nx:=by rw [hnx,R8]
 have hw2:=C2.w M IT Ld W hF (by rw [L1];exact hX2) (by rw [l1];exact hI2) hIl
 rw [k1,k2,l1,R1,hnx'] at hw2
 obtain ⟨w5,f5⟩:=W5 M IT Ld W (nj m.row:Nat) nx (nj m.row:Nat) hF (hX5.mono (by rw [L4];omega)) (hI5.mono (by show _≤r2.items.length;omega)) hIl j7.symm (fun _=>⟨by rw [k2,hnx'],by rw [k0,hfi]⟩)
 rw [R4,R3] at w5 f5
 have hn7:nj x7.row=nj x5.row:=by rw [R7,R6,nj_jump]
 refine ⟨_,hit,by rw [lE],.inr (.inr (.inr ⟨rfl,r2.items.length,nj x2.row,Ld x2.row.length,hw2,by omega,?_,?_⟩)),?_⟩
 ·rw [R8,hn7,lE];exact w5
 ·rw [lE];exact f5
 ·intro e nx0 he
  unfold entO
  rw [if_neg (by omega),hit]
  dsimp only
  rw [if_neg (by decide),if_neg (by decide),if_neg (by decide),hfi]
  have:=ag_le hI2 (cdw_lt hw2).1
  exact cdw_fst f hw2 _ (by omega)
theorem par_st {f:Nat} {s:ByteArray} {S:Int→Int→MS→MS} {R:RS→RS} {lp:Bool} {h b:Int} {m:MS} {st:RS} (hs:s.size≤1000) (hS:SMG s f S) (hG:SGp s f S) (hP:SPar s f 125 S R)
  (hl:lpOk lp h b) (hlp:decide (st.loops≠0)=lp) (hp:m.p=(st.i,false)) (hb:st.bad=false) (hi:st.i<s.size) (hf:s.size-st.i<f+1) (hfr:FR s m.row st.nodes)
  (hg:(stM f S s h b m).p.2=false):OPar s f lp h b m st (stM f S s h b m) (stF f R s st):=by
 have hpk:pkb s m.p=pk s st.i:=by rw [hp,pkb_false]
 unfold stM at hg ⊢
 unfold stF
 rw [hpk] at hg ⊢
 by_cases h40:pk s st.i=40
 ·rw [if_pos h40] at hg ⊢
  rw [if_pos h40]
  exact par_cho hs hS hG hP hl hlp hp hb hf hfr h40 hg
 rw [if_neg h40] at hg ⊢
 rw [if_neg h40]
 by_cases h91:pk s st.i=91
 ·rw [if_pos h91] at hg ⊢
  rw [if_pos h91]
  exact par_lop hs hG hP hp hb hf hfr h91 hg
 rw [if_neg h91] at hg ⊢
 rw [if_neg h91]
 by_cases h62:pk s st.i=62
 ·rw [if_pos h62] at hg ⊢
  rw [if_pos (.inl h62)]
  exact par_lep (c:=62) (.inl rfl) (by rw [if_pos rfl]) hl hlp hp hb hfr h62 hg
 rw [if_neg h62] at hg ⊢
 by_cases h60:pk s st.i=60
 ·rw [if_pos h60] at hg ⊢
  rw [if_pos (.inr h60)]
  exact par_lep (c:=60) (.inr rfl) (by rw [if_neg (by decide)]) hl hlp hp hb hfr h60 hg
 ·rw [if_neg h60] at hg ⊢
  rw [if_neg (by omega)]
  exact par_act hp hi hfr hg
theorem entO_end {IT:List It} {i:Nat} {nx ou ag:Int}:entO IT i i nx ou ag=some nx:=by
 unfold entO;rw [if_pos (Nat.le_refl _)]
theorem par_stms:∀ (f:Nat) (s:ByteArray) (E:Nat),s.size≤1000→(E=125∨E=0)→SPar s f E (stmM f s) (stmtsF f s E)
 | 0,_,_,_,_=>fun _ _ _ _ _ _ _ _ _ _ h=>by omega
 | f+1,s,E,hs,hE=>by
  intro lp h b m st hl hlp hp hb hi hf hfr hg hend
  have hpk:pkb s m.p=pk s st.i:=by rw [hp,pkb_false]
  rw [stmM] at hg hend ⊢
  rw [stmtsF]
  by_cases hc:pk s st.i≠125∧pk s st.i≠0
  ·rw [if_pos (by rw [hpk];exact hc)] at hg hend ⊢
   have hin:=pk_in s st.i hc.2
   rw [if_pos ⟨hb,by omega,hin⟩]
   have hm1:m.p.1=st.i:=by rw [hp]
   have hm2:m.p.2=false:=by rw [hp]
   have gM:=stM_mg (h:=h) (b:=b) (m:=m) (stmM_mg f s) (by rw [hpk];exact hc.2) (by omega)
   have hgx:(stM f (stmM f s) s h b m).p.2=false:=(stmM_gp f s hs h b _ gM.1.i (fun z=>by have:=gM.2 z;have:=gM.1.i;omega) hg).1
   have O:=par_st (lp:=lp) (h:=h) (b:=b) hs (stmM_mg f s) (stmM_gp f s hs) (par_stms f s 125 hs (.inl rfl)) hl hlp hp hb hin hf hfr hgx
   have hlt:=gM.2 hgx
   generalize stM f (stmM f s) s h b m=x at *
   generalize stF f (stmtsF f s 125) s st=y at *
   obtain ⟨P,hlen,JO,O⟩:=O
   have hxi:x.p.1=y.i:=by rw [P.p]
   have ih:=par_stms f s E hs hE lp h b x y hl (by rw [P.lo];exact hlp) P.p P.b P.le (by have:=P.le;omega) P.fr hg hend
   generalize stmM f s h b x=x' at *
   generalize stmtsF f s E y=y' at *
   obtain ⟨P2,J2,O2⟩:=ih
   refine ⟨⟨P2.p,P2.b,P2.lo.trans P.lo,P2.fr,P.x.trans P2.x,P.y.trans P2.y,Nat.le_trans P.ge P2.ge,P2.le⟩,?_,?_⟩
   ·intro M hX hJ
    have hX1:Xe m.marks.length x M:=(P2.x.mono (Nat.zero_le _)).trans hX
    have w2:=P2.x.row.len
    exact (JO M hX1 (fun e=>⟨by have:=(hJ e).1;omega,(hJ e).2⟩)).join (J2 M (hX.mono P.x.mm.len) hJ)
   intro M IT Ld W nx ou ag hF hX hI hIl hnx hlp2
   have hyl:=P2.y.len
   have hI1:Ag st.items.length y.items IT:=(P2.y.mono (Nat.zero_le _)).trans hI
   have hX1:Xe m.marks.length x M:=(P2.x.mono (Nat.zero_le _)).trans hX
   have hxm:=P.x.mm.len
   obtain ⟨s2,n2⟩:=O2 M IT Ld W nx ou ag hF (hX.mono hxm) (hI.mono (by omega)) hIl hnx hlp2
   obtain ⟨it,i1,i2,i3,i4⟩:=O M IT Ld W (Ld x.row.length) ou ag hF hX1 hI1 hIl rfl hlp2
   have hd1:=nj_mono P.x.row
   have hd2:=nj_mono P2.x.row
   have hle:=ag_le hI (by omega)
   exact ⟨⟨Nat.le_trans hd1 hd2,.inr ⟨by omega,by omega,it,y.items.length,nj x.row,_,i1,i2,hlen,hyl,hd1,hd2,n2,i3,s2⟩⟩,i4 _ _ (by omega)⟩
  ·rw [if_neg (by rw [hpk];exact hc)] at hg hend ⊢
   have hmi:m.p.1=st.i:=by rw [hp]
   rw [hmi] at hend
   have hno:¬ (st.bad=false∧pk s st.i≠E∧st.i<s.size):=by
    rintro ⟨_,z1,z2⟩
    rcases hend with q|q
    ·exact z1 q
    ·omega
   rw [if_neg hno]
   refine ⟨⟨hp,hb,rfl,hfr,Xe.refl,Ag.refl,Nat.le_refl _,hi⟩,fun M _ _ p n h1 h2=>by omega,?_⟩
   intro M IT Ld W nx ou ag hF hX hI hIl hnx hlp2
   exact ⟨⟨Nat.le_refl _,.inl ⟨rfl,rfl⟩⟩,by rw [entO_end,hnx]⟩
end Go.Proofs.YtellieabhaphhabGreatDoor
namespace Go.Proofs.YtellieabhaphhabGreatDoor
open Go.RowKit
theorem ahdA_eq (row:List NN) (p:Nat):∀ j,ahdA row p j=nj (row.take (min p j))
 | 0=>by rw [Nat.min_zero];rfl
 | j+1=>by
  rw [ahdA,ahdA_eq row p j]
  by_cases h:j<p
  ·rw [Nat.min_eq_right (by omega:j≤p),Nat.min_eq_right (by omega:j+1≤p),nj_take]
   cases row[j]? with
   | none=>rfl
   | some n=>simp [h]
  ·rw [Nat.min_eq_left (by omega:p≤j),Nat.min_eq_left (by omega:p≤j+1)]
   cases row[j]? with
   | none=>rfl
   | some n=>simp [h]
theorem ahdM_eq (row:List NN) (p:Nat):ahdM row p=nj (row.take p):=by
 rw [ahdM,ahdA_eq]
 rcases Nat.le_total p row.length with h|h
 ·rw [Nat.min_eq_left h]
 ·rw [Nat.min_eq_right h,List.take_length,List.take_of_length_le h]
theorem hop_more {M:MS} (hJ:JOk M 0 M.row.length):∀ (f p:Nat),M.row.length-p≤f→hopM M f p=hopM M (f+1) p
 | 0,p,h=>by rw [hopM_none (by omega),hopM_none (by omega)]
 | f+1,p,h=>by
  by_cases hp:p<M.row.length
  ·by_cases ha:(M.row[p]).act=15
   ·rw [hopM_jump hp ha,hopM_jump hp ha]
    rcases hJ p M.row[p] (Nat.zero_le _) hp (List.getElem?_eq_getElem hp) ha with q|⟨n',q1,q2⟩
    ·exact hop_more hJ f _ (by omega)
    ·obtain ⟨l,e⟩:=List.getElem?_eq_some_iff.1 q1
     rw [hopM_node l (by rw [e];exact q2),hopM_node l (by rw [e];exact q2)]
   ·rw [hopM_node hp ha,hopM_node hp ha]
  ·rw [hopM_none hp,hopM_none hp]
def LdM (M:MS) (p:Nat):Int:=(ahdM M.row (hopM M M.row.length p):Nat)
def WyM (M:MS) (n:Nat):Int × Int × Bool:=match (nodM M)[n]? with|some x=>(x.yes,x.no,decide (x.act=12∨x.act=13))|none=>(0,0,false)
theorem nodA_at (M:MS) {p:Nat} {n:NN} (h:M.row[p]?=some n) (ha:n.act≠15):∀ j,p<j→(nodA M j)[nj (M.row.take p)]?=some (n.setW (nbhM M n.yes) (nbhM M n.no))
 | 0,hj=>by omega
 | j+1,hj=>by
  rw [nodA]
  by_cases he:j=p
  ·subst he
   rw [h]
   dsimp only
   rw [if_neg ha,← nodA_nj,List.getElem?_append_right (Nat.le_refl _),Nat.sub_self]
   rfl
  ·have ih:=nodA_at M h ha j (by omega)
   rw [List.getElem?_append_left (List.getElem?_eq_some_iff.1 ih).1]
   exact ih
theorem fin_of {M:MS} (hJ:JOk M 0 M.row.length):Fin' M (LdM M) (WyM M):=by
 refine ⟨fun p n h ha=>?_,fun p k h=>?_⟩
 ·obtain ⟨l,e⟩:=List.getElem?_eq_some_iff.1 h
  refine ⟨?_,?_⟩
  ·unfold LdM
   rw [hopM_node l (by rw [e];exact ha),ahdM_eq]
  ·unfold WyM
   rw [nodM,nodA_at M h ha _ l]
   rfl
 ·obtain ⟨l,e⟩:=List.getElem?_eq_some_iff.1 h
  have ha:(M.row[p]).act=15:=by rw [e];rfl
  have hy:(M.row[p]).yes=k:=by rw [e];rfl
  unfold LdM
  congr 2
  have hl:M.row.length=(M.row.length-1)+1:=by omega
  rw [hl,hopM_jump l ha,hy]
  rcases hJ p M.row[p] (Nat.zero_le _) l (List.getElem?_eq_getElem l) ha with q|⟨n',q1,q2⟩
  ·rw [hy] at q
   exact hop_more hJ _ _ (by omega)
  ·rw [hy] at q1
   obtain ⟨l2,e2⟩:=List.getElem?_eq_some_iff.1 q1
   rw [hopM_node l2 (by rw [e2];exact q2),hopM_node l2 (by rw [e2];exact q2)]
theorem src_par {s:ByteArray} (hs:s.size≤180) (h:(srE s).1=0) (ou ag:Int):FR s (srM s).row (srcF s).nodes ∧
  StW (s.size+1) (srcF s).items (WyM (srM s)) 0 (srcF s).items.length 0 (nj (srM s).row) (nj (srM s).row:Nat) ou ag ∧
  entO (srcF s).items 0 (srcF s).items.length (nj (srM s).row:Nat) ou ag=some (LdM (srM s) 0):=by
 obtain ⟨g1,_⟩:=srM_good hs h
 have hg2:(srM s).p.2=false:=by rw [g1]
 have hg1:(srM s).p.1=s.size:=by rw [g1]
 have hb:=(srcF_good s).inv
 have P:=par_stms (s.size+1) s 0 (by omega) (.inr rfl) false (-1) (-1) ms0 rs0 (.inr ⟨rfl,rfl,rfl⟩) rfl rfl rfl (Nat.zero_le _) (by show s.size-0<_;omega) ⟨rfl,fun _ hn=>by cases hn⟩ hg2 (.inr (by show s.size≤(srM s).p.1;omega))
 obtain ⟨P,J,O⟩:=P
 have P':Pr s ms0 rs0 (srM s) (srcF s):=P
 have hJ:JOk (srM s) 0 (srM s).row.length:=J (srM s) Xe.refl (fun e=>by cases e)
 have hIl:(srcF s).items.length≤1000:=by
  have:=hb.t;have:=hb.i;have:=cond_le (srcF s).bad;omega
 have hld:LdM (srM s) (srM s).row.length=(nj (srM s).row:Nat):=by
  unfold LdM
  rw [hopM_none (Nat.lt_irrefl _),ahdM_eq,List.take_length]
 have hO:=O (srM s) (srcF s).items (LdM (srM s)) (WyM (srM s)) (nj (srM s).row:Nat) ou ag (fin_of hJ) Xe.refl Ag.refl hIl hld.symm (fun e=>by cases e)
 exact ⟨P'.fr,hO.1,hO.2⟩
end Go.Proofs.YtellieabhaphhabGreatDoor
namespace Go.Proofs.YtellieabhaphhabGreatDoor
open Go.RowKit
set_option maxRecDepth 100000 in
set_option maxHeartbeats 6400000 in
theorem pie_w {w:World} {r:Nat} {s:ByteArray} {st:RS} {O:Nat→Prop} {i a en:Nat} {nx ou ag t so:Int} {inn iel:Int} {i1:It} {N1 N2:List Nd} (h:Rp w r s st O) (hi:i≤1000) (hit:st.items[i]?=some ⟨119,inn,iel,en⟩)
  (hit1:st.items[i+1]?=some i1) (hen:i1.en=a)
  (hF:RdS r s st 137 #[.pointer (some ⟨r,0,none⟩),.int .i64 (i+1:Nat)] (.int .i64 so))
  (hE1:RdS r s st 97 #[.pointer (some ⟨r,0,none⟩),.int .i64 a,.int .i64 en,.agg #[.int .i64 so,.int .i64 nx,.int .i64 so]] (.int .i64 t))
  (hT:TiS r s st { st with nodes:=N1 } 138 #[.pointer (some ⟨r,0,none⟩),.int .i64 (i+1:Nat),.int .i64 t,.int .i64 nx])
  (hP1:TiS r s { st with nodes:=N1 } { st with nodes:=N2 } 56 #[.pointer (some ⟨r,0,none⟩),.int .i64 a,.int .i64 en,.agg #[.int .i64 so,.int .i64 nx,.int .i64 so]]) :
  Calls Tryz.prog 98 #[.pointer (some ⟨r,0,none⟩),.int .i64 i,.agg #[.int .i64 nx,.int .i64 ou,.int .i64 ag]] w fun x w'=>x=.returned (.tuple #[])∧Went w O r s { st with nodes:=N2 } w':=by
 obtain ⟨gi,cap,hil,hog,q4,i0,j1,i2,i3⟩:=h.itemAt hit
 obtain ⟨gi',cap',hil1,_,q4',m0,m1,m2,m3⟩:=h.itemAt hit1
 rw [q4] at q4'
 simp only [Option.some.injEq,Value.slice.injEq,Addr.mk.injEq,and_true] at q4'
 obtain ⟨rfl,_,_⟩:=q4'
 obtain ⟨c0,c1,c2,c5,cf⟩:=h.c
 have hrl:=h.lt r h.own
 have hgl:=h.lt gi hog
 have hiI:(i:Int)<st.items.length:=by omega
 have hiI1:(i:Int)+1<st.items.length:=by omega
 rw [hen] at m3
 dsimp only at i0 j1 i2 i3
 have hcast:((i+1:Nat):Int)=(i:Int)+1:=by omega
 rw [hcast] at hT hF
 have HF:=hide hF;have HE1:=hide hE1;have HT:=hide hT;have HP1:=hide hP1
 clear hit hit1 hF hE1 hT hP1 hcast m0 m1 m2
 go_enter Tryz.func98,Tryz.ntmps98
 repeat (first|go_values|go_skip|go_guarded|go_step|go_upon)
 refine (HF.out _ _ ((h.alloc _).alloc _)).mono ?_
 rintro x v1 ⟨rfl,k1⟩
 have hnO:¬ O w.heap.size:=fun e=>Nat.lt_irrefl _ (h.lt _ e)
 have hnO1:¬ O (w.heap.size+1):=fun e=>by have:=h.lt _ e;omega
 have h1:Rp v1 r s st O:=((h.alloc _).alloc _).kp k1 (fun _ _=>no_elim)
 have hnO2:¬ O v1.heap.size:=fun e=>Nat.lt_irrefl _ (h1.lt _ e)
 have G1:Blk v1 w.heap.size [.int .i64 nx,.int .i64 ou,.int .i64 ag] 109:=k1.blk (by (exact blA)) no_elim
 have B1:Blk v1 (w.heap.size+1) [.int .u8 119,.int .i64 inn,.int .i64 iel,.int .i64 en] 153:=k1.blk (by (exact blA)) no_elim
 have HTh:=hide (show Th O w O v1 from ⟨((((Kp.refl no w).alloc _).alloc _).trans k1 (fun _ _ e=>e)).mono (fun _ e=>e.elim),fun _ hb _=>hb⟩)
 clear c0 c1 c2 c5 cf q4 i0 j1 i2 i3 m3 k1
 obtain ⟨b0,b1,b2,b3,bf⟩:=B1.c4;obtain ⟨g0,g1,g2,gf⟩:=G1.c3;have hbl:=B1.lt;have hgl1:=G1.lt
 dsimp only
 go_at_K
 repeat (first|go_values|go_skip|go_guarded|go_step|go_upon)
 refine (HE1.out _ _ (h1.alloc _)).mono ?_
 rintro x v2 ⟨rfl,k2⟩
 have h2:Rp v2 r s st O:=(h1.alloc _).kp k2 (fun _ _=>no_elim)
 have G2:Blk v2 w.heap.size [.int .i64 nx,.int .i64 ou,.int .i64 ag] 109:=k2.blk (by (exact blA)) no_elim
 have B2:Blk v2 (w.heap.size+1) [.int .u8 119,.int .i64 inn,.int .i64 iel,.int .i64 en] 153:=k2.blk (by (exact blA)) no_elim
 have N2b:Blk v2 v1.heap.size [.int .i64 so,.int .i64 nx,.int .i64 so] 109:=k2.blk (by (exact blA)) no_elim
 have HTh2:=hide (HTh.out.trans (show Th O v1 O v2 from ⟨(((Kp.refl no v1).alloc _).trans k2 (fun _ _ e=>e)).mono (fun _ e=>e.elim),fun _ hb _=>hb⟩))
 clear b0 b1 b2 b3 bf g0 g1 g2 gf hbl hgl1 k2
 obtain ⟨b0,b1,b2,b3,bf⟩:=B2.c4;obtain ⟨g0,g1,g2,gf⟩:=G2.c3;obtain ⟨y0,y1,y2,yf⟩:=N2b.c3;have hbl:=B2.lt;have hgl1:=G2.lt;have hyl:=N2b.lt
 dsimp only
 go_at_K
 repeat (first|go_values|go_skip|go_guarded|go_step|go_upon)
 refine (HT.out _ _ h2).mono ?_
 rintro x v3 ⟨rfl,O3,h3,t3⟩
 have G3:=Th.blk t3 G2 hnO
 have B3:=Th.blk t3 B2 hnO1
 have N3b:=Th.blk t3 N2b hnO2
 have HTh3:=hide (HTh2.out.trans t3)
 clear b0 b1 b2 b3 bf g0 g1 g2 gf hbl hgl1 t3 y0 y1 y2 yf hyl
 obtain ⟨b0,b1,b2,b3,bf⟩:=B3.1.c4;obtain ⟨g0,g1,g2,gf⟩:=G3.1.c3;obtain ⟨y0,y1,y2,yf⟩:=N3b.1.c3;have hbl:=B3.1.lt;have hgl1:=G3.1.lt;have hyl:=N3b.1.lt
 dsimp only
 go_at_K
 repeat (first|go_values|go_skip|go_guarded|go_step|go_upon)
 refine (HP1.out _ _ h3).mono ?_
 rintro x v4 ⟨rfl,O4,h4,t4⟩
 have HTh4:=hide (HTh3.out.trans t4)
 dsimp only
 go_at_K
 repeat (first|go_values|go_skip|go_guarded|go_step|go_upon)
 go_end0
 exact ⟨rfl,O4,h4,HTh4.out⟩
theorem pieO_len {f:Nat} {PS:Nat→Nat→Int→Int→Int→List Nd→Option (List Nd)} (hP:∀ i e nx ou ag ND N',PS i e nx ou ag ND=some N'→N'.length=ND.length) {IT:List It} {i:Nat} {nx ou ag:Int} {ND N':List Nd} (h:pieO f PS IT i nx ou ag ND=some N'):N'.length=ND.length:=by
 unfold pieO at h
 split at h
 ·simp at h
 ·split at h
  ·split at h
   ·simp only [Option.some.injEq] at h;rw [← h,List.length_modify]
   ·simp at h
  split at h
  ·split at h
   ·simp at h
   ·split at h
    ·split at h
     ·split at h
      ·simp at h
      ·rename_i N1 hN1
       split at h
       ·simp at h
       ·rename_i N2 hN2
        rw [hP _ _ _ _ _ _ _ h,hP _ _ _ _ _ _ _ hN2,tieO_len _ _ _ _ _ _ _ hN1]
     ·simp at h
    ·simp at h
  split at h
  ·split at h
   ·simp at h
   ·split at h
    ·split at h
     ·simp at h
     ·split at h
      ·simp at h
      ·split at h
       ·simp at h
       ·rename_i N1 hN1
        rw [hP _ _ _ _ _ _ _ h,tieO_len _ _ _ _ _ _ _ hN1]
    ·simp at h
  ·simp only [Option.some.injEq] at h;rw [h]
theorem psO_len:∀ (f:Nat) (IT:List It) (i e:Nat) (nx ou ag:Int) (ND N':List Nd),psO f IT i e nx ou ag ND=some N'→N'.length=ND.length
 | 0,_,_,_,_,_,_,_,_,h=>by simp [psO] at h
 | f+1,IT,i,e,nx,ou,ag,ND,N',h=>by
  rw [psO] at h
  split at h
  ·split at h
   ·simp at h
   ·split at h
    ·split at h
     ·simp at h
     ·split at h
      ·simp at h
      ·rename_i N1 hN1
       rw [psO_len f _ _ _ _ _ _ _ _ h,pieO_len (fun i e nx ou ag ND N' h=>psO_len f IT i e nx ou ag ND N' h) hN1]
    ·simp at h
  ·simp only [Option.some.injEq] at h;rw [h]
end Go.Proofs.YtellieabhaphhabGreatDoor
namespace Go.Proofs.YtellieabhaphhabGreatDoor
open Go.RowKit
def PieSaid (f:Nat):Prop:=∀ (w:World) (r:Nat) (s:ByteArray) (st:RS) (O:Nat→Prop) (i:Nat) (nx ou ag:Int) (ND:List Nd),st.items.length≤1000→st.nodes.length≤1000→i≤1000→Rp w r s st O→pieO f (psO f st.items) st.items i nx ou ag st.nodes=some ND →
  Calls Tryz.prog 98 #[.pointer (some ⟨r,0,none⟩),.int .i64 i,.agg #[.int .i64 nx,.int .i64 ou,.int .i64 ag]] w fun x w'=>x=.returned (.tuple #[])∧Went w O r s { st with nodes:=ND } w'
theorem piece_all {f:Nat} (ih:PsSaid f):PieSaid f:=by
 intro w r s st O i nx ou ag ND hl hn hi h hE
 have hTie:=tie_all f
 unfold pieO at hE
 cases hit:st.items[i]? with
 | none=>rw [hit] at hE;simp at hE
 | some it =>
  rw [hit] at hE
  obtain ⟨ik,inn,iel,ien⟩:=it
  dsimp only at hE
  by_cases h1:ik=115
  ·rw [if_pos h1] at hE
   subst h1
   by_cases hc:0≤inn∧inn<st.nodes.length
   ·rw [if_pos hc] at hE
    obtain ⟨k,rfl⟩:=Int.eq_ofNat_of_zero_le hc.1
    rw [Int.toNat_natCast] at hE
    simp only [Option.some.injEq] at hE
    rw [← hE]
    exact pie_s h hit (by omega)
   ·rw [if_neg hc] at hE;simp at hE
  rw [if_neg h1] at hE
  by_cases h2:ik=105
  ·rw [if_pos h2] at hE
   subst h2
   cases hi1:st.items[i+1]? with
   | none=>rw [hi1] at hE;simp at hE
   | some i1 =>
    rw [hi1] at hE
    dsimp only at hE
    by_cases hc:(0≤i1.en∧i1.en≤1000)∧(0≤iel∧iel≤1000)∧(0≤ien∧ien≤1000)
    ·rw [if_pos hc] at hE
     obtain ⟨a,ha⟩:=Int.eq_ofNat_of_zero_le hc.1.1
     obtain ⟨el,rfl⟩:=Int.eq_ofNat_of_zero_le hc.2.1.1
     obtain ⟨en,rfl⟩:=Int.eq_ofNat_of_zero_le hc.2.2.1
     rw [ha,Int.toNat_natCast,Int.toNat_natCast,Int.toNat_natCast] at hE
     cases he1:entO st.items a el nx ou ag with
     | none=>rw [he1] at hE;simp at hE
     | some t =>
      cases he2:entO st.items el en nx ou ag with
      | none=>rw [he1,he2] at hE;simp at hE
      | some g =>
       rw [he1,he2] at hE
       dsimp only at hE
       cases ht:tieO f st.items (i+1) t g st.nodes with
       | none=>rw [ht] at hE;simp at hE
       | some N1 =>
        rw [ht] at hE
        dsimp only at hE
        cases hp:psO f st.items a el nx ou ag N1 with
        | none=>rw [hp] at hE;simp at hE
        | some N2 =>
         rw [hp] at hE
         dsimp only at hE
         have l1:=tieO_len _ _ _ _ _ _ _ ht
         have l2:=psO_len _ _ _ _ _ _ _ _ _ hp
         exact pie_i (a:=a) (el:=el) (en:=en) (t:=t) (g:=g) (N1:=N1) (N2:=N2) h hi hit hi1 ha
          (fun W O hW=>entry_c a el nx ou ag t W hW hl he1) (fun W O hW=>entry_c el en nx ou ag g W hW hl he2)
          (fun W O hW=>hTie W r s st O (i+1) t g N1 hl hn (by have:=(List.getElem?_eq_some_iff.1 hi1).1;omega) hW ht)
          (fun W O hW=>ih W r s { st with nodes:=N1 } O a el nx ou ag N2 hl (by show N1.length≤1000;omega) (by omega) (by omega) hW hp)
          (fun W O hW=>ih W r s { st with nodes:=N2 } O el en nx ou ag ND hl (by show N2.length≤1000;omega) (by omega) (by omega) hW hE)
    ·rw [if_neg hc] at hE;simp at hE
  rw [if_neg h2] at hE
  by_cases h3:ik=119
  ·rw [if_pos h3] at hE
   subst h3
   cases hi1:st.items[i+1]? with
   | none=>rw [hi1] at hE;simp at hE
   | some i1 =>
    rw [hi1] at hE
    dsimp only at hE
    by_cases hc:(0≤i1.en∧i1.en≤1000)∧(0≤ien∧ien≤1000)
    ·rw [if_pos hc] at hE
     obtain ⟨a,ha⟩:=Int.eq_ofNat_of_zero_le hc.1.1
     obtain ⟨en,rfl⟩:=Int.eq_ofNat_of_zero_le hc.2.1
     rw [ha,Int.toNat_natCast,Int.toNat_natCast] at hE
     cases hf:firG (st.items.length+1) st.items (i+1) with
     | none=>rw [hf] at hE;simp at hE
     | some so =>
      rw [hf] at hE
      dsimp only at hE
      cases he1:entO st.items a en so nx so with
      | none=>rw [he1] at hE;simp at hE
      | some t =>
       rw [he1] at hE
       dsimp only at hE
       cases ht:tieO f st.items (i+1) t nx st.nodes with
       | none=>rw [ht] at hE;simp at hE
       | some N1 =>
        rw [ht] at hE
        dsimp only at hE
        have l1:=tieO_len _ _ _ _ _ _ _ ht
        exact pie_w (a:=a) (en:=en) (t:=t) (so:=so) (N1:=N1) h hi hit hi1 ha
         (fun W O hW=>first_c _ (i+1) so W hW hl hf) (fun W O hW=>entry_c a en so nx so t W hW hl he1)
         (fun W O hW=>hTie W r s st O (i+1) t nx N1 hl hn (by have:=(List.getElem?_eq_some_iff.1 hi1).1;omega) hW ht)
         (fun W O hW=>ih W r s { st with nodes:=N1 } O a en so nx so ND hl (by show N1.length≤1000;omega) (by omega) (by omega) hW hE)
    ·rw [if_neg hc] at hE;simp at hE
  ·rw [if_neg h3] at hE
   simp only [Option.some.injEq] at hE
   rw [← hE]
   exact pie_none h hit h1 h2 h3
set_option maxRecDepth 100000 in
set_option maxHeartbeats 3200000 in
theorem pieces_w {f:Nat} (ih:∀ k,k<f→PsSaid k):PsSaid f:=by
 intro w r s st O i e nx ou ag ND hl hn hi he h hE
 have IH:=hide ih
 have HE:=hide hE
 have hnO:¬ O w.heap.size:=fun e=>Nat.lt_irrefl _ (h.lt _ e)
 clear ih hE
 go_enter Tryz.func56,Tryz.ntmps56
 go_wp2
 go_loopg [1] f (fun k iv wr=>∃ (j:Nat) (N':List Nd) (O':Nat→Prop),iv=.int .i64 j∧j≤1000∧N'.length≤1000∧Rp wr r s { st with nodes:=N' } O'∧Th O w O' wr∧Blk wr w.heap.size [.int .i64 nx,.int .i64 ou,.int .i64 ag] 109∧¬ O' w.heap.size∧psO k st.items j e nx ou ag N'=some ND∧k≤f)
 case atStart=>exact ⟨i,st.nodes,O,rfl,hi,hn,h.alloc _,(Th.refl O w).alloc _,by (exact blA),hnO,HE.out,Nat.le_refl _⟩
 case round =>
  obtain ⟨j,N',O',rfl,hj,hN',hR,hTh,hG,hnO',hE,hkf⟩:=hrel
  have HTh:=hide hTh
  have HKF:=hide hkf
  obtain ⟨g0,g1,g2,gf⟩:=hG.c3
  have hgl:=hG.lt
  obtain ⟨c0,c1,c2,c5,cf⟩:=hR.c
  have hrl:=hR.lt r hR.own
  clear h hTh hkf HE
  cases gk with
  | zero=>simp [psO] at hE
  | succ k =>
   rw [psO] at hE
   by_cases hlt:j<e
   ·rw [if_pos hlt] at hE
    cases hit:st.items[j]? with
    | none=>rw [hit] at hE;simp at hE
    | some it =>
     rw [hit] at hE
     dsimp only at hE
     by_cases hc:0≤it.en∧it.en≤1000
     ·rw [if_pos hc] at hE
      obtain ⟨q,hq⟩:=Int.eq_ofNat_of_zero_le hc.1
      rw [hq,Int.toNat_natCast] at hE
      cases he1:entO st.items q e nx ou ag with
      | none=>rw [he1] at hE;simp at hE
      | some to =>
       rw [he1] at hE
       dsimp only at hE
       cases hp:pieO k (psO k st.items) st.items j to ou ag N' with
       | none=>rw [hp] at hE;simp at hE
       | some N1 =>
        rw [hp] at hE
        dsimp only at hE
        obtain ⟨gi,cap,hil,hog,q4,i0,j1,i2,i3⟩:=hR.itemAt (k:=j) (it:=it) hit
        have hil':j<st.items.length:=hil
        have hgil:=hR.lt gi hog
        have hjI:(j:Int)<st.items.length:=by omega
        have hjE:(j:Int)<e:=by omega
        have hqb:q≤1000:=by omega
        rw [hq] at i3
        dsimp only at q4
        have l1:=pieO_len (fun i e nx ou ag ND N' h=>psO_len k st.items i e nx ou ag ND N' h) hp
        have HEN:=hide (fun W O1 (hW:Rp W r s { st with nodes:=N' } O1)=>entry_c (st:={ st with nodes:=N' }) q e nx ou ag to W hW hl he1)
        have HPI:=hide (fun W O1 (hW:Rp W r s { st with nodes:=N' } O1)=>piece_all (IH.out k (by have:=HKF.out;omega)) W r s { st with nodes:=N' } O1 j to ou ag N1 hl hN' hj hW hp)
        have HEE:=hide hE
        clear hE hp he1 hit hc hq
        go_wp2_with fail
        refine (HEN.out _ _ hR).mono ?_
        rintro x v1 ⟨rfl,k1⟩
        have h1:=hR.kp k1 (fun _ _=>no_elim)
        have G1:=k1.blk hG no_elim
        have HTh1:=hide (HTh.out.trans (show Th O' wr O' v1 from ⟨k1.mono (fun _ e=>e.elim),fun _ hb _=>hb⟩))
        clear g0 g1 g2 gf hgl c0 c1 c2 c5 cf hrl q4 i0 j1 i2 i3 hgil k1
        obtain ⟨g0,g1,g2,gf⟩:=G1.c3;have hgl:=G1.lt
        go_wp2_with fail
        refine (HPI.out _ _ h1).mono ?_
        rintro x v2 ⟨rfl,O2,h2,t2⟩
        have G2:=Th.blk t2 G1 hnO'
        go_wp2
        go_roundg k
        case measure=>omega
        case rel=>exact ⟨q,N1,O2,rfl,hqb,by omega,h2,HTh1.out.trans t2,G2.1,G2.2,HEE.out,by have:=HKF.out;omega⟩
     ·rw [if_neg hc] at hE;simp at hE
   ·rw [if_neg hlt] at hE
    simp only [Option.some.injEq] at hE
    have HEE:=hide hE
    have hjE:¬ (j:Int)<e:=by omega
    clear hE hlt
    go_wp2
    go_end0
    rw [← HEE.out]
    exact ⟨rfl,O',hR,HTh.out⟩
theorem pieces_all:∀ f,PsSaid f:=by
 intro f
 induction f using Nat.strongRecOn with
 | _ f ih=>exact pieces_w ih
end Go.Proofs.YtellieabhaphhabGreatDoor
namespace Go.Proofs.YtellieabhaphhabGreatDoor
open Go.RowKit
def stB (a:ByteArray) (s:St):ByteArray:=s.foldl (fun a m=>a++sgB m++⟨#[46]⟩) a
def rowB (a:ByteArray) (s:St):ByteArray:=stB (if s=[] then a++⟨#[63]⟩ else a) s++⟨#[59]⟩
def splB (T:Tbl):ByteArray:=T.foldl rowB ⟨#[]⟩
theorem stB_take (a:ByteArray) (s:St) (j:Nat) (h:j<s.length):stB a (s.take (j+1))=stB a (s.take j)++sgB (s.getD j 0)++⟨#[46]⟩:=by
 rw [List.take_succ_eq_append_getElem h]
 unfold stB
 rw [List.foldl_append,List.getD_eq_getElem?_getD,List.getElem?_eq_getElem h]
 rfl
theorem splB_take (T:Tbl) (j:Nat) (h:j<T.length):splB (T.take (j+1))=rowB (splB (T.take j)) (T.getD j []):=by
 rw [List.take_succ_eq_append_getElem h]
 unfold splB
 rw [List.foldl_append,List.getD_eq_getElem?_getD,List.getElem?_eq_getElem h]
 rfl
theorem stB_size (a:ByteArray) (s:St):(stB a s).size≤a.size+8*s.length:=by
 unfold stB
 induction s generalizing a with
 | nil=>simp
 | cons m s ih =>
  have h1:=ih (a++sgB m++⟨#[46]⟩)
  have h2:=sg_size m
  rw [ByteArray.size_append,ByteArray.size_append,show (ByteArray.mk #[46]).size=1 from rfl] at h1
  rw [List.foldl_cons,List.length_cons]
  omega
theorem rowB_size (a:ByteArray) (s:St) (hs:SOk s):(rowB a s).size≤a.size+50:=by
 unfold rowB
 have h6:s.length≤6:=by rcases hs with rfl|h;exact Nat.zero_le _;omega
 have h1:=stB_size (if s=[] then a++⟨#[63]⟩ else a) s
 have h2:(if s=[] then a++⟨#[63]⟩ else a).size≤a.size+1:=by
  split
  ·rw [ByteArray.size_append];exact Nat.le_refl _
  ·omega
 rw [ByteArray.size_append,show (ByteArray.mk #[59]).size=1 from rfl]
 omega
theorem splB_size (T:Tbl) (h:TOk T):(splB T).size≤50*T.length:=by
 have key:∀ (T:Tbl) (a:ByteArray),TOk T→(T.foldl rowB a).size≤a.size+50*T.length:=by
  intro T
  induction T with
  | nil=>intro a _;simp
  | cons s T ih =>
   intro a h
   have h1:=ih (rowB a s) (fun z hz=>h z (List.mem_cons_of_mem _ hz))
   have h2:=rowB_size a s (h s (List.mem_cons_self ..))
   rw [List.foldl_cons,List.length_cons]
   omega
 have:=key T ⟨#[]⟩ h
 rw [show (ByteArray.mk #[]).size=0 from rfl,Nat.zero_add] at this
 exact this
theorem TOk.take {T:Tbl} (h:TOk T) (j:Nat):TOk (T.take j):=fun s hs=>h s (List.mem_of_mem_take hs)
set_option maxRecDepth 100000 in
set_option maxHeartbeats 3200000 in
theorem spell_c (v:Value) (T:Tbl) (w:World) (h:TV w v T) (hT:TOk T) (hl:T.length≤90) :
  Calls Tryz.prog 62 #[v] w fun e w'=>e=.returned (.string (splB T))∧Kp no w w':=by
 obtain ⟨tb,cap,rfl,htb,hat⟩:=h
 have HAT:=hide hat
 clear hat
 go_enter Tryz.func62,Tryz.ntmps62
 go_wp2
 go_loopg [3,4] T.length (fun k sv iv wr=>∃ j:Nat,j≤T.length∧k=T.length-j∧iv=.int .i64 j∧sv=.string (splB (T.take j))∧Kp no w wr)
 case atStart=>exact ⟨0,Nat.zero_le _,rfl,rfl,rfl,Kp.refl _ _⟩
 case round =>
  obtain ⟨j,hj,hk,rfl,rfl,kr⟩:=hrel
  have HKK:=hide hk
  have HKR:=hide kr
  clear hk kr
  by_cases hlt:j<T.length
  ·obtain ⟨a1,p1,q0w,q1w⟩:=HAT.out j hlt
   have q0:=(HKR.out.cell htb no_elim j).trans q0w
   have HQ1:=hide q1w
   have htr:=Nat.lt_of_lt_of_le htb HKR.out.size
   have HRW:=hide (splB_take T j hlt)
   have hsz:=Nat.le_trans (splB_size _ (hT.take j)) (Nat.mul_le_mul_left 50 (show (T.take j).length≤90 by rw [List.length_take];omega))
   have HSO:=hide (hT.get j)
   clear q1w
   generalize T.getD j []=S at *
   generalize splB (T.take j)=acc at *
   have hjI:(j:Int)<T.length:=by omega
   have HQ0:=hide q0w
   have h6:S.length≤6:=by rcases HSO.out with rfl|h;exact Nat.zero_le _;omega
   by_cases hS0:S=[]
   ·have HR2:=hide (show rowB acc S=stB (acc++⟨#[63]⟩) S++⟨#[59]⟩ by rw [rowB,if_pos hS0])
    have e63:(ByteArray.mk #[63]).size=1:=rfl
    have hsa:(acc++⟨#[63]⟩).size≤4501:=by rw [ByteArray.size_append];omega
    have hl0:S.length=0:=by rw [hS0];rfl
    have hl0':((S.length:Int) == 0)=true:=by rw [hl0];rfl
    clear hS0 hl0
    go_wp2
    generalize hacc:acc++⟨#[63]⟩=acc0 at *
    clear hacc
    clear q0 htr
    go_loopg [3,5] S.length (fun k sv vv wx=>∃ q:Nat,q≤S.length∧k=S.length-q∧vv=.int .i64 q∧sv=.string (stB acc0 (S.take q))∧Kp no w wx)
    case atStart=>exact ⟨0,Nat.zero_le _,rfl,rfl,rfl,HKR.out⟩
    case round =>
     obtain ⟨q,hq,hk2,rfl,rfl,kx⟩:=hrel
     rename_i wx
     have HKK2:=hide hk2
     have HKX:=hide kx
     have q0:=(HKX.out.cell htb no_elim j).trans HQ0.out
     have htr:=Nat.lt_of_lt_of_le htb HKX.out.size
     have hs2:=Nat.le_trans (stB_size acc0 (S.take q)) (Nat.add_le_add_left (show 8*(S.take q).length≤48 by rw [List.length_take];omega) _)
     clear hk2 kx
     by_cases hlq:q<S.length
     ·obtain ⟨g2,e2,hg2w,hc2w⟩:=SV.at HQ1.out (k:=q) hlq
      subst e2
      have hc2:=(HKX.out.cell hg2w no_elim q).trans hc2w
      have hg2:=Nat.lt_of_lt_of_le hg2w HKX.out.size
      have HST:=hide (stB_take acc0 S q hlq)
      have hs3:=sg_size (S.getD q 0)
      clear hc2w
      generalize sgB (S.getD q 0)=zq at *
      generalize stB acc0 (S.take q)=acq at *
      have hqI:(q:Int)<S.length:=by omega
      have e46:(ByteArray.mk #[46]).size=1:=rfl
      go_wp2
      go_roundg (S.length-(q+1))
      case measure=>have:=HKK2.out;omega
      case rel=>exact ⟨q+1,by omega,rfl,by go_num,by rw [HST.out],HKX.out⟩
     ·obtain rfl:q=S.length:=by omega
      rw [List.take_length]
      have hs4:(stB acc0 S).size≤4600:=by have:=stB_size acc0 S;omega
      generalize stB acc0 S=acq at *
      have e59:(ByteArray.mk #[59]).size=1:=rfl
      go_wp2
      go_roundg (T.length-(j+1))
      case measure=>have:=HKK.out;omega
      case rel=>exact ⟨j+1,by omega,rfl,by go_num,by rw [HRW.out,HR2.out],HKX.out⟩
   ·have HR2:=hide (show rowB acc S=stB acc S++⟨#[59]⟩ by rw [rowB,if_neg hS0])
    have hsa:acc.size≤4501:=by omega
    have hl0':((S.length:Int) == 0)=false:=by
     have:=(HSO.out.resolve_left hS0).1
     rw [this];rfl
    clear hS0
    go_wp2
    generalize acc=acc0 at *
    clear q0 htr
    go_loopg [3,5] S.length (fun k sv vv wx=>∃ q:Nat,q≤S.length∧k=S.length-q∧vv=.int .i64 q∧sv=.string (stB acc0 (S.take q))∧Kp no w wx)
    case atStart=>exact ⟨0,Nat.zero_le _,rfl,rfl,rfl,HKR.out⟩
    case round =>
     obtain ⟨q,hq,hk2,rfl,rfl,kx⟩:=hrel
     rename_i wx
     have HKK2:=hide hk2
     have HKX:=hide kx
     have q0:=(HKX.out.cell htb no_elim j).trans HQ0.out
     have htr:=Nat.lt_of_lt_of_le htb HKX.out.size
     have hs2:=Nat.le_trans (stB_size acc0 (S.take q)) (Nat.add_le_add_left (show 8*(S.take q).length≤48 by rw [List.length_take];omega) _)
     clear hk2 kx
     by_cases hlq:q<S.length
     ·obtain ⟨g2,e2,hg2w,hc2w⟩:=SV.at HQ1.out (k:=q) hlq
      subst e2
      have hc2:=(HKX.out.cell hg2w no_elim q).trans hc2w
      have hg2:=Nat.lt_of_lt_of_le hg2w HKX.out.size
      have HST:=hide (stB_take acc0 S q hlq)
      have hs3:=sg_size (S.getD q 0)
      clear hc2w
      generalize sgB (S.getD q 0)=zq at *
      generalize stB acc0 (S.take q)=acq at *
      have hqI:(q:Int)<S.length:=by omega
      have e46:(ByteArray.mk #[46]).size=1:=rfl
      go_wp2
      go_roundg (S.length-(q+1))
      case measure=>have:=HKK2.out;omega
      case rel=>exact ⟨q+1,by omega,rfl,by go_num,by rw [HST.out],HKX.out⟩
     ·obtain rfl:q=S.length:=by omega
      rw [List.take_length]
      have hs4:(stB acc0 S).size≤4600:=by have:=stB_size acc0 S;omega
      generalize stB acc0 S=acq at *
      have e59:(ByteArray.mk #[59]).size=1:=rfl
      go_wp2
      go_roundg (T.length-(j+1))
      case measure=>have:=HKK.out;omega
      case rel=>exact ⟨j+1,by omega,rfl,by go_num,by rw [HRW.out,HR2.out],HKX.out⟩
  ·obtain rfl:j=T.length:=by omega
   rw [List.take_length]
   go_wp2
   go_ret
   exact ⟨rfl,HKR.out⟩
theorem rp_drow {w:World} {r:Nat} {s:ByteArray} {st:RS} {O:Nat→Prop} (h:Rp w r s st O):∃ a cap,w.cell? ⟨r,3,none⟩=some (.slice a st.nodes.length cap)∧DRow w (.slice a st.nodes.length cap) st.nodes∧r<w.heap.size:=by
 obtain ⟨nv,iv,hB,hN,hI,_⟩:=h
 obtain ⟨a,cap,rfl⟩:=DRow.shape (l:=st.nodes) hN
 exact ⟨a,cap,Blk.cell hB 3,hN,Blk.lt hB⟩
def em2 (c:Int):Ending:=.returned (.tuple #[.string ByteArray.empty,.int .i64 c])
set_option maxHeartbeats 1600000 in
theorem rflow_long (s:ByteArray) (w:World) (hm:s.size≤maxLen) (hs:900<s.size) :
  Calls Tryz.prog 31 #[.string s] w fun e w'=>e=em2 1∧Kp no w w':=by
 have HS:=hide (lines_long s w hm hs)
 go_enter Tryz.func31,Tryz.ntmps31
 go_wp2_with fail
 refine HS.out.mono ?_
 rintro e w1 ⟨⟨r,rfl⟩,k1⟩
 go_wp2
 go_ret2
 exact ⟨rfl,k1⟩
set_option maxHeartbeats 1600000 in
theorem rflow_bad (s:ByteArray) (w:World) (hs:s.size≤900) (hb:(graE s).1≠0) :
  Calls Tryz.prog 31 #[.string s] w fun e w'=>e=em2 (graE s).1∧Kp no w w':=by
 have HS:=hide (lines_c s w hs)
 have hb':(((graE s).1:Int) == 0)=false:=by simp;omega
 unfold LinPost at HS
 generalize graE s=ge at *
 obtain ⟨ge1,ge2⟩:=ge
 dsimp only at *
 clear hb
 go_enter Tryz.func31,Tryz.ntmps31
 go_wp2_with fail
 refine HS.out.mono ?_
 rintro e w1 ⟨r,O,rfl,hr,k1,hO⟩
 clear hr hO
 go_wp2
 go_ret2
 exact ⟨rfl,k1⟩
set_option maxHeartbeats 1600000 in
theorem rflow_good (s:ByteArray) (w:World) (hs:s.size≤900) (hb:graE s=(0,0)) (hg:∀ n∈(graF s).nodes,Gn n) :
  Calls Tryz.prog 31 #[.string s] w fun e w'=>e=.returned (.tuple #[.string (splB (lstF (graF s).nodes)),.int .i64 0])∧Kp no w w':=by
 have HS:=hide (lines_c s w hs)
 have hlen:=(graF_inv s).2
 unfold LinPost at HS
 rw [hb] at HS
 clear hb
 generalize graF s=st at *
 go_enter Tryz.func31,Tryz.ntmps31
 go_wp2_with fail
 refine HS.out.mono ?_
 rintro e w1 ⟨r,O,rfl,hr,k1,hO⟩
 obtain ⟨a,cap,n3,hD,hrl⟩:=rp_drow hr
 have HD:=hide hD
 clear hr hO hD HS
 go_wp2_with fail
 refine (least_c _ st.nodes _ HD.out hlen hg).mono ?_
 rintro e w2 ⟨u,rfl,hu,k2⟩
 have HU:=hide hu
 obtain ⟨tb,c2,rfl,_⟩:=hu
 go_wp2_with fail
 refine (spell_c _ (lstF st.nodes) _ HU.out (lst_ok _) (by rw [lst_len];exact hlen)).mono ?_
 rintro e w3 ⟨rfl,k3⟩
 go_wp2
 go_ret2
 exact ⟨rfl,(k1.trans k2 (fun _ _ e=>e)).trans k3 (fun _ _ e=>e)⟩
end Go.Proofs.YtellieabhaphhabGreatDoor
namespace Go.Proofs.YtellieabhaphhabGreatDoor
open Go.RowKit
def nvr (x:Nd):Nd:=if x.op=33 then { x with t:=-1 } else x
def fixJ (ND:List Nd):Nat→List Nd
 | 0=>ND
 | j+1=>(fixJ ND j).modify j nvr
theorem fix_len (ND:List Nd):∀ j,(fixJ ND j).length=ND.length
 | 0=>rfl
 | j+1=>by rw [fixJ,List.length_modify,fix_len ND j]
theorem mod_t {l:List Nd} {j:Nat} (h:j<l.length) (h33:l[j].op=33):l.modify j nvr=l.modify j (fun x=>{ x with t:=-1 }):=by
 apply List.ext_getElem?
 intro i
 rw [List.getElem?_modify,List.getElem?_modify]
 by_cases hi:j=i
 ·subst hi
  rw [List.getElem?_eq_getElem h]
  simp [nvr,h33]
 ·simp [hi]
theorem mod_no {l:List Nd} {j:Nat} (h:j<l.length) (h33:l[j].op≠33):l.modify j nvr=l:=by
 apply List.ext_getElem?
 intro i
 rw [List.getElem?_modify]
 by_cases hi:j=i
 ·subst hi
  rw [List.getElem?_eq_getElem h]
  simp [nvr,h33]
 ·simp [hi]
def rg3 (t:ByteArray) (e p:Int):Ending:=.returned (.tuple #[.string t,.int .i64 e,.int .i64 p])
set_option maxHeartbeats 800000 in
theorem rgraph_long (s:ByteArray) (w:World) (hm:s.size≤maxLen) (hs:180<s.size) :
  Calls Tryz.prog 29 #[.string s] w fun e w'=>e=rg3 ⟨#[]⟩ 1 0∧Kp no w w':=by
 have HS:=hide (source_long s w hm hs)
 go_enter Tryz.func29,Tryz.ntmps29
 go_wp2_with fail
 refine HS.out.mono ?_
 rintro e w1 ⟨⟨r,rfl⟩,k1⟩
 go_wp2
 go_ret3
 exact ⟨rfl,k1⟩
set_option maxHeartbeats 800000 in
theorem rgraph_bad (s:ByteArray) (w:World) (hs:s.size≤180) (hb:srcBad s=true) :
  Calls Tryz.prog 29 #[.string s] w fun e w'=>e=rg3 ⟨#[]⟩ 2 (srcF s).i∧Kp no w w':=by
 have HS:=hide (source_c s w hs)
 unfold SrcPost at HS
 rw [hb] at HS
 simp only [if_true] at HS
 generalize (srcF s).i=ri at *
 go_enter Tryz.func29,Tryz.ntmps29
 go_wp2_with fail
 refine HS.out.mono ?_
 rintro e w1 ⟨r,O,rfl,_,k1,_⟩
 go_wp2
 go_ret3
 exact ⟨rfl,k1⟩
set_option maxRecDepth 100000 in
set_option maxHeartbeats 3200000 in
theorem rgraph_good (s:ByteArray) (w:World) (hs:s.size≤180) (hb:srcBad s=false) (F:Nat) (ND:List Nd) (hE:psO F (srcF s).items 0 (srcF s).items.length (srcF s).nodes.length (srcF s).nodes.length (srcF s).nodes.length (srcF s).nodes=some ND)
  (hn:(srcF s).nodes.length≤100) (hw:∀ x∈fixJ ND ND.length,Wn s x) :
  Calls Tryz.prog 29 #[.string s] w fun e w'=>e=rg3 (wriF s (fixJ ND ND.length)) 0 0∧Kp no w w':=by
 have HS:=hide (source_c s w hs)
 have hinv:=(srcF_good s).inv
 have hit:(srcF s).items.length≤1000:=by have:=hinv.t;have:=hinv.i;have:=cond_le (srcF s).bad;omega
 unfold SrcPost at HS
 rw [hb] at HS
 simp only [Bool.false_eq_true,if_false] at HS
 have hlen:=psO_len _ _ _ _ _ _ _ _ _ hE
 have HP:=hide (fun W r O (hW:Rp W r s (srcF s) O)=>pieces_all F W r s (srcF s) O 0 (srcF s).items.length _ _ _ ND hit (by omega) (by omega) hit hW hE)
 have HWn:=hide hw
 clear hE hinv hw hb
 generalize srcF s=st at *
 go_enter Tryz.func29,Tryz.ntmps29
 go_wp2_with fail
 refine HS.out.mono ?_
 rintro e w1 ⟨r,O,rfl,hr,k1,hO⟩
 obtain ⟨a,cap,n3,hD,hrl⟩:=rp_drow hr
 have HR:=hide hr
 obtain ⟨nv,iv,hB,hN,hI,d1,d2,d3,hOeq⟩:=hr
 have q4:w1.cell? ⟨r,4,none⟩=some iv:=Blk.cell hB 4
 have hivs:∃ ia ic,iv=.slice ia st.items.length ic:=by
  rcases hI.2 with ⟨rfl,h0⟩|⟨g,cap,cur,rfl,_⟩
  ·exact ⟨none,0,by rw [h0]⟩
  ·exact ⟨_,_,rfl⟩
 obtain ⟨ia,ic,rfl⟩:=hivs
 have cf:∀ o,w1.frozen? ⟨r,o,none⟩=false:=Blk.frozen hB
 clear hD hB hN hI d1 d2 d3 hOeq HS
 go_wp2_with fail
 refine (HP.out _ r O HR.out).mono ?_
 rintro e w2 ⟨rfl,O2,h2,t2⟩
 have hO2:∀ b,O2 b→w.heap.size≤b:=fun b hb2=>by
  rcases Nat.lt_or_ge b w1.heap.size with hlt|hge
  ·exact hO b (t2.2 b hb2 hlt)
  ·have:=k1.size;omega
 have k2:Kp no w w2:=k1.trans t2.1 (fun x hx e=>by have:=hO x e;omega)
 have HK2:=hide k2
 have H2:=hide h2
 clear n3 q4 cf hrl k1 t2 k2 HR HP
 have hNl:ND.length≤100:=by omega
 rw [← hlen]
 go_wp2
 go_loopg [9] ND.length (fun k iv wr=>∃ (j:Nat) (O':Nat→Prop),j≤ND.length∧k=ND.length-j∧iv=.int .i64 j∧Rp wr r s { st with nodes:=fixJ ND j } O'∧Kp no w wr∧∀ b,O' b→w.heap.size≤b)
 case atStart=>exact ⟨0,O2,Nat.zero_le _,rfl,rfl,H2.out,HK2.out,hO2⟩
 case round =>
  clear hO2 HK2 H2 h2
  obtain ⟨j,O',hj,hk,rfl,hR,kr,hO'⟩:=hrel
  have HKK:=hide hk
  have HKR:=hide kr
  have HR:=hide hR
  have hfl:(fixJ ND j).length=ND.length:=fix_len ND j
  obtain ⟨a3,cap3,q3,hD,hrl⟩:=rp_drow hR
  dsimp only at q3 hD
  rw [hfl] at q3 hD
  by_cases hlt:j<ND.length
  ·have hjI:(j:Int)<ND.length:=by omega
   have hk2:j<(fixJ ND j).length:=by omega
   obtain ⟨gn,cap4,hon,q3',nc,nf,hset⟩:=hR.setNode hk2
   dsimp only at q3' nc hset
   rw [hfl] at q3'
   rw [q3] at q3'
   simp only [Option.some.injEq,Value.slice.injEq] at q3'
   obtain ⟨rfl,-,rfl⟩:=q3'
   obtain ⟨c0,c1,c2,c5,cf⟩:=hR.c
   have hnl:=hR.lt gn hon
   have n0:wr.cell? ⟨gn,j*9,none⟩=some (Value.int .u8 ((fixJ ND j)[j]).op):=nc 0 (by decide)
   have n5:wr.cell? ⟨gn,j*9+5,none⟩=some (Value.int .i64 ((fixJ ND j)[j]).t):=nc 5 (by decide)
   have H1:=hide (hset 5 (.int .i64 (-1)) (fun x=>{ x with t:=-1 }) (by decide) (fun x=>rfl))
   have hgk:∀ (a:Addr),a.block=gn→Kp no w (wr.setCell a (.int .i64 (-1))):=fun a ha=>HKR.out.setCell _ (fun h=>by have:=hO' gn hon;omega)
   clear hset nc kr hR hD hj
   by_cases h33:((fixJ ND j)[j]).op=33
   ·rw [← mod_t hk2 h33] at H1
    rw [h33] at n0
    generalize ((fixJ ND j)[j]).t=ot at *
    go_wp2
    go_roundg (ND.length-(j+1))
    case measure=>have:=HKK.out;omega
    case rel=>exact ⟨j+1,O',by omega,rfl,by go_num,H1.out,hgk _ rfl,hO'⟩
   ·go_wp2
    go_roundg (ND.length-(j+1))
    case measure=>have:=HKK.out;omega
    case rel =>
     refine ⟨j+1,O',by omega,rfl,by go_num,?_,HKR.out,hO'⟩
     rw [fixJ,mod_no hk2 h33]
     exact HR.out
  ·have hje:¬ ((j:Int)<ND.length):=by omega
   have hjn:j=ND.length:=by omega
   have HWr:=hide (write_c s (.slice a3 st.nodes.length cap3) (fixJ ND ND.length) wr (by rw [hjn,hlen] at hD;rw [hlen];exact hD) (by rw [fix_len];omega) (by omega) HWn.out)
   obtain ⟨tx,htx⟩:∃ tx,wriF s (fixJ ND ND.length)=tx:=⟨_,rfl⟩
   rw [htx] at HWr
   have HTX:=hide htx
   clear htx
   go_wp2_with fail
   refine HWr.out.mono ?_
   rintro e w5 ⟨rfl,k5⟩
   have HKF:=hide (HKR.out.trans (S':=no) k5 (fun _ _ e=>e))
   go_wp2
   go_ret3
   exact ⟨by rw [HTX.out];rfl,HKF.out⟩
end Go.Proofs.YtellieabhaphhabGreatDoor
namespace Go.Proofs.YtellieabhaphhabGreatDoor
open Go.RowKit
def upW (W:Nat→Int × Int × Bool) (n:Nat) (x:Nd):Nd:=if (W n).2.2 then { x with t:=(W n).1,f:=(W n).2.1 } else { x with t:=(W n).1 }
structure Up (W:Nat→Int × Int × Bool) (c d:Nat) (ND ND':List Nd):Prop where
 len:ND'.length=ND.length
 get:∀ n x,ND[n]?=some x→ND'[n]?=some (if c≤n∧n<d then upW W n x else x)
theorem Up.refl {W:Nat→Int × Int × Bool} {c:Nat} {ND:List Nd}:Up W c c ND ND:=⟨rfl,fun n x h=>by rw [if_neg (by omega)];exact h⟩
theorem Up.trans {W:Nat→Int × Int × Bool} {c m d:Nat} {A B C:List Nd} (h:Up W c m A B) (k:Up W m d B C) (h1:c≤m) (h2:m≤d):Up W c d A C:=by
 refine ⟨k.len.trans h.len,fun n x hn=>?_⟩
 rw [k.get n _ (h.get n x hn)]
 by_cases a:c≤n∧n<m
 ·rw [if_pos a,if_neg (by omega),if_pos (by omega)]
 ·rw [if_neg a]
  by_cases b:m≤n∧n<d
  ·rw [if_pos b,if_pos (by omega)]
  ·rw [if_neg b,if_neg (by omega)]
theorem up_one {W:Nat→Int × Int × Bool} {c:Nat} {ND:List Nd} {f:Nd→Nd} (hf:∀ x,f x=upW W c x):Up W c (c+1) ND (ND.modify c f):=by
 refine ⟨List.length_modify ..,fun n x hn=>?_⟩
 rw [List.getElem?_modify,hn]
 by_cases e:c=n
 ·subst e
  rw [if_pos (by omega)]
  simp [hf]
 ·rw [if_neg (by omega)]
  simp [e]
theorem tie_of:∀ (f:Nat) {IT:List It} {W:Nat→Int × Int × Bool} {i e c d:Nat} {t g:Int} {ND:List Nd},CdW f IT W i e c d t g→e≤IT.length→d≤ND.length→∃ N',tieO f IT i t g ND=some N'∧Up W c d ND N'
 | 0,_,_,_,_,_,_,_,_,_,h,_,_=>h.elim
 | f+1,IT,W,i,e,c,d,t,g,ND,h,he,hd=>by
  obtain ⟨it,h1,h2,h3,h4,h5,h6⟩:=h
  rw [tieO,h1]
  dsimp only
  rcases h6 with ⟨k,n,q1,q2,q3⟩|⟨k,q⟩|⟨k,e1,m,q,q2⟩|⟨k,e1,m,q,q2⟩
  ·rw [if_pos k,n,if_pos (by omega),Int.toNat_natCast,q1]
   exact ⟨_,rfl,up_one (fun x=>by unfold upW;rw [q3];rfl)⟩
  ·rw [if_neg (by omega),if_pos k]
   exact tie_of f q he hd
  ·rw [if_neg (by omega),if_neg (by omega)]
   obtain ⟨w1,w2,i1,w3,w4,w5⟩:=cdw_lt q
   obtain ⟨v1,v2,_⟩:=cdw_lt q2
   obtain ⟨N1,t1,u1⟩:=tie_of f (ND:=ND) q (by omega) (by omega)
   obtain ⟨N2,t2,u2⟩:=tie_of f (ND:=N1) q2 he (by rw [u1.len];exact hd)
   rw [w3]
   dsimp only
   rw [w4,if_pos (by omega),Int.toNat_natCast,cdw_fst f q2 (IT.length+1) (by omega)]
   dsimp only
   rw [if_pos k,t1]
   dsimp only
   rw [t2]
   exact ⟨_,rfl,u1.trans u2 (by omega) (by omega)⟩
  ·rw [if_neg (by omega),if_neg (by omega)]
   obtain ⟨w1,w2,i1,w3,w4,w5⟩:=cdw_lt q
   obtain ⟨v1,v2,_⟩:=cdw_lt q2
   obtain ⟨N1,t1,u1⟩:=tie_of f (ND:=ND) q (by omega) (by omega)
   obtain ⟨N2,t2,u2⟩:=tie_of f (ND:=N1) q2 he (by rw [u1.len];exact hd)
   rw [w3]
   dsimp only
   rw [w4,if_pos (by omega),Int.toNat_natCast,cdw_fst f q2 (IT.length+1) (by omega)]
   dsimp only
   rw [if_neg (by omega),t1]
   dsimp only
   rw [t2]
   exact ⟨_,rfl,u1.trans u2 (by omega) (by omega)⟩
theorem stw_le {f:Nat} {IT:List It} {W:Nat→Int × Int × Bool} {i e c d:Nat} {nx ou ag:Int} (h:StW f IT W i e c d nx ou ag):c≤d:=by
 cases f with
 | zero=>exact h.elim
 | succ f=>exact h.1
theorem ps_of:∀ (f:Nat) {IT:List It} {W:Nat→Int × Int × Bool} {i e c d:Nat} {nx ou ag:Int} {ND:List Nd},StW f IT W i e c d nx ou ag→e≤IT.length→d≤ND.length→∃ N',psO f IT i e nx ou ag ND=some N'∧Up W c d ND N'
 | 0,_,_,_,_,_,_,_,_,_,_,h,_,_=>h.elim
 | f+1,IT,W,i,e,c,d,nx,ou,ag,ND,h,he,hd=>by
  rcases h with ⟨hcd,⟨rfl,rfl⟩|⟨hie,he1,it,j,m,nx',h1,h2,h3,h4,h5,h6,h7,h8,h9⟩⟩
  ·rw [psO,if_neg (Nat.lt_irrefl _)]
   exact ⟨_,rfl,Up.refl⟩
  ·rw [psO,if_pos hie,h1]
   dsimp only
   rw [h2,if_pos (by omega),Int.toNat_natCast,h7]
   dsimp only
   have key:∃ N1,pieO f (psO f IT) IT i nx' ou ag ND=some N1∧Up W c m ND N1:=by
    unfold pieO
    rw [h1]
    dsimp only
    rcases h8 with ⟨k,n,q1,q2⟩|⟨k,q1⟩|⟨k,a,b,p,q,t,g,q1,q2,q3,q4,q5,q6,q7,q8⟩|⟨k,a,p,t,q1,q2,q3,q4⟩
    ·rw [if_pos k,n,if_pos (by omega),Int.toNat_natCast,q1]
     exact ⟨_,rfl,up_one (fun x=>by unfold upW;rw [q2];rfl)⟩
    ·rw [if_neg (by omega),if_neg (by omega),if_neg (by omega),q1]
     exact ⟨_,rfl,Up.refl⟩
    ·obtain ⟨w1,w2,i1,w3,w4,w5⟩:=cdw_lt q1
     have l1:=stw_le q5
     have l2:=stw_le q6
     obtain ⟨N1,t1,u1⟩:=tie_of f (ND:=ND) q1 (by omega) (by omega)
     obtain ⟨N2,t2,u2⟩:=ps_of f (ND:=N1) q5 (by omega) (by rw [u1.len];omega)
     obtain ⟨N3,t3,u3⟩:=ps_of f (ND:=N2) q6 (by omega) (by rw [u2.len,u1.len];omega)
     rw [if_neg (by omega),if_pos k,w3]
     dsimp only
     rw [w4,q4,h2,if_pos (by omega),Int.toNat_natCast,Int.toNat_natCast,Int.toNat_natCast,q7,q8]
     dsimp only
     rw [t1]
     dsimp only
     rw [t2]
     dsimp only
     rw [t3]
     exact ⟨_,rfl,(u1.trans u2 (by omega) (by omega)).trans u3 (by omega) (by omega)⟩
    ·obtain ⟨w1,w2,i1,w3,w4,w5⟩:=cdw_lt q1
     have l1:=stw_le q3
     obtain ⟨N1,t1,u1⟩:=tie_of f (ND:=ND) q1 (by omega) (by omega)
     obtain ⟨N2,t2,u2⟩:=ps_of f (ND:=N1) q3 (by omega) (by rw [u1.len];omega)
     rw [if_neg (by omega),if_neg (by omega),if_pos k,w3]
     dsimp only
     rw [w4,h2,if_pos (by omega),cdw_fst f q1 (IT.length+1) (by omega)]
     dsimp only
     rw [Int.toNat_natCast,Int.toNat_natCast,q4]
     dsimp only
     rw [t1]
     dsimp only
     rw [t2]
     exact ⟨_,rfl,u1.trans u2 (by omega) (by omega)⟩
   obtain ⟨N1,k1,u1⟩:=key
   obtain ⟨N2,k2,u2⟩:=ps_of f (ND:=N1) h9 he (by rw [u1.len];exact hd)
   rw [k1]
   dsimp only
   rw [k2]
   exact ⟨_,rfl,u1.trans u2 h5 h6⟩
theorem nodA_strip (M:MS):∀ j,(nodA M j).map (fun n=>n.setW 0 0)=((M.row.take j).filter (fun n=>decide (n.act≠15))).map (fun n=>n.setW 0 0)
 | 0=>rfl
 | j+1=>by
  rw [nodA,List.take_add_one,List.filter_append,List.map_append,List.map_append,nodA_strip M j]
  congr 1
  cases M.row[j]? with
  | none=>rfl
  | some n =>
   dsimp only
   by_cases h:n.act=15
   ·rw [if_pos h]
    simp [h]
   ·rw [if_neg h]
    simp [h]
    rfl
theorem nodM_strip {s:ByteArray} {M:MS} {nodes:List Nd} (h:FR s M.row nodes):(nodM M).map (fun n=>n.setW 0 0)=nodes.map (fun nd=>encN nd (txN s nd) 0 0):=by
 rw [nodM,nodA_strip,List.take_length]
 exact h.1
theorem nodM_at {s:ByteArray} {M:MS} {nodes:List Nd} (h:FR s M.row nodes) {n:Nat} {nd:Nd} (hn:nodes[n]?=some nd) :
  ∃ y z,(nodM M)[n]?=some (encN nd (txN s nd) y z)∧WyM M n=(y,z,decide (nd.op=121∨nd.op=58)):=by
 have e:((nodM M).map (fun n=>n.setW 0 0))[n]?=(nodes.map (fun nd=>encN nd (txN s nd) 0 0))[n]?:=by rw [nodM_strip h]
 rw [List.getElem?_map,List.getElem?_map,hn] at e
 cases hx:(nodM M)[n]? with
 | none=>rw [hx] at e;cases e
 | some x =>
  rw [hx] at e
  have e':x.setW 0 0=encN nd (txN s nd) 0 0:=by simpa using e
  have hxe:x=encN nd (txN s nd) x.yes x.no:=by
   have:x=(x.setW 0 0).setW x.yes x.no:=rfl
   rw [e'] at this
   exact this
  refine ⟨x.yes,x.no,by rw [← hxe],?_⟩
  unfold WyM
  rw [hx]
  dsimp only
  congr 2
  have hact:x.act=actN nd.op:=by rw [hxe];rfl
  rw [hact]
  have:=act_tst (h.2 nd (List.mem_of_getElem? hn)).g.op
  simp only [decide_eq_decide]
  exact this
end Go.Proofs.YtellieabhaphhabGreatDoor
namespace Go.Proofs.YtellieabhaphhabGreatDoor
open Go.RowKit
def Wk (nds:List Nd) (inp:ByteArray) (F:Nat) (m:Mc) (a:Int) (mc':Mc):Prop :=
 (m.e≠8∧mc'=m)∨(m.e=8∧∃ F',F'≤F∧wkF F' nds inp m a=some mc')
theorem Wk.mono {nds:List Nd} {inp:ByteArray} {F F1:Nat} {m:Mc} {a:Int} {mc':Mc} (h:Wk nds inp F m a mc') (hF:F≤F1):Wk nds inp F1 m a mc':=by
 rcases h with h|⟨h1,F',h2,h3⟩
 ·exact .inl h
 ·exact .inr ⟨h1,F',by omega,h3⟩
theorem Wk.off {nds:List Nd} {inp:ByteArray} {F:Nat} {m:Mc} {a:Int} {mc':Mc} (h:Wk nds inp F m a mc') (he:m.e≠8) (F1:Nat) (b:Int):Wk nds inp F1 m b mc':=by
 rcases h with h|⟨h1,_⟩
 ·exact .inl h
 ·exact absurd h1 he
theorem wkF_wk {nds:List Nd} {inp:ByteArray} {F:Nat} {m:Mc} {a:Int} {mc':Mc} (h:wkF F nds inp m a=some mc'):Wk nds inp F m a mc':=by
 by_cases he:m.e=8
 ·exact .inr ⟨he,F,Nat.le_refl _,h⟩
 ·cases F with
  | zero=>cases h
  | succ F =>
   rw [wkF,if_neg (fun e=>he e.2)] at h
   exact .inl ⟨he,(Option.some.inj h).symm⟩
theorem Wk.pos {nds:List Nd} {inp:ByteArray} {F:Nat} {m:Mc} {a:Int} {mc':Mc} (h:Wk nds inp F m a mc') (he:m.e=8):1≤F:=by
 rcases h with ⟨h,_⟩|⟨_,F',h2,h3⟩
 ·exact absurd he h
 ·cases F' with
  | zero=>cases h3
  | succ F'=>omega
theorem startF_off {m:Mc} {n:Nat} (h:(startF m n).2=false):(startF m n).1.e≠8:=by
 unfold startF at h ⊢
 split
 ·show (4:Int)≠8;decide
 ·rename_i h1;rw [if_neg h1] at h;cases h
theorem doF_up {inp:ByteArray} {nd:Nd} {W:Nat→Int × Int × Bool} {n x:Nat} {xu yu vu:Vl} {m:Mc}:doF inp (upW W n nd) x xu yu vu m=doF inp nd x xu yu vu m:=by
 unfold upW;split <;> rfl
theorem holdF_up {nd:Nd} {W:Nat→Int × Int × Bool} {n:Nat} {u:Vl}:holdF (upW W n nd) u=holdF nd u:=by
 unfold upW;split <;> rfl
theorem up_x (W:Nat→Int × Int × Bool) (n:Nat) (nd:Nd):(upW W n nd).op=nd.op∧(upW W n nd).x=nd.x∧(upW W n nd).y=nd.y∧(upW W n nd).v=nd.v∧(upW W n nd).t=(W n).1:=by
 unfold upW;split <;> exact ⟨rfl,rfl,rfl,rfl,rfl⟩
structure Nw (W:Nat→Int × Int × Bool) (ND nds:List Nd):Prop where
 len:nds.length=ND.length
 get:∀ n x,ND[n]?=some x→nds[n]?=some (upW W n x)
 tst:∀ n x,ND[n]?=some x→(W n).2.2=decide (x.op=121∨x.op=58)
theorem wk_step {W:Nat→Int × Int × Bool} {ND nds:List Nd} {inp:ByteArray} {F c:Nat} {m mc':Mc} {nd:Nd} (hN:Nw W ND nds) (hn:ND[c]?=some nd) (he:m.e=8) (h:Wk nds inp F m c mc') :
  ∃ xu yu vu,c<100∧m.l[nd.x.toNat]?=some xu∧m.l[nd.y.toNat]?=some yu∧m.l[nd.v.toNat]?=some vu∧∃ F1,F1<F ∧
   ((startF m c).2=false→∀ b,Wk nds inp F1 (startF m c).1 b mc') ∧
   ((startF m c).2=true→(nd.op=121∨nd.op=58→Wk nds inp F1 (startF m c).1 (if holdF nd yu then (W c).1 else (W c).2.1) mc') ∧
    (¬ (nd.op=121∨nd.op=58)→Wk nds inp F1 (doF inp nd nd.x.toNat xu yu vu (startF m c).1) (W c).1 mc')):=by
 rcases h with ⟨h1,_⟩|⟨_,F',hF,h⟩
 ·exact absurd he h1
 have hg:=hN.get c nd hn
 have hlt:c<nds.length:=(List.getElem?_eq_some_iff.1 hg).1
 obtain ⟨u1,u2,u3,u4,u5⟩:=up_x W c nd
 cases F' with
 | zero=>cases h
 | succ F1 =>
  rw [wkF,if_pos ⟨by omega,he⟩] at h
  by_cases h100:(0:Int)≤(c:Int)∧(c:Int)<100
  ·rw [if_pos h100,Int.toNat_natCast,hg] at h
   dsimp only at h
   rw [u1,u2,u3,u4,u5] at h
   cases hx:m.l[nd.x.toNat]? with
   | none=>rw [hx] at h;cases h
   | some xu =>
    cases hy:m.l[nd.y.toNat]? with
    | none=>rw [hx,hy] at h;cases h
    | some yu =>
     cases hv:m.l[nd.v.toNat]? with
     | none=>rw [hx,hy,hv] at h;cases h
     | some vu =>
      rw [hx,hy,hv] at h
      dsimp only at h
      refine ⟨xu,yu,vu,by omega,rfl,rfl,rfl,F1,by omega,fun hs b=>?_,fun hs=>⟨fun ht=>?_,fun ht=>?_⟩⟩
      ·rw [hs] at h
       simp only [Bool.false_eq_true,if_false] at h
       exact (wkF_wk h).off (startF_off hs) F1 b
      ·rw [if_pos hs,if_pos ht,holdF_up] at h
       have e:(upW W c nd).f=(W c).2.1:=by
        unfold upW
        rw [hN.tst c nd hn,decide_eq_true ht]
        rfl
       rw [e] at h
       exact wkF_wk h
      ·rw [if_pos hs,if_neg ht,doF_up] at h
       exact wkF_wk h
  ·rw [if_neg h100] at h;cases h
theorem dec_sim {W:Nat→Int × Int × Bool} {IT:List It} {ND nds:List Nd} {inp:ByteArray} (hN:Nw W ND nds):∀ (f:Nat) {i e c d:Nat} {t g:Int} {F:Nat} {m mc':Mc},CdW f IT W i e c d t g→d≤ND.length→m.e=8→Wk nds inp F m c mc' →
  ∀ G,f≤G→∃ m1 b,decF G IT ND m i=some (m1,b)∧∃ F1,F1<F∧Wk nds inp F1 m1 (if b then t else g) mc'
 | 0,_,_,_,_,_,_,_,_,_,h,_,_,_=>h.elim
 | f+1,i,e,c,d,t,g,F,m,mc',h,hd,he,hw=>by
  intro G hG
  obtain ⟨it,h1,h2,h3,h4,h5,h6⟩:=h
  cases G with
  | zero=>omega
  | succ G =>
   rw [decF,h1]
   dsimp only
   rcases h6 with ⟨k,n,q1,q2,q3⟩|⟨k,q⟩|⟨k,e1,mm,q,q2⟩|⟨k,e1,mm,q,q2⟩
   ·obtain ⟨nd,hn⟩:∃ nd,ND[c]?=some nd:=⟨_,List.getElem?_eq_getElem (by omega)⟩
    obtain ⟨xu,yu,vu,c1,c2,c3,c4,F1,c5,c6,c7⟩:=wk_step hN hn he hw
    have ht:nd.op=121∨nd.op=58:=by
     have:=hN.tst c nd hn
     rw [q3] at this
     exact of_decide_eq_true this.symm
    rw [if_pos k,n,if_pos (by omega),Int.toNat_natCast,hn]
    dsimp only
    rw [c3]
    dsimp only
    cases hs:(startF m c).2
    ·exact ⟨_,_,by rw [if_neg (by decide)],F1,c5,c6 hs _⟩
    ·refine ⟨_,_,by rw [if_pos rfl],F1,c5,?_⟩
     have:=(c7 hs).1 ht
     rw [q3] at this
     exact this
   ·obtain ⟨m1,b,d1,F1,d2,d3⟩:=dec_sim hN f q hd he hw G (by omega)
    rw [if_neg (by omega),d1]
    dsimp only
    by_cases he1:m1.e=8
    ·rw [if_neg (by omega),if_pos k]
     refine ⟨_,_,rfl,F1,d2,?_⟩
     cases b <;> exact d3
    ·rw [if_pos he1]
     exact ⟨_,_,rfl,F1,d2,d3.off he1 _ _⟩
   ·obtain ⟨w1,w2,i1,w3,w4,w5⟩:=cdw_lt q
    have w6:=(cdw_lt q2).2.1
    obtain ⟨m1,b,d1,F1,d2,d3⟩:=dec_sim hN f q (by omega) he hw G (by omega)
    rw [if_neg (by omega),d1]
    dsimp only
    by_cases he1:m1.e=8
    ·rw [if_neg (by omega),if_neg (by omega),k]
     cases b
     ·exact ⟨_,_,by rw [if_pos (by decide)],F1,d2,d3⟩
     ·rw [if_neg (by decide),w3]
      dsimp only
      rw [w4,if_pos (by omega),Int.toNat_natCast]
      obtain ⟨m2,b2,g1,F2,g2,g3⟩:=dec_sim hN f q2 hd he1 d3 G (by omega)
      exact ⟨m2,b2,g1,F2,by omega,g3⟩
    ·rw [if_pos he1]
     exact ⟨_,_,rfl,F1,d2,d3.off he1 _ _⟩
   ·obtain ⟨w1,w2,i1,w3,w4,w5⟩:=cdw_lt q
    have w6:=(cdw_lt q2).2.1
    obtain ⟨m1,b,d1,F1,d2,d3⟩:=dec_sim hN f q (by omega) he hw G (by omega)
    rw [if_neg (by omega),d1]
    dsimp only
    by_cases he1:m1.e=8
    ·rw [if_neg (by omega),if_neg (by omega),k]
     cases b
     ·rw [if_neg (by decide),w3]
      dsimp only
      rw [w4,if_pos (by omega),Int.toNat_natCast]
      obtain ⟨m2,b2,g1,F2,g2,g3⟩:=dec_sim hN f q2 hd he1 d3 G (by omega)
      exact ⟨m2,b2,g1,F2,by omega,g3⟩
     ·exact ⟨_,_,by rw [if_pos (by decide)],F1,d2,d3⟩
    ·rw [if_pos he1]
     exact ⟨_,_,rfl,F1,d2,d3.off he1 _ _⟩
def tgW (w:Nat) (nx ou ag:Int):Int:=if w=0 then nx else if w=1 then ou else ag
theorem loop_sim {W:Nat→Int × Int × Bool} {IT:List It} {ND nds:List Nd} {inp:ByteArray} (hN:Nw W ND nds) {f i a j c p:Nat} {t nx:Int} {it:It} (hit:IT[i]?=some it) (hen:it.en=(j:Int)) (hj:j≤1000) (hc:CdW f IT W (i+1) a c p t nx) (hp:p≤ND.length)
  (hb:∀ F m mc',Wk nds inp F m t mc'→∀ G,f+F≤G→∃ m1 w,exR G IT ND inp m false a j=some (m1,w)∧Wk nds inp F m1 (tgW w c nx c) mc') :
  ∀ F m mc',Wk nds inp F m c mc'→∀ G,f+F≤G→∃ m1 w,exR G IT ND inp m true i 0=some (m1,w)∧Wk nds inp F m1 nx mc':=by
 have hf1:1≤f:=by
  cases f with
  | zero=>exact hc.elim
  | succ f=>omega
 obtain ⟨w1,w2,i1,w3,w4,w5⟩:=cdw_lt hc
 intro F
 induction F using Nat.strongRecOn with
 | _ F ih =>
  intro m mc' hw G hG
  cases G with
  | zero=>omega
  | succ G =>
   rw [exR]
   by_cases he:m.e=8
   ·have hF1:=hw.pos he
    rw [if_neg (by omega)]
    obtain ⟨m1,b,d1,F1,d2,d3⟩:=dec_sim hN f hc hp he hw G (by omega)
    rw [d1]
    dsimp only
    by_cases hz:m1.e≠8∨b=false
    ·rw [if_pos hz]
     refine ⟨_,_,rfl,?_⟩
     rcases hz with hz|hz
     ·exact d3.off hz _ _
     ·rw [hz] at d3
      exact d3.mono (by omega)
    ·rw [if_neg hz,w3,hit]
     dsimp only
     have hb1:b=true:=by cases b;exact absurd (.inr rfl) hz;rfl
     have he1:m1.e=8:=by
      rcases Int.decEq m1.e 8 with h|h
      ·exact absurd (.inl h) hz
      ·exact h
     rw [hb1] at d3
     rw [w4,hen,if_pos (by omega),Int.toNat_natCast,Int.toNat_natCast]
     obtain ⟨m2,w,x1,x2⟩:=hb F1 m1 mc' d3 G (by omega)
     rw [x1]
     dsimp only
     by_cases h1:w=1
     ·rw [if_pos h1]
      refine ⟨_,_,rfl,?_⟩
      rw [h1] at x2
      exact x2.mono (by omega)
     ·rw [if_neg h1]
      have x3:Wk nds inp F1 m2 c mc':=by
       unfold tgW at x2
       rw [if_neg h1] at x2
       split at x2 <;> exact x2
      obtain ⟨m3,w',y1,y2⟩:=ih F1 d2 m2 mc' x3 G (by omega)
      exact ⟨m3,w',y1,y2.mono (by omega)⟩
   ·rw [if_pos he]
    exact ⟨_,_,rfl,hw.off he _ _⟩
end Go.Proofs.YtellieabhaphhabGreatDoor
namespace Go.Proofs.YtellieabhaphhabGreatDoor
open Go.RowKit
def DecSaid (f:Nat):Prop:=∀ (w:World) (m lb:Nat) (inp:ByteArray) (mc:Mc) (r:Nat) (s:ByteArray) (st:RS) (O:Nat→Prop) (i:Nat) (mc':Mc) (b:Bool),
 RM w m lb inp mc r s st O→i≤1000→decF f st.items st.nodes mc i=some (mc',b) →
  Calls Tryz.prog 96 #[.pointer (some ⟨m,0,none⟩),.pointer (some ⟨r,0,none⟩),.int .i64 i] w fun e w'=>e=.returned (.bool b)∧MB w' m lb inp mc'∧Kp (MK m lb) w w'
set_option maxHeartbeats 6400000 in
theorem dec_op {f:Nat} (ih:DecSaid f) {w:World} {m lb:Nat} {inp:ByteArray} {mc:Mc} {r:Nat} {s:ByteArray} {st:RS} {O:Nat→Prop} (h:RM w m lb inp mc r s st O) (i:Nat) (it:It) (hi0:i≤999) (hit:st.items[i]?=some it) (hk:it.k≠99)
  (m1:Mc) (a:Bool) (h1:decF f st.items st.nodes mc (i+1)=some (m1,a)) (mc':Mc) (b:Bool)
  (hc:(m1.e≠8∧mc'=m1∧b=false)∨(m1.e=8∧it.k=33∧mc'=m1∧b=!a)∨(m1.e=8∧it.k≠33∧(it.k == 38)=!a∧mc'=m1∧b=a) ∨
   (m1.e=8∧it.k≠33∧(it.k == 38)=a∧∃ it1,st.items[i+1]?=some it1∧0≤it1.en∧it1.en≤1000∧decF f st.items st.nodes m1 it1.en.toNat=some (mc',b))) :
  Calls Tryz.prog 96 #[.pointer (some ⟨m,0,none⟩),.pointer (some ⟨r,0,none⟩),.int .i64 i] w fun e w'=>e=.returned (.bool b)∧MB w' m lb inp mc'∧Kp (MK m lb) w w':=by
 obtain ⟨g,cap,hi,hog,q4,i0,i1,i2,i3⟩:=h.rp.itemAt hit
 have hli:=h.li
 have hgl:=h.rp.lt g hog
 have hrl:=h.rp.lt r h.rp.own
 have hlt:=h.mb.lt
 have HA:=hide (ih (w.alloc (.cells #[.int .u8 it.k,.int .i64 it.n,.int .i64 it.els,.int .i64 it.en] 153)) m lb inp mc r s st O (i+1) m1 a (h.alloc _) (by omega) h1)
 have ok1:=decF_ok _ _ _ _ _ _ _ h1 h.ok
 clear h1 hit
 obtain ⟨ik,n,ie,ien⟩:=it
 dsimp only at *
 have f99:(ik == 99)=false:=by simp [hk]
 clear hk
 go_enter Tryz.func96,Tryz.ntmps96
 go_wp2_with fail
 refine HA.out.mono ?_
 rintro e w1 ⟨rfl,hm1,k1⟩
 have R1:=(h.alloc _).next hm1 k1 ok1
 have hL:Blk w1 w.heap.size [.int .u8 ik,.int .i64 n,.int .i64 ie,.int .i64 ien] 153:=k1.blk (by (exact blA)) (by rintro (e|e) <;> omega)
 obtain ⟨l0,l1,l2,l3,lf⟩:=hL.c4
 obtain ⟨c0,c1,c2,c3,c4,c5,c6,cf⟩:=hm1.c
 rcases hc with ⟨e1,rfl,rfl⟩|⟨e1,rfl,rfl,rfl⟩|⟨e1,e2,e3,rfl,rfl⟩|⟨e1,e2,e3,it1,hit1,hn1,hn2,hd⟩
 ·have f8:(mc'.e == 8)=false:=by simp [e1]
  have f8':(mc'.e != 8)=true:=by simp [e1]
  clear e1
  go_wp2
  go_ret
  exact ⟨rfl,hm1,by (exact kpA)⟩
 ·rw [e1] at c6
  clear e1
  go_wp2
  go_ret
  exact ⟨rfl,hm1,by (exact kpA)⟩
 ·rw [e1] at c6
  have f33:(ik == 33)=false:=by simp [e2]
  clear e1 e2
  cases b
  ·have e3':(ik == 38)=true:=e3
   have e4:ik=38:=by simpa using e3'
   subst e4
   clear e3 e3'
   go_wp2
   go_ret
   exact ⟨rfl,hm1,by (exact kpA)⟩
  ·have e3':(ik == 38)=false:=e3
   clear e3
   go_wp2
   go_ret
   exact ⟨rfl,hm1,by (exact kpA)⟩
 ·rw [e1] at c6
  have f33:(ik == 33)=false:=by simp [e2]
  clear e1 e2
  obtain ⟨g2,cap2,hi2,_,p4,j0,j1,j2,j3⟩:=R1.rp.itemAt hit1
  obtain ⟨en,hen⟩:=Int.eq_ofNat_of_zero_le hn1
  rw [hen] at j3 hd hn2
  rw [Int.toNat_natCast] at hd
  have HB:=hide (ih w1 m lb inp m1 r s st O en mc' b R1 (by omega) hd)
  clear hd hit1
  cases a
  ·have e3':(ik == 38)=false:=e3
   clear e3
   go_wp2_with fail
   refine HB.out.mono ?_
   rintro e w2 ⟨rfl,hm2,k2⟩
   go_wp2
   go_ret
   exact ⟨rfl,hm2,by (exact kpA)⟩
  ·have e4:ik=38:=by simpa using e3
   subst e4
   clear e3
   go_wp2_with fail
   refine HB.out.mono ?_
   rintro e w2 ⟨rfl,hm2,k2⟩
   go_wp2
   go_ret
   exact ⟨rfl,hm2,by (exact kpA)⟩
theorem decide_w:∀ f,DecSaid f:=by
 intro f
 induction f with
 | zero=>intro w m lb inp mc r s st O i mc' b _ _ h;simp [decF] at h
 | succ f ih =>
  intro w m lb inp mc r s st O i mc' b hR hi h
  rw [decF] at h
  cases hit:st.items[i]? with
  | none=>rw [hit] at h;simp at h
  | some it =>
   have hl:=(List.getElem?_eq_some_iff.1 hit).1
   have hli:=hR.li
   rw [hit] at h
   dsimp only at h
   by_cases hk:it.k=99
   ·rw [if_pos hk] at h
    split at h
    ·rename_i hn
     cases hnd:st.nodes[it.n.toNat]? with
     | none=>rw [hnd] at h;simp at h
     | some nd =>
      rw [hnd] at h
      dsimp only at h
      cases hu:mc.l[nd.y.toNat]? with
      | none=>rw [hu] at h;simp at h
      | some u =>
       rw [hu] at h
       dsimp only at h
       cases hs:startF mc it.n.toNat with
       | mk mc1 ok =>
        rw [hs] at h
        cases ok
        ·simp only [Bool.false_eq_true,if_false,Option.some.injEq,Prod.mk.injEq] at h
         obtain ⟨rfl,rfl⟩:=h
         exact dec_no hR i it nd u hit hk hn.1 hn.2 hnd hu _ hs
        ·simp only [if_true,Option.some.injEq,Prod.mk.injEq] at h
         obtain ⟨rfl,rfl⟩:=h
         exact dec_yes hR i it nd u hit hk hn.1 hn.2 hnd hu _ hs
    ·simp at h
   ·rw [if_neg hk] at h
    cases h1:decF f st.items st.nodes mc (i+1) with
    | none=>rw [h1] at h;simp at h
    | some q =>
     obtain ⟨m1,a⟩:=q
     rw [h1] at h
     dsimp only at h
     refine dec_op ih hR i it (by omega) hit hk m1 a h1 mc' b ?_
     split at h
     ·rename_i e
      simp only [Option.some.injEq,Prod.mk.injEq] at h
      exact .inl ⟨e,h.1.symm,h.2.symm⟩
     rename_i e
     have e:m1.e=8:=by simpa using e
     split at h
     ·rename_i e2
      simp only [Option.some.injEq,Prod.mk.injEq] at h
      exact .inr (.inl ⟨e,e2,h.1.symm,h.2.symm⟩)
     rename_i e2
     split at h
     ·rename_i e3
      simp only [Option.some.injEq,Prod.mk.injEq] at h
      exact .inr (.inr (.inl ⟨e,e2,by cases a <;> simpa using e3,h.1.symm,h.2.symm⟩))
     rename_i e3
     cases hit1:st.items[i+1]? with
     | none=>rw [hit1] at h;simp at h
     | some it1 =>
      rw [hit1] at h
      dsimp only at h
      split at h
      ·rename_i e4
       exact .inr (.inr (.inr ⟨e,e2,by cases a <;> simpa using e3,it1,rfl,e4.1,e4.2,h⟩))
      ·simp at h
end Go.Proofs.YtellieabhaphhabGreatDoor
