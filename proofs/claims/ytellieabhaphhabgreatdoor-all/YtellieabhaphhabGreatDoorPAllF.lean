import Derived.Test.YtellieabhaphhabGreatDoorPAllE
namespace Go.Proofs.YtellieabhaphhabGreatDoor
open Go.RowKit
structure MS where
 p:Nat × Bool
 row:List NN
 marks:List Nat
def mCells (l:List Nat):List Value:=l.map (fun (k:Nat)=>Value.int .i64 k)
abbrev MRow (w:World) (v:Value) (l:List Nat):Prop:=Row w v 3 1 l.length (mCells l)
def Mp (w:World) (r:Nat) (s:ByteArray) (m:MS) (O:Nat→Prop):Prop :=
 ∃ nv iv,NR w r s m.p [nv,iv] 86∧NRow w nv m.row∧MRow w iv m.marks ∧
  nv.ownBlock≠some r∧iv.ownBlock≠some r∧(∀ b,nv.ownBlock=some b→iv.ownBlock≠some b)∧O=Own r nv iv
def MWent (w:World) (O:Nat→Prop) (r:Nat) (s:ByteArray) (m:MS) (w':World):Prop:=∃ O',Mp w' r s m O'∧Th O w O' w'
theorem MWent.drew {w w':World} {O:Nat→Prop} {r:Nat} {s:ByteArray} {m:MS} (h:MWent w O r s m w'):MWent w O r s m w'.drew :=
 let ⟨O',h1,h2⟩:=h
 ⟨O',h1,h2.drew⟩
section
variable {w:World} {r:Nat} {s:ByteArray} {m:MS} {O:Nat→Prop}
theorem Mp.n (h:Mp w r s m O) (n:Nat):Mp (w.drewN n) r s m O:=h
theorem Mp.drew (h:Mp w r s m O):Mp w.drew r s m O:=h
theorem Mp.own (h:Mp w r s m O):O r:=by
 obtain ⟨nv,iv,hB,hN,hI,d1,d2,d3,rfl⟩:=h;exact .inl rfl
theorem Mp.lt (h:Mp w r s m O):∀ b,O b→b<w.heap.size:=by
 obtain ⟨nv,iv,hB,hN,hI,d1,d2,d3,rfl⟩:=h
 rintro b (h|h|h)
 ·subst h;exact hB.lt
 ·exact Row.lt hN h
 ·exact Row.lt hI h
theorem Mp.c (h:Mp w r s m O):w.cell? ⟨r,0,none⟩=some (.string s)∧w.cell? ⟨r,1,none⟩=some (.int .i64 m.p.1)∧w.cell? ⟨r,2,none⟩=some (.bool m.p.2)∧∀ o,w.frozen? ⟨r,o,none⟩=false:=by
 obtain ⟨nv,iv,hB,hN,hI,d1,d2,d3,rfl⟩:=h
 exact ⟨Blk.cell hB 0,Blk.cell hB 1,Blk.cell hB 2,Blk.frozen hB⟩
theorem Mp.alloc (h:Mp w r s m O) (o:Obj):Mp (w.alloc o) r s m O:=by
 obtain ⟨nv,iv,hB,hN,hI,d1,d2,d3,rfl⟩:=h
 exact ⟨nv,iv,Blk.alloc hB o,World.ownsRow.alloc hN o,World.ownsRow.alloc hI o,d1,d2,d3,rfl⟩
theorem Mp.other (h:Mp w r s m O) {b o:Nat} (v:Value) (hb:¬ O b):Mp (w.setCell ⟨b,o,none⟩ v) r s m O:=by
 obtain ⟨nv,iv,hB,hN,hI,d1,d2,d3,rfl⟩:=h
 exact ⟨nv,iv,Blk.other hB v (fun e=>hb (.inl e.symm)),Row.set hN v (fun e=>hb (.inr (.inl e))),Row.set hI v (fun e=>hb (.inr (.inr e))),d1,d2,d3,rfl⟩
theorem Mp.setBad (h:Mp w r s m O):Mp (w.setCell ⟨r,2,none⟩ (.bool true)) r s { m with p:=(m.p.1,true) } O:=by
 obtain ⟨nv,iv,hB,hN,hI,d1,d2,d3,rfl⟩:=h
 exact ⟨nv,iv,Blk.set hB 2 _,Row.set hN _ d1,Row.set hI _ d2,d1,d2,d3,rfl⟩
theorem mwent_rb {w':World} {nv iv:Value} {p:Nat × Bool} (hN:NRow w nv m.row) (hI:MRow w iv m.marks)
  (d1:nv.ownBlock≠some r) (d2:iv.ownBlock≠some r) (d3:∀ b,nv.ownBlock=some b→iv.ownBlock≠some b)
  (hB':NR w' r s p [nv,iv] 86) (hk:Kp (·=r) w w'):MWent w (Own r nv iv) r s { m with p:=p } w' :=
 ⟨_,⟨nv,iv,hB',hk.row hN (fun b hb e=>d1 (by rw [hb,e])),hk.row hI (fun b hb e=>d2 (by rw [hb,e])),d1,d2,d3,rfl⟩,hk.mono (fun _ e=>.inl e),fun _ h _=>h⟩
def expM (s:ByteArray) (m:MS) (l:List UInt8):MS:={ m with p:=expF s m.p l }
theorem mpeek_w (h:Mp w r s m O) (hs:s.size≤1000) (hi:m.p.1≤s.size):Calls Tryz.prog 79 #[.pointer (some ⟨r,0,none⟩)] w fun e w'=>e=.returned (.int .u8 (pkb s m.p))∧∃ n,w'=w.drewN n:=by
 obtain ⟨nv,iv,hB,hN,hI,d1,d2,d3,rfl⟩:=h
 exact npeek_c r m.p.1 s m.p.2 _ _ w hs hi hB
theorem mexpect_w (h:Mp w r s m O) (u:ByteArray) (hs:s.size≤1000) (hi:m.p.1≤s.size) (hu:u.size≤10) (hz:∀ k (h:k<u.size),(u[k]).toNat≠0) :
  Calls Tryz.prog 73 #[.pointer (some ⟨r,0,none⟩),.string u] w fun e w'=>e=.returned (.tuple #[])∧MWent w O r s (expM s m u.data.toList) w':=by
 obtain ⟨nv,iv,hB,hN,hI,d1,d2,d3,rfl⟩:=h
 exact (nexpect_c r m.p.1 s u m.p.2 _ _ w hs hi hu hz hB).mono fun e w' ⟨h1,h2,h3⟩=>⟨h1,mwent_rb hN hI d1 d2 d3 h2 h3⟩
theorem maction_w (h:Mp w r s m O) (hs:s.size≤1000) (hi:m.p.1≤s.size) :
  Calls Tryz.prog 112 #[.pointer (some ⟨r,0,none⟩)] w fun e w'=>e=.returned (.agg (nacF s m.p).1.cells.toArray)∧MWent w O r s { m with p:=(nacF s m.p).2 } w':=by
 obtain ⟨nv,iv,hB,hN,hI,d1,d2,d3,rfl⟩:=h
 exact (naction_c r m.p.1 s m.p.2 _ _ w hs hi hB).mono fun e w' ⟨h1,h2,h3⟩=>⟨h1,mwent_rb hN hI d1 d2 d3 h2 h3⟩
theorem msince_w (h:Mp w r s m O) (a:Nat) (hs:s.size≤1000) (hi:m.p.1≤s.size) (ha:a≤m.p.1) :
  Calls Tryz.prog 70 #[.pointer (some ⟨r,0,none⟩),.int .i64 a] w fun e w'=>e=.returned (.string (sinceB s a m.p.1))∧∃ n,w'=w.drewN n:=by
 obtain ⟨nv,iv,hB,hN,hI,d1,d2,d3,rfl⟩:=h
 exact nsince_c r m.p.1 a s m.p.2 _ _ w hs hi ha hB
end
def tstF (s:ByteArray) (p:Nat × Bool):NN × (Nat × Bool):=queF s (varF s p).2 (varF s p).1
set_option maxHeartbeats 800000 in
theorem nrtest_c (r i:Nat) (s:ByteArray) (bad:Bool) (rest:List Value) (T:TypeId) (w:World) (hs:s.size≤1000) (hi:i≤s.size)
  (h:NR w r s (i,bad) rest T) :
  Calls Tryz.prog 154 #[.pointer (some ⟨r,0,none⟩)] w fun e w'=>e=.returned (.agg (tstF s (i,bad)).1.cells.toArray)∧NR w' r s (tstF s (i,bad)).2 rest T∧Kp (·=r) w w':=by
 have HV:Hid (tstF s (i,bad)=queF s (varF s (i,bad)).2 (varF s (i,bad)).1):=rfl
 have hr:=h.lt
 have hb:Blk w r (.string s::.int .i64 i::.bool bad::rest) T:=h
 have HK:=hide (fun W (hW:NR W r s (i,bad) rest T)=>nvariable_c r i s bad rest T W hs hi hW)
 have hq:=varF_le s (i,bad) hi
 have HK2:=hide (fun W (hW:NR W r s (varF s (i,bad)).2 rest T)=>nquestion_c r (varF s (i,bad)).2.1 (varF s (i,bad)).1 s (varF s (i,bad)).2.2 rest T W hs hq hW)
 generalize varF s (i,bad)=q at *
 obtain ⟨k,q⟩:=q
 dsimp only at HK2 HV HK
 rw [show (q.1,q.2)=q from rfl] at HK2
 generalize queF s q k=q2 at *
 obtain ⟨⟨g0,g1,g2,g3,g4,g5,g6,g7,g8,g9,g10⟩,q2⟩:=q2
 clear h
 unfold NN.cells at HK2
 dsimp only at HK2
 go_enter Tryz.func154,Tryz.ntmps154
 go_wp2_with fail
 refine (HK.out _ (by (show Blk _ _ _ _);(exact blA))).mono ?_
 rintro e w1 ⟨rfl,hNw1,kw1⟩
 have hbw1:Blk w1 r (.string s::.int .i64 q.1::.bool q.2::rest) T:=hNw1
 have hrw1:=hbw1.lt
 have hR1:Blk w1 w.heap.size [.string ⟨#[]⟩,.int .i64 0,.int .i64 0,.int .i64 0,.int .i64 0,.int .i64 0,.int .i64 0,.int .i64 0,.int .i64 0,.int .i64 0,.int .i64 0] 68:=kw1.blk (by (exact blA)) (by omega)
 obtain ⟨z1_0,z1_1,z1_2,z1_3,z1_4,z1_5,z1_6,z1_7,z1_8,z1_9,z1_10,zf1⟩:=hR1.c11
 have hz1:=hR1.lt
 go_wp2_with fail
 refine (HK2.out _ (by (show Blk _ _ _ _);(exact blA))).mono ?_
 rintro e w2 ⟨rfl,hNw2,kw2⟩
 have hbw2:Blk w2 r (.string s::.int .i64 q2.1::.bool q2.2::rest) T:=hNw2
 have hrw2:=hbw2.lt
 have hR2:Blk w2 w.heap.size [.string ⟨#[]⟩,.int .i64 0,.int .i64 0,.int .i64 0,.int .i64 0,.int .i64 0,.int .i64 0,.int .i64 0,.int .i64 0,.int .i64 0,.int .i64 0] 68:=kw2.blk (by (exact blA)) (by omega)
 obtain ⟨z2_0,z2_1,z2_2,z2_3,z2_4,z2_5,z2_6,z2_7,z2_8,z2_9,z2_10,zf2⟩:=hR2.c11
 have hz2:=hR2.lt
 go_wp2
 refine body_agg (Tb:=68) (b:=w.heap.size) (cs:=[.string g0,.int .i64 g1,.int .i64 g2,.int .i64 g3,.int .i64 g4,.int .i64 g5,.int .i64 g6,.int .i64 g7,.int .i64 g8,.int .i64 g9,.int .i64 g10]) (.inr rfl) Tryz.results154 rfl rfl (by (exact blA)) Tryz.underlying68 rfl (by kernel_rfl) ?_
 rw [HV.out]
 exact ⟨rfl,by (show Blk _ _ _ _);(exact blA),by (exact kpA)⟩
theorem mtest_w {w:World} {r:Nat} {s:ByteArray} {m:MS} {O:Nat→Prop} (h:Mp w r s m O) (hs:s.size≤1000) (hi:m.p.1≤s.size) :
  Calls Tryz.prog 154 #[.pointer (some ⟨r,0,none⟩)] w fun e w'=>e=.returned (.agg (tstF s m.p).1.cells.toArray)∧MWent w O r s { m with p:=(tstF s m.p).2 } w':=by
 obtain ⟨nv,iv,hB,hN,hI,d1,d2,d3,rfl⟩:=h
 exact (nrtest_c r m.p.1 s m.p.2 _ _ w hs hi hB).mono fun e w' ⟨h1,h2,h3⟩=>⟨h1,mwent_rb hN hI d1 d2 d3 h2 h3⟩
theorem info_mint:(Tryz.prog.info? 3).map (fun i=>(i.zero,i.size,i.bytes))=some (some (.int .i64 0),1,8):=by kernel_rfl
theorem mwent_row {w W w':World} {r:Nat} {s:ByteArray} {m:MS} {nv iv:Value} {n:NN} {g cap H:Nat}
  (hB:NR w r s m.p [nv,iv] 86) (hI:MRow w iv m.marks)
  (d1:nv.ownBlock≠some r) (d2:iv.ownBlock≠some r) (d3:∀ b,nv.ownBlock=some b→iv.ownBlock≠some b) (hk:Kp no w W)
  (hown:w'.ownsRow 0 68 11 (.slice (some ⟨g,0,none⟩) (m.row.length+1) cap) (m.row.length+1) (nnCells m.row++n.cells))
  (hgrow:W.grownBy w' nv.ownBlock) (hat:nv.ownBlock=some g∨g=H) (hH:w.heap.size≤H) :
  MWent w (Own r nv iv) r s { m with row:=m.row++[n] } (w'.setCell ⟨r,3,none⟩ (.slice (some ⟨g,0,none⟩) (m.row.length+1) cap)):=by
 have hr:=hB.lt
 have hg:g≠r:=by
  rcases hat with h|h
  ·exact fun e=>d1 (by rw [h,e])
  ·omega
 have hIW:MRow W iv m.marks:=hk.row hI (fun _ _=>no_elim)
 refine ⟨Own r (.slice (some ⟨g,0,none⟩) (m.row.length+1) cap) iv,⟨_,iv,?_,?_,?_,?_,d2,?_,rfl⟩,?_,?_⟩
 ·exact Blk.set (grown_blk hgrow (hk.blk hB no_elim) d1) 3 _
 ·have e1:nnCells (m.row++[n])=nnCells m.row++n.cells:=by simp [nnCells]
  have e2:(m.row++[n]).length=m.row.length+1:=by simp
  show Row _ _ _ _ (m.row++[n]).length (nnCells (m.row++[n]))
  rw [e1,e2]
  exact Row.set hown _ (by simpa [Value.ownBlock] using hg)
 ·refine Row.set (World.ownsRow.kept hIW hgrow ?_) _ d2
  cases hv:iv.ownBlock with
  | none=>exact .inl rfl
  | some b=>exact .inr (fun e=>d3 b e.symm hv)
 ·simpa [Value.ownBlock] using hg
 ·intro b hb hv
  have hb':g=b:=by simpa [Value.ownBlock] using hb
  subst hb'
  rcases hat with h|h
  ·exact d3 _ h hv
  ·have:=Row.lt hI hv;omega
 ·exact ((hk.mono (fun _ e=>e.elim)).grown hgrow (fun k _ e=>.inr (.inl e))).setCell _ (fun _=>.inl rfl)
 ·rintro b (h|h|h) hlt
  ·exact .inl h
  ·have hb':g=b:=by simpa [Value.ownBlock] using h
   subst hb'
   rcases hat with h|h
   ·exact .inr (.inl h)
   ·omega
  ·exact .inr (.inr h)
theorem mwent_marks {w W w':World} {r:Nat} {s:ByteArray} {m:MS} {nv iv:Value} {g cap H:Nat}
  (hB:NR w r s m.p [nv,iv] 86) (hN:NRow w nv m.row)
  (d1:nv.ownBlock≠some r) (d2:iv.ownBlock≠some r) (d3:∀ b,nv.ownBlock=some b→iv.ownBlock≠some b) (hk:Kp no w W)
  (hown:w'.ownsRow 0 3 1 (.slice (some ⟨g,0,none⟩) (m.marks.length+1) cap) (m.marks.length+1) (mCells m.marks++[.int .i64 0]))
  (hgrow:W.grownBy w' iv.ownBlock) (hat:iv.ownBlock=some g∨g=H) (hH:w.heap.size≤H) :
  MWent w (Own r nv iv) r s { m with marks:=m.marks++[0] } (w'.setCell ⟨r,4,none⟩ (.slice (some ⟨g,0,none⟩) (m.marks.length+1) cap)):=by
 have hr:=hB.lt
 have hg:g≠r:=by
  rcases hat with h|h
  ·exact fun e=>d2 (by rw [h,e])
  ·omega
 have hNW:NRow W nv m.row:=hk.row hN (fun _ _=>no_elim)
 refine ⟨Own r nv (.slice (some ⟨g,0,none⟩) (m.marks.length+1) cap),⟨nv,_,?_,?_,?_,d1,?_,?_,rfl⟩,?_,?_⟩
 ·exact Blk.set (grown_blk hgrow (hk.blk hB no_elim) d2) 4 _
 ·refine Row.set (World.ownsRow.kept hNW hgrow ?_) _ d1
  cases hv:nv.ownBlock with
  | none=>exact .inl rfl
  | some b=>exact .inr (fun e=>d3 b hv e.symm)
 ·have e1:mCells (m.marks++[0])=mCells m.marks++[.int .i64 0]:=by simp [mCells]
  have e2:(m.marks++[0]).length=m.marks.length+1:=by simp
  show Row _ _ _ _ (m.marks++[0]).length (mCells (m.marks++[0]))
  rw [e1,e2]
  exact Row.set hown _ (by simpa [Value.ownBlock] using hg)
 ·simpa [Value.ownBlock] using hg
 ·intro b hb hv
  have hb':g=b:=by simpa [Value.ownBlock] using hv
  subst hb'
  rcases hat with h|h
  ·exact d3 _ hb h
  ·have:=Row.lt hN hb;omega
 ·exact ((hk.mono (fun _ e=>e.elim)).grown hgrow (fun k _ e=>.inr (.inr e))).setCell _ (fun _=>.inl rfl)
 ·rintro b (h|h|h) hlt
  ·exact .inl h
  ·exact .inr (.inl h)
  ·have hb':g=b:=by simpa [Value.ownBlock] using h
   subst hb'
   rcases hat with h|h
   ·exact .inr (.inr h)
   ·omega
def newM (m:MS):MS:={ m with marks:=m.marks++[0] }
def layM (m:MS) (k:Nat):MS:={ m with marks:=m.marks.set k m.row.length }
def jumpN (k:Int):NN:={ nn0 with act:=15,yes:=k,no:=k }
def jmpM (m:MS) (k:Int):MS:={ m with row:=m.row++[jumpN k] }
set_option maxHeartbeats 1600000 in
theorem nnewMark_c {r:Nat} {s:ByteArray} {m:MS} {O:Nat→Prop} {w:World} (hn:m.marks.length≤2000) (h:Mp w r s m O) :
  Calls Tryz.prog 122 #[.pointer (some ⟨r,0,none⟩)] w fun e w'=>e=.returned (.int .i64 m.marks.length)∧MWent w O r s (newM m) w':=by
 obtain ⟨nv,iv,hB,hN,hI,d1,d2,d3,rfl⟩:=h
 obtain ⟨i0,hi,hz0,hz1,hz2⟩:=info_parts info_mint
 have hr:=hB.lt
 have hb:Blk w r [.string s,.int .i64 m.p.1,.bool m.p.2,nv,iv] 86:=hB
 have q4:=hb.cell 4
 simp only [List.getElem?_cons_zero,List.getElem?_cons_succ] at q4
 have qf:=hb.frozen
 have hone:∀ u∈[Value.int .i64 0],u.oneCell'=true:=by simp [Value.oneCell']
 go_enter Tryz.func122,Tryz.ntmps122
 go_wp2_with (at_builtin;refine wpList_append_lies _ rfl (.tmp 7) (.tmp 8) 84 rfl 0 3 i0 _ 1 8 Tryz.underlying84 hi hz0 hz1 hz2 rfl (by decide) iv m.marks.length (mCells m.marks) (by simp [Act.eval]) (by exact World.ownsRow.alloc hI _) ⟨w.heap.size,0,none⟩ 1 1 [Value.int .i64 0] (by simp [Act.eval]) rfl (by exact Blk.news (Blk.new w [Value.int .i64 0] _)) hone (by decide) (by unfold maxLen;omega) (by omega) (Nat.zero_le _) _ rfl ?_;intro g cap w' hown hgrow hat hlt;have hb':=grown_blk hgrow (Blk.alloc hb _) d2;have q4':=hb'.cell 4;have qf':=hb'.frozen;simp only [List.getElem?_cons_zero,List.getElem?_cons_succ] at q4')
 go_ret
 exact ⟨ret_i64 (by push_cast;omega),mwent_marks hB hN d1 d2 d3 (W:=w.alloc _) ((Kp.refl _ _).alloc _) hown hgrow hat (by simp)⟩
set_option maxHeartbeats 1600000 in
theorem njump_c {r:Nat} {s:ByteArray} {m:MS} {O:Nat→Prop} {w:World} (k:Int) (hn:m.row.length≤2000) (h:Mp w r s m O) :
  Calls Tryz.prog 125 #[.pointer (some ⟨r,0,none⟩),.int .i64 k] w fun e w'=>e=.returned (.tuple #[])∧MWent w O r s (jmpM m k) w':=by
 obtain ⟨nv,iv,hB,hN,hI,d1,d2,d3,rfl⟩:=h
 obtain ⟨i0,hi,hz0,hz1,hz2⟩:=info_parts info_nn
 have hr:=hB.lt
 have hb:Blk w r [.string s,.int .i64 m.p.1,.bool m.p.2,nv,iv] 86:=hB
 have q3:=hb.cell 3
 simp only [List.getElem?_cons_zero,List.getElem?_cons_succ] at q3
 have qf:=hb.frozen
 have hone:∀ u∈(jumpN k).cells,u.oneCell'=true:=by simp [jumpN,NN.cells,Value.oneCell']
 go_enter Tryz.func125,Tryz.ntmps125
 go_wp2_with (at_builtin;refine wpList_append_lies _ rfl (.tmp 8) (.tmp 12) 43 rfl 0 68 i0 _ 11 96 Tryz.underlying43 hi hz0 hz1 hz2 rfl (by decide) nv m.row.length (nnCells m.row) (by simp [Act.eval]) (by exact World.ownsRow.alloc hN _) ⟨w.heap.size,0,none⟩ 1 1 (jumpN k).cells (by simp [Act.eval]) rfl (by exact Blk.news (Blk.new w (jumpN k).cells _)) hone (by decide) (by unfold maxLen;omega) (by omega) (Nat.zero_le _) _ rfl ?_;intro g cap w' hown hgrow hat hlt;have hb':=grown_blk hgrow (Blk.alloc hb _) d1;have q3':=hb'.cell 3;have qf':=hb'.frozen;simp only [List.getElem?_cons_zero,List.getElem?_cons_succ] at q3')
 go_end0
 exact ⟨rfl,mwent_row hB hI d1 d2 d3 (W:=w.alloc _) ((Kp.refl _ _).alloc _) hown hgrow hat (by simp)⟩
set_option maxHeartbeats 1600000 in
theorem nlayMark_c {r:Nat} {s:ByteArray} {m:MS} {O:Nat→Prop} {w:World} (k:Nat) (hn:m.marks.length≤2000) (_:m.row.length≤2000) (hk:k<m.marks.length) (h:Mp w r s m O) :
  Calls Tryz.prog 124 #[.pointer (some ⟨r,0,none⟩),.int .i64 k] w fun e w'=>e=.returned (.tuple #[])∧MWent w O r s (layM m k) w':=by
 obtain ⟨nv,iv,hB,hN,hI,d1,d2,d3,rfl⟩:=h
 have hr:=hB.lt
 have hb:Blk w r [.string s,.int .i64 m.p.1,.bool m.p.2,nv,iv] 86:=hB
 obtain ⟨g,cap,rfl,_,hg⟩:=World.ownsRow.form hI (by omega)
 obtain ⟨a,cap2,rfl⟩:=hN.shape
 have q3:=hb.cell 3
 have q4:=hb.cell 4
 simp only [List.getElem?_cons_zero,List.getElem?_cons_succ] at q3 q4
 have qf:=hb.frozen
 have hgr:r≠g:=fun e=>d2 (by simp [Value.ownBlock,e])
 have ck:w.cell? ⟨g,k,none⟩=some (.int .i64 m.marks[k]):=by
  have:=Row.cell hI k (by omega)
  rw [this,mCells,List.getElem?_map,List.getElem?_eq_getElem hk];rfl
 have cf:=Row.frozen hI
 have hW:Hid (MWent w (Own r (.slice a m.row.length cap2) (.slice (some ⟨g,0,none⟩) m.marks.length cap)) r s (layM m k) (w.setCell ⟨g,k,none⟩ (.int .i64 m.row.length))):=by
  refine ⟨_,⟨.slice a m.row.length cap2,.slice (some ⟨g,0,none⟩) m.marks.length cap,Blk.other hB _ hgr,Row.set hN _ (fun e=>d3 g e rfl),?_,d1,d2,d3,rfl⟩,(Kp.refl _ _).setCell _ (fun _=>.inr (.inr rfl)),fun b h _=>h⟩
  show Row _ _ _ _ (m.marks.set k m.row.length).length (mCells (m.marks.set k m.row.length))
  rw [List.length_set,mCells,List.map_set]
  exact hI.setIn _ _
 clear hI hN hB
 generalize m.marks[k]=mk at *
 go_enter Tryz.func124,Tryz.ntmps124
 go_wp2
 go_region
 all_goals
  go_wp2
  go_end0
  exact ⟨rfl,hW.out.drew⟩
end Go.Proofs.YtellieabhaphhabGreatDoor
namespace Go.Proofs.YtellieabhaphhabGreatDoor
open Go.RowKit
def addM (m:MS) (n:NN):MS:={ m with row:=m.row++[n] }
def putP (m:MS) (p:Nat × Bool):MS:={ m with p:=p }
def tstM (s:ByteArray) (yes no:Int) (m:MS):MS :=
 addM (putP m (tstF s m.p).2) (((tstF s m.p).1.setT (sinceB s m.p.1 (tstF s m.p).2.1)).setW yes no)
def condM:Nat→ByteArray→Int→Int→MS→MS
 | 0,_,_,_,m=>m
 | f+1,s,yes,no,m =>
  if pkb s m.p=33 then condM f s no yes (expM s m [33])
  else if pkb s m.p=38 then condM f s yes no (layM (condM f s m.marks.length no (newM (expM s m [38]))) m.marks.length)
  else if pkb s m.p=124 then condM f s yes no (layM (condM f s yes m.marks.length (newM (expM s m [124]))) m.marks.length)
  else tstM s yes no m
def actM (s:ByteArray) (m:MS):MS :=
 layM (addM (newM (expM s (putP m (nacF s m.p).2) [59])) (((nacF s m.p).1.setT (sinceB s m.p.1 (nacF s m.p).2.1)).setW m.marks.length m.marks.length)) m.marks.length
def lepM (s:ByteArray) (l:List UInt8) (k:Int) (m:MS):MS:=if k=-1 then putP m (m.p.1,true) else jmpM (expM s m l) k
def new3 (m:MS):MS:=newM (newM (newM m))
def choM (f:Nat) (S:Int→Int→MS→MS) (s:ByteArray) (h b:Int) (m:MS):MS :=
 let L:=m.marks.length
 layM (expM s (S h b (layM (jmpM (expM s (S h b (layM (expM s (condM f s L (L+1:Nat) (expM s (new3 m) [40])) [123]) L)) [125,123]) (L+2:Nat)) (L+1))) [125,41]) (L+2)
def lopM (f:Nat) (S:Int→Int→MS→MS) (s:ByteArray) (m:MS):MS :=
 let L:=m.marks.length
 layM (jmpM (expM s (S L (L+2:Nat) (layM (expM s (condM f s (L+1:Nat) (L+2:Nat) (layM (expM s (new3 m) [91]) L)) [123]) (L+1))) [125,93]) L) (L+2)
def stM (f:Nat) (S:Int→Int→MS→MS) (s:ByteArray) (h b:Int) (m:MS):MS :=
 if pkb s m.p=40 then choM f S s h b m
 else if pkb s m.p=91 then lopM f S s m
 else if pkb s m.p=62 then lepM s [62,59] b m
 else if pkb s m.p=60 then lepM s [60,59] h m
 else actM s m
def stmM:Nat→ByteArray→Int→Int→MS→MS
 | 0,_,_,_,m=>m
 | f+1,s,h,b,m=>if pkb s m.p≠125∧pkb s m.p≠0 then stmM f s h b (stM f (stmM f s) s h b m) else m
def bc (p:Nat × Bool):Nat:=cond p.2 1 0
structure MG (s:ByteArray) (m m':MS):Prop where
 i:m'.p.1≤s.size
 lo:m.p.1≤m'.p.1
 row:m'.row.length+3*m.p.1+bc m.p≤m.row.length+3*m'.p.1+bc m'.p
 mm:m'.marks.length+3*m.p.1+bc m.p≤m.marks.length+3*m'.p.1+bc m'.p
 bad:bc m.p≤bc m'.p
 le:m.marks.length≤m'.marks.length
theorem bc_le (p:Nat × Bool):bc p≤1:=by unfold bc;cases p.2 <;> decide
theorem MG.refl {s:ByteArray} {m:MS} (h:m.p.1≤s.size):MG s m m:=⟨h,Nat.le_refl _,Nat.le_refl _,Nat.le_refl _,Nat.le_refl _,Nat.le_refl _⟩
theorem MG.trans {s:ByteArray} {a b c:MS} (h:MG s a b) (k:MG s b c):MG s a c:=by
 have h1:=h.row;have h2:=h.mm;have h3:=h.lo;have h4:=h.bad;have h5:=h.le
 have k1:=k.row;have k2:=k.mm;have k3:=k.lo;have k4:=k.bad;have k5:=k.le
 exact ⟨k.i,by omega,by omega,by omega,by omega,by omega⟩
structure MC (s:ByteArray) (m m':MS):Prop where
 i:m'.p.1≤s.size
 lo:m.p.1≤m'.p.1
 row:m'.row.length+m.p.1≤m.row.length+m'.p.1+1
 mm:m'.marks.length+m.p.1≤m.marks.length+m'.p.1
 bad:bc m.p≤bc m'.p
 le:m.marks.length≤m'.marks.length
theorem eatF_bc (s:ByteArray) (p:Nat × Bool) (c:Nat):bc p≤bc (eatF s p c)∧p.1≤(eatF s p c).1:=by
 unfold eatF bc
 obtain ⟨i,b⟩:=p
 cases b
 ·exact ⟨Nat.zero_le _,by split <;> simp⟩
 ·simp
theorem expF_bc (s:ByteArray):∀ (l:List UInt8) (p:Nat × Bool),l.all (fun u=>u.toNat != 0)=true→p.1≤s.size→bc p≤bc (expF s p l)∧p.1≤(expF s p l).1∧(expF s p l).1≤s.size
 | [],p,_,h=>⟨Nat.le_refl _,Nat.le_refl _,h⟩
 | c::l,p,hz,h=>by
  rw [List.all_cons,Bool.and_eq_true] at hz
  have e1:=eatF_bc s p c.toNat
  have e2:=eatF_le s p c.toNat (by simpa using hz.1) h
  have:=expF_bc s l (eatF s p c.toNat) hz.2 e2
  exact ⟨Nat.le_trans e1.1 this.1,Nat.le_trans e1.2 this.2.1,this.2.2⟩
theorem expM_mg {s:ByteArray} {m:MS} {l:List UInt8} (hz:l.all (fun u=>u.toNat != 0)=true) (h:m.p.1≤s.size):MG s m (expM s m l):=by
 have e:=expF_bc s l m.p hz h
 exact ⟨e.2.2,e.2.1,by show m.row.length+_+_≤m.row.length+3*(expF s m.p l).1+bc (expF s m.p l);omega,by show m.marks.length+_+_≤m.marks.length+3*(expF s m.p l).1+bc (expF s m.p l);omega,e.1,Nat.le_refl _⟩
theorem layM_mg {s:ByteArray} {m:MS} {k:Nat} (h:m.p.1≤s.size):MG s m (layM m k) :=
 ⟨h,Nat.le_refl _,Nat.le_refl _,by show (m.marks.set k m.row.length).length+_+_≤_;rw [List.length_set];exact Nat.le_refl _,Nat.le_refl _,by show _≤(m.marks.set k m.row.length).length;rw [List.length_set];exact Nat.le_refl _⟩
theorem layM_len (m:MS) (k:Nat):(layM m k).marks.length=m.marks.length:=List.length_set
theorem newM_len (m:MS):(newM m).marks.length=m.marks.length+1:=by simp [newM]
theorem new3_len (m:MS):(new3 m).marks.length=m.marks.length+3:=by simp [new3,newM]
theorem eat_at {s:ByteArray} {p:Nat × Bool} {c:UInt8} (h:pkb s p=c.toNat) (hc:c.toNat≠0):expF s p [c]=(p.1+1,false)∧p.1<s.size∧p.2=false:=by
 have g:=pkb_good (s:=s) (i:=p.1) (b:=p.2) (by show pkb s p≠0;rw [h];exact hc)
 refine ⟨?_,g.2,g.1⟩
 rw [expF_one,eatF_pkb s p c.toNat hc,if_pos h]
theorem varF_bc (s:ByteArray) (p:Nat × Bool):bc p≤bc (varF s p).2:=by
 rw [varF_pkb]
 split
 ·rename_i h
  have:pkb s p≠0:=by simp at h;omega
  have:=(pkb_good (s:=s) (i:=p.1) (b:=p.2) this).1
  simp [bc,this]
 ·exact bc_le p
theorem queF_bc (s:ByteArray) (p:Nat × Bool) (y:Int) (hp:p.1≤s.size):bc p≤bc (queF s p y).2∧p.1≤(queF s p y).2.1∧(queF s p y).2.1≤s.size:=by
 unfold queF
 split
 ·rename_i h
  have g:=pkb_good (s:=s) (i:=p.1) (b:=p.2) (by show pkb s p≠0;rw [h];decide)
  have k:=kindF_ge s (p.1+1,false)
  have l:=kindF_le s (p.1+1,false) g.2
  refine ⟨?_,?_,l⟩
  ·rw [show bc p=0 by simp [bc,g.1]];exact Nat.zero_le _
  ·show p.1≤(kindF s (p.1+1,false)).2.1
   have:=k.1
   simp only at this
   omega
 ·exact ⟨Nat.le_refl _,Nat.le_refl _,hp⟩
theorem tstF_bc (s:ByteArray) (p:Nat × Bool) (hp:p.1≤s.size):bc p≤bc (tstF s p).2∧p.1≤(tstF s p).2.1∧(tstF s p).2.1≤s.size:=by
 have a:=varF_bc s p
 have b:=varF_ge s p
 have c:=varF_le s p hp
 have d:=queF_bc s (varF s p).2 (varF s p).1 c
 exact ⟨Nat.le_trans a d.1,Nat.le_trans b.1 d.2.1,d.2.2⟩
theorem tstM_mc {s:ByteArray} {m:MS} {yes no:Int} (h:m.p.1≤s.size):MC s m (tstM s yes no m):=by
 have e:=tstF_bc s m.p h
 exact ⟨e.2.2,e.2.1,by show (m.row++[_]).length+_≤m.row.length+(tstF s m.p).2.1+1;rw [List.length_append,List.length_singleton];omega,by show m.marks.length+_≤m.marks.length+(tstF s m.p).2.1;omega,e.1,Nat.le_refl _⟩
theorem condM_mc:∀ (f:Nat) (s:ByteArray) (yes no:Int) (m:MS),s.size-m.p.1<f→m.p.1≤s.size→MC s m (condM f s yes no m)
 | 0,_,_,_,_,h,_=>by omega
 | f+1,s,yes,no,m,hf,h=>by
  rw [condM]
  split
  ·rename_i hc
   obtain ⟨e1,e2,e3⟩:=eat_at (c:=33) hc (by decide)
   have g:=condM_mc f s no yes (expM s m [33]) (by show s.size-(expF s m.p [33]).1<f;rw [e1];omega) (by show (expF s m.p [33]).1≤s.size;rw [e1];exact e2)
   have e4:(expM s m [33]).p=(m.p.1+1,false):=e1
   have g1:=g.lo;have g2:=g.row;have g3:=g.mm;have g4:=g.le
   rw [e4] at g1 g2 g3
   dsimp only at g1 g2 g3
   exact ⟨g.i,by omega,by have:(expM s m [33]).row=m.row:=rfl;rw [this] at g2;omega,by have:(expM s m [33]).marks=m.marks:=rfl;rw [this] at g3;omega,by simp [bc,e3],g4⟩
  split
  ·rename_i _ hc
   obtain ⟨e1,e2,e3⟩:=eat_at (c:=38) hc (by decide)
   have e4:(newM (expM s m [38])).p=(m.p.1+1,false):=e1
   have g:=condM_mc f s m.marks.length no (newM (expM s m [38])) (by rw [e4];show s.size-(m.p.1+1)<f;omega) (by rw [e4];exact e2)
   generalize condM f s m.marks.length no (newM (expM s m [38]))=m1 at *
   have g0:=g.lo
   rw [e4] at g0
   dsimp only at g0
   have k:=condM_mc f s yes no (layM m1 m.marks.length) (by show s.size-m1.p.1<f;omega) g.i
   have g2:=g.row;have g3:=g.mm;have g4:=g.le
   have k1:=k.lo;have k2:=k.row;have k3:=k.mm;have k4:=k.le
   rw [layM_len] at k3 k4
   rw [newM_len] at g3 g4
   rw [e4] at g2 g3
   have a1:(layM m1 m.marks.length).p=m1.p:=rfl
   have a2:(layM m1 m.marks.length).row=m1.row:=rfl
   have a3:(newM (expM s m [38])).row=m.row:=rfl
   have a4:(expM s m [38]).marks=m.marks:=rfl
   rw [a1] at k1 k2 k3
   rw [a2] at k2
   rw [a3] at g2
   rw [a4] at g3 g4
   dsimp only at g2 g3
   exact ⟨k.i,by omega,by omega,by omega,by simp [bc,e3],by omega⟩
  split
  ·rename_i _ _ hc
   obtain ⟨e1,e2,e3⟩:=eat_at (c:=124) hc (by decide)
   have e4:(newM (expM s m [124])).p=(m.p.1+1,false):=e1
   have g:=condM_mc f s yes m.marks.length (newM (expM s m [124])) (by rw [e4];show s.size-(m.p.1+1)<f;omega) (by rw [e4];exact e2)
   generalize condM f s yes m.marks.length (newM (expM s m [124]))=m1 at *
   have g0:=g.lo
   rw [e4] at g0
   dsimp only at g0
   have k:=condM_mc f s yes no (layM m1 m.marks.length) (by show s.size-m1.p.1<f;omega) g.i
   have g2:=g.row;have g3:=g.mm;have g4:=g.le
   have k1:=k.lo;have k2:=k.row;have k3:=k.mm;have k4:=k.le
   rw [layM_len] at k3 k4
   rw [newM_len] at g3 g4
   rw [e4] at g2 g3
   have a1:(layM m1 m.marks.length).p=m1.p:=rfl
   have a2:(layM m1 m.marks.length).row=m1.row:=rfl
   have a3:(newM (expM s m [124])).row=m.row:=rfl
   have a4:(expM s m [124]).marks=m.marks:=rfl
   rw [a1] at k1 k2 k3
   rw [a2] at k2
   rw [a3] at g2
   rw [a4] at g3 g4
   dsimp only at g2 g3
   exact ⟨k.i,by omega,by omega,by omega,by simp [bc,e3],by omega⟩
  ·exact tstM_mc h
end Go.Proofs.YtellieabhaphhabGreatDoor
namespace Go.Proofs.YtellieabhaphhabGreatDoor
open Go.RowKit
theorem layM_p (m:MS) (k:Nat):(layM m k).p=m.p:=rfl
theorem layM_row (m:MS) (k:Nat):(layM m k).row=m.row:=rfl
theorem newM_p (m:MS):(newM m).p=m.p:=rfl
theorem newM_row (m:MS):(newM m).row=m.row:=rfl
theorem new3_p (m:MS):(new3 m).p=m.p:=rfl
theorem jmpM_p (m:MS) (k:Int):(jmpM m k).p=m.p:=rfl
theorem jmpM_row (m:MS) (k:Int):(jmpM m k).row.length=m.row.length+1:=by simp [jmpM]
theorem jmpM_marks (m:MS) (k:Int):(jmpM m k).marks=m.marks:=rfl
theorem addM_p (m:MS) (n:NN):(addM m n).p=m.p:=rfl
theorem addM_row (m:MS) (n:NN):(addM m n).row.length=m.row.length+1:=by simp [addM]
theorem addM_marks (m:MS) (n:NN):(addM m n).marks=m.marks:=rfl
theorem expM_row (s:ByteArray) (m:MS) (l:List UInt8):(expM s m l).row=m.row:=rfl
theorem expM_marks (s:ByteArray) (m:MS) (l:List UInt8):(expM s m l).marks=m.marks:=rfl
theorem expM_p (s:ByteArray) (m:MS) (l:List UInt8):(expM s m l).p=expF s m.p l:=rfl
theorem putP_p (m:MS) (p:Nat × Bool):(putP m p).p=p:=rfl
theorem putP_row (m:MS) (p:Nat × Bool):(putP m p).row=m.row:=rfl
theorem putP_marks (m:MS) (p:Nat × Bool):(putP m p).marks=m.marks:=rfl
structure MI (s:ByteArray) (m:MS):Prop where
 i:m.p.1≤s.size
 row:m.row.length≤3*m.p.1+bc m.p
 mm:m.marks.length≤3*m.p.1+bc m.p
theorem MI.mg {s:ByteArray} {m m':MS} (h:MI s m) (g:MG s m m'):MI s m':=by
 have h1:=h.row;have h2:=h.mm;have g1:=g.row;have g2:=g.mm
 exact ⟨g.i,by omega,by omega⟩
theorem pkb_live {s:ByteArray} {p:Nat × Bool} (h:pkb s p≠0):p.2=false∧p.1<s.size:=pkb_good (s:=s) (i:=p.1) (b:=p.2) h
theorem bc_live {p:Nat × Bool} (h:p.2=false):bc p=0:=by simp [bc,h]
theorem nacF_bc {s:ByteArray} {p:Nat × Bool} (h:pkb s p≠0):p.1≤(nacF s p).2.1∧(nacF s p).2.1≤s.size∧p.1+1≤(nacF s p).2.1+bc (nacF s p).2:=by
 obtain ⟨h1,h2⟩:=pkb_live h
 obtain ⟨i,b⟩:=p
 subst h1
 rw [(nac_ref s i).1]
 have a:=simpF_ge s i
 have b:=simpF_le s i (Nat.le_of_lt h2)
 refine ⟨a.1,b,?_⟩
 generalize (simpF s i).2=q at *
 obtain ⟨q1,q2⟩:=q
 cases q2
 ·have:=a.2 rfl;simp [bc];omega
 ·have:=a.1;simp [bc];omega
theorem actM_mg {s:ByteArray} {m:MS} (h:pkb s m.p≠0):MG s m (actM s m)∧((actM s m).p.2=false→m.p.1<(actM s m).p.1):=by
 obtain ⟨h1,h2⟩:=pkb_live h
 have a:=nacF_bc h
 have b0:=bc_live h1
 unfold actM
 generalize (nacF s m.p).1=n
 generalize (nacF s m.p).2=q at *
 have e:=expM_mg (s:=s) (m:=putP m q) (l:=[59]) (by decide) a.2.1
 have e1:=e.lo;have e2:=e.bad;have e3:=e.i
 rw [putP_p] at e1 e2
 generalize hx:expM s (putP m q) [59]=x at *
 have xr:x.row=m.row:=by rw [← hx];rfl
 have xm:x.marks=m.marks:=by rw [← hx];rfl
 have hb:=bc_le x.p
 refine ⟨⟨e3,?_,?_,?_,?_,?_⟩,?_⟩
 ·rw [layM_p,addM_p,newM_p];omega
 ·rw [layM_p,addM_p,newM_p,layM_row,addM_row,newM_row,xr];omega
 ·rw [layM_p,addM_p,newM_p,layM_len,addM_marks,newM_len,xm];omega
 ·rw [layM_p,addM_p,newM_p];omega
 ·rw [layM_len,addM_marks,newM_len,xm];omega
 ·rw [layM_p,addM_p,newM_p]
  intro hx2
  have:=bc_live hx2
  omega
theorem exp_head {s:ByteArray} {p:Nat × Bool} {c:UInt8} {l:List UInt8} (h:pkb s p=c.toNat) (hc:c.toNat≠0):expF s p (c::l)=expF s (p.1+1,false) l:=by
 have:=(eat_at h hc).1
 rw [expF_one] at this
 show expF s (eatF s p c.toNat) l=_
 rw [this]
theorem lepM_mg {s:ByteArray} {m:MS} {c:UInt8} {l:List UInt8} {k:Int} (hc:pkb s m.p=c.toNat) (h0:c.toNat≠0) (hz:l.all (fun u=>u.toNat != 0)=true) :
  MG s m (lepM s (c::l) k m)∧((lepM s (c::l) k m).p.2=false→m.p.1<(lepM s (c::l) k m).p.1):=by
 obtain ⟨e1,e2,e3⟩:=eat_at hc h0
 have b0:=bc_live e3
 unfold lepM
 split
 ·refine ⟨⟨Nat.le_of_lt e2,Nat.le_refl _,?_,?_,?_,Nat.le_refl _⟩,?_⟩
  ·rw [putP_p,putP_row];simp [bc,e3]
  ·rw [putP_p,putP_marks];simp [bc,e3]
  ·rw [putP_p];simp [bc,e3]
  ·intro h;cases h
 ·have e:=expF_bc s l (m.p.1+1,false) hz e2
  rw [← exp_head hc h0] at e
  dsimp only at e
  refine ⟨⟨?_,?_,?_,?_,?_,?_⟩,?_⟩
  ·rw [jmpM_p,expM_p];omega
  ·rw [jmpM_p,expM_p];omega
  ·rw [jmpM_p,expM_p,jmpM_row,expM_row];omega
  ·rw [jmpM_p,expM_p,jmpM_marks,expM_marks];omega
  ·rw [jmpM_p,expM_p];omega
  ·rw [jmpM_marks,expM_marks];exact Nat.le_refl _
  ·rw [jmpM_p,expM_p];intro _;omega
def SMG (s:ByteArray) (n:Nat) (S:Int→Int→MS→MS):Prop:=∀ h b m,m.p.1≤s.size→(m.p.2=false→s.size-m.p.1<n)→MG s m (S h b m)
theorem choM_mg {f:Nat} {s:ByteArray} {S:Int→Int→MS→MS} {h b:Int} {m:MS} (hS:SMG s f S) (hc:pkb s m.p=40) (hf:s.size-m.p.1<f+1) :
  MG s m (choM f S s h b m)∧m.p.1<(choM f S s h b m).p.1:=by
 obtain ⟨e1,e2,e3⟩:=eat_at (c:=40) hc (by decide)
 have b0:=bc_live e3
 unfold choM
 dsimp only
 have p1:(expM s (new3 m) [40]).p=(m.p.1+1,false):=e1
 have r1:(expM s (new3 m) [40]).row=m.row:=rfl
 have m1:(expM s (new3 m) [40]).marks.length=m.marks.length+3:=new3_len m
 generalize expM s (new3 m) [40]=x1 at *
 have q1:x1.p.1=m.p.1+1:=by rw [p1]
 have b1:bc x1.p=0:=by rw [p1];rfl
 clear p1 e1
 have g2:=condM_mc f s m.marks.length (m.marks.length+1:Nat) x1 (by omega) (by omega)
 generalize condM f s m.marks.length (m.marks.length+1:Nat) x1=x2 at *
 have g3:=expM_mg (l:=[123]) (by decide) g2.i
 generalize expM s x2 [123]=x3 at *
 have g4:=layM_mg (k:=m.marks.length) g3.i
 generalize layM x3 m.marks.length=x4 at *
 have lo4:x1.p.1≤x4.p.1:=Nat.le_trans g2.lo (Nat.le_trans g3.lo g4.lo)
 have g5:=hS h b x4 g4.i (fun _=>by have:=g4.i;omega)
 generalize S h b x4=x5 at *
 have g6:=expM_mg (l:=[125,123]) (by decide) g5.i
 generalize expM s x5 [125,123]=x6 at *
 have p7:=jmpM_p x6 (m.marks.length+2:Nat)
 have r7:=jmpM_row x6 (m.marks.length+2:Nat)
 have m7:=jmpM_marks x6 (m.marks.length+2:Nat)
 generalize jmpM x6 (m.marks.length+2:Nat)=x7 at *
 have g8:=layM_mg (s:=s) (m:=x7) (k:=m.marks.length+1) (by rw [p7];exact g6.i)
 generalize layM x7 (m.marks.length+1)=x8 at *
 have lo8:x4.p.1≤x8.p.1:=Nat.le_trans g5.lo (Nat.le_trans g6.lo (by rw [← p7];exact g8.lo))
 have g9:=hS h b x8 g8.i (fun _=>by have:=g8.i;omega)
 generalize S h b x8=x9 at *
 have g10:=expM_mg (l:=[125,41]) (by decide) g9.i
 generalize expM s x9 [125,41]=x10 at *
 have g11:=layM_mg (k:=m.marks.length+2) g10.i
 generalize layM x10 (m.marks.length+2)=x11 at *
 have gb:=(g9.trans g10).trans g11
 have ga:=(g3.trans g4).trans (g5.trans g6)
 clear g3 g4 g5 g6 g9 g10 g11
 have u1:=g2.row;have u2:=g2.mm;have u3:=g2.lo;have u4:=g2.le;have u5:=g2.bad
 have v1:=ga.row;have v2:=ga.mm;have v3:=ga.lo;have v4:=ga.le;have v5:=ga.bad
 have y1:=g8.row;have y2:=g8.mm;have y3:=g8.lo;have y4:=g8.le;have y5:=g8.bad
 have z1:=gb.row;have z2:=gb.mm;have z3:=gb.lo;have z4:=gb.le;have z5:=gb.bad
 rw [p7] at y1 y2 y3 y5
 rw [m7] at y2 y4
 rw [r1] at u1
 refine ⟨⟨gb.i,by omega,by omega,by omega,by omega,by omega⟩,by omega⟩
theorem lopM_mg {f:Nat} {s:ByteArray} {S:Int→Int→MS→MS} {m:MS} (hS:SMG s f S) (hc:pkb s m.p=91) (hf:s.size-m.p.1<f+1) :
  MG s m (lopM f S s m)∧m.p.1<(lopM f S s m).p.1:=by
 obtain ⟨e1,e2,e3⟩:=eat_at (c:=91) hc (by decide)
 have b0:=bc_live e3
 unfold lopM
 dsimp only
 have p1:(layM (expM s (new3 m) [91]) m.marks.length).p=(m.p.1+1,false):=e1
 have r1:(layM (expM s (new3 m) [91]) m.marks.length).row=m.row:=rfl
 have m1:(layM (expM s (new3 m) [91]) m.marks.length).marks.length=m.marks.length+3:=by rw [layM_len];exact new3_len m
 generalize layM (expM s (new3 m) [91]) m.marks.length=x1 at *
 have q1:x1.p.1=m.p.1+1:=by rw [p1]
 have b1:bc x1.p=0:=by rw [p1];rfl
 clear p1 e1
 have g2:=condM_mc f s (m.marks.length+1:Nat) (m.marks.length+2:Nat) x1 (by omega) (by omega)
 generalize condM f s (m.marks.length+1:Nat) (m.marks.length+2:Nat) x1=x2 at *
 have g3:=expM_mg (l:=[123]) (by decide) g2.i
 generalize expM s x2 [123]=x3 at *
 have g4:=layM_mg (k:=m.marks.length+1) g3.i
 generalize layM x3 (m.marks.length+1)=x4 at *
 have lo4:x1.p.1≤x4.p.1:=Nat.le_trans g2.lo (Nat.le_trans g3.lo g4.lo)
 have g5:=hS m.marks.length (m.marks.length+2:Nat) x4 g4.i (fun _=>by have:=g4.i;omega)
 generalize S m.marks.length (m.marks.length+2:Nat) x4=x5 at *
 have g6:=expM_mg (l:=[125,93]) (by decide) g5.i
 generalize expM s x5 [125,93]=x6 at *
 have p7:=jmpM_p x6 m.marks.length
 have r7:=jmpM_row x6 m.marks.length
 have m7:=jmpM_marks x6 m.marks.length
 generalize jmpM x6 m.marks.length=x7 at *
 have g8:=layM_mg (s:=s) (m:=x7) (k:=m.marks.length+2) (by rw [p7];exact g6.i)
 generalize layM x7 (m.marks.length+2)=x8 at *
 have ga:=(g3.trans g4).trans (g5.trans g6)
 clear g3 g4 g5 g6
 have u1:=g2.row;have u2:=g2.mm;have u3:=g2.lo;have u4:=g2.le;have u5:=g2.bad
 have v1:=ga.row;have v2:=ga.mm;have v3:=ga.lo;have v4:=ga.le;have v5:=ga.bad
 have y1:=g8.row;have y2:=g8.mm;have y3:=g8.lo;have y4:=g8.le;have y5:=g8.bad
 rw [p7] at y1 y2 y3 y5
 rw [m7] at y2 y4
 rw [r1] at u1
 refine ⟨⟨g8.i,by omega,by omega,by omega,by omega,by omega⟩,by omega⟩
theorem stM_mg {f:Nat} {s:ByteArray} {S:Int→Int→MS→MS} {h b:Int} {m:MS} (hS:SMG s f S) (hp:pkb s m.p≠0) (hf:s.size-m.p.1<f+1) :
  MG s m (stM f S s h b m)∧((stM f S s h b m).p.2=false→m.p.1<(stM f S s h b m).p.1):=by
 unfold stM
 split
 ·rename_i hc
  exact ⟨(choM_mg hS hc hf).1,fun _=>(choM_mg hS hc hf).2⟩
 split
 ·rename_i hc
  exact ⟨(lopM_mg hS hc hf).1,fun _=>(lopM_mg hS hc hf).2⟩
 split
 ·rename_i hc
  exact lepM_mg (c:=62) hc (by decide) (by decide)
 split
 ·rename_i hc
  exact lepM_mg (c:=60) hc (by decide) (by decide)
 ·exact actM_mg hp
theorem stmM_mg:∀ (f:Nat) (s:ByteArray),SMG s f (stmM f s)
 | 0,s=>fun h b m hi _=>MG.refl hi
 | f+1,s=>fun h b m hi hf=>by
  rw [stmM]
  split
  ·rename_i hc
   have hl:=pkb_live hc.2
   have g:=stM_mg (h:=h) (b:=b) (stmM_mg f s) hc.2 (hf hl.1)
   have hl2:=hf hl.1
   generalize stM f (stmM f s) s h b m=x at *
   exact g.1.trans (stmM_mg f s h b x g.1.i (fun hb=>by have:=g.2 hb;have:=g.1.i;omega))
  ·exact MG.refl hi
theorem stmM_stop (f:Nat) (s:ByteArray) (h b:Int) (m:MS) (hp:pkb s m.p=125∨pkb s m.p=0):stmM f s h b m=m:=by
 cases f with
 | zero=>rfl
 | succ f=>rw [stmM,if_neg (by omega)]
end Go.Proofs.YtellieabhaphhabGreatDoor
namespace Go.Proofs.YtellieabhaphhabGreatDoor
open Go.RowKit
structure VW (u:Vl):Prop where
 k:KOk u.k
 n0:0≤u.n
 n1:u.n≤999
 b:u.k=66→u.v=116∨u.v=102∨u.v=122
 z:u.k≠66→u.v=0
theorem bit_65 {k:Int} (h:KOk k):bit k=16↔k=65:=by
 rcases h with rfl|rfl|rfl|rfl|rfl|rfl|rfl <;> decide
set_option maxHeartbeats 800000 in
theorem nsumOf_c (yk yn yv wk wn wv:Int) (w:World) (h1:0≤yn) (h2:yn≤999) (h3:0≤wn) (h4:wn≤999) :
  Calls Tryz.prog 131 #[.agg #[.int .i64 yk,.int .i64 yn,.int .i64 yv],.agg #[.int .i64 wk,.int .i64 wn,.int .i64 wv]] w fun e w'=>e=.returned (.agg #[.int .i64 1,.int .i64 ((yn+wn) % 1000),.int .i64 0])∧Kp no w w':=by
 by_cases hc:1000≤yn+wn
 ·have HV:=hide (show (yn+wn) % 1000=yn+wn-1000 by omega)
  go_enter Tryz.func131,Tryz.ntmps131
  go_wp2
  refine body_agg (Tb:=66) (b:=w.heap.size+2) (cs:=[.int .i64 1,.int .i64 (yn+wn-1000),.int .i64 0]) (.inr rfl) Tryz.results131 rfl rfl (by (exact blA)) Tryz.underlying66 rfl (by kernel_rfl) ?_
  rw [HV.out]
  exact ⟨rfl,by (exact kpA)⟩
 ·have HV:=hide (show (yn+wn) % 1000=yn+wn by omega)
  go_enter Tryz.func131,Tryz.ntmps131
  go_wp2
  refine body_agg (Tb:=66) (b:=w.heap.size+2) (cs:=[.int .i64 1,.int .i64 (yn+wn),.int .i64 0]) (.inr rfl) Tryz.results131 rfl rfl (by (exact blA)) Tryz.underlying66 rfl (by kernel_rfl) ?_
  rw [HV.out]
  exact ⟨rfl,by (exact kpA)⟩
set_option maxHeartbeats 800000 in
theorem nisBelow_c (yk yn yv wk wn wv:Int) (w:World) :
  Calls Tryz.prog 132 #[.agg #[.int .i64 yk,.int .i64 yn,.int .i64 yv],.agg #[.int .i64 wk,.int .i64 wn,.int .i64 wv]] w fun e w'=>e=.returned (.agg #[.int .i64 (if yn<wn then 2 else 4),.int .i64 0,.int .i64 0])∧Kp no w w':=by
 by_cases hc:yn<wn
 ·rw [if_pos hc]
  go_enter Tryz.func132,Tryz.ntmps132
  go_wp2
  refine body_agg (Tb:=66) (b:=w.heap.size+2) (cs:=[.int .i64 2,.int .i64 0,.int .i64 0]) (.inr rfl) Tryz.results132 rfl rfl (by (exact blA)) Tryz.underlying66 rfl (by kernel_rfl) ?_
  exact ⟨rfl,by (exact kpA)⟩
 ·rw [if_neg hc]
  go_enter Tryz.func132,Tryz.ntmps132
  go_wp2
  refine body_agg (Tb:=66) (b:=w.heap.size+2) (cs:=[.int .i64 4,.int .i64 0,.int .i64 0]) (.inr rfl) Tryz.results132 rfl rfl (by (exact blA)) Tryz.underlying66 rfl (by kernel_rfl) ?_
  exact ⟨rfl,by (exact kpA)⟩
set_option maxHeartbeats 800000 in
theorem nheldBy_c (yk yn yv:Int) (w:World) :
  Calls Tryz.prog 133 #[.agg #[.int .i64 yk,.int .i64 yn,.int .i64 yv]] w fun e w'=>e=.returned (.agg #[.int .i64 (if yk=16 then 1 else yv),.int .i64 (if yk=16 then yn else 0),.int .i64 0])∧Kp no w w':=by
 by_cases hc:yk=16
 ·subst hc
  rw [if_pos rfl,if_pos rfl]
  go_enter Tryz.func133,Tryz.ntmps133
  go_wp2
  refine body_agg (Tb:=66) (b:=w.heap.size+1) (cs:=[.int .i64 1,.int .i64 yn,.int .i64 0]) (.inr rfl) Tryz.results133 rfl rfl (by (exact blA)) Tryz.underlying66 rfl (by kernel_rfl) ?_
  exact ⟨rfl,by (exact kpA)⟩
 ·rw [if_neg hc,if_neg hc]
  have hc':(yk == 16)=false:=by simp [hc]
  go_enter Tryz.func133,Tryz.ntmps133
  go_wp2
  refine body_agg (Tb:=66) (b:=w.heap.size+1) (cs:=[.int .i64 yv,.int .i64 0,.int .i64 0]) (.inr rfl) Tryz.results133 rfl rfl (by (exact blA)) Tryz.underlying66 rfl (by kernel_rfl) ?_
  exact ⟨rfl,by (exact kpA)⟩
set_option maxHeartbeats 800000 in
theorem ntakenAsTrue_c (yk yn yv:Int) (w:World) :
  Calls Tryz.prog 134 #[.agg #[.int .i64 yk,.int .i64 yn,.int .i64 yv]] w fun e w'=>e=.returned (.bool (yk != 4 && yk != 8 && (yk != 1 || yn != 0)))∧Kp no w w':=by
 by_cases h4:yk=4
 ·subst h4
  go_enter Tryz.func134,Tryz.ntmps134
  go_wp2
  go_ret
  exact ⟨rfl,by (exact kpA)⟩
 by_cases h8:yk=8
 ·subst h8
  go_enter Tryz.func134,Tryz.ntmps134
  go_wp2
  go_ret
  exact ⟨rfl,by (exact kpA)⟩
 have f4:(yk == 4)=false:=by simp [h4]
 have f8:(yk == 8)=false:=by simp [h8]
 by_cases h1:yk=1
 ·subst h1
  have HV:=hide (show ((1:Int) != 4 && (1:Int) != 8 && ((1:Int) != 1 || yn != 0))=!(yn == 0) by cases h:(yn == 0) <;> simp_all)
  go_enter Tryz.func134,Tryz.ntmps134
  go_wp2
  go_ret
  rw [HV.out]
  exact ⟨by simp [bne],by (exact kpA)⟩
 ·have f1:(yk == 1)=false:=by simp [h1]
  have HV:=hide (show (yk != 4 && yk != 8 && (yk != 1 || yn != 0))=true by simp [bne,f4,f8,f1])
  go_enter Tryz.func134,Tryz.ntmps134
  go_wp2
  go_ret
  rw [HV.out]
  exact ⟨rfl,by (exact kpA)⟩
set_option maxHeartbeats 400000 in
theorem nplainText_c (k:Int) (h:k=116∨k=102∨k=122∨k=67) (w:World) :
  Calls Tryz.prog 129 #[.int .i64 (bit k)] w fun e w'=>e=.returned (.string (capF k))∧w'=w:=by
 rcases h with rfl|rfl|rfl|rfl
 all_goals
  simp only [bit,reduceIte,Int.reduceEq]
  go_enter Tryz.func129,Tryz.ntmps129
  go_wp2
  go_ret
  exact ⟨rfl,rfl⟩
set_option maxHeartbeats 800000 in
theorem nvalueText_c (v:Vl) (h:VW v) (w:World) (ht:Tab w) :
  Calls Tryz.prog 88 #[.agg #[.int .i64 (bit v.k),.int .i64 v.n,.int .i64 (bit v.v)]] w fun e w'=>e=.returned (.string (spellF v))∧Kp no w w':=by
 obtain ⟨vk,vn,vv⟩:=v
 obtain ⟨hk,h0,h1,hb,hz⟩:=h
 dsimp only at *
 have h1':vn≤1000:=by omega
 have hsz:=itoa_size vn h0 h1'
 have HI:=hide (fun W (hW:Tab W)=>itoa_c vn h0 h1' W hW)
 rcases hk with rfl|rfl|rfl|rfl|rfl|rfl|rfl
 ·have HV:Hid (spellF ⟨110,vn,vv⟩=itoaB vn):=rfl
  rw [show bit 110=1 from rfl]
  generalize bit vv=bv
  go_enter Tryz.func88,Tryz.ntmps88
  go_wp2_with fail
  refine (HI.out _ (ht.kp (by (exact kpA)) no_elim)).mono ?_
  rintro e w1 ⟨rfl,k1⟩
  go_wp2
  go_ret
  rw [HV.out]
  exact ⟨rfl,by (exact kpA)⟩
 ·have HV:Hid (spellF ⟨116,vn,vv⟩=capF 116):=rfl
  have HC:=hide (fun W=>nplainText_c 116 (by decide) W)
  rw [show bit 116=2 from rfl] at *
  clear hz hb HI
  generalize capF 116=cv at *
  generalize bit vv=bv
  go_enter Tryz.func88,Tryz.ntmps88
  go_wp2_with fail
  refine (HC.out _).mono ?_
  rintro e w1 ⟨rfl,rfl⟩
  go_wp2
  go_ret
  rw [HV.out]
  exact ⟨rfl,by (exact kpA)⟩
 ·have HV:Hid (spellF ⟨102,vn,vv⟩=capF 102):=rfl
  have HC:=hide (fun W=>nplainText_c 102 (by decide) W)
  rw [show bit 102=4 from rfl] at *
  clear hz hb HI
  generalize capF 102=cv at *
  generalize bit vv=bv
  go_enter Tryz.func88,Tryz.ntmps88
  go_wp2_with fail
  refine (HC.out _).mono ?_
  rintro e w1 ⟨rfl,rfl⟩
  go_wp2
  go_ret
  rw [HV.out]
  exact ⟨rfl,by (exact kpA)⟩
 ·have HV:Hid (spellF ⟨122,vn,vv⟩=capF 122):=rfl
  have HC:=hide (fun W=>nplainText_c 122 (by decide) W)
  rw [show bit 122=8 from rfl] at *
  clear hz hb HI
  generalize capF 122=cv at *
  generalize bit vv=bv
  go_enter Tryz.func88,Tryz.ntmps88
  go_wp2_with fail
  refine (HC.out _).mono ?_
  rintro e w1 ⟨rfl,rfl⟩
  go_wp2
  go_ret
  rw [HV.out]
  exact ⟨rfl,by (exact kpA)⟩
 ·have HV:Hid (spellF ⟨65,vn,vv⟩=⟨#[65]⟩++itoaB vn):=rfl
  rw [show bit 65=16 from rfl]
  generalize bit vv=bv
  go_enter Tryz.func88,Tryz.ntmps88
  go_wp2_with fail
  refine (HI.out _ (ht.kp (by (exact kpA)) no_elim)).mono ?_
  rintro e w1 ⟨rfl,k1⟩
  generalize itoaB vn=ib at *
  go_wp2
  go_ret
  rw [HV.out]
  exact ⟨rfl,by (exact kpA)⟩
 ·have HV:Hid (spellF ⟨66,vn,vv⟩=⟨#[66]⟩++capF vv):=rfl
  have HC:=hide (fun W=>nplainText_c vv (by have:=hb rfl;omega) W)
  have hcs:=capF_size vv
  rw [show bit 66=32 from rfl]
  clear hz hb HI
  generalize bit vv=bv at *
  generalize capF vv=cv at *
  go_enter Tryz.func88,Tryz.ntmps88
  go_wp2_with fail
  refine (HC.out _).mono ?_
  rintro e w1 ⟨rfl,rfl⟩
  go_wp2
  go_ret
  rw [HV.out]
  exact ⟨rfl,by (exact kpA)⟩
 ·have HV:Hid (spellF ⟨67,vn,vv⟩=capF 67):=rfl
  have HC:=hide (fun W=>nplainText_c 67 (by decide) W)
  rw [show bit 67=64 from rfl] at *
  clear hz hb HI
  generalize capF 67=cv at *
  generalize bit vv=bv
  go_enter Tryz.func88,Tryz.ntmps88
  go_wp2_with fail
  refine (HC.out _).mono ?_
  rintro e w1 ⟨rfl,rfl⟩
  go_wp2
  go_ret
  rw [HV.out]
  exact ⟨rfl,by (exact kpA)⟩
end Go.Proofs.YtellieabhaphhabGreatDoor
namespace Go.Proofs.YtellieabhaphhabGreatDoor
open Go.RowKit
def nvCells (l:List Vl):List Value:=l.flatMap Vl.nc
structure NB (w:World) (r:Nat) (inp:ByteArray) (m:Mc):Prop where
 b:Blk w r (nvCells m.l++[.string inp,.int .i64 m.rd,.string m.tr,.string m.out]) 91
 six:m.l.length=6
theorem Blk.c22 {w:World} {b:Nat} {a0 a1 a2 a3 a4 a5 a6 a7 a8 a9 a10 a11 a12 a13 a14 a15 a16 a17 a18 a19 a20 a21:Value} {T:TypeId} (h:Blk w b [a0,a1,a2,a3,a4,a5,a6,a7,a8,a9,a10,a11,a12,a13,a14,a15,a16,a17,a18,a19,a20,a21] T) :
  w.cell? ⟨b,0,none⟩=some a0∧w.cell? ⟨b,1,none⟩=some a1∧w.cell? ⟨b,2,none⟩=some a2∧w.cell? ⟨b,3,none⟩=some a3∧w.cell? ⟨b,4,none⟩=some a4∧w.cell? ⟨b,5,none⟩=some a5∧w.cell? ⟨b,6,none⟩=some a6∧w.cell? ⟨b,7,none⟩=some a7∧w.cell? ⟨b,8,none⟩=some a8∧w.cell? ⟨b,9,none⟩=some a9∧w.cell? ⟨b,10,none⟩=some a10∧w.cell? ⟨b,11,none⟩=some a11∧w.cell? ⟨b,12,none⟩=some a12∧w.cell? ⟨b,13,none⟩=some a13∧w.cell? ⟨b,14,none⟩=some a14∧w.cell? ⟨b,15,none⟩=some a15∧w.cell? ⟨b,16,none⟩=some a16∧w.cell? ⟨b,17,none⟩=some a17∧w.cell? ⟨b,18,none⟩=some a18∧w.cell? ⟨b,19,none⟩=some a19∧w.cell? ⟨b,20,none⟩=some a20∧w.cell? ⟨b,21,none⟩=some a21∧∀ o,w.frozen? ⟨b,o,none⟩=false :=
 ⟨h.cell 0,h.cell 1,h.cell 2,h.cell 3,h.cell 4,h.cell 5,h.cell 6,h.cell 7,h.cell 8,h.cell 9,h.cell 10,h.cell 11,h.cell 12,h.cell 13,h.cell 14,h.cell 15,h.cell 16,h.cell 17,h.cell 18,h.cell 19,h.cell 20,h.cell 21,h.frozen⟩
theorem six_of {l:List Vl} (h:l.length=6):∃ a b c d e f,l=[a,b,c,d,e,f]:=by
 match l,h with
 | [a,b,c,d,e,f],_=>exact ⟨a,b,c,d,e,f,rfl⟩
def tkM (a:Int):Int:=if a=4∨a=5∨a=6 then 1 else if a=7 then 14 else if a=8 then 48 else 127
set_option maxHeartbeats 400000 in
theorem ntakenKinds_c (a:Int) (w:World) :
  Calls Tryz.prog 87 #[.int .i64 a] w fun e w'=>e=.returned (.int .i64 (tkM a))∧w'=w:=by
 by_cases h4:a=4
 ·subst h4;go_enter Tryz.func87,Tryz.ntmps87;go_wp2;go_ret;exact ⟨rfl,rfl⟩
 by_cases h5:a=5
 ·subst h5;go_enter Tryz.func87,Tryz.ntmps87;go_wp2;go_ret;exact ⟨rfl,rfl⟩
 by_cases h6:a=6
 ·subst h6;go_enter Tryz.func87,Tryz.ntmps87;go_wp2;go_ret;exact ⟨rfl,rfl⟩
 by_cases h7:a=7
 ·subst h7;go_enter Tryz.func87,Tryz.ntmps87;go_wp2;go_ret;exact ⟨rfl,rfl⟩
 by_cases h8:a=8
 ·subst h8;go_enter Tryz.func87,Tryz.ntmps87;go_wp2;go_ret;exact ⟨rfl,rfl⟩
 have HV:=hide (show tkM a=127 by rw [tkM,if_neg (by omega),if_neg (by omega),if_neg (by omega)])
 have f4:(a == 4)=false:=by simp [h4]
 have f5:(a == 5)=false:=by simp [h5]
 have f6:(a == 6)=false:=by simp [h6]
 have f7:(a == 7)=false:=by simp [h7]
 have f8:(a == 8)=false:=by simp [h8]
 rw [HV.out]
 go_enter Tryz.func87,Tryz.ntmps87
 go_wp2
 go_ret
 exact ⟨rfl,rfl⟩
set_option maxRecDepth 100000 in
set_option maxHeartbeats 400000 in
theorem ntwo_c (n:Nat) (w:World) (hn:n<100) :
  Calls Tryz.prog 77 #[.int .i64 n] w fun e w'=>e=.returned (.string (twoB n))∧Kp no w w':=by
 have hc:=conv2
 have HV:=hide (show twoB n=strOfNums [48+(n:Int) / 10 % 10,48+(n:Int) % 10] by rw [twoB];congr 2;omega)
 rw [HV.out]
 go_enter Tryz.func77,Tryz.ntmps77
 go_wp2
 go_ret
 exact ⟨rfl,by (exact kpA)⟩
theorem narIx0 (w:World) (a0 a1 a2 a3 a4 a5 a6 a7 a8 a9 a10 a11 a12 a13 a14 a15 a16 a17:Value):(Instr.index 89 (.agg #[a0,a1,a2,a3,a4,a5,a6,a7,a8,a9,a10,a11,a12,a13,a14,a15,a16,a17]) (.int .i64 0)).run Tryz.prog w=.ok (.agg #[a0,a1,a2]) w:=by
 simp [Instr.index,go_sem]
theorem narIx1 (w:World) (a0 a1 a2 a3 a4 a5 a6 a7 a8 a9 a10 a11 a12 a13 a14 a15 a16 a17:Value):(Instr.index 89 (.agg #[a0,a1,a2,a3,a4,a5,a6,a7,a8,a9,a10,a11,a12,a13,a14,a15,a16,a17]) (.int .i64 1)).run Tryz.prog w=.ok (.agg #[a3,a4,a5]) w:=by
 simp [Instr.index,go_sem]
theorem narIx2 (w:World) (a0 a1 a2 a3 a4 a5 a6 a7 a8 a9 a10 a11 a12 a13 a14 a15 a16 a17:Value):(Instr.index 89 (.agg #[a0,a1,a2,a3,a4,a5,a6,a7,a8,a9,a10,a11,a12,a13,a14,a15,a16,a17]) (.int .i64 2)).run Tryz.prog w=.ok (.agg #[a6,a7,a8]) w:=by
 simp [Instr.index,go_sem]
theorem narIx3 (w:World) (a0 a1 a2 a3 a4 a5 a6 a7 a8 a9 a10 a11 a12 a13 a14 a15 a16 a17:Value):(Instr.index 89 (.agg #[a0,a1,a2,a3,a4,a5,a6,a7,a8,a9,a10,a11,a12,a13,a14,a15,a16,a17]) (.int .i64 3)).run Tryz.prog w=.ok (.agg #[a9,a10,a11]) w:=by
 simp [Instr.index,go_sem]
theorem narIx4 (w:World) (a0 a1 a2 a3 a4 a5 a6 a7 a8 a9 a10 a11 a12 a13 a14 a15 a16 a17:Value):(Instr.index 89 (.agg #[a0,a1,a2,a3,a4,a5,a6,a7,a8,a9,a10,a11,a12,a13,a14,a15,a16,a17]) (.int .i64 4)).run Tryz.prog w=.ok (.agg #[a12,a13,a14]) w:=by
 simp [Instr.index,go_sem]
theorem narIx5 (w:World) (a0 a1 a2 a3 a4 a5 a6 a7 a8 a9 a10 a11 a12 a13 a14 a15 a16 a17:Value):(Instr.index 89 (.agg #[a0,a1,a2,a3,a4,a5,a6,a7,a8,a9,a10,a11,a12,a13,a14,a15,a16,a17]) (.int .i64 5)).run Tryz.prog w=.ok (.agg #[a15,a16,a17]) w:=by
 simp [Instr.index,go_sem]
theorem ba_assoc (a b c:ByteArray):a++(b++c)=a++b++c:=by
 exact (ByteArray.append_assoc).symm
set_option maxRecDepth 100000 in
set_option maxHeartbeats 6400000 in
theorem ntell_at (r n:Nat) (inp tr outp:ByteArray) (rd:Int) (k0 n0 v0 k1 n1 v1 k2 n2 v2 k3 n3 v3 k4 n4 v4 k5 n5 v5:Int) (g0 g1 g2 g3 g4 g5:Int) (w:World) (hn:n<100) (ht:tr.size≤100000)
  (hb:Blk w r [.int .i64 k0,.int .i64 n0,.int .i64 v0,.int .i64 k1,.int .i64 n1,.int .i64 v1,.int .i64 k2,.int .i64 n2,.int .i64 v2,.int .i64 k3,.int .i64 n3,.int .i64 v3,.int .i64 k4,.int .i64 n4,.int .i64 v4,.int .i64 k5,.int .i64 n5,.int .i64 v5,.string inp,.int .i64 rd,.string tr,.string outp] 91)
  (s0:∀ W,Calls Tryz.prog 85 #[.int .i64 k0] W fun e w'=>e=.returned (.string (strOfNums [g0]))∧w'=W)
  (s1:∀ W,Calls Tryz.prog 85 #[.int .i64 k1] W fun e w'=>e=.returned (.string (strOfNums [g1]))∧w'=W)
  (s2:∀ W,Calls Tryz.prog 85 #[.int .i64 k2] W fun e w'=>e=.returned (.string (strOfNums [g2]))∧w'=W)
  (s3:∀ W,Calls Tryz.prog 85 #[.int .i64 k3] W fun e w'=>e=.returned (.string (strOfNums [g3]))∧w'=W)
  (s4:∀ W,Calls Tryz.prog 85 #[.int .i64 k4] W fun e w'=>e=.returned (.string (strOfNums [g4]))∧w'=W)
  (s5:∀ W,Calls Tryz.prog 85 #[.int .i64 k5] W fun e w'=>e=.returned (.string (strOfNums [g5]))∧w'=W) :
  Calls Tryz.prog 47 #[.pointer (some ⟨r,0,none⟩),.int .i64 n] w fun e w'=>e=.returned (.tuple #[]) ∧
   Blk w' r [.int .i64 k0,.int .i64 n0,.int .i64 v0,.int .i64 k1,.int .i64 n1,.int .i64 v1,.int .i64 k2,.int .i64 n2,.int .i64 v2,.int .i64 k3,.int .i64 n3,.int .i64 v3,.int .i64 k4,.int .i64 n4,.int .i64 v4,.int .i64 k5,.int .i64 n5,.int .i64 v5,.string inp,.int .i64 rd,.string (tr++kindsB (twoB n) [⟨g0,0,0⟩,⟨g1,0,0⟩,⟨g2,0,0⟩,⟨g3,0,0⟩,⟨g4,0,0⟩,⟨g5,0,0⟩]++sp),.string outp] 91∧Kp (·=r) w w':=by
 have S0:=hide s0
 have S1:=hide s1
 have S2:=hide s2
 have S3:=hide s3
 have S4:=hide s4
 have S5:=hide s5
 clear s0 s1 s2 s3 s4 s5
 have hr:=hb.lt
 go_enter Tryz.func47,Tryz.ntmps47
 go_wp2_with fail
 refine (ntwo_c n _ hn).mono ?_
 rintro x w1 ⟨rfl,kp1⟩
 have hb1:=kp1.blk hb no_elim
 have hrange:w1.rangeAt r 0 [.int .i64 k0,.int .i64 n0,.int .i64 v0,.int .i64 k1,.int .i64 n1,.int .i64 v1,.int .i64 k2,.int .i64 n2,.int .i64 v2,.int .i64 k3,.int .i64 n3,.int .i64 v3,.int .i64 k4,.int .i64 n4,.int .i64 v4,.int .i64 k5,.int .i64 n5,.int .i64 v5]:=fun j v hv=>by
  have hj:=hb1.cell j
  rw [Nat.zero_add,hj]
  have:=List.getElem?_append_left (l₂:=[.string inp,.int .i64 rd,.string tr,.string outp]) (List.getElem?_eq_some_iff.1 hv).1
  exact this.trans hv
 have HRG:=hide hrange
 clear hrange
 go_wp2_with (refine wpList_load_mid rfl 89 (.tmp 11) rfl r 0 (by simp [Act.eval]) [.int .i64 k0,.int .i64 n0,.int .i64 v0,.int .i64 k1,.int .i64 n1,.int .i64 v1,.int .i64 k2,.int .i64 n2,.int .i64 v2,.int .i64 k3,.int .i64 n3,.int .i64 v3,.int .i64 k4,.int .i64 n4,.int .i64 v4,.int .i64 k5,.int .i64 n5,.int .i64 v5] _ HRG.out Tryz.underlying89 rfl (by kernel_rfl) ?_)
 go_loopg [4,13] 6 (fun k s i wr=>∃ j:Nat,j≤6∧k=6-j∧i=.int .i64 j∧s=.string (kindsB (twoB n) (List.take j [⟨g0,0,0⟩,⟨g1,0,0⟩,⟨g2,0,0⟩,⟨g3,0,0⟩,⟨g4,0,0⟩,⟨g5,0,0⟩]))∧Kp no w wr)
 case atStart=>exact ⟨0,by decide,rfl,rfl,rfl,kp1⟩
 case round =>
  obtain ⟨j,hj,hk,rfl,rfl,kr⟩:=hrel
  have HK:=hide hk
  have HKR:=hide kr
  clear hk hb1
  have hsz:(kindsB (twoB n) (List.take j [⟨g0,0,0⟩,⟨g1,0,0⟩,⟨g2,0,0⟩,⟨g3,0,0⟩,⟨g4,0,0⟩,⟨g5,0,0⟩])).size≤100:=by rw [kindsB_size,twoB_size,List.length_take];simp;omega
  rcases (show j=6∨j=0∨j=1∨j=2∨j=3∨j=4∨j=5 by omega) with rfl|rfl|rfl|rfl|rfl|rfl|rfl
  ·have hb2:=kr.blk hb no_elim
   obtain ⟨c0,c1,c2,c3,c4,c5,c6,c7,c8,c9,c10,c11,c12,c13,c14,c15,c16,c17,c18,c19,c20,c21,cf⟩:=hb2.c22
   have hr2:=hb2.lt
   clear kr
   have HF:Hid (kindsB (twoB n) (List.take 6 [⟨g0,0,0⟩,⟨g1,0,0⟩,⟨g2,0,0⟩,⟨g3,0,0⟩,⟨g4,0,0⟩,⟨g5,0,0⟩])=kindsB (twoB n) [⟨g0,0,0⟩,⟨g1,0,0⟩,⟨g2,0,0⟩,⟨g3,0,0⟩,⟨g4,0,0⟩,⟨g5,0,0⟩]):=rfl
   have hsp:(ByteArray.mk #[32]).size=1:=rfl
   generalize kindsB (twoB n) (List.take 6 [⟨g0,0,0⟩,⟨g1,0,0⟩,⟨g2,0,0⟩,⟨g3,0,0⟩,⟨g4,0,0⟩,⟨g5,0,0⟩])=t at *
   go_wp2
   go_end0
   have kk:=HKR.out.mono (S':=(·=r)) (fun _ e=>False.elim e)
   rw [← HF.out]
   refine ⟨rfl,?_,by (exact kpA)⟩
   have hq:=hb2.set 20 (.string (tr++(t++sp)))
   rw [← ba_assoc]
   exact hq
  ·have HF:Hid (kindsB (twoB n) (List.take 1 [⟨g0,0,0⟩,⟨g1,0,0⟩,⟨g2,0,0⟩,⟨g3,0,0⟩,⟨g4,0,0⟩,⟨g5,0,0⟩])=kindsB (twoB n) (List.take 0 [⟨g0,0,0⟩,⟨g1,0,0⟩,⟨g2,0,0⟩,⟨g3,0,0⟩,⟨g4,0,0⟩,⟨g5,0,0⟩])++strOfNums [g0]):=rfl
   have hs1:=str1 g0
   have hix:=narIx0
   clear kr
   generalize kindsB (twoB n) (List.take 0 [⟨g0,0,0⟩,⟨g1,0,0⟩,⟨g2,0,0⟩,⟨g3,0,0⟩,⟨g4,0,0⟩,⟨g5,0,0⟩])=t at *
   go_wp2_with (go_at_call 85;refine (S0.out _).mono ?_;rintro e w' ⟨rfl,rfl⟩)
   go_roundg (6-1)
   case measure=>have:=HK.out;omega
   case rel =>
    have kk:=HKR.out
    exact ⟨1,by omega,rfl,by go_num,by rw [HF.out],by (exact kpA)⟩
  ·have HF:Hid (kindsB (twoB n) (List.take 2 [⟨g0,0,0⟩,⟨g1,0,0⟩,⟨g2,0,0⟩,⟨g3,0,0⟩,⟨g4,0,0⟩,⟨g5,0,0⟩])=kindsB (twoB n) (List.take 1 [⟨g0,0,0⟩,⟨g1,0,0⟩,⟨g2,0,0⟩,⟨g3,0,0⟩,⟨g4,0,0⟩,⟨g5,0,0⟩])++strOfNums [g1]):=rfl
   have hs1:=str1 g1
   have hix:=narIx1
   clear kr
   generalize kindsB (twoB n) (List.take 1 [⟨g0,0,0⟩,⟨g1,0,0⟩,⟨g2,0,0⟩,⟨g3,0,0⟩,⟨g4,0,0⟩,⟨g5,0,0⟩])=t at *
   go_wp2_with (go_at_call 85;refine (S1.out _).mono ?_;rintro e w' ⟨rfl,rfl⟩)
   go_roundg (6-2)
   case measure=>have:=HK.out;omega
   case rel =>
    have kk:=HKR.out
    exact ⟨2,by omega,rfl,by go_num,by rw [HF.out],by (exact kpA)⟩
  ·have HF:Hid (kindsB (twoB n) (List.take 3 [⟨g0,0,0⟩,⟨g1,0,0⟩,⟨g2,0,0⟩,⟨g3,0,0⟩,⟨g4,0,0⟩,⟨g5,0,0⟩])=kindsB (twoB n) (List.take 2 [⟨g0,0,0⟩,⟨g1,0,0⟩,⟨g2,0,0⟩,⟨g3,0,0⟩,⟨g4,0,0⟩,⟨g5,0,0⟩])++strOfNums [g2]):=rfl
   have hs1:=str1 g2
   have hix:=narIx2
   clear kr
   generalize kindsB (twoB n) (List.take 2 [⟨g0,0,0⟩,⟨g1,0,0⟩,⟨g2,0,0⟩,⟨g3,0,0⟩,⟨g4,0,0⟩,⟨g5,0,0⟩])=t at *
   go_wp2_with (go_at_call 85;refine (S2.out _).mono ?_;rintro e w' ⟨rfl,rfl⟩)
   go_roundg (6-3)
   case measure=>have:=HK.out;omega
   case rel =>
    have kk:=HKR.out
    exact ⟨3,by omega,rfl,by go_num,by rw [HF.out],by (exact kpA)⟩
  ·have HF:Hid (kindsB (twoB n) (List.take 4 [⟨g0,0,0⟩,⟨g1,0,0⟩,⟨g2,0,0⟩,⟨g3,0,0⟩,⟨g4,0,0⟩,⟨g5,0,0⟩])=kindsB (twoB n) (List.take 3 [⟨g0,0,0⟩,⟨g1,0,0⟩,⟨g2,0,0⟩,⟨g3,0,0⟩,⟨g4,0,0⟩,⟨g5,0,0⟩])++strOfNums [g3]):=rfl
   have hs1:=str1 g3
   have hix:=narIx3
   clear kr
   generalize kindsB (twoB n) (List.take 3 [⟨g0,0,0⟩,⟨g1,0,0⟩,⟨g2,0,0⟩,⟨g3,0,0⟩,⟨g4,0,0⟩,⟨g5,0,0⟩])=t at *
   go_wp2_with (go_at_call 85;refine (S3.out _).mono ?_;rintro e w' ⟨rfl,rfl⟩)
   go_roundg (6-4)
   case measure=>have:=HK.out;omega
   case rel =>
    have kk:=HKR.out
    exact ⟨4,by omega,rfl,by go_num,by rw [HF.out],by (exact kpA)⟩
  ·have HF:Hid (kindsB (twoB n) (List.take 5 [⟨g0,0,0⟩,⟨g1,0,0⟩,⟨g2,0,0⟩,⟨g3,0,0⟩,⟨g4,0,0⟩,⟨g5,0,0⟩])=kindsB (twoB n) (List.take 4 [⟨g0,0,0⟩,⟨g1,0,0⟩,⟨g2,0,0⟩,⟨g3,0,0⟩,⟨g4,0,0⟩,⟨g5,0,0⟩])++strOfNums [g4]):=rfl
   have hs1:=str1 g4
   have hix:=narIx4
   clear kr
   generalize kindsB (twoB n) (List.take 4 [⟨g0,0,0⟩,⟨g1,0,0⟩,⟨g2,0,0⟩,⟨g3,0,0⟩,⟨g4,0,0⟩,⟨g5,0,0⟩])=t at *
   go_wp2_with (go_at_call 85;refine (S4.out _).mono ?_;rintro e w' ⟨rfl,rfl⟩)
   go_roundg (6-5)
   case measure=>have:=HK.out;omega
   case rel =>
    have kk:=HKR.out
    exact ⟨5,by omega,rfl,by go_num,by rw [HF.out],by (exact kpA)⟩
  ·have HF:Hid (kindsB (twoB n) (List.take 6 [⟨g0,0,0⟩,⟨g1,0,0⟩,⟨g2,0,0⟩,⟨g3,0,0⟩,⟨g4,0,0⟩,⟨g5,0,0⟩])=kindsB (twoB n) (List.take 5 [⟨g0,0,0⟩,⟨g1,0,0⟩,⟨g2,0,0⟩,⟨g3,0,0⟩,⟨g4,0,0⟩,⟨g5,0,0⟩])++strOfNums [g5]):=rfl
   have hs1:=str1 g5
   have hix:=narIx5
   clear kr
   generalize kindsB (twoB n) (List.take 5 [⟨g0,0,0⟩,⟨g1,0,0⟩,⟨g2,0,0⟩,⟨g3,0,0⟩,⟨g4,0,0⟩,⟨g5,0,0⟩])=t at *
   go_wp2_with (go_at_call 85;refine (S5.out _).mono ?_;rintro e w' ⟨rfl,rfl⟩)
   go_roundg (6-6)
   case measure=>have:=HK.out;omega
   case rel =>
    have kk:=HKR.out
    exact ⟨6,by omega,rfl,by go_num,by rw [HF.out],by (exact kpA)⟩
end Go.Proofs.YtellieabhaphhabGreatDoor
namespace Go.Proofs.YtellieabhaphhabGreatDoor
open Go.RowKit
theorem ntell_c {w:World} {r:Nat} {inp:ByteArray} {m:Mc} (n:Nat) (hn:n<100) (h:NB w r inp m) (ht:m.tr.size≤100000) (hk:∀ u∈m.l,VW u) :
  Calls Tryz.prog 47 #[.pointer (some ⟨r,0,none⟩),.int .i64 n] w fun e w'=>e=.returned (.tuple #[])∧NB w' r inp { m with tr:=m.tr++toldB n m.l++sp }∧Kp (·=r) w w':=by
 obtain ⟨hb,h6⟩:=h
 obtain ⟨l,rd,left,tr,outp,me⟩:=m
 dsimp only at *
 obtain ⟨a,b,c,d,e,f,rfl⟩:=six_of h6
 have hu:∀ u∈[a,b,c,d,e,f],∀ W,Calls Tryz.prog 85 #[.int .i64 (bit u.k)] W fun e w'=>e=.returned (.string (strOfNums [u.k]))∧w'=W:=fun u hu W=>nkindSign_c u.k (hk u hu).k W
 refine (ntell_at r n inp tr outp rd (bit a.k) a.n (bit a.v) (bit b.k) b.n (bit b.v) (bit c.k) c.n (bit c.v) (bit d.k) d.n (bit d.v) (bit e.k) e.n (bit e.v) (bit f.k) f.n (bit f.v) a.k b.k c.k d.k e.k f.k w hn ht hb (hu a (by simp)) (hu b (by simp)) (hu c (by simp)) (hu d (by simp)) (hu e (by simp)) (hu f (by simp))).mono ?_
 rintro x w' ⟨rfl,hb',k'⟩
 exact ⟨rfl,⟨hb',rfl⟩,k'⟩
set_option maxHeartbeats 800000 in
theorem nvalueOf_0 (r:Nat) (inp tr outp:ByteArray) (rd:Int) (k0 n0 v0 k1 n1 v1 k2 n2 v2 k3 n3 v3 k4 n4 v4 k5 n5 v5:Int) (w:World) (hb:Blk w r [.int .i64 k0,.int .i64 n0,.int .i64 v0,.int .i64 k1,.int .i64 n1,.int .i64 v1,.int .i64 k2,.int .i64 n2,.int .i64 v2,.int .i64 k3,.int .i64 n3,.int .i64 v3,.int .i64 k4,.int .i64 n4,.int .i64 v4,.int .i64 k5,.int .i64 n5,.int .i64 v5,.string inp,.int .i64 rd,.string tr,.string outp] 91) :
  Calls Tryz.prog 86 #[.pointer (some ⟨r,0,none⟩),.int .i64 0] w fun e w'=>e=.returned (.agg #[.int .i64 k0,.int .i64 n0,.int .i64 v0])∧Kp no w w':=by
 obtain ⟨c0,c1,c2,c3,c4,c5,c6,c7,c8,c9,c10,c11,c12,c13,c14,c15,c16,c17,c18,c19,c20,c21,cf⟩:=hb.c22
 have hr:=hb.lt
 clear hb c3 c4 c5 c6 c7 c8 c9 c10 c11 c12 c13 c14 c15 c16 c17 c18 c19 c20 c21
 go_enter Tryz.func86,Tryz.ntmps86
 go_wp2
 refine body_agg (Tb:=66) (b:=w.heap.size) (cs:=[.int .i64 k0,.int .i64 n0,.int .i64 v0]) (.inr rfl) Tryz.results86 rfl rfl (by (exact blA)) Tryz.underlying66 rfl (by kernel_rfl) ?_
 exact ⟨rfl,by (exact kpA)⟩
set_option maxHeartbeats 800000 in
theorem nvalueOf_1 (r:Nat) (inp tr outp:ByteArray) (rd:Int) (k0 n0 v0 k1 n1 v1 k2 n2 v2 k3 n3 v3 k4 n4 v4 k5 n5 v5:Int) (w:World) (hb:Blk w r [.int .i64 k0,.int .i64 n0,.int .i64 v0,.int .i64 k1,.int .i64 n1,.int .i64 v1,.int .i64 k2,.int .i64 n2,.int .i64 v2,.int .i64 k3,.int .i64 n3,.int .i64 v3,.int .i64 k4,.int .i64 n4,.int .i64 v4,.int .i64 k5,.int .i64 n5,.int .i64 v5,.string inp,.int .i64 rd,.string tr,.string outp] 91) :
  Calls Tryz.prog 86 #[.pointer (some ⟨r,0,none⟩),.int .i64 1] w fun e w'=>e=.returned (.agg #[.int .i64 k1,.int .i64 n1,.int .i64 v1])∧Kp no w w':=by
 obtain ⟨c0,c1,c2,c3,c4,c5,c6,c7,c8,c9,c10,c11,c12,c13,c14,c15,c16,c17,c18,c19,c20,c21,cf⟩:=hb.c22
 have hr:=hb.lt
 clear hb c0 c1 c2 c6 c7 c8 c9 c10 c11 c12 c13 c14 c15 c16 c17 c18 c19 c20 c21
 go_enter Tryz.func86,Tryz.ntmps86
 go_wp2
 refine body_agg (Tb:=66) (b:=w.heap.size) (cs:=[.int .i64 k1,.int .i64 n1,.int .i64 v1]) (.inr rfl) Tryz.results86 rfl rfl (by (exact blA)) Tryz.underlying66 rfl (by kernel_rfl) ?_
 exact ⟨rfl,by (exact kpA)⟩
set_option maxHeartbeats 800000 in
theorem nvalueOf_2 (r:Nat) (inp tr outp:ByteArray) (rd:Int) (k0 n0 v0 k1 n1 v1 k2 n2 v2 k3 n3 v3 k4 n4 v4 k5 n5 v5:Int) (w:World) (hb:Blk w r [.int .i64 k0,.int .i64 n0,.int .i64 v0,.int .i64 k1,.int .i64 n1,.int .i64 v1,.int .i64 k2,.int .i64 n2,.int .i64 v2,.int .i64 k3,.int .i64 n3,.int .i64 v3,.int .i64 k4,.int .i64 n4,.int .i64 v4,.int .i64 k5,.int .i64 n5,.int .i64 v5,.string inp,.int .i64 rd,.string tr,.string outp] 91) :
  Calls Tryz.prog 86 #[.pointer (some ⟨r,0,none⟩),.int .i64 2] w fun e w'=>e=.returned (.agg #[.int .i64 k2,.int .i64 n2,.int .i64 v2])∧Kp no w w':=by
 obtain ⟨c0,c1,c2,c3,c4,c5,c6,c7,c8,c9,c10,c11,c12,c13,c14,c15,c16,c17,c18,c19,c20,c21,cf⟩:=hb.c22
 have hr:=hb.lt
 clear hb c0 c1 c2 c3 c4 c5 c9 c10 c11 c12 c13 c14 c15 c16 c17 c18 c19 c20 c21
 go_enter Tryz.func86,Tryz.ntmps86
 go_wp2
 refine body_agg (Tb:=66) (b:=w.heap.size) (cs:=[.int .i64 k2,.int .i64 n2,.int .i64 v2]) (.inr rfl) Tryz.results86 rfl rfl (by (exact blA)) Tryz.underlying66 rfl (by kernel_rfl) ?_
 exact ⟨rfl,by (exact kpA)⟩
set_option maxHeartbeats 800000 in
theorem nvalueOf_3 (r:Nat) (inp tr outp:ByteArray) (rd:Int) (k0 n0 v0 k1 n1 v1 k2 n2 v2 k3 n3 v3 k4 n4 v4 k5 n5 v5:Int) (w:World) (hb:Blk w r [.int .i64 k0,.int .i64 n0,.int .i64 v0,.int .i64 k1,.int .i64 n1,.int .i64 v1,.int .i64 k2,.int .i64 n2,.int .i64 v2,.int .i64 k3,.int .i64 n3,.int .i64 v3,.int .i64 k4,.int .i64 n4,.int .i64 v4,.int .i64 k5,.int .i64 n5,.int .i64 v5,.string inp,.int .i64 rd,.string tr,.string outp] 91) :
  Calls Tryz.prog 86 #[.pointer (some ⟨r,0,none⟩),.int .i64 3] w fun e w'=>e=.returned (.agg #[.int .i64 k3,.int .i64 n3,.int .i64 v3])∧Kp no w w':=by
 obtain ⟨c0,c1,c2,c3,c4,c5,c6,c7,c8,c9,c10,c11,c12,c13,c14,c15,c16,c17,c18,c19,c20,c21,cf⟩:=hb.c22
 have hr:=hb.lt
 clear hb c0 c1 c2 c3 c4 c5 c6 c7 c8 c12 c13 c14 c15 c16 c17 c18 c19 c20 c21
 go_enter Tryz.func86,Tryz.ntmps86
 go_wp2
 refine body_agg (Tb:=66) (b:=w.heap.size) (cs:=[.int .i64 k3,.int .i64 n3,.int .i64 v3]) (.inr rfl) Tryz.results86 rfl rfl (by (exact blA)) Tryz.underlying66 rfl (by kernel_rfl) ?_
 exact ⟨rfl,by (exact kpA)⟩
set_option maxHeartbeats 800000 in
theorem nvalueOf_4 (r:Nat) (inp tr outp:ByteArray) (rd:Int) (k0 n0 v0 k1 n1 v1 k2 n2 v2 k3 n3 v3 k4 n4 v4 k5 n5 v5:Int) (w:World) (hb:Blk w r [.int .i64 k0,.int .i64 n0,.int .i64 v0,.int .i64 k1,.int .i64 n1,.int .i64 v1,.int .i64 k2,.int .i64 n2,.int .i64 v2,.int .i64 k3,.int .i64 n3,.int .i64 v3,.int .i64 k4,.int .i64 n4,.int .i64 v4,.int .i64 k5,.int .i64 n5,.int .i64 v5,.string inp,.int .i64 rd,.string tr,.string outp] 91) :
  Calls Tryz.prog 86 #[.pointer (some ⟨r,0,none⟩),.int .i64 4] w fun e w'=>e=.returned (.agg #[.int .i64 k4,.int .i64 n4,.int .i64 v4])∧Kp no w w':=by
 obtain ⟨c0,c1,c2,c3,c4,c5,c6,c7,c8,c9,c10,c11,c12,c13,c14,c15,c16,c17,c18,c19,c20,c21,cf⟩:=hb.c22
 have hr:=hb.lt
 clear hb c0 c1 c2 c3 c4 c5 c6 c7 c8 c9 c10 c11 c15 c16 c17 c18 c19 c20 c21
 go_enter Tryz.func86,Tryz.ntmps86
 go_wp2
 refine body_agg (Tb:=66) (b:=w.heap.size) (cs:=[.int .i64 k4,.int .i64 n4,.int .i64 v4]) (.inr rfl) Tryz.results86 rfl rfl (by (exact blA)) Tryz.underlying66 rfl (by kernel_rfl) ?_
 exact ⟨rfl,by (exact kpA)⟩
set_option maxHeartbeats 800000 in
theorem nvalueOf_5 (r:Nat) (inp tr outp:ByteArray) (rd:Int) (k0 n0 v0 k1 n1 v1 k2 n2 v2 k3 n3 v3 k4 n4 v4 k5 n5 v5:Int) (w:World) (hb:Blk w r [.int .i64 k0,.int .i64 n0,.int .i64 v0,.int .i64 k1,.int .i64 n1,.int .i64 v1,.int .i64 k2,.int .i64 n2,.int .i64 v2,.int .i64 k3,.int .i64 n3,.int .i64 v3,.int .i64 k4,.int .i64 n4,.int .i64 v4,.int .i64 k5,.int .i64 n5,.int .i64 v5,.string inp,.int .i64 rd,.string tr,.string outp] 91) :
  Calls Tryz.prog 86 #[.pointer (some ⟨r,0,none⟩),.int .i64 5] w fun e w'=>e=.returned (.agg #[.int .i64 k5,.int .i64 n5,.int .i64 v5])∧Kp no w w':=by
 obtain ⟨c0,c1,c2,c3,c4,c5,c6,c7,c8,c9,c10,c11,c12,c13,c14,c15,c16,c17,c18,c19,c20,c21,cf⟩:=hb.c22
 have hr:=hb.lt
 clear hb c0 c1 c2 c3 c4 c5 c6 c7 c8 c9 c10 c11 c12 c13 c14 c18 c19 c20 c21
 go_enter Tryz.func86,Tryz.ntmps86
 go_wp2
 refine body_agg (Tb:=66) (b:=w.heap.size) (cs:=[.int .i64 k5,.int .i64 n5,.int .i64 v5]) (.inr rfl) Tryz.results86 rfl rfl (by (exact blA)) Tryz.underlying66 rfl (by kernel_rfl) ?_
 exact ⟨rfl,by (exact kpA)⟩
set_option maxHeartbeats 800000 in
theorem nset_0 (r:Nat) (inp tr outp:ByteArray) (rd:Int) (k0 n0 v0 k1 n1 v1 k2 n2 v2 k3 n3 v3 k4 n4 v4 k5 n5 v5 a b c:Int) (w:World) (hb:Blk w r [.int .i64 k0,.int .i64 n0,.int .i64 v0,.int .i64 k1,.int .i64 n1,.int .i64 v1,.int .i64 k2,.int .i64 n2,.int .i64 v2,.int .i64 k3,.int .i64 n3,.int .i64 v3,.int .i64 k4,.int .i64 n4,.int .i64 v4,.int .i64 k5,.int .i64 n5,.int .i64 v5,.string inp,.int .i64 rd,.string tr,.string outp] 91) :
  Calls Tryz.prog 90 #[.pointer (some ⟨r,0,none⟩),.int .i64 0,.agg #[.int .i64 a,.int .i64 b,.int .i64 c]] w fun e w'=>e=.returned (.tuple #[])∧Blk w' r [.int .i64 a,.int .i64 b,.int .i64 c,.int .i64 k1,.int .i64 n1,.int .i64 v1,.int .i64 k2,.int .i64 n2,.int .i64 v2,.int .i64 k3,.int .i64 n3,.int .i64 v3,.int .i64 k4,.int .i64 n4,.int .i64 v4,.int .i64 k5,.int .i64 n5,.int .i64 v5,.string inp,.int .i64 rd,.string tr,.string outp] 91∧Kp (·=r) w w':=by
 have hr:=hb.lt
 go_enter Tryz.func90,Tryz.ntmps90
 go_wp2
 refine wp_gen (fun W=>Blk W r [.int .i64 k0,.int .i64 n0,.int .i64 v0,.int .i64 k1,.int .i64 n1,.int .i64 v1,.int .i64 k2,.int .i64 n2,.int .i64 v2,.int .i64 k3,.int .i64 n3,.int .i64 v3,.int .i64 k4,.int .i64 n4,.int .i64 v4,.int .i64 k5,.int .i64 n5,.int .i64 v5,.string inp,.int .i64 rd,.string tr,.string outp] 91∧Blk W w.heap.size [.int .i64 a,.int .i64 b,.int .i64 c] 66∧Kp (·=r) w W) ⟨by (exact blA),by (exact blA),by (exact kpA)⟩ ?_
 rintro W ⟨hbW,hL,kW⟩
 obtain ⟨c0,c1,c2,c3,c4,c5,c6,c7,c8,c9,c10,c11,c12,c13,c14,c15,c16,c17,c18,c19,c20,c21,cf⟩:=hbW.c22
 obtain ⟨l0,l1,l2,lf⟩:=hL.c3
 have hrW:=hbW.lt
 have hlW:=hL.lt
 clear hb c3 c4 c5 c6 c7 c8 c9 c10 c11 c12 c13 c14 c15 c16 c17 c18 c19 c20 c21
 go_region
 all_goals
  go_wp2
  go_end0
  exact ⟨rfl,by (exact blA),by (exact kpA)⟩
set_option maxHeartbeats 800000 in
theorem nset_1 (r:Nat) (inp tr outp:ByteArray) (rd:Int) (k0 n0 v0 k1 n1 v1 k2 n2 v2 k3 n3 v3 k4 n4 v4 k5 n5 v5 a b c:Int) (w:World) (hb:Blk w r [.int .i64 k0,.int .i64 n0,.int .i64 v0,.int .i64 k1,.int .i64 n1,.int .i64 v1,.int .i64 k2,.int .i64 n2,.int .i64 v2,.int .i64 k3,.int .i64 n3,.int .i64 v3,.int .i64 k4,.int .i64 n4,.int .i64 v4,.int .i64 k5,.int .i64 n5,.int .i64 v5,.string inp,.int .i64 rd,.string tr,.string outp] 91) :
  Calls Tryz.prog 90 #[.pointer (some ⟨r,0,none⟩),.int .i64 1,.agg #[.int .i64 a,.int .i64 b,.int .i64 c]] w fun e w'=>e=.returned (.tuple #[])∧Blk w' r [.int .i64 k0,.int .i64 n0,.int .i64 v0,.int .i64 a,.int .i64 b,.int .i64 c,.int .i64 k2,.int .i64 n2,.int .i64 v2,.int .i64 k3,.int .i64 n3,.int .i64 v3,.int .i64 k4,.int .i64 n4,.int .i64 v4,.int .i64 k5,.int .i64 n5,.int .i64 v5,.string inp,.int .i64 rd,.string tr,.string outp] 91∧Kp (·=r) w w':=by
 have hr:=hb.lt
 go_enter Tryz.func90,Tryz.ntmps90
 go_wp2
 refine wp_gen (fun W=>Blk W r [.int .i64 k0,.int .i64 n0,.int .i64 v0,.int .i64 k1,.int .i64 n1,.int .i64 v1,.int .i64 k2,.int .i64 n2,.int .i64 v2,.int .i64 k3,.int .i64 n3,.int .i64 v3,.int .i64 k4,.int .i64 n4,.int .i64 v4,.int .i64 k5,.int .i64 n5,.int .i64 v5,.string inp,.int .i64 rd,.string tr,.string outp] 91∧Blk W w.heap.size [.int .i64 a,.int .i64 b,.int .i64 c] 66∧Kp (·=r) w W) ⟨by (exact blA),by (exact blA),by (exact kpA)⟩ ?_
 rintro W ⟨hbW,hL,kW⟩
 obtain ⟨c0,c1,c2,c3,c4,c5,c6,c7,c8,c9,c10,c11,c12,c13,c14,c15,c16,c17,c18,c19,c20,c21,cf⟩:=hbW.c22
 obtain ⟨l0,l1,l2,lf⟩:=hL.c3
 have hrW:=hbW.lt
 have hlW:=hL.lt
 clear hb c0 c1 c2 c6 c7 c8 c9 c10 c11 c12 c13 c14 c15 c16 c17 c18 c19 c20 c21
 go_region
 all_goals
  go_wp2
  go_end0
  exact ⟨rfl,by (exact blA),by (exact kpA)⟩
set_option maxHeartbeats 800000 in
theorem nset_2 (r:Nat) (inp tr outp:ByteArray) (rd:Int) (k0 n0 v0 k1 n1 v1 k2 n2 v2 k3 n3 v3 k4 n4 v4 k5 n5 v5 a b c:Int) (w:World) (hb:Blk w r [.int .i64 k0,.int .i64 n0,.int .i64 v0,.int .i64 k1,.int .i64 n1,.int .i64 v1,.int .i64 k2,.int .i64 n2,.int .i64 v2,.int .i64 k3,.int .i64 n3,.int .i64 v3,.int .i64 k4,.int .i64 n4,.int .i64 v4,.int .i64 k5,.int .i64 n5,.int .i64 v5,.string inp,.int .i64 rd,.string tr,.string outp] 91) :
  Calls Tryz.prog 90 #[.pointer (some ⟨r,0,none⟩),.int .i64 2,.agg #[.int .i64 a,.int .i64 b,.int .i64 c]] w fun e w'=>e=.returned (.tuple #[])∧Blk w' r [.int .i64 k0,.int .i64 n0,.int .i64 v0,.int .i64 k1,.int .i64 n1,.int .i64 v1,.int .i64 a,.int .i64 b,.int .i64 c,.int .i64 k3,.int .i64 n3,.int .i64 v3,.int .i64 k4,.int .i64 n4,.int .i64 v4,.int .i64 k5,.int .i64 n5,.int .i64 v5,.string inp,.int .i64 rd,.string tr,.string outp] 91∧Kp (·=r) w w':=by
 have hr:=hb.lt
 go_enter Tryz.func90,Tryz.ntmps90
 go_wp2
 refine wp_gen (fun W=>Blk W r [.int .i64 k0,.int .i64 n0,.int .i64 v0,.int .i64 k1,.int .i64 n1,.int .i64 v1,.int .i64 k2,.int .i64 n2,.int .i64 v2,.int .i64 k3,.int .i64 n3,.int .i64 v3,.int .i64 k4,.int .i64 n4,.int .i64 v4,.int .i64 k5,.int .i64 n5,.int .i64 v5,.string inp,.int .i64 rd,.string tr,.string outp] 91∧Blk W w.heap.size [.int .i64 a,.int .i64 b,.int .i64 c] 66∧Kp (·=r) w W) ⟨by (exact blA),by (exact blA),by (exact kpA)⟩ ?_
 rintro W ⟨hbW,hL,kW⟩
 obtain ⟨c0,c1,c2,c3,c4,c5,c6,c7,c8,c9,c10,c11,c12,c13,c14,c15,c16,c17,c18,c19,c20,c21,cf⟩:=hbW.c22
 obtain ⟨l0,l1,l2,lf⟩:=hL.c3
 have hrW:=hbW.lt
 have hlW:=hL.lt
 clear hb c0 c1 c2 c3 c4 c5 c9 c10 c11 c12 c13 c14 c15 c16 c17 c18 c19 c20 c21
 go_region
 all_goals
  go_wp2
  go_end0
  exact ⟨rfl,by (exact blA),by (exact kpA)⟩
set_option maxHeartbeats 800000 in
theorem nset_3 (r:Nat) (inp tr outp:ByteArray) (rd:Int) (k0 n0 v0 k1 n1 v1 k2 n2 v2 k3 n3 v3 k4 n4 v4 k5 n5 v5 a b c:Int) (w:World) (hb:Blk w r [.int .i64 k0,.int .i64 n0,.int .i64 v0,.int .i64 k1,.int .i64 n1,.int .i64 v1,.int .i64 k2,.int .i64 n2,.int .i64 v2,.int .i64 k3,.int .i64 n3,.int .i64 v3,.int .i64 k4,.int .i64 n4,.int .i64 v4,.int .i64 k5,.int .i64 n5,.int .i64 v5,.string inp,.int .i64 rd,.string tr,.string outp] 91) :
  Calls Tryz.prog 90 #[.pointer (some ⟨r,0,none⟩),.int .i64 3,.agg #[.int .i64 a,.int .i64 b,.int .i64 c]] w fun e w'=>e=.returned (.tuple #[])∧Blk w' r [.int .i64 k0,.int .i64 n0,.int .i64 v0,.int .i64 k1,.int .i64 n1,.int .i64 v1,.int .i64 k2,.int .i64 n2,.int .i64 v2,.int .i64 a,.int .i64 b,.int .i64 c,.int .i64 k4,.int .i64 n4,.int .i64 v4,.int .i64 k5,.int .i64 n5,.int .i64 v5,.string inp,.int .i64 rd,.string tr,.string outp] 91∧Kp (·=r) w w':=by
 have hr:=hb.lt
 go_enter Tryz.func90,Tryz.ntmps90
 go_wp2
 refine wp_gen (fun W=>Blk W r [.int .i64 k0,.int .i64 n0,.int .i64 v0,.int .i64 k1,.int .i64 n1,.int .i64 v1,.int .i64 k2,.int .i64 n2,.int .i64 v2,.int .i64 k3,.int .i64 n3,.int .i64 v3,.int .i64 k4,.int .i64 n4,.int .i64 v4,.int .i64 k5,.int .i64 n5,.int .i64 v5,.string inp,.int .i64 rd,.string tr,.string outp] 91∧Blk W w.heap.size [.int .i64 a,.int .i64 b,.int .i64 c] 66∧Kp (·=r) w W) ⟨by (exact blA),by (exact blA),by (exact kpA)⟩ ?_
 rintro W ⟨hbW,hL,kW⟩
 obtain ⟨c0,c1,c2,c3,c4,c5,c6,c7,c8,c9,c10,c11,c12,c13,c14,c15,c16,c17,c18,c19,c20,c21,cf⟩:=hbW.c22
 obtain ⟨l0,l1,l2,lf⟩:=hL.c3
 have hrW:=hbW.lt
 have hlW:=hL.lt
 clear hb c0 c1 c2 c3 c4 c5 c6 c7 c8 c12 c13 c14 c15 c16 c17 c18 c19 c20 c21
 go_region
 all_goals
  go_wp2
  go_end0
  exact ⟨rfl,by (exact blA),by (exact kpA)⟩
set_option maxHeartbeats 800000 in
theorem nset_4 (r:Nat) (inp tr outp:ByteArray) (rd:Int) (k0 n0 v0 k1 n1 v1 k2 n2 v2 k3 n3 v3 k4 n4 v4 k5 n5 v5 a b c:Int) (w:World) (hb:Blk w r [.int .i64 k0,.int .i64 n0,.int .i64 v0,.int .i64 k1,.int .i64 n1,.int .i64 v1,.int .i64 k2,.int .i64 n2,.int .i64 v2,.int .i64 k3,.int .i64 n3,.int .i64 v3,.int .i64 k4,.int .i64 n4,.int .i64 v4,.int .i64 k5,.int .i64 n5,.int .i64 v5,.string inp,.int .i64 rd,.string tr,.string outp] 91) :
  Calls Tryz.prog 90 #[.pointer (some ⟨r,0,none⟩),.int .i64 4,.agg #[.int .i64 a,.int .i64 b,.int .i64 c]] w fun e w'=>e=.returned (.tuple #[])∧Blk w' r [.int .i64 k0,.int .i64 n0,.int .i64 v0,.int .i64 k1,.int .i64 n1,.int .i64 v1,.int .i64 k2,.int .i64 n2,.int .i64 v2,.int .i64 k3,.int .i64 n3,.int .i64 v3,.int .i64 a,.int .i64 b,.int .i64 c,.int .i64 k5,.int .i64 n5,.int .i64 v5,.string inp,.int .i64 rd,.string tr,.string outp] 91∧Kp (·=r) w w':=by
 have hr:=hb.lt
 go_enter Tryz.func90,Tryz.ntmps90
 go_wp2
 refine wp_gen (fun W=>Blk W r [.int .i64 k0,.int .i64 n0,.int .i64 v0,.int .i64 k1,.int .i64 n1,.int .i64 v1,.int .i64 k2,.int .i64 n2,.int .i64 v2,.int .i64 k3,.int .i64 n3,.int .i64 v3,.int .i64 k4,.int .i64 n4,.int .i64 v4,.int .i64 k5,.int .i64 n5,.int .i64 v5,.string inp,.int .i64 rd,.string tr,.string outp] 91∧Blk W w.heap.size [.int .i64 a,.int .i64 b,.int .i64 c] 66∧Kp (·=r) w W) ⟨by (exact blA),by (exact blA),by (exact kpA)⟩ ?_
 rintro W ⟨hbW,hL,kW⟩
 obtain ⟨c0,c1,c2,c3,c4,c5,c6,c7,c8,c9,c10,c11,c12,c13,c14,c15,c16,c17,c18,c19,c20,c21,cf⟩:=hbW.c22
 obtain ⟨l0,l1,l2,lf⟩:=hL.c3
 have hrW:=hbW.lt
 have hlW:=hL.lt
 clear hb c0 c1 c2 c3 c4 c5 c6 c7 c8 c9 c10 c11 c15 c16 c17 c18 c19 c20 c21
 go_region
 all_goals
  go_wp2
  go_end0
  exact ⟨rfl,by (exact blA),by (exact kpA)⟩
set_option maxHeartbeats 800000 in
theorem nset_5 (r:Nat) (inp tr outp:ByteArray) (rd:Int) (k0 n0 v0 k1 n1 v1 k2 n2 v2 k3 n3 v3 k4 n4 v4 k5 n5 v5 a b c:Int) (w:World) (hb:Blk w r [.int .i64 k0,.int .i64 n0,.int .i64 v0,.int .i64 k1,.int .i64 n1,.int .i64 v1,.int .i64 k2,.int .i64 n2,.int .i64 v2,.int .i64 k3,.int .i64 n3,.int .i64 v3,.int .i64 k4,.int .i64 n4,.int .i64 v4,.int .i64 k5,.int .i64 n5,.int .i64 v5,.string inp,.int .i64 rd,.string tr,.string outp] 91) :
  Calls Tryz.prog 90 #[.pointer (some ⟨r,0,none⟩),.int .i64 5,.agg #[.int .i64 a,.int .i64 b,.int .i64 c]] w fun e w'=>e=.returned (.tuple #[])∧Blk w' r [.int .i64 k0,.int .i64 n0,.int .i64 v0,.int .i64 k1,.int .i64 n1,.int .i64 v1,.int .i64 k2,.int .i64 n2,.int .i64 v2,.int .i64 k3,.int .i64 n3,.int .i64 v3,.int .i64 k4,.int .i64 n4,.int .i64 v4,.int .i64 a,.int .i64 b,.int .i64 c,.string inp,.int .i64 rd,.string tr,.string outp] 91∧Kp (·=r) w w':=by
 have hr:=hb.lt
 go_enter Tryz.func90,Tryz.ntmps90
 go_wp2
 refine wp_gen (fun W=>Blk W r [.int .i64 k0,.int .i64 n0,.int .i64 v0,.int .i64 k1,.int .i64 n1,.int .i64 v1,.int .i64 k2,.int .i64 n2,.int .i64 v2,.int .i64 k3,.int .i64 n3,.int .i64 v3,.int .i64 k4,.int .i64 n4,.int .i64 v4,.int .i64 k5,.int .i64 n5,.int .i64 v5,.string inp,.int .i64 rd,.string tr,.string outp] 91∧Blk W w.heap.size [.int .i64 a,.int .i64 b,.int .i64 c] 66∧Kp (·=r) w W) ⟨by (exact blA),by (exact blA),by (exact kpA)⟩ ?_
 rintro W ⟨hbW,hL,kW⟩
 obtain ⟨c0,c1,c2,c3,c4,c5,c6,c7,c8,c9,c10,c11,c12,c13,c14,c15,c16,c17,c18,c19,c20,c21,cf⟩:=hbW.c22
 obtain ⟨l0,l1,l2,lf⟩:=hL.c3
 have hrW:=hbW.lt
 have hlW:=hL.lt
 clear hb c0 c1 c2 c3 c4 c5 c6 c7 c8 c9 c10 c11 c12 c13 c14 c18 c19 c20 c21
 go_region
 all_goals
  go_wp2
  go_end0
  exact ⟨rfl,by (exact blA),by (exact kpA)⟩
end Go.Proofs.YtellieabhaphhabGreatDoor
