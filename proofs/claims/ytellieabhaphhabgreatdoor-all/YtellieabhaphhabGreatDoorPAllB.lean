import Derived.Test.YtellieabhaphhabGreatDoorPAllA
namespace Go.Proofs.YtellieabhaphhabGreatDoor
open Go.ChangeShapes Go.WideShapes Go.ChangeAt Go.RowKit Go.Deep
theorem own:ownKnob Tryz.prog.godebug=none:=by kernel_rfl
theorem gT:(Tryz.prog.globals[0]?).map (·.type)=some 202:=by kernel_rfl
theorem c20:Tryz.prog.cellsOf 202=20:=by kernel_rfl
theorem c64:Tryz.prog.cellsOf 196=1:=by kernel_rfl
theorem Kp.keptBut {W W':World} (k:Kp no W W') (S:MemPlace→Prop):W.keptBut W' S:=by
 refine ⟨k.os,k.output,fun i hi=>?_⟩
 rw [k.block i hi no_elim]
 cases W.heap[i]? with
 | none=>rfl
 | some o =>
  cases o with
  | cells c t fr=>exact ⟨rfl,rfl,rfl,fun _ _=>rfl⟩
  | map es clock=>exact .inr ⟨rfl,rfl⟩
  | _=>rfl
theorem cell_lt {W:World} {a:Addr} {v:Value} (h:W.cell? a=some v):a.block<W.heap.size:=by
 rcases Nat.lt_or_ge a.block W.heap.size with h1|h1
 ·exact h1
 ·have:W.heap[a.block]?=none:=by simp [h1]
  simp [World.cell?,this] at h
theorem cells_kp {W W':World} (k:Kp no W W') {a:Addr} (ha:a.block<W.heap.size) (n:Nat):W'.cells? 0 a n=W.cells? 0 a n:=by
 have:∀ i,W'.cell? (a.add i)=W.cell? (a.add i):=fun i=>World.cell?_of_block (by rw [add_block];exact k.block a.block ha no_elim)
 unfold World.cells?
 simp only [this]
set_option maxRecDepth 100000 in
theorem script_open {H:Type} {enc:TypeId × Value→H} {W:World} {ao:Option Addr} {len cap:Nat} {d:DataW H} {p:List MemPlace}
  (h:DataW.Trod enc Tryz.prog W 0 (fun _=>true) true 22 (.slice ao len cap) d p) :
  (len=0∨∃ (a:Addr) (O:Nat→OpV),ao=some a∧len≤maxLen∧a.block<W.heap.size∧Scr W a len O∧∀ i,i<len→OpOk (O i)) ∧
  ∀ W',Kp no W W'→∀ sp:Nat→Bool,(∀ q∈p,sp q.block=true)→DataW.Trod enc Tryz.prog W' 0 sp true 22 (.slice ao len cap) d p:=by
 obtain ⟨fuel,hf⟩:=h
 rcases open_slice Tryz.underlying22 hf with ⟨h1,h2⟩|⟨a,len',cap',m,n,D,Pl,h1,hb,hl,hm,hmm,h2,hx⟩
 ·have h1':[Value.slice ao len cap]=[.slice none 0 0]:=h1
  simp only [List.cons.injEq,Value.slice.injEq,and_true] at h1'
  obtain ⟨rfl,rfl,rfl⟩:=h1'
  simp only [Prod.mk.injEq] at h2
  obtain ⟨rfl,rfl⟩:=h2
  refine ⟨.inl rfl,fun W' _ sp _=>⟨1,?_⟩⟩
  simp [DataW.trod,Tryz.underlying22,Value.cells]
 ·have h1':[Value.slice ao len cap]=[.slice (some a) len' cap']:=h1
  simp only [List.cons.injEq,Value.slice.injEq,and_true] at h1'
  obtain ⟨rfl,rfl,rfl⟩:=h1'
  simp only [if_true] at hmm
  subst hmm
  simp only [Prod.mk.injEq] at h2
  obtain ⟨rfl,rfl⟩:=h2
  rw [opCells] at hx
  have:Inhabited OpV:=⟨⟨0,0,0,(⟨#[]⟩:ByteArray),(⟨#[]⟩:ByteArray),(⟨#[]⟩:ByteArray)⟩⟩
  obtain ⟨O,hO⟩:=choose_lt (α:=OpV) (p:=fun i o=>W.cells? 0 (a.add (i*6)) 6=some o.cells∧D i=opD o∧Pl i=[]∧OpOk o) (fun i hi=>by
   obtain ⟨cs',e1,e2⟩:=hx i hi
   obtain ⟨o,rfl,e3,e4⟩:=op_open e2
   simp only [Prod.mk.injEq] at e3
   exact ⟨o,e1,e3.1,e3.2,e4⟩)
  have hcell:∀ i,i<m→∀ j,j<6→W.cell? (a.add (i*6+j))=(O i).cells[j]?:=fun i hi j hj=>by
   have:=(World.cells?_some (hO i hi).1).2.2 j hj
   rw [Deep.add_add] at this
   exact this
  have hblk:0<m→a.block<W.heap.size:=fun h0=>by
   have:=hcell 0 h0 0 (by decide)
   have h2:=cell_lt (show W.cell? (a.add (0*6+0))=some (.int .i64 (O 0).k) from this)
   rwa [add_block] at h2
  refine ⟨?_,fun W' k sp hsp=>?_⟩
  ·rcases Nat.eq_zero_or_pos len with h0|h0
   ·exact .inl h0
   ·exact .inr ⟨a,O,rfl,by omega,hblk (by omega),fun i hi j hj=>hcell i (by omega) j hj,fun i hi=>(hO i (by omega)).2.2.2⟩
  ·rcases Nat.eq_zero_or_pos m with h0|h0
   ·subst h0
    obtain rfl:len=0:=by omega
    cases hs:sp a.block with
    | true=>exact shut_slice_whole Tryz.underlying22 hb (Nat.le_refl _) hm hs D Pl (fun i hi=>by omega)
    | false=>exact shut_slice Tryz.underlying22 hb (Nat.le_refl _) hm hs D Pl (fun i hi=>by omega)
   ·have hs:sp a.block=true:=hsp (.cell a.block (a.off+0)) (List.mem_append_left _ (List.mem_map.2 ⟨0,by rw [opCells];simp;omega,rfl⟩))
    exact shut_slice_whole Tryz.underlying22 hb hl hm hs D Pl (fun i hi=>by
     obtain ⟨e1,e2,e3,e4⟩:=hO i hi
     refine ⟨(O i).cells,2,?_,?_⟩
     ·rw [opCells,cells_kp k (by rw [add_block];exact hblk h0)]
      exact e1
     ·rw [e2,e3];exact op_shut (O i) e4)
theorem script_upto {H:Type} {enc:TypeId × Value→H} {W:World} {ao:Option Addr} {len cap:Nat} {d:DataW H} {p:List MemPlace}
  (h:DataW.Trod enc Tryz.prog W 0 (fun _=>true) true 22 (.slice ao len cap) d p) (I:World→Prop) (hI:∀ X Y,I X→Kp no X Y→I Y) (ht:I W) (lo hi:Int)
  (hp:∀ (o:OpV),OpOk o→lo≤o.k→o.k≤hi→∀ X,I X→Calls Tryz.prog 16 #[.agg #[.int .i64 o.k,.int .i64 o.b,.int .i64 o.c,.string o.s,.string o.t,.string o.u]] X fun e w'=>e=.returned (.bool true)∧Kp no X w') :
  Calls Tryz.prog 7 #[.slice ao len cap,.int .i64 lo,.int .i64 hi] W fun e w'=>e=.returned (.int .i64 (-1))∧Kp no W w':=by
 rcases (script_open h).1 with rfl|⟨a,O,rfl,hl,hb,hS,hO⟩
 ·exact upto_nil ao cap lo hi W
 ·exact lupto_c a len cap O lo hi W hl hS hb I hI ht (fun i hi' h1 h2 X hX=>hp (O i) (hO i hi') h1 h2 X hX)
end Go.Proofs.YtellieabhaphhabGreatDoor
namespace Go.Proofs.YtellieabhaphhabGreatDoor
open Go.RowKit
theorem flat_len {α:Type} (f:α→List Value) (k:Nat) (hf:∀ x,(f x).length=k) (l:List α):(l.flatMap f).length=l.length*k:=by
 induction l with
 | nil=>simp
 | cons x l ih=>simp [hf,ih,Nat.add_mul,Nat.add_comm]
theorem flat_get {α:Type} (f:α→List Value) (k:Nat) (hf:∀ x,(f x).length=k):∀ (l:List α) (i j:Nat) (hi:i<l.length),j<k→(l.flatMap f)[i*k+j]?=(f l[i])[j]?:=by
 intro l
 induction l with
 | nil=>intro i j hi;simp at hi
 | cons x l ih =>
  intro i j hi hj
  rw [List.flatMap_cons]
  cases i with
  | zero=>rw [List.getElem?_append_left (by rw [hf];omega)];simp
  | succ i =>
   have e:(i+1)*k+j=(f x).length+(i*k+j):=by rw [hf,Nat.add_mul];omega
   rw [e,List.getElem?_append_right (by omega)]
   have e2:(f x).length+(i*k+j)-(f x).length=i*k+j:=by omega
   rw [e2]
   exact ih i j (by simpa using hi) hj
theorem flat_set {α:Type} (f:α→List Value) (k:Nat) (hf:∀ x,(f x).length=k) (m:α→α) (j:Nat) (v:Value) (hj:j<k) (hm:∀ x,f (m x)=(f x).set j v):∀ (l:List α) (i:Nat),i<l.length→(l.flatMap f).set (i*k+j) v=(l.modify i m).flatMap f:=by
 intro l
 induction l with
 | nil=>intro i hi;simp at hi
 | cons x l ih =>
  intro i hi
  rw [List.flatMap_cons]
  cases i with
  | zero =>
   rw [List.modify_zero_cons,List.flatMap_cons,hm]
   rw [List.set_append_left _ _ (by rw [hf];omega)]
   simp
  | succ i =>
   have e:(i+1)*k+j=(f x).length+(i*k+j):=by rw [hf,Nat.add_mul];omega
   rw [List.modify_succ_cons,List.flatMap_cons,e,List.set_append_right _ _ (by omega)]
   have e2:(f x).length+(i*k+j)-(f x).length=i*k+j:=by omega
   rw [e2,ih i (by simpa using hi)]
theorem Row.cell {w:World} {g n cap size:Nat} {e:TypeId} {xs:List Value} (h:Row w (.slice (some ⟨g,0,none⟩) n cap) e size n xs) (j:Nat) (hj:j<n*size):w.cell? ⟨g,j,none⟩=xs[j]?:=by
 rcases h.2 with ⟨h0,_⟩|⟨g',cap',cur,hv,_,hg,hnc,_,hs,ht⟩
 ·cases h0
 ·simp only [Value.slice.injEq,Option.some.injEq,Addr.mk.injEq] at hv
  obtain ⟨⟨rfl,_⟩,_,rfl⟩:=hv
  rw [cell_of_row w g j cur e (0,0) hg,← ht,List.getElem?_take,if_pos hj]
  simp
theorem Row.frozen {w:World} {g n cap size:Nat} {e:TypeId} {xs:List Value} (h:Row w (.slice (some ⟨g,0,none⟩) n cap) e size n xs) (j:Nat):w.frozen? ⟨g,j,none⟩=false:=by
 rcases h.2 with ⟨h0,_⟩|⟨g',cap',cur,hv,_,hg,hnc,_,hs,ht⟩
 ·cases h0
 ·simp only [Value.slice.injEq,Option.some.injEq,Addr.mk.injEq] at hv
  obtain ⟨⟨rfl,_⟩,_,rfl⟩:=hv
  simp [World.frozen?,hg]
theorem Row.cap {w:World} {g n cap size:Nat} {e:TypeId} {xs:List Value} (h:Row w (.slice (some ⟨g,0,none⟩) n cap) e size n xs):n≤cap∧cap≤maxLen:=by
 rcases h.2 with ⟨h0,_⟩|⟨g',cap',cur,hv,_,hg,hnc,hm,hs,ht⟩
 ·cases h0
 ·simp only [Value.slice.injEq,Option.some.injEq,Addr.mk.injEq] at hv
  obtain ⟨⟨rfl,_⟩,_,rfl⟩:=hv
  exact ⟨hnc,hm⟩
theorem Row.setIn {w:World} {g n cap size:Nat} {e:TypeId} {xs:List Value} (h:Row w (.slice (some ⟨g,0,none⟩) n cap) e size n xs) (j:Nat) (u:Value) :
  Row (w.setCell ⟨g,j,none⟩ u) (.slice (some ⟨g,0,none⟩) n cap) e size n (xs.set j u):=by
 refine ⟨by rw [List.length_set];exact h.1,?_⟩
 rcases h.2 with ⟨h0,_⟩|⟨g',cap',cur,hv,hb,hg,hnc,hm,hs,ht⟩
 ·cases h0
 ·simp only [Value.slice.injEq,Option.some.injEq,Addr.mk.injEq] at hv
  obtain ⟨⟨rfl,_⟩,_,rfl⟩:=hv
  refine .inr ⟨g,cap,cur.setIfInBounds j u,rfl,hb,?_,hnc,hm,by simpa using hs,?_⟩
  ·simp [World.setCell,Array.getElem?_modify,hg]
  ·rw [Array.toList_setIfInBounds,← ht,List.take_set]
end Go.Proofs.YtellieabhaphhabGreatDoor
namespace Go.Proofs.YtellieabhaphhabGreatDoor
open Go.RowKit
theorem it4 (x:It):x.cells.length=4:=rfl
theorem nd9 (x:Nd):x.cells.length=9:=rfl
theorem item_cell {w:World} {g cap:Nat} {l:List It} (h:Row w (.slice (some ⟨g,0,none⟩) l.length cap) 153 4 l.length (iCells l)) (i j:Nat) (hi:i<l.length) (hj:j<4):w.cell? ⟨g,i*4+j,none⟩=l[i].cells[j]?:=by
 rw [h.cell _ (by have:=Nat.mul_le_mul_right 4 hi;omega)]
 exact flat_get It.cells 4 it4 l i j hi hj
theorem Went.drew {w w':World} {O:Nat→Prop} {r:Nat} {s:ByteArray} {st:RS} (h:Went w O r s st w'):Went w O r s st w'.drew :=
 let ⟨O',h1,h2,h3⟩:=h
 ⟨O',h1,h2.drew,h3⟩
theorem went_item {w:World} {r:Nat} {s:ByteArray} {st:RS} {nv:Value} {g cap i j:Nat} {u:Value} {m:It→It}
  (hB:RB w r s (st.i,st.bad) nv (.slice (some ⟨g,0,none⟩) st.items.length cap) st.loops) (hN:Row w nv 111 9 st.nodes.length (nCells st.nodes))
  (hI:Row w (.slice (some ⟨g,0,none⟩) st.items.length cap) 153 4 st.items.length (iCells st.items))
  (d1:nv.ownBlock≠some r) (d2:Value.ownBlock (.slice (some ⟨g,0,none⟩) st.items.length cap)≠some r) (d3:∀ b,nv.ownBlock=some b→Value.ownBlock (.slice (some ⟨g,0,none⟩) st.items.length cap)≠some b)
  (hi:i<st.items.length) (hj:j<4) (hm:∀ x,(m x).cells=x.cells.set j u) :
  Went w (Own r nv (.slice (some ⟨g,0,none⟩) st.items.length cap)) r s { st with items:=st.items.modify i m } (w.setCell ⟨g,i*4+j,none⟩ u):=by
 have hg:r≠g:=fun e=>d2 (by simp [Value.ownBlock,e])
 refine ⟨_,⟨nv,.slice (some ⟨g,0,none⟩) st.items.length cap,?_,?_,?_,d1,d2,d3,rfl⟩,?_,fun b h _=>h⟩
 ·exact Blk.other hB _ hg
 ·exact Row.set hN _ (fun e=>d3 g e rfl)
 ·show Row _ _ _ _ (st.items.modify i m).length (iCells (st.items.modify i m))
  rw [List.length_modify,iCells,← flat_set It.cells 4 it4 m j u hj hm st.items i hi]
  exact hI.setIn _ _
 ·exact (Kp.refl _ _).setCell _ (fun _=>.inr (.inr rfl))
set_option maxHeartbeats 1600000 in
theorem ends_c (r:Nat) (s:ByteArray) (st:RS) (O:Nat→Prop) (i:Nat) (w:World) (hn:st.items.length≤1000) (hi:i<st.items.length) (h:Rp w r s st O) :
  Calls Tryz.prog 159 #[.pointer (some ⟨r,0,none⟩),.int .i64 i] w fun e w' =>
   e=.returned (.tuple #[])∧Went w O r s { st with items:=st.items.modify i (fun x=>{ x with en:=st.items.length }) } w':=by
 obtain ⟨nv,iv,hB,hN,hI,d1,d2,d3,rfl⟩:=h
 have hr:=hB.lt
 have hb:Blk w r [.string s,.int .i64 st.i,.bool st.bad,nv,iv,.int .i64 st.loops] 105:=hB
 obtain ⟨g,cap,rfl,_,hg⟩:=World.ownsRow.form hI (by omega)
 have q4:=hb.cell 4
 simp only [List.getElem?_cons_zero,List.getElem?_cons_succ] at q4
 have qf:=hb.frozen
 have c3:=item_cell hI i 3 hi (by decide)
 simp only [It.cells,List.getElem?_cons_zero,List.getElem?_cons_succ] at c3
 have cf:=hI.frozen
 have HW:=hide (went_item (u:=.int .i64 st.items.length) (m:=fun x=>{ x with en:=st.items.length }) (j:=3) hB hN hI d1 d2 d3 hi (by decide) (fun x=>rfl))
 go_enter Tryz.func159,Tryz.ntmps159
 go_wp2
 go_region
 all_goals
  go_wp2
  go_end0
  exact ⟨rfl,HW.out.drew⟩
end Go.Proofs.YtellieabhaphhabGreatDoor
namespace Go.Proofs.YtellieabhaphhabGreatDoor
open Go.RowKit
def Th (O:Nat→Prop) (w:World) (O':Nat→Prop) (w':World):Prop:=Kp O w w'∧∀ b,O' b→b<w.heap.size→O b
theorem Th.refl (O:Nat→Prop) (w:World):Th O w O w:=⟨Kp.refl _ _,fun _ h _=>h⟩
theorem Th.trans {O O1 O2:Nat→Prop} {w w1 w2:World} (h:Th O w O1 w1) (k:Th O1 w1 O2 w2):Th O w O2 w2 :=
 ⟨h.1.trans k.1 (fun x hx e=>h.2 x e hx),fun b hb hl=>h.2 b (k.2 b hb (Nat.lt_of_lt_of_le hl h.1.size)) hl⟩
theorem Th.n {O O1:Nat→Prop} {w w1:World} (h:Th O w O1 w1) (n:Nat):Th O w O1 (w1.drewN n):=⟨h.1.drewN n,h.2⟩
theorem Th.drew {O O1:Nat→Prop} {w w1:World} (h:Th O w O1 w1):Th O w O1 w1.drew:=⟨h.1.drew,h.2⟩
theorem Th.alloc {O O1:Nat→Prop} {w w1:World} (h:Th O w O1 w1) (o:Obj):Th O w O1 (w1.alloc o):=⟨h.1.alloc o,h.2⟩
theorem Th.set {O O1:Nat→Prop} {w w1:World} (h:Th O w O1 w1) {a:Addr} (v:Value) (ha:O1 a.block∨w.heap.size≤a.block):Th O w O1 (w1.setCell a v) :=
 ⟨h.1.setCell v (fun hl=>by rcases ha with ha|ha;exact h.2 _ ha hl;omega),h.2⟩
theorem went_th {w w':World} {O O':Nat→Prop} {r:Nat} {s:ByteArray} {st:RS} (h:Rp w' r s st O') (k:Th O w O' w'):Went w O r s st w':=⟨O',h,k⟩
section
variable {w:World} {r:Nat} {s:ByteArray} {st:RS} {O:Nat→Prop}
theorem Rp.n (h:Rp w r s st O) (n:Nat):Rp (w.drewN n) r s st O:=h
theorem Rp.drew (h:Rp w r s st O):Rp w.drew r s st O:=h
theorem Rp.own (h:Rp w r s st O):O r:=by
 obtain ⟨nv,iv,hB,hN,hI,d1,d2,d3,rfl⟩:=h;exact .inl rfl
theorem Rp.lt (h:Rp w r s st O):∀ b,O b→b<w.heap.size:=by
 obtain ⟨nv,iv,hB,hN,hI,d1,d2,d3,rfl⟩:=h
 rintro b (h|h|h)
 ·subst h;exact hB.lt
 ·exact hN.lt h
 ·exact hI.lt h
theorem Rp.c (h:Rp w r s st O):w.cell? ⟨r,0,none⟩=some (.string s)∧w.cell? ⟨r,1,none⟩=some (.int .i64 st.i)∧w.cell? ⟨r,2,none⟩=some (.bool st.bad) ∧
  w.cell? ⟨r,5,none⟩=some (.int .i64 st.loops)∧∀ o,w.frozen? ⟨r,o,none⟩=false:=by
 obtain ⟨nv,iv,hB,hN,hI,d1,d2,d3,rfl⟩:=h
 exact ⟨Blk.cell hB 0,Blk.cell hB 1,Blk.cell hB 2,Blk.cell hB 5,Blk.frozen hB⟩
theorem Rp.alloc (h:Rp w r s st O) (o:Obj):Rp (w.alloc o) r s st O:=by
 obtain ⟨nv,iv,hB,hN,hI,d1,d2,d3,rfl⟩:=h
 exact ⟨nv,iv,Blk.alloc hB o,hN.alloc o,hI.alloc o,d1,d2,d3,rfl⟩
theorem Rp.other (h:Rp w r s st O) {b o:Nat} (v:Value) (hb:¬ O b):Rp (w.setCell ⟨b,o,none⟩ v) r s st O:=by
 obtain ⟨nv,iv,hB,hN,hI,d1,d2,d3,rfl⟩:=h
 exact ⟨nv,iv,Blk.other hB v (fun e=>hb (.inl e.symm)),hN.set v (fun e=>hb (.inr (.inl e))),hI.set v (fun e=>hb (.inr (.inr e))),d1,d2,d3,rfl⟩
theorem Rp.next (h:Rp w r s st O):Rp (w.setCell ⟨r,1,none⟩ (.int .i64 (st.i+1))) r s { st with i:=st.i+1 } O:=by
 obtain ⟨nv,iv,hB,hN,hI,d1,d2,d3,rfl⟩:=h
 exact ⟨nv,iv,Blk.set hB 1 _,hN.set _ d1,hI.set _ d2,d1,d2,d3,rfl⟩
theorem Rp.setBad (h:Rp w r s st O):Rp (w.setCell ⟨r,2,none⟩ (.bool true)) r s { st with bad:=true } O:=by
 obtain ⟨nv,iv,hB,hN,hI,d1,d2,d3,rfl⟩:=h
 exact ⟨nv,iv,Blk.set hB 2 _,hN.set _ d1,hI.set _ d2,d1,d2,d3,rfl⟩
theorem Rp.setLoops (h:Rp w r s st O) (l:Nat):Rp (w.setCell ⟨r,5,none⟩ (.int .i64 l)) r s { st with loops:=l } O:=by
 obtain ⟨nv,iv,hB,hN,hI,d1,d2,d3,rfl⟩:=h
 exact ⟨nv,iv,Blk.set hB 5 _,hN.set _ d1,hI.set _ d2,d1,d2,d3,rfl⟩
theorem peek_w (h:Rp w r s st O):Calls Tryz.prog 135 #[.pointer (some ⟨r,0,none⟩)] w fun e w'=>e=.returned (.int .u8 (pk s st.i))∧∃ n,w'=w.drewN n:=by
 obtain ⟨nv,iv,hB,hN,hI,d1,d2,d3,rfl⟩:=h
 exact peek_c r st.i s st.bad nv iv st.loops w hB
theorem went_rb {w':World} {nv iv:Value} {p:Nat × Bool} (hN:Row w nv 111 9 st.nodes.length (nCells st.nodes)) (hI:Row w iv 153 4 st.items.length (iCells st.items))
  (d1:nv.ownBlock≠some r) (d2:iv.ownBlock≠some r) (d3:∀ b,nv.ownBlock=some b→iv.ownBlock≠some b)
  (hB':RB w' r s p nv iv st.loops) (hk:Kp (·=r) w w'):Went w (Own r nv iv) r s { st with i:=p.1,bad:=p.2 } w' :=
 ⟨_,⟨nv,iv,hB',hk.row hN (fun b hb e=>d1 (by rw [hb,e])),hk.row hI (fun b hb e=>d2 (by rw [hb,e])),d1,d2,d3,rfl⟩,hk.mono (fun _ e=>.inl e),fun _ h _=>h⟩
theorem eat_w (h:Rp w r s st O) (c:Nat) (hs:s.size≤1000) (hi:st.i≤s.size) :
  Calls Tryz.prog 142 #[.pointer (some ⟨r,0,none⟩),.int .u8 c] w fun e w'=>e=.returned (.tuple #[])∧Went w O r s { st with i:=(eatF s (st.i,st.bad) c).1,bad:=(eatF s (st.i,st.bad) c).2 } w':=by
 obtain ⟨nv,iv,hB,hN,hI,d1,d2,d3,rfl⟩:=h
 exact (eat_c r st.i c s st.bad nv iv st.loops w hs hi hB).mono fun e w' ⟨h1,h2,h3⟩=>⟨h1,went_rb hN hI d1 d2 d3 h2 h3⟩
theorem test_w (h:Rp w r s st O) (hb:st.bad=false) (hs:s.size≤1000) (hi:st.i≤s.size) :
  Calls Tryz.prog 139 #[.pointer (some ⟨r,0,none⟩)] w fun e w'=>e=.returned (.agg (testF s st.i).1.cells.toArray)∧Went w O r s { st with i:=(testF s st.i).2.1,bad:=(testF s st.i).2.2 } w':=by
 obtain ⟨nv,iv,hB,hN,hI,d1,d2,d3,rfl⟩:=h
 rw [hb] at hB
 exact (test_c r st.i s nv iv st.loops w hs hi hB).mono fun e w' ⟨h1,h2,h3⟩=>⟨h1,went_rb hN hI d1 d2 d3 h2 h3⟩
theorem simple_w (h:Rp w r s st O) (hb:st.bad=false) (hs:s.size≤1000) (hi:st.i≤s.size) :
  Calls Tryz.prog 140 #[.pointer (some ⟨r,0,none⟩)] w fun e w'=>e=.returned (.agg (simpF s st.i).1.cells.toArray)∧Went w O r s { st with i:=(simpF s st.i).2.1,bad:=(simpF s st.i).2.2 } w':=by
 obtain ⟨nv,iv,hB,hN,hI,d1,d2,d3,rfl⟩:=h
 rw [hb] at hB
 exact (simple_c r st.i s nv iv st.loops w hs hi hB).mono fun e w' ⟨h1,h2,h3⟩=>⟨h1,went_rb hN hI d1 d2 d3 h2 h3⟩
end
def endAt (st:RS) (k:Nat):RS:={ st with items:=st.items.modify k (fun x=>{ x with en:=st.items.length }) }
def condT (s:ByteArray) (st:RS):RS :=
 endAt { st with i:=(testF s st.i).2.1,bad:=(testF s st.i).2.2,nodes:=st.nodes++[(testF s st.i).1],items:=st.items++[⟨99,st.nodes.length,0,0⟩] } st.items.length
def isOp (c:Nat):Bool:=c == 33 || c == 38 || c == 124
def condF:Nat→ByteArray→RS→RS
 | 0,_,st=>st
 | f+1,s,st =>
  if isOp (pk s st.i) then
   let st2:=condF f s { st with i:=st.i+1,items:=st.items++[⟨pk s st.i,0,0,0⟩] }
   let st3:=if (pk s st.i != 33 && !st2.bad) then condF f s st2 else st2
   endAt st3 st.items.length
  else condT s st
theorem varF_ge (s:ByteArray) (p:Nat × Bool):p.1≤(varF s p).2.1∧((varF s p).2.2=false→p.1<(varF s p).2.1):=by
 unfold varF;split
 ·exact ⟨Nat.le_refl _,by simp⟩
 ·exact ⟨Nat.le_succ _,fun _=>Nat.lt_succ_self _⟩
theorem kindF_ge (s:ByteArray) (p:Nat × Bool):p.1≤(kindF s p).2.1∧((kindF s p).2.2=false→p.1<(kindF s p).2.1):=by
 unfold kindF;split
 ·exact ⟨Nat.le_refl _,by simp⟩
 ·exact ⟨Nat.le_succ _,fun _=>Nat.lt_succ_self _⟩
theorem eatF_ge (s:ByteArray) (p:Nat × Bool) (c:Nat):p.1≤(eatF s p c).1∧((eatF s p c).2=false→p.1<(eatF s p c).1∧p.2=false):=by
 unfold eatF;split
 ·exact ⟨Nat.le_refl _,by simp⟩
 ·rename_i h;exact ⟨Nat.le_succ _,fun _=>⟨Nat.lt_succ_self _,by simp at h;exact h.1⟩⟩
theorem testF_ge (s:ByteArray) (i:Nat):i≤(testF s i).2.1∧((testF s i).2.2=false→i<(testF s i).2.1):=by
 have h1:=varF_ge s (i,false)
 unfold testF;split
 ·have h2:=kindF_ge s ((varF s (i,false)).2.1+1,false)
  simp only at h1 h2 ⊢
  exact ⟨by omega,fun h=>by omega⟩
 ·exact h1
structure Inv (s:ByteArray) (st:RS):Prop where
 i:st.i≤s.size
 n:st.nodes.length≤st.i+cond st.bad 1 0
 t:st.items.length≤st.i+cond st.bad 1 0
 lp:st.loops≤st.i
structure Mono (st st':RS):Prop where
 i:st.i≤st'.i
 n:st.nodes.length≤st'.nodes.length
 t:st.items.length≤st'.items.length
theorem Mono.refl (st:RS):Mono st st:=⟨Nat.le_refl _,Nat.le_refl _,Nat.le_refl _⟩
theorem Mono.trans {a b c:RS} (h:Mono a b) (k:Mono b c):Mono a c:=⟨Nat.le_trans h.i k.i,Nat.le_trans h.n k.n,Nat.le_trans h.t k.t⟩
theorem condT_inv (s:ByteArray) (st:RS) (hb:st.bad=false) (h:Inv s st):Inv s (condT s st)∧Mono st (condT s st)∧st.items.length<(condT s st).items.length∧((condT s st).bad=false→st.i<(condT s st).i):=by
 have h1:=testF_ge s st.i
 have h2:=testF_le s st.i h.i
 have hn:=h.n;have ht:=h.t
 rw [hb] at hn ht
 simp only [cond_false,Nat.add_zero] at hn ht
 refine ⟨⟨h2,?_,?_,Nat.le_trans h.lp h1.1⟩,⟨h1.1,?_,?_⟩,?_,h1.2⟩
 ·simp only [condT,endAt,List.length_append,List.length_singleton]
  cases hq:(testF s st.i).2.2
  ·have:=h1.2 hq;simp;omega
  ·simp;omega
 ·simp only [condT,endAt,List.length_modify,List.length_append,List.length_singleton]
  cases hq:(testF s st.i).2.2
  ·have:=h1.2 hq;simp;omega
  ·simp;omega
 ·simp [condT,endAt]
 ·simp [condT,endAt]
 ·simp [condT,endAt]
theorem isOp_in {s:ByteArray} {i:Nat} (h:isOp (pk s i)=true):i<s.size:=pk_in s i (fun e=>by rw [e] at h;simp [isOp] at h)
theorem condF_inv:∀ (f:Nat) (s:ByteArray) (st:RS),s.size-st.i<f→st.bad=false→Inv s st →
  Inv s (condF f s st)∧Mono st (condF f s st)∧st.items.length<(condF f s st).items.length∧((condF f s st).bad=false→st.i<(condF f s st).i):=by
 intro f
 induction f with
 | zero=>intro s st h;omega
 | succ f ih =>
  intro s st hf hb h
  unfold condF
  split
  ·rename_i hop
   have hin:=isOp_in hop
   have hn:=h.n;have ht:=h.t
   rw [hb] at hn ht
   simp only [cond_false,Nat.add_zero] at hn ht
   have hI1:Inv s { st with i:=st.i+1,items:=st.items++[⟨pk s st.i,0,0,0⟩] }:=⟨by simp only [];omega,by simp only [hb,cond_false];omega,by simp only [hb,cond_false,List.length_append,List.length_singleton];omega,Nat.le_succ_of_le h.lp⟩
   obtain ⟨a1,a2,a3,a4⟩:=ih s { st with i:=st.i+1,items:=st.items++[⟨pk s st.i,0,0,0⟩] } (by simp only [];omega) hb hI1
   generalize condF f s { st with i:=st.i+1,items:=st.items++[⟨pk s st.i,0,0,0⟩] }=st2 at *
   have hm2:Mono st st2:=⟨by have:=a2.i;simp only at this;omega,a2.n,by have:=a2.t;simp only [List.length_append,List.length_singleton] at this;omega⟩
   have hi2:st.i<st2.i:=by have:=a2.i;simp only at this;omega
   have key:∀ st3,Inv s st3→Mono st2 st3→Inv s (endAt st3 st.items.length)∧Mono st (endAt st3 st.items.length)∧st.items.length<(endAt st3 st.items.length).items.length∧((endAt st3 st.items.length).bad=false→st.i<(endAt st3 st.items.length).i):=by
    intro st3 b1 b2
    have:=b2.t
    simp only [List.length_append,List.length_singleton] at a3
    refine ⟨⟨b1.i,b1.n,by simpa [endAt] using b1.t,b1.lp⟩,?_,?_,fun _=>?_⟩
    ·have:=hm2.trans b2
     exact ⟨this.i,this.n,by simpa [endAt] using this.t⟩
    ·simp only [endAt,List.length_modify];omega
    ·have:=b2.i;simp only [endAt];omega
   simp only []
   split
   ·rename_i hq
    simp only [Bool.and_eq_true,Bool.not_eq_true',bne_iff_ne] at hq
    obtain ⟨b1,b2,_,_⟩:=ih s st2 (by omega) hq.2 a1
    exact key _ b1 b2
   ·exact key _ a1 (Mono.refl _)
  ·exact condT_inv s st hb h
end Go.Proofs.YtellieabhaphhabGreatDoor
namespace Go.Proofs.YtellieabhaphhabGreatDoor
open Go.RowKit
set_option maxHeartbeats 1600000 in
theorem cond_test {w:World} {r:Nat} {s:ByteArray} {st:RS} {O:Nat→Prop} (hs:s.size≤900) (h:Rp w r s st O) (hb:st.bad=false) (hI:Inv s st) (hop:isOp (pk s st.i)=false) :
  Calls Tryz.prog 168 #[.pointer (some ⟨r,0,none⟩)] w fun e w'=>e=.returned (.tuple #[])∧Went w O r s (condT s st) w':=by
 have hn:=hI.n;have ht:=hI.t;have hi:=hI.i
 rw [hb] at hn ht
 simp only [cond_false,Nat.add_zero] at hn ht
 have hO:=h.lt
 simp only [isOp,Bool.or_eq_false_iff] at hop
 obtain ⟨⟨e1,e2⟩,e3⟩:=hop
 have f1:((pk s st.i:Int) == 33)=false:=by simp at e1 ⊢;omega
 have f2:((pk s st.i:Int) == 38)=false:=by simp at e2 ⊢;omega
 have f3:((pk s st.i:Int) == 124)=false:=by simp at e3 ⊢;omega
 clear e1 e2 e3
 have HP:=hide (peek_w h)
 generalize pk s st.i=d at HP f1 f2 f3
 go_enter Tryz.func168,Tryz.ntmps168
 go_wp2_with fail
 refine HP.out.mono ?_
 rintro e w1 ⟨rfl,nq,rfl⟩
 go_wp2_with fail
 refine (test_w (h.n nq) hb (by omega) hi).mono ?_
 rintro e w1 ⟨rfl,O1,h1,t1⟩
 have T1:Th O w O1 w1:=(((Th.refl O w).n nq).trans t1)
 have hO1:∀ b,O1 b→b<w1.heap.size:=h1.lt
 generalize hq:testF s st.i=q at *
 obtain ⟨⟨uo,ux,uy,uv,uk,ut,uf,ua,ul⟩,qi,qb⟩:=q
 simp only [Nd.cells]
 go_wp2_with fail
 refine (add_c r s _ O1 ⟨uo,ux,uy,uv,uk,ut,uf,ua,ul⟩ _ (by simp only [];omega) (h1.alloc _)).mono ?_
 rintro e w2 ⟨rfl,O2,h2,t2⟩
 have T2:Th O w O2 w2:=(T1.alloc _).trans t2
 go_wp2_with fail
 refine (item_c r s _ O2 99 st.nodes.length _ (by simp only [];omega) h2).mono ?_
 rintro e w3 ⟨rfl,O3,h3,t3⟩
 go_wp2_with fail
 refine (ends_c r s _ O3 st.items.length _ (by simp only [List.length_append,List.length_singleton];omega) (by simp) h3).mono ?_
 rintro e w4 ⟨rfl,O4,h4,t4⟩
 go_wp2
 go_end0
 refine ⟨rfl,went_th (O':=O4) ?_ ((T2.trans t3).trans t4)⟩
 simp only [condT,hq]
 exact h4
def CondSaid (f:Nat):Prop:=∀ (w:World) (r:Nat) (s:ByteArray) (st:RS) (O:Nat→Prop),s.size≤900→s.size-st.i<f→Rp w r s st O→st.bad=false→Inv s st →
  Calls Tryz.prog 168 #[.pointer (some ⟨r,0,none⟩)] w fun e w'=>e=.returned (.tuple #[])∧Went w O r s (condF f s st) w'
set_option maxHeartbeats 1600000 in
theorem cond_op {f:Nat} (ih:CondSaid f) {w:World} {r:Nat} {s:ByteArray} {st:RS} {O:Nat→Prop} (hs:s.size≤900) (hf:s.size-st.i<f+1) (h:Rp w r s st O) (hb:st.bad=false) (hI:Inv s st) (hop:isOp (pk s st.i)=true) :
  Calls Tryz.prog 168 #[.pointer (some ⟨r,0,none⟩)] w fun e w'=>e=.returned (.tuple #[])∧Went w O r s (condF (f+1) s st) w':=by
 have hin:=isOp_in hop
 have hn:=hI.n;have ht:=hI.t;have hi:=hI.i
 rw [hb] at hn ht
 simp only [cond_false,Nat.add_zero] at hn ht
 have hI1:Inv s { st with i:=st.i+1,items:=st.items++[⟨pk s st.i,0,0,0⟩] }:=⟨by simp only [];omega,by simp only [hb,cond_false];omega,by simp only [hb,cond_false,List.length_append,List.length_singleton];omega,Nat.le_succ_of_le hI.lp⟩
 obtain ⟨a1,a2,a3,a4⟩:=condF_inv f s { st with i:=st.i+1,items:=st.items++[⟨pk s st.i,0,0,0⟩] } (by simp only [];omega) hb hI1
 have HC:=hide (fun W O'=>ih W r s { st with i:=st.i+1,items:=st.items++[⟨pk s st.i,0,0,0⟩] } O' hs (by simp only [];omega))
 have HE:Hid (condF (f+1) s st=endAt (if (pk s st.i != 33 && !(condF f s { st with i:=st.i+1,items:=st.items++[⟨pk s st.i,0,0,0⟩] }).bad) then condF f s (condF f s { st with i:=st.i+1,items:=st.items++[⟨pk s st.i,0,0,0⟩] }) else condF f s { st with i:=st.i+1,items:=st.items++[⟨pk s st.i,0,0,0⟩] }) st.items.length):=by
  show _=_
  rw [condF];simp only [hop,if_true]
 have HP:=hide (peek_w h)
 have HI1:=hide hI1
 clear hI1
 generalize condF f s { st with i:=st.i+1,items:=st.items++[⟨pk s st.i,0,0,0⟩] }=st2 at *
 generalize pk s st.i=d at *
 have a2i:=a2.i;have a2t:=a2.t
 have A1:=hide a1
 clear a1 a4 a2 hI
 simp only [List.length_append,List.length_singleton] at a2i a2t a3
 have hd:d=33∨d=38∨d=124:=by simp only [isOp,Bool.or_eq_true,beq_iff_eq] at hop;omega
 clear hop
 go_enter Tryz.func168,Tryz.ntmps168
 go_wp2_with fail
 refine HP.out.mono ?_
 rintro e w1 ⟨rfl,nq,rfl⟩
 rcases hd with rfl|rfl|rfl
 all_goals
  go_wp2_with fail
  refine (item_c r s st O _ 0 _ (by omega) (h.n nq)).mono ?_
  rintro e w1 ⟨rfl,O1,h1,t1⟩
  obtain ⟨c0,c1,c2,_,cf⟩:=h1.c
  dsimp only at c1 c2
  go_wp2_with fail
  refine (HC.out _ O1 h1.next hb HI1.out).mono ?_
  rintro e w2 ⟨rfl,O2,h2,t2⟩
  have T2:=hide ((((Th.refl O w).n nq).trans t1 |>.set _ (.inl h1.own)).trans t2)
  obtain ⟨k0,k1,k2,_,kf⟩:=h2.c
  have n2:=A1.out.t
  have n3:=A1.out.i
  have n4:cond st2.bad 1 0≤1:=by cases st2.bad <;> simp
 ·skip
  ·skip
   go_wp2_with fail
   refine (ends_c r s st2 O2 st.items.length _ (by omega) (by omega) h2).mono ?_
   rintro e w4 ⟨rfl,O4,h4,t4⟩
   go_wp2
   refine bodyPost_ret (results_none rfl _ _ _) rfl ?_
   refine ⟨rfl,went_th (O':=O4) ?_ (T2.out.trans t4)⟩
   rw [HE.out,if_neg (by simp)]
   exact h4
 ·skip
  cases hb2:st2.bad
  ·rw [hb2] at k2
   have a22:=condF_inv f s st2 (by omega) hb2 A1.out
   have H3:=hide (ih _ r s st2 O2 hs (by omega) h2 hb2 A1.out)
   generalize condF f s st2=st3 at *
   have b1:=a22.2.1.t
   have b2:=a22.1.t
   have b3:=a22.1.i
   have b4:cond st3.bad 1 0≤1:=by cases st3.bad <;> simp
   clear a22
   go_wp2_with fail
   refine H3.out.mono ?_
   rintro e w3 ⟨rfl,O3,h3,t3⟩
   go_wp2_with fail
   refine (ends_c r s st3 O3 st.items.length _ (by omega) (by omega) h3).mono ?_
   rintro e w4 ⟨rfl,O4,h4,t4⟩
   go_wp2
   refine bodyPost_ret (results_none rfl _ _ _) rfl ?_
   refine ⟨rfl,went_th (O':=O4) ?_ ((T2.out.trans t3).trans t4)⟩
   rw [HE.out,if_pos (by simp [hb2])]
   exact h4
  ·rw [hb2] at k2
   go_wp2_with fail
   refine (ends_c r s st2 O2 st.items.length _ (by omega) (by omega) h2).mono ?_
   rintro e w4 ⟨rfl,O4,h4,t4⟩
   go_wp2
   refine bodyPost_ret (results_none rfl _ _ _) rfl ?_
   refine ⟨rfl,went_th (O':=O4) ?_ (T2.out.trans t4)⟩
   rw [HE.out,if_neg (by simp [hb2])]
   exact h4
 ·skip
  cases hb2:st2.bad
  ·rw [hb2] at k2
   have a22:=condF_inv f s st2 (by omega) hb2 A1.out
   have H3:=hide (ih _ r s st2 O2 hs (by omega) h2 hb2 A1.out)
   generalize condF f s st2=st3 at *
   have b1:=a22.2.1.t
   have b2:=a22.1.t
   have b3:=a22.1.i
   have b4:cond st3.bad 1 0≤1:=by cases st3.bad <;> simp
   clear a22
   go_wp2_with fail
   refine H3.out.mono ?_
   rintro e w3 ⟨rfl,O3,h3,t3⟩
   go_wp2_with fail
   refine (ends_c r s st3 O3 st.items.length _ (by omega) (by omega) h3).mono ?_
   rintro e w4 ⟨rfl,O4,h4,t4⟩
   go_wp2
   refine bodyPost_ret (results_none rfl _ _ _) rfl ?_
   refine ⟨rfl,went_th (O':=O4) ?_ ((T2.out.trans t3).trans t4)⟩
   rw [HE.out,if_pos (by simp [hb2])]
   exact h4
  ·rw [hb2] at k2
   go_wp2_with fail
   refine (ends_c r s st2 O2 st.items.length _ (by omega) (by omega) h2).mono ?_
   rintro e w4 ⟨rfl,O4,h4,t4⟩
   go_wp2
   refine bodyPost_ret (results_none rfl _ _ _) rfl ?_
   refine ⟨rfl,went_th (O':=O4) ?_ (T2.out.trans t4)⟩
   rw [HE.out,if_neg (by simp [hb2])]
   exact h4
theorem condition_w:∀ (f:Nat),CondSaid f:=by
 intro f
 induction f with
 | zero=>intro w r s st O _ h;omega
 | succ f ih =>
  intro w r s st O hs hf h hb hI
  cases hop:isOp (pk s st.i)
  ·have e1:condF (f+1) s st=condT s st:=by rw [condF];simp [hop]
   rw [e1]
   exact cond_test hs h hb hI hop
  ·exact cond_op ih hs hf h hb hI hop
end Go.Proofs.YtellieabhaphhabGreatDoor
namespace Go.Proofs.YtellieabhaphhabGreatDoor
open Go.RowKit
def eatS (s:ByteArray) (st:RS) (c:Nat):RS:={ st with i:=(eatF s (st.i,st.bad) c).1,bad:=(eatF s (st.i,st.bad) c).2 }
def blkF (S:RS→RS) (s:ByteArray) (st:RS):RS:=eatS s (if (eatS s st 123).bad then eatS s st 123 else S (eatS s st 123)) 125
def elseAt (st:RS) (k:Nat):RS:={ st with items:=st.items.modify k (fun x=>{ x with els:=st.items.length }) }
def pushI (st:RS) (k n:Int):RS:={ st with items:=st.items++[⟨k,n,0,0⟩] }
def nextI (st:RS):RS:={ st with i:=st.i+1 }
def ifF (f:Nat) (S:RS→RS) (s:ByteArray) (st:RS):RS :=
 endAt (eatS s (blkF S s (elseAt (blkF S s (condF f s (pushI (nextI st) 105 0))) st.items.length)) 41) st.items.length
def whF (f:Nat) (S:RS→RS) (s:ByteArray) (st:RS):RS :=
 let a:=condF f s (pushI (nextI st) 119 0)
 let b:=blkF S s { a with loops:=a.loops+1 }
 endAt (eatS s { b with loops:=b.loops-1 } 93) st.items.length
def lpF (s:ByteArray) (st:RS):RS:=eatS s (endAt (pushI (nextI st) (pk s st.i) 0) st.items.length) 59
def actF (s:ByteArray) (st:RS):RS :=
 eatS s (endAt { st with i:=(simpF s st.i).2.1,bad:=(simpF s st.i).2.2,nodes:=st.nodes++[(simpF s st.i).1],items:=st.items++[⟨115,st.nodes.length,0,0⟩] } st.items.length) 59
def stF (f:Nat) (S:RS→RS) (s:ByteArray) (st:RS):RS :=
 if pk s st.i=40 then ifF f S s st
 else if pk s st.i=91 then whF f S s st
 else if pk s st.i=62∨pk s st.i=60 then (if st.loops=0 then { st with bad:=true } else lpF s st)
 else actF s st
def stmtsF:Nat→ByteArray→Nat→RS→RS
 | 0,_,_,st=>st
 | f+1,s,e,st=>if st.bad=false∧pk s st.i≠e∧st.i<s.size then stmtsF f s e (stF f (stmtsF f s 125) s st) else st
structure Good (s:ByteArray) (st st':RS):Prop where
 inv:Inv s st'
 mono:Mono st st'
 loops:st'.loops=st.loops
theorem Good.refl {s:ByteArray} {st:RS} (h:Inv s st):Good s st st:=⟨h,Mono.refl _,rfl⟩
theorem Good.trans {s:ByteArray} {a b c:RS} (h:Good s a b) (k:Good s b c):Good s a c:=⟨k.inv,h.mono.trans k.mono,k.loops.trans h.loops⟩
theorem cond_le (b:Bool):cond b 1 0≤1:=by cases b <;> decide
theorem eatS_good {s:ByteArray} {st:RS} {c:Nat} (hc:c≠0) (h:Inv s st):Good s st (eatS s st c)∧((eatS s st c).bad=false→st.i<(eatS s st c).i∧st.bad=false):=by
 have h1:=eatF_le s (st.i,st.bad) c hc h.i
 have h2:=eatF_ge s (st.i,st.bad) c
 have hn:=h.n;have ht:=h.t
 have hm:cond st.bad 1 0+st.i≤cond (eatF s (st.i,st.bad) c).2 1 0+(eatF s (st.i,st.bad) c).1:=by
  clear h1 hn ht
  generalize eatF s (st.i,st.bad) c=q at h2 ⊢
  obtain ⟨qi,qb⟩:=q
  generalize st.bad=b at h2 ⊢
  cases b <;> cases qb <;> simp at h2 ⊢ <;> omega
 refine ⟨⟨⟨h1,?_,?_,Nat.le_trans h.lp h2.1⟩,⟨h2.1,Nat.le_refl _,Nat.le_refl _⟩,rfl⟩,h2.2⟩
 ·show st.nodes.length≤(eatF s (st.i,st.bad) c).1+cond (eatF s (st.i,st.bad) c).2 1 0
  omega
 ·show st.items.length≤(eatF s (st.i,st.bad) c).1+cond (eatF s (st.i,st.bad) c).2 1 0
  omega
theorem endAt_good {s:ByteArray} {st:RS} {k:Nat} (h:Inv s st):Good s st (endAt st k):=⟨⟨h.i,h.n,by simpa [endAt] using h.t,h.lp⟩,⟨Nat.le_refl _,Nat.le_refl _,by simp [endAt]⟩,rfl⟩
theorem elseAt_good {s:ByteArray} {st:RS} {k:Nat} (h:Inv s st):Good s st (elseAt st k):=⟨⟨h.i,h.n,by simpa [elseAt] using h.t,h.lp⟩,⟨Nat.le_refl _,Nat.le_refl _,by simp [elseAt]⟩,rfl⟩
theorem pushI_good {s:ByteArray} {st:RS} {k n:Int} (hb:st.bad=false) (hi:st.i<s.size) (h:Inv s st):Good s st (pushI (nextI st) k n):=by
 have hn:=h.n;have ht:=h.t
 rw [hb] at hn ht
 simp only [cond_false,Nat.add_zero] at hn ht
 refine ⟨⟨hi,?_,?_,Nat.le_succ_of_le h.lp⟩,⟨Nat.le_succ _,Nat.le_refl _,by simp [pushI,nextI]⟩,rfl⟩
 ·simp only [pushI,nextI,hb,cond_false];omega
 ·simp only [pushI,nextI,hb,cond_false,List.length_append,List.length_singleton];omega
theorem condF_loops:∀ (f:Nat) (s:ByteArray) (st:RS),(condF f s st).loops=st.loops:=by
 intro f
 induction f with
 | zero=>intro s st;rfl
 | succ f ih =>
  intro s st
  unfold condF
  split
  ·simp only [endAt]
   split
   ·rw [ih,ih]
   ·rw [ih]
  ·rfl
theorem condF_good {f:Nat} {s:ByteArray} {st:RS} (hf:s.size-st.i<f) (hb:st.bad=false) (h:Inv s st):Good s st (condF f s st) :=
 let ⟨a,b,_,_⟩:=condF_inv f s st hf hb h
 ⟨a,b,condF_loops f s st⟩
def SGood (s:ByteArray) (n:Nat) (S:RS→RS):Prop:=∀ st,Inv s st→st.bad=false→s.size-st.i<n→Good s st (S st)
theorem blkF_good {s:ByteArray} {n:Nat} {S:RS→RS} (hS:SGood s n S) {st:RS} (h:Inv s st) (hn:s.size-st.i<n):Good s st (blkF S s st):=by
 have h1:=eatS_good (c:=123) (by decide) h
 unfold blkF
 split
 ·exact h1.1.trans (eatS_good (by decide) h1.1.inv).1
 ·rename_i hb
  have h2:=hS _ h1.1.inv (by simpa using hb) (by have:=h1.1.mono.i;omega)
  exact (h1.1.trans h2).trans (eatS_good (by decide) h2.inv).1
theorem simpF_ge (s:ByteArray) (i:Nat):i≤(simpF s i).2.1∧((simpF s i).2.2=false→i<(simpF s i).2.1):=by
 have h1:=varF_ge s (i,false)
 have h2:=eatF_ge s (varF s (i,false)).2 61
 unfold simpF
 repeat' split
 ·have:=varF_ge s (i+1,false);simp only at this ⊢;omega
 ·simp
 ·have:=kindF_ge s ((varF s (i,false)).2.1+1,false);simp only at this h1 ⊢;omega
 ·simp only at h1 h2 ⊢
  rename_i hq
  exact ⟨by omega,fun h=>by rw [h] at hq;cases hq⟩
 ·have h3:(eatF s (varF s (i,false)).2 61).1≤(valF s (eatF s (varF s (i,false)).2 61).1 { nd0 i with x:=(varF s (i,false)).1 }).2.1:=by
   generalize (eatF s (varF s (i,false)).2 61).1=j
   unfold valF
   have g1:=varF_ge s (j+1,false)
   have g2:=varF_ge s (j,false)
   have g3:=varF_ge s (varF s (j+1,false)).2
   repeat' split
   all_goals (simp only at g1 g2 g3 ⊢;omega)
  rename_i hq
  have h4:=h2.2 (by simpa using hq)
  simp only at h1 h3 h4 ⊢
  exact ⟨by omega,fun _=>by omega⟩
theorem stF_good {f:Nat} {s:ByteArray} {S:RS→RS} (hS:SGood s f S) {st:RS} (h:Inv s st) (hb:st.bad=false) (hi:st.i<s.size) (hf:s.size-st.i<f+1) :
  Good s st (stF f S s st)∧((stF f S s st).bad=false→st.i<(stF f S s st).i):=by
 unfold stF
 split
 ·have p1:=pushI_good (k:=105) (n:=0) hb hi h
  have e1:(pushI (nextI st) 105 0).i=st.i+1:=rfl
  have p2:=condF_good (f:=f) (st:=pushI (nextI st) 105 0) (by omega) hb p1.inv
  have p3:=blkF_good hS p2.inv (by have:=p2.mono.i;omega)
  have p4:=elseAt_good (k:=st.items.length) p3.inv
  have p5:=blkF_good hS p4.inv (by have:=p2.mono.i;have:=p3.mono.i;have:=p4.mono.i;omega)
  have p6:=(eatS_good (c:=41) (by decide) p5.inv).1
  have p7:=endAt_good (k:=st.items.length) p6.inv
  refine ⟨p1.trans (p2.trans (p3.trans (p4.trans (p5.trans (p6.trans p7))))),fun _=>?_⟩
  have:=(p2.trans (p3.trans (p4.trans (p5.trans (p6.trans p7))))).mono.i
  unfold ifF;omega
 split
 ·have p1:=pushI_good (k:=119) (n:=0) hb hi h
  have e1:(pushI (nextI st) 119 0).i=st.i+1:=rfl
  have p2:=condF_good (f:=f) (st:=pushI (nextI st) 119 0) (by omega) hb p1.inv
  unfold whF
  generalize condF f s (pushI (nextI st) 119 0)=a at *
  have ia:Inv s { a with loops:=a.loops+1 }:=⟨p2.inv.i,p2.inv.n,p2.inv.t,by have:=p2.loops;have:=p1.loops;have:=p2.mono.i;have:=h.lp;show a.loops+1≤a.i;omega⟩
  have p3:=blkF_good hS ia (by have:=p2.mono.i;simp only [];omega)
  simp only []
  generalize blkF S s { a with loops:=a.loops+1 }=b at *
  have ib:Inv s { b with loops:=b.loops-1 }:=⟨p3.inv.i,p3.inv.n,p3.inv.t,Nat.le_trans (Nat.sub_le _ _) p3.inv.lp⟩
  have p6:=(eatS_good (c:=93) (by decide) ib).1
  have p7:=endAt_good (k:=st.items.length) p6.inv
  have m1:Mono a b:=⟨p3.mono.i,p3.mono.n,p3.mono.t⟩
  have m2:=(p6.trans p7).mono
  have m3:Mono b (endAt (eatS s { b with loops:=b.loops-1 } 93) st.items.length):=⟨m2.i,m2.n,m2.t⟩
  refine ⟨⟨p7.inv,p1.mono.trans (p2.mono.trans (m1.trans m3)),?_⟩,fun _=>?_⟩
  ·have l1:=p3.loops;have l2:=p2.loops;have l3:=p1.loops
   show b.loops-1=_
   simp only at l1
   omega
  ·have:=(p2.mono.trans (m1.trans m3)).i;omega
 split
 ·split
  ·refine ⟨⟨⟨h.i,?_,?_,h.lp⟩,⟨Nat.le_refl _,Nat.le_refl _,Nat.le_refl _⟩,rfl⟩,fun hq=>by simp at hq⟩
   ·have:=h.n;rw [hb] at this;simp only [cond_false,cond_true] at this ⊢;omega
   ·have:=h.t;rw [hb] at this;simp only [cond_false,cond_true] at this ⊢;omega
  ·have p1:=pushI_good (k:=pk s st.i) (n:=0) hb hi h
   have e1:(pushI (nextI st) (pk s st.i) 0).i=st.i+1:=rfl
   have p2:=endAt_good (k:=st.items.length) p1.inv
   have p3:=(eatS_good (c:=59) (by decide) p2.inv).1
   refine ⟨p1.trans (p2.trans p3),fun _=>?_⟩
   have:=(p2.trans p3).mono.i
   unfold lpF;omega
 ·have h1:=simpF_ge s st.i
  have h2:=simpF_le s st.i h.i
  have hn:=h.n;have ht:=h.t
  rw [hb] at hn ht
  simp only [cond_false,Nat.add_zero] at hn ht
  have p1:Good s st { st with i:=(simpF s st.i).2.1,bad:=(simpF s st.i).2.2,nodes:=st.nodes++[(simpF s st.i).1],items:=st.items++[⟨115,st.nodes.length,0,0⟩] }:=by
   refine ⟨⟨h2,?_,?_,Nat.le_trans h.lp h1.1⟩,⟨h1.1,by simp,by simp⟩,rfl⟩
   ·simp only [List.length_append,List.length_singleton]
    cases hq:(simpF s st.i).2.2
    ·have:=h1.2 hq;simp only [cond_false];omega
    ·simp only [cond_true];omega
   ·simp only [List.length_append,List.length_singleton]
    cases hq:(simpF s st.i).2.2
    ·have:=h1.2 hq;simp only [cond_false];omega
    ·simp only [cond_true];omega
  have p2:=endAt_good (k:=st.items.length) p1.inv
  have p3:=eatS_good (c:=59) (by decide) p2.inv
  refine ⟨p1.trans (p2.trans p3.1),fun hq=>?_⟩
  have q1:=p3.2 hq
  have q2:(simpF s st.i).2.1<(actF s st).i:=q1.1
  have:=h1.1
  omega
theorem stmts_stop (k:Nat) (s:ByteArray) (e:Nat) (st:RS) (h:¬ (st.bad=false∧pk s st.i≠e∧st.i<s.size)):stmtsF k s e st=st:=by
 cases k with
 | zero=>rfl
 | succ k=>rw [stmtsF,if_neg h]
theorem stmtsF_good:∀ (f:Nat) (s:ByteArray) (e:Nat),SGood s f (stmtsF f s e):=by
 intro f
 induction f with
 | zero=>intro s e st _ _ h;omega
 | succ f ih =>
  intro s e st h hb hf
  by_cases hc:st.bad=false∧pk s st.i≠e∧st.i<s.size
  ·rw [stmtsF,if_pos hc]
   obtain ⟨g1,g2⟩:=stF_good (ih s 125) h hb hc.2.2 hf
   cases hb':(stF f (stmtsF f s 125) s st).bad
   ·have:=g2 hb'
    exact g1.trans (ih s e _ g1.inv hb' (by omega))
   ·rw [stmts_stop _ _ _ _ (by simp [hb'])]
    exact g1
  ·rw [stmts_stop _ _ _ _ hc]
   exact Good.refl h
end Go.Proofs.YtellieabhaphhabGreatDoor
namespace Go.Proofs.YtellieabhaphhabGreatDoor
open Go.RowKit
def StmtsSaid (f:Nat):Prop:=∀ (w:World) (r:Nat) (s:ByteArray) (e:Nat) (st:RS) (O:Nat→Prop),s.size≤900→e<256→s.size-st.i<f→Rp w r s st O→st.bad=false→Inv s st →
  Calls Tryz.prog 94 #[.pointer (some ⟨r,0,none⟩),.int .u8 e] w fun x w'=>x=.returned (.tuple #[])∧Went w O r s (stmtsF f s e st) w'
set_option maxHeartbeats 1600000 in
theorem block_w {f:Nat} (ih:StmtsSaid f) {w:World} {r:Nat} {s:ByteArray} {st:RS} {O:Nat→Prop} (hs:s.size≤900) (hf:s.size-st.i<f) (h:Rp w r s st O) (hI:Inv s st) :
  Calls Tryz.prog 169 #[.pointer (some ⟨r,0,none⟩)] w fun x w'=>x=.returned (.tuple #[])∧Went w O r s (blkF (stmtsF f s 125) s st) w':=by
 have hi:=hI.i
 have g1:=(eatS_good (c:=123) (by decide) hI).1
 have HS:=hide (fun W O'=>ih W r s 125 (eatS s st 123) O' hs (by decide) (by have:=g1.mono.i;omega))
 have HG:=hide (fun hb=>stmtsF_good f s 125 _ g1.inv hb (by have:=g1.mono.i;omega))
 have g2:=g1.inv.i
 have G1:=hide g1.inv
 clear g1
 have HE:Hid (blkF (stmtsF f s 125) s st=eatS s (if (eatS s st 123).bad then eatS s st 123 else stmtsF f s 125 (eatS s st 123)) 125):=rfl
 go_enter Tryz.func169,Tryz.ntmps169
 go_wp2_with fail
 refine (eat_w h 123 (by omega) hi).mono ?_
 rintro e w1 ⟨rfl,O1,h1,t1⟩
 have h1:Rp w1 r s (eatS s st 123) O1:=h1
 have T1:Hid (Th O w O1 w1):=t1
 clear t1
 generalize eatS s st 123=st1 at *
 obtain ⟨c0,c1,c2,_,cf⟩:=h1.c
 cases hb:st1.bad
 ·rw [hb] at c2
  have g3:=(HG.out hb).inv.i
  go_wp2_with fail
  refine (HS.out _ O1 h1 hb G1.out).mono ?_
  rintro e w2 ⟨rfl,O2,h2,t2⟩
  have T2:=hide (T1.out.trans t2)
  clear t2
  go_wp2_with fail
  refine (eat_w h2 125 (by omega) g3).mono ?_
  rintro e w3 ⟨rfl,O3,h3,t3⟩
  go_wp2
  go_end0
  refine ⟨rfl,went_th (O':=O3) ?_ (T2.out.trans t3)⟩
  rw [HE.out,hb]
  exact h3
 ·rw [hb] at c2
  go_wp2_with fail
  refine (eat_w h1 125 (by omega) g2).mono ?_
  rintro e w3 ⟨rfl,O3,h3,t3⟩
  go_wp2
  go_end0
  refine ⟨rfl,went_th (O':=O3) ?_ (T1.out.trans t3)⟩
  rw [HE.out,hb]
  exact h3
theorem Rp.item {w:World} {r:Nat} {s:ByteArray} {st:RS} {O:Nat→Prop} (h:Rp w r s st O) {k:Nat} (hk:k<st.items.length) :
  ∃ g cap,w.cell? ⟨r,4,none⟩=some (.slice (some ⟨g,0,none⟩) st.items.length cap)∧(∀ j,j<4→w.cell? ⟨g,k*4+j,none⟩=st.items[k].cells[j]?)∧(∀ o,w.frozen? ⟨g,o,none⟩=false)∧O g ∧
   ∀ j u m,j<4→(∀ x:It,(m x).cells=x.cells.set j u)→Rp (w.setCell ⟨g,k*4+j,none⟩ u) r s { st with items:=st.items.modify k m } O:=by
 obtain ⟨nv,iv,hB,hN,hI,d1,d2,d3,rfl⟩:=h
 obtain ⟨g,cap,rfl,_,hg⟩:=World.ownsRow.form hI (by omega)
 have hgr:r≠g:=fun e=>d2 (by simp [Value.ownBlock,e])
 refine ⟨g,cap,Blk.cell hB 4,fun j hj=>item_cell hI k j hk hj,hI.frozen,.inr (.inr rfl),?_⟩
 intro j u m hj hm
 refine ⟨nv,_,Blk.other hB _ hgr,Row.set hN _ (fun e=>d3 g e rfl),?_,d1,d2,d3,rfl⟩
 show Row _ _ _ _ (st.items.modify k m).length (iCells (st.items.modify k m))
 rw [List.length_modify,iCells,← flat_set It.cells 4 it4 m j u hj hm st.items k hk]
 exact hI.setIn _ _
theorem inv_len {s:ByteArray} {st:RS} (hs:s.size≤900) (h:Inv s st):st.items.length≤950∧st.nodes.length≤950:=by
 have h1:=h.i;have h2:=h.n;have h3:=h.t;have h4:=cond_le st.bad
 omega
set_option maxHeartbeats 1600000 in
theorem form_if {f:Nat} (ih:StmtsSaid f) {w:World} {r:Nat} {s:ByteArray} {st:RS} {O:Nat→Prop} (hs:s.size≤900) (hf:s.size-st.i<f+1) (hi:st.i<s.size) (h:Rp w r s st O) (hb:st.bad=false) (hI:Inv s st) :
  Calls Tryz.prog 157 #[.pointer (some ⟨r,0,none⟩),.int .u8 40] w fun x w'=>x=.returned (.tuple #[])∧Went w O r s (ifF f (stmtsF f s 125) s st) w':=by
 have p1:=pushI_good (k:=105) (n:=0) hb hi hI
 have e1:(pushI (nextI st) 105 0).i=st.i+1:=rfl
 have e2:(pushI (nextI st) 105 0).items.length=st.items.length+1:=by simp [pushI,nextI]
 have p2:=condF_good (f:=f) (st:=pushI (nextI st) 105 0) (by omega) hb p1.inv
 have HC:=hide (fun W O' (h':Rp W r s _ O')=>condition_w f W r s (pushI (nextI st) 105 0) O' hs (by omega) h' hb p1.inv)
 have n0:=inv_len hs hI
 have HI:Hid (ifF f (stmtsF f s 125) s st=endAt (eatS s (blkF (stmtsF f s 125) s (elseAt (blkF (stmtsF f s 125) s (condF f s (pushI (nextI st) 105 0))) st.items.length)) 41) st.items.length):=rfl
 generalize condF f s (pushI (nextI st) 105 0)=st2 at *
 have p3:=blkF_good (stmtsF_good f s 125) p2.inv (by have:=p2.mono.i;omega)
 have HB1:=hide (fun W O' (h':Rp W r s _ O')=>block_w (w:=W) (O:=O') ih hs (by have:=p2.mono.i;omega) h' p2.inv)
 generalize blkF (stmtsF f s 125) s st2=st3 at *
 have p4:=elseAt_good (k:=st.items.length) p3.inv
 have HB2:=hide (fun W O' (h':Rp W r s _ O')=>block_w (w:=W) (O:=O') ih hs (by have:=p2.mono.i;have:=p3.mono.i;have:=p4.mono.i;omega) h' p4.inv)
 have p5:=blkF_good (stmtsF_good f s 125) p4.inv (by have:=p2.mono.i;have:=p3.mono.i;have:=p4.mono.i;omega)
 generalize hst4:blkF (stmtsF f s 125) s (elseAt st3 st.items.length)=st5 at *
 clear hst4
 have p6:=(eatS_good (c:=41) (by decide) p5.inv).1
 have n3:st.items.length<st3.items.length∧st3.items.length≤1000:=⟨by have:=p2.mono.t;have:=p3.mono.t;omega,by have:=(inv_len hs p3.inv).1;omega⟩
 have n5:st5.i≤s.size:=p5.inv.i
 have n6:st.items.length<(eatS s st5 41).items.length∧(eatS s st5 41).items.length≤1000:=⟨by have:=p2.mono.t;have:=p3.mono.t;have:=p4.mono.t;have:=p5.mono.t;have:=p6.mono.t;omega,by have:=(inv_len hs p6.inv).1;omega⟩
 clear p1 p2 p3 p4 p5 p6 e1 e2
 obtain ⟨c0,c1,c2,_,cf⟩:=h.c
 go_enter Tryz.func157,Tryz.ntmps157
 go_wp2_with fail
 refine (item_c r s (nextI st) O 105 0 _ (by show st.items.length≤1000;omega) h.next).mono ?_
 rintro e w1 ⟨rfl,O1,h1,t1⟩
 rw [show (nextI st).items.length=st.items.length from rfl]
 have T1:=hide (((Th.refl O w).set _ (.inl h.own)).trans t1)
 clear t1
 go_wp2_with fail
 refine (HC.out _ O1 h1).mono ?_
 rintro e w2 ⟨rfl,O2,h2,t2⟩
 have T2:=hide (T1.out.trans t2)
 clear t2
 go_wp2_with fail
 refine (HB1.out _ O2 h2).mono ?_
 rintro e w3 ⟨rfl,O3,h3,t3⟩
 have T3:=hide (T2.out.trans t3)
 clear t3
 obtain ⟨g,cap,q4,qc,qf,qo,qs⟩:=h3.item n3.1
 have q2:=qc 2 (by decide)
 simp only [It.cells,List.getElem?_cons_zero,List.getElem?_cons_succ] at q2
 have QS:=hide (qs 2 (.int .i64 st3.items.length) (fun x=>{ x with els:=st3.items.length }) (by decide) (fun x=>rfl))
 clear qc qs
 go_wp2
 go_region
 all_goals
  go_wp2_with fail
  refine (HB2.out _ O3 QS.out.drew).mono ?_
  rintro e w5 ⟨rfl,O5,h5,t5⟩
  have T5:=hide (((T3.out.set _ (.inl qo)).drew).trans t5)
  clear t5
  go_wp2_with fail
  refine (eat_w h5 41 (by omega) n5).mono ?_
  rintro e w6 ⟨rfl,O6,h6,t6⟩
  have T6:=hide (T5.out.trans t6)
  clear t6
  go_wp2_with fail
  refine (ends_c r s (eatS s st5 41) O6 st.items.length _ n6.2 n6.1 h6).mono ?_
  rintro e w7 ⟨rfl,O7,h7,t7⟩
  go_wp2
  refine bodyPost_ret (results_none rfl _ _ _) rfl ?_
  refine ⟨rfl,went_th (O':=O7) ?_ (T6.out.trans t7)⟩
  rw [HI.out]
  exact h7
set_option maxHeartbeats 1600000 in
theorem form_while {f:Nat} (ih:StmtsSaid f) {w:World} {r:Nat} {s:ByteArray} {st:RS} {O:Nat→Prop} (hs:s.size≤900) (hf:s.size-st.i<f+1) (hi:st.i<s.size) (h:Rp w r s st O) (hb:st.bad=false) (hI:Inv s st) :
  Calls Tryz.prog 157 #[.pointer (some ⟨r,0,none⟩),.int .u8 91] w fun x w'=>x=.returned (.tuple #[])∧Went w O r s (whF f (stmtsF f s 125) s st) w':=by
 have hl:st.loops≤1000:=by have:=hI.lp;omega
 have p1:=pushI_good (k:=119) (n:=0) hb hi hI
 have e1:(pushI (nextI st) 119 0).i=st.i+1:=rfl
 have e2:(pushI (nextI st) 119 0).items.length=st.items.length+1:=by simp [pushI,nextI]
 have e3:(pushI (nextI st) 119 0).loops=st.loops:=rfl
 have p2:=condF_good (f:=f) (st:=pushI (nextI st) 119 0) (by omega) hb p1.inv
 have HC:=hide (fun W O' (h':Rp W r s _ O')=>condition_w f W r s (pushI (nextI st) 119 0) O' hs (by omega) h' hb p1.inv)
 have n0:=inv_len hs hI
 have HI:Hid (whF f (stmtsF f s 125) s st=endAt (eatS s { blkF (stmtsF f s 125) s { condF f s (pushI (nextI st) 119 0) with loops:=(condF f s (pushI (nextI st) 119 0)).loops+1 } with loops:=(blkF (stmtsF f s 125) s { condF f s (pushI (nextI st) 119 0) with loops:=(condF f s (pushI (nextI st) 119 0)).loops+1 }).loops-1 } 93) st.items.length):=rfl
 generalize condF f s (pushI (nextI st) 119 0)=st2 at *
 have i2:Inv s { st2 with loops:=st2.loops+1 }:=⟨p2.inv.i,p2.inv.n,p2.inv.t,by have:=p2.loops;have:=p2.mono.i;have:=hI.lp;show st2.loops+1≤st2.i;omega⟩
 have p3:=blkF_good (stmtsF_good f s 125) i2 (by have:=p2.mono.i;simp only [];omega)
 have HB1:=hide (fun W O' (h':Rp W r s _ O')=>block_w (w:=W) (O:=O') (st:={ st2 with loops:=st2.loops+1 }) ih hs (by have:=p2.mono.i;simp only [];omega) h' i2)
 generalize blkF (stmtsF f s 125) s { st2 with loops:=st2.loops+1 }=st3 at *
 have i3:Inv s { st3 with loops:=st3.loops-1 }:=⟨p3.inv.i,p3.inv.n,p3.inv.t,Nat.le_trans (Nat.sub_le _ _) p3.inv.lp⟩
 have p6:=(eatS_good (c:=93) (by decide) i3).1
 have n5:st3.i≤s.size:=p3.inv.i
 have n6:st.items.length<(eatS s { st3 with loops:=st3.loops-1 } 93).items.length∧(eatS s { st3 with loops:=st3.loops-1 } 93).items.length≤1000:=⟨by have:=p2.mono.t;have:=p3.mono.t;have:=p6.mono.t;simp only at *;omega,by have:=(inv_len hs p6.inv).1;omega⟩
 have l2:st2.loops=st.loops:=by have:=p2.loops;omega
 have l3:st3.loops=st.loops+1:=by have:=p3.loops;simp only at this;omega
 have L3:=hide l3
 have L2:=hide l2
 have l2':st2.loops≤1000:=by omega
 have l3':st3.loops≤1001:=by omega
 have l3'':1≤st3.loops:=by omega
 clear p1 p2 p3 p6 e1 e2 e3 l2 l3
 obtain ⟨c0,c1,c2,_,cf⟩:=h.c
 go_enter Tryz.func157,Tryz.ntmps157
 go_wp2_with fail
 refine (item_c r s (nextI st) O 119 0 _ (by show st.items.length≤1000;omega) h.next).mono ?_
 rintro e w1 ⟨rfl,O1,h1,t1⟩
 have T1:=hide (((Th.refl O w).set _ (.inl h.own)).trans t1)
 clear t1
 go_wp2_with fail
 refine (HC.out _ O1 h1).mono ?_
 rintro e w2 ⟨rfl,O2,h2,t2⟩
 have T2:=hide (T1.out.trans t2)
 clear t2
 obtain ⟨k0,k1,k2,k5,kf⟩:=h2.c
 go_wp2_with fail
 refine (HB1.out _ O2 (h2.setLoops (st2.loops+1))).mono ?_
 rintro e w3 ⟨rfl,O3,h3,t3⟩
 have T3:=hide ((T2.out.set _ (.inl h2.own)).trans t3)
 clear t3
 obtain ⟨m0,m1,m2,m5,mf⟩:=h3.c
 go_wp2_with fail
 rw [show ((st3.loops:Int)-1)=((st3.loops-1:Nat):Int) by omega]
 refine (eat_w (h3.setLoops (st3.loops-1)) 93 (by omega) n5).mono ?_
 rintro e w6 ⟨rfl,O6,h6,t6⟩
 have T6:=hide ((T3.out.set _ (.inl h3.own)).trans t6)
 clear t6
 go_wp2_with fail
 refine (ends_c r s (eatS s { st3 with loops:=st3.loops-1 } 93) O6 st.items.length _ n6.2 n6.1 h6).mono ?_
 rintro e w7 ⟨rfl,O7,h7,t7⟩
 go_wp2
 go_end0
 refine ⟨rfl,went_th (O':=O7) ?_ (T6.out.trans t7)⟩
 rw [HI.out]
 exact h7
end Go.Proofs.YtellieabhaphhabGreatDoor
namespace Go.Proofs.YtellieabhaphhabGreatDoor
open Go.RowKit
def StmtSaid (f:Nat):Prop:=∀ (w:World) (r:Nat) (s:ByteArray) (st:RS) (O:Nat→Prop),s.size≤900→s.size-st.i<f+1→st.i<s.size→Rp w r s st O→st.bad=false→Inv s st →
  Calls Tryz.prog 136 #[.pointer (some ⟨r,0,none⟩)] w fun x w'=>x=.returned (.tuple #[])∧Went w O r s (stF f (stmtsF f s 125) s st) w'
set_option maxHeartbeats 1600000 in
theorem stmt_form {f:Nat} (ih:StmtsSaid f) {w:World} {r:Nat} {s:ByteArray} {st:RS} {O:Nat→Prop} (hs:s.size≤900) (hf:s.size-st.i<f+1) (hi:st.i<s.size) (h:Rp w r s st O) (hb:st.bad=false) (hI:Inv s st)
  (hc:pk s st.i=40∨pk s st.i=91) :
  Calls Tryz.prog 136 #[.pointer (some ⟨r,0,none⟩)] w fun x w'=>x=.returned (.tuple #[])∧Went w O r s (stF f (stmtsF f s 125) s st) w':=by
 have HP:=hide (peek_w h)
 rcases hc with hc|hc
 ·have HE:=hide (show stF f (stmtsF f s 125) s st=ifF f (stmtsF f s 125) s st by simp [stF,hc])
  have HF:=hide (fun nq=>form_if (w:=w.drewN nq) ih hs hf hi (h.n nq) hb hI)
  rw [hc] at HP
  clear hc
  go_enter Tryz.func136,Tryz.ntmps136
  go_wp2_with fail
  refine HP.out.mono ?_
  rintro e w1 ⟨rfl,nq,rfl⟩
  go_wp2_with fail
  refine (HF.out nq).mono ?_
  rintro e w2 ⟨rfl,O2,h2,t2⟩
  go_wp2
  refine bodyPost_ret (results_none rfl _ _ _) rfl ?_
  rw [HE.out]
  exact ⟨rfl,went_th h2 (((Th.refl O w).n nq).trans t2)⟩
 ·have HE:=hide (show stF f (stmtsF f s 125) s st=whF f (stmtsF f s 125) s st by simp [stF,hc])
  have HF:=hide (fun nq=>form_while (w:=w.drewN nq) ih hs hf hi (h.n nq) hb hI)
  rw [hc] at HP
  clear hc
  go_enter Tryz.func136,Tryz.ntmps136
  go_wp2_with fail
  refine HP.out.mono ?_
  rintro e w1 ⟨rfl,nq,rfl⟩
  go_wp2_with fail
  refine (HF.out nq).mono ?_
  rintro e w2 ⟨rfl,O2,h2,t2⟩
  go_wp2
  refine bodyPost_ret (results_none rfl _ _ _) rfl ?_
  rw [HE.out]
  exact ⟨rfl,went_th h2 (((Th.refl O w).n nq).trans t2)⟩
set_option maxHeartbeats 1600000 in
theorem stmt_leap {f:Nat} {w:World} {r:Nat} {s:ByteArray} {st:RS} {O:Nat→Prop} (hs:s.size≤900) (hi:st.i<s.size) (h:Rp w r s st O) (hb:st.bad=false) (hI:Inv s st)
  (hc:pk s st.i=62∨pk s st.i=60) :
  Calls Tryz.prog 136 #[.pointer (some ⟨r,0,none⟩)] w fun x w'=>x=.returned (.tuple #[])∧Went w O r s (stF f (stmtsF f s 125) s st) w':=by
 have HP:=hide (peek_w h)
 have n0:=inv_len hs hI
 have HE:=hide (show stF f (stmtsF f s 125) s st=if st.loops=0 then { st with bad:=true } else lpF s st by
  unfold stF
  rw [if_neg (by omega),if_neg (by omega),if_pos hc])
 have HL:Hid (lpF s st=eatS s (endAt (pushI (nextI st) (pk s st.i) 0) st.items.length) 59):=rfl
 have p1:=pushI_good (k:=pk s st.i) (n:=0) hb hi hI
 have p2:=(endAt_good (k:=st.items.length) p1.inv).inv.i
 clear p1
 generalize pk s st.i=d at *
 obtain ⟨c0,c1,c2,c5,cf⟩:=h.c
 by_cases hz:st.loops=0
 ·rw [hz] at c5
  have HZ:=hide hz
  clear hz
  go_enter Tryz.func136,Tryz.ntmps136
  go_wp2_with fail
  refine HP.out.mono ?_
  rintro e w1 ⟨rfl,nq,rfl⟩
  rcases hc with rfl|rfl
  all_goals
   go_wp2
   refine bodyPost_ret (results_none rfl _ _ _) rfl ?_
   rw [HE.out,if_pos HZ.out]
   exact ⟨rfl,went_th (h.n nq).setBad (((Th.refl O w).n nq).set _ (.inl h.own))⟩
 ·have hz':((st.loops:Int) == 0)=false:=by simp;omega
  have HZ:=hide hz
  clear hz
  go_enter Tryz.func136,Tryz.ntmps136
  go_wp2_with fail
  refine HP.out.mono ?_
  rintro e w1 ⟨rfl,nq,rfl⟩
  rcases hc with rfl|rfl
  all_goals
   go_wp2_with fail
   refine (item_c r s (nextI st) O _ 0 _ (by show st.items.length≤1000;omega) (h.n nq).next).mono ?_
   rintro e w1 ⟨rfl,O1,h1,t1⟩
   rw [show (nextI st).items.length=st.items.length from rfl]
   have T1:=hide ((((Th.refl O w).n nq).set _ (.inl h.own)).trans t1)
   clear t1
   go_wp2_with fail
   refine (ends_c r s _ O1 st.items.length _ (by simp only [nextI,List.length_append,List.length_singleton];omega) (by simp [nextI]) h1).mono ?_
   rintro e w2 ⟨rfl,O2,h2,t2⟩
   have T2:=hide (T1.out.trans t2)
   clear t2
   go_wp2_with fail
   refine (eat_w h2 59 (by omega) p2).mono ?_
   rintro e w3 ⟨rfl,O3,h3,t3⟩
   go_wp2
   go_end0
   refine ⟨rfl,went_th (O':=O3) ?_ (T2.out.trans t3)⟩
   rw [HE.out,if_neg HZ.out,HL.out]
   exact h3
set_option maxHeartbeats 1600000 in
theorem stmt_act {f:Nat} {w:World} {r:Nat} {s:ByteArray} {st:RS} {O:Nat→Prop} (hs:s.size≤900) (h:Rp w r s st O) (hb:st.bad=false) (hI:Inv s st)
  (g1:pk s st.i≠40) (g2:pk s st.i≠91) (g3:pk s st.i≠62) (g4:pk s st.i≠60) :
  Calls Tryz.prog 136 #[.pointer (some ⟨r,0,none⟩)] w fun x w'=>x=.returned (.tuple #[])∧Went w O r s (stF f (stmtsF f s 125) s st) w':=by
 have HP:=hide (peek_w h)
 have n0:=inv_len hs hI
 have hi:=hI.i
 have HE:=hide (show stF f (stmtsF f s 125) s st=actF s st by simp [stF,g1,g2,g3,g4])
 have HL:Hid (actF s st=eatS s (endAt { st with i:=(simpF s st.i).2.1,bad:=(simpF s st.i).2.2,nodes:=st.nodes++[(simpF s st.i).1],items:=st.items++[⟨115,st.nodes.length,0,0⟩] } st.items.length) 59):=rfl
 have k1:((pk s st.i:Int) == 40)=false:=by simp;omega
 have k2:((pk s st.i:Int) == 91)=false:=by simp;omega
 have k3:((pk s st.i:Int) == 62)=false:=by simp;omega
 have k4:((pk s st.i:Int) == 60)=false:=by simp;omega
 have p2:=simpF_le s st.i hi
 clear g1 g2 g3 g4
 generalize pk s st.i=d at *
 go_enter Tryz.func136,Tryz.ntmps136
 go_wp2_with fail
 refine HP.out.mono ?_
 rintro e w1 ⟨rfl,nq,rfl⟩
 go_wp2_with fail
 refine (simple_w (h.n nq) hb (by omega) hi).mono ?_
 rintro e w1 ⟨rfl,O1,h1,t1⟩
 have T1:=hide (((Th.refl O w).n nq).trans t1)
 clear t1
 generalize simpF s st.i=q at *
 obtain ⟨⟨uo,ux,uy,uv,uk,ut,uf,ua,ul⟩,qi,qb⟩:=q
 simp only [Nd.cells]
 go_wp2_with fail
 refine (add_c r s _ O1 ⟨uo,ux,uy,uv,uk,ut,uf,ua,ul⟩ _ (by simp only [];omega) (h1.alloc _)).mono ?_
 rintro e w2 ⟨rfl,O2,h2,t2⟩
 have T2:=hide ((T1.out.alloc _).trans t2)
 clear t2
 go_wp2_with fail
 refine (item_c r s _ O2 115 st.nodes.length _ (by simp only [];omega) h2).mono ?_
 rintro e w3 ⟨rfl,O3,h3,t3⟩
 have T3:=hide (T2.out.trans t3)
 clear t3
 go_wp2_with fail
 refine (ends_c r s _ O3 st.items.length _ (by simp only [List.length_append,List.length_singleton];omega) (by simp) h3).mono ?_
 rintro e w4 ⟨rfl,O4,h4,t4⟩
 have T4:=hide (T3.out.trans t4)
 clear t4
 go_wp2_with fail
 refine (eat_w h4 59 (by omega) p2).mono ?_
 rintro e w5 ⟨rfl,O5,h5,t5⟩
 go_wp2
 go_end0
 refine ⟨rfl,went_th (O':=O5) ?_ (T4.out.trans t5)⟩
 rw [HE.out,HL.out]
 exact h5
theorem statement_w {f:Nat} (ih:StmtsSaid f):StmtSaid f:=by
 intro w r s st O hs hf hi h hb hI
 by_cases h1:pk s st.i=40∨pk s st.i=91
 ·exact stmt_form ih hs hf hi h hb hI h1
 by_cases h2:pk s st.i=62∨pk s st.i=60
 ·exact stmt_leap hs hi h hb hI h2
 ·exact stmt_act hs h hb hI (by omega) (by omega) (by omega) (by omega)
end Go.Proofs.YtellieabhaphhabGreatDoor
namespace Go.Proofs.YtellieabhaphhabGreatDoor
open Go.RowKit
set_option maxHeartbeats 3200000 in
theorem statements_w {f:Nat} (ih:∀ k,k<f→StmtsSaid k):StmtsSaid f:=by
 intro w r s e st O hs he hf h hb hI
 have IH:=hide ih
 clear ih
 have HP:=hide (peek_w h)
 go_enter Tryz.func94,Tryz.ntmps94
 go_wp2_with fail
 refine HP.out.mono ?_
 rintro x w1 ⟨rfl,nq,rfl⟩
 go_wp2
 go_loopg [4] f (fun k c wr=>∃ st' O',Rp wr r s st' O'∧Th O w O' wr∧Inv s st'∧c=.int .u8 (pk s st'.i)∧(st'.bad=false→s.size-st'.i<k)∧k≤f∧stmtsF f s e st=stmtsF k s e st')
 case atStart=>exact ⟨st,O,h.n nq,(Th.refl O w).n nq,hI,rfl,fun _=>hf,Nat.le_refl _,rfl⟩
 case round =>
  obtain ⟨st',O',h',T',hI',rfl,hk,hkf,hE⟩:=hrel
  have HE:=hide hE
  have HI':=hide hI'
  have HT:=hide T'
  have HK:=hide hk
  have HKF:=hide hkf
  have hi':=hI'.i
  obtain ⟨c0,c1,c2,c5,cf⟩:=h'.c
  clear hE hI' T' hk hkf hI hf
  cases hb':st'.bad
  ·rw [hb'] at c2
   by_cases h2:pk s st'.i=e
   ·have h2':(((pk s st'.i:Nat):Int) != (e:Int))=false:=by simp [h2]
    have HS:=hide (stmts_stop gk s e st' (by simp [h2]))
    generalize pk s st'.i=d at *
    go_wp2
    go_quiet (fail)
    go_wp2
    go_end0
    rw [HE.out,HS.out]
    exact ⟨rfl,went_th (h'.n _) (HT.out.n _)⟩
   ·have h2':(((pk s st'.i:Nat):Int) != (e:Int))=true:=by simp;omega
    by_cases h3:st'.i<s.size
    ·have hk0:=HK.out hb'
     obtain ⟨k,rfl⟩:∃ k,gk=k+1:=⟨gk-1,by omega⟩
     have HR:=hide (show stmtsF (k+1) s e st'=stmtsF k s e (stF k (stmtsF k s 125) s st') by rw [stmtsF,if_pos ⟨hb',h2,h3⟩])
     have HST:=hide (fun W=>statement_w (IH.out k (by have:=HKF.out;omega)) W r s st' O' hs hk0 h3)
     have HG:=hide (stF_good (stmtsF_good k s 125) HI'.out hb' h3 hk0)
     generalize stF k (stmtsF k s 125) s st'=st2 at *
     generalize pk s st'.i=d at *
     go_wp2
     go_quiet (fail)
     go_wp2_with fail
     refine (HST.out _ (h'.n _) hb' HI'.out).mono ?_
     rintro x w2 ⟨rfl,O2,h2,t2⟩
     go_wp2_with fail
     refine (peek_w h2).mono ?_
     rintro x w3 ⟨rfl,nq3,rfl⟩
     go_wp2
     go_roundg k
     case measure=>omega
     case rel=>exact ⟨st2,O2,h2.n nq3,((HT.out.n _).trans t2).n nq3,HG.out.1.inv,rfl,fun hb2=>by have:=HG.out.2 hb2;have:=HG.out.1.inv.i;omega,by have:=HKF.out;omega,by rw [HE.out,HR.out]⟩
    ·have HS:=hide (stmts_stop gk s e st' (by simp [h3]))
     generalize pk s st'.i=d at *
     go_wp2
     go_quiet (fail)
     go_wp2
     go_end0
     rw [HE.out,HS.out]
     exact ⟨rfl,went_th (h'.n _) (HT.out.n _)⟩
  ·rw [hb'] at c2
   have HS:=hide (stmts_stop gk s e st' (by simp [hb']))
   generalize pk s st'.i=d at *
   go_wp2
   go_quiet (fail)
   go_wp2
   go_end0
   rw [HE.out,HS.out]
   exact ⟨rfl,went_th (h'.n _) (HT.out.n _)⟩
theorem stmts_all:∀ f,StmtsSaid f:=by
 intro f
 induction f using Nat.strongRecOn with
 | _ f ih=>exact statements_w ih
def rs0:RS:={ i:=0,bad:=false,nodes:=[],items:=[],loops:=0 }
theorem inv0 (s:ByteArray):Inv s rs0:=⟨Nat.zero_le _,Nat.zero_le _,Nat.zero_le _,Nat.zero_le _⟩
def srcF (s:ByteArray):RS:=stmtsF (s.size+1) s 0 rs0
theorem srcF_good (s:ByteArray):Good s rs0 (srcF s):=stmtsF_good (s.size+1) s 0 rs0 (inv0 s) rfl (by show s.size-0<_;omega)
def srcBad (s:ByteArray):Bool:=(srcF s).bad || decide ((srcF s).i<s.size)
set_option maxHeartbeats 1600000 in
theorem source_long (s:ByteArray) (w:World) (hm:s.size≤maxLen) (hs:180<s.size) :
  Calls Tryz.prog 52 #[.string s] w fun e w'=>(∃ r,e=.returned (.tuple #[.pointer (some ⟨r,0,none⟩),.int .i64 1,.int .i64 0]))∧Kp no w w':=by
 unfold maxLen at hm
 go_enter Tryz.func52,Tryz.ntmps52
 go_wp2
 go_ret3
 exact ⟨⟨_,rfl⟩,by (exact kpA)⟩
def SrcPost (s:ByteArray) (w:World) (e:Ending) (w':World):Prop :=
 ∃ r O,e=.returned (.tuple #[.pointer (some ⟨r,0,none⟩),.int .i64 (if srcBad s then 2 else 0),.int .i64 (if srcBad s then (srcF s).i else 0)]) ∧
   Rp w' r s (srcF s) O∧Kp no w w'∧∀ b,O b→w.heap.size≤b
set_option maxHeartbeats 1600000 in
theorem source_c (s:ByteArray) (w:World) (hs:s.size≤180) :
  Calls Tryz.prog 52 #[.string s] w fun e w'=>SrcPost s w e w':=by
 have HS:=hide (fun W r O=>stmts_all (s.size+1) W r s 0 rs0 O (by omega) (by decide) (by show s.size-0<_;omega))
 have HF:Hid (srcF s=stmtsF (s.size+1) s 0 rs0):=rfl
 have g:=(srcF_good s).inv.i
 have HB:Hid (srcBad s=((srcF s).bad || decide ((srcF s).i<s.size))):=rfl
 go_enter Tryz.func52,Tryz.ntmps52
 go_wp2_with fail
 have h0:Rp (w.alloc (.cells #[.string s,.int .i64 0,.bool false,.slice none 0 0,.slice none 0 0,.int .i64 0] 105)) w.heap.size s rs0 (Own w.heap.size (.slice none 0 0) (.slice none 0 0)) :=
  ⟨_,_,Blk.new w [.string s,.int .i64 0,.bool false,.slice none 0 0,.slice none 0 0,.int .i64 0] _,World.ownsRow_nil _ _ _ _,World.ownsRow_nil _ _ _ _,by simp [Value.ownBlock],by simp [Value.ownBlock],by simp [Value.ownBlock],rfl⟩
 refine (HS.out _ w.heap.size _ h0 rfl (inv0 s)).mono ?_
 rw [← HF.out]
 rintro e w1 ⟨rfl,O1,h1,t1⟩
 generalize hst:srcF s=st at h1 g HB
 have HST2:=hide hst
 clear hst
 have hO:∀ b,O1 b→w.heap.size≤b:=fun b hb=>by
  rcases Nat.lt_or_ge b w.heap.size with hlt|hge
  ·rcases t1.2 b hb (by simp;omega) with e|e|e
   ·omega
   ·simp [Value.ownBlock] at e
   ·simp [Value.ownBlock] at e
  ·exact hge
 have hk:Kp no w w1:=((Kp.refl no w).alloc _).trans t1.1 (fun x hx e=>by
  rcases e with e|e|e
  ·omega
  ·simp [Value.ownBlock] at e
  ·simp [Value.ownBlock] at e)
 obtain ⟨c0,c1,c2,c5,cf⟩:=h1.c
 have HO:=hide hO
 have HK:=hide hk
 clear hO hk t1
 cases hb:st.bad
 ·rw [hb] at c2
  by_cases hi:st.i<s.size
  ·have e1:srcBad s=true:=by rw [HB.out];simp [hi]
   go_wp2
   go_quiet (fail)
   go_wp2
   go_ret3
   exact ⟨_,O1,by rw [e1,HST2.out];rfl,by rw [HST2.out];exact h1.n _,HK.out.drewN _,HO.out⟩
  ·have e1:srcBad s=false:=by rw [HB.out];simp [hb,hi]
   go_wp2
   go_ret3
   exact ⟨_,O1,by rw [e1];rfl,by rw [HST2.out];exact h1,HK.out,HO.out⟩
 ·rw [hb] at c2
  have e1:srcBad s=true:=by rw [HB.out];simp [hb]
  go_wp2
  go_quiet (fail)
  go_wp2
  go_ret3
  exact ⟨_,O1,by rw [e1,HST2.out];rfl,by rw [HST2.out];exact h1.n _,HK.out.drewN _,HO.out⟩
end Go.Proofs.YtellieabhaphhabGreatDoor
namespace Go.Proofs.YtellieabhaphhabGreatDoor
open Go.RowKit
set_option maxHeartbeats 400000 in
theorem in_c (s:ByteArray) (c:Nat) (w:World) (hs:s.size≤1000) :
  Calls Tryz.prog 103 #[.string s,.int .u8 c] w fun e w'=>e=.returned (.bool (amF c s.data.toList))∧w'=w:=by
 go_enter Tryz.func103,Tryz.ntmps103
 go_wp2_with (go_at_call 144;refine (among_c c s _ hs).mono ?_;rintro e w' ⟨rfl,rfl⟩)
 go_ret
 exact ⟨rfl,rfl⟩
def capF (k:Int):ByteArray:=if k=116 then ⟨#[84]⟩ else if k=102 then ⟨#[70]⟩ else if k=122 then ⟨#[90]⟩ else ⟨#[67]⟩
set_option maxHeartbeats 400000 in
theorem capital_c (k:Int) (w:World) :
  Calls Tryz.prog 145 #[.int .u8 k] w fun e w'=>e=.returned (.string (capF k))∧w'=w:=by
 by_cases h1:k=116
 ·subst h1
  go_enter Tryz.func145,Tryz.ntmps145
  go_wp2
  go_ret
  exact ⟨rfl,rfl⟩
 by_cases h2:k=102
 ·subst h2
  go_enter Tryz.func145,Tryz.ntmps145
  go_wp2
  go_ret
  exact ⟨rfl,rfl⟩
 by_cases h3:k=122
 ·subst h3
  go_enter Tryz.func145,Tryz.ntmps145
  go_wp2
  go_ret
  exact ⟨rfl,rfl⟩
 ·have e:capF k=⟨#[67]⟩:=by simp [capF,h1,h2,h3]
  rw [e]
  have g1:(k == 116)=false:=by simp [h1]
  have g2:(k == 102)=false:=by simp [h2]
  have g3:(k == 122)=false:=by simp [h3]
  go_enter Tryz.func145,Tryz.ntmps145
  go_wp2
  go_ret
  exact ⟨rfl,rfl⟩
theorem conv1 (W:World) (k:Int):(convert 167 9 (.slice (some ⟨W.heap.size,0,none⟩) 1 1)).run Tryz.prog (W.alloc (.cells #[.int .u8 k] 5))=.ok (.string (strOfNums [k])) (W.alloc (.cells #[.int .u8 k] 5)):=by
 refine run_convert_bytes_arg (P:=Tryz.prog) _ 167 5 Tryz.underlying167 Tryz.underlying5 W.heap.size 0 1 1 [k] rfl ?_ 9 Tryz.underlying9
 intro i hi
 have h:=(Blk.new W [.int .u8 k] 5).cell (0+i)
 rw [h]
 obtain rfl:i=0:=by omega
 rfl
theorem conv2 (W:World) (k l:Int):(convert 167 9 (.slice (some ⟨W.heap.size,0,none⟩) 2 2)).run Tryz.prog (W.alloc (.cells #[.int .u8 k,.int .u8 l] 5))=.ok (.string (strOfNums [k,l])) (W.alloc (.cells #[.int .u8 k,.int .u8 l] 5)):=by
 refine run_convert_bytes_arg (P:=Tryz.prog) _ 167 5 Tryz.underlying167 Tryz.underlying5 W.heap.size 0 2 2 [k,l] rfl ?_ 9 Tryz.underlying9
 intro i hi
 have h:=(Blk.new W [.int .u8 k,.int .u8 l] 5).cell (0+i)
 rw [h]
 obtain rfl|rfl:i=0∨i=1:=by omega
 ·rfl
 ·rfl
def twoB (n:Nat):ByteArray:=strOfNums [48+(n:Int) / 10,48+(n:Int) % 10]
set_option maxRecDepth 100000 in
set_option maxHeartbeats 400000 in
theorem two_c (n:Nat) (w:World) (hn:n<100) :
  Calls Tryz.prog 99 #[.int .i64 n] w fun e w'=>e=.returned (.string (twoB n))∧Kp no w w':=by
 have hc:=conv2
 unfold twoB
 go_enter Tryz.func99,Tryz.ntmps99
 go_wp2
 go_ret
 exact ⟨rfl,by (exact kpA)⟩
def takF (op:Int):ByteArray :=
 if op=43∨op=60∨op=65 then ⟨#[110]⟩ else if op=66 then ⟨#[116,102,122]⟩ else if op=46 then ⟨#[65,66]⟩ else ⟨#[110,116,102,122,65,66,67]⟩
set_option maxHeartbeats 400000 in
theorem takes_c (n:Nd) (w:World) :
  Calls Tryz.prog 102 #[.agg #[.int .u8 n.op,.int .i64 n.x,.int .i64 n.y,.int .i64 n.v,.int .u8 n.k,.int .i64 n.t,.int .i64 n.f,.int .i64 n.a,.int .i64 n.l]] w fun e w'=>e=.returned (.string (takF n.op))∧Kp no w w':=by
 generalize n.op=o
 by_cases h1:o=43
 ·subst h1
  go_enter Tryz.func102,Tryz.ntmps102
  go_wp2
  go_ret
  exact ⟨rfl,by (exact kpA)⟩
 by_cases h2:o=60
 ·subst h2
  go_enter Tryz.func102,Tryz.ntmps102
  go_wp2
  go_ret
  exact ⟨rfl,by (exact kpA)⟩
 by_cases h3:o=65
 ·subst h3
  go_enter Tryz.func102,Tryz.ntmps102
  go_wp2
  go_ret
  exact ⟨rfl,by (exact kpA)⟩
 by_cases h4:o=66
 ·subst h4
  go_enter Tryz.func102,Tryz.ntmps102
  go_wp2
  go_ret
  exact ⟨rfl,by (exact kpA)⟩
 by_cases h5:o=46
 ·subst h5
  go_enter Tryz.func102,Tryz.ntmps102
  go_wp2
  go_ret
  exact ⟨rfl,by (exact kpA)⟩
 ·have e:takF o=⟨#[110,116,102,122,65,66,67]⟩:=by simp [takF,h1,h2,h3,h4,h5]
  rw [e]
  have g1:(o == 43)=false:=by simp [h1]
  have g2:(o == 60)=false:=by simp [h2]
  have g3:(o == 65)=false:=by simp [h3]
  have g4:(o == 66)=false:=by simp [h4]
  have g5:(o == 46)=false:=by simp [h5]
  go_enter Tryz.func102,Tryz.ntmps102
  go_wp2
  go_ret
  exact ⟨rfl,by (exact kpA)⟩
end Go.Proofs.YtellieabhaphhabGreatDoor
namespace Go.Proofs.YtellieabhaphhabGreatDoor
open Go.RowKit
structure Vl where
 k:Int
 n:Int
 v:Int
def Vl.cells (x:Vl):List Value:=[.int .u8 x.k,.int .i64 x.n,.int .u8 x.v]
def vCells (l:List Vl):List Value:=l.flatMap Vl.cells
theorem vl3 (x:Vl):x.cells.length=3:=rfl
structure Mc where
 l:List Vl
 rd:Nat
 left:Nat
 tr:ByteArray
 out:ByteArray
 e:Int
structure MB (w:World) (m lb:Nat) (inp:ByteArray) (st:Mc):Prop where
 b:Blk w m [.slice (some ⟨lb,0,none⟩) 6 6,.string inp,.int .i64 st.rd,.int .i64 st.left,.string st.tr,.string st.out,.int .i64 st.e] 115
 l:Blk w lb (vCells st.l) 151
 ne:m≠lb
 six:st.l.length=6
def MK (m lb:Nat) (b:Nat):Prop:=b=m∨b=lb
section
variable {w:World} {m lb:Nat} {inp:ByteArray} {st:Mc}
theorem MB.c (h:MB w m lb inp st):w.cell? ⟨m,0,none⟩=some (.slice (some ⟨lb,0,none⟩) 6 6)∧w.cell? ⟨m,1,none⟩=some (.string inp)∧w.cell? ⟨m,2,none⟩=some (.int .i64 st.rd) ∧
  w.cell? ⟨m,3,none⟩=some (.int .i64 st.left)∧w.cell? ⟨m,4,none⟩=some (.string st.tr)∧w.cell? ⟨m,5,none⟩=some (.string st.out)∧w.cell? ⟨m,6,none⟩=some (.int .i64 st.e)∧∀ o,w.frozen? ⟨m,o,none⟩=false :=
 ⟨h.b.cell 0,h.b.cell 1,h.b.cell 2,h.b.cell 3,h.b.cell 4,h.b.cell 5,h.b.cell 6,h.b.frozen⟩
theorem MB.v (h:MB w m lb inp st) (i j:Nat) (hi:i<st.l.length) (hj:j<3):w.cell? ⟨lb,i*3+j,none⟩=st.l[i].cells[j]?:=by
 rw [h.l.cell];exact flat_get Vl.cells 3 vl3 st.l i j hi hj
theorem MB.vs (h:MB w m lb inp st) (i:Nat) (hi:i<st.l.length):w.cell? ⟨lb,i*3,none⟩=some (.int .u8 st.l[i].k)∧w.cell? ⟨lb,i*3+1,none⟩=some (.int .i64 st.l[i].n)∧w.cell? ⟨lb,i*3+2,none⟩=some (.int .u8 st.l[i].v) :=
 ⟨h.v i 0 hi (by decide),h.v i 1 hi (by decide),h.v i 2 hi (by decide)⟩
theorem MB.lt (h:MB w m lb inp st):m<w.heap.size∧lb<w.heap.size:=⟨h.b.lt,h.l.lt⟩
theorem MB.n (h:MB w m lb inp st) (n:Nat):MB (w.drewN n) m lb inp st:=⟨h.b,h.l,h.ne,h.six⟩
theorem MB.drew (h:MB w m lb inp st):MB w.drew m lb inp st:=⟨h.b,h.l,h.ne,h.six⟩
theorem MB.alloc (h:MB w m lb inp st) (o:Obj):MB (w.alloc o) m lb inp st:=⟨h.b.alloc o,h.l.alloc o,h.ne,h.six⟩
theorem MB.kp {S:Nat→Prop} {w':World} (h:MB w m lb inp st) (k:Kp S w w') (h1:¬ S m) (h2:¬ S lb):MB w' m lb inp st:=⟨k.blk h.b h1,k.blk h.l h2,h.ne,h.six⟩
theorem MB.other (h:MB w m lb inp st) {a:Addr} (v:Value) (h1:a.block≠m) (h2:a.block≠lb):MB (w.setCell a v) m lb inp st:=⟨h.b.other v (Ne.symm h1),h.l.other v (Ne.symm h2),h.ne,h.six⟩
theorem MB.setLeft (h:MB w m lb inp st) (n:Nat):MB (w.setCell ⟨m,3,none⟩ (.int .i64 n)) m lb inp { st with left:=n }:=⟨h.b.set 3 _,h.l.other _ (Ne.symm h.ne),h.ne,h.six⟩
theorem MB.setRd (h:MB w m lb inp st) (n:Nat):MB (w.setCell ⟨m,2,none⟩ (.int .i64 n)) m lb inp { st with rd:=n }:=⟨h.b.set 2 _,h.l.other _ (Ne.symm h.ne),h.ne,h.six⟩
theorem MB.setTr (h:MB w m lb inp st) (n:ByteArray):MB (w.setCell ⟨m,4,none⟩ (.string n)) m lb inp { st with tr:=n }:=⟨h.b.set 4 _,h.l.other _ (Ne.symm h.ne),h.ne,h.six⟩
theorem MB.setOut (h:MB w m lb inp st) (n:ByteArray):MB (w.setCell ⟨m,5,none⟩ (.string n)) m lb inp { st with out:=n }:=⟨h.b.set 5 _,h.l.other _ (Ne.symm h.ne),h.ne,h.six⟩
theorem MB.setE (h:MB w m lb inp st) (n:Int):MB (w.setCell ⟨m,6,none⟩ (.int .i64 n)) m lb inp { st with e:=n }:=⟨h.b.set 6 _,h.l.other _ (Ne.symm h.ne),h.ne,h.six⟩
end
def kindsB (a:ByteArray) (l:List Vl):ByteArray:=l.foldl (fun a x=>a++strOfNums [x.k]) a
theorem kindsB_take (a:ByteArray) (l:List Vl) (j:Nat) (h:j<l.length):kindsB a (l.take (j+1))=kindsB a (l.take j)++strOfNums [l[j].k]:=by
 rw [List.take_succ_eq_append_getElem h,kindsB,List.foldl_append];rfl
theorem str1 (k:Int):(strOfNums [k]).size=1:=by simp [strOfNums_size]
theorem kindsB_size (a:ByteArray) (l:List Vl):(kindsB a l).size=a.size+l.length:=by
 unfold kindsB
 induction l generalizing a with
 | nil=>rfl
 | cons x l ih=>rw [List.foldl_cons,ih,ByteArray.size_append,str1];simp;omega
theorem twoB_size (n:Nat):(twoB n).size=2:=by simp [twoB,strOfNums_size]
def toldB (n:Nat) (l:List Vl):ByteArray:=kindsB (twoB n) l
def sp:ByteArray:=⟨#[32]⟩
set_option maxRecDepth 100000 in
set_option maxHeartbeats 1600000 in
theorem told_c {w:World} {m lb:Nat} {inp:ByteArray} {st:Mc} (n:Nat) (hn:n<100) (h:MB w m lb inp st) (ht:st.tr.size≤100000) :
  Calls Tryz.prog 101 #[.pointer (some ⟨m,0,none⟩),.int .i64 n] w fun e w'=>e=.returned (.tuple #[])∧MB w' m lb inp { st with tr:=st.tr++toldB n st.l++sp }∧Kp (MK m lb) w w':=by
 have hc:=conv1
 have hlt:=h.lt
 have h6:=h.six
 go_enter Tryz.func101,Tryz.ntmps101
 go_wp2_with fail
 refine (two_c n _ hn).mono ?_
 rintro e w1 ⟨rfl,k1⟩
 have h1:=h.kp k1 no_elim no_elim
 go_wp2
 go_loopg [4,5] 6 (fun k s i wr=>∃ j:Nat,j≤6∧k=6-j∧i=.int .i64 j∧s=.string (kindsB (twoB n) (st.l.take j))∧MB wr m lb inp st∧Kp no w wr)
 case atStart=>exact ⟨0,by decide,rfl,rfl,rfl,h1,k1⟩
 case round =>
  obtain ⟨j,hj,hk,rfl,rfl,hr,kr⟩:=hrel
  have HK:=hide hk
  have HKR:=hide kr
  clear hk kr
  obtain ⟨c0,c1,c2,c3,c4,c5,c6,cf⟩:=hr.c
  by_cases hlt6:j<6
  ·obtain ⟨v0,_,_⟩:=hr.vs j (by omega)
   have HT:=hide (kindsB_take (twoB n) st.l j (by omega))
   have hs1:=str1 st.l[j].k
   have hsz:(kindsB (twoB n) (st.l.take j)).size≤100:=by rw [kindsB_size,twoB_size,List.length_take];omega
   generalize kindsB (twoB n) (st.l.take j)=t at *
   go_wp2
   go_roundg (6-(j+1))
   case measure=>have:=HK.out;omega
   case rel=>exact ⟨j+1,by omega,rfl,by go_num,by rw [HT.out],hr.alloc _,HKR.out.alloc _⟩
  ·have hsz:(kindsB (twoB n) (st.l.take j)).size≤100:=by rw [kindsB_size,twoB_size,List.length_take];omega
   have HF:=hide (show kindsB (twoB n) (st.l.take j)=toldB n st.l by rw [List.take_of_length_le (by omega)];rfl)
   have hsp:(ByteArray.mk #[32]).size=1:=rfl
   generalize kindsB (twoB n) (st.l.take j)=t at *
   go_wp2
   go_end0
   rw [← HF.out]
   exact ⟨rfl,hr.setTr _,(HKR.out.mono (fun _ e=>e.elim)).setCell _ (fun _=>.inl rfl)⟩
end Go.Proofs.YtellieabhaphhabGreatDoor
namespace Go.Proofs.YtellieabhaphhabGreatDoor
open Go.RowKit
def startF (st:Mc) (n:Nat):Mc × Bool :=
 if st.left=0 then ({ st with e:=4 },false) else ({ st with left:=st.left-1,tr:=st.tr++toldB n st.l++sp },true)
set_option maxHeartbeats 1600000 in
theorem starts_c {w:World} {m lb:Nat} {inp:ByteArray} {st:Mc} (n:Nat) (hn:n<100) (h:MB w m lb inp st) (ht:st.tr.size≤100000) (hl:st.left≤1000) :
  Calls Tryz.prog 59 #[.pointer (some ⟨m,0,none⟩),.int .i64 n] w fun e w'=>e=.returned (.bool (startF st n).2)∧MB w' m lb inp (startF st n).1∧Kp (MK m lb) w w':=by
 obtain ⟨c0,c1,c2,c3,c4,c5,c6,cf⟩:=h.c
 by_cases hz:st.left=0
 ·have e1:startF st n=({ st with e:=4 },false):=by simp [startF,hz]
  rw [e1]
  rw [hz] at c3
  go_enter Tryz.func59,Tryz.ntmps59
  go_wp2
  go_ret
  exact ⟨rfl,h.setE 4,(Kp.refl _ _).setCell _ (fun _=>.inl rfl)⟩
 ·have e1:startF st n=({ st with left:=st.left-1,tr:=st.tr++toldB n st.l++sp },true):=by simp [startF,hz]
  rw [e1]
  have hp:0<st.left:=by omega
  have HD:=hide (show ((st.left:Int)-1)=((st.left-1:Nat):Int) by omega)
  clear hz
  go_enter Tryz.func59,Tryz.ntmps59
  go_wp2_with fail
  rw [HD.out]
  refine (told_c (st:={ st with left:=st.left-1 }) n hn (h.setLeft _) ht).mono ?_
  rintro e w1 ⟨rfl,h1,k1⟩
  go_wp2
  go_ret
  exact ⟨rfl,h1,Kp.trans ((Kp.refl _ _).setCell _ (fun _=>.inl rfl)) k1 (fun _ _ e=>e)⟩
def inVal (c:Nat):Vl :=
 if 48≤c∧c≤57 then ⟨110,(c:Int)-48,0⟩ else if c=84 then ⟨116,0,0⟩ else if c=70 then ⟨102,0,0⟩ else if c=65 then ⟨65,0,0⟩ else if c=66 then ⟨66,0,122⟩ else if c=67 then ⟨67,0,0⟩ else ⟨122,0,0⟩
def nextF (inp:ByteArray) (st:Mc):Vl × Mc :=
 if st.rd<inp.size then (inVal (pk inp st.rd),{ st with rd:=st.rd+1 }) else (inVal 90,st)
theorem Blk.c3 {w:World} {b:Nat} {a0 a1 a2:Value} {T:TypeId} (h:Blk w b [a0,a1,a2] T) :
  w.cell? ⟨b,0,none⟩=some a0∧w.cell? ⟨b,1,none⟩=some a1∧w.cell? ⟨b,2,none⟩=some a2∧∀ o,w.frozen? ⟨b,o,none⟩=false :=
 ⟨h.cell 0,h.cell 1,h.cell 2,h.frozen⟩
set_option maxHeartbeats 1600000 in
theorem next_end {w:World} {m lb:Nat} {inp:ByteArray} {st:Mc} (h:MB w m lb inp st) (_:inp.size≤40) (hr:¬ st.rd<inp.size) :
  Calls Tryz.prog 146 #[.pointer (some ⟨m,0,none⟩)] w fun e w'=>e=.returned (.agg (nextF inp st).1.cells.toArray)∧MB w' m lb inp (nextF inp st).2∧Kp (MK m lb) w w':=by
 have HV:=hide (show nextF inp st=(⟨122,0,0⟩,st) by simp [nextF,hr,inVal])
 obtain ⟨c0,c1,c2,c3,c4,c5,c6,cf⟩:=h.c
 have hlt:=h.lt
 go_enter Tryz.func146,Tryz.ntmps146
 go_wp2
 refine wp_gen (fun W=>MB W m lb inp st∧Blk W w.heap.size [.int .u8 0,.int .i64 0,.int .u8 0] 151∧Kp (MK m lb) w W) ⟨h.alloc _,by exact Blk.new w [.int .u8 0,.int .i64 0,.int .u8 0] _,by (exact kpA)⟩ ?_
 rintro W ⟨hm,hR,hk⟩
 obtain ⟨d0,d1,d2,d3,d4,d5,d6,df⟩:=hm.c
 obtain ⟨z0,z1,z2,zf⟩:=hR.c3
 clear c0 c1 c2 c3 c4 c5 c6 cf
 go_quiet (fail)
 go_wp2
 refine body_agg (Tb:=151) (b:=w.heap.size) (cs:=[.int .u8 122,.int .i64 0,.int .u8 0]) (.inr rfl) Tryz.results146 rfl rfl (by (exact blA)) Tryz.underlying151 rfl (by kernel_rfl) ?_
 rw [HV.out]
 exact ⟨rfl,by (show MB _ _ _ _ st);(repeat' (first|with_reducible exact (hm.n _)|with_reducible refine MB.alloc ?_ _|with_reducible refine MB.drew ?_|with_reducible refine MB.n ?_ _|((with_reducible refine MB.other ?_ _ ?_ ?_);rotate_left;((try dsimp only);omega);((try dsimp only);omega)))),by (exact kpA)⟩
set_option maxHeartbeats 3200000 in
theorem next_in {w:World} {m lb:Nat} {inp:ByteArray} {st:Mc} (h:MB w m lb inp st) (hi:inp.size≤40) (hr:st.rd<inp.size) :
  Calls Tryz.prog 146 #[.pointer (some ⟨m,0,none⟩)] w fun e w'=>e=.returned (.agg (nextF inp st).1.cells.toArray)∧MB w' m lb inp (nextF inp st).2∧Kp (MK m lb) w w':=by
 have HV:=hide (show nextF inp st=(inVal (pk inp st.rd),{ st with rd:=st.rd+1 }) by simp [nextF,hr])
 have HP:=hide (show pk inp st.rd=(inp[st.rd]'hr).toNat by simp [pk,hr])
 obtain ⟨c0,c1,c2,c3,c4,c5,c6,cf⟩:=h.c
 have hlt:=h.lt
 have hpl:=pk_lt inp st.rd
 go_enter Tryz.func146,Tryz.ntmps146
 go_wp2
 refine wp_gen (fun W=>MB W m lb inp st∧Blk W w.heap.size [.int .u8 0,.int .i64 0,.int .u8 0] 151∧Kp (MK m lb) w W) ⟨h.alloc _,by exact Blk.new w [.int .u8 0,.int .i64 0,.int .u8 0] _,by (exact kpA)⟩ ?_
 rintro W ⟨hm,hR,hk⟩
 obtain ⟨d0,d1,d2,d3,d4,d5,d6,df⟩:=hm.c
 obtain ⟨z0,z1,z2,zf⟩:=hR.c3
 clear c0 c1 c2 c3 c4 c5 c6 cf
 go_quiet (fail)
 go_wp2
 go_quiet (fail)
 rw [HP.out] at hpl HV
 generalize (inp[st.rd]'hr).toNat=d at *
 have hm2:∀ n1,MB ((W.drewN n1).setCell ⟨m,2,none⟩ (.int .i64 ((st.rd:Int)+1))) m lb inp { st with rd:=st.rd+1 }:=fun n1=>(hm.n n1).setRd (st.rd+1)
 by_cases g0:48≤d∧d≤57
 ·obtain ⟨g0,g0'⟩:=g0
  have EV:=hide (show inVal d=⟨110,(d:Int)-48,0⟩ by simp [inVal,g0,g0'])
  rw [EV.out] at HV
  go_wp2
  all_goals
   refine body_agg (Tb:=151) (b:=w.heap.size) (cs:=[.int .u8 110,.int .i64 ((d:Int)-48),.int .u8 0]) (.inr rfl) Tryz.results146 rfl rfl (by (exact blA)) Tryz.underlying151 rfl (by kernel_rfl) ?_
   rw [HV.out]
   exact ⟨rfl,by (show MB _ _ _ _ { st with rd:=st.rd+1 });(repeat' (first|with_reducible exact (hm2 _)|with_reducible refine MB.alloc ?_ _|with_reducible refine MB.drew ?_|with_reducible refine MB.n ?_ _|((with_reducible refine MB.other ?_ _ ?_ ?_);rotate_left;((try dsimp only);omega);((try dsimp only);omega)))),by (exact kpA)⟩
 have g0':¬ (48≤(d:Int)∧(d:Int)≤57):=by omega
 by_cases g84:d=84
 ·subst g84
  have EV:=hide (show inVal 84=⟨116,0,0⟩ by simp [inVal])
  rw [EV.out] at HV
  go_wp2
  all_goals
   refine body_agg (Tb:=151) (b:=w.heap.size) (cs:=[.int .u8 116,.int .i64 0,.int .u8 0]) (.inr rfl) Tryz.results146 rfl rfl (by (exact blA)) Tryz.underlying151 rfl (by kernel_rfl) ?_
   rw [HV.out]
   exact ⟨rfl,by (show MB _ _ _ _ { st with rd:=st.rd+1 });(repeat' (first|with_reducible exact (hm2 _)|with_reducible refine MB.alloc ?_ _|with_reducible refine MB.drew ?_|with_reducible refine MB.n ?_ _|((with_reducible refine MB.other ?_ _ ?_ ?_);rotate_left;((try dsimp only);omega);((try dsimp only);omega)))),by (exact kpA)⟩
 have f84:((d:Int) == 84)=false:=by simp;omega
 by_cases g70:d=70
 ·subst g70
  have EV:=hide (show inVal 70=⟨102,0,0⟩ by simp [inVal])
  rw [EV.out] at HV
  go_wp2
  all_goals
   refine body_agg (Tb:=151) (b:=w.heap.size) (cs:=[.int .u8 102,.int .i64 0,.int .u8 0]) (.inr rfl) Tryz.results146 rfl rfl (by (exact blA)) Tryz.underlying151 rfl (by kernel_rfl) ?_
   rw [HV.out]
   exact ⟨rfl,by (show MB _ _ _ _ { st with rd:=st.rd+1 });(repeat' (first|with_reducible exact (hm2 _)|with_reducible refine MB.alloc ?_ _|with_reducible refine MB.drew ?_|with_reducible refine MB.n ?_ _|((with_reducible refine MB.other ?_ _ ?_ ?_);rotate_left;((try dsimp only);omega);((try dsimp only);omega)))),by (exact kpA)⟩
 have f70:((d:Int) == 70)=false:=by simp;omega
 by_cases g65:d=65
 ·subst g65
  have EV:=hide (show inVal 65=⟨65,0,0⟩ by simp [inVal])
  rw [EV.out] at HV
  go_wp2
  all_goals
   refine body_agg (Tb:=151) (b:=w.heap.size) (cs:=[.int .u8 65,.int .i64 0,.int .u8 0]) (.inr rfl) Tryz.results146 rfl rfl (by (exact blA)) Tryz.underlying151 rfl (by kernel_rfl) ?_
   rw [HV.out]
   exact ⟨rfl,by (show MB _ _ _ _ { st with rd:=st.rd+1 });(repeat' (first|with_reducible exact (hm2 _)|with_reducible refine MB.alloc ?_ _|with_reducible refine MB.drew ?_|with_reducible refine MB.n ?_ _|((with_reducible refine MB.other ?_ _ ?_ ?_);rotate_left;((try dsimp only);omega);((try dsimp only);omega)))),by (exact kpA)⟩
 have f65:((d:Int) == 65)=false:=by simp;omega
 by_cases g66:d=66
 ·subst g66
  have EV:=hide (show inVal 66=⟨66,0,122⟩ by simp [inVal])
  rw [EV.out] at HV
  go_wp2
  all_goals
   refine body_agg (Tb:=151) (b:=w.heap.size) (cs:=[.int .u8 66,.int .i64 0,.int .u8 122]) (.inr rfl) Tryz.results146 rfl rfl (by (exact blA)) Tryz.underlying151 rfl (by kernel_rfl) ?_
   rw [HV.out]
   exact ⟨rfl,by (show MB _ _ _ _ { st with rd:=st.rd+1 });(repeat' (first|with_reducible exact (hm2 _)|with_reducible refine MB.alloc ?_ _|with_reducible refine MB.drew ?_|with_reducible refine MB.n ?_ _|((with_reducible refine MB.other ?_ _ ?_ ?_);rotate_left;((try dsimp only);omega);((try dsimp only);omega)))),by (exact kpA)⟩
 have f66:((d:Int) == 66)=false:=by simp;omega
 by_cases g67:d=67
 ·subst g67
  have EV:=hide (show inVal 67=⟨67,0,0⟩ by simp [inVal])
  rw [EV.out] at HV
  go_wp2
  all_goals
   refine body_agg (Tb:=151) (b:=w.heap.size) (cs:=[.int .u8 67,.int .i64 0,.int .u8 0]) (.inr rfl) Tryz.results146 rfl rfl (by (exact blA)) Tryz.underlying151 rfl (by kernel_rfl) ?_
   rw [HV.out]
   exact ⟨rfl,by (show MB _ _ _ _ { st with rd:=st.rd+1 });(repeat' (first|with_reducible exact (hm2 _)|with_reducible refine MB.alloc ?_ _|with_reducible refine MB.drew ?_|with_reducible refine MB.n ?_ _|((with_reducible refine MB.other ?_ _ ?_ ?_);rotate_left;((try dsimp only);omega);((try dsimp only);omega)))),by (exact kpA)⟩
 have f67:((d:Int) == 67)=false:=by simp;omega
 have EV:=hide (show inVal d=⟨122,0,0⟩ by simp [inVal,g0,g84,g70,g65,g66,g67])
 rw [EV.out] at HV
 go_wp2
 all_goals
  refine body_agg (Tb:=151) (b:=w.heap.size) (cs:=[.int .u8 122,.int .i64 0,.int .u8 0]) (.inr rfl) Tryz.results146 rfl rfl (by (exact blA)) Tryz.underlying151 rfl (by kernel_rfl) ?_
  rw [HV.out]
  exact ⟨rfl,by (show MB _ _ _ _ { st with rd:=st.rd+1 });(repeat' (first|with_reducible exact (hm2 _)|with_reducible refine MB.alloc ?_ _|with_reducible refine MB.drew ?_|with_reducible refine MB.n ?_ _|((with_reducible refine MB.other ?_ _ ?_ ?_);rotate_left;((try dsimp only);omega);((try dsimp only);omega)))),by (exact kpA)⟩
theorem next_c {w:World} {m lb:Nat} {inp:ByteArray} {st:Mc} (h:MB w m lb inp st) (hi:inp.size≤40) :
  Calls Tryz.prog 146 #[.pointer (some ⟨m,0,none⟩)] w fun e w'=>e=.returned (.agg (nextF inp st).1.cells.toArray)∧MB w' m lb inp (nextF inp st).2∧Kp (MK m lb) w w':=by
 by_cases hr:st.rd<inp.size
 ·exact next_in h hi hr
 ·exact next_end h hi hr
end Go.Proofs.YtellieabhaphhabGreatDoor
