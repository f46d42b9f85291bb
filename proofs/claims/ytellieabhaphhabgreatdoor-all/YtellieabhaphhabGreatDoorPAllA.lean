import Derived.Test.YtellieabhaphhabGreatDoorRows
import Derived.WalkKit
import Derived.WalkSpells
import Derived.BigQuiet
import Derived.Deep.QuietTactic
import Derived.Deep.RegionLawGrows
import Derived.Deep.RegionHeld3
import Derived.Deep.AppendLies
import Derived.Deep.Light
import Derived.Deep.Slices
import Derived.IntWalk
import Derived.ProofKit
import Derived.OpenShut
import Derived.Test.YtellieabhaphhabGreatDoorCards
import Derived.Test.YtellieabhaphhabGreatDoorTie
import Derived.Deep.DeepHandedRow
import Derived.Lib.LaidTab
import Derived.Deep.LoopGhost
import Derived.Shelf.Strconv.Itoa0
import Derived.Shelf.Strconv.Itoa1
import Derived.Shelf.LaysM
import Derived.Shelf.Strconv.Itoa2
import Derived.Shelf.Strconv.Itoa3
import Derived.Test.YtellieabhaphhabGreatDoorProg
import Derived.Deep.MidRow
import Derived.Deep.WholeRow
import Derived.Deep.Cut
import Derived.OwnWalk
namespace Go.Proofs.YtellieabhaphhabGreatDoor
open Go.RowKit
def Blk (w:World) (b:Nat) (cs:List Value) (T:TypeId):Prop:=w.heap[b]?=some (.cells cs.toArray T (0,0))
theorem Blk.cell {w:World} {b:Nat} {cs:List Value} {T:TypeId} (h:Blk w b cs T) (o:Nat):w.cell? ⟨b,o,none⟩=cs[o]?:=by
 rw [cell_of_row w b o cs.toArray T (0,0) h];simp
theorem Blk.frozen {w:World} {b:Nat} {cs:List Value} {T:TypeId} (h:Blk w b cs T) (o:Nat):w.frozen? ⟨b,o,none⟩=false:=by
 have h':w.heap[b]?=some (.cells cs.toArray T (0,0)):=h
 simp [World.frozen?,h']
theorem Blk.lt {w:World} {b:Nat} {cs:List Value} {T:TypeId} (h:Blk w b cs T):b<w.heap.size:=by
 have h':w.heap[b]?=some (.cells cs.toArray T (0,0)):=h
 exact (Array.getElem?_eq_some_iff.1 h').1
theorem Blk.set {w:World} {b:Nat} {cs:List Value} {T:TypeId} (h:Blk w b cs T) (o:Nat) (v:Value):Blk (w.setCell ⟨b,o,none⟩ v) b (cs.set o v) T:=by
 have h':w.heap[b]?=some (.cells cs.toArray T (0,0)):=h
 simp [Blk,World.setCell,Array.getElem?_modify,h']
theorem Blk.setB {w:World} {b:Nat} {cs cs0:List Value} {T:TypeId} {o:Nat} {v:Value} (h:Blk w b cs0 T) (e:cs0.set o v=cs):Blk (w.setCell ⟨b,o,none⟩ v) b cs T:=e ▸ h.set o v
theorem Blk.other {w:World} {b:Nat} {cs:List Value} {T:TypeId} (h:Blk w b cs T) {a:Addr} (v:Value) (hb:b≠a.block):Blk (w.setCell a v) b cs T:=by
 unfold Blk;rw [Below.heap_setCell _ _ _ _ hb];exact h
theorem Blk.alloc {w:World} {b:Nat} {cs:List Value} {T:TypeId} (h:Blk w b cs T) (o:Obj):Blk (w.alloc o) b cs T:=by
 unfold Blk;rw [Below.heap_alloc _ _ _ h.lt];exact h
theorem Blk.new (w:World) (cs:List Value) (T:TypeId):Blk (w.alloc (.cells cs.toArray T)) w.heap.size cs T:=heap_alloc_new w _
theorem Blk.newAt (w:World) (cs:List Value) (T:TypeId) {b:Nat} (h:b=w.heap.size):Blk (w.alloc (.cells cs.toArray T)) b cs T:=by subst h;exact heap_alloc_new w _
theorem Blk.drew {w:World} {b:Nat} {cs:List Value} {T:TypeId} (h:Blk w b cs T):Blk w.drew b cs T:=h
theorem Blk.drewN {w:World} {b:Nat} {cs:List Value} {T:TypeId} (h:Blk w b cs T) (n:Nat):Blk (w.drewN n) b cs T:=h
structure Kp (S:Nat→Prop) (w w':World):Prop where
 os:w'.os=w.os
 tape:w'.tape=w.tape
 output:w'.output=w.output
 size:w.heap.size≤w'.heap.size
 block:∀ k,k<w.heap.size→¬ S k→w'.heap[k]?=w.heap[k]?
def no:Nat→Prop:=fun _=>False
theorem Kp.refl (S:Nat→Prop) (w:World):Kp S w w:=⟨rfl,rfl,rfl,Nat.le_refl _,fun _ _ _=>rfl⟩
theorem Kp.trans {S S':Nat→Prop} {a b c:World} (h:Kp S a b) (k:Kp S' b c) (hs:∀ x,x<a.heap.size→S' x→S x):Kp S a c :=
 ⟨k.os.trans h.os,k.tape.trans h.tape,k.output.trans h.output,Nat.le_trans h.size k.size,
  fun i hi hn=>(k.block i (Nat.lt_of_lt_of_le hi h.size) (fun e=>hn (hs i hi e))).trans (h.block i hi hn)⟩
theorem Kp.mono {S S':Nat→Prop} {a b:World} (h:Kp S a b) (hs:∀ x,S x→S' x):Kp S' a b :=
 ⟨h.os,h.tape,h.output,h.size,fun i hi hn=>h.block i hi (fun e=>hn (hs i e))⟩
theorem Kp.drew {S:Nat→Prop} {a w:World} (h:Kp S a w):Kp S a w.drew:=⟨h.os,h.tape,h.output,h.size,h.block⟩
theorem Kp.drewN {S:Nat→Prop} {a w:World} (h:Kp S a w) (n:Nat):Kp S a (w.drewN n):=⟨h.os,h.tape,h.output,h.size,h.block⟩
theorem Kp.alloc {S:Nat→Prop} {a w:World} (h:Kp S a w) (o:Obj):Kp S a (w.alloc o) :=
 h.trans (S':=no) ⟨rfl,rfl,rfl,by simp,fun k hk _=>Below.heap_alloc _ _ _ hk⟩ (fun _ _ e=>e.elim)
theorem Kp.setCell {S:Nat→Prop} {a w:World} (h:Kp S a w) {p:Addr} (u:Value) (hp:p.block<a.heap.size→S p.block):Kp S a (w.setCell p u) :=
 h.trans (S':=fun x=>x=p.block) ⟨rfl,rfl,rfl,by simp [World.setCell],fun k _ hk=>Below.heap_setCell _ _ _ _ hk⟩ (fun x hx e=>by subst e;exact hp hx)
theorem Kp.blk {S:Nat→Prop} {w w':World} (h:Kp S w w') {b:Nat} {cs:List Value} {T:TypeId} (k:Blk w b cs T) (hb:¬ S b):Blk w' b cs T:=by
 unfold Blk;rw [h.block b k.lt hb];exact k
theorem Kp.grown {S:Nat→Prop} {a w w':World} {row:Option Nat} (h:Kp S a w) (hg:w.grownBy w' row) (hr:∀ k,k<a.heap.size→row=some k→S k):Kp S a w' :=
 h.trans (S':=fun x=>some x=row) ⟨hg.os,hg.tape,hg.output,hg.size,fun k hk hn=>hg.block k hk (fun e=>hn e)⟩ (fun x hx e=>hr x hx e.symm)
theorem Kp.cell {S:Nat→Prop} {w w':World} (h:Kp S w w') {b:Nat} (hb:b<w.heap.size) (hn:¬ S b) (o:Nat):w'.cell? ⟨b,o,none⟩=w.cell? ⟨b,o,none⟩:=World.cell?_of_block (w:=w) (h.block b hb hn)
abbrev Row (w:World) (v:Value) (e:TypeId) (size n:Nat) (xs:List Value):Prop:=w.ownsRow 0 e size v n xs
theorem Kp.row {S:Nat→Prop} {w w':World} (h:Kp S w w') {v:Value} {e:TypeId} {size n:Nat} {xs:List Value} (k:Row w v e size n xs) (hb:∀ b,v.ownBlock=some b→¬ S b):Row w' v e size n xs:=by
 refine ⟨k.1,?_⟩
 rcases k.2 with hn|⟨g,cap,cur,rfl,hb',hg,rest⟩
 ·exact .inl hn
 ·refine .inr ⟨g,cap,cur,rfl,hb',?_,rest⟩
  rw [h.block g (Array.getElem?_eq_some_iff.1 hg).1 (hb g rfl)]
  exact hg
theorem hide {p:Prop} (h:p):Hid p:=h
theorem wp_gen {P:Program} {c:Code} {Q:Exit→Act→World→Prop} {a:Act} {W:World} (G:World→Prop) (hG:G W) (h:∀ W',G W'→Code.wp P c Q a W'):Code.wp P c Q a W:=h W hG
theorem body_agg {P:Program} {fn:Func} {R:Ending→World→Prop} {x:Exit} {a:Act} {w:World} {k T Tb b:Nat} {cs:List Value} {d:TypeDesc}
  (hx:x=.normal∨x=.ret) (hres:fn.results=#[.cell k T]) (ha:a.tmps.getD k undef=.pointer (some ⟨b,0,none⟩)) (hd:a.defers=[])
  (hb:Blk w b cs Tb) (hu:P.underlying T=some d) (hd':(match d with|.struct _|.array _ _=>true|_=>false)=true) (hi:(P.info? T).map (·.size)=some cs.length)
  (hR:R (.returned (.agg cs.toArray)) w):bodyPost P fn R x a w:=by
 have hrun:=run_loadVar_row (P:=P) w b Tb T cs.toArray (0,0) d hb hu hd' (by simpa using hi)
 have hr:(results fn a.tmps).run P w=.ok (.agg cs.toArray) w:=by
  have ha':a.tmps[k]?.getD undef=.pointer (some ⟨b,0,none⟩):=by simpa using ha
  simp only [results,hres]
  simp [ha',asAddr,hrun]
 rcases hx with rfl|rfl <;> exact ⟨hd,_,hr,hR⟩
theorem ret_i64 {a b:Int} (h:a=b):Ending.returned (.int .i64 a)=.returned (.int .i64 b):=by rw [h]
theorem drewN2 (w:World) (a b:Nat):(w.drewN a).drewN b=w.drewN (a+b):=by simp [World.drewN,Nat.add_assoc]
def pk (s:ByteArray) (i:Nat):Nat:=if h:i<s.size then (s[i]'h).toNat else 0
theorem pk_lt (s:ByteArray) (i:Nat):pk s i<256:=by
 unfold pk;split
 ·exact UInt8.toNat_lt _
 ·decide
theorem kpA0 {S:Nat→Prop} {w w':World} (h:Kp S w w':=by repeat' first|with_reducible(first|exact Kp.refl _ _|(show Kp _ _ _;assumption)|refine Kp.alloc ?_ _|refine Kp.drewN ?_ _|refine Kp.drew ?_|refine Kp.setCell ?_ _ ?_)|(intro hh;first|rfl|exact .inl rfl|exact .inr rfl|(exfalso;(try dsimp only at hh);omega))):Kp S w w':=h
theorem kpA1 {S:Nat→Prop} {w w':World} (h:Kp S w w':=by repeat' first|with_reducible(first|exact Kp.refl _ _|(show Kp _ _ _;assumption)|refine Kp.alloc ?_ _|refine Kp.drewN ?_ _|refine Kp.drew ?_|refine Kp.setCell ?_ _ ?_|(rename Kp _ _ _=>zq1a8;first|exact Kp.trans kpA0 zq1a8 fun _ _ e=>e|(replace zq1a8:=hide zq1a8;(rename Kp _ _ _=>zq1a7;first|exact Kp.trans kpA0 zq1a7 fun _ _ e=>e|(replace zq1a7:=hide zq1a7;(rename Kp _ _ _=>zq1a6;first|exact Kp.trans kpA0 zq1a6 fun _ _ e=>e|(replace zq1a6:=hide zq1a6;(rename Kp _ _ _=>zq1a5;first|exact Kp.trans kpA0 zq1a5 fun _ _ e=>e|(replace zq1a5:=hide zq1a5;(rename Kp _ _ _=>zq1a4;first|exact Kp.trans kpA0 zq1a4 fun _ _ e=>e|(replace zq1a4:=hide zq1a4;(rename Kp _ _ _=>zq1a3;first|exact Kp.trans kpA0 zq1a3 fun _ _ e=>e|(replace zq1a3:=hide zq1a3;(rename Kp _ _ _=>zq1a2;first|exact Kp.trans kpA0 zq1a2 fun _ _ e=>e|(replace zq1a2:=hide zq1a2;(rename Kp _ _ _=>zq1a1;first|exact Kp.trans kpA0 zq1a1 fun _ _ e=>e|(replace zq1a1:=hide zq1a1;fail))))))))))))))))|(rename Hid (Kp _ _ _)=>zq1b8;first|exact Kp.trans kpA0 zq1b8.out fun _ _ e=>e|(replace zq1b8:=zq1b8.out;(rename Hid (Kp _ _ _)=>zq1b7;first|exact Kp.trans kpA0 zq1b7.out fun _ _ e=>e|(replace zq1b7:=zq1b7.out;(rename Hid (Kp _ _ _)=>zq1b6;first|exact Kp.trans kpA0 zq1b6.out fun _ _ e=>e|(replace zq1b6:=zq1b6.out;(rename Hid (Kp _ _ _)=>zq1b5;first|exact Kp.trans kpA0 zq1b5.out fun _ _ e=>e|(replace zq1b5:=zq1b5.out;(rename Hid (Kp _ _ _)=>zq1b4;first|exact Kp.trans kpA0 zq1b4.out fun _ _ e=>e|(replace zq1b4:=zq1b4.out;(rename Hid (Kp _ _ _)=>zq1b3;first|exact Kp.trans kpA0 zq1b3.out fun _ _ e=>e|(replace zq1b3:=zq1b3.out;(rename Hid (Kp _ _ _)=>zq1b2;first|exact Kp.trans kpA0 zq1b2.out fun _ _ e=>e|(replace zq1b2:=zq1b2.out;(rename Hid (Kp _ _ _)=>zq1b1;first|exact Kp.trans kpA0 zq1b1.out fun _ _ e=>e|(replace zq1b1:=zq1b1.out;fail)))))))))))))))))|(intro hh;first|rfl|exact .inl rfl|exact .inr rfl|(exfalso;(try dsimp only at hh);omega))):Kp S w w':=h
theorem kpA2 {S:Nat→Prop} {w w':World} (h:Kp S w w':=by repeat' first|with_reducible(first|exact Kp.refl _ _|(show Kp _ _ _;assumption)|refine Kp.alloc ?_ _|refine Kp.drewN ?_ _|refine Kp.drew ?_|refine Kp.setCell ?_ _ ?_|(rename Kp _ _ _=>zq2a8;first|exact Kp.trans kpA1 zq2a8 fun _ _ e=>e|(replace zq2a8:=hide zq2a8;(rename Kp _ _ _=>zq2a7;first|exact Kp.trans kpA1 zq2a7 fun _ _ e=>e|(replace zq2a7:=hide zq2a7;(rename Kp _ _ _=>zq2a6;first|exact Kp.trans kpA1 zq2a6 fun _ _ e=>e|(replace zq2a6:=hide zq2a6;(rename Kp _ _ _=>zq2a5;first|exact Kp.trans kpA1 zq2a5 fun _ _ e=>e|(replace zq2a5:=hide zq2a5;(rename Kp _ _ _=>zq2a4;first|exact Kp.trans kpA1 zq2a4 fun _ _ e=>e|(replace zq2a4:=hide zq2a4;(rename Kp _ _ _=>zq2a3;first|exact Kp.trans kpA1 zq2a3 fun _ _ e=>e|(replace zq2a3:=hide zq2a3;(rename Kp _ _ _=>zq2a2;first|exact Kp.trans kpA1 zq2a2 fun _ _ e=>e|(replace zq2a2:=hide zq2a2;(rename Kp _ _ _=>zq2a1;first|exact Kp.trans kpA1 zq2a1 fun _ _ e=>e|(replace zq2a1:=hide zq2a1;fail))))))))))))))))|(rename Hid (Kp _ _ _)=>zq2b8;first|exact Kp.trans kpA1 zq2b8.out fun _ _ e=>e|(replace zq2b8:=zq2b8.out;(rename Hid (Kp _ _ _)=>zq2b7;first|exact Kp.trans kpA1 zq2b7.out fun _ _ e=>e|(replace zq2b7:=zq2b7.out;(rename Hid (Kp _ _ _)=>zq2b6;first|exact Kp.trans kpA1 zq2b6.out fun _ _ e=>e|(replace zq2b6:=zq2b6.out;(rename Hid (Kp _ _ _)=>zq2b5;first|exact Kp.trans kpA1 zq2b5.out fun _ _ e=>e|(replace zq2b5:=zq2b5.out;(rename Hid (Kp _ _ _)=>zq2b4;first|exact Kp.trans kpA1 zq2b4.out fun _ _ e=>e|(replace zq2b4:=zq2b4.out;(rename Hid (Kp _ _ _)=>zq2b3;first|exact Kp.trans kpA1 zq2b3.out fun _ _ e=>e|(replace zq2b3:=zq2b3.out;(rename Hid (Kp _ _ _)=>zq2b2;first|exact Kp.trans kpA1 zq2b2.out fun _ _ e=>e|(replace zq2b2:=zq2b2.out;(rename Hid (Kp _ _ _)=>zq2b1;first|exact Kp.trans kpA1 zq2b1.out fun _ _ e=>e|(replace zq2b1:=zq2b1.out;fail)))))))))))))))))|(intro hh;first|rfl|exact .inl rfl|exact .inr rfl|(exfalso;(try dsimp only at hh);omega))):Kp S w w':=h
theorem kpA3 {S:Nat→Prop} {w w':World} (h:Kp S w w':=by repeat' first|with_reducible(first|exact Kp.refl _ _|(show Kp _ _ _;assumption)|refine Kp.alloc ?_ _|refine Kp.drewN ?_ _|refine Kp.drew ?_|refine Kp.setCell ?_ _ ?_|(rename Kp _ _ _=>zq3a8;first|exact Kp.trans kpA2 zq3a8 fun _ _ e=>e|(replace zq3a8:=hide zq3a8;(rename Kp _ _ _=>zq3a7;first|exact Kp.trans kpA2 zq3a7 fun _ _ e=>e|(replace zq3a7:=hide zq3a7;(rename Kp _ _ _=>zq3a6;first|exact Kp.trans kpA2 zq3a6 fun _ _ e=>e|(replace zq3a6:=hide zq3a6;(rename Kp _ _ _=>zq3a5;first|exact Kp.trans kpA2 zq3a5 fun _ _ e=>e|(replace zq3a5:=hide zq3a5;(rename Kp _ _ _=>zq3a4;first|exact Kp.trans kpA2 zq3a4 fun _ _ e=>e|(replace zq3a4:=hide zq3a4;(rename Kp _ _ _=>zq3a3;first|exact Kp.trans kpA2 zq3a3 fun _ _ e=>e|(replace zq3a3:=hide zq3a3;(rename Kp _ _ _=>zq3a2;first|exact Kp.trans kpA2 zq3a2 fun _ _ e=>e|(replace zq3a2:=hide zq3a2;(rename Kp _ _ _=>zq3a1;first|exact Kp.trans kpA2 zq3a1 fun _ _ e=>e|(replace zq3a1:=hide zq3a1;fail))))))))))))))))|(rename Hid (Kp _ _ _)=>zq3b8;first|exact Kp.trans kpA2 zq3b8.out fun _ _ e=>e|(replace zq3b8:=zq3b8.out;(rename Hid (Kp _ _ _)=>zq3b7;first|exact Kp.trans kpA2 zq3b7.out fun _ _ e=>e|(replace zq3b7:=zq3b7.out;(rename Hid (Kp _ _ _)=>zq3b6;first|exact Kp.trans kpA2 zq3b6.out fun _ _ e=>e|(replace zq3b6:=zq3b6.out;(rename Hid (Kp _ _ _)=>zq3b5;first|exact Kp.trans kpA2 zq3b5.out fun _ _ e=>e|(replace zq3b5:=zq3b5.out;(rename Hid (Kp _ _ _)=>zq3b4;first|exact Kp.trans kpA2 zq3b4.out fun _ _ e=>e|(replace zq3b4:=zq3b4.out;(rename Hid (Kp _ _ _)=>zq3b3;first|exact Kp.trans kpA2 zq3b3.out fun _ _ e=>e|(replace zq3b3:=zq3b3.out;(rename Hid (Kp _ _ _)=>zq3b2;first|exact Kp.trans kpA2 zq3b2.out fun _ _ e=>e|(replace zq3b2:=zq3b2.out;(rename Hid (Kp _ _ _)=>zq3b1;first|exact Kp.trans kpA2 zq3b1.out fun _ _ e=>e|(replace zq3b1:=zq3b1.out;fail)))))))))))))))))|(intro hh;first|rfl|exact .inl rfl|exact .inr rfl|(exfalso;(try dsimp only at hh);omega))):Kp S w w':=h
theorem kpA4 {S:Nat→Prop} {w w':World} (h:Kp S w w':=by repeat' first|with_reducible(first|exact Kp.refl _ _|(show Kp _ _ _;assumption)|refine Kp.alloc ?_ _|refine Kp.drewN ?_ _|refine Kp.drew ?_|refine Kp.setCell ?_ _ ?_|(rename Kp _ _ _=>zq4a8;first|exact Kp.trans kpA3 zq4a8 fun _ _ e=>e|(replace zq4a8:=hide zq4a8;(rename Kp _ _ _=>zq4a7;first|exact Kp.trans kpA3 zq4a7 fun _ _ e=>e|(replace zq4a7:=hide zq4a7;(rename Kp _ _ _=>zq4a6;first|exact Kp.trans kpA3 zq4a6 fun _ _ e=>e|(replace zq4a6:=hide zq4a6;(rename Kp _ _ _=>zq4a5;first|exact Kp.trans kpA3 zq4a5 fun _ _ e=>e|(replace zq4a5:=hide zq4a5;(rename Kp _ _ _=>zq4a4;first|exact Kp.trans kpA3 zq4a4 fun _ _ e=>e|(replace zq4a4:=hide zq4a4;(rename Kp _ _ _=>zq4a3;first|exact Kp.trans kpA3 zq4a3 fun _ _ e=>e|(replace zq4a3:=hide zq4a3;(rename Kp _ _ _=>zq4a2;first|exact Kp.trans kpA3 zq4a2 fun _ _ e=>e|(replace zq4a2:=hide zq4a2;(rename Kp _ _ _=>zq4a1;first|exact Kp.trans kpA3 zq4a1 fun _ _ e=>e|(replace zq4a1:=hide zq4a1;fail))))))))))))))))|(rename Hid (Kp _ _ _)=>zq4b8;first|exact Kp.trans kpA3 zq4b8.out fun _ _ e=>e|(replace zq4b8:=zq4b8.out;(rename Hid (Kp _ _ _)=>zq4b7;first|exact Kp.trans kpA3 zq4b7.out fun _ _ e=>e|(replace zq4b7:=zq4b7.out;(rename Hid (Kp _ _ _)=>zq4b6;first|exact Kp.trans kpA3 zq4b6.out fun _ _ e=>e|(replace zq4b6:=zq4b6.out;(rename Hid (Kp _ _ _)=>zq4b5;first|exact Kp.trans kpA3 zq4b5.out fun _ _ e=>e|(replace zq4b5:=zq4b5.out;(rename Hid (Kp _ _ _)=>zq4b4;first|exact Kp.trans kpA3 zq4b4.out fun _ _ e=>e|(replace zq4b4:=zq4b4.out;(rename Hid (Kp _ _ _)=>zq4b3;first|exact Kp.trans kpA3 zq4b3.out fun _ _ e=>e|(replace zq4b3:=zq4b3.out;(rename Hid (Kp _ _ _)=>zq4b2;first|exact Kp.trans kpA3 zq4b2.out fun _ _ e=>e|(replace zq4b2:=zq4b2.out;(rename Hid (Kp _ _ _)=>zq4b1;first|exact Kp.trans kpA3 zq4b1.out fun _ _ e=>e|(replace zq4b1:=zq4b1.out;fail)))))))))))))))))|(intro hh;first|rfl|exact .inl rfl|exact .inr rfl|(exfalso;(try dsimp only at hh);omega))):Kp S w w':=h
theorem kpA {S:Nat→Prop} {w w':World} (h:Kp S w w':=by repeat' first|with_reducible(first|exact Kp.refl _ _|(show Kp _ _ _;assumption)|refine Kp.alloc ?_ _|refine Kp.drewN ?_ _|refine Kp.drew ?_|refine Kp.setCell ?_ _ ?_|(rename Kp _ _ _=>zq5a8;first|exact Kp.trans kpA4 zq5a8 fun _ _ e=>e|(replace zq5a8:=hide zq5a8;(rename Kp _ _ _=>zq5a7;first|exact Kp.trans kpA4 zq5a7 fun _ _ e=>e|(replace zq5a7:=hide zq5a7;(rename Kp _ _ _=>zq5a6;first|exact Kp.trans kpA4 zq5a6 fun _ _ e=>e|(replace zq5a6:=hide zq5a6;(rename Kp _ _ _=>zq5a5;first|exact Kp.trans kpA4 zq5a5 fun _ _ e=>e|(replace zq5a5:=hide zq5a5;(rename Kp _ _ _=>zq5a4;first|exact Kp.trans kpA4 zq5a4 fun _ _ e=>e|(replace zq5a4:=hide zq5a4;(rename Kp _ _ _=>zq5a3;first|exact Kp.trans kpA4 zq5a3 fun _ _ e=>e|(replace zq5a3:=hide zq5a3;(rename Kp _ _ _=>zq5a2;first|exact Kp.trans kpA4 zq5a2 fun _ _ e=>e|(replace zq5a2:=hide zq5a2;(rename Kp _ _ _=>zq5a1;first|exact Kp.trans kpA4 zq5a1 fun _ _ e=>e|(replace zq5a1:=hide zq5a1;fail))))))))))))))))|(rename Hid (Kp _ _ _)=>zq5b8;first|exact Kp.trans kpA4 zq5b8.out fun _ _ e=>e|(replace zq5b8:=zq5b8.out;(rename Hid (Kp _ _ _)=>zq5b7;first|exact Kp.trans kpA4 zq5b7.out fun _ _ e=>e|(replace zq5b7:=zq5b7.out;(rename Hid (Kp _ _ _)=>zq5b6;first|exact Kp.trans kpA4 zq5b6.out fun _ _ e=>e|(replace zq5b6:=zq5b6.out;(rename Hid (Kp _ _ _)=>zq5b5;first|exact Kp.trans kpA4 zq5b5.out fun _ _ e=>e|(replace zq5b5:=zq5b5.out;(rename Hid (Kp _ _ _)=>zq5b4;first|exact Kp.trans kpA4 zq5b4.out fun _ _ e=>e|(replace zq5b4:=zq5b4.out;(rename Hid (Kp _ _ _)=>zq5b3;first|exact Kp.trans kpA4 zq5b3.out fun _ _ e=>e|(replace zq5b3:=zq5b3.out;(rename Hid (Kp _ _ _)=>zq5b2;first|exact Kp.trans kpA4 zq5b2.out fun _ _ e=>e|(replace zq5b2:=zq5b2.out;(rename Hid (Kp _ _ _)=>zq5b1;first|exact Kp.trans kpA4 zq5b1.out fun _ _ e=>e|(replace zq5b1:=zq5b1.out;fail)))))))))))))))))|(intro hh;first|rfl|exact .inl rfl|exact .inr rfl|(exfalso;(try dsimp only at hh);omega))):Kp S w w':=h
theorem blA {w:World} {b:Nat} {cs:List Value} {T:TypeId} (h:Blk w b cs T:=by repeat' first|((with_reducible show(_:List Value)=_);rfl)|with_reducible(first|(show Blk _ _ _ _;assumption)|exact (Hid.out ‹Hid (Blk _ _ _ _)›)|(refine Blk.newAt _ _ _ ?_;rfl))|((with_reducible refine Blk.newAt _ _ _ ?_);simp;done)|with_reducible(first|refine Blk.alloc ?_ _|refine Blk.drewN ?_ _|refine Blk.drew ?_)|((with_reducible refine Blk.other ?_ _ ?_);rotate_left;(try dsimp only);omega)|with_reducible refine Blk.setB (cs0:=?_) ?_ ?_):Blk w b cs T:=h
end Go.Proofs.YtellieabhaphhabGreatDoor
namespace Go.Proofs.YtellieabhaphhabGreatDoor
open Go.RowKit
set_option maxHeartbeats 400000 in
theorem peek_c (r i:Nat) (s:ByteArray) (bad:Bool) (nv iv:Value) (lp:Int) (w:World)
  (h:Blk w r [.string s,.int .i64 i,.bool bad,nv,iv,.int .i64 lp] 105) :
  Calls Tryz.prog 135 #[.pointer (some ⟨r,0,none⟩)] w fun e w'=>e=.returned (.int .u8 (pk s i))∧∃ n,w'=w.drewN n:=by
 have h0:=h.cell 0;have h1:=h.cell 1
 simp only [List.getElem?_cons_zero,List.getElem?_cons_succ] at h0 h1
 clear h
 by_cases hi:i<s.size
 ·go_enter Tryz.func135,Tryz.ntmps135
  go_wp2
  go_quiet (fail)
  go_wp2
  go_quiet (fail)
  go_wp2
  go_ret
  refine ⟨by simp [pk,hi],_,drewN2 _ _ _⟩
 ·go_enter Tryz.func135,Tryz.ntmps135
  go_wp2
  go_quiet (fail)
  go_wp2
  go_ret
  refine ⟨by simp [pk,hi],_,rfl⟩
def RB (w:World) (r:Nat) (s:ByteArray) (p:Nat × Bool) (nv iv:Value) (lp:Int):Prop :=
 Blk w r [.string s,.int .i64 p.1,.bool p.2,nv,iv,.int .i64 lp] 105
def eatF (s:ByteArray) (p:Nat × Bool) (c:Nat):Nat × Bool:=if p.2 || pk s p.1 != c then (p.1,true) else (p.1+1,false)
theorem RB.n {w:World} {r:Nat} {s:ByteArray} {p:Nat × Bool} {nv iv:Value} {lp:Int} (h:RB w r s p nv iv lp) (n:Nat):RB (w.drewN n) r s p nv iv lp:=h
theorem RB.bad {w:World} {r:Nat} {s:ByteArray} {p:Nat × Bool} {nv iv:Value} {lp:Int} (h:RB w r s p nv iv lp):RB (w.setCell ⟨r,2,none⟩ (.bool true)) r s (p.1,true) nv iv lp :=
 Blk.set h 2 (.bool true)
theorem RB.next {w:World} {r:Nat} {s:ByteArray} {p:Nat × Bool} {nv iv:Value} {lp:Int} (h:RB w r s p nv iv lp):RB (w.setCell ⟨r,1,none⟩ (.int .i64 (p.1+1))) r s (p.1+1,p.2) nv iv lp :=
 Blk.set h 1 (.int .i64 (p.1+1))
theorem Kp.set {a w:World} {r:Nat} (h:Kp (·=r) a w) (o:Nat) (v:Value):Kp (·=r) a (w.setCell ⟨r,o,none⟩ v):=h.setCell v (fun _=>rfl)
set_option maxHeartbeats 400000 in
theorem eat_c (r i c:Nat) (s:ByteArray) (bad:Bool) (nv iv:Value) (lp:Int) (w:World) (hs:s.size≤1000) (hi:i≤s.size)
  (h:RB w r s (i,bad) nv iv lp) :
  Calls Tryz.prog 142 #[.pointer (some ⟨r,0,none⟩),.int .u8 c] w fun e w'=>e=.returned (.tuple #[])∧RB w' r s (eatF s (i,bad) c) nv iv lp∧Kp (·=r) w w':=by
 have HP:=hide (peek_c r i s bad nv iv lp w h)
 have HB:=hide h
 unfold RB at h
 have h0:=h.cell 0;have h1:=h.cell 1;have h2:=h.cell 2;have hf:=h.frozen
 simp only [List.getElem?_cons_zero,List.getElem?_cons_succ] at h0 h1 h2
 clear h
 generalize hc:pk s i=d at HP
 have HC:=hide hc
 clear hc
 cases bad
 ·by_cases hd:d=c
  ·subst hd
   go_enter Tryz.func142,Tryz.ntmps142
   go_wp2_with (go_at_call 135;refine HP.out.mono ?_;rintro e w' ⟨rfl,n,rfl⟩)
   go_end0
   have e1:eatF s (i,false) d=(i+1,false):=by simp [eatF,HC.out]
   rw [e1]
   exact ⟨rfl,(HB.out.n n).next,((Kp.refl _ _).drewN n).set _ _⟩
  ·have hd':((d:Int) == c)=false:=by simp;omega
   go_enter Tryz.func142,Tryz.ntmps142
   go_wp2_with (go_at_call 135;refine HP.out.mono ?_;rintro e w' ⟨rfl,n,rfl⟩)
   go_end0
   have e1:eatF s (i,false) c=(i,true):=by simp [eatF,HC.out,hd]
   rw [e1]
   exact ⟨rfl,(HB.out.n n).bad,((Kp.refl _ _).drewN n).set _ _⟩
 ·go_enter Tryz.func142,Tryz.ntmps142
  go_wp2_with (go_at_call 135;refine HP.out.mono ?_;rintro e w' ⟨rfl,n,rfl⟩)
  go_end0
  have e1:eatF s (i,true) c=(i,true):=by simp [eatF]
  rw [e1]
  exact ⟨rfl,(HB.out.n n).bad,((Kp.refl _ _).drewN n).set _ _⟩
def varF (s:ByteArray) (p:Nat × Bool):Nat × (Nat × Bool) :=
 if p.2 || decide (pk s p.1<97) || decide (102<pk s p.1) then (0,(p.1,true)) else (pk s p.1-97,(p.1+1,false))
set_option maxHeartbeats 400000 in
theorem variable_c (r i:Nat) (s:ByteArray) (bad:Bool) (nv iv:Value) (lp:Int) (w:World) (hs:s.size≤1000) (hi:i≤s.size)
  (h:RB w r s (i,bad) nv iv lp) :
  Calls Tryz.prog 160 #[.pointer (some ⟨r,0,none⟩)] w fun e w'=>e=.returned (.int .i64 (varF s (i,bad)).1)∧RB w' r s (varF s (i,bad)).2 nv iv lp∧Kp (·=r) w w':=by
 have HP:=hide (peek_c r i s bad nv iv lp w h)
 have HB:=hide h
 unfold RB at h
 have h0:=h.cell 0;have h1:=h.cell 1;have h2:=h.cell 2;have hf:=h.frozen
 simp only [List.getElem?_cons_zero,List.getElem?_cons_succ] at h0 h1 h2
 clear h
 have hlt:=pk_lt s i
 generalize hc:pk s i=d at HP hlt
 have HC:=hide hc
 clear hc
 cases bad
 ·by_cases hd:d<97
  ·go_enter Tryz.func160,Tryz.ntmps160
   go_wp2_with (go_at_call 135;refine HP.out.mono ?_;rintro e w' ⟨rfl,n,rfl⟩)
   go_ret
   have e1:varF s (i,false)=(0,(i,true)):=by simp [varF,HC.out,hd]
   rw [e1]
   exact ⟨rfl,(HB.out.n n).bad,((Kp.refl _ _).drewN n).set _ _⟩
  ·by_cases hd2:102<d
   ·go_enter Tryz.func160,Tryz.ntmps160
    go_wp2_with (go_at_call 135;refine HP.out.mono ?_;rintro e w' ⟨rfl,n,rfl⟩)
    go_ret
    have e1:varF s (i,false)=(0,(i,true)):=by simp [varF,HC.out,hd2]
    rw [e1]
    exact ⟨rfl,(HB.out.n n).bad,((Kp.refl _ _).drewN n).set _ _⟩
   ·go_enter Tryz.func160,Tryz.ntmps160
    go_wp2_with (go_at_call 135;refine HP.out.mono ?_;rintro e w' ⟨rfl,n,rfl⟩)
    go_ret
    have e1:varF s (i,false)=(d-97,(i+1,false)):=by simp [varF,HC.out,hd,hd2]
    rw [e1]
    refine ⟨ret_i64 (by simp only [];omega),(HB.out.n n).next,((Kp.refl _ _).drewN n).set _ _⟩
 ·go_enter Tryz.func160,Tryz.ntmps160
  go_wp2_with (go_at_call 135;refine HP.out.mono ?_;rintro e w' ⟨rfl,n,rfl⟩)
  go_ret
  have e1:varF s (i,true)=(0,(i,true)):=by simp [varF]
  rw [e1]
  exact ⟨rfl,(HB.out.n n).bad,((Kp.refl _ _).drewN n).set _ _⟩
def amF (c:Nat) (l:List UInt8):Bool:=l.any (fun u=>u.toNat == c)
theorem am_snoc (c:Nat) (l:List UInt8) (u:UInt8):amF c (l++[u])=(amF c l || u.toNat == c):=by simp [amF]
theorem am_take (c:Nat) (s:ByteArray) (k:Nat) (h:k<s.size):amF c (s.data.toList.take (k+1))=(amF c (s.data.toList.take k) || (s[k]).toNat == c):=by
 rw [List.take_succ_eq_append_getElem (by simpa using h),am_snoc];rfl
theorem am_mono (c:Nat) (s:ByteArray) (k:Nat) (h:amF c (s.data.toList.take k)=true):amF c s.data.toList=true:=by
 simp only [amF,List.any_eq_true] at h ⊢
 obtain ⟨x,hx,e⟩:=h
 exact ⟨x,List.mem_of_mem_take hx,e⟩
set_option maxHeartbeats 400000 in
theorem among_c (c:Nat) (s:ByteArray) (w:World) (hs:s.size≤1000) :
  Calls Tryz.prog 144 #[.int .u8 c,.string s] w fun e w'=>e=.returned (.bool (amF c s.data.toList))∧w'=w:=by
 go_enter Tryz.func144,Tryz.ntmps144
 go_wp2
 go_loop [5] (fun i=>∃ k:Nat,k≤s.size∧i=.int .i64 k∧amF c (s.data.toList.take k)=false) (fun i=>s.size-(intOf i).toNat)
 case atStart=>exact ⟨0,Nat.zero_le _,rfl,by simp [amF]⟩
 case round =>
  obtain ⟨k,hk,rfl,ha⟩:=hrel
  have HA:=hide ha
  clear ha
  by_cases hlt:k<s.size
  ·have HT:=hide (am_take c s k hlt)
   by_cases he:(s[k]).toNat=c
   ·have HM:=hide (am_mono c s (k+1) (by rw [HT.out];simp [he]))
    go_wp2
    go_ret
    rw [HM.out]
    exact ⟨rfl,rfl⟩
   ·have he':(((s[k]).toNat:Int) == c)=false:=by simp;omega
    go_wp2
    go_round
    case rel=>exact ⟨k+1,by omega,by go_num,by rw [HT.out,HA.out];simp [he]⟩
    case measure=>simp [intOf];omega
  ·go_wp2
   go_ret
   have e1:amF c s.data.toList=false:=by
    have:=HA.out
    rwa [List.take_of_length_le (by simp;omega)] at this
   rw [e1]
   exact ⟨rfl,rfl⟩
theorem pk_in (s:ByteArray) (i:Nat) (h:pk s i≠0):i<s.size:=by
 unfold pk at h;split at h
 ·assumption
 ·exact absurd rfl h
theorem varF_le (s:ByteArray) (p:Nat × Bool) (h:p.1≤s.size):(varF s p).2.1≤s.size:=by
 unfold varF;split
 ·exact h
 ·rename_i h'
  have:=pk_in s p.1 (by simp at h';omega)
  show p.1+1≤_
  omega
theorem eatF_le (s:ByteArray) (p:Nat × Bool) (c:Nat) (hc:c≠0) (h:p.1≤s.size):(eatF s p c).1≤s.size:=by
 unfold eatF;split
 ·exact h
 ·rename_i h'
  have:=pk_in s p.1 (by simp at h';omega)
  show p.1+1≤_
  omega
def kindF (s:ByteArray) (p:Nat × Bool):Nat × (Nat × Bool) :=
 if p.2 || !amF (pk s p.1) [110,116,102,122,65,66,67] then (0,(p.1,true)) else (pk s p.1,(p.1+1,false))
theorem am_zero (l:List UInt8) (h:l.all (fun u=>u.toNat != 0)=true):amF 0 l=false:=by
 simp only [amF,List.any_eq_false]
 intro x hx
 have:=List.all_eq_true.1 h x hx
 simp at this ⊢
 exact this
theorem kindF_le (s:ByteArray) (p:Nat × Bool) (h:p.1≤s.size):(kindF s p).2.1≤s.size:=by
 unfold kindF;split
 ·exact h
 ·rename_i h'
  have:=pk_in s p.1 (fun e=>by rw [e,am_zero _ (by decide)] at h';simp at h')
  show p.1+1≤_
  omega
set_option maxHeartbeats 400000 in
theorem kind_c (r i:Nat) (s:ByteArray) (bad:Bool) (nv iv:Value) (lp:Int) (w:World) (hs:s.size≤1000) (hi:i≤s.size)
  (h:RB w r s (i,bad) nv iv lp) :
  Calls Tryz.prog 161 #[.pointer (some ⟨r,0,none⟩)] w fun e w'=>e=.returned (.int .u8 (kindF s (i,bad)).1)∧RB w' r s (kindF s (i,bad)).2 nv iv lp∧Kp (·=r) w w':=by
 have HP:=hide (peek_c r i s bad nv iv lp w h)
 have HB:=hide h
 unfold RB at h
 have h0:=h.cell 0;have h1:=h.cell 1;have h2:=h.cell 2;have hf:=h.frozen
 simp only [List.getElem?_cons_zero,List.getElem?_cons_succ] at h0 h1 h2
 clear h
 generalize hc:pk s i=d at HP
 have HC:=hide hc
 clear hc
 generalize ha:amF d [110,116,102,122,65,66,67]=b
 have HA:=hide ha
 clear ha
 cases bad
 ·cases b
  ·go_enter Tryz.func161,Tryz.ntmps161
   go_wp2_with (first
    | (go_at_call 135;refine HP.out.mono ?_;rintro e w' ⟨rfl,n,rfl⟩)
    | (go_at_call 144;refine (among_c d _ _ (by decide)).mono ?_;rintro e w' ⟨rfl,rfl⟩;rw [show amF d (ByteArray.mk #[110,116,102,122,65,66,67]).data.toList=false from HA.out]))
   go_ret
   have e1:kindF s (i,false)=(0,(i,true)):=by simp [kindF,HC.out,HA.out]
   rw [e1]
   exact ⟨rfl,(HB.out.n n).bad,((Kp.refl _ _).drewN n).set _ _⟩
  ·go_enter Tryz.func161,Tryz.ntmps161
   go_wp2_with (first
    | (go_at_call 135;refine HP.out.mono ?_;rintro e w' ⟨rfl,n,rfl⟩)
    | (go_at_call 144;refine (among_c d _ _ (by decide)).mono ?_;rintro e w' ⟨rfl,rfl⟩;rw [show amF d (ByteArray.mk #[110,116,102,122,65,66,67]).data.toList=true from HA.out]))
   go_ret
   have e1:kindF s (i,false)=(d,(i+1,false)):=by simp [kindF,HC.out,HA.out]
   rw [e1]
   exact ⟨rfl,(HB.out.n n).next,((Kp.refl _ _).drewN n).set _ _⟩
 ·go_enter Tryz.func161,Tryz.ntmps161
  go_wp2_with (first
   | (go_at_call 135;refine HP.out.mono ?_;rintro e w' ⟨rfl,n,rfl⟩)
   | (go_at_call 144;refine (among_c d _ _ (by decide)).mono ?_;rintro e w' ⟨rfl,rfl⟩;rw [show amF d (ByteArray.mk #[110,116,102,122,65,66,67]).data.toList=b from HA.out]))
  go_ret
  have e1:kindF s (i,true)=(0,(i,true)):=by simp [kindF]
  rw [e1]
  exact ⟨rfl,(HB.out.n n).bad,((Kp.refl _ _).drewN n).set _ _⟩
end Go.Proofs.YtellieabhaphhabGreatDoor
namespace Go.Proofs.YtellieabhaphhabGreatDoor
open Go.RowKit
structure Nd where
 op:Int
 x:Int
 y:Int
 v:Int
 k:Int
 t:Int
 f:Int
 a:Int
 l:Int
def Nd.cells (n:Nd):List Value:=[.int .u8 n.op,.int .i64 n.x,.int .i64 n.y,.int .i64 n.v,.int .u8 n.k,.int .i64 n.t,.int .i64 n.f,.int .i64 n.a,.int .i64 n.l]
theorem Blk.c9 {w:World} {b:Nat} {a0 a1 a2 a3 a4 a5 a6 a7 a8:Value} {T:TypeId} (h:Blk w b [a0,a1,a2,a3,a4,a5,a6,a7,a8] T) :
  w.cell? ⟨b,0,none⟩=some a0∧w.cell? ⟨b,1,none⟩=some a1∧w.cell? ⟨b,2,none⟩=some a2∧w.cell? ⟨b,3,none⟩=some a3∧w.cell? ⟨b,4,none⟩=some a4 ∧
  w.cell? ⟨b,5,none⟩=some a5∧w.cell? ⟨b,6,none⟩=some a6∧w.cell? ⟨b,7,none⟩=some a7∧w.cell? ⟨b,8,none⟩=some a8∧∀ o,w.frozen? ⟨b,o,none⟩=false :=
 ⟨h.cell 0,h.cell 1,h.cell 2,h.cell 3,h.cell 4,h.cell 5,h.cell 6,h.cell 7,h.cell 8,h.frozen⟩
theorem RB.c6 {w:World} {r:Nat} {s:ByteArray} {p:Nat × Bool} {nv iv:Value} {lp:Int} (h:RB w r s p nv iv lp) :
  w.cell? ⟨r,0,none⟩=some (.string s)∧w.cell? ⟨r,1,none⟩=some (.int .i64 p.1)∧w.cell? ⟨r,2,none⟩=some (.bool p.2) ∧
  w.cell? ⟨r,3,none⟩=some nv∧w.cell? ⟨r,4,none⟩=some iv∧w.cell? ⟨r,5,none⟩=some (.int .i64 lp)∧∀ o,w.frozen? ⟨r,o,none⟩=false :=
 ⟨Blk.cell h 0,Blk.cell h 1,Blk.cell h 2,Blk.cell h 3,Blk.cell h 4,Blk.cell h 5,Blk.frozen h⟩
theorem RB.lt {w:World} {r:Nat} {s:ByteArray} {p:Nat × Bool} {nv iv:Value} {lp:Int} (h:RB w r s p nv iv lp):r<w.heap.size:=Blk.lt h
def valF (s:ByteArray) (i:Nat) (n:Nd):Nd × (Nat × Bool) :=
 if 48≤pk s i∧pk s i≤57 then ({ n with op:=48,k:=pk s i },(i+1,false))
 else if amF (pk s i) [84,70,90,67,63] then ({ n with op:=pk s i },(i+1,false))
 else if amF (pk s i) [43,60] then
  ({ n with op:=pk s i,y:=(varF s (i+1,false)).1,v:=(varF s (varF s (i+1,false)).2).1 },(varF s (varF s (i+1,false)).2).2)
 else if amF (pk s i) [65,66,46] then ({ n with op:=pk s i,y:=(varF s (i+1,false)).1 },(varF s (i+1,false)).2)
 else ({ n with op:=118,y:=(varF s (i,false)).1 },(varF s (i,false)).2)
set_option maxHeartbeats 400000 in
theorem value_digit (r i:Nat) (s:ByteArray) (n:Nd) (nv iv:Value) (lp:Int) (w:World) (hs:s.size≤1000) (hi:i≤s.size)
  (h:RB w r s (i,false) nv iv lp) (h1:48≤pk s i) (h2:pk s i≤57) :
  Calls Tryz.prog 162 #[.pointer (some ⟨r,0,none⟩),.agg #[.int .u8 n.op,.int .i64 n.x,.int .i64 n.y,.int .i64 n.v,.int .u8 n.k,.int .i64 n.t,.int .i64 n.f,.int .i64 n.a,.int .i64 n.l]] w fun e w' =>
   e=.returned (.agg (valF s i n).1.cells.toArray)∧RB w' r s (valF s i n).2 nv iv lp∧Kp (·=r) w w':=by
 have HB:=hide h
 have HV:=hide (show valF s i n=({ n with op:=48,k:=pk s i },(i+1,false)) by simp [valF,h1,h2])
 have hr:=h.lt
 obtain ⟨c0,c1,c2,_,_,_,cf⟩:=h.c6
 clear h
 generalize hc:pk s i=d at *
 have HC:=hide hc
 clear hc
 go_enter Tryz.func162,Tryz.ntmps162
 go_wp2_with (go_at_call 135;refine (peek_c r i s false nv iv lp _ (by exact ((Blk.alloc HB.out _).alloc _))).mono ?_;rw [HC.out];rintro e w' ⟨rfl,nq,rfl⟩)
 refine bodyPost_ret (v:=.agg #[.int .u8 48,.int .i64 n.x,.int .i64 n.y,.int .i64 n.v,.int .u8 d,.int .i64 n.t,.int .i64 n.f,.int .i64 n.a,.int .i64 n.l]) (by simp [results,Tryz.results162,go_sem]) rfl ?_
 rw [HV.out]
 refine ⟨rfl,?_,?_⟩
 ·have hb:Blk w r [.string s,.int .i64 i,.bool false,nv,iv,.int .i64 lp] 105:=HB.out
  show Blk _ _ _ _
  (exact blA)
 ·(exact kpA)
set_option maxHeartbeats 800000 in
theorem value_plain (r i:Nat) (s:ByteArray) (n:Nd) (nv iv:Value) (lp:Int) (w:World) (hs:s.size≤1000) (hi:i≤s.size)
  (h:RB w r s (i,false) nv iv lp) (h1:¬ (48≤pk s i∧pk s i≤57)) (h2:amF (pk s i) [84,70,90,67,63]=true) :
  Calls Tryz.prog 162 #[.pointer (some ⟨r,0,none⟩),.agg #[.int .u8 n.op,.int .i64 n.x,.int .i64 n.y,.int .i64 n.v,.int .u8 n.k,.int .i64 n.t,.int .i64 n.f,.int .i64 n.a,.int .i64 n.l]] w fun e w' =>
   e=.returned (.agg (valF s i n).1.cells.toArray)∧RB w' r s (valF s i n).2 nv iv lp∧Kp (·=r) w w':=by
 have HB:=hide h
 have HV:=hide (show valF s i n=({ n with op:=pk s i },(i+1,false)) by simp [valF,h1,h2])
 have hr:=h.lt
 obtain ⟨c0,c1,c2,_,_,_,cf⟩:=h.c6
 clear h
 generalize hc:pk s i=d at *
 have HC:=hide hc
 clear hc
 have hq:¬ (48≤(d:Int)∧(d:Int)≤57):=by omega
 have hb:Blk w r [.string s,.int .i64 i,.bool false,nv,iv,.int .i64 lp] 105:=HB.out
 clear h1
 go_enter Tryz.func162,Tryz.ntmps162
 go_wp2_with (first
  | (go_at_call 135;refine (peek_c r i s false nv iv lp _ (by exact ((Blk.alloc HB.out _).alloc _))).mono ?_;rw [HC.out];rintro e w' ⟨rfl,nq,rfl⟩)
  | (go_at_call 144;refine (among_c d _ _ (by decide)).mono ?_;rintro e w' ⟨rfl,rfl⟩))
 all_goals
  refine bodyPost_ret (v:=.agg #[.int .u8 d,.int .i64 n.x,.int .i64 n.y,.int .i64 n.v,.int .u8 n.k,.int .i64 n.t,.int .i64 n.f,.int .i64 n.a,.int .i64 n.l]) (by simp [results,Tryz.results162,go_sem]) rfl ?_
  rw [HV.out]
  refine ⟨rfl,?_,?_⟩
  ·show Blk _ _ _ _
   (exact blA)
  ·(exact kpA)
set_option maxHeartbeats 800000 in
theorem value_var (r i:Nat) (s:ByteArray) (n:Nd) (nv iv:Value) (lp:Int) (w:World) (hs:s.size≤1000) (hi:i≤s.size)
  (h:RB w r s (i,false) nv iv lp) (h1:¬ (48≤pk s i∧pk s i≤57)) (h2:amF (pk s i) [84,70,90,67,63]=false) (h3:amF (pk s i) [43,60]=false) (h4:amF (pk s i) [65,66,46]=false) :
  Calls Tryz.prog 162 #[.pointer (some ⟨r,0,none⟩),.agg #[.int .u8 n.op,.int .i64 n.x,.int .i64 n.y,.int .i64 n.v,.int .u8 n.k,.int .i64 n.t,.int .i64 n.f,.int .i64 n.a,.int .i64 n.l]] w fun e w' =>
   e=.returned (.agg (valF s i n).1.cells.toArray)∧RB w' r s (valF s i n).2 nv iv lp∧Kp (·=r) w w':=by
 have HB:=hide h
 have HV:=hide (show valF s i n=({ n with op:=118,y:=(varF s (i,false)).1 },(varF s (i,false)).2) by simp [valF,h1,h2,h3,h4])
 have hr:=h.lt
 obtain ⟨c0,c1,c2,_,_,_,cf⟩:=h.c6
 clear h
 generalize hc:pk s i=d at *
 have HC:=hide hc
 clear hc
 have hq:¬ (48≤(d:Int)∧(d:Int)≤57):=by omega
 have hb:Blk w r [.string s,.int .i64 i,.bool false,nv,iv,.int .i64 lp] 105:=HB.out
 clear h1
 go_enter Tryz.func162,Tryz.ntmps162
 go_wp2_with (first
  | (go_at_call 135;refine (peek_c r i s false nv iv lp _ (by exact ((Blk.alloc HB.out _).alloc _))).mono ?_;rw [HC.out];rintro e w' ⟨rfl,nq,rfl⟩)
  | (go_at_call 144;refine (among_c d _ _ (by decide)).mono ?_;rintro e w' ⟨rfl,rfl⟩))
 all_goals
  refine (variable_c r i s false nv iv lp _ hs hi ?_).mono ?_
  ·show Blk _ _ _ _
   (exact blA)
  rintro e w1 ⟨rfl,hB1,hk1⟩
  have hL:Blk w1 w.heap.size [.int .u8 118,.int .i64 n.x,.int .i64 n.y,.int .i64 n.v,.int .u8 n.k,.int .i64 n.t,.int .i64 n.f,.int .i64 n.a,.int .i64 n.l] 111:=hk1.blk (by (exact blA)) (by omega)
  have hR:Blk w1 (w.heap.size+1) [.int .u8 0,.int .i64 0,.int .i64 0,.int .i64 0,.int .u8 0,.int .i64 0,.int .i64 0,.int .i64 0,.int .i64 0] 111:=hk1.blk (by (exact blA)) (by omega)
  have hz:w.heap.size+2≤w1.heap.size:=by have:=hk1.size;simp at this;omega
  obtain ⟨l0,l1,l2,l3,l4,l5,l6,l7,l8,lf⟩:=hL.c9
  obtain ⟨z0,z1,z2,z3,z4,z5,z6,z7,z8,zf⟩:=hR.c9
  generalize hy:varF s (i,false)=y at *
  go_wp2
  refine body_agg (Tb:=111) (b:=w.heap.size+1) (cs:=[.int .u8 118,.int .i64 n.x,.int .i64 y.1,.int .i64 n.v,.int .u8 n.k,.int .i64 n.t,.int .i64 n.f,.int .i64 n.a,.int .i64 n.l]) (.inr rfl) Tryz.results162 rfl rfl (by (exact blA)) Tryz.underlying111 rfl (by kernel_rfl) ?_
  rw [HV.out]
  refine ⟨rfl,?_,?_⟩
  ·have hb1:Blk w1 r [.string s,.int .i64 y.2.1,.bool y.2.2,nv,iv,.int .i64 lp] 105:=hB1
   show Blk _ _ _ _
   (exact blA)
  ·(exact kpA)
set_option maxHeartbeats 800000 in
theorem value_one (r i:Nat) (s:ByteArray) (n:Nd) (nv iv:Value) (lp:Int) (w:World) (hs:s.size≤1000) (_:i≤s.size)
  (h:RB w r s (i,false) nv iv lp) (h1:¬ (48≤pk s i∧pk s i≤57)) (h2:amF (pk s i) [84,70,90,67,63]=false) (h3:amF (pk s i) [43,60]=false) (h4:amF (pk s i) [65,66,46]=true) :
  Calls Tryz.prog 162 #[.pointer (some ⟨r,0,none⟩),.agg #[.int .u8 n.op,.int .i64 n.x,.int .i64 n.y,.int .i64 n.v,.int .u8 n.k,.int .i64 n.t,.int .i64 n.f,.int .i64 n.a,.int .i64 n.l]] w fun e w' =>
   e=.returned (.agg (valF s i n).1.cells.toArray)∧RB w' r s (valF s i n).2 nv iv lp∧Kp (·=r) w w':=by
 have HB:=hide h
 have HV:=hide (show valF s i n=({ n with op:=pk s i,y:=(varF s (i+1,false)).1 },(varF s (i+1,false)).2) by simp [valF,h1,h2,h3,h4])
 have hr:=h.lt
 have hi1:i+1≤s.size:=pk_in s i (fun e=>by rw [e] at h4;revert h4;decide)
 obtain ⟨c0,c1,c2,_,_,_,cf⟩:=h.c6
 clear h
 generalize hc:pk s i=d at *
 have HC:=hide hc
 clear hc
 have hq:¬ (48≤(d:Int)∧(d:Int)≤57):=by omega
 have hb:Blk w r [.string s,.int .i64 i,.bool false,nv,iv,.int .i64 lp] 105:=HB.out
 clear h1
 go_enter Tryz.func162,Tryz.ntmps162
 go_wp2_with (first
  | (go_at_call 135;refine (peek_c r i s false nv iv lp _ (by exact ((Blk.alloc HB.out _).alloc _))).mono ?_;rw [HC.out];rintro e w' ⟨rfl,nq,rfl⟩)
  | (go_at_call 144;refine (among_c d _ _ (by decide)).mono ?_;rintro e w' ⟨rfl,rfl⟩))
 all_goals
  refine (variable_c r (i+1) s false nv iv lp _ hs hi1 ?_).mono ?_
  ·show Blk _ _ _ _
   (exact blA)
  rintro e w1 ⟨rfl,hB1,hk1⟩
  have hL:Blk w1 w.heap.size [.int .u8 d,.int .i64 n.x,.int .i64 n.y,.int .i64 n.v,.int .u8 n.k,.int .i64 n.t,.int .i64 n.f,.int .i64 n.a,.int .i64 n.l] 111:=hk1.blk (by (exact blA)) (by omega)
  have hR:Blk w1 (w.heap.size+1) [.int .u8 0,.int .i64 0,.int .i64 0,.int .i64 0,.int .u8 0,.int .i64 0,.int .i64 0,.int .i64 0,.int .i64 0] 111:=hk1.blk (by (exact blA)) (by omega)
  have hz:w.heap.size+2≤w1.heap.size:=by have:=hk1.size;simp at this;omega
  obtain ⟨l0,l1,l2,l3,l4,l5,l6,l7,l8,lf⟩:=hL.c9
  obtain ⟨z0,z1,z2,z3,z4,z5,z6,z7,z8,zf⟩:=hR.c9
  generalize hy:varF s (i+1,false)=y at *
  go_wp2
  refine body_agg (Tb:=111) (b:=w.heap.size+1) (cs:=[.int .u8 d,.int .i64 n.x,.int .i64 y.1,.int .i64 n.v,.int .u8 n.k,.int .i64 n.t,.int .i64 n.f,.int .i64 n.a,.int .i64 n.l]) (.inr rfl) Tryz.results162 rfl rfl (by (exact blA)) Tryz.underlying111 rfl (by kernel_rfl) ?_
  rw [HV.out]
  refine ⟨rfl,?_,?_⟩
  ·have hb1:Blk w1 r [.string s,.int .i64 y.2.1,.bool y.2.2,nv,iv,.int .i64 lp] 105:=hB1
   show Blk _ _ _ _
   (exact blA)
  ·(exact kpA)
set_option maxHeartbeats 800000 in
theorem value_two (r i:Nat) (s:ByteArray) (n:Nd) (nv iv:Value) (lp:Int) (w:World) (hs:s.size≤1000) (_:i≤s.size)
  (h:RB w r s (i,false) nv iv lp) (h1:¬ (48≤pk s i∧pk s i≤57)) (h2:amF (pk s i) [84,70,90,67,63]=false) (h3:amF (pk s i) [43,60]=true) :
  Calls Tryz.prog 162 #[.pointer (some ⟨r,0,none⟩),.agg #[.int .u8 n.op,.int .i64 n.x,.int .i64 n.y,.int .i64 n.v,.int .u8 n.k,.int .i64 n.t,.int .i64 n.f,.int .i64 n.a,.int .i64 n.l]] w fun e w' =>
   e=.returned (.agg (valF s i n).1.cells.toArray)∧RB w' r s (valF s i n).2 nv iv lp∧Kp (·=r) w w':=by
 have HB:=hide h
 have HV:=hide (show valF s i n=({ n with op:=pk s i,y:=(varF s (i+1,false)).1,v:=(varF s (varF s (i+1,false)).2).1 },(varF s (varF s (i+1,false)).2).2) by simp [valF,h1,h2,h3])
 have hr:=h.lt
 have hi2:=varF_le s (i+1,false) (pk_in s i (fun e=>by rw [e] at h3;revert h3;decide))
 have hi1:i+1≤s.size:=pk_in s i (fun e=>by rw [e] at h3;revert h3;decide)
 obtain ⟨c0,c1,c2,_,_,_,cf⟩:=h.c6
 clear h
 generalize hc:pk s i=d at *
 have HC:=hide hc
 clear hc
 have hq:¬ (48≤(d:Int)∧(d:Int)≤57):=by omega
 have hb:Blk w r [.string s,.int .i64 i,.bool false,nv,iv,.int .i64 lp] 105:=HB.out
 clear h1
 go_enter Tryz.func162,Tryz.ntmps162
 go_wp2_with (first
  | (go_at_call 135;refine (peek_c r i s false nv iv lp _ (by exact ((Blk.alloc HB.out _).alloc _))).mono ?_;rw [HC.out];rintro e w' ⟨rfl,nq,rfl⟩)
  | (go_at_call 144;refine (among_c d _ _ (by decide)).mono ?_;rintro e w' ⟨rfl,rfl⟩))
 all_goals
  refine (variable_c r (i+1) s false nv iv lp _ hs hi1 ?_).mono ?_
  ·show Blk _ _ _ _
   (exact blA)
  rintro e w1 ⟨rfl,hB1,hk1⟩
  have hL:Blk w1 w.heap.size [.int .u8 d,.int .i64 n.x,.int .i64 n.y,.int .i64 n.v,.int .u8 n.k,.int .i64 n.t,.int .i64 n.f,.int .i64 n.a,.int .i64 n.l] 111:=hk1.blk (by (exact blA)) (by omega)
  have hR:Blk w1 (w.heap.size+1) [.int .u8 0,.int .i64 0,.int .i64 0,.int .i64 0,.int .u8 0,.int .i64 0,.int .i64 0,.int .i64 0,.int .i64 0] 111:=hk1.blk (by (exact blA)) (by omega)
  have hz:w.heap.size+2≤w1.heap.size:=by have:=hk1.size;simp at this;omega
  obtain ⟨l0,l1,l2,l3,l4,l5,l6,l7,l8,lf⟩:=hL.c9
  generalize hy:varF s (i+1,false)=y at *
  obtain ⟨y,yi,yb⟩:=y
  go_wp2_with fail
  have hb1:Blk w1 r [.string s,.int .i64 yi,.bool yb,nv,iv,.int .i64 lp] 105:=hB1
  refine (variable_c r yi s yb nv iv lp _ hs hi2 ?_).mono ?_
  ·show Blk _ _ _ _
   (exact blA)
  rintro e w2 ⟨rfl,hB2,hk2⟩
  have hL2:Blk w2 w.heap.size [.int .u8 d,.int .i64 n.x,.int .i64 y,.int .i64 n.v,.int .u8 n.k,.int .i64 n.t,.int .i64 n.f,.int .i64 n.a,.int .i64 n.l] 111:=hk2.blk (by (exact blA)) (by omega)
  have hR2:Blk w2 (w.heap.size+1) [.int .u8 0,.int .i64 0,.int .i64 0,.int .i64 0,.int .u8 0,.int .i64 0,.int .i64 0,.int .i64 0,.int .i64 0] 111:=hk2.blk (by (exact blA)) (by omega)
  have hz2:w.heap.size+2≤w2.heap.size:=by have:=hk2.size;simp at this;omega
  obtain ⟨m0,m1,m2,m3,m4,m5,m6,m7,m8,mf⟩:=hL2.c9
  obtain ⟨z0,z1,z2,z3,z4,z5,z6,z7,z8,zf⟩:=hR2.c9
  generalize hy2:varF s (yi,yb)=v at *
  go_wp2
  refine body_agg (Tb:=111) (b:=w.heap.size+1) (cs:=[.int .u8 d,.int .i64 n.x,.int .i64 y,.int .i64 v.1,.int .u8 n.k,.int .i64 n.t,.int .i64 n.f,.int .i64 n.a,.int .i64 n.l]) (.inr rfl) Tryz.results162 rfl rfl (by (exact blA)) Tryz.underlying111 rfl (by kernel_rfl) ?_
  rw [HV.out]
  refine ⟨rfl,?_,?_⟩
  ·have hb1:Blk w2 r [.string s,.int .i64 v.2.1,.bool v.2.2,nv,iv,.int .i64 lp] 105:=hB2
   show Blk _ _ _ _
   (exact blA)
  ·(exact kpA)
theorem value_c (r i:Nat) (s:ByteArray) (n:Nd) (nv iv:Value) (lp:Int) (w:World) (hs:s.size≤1000) (hi:i≤s.size)
  (h:RB w r s (i,false) nv iv lp) :
  Calls Tryz.prog 162 #[.pointer (some ⟨r,0,none⟩),.agg #[.int .u8 n.op,.int .i64 n.x,.int .i64 n.y,.int .i64 n.v,.int .u8 n.k,.int .i64 n.t,.int .i64 n.f,.int .i64 n.a,.int .i64 n.l]] w fun e w' =>
   e=.returned (.agg (valF s i n).1.cells.toArray)∧RB w' r s (valF s i n).2 nv iv lp∧Kp (·=r) w w':=by
 by_cases h1:48≤pk s i∧pk s i≤57
 ·exact value_digit r i s n nv iv lp w hs hi h h1.1 h1.2
 cases h2:amF (pk s i) [84,70,90,67,63]
 ·cases h3:amF (pk s i) [43,60]
  ·cases h4:amF (pk s i) [65,66,46]
   ·exact value_var r i s n nv iv lp w hs hi h h1 h2 h3 h4
   ·exact value_one r i s n nv iv lp w hs hi h h1 h2 h3 h4
  ·exact value_two r i s n nv iv lp w hs hi h h1 h2 h3
 ·exact value_plain r i s n nv iv lp w hs hi h h1 h2
theorem valF_le (s:ByteArray) (i:Nat) (n:Nd) (h:i≤s.size):(valF s i n).2.1≤s.size:=by
 unfold valF
 repeat' split
 ·have:=pk_in s i (by omega);show i+1≤_;omega
 ·rename_i _ h2;have:=pk_in s i (fun e=>by rw [e] at h2;revert h2;decide);show i+1≤_;omega
 ·rename_i _ _ h2;have:=pk_in s i (fun e=>by rw [e] at h2;revert h2;decide)
  exact varF_le _ _ (varF_le _ _ (by show i+1≤_;omega))
 ·rename_i _ _ _ h2;have:=pk_in s i (fun e=>by rw [e] at h2;revert h2;decide)
  exact varF_le _ _ (by show i+1≤_;omega)
 ·exact varF_le _ _ h
end Go.Proofs.YtellieabhaphhabGreatDoor
namespace Go.Proofs.YtellieabhaphhabGreatDoor
open Go.RowKit
def nd0 (i:Nat):Nd:={ op:=0,x:=0,y:=0,v:=0,k:=0,t:=0,f:=-1,a:=i,l:=0 }
def simpF (s:ByteArray) (i:Nat):Nd × (Nat × Bool) :=
 if pk s i=94 then ({ nd0 i with op:=94,y:=(varF s (i+1,false)).1,l:=((varF s (i+1,false)).2.1:Int)-i },(varF s (i+1,false)).2)
 else if pk s i=33 then ({ nd0 i with op:=33,l:=(i:Int)+1-i },(i+1,false))
 else if (varF s (i,false)).2.2=false∧pk s (varF s (i,false)).2.1=126 then
  ({ nd0 i with op:=126,x:=(varF s (i,false)).1,k:=(kindF s ((varF s (i,false)).2.1+1,false)).1,l:=((kindF s ((varF s (i,false)).2.1+1,false)).2.1:Int)-i },(kindF s ((varF s (i,false)).2.1+1,false)).2)
 else if (eatF s (varF s (i,false)).2 61).2=true then
  ({ nd0 i with x:=(varF s (i,false)).1,l:=((eatF s (varF s (i,false)).2 61).1:Int)-i },eatF s (varF s (i,false)).2 61)
 else
  ({ (valF s (eatF s (varF s (i,false)).2 61).1 { nd0 i with x:=(varF s (i,false)).1 }).1 with l:=((valF s (eatF s (varF s (i,false)).2 61).1 { nd0 i with x:=(varF s (i,false)).1 }).2.1:Int)-i },(valF s (eatF s (varF s (i,false)).2 61).1 { nd0 i with x:=(varF s (i,false)).1 }).2)
theorem valF_keeps (s:ByteArray) (i:Nat) (n:Nd):(valF s i n).1.a=n.a∧(valF s i n).1.l=n.l∧(valF s i n).1.x=n.x∧(valF s i n).1.t=n.t∧(valF s i n).1.f=n.f:=by
 unfold valF;repeat' split
 all_goals exact ⟨rfl,rfl,rfl,rfl,rfl⟩
set_option maxHeartbeats 1600000 in
theorem simple_never (r i:Nat) (s:ByteArray) (nv iv:Value) (lp:Int) (w:World) (hs:s.size≤1000) (hi:i≤s.size)
  (h:RB w r s (i,false) nv iv lp) (h1:pk s i=33) :
  Calls Tryz.prog 140 #[.pointer (some ⟨r,0,none⟩)] w fun e w' =>
   e=.returned (.agg (simpF s i).1.cells.toArray)∧RB w' r s (simpF s i).2 nv iv lp∧Kp (·=r) w w':=by
 have HB:=hide h
 have HV:=hide (show simpF s i=({ nd0 i with op:=33,l:=(i:Int)+1-i },(i+1,false)) by simp [simpF,h1])
 have hr:=h.lt
 obtain ⟨c0,c1,c2,_,_,_,cf⟩:=h.c6
 clear h
 have hb:Blk w r [.string s,.int .i64 i,.bool false,nv,iv,.int .i64 lp] 105:=HB.out
 generalize hc:pk s i=d at *
 have HC:=hide hc
 clear hc
 go_enter Tryz.func140,Tryz.ntmps140
 go_wp2_with (go_at_call 135;refine (peek_c r i s false nv iv lp _ (by (exact blA))).mono ?_;rw [HC.out];rintro e w' ⟨rfl,nq,rfl⟩)
 refine wp_gen (fun W=>RB W r s (i+1,false) nv iv lp∧Blk W (w.heap.size) [.int .u8 0,.int .i64 0,.int .i64 0,.int .i64 0,.int .u8 0,.int .i64 0,.int .i64 0,.int .i64 0,.int .i64 0] 111∧Blk W (w.heap.size+1) [.int .u8 33,.int .i64 0,.int .i64 0,.int .i64 0,.int .u8 0,.int .i64 0,.int .i64 (-1),.int .i64 i,.int .i64 0] 111∧Kp (·=r) w W) ⟨by (show Blk _ _ _ _);(exact blA),by (exact blA),by (exact blA),by (exact kpA)⟩ ?_
 rintro W ⟨hB,hR,hL,hk⟩
 obtain ⟨x0,x1,x2,x3,x4,x5,x6,x7,x8,xf⟩:=hL.c9
 obtain ⟨z0,z1,z2,z3,z4,z5,z6,z7,z8,zf⟩:=hR.c9
 obtain ⟨q0,q1,q2,_,_,_,qf⟩:=hB.c6
 go_region
 go_wp2
 refine body_agg (Tb:=111) (b:=w.heap.size) (cs:=[.int .u8 33,.int .i64 0,.int .i64 0,.int .i64 0,.int .u8 0,.int .i64 0,.int .i64 (-1),.int .i64 i,.int .i64 ((i:Int)+1-i)]) (.inr rfl) Tryz.results140 rfl rfl (by (exact blA)) Tryz.underlying111 rfl (by kernel_rfl) ?_
 rw [HV.out]
 refine ⟨rfl,?_,?_⟩
 ·have hb1:Blk W r [.string s,.int .i64 ((i+1,false)).1,.bool ((i+1,false)).2,nv,iv,.int .i64 lp] 105:=hB
  show Blk _ _ _ _
  (exact blA)
 ·(exact kpA)
set_option maxHeartbeats 1600000 in
theorem simple_put (r i:Nat) (s:ByteArray) (nv iv:Value) (lp:Int) (w:World) (hs:s.size≤1000) (_:i≤s.size)
  (h:RB w r s (i,false) nv iv lp) (h1:pk s i=94) :
  Calls Tryz.prog 140 #[.pointer (some ⟨r,0,none⟩)] w fun e w' =>
   e=.returned (.agg (simpF s i).1.cells.toArray)∧RB w' r s (simpF s i).2 nv iv lp∧Kp (·=r) w w':=by
 have HB:=hide h
 have HV:=hide (show simpF s i=({ nd0 i with op:=94,y:=(varF s (i+1,false)).1,l:=((varF s (i+1,false)).2.1:Int)-i },(varF s (i+1,false)).2) by simp [simpF,h1])
 have hr:=h.lt
 have hi1:i+1≤s.size:=pk_in s i (by omega)
 have hv:=varF_le s (i+1,false) hi1
 obtain ⟨c0,c1,c2,_,_,_,cf⟩:=h.c6
 clear h
 have hb:Blk w r [.string s,.int .i64 i,.bool false,nv,iv,.int .i64 lp] 105:=HB.out
 generalize hc:pk s i=d at *
 have HC:=hide hc
 clear hc
 go_enter Tryz.func140,Tryz.ntmps140
 go_wp2_with (go_at_call 135;refine (peek_c r i s false nv iv lp _ (by (exact blA))).mono ?_;rw [HC.out];rintro e w' ⟨rfl,nq,rfl⟩)
 refine (variable_c r (i+1) s false nv iv lp _ hs hi1 ?_).mono ?_
 ·show Blk _ _ _ _
  (exact blA)
 rintro e w1 ⟨rfl,hB1,hk1⟩
 have hL1:Blk w1 (w.heap.size+1) [.int .u8 94,.int .i64 0,.int .i64 0,.int .i64 0,.int .u8 0,.int .i64 0,.int .i64 (-1),.int .i64 i,.int .i64 0] 111:=hk1.blk (by (exact blA)) (by omega)
 have hR1:Blk w1 (w.heap.size) [.int .u8 0,.int .i64 0,.int .i64 0,.int .i64 0,.int .u8 0,.int .i64 0,.int .i64 0,.int .i64 0,.int .i64 0] 111:=hk1.blk (by (exact blA)) (by omega)
 have hz1:w.heap.size+2≤w1.heap.size:=by have:=hk1.size;(try simp at this);omega
 obtain ⟨l10,l11,l12,l13,l14,l15,l16,l17,l18,l1f⟩:=hL1.c9
 generalize hy:varF s (i+1,false)=y at *
 obtain ⟨y,yi,yb⟩:=y
 dsimp only at hv
 have hb1:Blk w1 r [.string s,.int .i64 yi,.bool yb,nv,iv,.int .i64 lp] 105:=hB1
 go_wp2
 refine wp_gen (fun W=>RB W r s (yi,yb) nv iv lp∧Blk W (w.heap.size) [.int .u8 0,.int .i64 0,.int .i64 0,.int .i64 0,.int .u8 0,.int .i64 0,.int .i64 0,.int .i64 0,.int .i64 0] 111∧Blk W (w.heap.size+1) [.int .u8 94,.int .i64 0,.int .i64 y,.int .i64 0,.int .u8 0,.int .i64 0,.int .i64 (-1),.int .i64 i,.int .i64 0] 111∧Kp (·=r) w W) ⟨by (show Blk _ _ _ _);(exact blA),by (exact blA),by (exact blA),by (exact kpA)⟩ ?_
 rintro W ⟨hB,hR,hL,hk⟩
 obtain ⟨x0,x1,x2,x3,x4,x5,x6,x7,x8,xf⟩:=hL.c9
 obtain ⟨z0,z1,z2,z3,z4,z5,z6,z7,z8,zf⟩:=hR.c9
 obtain ⟨q0,q1,q2,_,_,_,qf⟩:=hB.c6
 go_region
 go_wp2
 refine body_agg (Tb:=111) (b:=w.heap.size) (cs:=[.int .u8 94,.int .i64 0,.int .i64 y,.int .i64 0,.int .u8 0,.int .i64 0,.int .i64 (-1),.int .i64 i,.int .i64 ((yi:Int)-i)]) (.inr rfl) Tryz.results140 rfl rfl (by (exact blA)) Tryz.underlying111 rfl (by kernel_rfl) ?_
 rw [HV.out]
 refine ⟨rfl,?_,?_⟩
 ·have hb1:Blk W r [.string s,.int .i64 ((yi,yb)).1,.bool ((yi,yb)).2,nv,iv,.int .i64 lp] 105:=hB
  show Blk _ _ _ _
  (exact blA)
 ·(exact kpA)
set_option maxHeartbeats 1600000 in
theorem simple_cast (r i:Nat) (s:ByteArray) (nv iv:Value) (lp:Int) (w:World) (hs:s.size≤1000) (hi:i≤s.size)
  (h:RB w r s (i,false) nv iv lp) (h1:pk s i≠94) (h2:pk s i≠33) (h3:(varF s (i,false)).2.2=false) (h4:pk s (varF s (i,false)).2.1=126) :
  Calls Tryz.prog 140 #[.pointer (some ⟨r,0,none⟩)] w fun e w' =>
   e=.returned (.agg (simpF s i).1.cells.toArray)∧RB w' r s (simpF s i).2 nv iv lp∧Kp (·=r) w w':=by
 have HB:=hide h
 have HV:=hide (show simpF s i=({ nd0 i with op:=126,x:=(varF s (i,false)).1,k:=(kindF s ((varF s (i,false)).2.1+1,false)).1,l:=((kindF s ((varF s (i,false)).2.1+1,false)).2.1:Int)-i },(kindF s ((varF s (i,false)).2.1+1,false)).2) by simp [simpF,h1,h2,h3,h4])
 have hr:=h.lt
 have hi1:(varF s (i,false)).2.1+1≤s.size:=pk_in s (varF s (i,false)).2.1 (by omega)
 have hv:=kindF_le s ((varF s (i,false)).2.1+1,false) hi1
 obtain ⟨c0,c1,c2,_,_,_,cf⟩:=h.c6
 clear h
 have hb:Blk w r [.string s,.int .i64 i,.bool false,nv,iv,.int .i64 lp] 105:=HB.out
 generalize hc:pk s i=d at *
 have HC:=hide hc
 clear hc
 go_enter Tryz.func140,Tryz.ntmps140
 go_wp2_with (go_at_call 135;refine (peek_c r i s false nv iv lp _ (by (exact blA))).mono ?_;rw [HC.out];rintro e w' ⟨rfl,nq,rfl⟩)
 refine (variable_c r i s false nv iv lp _ hs hi ?_).mono ?_
 ·show Blk _ _ _ _
  (exact blA)
 rintro e w1 ⟨rfl,hB1,hk1⟩
 have hL1:Blk w1 (w.heap.size+1) [.int .u8 0,.int .i64 0,.int .i64 0,.int .i64 0,.int .u8 0,.int .i64 0,.int .i64 (-1),.int .i64 i,.int .i64 0] 111:=hk1.blk (by (exact blA)) (by omega)
 have hR1:Blk w1 (w.heap.size) [.int .u8 0,.int .i64 0,.int .i64 0,.int .i64 0,.int .u8 0,.int .i64 0,.int .i64 0,.int .i64 0,.int .i64 0] 111:=hk1.blk (by (exact blA)) (by omega)
 have hz1:w.heap.size+2≤w1.heap.size:=by have:=hk1.size;(try simp at this);omega
 obtain ⟨l10,l11,l12,l13,l14,l15,l16,l17,l18,l1f⟩:=hL1.c9
 generalize hy:varF s (i,false)=y at *
 obtain ⟨y,yi,yb⟩:=y
 dsimp only at *
 have hb1:Blk w1 r [.string s,.int .i64 yi,.bool yb,nv,iv,.int .i64 lp] 105:=hB1
 obtain ⟨p10,p11,p12,_,_,_,p1f⟩:=hB1.c6
 go_wp2_with fail
 refine (peek_c r yi s yb nv iv lp _ (by (exact blA))).mono ?_
 subst h3
 rw [h4]
 rintro e w2 ⟨rfl,nq2,rfl⟩
 go_wp2_with fail
 refine (kind_c r (yi+1) s false nv iv lp _ hs hi1 ?_).mono ?_
 ·show Blk _ _ _ _
  (exact blA)
 rintro e w2 ⟨rfl,hB2,hk2⟩
 have hL2:Blk w2 (w.heap.size+1) [.int .u8 126,.int .i64 y,.int .i64 0,.int .i64 0,.int .u8 0,.int .i64 0,.int .i64 (-1),.int .i64 i,.int .i64 0] 111:=hk2.blk (by (exact blA)) (by omega)
 have hR2:Blk w2 (w.heap.size) [.int .u8 0,.int .i64 0,.int .i64 0,.int .i64 0,.int .u8 0,.int .i64 0,.int .i64 0,.int .i64 0,.int .i64 0] 111:=hk2.blk (by (exact blA)) (by omega)
 have hz2:w.heap.size+2≤w2.heap.size:=by have:=hk2.size;(try simp at this);omega
 obtain ⟨l20,l21,l22,l23,l24,l25,l26,l27,l28,l2f⟩:=hL2.c9
 generalize hk:kindF s (yi+1,false)=z at *
 obtain ⟨k,zi,zb⟩:=z
 dsimp only at hv
 have hb2:Blk w2 r [.string s,.int .i64 zi,.bool zb,nv,iv,.int .i64 lp] 105:=hB2
 go_wp2
 refine wp_gen (fun W=>RB W r s (zi,zb) nv iv lp∧Blk W (w.heap.size) [.int .u8 0,.int .i64 0,.int .i64 0,.int .i64 0,.int .u8 0,.int .i64 0,.int .i64 0,.int .i64 0,.int .i64 0] 111∧Blk W (w.heap.size+1) [.int .u8 126,.int .i64 y,.int .i64 0,.int .i64 0,.int .u8 k,.int .i64 0,.int .i64 (-1),.int .i64 i,.int .i64 0] 111∧Kp (·=r) w W) ⟨by (show Blk _ _ _ _);(exact blA),by (exact blA),by (exact blA),by (exact kpA)⟩ ?_
 rintro W ⟨hB,hR,hL,hk⟩
 obtain ⟨x0,x1,x2,x3,x4,x5,x6,x7,x8,xf⟩:=hL.c9
 obtain ⟨z0,z1,z2,z3,z4,z5,z6,z7,z8,zf⟩:=hR.c9
 obtain ⟨q0,q1,q2,_,_,_,qf⟩:=hB.c6
 go_region
 go_wp2
 refine body_agg (Tb:=111) (b:=w.heap.size) (cs:=[.int .u8 126,.int .i64 y,.int .i64 0,.int .i64 0,.int .u8 k,.int .i64 0,.int .i64 (-1),.int .i64 i,.int .i64 ((zi:Int)-i)]) (.inr rfl) Tryz.results140 rfl rfl (by (exact blA)) Tryz.underlying111 rfl (by kernel_rfl) ?_
 rw [HV.out]
 refine ⟨rfl,?_,?_⟩
 ·have hb1:Blk W r [.string s,.int .i64 ((zi,zb)).1,.bool ((zi,zb)).2,nv,iv,.int .i64 lp] 105:=hB
  show Blk _ _ _ _
  (exact blA)
 ·(exact kpA)
set_option maxHeartbeats 1600000 in
theorem simple_eq (r i:Nat) (s:ByteArray) (nv iv:Value) (lp:Int) (w:World) (hs:s.size≤1000) (hi:i≤s.size)
  (h:RB w r s (i,false) nv iv lp) (h1:pk s i≠94) (h2:pk s i≠33) (h3:¬ ((varF s (i,false)).2.2=false∧pk s (varF s (i,false)).2.1=126)) (h4:(eatF s (varF s (i,false)).2 61).2=true) :
  Calls Tryz.prog 140 #[.pointer (some ⟨r,0,none⟩)] w fun e w' =>
   e=.returned (.agg (simpF s i).1.cells.toArray)∧RB w' r s (simpF s i).2 nv iv lp∧Kp (·=r) w w':=by
 have HB:=hide h
 have HV:=hide (show simpF s i=({ nd0 i with x:=(varF s (i,false)).1,l:=((eatF s (varF s (i,false)).2 61).1:Int)-i },(eatF s (varF s (i,false)).2 61)) by simp [simpF,h1,h2,h3,h4])
 have hr:=h.lt
 have hv:=varF_le s (i,false) hi
 have he:=eatF_le s (varF s (i,false)).2 61 (by decide) hv
 obtain ⟨c0,c1,c2,_,_,_,cf⟩:=h.c6
 clear h
 have hb:Blk w r [.string s,.int .i64 i,.bool false,nv,iv,.int .i64 lp] 105:=HB.out
 generalize hc:pk s i=d at *
 have HC:=hide hc
 clear hc
 go_enter Tryz.func140,Tryz.ntmps140
 go_wp2_with (go_at_call 135;refine (peek_c r i s false nv iv lp _ (by (exact blA))).mono ?_;rw [HC.out];rintro e w' ⟨rfl,nq,rfl⟩)
 refine (variable_c r i s false nv iv lp _ hs hi ?_).mono ?_
 ·show Blk _ _ _ _
  (exact blA)
 rintro e w1 ⟨rfl,hB1,hk1⟩
 have hL1:Blk w1 (w.heap.size+1) [.int .u8 0,.int .i64 0,.int .i64 0,.int .i64 0,.int .u8 0,.int .i64 0,.int .i64 (-1),.int .i64 i,.int .i64 0] 111:=hk1.blk (by (exact blA)) (by omega)
 have hR1:Blk w1 (w.heap.size) [.int .u8 0,.int .i64 0,.int .i64 0,.int .i64 0,.int .u8 0,.int .i64 0,.int .i64 0,.int .i64 0,.int .i64 0] 111:=hk1.blk (by (exact blA)) (by omega)
 have hz1:w.heap.size+2≤w1.heap.size:=by have:=hk1.size;(try simp at this);omega
 obtain ⟨l10,l11,l12,l13,l14,l15,l16,l17,l18,l1f⟩:=hL1.c9
 generalize hy:varF s (i,false)=y at *
 obtain ⟨y,yi,yb⟩:=y
 dsimp only at *
 have hb1:Blk w1 r [.string s,.int .i64 yi,.bool yb,nv,iv,.int .i64 lp] 105:=hB1
 obtain ⟨p10,p11,p12,_,_,_,p1f⟩:=hB1.c6
 generalize hd:pk s yi=d2 at *
 have HD:=hide hd
 clear hd
 go_wp2_with fail
 refine (peek_c r yi s yb nv iv lp _ (by (exact blA))).mono ?_
 rw [HD.out]
 rintro e w2 ⟨rfl,nq2,rfl⟩
 have h3':(d2=126∧yb=true)∨((d2:Int) == 126)=false:=by
  by_cases hq:d2=126
  ·exact .inl ⟨hq,by cases yb <;> simp_all⟩
  ·exact .inr (by simp;omega)
 rcases h3' with ⟨hq1,hq2⟩|hq1
 case inl=>
   subst hq1 hq2
   go_wp2_with fail
   all_goals
    refine (eat_c r yi 61 s true nv iv lp _ hs hv ?_).mono ?_
    ·show Blk _ _ _ _
     (exact blA)
    rintro e w2 ⟨rfl,hB2,hk2⟩
    have hL2:Blk w2 (w.heap.size+1) [.int .u8 0,.int .i64 y,.int .i64 0,.int .i64 0,.int .u8 0,.int .i64 0,.int .i64 (-1),.int .i64 i,.int .i64 0] 111:=hk2.blk (by (exact blA)) (by omega)
    have hR2:Blk w2 (w.heap.size) [.int .u8 0,.int .i64 0,.int .i64 0,.int .i64 0,.int .u8 0,.int .i64 0,.int .i64 0,.int .i64 0,.int .i64 0] 111:=hk2.blk (by (exact blA)) (by omega)
    have hz2:w.heap.size+2≤w2.heap.size:=by have:=hk2.size;(try simp at this);omega
    obtain ⟨l20,l21,l22,l23,l24,l25,l26,l27,l28,l2f⟩:=hL2.c9
    generalize hq:eatF s (yi,true) 61=q at *
    obtain ⟨zi,zb⟩:=q
    dsimp only at he h4 hB2
    subst h4
    have hb2:Blk w2 r [.string s,.int .i64 zi,.bool true,nv,iv,.int .i64 lp] 105:=hB2
    obtain ⟨p20,p21,p22,_,_,_,p2f⟩:=hB2.c6
    go_wp2
    refine wp_gen (fun W=>RB W r s (zi,true) nv iv lp∧Blk W (w.heap.size) [.int .u8 0,.int .i64 0,.int .i64 0,.int .i64 0,.int .u8 0,.int .i64 0,.int .i64 0,.int .i64 0,.int .i64 0] 111∧Blk W (w.heap.size+1) [.int .u8 0,.int .i64 y,.int .i64 0,.int .i64 0,.int .u8 0,.int .i64 0,.int .i64 (-1),.int .i64 i,.int .i64 0] 111∧Kp (·=r) w W) ⟨by (show Blk _ _ _ _);(exact blA),by (exact blA),by (exact blA),by (exact kpA)⟩ ?_
    rintro W ⟨hB,hR,hL,hk⟩
    obtain ⟨x0,x1,x2,x3,x4,x5,x6,x7,x8,xf⟩:=hL.c9
    obtain ⟨z0,z1,z2,z3,z4,z5,z6,z7,z8,zf⟩:=hR.c9
    obtain ⟨q0,q1,q2,_,_,_,qf⟩:=hB.c6
    go_region
    go_wp2
    refine body_agg (Tb:=111) (b:=w.heap.size) (cs:=[.int .u8 0,.int .i64 y,.int .i64 0,.int .i64 0,.int .u8 0,.int .i64 0,.int .i64 (-1),.int .i64 i,.int .i64 ((zi:Int)-i)]) (.inr rfl) Tryz.results140 rfl rfl (by (exact blA)) Tryz.underlying111 rfl (by kernel_rfl) ?_
    rw [HV.out]
    refine ⟨rfl,?_,?_⟩
    ·have hb1:Blk W r [.string s,.int .i64 ((zi,true)).1,.bool ((zi,true)).2,nv,iv,.int .i64 lp] 105:=hB
     show Blk _ _ _ _
     (exact blA)
    ·(exact kpA)
 case inr =>
   go_wp2_with fail
   all_goals
    refine (eat_c r yi 61 s yb nv iv lp _ hs hv ?_).mono ?_
    ·show Blk _ _ _ _
     (exact blA)
    rintro e w2 ⟨rfl,hB2,hk2⟩
    have hL2:Blk w2 (w.heap.size+1) [.int .u8 0,.int .i64 y,.int .i64 0,.int .i64 0,.int .u8 0,.int .i64 0,.int .i64 (-1),.int .i64 i,.int .i64 0] 111:=hk2.blk (by (exact blA)) (by omega)
    have hR2:Blk w2 (w.heap.size) [.int .u8 0,.int .i64 0,.int .i64 0,.int .i64 0,.int .u8 0,.int .i64 0,.int .i64 0,.int .i64 0,.int .i64 0] 111:=hk2.blk (by (exact blA)) (by omega)
    have hz2:w.heap.size+2≤w2.heap.size:=by have:=hk2.size;(try simp at this);omega
    obtain ⟨l20,l21,l22,l23,l24,l25,l26,l27,l28,l2f⟩:=hL2.c9
    generalize hq:eatF s (yi,yb) 61=q at *
    obtain ⟨zi,zb⟩:=q
    dsimp only at he h4 hB2
    subst h4
    have hb2:Blk w2 r [.string s,.int .i64 zi,.bool true,nv,iv,.int .i64 lp] 105:=hB2
    obtain ⟨p20,p21,p22,_,_,_,p2f⟩:=hB2.c6
    go_wp2
    refine wp_gen (fun W=>RB W r s (zi,true) nv iv lp∧Blk W (w.heap.size) [.int .u8 0,.int .i64 0,.int .i64 0,.int .i64 0,.int .u8 0,.int .i64 0,.int .i64 0,.int .i64 0,.int .i64 0] 111∧Blk W (w.heap.size+1) [.int .u8 0,.int .i64 y,.int .i64 0,.int .i64 0,.int .u8 0,.int .i64 0,.int .i64 (-1),.int .i64 i,.int .i64 0] 111∧Kp (·=r) w W) ⟨by (show Blk _ _ _ _);(exact blA),by (exact blA),by (exact blA),by (exact kpA)⟩ ?_
    rintro W ⟨hB,hR,hL,hk⟩
    obtain ⟨x0,x1,x2,x3,x4,x5,x6,x7,x8,xf⟩:=hL.c9
    obtain ⟨z0,z1,z2,z3,z4,z5,z6,z7,z8,zf⟩:=hR.c9
    obtain ⟨q0,q1,q2,_,_,_,qf⟩:=hB.c6
    go_region
    go_wp2
    refine body_agg (Tb:=111) (b:=w.heap.size) (cs:=[.int .u8 0,.int .i64 y,.int .i64 0,.int .i64 0,.int .u8 0,.int .i64 0,.int .i64 (-1),.int .i64 i,.int .i64 ((zi:Int)-i)]) (.inr rfl) Tryz.results140 rfl rfl (by (exact blA)) Tryz.underlying111 rfl (by kernel_rfl) ?_
    rw [HV.out]
    refine ⟨rfl,?_,?_⟩
    ·have hb1:Blk W r [.string s,.int .i64 ((zi,true)).1,.bool ((zi,true)).2,nv,iv,.int .i64 lp] 105:=hB
     show Blk _ _ _ _
     (exact blA)
    ·(exact kpA)
set_option maxHeartbeats 1600000 in
theorem simple_set (r i:Nat) (s:ByteArray) (nv iv:Value) (lp:Int) (w:World) (hs:s.size≤1000) (hi:i≤s.size)
  (h:RB w r s (i,false) nv iv lp) (h1:pk s i≠94) (h2:pk s i≠33) (h3:¬ ((varF s (i,false)).2.2=false∧pk s (varF s (i,false)).2.1=126)) (h4:(eatF s (varF s (i,false)).2 61).2=false) :
  Calls Tryz.prog 140 #[.pointer (some ⟨r,0,none⟩)] w fun e w' =>
   e=.returned (.agg (simpF s i).1.cells.toArray)∧RB w' r s (simpF s i).2 nv iv lp∧Kp (·=r) w w':=by
 have HB:=hide h
 have HV:=hide (show simpF s i=({ (valF s (eatF s (varF s (i,false)).2 61).1 { nd0 i with x:=(varF s (i,false)).1 }).1 with l:=((valF s (eatF s (varF s (i,false)).2 61).1 { nd0 i with x:=(varF s (i,false)).1 }).2.1:Int)-i },(valF s (eatF s (varF s (i,false)).2 61).1 { nd0 i with x:=(varF s (i,false)).1 }).2) by simp [simpF,h1,h2,h3,h4])
 have hr:=h.lt
 have hv:=varF_le s (i,false) hi
 have he:=eatF_le s (varF s (i,false)).2 61 (by decide) hv
 have hx:=valF_le s (eatF s (varF s (i,false)).2 61).1 { nd0 i with x:=(varF s (i,false)).1 } he
 have HK:=hide (valF_keeps s (eatF s (varF s (i,false)).2 61).1 { nd0 i with x:=(varF s (i,false)).1 })
 obtain ⟨c0,c1,c2,_,_,_,cf⟩:=h.c6
 clear h
 have hb:Blk w r [.string s,.int .i64 i,.bool false,nv,iv,.int .i64 lp] 105:=HB.out
 generalize hc:pk s i=d at *
 have HC:=hide hc
 clear hc
 go_enter Tryz.func140,Tryz.ntmps140
 go_wp2_with (go_at_call 135;refine (peek_c r i s false nv iv lp _ (by (exact blA))).mono ?_;rw [HC.out];rintro e w' ⟨rfl,nq,rfl⟩)
 refine (variable_c r i s false nv iv lp _ hs hi ?_).mono ?_
 ·show Blk _ _ _ _
  (exact blA)
 rintro e w1 ⟨rfl,hB1,hk1⟩
 have hL1:Blk w1 (w.heap.size+1) [.int .u8 0,.int .i64 0,.int .i64 0,.int .i64 0,.int .u8 0,.int .i64 0,.int .i64 (-1),.int .i64 i,.int .i64 0] 111:=hk1.blk (by (exact blA)) (by omega)
 have hR1:Blk w1 (w.heap.size) [.int .u8 0,.int .i64 0,.int .i64 0,.int .i64 0,.int .u8 0,.int .i64 0,.int .i64 0,.int .i64 0,.int .i64 0] 111:=hk1.blk (by (exact blA)) (by omega)
 have hz1:w.heap.size+2≤w1.heap.size:=by have:=hk1.size;(try simp at this);omega
 obtain ⟨l10,l11,l12,l13,l14,l15,l16,l17,l18,l1f⟩:=hL1.c9
 generalize hy:varF s (i,false)=y at *
 obtain ⟨y,yi,yb⟩:=y
 dsimp only at *
 have hb1:Blk w1 r [.string s,.int .i64 yi,.bool yb,nv,iv,.int .i64 lp] 105:=hB1
 obtain ⟨p10,p11,p12,_,_,_,p1f⟩:=hB1.c6
 generalize hd:pk s yi=d2 at *
 have HD:=hide hd
 clear hd
 go_wp2_with fail
 refine (peek_c r yi s yb nv iv lp _ (by (exact blA))).mono ?_
 rw [HD.out]
 rintro e w2 ⟨rfl,nq2,rfl⟩
 have h3':(d2=126∧yb=true)∨((d2:Int) == 126)=false:=by
  by_cases hq:d2=126
  ·exact .inl ⟨hq,by cases yb <;> simp_all⟩
  ·exact .inr (by simp;omega)
 rcases h3' with ⟨hq1,hq2⟩|hq1
 case inl=>
   subst hq1 hq2
   simp [eatF] at h4
 case inr =>
   go_wp2_with fail
   all_goals
    refine (eat_c r yi 61 s yb nv iv lp _ hs hv ?_).mono ?_
    ·show Blk _ _ _ _
     (exact blA)
    rintro e w2 ⟨rfl,hB2,hk2⟩
    have hL2:Blk w2 (w.heap.size+1) [.int .u8 0,.int .i64 y,.int .i64 0,.int .i64 0,.int .u8 0,.int .i64 0,.int .i64 (-1),.int .i64 i,.int .i64 0] 111:=hk2.blk (by (exact blA)) (by omega)
    have hR2:Blk w2 (w.heap.size) [.int .u8 0,.int .i64 0,.int .i64 0,.int .i64 0,.int .u8 0,.int .i64 0,.int .i64 0,.int .i64 0,.int .i64 0] 111:=hk2.blk (by (exact blA)) (by omega)
    have hz2:w.heap.size+2≤w2.heap.size:=by have:=hk2.size;(try simp at this);omega
    obtain ⟨l20,l21,l22,l23,l24,l25,l26,l27,l28,l2f⟩:=hL2.c9
    generalize hq:eatF s (yi,yb) 61=q at *
    obtain ⟨zi,zb⟩:=q
    dsimp only at he h4 hB2
    subst h4
    have hb2:Blk w2 r [.string s,.int .i64 zi,.bool false,nv,iv,.int .i64 lp] 105:=hB2
    obtain ⟨p20,p21,p22,_,_,_,p2f⟩:=hB2.c6
    go_wp2_with fail
    refine (value_c r zi s { nd0 i with x:=y } nv iv lp _ hs he ?_).mono ?_
    ·show Blk _ _ _ _
     (exact blA)
    rintro e w3 ⟨rfl,hB3,hk3⟩
    have hL3:Blk w3 (w.heap.size+1) [.int .u8 0,.int .i64 y,.int .i64 0,.int .i64 0,.int .u8 0,.int .i64 0,.int .i64 (-1),.int .i64 i,.int .i64 0] 111:=hk3.blk (by (exact blA)) (by omega)
    have hR3:Blk w3 (w.heap.size) [.int .u8 0,.int .i64 0,.int .i64 0,.int .i64 0,.int .u8 0,.int .i64 0,.int .i64 0,.int .i64 0,.int .i64 0] 111:=hk3.blk (by (exact blA)) (by omega)
    have hz3:w.heap.size+2≤w3.heap.size:=by have:=hk3.size;(try simp at this);omega
    obtain ⟨l30,l31,l32,l33,l34,l35,l36,l37,l38,l3f⟩:=hL3.c9
    generalize hu:valF s zi { nd0 i with x:=y }=u at *
    obtain ⟨u,ui,ub⟩:=u
    obtain ⟨k1,k2,k3,k4,k5⟩:=HK.out
    obtain ⟨uo,ux,uy,uv,uk,ut,uf,ua,ul⟩:=u
    dsimp only [nd0] at k1 k2 k3 k4 k5 hx hB3
    subst k1 k2 k3 k4 k5
    simp only [Nd.cells]
    have hb3:Blk w3 r [.string s,.int .i64 ui,.bool ub,nv,iv,.int .i64 lp] 105:=hB3
    go_wp2
    refine wp_gen (fun W=>RB W r s (ui,ub) nv iv lp∧Blk W (w.heap.size) [.int .u8 0,.int .i64 0,.int .i64 0,.int .i64 0,.int .u8 0,.int .i64 0,.int .i64 0,.int .i64 0,.int .i64 0] 111∧Blk W (w.heap.size+1) [.int .u8 uo,.int .i64 y,.int .i64 uy,.int .i64 uv,.int .u8 uk,.int .i64 0,.int .i64 (-1),.int .i64 i,.int .i64 0] 111∧Kp (·=r) w W) ⟨by (show Blk _ _ _ _);(exact blA),by (exact blA),by (exact blA),by (exact kpA)⟩ ?_
    rintro W ⟨hB,hR,hL,hk⟩
    obtain ⟨x0,x1,x2,x3,x4,x5,x6,x7,x8,xf⟩:=hL.c9
    obtain ⟨z0,z1,z2,z3,z4,z5,z6,z7,z8,zf⟩:=hR.c9
    obtain ⟨q0,q1,q2,_,_,_,qf⟩:=hB.c6
    go_region
    go_wp2
    refine body_agg (Tb:=111) (b:=w.heap.size) (cs:=[.int .u8 uo,.int .i64 y,.int .i64 uy,.int .i64 uv,.int .u8 uk,.int .i64 0,.int .i64 (-1),.int .i64 i,.int .i64 ((ui:Int)-i)]) (.inr rfl) Tryz.results140 rfl rfl (by (exact blA)) Tryz.underlying111 rfl (by kernel_rfl) ?_
    rw [HV.out]
    refine ⟨rfl,?_,?_⟩
    ·have hb1:Blk W r [.string s,.int .i64 ((ui,ub)).1,.bool ((ui,ub)).2,nv,iv,.int .i64 lp] 105:=hB
     show Blk _ _ _ _
     (exact blA)
    ·(exact kpA)
theorem simple_c (r i:Nat) (s:ByteArray) (nv iv:Value) (lp:Int) (w:World) (hs:s.size≤1000) (hi:i≤s.size)
  (h:RB w r s (i,false) nv iv lp) :
  Calls Tryz.prog 140 #[.pointer (some ⟨r,0,none⟩)] w fun e w' =>
   e=.returned (.agg (simpF s i).1.cells.toArray)∧RB w' r s (simpF s i).2 nv iv lp∧Kp (·=r) w w':=by
 by_cases h1:pk s i=94
 ·exact simple_put r i s nv iv lp w hs hi h h1
 by_cases h2:pk s i=33
 ·exact simple_never r i s nv iv lp w hs hi h h2
 by_cases h3:(varF s (i,false)).2.2=false∧pk s (varF s (i,false)).2.1=126
 ·exact simple_cast r i s nv iv lp w hs hi h h1 h2 h3.1 h3.2
 cases h4:(eatF s (varF s (i,false)).2 61).2
 ·exact simple_set r i s nv iv lp w hs hi h h1 h2 h3 h4
 ·exact simple_eq r i s nv iv lp w hs hi h h1 h2 h3 h4
theorem simpF_le (s:ByteArray) (i:Nat) (h:i≤s.size):(simpF s i).2.1≤s.size:=by
 have hv:=varF_le s (i,false) h
 have he:=eatF_le s _ 61 (by decide) hv
 unfold simpF
 repeat' split
 ·rename_i h1;exact varF_le _ _ (pk_in s i (by omega))
 ·rename_i _ h1;exact pk_in s i (by omega)
 ·rename_i _ _ h1;exact kindF_le _ _ (pk_in s _ (by omega))
 ·exact he
 ·exact valF_le _ _ _ he
end Go.Proofs.YtellieabhaphhabGreatDoor
namespace Go.Proofs.YtellieabhaphhabGreatDoor
open Go.RowKit
def ty0 (i:Nat):Nd:={ op:=121,x:=0,y:=0,v:=0,k:=0,t:=0,f:=0,a:=i,l:=0 }
def testF (s:ByteArray) (i:Nat):Nd × (Nat × Bool) :=
 if (varF s (i,false)).2.2=false∧pk s (varF s (i,false)).2.1=58 then
  ({ ty0 i with op:=58,y:=(varF s (i,false)).1,k:=(kindF s ((varF s (i,false)).2.1+1,false)).1,l:=((kindF s ((varF s (i,false)).2.1+1,false)).2.1:Int)-i },(kindF s ((varF s (i,false)).2.1+1,false)).2)
 else ({ ty0 i with y:=(varF s (i,false)).1,l:=((varF s (i,false)).2.1:Int)-i },(varF s (i,false)).2)
theorem testF_le (s:ByteArray) (i:Nat) (h:i≤s.size):(testF s i).2.1≤s.size:=by
 have hv:=varF_le s (i,false) h
 unfold testF
 split
 ·rename_i h1;exact kindF_le _ _ (pk_in s _ (by omega))
 ·exact hv
set_option maxHeartbeats 1600000 in
theorem test_kind (r i:Nat) (s:ByteArray) (nv iv:Value) (lp:Int) (w:World) (hs:s.size≤1000) (hi:i≤s.size)
  (h:RB w r s (i,false) nv iv lp) (h3:(varF s (i,false)).2.2=false) (h4:pk s (varF s (i,false)).2.1=58) :
  Calls Tryz.prog 139 #[.pointer (some ⟨r,0,none⟩)] w fun e w' =>
   e=.returned (.agg (testF s i).1.cells.toArray)∧RB w' r s (testF s i).2 nv iv lp∧Kp (·=r) w w':=by
 have HB:=hide h
 have HV:=hide (show testF s i=({ ty0 i with op:=58,y:=(varF s (i,false)).1,k:=(kindF s ((varF s (i,false)).2.1+1,false)).1,l:=((kindF s ((varF s (i,false)).2.1+1,false)).2.1:Int)-i },(kindF s ((varF s (i,false)).2.1+1,false)).2) by simp [testF,h3,h4])
 have hr:=h.lt
 have hi1:(varF s (i,false)).2.1+1≤s.size:=pk_in s (varF s (i,false)).2.1 (by omega)
 have hv:=kindF_le s ((varF s (i,false)).2.1+1,false) hi1
 obtain ⟨c0,c1,c2,_,_,_,cf⟩:=h.c6
 clear h
 have hb:Blk w r [.string s,.int .i64 i,.bool false,nv,iv,.int .i64 lp] 105:=HB.out
 go_enter Tryz.func139,Tryz.ntmps139
 go_wp2_with fail
 refine (variable_c r i s false nv iv lp _ hs hi ?_).mono ?_
 ·show Blk _ _ _ _
  (exact blA)
 rintro e w1 ⟨rfl,hB1,hk1⟩
 have hL1:Blk w1 (w.heap.size+1) [.int .u8 121,.int .i64 0,.int .i64 0,.int .i64 0,.int .u8 0,.int .i64 0,.int .i64 0,.int .i64 i,.int .i64 0] 111:=hk1.blk (by (exact blA)) (by omega)
 have hR1:Blk w1 (w.heap.size) [.int .u8 0,.int .i64 0,.int .i64 0,.int .i64 0,.int .u8 0,.int .i64 0,.int .i64 0,.int .i64 0,.int .i64 0] 111:=hk1.blk (by (exact blA)) (by omega)
 have hz1:w.heap.size+2≤w1.heap.size:=by have:=hk1.size;(try simp at this);omega
 obtain ⟨l10,l11,l12,l13,l14,l15,l16,l17,l18,l1f⟩:=hL1.c9
 generalize hy:varF s (i,false)=y at *
 obtain ⟨y,yi,yb⟩:=y
 dsimp only at *
 have hb1:Blk w1 r [.string s,.int .i64 yi,.bool yb,nv,iv,.int .i64 lp] 105:=hB1
 obtain ⟨p10,p11,p12,_,_,_,p1f⟩:=hB1.c6
 generalize hd:pk s yi=d2 at *
 have HD:=hide hd
 clear hd
 go_wp2_with fail
 refine (peek_c r yi s yb nv iv lp _ (by (exact blA))).mono ?_
 rw [HD.out]
 rintro e w2 ⟨rfl,nq2,rfl⟩
 subst h3 h4
 go_wp2_with fail
 refine (kind_c r (yi+1) s false nv iv lp _ hs hi1 ?_).mono ?_
 ·show Blk _ _ _ _
  (exact blA)
 rintro e w2 ⟨rfl,hB2,hk2⟩
 have hL2:Blk w2 (w.heap.size+1) [.int .u8 58,.int .i64 0,.int .i64 y,.int .i64 0,.int .u8 0,.int .i64 0,.int .i64 0,.int .i64 i,.int .i64 0] 111:=hk2.blk (by (exact blA)) (by omega)
 have hR2:Blk w2 (w.heap.size) [.int .u8 0,.int .i64 0,.int .i64 0,.int .i64 0,.int .u8 0,.int .i64 0,.int .i64 0,.int .i64 0,.int .i64 0] 111:=hk2.blk (by (exact blA)) (by omega)
 have hz2:w.heap.size+2≤w2.heap.size:=by have:=hk2.size;(try simp at this);omega
 obtain ⟨l20,l21,l22,l23,l24,l25,l26,l27,l28,l2f⟩:=hL2.c9
 generalize hk:kindF s (yi+1,false)=z at *
 obtain ⟨k,zi,zb⟩:=z
 dsimp only at hv
 have hb2:Blk w2 r [.string s,.int .i64 zi,.bool zb,nv,iv,.int .i64 lp] 105:=hB2
 go_wp2
 refine wp_gen (fun W=>RB W r s (zi,zb) nv iv lp∧Blk W (w.heap.size) [.int .u8 0,.int .i64 0,.int .i64 0,.int .i64 0,.int .u8 0,.int .i64 0,.int .i64 0,.int .i64 0,.int .i64 0] 111∧Blk W (w.heap.size+1) [.int .u8 58,.int .i64 0,.int .i64 y,.int .i64 0,.int .u8 k,.int .i64 0,.int .i64 0,.int .i64 i,.int .i64 0] 111∧Kp (·=r) w W) ⟨by (show Blk _ _ _ _);(exact blA),by (exact blA),by (exact blA),by (exact kpA)⟩ ?_
 rintro W ⟨hB,hR,hL,hk⟩
 obtain ⟨x0,x1,x2,x3,x4,x5,x6,x7,x8,xf⟩:=hL.c9
 obtain ⟨z0,z1,z2,z3,z4,z5,z6,z7,z8,zf⟩:=hR.c9
 obtain ⟨q0,q1,q2,_,_,_,qf⟩:=hB.c6
 go_region
 go_wp2
 refine body_agg (Tb:=111) (b:=w.heap.size) (cs:=[.int .u8 58,.int .i64 0,.int .i64 y,.int .i64 0,.int .u8 k,.int .i64 0,.int .i64 0,.int .i64 i,.int .i64 ((zi:Int)-i)]) (.inr rfl) Tryz.results139 rfl rfl (by (exact blA)) Tryz.underlying111 rfl (by kernel_rfl) ?_
 rw [HV.out]
 refine ⟨rfl,?_,?_⟩
 ·have hb1:Blk W r [.string s,.int .i64 ((zi,zb)).1,.bool ((zi,zb)).2,nv,iv,.int .i64 lp] 105:=hB
  show Blk _ _ _ _
  (exact blA)
 ·(exact kpA)
set_option maxHeartbeats 1600000 in
theorem test_truth (r i:Nat) (s:ByteArray) (nv iv:Value) (lp:Int) (w:World) (hs:s.size≤1000) (hi:i≤s.size)
  (h:RB w r s (i,false) nv iv lp) (h3:¬ ((varF s (i,false)).2.2=false∧pk s (varF s (i,false)).2.1=58)) :
  Calls Tryz.prog 139 #[.pointer (some ⟨r,0,none⟩)] w fun e w' =>
   e=.returned (.agg (testF s i).1.cells.toArray)∧RB w' r s (testF s i).2 nv iv lp∧Kp (·=r) w w':=by
 have HB:=hide h
 have HV:=hide (show testF s i=({ ty0 i with y:=(varF s (i,false)).1,l:=((varF s (i,false)).2.1:Int)-i },(varF s (i,false)).2) by simp [testF,h3])
 have hr:=h.lt
 have hv:=varF_le s (i,false) hi
 obtain ⟨c0,c1,c2,_,_,_,cf⟩:=h.c6
 clear h
 have hb:Blk w r [.string s,.int .i64 i,.bool false,nv,iv,.int .i64 lp] 105:=HB.out
 go_enter Tryz.func139,Tryz.ntmps139
 go_wp2_with fail
 refine (variable_c r i s false nv iv lp _ hs hi ?_).mono ?_
 ·show Blk _ _ _ _
  (exact blA)
 rintro e w1 ⟨rfl,hB1,hk1⟩
 have hL1:Blk w1 (w.heap.size+1) [.int .u8 121,.int .i64 0,.int .i64 0,.int .i64 0,.int .u8 0,.int .i64 0,.int .i64 0,.int .i64 i,.int .i64 0] 111:=hk1.blk (by (exact blA)) (by omega)
 have hR1:Blk w1 (w.heap.size) [.int .u8 0,.int .i64 0,.int .i64 0,.int .i64 0,.int .u8 0,.int .i64 0,.int .i64 0,.int .i64 0,.int .i64 0] 111:=hk1.blk (by (exact blA)) (by omega)
 have hz1:w.heap.size+2≤w1.heap.size:=by have:=hk1.size;(try simp at this);omega
 obtain ⟨l10,l11,l12,l13,l14,l15,l16,l17,l18,l1f⟩:=hL1.c9
 generalize hy:varF s (i,false)=y at *
 obtain ⟨y,yi,yb⟩:=y
 dsimp only at *
 have hb1:Blk w1 r [.string s,.int .i64 yi,.bool yb,nv,iv,.int .i64 lp] 105:=hB1
 obtain ⟨p10,p11,p12,_,_,_,p1f⟩:=hB1.c6
 generalize hd:pk s yi=d2 at *
 have HD:=hide hd
 clear hd
 go_wp2_with fail
 refine (peek_c r yi s yb nv iv lp _ (by (exact blA))).mono ?_
 rw [HD.out]
 rintro e w2 ⟨rfl,nq2,rfl⟩
 cases yb
 case true =>
   go_wp2
   refine wp_gen (fun W=>RB W r s (yi,true) nv iv lp∧Blk W (w.heap.size) [.int .u8 0,.int .i64 0,.int .i64 0,.int .i64 0,.int .u8 0,.int .i64 0,.int .i64 0,.int .i64 0,.int .i64 0] 111∧Blk W (w.heap.size+1) [.int .u8 121,.int .i64 0,.int .i64 y,.int .i64 0,.int .u8 0,.int .i64 0,.int .i64 0,.int .i64 i,.int .i64 0] 111∧Kp (·=r) w W) ⟨by (show Blk _ _ _ _);(exact blA),by (exact blA),by (exact blA),by (exact kpA)⟩ ?_
   rintro W ⟨hB,hR,hL,hk⟩
   obtain ⟨x0,x1,x2,x3,x4,x5,x6,x7,x8,xf⟩:=hL.c9
   obtain ⟨z0,z1,z2,z3,z4,z5,z6,z7,z8,zf⟩:=hR.c9
   obtain ⟨q0,q1,q2,_,_,_,qf⟩:=hB.c6
   go_region
   go_wp2
   refine body_agg (Tb:=111) (b:=w.heap.size) (cs:=[.int .u8 121,.int .i64 0,.int .i64 y,.int .i64 0,.int .u8 0,.int .i64 0,.int .i64 0,.int .i64 i,.int .i64 ((yi:Int)-i)]) (.inr rfl) Tryz.results139 rfl rfl (by (exact blA)) Tryz.underlying111 rfl (by kernel_rfl) ?_
   rw [HV.out]
   refine ⟨rfl,?_,?_⟩
   ·have hb1:Blk W r [.string s,.int .i64 ((yi,true)).1,.bool ((yi,true)).2,nv,iv,.int .i64 lp] 105:=hB
    show Blk _ _ _ _
    (exact blA)
   ·(exact kpA)
 case false =>
   have hne:((d2:Int) == 58)=false:=by simp at h3 ⊢;omega
   go_wp2
   refine wp_gen (fun W=>RB W r s (yi,false) nv iv lp∧Blk W (w.heap.size) [.int .u8 0,.int .i64 0,.int .i64 0,.int .i64 0,.int .u8 0,.int .i64 0,.int .i64 0,.int .i64 0,.int .i64 0] 111∧Blk W (w.heap.size+1) [.int .u8 121,.int .i64 0,.int .i64 y,.int .i64 0,.int .u8 0,.int .i64 0,.int .i64 0,.int .i64 i,.int .i64 0] 111∧Kp (·=r) w W) ⟨by (show Blk _ _ _ _);(exact blA),by (exact blA),by (exact blA),by (exact kpA)⟩ ?_
   rintro W ⟨hB,hR,hL,hk⟩
   obtain ⟨x0,x1,x2,x3,x4,x5,x6,x7,x8,xf⟩:=hL.c9
   obtain ⟨z0,z1,z2,z3,z4,z5,z6,z7,z8,zf⟩:=hR.c9
   obtain ⟨q0,q1,q2,_,_,_,qf⟩:=hB.c6
   go_region
   go_wp2
   refine body_agg (Tb:=111) (b:=w.heap.size) (cs:=[.int .u8 121,.int .i64 0,.int .i64 y,.int .i64 0,.int .u8 0,.int .i64 0,.int .i64 0,.int .i64 i,.int .i64 ((yi:Int)-i)]) (.inr rfl) Tryz.results139 rfl rfl (by (exact blA)) Tryz.underlying111 rfl (by kernel_rfl) ?_
   rw [HV.out]
   refine ⟨rfl,?_,?_⟩
   ·have hb1:Blk W r [.string s,.int .i64 ((yi,false)).1,.bool ((yi,false)).2,nv,iv,.int .i64 lp] 105:=hB
    show Blk _ _ _ _
    (exact blA)
   ·(exact kpA)
theorem test_c (r i:Nat) (s:ByteArray) (nv iv:Value) (lp:Int) (w:World) (hs:s.size≤1000) (hi:i≤s.size)
  (h:RB w r s (i,false) nv iv lp) :
  Calls Tryz.prog 139 #[.pointer (some ⟨r,0,none⟩)] w fun e w' =>
   e=.returned (.agg (testF s i).1.cells.toArray)∧RB w' r s (testF s i).2 nv iv lp∧Kp (·=r) w w':=by
 by_cases h3:(varF s (i,false)).2.2=false∧pk s (varF s (i,false)).2.1=58
 ·exact test_kind r i s nv iv lp w hs hi h h3.1 h3.2
 ·exact test_truth r i s nv iv lp w hs hi h h3
end Go.Proofs.YtellieabhaphhabGreatDoor
namespace Go.Proofs.YtellieabhaphhabGreatDoor
open Go.RowKit
structure It where
 k:Int
 n:Int
 els:Int
 en:Int
def It.cells (x:It):List Value:=[.int .u8 x.k,.int .i64 x.n,.int .i64 x.els,.int .i64 x.en]
structure RS where
 i:Nat
 bad:Bool
 nodes:List Nd
 items:List It
 loops:Nat
def nCells (l:List Nd):List Value:=l.flatMap Nd.cells
def iCells (l:List It):List Value:=l.flatMap It.cells
def Own (r:Nat) (nv iv:Value) (b:Nat):Prop:=b=r∨nv.ownBlock=some b∨iv.ownBlock=some b
def Rp (w:World) (r:Nat) (s:ByteArray) (st:RS) (O:Nat→Prop):Prop :=
 ∃ nv iv,RB w r s (st.i,st.bad) nv iv st.loops∧Row w nv 111 9 st.nodes.length (nCells st.nodes)∧Row w iv 153 4 st.items.length (iCells st.items) ∧
  nv.ownBlock≠some r∧iv.ownBlock≠some r∧(∀ b,nv.ownBlock=some b→iv.ownBlock≠some b)∧O=Own r nv iv
def Went (w:World) (O:Nat→Prop) (r:Nat) (s:ByteArray) (st':RS) (w':World):Prop :=
 ∃ O',Rp w' r s st' O'∧Kp O w w'∧∀ b,O' b→b<w.heap.size→O b
theorem info_node:(Tryz.prog.info? 111).map (fun i=>(i.zero,i.size,i.bytes))=some (some (.agg #[.int .u8 0,.int .i64 0,.int .i64 0,.int .i64 0,.int .u8 0,.int .i64 0,.int .i64 0,.int .i64 0,.int .i64 0]),9,72):=by kernel_rfl
theorem info_item:(Tryz.prog.info? 153).map (fun i=>(i.zero,i.size,i.bytes))=some (some (.agg #[.int .u8 0,.int .i64 0,.int .i64 0,.int .i64 0]),4,32):=by kernel_rfl
theorem grown_blk {w w':World} {row:Option Nat} {b:Nat} {cs:List Value} {T:TypeId} (hg:w.grownBy w' row) (h:Blk w b cs T) (hne:row≠some b):Blk w' b cs T:=by
 unfold Blk;rw [hg.block b h.lt (fun e=>hne e.symm)];exact h
theorem Blk.news {w:World} {b:Nat} {cs:List Value} {T:TypeId} (h:Blk w b cs T):∀ j u,cs[j]?=some u→w.cell? ((⟨b,0,none⟩:Addr).add j)=some u:=by
 have:=World.news_of_block (w:=w) h
 simpa using this
theorem Row.set {w:World} {v:Value} {e:TypeId} {size n:Nat} {xs:List Value} (h:Row w v e size n xs) {r o:Nat} (u:Value) (hne:v.ownBlock≠some r):Row (w.setCell ⟨r,o,none⟩ u) v e size n xs :=
 ((Kp.refl (·=r) w).setCell u (fun _=>rfl)).row h (fun b hb e=>hne (by rw [hb,e]))
theorem no_elim {b:Nat}:¬ no b:=fun e=>e
theorem Row.lt {w:World} {v:Value} {e:TypeId} {size n:Nat} {xs:List Value} (h:Row w v e size n xs) {b:Nat} (hb:v.ownBlock=some b):b<w.heap.size:=(World.ownsRow.lt h b hb).2
theorem went_nodes {w W w':World} {r:Nat} {s:ByteArray} {st:RS} {nv iv:Value} {n:Nd} {g cap H:Nat}
  (hB:RB w r s (st.i,st.bad) nv iv st.loops) (hI:Row w iv 153 4 st.items.length (iCells st.items))
  (d1:nv.ownBlock≠some r) (d2:iv.ownBlock≠some r) (d3:∀ b,nv.ownBlock=some b→iv.ownBlock≠some b) (hk:Kp no w W)
  (hown:w'.ownsRow 0 111 9 (.slice (some ⟨g,0,none⟩) (st.nodes.length+1) cap) (st.nodes.length+1) (nCells st.nodes++n.cells))
  (hgrow:W.grownBy w' nv.ownBlock) (hat:nv.ownBlock=some g∨g=H) (hH:w.heap.size≤H) :
  Went w (Own r nv iv) r s { st with nodes:=st.nodes++[n] } (w'.setCell ⟨r,3,none⟩ (.slice (some ⟨g,0,none⟩) (st.nodes.length+1) cap)):=by
 have hr:=hB.lt
 have hg:g≠r:=by
  rcases hat with h|h
  ·exact fun e=>d1 (by rw [h,e])
  ·omega
 have hIW:Row W iv 153 4 st.items.length (iCells st.items):=hk.row hI (fun _ _=>no_elim)
 refine ⟨Own r (.slice (some ⟨g,0,none⟩) (st.nodes.length+1) cap) iv,⟨_,iv,?_,?_,?_,?_,d2,?_,rfl⟩,?_,?_⟩
 ·exact Blk.set (grown_blk hgrow (hk.blk hB no_elim) d1) 3 _
 ·have e1:nCells (st.nodes++[n])=nCells st.nodes++n.cells:=by simp [nCells]
  have e2:(st.nodes++[n]).length=st.nodes.length+1:=by simp
  show Row _ _ _ _ (st.nodes++[n]).length (nCells (st.nodes++[n]))
  rw [e1,e2]
  exact Row.set hown _ (by simpa [Value.ownBlock] using hg)
 ·refine Row.set (World.ownsRow.kept hIW hgrow ?_) _ d2
  cases hv:iv.ownBlock with
  | none=>exact .inl rfl
  | some b=>exact .inr (fun e=>d3 b e.symm hv)
 ·simpa [Value.ownBlock] using hg
 ·intro b hb hv
  have hb':g=b:=by simpa [Value.ownBlock] using hb
  subst hb'
  rcases hat with h|h
  ·exact d3 _ h hv
  ·have:=Row.lt hI hv;omega
 ·exact ((hk.mono (fun _ e=>e.elim)).grown hgrow (fun k _ e=>.inr (.inl e))).setCell _ (fun _=>.inl rfl)
 ·rintro b (h|h|h) hlt
  ·exact .inl h
  ·have hb':g=b:=by simpa [Value.ownBlock] using h
   subst hb'
   rcases hat with h|h
   ·exact .inr (.inl h)
   ·omega
  ·exact .inr (.inr h)
theorem went_items {w W w':World} {r:Nat} {s:ByteArray} {st:RS} {nv iv:Value} {n:It} {g cap H:Nat}
  (hB:RB w r s (st.i,st.bad) nv iv st.loops) (hN:Row w nv 111 9 st.nodes.length (nCells st.nodes))
  (d1:nv.ownBlock≠some r) (d2:iv.ownBlock≠some r) (d3:∀ b,nv.ownBlock=some b→iv.ownBlock≠some b) (hk:Kp no w W)
  (hown:w'.ownsRow 0 153 4 (.slice (some ⟨g,0,none⟩) (st.items.length+1) cap) (st.items.length+1) (iCells st.items++n.cells))
  (hgrow:W.grownBy w' iv.ownBlock) (hat:iv.ownBlock=some g∨g=H) (hH:w.heap.size≤H) :
  Went w (Own r nv iv) r s { st with items:=st.items++[n] } (w'.setCell ⟨r,4,none⟩ (.slice (some ⟨g,0,none⟩) (st.items.length+1) cap)):=by
 have hr:=hB.lt
 have hg:g≠r:=by
  rcases hat with h|h
  ·exact fun e=>d2 (by rw [h,e])
  ·omega
 have hNW:Row W nv 111 9 st.nodes.length (nCells st.nodes):=hk.row hN (fun _ _=>no_elim)
 refine ⟨Own r nv (.slice (some ⟨g,0,none⟩) (st.items.length+1) cap),⟨nv,_,?_,?_,?_,d1,?_,?_,rfl⟩,?_,?_⟩
 ·exact Blk.set (grown_blk hgrow (hk.blk hB no_elim) d2) 4 _
 ·refine Row.set (World.ownsRow.kept hNW hgrow ?_) _ d1
  cases hv:nv.ownBlock with
  | none=>exact .inl rfl
  | some b=>exact .inr (fun e=>d3 b hv e.symm)
 ·have e1:iCells (st.items++[n])=iCells st.items++n.cells:=by simp [iCells]
  have e2:(st.items++[n]).length=st.items.length+1:=by simp
  show Row _ _ _ _ (st.items++[n]).length (iCells (st.items++[n]))
  rw [e1,e2]
  exact Row.set hown _ (by simpa [Value.ownBlock] using hg)
 ·simpa [Value.ownBlock] using hg
 ·intro b hb hv
  have hb':g=b:=by simpa [Value.ownBlock] using hv
  subst hb'
  rcases hat with h|h
  ·exact d3 _ hb h
  ·have:=Row.lt hN hb;omega
 ·exact ((hk.mono (fun _ e=>e.elim)).grown hgrow (fun k _ e=>.inr (.inr e))).setCell _ (fun _=>.inl rfl)
 ·rintro b (h|h|h) hlt
  ·exact .inl h
  ·exact .inr (.inl h)
  ·have hb':g=b:=by simpa [Value.ownBlock] using h
   subst hb'
   rcases hat with h|h
   ·exact .inr (.inr h)
   ·omega
set_option maxHeartbeats 1600000 in
theorem add_c (r:Nat) (s:ByteArray) (st:RS) (O:Nat→Prop) (n:Nd) (w:World) (hn:st.nodes.length≤1000) (h:Rp w r s st O) :
  Calls Tryz.prog 143 #[.pointer (some ⟨r,0,none⟩),.agg #[.int .u8 n.op,.int .i64 n.x,.int .i64 n.y,.int .i64 n.v,.int .u8 n.k,.int .i64 n.t,.int .i64 n.f,.int .i64 n.a,.int .i64 n.l]] w fun e w' =>
   e=.returned (.int .i64 st.nodes.length)∧Went w O r s { st with nodes:=st.nodes++[n] } w':=by
 obtain ⟨nv,iv,hB,hN,hI,d1,d2,d3,rfl⟩:=h
 obtain ⟨i0,hi,hz0,hz1,hz2⟩:=info_parts info_node
 have hr:=hB.lt
 have hb:Blk w r [.string s,.int .i64 st.i,.bool st.bad,nv,iv,.int .i64 st.loops] 105:=hB
 go_enter Tryz.func143,Tryz.ntmps143
 go_wp2
 refine wp_gen (fun W=>Blk W r [.string s,.int .i64 st.i,.bool st.bad,nv,iv,.int .i64 st.loops] 105∧Blk W w.heap.size n.cells 111∧Row W nv 111 9 st.nodes.length (nCells st.nodes)∧Kp no w W∧W.heap.size=w.heap.size+1) ⟨by (exact blA),Blk.new w n.cells _,hN.alloc _,by (exact kpA),by simp⟩ ?_
 rintro W ⟨hbW,hL,hNW,hkW,hsz⟩
 obtain ⟨x0,x1,x2,x3,x4,x5,x6,x7,x8,xf⟩:=hL.c9
 have q3:=hbW.cell 3
 simp only [List.getElem?_cons_zero,List.getElem?_cons_succ] at q3
 have qf:=hbW.frozen
 have hone:∀ u∈n.cells,u.oneCell'=true:=by simp [Nd.cells,Value.oneCell']
 go_region_law (refine step_append_lies _ rfl (.tmp 9) (.tmp 11) 102 rfl 0 111 i0 _ 9 72 Tryz.underlying102 hi hz0 hz1 hz2 rfl (by decide) nv st.nodes.length (nCells st.nodes) (by simp [Act.eval]) (by exact World.ownsRow.alloc (w:=W.drew) hNW _) ⟨W.heap.size,0,none⟩ 1 1 n.cells (by simp [Act.eval]) rfl (by exact Blk.news (Blk.new W.drew n.cells _)) hone (by decide) (by unfold maxLen;omega) (by omega) (Nat.zero_le _) _ rfl ?_;intro g cap w' hown hgrow hat hlt;have hb':=grown_blk hgrow (Blk.alloc (Blk.drew hbW) _) d1;have q3':=hb'.cell 3;have qf':=hb'.frozen;simp only [List.getElem?_cons_zero,List.getElem?_cons_succ] at q3')
 all_goals
  go_wp2
  go_ret
  exact ⟨rfl,went_nodes hB hI d1 d2 d3 (W:=W.drew.alloc _) (hkW.drew.alloc _) hown hgrow hat (by simp;omega)⟩
set_option maxHeartbeats 1600000 in
theorem item_c (r:Nat) (s:ByteArray) (st:RS) (O:Nat→Prop) (k n:Int) (w:World) (hn:st.items.length≤1000) (h:Rp w r s st O) :
  Calls Tryz.prog 158 #[.pointer (some ⟨r,0,none⟩),.int .u8 k,.int .i64 n] w fun e w' =>
   e=.returned (.int .i64 st.items.length)∧Went w O r s { st with items:=st.items++[⟨k,n,0,0⟩] } w':=by
 obtain ⟨nv,iv,hB,hN,hI,d1,d2,d3,rfl⟩:=h
 obtain ⟨i0,hi,hz0,hz1,hz2⟩:=info_parts info_item
 have hr:=hB.lt
 have hb:Blk w r [.string s,.int .i64 st.i,.bool st.bad,nv,iv,.int .i64 st.loops] 105:=hB
 have q4:=hb.cell 4
 simp only [List.getElem?_cons_zero,List.getElem?_cons_succ] at q4
 have qf:=hb.frozen
 have hone:∀ u∈(It.mk k n 0 0).cells,u.oneCell'=true:=by simp [It.cells,Value.oneCell']
 go_enter Tryz.func158,Tryz.ntmps158
 go_wp2_with (at_builtin;refine wpList_append_lies _ rfl (.tmp 11) (.tmp 15) 103 rfl 0 153 i0 _ 4 32 Tryz.underlying103 hi hz0 hz1 hz2 rfl (by decide) iv st.items.length (iCells st.items) (by simp [Act.eval]) (by exact World.ownsRow.alloc hI _) ⟨w.heap.size,0,none⟩ 1 1 (It.mk k n 0 0).cells (by simp [Act.eval]) rfl (by exact Blk.news (Blk.new w (It.mk k n 0 0).cells _)) hone (by decide) (by unfold maxLen;omega) (by omega) (Nat.zero_le _) _ rfl ?_;intro g cap w' hown hgrow hat hlt;have hb':=grown_blk hgrow (Blk.alloc hb _) d2;have q4':=hb'.cell 4;have qf':=hb'.frozen;simp only [List.getElem?_cons_zero,List.getElem?_cons_succ] at q4')
 go_ret
 exact ⟨rfl,went_items hB hN d1 d2 d3 (W:=w.alloc _) ((Kp.refl _ _).alloc _) hown hgrow hat (by simp)⟩
end Go.Proofs.YtellieabhaphhabGreatDoor
namespace Go.Proofs.YtellieabhaphhabGreatDoor
open Go.RowKit
theorem lnum_c (c:Int) (w:World) :
  Calls Tryz.prog 10 #[.int .i64 c] w fun e w'=>e=.returned (.int .i64 c)∧w'=w:=by
 go_enter Tryz.func10,Tryz.ntmps10
 go_wp2
 go_ret
 exact ⟨rfl,rfl⟩
end Go.Proofs.YtellieabhaphhabGreatDoor
namespace Go.Proofs.YtellieabhaphhabGreatDoor
open Go.RowKit
structure OpV where
 k:Int
 b:Int
 c:Int
 s:ByteArray
 t:ByteArray
 u:ByteArray
def OpV.cells (o:OpV):List Value:=[.int .i64 o.k,.int .i64 o.b,.int .i64 o.c,.string o.s,.string o.t,.string o.u]
def Scr (w:World) (a:Addr) (n:Nat) (O:Nat→OpV):Prop:=∀ i,i<n→∀ j,j<6→w.cell? (a.add (i*6+j))=(O i).cells[j]?
theorem run_loadVar_gen {P:Program} (w:World) (a:Addr) (ty:TypeId) (cs:List Value) (d:TypeDesc) (hc:∀ j v,cs[j]?=some v→w.cell? (a.add j)=some v)
  (hu:P.underlying ty=some d) (hd:d.isRow=true) (hi:(P.info? ty).map (·.size)=some cs.length) :
  (loadVar ty a).run P w=.ok (.agg cs.toArray) w:=by
 have hl:(loadCells a cs.length).run P w=.ok cs.toArray w:=run_loadCells_list (P:=P) w a cs hc
 cases hq:P.info? ty with
 | none=>simp [hq] at hi
 | some i =>
  have hs:i.size=cs.length:=by simpa [hq] using hi
  have hagg:(isAgg ty).run P w=.ok true w:=by
   unfold isAgg
   rw [Sem.run_bind,run_underlying hu w]
   cases d <;> simp_all
  simp [loadVar,Sem.run_bind,hagg,sizeOf,typeInfo,hq,hs,hl]
theorem wp_load_gen {P:Program} {op:Oper} {a:Act} {w:World} {K:Act→World→Prop} {Q:Exit→Act→World→Prop} (ty:TypeId) (x:Operand) (ho:op.op=.load ty x)
  (b:Addr) (hx:a.eval x=.pointer (some b)) (cs:List Value) (d:TypeDesc) (hc:∀ j v,cs[j]?=some v→w.cell? (b.add j)=some v)
  (hu:P.underlying ty=some d) (hd:d.isRow=true) (hi:(P.info? ty).map (·.size)=some cs.length)
  (h:K (a.put op.dst (.agg cs.toArray)) w):op.wp P a w K Q:=by
 unfold Oper.wp execOp
 simp only [ho,hx,Instr.loadAt,Instr.sureAddr,Sem.run_bind,Sem.run_pure,Result.andThen_ok,run_loadVar_gen w b ty cs d hc hu hd hi]
 exact h
theorem wpList_load_gen {P:Program} {ops:Array Oper} {rest:List Oper} {op:Oper} {a:Act} {w:World} {Q:Exit→Act→World→Prop} (hgd:op.guard=none) (ty:TypeId) (x:Operand) (ho:op.op=.load ty x)
  (b:Addr) (hx:a.eval x=.pointer (some b)) (cs:List Value) (d:TypeDesc) (hc:∀ j v,cs[j]?=some v→w.cell? (b.add j)=some v)
  (hu:P.underlying ty=some d) (hd:d.isRow=true) (hi:(P.info? ty).map (·.size)=some cs.length)
  (h:wpList P ops Q rest (a.put op.dst (.agg cs.toArray)) w):wpList P ops Q (op::rest) a w :=
 wpList_plain hgd fun _ hK=>wp_load_gen ty x ho b hx cs d hc hu hd hi (hK _ _ h)
theorem add_block (a:Addr) (k:Nat):(a.add k).block=a.block:=by unfold Addr.add;split <;> rfl
theorem Scr.kp {w w':World} {a:Addr} {n:Nat} {O:Nat→OpV} (h:Scr w a n O) (k:Kp no w w') (hab:a.block<w.heap.size):Scr w' a n O:=fun i hi j hj=>by
 rw [← h i hi j hj]
 exact World.cell?_of_block (by rw [add_block];exact k.block a.block hab no_elim)
set_option maxRecDepth 100000 in
set_option maxHeartbeats 1600000 in
theorem lupto_c (a:Addr) (n cap:Nat) (O:Nat→OpV) (lo hi:Int) (w:World) (hn:n≤maxLen) (hS:Scr w a n O) (hab:a.block<w.heap.size) (I:World→Prop) (hI:∀ X Y,I X→Kp no X Y→I Y) (ht:I w)
  (hp:∀ i,i<n→lo≤(O i).k→(O i).k≤hi→∀ W,I W→Calls Tryz.prog 16 #[.agg #[.int .i64 (O i).k,.int .i64 (O i).b,.int .i64 (O i).c,.string (O i).s,.string (O i).t,.string (O i).u]] W fun e w'=>e=.returned (.bool true)∧Kp no W w') :
  Calls Tryz.prog 7 #[.slice (some a) n cap,.int .i64 lo,.int .i64 hi] w fun e w'=>e=.returned (.int .i64 (-1))∧Kp no w w':=by
 unfold maxLen at hn
 go_enter Tryz.func7,Tryz.ntmps7
 go_wp2
 go_loopg [7] n (fun k iv wr=>∃ j:Nat,j≤n∧k=n-j∧iv=.int .i64 j∧Kp no w wr)
 case atStart=>exact ⟨0,Nat.zero_le _,rfl,rfl,Kp.refl _ _⟩
 case round =>
  obtain ⟨j,hj,hk,rfl,kr⟩:=hrel
  have HK:=hide hk
  have HKR:=hide kr
  have hSr:=hS.kp kr hab
  have hTr:=hI _ _ ht kr
  have hal:a.block<wr.heap.size:=by have:=kr.size;omega
  clear hk kr
  by_cases hlt:j<n
  ·by_cases h60:(j:Int)<1152921504606846976
   ·have d60:=decide_eq_true h60
    clear h60
    have c0:=hSr j hlt 0 (by decide)
    have c1:=hSr j hlt 1 (by decide)
    have c2:=hSr j hlt 2 (by decide)
    have c3:=hSr j hlt 3 (by decide)
    have c4:=hSr j hlt 4 (by decide)
    have c5:=hSr j hlt 5 (by decide)
    have HP:=hide (hp j hlt)
    clear hSr hS hp
    generalize O j=o at *
    obtain ⟨ok,ob,oc,os,ot,ou⟩:=o
    simp only [OpV.cells,List.getElem?_cons_zero,List.getElem?_cons_succ,Nat.add_zero] at c0 c1 c2 c3 c4 c5
    dsimp only at HP
    have HHN:=hide hn
    have HCL:=hide (show ∀ jj v,[Value.int .i64 ok,.int .i64 ob,.int .i64 oc,.string os,.string ot,.string ou][jj]?=some v→wr.cell? ((a.add (j*6)).add jj)=some v from fun jj v hv=>by
     have hjj:=(List.getElem?_eq_some_iff.1 hv).1
     simp only [List.length_cons,List.length_nil] at hjj
     rw [Deep.add_add,← hv]
     rcases (show jj=0∨jj=1∨jj=2∨jj=3∨jj=4∨jj=5 by omega) with rfl|rfl|rfl|rfl|rfl|rfl
     ·exact c0
     ·exact c1
     ·exact c2
     ·exact c3
     ·exact c4
     ·exact c5)
    clear hn ht hab c0 c1 c2 c3 c4 c5
    have hwrap:IntKind.i64.wrap ((j:Int)+1)=(j:Int)+1:=Go.IntWalk.i64_in _ (by have:=HHN.out;omega)
    have HD:=hide d60
    by_cases hlo:lo≤ok
    ·by_cases hhi:ok≤hi
     ·have HPP:=hide (HP.out hlo hhi)
      clear HP
      go_wp2_with (refine wpList_load_gen rfl 25 (.tmp 22) rfl (a.add (j*6)) (by simp [Act.eval]) [Value.int .i64 ok,.int .i64 ob,.int .i64 oc,.string os,.string ot,.string ou] _ HCL.out Tryz.underlying25 rfl (by kernel_rfl) ?_)
      refine (HPP.out _ (hI _ _ hTr (by (exact kpA)))).mono ?_
      rintro e w2 ⟨rfl,k2⟩
      clear hlo hhi hTr
      go_wp2
      go_roundg (n-(j+1))
      case measure=>have:=HK.out;omega
      case rel =>
       have kk:=HKR.out
       exact ⟨j+1,by omega,rfl,by go_num,by (exact kpA)⟩
     ·have d2:decide (ok≤hi)=false:=by simp;omega
      clear hhi HP hTr
      go_wp2_with (refine wpList_load_gen rfl 25 (.tmp 22) rfl (a.add (j*6)) (by simp [Act.eval]) [Value.int .i64 ok,.int .i64 ob,.int .i64 oc,.string os,.string ot,.string ou] _ HCL.out Tryz.underlying25 rfl (by kernel_rfl) ?_)
      go_roundg (n-(j+1))
      case measure=>have:=HK.out;omega
      case rel =>
       have kk:=HKR.out
       exact ⟨j+1,by omega,rfl,by go_num,by (exact kpA)⟩
    ·have d1:decide (lo≤ok)=false:=by simp;omega
     clear hlo HP hTr
     go_wp2_with (refine wpList_load_gen rfl 25 (.tmp 22) rfl (a.add (j*6)) (by simp [Act.eval]) [Value.int .i64 ok,.int .i64 ob,.int .i64 oc,.string os,.string ot,.string ou] _ HCL.out Tryz.underlying25 rfl (by kernel_rfl) ?_)
     go_roundg (n-(j+1))
     case measure=>have:=HK.out;omega
     case rel =>
      have kk:=HKR.out
      exact ⟨j+1,by omega,rfl,by go_num,by (exact kpA)⟩
   ·have d60:=decide_eq_false h60
    clear h60 hSr hS hp hn
    go_wp2
    go_ret
    exact ⟨rfl,HKR.out⟩
  ·have hn':=hide hn
   clear hSr hS hp hn
   go_wp2
   go_ret
   exact ⟨rfl,HKR.out⟩
end Go.Proofs.YtellieabhaphhabGreatDoor
namespace Go.Proofs.YtellieabhaphhabGreatDoor
open Go.ChangeShapes Go.WideShapes Go.ChangeAt Go.RowKit Go.Deep
theorem opCells:Tryz.prog.cellsOf 25=6:=by kernel_rfl
theorem intCells:Tryz.prog.cellsOf 3=1:=by kernel_rfl
theorem strCells:Tryz.prog.cellsOf 9=1:=by kernel_rfl
structure OpOk (o:OpV):Prop where
 k:(Lit.int .i64 o.k).wf=true
 b:(Lit.int .i64 o.b).wf=true
 c:(Lit.int .i64 o.c).wf=true
 s:o.s.size≤maxLen
 t:o.t.size≤maxLen
 u:o.u.size≤maxLen
def opD {H:Type} (o:OpV):DataW H:=.agg [.lit (.int .i64 o.k),.lit (.int .i64 o.b),.lit (.int .i64 o.c),.lit (.string o.s.data.toList),.lit (.string o.t.data.toList),.lit (.string o.u.data.toList)]
set_option maxRecDepth 100000 in
theorem op_open {H:Type} {enc:TypeId × Value→H} {w:World} {base:Nat} {sp:Nat→Bool} {held:Bool} {n:Nat} {cs:List Value} {x:DataW H × List MemPlace}
  (h:DataW.trod enc Tryz.prog w base sp held n 25 cs=some x):∃ o:OpV,cs=o.cells∧x=(opD o,[])∧OpOk o:=by
 obtain ⟨xs,m,_,rfl,hl,hxl,hf⟩:=DataW.trod_struct Tryz.underlying25 h
 rw [opCells] at hl
 match cs,hl with
 | [c0,c1,c2,c3,c4,c5],_ =>
  match xs,hxl with
  | [x0,x1,x2,x3,x4,x5],_ =>
   have h0:DataW.trod enc Tryz.prog w base sp held m 3 (List.take (Tryz.prog.cellsOf 3) [c0,c1,c2,c3,c4,c5])=some x0:=hf 0 _ rfl
   have h1:DataW.trod enc Tryz.prog w base sp held m 3 (List.take (Tryz.prog.cellsOf 3) [c1,c2,c3,c4,c5])=some x1:=hf 1 _ rfl
   have h2:DataW.trod enc Tryz.prog w base sp held m 3 (List.take (Tryz.prog.cellsOf 3) [c2,c3,c4,c5])=some x2:=hf 2 _ rfl
   have h3:DataW.trod enc Tryz.prog w base sp held m 9 (List.take (Tryz.prog.cellsOf 9) [c3,c4,c5])=some x3:=hf 3 _ rfl
   have h4:DataW.trod enc Tryz.prog w base sp held m 9 (List.take (Tryz.prog.cellsOf 9) [c4,c5])=some x4:=hf 4 _ rfl
   have h5:DataW.trod enc Tryz.prog w base sp held m 9 (List.take (Tryz.prog.cellsOf 9) [c5])=some x5:=hf 5 _ rfl
   rw [intCells] at h0 h1 h2
   rw [strCells] at h3 h4 h5
   obtain ⟨k,e0,rfl,w0⟩:=DataW.trod_int Tryz.underlying3 (show DataW.trod enc _ w base sp held m _ [c0]=some x0 from h0)
   obtain ⟨b,e1,rfl,w1⟩:=DataW.trod_int Tryz.underlying3 (show DataW.trod enc _ w base sp held m _ [c1]=some x1 from h1)
   obtain ⟨c,e2,rfl,w2⟩:=DataW.trod_int Tryz.underlying3 (show DataW.trod enc _ w base sp held m _ [c2]=some x2 from h2)
   obtain ⟨s,e3,rfl,w3⟩:=DataW.trod_string Tryz.underlying9 (show DataW.trod enc _ w base sp held m _ [c3]=some x3 from h3)
   obtain ⟨t,e4,rfl,w4⟩:=DataW.trod_string Tryz.underlying9 (show DataW.trod enc _ w base sp held m _ [c4]=some x4 from h4)
   obtain ⟨u,e5,rfl,w5⟩:=DataW.trod_string Tryz.underlying9 (show DataW.trod enc _ w base sp held m _ [c5]=some x5 from h5)
   simp only [List.cons.injEq,and_true] at e0 e1 e2 e3 e4 e5
   subst e0 e1 e2 e3 e4 e5
   exact ⟨⟨k,b,c,s,t,u⟩,rfl,rfl,⟨w0,w1,w2,w3,w4,w5⟩⟩
set_option maxRecDepth 100000 in
theorem op_shut {H:Type} {enc:TypeId × Value→H} {w:World} {base:Nat} {sp:Nat→Bool} {held:Bool} (o:OpV) (h:OpOk o) :
  DataW.trod enc Tryz.prog w base sp held 2 25 o.cells=some (opD o,[]):=by
 obtain ⟨k,b,c,s,t,u⟩:=o
 obtain ⟨h0,h1,h2,h3,h4,h5⟩:=h
 dsimp only at *
 have e0:DataW.trod enc Tryz.prog w base sp held 1 3 [.int .i64 k]=some (.lit (.int .i64 k),[]):=trod_int_mk 0 Tryz.underlying3 h0
 have e1:DataW.trod enc Tryz.prog w base sp held 1 3 [.int .i64 b]=some (.lit (.int .i64 b),[]):=trod_int_mk 0 Tryz.underlying3 h1
 have e2:DataW.trod enc Tryz.prog w base sp held 1 3 [.int .i64 c]=some (.lit (.int .i64 c),[]):=trod_int_mk 0 Tryz.underlying3 h2
 have e3:DataW.trod enc Tryz.prog w base sp held 1 9 [.string s]=some (.lit (.string s.data.toList),[]):=by simp [DataW.trod,Tryz.underlying9,h3]
 have e4:DataW.trod enc Tryz.prog w base sp held 1 9 [.string t]=some (.lit (.string t.data.toList),[]):=by simp [DataW.trod,Tryz.underlying9,h4]
 have e5:DataW.trod enc Tryz.prog w base sp held 1 9 [.string u]=some (.lit (.string u.data.toList),[]):=by simp [DataW.trod,Tryz.underlying9,h5]
 refine trod_struct_mk (xs:=[(.lit (.int .i64 k),[]),(.lit (.int .i64 b),[]),(.lit (.int .i64 c),[]),(.lit (.string s.data.toList),[]),(.lit (.string t.data.toList),[]),(.lit (.string u.data.toList),[])]) Tryz.underlying25 (by rw [opCells];rfl) ?_
 simp only [OpV.cells,List.mapM_cons,List.mapM_nil,intCells,strCells,List.drop_zero,List.drop_succ_cons,List.take_succ_cons,List.take_zero,e0,e1,e2,e3,e4,e5,Option.pure_def,Option.bind_eq_bind,Option.bind_some]
set_option maxHeartbeats 800000 in
theorem upto_nil (ao:Option Addr) (cap:Nat) (lo hi:Int) (w:World) :
  Calls Tryz.prog 7 #[.slice ao 0 cap,.int .i64 lo,.int .i64 hi] w fun e w'=>e=.returned (.int .i64 (-1))∧Kp no w w':=by
 go_enter Tryz.func7,Tryz.ntmps7
 go_wp2
 go_loopg [7] 0 (fun k iv wr=>iv=.int .i64 0∧wr=w)
 case atStart=>exact ⟨rfl,rfl⟩
 case round =>
  obtain ⟨rfl,rfl⟩:=hrel
  go_wp2
  go_ret
  exact ⟨rfl,Kp.refl _ _⟩
end Go.Proofs.YtellieabhaphhabGreatDoor
