import Derived.Test.YtellieabhaphhabGreatDoorPAllH
namespace Go.Proofs.YtellieabhaphhabGreatDoor
open Go.RowKit
def pieO (f:Nat) (PS:Nat→Nat→Int→Int→Int→List Nd→Option (List Nd)) (IT:List It) (i:Nat) (nx ou ag:Int) (ND:List Nd):Option (List Nd) :=
 match IT[i]? with
 | none=>none
 | some it =>
  if it.k=115 then (if 0≤it.n∧it.n<ND.length then some (ND.modify it.n.toNat (fun x=>{ x with t:=nx })) else none)
  else if it.k=105 then
   match IT[i+1]? with
   | none=>none
   | some i1 =>
    if (0≤i1.en∧i1.en≤1000)∧(0≤it.els∧it.els≤1000)∧(0≤it.en∧it.en≤1000) then
     match entO IT i1.en.toNat it.els.toNat nx ou ag,entO IT it.els.toNat it.en.toNat nx ou ag with
     | some t,some g =>
      match tieO f IT (i+1) t g ND with
      | none=>none
      | some N1 =>
       match PS i1.en.toNat it.els.toNat nx ou ag N1 with
       | none=>none
       | some N2=>PS it.els.toNat it.en.toNat nx ou ag N2
     | _,_=>none
    else none
  else if it.k=119 then
   match IT[i+1]? with
   | none=>none
   | some i1 =>
    if (0≤i1.en∧i1.en≤1000)∧(0≤it.en∧it.en≤1000) then
     match firG (IT.length+1) IT (i+1) with
     | none=>none
     | some st =>
      match entO IT i1.en.toNat it.en.toNat st nx st with
      | none=>none
      | some t =>
       match tieO f IT (i+1) t nx ND with
       | none=>none
       | some N1=>PS i1.en.toNat it.en.toNat st nx st N1
    else none
  else some ND
def psO:Nat→List It→Nat→Nat→Int→Int→Int→List Nd→Option (List Nd)
 | 0,_,_,_,_,_,_,_=>none
 | f+1,IT,i,e,nx,ou,ag,ND =>
  if i<e then
   match IT[i]? with
   | none=>none
   | some it =>
    if 0≤it.en∧it.en≤1000 then
     match entO IT it.en.toNat e nx ou ag with
     | none=>none
     | some to =>
      match pieO f (psO f IT) IT i to ou ag ND with
      | none=>none
      | some N1=>psO f IT it.en.toNat e nx ou ag N1
    else none
  else some ND
def PsSaid (f:Nat):Prop:=∀ (w:World) (r:Nat) (s:ByteArray) (st:RS) (O:Nat→Prop) (i e:Nat) (nx ou ag:Int) (ND:List Nd),st.items.length≤1000→st.nodes.length≤1000→i≤1000→e≤1000→Rp w r s st O→psO f st.items i e nx ou ag st.nodes=some ND →
  Calls Tryz.prog 56 #[.pointer (some ⟨r,0,none⟩),.int .i64 i,.int .i64 e,.agg #[.int .i64 nx,.int .i64 ou,.int .i64 ag]] w fun x w'=>x=.returned (.tuple #[])∧Went w O r s { st with nodes:=ND } w'
set_option maxRecDepth 100000 in
set_option maxHeartbeats 3200000 in
theorem pie_s {w:World} {r:Nat} {s:ByteArray} {st:RS} {O:Nat→Prop} {i k:Nat} {nx ou ag:Int} {iel ien:Int} (h:Rp w r s st O) (hit:st.items[i]?=some ⟨115,k,iel,ien⟩) (hk:k<st.nodes.length) :
  Calls Tryz.prog 98 #[.pointer (some ⟨r,0,none⟩),.int .i64 i,.agg #[.int .i64 nx,.int .i64 ou,.int .i64 ag]] w fun x w'=>x=.returned (.tuple #[])∧Went w O r s { st with nodes:=st.nodes.modify k (fun x=>{ x with t:=nx }) } w':=by
 obtain ⟨gi,cap,hil,hog,q4,i0,i1,i2,i3⟩:=h.itemAt hit
 obtain ⟨c0,c1,c2,c5,cf⟩:=h.c
 have hrl:=h.lt r h.own
 have hgl:=h.lt gi hog
 have hiI:(i:Int)<st.items.length:=by omega
 have hkI:(k:Int)<st.nodes.length:=by omega
 dsimp only at i0 i1 i2 i3
 have hnO:¬ O w.heap.size:=fun e=>Nat.lt_irrefl _ (h.lt _ e)
 have hnO1:¬ O (w.heap.size+1):=fun e=>by have:=h.lt _ e;omega
 clear hit
 go_enter Tryz.func98,Tryz.ntmps98
 repeat (first|go_values|go_skip|go_guarded|go_step|go_upon)
 refine wp_gen (fun W=>Rp W r s st O∧Blk W w.heap.size [.int .i64 nx,.int .i64 ou,.int .i64 ag] 109∧Blk W (w.heap.size+1) [.int .u8 115,.int .i64 k,.int .i64 iel,.int .i64 ien] 153∧Th O w O W) ⟨(h.alloc _).alloc _,by (exact blA),by (exact blA),((Th.refl O w).alloc _).alloc _⟩ ?_
 clear c0 c1 c2 c5 cf q4 i0 i1 i2 i3 hgl hrl hog hil
 rintro W ⟨hW,hG,hB,hTh⟩
 obtain ⟨gn,cap3,hon,q3,nc,nf,hset⟩:=hW.setNode hk
 obtain ⟨c0,c1,c2,c5,cf⟩:=hW.c
 obtain ⟨b0,b1,b2,b3,bf⟩:=hB.c4
 obtain ⟨g0,g1,g2,gf⟩:=hG.c3
 have hrl:=hW.lt r hW.own
 have hnl:=hW.lt gn hon
 have hbl:=hB.lt
 have hgl:=hG.lt
 have hgne:gn≠w.heap.size:=fun e=>hnO (e ▸ hon)
 have hgne1:gn≠w.heap.size+1:=fun e=>hnO1 (e ▸ hon)
 have n5:W.cell? ⟨gn,k*9+5,none⟩=some (.int .i64 st.nodes[k].t):=nc 5 (by decide)
 have H1:=hide (hset 5 (.int .i64 nx) (fun x=>{ x with t:=nx }) (by decide) (fun x=>rfl))
 have HT2:=hide (hTh.set (.int .i64 nx) (a:=⟨gn,k*9+5,none⟩) (.inl hon))
 clear hset nc
 generalize st.nodes[k].t=ot at *
 go_region
 all_goals
  repeat (first|go_values|go_skip|go_guarded|go_step|go_upon)
  refine bodyPost_ret (results_none rfl _ _ _) rfl ?_
  exact ⟨rfl,O,H1.out.drew,HT2.out.drew⟩
set_option maxRecDepth 100000 in
set_option maxHeartbeats 3200000 in
theorem pie_none {w:World} {r:Nat} {s:ByteArray} {st:RS} {O:Nat→Prop} {i:Nat} {nx ou ag:Int} {ik inn iel ien:Int} (h:Rp w r s st O) (hit:st.items[i]?=some ⟨ik,inn,iel,ien⟩) (h1:ik≠115) (h2:ik≠105) (h3:ik≠119) :
  Calls Tryz.prog 98 #[.pointer (some ⟨r,0,none⟩),.int .i64 i,.agg #[.int .i64 nx,.int .i64 ou,.int .i64 ag]] w fun x w'=>x=.returned (.tuple #[])∧Went w O r s st w':=by
 obtain ⟨gi,cap,hil,hog,q4,i0,i1,i2,i3⟩:=h.itemAt hit
 obtain ⟨c0,c1,c2,c5,cf⟩:=h.c
 have hrl:=h.lt r h.own
 have hgl:=h.lt gi hog
 have hiI:(i:Int)<st.items.length:=by omega
 dsimp only at i0 i1 i2 i3
 have e1:((ik:Int) == 115)=false:=by simp [h1]
 have e2:((ik:Int) == 105)=false:=by simp [h2]
 have e3:((ik:Int) == 119)=false:=by simp [h3]
 clear hit h1 h2 h3
 go_enter Tryz.func98,Tryz.ntmps98
 repeat (first|go_values|go_skip|go_guarded|go_step|go_upon)
 go_end0
 exact ⟨rfl,O,(h.alloc _).alloc _,((Th.refl O w).alloc _).alloc _⟩
def RdS (r:Nat) (s:ByteArray) (st:RS) (F:Nat) (args:Array Value) (v:Value):Prop:=∀ W O,Rp W r s st O→Calls Tryz.prog F args W fun x w'=>x=.returned v∧Kp no W w'
def TiS (r:Nat) (s:ByteArray) (st st':RS) (F:Nat) (args:Array Value):Prop:=∀ W O,Rp W r s st O→Calls Tryz.prog F args W fun x w'=>x=.returned (.tuple #[])∧Went W O r s st' w'
set_option maxRecDepth 100000 in
set_option maxHeartbeats 6400000 in
theorem pie_i {w:World} {r:Nat} {s:ByteArray} {st:RS} {O:Nat→Prop} {i a el en:Nat} {nx ou ag t g:Int} {inn:Int} {i1:It} {N1 N2 N3:List Nd} (h:Rp w r s st O) (hi:i≤1000) (hit:st.items[i]?=some ⟨105,inn,el,en⟩)
  (hit1:st.items[i+1]?=some i1) (hen:i1.en=a)
  (hE1:RdS r s st 97 #[.pointer (some ⟨r,0,none⟩),.int .i64 a,.int .i64 el,.agg #[.int .i64 nx,.int .i64 ou,.int .i64 ag]] (.int .i64 t))
  (hE2:RdS r s st 97 #[.pointer (some ⟨r,0,none⟩),.int .i64 el,.int .i64 en,.agg #[.int .i64 nx,.int .i64 ou,.int .i64 ag]] (.int .i64 g))
  (hT:TiS r s st { st with nodes:=N1 } 138 #[.pointer (some ⟨r,0,none⟩),.int .i64 (i+1:Nat),.int .i64 t,.int .i64 g])
  (hP1:TiS r s { st with nodes:=N1 } { st with nodes:=N2 } 56 #[.pointer (some ⟨r,0,none⟩),.int .i64 a,.int .i64 el,.agg #[.int .i64 nx,.int .i64 ou,.int .i64 ag]])
  (hP2:TiS r s { st with nodes:=N2 } { st with nodes:=N3 } 56 #[.pointer (some ⟨r,0,none⟩),.int .i64 el,.int .i64 en,.agg #[.int .i64 nx,.int .i64 ou,.int .i64 ag]]) :
  Calls Tryz.prog 98 #[.pointer (some ⟨r,0,none⟩),.int .i64 i,.agg #[.int .i64 nx,.int .i64 ou,.int .i64 ag]] w fun x w'=>x=.returned (.tuple #[])∧Went w O r s { st with nodes:=N3 } w':=by
 obtain ⟨gi,cap,hil,hog,q4,i0,j1,i2,i3⟩:=h.itemAt hit
 obtain ⟨gi',cap',hil1,_,q4',m0,m1,m2,m3⟩:=h.itemAt hit1
 rw [q4] at q4'
 simp only [Option.some.injEq,Value.slice.injEq,Addr.mk.injEq,and_true] at q4'
 obtain ⟨rfl,_,_⟩:=q4'
 obtain ⟨c0,c1,c2,c5,cf⟩:=h.c
 have hrl:=h.lt r h.own
 have hgl:=h.lt gi hog
 have hiI:(i:Int)<st.items.length:=by omega
 have hiI1:(i:Int)+1<st.items.length:=by omega
 rw [hen] at m3
 dsimp only at i0 j1 i2 i3
 have hcast:((i+1:Nat):Int)=(i:Int)+1:=by omega
 rw [hcast] at hT
 have HE1:=hide hE1;have HE2:=hide hE2;have HT:=hide hT;have HP1:=hide hP1;have HP2:=hide hP2
 clear hit hit1 hE1 hE2 hT hP1 hP2 hcast m0 m1 m2
 go_enter Tryz.func98,Tryz.ntmps98
 repeat (first|go_values|go_skip|go_guarded|go_step|go_upon)
 refine (HE1.out _ _ ((h.alloc _).alloc _)).mono ?_
 rintro x v1 ⟨rfl,k1⟩
 have hnO:¬ O w.heap.size:=fun e=>Nat.lt_irrefl _ (h.lt _ e)
 have hnO1:¬ O (w.heap.size+1):=fun e=>by have:=h.lt _ e;omega
 have h1:Rp v1 r s st O:=((h.alloc _).alloc _).kp k1 (fun _ _=>no_elim)
 have G1:Blk v1 w.heap.size [.int .i64 nx,.int .i64 ou,.int .i64 ag] 109:=k1.blk (by (exact blA)) no_elim
 have B1:Blk v1 (w.heap.size+1) [.int .u8 105,.int .i64 inn,.int .i64 el,.int .i64 en] 153:=k1.blk (by (exact blA)) no_elim
 have HTh:=hide (show Th O w O v1 from ⟨((((Kp.refl no w).alloc _).alloc _).trans k1 (fun _ _ e=>e)).mono (fun _ e=>e.elim),fun _ hb _=>hb⟩)
 clear c0 c1 c2 c5 cf q4 i0 j1 i2 i3 m3 k1
 obtain ⟨b0,b1,b2,b3,bf⟩:=B1.c4;obtain ⟨g0,g1,g2,gf⟩:=G1.c3;have hbl:=B1.lt;have hgl1:=G1.lt
 dsimp only
 go_at_K
 repeat (first|go_values|go_skip|go_guarded|go_step|go_upon)
 refine (HE2.out _ _ h1).mono ?_
 rintro x v2 ⟨rfl,k2⟩
 have h2:Rp v2 r s st O:=h1.kp k2 (fun _ _=>no_elim)
 have G2:=k2.blk G1 no_elim
 have B2:=k2.blk B1 no_elim
 have HTh2:=hide (HTh.out.trans (show Th O v1 O v2 from ⟨k2.mono (fun _ e=>e.elim),fun _ hb _=>hb⟩))
 clear b0 b1 b2 b3 bf g0 g1 g2 gf hbl hgl1 k2
 obtain ⟨b0,b1,b2,b3,bf⟩:=B2.c4;obtain ⟨g0,g1,g2,gf⟩:=G2.c3;have hbl:=B2.lt;have hgl1:=G2.lt
 dsimp only
 go_at_K
 repeat (first|go_values|go_skip|go_guarded|go_step|go_upon)
 refine (HT.out _ _ h2).mono ?_
 rintro x v3 ⟨rfl,O3,h3,t3⟩
 have G3:=Th.blk t3 G2 hnO
 have B3:=Th.blk t3 B2 hnO1
 have HTh3:=hide (HTh2.out.trans t3)
 clear b0 b1 b2 b3 bf g0 g1 g2 gf hbl hgl1 t3
 obtain ⟨b0,b1,b2,b3,bf⟩:=B3.1.c4;obtain ⟨g0,g1,g2,gf⟩:=G3.1.c3;have hbl:=B3.1.lt;have hgl1:=G3.1.lt
 dsimp only
 go_at_K
 repeat (first|go_values|go_skip|go_guarded|go_step|go_upon)
 refine (HP1.out _ _ h3).mono ?_
 rintro x v4 ⟨rfl,O4,h4,t4⟩
 have G4:=Th.blk t4 G3.1 G3.2
 have B4:=Th.blk t4 B3.1 B3.2
 have HTh4:=hide (HTh3.out.trans t4)
 clear b0 b1 b2 b3 bf g0 g1 g2 gf hbl hgl1 t4
 obtain ⟨b0,b1,b2,b3,bf⟩:=B4.1.c4;obtain ⟨g0,g1,g2,gf⟩:=G4.1.c3;have hbl:=B4.1.lt;have hgl1:=G4.1.lt
 dsimp only
 go_at_K
 repeat (first|go_values|go_skip|go_guarded|go_step|go_upon)
 refine (HP2.out _ _ h4).mono ?_
 rintro x v5 ⟨rfl,O5,h5,t5⟩
 have B5:=Th.blk t5 B4.1 B4.2
 have HTh5:=hide (HTh4.out.trans t5)
 clear b0 b1 b2 b3 bf g0 g1 g2 gf hbl hgl1 t5
 obtain ⟨b0,b1,b2,b3,bf⟩:=B5.1.c4;have hbl:=B5.1.lt
 dsimp only
 go_at_K
 repeat (first|go_values|go_skip|go_guarded|go_step|go_upon)
 go_end0
 exact ⟨rfl,O5,h5,HTh5.out⟩
end Go.Proofs.YtellieabhaphhabGreatDoor
namespace Go.Proofs.YtellieabhaphhabGreatDoor
open Go.RowKit
def MStep (r:Nat) (s:ByteArray) (F:Nat) (args:Array Value) (res:Value) (m m':MS):Prop :=
 ∀ (W:World) (O:Nat→Prop),Mp W r s m O→Calls Tryz.prog F args W fun e w'=>e=.returned res∧MWent W O r s m' w'
section
variable {r:Nat} {s:ByteArray}
theorem new_step {m:MS} (hn:m.marks.length≤2000):MStep r s 122 #[.pointer (some ⟨r,0,none⟩)] (.int .i64 m.marks.length) m (newM m):=fun _ _ h=>nnewMark_c hn h
theorem jump_step {m:MS} (k:Int) (hn:m.row.length≤2000):MStep r s 125 #[.pointer (some ⟨r,0,none⟩),.int .i64 k] (.tuple #[]) m (jmpM m k):=fun _ _ h=>njump_c k hn h
theorem lay_step {m:MS} (k:Nat) (hn:m.marks.length≤2000) (h2:m.row.length≤2000) (hk:k<m.marks.length):MStep r s 124 #[.pointer (some ⟨r,0,none⟩),.int .i64 k] (.tuple #[]) m (layM m k):=fun _ _ h=>nlayMark_c k hn h2 hk h
theorem exp_step {m:MS} (u:ByteArray) (hs:s.size≤1000) (hi:m.p.1≤s.size) (hu:u.size≤10) (hz:∀ k (h:k<u.size),(u[k]).toNat≠0) :
  MStep r s 73 #[.pointer (some ⟨r,0,none⟩),.string u] (.tuple #[]) m (expM s m u.data.toList):=fun _ _ h=>mexpect_w h u hs hi hu hz
set_option maxHeartbeats 1600000 in
theorem choice_walk {h b L0 L1 L2:Int} {m y1 y2 y3 y4 y5 y6 y7 y8 y9 z1 z2 z3 z4 z5:MS}
  (s1:MStep r s 122 #[.pointer (some ⟨r,0,none⟩)] (.int .i64 L0) m y1)
  (s2:MStep r s 122 #[.pointer (some ⟨r,0,none⟩)] (.int .i64 L1) y1 y2)
  (s3:MStep r s 122 #[.pointer (some ⟨r,0,none⟩)] (.int .i64 L2) y2 y3)
  (s4:MStep r s 73 #[.pointer (some ⟨r,0,none⟩),.string ⟨#[40]⟩] (.tuple #[]) y3 y4)
  (s5:MStep r s 123 #[.pointer (some ⟨r,0,none⟩),.int .i64 L0,.int .i64 L1] (.tuple #[]) y4 y5)
  (s6:MStep r s 73 #[.pointer (some ⟨r,0,none⟩),.string ⟨#[123]⟩] (.tuple #[]) y5 y6)
  (s7:MStep r s 124 #[.pointer (some ⟨r,0,none⟩),.int .i64 L0] (.tuple #[]) y6 y7)
  (s8:MStep r s 45 #[.pointer (some ⟨r,0,none⟩),.int .i64 h,.int .i64 b] (.tuple #[]) y7 y8)
  (s9:MStep r s 73 #[.pointer (some ⟨r,0,none⟩),.string ⟨#[125,123]⟩] (.tuple #[]) y8 y9)
  (t1:MStep r s 125 #[.pointer (some ⟨r,0,none⟩),.int .i64 L2] (.tuple #[]) y9 z1)
  (t2:MStep r s 124 #[.pointer (some ⟨r,0,none⟩),.int .i64 L1] (.tuple #[]) z1 z2)
  (t3:MStep r s 45 #[.pointer (some ⟨r,0,none⟩),.int .i64 h,.int .i64 b] (.tuple #[]) z2 z3)
  (t4:MStep r s 73 #[.pointer (some ⟨r,0,none⟩),.string ⟨#[125,41]⟩] (.tuple #[]) z3 z4)
  (t5:MStep r s 124 #[.pointer (some ⟨r,0,none⟩),.int .i64 L2] (.tuple #[]) z4 z5) :
  MStep r s 80 #[.pointer (some ⟨r,0,none⟩),.int .i64 h,.int .i64 b] (.tuple #[]) m z5:=by
 intro w O h0
 have S1:=hide s1;have S2:=hide s2;have S3:=hide s3;have S4:=hide s4;have S5:=hide s5;have S6:=hide s6;have S7:=hide s7;have S8:=hide s8;have S9:=hide s9
 have T1:=hide t1;have T2:=hide t2;have T3:=hide t3;have T4:=hide t4;have T5:=hide t5
 clear s1 s2 s3 s4 s5 s6 s7 s8 s9 t1 t2 t3 t4 t5
 go_enter Tryz.func80,Tryz.ntmps80
 go_wp2_with fail
 refine (S1.out _ _ h0).mono ?_
 rintro e w1 ⟨rfl,O1,h1,T⟩
 go_wp2_with fail
 refine (S2.out _ _ h1).mono ?_
 rintro e w2 ⟨rfl,O2,h2,t2⟩
 replace T:=T.trans t2;clear t2 h1
 go_wp2_with fail
 refine (S3.out _ _ h2).mono ?_
 rintro e w3 ⟨rfl,O3,h3,t3⟩
 replace T:=T.trans t3;clear t3 h2
 go_wp2_with fail
 refine (S4.out _ _ h3).mono ?_
 rintro e w4 ⟨rfl,O4,h4,t4⟩
 replace T:=T.trans t4;clear t4 h3
 go_wp2_with fail
 refine (S5.out _ _ h4).mono ?_
 rintro e w5 ⟨rfl,O5,h5,t5⟩
 replace T:=T.trans t5;clear t5 h4
 go_wp2_with fail
 refine (S6.out _ _ h5).mono ?_
 rintro e w6 ⟨rfl,O6,h6,t6⟩
 replace T:=T.trans t6;clear t6 h5
 go_wp2_with fail
 refine (S7.out _ _ h6).mono ?_
 rintro e w7 ⟨rfl,O7,h7,t7⟩
 replace T:=T.trans t7;clear t7 h6
 go_wp2_with fail
 refine (S8.out _ _ h7).mono ?_
 rintro e w8 ⟨rfl,O8,h8,t8⟩
 replace T:=T.trans t8;clear t8 h7
 go_wp2_with fail
 refine (S9.out _ _ h8).mono ?_
 rintro e w9 ⟨rfl,O9,h9,t9⟩
 replace T:=T.trans t9;clear t9 h8
 go_wp2_with fail
 refine (T1.out _ _ h9).mono ?_
 rintro e v1 ⟨rfl,P1,k1,t1⟩
 replace T:=T.trans t1;clear t1 h9
 go_wp2_with fail
 refine (T2.out _ _ k1).mono ?_
 rintro e v2 ⟨rfl,P2,k2,t2⟩
 replace T:=T.trans t2;clear t2 k1
 go_wp2_with fail
 refine (T3.out _ _ k2).mono ?_
 rintro e v3 ⟨rfl,P3,k3,t3⟩
 replace T:=T.trans t3;clear t3 k2
 go_wp2_with fail
 refine (T4.out _ _ k3).mono ?_
 rintro e v4 ⟨rfl,P4,k4,t4⟩
 replace T:=T.trans t4;clear t4 k3
 go_wp2_with fail
 refine (T5.out _ _ k4).mono ?_
 rintro e v5 ⟨rfl,P5,k5,t5⟩
 replace T:=T.trans t5;clear t5 k4
 go_wp2
 go_end0
 exact ⟨rfl,P5,k5,T⟩
set_option maxHeartbeats 1600000 in
theorem loop_walk {L0 L1 L2:Int} {m y1 y2 y3 y4 y5 y6 y7 y8 y9 z1 z2 z3:MS}
  (s1:MStep r s 122 #[.pointer (some ⟨r,0,none⟩)] (.int .i64 L0) m y1)
  (s2:MStep r s 122 #[.pointer (some ⟨r,0,none⟩)] (.int .i64 L1) y1 y2)
  (s3:MStep r s 122 #[.pointer (some ⟨r,0,none⟩)] (.int .i64 L2) y2 y3)
  (s4:MStep r s 73 #[.pointer (some ⟨r,0,none⟩),.string ⟨#[91]⟩] (.tuple #[]) y3 y4)
  (s5:MStep r s 124 #[.pointer (some ⟨r,0,none⟩),.int .i64 L0] (.tuple #[]) y4 y5)
  (s6:MStep r s 123 #[.pointer (some ⟨r,0,none⟩),.int .i64 L1,.int .i64 L2] (.tuple #[]) y5 y6)
  (s7:MStep r s 73 #[.pointer (some ⟨r,0,none⟩),.string ⟨#[123]⟩] (.tuple #[]) y6 y7)
  (s8:MStep r s 124 #[.pointer (some ⟨r,0,none⟩),.int .i64 L1] (.tuple #[]) y7 y8)
  (s9:MStep r s 45 #[.pointer (some ⟨r,0,none⟩),.int .i64 L0,.int .i64 L2] (.tuple #[]) y8 y9)
  (t1:MStep r s 73 #[.pointer (some ⟨r,0,none⟩),.string ⟨#[125,93]⟩] (.tuple #[]) y9 z1)
  (t2:MStep r s 125 #[.pointer (some ⟨r,0,none⟩),.int .i64 L0] (.tuple #[]) z1 z2)
  (t3:MStep r s 124 #[.pointer (some ⟨r,0,none⟩),.int .i64 L2] (.tuple #[]) z2 z3) :
  MStep r s 81 #[.pointer (some ⟨r,0,none⟩)] (.tuple #[]) m z3:=by
 intro w O h0
 have S1:=hide s1;have S2:=hide s2;have S3:=hide s3;have S4:=hide s4;have S5:=hide s5;have S6:=hide s6;have S7:=hide s7;have S8:=hide s8;have S9:=hide s9
 have T1:=hide t1;have T2:=hide t2;have T3:=hide t3
 clear s1 s2 s3 s4 s5 s6 s7 s8 s9 t1 t2 t3
 go_enter Tryz.func81,Tryz.ntmps81
 go_wp2_with fail
 refine (S1.out _ _ h0).mono ?_
 rintro e w1 ⟨rfl,O1,h1,T⟩
 go_wp2_with fail
 refine (S2.out _ _ h1).mono ?_
 rintro e w2 ⟨rfl,O2,h2,t2⟩
 replace T:=T.trans t2;clear t2 h1
 go_wp2_with fail
 refine (S3.out _ _ h2).mono ?_
 rintro e w3 ⟨rfl,O3,h3,t3⟩
 replace T:=T.trans t3;clear t3 h2
 go_wp2_with fail
 refine (S4.out _ _ h3).mono ?_
 rintro e w4 ⟨rfl,O4,h4,t4⟩
 replace T:=T.trans t4;clear t4 h3
 go_wp2_with fail
 refine (S5.out _ _ h4).mono ?_
 rintro e w5 ⟨rfl,O5,h5,t5⟩
 replace T:=T.trans t5;clear t5 h4
 go_wp2_with fail
 refine (S6.out _ _ h5).mono ?_
 rintro e w6 ⟨rfl,O6,h6,t6⟩
 replace T:=T.trans t6;clear t6 h5
 go_wp2_with fail
 refine (S7.out _ _ h6).mono ?_
 rintro e w7 ⟨rfl,O7,h7,t7⟩
 replace T:=T.trans t7;clear t7 h6
 go_wp2_with fail
 refine (S8.out _ _ h7).mono ?_
 rintro e w8 ⟨rfl,O8,h8,t8⟩
 replace T:=T.trans t8;clear t8 h7
 go_wp2_with fail
 refine (S9.out _ _ h8).mono ?_
 rintro e w9 ⟨rfl,O9,h9,t9⟩
 replace T:=T.trans t9;clear t9 h8
 go_wp2_with fail
 refine (T1.out _ _ h9).mono ?_
 rintro e v1 ⟨rfl,P1,k1,t1⟩
 replace T:=T.trans t1;clear t1 h9
 go_wp2_with fail
 refine (T2.out _ _ k1).mono ?_
 rintro e v2 ⟨rfl,P2,k2,t2⟩
 replace T:=T.trans t2;clear t2 k1
 go_wp2_with fail
 refine (T3.out _ _ k2).mono ?_
 rintro e v3 ⟨rfl,P3,k3,t3⟩
 replace T:=T.trans t3;clear t3 k2
 go_wp2
 go_end0
 exact ⟨rfl,P3,k3,T⟩
set_option maxHeartbeats 1600000 in
theorem leap_bad {m:MS} (u:ByteArray):MStep r s 82 #[.pointer (some ⟨r,0,none⟩),.string u,.int .i64 (-1)] (.tuple #[]) m (putP m (m.p.1,true)):=by
 intro w O h0
 obtain ⟨c0,c1,c2,cf⟩:=h0.c
 go_enter Tryz.func82,Tryz.ntmps82
 go_wp2
 refine bodyPost_ret (results_none rfl _ _ _) rfl ?_
 exact ⟨rfl,O,h0.setBad,(Th.refl O w).set _ (.inl h0.own)⟩
set_option maxHeartbeats 1600000 in
theorem leap_walk {m y1 y2:MS} {u:ByteArray} {k:Int} (hk:k≠-1)
  (s1:MStep r s 73 #[.pointer (some ⟨r,0,none⟩),.string u] (.tuple #[]) m y1)
  (s2:MStep r s 125 #[.pointer (some ⟨r,0,none⟩),.int .i64 k] (.tuple #[]) y1 y2) :
  MStep r s 82 #[.pointer (some ⟨r,0,none⟩),.string u,.int .i64 k] (.tuple #[]) m y2:=by
 intro w O h0
 have hk':((k:Int) == -1)=false:=by simp;omega
 have S1:=hide s1;have S2:=hide s2
 clear s1 s2 hk
 go_enter Tryz.func82,Tryz.ntmps82
 go_wp2_with fail
 refine (S1.out _ _ h0).mono ?_
 rintro e w1 ⟨rfl,O1,h1,T⟩
 go_wp2_with fail
 refine (S2.out _ _ h1).mono ?_
 rintro e w2 ⟨rfl,O2,h2,t2⟩
 replace T:=T.trans t2;clear t2 h1
 go_wp2
 go_end0
 exact ⟨rfl,O2,h2,T⟩
set_option maxHeartbeats 1600000 in
theorem cond_not {yes no:Int} {m y1 y2:MS} (hs:s.size≤1000) (hi:m.p.1≤s.size) (hc:pkb s m.p=33)
  (s1:MStep r s 73 #[.pointer (some ⟨r,0,none⟩),.string ⟨#[33]⟩] (.tuple #[]) m y1)
  (s2:MStep r s 123 #[.pointer (some ⟨r,0,none⟩),.int .i64 no,.int .i64 yes] (.tuple #[]) y1 y2) :
  MStep r s 123 #[.pointer (some ⟨r,0,none⟩),.int .i64 yes,.int .i64 no] (.tuple #[]) m y2:=by
 intro w O h0
 have HP:=hide (mpeek_w h0 hs hi)
 rw [hc] at HP
 have S1:=hide s1;have S2:=hide s2
 clear s1 s2 hc
 go_enter Tryz.func123,Tryz.ntmps123
 go_wp2_with fail
 refine HP.out.mono ?_
 rintro e w1 ⟨rfl,nq,rfl⟩
 go_wp2_with fail
 refine (S1.out _ _ (h0.n nq)).mono ?_
 rintro e w1 ⟨rfl,O1,h1,T⟩
 replace T:=((Th.refl O w).n nq).trans T
 go_wp2_with fail
 refine (S2.out _ _ h1).mono ?_
 rintro e w2 ⟨rfl,O2,h2,t2⟩
 replace T:=T.trans t2;clear t2 h1
 go_wp2
 go_end0
 exact ⟨rfl,O2,h2,T⟩
set_option maxHeartbeats 1600000 in
theorem cond_and {yes no L:Int} {m y1 y2 y3 y4 y5:MS} (hs:s.size≤1000) (hi:m.p.1≤s.size) (hc:pkb s m.p=38)
  (s1:MStep r s 73 #[.pointer (some ⟨r,0,none⟩),.string ⟨#[38]⟩] (.tuple #[]) m y1)
  (s2:MStep r s 122 #[.pointer (some ⟨r,0,none⟩)] (.int .i64 L) y1 y2)
  (s3:MStep r s 123 #[.pointer (some ⟨r,0,none⟩),.int .i64 L,.int .i64 no] (.tuple #[]) y2 y3)
  (s4:MStep r s 124 #[.pointer (some ⟨r,0,none⟩),.int .i64 L] (.tuple #[]) y3 y4)
  (s5:MStep r s 123 #[.pointer (some ⟨r,0,none⟩),.int .i64 yes,.int .i64 no] (.tuple #[]) y4 y5) :
  MStep r s 123 #[.pointer (some ⟨r,0,none⟩),.int .i64 yes,.int .i64 no] (.tuple #[]) m y5:=by
 intro w O h0
 have HP:=hide (mpeek_w h0 hs hi)
 rw [hc] at HP
 have S1:=hide s1;have S2:=hide s2;have S3:=hide s3;have S4:=hide s4;have S5:=hide s5
 clear s1 s2 s3 s4 s5 hc
 go_enter Tryz.func123,Tryz.ntmps123
 go_wp2_with fail
 refine HP.out.mono ?_
 rintro e w1 ⟨rfl,nq,rfl⟩
 go_wp2_with fail
 refine (S1.out _ _ (h0.n nq)).mono ?_
 rintro e w1 ⟨rfl,O1,h1,T⟩
 replace T:=((Th.refl O w).n nq).trans T
 go_wp2_with fail
 refine (S2.out _ _ h1).mono ?_
 rintro e w2 ⟨rfl,O2,h2,t2⟩
 replace T:=T.trans t2;clear t2 h1
 go_wp2_with fail
 refine (S3.out _ _ h2).mono ?_
 rintro e w3 ⟨rfl,O3,h3,t3⟩
 replace T:=T.trans t3;clear t3 h2
 go_wp2_with fail
 refine (S4.out _ _ h3).mono ?_
 rintro e w4 ⟨rfl,O4,h4,t4⟩
 replace T:=T.trans t4;clear t4 h3
 go_wp2_with fail
 refine (S5.out _ _ h4).mono ?_
 rintro e w5 ⟨rfl,O5,h5,t5⟩
 replace T:=T.trans t5;clear t5 h4
 go_wp2
 go_end0
 exact ⟨rfl,O5,h5,T⟩
set_option maxHeartbeats 1600000 in
theorem cond_or {yes no L:Int} {m y1 y2 y3 y4 y5:MS} (hs:s.size≤1000) (hi:m.p.1≤s.size) (hc:pkb s m.p=124)
  (s1:MStep r s 73 #[.pointer (some ⟨r,0,none⟩),.string ⟨#[124]⟩] (.tuple #[]) m y1)
  (s2:MStep r s 122 #[.pointer (some ⟨r,0,none⟩)] (.int .i64 L) y1 y2)
  (s3:MStep r s 123 #[.pointer (some ⟨r,0,none⟩),.int .i64 yes,.int .i64 L] (.tuple #[]) y2 y3)
  (s4:MStep r s 124 #[.pointer (some ⟨r,0,none⟩),.int .i64 L] (.tuple #[]) y3 y4)
  (s5:MStep r s 123 #[.pointer (some ⟨r,0,none⟩),.int .i64 yes,.int .i64 no] (.tuple #[]) y4 y5) :
  MStep r s 123 #[.pointer (some ⟨r,0,none⟩),.int .i64 yes,.int .i64 no] (.tuple #[]) m y5:=by
 intro w O h0
 have HP:=hide (mpeek_w h0 hs hi)
 rw [hc] at HP
 have S1:=hide s1;have S2:=hide s2;have S3:=hide s3;have S4:=hide s4;have S5:=hide s5
 clear s1 s2 s3 s4 s5 hc
 go_enter Tryz.func123,Tryz.ntmps123
 go_wp2_with fail
 refine HP.out.mono ?_
 rintro e w1 ⟨rfl,nq,rfl⟩
 go_wp2_with fail
 refine (S1.out _ _ (h0.n nq)).mono ?_
 rintro e w1 ⟨rfl,O1,h1,T⟩
 replace T:=((Th.refl O w).n nq).trans T
 go_wp2_with fail
 refine (S2.out _ _ h1).mono ?_
 rintro e w2 ⟨rfl,O2,h2,t2⟩
 replace T:=T.trans t2;clear t2 h1
 go_wp2_with fail
 refine (S3.out _ _ h2).mono ?_
 rintro e w3 ⟨rfl,O3,h3,t3⟩
 replace T:=T.trans t3;clear t3 h2
 go_wp2_with fail
 refine (S4.out _ _ h3).mono ?_
 rintro e w4 ⟨rfl,O4,h4,t4⟩
 replace T:=T.trans t4;clear t4 h3
 go_wp2_with fail
 refine (S5.out _ _ h4).mono ?_
 rintro e w5 ⟨rfl,O5,h5,t5⟩
 replace T:=T.trans t5;clear t5 h4
 go_wp2
 go_end0
 exact ⟨rfl,O5,h5,T⟩
end
end Go.Proofs.YtellieabhaphhabGreatDoor
namespace Go.Proofs.YtellieabhaphhabGreatDoor
open Go.RowKit
set_option maxRecDepth 100000 in
set_option maxHeartbeats 1600000 in
theorem cond_leaf {r:Nat} {s:ByteArray} {yes nay:Int} {m:MS} (hs:s.size≤1000) (hi:m.p.1≤s.size) (hrow:m.row.length≤2000) (g1:pkb s m.p≠33) (g2:pkb s m.p≠38) (g3:pkb s m.p≠124) :
  MStep r s 123 #[.pointer (some ⟨r,0,none⟩),.int .i64 yes,.int .i64 nay] (.tuple #[]) m (tstM s yes nay m):=by
 intro w O h0
 obtain ⟨i0,hi0,hz0,hz1,hz2⟩:=info_parts info_nn
 have HP:=hide (mpeek_w h0 hs hi)
 have HT:=hide (fun W (hW:Mp W r s m O)=>mtest_w hW hs hi)
 have hq:=tstF_bc s m.p hi
 have HV:Hid (tstM s yes nay m=addM (putP m (tstF s m.p).2) (((tstF s m.p).1.setT (sinceB s m.p.1 (tstF s m.p).2.1)).setW yes nay)):=rfl
 have f1:((pkb s m.p:Int) == 33)=false:=by simp;omega
 have f2:((pkb s m.p:Int) == 38)=false:=by simp;omega
 have f3:((pkb s m.p:Int) == 124)=false:=by simp;omega
 obtain ⟨c0,c1,c2,cf⟩:=h0.c
 generalize pkb s m.p=d at *
 generalize tstF s m.p=q at *
 obtain ⟨⟨u0,u1,u2,u3,u4,u5,u6,u7,u8,u9,u10⟩,q⟩:=q
 dsimp only [NN.setT,NN.setW] at HV hq HT
 have HSI:=hide (fun W O' (hW:Mp W r s (putP m q) O')=>msince_w hW m.p.1 hs hq.2.2 hq.2.1)
 rw [putP_p] at HSI
 generalize sinceB s m.p.1 q.1=tx2 at *
 unfold NN.cells at HT
 dsimp only at HT
 clear g1 g2 g3 hq
 go_enter Tryz.func123,Tryz.ntmps123
 go_wp2_with fail
 refine HP.out.mono ?_
 rintro e w1 ⟨rfl,nq,rfl⟩
 go_wp2_with fail
 refine (HT.out _ (h0.n nq)).mono ?_
 rintro e w2 ⟨rfl,O2,h2,t2⟩
 have HT2:=hide (((Th.refl O w).n nq).trans t2)
 clear t2
 have h2lt:=h2.lt _ h2.own
 have hno:¬ O2 w2.heap.size:=fun e=>Nat.lt_irrefl _ (h2.lt _ e)
 go_wp2_with fail
 refine (HSI.out _ O2 (h2.alloc _)).mono ?_
 rintro e w3 ⟨rfl,n3,hw3⟩
 obtain ⟨nv,iv,hB,hN,hI,d1,d2,d3,rfl⟩:=h2
 have hb:Blk w2 r [.string s,.int .i64 q.1,.bool q.2,nv,iv] 86:=hB
 have hA3:Blk w3 w2.heap.size [.string u0,.int .i64 u1,.int .i64 u2,.int .i64 u3,.int .i64 u4,.int .i64 u5,.int .i64 u6,.int .i64 u7,.int .i64 u8,.int .i64 u9,.int .i64 u10] 68:=by rw [hw3];(exact blA)
 have hr3:Blk w3 r [.string s,.int .i64 q.1,.bool q.2,nv,iv] 86:=by rw [hw3];(exact blA)
 have hk3:Kp no w2 w3:=by rw [hw3];(exact kpA)
 clear hw3 HSI HP HT
 have HN3:=hide (hk3.row hN (fun _ _=>no_elim))
 have HK3:=hide hk3
 have hs3:=hk3.size
 have hal:=hA3.lt
 have hrl:=hr3.lt
 clear hk3 hno
 obtain ⟨a0,a1,a2,a3,a4,a5,a6,a7,a8,a9,a10,af⟩:=hA3.c11
 have q3:=hr3.cell 3
 simp only [List.getElem?_cons_zero,List.getElem?_cons_succ] at q3
 have qf:=hr3.frozen
 have hone:∀ u∈([.string tx2,.int .i64 u1,.int .i64 u2,.int .i64 u3,.int .i64 u4,.int .i64 u5,.int .i64 u6,.int .i64 u7,.int .i64 u8,.int .i64 yes,.int .i64 nay]:List Value),u.oneCell'=true:=by simp [Value.oneCell']
 have hnn:nv.ownBlock≠some w2.heap.size:=fun e=>by have:=Row.lt hN e;omega
 have HRW:Hid (NRow (((w3.setCell ⟨w2.heap.size,0,none⟩ (.string tx2)).setCell ⟨w2.heap.size,9,none⟩ (.int .i64 yes)).setCell ⟨w2.heap.size,10,none⟩ (.int .i64 nay)) nv m.row):=Row.set (Row.set (Row.set HN3.out _ hnn) _ hnn) _ hnn
 go_wp2
 have hk3:=HK3.out
 refine wp_gen (fun W=>Blk W w2.heap.size [.string tx2,.int .i64 u1,.int .i64 u2,.int .i64 u3,.int .i64 u4,.int .i64 u5,.int .i64 u6,.int .i64 u7,.int .i64 u8,.int .i64 yes,.int .i64 nay] 68∧Blk W r [.string s,.int .i64 q.1,.bool q.2,nv,iv] 86∧NRow W nv m.row∧Kp no w2 W) ⟨by (exact blA),by (exact blA),HRW.out,by (exact kpA)⟩ ?_
 clear a0 a1 a2 a3 a4 a5 a6 a7 a8 a9 a10 af q3 qf hal hrl hs3 hA3 hr3 HRW HN3 HK3 hk3 hnn
 rintro W ⟨hA,hR,hRW,hkW⟩
 have hs3:=hkW.size
 have hal:=hA.lt
 have hrl:=hR.lt
 obtain ⟨a0,a1,a2,a3,a4,a5,a6,a7,a8,a9,a10,af⟩:=hA.c11
 have q3:=hR.cell 3
 simp only [List.getElem?_cons_zero,List.getElem?_cons_succ] at q3
 have qf:=hR.frozen
 go_region_law (refine step_append_lies _ rfl (.tmp 37) (.tmp 39) 43 rfl 0 68 i0 _ 11 96 Tryz.underlying43 hi0 hz0 hz1 hz2 rfl (by decide) nv m.row.length (nnCells m.row) (by simp [Act.eval]) (by exact World.ownsRow.alloc (w:=W.drew) hRW _) ⟨W.heap.size,0,none⟩ 1 1 [.string tx2,.int .i64 u1,.int .i64 u2,.int .i64 u3,.int .i64 u4,.int .i64 u5,.int .i64 u6,.int .i64 u7,.int .i64 u8,.int .i64 yes,.int .i64 nay] (by simp [Act.eval]) rfl (by exact Blk.news (Blk.new W.drew [.string tx2,.int .i64 u1,.int .i64 u2,.int .i64 u3,.int .i64 u4,.int .i64 u5,.int .i64 u6,.int .i64 u7,.int .i64 u8,.int .i64 yes,.int .i64 nay] _)) hone (by decide) (by unfold maxLen;omega) (by omega) (Nat.zero_le _) _ rfl ?_;intro g cap' w' hown hgrow hat hlt';have hb':=grown_blk hgrow (Blk.alloc (Blk.drew hR) _) d1;have q3':=hb'.cell 3;have qf':=hb'.frozen;simp only [List.getElem?_cons_zero,List.getElem?_cons_succ] at q3')
 all_goals
  go_wp2
  go_end0
  have hM:=mwent_row (s:=s) (m:=putP m q) (n:=⟨tx2,u1,u2,u3,u4,u5,u6,u7,u8,yes,nay⟩) hB hI d1 d2 d3 (W:=W.drew.alloc _) (hkW.drew.alloc _) hown hgrow hat (by simp;omega)
  obtain ⟨O4,h4,t4⟩:=hM
  refine ⟨rfl,O4,?_,HT2.out.trans t4⟩
  rw [HV.out]
  exact h4
set_option maxRecDepth 100000 in
set_option maxHeartbeats 3200000 in
theorem act_step {r:Nat} {s:ByteArray} {m:MS} (hs:s.size≤180) (hMI:MI s m) (hp:pkb s m.p≠0) :
  MStep r s 83 #[.pointer (some ⟨r,0,none⟩)] (.tuple #[]) m (actM s m):=by
 intro w O h0
 obtain ⟨i0,hi0,hz0,hz1,hz2⟩:=info_parts info_nn
 have n1:=hMI.row;have n2:=hMI.mm;have n3:=hMI.i;have nb:=bc_le m.p
 have a:=nacF_bc hp
 have HT:=hide (fun W (hW:Mp W r s m O)=>maction_w hW (by omega) n3)
 have HV:Hid (actM s m=layM (addM (newM (expM s (putP m (nacF s m.p).2) [59])) (((nacF s m.p).1.setT (sinceB s m.p.1 (nacF s m.p).2.1)).setW m.marks.length m.marks.length)) m.marks.length):=rfl
 obtain ⟨c0,c1,c2,cf⟩:=h0.c
 clear hp hMI
 generalize nacF s m.p=q at *
 obtain ⟨⟨u0,u1,u2,u3,u4,u5,u6,u7,u8,u9,u10⟩,q⟩:=q
 dsimp only [NN.setT,NN.setW] at HV a HT
 have HSI:=hide (fun W O' (hW:Mp W r s (putP m q) O')=>msince_w hW m.p.1 (by omega) a.2.1 a.1)
 rw [putP_p] at HSI
 generalize sinceB s m.p.1 q.1=tx2 at *
 unfold NN.cells at HT
 dsimp only at HT
 have S1:Hid (MStep r s 73 #[.pointer (some ⟨r,0,none⟩),.string ⟨#[59]⟩] (.tuple #[]) (putP m q) (expM s (putP m q) [59])):=exp_step ⟨#[59]⟩ (by omega) a.2.1 (by decide) (by decide)
 have xr:(expM s (putP m q) [59]).row=m.row:=rfl
 have xm:(expM s (putP m q) [59]).marks=m.marks:=rfl
 generalize expM s (putP m q) [59]=x at *
 have S2:Hid (MStep r s 122 #[.pointer (some ⟨r,0,none⟩)] (.int .i64 m.marks.length) x (newM x)):=by
  have h:=new_step (r:=r) (s:=s) (m:=x) (by rw [xm];omega)
  rw [xm] at h
  exact h
 have S3:Hid (∀ n:NN,MStep r s 124 #[.pointer (some ⟨r,0,none⟩),.int .i64 m.marks.length] (.tuple #[]) (addM (newM x) n) (layM (addM (newM x) n) m.marks.length)) :=
  fun n=>lay_step m.marks.length (by rw [addM_marks,newM_len,xm];omega) (by rw [addM_row,newM_row,xr];omega) (by rw [addM_marks,newM_len,xm];omega)
 have hyl:(newM x).row.length≤2000:=by rw [newM_row,xr];omega
 clear xr xm
 generalize newM x=y at *
 generalize m.marks.length=L at *
 go_enter Tryz.func83,Tryz.ntmps83
 go_wp2_with fail
 refine (HT.out _ h0).mono ?_
 rintro e w2 ⟨rfl,O2,h2,t2⟩
 have hno:¬ O2 w2.heap.size:=fun e=>Nat.lt_irrefl _ (h2.lt _ e)
 have hrH:=h2.lt _ h2.own
 have hsw:=t2.1.size
 go_wp2_with fail
 refine (HSI.out _ O2 (h2.alloc _)).mono ?_
 rintro e w3 ⟨rfl,nq,hw3⟩
 have H3:Hid (Mp w3 r s (putP m q) O2):=by show Mp _ _ _ _ _;rw [hw3];exact (h2.alloc _).n _
 have T3:Hid (Th O w O2 w3):=by show Th _ _ _ _;rw [hw3];exact (t2.alloc _).n _
 have hA3:Blk w3 w2.heap.size [.string u0,.int .i64 u1,.int .i64 u2,.int .i64 u3,.int .i64 u4,.int .i64 u5,.int .i64 u6,.int .i64 u7,.int .i64 u8,.int .i64 u9,.int .i64 u10] 68:=by rw [hw3];(exact blA)
 clear hw3 t2 h2 HT HSI c0 c1 c2 cf
 have hal:=hA3.lt
 obtain ⟨a0,a1,a2,a3,a4,a5,a6,a7,a8,a9,a10,af⟩:=hA3.c11
 go_wp2_with fail
 refine (S1.out _ O2 (H3.out.other _ hno)).mono ?_
 rintro e w4 ⟨rfl,O4,h4,t4⟩
 have hA4:=t4.blk (b:=w2.heap.size) (cs:=[.string tx2,.int .i64 u1,.int .i64 u2,.int .i64 u3,.int .i64 u4,.int .i64 u5,.int .i64 u6,.int .i64 u7,.int .i64 u8,.int .i64 u9,.int .i64 u10]) (T:=68) (by (exact blA)) hno
 have T4:=hide ((T3.out.set _ (.inr hsw)).trans t4)
 clear t4 T3 H3 hA3 a0 a1 a2 a3 a4 a5 a6 a7 a8 a9 a10 af hal hno
 go_wp2_with fail
 refine (S2.out _ O4 h4).mono ?_
 rintro e w5 ⟨rfl,O5,h5,t5⟩
 have hA5:=t5.blk hA4.1 hA4.2
 have T5:=hide (T4.out.trans t5)
 clear t5 T4 hA4 h4
 obtain ⟨nv,iv,hB,hN,hI,d1,d2,d3,rfl⟩:=h5
 obtain ⟨hA5,hnO⟩:=hA5
 have hb:Blk w5 r [.string s,.int .i64 y.p.1,.bool y.p.2,nv,iv] 86:=hB
 have hnn:nv.ownBlock≠some w2.heap.size:=fun e=>hnO (.inr (.inl e))
 have hni:iv.ownBlock≠some w2.heap.size:=fun e=>hnO (.inr (.inr e))
 have hal:=hA5.lt
 have hrl:=hb.lt
 obtain ⟨a0,a1,a2,a3,a4,a5,a6,a7,a8,a9,a10,af⟩:=hA5.c11
 have q3:=hb.cell 3
 simp only [List.getElem?_cons_zero,List.getElem?_cons_succ] at q3
 have qf:=hb.frozen
 have hone:∀ u∈([.string tx2,.int .i64 u1,.int .i64 u2,.int .i64 u3,.int .i64 u4,.int .i64 u5,.int .i64 u6,.int .i64 u7,.int .i64 u8,.int .i64 L,.int .i64 L]:List Value),u.oneCell'=true:=by simp [Value.oneCell']
 go_wp2
 refine wp_gen (fun W=>Blk W w2.heap.size [.string tx2,.int .i64 u1,.int .i64 u2,.int .i64 u3,.int .i64 u4,.int .i64 u5,.int .i64 u6,.int .i64 u7,.int .i64 u8,.int .i64 L,.int .i64 L] 68∧Blk W r [.string s,.int .i64 y.p.1,.bool y.p.2,nv,iv] 86∧NRow W nv y.row∧MRow W iv y.marks∧Th O w (Own r nv iv) W) ⟨by (exact blA),by (exact blA),Row.set (Row.set hN _ hnn) _ hnn,Row.set (Row.set hI _ hni) _ hni,(T5.out.set _ (.inr hsw)).set _ (.inr hsw)⟩ ?_
 clear a0 a1 a2 a3 a4 a5 a6 a7 a8 a9 a10 af q3 qf hal hrl hA5
 rintro W ⟨hA,hR,hRW,hIW,htW⟩
 have HTW:=hide htW
 have hal:=hA.lt
 have hrl:=hR.lt
 obtain ⟨a0,a1,a2,a3,a4,a5,a6,a7,a8,a9,a10,af⟩:=hA.c11
 have q3:=hR.cell 3
 simp only [List.getElem?_cons_zero,List.getElem?_cons_succ] at q3
 have qf:=hR.frozen
 go_region_law (refine step_append_lies _ rfl (.tmp 34) (.tmp 36) 43 rfl 0 68 i0 _ 11 96 Tryz.underlying43 hi0 hz0 hz1 hz2 rfl (by decide) nv y.row.length (nnCells y.row) (by simp [Act.eval]) (by exact World.ownsRow.alloc (w:=W.drew) hRW _) ⟨W.heap.size,0,none⟩ 1 1 [.string tx2,.int .i64 u1,.int .i64 u2,.int .i64 u3,.int .i64 u4,.int .i64 u5,.int .i64 u6,.int .i64 u7,.int .i64 u8,.int .i64 L,.int .i64 L] (by simp [Act.eval]) rfl (by exact Blk.news (Blk.new W.drew [.string tx2,.int .i64 u1,.int .i64 u2,.int .i64 u3,.int .i64 u4,.int .i64 u5,.int .i64 u6,.int .i64 u7,.int .i64 u8,.int .i64 L,.int .i64 L] _)) hone (by decide) (by unfold maxLen;omega) (by omega) (Nat.zero_le _) _ rfl ?_;intro g cap' w' hown hgrow hat hlt';have hb':=grown_blk hgrow (Blk.alloc (Blk.drew hR) _) d1;have q3':=hb'.cell 3;have qf':=hb'.frozen;simp only [List.getElem?_cons_zero,List.getElem?_cons_succ] at q3')
 all_goals
  have hM:=hide (mwent_row (s:=s) (m:=y) (n:=⟨tx2,u1,u2,u3,u4,u5,u6,u7,u8,L,L⟩) (w:=W) hR hIW d1 d2 d3 (W:=W.drew.alloc _) ((Kp.refl no W).drew.alloc _) hown hgrow hat (by simp))
  go_wp2_with fail
  obtain ⟨O6,h6,t6⟩:=hM.out
  refine (S3.out _ _ O6 h6).mono ?_
  rintro e w7 ⟨rfl,O7,h7,t7⟩
  go_wp2
  go_end0
  refine ⟨rfl,O7,?_,(HTW.out.trans t6).trans t7⟩
  rw [HV.out]
  exact h7
end Go.Proofs.YtellieabhaphhabGreatDoor
namespace Go.Proofs.YtellieabhaphhabGreatDoor
open Go.RowKit
def CndSaid (f:Nat):Prop:=∀ (r:Nat) (s:ByteArray) (yes no:Int) (m:MS),s.size≤180→s.size-m.p.1<f→m.p.1≤s.size→m.row.length+s.size≤m.p.1+1900→m.marks.length+s.size≤m.p.1+1900 →
  MStep r s 123 #[.pointer (some ⟨r,0,none⟩),.int .i64 yes,.int .i64 no] (.tuple #[]) m (condM f s yes no m)
theorem cnd_all:∀ f,CndSaid f
 | 0=>fun _ _ _ _ _ _ h=>by omega
 | f+1=>fun r s yes no m hs hf hi hr hm=>by
  have IH:=cnd_all f
  rw [condM]
  split
  ·rename_i hc
   obtain ⟨e1,e2,e3⟩:=eat_at (c:=33) hc (by decide)
   have e4:(expM s m [33]).p=(m.p.1+1,false):=e1
   have x1:(expM s m [33]).p.1=m.p.1+1:=by rw [e4]
   exact cond_not (by omega) hi hc (exp_step ⟨#[33]⟩ (by omega) hi (by decide) (by decide)) (IH r s no yes (expM s m [33]) hs (by omega) (by omega) (by rw [expM_row];omega) (by rw [expM_marks];omega))
  split
  ·rename_i _ hc
   obtain ⟨e1,e2,e3⟩:=eat_at (c:=38) hc (by decide)
   have e4:(newM (expM s m [38])).p=(m.p.1+1,false):=e1
   have x1:(newM (expM s m [38])).p.1=m.p.1+1:=by rw [e4]
   have x2:(newM (expM s m [38])).marks.length=m.marks.length+1:=newM_len _
   have x3:(newM (expM s m [38])).row=m.row:=rfl
   have g:=condM_mc f s m.marks.length no (newM (expM s m [38])) (by omega) (by omega)
   have S3:=IH r s m.marks.length no (newM (expM s m [38])) hs (by omega) (by omega) (by rw [x3];omega) (by omega)
   have S1:MStep r s 73 #[.pointer (some ⟨r,0,none⟩),.string ⟨#[38]⟩] (.tuple #[]) m (expM s m [38]):=exp_step ⟨#[38]⟩ (by omega) hi (by decide) (by decide)
   have S2:MStep r s 122 #[.pointer (some ⟨r,0,none⟩)] (.int .i64 m.marks.length) (expM s m [38]) (newM (expM s m [38])):=new_step (by rw [expM_marks];omega)
   generalize condM f s m.marks.length no (newM (expM s m [38]))=y3 at *
   have g1:=g.lo;have g2:=g.row;have g3:=g.mm;have g4:=g.le;have g5:=g.i
   rw [x3] at g2
   exact cond_and (by omega) hi hc S1 S2 S3 (lay_step m.marks.length (by omega) (by omega) (by omega)) (IH r s yes no (layM y3 m.marks.length) hs (by rw [layM_p];omega) (by rw [layM_p];omega) (by rw [layM_p,layM_row];omega) (by rw [layM_p,layM_len];omega))
  split
  ·rename_i _ _ hc
   obtain ⟨e1,e2,e3⟩:=eat_at (c:=124) hc (by decide)
   have e4:(newM (expM s m [124])).p=(m.p.1+1,false):=e1
   have x1:(newM (expM s m [124])).p.1=m.p.1+1:=by rw [e4]
   have x2:(newM (expM s m [124])).marks.length=m.marks.length+1:=newM_len _
   have x3:(newM (expM s m [124])).row=m.row:=rfl
   have g:=condM_mc f s yes m.marks.length (newM (expM s m [124])) (by omega) (by omega)
   have S3:=IH r s yes m.marks.length (newM (expM s m [124])) hs (by omega) (by omega) (by rw [x3];omega) (by omega)
   have S1:MStep r s 73 #[.pointer (some ⟨r,0,none⟩),.string ⟨#[124]⟩] (.tuple #[]) m (expM s m [124]):=exp_step ⟨#[124]⟩ (by omega) hi (by decide) (by decide)
   have S2:MStep r s 122 #[.pointer (some ⟨r,0,none⟩)] (.int .i64 m.marks.length) (expM s m [124]) (newM (expM s m [124])):=new_step (by rw [expM_marks];omega)
   generalize condM f s yes m.marks.length (newM (expM s m [124]))=y3 at *
   have g1:=g.lo;have g2:=g.row;have g3:=g.mm;have g4:=g.le;have g5:=g.i
   rw [x3] at g2
   exact cond_or (by omega) hi hc S1 S2 S3 (lay_step m.marks.length (by omega) (by omega) (by omega)) (IH r s yes no (layM y3 m.marks.length) hs (by rw [layM_p];omega) (by rw [layM_p];omega) (by rw [layM_p,layM_row];omega) (by rw [layM_p,layM_len];omega))
  ·rename_i g1 g2 g3
   exact cond_leaf (by omega) hi (by omega) g1 g2 g3
def StmSaid (f:Nat):Prop:=∀ (r:Nat) (s:ByteArray) (h b:Int) (m:MS),s.size≤180→(m.p.2=false→s.size-m.p.1<f)→MI s m →
  MStep r s 45 #[.pointer (some ⟨r,0,none⟩),.int .i64 h,.int .i64 b] (.tuple #[]) m (stmM f s h b m)
theorem cho_step {f:Nat} (ih:StmSaid f) {r:Nat} {s:ByteArray} {h b:Int} {m:MS} (hs:s.size≤180) (hc:pkb s m.p=40) (hf:s.size-m.p.1<f+1) (hI:MI s m) :
  MStep r s 80 #[.pointer (some ⟨r,0,none⟩),.int .i64 h,.int .i64 b] (.tuple #[]) m (choM f (stmM f s) s h b m):=by
 obtain ⟨e1,e2,e3⟩:=eat_at (c:=40) hc (by decide)
 have b0:=bc_live e3
 have n1:=hI.row;have n2:=hI.mm;have n3:=hI.i
 unfold choM
 dsimp only
 have S1:MStep r s 122 #[.pointer (some ⟨r,0,none⟩)] (.int .i64 m.marks.length) m (newM m):=new_step (by omega)
 have S2:MStep r s 122 #[.pointer (some ⟨r,0,none⟩)] (.int .i64 (m.marks.length+1:Nat)) (newM m) (newM (newM m)):=by rw [← newM_len];exact new_step (by rw [newM_len];omega)
 have S3:MStep r s 122 #[.pointer (some ⟨r,0,none⟩)] (.int .i64 (m.marks.length+2:Nat)) (newM (newM m)) (new3 m):=by
  have e:m.marks.length+2=(newM (newM m)).marks.length:=by rw [newM_len,newM_len]
  rw [e];exact new_step (by rw [newM_len,newM_len];omega)
 have S4:MStep r s 73 #[.pointer (some ⟨r,0,none⟩),.string ⟨#[40]⟩] (.tuple #[]) (new3 m) (expM s (new3 m) [40]):=exp_step ⟨#[40]⟩ (by omega) n3 (by decide) (by decide)
 have p1:(expM s (new3 m) [40]).p=(m.p.1+1,false):=e1
 have r1:(expM s (new3 m) [40]).row=m.row:=rfl
 have m1:(expM s (new3 m) [40]).marks.length=m.marks.length+3:=new3_len m
 generalize expM s (new3 m) [40]=x1 at *
 have q1:x1.p.1=m.p.1+1:=by rw [p1]
 have b1:bc x1.p=0:=by rw [p1];rfl
 clear p1 e1
 have g2:=condM_mc f s m.marks.length (m.marks.length+1:Nat) x1 (by omega) (by omega)
 have S5:=cnd_all f r s m.marks.length (m.marks.length+1:Nat) x1 hs (by omega) (by omega) (by rw [r1];omega) (by omega)
 generalize condM f s m.marks.length (m.marks.length+1:Nat) x1=x2 at *
 have u1:=g2.row;have u2:=g2.mm;have u3:=g2.lo;have u4:=g2.le;have u5:=g2.bad
 rw [r1] at u1
 have g3:=expM_mg (l:=[123]) (by decide) g2.i
 have S6:MStep r s 73 #[.pointer (some ⟨r,0,none⟩),.string ⟨#[123]⟩] (.tuple #[]) x2 (expM s x2 [123]):=exp_step ⟨#[123]⟩ (by omega) g2.i (by decide) (by decide)
 have i3:MI s (expM s x2 [123]):=MI.mg ⟨g2.i,by omega,by omega⟩ g3
 generalize expM s x2 [123]=x3 at *
 have v1:=g3.lo;have v4:=g3.le;have vb:=bc_le x3.p
 have a1:=i3.row;have a2:=i3.mm;have a3:=i3.i
 have g4:=layM_mg (k:=m.marks.length) g3.i
 have S7:MStep r s 124 #[.pointer (some ⟨r,0,none⟩),.int .i64 m.marks.length] (.tuple #[]) x3 (layM x3 m.marks.length):=lay_step m.marks.length (by omega) (by omega) (by omega)
 have i4:=i3.mg g4
 generalize layM x3 m.marks.length=x4 at *
 have lo4:x1.p.1≤x4.p.1:=Nat.le_trans g2.lo (Nat.le_trans g3.lo g4.lo)
 have w4:=g4.le;have w5:=g4.i
 have g5:=stmM_mg f s h b x4 g4.i (fun _=>by omega)
 have S8:=ih r s h b x4 hs (fun _=>by omega) i4
 have i5:=i4.mg g5
 generalize stmM f s h b x4=x5 at *
 have g6:=expM_mg (l:=[125,123]) (by decide) g5.i
 have S9:MStep r s 73 #[.pointer (some ⟨r,0,none⟩),.string ⟨#[125,123]⟩] (.tuple #[]) x5 (expM s x5 [125,123]):=exp_step ⟨#[125,123]⟩ (by omega) g5.i (by decide) (by decide)
 have i6:=i5.mg g6
 have gA:=(g3.trans g4).trans (g5.trans g6)
 generalize expM s x5 [125,123]=x6 at *
 have c1:=i6.row;have c2:=i6.mm;have c3:=i6.i;have cb:=bc_le x6.p
 have c4:=gA.le;have c5:=gA.lo;have c6:=gA.row;have c7:=gA.mm;have c8:=gA.bad
 have T1:MStep r s 125 #[.pointer (some ⟨r,0,none⟩),.int .i64 (m.marks.length+2:Nat)] (.tuple #[]) x6 (jmpM x6 (m.marks.length+2:Nat)):=jump_step _ (by omega)
 have p7:=jmpM_p x6 (m.marks.length+2:Nat)
 have r7:=jmpM_row x6 (m.marks.length+2:Nat)
 have m7:=jmpM_marks x6 (m.marks.length+2:Nat)
 generalize jmpM x6 (m.marks.length+2:Nat)=x7 at *
 have g8:=layM_mg (s:=s) (m:=x7) (k:=m.marks.length+1) (by rw [p7];exact g6.i)
 have T2:MStep r s 124 #[.pointer (some ⟨r,0,none⟩),.int .i64 (m.marks.length+1:Nat)] (.tuple #[]) x7 (layM x7 (m.marks.length+1)):=lay_step (m.marks.length+1) (by rw [m7];omega) (by omega) (by rw [m7];omega)
 generalize layM x7 (m.marks.length+1)=x8 at *
 have d1:=g8.row;have d2:=g8.mm;have d3:=g8.lo;have d4:=g8.le;have d5:=g8.i
 rw [p7] at d1 d2 d3
 rw [m7] at d2 d4
 have i8:MI s x8:=⟨d5,by omega,by omega⟩
 have g9:=stmM_mg f s h b x8 g8.i (fun _=>by omega)
 have T3:=ih r s h b x8 hs (fun _=>by omega) i8
 have i9:=i8.mg g9
 generalize stmM f s h b x8=x9 at *
 have g10:=expM_mg (l:=[125,41]) (by decide) g9.i
 have T4:MStep r s 73 #[.pointer (some ⟨r,0,none⟩),.string ⟨#[125,41]⟩] (.tuple #[]) x9 (expM s x9 [125,41]):=exp_step ⟨#[125,41]⟩ (by omega) g9.i (by decide) (by decide)
 have i10:=i9.mg g10
 have gB:=g9.trans g10
 generalize expM s x9 [125,41]=x10 at *
 have f1:=i10.row;have f2:=i10.mm;have f3:=i10.i;have f4:=gB.le;have fb:=bc_le x10.p
 have T5:MStep r s 124 #[.pointer (some ⟨r,0,none⟩),.int .i64 (m.marks.length+2:Nat)] (.tuple #[]) x10 (layM x10 (m.marks.length+2)):=lay_step (m.marks.length+2) (by omega) (by omega) (by omega)
 exact choice_walk S1 S2 S3 S4 S5 S6 S7 S8 S9 T1 T2 T3 T4 T5
theorem lop_step {f:Nat} (ih:StmSaid f) {r:Nat} {s:ByteArray} {m:MS} (hs:s.size≤180) (hc:pkb s m.p=91) (hf:s.size-m.p.1<f+1) (hI:MI s m) :
  MStep r s 81 #[.pointer (some ⟨r,0,none⟩)] (.tuple #[]) m (lopM f (stmM f s) s m):=by
 obtain ⟨e1,e2,e3⟩:=eat_at (c:=91) hc (by decide)
 have b0:=bc_live e3
 have n1:=hI.row;have n2:=hI.mm;have n3:=hI.i
 unfold lopM
 dsimp only
 have S1:MStep r s 122 #[.pointer (some ⟨r,0,none⟩)] (.int .i64 m.marks.length) m (newM m):=new_step (by omega)
 have S2:MStep r s 122 #[.pointer (some ⟨r,0,none⟩)] (.int .i64 (m.marks.length+1:Nat)) (newM m) (newM (newM m)):=by rw [← newM_len];exact new_step (by rw [newM_len];omega)
 have S3:MStep r s 122 #[.pointer (some ⟨r,0,none⟩)] (.int .i64 (m.marks.length+2:Nat)) (newM (newM m)) (new3 m):=by
  have e:m.marks.length+2=(newM (newM m)).marks.length:=by rw [newM_len,newM_len]
  rw [e];exact new_step (by rw [newM_len,newM_len];omega)
 have S4:MStep r s 73 #[.pointer (some ⟨r,0,none⟩),.string ⟨#[91]⟩] (.tuple #[]) (new3 m) (expM s (new3 m) [91]):=exp_step ⟨#[91]⟩ (by omega) n3 (by decide) (by decide)
 have p1:(expM s (new3 m) [91]).p=(m.p.1+1,false):=e1
 have r1:(expM s (new3 m) [91]).row=m.row:=rfl
 have m1:(expM s (new3 m) [91]).marks.length=m.marks.length+3:=new3_len m
 generalize expM s (new3 m) [91]=x0 at *
 have S5:MStep r s 124 #[.pointer (some ⟨r,0,none⟩),.int .i64 m.marks.length] (.tuple #[]) x0 (layM x0 m.marks.length):=lay_step m.marks.length (by omega) (by rw [r1];omega) (by omega)
 have p1':(layM x0 m.marks.length).p=(m.p.1+1,false):=p1
 have r1':(layM x0 m.marks.length).row=m.row:=r1
 have m1':(layM x0 m.marks.length).marks.length=m.marks.length+3:=by rw [layM_len];exact m1
 generalize layM x0 m.marks.length=x1 at *
 have q1:x1.p.1=m.p.1+1:=by rw [p1']
 have b1:bc x1.p=0:=by rw [p1'];rfl
 clear p1 p1' e1 r1 m1
 have g2:=condM_mc f s (m.marks.length+1:Nat) (m.marks.length+2:Nat) x1 (by omega) (by omega)
 have S6:=cnd_all f r s (m.marks.length+1:Nat) (m.marks.length+2:Nat) x1 hs (by omega) (by omega) (by rw [r1'];omega) (by omega)
 generalize condM f s (m.marks.length+1:Nat) (m.marks.length+2:Nat) x1=x2 at *
 have u1:=g2.row;have u2:=g2.mm;have u3:=g2.lo;have u4:=g2.le;have u5:=g2.bad
 rw [r1'] at u1
 have g3:=expM_mg (l:=[123]) (by decide) g2.i
 have S7:MStep r s 73 #[.pointer (some ⟨r,0,none⟩),.string ⟨#[123]⟩] (.tuple #[]) x2 (expM s x2 [123]):=exp_step ⟨#[123]⟩ (by omega) g2.i (by decide) (by decide)
 have i3:MI s (expM s x2 [123]):=MI.mg ⟨g2.i,by omega,by omega⟩ g3
 generalize expM s x2 [123]=x3 at *
 have v1:=g3.lo;have v4:=g3.le;have vb:=bc_le x3.p
 have a1:=i3.row;have a2:=i3.mm;have a3:=i3.i
 have g4:=layM_mg (k:=m.marks.length+1) g3.i
 have S8:MStep r s 124 #[.pointer (some ⟨r,0,none⟩),.int .i64 (m.marks.length+1:Nat)] (.tuple #[]) x3 (layM x3 (m.marks.length+1)):=lay_step (m.marks.length+1) (by omega) (by omega) (by omega)
 have i4:=i3.mg g4
 generalize layM x3 (m.marks.length+1)=x4 at *
 have lo4:x1.p.1≤x4.p.1:=Nat.le_trans g2.lo (Nat.le_trans g3.lo g4.lo)
 have w4:=g4.le;have w5:=g4.i
 have g5:=stmM_mg f s m.marks.length (m.marks.length+2:Nat) x4 g4.i (fun _=>by omega)
 have S9:=ih r s m.marks.length (m.marks.length+2:Nat) x4 hs (fun _=>by omega) i4
 have i5:=i4.mg g5
 generalize stmM f s m.marks.length (m.marks.length+2:Nat) x4=x5 at *
 have g6:=expM_mg (l:=[125,93]) (by decide) g5.i
 have T1:MStep r s 73 #[.pointer (some ⟨r,0,none⟩),.string ⟨#[125,93]⟩] (.tuple #[]) x5 (expM s x5 [125,93]):=exp_step ⟨#[125,93]⟩ (by omega) g5.i (by decide) (by decide)
 have i6:=i5.mg g6
 have gA:=(g3.trans g4).trans (g5.trans g6)
 generalize expM s x5 [125,93]=x6 at *
 have c1:=i6.row;have c2:=i6.mm;have c3:=i6.i;have cb:=bc_le x6.p
 have c4:=gA.le
 have T2:MStep r s 125 #[.pointer (some ⟨r,0,none⟩),.int .i64 m.marks.length] (.tuple #[]) x6 (jmpM x6 m.marks.length):=jump_step _ (by omega)
 have r7:=jmpM_row x6 m.marks.length
 have m7:=jmpM_marks x6 m.marks.length
 generalize jmpM x6 m.marks.length=x7 at *
 have T3:MStep r s 124 #[.pointer (some ⟨r,0,none⟩),.int .i64 (m.marks.length+2:Nat)] (.tuple #[]) x7 (layM x7 (m.marks.length+2)):=lay_step (m.marks.length+2) (by rw [m7];omega) (by omega) (by rw [m7];omega)
 exact loop_walk S1 S2 S3 S4 S5 S6 S7 S8 S9 T1 T2 T3
theorem lep_step {r:Nat} {s:ByteArray} {m:MS} (u:ByteArray) (k:Int) (hs:s.size≤180) (hu:u.size≤10) (hz:∀ k (h:k<u.size),(u[k]).toNat≠0) (hI:MI s m) :
  MStep r s 82 #[.pointer (some ⟨r,0,none⟩),.string u,.int .i64 k] (.tuple #[]) m (lepM s u.data.toList k m):=by
 have n1:=hI.row;have n3:=hI.i;have nb:=bc_le m.p
 unfold lepM
 split
 ·rename_i hk
  subst hk
  exact leap_bad u
 ·rename_i hk
  exact leap_walk hk (exp_step u (by omega) n3 hu hz) (jump_step k (by rw [expM_row];omega))
end Go.Proofs.YtellieabhaphhabGreatDoor
namespace Go.Proofs.YtellieabhaphhabGreatDoor
open Go.RowKit
theorem pkb_bad {s:ByteArray} {m:MS} (h:m.p.2=true):pkb s m.p=0:=by simp [pkb,h]
set_option maxHeartbeats 3200000 in
theorem statements_m {f:Nat} (ih:∀ k,k<f→StmSaid k):StmSaid f:=by
 intro r s h b m hs hf hI w O hM
 have IH:=hide ih
 clear ih
 go_enter Tryz.func45,Tryz.ntmps45
 go_wp2
 go_loopg [] f (fun k wr=>∃ m' O',Mp wr r s m' O'∧Th O w O' wr∧MI s m'∧(m'.p.2=false→s.size-m'.p.1<k)∧k≤f∧stmM f s h b m=stmM k s h b m')
 case atStart=>exact ⟨m,O,hM,Th.refl O w,hI,hf,Nat.le_refl _,rfl⟩
 case round =>
  obtain ⟨m',O',h',T',hI',hk,hkf,hE⟩:=hrel
  have HE:=hide hE
  have HI':=hide hI'
  have HT:=hide T'
  have HK:=hide hk
  have HKF:=hide hkf
  have HP:=hide (mpeek_w h' (by omega) hI'.i)
  obtain ⟨c0,c1,c2,cf⟩:=h'.c
  clear hE hI' T' hk hkf hI hf hM
  cases hb':m'.p.2
  ·rw [hb'] at c2
   by_cases hstop:pkb s m'.p=125∨pkb s m'.p=0
   ·have HS:=hide (stmM_stop gk s h b m' hstop)
    generalize pkb s m'.p=d at *
    rcases hstop with rfl|rfl
    all_goals
     go_wp2_with fail
     refine HP.out.mono ?_
     rintro x w2 ⟨rfl,nq,rfl⟩
     go_wp2
     refine bodyPost_ret (results_none rfl _ _ _) rfl ?_
     rw [HE.out,HS.out]
     exact ⟨rfl,O',h'.n _,HT.out.n _⟩
   ·have hk0:=HK.out hb'
    obtain ⟨k,rfl⟩:∃ k,gk=k+1:=⟨gk-1,by omega⟩
    have HR:=hide (show stmM (k+1) s h b m'=stmM k s h b (stM k (stmM k s) s h b m') by rw [stmM,if_pos (by omega)])
    have HG:=hide (stM_mg (h:=h) (b:=b) (stmM_mg k s) (fun e=>hstop (.inr e)) hk0)
    have hIH:=IH.out k (by have:=HKF.out;omega)
    by_cases h1:pkb s m'.p=40
    ·have HX:=hide (show MStep r s 80 #[.pointer (some ⟨r,0,none⟩),.int .i64 h,.int .i64 b] (.tuple #[]) m' (stM k (stmM k s) s h b m') by rw [stM,if_pos h1];exact cho_step hIH hs h1 hk0 HI'.out)
     rw [h1] at HP
     generalize stM k (stmM k s) s h b m'=m2 at *
     clear h1 hstop hIH
     go_wp2_with fail
     refine HP.out.mono ?_
     rintro x w2 ⟨rfl,nq,rfl⟩
     go_wp2_with fail
     refine (HX.out _ _ (h'.n nq)).mono ?_
     rintro x w3 ⟨rfl,O3,h3,t3⟩
     go_wp2
     go_roundg k
     case measure=>omega
     case rel=>exact ⟨m2,O3,h3,(HT.out.n nq).trans t3,HI'.out.mg HG.out.1,fun hb2=>by have:=HG.out.2 hb2;have:=HG.out.1.i;omega,by have:=HKF.out;omega,by rw [HE.out,HR.out]⟩
    by_cases h2:pkb s m'.p=91
    ·have HX:=hide (show MStep r s 81 #[.pointer (some ⟨r,0,none⟩)] (.tuple #[]) m' (stM k (stmM k s) s h b m') by rw [stM,if_neg h1,if_pos h2];exact lop_step hIH hs h2 hk0 HI'.out)
     rw [h2] at HP
     generalize stM k (stmM k s) s h b m'=m2 at *
     clear h1 h2 hstop hIH
     go_wp2_with fail
     refine HP.out.mono ?_
     rintro x w2 ⟨rfl,nq,rfl⟩
     go_wp2_with fail
     refine (HX.out _ _ (h'.n nq)).mono ?_
     rintro x w3 ⟨rfl,O3,h3,t3⟩
     go_wp2
     go_roundg k
     case measure=>omega
     case rel=>exact ⟨m2,O3,h3,(HT.out.n nq).trans t3,HI'.out.mg HG.out.1,fun hb2=>by have:=HG.out.2 hb2;have:=HG.out.1.i;omega,by have:=HKF.out;omega,by rw [HE.out,HR.out]⟩
    by_cases h3:pkb s m'.p=62
    ·have HX:=hide (show MStep r s 82 #[.pointer (some ⟨r,0,none⟩),.string ⟨#[62,59]⟩,.int .i64 b] (.tuple #[]) m' (stM k (stmM k s) s h b m') by rw [stM,if_neg h1,if_neg h2,if_pos h3];exact lep_step ⟨#[62,59]⟩ b hs (by decide) (by decide) HI'.out)
     rw [h3] at HP
     generalize stM k (stmM k s) s h b m'=m2 at *
     clear h1 h2 h3 hstop hIH
     go_wp2_with fail
     refine HP.out.mono ?_
     rintro x w2 ⟨rfl,nq,rfl⟩
     go_wp2_with fail
     refine (HX.out _ _ (h'.n nq)).mono ?_
     rintro x w3 ⟨rfl,O3,h3,t3⟩
     go_wp2
     go_roundg k
     case measure=>omega
     case rel=>exact ⟨m2,O3,h3,(HT.out.n nq).trans t3,HI'.out.mg HG.out.1,fun hb2=>by have:=HG.out.2 hb2;have:=HG.out.1.i;omega,by have:=HKF.out;omega,by rw [HE.out,HR.out]⟩
    by_cases h4:pkb s m'.p=60
    ·have HX:=hide (show MStep r s 82 #[.pointer (some ⟨r,0,none⟩),.string ⟨#[60,59]⟩,.int .i64 h] (.tuple #[]) m' (stM k (stmM k s) s h b m') by rw [stM,if_neg h1,if_neg h2,if_neg h3,if_pos h4];exact lep_step ⟨#[60,59]⟩ h hs (by decide) (by decide) HI'.out)
     rw [h4] at HP
     generalize stM k (stmM k s) s h b m'=m2 at *
     clear h1 h2 h3 h4 hstop hIH
     go_wp2_with fail
     refine HP.out.mono ?_
     rintro x w2 ⟨rfl,nq,rfl⟩
     go_wp2_with fail
     refine (HX.out _ _ (h'.n nq)).mono ?_
     rintro x w3 ⟨rfl,O3,h3,t3⟩
     go_wp2
     go_roundg k
     case measure=>omega
     case rel=>exact ⟨m2,O3,h3,(HT.out.n nq).trans t3,HI'.out.mg HG.out.1,fun hb2=>by have:=HG.out.2 hb2;have:=HG.out.1.i;omega,by have:=HKF.out;omega,by rw [HE.out,HR.out]⟩
    ·have hbc:=bc_le m'.p
     have HX:=hide (show MStep r s 83 #[.pointer (some ⟨r,0,none⟩)] (.tuple #[]) m' (stM k (stmM k s) s h b m') by rw [stM,if_neg h1,if_neg h2,if_neg h3,if_neg h4];exact act_step (by omega) HI'.out (fun e=>hstop (.inr e)))
     have f1:((pkb s m'.p:Int) == 40)=false:=by simp;omega
     have f2:((pkb s m'.p:Int) == 91)=false:=by simp;omega
     have f3:((pkb s m'.p:Int) == 62)=false:=by simp;omega
     have f4:((pkb s m'.p:Int) == 60)=false:=by simp;omega
     have f5:((pkb s m'.p:Int) == 125)=false:=by simp;omega
     have f6:((pkb s m'.p:Int) == 0)=false:=by simp;omega
     generalize stM k (stmM k s) s h b m'=m2 at *
     generalize pkb s m'.p=d at *
     clear h1 h2 h3 h4 hstop hIH hbc
     go_wp2_with fail
     refine HP.out.mono ?_
     rintro x w2 ⟨rfl,nq,rfl⟩
     go_wp2_with fail
     refine (HX.out _ _ (h'.n nq)).mono ?_
     rintro x w3 ⟨rfl,O3,h3,t3⟩
     go_wp2
     go_roundg k
     case measure=>omega
     case rel=>exact ⟨m2,O3,h3,(HT.out.n nq).trans t3,HI'.out.mg HG.out.1,fun hb2=>by have:=HG.out.2 hb2;have:=HG.out.1.i;omega,by have:=HKF.out;omega,by rw [HE.out,HR.out]⟩
  ·rw [hb'] at c2
   have HS:=hide (stmM_stop gk s h b m' (.inr (pkb_bad hb')))
   generalize pkb s m'.p=d at *
   go_wp2
   go_end0
   rw [HE.out,HS.out]
   exact ⟨rfl,O',h',HT.out⟩
theorem stm_all:∀ f,StmSaid f:=by
 intro f
 induction f using Nat.strongRecOn with
 | _ f ih=>exact statements_m ih
end Go.Proofs.YtellieabhaphhabGreatDoor
namespace Go.Proofs.YtellieabhaphhabGreatDoor
open Go.RowKit
def plcM (m:MS) (k:Int):Nat:=if k<0∨(m.marks.length:Int)≤k then m.row.length else m.marks.getD k.toNat 0
def ahdA (row:List NN) (p:Nat):Nat→Nat
 | 0=>0
 | j+1=>ahdA row p j+(match row[j]? with|some n=>if j<p∧n.act≠15 then 1 else 0|none=>0)
def ahdM (row:List NN) (p:Nat):Nat:=ahdA row p row.length
def hopM (m:MS):Nat→Nat→Nat
 | 0,p=>p
 | f+1,p=>match m.row[p]? with|none=>p|some n=>if n.act=15 then hopM m f (plcM m n.yes) else p
def nbhM (m:MS) (k:Int):Nat:=ahdM m.row (hopM m m.row.length (plcM m k))
def nodA (m:MS):Nat→List NN
 | 0=>[]
 | j+1=>nodA m j++(match m.row[j]? with|some n=>if n.act=15 then [] else [n.setW (nbhM m n.yes) (nbhM m n.no)]|none=>[])
def nodM (m:MS):List NN:=nodA m m.row.length
theorem ahdA_le (row:List NN) (p:Nat):∀ j,ahdA row p j≤j
 | 0=>Nat.le_refl _
 | j+1=>by
  have:=ahdA_le row p j
  rw [ahdA]
  have h2:(match row[j]? with|some n=>if j<p∧n.act≠15 then 1 else 0|none=>0)≤1:=by
   split
   ·split <;> decide
   ·decide
  omega
theorem nodA_le (m:MS):∀ j,(nodA m j).length≤j
 | 0=>Nat.le_refl _
 | j+1=>by
  have:=nodA_le m j
  rw [nodA,List.length_append]
  have h2:(match m.row[j]? with|some n=>if n.act=15 then [] else [n.setW (nbhM m n.yes) (nbhM m n.no)]|none=>([]:List NN)).length≤1:=by
   split
   ·split <;> simp
   ·simp
  omega
theorem MRow.shape {w:World} {v:Value} {l:List Nat} (h:MRow w v l):∃ a cap,v=.slice a l.length cap:=by
 rcases h.2 with ⟨rfl,h0⟩|⟨g,cap,cur,rfl,_⟩
 ·exact ⟨none,0,by rw [h0]⟩
 ·exact ⟨_,_,rfl⟩
structure Mo (w:World) (r:Nat) (s:ByteArray) (m:MS) (nv iv:Value):Prop where
 b:Blk w r [.string s,.int .i64 m.p.1,.bool m.p.2,nv,iv] 86
 n:NRow w nv m.row
 i:MRow w iv m.marks
theorem Mo.kp {w w':World} {r:Nat} {s:ByteArray} {m:MS} {nv iv:Value} (h:Mo w r s m nv iv) (k:Kp no w w'):Mo w' r s m nv iv :=
 ⟨k.blk h.b no_elim,k.row h.n (fun _ _=>no_elim),k.row h.i (fun _ _=>no_elim)⟩
set_option maxHeartbeats 800000 in
theorem placeOf_c {r:Nat} {s:ByteArray} {m:MS} {nv iv:Value} (k:Int) (w:World) (h:Mo w r s m nv iv) :
  Calls Tryz.prog 126 #[.pointer (some ⟨r,0,none⟩),.int .i64 k] w fun e w'=>e=.returned (.int .i64 (plcM m k))∧Kp no w w':=by
 have hr:=h.b.lt
 have q3:=h.b.cell 3
 have q4:=h.b.cell 4
 simp only [List.getElem?_cons_zero,List.getElem?_cons_succ] at q3 q4
 have qf:=h.b.frozen
 obtain ⟨a,cap,rfl⟩:=h.n.shape
 by_cases h0:k<0
 ·have HV:=hide (show plcM m k=m.row.length by rw [plcM,if_pos (.inl h0)])
  obtain ⟨a2,cap2,rfl⟩:=h.i.shape
  clear h
  go_enter Tryz.func126,Tryz.ntmps126
  go_wp2
  go_ret
  rw [HV.out]
  exact ⟨rfl,by (exact kpA)⟩
 by_cases h1:(m.marks.length:Int)≤k
 ·have HV:=hide (show plcM m k=m.row.length by rw [plcM,if_pos (.inr h1)])
  obtain ⟨a2,cap2,rfl⟩:=h.i.shape
  clear h
  go_enter Tryz.func126,Tryz.ntmps126
  go_wp2
  go_ret
  rw [HV.out]
  exact ⟨rfl,by (exact kpA)⟩
 ·obtain ⟨k,rfl⟩:=Int.eq_ofNat_of_zero_le (Int.not_lt.1 h0)
  have hk:k<m.marks.length:=by omega
  obtain ⟨g,cap2,rfl,_,hg⟩:=World.ownsRow.form h.i (by omega)
  have HV:=hide (show plcM m k=m.marks[k] by rw [plcM,if_neg (by omega),Int.toNat_natCast,List.getD_eq_getElem?_getD,List.getElem?_eq_getElem hk];rfl)
  have ck:w.cell? ⟨g,k,none⟩=some (.int .i64 m.marks[k]):=by
   have:=Row.cell h.i k (by omega)
   rw [this,mCells,List.getElem?_map,List.getElem?_eq_getElem hk];rfl
  have cf:=Row.frozen h.i
  clear h
  generalize m.marks[k]=mk at *
  go_enter Tryz.func126,Tryz.ntmps126
  go_wp2
  go_ret
  rw [HV.out]
  exact ⟨rfl,by (exact kpA)⟩
end Go.Proofs.YtellieabhaphhabGreatDoor
namespace Go.Proofs.YtellieabhaphhabGreatDoor
open Go.RowKit
abbrev KS:List UInt8:=[110,116,102,122,65,66,67]
abbrev KB:ByteArray:=⟨#[110,116,102,122,65,66,67]⟩
def kix (c:Nat):Nat:=if c=110 then 0 else if c=116 then 1 else if c=102 then 2 else if c=122 then 3 else if c=65 then 4 else if c=66 then 5 else if c=67 then 6 else 7
def selB (p:Nat→Bool):ByteArray:=⟨(KS.filter (fun u=>p u.toNat)).toArray⟩
theorem selB_congr {p q:Nat→Bool} (h:∀ u∈KS,p u.toNat=q u.toNat):selB p=selB q:=by
 unfold selB;rw [List.filter_congr h]
def sgB (m:Nat):ByteArray:=selB (fun c=>m.testBit (kix c))
theorem am_sel (p:Nat→Bool) (u:UInt8) (h:u∈KS):amF u.toNat (selB p).data.toList=p u.toNat:=by
 show ((KS.filter (fun u=>p u.toNat)).any (fun v=>v.toNat == u.toNat))=p u.toNat
 rw [List.any_filter]
 simp only [KS,List.mem_cons,List.not_mem_nil,or_false] at h
 rcases h with rfl|rfl|rfl|rfl|rfl|rfl|rfl <;> simp [KS]
theorem am_sg (m:Nat) (u:UInt8) (h:u∈KS):amF u.toNat (sgB m).data.toList=m.testBit (kix u.toNat):=am_sel _ u h
theorem sel_size (p:Nat→Bool):(selB p).size≤7:=by
 show (KS.filter _).toArray.size≤7
 rw [List.size_toArray]
 exact List.length_filter_le _ KS
theorem sg_size (m:Nat):(sgB m).size≤7:=sel_size _
def bothB (a b:ByteArray):ByteArray:=selB (fun c=>amF c a.data.toList && amF c b.data.toList)
def eitherB (a b:ByteArray):ByteArray:=selB (fun c=>amF c a.data.toList || amF c b.data.toList)
theorem both_sg (a b:Nat):bothB (sgB a) (sgB b)=sgB (a&&&b) :=
 selB_congr fun u hu=>by rw [am_sg a u hu,am_sg b u hu,Nat.testBit_and]
theorem either_sg (a b:Nat):eitherB (sgB a) (sgB b)=sgB (a ||| b) :=
 selB_congr fun u hu=>by rw [am_sg a u hu,am_sg b u hu,Nat.testBit_or]
theorem bit_eq_of {a b:Nat} (ha:a<128) (hb:b<128) (h:∀ u∈KS,a.testBit (kix u.toNat)=b.testBit (kix u.toNat)):a=b:=by
 apply Nat.eq_of_testBit_eq
 intro i
 have hh:∀ k,k∈[0,1,2,3,4,5,6]→a.testBit k=b.testBit k:=by
  intro k hk
  simp only [List.mem_cons,List.not_mem_nil,or_false] at hk
  rcases hk with rfl|rfl|rfl|rfl|rfl|rfl|rfl
  ·exact h 110 (by decide)
  ·exact h 116 (by decide)
  ·exact h 102 (by decide)
  ·exact h 122 (by decide)
  ·exact h 65 (by decide)
  ·exact h 66 (by decide)
  ·exact h 67 (by decide)
 by_cases hi:i<7
 ·exact hh i (by simp;omega)
 ·have h2:128≤2 ^ i:=by
   have:2 ^ 7≤2 ^ i:=Nat.pow_le_pow_right (by decide) (by omega)
   omega
  rw [Nat.testBit_lt_two_pow (by omega),Nat.testBit_lt_two_pow (by omega)]
theorem sg_inj {a b:Nat} (ha:a<128) (hb:b<128) (h:sgB a=sgB b):a=b :=
 bit_eq_of ha hb fun u hu=>by rw [← am_sg a u hu,← am_sg b u hu,h]
theorem sg_zero:sgB 0=⟨#[]⟩:=by decide
theorem sg_empty {a:Nat} (ha:a<128):(sgB a=⟨#[]⟩)↔a=0 :=
 ⟨fun h=>sg_inj ha (by decide) (h.trans sg_zero.symm),fun h=>by rw [h];exact sg_zero⟩
def subB (a b:ByteArray):Bool:=a.data.toList.all (fun u=>amF u.toNat b.data.toList)
theorem sub_sg (a b:Nat) (ha:a<128):subB (sgB a) (sgB b)=decide (a&&&b=a):=by
 have hx:a&&&b<128:=Nat.lt_of_le_of_lt Nat.and_le_left ha
 show ((KS.filter (fun u=>a.testBit (kix u.toNat))).all (fun u=>amF u.toNat (sgB b).data.toList))=_
 rw [List.all_filter,Bool.eq_iff_iff,List.all_eq_true,decide_eq_true_iff]
 constructor
 ·intro h
  refine bit_eq_of hx ha fun u hu=>?_
  have:=h u hu
  rw [am_sg b u hu] at this
  rw [Nat.testBit_and]
  revert this
  cases a.testBit (kix u.toNat) <;> simp
 ·intro h u hu
  rw [am_sg b u hu]
  have:=congrArg (fun z=>z.testBit (kix u.toNat)) h
  simp only [Nat.testBit_and] at this
  revert this
  cases a.testBit (kix u.toNat) <;> simp
abbrev St:=List Nat
def exS (s:St):Bool:=s.all (fun m=>m != 0)
def nrm (s:St):St:=if exS s then s else []
def withS (s:St) (x m:Nat):St:=if s=[]∨m=0 then [] else s.set x m
def tkN (op:Int):Nat:=if op=43∨op=60∨op=65 then 1 else if op=66 then 14 else if op=46 then 48 else 127
def givN (op:Int) (y:Nat):Nat :=
 if op=48∨op=43 then 1 else if op=84 then 2 else if op=70 then 4 else if op=90 then 8 else if op=63 then 127 else if op=118 then y else if op=60 then 6
 else if op=46 then ((if y.testBit 4 then 1 else 0) ||| (if y.testBit 5 then 14 else 0)) else if op=65 then 16 else if op=66 then 32 else 64
def bitN (k:Int):Nat:=if k=110 then 1 else if k=116 then 2 else if k=102 then 4 else if k=122 then 8 else if k=65 then 16 else if k=66 then 32 else if k=67 then 64 else 0
theorem bitN_lt (k:Int):bitN k<128:=by
 unfold bitN;repeat' split
 all_goals decide
def behF (n:Nd) (s:St):St :=
 if n.op=33 then [] else if n.op=42∨n.op=94 then s
 else if n.op=126 then withS s n.x.toNat (s.getD n.x.toNat 0&&&bitN n.k)
 else withS (if withS s n.y.toNat (s.getD n.y.toNat 0&&&tkN n.op)≠[]∧(n.op=43∨n.op=60)
   then withS (withS s n.y.toNat (s.getD n.y.toNat 0&&&tkN n.op)) n.v.toNat ((withS s n.y.toNat (s.getD n.y.toNat 0&&&tkN n.op)).getD n.v.toNat 0&&&tkN n.op)
   else withS s n.y.toNat (s.getD n.y.toNat 0&&&tkN n.op)) n.x.toNat (givN n.op (s.getD n.y.toNat 0&&&tkN n.op))
def wayM (n:Nd) (yes:Bool):Nat:=if n.op=58 then (if yes then bitN n.k else 127 ^^^ bitN n.k) else if yes then 115 else 13
def hldF (n:Nd) (yes:Bool) (s:St):St:=withS s n.y.toNat (s.getD n.y.toNat 0&&&wayM n yes)
def joinR (a b:St):St × Bool:=if b=[] then (a,false) else if a=[] then (b,true) else (List.zipWith (· ||| ·) a b,decide (List.zipWith (· ||| ·) a b≠a))
def SOk (s:St):Prop:=s=[]∨(s.length=6∧∀ m∈s,m≠0∧m<128)
theorem SOk.nil:SOk []:=.inl rfl
theorem SOk.withS {s:St} (h:SOk s) (x m:Nat) (hm:m<128):SOk (withS s x m):=by
 unfold Go.Proofs.YtellieabhaphhabGreatDoor.withS
 split
 ·exact .inl rfl
 ·rename_i hc
  rcases h with rfl|⟨h1,h2⟩
  ·exact absurd (.inl rfl) hc
  ·refine .inr ⟨by simpa using h1,fun z hz=>?_⟩
   rcases List.mem_or_eq_of_mem_set hz with h|rfl
   ·exact h2 z h
   ·exact ⟨fun e=>hc (.inr e),hm⟩
theorem SOk.get {s:St} (h:SOk s) (x:Nat):s.getD x 0<128:=by
 rcases h with rfl|⟨_,h2⟩
 ·simp
 ·rw [List.getD_eq_getElem?_getD]
  cases hx:s[x]? with
  | none=>simp
  | some m=>exact (h2 m (List.mem_of_getElem? hx)).2
theorem and_lt {a:Nat} (b:Nat) (h:a<128):a&&&b<128:=Nat.lt_of_le_of_lt Nat.and_le_left h
theorem or_lt {a b:Nat} (h:a<128) (k:b<128):a ||| b<128:=Nat.or_lt_two_pow (n:=7) h k
theorem givN_lt (op:Int) {y:Nat} (h:y<128):givN op y<128:=by
 unfold givN
 repeat' split
 all_goals first|exact h|decide
theorem SOk.beh {s:St} (n:Nd) (h:SOk s):SOk (behF n s):=by
 unfold behF
 have hy:=and_lt (tkN n.op) (h.get n.y.toNat)
 repeat' split
 ·exact .nil
 ·exact h
 ·exact h.withS _ _ (and_lt _ (h.get _))
 ·exact ((h.withS _ _ hy).withS _ _ (and_lt _ ((h.withS _ _ hy).get _))).withS _ _ (givN_lt _ hy)
 ·exact (h.withS _ _ hy).withS _ _ (givN_lt _ hy)
theorem SOk.hld {s:St} (n:Nd) (yes:Bool) (h:SOk s):SOk (hldF n yes s):=h.withS _ _ (and_lt _ (h.get _))
theorem SOk.join {a b:St} (ha:SOk a) (hb:SOk b):SOk (joinR a b).1:=by
 unfold joinR
 split
 ·exact ha
 ·rename_i h1
  split
  ·exact hb
  ·rename_i h2
   obtain ⟨la,ma⟩:=ha.resolve_left h2
   obtain ⟨lb,mb⟩:=hb.resolve_left h1
   refine .inr ⟨by simp [la,lb],fun z hz=>?_⟩
   obtain ⟨i,hi,rfl⟩:=List.getElem_of_mem hz
   rw [List.length_zipWith] at hi
   rw [List.getElem_zipWith]
   have p:=ma a[i] (List.getElem_mem _)
   have q:=mb b[i] (List.getElem_mem _)
   exact ⟨fun e=>p.1 (Nat.or_eq_zero_iff.1 e).1,or_lt p.2 q.2⟩
def sgS (s:St):List Value:=s.map (fun m=>.string (sgB m))
end Go.Proofs.YtellieabhaphhabGreatDoor
namespace Go.Proofs.YtellieabhaphhabGreatDoor
open Go.RowKit
set_option maxHeartbeats 400000 in
theorem fin_c (c:Nat) (s:ByteArray) (w:World) (hs:s.size≤1000) :
  Calls Tryz.prog 103 #[.string s,.int .u8 c] w fun e w'=>e=.returned (.bool (amF c s.data.toList))∧w'=w:=by
 go_enter Tryz.func103,Tryz.ntmps103
 go_wp2_with (go_at_call 144;refine (among_c c _ _ hs).mono ?_;rintro e w' ⟨rfl,rfl⟩)
 go_ret
 exact ⟨rfl,rfl⟩
def selN (p:Nat→Bool) (j:Nat):ByteArray:=⟨((KS.take j).filter (fun u=>p u.toNat)).toArray⟩
theorem selN_all (p:Nat→Bool):selN p 7=selB p:=rfl
theorem selN_yes (p:Nat→Bool) (j:Nat) (hj:j<7) (h:p (KB[j]'hj).toNat=true):selN p j++KB.extract j (j+1)=selN p (j+1):=by
 have h:p (KS[j]'hj).toNat=true:=h
 have e:KB.extract j (j+1)=⟨#[KS[j]'hj]⟩:=by
  rcases (show j=0∨j=1∨j=2∨j=3∨j=4∨j=5∨j=6 by omega) with rfl|rfl|rfl|rfl|rfl|rfl|rfl <;> rfl
 rw [e]
 unfold selN
 rw [List.take_succ_eq_append_getElem hj,List.filter_append]
 simp only [List.filter_cons,h,if_true,List.filter_nil]
 apply ByteArray.ext
 simp
theorem selN_no (p:Nat→Bool) (j:Nat) (hj:j<7) (h:p (KB[j]'hj).toNat=false):selN p j=selN p (j+1):=by
 have h:p (KS[j]'hj).toNat=false:=h
 unfold selN
 rw [List.take_succ_eq_append_getElem hj,List.filter_append]
 simp [h]
theorem selN_size (p:Nat→Bool) (j:Nat):(selN p j).size≤7:=by
 show (List.filter _ _).toArray.size≤7
 rw [List.size_toArray]
 exact Nat.le_trans (List.length_filter_le _ _) (by rw [List.length_take];exact Nat.min_le_right _ _)
set_option maxHeartbeats 800000 in
theorem both_c (a b:ByteArray) (w:World) (ha:a.size≤1000) (hb:b.size≤1000) :
  Calls Tryz.prog 109 #[.string a,.string b] w fun e w'=>e=.returned (.string (bothB a b))∧w'=w:=by
 have HA:=hide (fun c=>fin_c c a w ha)
 have HB:=hide (fun c=>fin_c c b w hb)
 clear ha hb
 go_enter Tryz.func109,Tryz.ntmps109
 go_wp2
 go_loopg [5,6] 7 (fun k tv iv wr=>∃ j:Nat,j≤7∧k=7-j∧iv=.int .i64 j∧tv=.string (selN (fun c=>amF c a.data.toList && amF c b.data.toList) j)∧wr=w)
 case atStart=>exact ⟨0,by decide,rfl,rfl,rfl,rfl⟩
 case round =>
  obtain ⟨j,hj,hk,rfl,rfl,rfl⟩:=hrel
  have HKK:=hide hk
  clear hk
  by_cases hlt:j<7
  ·have HY:=hide (selN_yes (fun c=>amF c a.data.toList && amF c b.data.toList) j hlt)
   have HN:=hide (selN_no (fun c=>amF c a.data.toList && amF c b.data.toList) j hlt)
   have hsz:=selN_size (fun c=>amF c a.data.toList && amF c b.data.toList) j
   have hrel:∀ tj,selN (fun c=>amF c a.data.toList && amF c b.data.toList) (j+1)=tj→Hid (selN (fun c=>amF c a.data.toList && amF c b.data.toList) (j+1)=tj):=fun _ h=>h
   generalize selN (fun c=>amF c a.data.toList && amF c b.data.toList) j=tj at *
   go_wp2_with fail
   refine (HA.out _).mono ?_
   rintro e w' ⟨rfl,rfl⟩
   go_wp2_with fail
   refine (HB.out _).mono ?_
   rintro e w' ⟨rfl,rfl⟩
   generalize amF _ a.data.toList=p at *
   generalize amF _ b.data.toList=q at *
   clear HA HB
   cases p <;> cases q
   all_goals
    go_wp2
    go_roundg (7-(j+1))
    case measure=>have:=HKK.out;omega
    case rel=>exact ⟨j+1,by omega,rfl,by go_num,by first|rw [← HN.out rfl]|rw [← HY.out rfl],rfl⟩
  ·obtain rfl:j=7:=by omega
   go_wp2
   go_ret
   exact ⟨rfl,rfl⟩
set_option maxHeartbeats 800000 in
theorem either_c (a b:ByteArray) (w:World) (ha:a.size≤1000) (hb:b.size≤1000) :
  Calls Tryz.prog 164 #[.string a,.string b] w fun e w'=>e=.returned (.string (eitherB a b))∧w'=w:=by
 have HA:=hide (fun c=>fin_c c a w ha)
 have HB:=hide (fun c=>fin_c c b w hb)
 clear ha hb
 go_enter Tryz.func164,Tryz.ntmps164
 go_wp2
 go_loopg [5,6] 7 (fun k tv iv wr=>∃ j:Nat,j≤7∧k=7-j∧iv=.int .i64 j∧tv=.string (selN (fun c=>amF c a.data.toList || amF c b.data.toList) j)∧wr=w)
 case atStart=>exact ⟨0,by decide,rfl,rfl,rfl,rfl⟩
 case round =>
  obtain ⟨j,hj,hk,rfl,rfl,rfl⟩:=hrel
  have HKK:=hide hk
  clear hk
  by_cases hlt:j<7
  ·have HY:=hide (selN_yes (fun c=>amF c a.data.toList || amF c b.data.toList) j hlt)
   have HN:=hide (selN_no (fun c=>amF c a.data.toList || amF c b.data.toList) j hlt)
   have hsz:=selN_size (fun c=>amF c a.data.toList || amF c b.data.toList) j
   have hrel:∀ tj,selN (fun c=>amF c a.data.toList || amF c b.data.toList) (j+1)=tj→Hid (selN (fun c=>amF c a.data.toList || amF c b.data.toList) (j+1)=tj):=fun _ h=>h
   generalize selN (fun c=>amF c a.data.toList || amF c b.data.toList) j=tj at *
   go_wp2_with fail
   refine (HA.out _).mono ?_
   rintro e w' ⟨rfl,rfl⟩
   go_wp2_with fail
   refine (HB.out _).mono ?_
   rintro e w' ⟨rfl,rfl⟩
   generalize amF _ a.data.toList=p at *
   generalize amF _ b.data.toList=q at *
   clear HA HB
   cases p <;> cases q
   all_goals
    go_wp2
    go_roundg (7-(j+1))
    case measure=>have:=HKK.out;omega
    case rel=>exact ⟨j+1,by omega,rfl,by go_num,by first|rw [← HN.out rfl]|rw [← HY.out rfl],rfl⟩
  ·obtain rfl:j=7:=by omega
   go_wp2
   go_ret
   exact ⟨rfl,rfl⟩
theorem sub_take (a b:ByteArray) (k:Nat) (h:k<a.size):((a.data.toList.take (k+1)).all (fun u=>amF u.toNat b.data.toList))=((a.data.toList.take k).all (fun u=>amF u.toNat b.data.toList) && amF (a[k]).toNat b.data.toList):=by
 rw [List.take_succ_eq_append_getElem (by simpa using h),List.all_append];simp;rfl
theorem sub_mono (a b:ByteArray) (k:Nat) (h:((a.data.toList.take k).all (fun u=>amF u.toNat b.data.toList))=false):subB a b=false:=by
 simp only [subB,List.all_eq_false] at h ⊢
 obtain ⟨x,hx,e⟩:=h
 exact ⟨x,List.mem_of_mem_take hx,e⟩
set_option maxHeartbeats 800000 in
theorem within_c (a b:ByteArray) (w:World) (ha:a.size≤1000) (hb:b.size≤1000) :
  Calls Tryz.prog 108 #[.string a,.string b] w fun e w'=>e=.returned (.bool (subB a b))∧w'=w:=by
 have HB:=hide (fun c=>fin_c c b w hb)
 clear hb
 go_enter Tryz.func108,Tryz.ntmps108
 go_wp2
 go_loopg [5] a.size (fun k iv wr=>∃ j:Nat,j≤a.size∧k=a.size-j∧iv=.int .i64 j∧((a.data.toList.take j).all (fun u=>amF u.toNat b.data.toList))=true∧wr=w)
 case atStart=>exact ⟨0,Nat.zero_le _,rfl,rfl,rfl,rfl⟩
 case round =>
  obtain ⟨j,hj,hk,rfl,ht,rfl⟩:=hrel
  have HKK:=hide hk
  have HT:=hide ht
  clear hk ht
  by_cases hlt:j<a.size
  ·have HS:=hide (sub_take a b j hlt)
   have HM:=hide (sub_mono a b (j+1))
   rw [HT.out,Bool.true_and] at HS
   rw [HS.out] at HM
   go_wp2_with fail
   refine (HB.out _).mono ?_
   rintro e w' ⟨rfl,rfl⟩
   generalize amF _ b.data.toList=q at *
   cases q
   ·go_wp2
    go_ret
    rw [HM.out trivial]
    exact ⟨rfl,rfl⟩
   ·go_wp2
    go_roundg (a.size-(j+1))
    case measure=>have:=HKK.out;omega
    case rel=>exact ⟨j+1,by omega,rfl,by go_num,HS.out,rfl⟩
  ·have HF:=hide (show subB a b=true by
    have:=HT.out
    rwa [List.take_of_length_le (by simp;omega)] at this)
   go_wp2
   go_ret
   rw [HF.out]
   exact ⟨rfl,rfl⟩
end Go.Proofs.YtellieabhaphhabGreatDoor
namespace Go.Proofs.YtellieabhaphhabGreatDoor
open Go.RowKit
theorem info_str:(Tryz.prog.info? 9).map (fun i=>(i.zero,i.size,i.bytes))=some (some (.string ⟨#[]⟩),1,16):=by kernel_rfl
abbrev SV (w:World) (v:Value) (s:St):Prop:=Row w v 9 1 s.length (sgS s)
theorem sgS_len (s:St):(sgS s).length=s.length:=by simp [sgS]
theorem SV.shape {w:World} {v:Value} {s:St} (h:SV w v s):∃ a cap,v=.slice a s.length cap:=by
 rcases h.2 with ⟨rfl,h0⟩|⟨g,cap,cur,rfl,_⟩
 ·exact ⟨none,0,by rw [h0]⟩
 ·exact ⟨_,_,rfl⟩
theorem SV.nil (w:World):SV w (.slice none 0 0) []:=⟨rfl,.inl ⟨rfl,rfl⟩⟩
theorem SV.at {w:World} {a:Option Addr} {cap n:Nat} {s:St} (h:Row w (.slice a n cap) 9 1 n (sgS s)) {k:Nat} (hk:k<n) :
  ∃ g,a=some ⟨g,0,none⟩∧g<w.heap.size∧w.cell? ⟨g,k,none⟩=some (.string (sgB (s.getD k 0))):=by
 obtain ⟨g,cap',e,_,hg⟩:=World.ownsRow.form h (by omega)
 injection e with e1 e2 e3
 subst e1
 have hk:k<s.length:=by have:=h.1;rw [sgS_len] at this;omega
 refine ⟨g,rfl,Row.lt h (b:=g) rfl,?_⟩
 rw [Row.cell h _ (by omega)]
 simp [sgS,List.getD_eq_getElem?_getD,List.getElem?_eq_getElem hk]
theorem set_take (s:St) (x m:Nat) (hx:x<s.length):(∀ j,j=x→(sgS (s.set x m)).take (j+1)=(sgS (s.set x m)).take j++[.string (sgB m)])∧(∀ j,j<s.length→j≠x→(sgS (s.set x m)).take (j+1)=(sgS (s.set x m)).take j++[.string (sgB (s.getD j 0))]):=by
 constructor
 ·rintro j rfl
  rw [List.take_succ_eq_append_getElem (by simpa [sgS] using hx)]
  simp [sgS]
 ·intro j hj hne
  rw [List.take_succ_eq_append_getElem (by simpa [sgS] using hj)]
  simp [sgS,hj,Ne.symm hne]
def New (w:World) (v:Value):Prop:=∀ b,v.ownBlock=some b→w.heap.size≤b
theorem New.none (w:World):New w (.slice none 0 0):=fun b h=>by cases h
theorem app_step {w wr w':World} {tv:Value} {o:Obj} {g:Nat} (HN:New w tv) (HK:Kp no w wr) (hgrow:(wr.alloc o).grownBy w' tv.ownBlock) (hat:tv.ownBlock=some g∨g=(wr.alloc o).heap.size) (n cap:Nat) :
  New w (.slice (some ⟨g,0,none⟩) n cap)∧Kp no w w':=by
 have hsz:=HK.size
 refine ⟨fun b hb=>?_,(HK.alloc _).grown hgrow (fun k hk e=>by have:=HN k e;omega)⟩
 have hb':g=b:=by simpa [Value.ownBlock] using hb
 subst hb'
 rcases hat with h|h
 ·exact HN _ h
 ·simp at h;omega
set_option maxRecDepth 100000 in
set_option maxHeartbeats 1600000 in
theorem with_c (v:Value) (s:St) (x m:Nat) (w:World) (h:SV w v s) (hs:SOk s) (hx:x<6) (hm:m<128) :
  Calls Tryz.prog 110 #[v,.int .i64 x,.string (sgB m)] w fun e w'=>∃ u,e=.returned u∧SV w' u (withS s x m)∧New w u∧Kp no w w':=by
 obtain ⟨i0,hi,hz0,hz1,hz2⟩:=info_parts info_str
 obtain ⟨a,cap,rfl⟩:=h.shape
 by_cases h0:s=[]
 ·subst h0
  have HE:=hide (show withS [] x m=[] from rfl)
  go_enter Tryz.func110,Tryz.ntmps110
  go_wp2
  go_ret
  exact ⟨_,rfl,by rw [HE.out];exact SV.nil _,New.none _,Kp.refl _ _⟩
 by_cases hm0:m=0
 ·subst hm0
  have HE:=hide (show withS s x 0=[] by simp [withS])
  have h6:=(hs.resolve_left h0).1
  rw [sg_zero]
  go_enter Tryz.func110,Tryz.ntmps110
  go_wp2
  go_ret
  exact ⟨_,rfl,by rw [HE.out];exact SV.nil _,New.none _,Kp.refl _ _⟩
 ·have h6:=(hs.resolve_left h0).1
  have HE:=hide (show withS s x m=s.set x m by rw [withS,if_neg (by simp [h0,hm0])])
  have hne:(sgB m).toList.isEmpty=false:=by
   have h1:sgB m≠⟨#[]⟩:=fun e=>hm0 ((sg_empty hm).1 e)
   rw [ByteArray.toList_eq]
   cases hl:(sgB m).data.toList with
   | nil=>exact absurd (ByteArray.ext (by simpa using hl)) h1
   | cons _ _=>rfl
  have HS:=hide (set_take s x m (by omega))
  have hzz:Hid (sgB m=sgB m):=rfl
  have hsz:=sg_size m
  have HX:=hide (show ∀ j,j<6→∃ l:List Value,(sgS (s.set x m)).take j=l∧l.length=j∧(j=x→(sgS (s.set x m)).take (j+1)=l++[.string (sgB m)])∧(j≠x→(sgS (s.set x m)).take (j+1)=l++[.string (sgB (s.getD j 0))]) from fun j hj=>⟨_,rfl,by simp [sgS];omega,HS.out.1 j,HS.out.2 j (by omega)⟩)
  have HXL:=hide (show (sgS (s.set x m)).take 6=sgS (s.set x m) from List.take_of_length_le (by simp [sgS];omega))
  have HL2:=hide (show (s.set x m).length=6 by simp [h6])
  rw [HE.out]
  clear HS hzz h0 hm0
  generalize sgB m=z at *
  generalize hR:sgS (s.set x m)=R at *
  have HRR:=hide hR
  clear hR
  have h':Row w (.slice a s.length cap) 9 1 s.length (sgS s):=h
  clear h
  rw [h6] at h' ⊢
  have H6:=hide h6
  clear h6
  go_enter Tryz.func110,Tryz.ntmps110
  go_wp2
  go_loopg [7,8] 6 (fun k tv iv wr=>∃ j:Nat,j≤6∧k=6-j∧iv=.int .i64 j∧Row wr tv 9 1 j (R.take j)∧New w tv∧Kp no w wr)
  case atStart=>exact ⟨0,Nat.zero_le _,rfl,rfl,⟨rfl,.inl ⟨rfl,rfl⟩⟩,New.none _,Kp.refl _ _⟩
  case round =>
   obtain ⟨j,hj,hk,rfl,hrow,hnew,kr⟩:=hrel
   have HKK:=hide hk
   have HR:=hide hrow
   have HN:=hide hnew
   have HK:=hide kr
   clear hk hrow hnew kr
   by_cases hlt:j<6
   ·obtain ⟨l,e1,e2,e3,e4⟩:=HX.out j hlt
    rw [e1] at HR
    have HE3:=hide e3
    have HE4:=hide e4
    have HE2:=hide e2
    clear e1 e2 e3 e4 HX
    by_cases hjx:j=x
    ·subst hjx
     have hone:∀ u∈[Value.string z],u.oneCell'=true:=by simp [Value.oneCell']
     go_wp2_with (at_builtin;refine wpList_append_lies _ rfl (.tmp 25) (.tmp 27) 122 rfl 0 9 i0 _ 1 16 Tryz.underlying122 hi hz0 hz1 hz2 rfl (by decide) _ j l (by simp [Act.eval];rfl) (by exact World.ownsRow.alloc HR.out _) ⟨wr.heap.size,0,none⟩ 1 1 [.string z] (by simp [Act.eval]) rfl (by exact Blk.news (Blk.new wr [.string z] _)) hone (by decide) (by unfold maxLen;omega) (by omega) (Nat.zero_le _) _ rfl ?_;intro g cap w' hown hgrow hat hlt)
     go_roundg (6-(j+1))
     case measure=>have:=HKK.out;omega
     case rel =>
      have ha:=app_step HN.out HK.out hgrow hat (j+1) cap
      exact ⟨j+1,by omega,rfl,by go_num,by rw [HE3.out trivial];exact hown,ha.1,ha.2⟩
    ·obtain ⟨g0,rfl,hg0,hc0⟩:=SV.at (HK.out.row h' (fun _ _=>no_elim)) (k:=j) (by omega)
     have HE5:=hide (HE4.out hjx)
     have hsz:=sg_size (s.getD j 0)
     have hjx':((j:Int) == x)=false:=by simp;omega
     clear HE3 HE4 h'
     generalize sgB (s.getD j 0)=zj at *
     have hone:∀ u∈[Value.string zj],u.oneCell'=true:=by simp [Value.oneCell']
     go_wp2_with (at_builtin;refine wpList_append_lies _ rfl (.tmp 29) (.tmp 34) 122 rfl 0 9 i0 _ 1 16 Tryz.underlying122 hi hz0 hz1 hz2 rfl (by decide) _ j l (by simp [Act.eval];rfl) (by exact World.ownsRow.alloc HR.out _) ⟨wr.heap.size,0,none⟩ 1 1 [.string zj] (by simp [Act.eval]) rfl (by exact Blk.news (Blk.new wr [.string zj] _)) hone (by decide) (by unfold maxLen;omega) (by omega) (Nat.zero_le _) _ rfl ?_;intro g cap w' hown hgrow hat hlt)
     go_roundg (6-(j+1))
     case measure=>have:=HKK.out;omega
     case rel =>
      have ha:=app_step HN.out HK.out hgrow hat (j+1) cap
      exact ⟨j+1,by omega,rfl,by go_num,by rw [HE5.out];exact hown,ha.1,ha.2⟩
   ·obtain rfl:j=6:=by omega
    go_wp2
    go_ret
    refine ⟨_,rfl,?_,HN.out,HK.out⟩
    have:=HR.out
    rw [HXL.out] at this
    show Row _ _ _ _ (s.set x m).length (sgS (s.set x m))
    rw [HL2.out,HRR.out]
    exact this
end Go.Proofs.YtellieabhaphhabGreatDoor
namespace Go.Proofs.YtellieabhaphhabGreatDoor
open Go.RowKit
structure KN (w0 w:World) (v:Value) (l:List NN):Prop where
 r:NRow w v l
 o:New w0 v
theorem KN.kp {w0 w w':World} {v:Value} {l:List NN} (h:KN w0 w v l) (k:Kp no w w'):KN w0 w' v l:=⟨k.row h.r (fun _ _=>no_elim),h.o⟩
theorem KN.set {w0 w:World} {v:Value} {l:List NN} (h:KN w0 w v l) {b o:Nat} (u:Value) (hb:v.ownBlock≠some b):KN w0 (w.setCell ⟨b,o,none⟩ u) v l:=⟨Row.set h.r _ hb,h.o⟩
theorem nncells_snoc {l:List NN} {n:NN}:nnCells (l++[n])=nnCells l++n.cells:=by
 rw [nnCells,List.flatMap_append,← nnCells,List.flatMap_cons,List.flatMap_nil,List.append_nil]
theorem nrow_snoc {W':World} {l:List NN} {n:NN} {g cap:Nat}
  (hown:W'.ownsRow 0 68 11 (.slice (some ⟨g,0,none⟩) (l.length+1) cap) (l.length+1) (nnCells l++n.cells)):NRow W' (.slice (some ⟨g,0,none⟩) (l.length+1) cap) (l++[n]):=by
 have e4:(l++[n]).length=l.length+1:=List.length_append
 show World.ownsRow W' 0 68 11 _ (l++[n]).length (nnCells (l++[n]))
 rw [nncells_snoc,e4]
 exact hown
theorem KN.app {w0 W W':World} {v:Value} {l:List NN} {o:Obj} {g cap:Nat} (n:NN) (h:KN w0 W v l) (hk:Kp no w0 W)
  (hown:W'.ownsRow 0 68 11 (.slice (some ⟨g,0,none⟩) (l.length+1) cap) (l.length+1) (nnCells l++n.cells)) (hgrow:(W.alloc o).grownBy W' v.ownBlock) (hat:v.ownBlock=some g∨g=(W.alloc o).heap.size) :
  KN w0 W' (.slice (some ⟨g,0,none⟩) (l.length+1) cap) (l++[n])∧Kp no w0 W' :=
 ⟨⟨nrow_snoc hown,(app_step h.o hk hgrow hat (l.length+1) cap).1⟩,(app_step h.o hk hgrow hat (l.length+1) cap).2⟩
end Go.Proofs.YtellieabhaphhabGreatDoor
