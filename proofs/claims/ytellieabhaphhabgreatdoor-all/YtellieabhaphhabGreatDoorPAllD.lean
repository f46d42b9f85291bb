import Derived.Test.YtellieabhaphhabGreatDoorPAllC
namespace Go.Proofs.YtellieabhaphhabGreatDoor
open Go.RowKit
theorem way_w {w:World} {r:Nat} {s:ByteArray} {st:RS} {O:Nat→Prop} (h:Rp w r s st O) (hs:s.size≤1000) (hi:st.i≤s.size) :
  Calls Tryz.prog 141 #[.pointer (some ⟨r,0,none⟩)] w fun e w'=>e=.returned (.int .i64 (wayF s (st.i,st.bad)).1)∧Went w O r s { st with i:=(wayF s (st.i,st.bad)).2.1,bad:=(wayF s (st.i,st.bad)).2.2 } w':=by
 obtain ⟨nv,iv,hB,hN,hI,d1,d2,d3,rfl⟩:=h
 exact (way_c r st.i s st.bad nv iv st.loops w hs hi hB).mono fun e w' ⟨h1,h2,h3⟩=>⟨h1,went_rb hN hI d1 d2 d3 h2 h3⟩
theorem then_gen {K:Act→World→Prop} {Q:Exit→Act→World→Prop} {e:Exit} {a:Act} {W:World} (G:World→Prop) (hG:G W) (h:∀ W',G W'→Exit.then K Q e a W'):Exit.then K Q e a W:=h W hG
theorem Th.blk {O O':Nat→Prop} {w w':World} (h:Th O w O' w') {b:Nat} {cs:List Value} {T:TypeId} (k:Blk w b cs T) (hb:¬ O b):Blk w' b cs T∧¬ O' b :=
 ⟨h.1.blk k hb,fun e=>hb (h.2 b e k.lt)⟩
set_option maxHeartbeats 6400000 in
theorem line_star {w:World} {r:Nat} {s:ByteArray} {st:RS} {O:Nat→Prop} (hs:s.size≤900) (h:Rp w r s st O) (hb:st.bad=false) (hi:st.i<s.size) (hn:st.nodes.length≤950) (h1:pk s st.i=42) :
  Calls Tryz.prog 100 #[.pointer (some ⟨r,0,none⟩)] w fun e w'=>e=.returned (.tuple #[])∧Went w O r s (lineF s st) w':=by
 have HP:=hide (peek_w h)
 have hO:=h.lt
 have hrl:=h.lt r h.own
 have HV:=hide (show lineF s st={ st with i:=(eatF s (wayF s (st.i+1,false)).2 59).1,bad:=(eatF s (wayF s (st.i+1,false)).2 59).2,nodes:=st.nodes++[{ op:=42,x:=0,y:=0,v:=0,k:=0,t:=((wayF s (st.i+1,false)).1:Nat),f:=-1,a:=st.i,l:=1 }] } by simp [lineF,lineN,lineT,lineG,h1])
 have hw1:=wayF_le s (st.i+1,false) hi
 have HD:=hide (show ∀ hq:st.i+1<s.size,pk s (st.i+1)=(s[st.i+1]'hq).toNat from fun hq=>by simp [pk,hq])
 have HD0:=hide (show ¬ st.i+1<s.size→pk s (st.i+1)=0 from fun hq=>by simp [pk,hq])
 generalize hd1:pk s st.i=c at *
 generalize hd2:pk s (st.i+1)=d at *
 clear hd1 hd2
 obtain ⟨c0,c1,c2,c5,cf⟩:=h.c
 rw [hb] at c2
 go_enter Tryz.func100,Tryz.ntmps100
 go_wp2_with fail
 refine HP.out.mono ?_
 rintro e w1 ⟨rfl,nq,rfl⟩
 go_wp2
 refine wp_gen (fun W=>Rp W r s st O∧Th O w O W) ⟨h.n _,(Th.refl _ _).n _⟩ ?_
 clear c0 c1 c2 c5 cf
 rintro W ⟨hW,tW⟩
 obtain ⟨c0,c1,c2,c5,cf⟩:=hW.c
 rw [hb] at c2
 have hz4:IntKind.i64.wrap ((st.i:Int)+1)=(st.i:Int)+1:=by rw [IntKind.wrap_i64];omega
 by_cases hq:st.i+1<s.size
 ·rw [HD.out hq] at *
  clear HD HD0
  go_quiet (fail)
  go_wp2
  refine wp_gen (fun W'=>Rp W' r s st O∧Th O w O W') ⟨hW.n _,tW.n _⟩ ?_
  clear c0 c1 c2 c5 cf
  rintro W2 ⟨hW2,tW2⟩
  obtain ⟨c0,c1,c2,c5,cf⟩:=hW2.c
  rw [hb] at c2
  have hz1:(st.i:Int)+1<(s.size:Int):=by omega
  have hz2:0≤(st.i:Int)+1:=by omega
  have hz6:((st.i:Int)+1).toNat=st.i+1:=by omega
  go_quiet (fail)
  refine then_gen (fun W'=>Rp W' r s st O∧Th O w O W') ⟨hW2.n _,tW2.n _⟩ ?_
  clear c0 c1 c2 c5 cf
  rintro W3 ⟨hW3,tW3⟩
  obtain ⟨c0,c1,c2,c5,cf⟩:=hW3.c
  rw [hb] at c2
  have hrW:=hW3.lt r hW3.own
  have hOW:=hW3.lt
  generalize (s[st.i+1]'hq).toNat=d at *
  subst h1
  go_wp2_with fail
  refine (way_w (st:=nextI st) (hW3.next.alloc _) (by omega) hi).mono ?_
  rintro e v1 ⟨rfl,O1,h1,t1⟩
  have T1:=hide (((tW3.set _ (.inl hW3.own)).alloc _).trans t1)
  obtain ⟨L1,n1⟩:=Th.blk t1 (b:=W3.heap.size) (cs:=[.int .u8 42,.int .i64 0,.int .i64 0,.int .i64 0,.int .u8 0,.int .i64 (-1),.int .i64 (-1),.int .i64 st.i,.int .i64 1]) (T:=111) (by (exact blA)) (fun e=>by have:=hOW _ e;omega)
  obtain ⟨x10,x11,x12,x13,x14,x15,x16,x17,x18,x1f⟩:=L1.c9
  rw [show (nextI st).bad=false from hb,show (nextI st).i=st.i+1 from rfl] at *
  generalize wayF s (st.i+1,false)=q at *
  obtain ⟨t1,i1,b1⟩:=q
  dsimp only at hw1
  go_wp2_with fail
  refine (eat_w (h1.other _ n1) 59 (by omega) hw1).mono ?_
  rintro e v2 ⟨rfl,O2,h2,t2⟩
  have T2:=hide ((T1.out.set _ (.inr (by have:=tW3.1.size;omega))).trans t2)
  obtain ⟨L2,n2⟩:=Th.blk t2 (b:=W3.heap.size) (cs:=[.int .u8 42,.int .i64 0,.int .i64 0,.int .i64 0,.int .u8 0,.int .i64 t1,.int .i64 (-1),.int .i64 st.i,.int .i64 1]) (T:=111) (by (exact blA)) n1
  obtain ⟨y0,y1,y2,y3,y4,y5,y6,y7,y8,yf⟩:=L2.c9
  go_wp2_with fail
  refine (add_c r s _ O2 ⟨42,0,0,0,0,t1,(-1),st.i,1⟩ _ (by show st.nodes.length≤1000;omega) h2).mono ?_
  rintro e v3 ⟨rfl,O3,h3,t3⟩
  go_wp2
  go_end0
  refine ⟨rfl,went_th (O':=O3) ?_ (T2.out.trans t3)⟩
  rw [HV.out]
  exact h3
 ·have hd0:=HD0.out hq
  subst hd0
  clear HD HD0
  go_quiet (fail)
  refine then_gen (fun W'=>Rp W' r s st O∧Th O w O W') ⟨hW.n _,tW.n _⟩ ?_
  clear c0 c1 c2 c5 cf
  rintro W3 ⟨hW3,tW3⟩
  obtain ⟨c0,c1,c2,c5,cf⟩:=hW3.c
  rw [hb] at c2
  have hrW:=hW3.lt r hW3.own
  have hOW:=hW3.lt
  subst h1
  go_wp2_with fail
  refine (way_w (st:=nextI st) (hW3.next.alloc _) (by omega) hi).mono ?_
  rintro e v1 ⟨rfl,O1,h1,t1⟩
  have T1:=hide (((tW3.set _ (.inl hW3.own)).alloc _).trans t1)
  obtain ⟨L1,n1⟩:=Th.blk t1 (b:=W3.heap.size) (cs:=[.int .u8 42,.int .i64 0,.int .i64 0,.int .i64 0,.int .u8 0,.int .i64 (-1),.int .i64 (-1),.int .i64 st.i,.int .i64 1]) (T:=111) (by (exact blA)) (fun e=>by have:=hOW _ e;omega)
  obtain ⟨x10,x11,x12,x13,x14,x15,x16,x17,x18,x1f⟩:=L1.c9
  rw [show (nextI st).bad=false from hb,show (nextI st).i=st.i+1 from rfl] at *
  generalize wayF s (st.i+1,false)=q at *
  obtain ⟨t1,i1,b1⟩:=q
  dsimp only at hw1
  go_wp2_with fail
  refine (eat_w (h1.other _ n1) 59 (by omega) hw1).mono ?_
  rintro e v2 ⟨rfl,O2,h2,t2⟩
  have T2:=hide ((T1.out.set _ (.inr (by have:=tW3.1.size;omega))).trans t2)
  obtain ⟨L2,n2⟩:=Th.blk t2 (b:=W3.heap.size) (cs:=[.int .u8 42,.int .i64 0,.int .i64 0,.int .i64 0,.int .u8 0,.int .i64 t1,.int .i64 (-1),.int .i64 st.i,.int .i64 1]) (T:=111) (by (exact blA)) n1
  obtain ⟨y0,y1,y2,y3,y4,y5,y6,y7,y8,yf⟩:=L2.c9
  go_wp2_with fail
  refine (add_c r s _ O2 ⟨42,0,0,0,0,t1,(-1),st.i,1⟩ _ (by show st.nodes.length≤1000;omega) h2).mono ?_
  rintro e v3 ⟨rfl,O3,h3,t3⟩
  go_wp2
  go_end0
  refine ⟨rfl,went_th (O':=O3) ?_ (T2.out.trans t3)⟩
  rw [HV.out]
  exact h3
def lineR (s:ByteArray) (st:RS) (z:Nd × (Nat × Bool)):RS :=
 if z.2.2=true then { st with i:=z.2.1,bad:=true }
 else { st with i:=(eatF s (lineG s z.1 (lineT s z.1 z.2).2).2 59).1,bad:=(eatF s (lineG s z.1 (lineT s z.1 z.2).2).2 59).2,nodes:=st.nodes++[{ z.1 with t:=(lineT s z.1 z.2).1,f:=(lineG s z.1 (lineT s z.1 z.2).2).1 }] }
theorem lineF_eq (s:ByteArray) (st:RS):lineF s st=lineR s st (lineN s st.i):=rfl
set_option maxHeartbeats 6400000 in
theorem line_test {w:World} {r:Nat} {s:ByteArray} {st:RS} {O:Nat→Prop} (hs:s.size≤900) (h:Rp w r s st O) (hb:st.bad=false) (hi:st.i<s.size) (hn:st.nodes.length≤950) (h1:pk s st.i≠42) (h2:97≤pk s st.i∧pk s st.i≤102∧pk s (st.i+1)≠61∧pk s (st.i+1)≠126) :
  Calls Tryz.prog 100 #[.pointer (some ⟨r,0,none⟩)] w fun e w'=>e=.returned (.tuple #[])∧Went w O r s (lineF s st) w':=by
 have HP:=hide (peek_w h)
 have hO:=h.lt
 have hrl:=h.lt r h.own
 have HV:=hide (show lineF s st=lineR s st (testF s st.i) by rw [lineF_eq,lineN,if_neg h1,if_pos h2])
 have HD:=hide (show ∀ hq:st.i+1<s.size,pk s (st.i+1)=(s[st.i+1]'hq).toNat from fun hq=>by simp [pk,hq])
 have HD0:=hide (show ¬ st.i+1<s.size→pk s (st.i+1)=0 from fun hq=>by simp [pk,hq])
 generalize hd1:pk s st.i=c at *
 generalize hd2:pk s (st.i+1)=d at *
 clear hd1 hd2
 obtain ⟨c0,c1,c2,c5,cf⟩:=h.c
 rw [hb] at c2
 go_enter Tryz.func100,Tryz.ntmps100
 go_wp2_with fail
 refine HP.out.mono ?_
 rintro e w1 ⟨rfl,nq,rfl⟩
 go_wp2
 refine wp_gen (fun W=>Rp W r s st O∧Th O w O W) ⟨h.n _,(Th.refl _ _).n _⟩ ?_
 clear c0 c1 c2 c5 cf
 rintro W ⟨hW,tW⟩
 obtain ⟨c0,c1,c2,c5,cf⟩:=hW.c
 rw [hb] at c2
 have hz4:IntKind.i64.wrap ((st.i:Int)+1)=(st.i:Int)+1:=by rw [IntKind.wrap_i64];omega
 by_cases hq:st.i+1<s.size
 ·rw [HD.out hq] at *
  clear HD HD0
  go_quiet (fail)
  go_wp2
  refine wp_gen (fun W'=>Rp W' r s st O∧Th O w O W') ⟨hW.n _,tW.n _⟩ ?_
  clear c0 c1 c2 c5 cf
  rintro W2 ⟨hW2,tW2⟩
  obtain ⟨c0,c1,c2,c5,cf⟩:=hW2.c
  rw [hb] at c2
  have hz1:(st.i:Int)+1<(s.size:Int):=by omega
  have hz2:0≤(st.i:Int)+1:=by omega
  have hz6:((st.i:Int)+1).toNat=st.i+1:=by omega
  go_quiet (fail)
  refine then_gen (fun W'=>Rp W' r s st O∧Th O w O W') ⟨hW2.n _,tW2.n _⟩ ?_
  clear c0 c1 c2 c5 cf
  rintro W3 ⟨hW3,tW3⟩
  obtain ⟨c0,c1,c2,c5,cf⟩:=hW3.c
  rw [hb] at c2
  have hrW:=hW3.lt r hW3.own
  have hOW:=hW3.lt
  generalize (s[st.i+1]'hq).toNat=d at *
  have f42:((c:Int) == 42)=false:=by simp;omega
  obtain ⟨g1,g2,g3,g4⟩:=h2
  have f61:((d:Int) == 61)=false:=by first|(simp;done)|(simp;omega)
  have f126:((d:Int) == 126)=false:=by first|(simp;done)|(simp;omega)
  have f61':((d:Int) != 61)=true:=by first|(simp;done)|(simp;omega)
  have f126':((d:Int) != 126)=true:=by first|(simp;done)|(simp;omega)
  clear h1 g3 g4
  go_wp2_with fail
  refine (test_w (hW3.alloc _) hb (by omega) (by omega)).mono ?_
  rintro e v0 ⟨rfl,O0,h0,t0⟩
  have T0:=hide ((tW3.alloc _).trans t0)
  have hsz:=tW3.1.size
  obtain ⟨L0,n0⟩:=Th.blk t0 (b:=W3.heap.size) (cs:=[.int .u8 0,.int .i64 0,.int .i64 0,.int .i64 0,.int .u8 0,.int .i64 0,.int .i64 (-1),.int .i64 0,.int .i64 0]) (T:=111) (by (exact blA)) (fun e=>by have:=hOW _ e;omega)
  obtain ⟨z0,z1,z2,z3,z4,z5,z6,z7,z8,zf⟩:=L0.c9
  obtain ⟨p0,p1,p2,p5,pf⟩:=h0.c
  dsimp only at p1 p2
  have hq1:=testF_le s st.i (by omega)
  have hop:=testF_op s st.i
  generalize testF s st.i=q at *
  obtain ⟨⟨uo,ux,uy,uv,uk,ut,uf,ua,ul⟩,qi,qb⟩:=q
  dsimp only at *
  simp only [Nd.cells]
  have hb0:∀ (W':World),Rp W' r s { st with i:=qi,bad:=qb } O0→∀ o v,Rp (W'.setCell ⟨W3.heap.size,o,none⟩ v) r s { st with i:=qi,bad:=qb } O0:=fun W' hW' o v=>hW'.other v n0
  have HB0:=hide hb0
  clear hb0
  cases qb
  case true =>
   go_wp2
   refine bodyPost_ret (results_none rfl _ _ _) rfl ?_
   rw [HV.out,show lineR s st (⟨uo,ux,uy,uv,uk,ut,uf,ua,ul⟩,qi,true)={ st with i:=qi,bad:=true } by simp [lineR]]
   exact ⟨rfl,went_th (O':=O0) (by repeat' (first|with_reducible exact h0|with_reducible refine HB0.out _ ?_ _ _)) (by repeat' (first|with_reducible exact T0.out|((with_reducible refine Th.set ?_ _ ?_);rotate_left;(exact .inr (by (try dsimp only);omega)))))⟩
  case false =>
   rcases hop with rfl|rfl
   ·skip
    go_wp2_with fail
    refine (way_w (st:={ st with i:=qi,bad:=false }) (by repeat' (first|with_reducible exact h0|with_reducible refine HB0.out _ ?_ _ _)) (by omega) hq1).mono ?_
    rintro e v1 ⟨rfl,O1,h1,t1⟩
    have T1:=hide (p:=Th O w O1 v1) (Th.trans (by repeat' (first|with_reducible exact T0.out|((with_reducible refine Th.set ?_ _ ?_);rotate_left;(exact .inr (by (try dsimp only);omega))))) t1)
    obtain ⟨L1,n1⟩:=Th.blk t1 (b:=W3.heap.size) (cs:=[.int .u8 121,.int .i64 ux,.int .i64 uy,.int .i64 uv,.int .u8 uk,.int .i64 (-1),.int .i64 uf,.int .i64 ua,.int .i64 ul]) (T:=111) (by (exact blA)) n0
    obtain ⟨x10,x11,x12,x13,x14,x15,x16,x17,x18,x1f⟩:=L1.c9
    have hw1:=wayF_le s (qi,false) hq1
    have HW1:Hid (wayF s (qi,false)=wayF s (qi,false)):=rfl
    generalize hg1:wayF s (qi,false)=g1 at *
    have HG1:=hide hg1
    clear hg1 HW1
    obtain ⟨t1,i1,b1⟩:=g1
    dsimp only at hw1
    go_wp2_with fail
    refine (way_w (st:={ st with i:=i1,bad:=b1 }) (h1.other _ n1) (by omega) hw1).mono ?_
    rintro e v2 ⟨rfl,O2,h2,t2⟩
    have T2:=hide (p:=Th O w O2 v2) (Th.trans (T1.out.set _ (.inr (by (try dsimp only);omega))) t2)
    obtain ⟨L2,n2⟩:=Th.blk t2 (b:=W3.heap.size) (cs:=[.int .u8 121,.int .i64 ux,.int .i64 uy,.int .i64 uv,.int .u8 uk,.int .i64 t1,.int .i64 uf,.int .i64 ua,.int .i64 ul]) (T:=111) (by (exact blA)) n1
    obtain ⟨x20,x21,x22,x23,x24,x25,x26,x27,x28,x2f⟩:=L2.c9
    have hw2:=wayF_le s (i1,b1) hw1
    generalize hg2:wayF s (i1,b1)=g2 at *
    have HG2:=hide hg2
    clear hg2
    obtain ⟨t2',i2,b2⟩:=g2
    dsimp only at hw2
    go_wp2_with fail
    refine (eat_w (h2.other _ n2) 59 (by omega) hw2).mono ?_
    rintro e v8 ⟨rfl,O8,h8,t8⟩
    have T8:=hide (p:=Th O w O8 v8) (Th.trans (T2.out.set _ (.inr (by (try dsimp only);omega))) t8)
    obtain ⟨L8,n8⟩:=Th.blk t8 (b:=W3.heap.size) (cs:=[.int .u8 121,.int .i64 ux,.int .i64 uy,.int .i64 uv,.int .u8 uk,.int .i64 t1,.int .i64 t2',.int .i64 ua,.int .i64 ul]) (T:=111) (by (exact blA)) n2
    obtain ⟨y0,y1,y2,y3,y4,y5,y6,y7,y8,yf⟩:=L8.c9
    go_wp2_with fail
    refine (add_c r s _ O8 ⟨121,ux,uy,uv,uk,t1,t2',ua,ul⟩ _ (by show st.nodes.length≤1000;omega) h8).mono ?_
    rintro e v9 ⟨rfl,O9,h9,t9⟩
    go_wp2
    go_end0
    refine ⟨rfl,went_th (O':=O9) ?_ (T8.out.trans t9)⟩
    rw [HV.out,show lineR s st (⟨121,ux,uy,uv,uk,ut,uf,ua,ul⟩,qi,false)={ st with i:=(eatF s (i2,b2) 59).1,bad:=(eatF s (i2,b2) 59).2,nodes:=st.nodes++[⟨121,ux,uy,uv,uk,t1,t2',ua,ul⟩] } by simp [lineR,lineT,lineG,HG1.out,HG2.out]]
    exact h9
   ·skip
    go_wp2_with fail
    refine (way_w (st:={ st with i:=qi,bad:=false }) (by repeat' (first|with_reducible exact h0|with_reducible refine HB0.out _ ?_ _ _)) (by omega) hq1).mono ?_
    rintro e v1 ⟨rfl,O1,h1,t1⟩
    have T1:=hide (p:=Th O w O1 v1) (Th.trans (by repeat' (first|with_reducible exact T0.out|((with_reducible refine Th.set ?_ _ ?_);rotate_left;(exact .inr (by (try dsimp only);omega))))) t1)
    obtain ⟨L1,n1⟩:=Th.blk t1 (b:=W3.heap.size) (cs:=[.int .u8 58,.int .i64 ux,.int .i64 uy,.int .i64 uv,.int .u8 uk,.int .i64 (-1),.int .i64 uf,.int .i64 ua,.int .i64 ul]) (T:=111) (by (exact blA)) n0
    obtain ⟨x10,x11,x12,x13,x14,x15,x16,x17,x18,x1f⟩:=L1.c9
    have hw1:=wayF_le s (qi,false) hq1
    have HW1:Hid (wayF s (qi,false)=wayF s (qi,false)):=rfl
    generalize hg1:wayF s (qi,false)=g1 at *
    have HG1:=hide hg1
    clear hg1 HW1
    obtain ⟨t1,i1,b1⟩:=g1
    dsimp only at hw1
    go_wp2_with fail
    refine (way_w (st:={ st with i:=i1,bad:=b1 }) (h1.other _ n1) (by omega) hw1).mono ?_
    rintro e v2 ⟨rfl,O2,h2,t2⟩
    have T2:=hide (p:=Th O w O2 v2) (Th.trans (T1.out.set _ (.inr (by (try dsimp only);omega))) t2)
    obtain ⟨L2,n2⟩:=Th.blk t2 (b:=W3.heap.size) (cs:=[.int .u8 58,.int .i64 ux,.int .i64 uy,.int .i64 uv,.int .u8 uk,.int .i64 t1,.int .i64 uf,.int .i64 ua,.int .i64 ul]) (T:=111) (by (exact blA)) n1
    obtain ⟨x20,x21,x22,x23,x24,x25,x26,x27,x28,x2f⟩:=L2.c9
    have hw2:=wayF_le s (i1,b1) hw1
    generalize hg2:wayF s (i1,b1)=g2 at *
    have HG2:=hide hg2
    clear hg2
    obtain ⟨t2',i2,b2⟩:=g2
    dsimp only at hw2
    go_wp2_with fail
    refine (eat_w (h2.other _ n2) 59 (by omega) hw2).mono ?_
    rintro e v8 ⟨rfl,O8,h8,t8⟩
    have T8:=hide (p:=Th O w O8 v8) (Th.trans (T2.out.set _ (.inr (by (try dsimp only);omega))) t8)
    obtain ⟨L8,n8⟩:=Th.blk t8 (b:=W3.heap.size) (cs:=[.int .u8 58,.int .i64 ux,.int .i64 uy,.int .i64 uv,.int .u8 uk,.int .i64 t1,.int .i64 t2',.int .i64 ua,.int .i64 ul]) (T:=111) (by (exact blA)) n2
    obtain ⟨y0,y1,y2,y3,y4,y5,y6,y7,y8,yf⟩:=L8.c9
    go_wp2_with fail
    refine (add_c r s _ O8 ⟨58,ux,uy,uv,uk,t1,t2',ua,ul⟩ _ (by show st.nodes.length≤1000;omega) h8).mono ?_
    rintro e v9 ⟨rfl,O9,h9,t9⟩
    go_wp2
    go_end0
    refine ⟨rfl,went_th (O':=O9) ?_ (T8.out.trans t9)⟩
    rw [HV.out,show lineR s st (⟨58,ux,uy,uv,uk,ut,uf,ua,ul⟩,qi,false)={ st with i:=(eatF s (i2,b2) 59).1,bad:=(eatF s (i2,b2) 59).2,nodes:=st.nodes++[⟨58,ux,uy,uv,uk,t1,t2',ua,ul⟩] } by simp [lineR,lineT,lineG,HG1.out,HG2.out]]
    exact h9
 ·have hd0:=HD0.out hq
  subst hd0
  clear HD HD0
  go_quiet (fail)
  refine then_gen (fun W'=>Rp W' r s st O∧Th O w O W') ⟨hW.n _,tW.n _⟩ ?_
  clear c0 c1 c2 c5 cf
  rintro W3 ⟨hW3,tW3⟩
  obtain ⟨c0,c1,c2,c5,cf⟩:=hW3.c
  rw [hb] at c2
  have hrW:=hW3.lt r hW3.own
  have hOW:=hW3.lt
  have f42:((c:Int) == 42)=false:=by simp;omega
  obtain ⟨g1,g2,g3,g4⟩:=h2
  have f61:((0:Int) == 61)=false:=by first|(simp;done)|(simp;omega)
  have f126:((0:Int) == 126)=false:=by first|(simp;done)|(simp;omega)
  have f61':((0:Int) != 61)=true:=by first|(simp;done)|(simp;omega)
  have f126':((0:Int) != 126)=true:=by first|(simp;done)|(simp;omega)
  clear h1 g3 g4
  go_wp2_with fail
  refine (test_w (hW3.alloc _) hb (by omega) (by omega)).mono ?_
  rintro e v0 ⟨rfl,O0,h0,t0⟩
  have T0:=hide ((tW3.alloc _).trans t0)
  have hsz:=tW3.1.size
  obtain ⟨L0,n0⟩:=Th.blk t0 (b:=W3.heap.size) (cs:=[.int .u8 0,.int .i64 0,.int .i64 0,.int .i64 0,.int .u8 0,.int .i64 0,.int .i64 (-1),.int .i64 0,.int .i64 0]) (T:=111) (by (exact blA)) (fun e=>by have:=hOW _ e;omega)
  obtain ⟨z0,z1,z2,z3,z4,z5,z6,z7,z8,zf⟩:=L0.c9
  obtain ⟨p0,p1,p2,p5,pf⟩:=h0.c
  dsimp only at p1 p2
  have hq1:=testF_le s st.i (by omega)
  have hop:=testF_op s st.i
  generalize testF s st.i=q at *
  obtain ⟨⟨uo,ux,uy,uv,uk,ut,uf,ua,ul⟩,qi,qb⟩:=q
  dsimp only at *
  simp only [Nd.cells]
  have hb0:∀ (W':World),Rp W' r s { st with i:=qi,bad:=qb } O0→∀ o v,Rp (W'.setCell ⟨W3.heap.size,o,none⟩ v) r s { st with i:=qi,bad:=qb } O0:=fun W' hW' o v=>hW'.other v n0
  have HB0:=hide hb0
  clear hb0
  cases qb
  case true =>
   go_wp2
   refine bodyPost_ret (results_none rfl _ _ _) rfl ?_
   rw [HV.out,show lineR s st (⟨uo,ux,uy,uv,uk,ut,uf,ua,ul⟩,qi,true)={ st with i:=qi,bad:=true } by simp [lineR]]
   exact ⟨rfl,went_th (O':=O0) (by repeat' (first|with_reducible exact h0|with_reducible refine HB0.out _ ?_ _ _)) (by repeat' (first|with_reducible exact T0.out|((with_reducible refine Th.set ?_ _ ?_);rotate_left;(exact .inr (by (try dsimp only);omega)))))⟩
  case false =>
   rcases hop with rfl|rfl
   ·skip
    go_wp2_with fail
    refine (way_w (st:={ st with i:=qi,bad:=false }) (by repeat' (first|with_reducible exact h0|with_reducible refine HB0.out _ ?_ _ _)) (by omega) hq1).mono ?_
    rintro e v1 ⟨rfl,O1,h1,t1⟩
    have T1:=hide (p:=Th O w O1 v1) (Th.trans (by repeat' (first|with_reducible exact T0.out|((with_reducible refine Th.set ?_ _ ?_);rotate_left;(exact .inr (by (try dsimp only);omega))))) t1)
    obtain ⟨L1,n1⟩:=Th.blk t1 (b:=W3.heap.size) (cs:=[.int .u8 121,.int .i64 ux,.int .i64 uy,.int .i64 uv,.int .u8 uk,.int .i64 (-1),.int .i64 uf,.int .i64 ua,.int .i64 ul]) (T:=111) (by (exact blA)) n0
    obtain ⟨x10,x11,x12,x13,x14,x15,x16,x17,x18,x1f⟩:=L1.c9
    have hw1:=wayF_le s (qi,false) hq1
    have HW1:Hid (wayF s (qi,false)=wayF s (qi,false)):=rfl
    generalize hg1:wayF s (qi,false)=g1 at *
    have HG1:=hide hg1
    clear hg1 HW1
    obtain ⟨t1,i1,b1⟩:=g1
    dsimp only at hw1
    go_wp2_with fail
    refine (way_w (st:={ st with i:=i1,bad:=b1 }) (h1.other _ n1) (by omega) hw1).mono ?_
    rintro e v2 ⟨rfl,O2,h2,t2⟩
    have T2:=hide (p:=Th O w O2 v2) (Th.trans (T1.out.set _ (.inr (by (try dsimp only);omega))) t2)
    obtain ⟨L2,n2⟩:=Th.blk t2 (b:=W3.heap.size) (cs:=[.int .u8 121,.int .i64 ux,.int .i64 uy,.int .i64 uv,.int .u8 uk,.int .i64 t1,.int .i64 uf,.int .i64 ua,.int .i64 ul]) (T:=111) (by (exact blA)) n1
    obtain ⟨x20,x21,x22,x23,x24,x25,x26,x27,x28,x2f⟩:=L2.c9
    have hw2:=wayF_le s (i1,b1) hw1
    generalize hg2:wayF s (i1,b1)=g2 at *
    have HG2:=hide hg2
    clear hg2
    obtain ⟨t2',i2,b2⟩:=g2
    dsimp only at hw2
    go_wp2_with fail
    refine (eat_w (h2.other _ n2) 59 (by omega) hw2).mono ?_
    rintro e v8 ⟨rfl,O8,h8,t8⟩
    have T8:=hide (p:=Th O w O8 v8) (Th.trans (T2.out.set _ (.inr (by (try dsimp only);omega))) t8)
    obtain ⟨L8,n8⟩:=Th.blk t8 (b:=W3.heap.size) (cs:=[.int .u8 121,.int .i64 ux,.int .i64 uy,.int .i64 uv,.int .u8 uk,.int .i64 t1,.int .i64 t2',.int .i64 ua,.int .i64 ul]) (T:=111) (by (exact blA)) n2
    obtain ⟨y0,y1,y2,y3,y4,y5,y6,y7,y8,yf⟩:=L8.c9
    go_wp2_with fail
    refine (add_c r s _ O8 ⟨121,ux,uy,uv,uk,t1,t2',ua,ul⟩ _ (by show st.nodes.length≤1000;omega) h8).mono ?_
    rintro e v9 ⟨rfl,O9,h9,t9⟩
    go_wp2
    go_end0
    refine ⟨rfl,went_th (O':=O9) ?_ (T8.out.trans t9)⟩
    rw [HV.out,show lineR s st (⟨121,ux,uy,uv,uk,ut,uf,ua,ul⟩,qi,false)={ st with i:=(eatF s (i2,b2) 59).1,bad:=(eatF s (i2,b2) 59).2,nodes:=st.nodes++[⟨121,ux,uy,uv,uk,t1,t2',ua,ul⟩] } by simp [lineR,lineT,lineG,HG1.out,HG2.out]]
    exact h9
   ·skip
    go_wp2_with fail
    refine (way_w (st:={ st with i:=qi,bad:=false }) (by repeat' (first|with_reducible exact h0|with_reducible refine HB0.out _ ?_ _ _)) (by omega) hq1).mono ?_
    rintro e v1 ⟨rfl,O1,h1,t1⟩
    have T1:=hide (p:=Th O w O1 v1) (Th.trans (by repeat' (first|with_reducible exact T0.out|((with_reducible refine Th.set ?_ _ ?_);rotate_left;(exact .inr (by (try dsimp only);omega))))) t1)
    obtain ⟨L1,n1⟩:=Th.blk t1 (b:=W3.heap.size) (cs:=[.int .u8 58,.int .i64 ux,.int .i64 uy,.int .i64 uv,.int .u8 uk,.int .i64 (-1),.int .i64 uf,.int .i64 ua,.int .i64 ul]) (T:=111) (by (exact blA)) n0
    obtain ⟨x10,x11,x12,x13,x14,x15,x16,x17,x18,x1f⟩:=L1.c9
    have hw1:=wayF_le s (qi,false) hq1
    have HW1:Hid (wayF s (qi,false)=wayF s (qi,false)):=rfl
    generalize hg1:wayF s (qi,false)=g1 at *
    have HG1:=hide hg1
    clear hg1 HW1
    obtain ⟨t1,i1,b1⟩:=g1
    dsimp only at hw1
    go_wp2_with fail
    refine (way_w (st:={ st with i:=i1,bad:=b1 }) (h1.other _ n1) (by omega) hw1).mono ?_
    rintro e v2 ⟨rfl,O2,h2,t2⟩
    have T2:=hide (p:=Th O w O2 v2) (Th.trans (T1.out.set _ (.inr (by (try dsimp only);omega))) t2)
    obtain ⟨L2,n2⟩:=Th.blk t2 (b:=W3.heap.size) (cs:=[.int .u8 58,.int .i64 ux,.int .i64 uy,.int .i64 uv,.int .u8 uk,.int .i64 t1,.int .i64 uf,.int .i64 ua,.int .i64 ul]) (T:=111) (by (exact blA)) n1
    obtain ⟨x20,x21,x22,x23,x24,x25,x26,x27,x28,x2f⟩:=L2.c9
    have hw2:=wayF_le s (i1,b1) hw1
    generalize hg2:wayF s (i1,b1)=g2 at *
    have HG2:=hide hg2
    clear hg2
    obtain ⟨t2',i2,b2⟩:=g2
    dsimp only at hw2
    go_wp2_with fail
    refine (eat_w (h2.other _ n2) 59 (by omega) hw2).mono ?_
    rintro e v8 ⟨rfl,O8,h8,t8⟩
    have T8:=hide (p:=Th O w O8 v8) (Th.trans (T2.out.set _ (.inr (by (try dsimp only);omega))) t8)
    obtain ⟨L8,n8⟩:=Th.blk t8 (b:=W3.heap.size) (cs:=[.int .u8 58,.int .i64 ux,.int .i64 uy,.int .i64 uv,.int .u8 uk,.int .i64 t1,.int .i64 t2',.int .i64 ua,.int .i64 ul]) (T:=111) (by (exact blA)) n2
    obtain ⟨y0,y1,y2,y3,y4,y5,y6,y7,y8,yf⟩:=L8.c9
    go_wp2_with fail
    refine (add_c r s _ O8 ⟨58,ux,uy,uv,uk,t1,t2',ua,ul⟩ _ (by show st.nodes.length≤1000;omega) h8).mono ?_
    rintro e v9 ⟨rfl,O9,h9,t9⟩
    go_wp2
    go_end0
    refine ⟨rfl,went_th (O':=O9) ?_ (T8.out.trans t9)⟩
    rw [HV.out,show lineR s st (⟨58,ux,uy,uv,uk,ut,uf,ua,ul⟩,qi,false)={ st with i:=(eatF s (i2,b2) 59).1,bad:=(eatF s (i2,b2) 59).2,nodes:=st.nodes++[⟨58,ux,uy,uv,uk,t1,t2',ua,ul⟩] } by simp [lineR,lineT,lineG,HG1.out,HG2.out]]
    exact h9
end Go.Proofs.YtellieabhaphhabGreatDoor
namespace Go.Proofs.YtellieabhaphhabGreatDoor
open Go.RowKit
set_option maxHeartbeats 6400000 in
theorem line_simple {w:World} {r:Nat} {s:ByteArray} {st:RS} {O:Nat→Prop} (hs:s.size≤900) (h:Rp w r s st O) (hb:st.bad=false) (hi:st.i<s.size) (hn:st.nodes.length≤950) (h1:pk s st.i≠42) (h2:pk s st.i<97∨(97≤pk s st.i∧102<pk s st.i)∨(97≤pk s st.i∧pk s st.i≤102∧pk s (st.i+1)=61)∨(97≤pk s st.i∧pk s st.i≤102∧pk s (st.i+1)≠61∧pk s (st.i+1)=126)) :
  Calls Tryz.prog 100 #[.pointer (some ⟨r,0,none⟩)] w fun e w'=>e=.returned (.tuple #[])∧Went w O r s (lineF s st) w':=by
 have HP:=hide (peek_w h)
 have hO:=h.lt
 have hrl:=h.lt r h.own
 have HV:=hide (show lineF s st=lineR s st (simpF s st.i) by rw [lineF_eq,lineN,if_neg h1,if_neg (by omega)])
 have HD:=hide (show ∀ hq:st.i+1<s.size,pk s (st.i+1)=(s[st.i+1]'hq).toNat from fun hq=>by simp [pk,hq])
 have HD0:=hide (show ¬ st.i+1<s.size→pk s (st.i+1)=0 from fun hq=>by simp [pk,hq])
 generalize hd1:pk s st.i=c at *
 generalize hd2:pk s (st.i+1)=d at *
 clear hd1 hd2
 obtain ⟨c0,c1,c2,c5,cf⟩:=h.c
 rw [hb] at c2
 go_enter Tryz.func100,Tryz.ntmps100
 go_wp2_with fail
 refine HP.out.mono ?_
 rintro e w1 ⟨rfl,nq,rfl⟩
 go_wp2
 refine wp_gen (fun W=>Rp W r s st O∧Th O w O W) ⟨h.n _,(Th.refl _ _).n _⟩ ?_
 clear c0 c1 c2 c5 cf
 rintro W ⟨hW,tW⟩
 obtain ⟨c0,c1,c2,c5,cf⟩:=hW.c
 rw [hb] at c2
 have hz4:IntKind.i64.wrap ((st.i:Int)+1)=(st.i:Int)+1:=by rw [IntKind.wrap_i64];omega
 by_cases hq:st.i+1<s.size
 ·rw [HD.out hq] at *
  clear HD HD0
  go_quiet (fail)
  go_wp2
  refine wp_gen (fun W'=>Rp W' r s st O∧Th O w O W') ⟨hW.n _,tW.n _⟩ ?_
  clear c0 c1 c2 c5 cf
  rintro W2 ⟨hW2,tW2⟩
  obtain ⟨c0,c1,c2,c5,cf⟩:=hW2.c
  rw [hb] at c2
  have hz1:(st.i:Int)+1<(s.size:Int):=by omega
  have hz2:0≤(st.i:Int)+1:=by omega
  have hz6:((st.i:Int)+1).toNat=st.i+1:=by omega
  go_quiet (fail)
  refine then_gen (fun W'=>Rp W' r s st O∧Th O w O W') ⟨hW2.n _,tW2.n _⟩ ?_
  clear c0 c1 c2 c5 cf
  rintro W3 ⟨hW3,tW3⟩
  obtain ⟨c0,c1,c2,c5,cf⟩:=hW3.c
  rw [hb] at c2
  have hrW:=hW3.lt r hW3.own
  have hOW:=hW3.lt
  generalize (s[st.i+1]'hq).toNat=d at *
  have f42:((c:Int) == 42)=false:=by simp;omega
  clear h1
  rcases h2 with h2|⟨h2,h3⟩|⟨h2,h3,h4⟩|⟨h2,h3,h5,h4⟩
  all_goals (try (exfalso;revert h4;decide))
  all_goals (try subst h4)
  all_goals
   go_wp2_with fail
   refine (simple_w (hW3.alloc _) hb (by omega) (by omega)).mono ?_
   rintro e v0 ⟨rfl,O0,h0,t0⟩
   have T0:=hide ((tW3.alloc _).trans t0)
   have hsz:=tW3.1.size
   obtain ⟨L0,n0⟩:=Th.blk t0 (b:=W3.heap.size) (cs:=[.int .u8 0,.int .i64 0,.int .i64 0,.int .i64 0,.int .u8 0,.int .i64 0,.int .i64 (-1),.int .i64 0,.int .i64 0]) (T:=111) (by (exact blA)) (fun e=>by have:=hOW _ e;omega)
   obtain ⟨z0,z1,z2,z3,z4,z5,z6,z7,z8,zf⟩:=L0.c9
   obtain ⟨p0,p1,p2,p5,pf⟩:=h0.c
   dsimp only at p1 p2
   have hq1:=simpF_le s st.i (by omega)
   have hop:=simpF_op s st.i
   generalize simpF s st.i=q at *
   obtain ⟨⟨uo,ux,uy,uv,uk,ut,uf,ua,ul⟩,qi,qb⟩:=q
   dsimp only at *
   simp only [Nd.cells]
   have hb0:∀ (W':World),Rp W' r s { st with i:=qi,bad:=qb } O0→∀ o v,Rp (W'.setCell ⟨W3.heap.size,o,none⟩ v) r s { st with i:=qi,bad:=qb } O0:=fun W' hW' o v=>hW'.other v n0
   have HB0:=hide hb0
   clear hb0
   cases qb
   case true =>
    go_wp2
    refine bodyPost_ret (results_none rfl _ _ _) rfl ?_
    rw [HV.out,show lineR s st (⟨uo,ux,uy,uv,uk,ut,uf,ua,ul⟩,qi,true)={ st with i:=qi,bad:=true } by simp [lineR]]
    exact ⟨rfl,went_th (O':=O0) (by repeat' (first|with_reducible exact h0|with_reducible refine HB0.out _ ?_ _ _)) (by repeat' (first|with_reducible exact T0.out|((with_reducible refine Th.set ?_ _ ?_);rotate_left;(exact .inr (by (try dsimp only);omega)))))⟩
   case false =>
    by_cases h33:uo=33
    ·subst h33
     go_wp2_with fail
     refine (eat_w (st:={ st with i:=qi,bad:=false }) (by repeat' (first|with_reducible exact h0|with_reducible refine HB0.out _ ?_ _ _)) 59 (by omega) hq1).mono ?_
     rintro e v8 ⟨rfl,O8,h8,t8⟩
     have T8:=hide (p:=Th O w O8 v8) (Th.trans (by repeat' (first|with_reducible exact T0.out|((with_reducible refine Th.set ?_ _ ?_);rotate_left;(exact .inr (by (try dsimp only);omega))))) t8)
     obtain ⟨L8,n8⟩:=Th.blk t8 (b:=W3.heap.size) (cs:=[.int .u8 33,.int .i64 ux,.int .i64 uy,.int .i64 uv,.int .u8 uk,.int .i64 (-1),.int .i64 uf,.int .i64 ua,.int .i64 ul]) (T:=111) (by (exact blA)) n0
     obtain ⟨y0,y1,y2,y3,y4,y5,y6,y7,y8,yf⟩:=L8.c9
     go_wp2_with fail
     refine (add_c r s _ O8 ⟨33,ux,uy,uv,uk,(-1),uf,ua,ul⟩ _ (by show st.nodes.length≤1000;omega) h8).mono ?_
     rintro e v9 ⟨rfl,O9,h9,t9⟩
     go_wp2
     go_end0
     refine ⟨rfl,went_th (O':=O9) ?_ (T8.out.trans t9)⟩
     rw [HV.out,show lineR s st (⟨33,ux,uy,uv,uk,ut,uf,ua,ul⟩,qi,false)={ st with i:=(eatF s (qi,false) 59).1,bad:=(eatF s (qi,false) 59).2,nodes:=st.nodes++[⟨33,ux,uy,uv,uk,-1,uf,ua,ul⟩] } by simp [lineR,lineT,lineG]]
     exact h9
    ·have f33:(uo == 33)=false:=by simp [h33]
     have f33':(uo != 33)=true:=by simp [h33]
     have f121:(uo == 121)=false:=by simp [hop.1]
     have f58:(uo == 58)=false:=by simp [hop.2]
     have HOP:Hid (¬ uo=33∧¬ uo=121∧¬ uo=58):=⟨h33,hop⟩
     clear h33 hop
     go_wp2_with fail
     refine (way_w (st:={ st with i:=qi,bad:=false }) (by repeat' (first|with_reducible exact h0|with_reducible refine HB0.out _ ?_ _ _)) (by omega) hq1).mono ?_
     rintro e v1 ⟨rfl,O1,h1,t1⟩
     have T1:=hide (p:=Th O w O1 v1) (Th.trans (by repeat' (first|with_reducible exact T0.out|((with_reducible refine Th.set ?_ _ ?_);rotate_left;(exact .inr (by (try dsimp only);omega))))) t1)
     obtain ⟨L1,n1⟩:=Th.blk t1 (b:=W3.heap.size) (cs:=[.int .u8 uo,.int .i64 ux,.int .i64 uy,.int .i64 uv,.int .u8 uk,.int .i64 (-1),.int .i64 uf,.int .i64 ua,.int .i64 ul]) (T:=111) (by (exact blA)) n0
     obtain ⟨x10,x11,x12,x13,x14,x15,x16,x17,x18,x1f⟩:=L1.c9
     have hw1:=wayF_le s (qi,false) hq1
     generalize hg1:wayF s (qi,false)=g1 at *
     have HG1:=hide hg1
     clear hg1
     obtain ⟨t1,i1,b1⟩:=g1
     dsimp only at hw1
     go_wp2_with fail
     refine (eat_w (h1.other _ n1) 59 (by omega) hw1).mono ?_
     rintro e v8 ⟨rfl,O8,h8,t8⟩
     have T8:=hide (p:=Th O w O8 v8) (Th.trans (T1.out.set _ (.inr (by (try dsimp only);omega))) t8)
     obtain ⟨L8,n8⟩:=Th.blk t8 (b:=W3.heap.size) (cs:=[.int .u8 uo,.int .i64 ux,.int .i64 uy,.int .i64 uv,.int .u8 uk,.int .i64 t1,.int .i64 uf,.int .i64 ua,.int .i64 ul]) (T:=111) (by (exact blA)) n1
     obtain ⟨y0,y1,y2,y3,y4,y5,y6,y7,y8,yf⟩:=L8.c9
     go_wp2_with fail
     refine (add_c r s _ O8 ⟨uo,ux,uy,uv,uk,t1,uf,ua,ul⟩ _ (by show st.nodes.length≤1000;omega) h8).mono ?_
     rintro e v9 ⟨rfl,O9,h9,t9⟩
     go_wp2
     go_end0
     refine ⟨rfl,went_th (O':=O9) ?_ (T8.out.trans t9)⟩
     rw [HV.out,show lineR s st (⟨uo,ux,uy,uv,uk,ut,uf,ua,ul⟩,qi,false)={ st with i:=(eatF s (i1,b1) 59).1,bad:=(eatF s (i1,b1) 59).2,nodes:=st.nodes++[⟨uo,ux,uy,uv,uk,t1,uf,ua,ul⟩] } by simp [lineR,lineT,lineG,HG1.out,HOP.out]]
     exact h9
 ·have hd0:=HD0.out hq
  subst hd0
  clear HD HD0
  go_quiet (fail)
  refine then_gen (fun W'=>Rp W' r s st O∧Th O w O W') ⟨hW.n _,tW.n _⟩ ?_
  clear c0 c1 c2 c5 cf
  rintro W3 ⟨hW3,tW3⟩
  obtain ⟨c0,c1,c2,c5,cf⟩:=hW3.c
  rw [hb] at c2
  have hrW:=hW3.lt r hW3.own
  have hOW:=hW3.lt
  have f42:((c:Int) == 42)=false:=by simp;omega
  clear h1
  rcases h2 with h2|⟨h2,h3⟩|⟨h2,h3,h4⟩|⟨h2,h3,h5,h4⟩
  all_goals (try (exfalso;revert h4;decide))
  all_goals (try subst h4)
  all_goals
   go_wp2_with fail
   refine (simple_w (hW3.alloc _) hb (by omega) (by omega)).mono ?_
   rintro e v0 ⟨rfl,O0,h0,t0⟩
   have T0:=hide ((tW3.alloc _).trans t0)
   have hsz:=tW3.1.size
   obtain ⟨L0,n0⟩:=Th.blk t0 (b:=W3.heap.size) (cs:=[.int .u8 0,.int .i64 0,.int .i64 0,.int .i64 0,.int .u8 0,.int .i64 0,.int .i64 (-1),.int .i64 0,.int .i64 0]) (T:=111) (by (exact blA)) (fun e=>by have:=hOW _ e;omega)
   obtain ⟨z0,z1,z2,z3,z4,z5,z6,z7,z8,zf⟩:=L0.c9
   obtain ⟨p0,p1,p2,p5,pf⟩:=h0.c
   dsimp only at p1 p2
   have hq1:=simpF_le s st.i (by omega)
   have hop:=simpF_op s st.i
   generalize simpF s st.i=q at *
   obtain ⟨⟨uo,ux,uy,uv,uk,ut,uf,ua,ul⟩,qi,qb⟩:=q
   dsimp only at *
   simp only [Nd.cells]
   have hb0:∀ (W':World),Rp W' r s { st with i:=qi,bad:=qb } O0→∀ o v,Rp (W'.setCell ⟨W3.heap.size,o,none⟩ v) r s { st with i:=qi,bad:=qb } O0:=fun W' hW' o v=>hW'.other v n0
   have HB0:=hide hb0
   clear hb0
   cases qb
   case true =>
    go_wp2
    refine bodyPost_ret (results_none rfl _ _ _) rfl ?_
    rw [HV.out,show lineR s st (⟨uo,ux,uy,uv,uk,ut,uf,ua,ul⟩,qi,true)={ st with i:=qi,bad:=true } by simp [lineR]]
    exact ⟨rfl,went_th (O':=O0) (by repeat' (first|with_reducible exact h0|with_reducible refine HB0.out _ ?_ _ _)) (by repeat' (first|with_reducible exact T0.out|((with_reducible refine Th.set ?_ _ ?_);rotate_left;(exact .inr (by (try dsimp only);omega)))))⟩
   case false =>
    by_cases h33:uo=33
    ·subst h33
     go_wp2_with fail
     refine (eat_w (st:={ st with i:=qi,bad:=false }) (by repeat' (first|with_reducible exact h0|with_reducible refine HB0.out _ ?_ _ _)) 59 (by omega) hq1).mono ?_
     rintro e v8 ⟨rfl,O8,h8,t8⟩
     have T8:=hide (p:=Th O w O8 v8) (Th.trans (by repeat' (first|with_reducible exact T0.out|((with_reducible refine Th.set ?_ _ ?_);rotate_left;(exact .inr (by (try dsimp only);omega))))) t8)
     obtain ⟨L8,n8⟩:=Th.blk t8 (b:=W3.heap.size) (cs:=[.int .u8 33,.int .i64 ux,.int .i64 uy,.int .i64 uv,.int .u8 uk,.int .i64 (-1),.int .i64 uf,.int .i64 ua,.int .i64 ul]) (T:=111) (by (exact blA)) n0
     obtain ⟨y0,y1,y2,y3,y4,y5,y6,y7,y8,yf⟩:=L8.c9
     go_wp2_with fail
     refine (add_c r s _ O8 ⟨33,ux,uy,uv,uk,(-1),uf,ua,ul⟩ _ (by show st.nodes.length≤1000;omega) h8).mono ?_
     rintro e v9 ⟨rfl,O9,h9,t9⟩
     go_wp2
     go_end0
     refine ⟨rfl,went_th (O':=O9) ?_ (T8.out.trans t9)⟩
     rw [HV.out,show lineR s st (⟨33,ux,uy,uv,uk,ut,uf,ua,ul⟩,qi,false)={ st with i:=(eatF s (qi,false) 59).1,bad:=(eatF s (qi,false) 59).2,nodes:=st.nodes++[⟨33,ux,uy,uv,uk,-1,uf,ua,ul⟩] } by simp [lineR,lineT,lineG]]
     exact h9
    ·have f33:(uo == 33)=false:=by simp [h33]
     have f33':(uo != 33)=true:=by simp [h33]
     have f121:(uo == 121)=false:=by simp [hop.1]
     have f58:(uo == 58)=false:=by simp [hop.2]
     have HOP:Hid (¬ uo=33∧¬ uo=121∧¬ uo=58):=⟨h33,hop⟩
     clear h33 hop
     go_wp2_with fail
     refine (way_w (st:={ st with i:=qi,bad:=false }) (by repeat' (first|with_reducible exact h0|with_reducible refine HB0.out _ ?_ _ _)) (by omega) hq1).mono ?_
     rintro e v1 ⟨rfl,O1,h1,t1⟩
     have T1:=hide (p:=Th O w O1 v1) (Th.trans (by repeat' (first|with_reducible exact T0.out|((with_reducible refine Th.set ?_ _ ?_);rotate_left;(exact .inr (by (try dsimp only);omega))))) t1)
     obtain ⟨L1,n1⟩:=Th.blk t1 (b:=W3.heap.size) (cs:=[.int .u8 uo,.int .i64 ux,.int .i64 uy,.int .i64 uv,.int .u8 uk,.int .i64 (-1),.int .i64 uf,.int .i64 ua,.int .i64 ul]) (T:=111) (by (exact blA)) n0
     obtain ⟨x10,x11,x12,x13,x14,x15,x16,x17,x18,x1f⟩:=L1.c9
     have hw1:=wayF_le s (qi,false) hq1
     generalize hg1:wayF s (qi,false)=g1 at *
     have HG1:=hide hg1
     clear hg1
     obtain ⟨t1,i1,b1⟩:=g1
     dsimp only at hw1
     go_wp2_with fail
     refine (eat_w (h1.other _ n1) 59 (by omega) hw1).mono ?_
     rintro e v8 ⟨rfl,O8,h8,t8⟩
     have T8:=hide (p:=Th O w O8 v8) (Th.trans (T1.out.set _ (.inr (by (try dsimp only);omega))) t8)
     obtain ⟨L8,n8⟩:=Th.blk t8 (b:=W3.heap.size) (cs:=[.int .u8 uo,.int .i64 ux,.int .i64 uy,.int .i64 uv,.int .u8 uk,.int .i64 t1,.int .i64 uf,.int .i64 ua,.int .i64 ul]) (T:=111) (by (exact blA)) n1
     obtain ⟨y0,y1,y2,y3,y4,y5,y6,y7,y8,yf⟩:=L8.c9
     go_wp2_with fail
     refine (add_c r s _ O8 ⟨uo,ux,uy,uv,uk,t1,uf,ua,ul⟩ _ (by show st.nodes.length≤1000;omega) h8).mono ?_
     rintro e v9 ⟨rfl,O9,h9,t9⟩
     go_wp2
     go_end0
     refine ⟨rfl,went_th (O':=O9) ?_ (T8.out.trans t9)⟩
     rw [HV.out,show lineR s st (⟨uo,ux,uy,uv,uk,ut,uf,ua,ul⟩,qi,false)={ st with i:=(eatF s (i1,b1) 59).1,bad:=(eatF s (i1,b1) 59).2,nodes:=st.nodes++[⟨uo,ux,uy,uv,uk,t1,uf,ua,ul⟩] } by simp [lineR,lineT,lineG,HG1.out,HOP.out]]
     exact h9
theorem line_c {w:World} {r:Nat} {s:ByteArray} {st:RS} {O:Nat→Prop} (hs:s.size≤900) (h:Rp w r s st O) (hb:st.bad=false) (hi:st.i<s.size) (hn:st.nodes.length≤950) :
  Calls Tryz.prog 100 #[.pointer (some ⟨r,0,none⟩)] w fun e w'=>e=.returned (.tuple #[])∧Went w O r s (lineF s st) w':=by
 by_cases h1:pk s st.i=42
 ·exact line_star hs h hb hi hn h1
 by_cases h2:97≤pk s st.i∧pk s st.i≤102∧pk s (st.i+1)≠61∧pk s (st.i+1)≠126
 ·exact line_test hs h hb hi hn h1 h2
 ·exact line_simple hs h hb hi hn h1 (by omega)
end Go.Proofs.YtellieabhaphhabGreatDoor
namespace Go.Proofs.YtellieabhaphhabGreatDoor
open Go.RowKit
def partF (y:Vl):Vl:=if y.k=65 then ⟨110,y.n,0⟩ else ⟨y.v,0,0⟩
set_option maxHeartbeats 800000 in
theorem part_c (y:Vl) (w:World) :
  Calls Tryz.prog 147 #[.agg #[.int .u8 y.k,.int .i64 y.n,.int .u8 y.v]] w fun e w'=>e=.returned (.agg (partF y).cells.toArray)∧Kp no w w':=by
 by_cases h:y.k=65
 ·have HV:=hide (show partF y=⟨110,y.n,0⟩ by simp [partF,h])
  rw [h]
  go_enter Tryz.func147,Tryz.ntmps147
  go_wp2
  refine body_agg (Tb:=151) (b:=w.heap.size+1) (cs:=[.int .u8 110,.int .i64 y.n,.int .u8 0]) (.inr rfl) Tryz.results147 rfl rfl (by (exact blA)) Tryz.underlying151 rfl (by kernel_rfl) ?_
  rw [HV.out]
  exact ⟨rfl,by (exact kpA)⟩
 ·have HV:=hide (show partF y=⟨y.v,0,0⟩ by simp [partF,h])
  have h':(y.k == 65)=false:=by simp [h]
  go_enter Tryz.func147,Tryz.ntmps147
  go_wp2
  refine body_agg (Tb:=151) (b:=w.heap.size+1) (cs:=[.int .u8 y.v,.int .i64 0,.int .u8 0]) (.inr rfl) Tryz.results147 rfl rfl (by (exact blA)) Tryz.underlying151 rfl (by kernel_rfl) ?_
  rw [HV.out]
  exact ⟨rfl,by (exact kpA)⟩
def consF (n:Nd):Vl :=
 if n.op=48 then ⟨110,n.k-48,0⟩ else if n.op=84 then ⟨116,0,0⟩ else if n.op=70 then ⟨102,0,0⟩ else if n.op=67 then ⟨67,0,0⟩ else ⟨122,0,0⟩
set_option maxHeartbeats 1600000 in
theorem constant_c (n:Nd) (w:World) (hk:n.op=48→48≤n.k∧n.k≤57) :
  Calls Tryz.prog 148 #[.agg #[.int .u8 n.op,.int .i64 n.x,.int .i64 n.y,.int .i64 n.v,.int .u8 n.k,.int .i64 n.t,.int .i64 n.f,.int .i64 n.a,.int .i64 n.l]] w fun e w' =>
   e=.returned (.agg (consF n).cells.toArray)∧Kp no w w':=by
 obtain ⟨o,x,y,v,k,t,f,a,l⟩:=n
 dsimp only at *
 by_cases h1:o=48
 ·have HV:=hide (show consF ⟨o,x,y,v,k,t,f,a,l⟩=⟨110,k-48,0⟩ by simp [consF,h1])
  obtain ⟨g1,g2⟩:=hk h1
  subst h1
  clear hk
  go_enter Tryz.func148,Tryz.ntmps148
  go_wp2
  refine body_agg (Tb:=151) (b:=w.heap.size+1) (cs:=[.int .u8 110,.int .i64 (k-48),.int .u8 0]) (.inr rfl) Tryz.results148 rfl rfl (by (exact blA)) Tryz.underlying151 rfl (by kernel_rfl) ?_
  rw [HV.out]
  exact ⟨rfl,by (exact kpA)⟩
 clear hk
 by_cases h2:o=84
 ·have HV:=hide (show consF ⟨o,x,y,v,k,t,f,a,l⟩=⟨116,0,0⟩ by simp [consF,h2])
  subst h2
  go_enter Tryz.func148,Tryz.ntmps148
  go_wp2
  refine body_agg (Tb:=151) (b:=w.heap.size+1) (cs:=[.int .u8 116,.int .i64 0,.int .u8 0]) (.inr rfl) Tryz.results148 rfl rfl (by (exact blA)) Tryz.underlying151 rfl (by kernel_rfl) ?_
  rw [HV.out]
  exact ⟨rfl,by (exact kpA)⟩
 by_cases h3:o=70
 ·have HV:=hide (show consF ⟨o,x,y,v,k,t,f,a,l⟩=⟨102,0,0⟩ by simp [consF,h3])
  subst h3
  go_enter Tryz.func148,Tryz.ntmps148
  go_wp2
  refine body_agg (Tb:=151) (b:=w.heap.size+1) (cs:=[.int .u8 102,.int .i64 0,.int .u8 0]) (.inr rfl) Tryz.results148 rfl rfl (by (exact blA)) Tryz.underlying151 rfl (by kernel_rfl) ?_
  rw [HV.out]
  exact ⟨rfl,by (exact kpA)⟩
 by_cases h4:o=67
 ·have HV:=hide (show consF ⟨o,x,y,v,k,t,f,a,l⟩=⟨67,0,0⟩ by simp [consF,h4])
  subst h4
  go_enter Tryz.func148,Tryz.ntmps148
  go_wp2
  refine body_agg (Tb:=151) (b:=w.heap.size+1) (cs:=[.int .u8 67,.int .i64 0,.int .u8 0]) (.inr rfl) Tryz.results148 rfl rfl (by (exact blA)) Tryz.underlying151 rfl (by kernel_rfl) ?_
  rw [HV.out]
  exact ⟨rfl,by (exact kpA)⟩
 ·have HV:=hide (show consF ⟨o,x,y,v,k,t,f,a,l⟩=⟨122,0,0⟩ by simp [consF,h1,h2,h3,h4])
  have g1:(o == 48)=false:=by simp [h1]
  have g2:(o == 84)=false:=by simp [h2]
  have g3:(o == 70)=false:=by simp [h3]
  have g4:(o == 67)=false:=by simp [h4]
  go_enter Tryz.func148,Tryz.ntmps148
  go_wp2
  refine body_agg (Tb:=151) (b:=w.heap.size+1) (cs:=[.int .u8 122,.int .i64 0,.int .u8 0]) (.inr rfl) Tryz.results148 rfl rfl (by (exact blA)) Tryz.underlying151 rfl (by kernel_rfl) ?_
  rw [HV.out]
  exact ⟨rfl,by (exact kpA)⟩
def holdF (n:Nd) (v:Vl):Bool:=if n.op=58 then v.k == n.k else (v.k != 102 && v.k != 122 && (v.k != 110 || v.n != 0))
theorem MB.vu {w:World} {m lb:Nat} {inp:ByteArray} {st:Mc} (h:MB w m lb inp st) {i:Nat} {u:Vl} (hu:st.l[i]?=some u) :
  i<6∧w.cell? ⟨lb,i*3,none⟩=some (.int .u8 u.k)∧w.cell? ⟨lb,i*3+1,none⟩=some (.int .i64 u.n)∧w.cell? ⟨lb,i*3+2,none⟩=some (.int .u8 u.v):=by
 obtain ⟨hi,rfl⟩:=List.getElem?_eq_some_iff.1 hu
 exact ⟨by have:=h.six;omega,h.vs i hi⟩
set_option maxHeartbeats 1600000 in
theorem holds_c {w:World} {m lb:Nat} {inp:ByteArray} {st:Mc} (n:Nd) (y:Nat) (u:Vl) (h:MB w m lb inp st) (hy:n.y=y) (hu:st.l[y]?=some u) :
  Calls Tryz.prog 60 #[.pointer (some ⟨m,0,none⟩),.agg #[.int .u8 n.op,.int .i64 n.x,.int .i64 n.y,.int .i64 n.v,.int .u8 n.k,.int .i64 n.t,.int .i64 n.f,.int .i64 n.a,.int .i64 n.l]] w fun e w' =>
   e=.returned (.bool (holdF n u))∧Kp no w w':=by
 obtain ⟨o,x,y',v,k,t,f,a,l⟩:=n
 dsimp only at *
 subst hy
 have hlt:=h.lt
 obtain ⟨uk,un,uv⟩:=u
 go_enter Tryz.func60,Tryz.ntmps60
 go_wp2
 refine wp_gen (fun W=>MB W m lb inp st∧Blk W w.heap.size [.int .u8 o,.int .i64 x,.int .i64 y,.int .i64 v,.int .u8 k,.int .i64 t,.int .i64 f,.int .i64 a,.int .i64 l] 111∧Kp no w W) ⟨h.alloc _,by (exact blA),by (exact kpA)⟩ ?_
 rintro W ⟨hm,hN,hk⟩
 obtain ⟨d0,d1,d2,d3,d4,d5,d6,df⟩:=hm.c
 obtain ⟨hy6,v0,v1,v2⟩:=hm.vu hu
 obtain ⟨n0,n1,n2,n3,n4,n5,n6,n7,n8,nf⟩:=hN.c9
 have hz1:=hN.lt
 obtain ⟨hz2,hz3⟩:=hm.lt
 have HU:=hide hu
 clear hu
 dsimp only at *
 by_cases ho:o=58
 ·have HV:=hide (show holdF ⟨o,x,y,v,k,t,f,a,l⟩ ⟨uk,un,uv⟩=(uk == k) by simp [holdF,ho])
  subst ho
  go_region
  go_wp2
  go_ret
  rw [HV.out]
  exact ⟨rfl,by (exact kpA)⟩
 ·have HV:=hide (show holdF ⟨o,x,y,v,k,t,f,a,l⟩ ⟨uk,un,uv⟩=(uk != 102 && uk != 122 && (uk != 110 || un != 0)) by simp [holdF,ho])
  have ho':(o == 58)=false:=by simp [ho]
  clear ho
  by_cases g1:uk=102
  ·subst g1
   go_region
   go_wp2
   go_ret
   rw [HV.out]
   exact ⟨rfl,by (exact kpA)⟩
  have f1:(uk == 102)=false:=by simp [g1]
  have f1':(uk != 102)=true:=by simp [g1]
  by_cases g2:uk=122
  ·subst g2
   go_region
   go_wp2
   go_ret
   rw [HV.out]
   exact ⟨rfl,by (exact kpA)⟩
  have f2:(uk == 122)=false:=by simp [g2]
  have f2':(uk != 122)=true:=by simp [g2]
  by_cases g3:uk=110
  ·subst g3
   by_cases g4:un=0
   ·subst g4
    go_region
    go_wp2
    go_ret
    rw [HV.out]
    exact ⟨rfl,by (exact kpA)⟩
   ·have f4:(un == 0)=false:=by simp [g4]
    have f4':(un != 0)=true:=by simp [g4]
    have G4:=hide g4
    clear g4
    go_region
    go_wp2
    go_ret
    rw [HV.out]
    exact ⟨by simp [G4.out],by (exact kpA)⟩
  ·have f3:(uk == 110)=false:=by simp [g3]
   have f3':(uk != 110)=true:=by simp [g3]
   clear g1 g2 g3
   go_region
   go_wp2
   go_ret
   rw [HV.out]
   exact ⟨by simp [f1',f2',f3'],by (exact kpA)⟩
end Go.Proofs.YtellieabhaphhabGreatDoor
namespace Go.Proofs
open Go.Shelf
def Tryz.laysM171_ren:Go.Shelf.Ren:=⟨fun|171=>128|243=>155|246=>167|283=>170|284=>171|285=>172|286=>173|129=>175|317=>174|318=>176|319=>177|320=>178|337=>179|338=>180|n=>n,fun|3=>3|9=>9|2=>2|4=>4|171=>195|0=>0|53=>196|37=>167|5=>5|173=>199|212=>202|51=>203|20=>20|213=>204|46=>205|232=>208|233=>209|n=>n,fun|17=>0|18=>1|19=>2|n=>n⟩
theorem Tryz.laysM171:Go.Proofs.LaysM.n171 Tryz.prog Tryz.laysM171_ren:={
 mixed:=by kernel_rfl
 f129:=Tryz.func175.trans (congrArg some (by kernel_rfl))
 f171:=Tryz.func128.trans (congrArg some (by kernel_rfl))
 f243:=Tryz.func155.trans (congrArg some (by kernel_rfl))
 f246:=Tryz.func167.trans (congrArg some (by kernel_rfl))
 f283:=Tryz.func170.trans (congrArg some (by kernel_rfl))
 f284:=Tryz.func171.trans (congrArg some (by kernel_rfl))
 f285:=Tryz.func172.trans (congrArg some (by kernel_rfl))
 f286:=Tryz.func173.trans (congrArg some (by kernel_rfl))
 f317:=Tryz.func174.trans (congrArg some (by kernel_rfl))
 f318:=Tryz.func176.trans (congrArg some (by kernel_rfl))
 f319:=Tryz.func177.trans (congrArg some (by kernel_rfl))
 f320:=Tryz.func178.trans (congrArg some (by kernel_rfl))
 f337:=Tryz.func179.trans (congrArg some (by kernel_rfl))
 f338:=Tryz.func180.trans (congrArg some (by kernel_rfl))
 t0:=Tryz.underlying0
 a0:=Tryz.isAgg0
 z0:=Tryz.sizeOf0
 v0:=Tryz.zeroValue0
 t2:=Tryz.underlying2
 a2:=Tryz.isAgg2
 z2:=Tryz.sizeOf2
 v2:=Tryz.zeroValue2
 t3:=Tryz.underlying3
 a3:=Tryz.isAgg3
 z3:=Tryz.sizeOf3
 v3:=Tryz.zeroValue3
 t4:=Tryz.underlying4
 a4:=Tryz.isAgg4
 z4:=Tryz.sizeOf4
 v4:=Tryz.zeroValue4
 t5:=Tryz.underlying5
 a5:=Tryz.isAgg5
 z5:=Tryz.sizeOf5
 v5:=Tryz.zeroValue5
 t9:=Tryz.underlying9
 a9:=Tryz.isAgg9
 z9:=Tryz.sizeOf9
 v9:=Tryz.zeroValue9
 t20:=Tryz.underlying20
 a20:=Tryz.isAgg20
 z20:=Tryz.sizeOf20
 v20:=Tryz.zeroValue20
 t37:=Tryz.underlying167
 a37:=Tryz.isAgg167
 z37:=Tryz.sizeOf167
 v37:=Tryz.zeroValue167
 t46:=Tryz.underlying205
 a46:=Tryz.isAgg205
 z46:=Tryz.sizeOf205
 v46:=Tryz.zeroValue205
 t51:=Tryz.underlying203
 a51:=Tryz.isAgg203
 z51:=Tryz.sizeOf203
 v51:=Tryz.zeroValue203
 t53:=Tryz.underlying196
 a53:=Tryz.isAgg196
 z53:=Tryz.sizeOf196
 v53:=Tryz.zeroValue196
 t171:=Tryz.underlying195
 a171:=Tryz.isAgg195
 z171:=Tryz.sizeOf195
 v171:=Tryz.zeroValue195
 t173:=Tryz.underlying199
 a173:=Tryz.isAgg199
 z173:=Tryz.sizeOf199
 v173:=Tryz.zeroValue199
 t212:=Tryz.underlying202
 a212:=Tryz.isAgg202
 z212:=Tryz.sizeOf202
 v212:=Tryz.zeroValue202
 t213:=Tryz.underlying204
 a213:=Tryz.isAgg204
 z213:=Tryz.sizeOf204
 t232:=Tryz.underlying208
 a232:=Tryz.isAgg208
 z232:=Tryz.sizeOf208
 v232:=Tryz.zeroValue208
 t233:=Tryz.underlying209
 a233:=Tryz.isAgg209
 z233:=Tryz.sizeOf209
 v233:=Tryz.zeroValue209
 g17:=by kernel_rfl
 g18:=by kernel_rfl
 g19:=by kernel_rfl
 i0:=by kernel_rfl
 i2:=by kernel_rfl
 i3:=by kernel_rfl
 i4:=by kernel_rfl
 i5:=by kernel_rfl
 i9:=by kernel_rfl
 i20:=by kernel_rfl
 i37:=by kernel_rfl
 i46:=by kernel_rfl
 i51:=by kernel_rfl
 i53:=by kernel_rfl
 i171:=by kernel_rfl
 i173:=by kernel_rfl
 i212:=by kernel_rfl
 i232:=by kernel_rfl
 i233:=by kernel_rfl
 m17:=by kernel_rfl
 m18:=by kernel_rfl
 m19:=by kernel_rfl }
open Go.RowKit Go.Sort Go.Lib in
theorem Tryz.strconv_Itoa (n:Int) (h0:-9223372036854775808≤n) (h1:n≤9223372036854775807) (w:World) (htab:Lib.TabIs Tryz.prog w "internal/strconv.uint64pow10" .u64 Lib.pow10Tab) :
  Calls Tryz.prog 128 #[.int .i64 n] w fun e w'=>e=.returned (.string ⟨(Lib.itoa n).toArray⟩)∧∃ k os,w'=grow (w.drewN k) os:=Any.strconv_Itoa Tryz.laysM171 n h0 h1 w htab
end Go.Proofs
namespace Go.Proofs.YtellieabhaphhabGreatDoor
open Go.RowKit
def Tab (w:World):Prop:=Lib.TabIs Tryz.prog w "internal/strconv.uint64pow10" .u64 Lib.pow10Tab
theorem gtab:Tryz.prog.globalNamed "internal/strconv.uint64pow10"=some 0:=by kernel_rfl
theorem Tab.lt {w:World} (h:Tab w):0<w.heap.size:=by
 have h':w.var? Tryz.prog "internal/strconv.uint64pow10"=some _:=h
 simp only [World.var?,gtab,Option.bind_some] at h'
 rcases Nat.lt_or_ge 0 w.heap.size with hl|hg
 ·exact hl
 ·rw [Array.getElem?_eq_none hg] at h';simp at h'
theorem Tab.kp {S:Nat→Prop} {w w':World} (h:Tab w) (k:Kp S w w') (hS:¬ S 0):Tab w':=by
 have h':w.var? Tryz.prog "internal/strconv.uint64pow10"=some _:=h
 have e:=k.block 0 h.lt hS
 show w'.var? Tryz.prog "internal/strconv.uint64pow10"=some _
 simp only [World.var?,gtab,Option.bind_some] at h' ⊢
 rw [e]
 exact h'
def itoaB (n:Int):ByteArray:=⟨(Lib.itoa n).toArray⟩
theorem grow_kp (w:World) (k:Nat) (os:Array Obj):Kp no w (Go.Sort.grow (w.drewN k) os) :=
 ⟨rfl,rfl,rfl,by simp [Go.Sort.grow],fun i hi _=>by
  show (w.heap++os)[i]?=_
  rw [Array.getElem?_append_left hi]⟩
theorem itoa_c (n:Int) (h0:0≤n) (h1:n≤1000) (w:World) (ht:Tab w) :
  Calls Tryz.prog 128 #[.int .i64 n] w fun e w'=>e=.returned (.string (itoaB n))∧Kp no w w':=by
 refine (Tryz.strconv_Itoa n (by omega) (by omega) w ht).mono ?_
 rintro e w' ⟨rfl,k,os,rfl⟩
 exact ⟨rfl,grow_kp w k os⟩
def spellF (v:Vl):ByteArray :=
 if v.k=110 then itoaB v.n else if v.k=65 then ⟨#[65]⟩++itoaB v.n else if v.k=66 then ⟨#[66]⟩++capF v.v else capF v.k
theorem itoa_size (n:Int) (h0:0≤n) (h1:n≤1000):(itoaB n).size≤100:=by
 obtain ⟨n,rfl⟩:=Int.eq_ofNat_of_zero_le h0
 have h:∀ n:Nat,n≤1000→(itoaB n).size≤100:=by decide +kernel
 exact h n (by omega)
theorem capF_size (k:Int):(capF k).size=1:=by
 unfold capF;repeat' split
 all_goals rfl
set_option maxHeartbeats 1600000 in
theorem spelled_c (v:Vl) (h0:0≤v.n) (h1:v.n≤1000) (w:World) (ht:Tab w) :
  Calls Tryz.prog 104 #[.agg #[.int .u8 v.k,.int .i64 v.n,.int .u8 v.v]] w fun e w'=>e=.returned (.string (spellF v))∧Kp no w w':=by
 obtain ⟨k,n,u⟩:=v
 dsimp only at *
 have hi:=itoa_size n h0 h1
 by_cases g1:k=110
 ·have HV:=hide (show spellF ⟨k,n,u⟩=itoaB n by simp [spellF,g1])
  subst g1
  go_enter Tryz.func104,Tryz.ntmps104
  go_wp2_with fail
  refine (itoa_c n h0 h1 _ (ht.kp ((Kp.refl no w).alloc _) no_elim)).mono ?_
  rintro e w1 ⟨rfl,k1⟩
  go_wp2
  go_ret
  rw [HV.out]
  exact ⟨rfl,by (exact kpA)⟩
 have f1:(k == 110)=false:=by simp [g1]
 by_cases g2:k=65
 ·have HV:=hide (show spellF ⟨k,n,u⟩=⟨#[65]⟩++itoaB n by simp [spellF,g2])
  subst g2
  have hsz:(ByteArray.mk #[65]).size=1:=rfl
  go_enter Tryz.func104,Tryz.ntmps104
  go_wp2_with fail
  refine (itoa_c n h0 h1 _ (ht.kp ((Kp.refl no w).alloc _) no_elim)).mono ?_
  rintro e w1 ⟨rfl,k1⟩
  generalize itoaB n=q at *
  go_wp2
  go_ret
  rw [HV.out]
  exact ⟨rfl,by (exact kpA)⟩
 have f2:(k == 65)=false:=by simp [g2]
 have hcu:=capF_size u
 by_cases g3:k=66
 ·have HV:=hide (show spellF ⟨k,n,u⟩=⟨#[66]⟩++capF u by simp [spellF,g3])
  subst g3
  have hsz:(ByteArray.mk #[66]).size=1:=rfl
  go_enter Tryz.func104,Tryz.ntmps104
  go_wp2_with fail
  refine (capital_c u _).mono ?_
  rintro e w1 ⟨rfl,rfl⟩
  generalize capF u=q at *
  go_wp2
  go_ret
  rw [HV.out]
  exact ⟨rfl,by (exact kpA)⟩
 ·have HV:=hide (show spellF ⟨k,n,u⟩=capF k by simp [spellF,g1,g2,g3])
  have f3:(k == 66)=false:=by simp [g3]
  go_enter Tryz.func104,Tryz.ntmps104
  go_wp2_with fail
  refine (capital_c k _).mono ?_
  rintro e w1 ⟨rfl,rfl⟩
  go_wp2
  go_ret
  rw [HV.out]
  exact ⟨rfl,by (exact kpA)⟩
end Go.Proofs.YtellieabhaphhabGreatDoor
namespace Go.Proofs.YtellieabhaphhabGreatDoor
open Go.RowKit
def VOk (u:Vl):Prop:=0≤u.n∧u.n≤999∧0≤u.k
def worF (inp:ByteArray) (n:Nd) (y v:Vl) (st:Mc):Vl × Mc :=
 if n.op=63 then nextF inp st
 else if n.op=118 then (y,st)
 else if n.op=43 then (⟨110,(y.n+v.n) % 1000,0⟩,st)
 else if n.op=60 then ((if y.n<v.n then ⟨116,0,0⟩ else ⟨102,0,0⟩),st)
 else if n.op=65 then (⟨65,y.n,0⟩,st)
 else if n.op=66 then (⟨66,0,y.k⟩,st)
 else if n.op=46 then (partF y,st)
 else (consF n,st)
set_option maxHeartbeats 12800000 in
theorem worth_c {w:World} {m lb:Nat} {inp:ByteArray} {st:Mc} (n:Nd) (y v:Nat) (yu vu:Vl) (h:MB w m lb inp st) (hinp:inp.size≤40) (hy:n.y=y) (hv:n.v=v) (hyu:st.l[y]?=some yu) (hvu:st.l[v]?=some vu)
  (oy:VOk yu) (ov:VOk vu) (hk:n.op=48→48≤n.k∧n.k≤57) :
  Calls Tryz.prog 105 #[.pointer (some ⟨m,0,none⟩),.agg #[.int .u8 n.op,.int .i64 n.x,.int .i64 n.y,.int .i64 n.v,.int .u8 n.k,.int .i64 n.t,.int .i64 n.f,.int .i64 n.a,.int .i64 n.l]] w fun e w' =>
   e=.returned (.agg (worF inp n yu vu st).1.cells.toArray)∧MB w' m lb inp (worF inp n yu vu st).2∧Kp (MK m lb) w w':=by
 obtain ⟨o,x,y',v',k,t,f,a,l⟩:=n
 dsimp only at *
 subst hy hv
 have hlt:=h.lt
 have HC:=hide (fun W=>constant_c ⟨o,x,y,v,k,t,f,a,l⟩ W hk)
 clear hk
 obtain ⟨yk,yn,yv⟩:=yu
 obtain ⟨vk,vn,vv⟩:=vu
 obtain ⟨oy1,oy2,_⟩:=oy
 obtain ⟨ov1,ov2,_⟩:=ov
 dsimp only at oy1 oy2 ov1 ov2
 go_enter Tryz.func105,Tryz.ntmps105
 go_wp2
 refine wp_gen (fun W=>MB W m lb inp st∧Blk W w.heap.size [.int .u8 o,.int .i64 x,.int .i64 y,.int .i64 v,.int .u8 k,.int .i64 t,.int .i64 f,.int .i64 a,.int .i64 l] 111∧Blk W (w.heap.size+1) [.int .u8 0,.int .i64 0,.int .u8 0] 151∧Kp (MK m lb) w W∧w.heap.size+2≤W.heap.size) ⟨by (repeat' (first|with_reducible exact h|with_reducible refine MB.alloc ?_ _|with_reducible refine MB.drew ?_|with_reducible refine MB.n ?_ _|((with_reducible refine MB.other ?_ _ ?_ ?_);rotate_left;((try dsimp only);omega);((try dsimp only);omega)))),by (exact blA),by (exact blA),by (exact kpA),by simp⟩ ?_
 rintro W ⟨hm,hN,hR,hk,hz⟩
 obtain ⟨d0,d1,d2,d3,d4,d5,d6,df⟩:=hm.c
 obtain ⟨hy6,y0,y1,y2⟩:=hm.vu hyu
 obtain ⟨n0,n1,n2,n3,n4,n5,n6,n7,n8,nf⟩:=hN.c9
 have hz1:=hN.lt
 have hz4:=hR.lt
 obtain ⟨hz2,hz3⟩:=hm.lt
 have HVU:=hide hvu
 clear hyu hvu
 dsimp only at y0 y1 y2
 obtain ⟨z0,z1,z2,zf⟩:=hR.c3
 by_cases g118:o=118
 ·have HV:=hide (show worF inp ⟨o,x,y,v,k,t,f,a,l⟩ ⟨yk,yn,yv⟩ ⟨vk,vn,vv⟩ st=(⟨yk,yn,yv⟩,st) by simp [worF,g118])
  subst g118
  go_region
  go_wp2
  refine body_agg (Tb:=151) (b:=w.heap.size+1) (cs:=[.int .u8 yk,.int .i64 yn,.int .u8 yv]) (.inr rfl) Tryz.results105 rfl rfl (by (exact blA)) Tryz.underlying151 rfl (by kernel_rfl) ?_
  rw [HV.out]
  exact ⟨rfl,by (show MB _ _ _ _ _);(repeat' (first|with_reducible exact hm|with_reducible refine MB.alloc ?_ _|with_reducible refine MB.drew ?_|with_reducible refine MB.n ?_ _|((with_reducible refine MB.other ?_ _ ?_ ?_);rotate_left;((try dsimp only);omega);((try dsimp only);omega)))),by (exact kpA)⟩
 have f118:(o == 118)=false:=by simp [g118]
 by_cases g65:o=65
 ·have HV:=hide (show worF inp ⟨o,x,y,v,k,t,f,a,l⟩ ⟨yk,yn,yv⟩ ⟨vk,vn,vv⟩ st=(⟨65,yn,0⟩,st) by simp [worF,g65])
  subst g65
  go_region
  go_wp2
  refine body_agg (Tb:=151) (b:=w.heap.size+1) (cs:=[.int .u8 65,.int .i64 yn,.int .u8 0]) (.inr rfl) Tryz.results105 rfl rfl (by (exact blA)) Tryz.underlying151 rfl (by kernel_rfl) ?_
  rw [HV.out]
  exact ⟨rfl,by (show MB _ _ _ _ _);(repeat' (first|with_reducible exact hm|with_reducible refine MB.alloc ?_ _|with_reducible refine MB.drew ?_|with_reducible refine MB.n ?_ _|((with_reducible refine MB.other ?_ _ ?_ ?_);rotate_left;((try dsimp only);omega);((try dsimp only);omega)))),by (exact kpA)⟩
 have f65:(o == 65)=false:=by simp [g65]
 by_cases g66:o=66
 ·have HV:=hide (show worF inp ⟨o,x,y,v,k,t,f,a,l⟩ ⟨yk,yn,yv⟩ ⟨vk,vn,vv⟩ st=(⟨66,0,yk⟩,st) by simp [worF,g66])
  subst g66
  go_region
  go_wp2
  refine body_agg (Tb:=151) (b:=w.heap.size+1) (cs:=[.int .u8 66,.int .i64 0,.int .u8 yk]) (.inr rfl) Tryz.results105 rfl rfl (by (exact blA)) Tryz.underlying151 rfl (by kernel_rfl) ?_
  rw [HV.out]
  exact ⟨rfl,by (show MB _ _ _ _ _);(repeat' (first|with_reducible exact hm|with_reducible refine MB.alloc ?_ _|with_reducible refine MB.drew ?_|with_reducible refine MB.n ?_ _|((with_reducible refine MB.other ?_ _ ?_ ?_);rotate_left;((try dsimp only);omega);((try dsimp only);omega)))),by (exact kpA)⟩
 have f66:(o == 66)=false:=by simp [g66]
 by_cases g63:o=63
 ·have HV:=hide (show worF inp ⟨o,x,y,v,k,t,f,a,l⟩ ⟨yk,yn,yv⟩ ⟨vk,vn,vv⟩ st=nextF inp st by simp [worF,g63])
  subst g63
  go_region
  go_wp2_with fail
  refine (next_c (lb:=lb) (inp:=inp) (st:=st) (by (repeat' (first|with_reducible exact hm|with_reducible refine MB.alloc ?_ _|with_reducible refine MB.drew ?_|with_reducible refine MB.n ?_ _|((with_reducible refine MB.other ?_ _ ?_ ?_);rotate_left;((try dsimp only);omega);((try dsimp only);omega))))) hinp).mono ?_
  rintro e w1 ⟨rfl,h1,k1⟩
  have hR1:Blk w1 (w.heap.size+1) [.int .u8 0,.int .i64 0,.int .u8 0] 151:=k1.blk (by (exact blA)) (by rintro (e|e) <;> omega)
  obtain ⟨r0,r1,r2,rf⟩:=hR1.c3
  generalize nextF inp st=q at *
  obtain ⟨⟨qk,qn,qv⟩,st'⟩:=q
  dsimp only at h1
  simp only [Vl.cells]
  go_wp2
  refine body_agg (Tb:=151) (b:=w.heap.size+1) (cs:=[.int .u8 qk,.int .i64 qn,.int .u8 qv]) (.inr rfl) Tryz.results105 rfl rfl (by (exact blA)) Tryz.underlying151 rfl (by kernel_rfl) ?_
  rw [HV.out]
  exact ⟨rfl,by (show MB _ _ _ _ _);(repeat' (first|with_reducible exact h1|with_reducible refine MB.alloc ?_ _|with_reducible refine MB.drew ?_|with_reducible refine MB.n ?_ _|((with_reducible refine MB.other ?_ _ ?_ ?_);rotate_left;((try dsimp only);omega);((try dsimp only);omega)))),by (exact kpA)⟩
 have f63:(o == 63)=false:=by simp [g63]
 by_cases g46:o=46
 ·have HV:=hide (show worF inp ⟨o,x,y,v,k,t,f,a,l⟩ ⟨yk,yn,yv⟩ ⟨vk,vn,vv⟩ st=(partF ⟨yk,yn,yv⟩,st) by simp [worF,g46])
  subst g46
  go_region
  go_wp2_with fail
  refine (part_c ⟨yk,yn,yv⟩ _).mono ?_
  rintro e w1 ⟨rfl,k1⟩
  have h1:MB w1 m lb inp st:=MB.kp (by (repeat' (first|with_reducible exact hm|with_reducible refine MB.alloc ?_ _|with_reducible refine MB.drew ?_|with_reducible refine MB.n ?_ _|((with_reducible refine MB.other ?_ _ ?_ ?_);rotate_left;((try dsimp only);omega);((try dsimp only);omega))))) k1 no_elim no_elim
  have hR1:Blk w1 (w.heap.size+1) [.int .u8 0,.int .i64 0,.int .u8 0] 151:=k1.blk (by (exact blA)) no_elim
  obtain ⟨r0,r1,r2,rf⟩:=hR1.c3
  have k1':Kp (MK m lb) _ w1:=k1.mono (fun _ e=>e.elim)
  generalize partF ⟨yk,yn,yv⟩=q at *
  obtain ⟨qk,qn,qv⟩:=q
  simp only [Vl.cells]
  go_wp2
  refine body_agg (Tb:=151) (b:=w.heap.size+1) (cs:=[.int .u8 qk,.int .i64 qn,.int .u8 qv]) (.inr rfl) Tryz.results105 rfl rfl (by (exact blA)) Tryz.underlying151 rfl (by kernel_rfl) ?_
  rw [HV.out]
  exact ⟨rfl,by (show MB _ _ _ _ _);(repeat' (first|with_reducible exact h1|with_reducible refine MB.alloc ?_ _|with_reducible refine MB.drew ?_|with_reducible refine MB.n ?_ _|((with_reducible refine MB.other ?_ _ ?_ ?_);rotate_left;((try dsimp only);omega);((try dsimp only);omega)))),by (exact kpA)⟩
 have f46:(o == 46)=false:=by simp [g46]
 by_cases g43:o=43
 ·have HV:=hide (show worF inp ⟨o,x,y,v,k,t,f,a,l⟩ ⟨yk,yn,yv⟩ ⟨vk,vn,vv⟩ st=(⟨110,(yn+vn) % 1000,0⟩,st) by simp [worF,g43])
  subst g43
  obtain ⟨hv6,v0,v1,v2⟩:=hm.vu HVU.out
  dsimp only at v0 v1 v2
  go_region
  go_wp2
  go_region
  go_wp2
  refine body_agg (Tb:=151) (b:=w.heap.size+1) (cs:=[.int .u8 110,.int .i64 ((yn+vn) % 1000),.int .u8 0]) (.inr rfl) Tryz.results105 rfl rfl (by (exact blA)) Tryz.underlying151 rfl (by kernel_rfl) ?_
  rw [HV.out]
  exact ⟨rfl,by (show MB _ _ _ _ _);(repeat' (first|with_reducible exact hm|with_reducible refine MB.alloc ?_ _|with_reducible refine MB.drew ?_|with_reducible refine MB.n ?_ _|((with_reducible refine MB.other ?_ _ ?_ ?_);rotate_left;((try dsimp only);omega);((try dsimp only);omega)))),by (exact kpA)⟩
 have f43:(o == 43)=false:=by simp [g43]
 by_cases g60:o=60
 ·subst g60
  obtain ⟨hv6,v0,v1,v2⟩:=hm.vu HVU.out
  dsimp only at v0 v1 v2
  by_cases hlt:yn<vn
  ·have HV:=hide (show worF inp ⟨60,x,y,v,k,t,f,a,l⟩ ⟨yk,yn,yv⟩ ⟨vk,vn,vv⟩ st=(⟨116,0,0⟩,st) by simp [worF,hlt])
   go_region
   go_wp2
   go_quiet (fail)
   go_wp2
   refine body_agg (Tb:=151) (b:=w.heap.size+1) (cs:=[.int .u8 116,.int .i64 0,.int .u8 0]) (.inr rfl) Tryz.results105 rfl rfl (by (exact blA)) Tryz.underlying151 rfl (by kernel_rfl) ?_
   rw [HV.out]
   exact ⟨rfl,by (show MB _ _ _ _ _);(repeat' (first|with_reducible exact hm|with_reducible refine MB.alloc ?_ _|with_reducible refine MB.drew ?_|with_reducible refine MB.n ?_ _|((with_reducible refine MB.other ?_ _ ?_ ?_);rotate_left;((try dsimp only);omega);((try dsimp only);omega)))),by (exact kpA)⟩
  ·have HV:=hide (show worF inp ⟨60,x,y,v,k,t,f,a,l⟩ ⟨yk,yn,yv⟩ ⟨vk,vn,vv⟩ st=(⟨102,0,0⟩,st) by simp [worF,hlt])
   go_region
   go_wp2
   go_quiet (fail)
   go_wp2
   refine body_agg (Tb:=151) (b:=w.heap.size+1) (cs:=[.int .u8 102,.int .i64 0,.int .u8 0]) (.inr rfl) Tryz.results105 rfl rfl (by (exact blA)) Tryz.underlying151 rfl (by kernel_rfl) ?_
   rw [HV.out]
   exact ⟨rfl,by (show MB _ _ _ _ _);(repeat' (first|with_reducible exact hm|with_reducible refine MB.alloc ?_ _|with_reducible refine MB.drew ?_|with_reducible refine MB.n ?_ _|((with_reducible refine MB.other ?_ _ ?_ ?_);rotate_left;((try dsimp only);omega);((try dsimp only);omega)))),by (exact kpA)⟩
 have f60:(o == 60)=false:=by simp [g60]
 have HV:=hide (show worF inp ⟨o,x,y,v,k,t,f,a,l⟩ ⟨yk,yn,yv⟩ ⟨vk,vn,vv⟩ st=(consF ⟨o,x,y,v,k,t,f,a,l⟩,st) by simp [worF,g60,g118,g65,g66,g63,g46,g43])
 clear g60 g118 g65 g66 g63 g46 g43
 go_region
 go_wp2_with fail
 refine (HC.out _).mono ?_
 rintro e w1 ⟨rfl,k1⟩
 have h1:MB w1 m lb inp st:=MB.kp (by (repeat' (first|with_reducible exact hm|with_reducible refine MB.alloc ?_ _|with_reducible refine MB.drew ?_|with_reducible refine MB.n ?_ _|((with_reducible refine MB.other ?_ _ ?_ ?_);rotate_left;((try dsimp only);omega);((try dsimp only);omega))))) k1 no_elim no_elim
 have hR1:Blk w1 (w.heap.size+1) [.int .u8 0,.int .i64 0,.int .u8 0] 151:=k1.blk (by (exact blA)) no_elim
 obtain ⟨r0,r1,r2,rf⟩:=hR1.c3
 have k1':Kp (MK m lb) _ w1:=k1.mono (fun _ e=>e.elim)
 generalize consF ⟨o,x,y,v,k,t,f,a,l⟩=q at *
 obtain ⟨qk,qn,qv⟩:=q
 simp only [Vl.cells]
 go_wp2
 refine body_agg (Tb:=151) (b:=w.heap.size+1) (cs:=[.int .u8 qk,.int .i64 qn,.int .u8 qv]) (.inr rfl) Tryz.results105 rfl rfl (by (exact blA)) Tryz.underlying151 rfl (by kernel_rfl) ?_
 rw [HV.out]
 exact ⟨rfl,by (show MB _ _ _ _ _);(repeat' (first|with_reducible exact h1|with_reducible refine MB.alloc ?_ _|with_reducible refine MB.drew ?_|with_reducible refine MB.n ?_ _|((with_reducible refine MB.other ?_ _ ?_ ?_);rotate_left;((try dsimp only);omega);((try dsimp only);omega)))),by (exact kpA)⟩
end Go.Proofs.YtellieabhaphhabGreatDoor
namespace Go.Proofs.YtellieabhaphhabGreatDoor
open Go.RowKit
def inK (op k:Int):Bool:=amF k.toNat (takF op).data.toList
def putL (st:Mc) (x:Nat) (u:Vl):Mc:={ st with l:=st.l.set x u }
def doF (inp:ByteArray) (n:Nd) (x:Nat) (xu yu vu:Vl) (st:Mc):Mc :=
 if n.op=33 then { st with e:=6 }
 else if inK n.op yu.k=false then { st with e:=5 }
 else if (n.op=43∨n.op=60)∧inK n.op vu.k=false then { st with e:=5 }
 else if n.op=42 then st
 else if n.op=94 then { st with out:=st.out++spellF yu++sp }
 else if n.op=126 then (if xu.k=n.k then st else { st with e:=7 })
 else putL (worF inp n yu vu st).2 x (worF inp n yu vu st).1
theorem takF_size (o:Int):(takF o).size≤7:=by
 unfold takF;repeat' split
 all_goals decide
structure DoPre (w:World) (m lb:Nat) (inp:ByteArray) (st:Mc) (n:Nd) (x y v:Nat) (xu yu vu:Vl):Prop where
 mb:MB w m lb inp st
 inp:inp.size≤40
 hx:n.x=x
 hy:n.y=y
 hv:n.v=v
 gx:st.l[x]?=some xu
 gy:st.l[y]?=some yu
 gv:st.l[v]?=some vu
 oy:VOk yu
 ov:VOk vu
 k:n.op=48→48≤n.k∧n.k≤57
 out:st.out.size≤100000
 tab:Tab w
 tm:m≠0
 tl:lb≠0
set_option maxHeartbeats 6400000 in
theorem do_never {w:World} {m lb:Nat} {inp:ByteArray} {st:Mc} {n:Nd} {x y v:Nat} {xu yu vu:Vl} (p:DoPre w m lb inp st n x y v xu yu vu) (h1:n.op=33) :
  Calls Tryz.prog 61 #[.pointer (some ⟨m,0,none⟩),.agg #[.int .u8 n.op,.int .i64 n.x,.int .i64 n.y,.int .i64 n.v,.int .u8 n.k,.int .i64 n.t,.int .i64 n.f,.int .i64 n.a,.int .i64 n.l]] w fun e w'=>e=.returned (.tuple #[])∧MB w' m lb inp (doF inp n x xu yu vu st)∧Kp (MK m lb) w w':=by
 obtain ⟨hmb,hinp,hx,hy,hv,hxu,hyu,hvu,oy,ov,hkk,hout,htab,tm,tl⟩:=p
 obtain ⟨o,x',y',v',k,t,f,a,l⟩:=n
 dsimp only at *
 subst hx hy hv
 have HV:=hide (show doF inp ⟨o,x,y,v,k,t,f,a,l⟩ x xu yu vu st={ st with e:=6 } by simp [doF,h1])
 subst h1
 have hlt:=hmb.lt
 obtain ⟨d0,d1,d2,d3,d4,d5,d6,df⟩:=hmb.c
 go_enter Tryz.func61,Tryz.ntmps61
 go_wp2
 refine bodyPost_ret (results_none rfl _ _ _) rfl ?_
 rw [HV.out]
 exact ⟨rfl,(hmb.setE 6).alloc _,by (exact kpA)⟩
set_option maxHeartbeats 6400000 in
theorem do_kind1 {w:World} {m lb:Nat} {inp:ByteArray} {st:Mc} {n:Nd} {x y v:Nat} {xu yu vu:Vl} (p:DoPre w m lb inp st n x y v xu yu vu) (h1:n.op≠33) (h2:inK n.op yu.k=false) :
  Calls Tryz.prog 61 #[.pointer (some ⟨m,0,none⟩),.agg #[.int .u8 n.op,.int .i64 n.x,.int .i64 n.y,.int .i64 n.v,.int .u8 n.k,.int .i64 n.t,.int .i64 n.f,.int .i64 n.a,.int .i64 n.l]] w fun e w'=>e=.returned (.tuple #[])∧MB w' m lb inp (doF inp n x xu yu vu st)∧Kp (MK m lb) w w':=by
 obtain ⟨hmb,hinp,hx,hy,hv,hxu,hyu,hvu,oy,ov,hkk,hout,htab,tm,tl⟩:=p
 obtain ⟨o,x',y',v',k,t,f,a,l⟩:=n
 dsimp only at *
 subst hx hy hv
 have HV:=hide (show doF inp ⟨o,x,y,v,k,t,f,a,l⟩ x xu yu vu st={ st with e:=5 } by simp [doF,h1,h2])
 have f33:(o == 33)=false:=by simp [h1]
 clear h1
 have hlt:=hmb.lt
 obtain ⟨yk,yn,yv⟩:=yu
 obtain ⟨vk,vn,vv⟩:=vu
 obtain ⟨xk,xn,xv⟩:=xu
 obtain ⟨oy1,oy2,oy3⟩:=oy
 obtain ⟨ov1,ov2,ov3⟩:=ov
 dsimp only at *
 obtain ⟨yk,rfl⟩:=Int.eq_ofNat_of_zero_le oy3
 obtain ⟨vk,rfl⟩:=Int.eq_ofNat_of_zero_le ov3
 clear oy3 ov3
 have hts:=takF_size o
 have HT:=hide (takes_c ⟨o,x,y,v,k,t,f,a,l⟩ (w.alloc (.cells #[.int .u8 o,.int .i64 x,.int .i64 y,.int .i64 v,.int .u8 k,.int .i64 t,.int .i64 f,.int .i64 a,.int .i64 l] 111)))
 dsimp only at HT
 have hin:amF yk (takF o).data.toList=false:=h2
 clear h2
 generalize takF o=T at *
 go_enter Tryz.func61,Tryz.ntmps61
 go_wp2_with fail
 refine HT.out.mono ?_
 rintro e w1 ⟨rfl,k1⟩
 go_wp2
 refine wp_gen (fun W=>MB W m lb inp st∧Blk W w.heap.size [.int .u8 o,.int .i64 x,.int .i64 y,.int .i64 v,.int .u8 k,.int .i64 t,.int .i64 f,.int .i64 a,.int .i64 l] 111∧Kp (MK m lb) w W∧Tab W) ⟨MB.kp (by (repeat' (first|with_reducible exact hmb|with_reducible refine MB.alloc ?_ _|with_reducible refine MB.drew ?_|with_reducible refine MB.n ?_ _|((with_reducible refine MB.other ?_ _ ?_ ?_);rotate_left;((try dsimp only);omega);((try dsimp only);omega))))) k1 no_elim no_elim,k1.blk (by (exact blA)) no_elim,Kp.trans (by (exact kpA)) k1 (fun _ _ e=>e.elim),(htab.kp ((Kp.refl no w).alloc _) no_elim).kp k1 no_elim⟩ ?_
 rintro W ⟨hm,hN,hk,htW⟩
 obtain ⟨d0,d1,d2,d3,d4,d5,d6,df⟩:=hm.c
 obtain ⟨hy6,y0,y1,y2⟩:=hm.vu hyu
 obtain ⟨hv6,v0,v1,v2⟩:=hm.vu hvu
 obtain ⟨hx6,x0,x1,x2⟩:=hm.vu hxu
 obtain ⟨n0,n1,n2,n3,n4,n5,n6,n7,n8,nf⟩:=hN.c9
 have hz1:=hN.lt
 obtain ⟨hz2,hz3⟩:=hm.lt
 dsimp only at y0 y1 y2 v0 v1 v2 x0 x1 x2
 go_quiet ((go_at_call 103;exact Calls.quiet_of_same (in_c _ _ _ (by omega))))
 go_wp2
 refine bodyPost_ret (results_none rfl _ _ _) rfl ?_
 rw [HV.out]
 exact ⟨rfl,(hm.n _).setE 5,by (exact kpA)⟩
set_option maxHeartbeats 6400000 in
theorem do_kind2_43 {w:World} {m lb:Nat} {inp:ByteArray} {st:Mc} {n:Nd} {x y v:Nat} {xu yu vu:Vl} (p:DoPre w m lb inp st n x y v xu yu vu) (h0:n.op=43) (h2:inK n.op yu.k=true) (h3:inK n.op vu.k=false) :
  Calls Tryz.prog 61 #[.pointer (some ⟨m,0,none⟩),.agg #[.int .u8 n.op,.int .i64 n.x,.int .i64 n.y,.int .i64 n.v,.int .u8 n.k,.int .i64 n.t,.int .i64 n.f,.int .i64 n.a,.int .i64 n.l]] w fun e w'=>e=.returned (.tuple #[])∧MB w' m lb inp (doF inp n x xu yu vu st)∧Kp (MK m lb) w w':=by
 obtain ⟨hmb,hinp,hx,hy,hv,hxu,hyu,hvu,oy,ov,hkk,hout,htab,tm,tl⟩:=p
 obtain ⟨o,x',y',v',k,t,f,a,l⟩:=n
 dsimp only at *
 subst hx hy hv
 subst h0
 have HV:=hide (show doF inp ⟨43,x,y,v,k,t,f,a,l⟩ x xu yu vu st={ st with e:=5 } by simp [doF,h2,h3])
 have f33:((43:Int) == 33)=false:=by decide
 have hlt:=hmb.lt
 obtain ⟨yk,yn,yv⟩:=yu
 obtain ⟨vk,vn,vv⟩:=vu
 obtain ⟨xk,xn,xv⟩:=xu
 obtain ⟨oy1,oy2,oy3⟩:=oy
 obtain ⟨ov1,ov2,ov3⟩:=ov
 dsimp only at *
 obtain ⟨yk,rfl⟩:=Int.eq_ofNat_of_zero_le oy3
 obtain ⟨vk,rfl⟩:=Int.eq_ofNat_of_zero_le ov3
 clear oy3 ov3
 have hts:=takF_size 43
 have HT:=hide (takes_c ⟨43,x,y,v,k,t,f,a,l⟩ (w.alloc (.cells #[.int .u8 43,.int .i64 x,.int .i64 y,.int .i64 v,.int .u8 k,.int .i64 t,.int .i64 f,.int .i64 a,.int .i64 l] 111)))
 dsimp only at HT
 have hin:amF yk (takF 43).data.toList=true:=h2
 have hin2:amF vk (takF 43).data.toList=false:=h3
 clear h2 h3
 generalize takF 43=T at *
 go_enter Tryz.func61,Tryz.ntmps61
 go_wp2_with fail
 refine HT.out.mono ?_
 rintro e w1 ⟨rfl,k1⟩
 go_wp2
 refine wp_gen (fun W=>MB W m lb inp st∧Blk W w.heap.size [.int .u8 43,.int .i64 x,.int .i64 y,.int .i64 v,.int .u8 k,.int .i64 t,.int .i64 f,.int .i64 a,.int .i64 l] 111∧Kp (MK m lb) w W∧Tab W) ⟨MB.kp (by (repeat' (first|with_reducible exact hmb|with_reducible refine MB.alloc ?_ _|with_reducible refine MB.drew ?_|with_reducible refine MB.n ?_ _|((with_reducible refine MB.other ?_ _ ?_ ?_);rotate_left;((try dsimp only);omega);((try dsimp only);omega))))) k1 no_elim no_elim,k1.blk (by (exact blA)) no_elim,Kp.trans (by (exact kpA)) k1 (fun _ _ e=>e.elim),(htab.kp ((Kp.refl no w).alloc _) no_elim).kp k1 no_elim⟩ ?_
 rintro W ⟨hm,hN,hk,htW⟩
 obtain ⟨d0,d1,d2,d3,d4,d5,d6,df⟩:=hm.c
 obtain ⟨hy6,y0,y1,y2⟩:=hm.vu hyu
 obtain ⟨hv6,v0,v1,v2⟩:=hm.vu hvu
 obtain ⟨hx6,x0,x1,x2⟩:=hm.vu hxu
 obtain ⟨n0,n1,n2,n3,n4,n5,n6,n7,n8,nf⟩:=hN.c9
 have hz1:=hN.lt
 obtain ⟨hz2,hz3⟩:=hm.lt
 dsimp only at y0 y1 y2 v0 v1 v2 x0 x1 x2
 go_quiet ((go_at_call 103;exact Calls.quiet_of_same (in_c _ _ _ (by omega))))
 go_wp2
 refine wp_gen (fun W'=>MB W' m lb inp st∧Blk W' w.heap.size [.int .u8 43,.int .i64 x,.int .i64 y,.int .i64 v,.int .u8 k,.int .i64 t,.int .i64 f,.int .i64 a,.int .i64 l] 111∧Kp (MK m lb) w W'∧Tab W') ⟨hm.n _,hN,hk.drewN _,htW⟩ ?_
 clear d0 d1 d2 d3 d4 d5 d6 df y0 y1 y2 v0 v1 v2 x0 x1 x2 n0 n1 n2 n3 n4 n5 n6 n7 n8 nf hz1 hz2 hz3 hm hN hk htW
 rintro W2 ⟨hm,hN,hk,htW⟩
 obtain ⟨d0,d1,d2,d3,d4,d5,d6,df⟩:=hm.c
 obtain ⟨hy6,y0,y1,y2⟩:=hm.vu hyu
 obtain ⟨hv6,v0,v1,v2⟩:=hm.vu hvu
 obtain ⟨hx6,x0,x1,x2⟩:=hm.vu hxu
 obtain ⟨n0,n1,n2,n3,n4,n5,n6,n7,n8,nf⟩:=hN.c9
 have hz1:=hN.lt
 obtain ⟨hz2,hz3⟩:=hm.lt
 dsimp only at y0 y1 y2 v0 v1 v2 x0 x1 x2
 go_quiet ((go_at_call 103;exact Calls.quiet_of_same (in_c _ _ _ (by omega))))
 go_wp2
 refine bodyPost_ret (results_none rfl _ _ _) rfl ?_
 rw [HV.out]
 exact ⟨rfl,(hm.n _).setE 5,by (exact kpA)⟩
set_option maxHeartbeats 6400000 in
theorem do_kind2_60 {w:World} {m lb:Nat} {inp:ByteArray} {st:Mc} {n:Nd} {x y v:Nat} {xu yu vu:Vl} (p:DoPre w m lb inp st n x y v xu yu vu) (h0:n.op=60) (h2:inK n.op yu.k=true) (h3:inK n.op vu.k=false) :
  Calls Tryz.prog 61 #[.pointer (some ⟨m,0,none⟩),.agg #[.int .u8 n.op,.int .i64 n.x,.int .i64 n.y,.int .i64 n.v,.int .u8 n.k,.int .i64 n.t,.int .i64 n.f,.int .i64 n.a,.int .i64 n.l]] w fun e w'=>e=.returned (.tuple #[])∧MB w' m lb inp (doF inp n x xu yu vu st)∧Kp (MK m lb) w w':=by
 obtain ⟨hmb,hinp,hx,hy,hv,hxu,hyu,hvu,oy,ov,hkk,hout,htab,tm,tl⟩:=p
 obtain ⟨o,x',y',v',k,t,f,a,l⟩:=n
 dsimp only at *
 subst hx hy hv
 subst h0
 have HV:=hide (show doF inp ⟨60,x,y,v,k,t,f,a,l⟩ x xu yu vu st={ st with e:=5 } by simp [doF,h2,h3])
 have f33:((60:Int) == 33)=false:=by decide
 have hlt:=hmb.lt
 obtain ⟨yk,yn,yv⟩:=yu
 obtain ⟨vk,vn,vv⟩:=vu
 obtain ⟨xk,xn,xv⟩:=xu
 obtain ⟨oy1,oy2,oy3⟩:=oy
 obtain ⟨ov1,ov2,ov3⟩:=ov
 dsimp only at *
 obtain ⟨yk,rfl⟩:=Int.eq_ofNat_of_zero_le oy3
 obtain ⟨vk,rfl⟩:=Int.eq_ofNat_of_zero_le ov3
 clear oy3 ov3
 have hts:=takF_size 60
 have HT:=hide (takes_c ⟨60,x,y,v,k,t,f,a,l⟩ (w.alloc (.cells #[.int .u8 60,.int .i64 x,.int .i64 y,.int .i64 v,.int .u8 k,.int .i64 t,.int .i64 f,.int .i64 a,.int .i64 l] 111)))
 dsimp only at HT
 have hin:amF yk (takF 60).data.toList=true:=h2
 have hin2:amF vk (takF 60).data.toList=false:=h3
 clear h2 h3
 generalize takF 60=T at *
 go_enter Tryz.func61,Tryz.ntmps61
 go_wp2_with fail
 refine HT.out.mono ?_
 rintro e w1 ⟨rfl,k1⟩
 go_wp2
 refine wp_gen (fun W=>MB W m lb inp st∧Blk W w.heap.size [.int .u8 60,.int .i64 x,.int .i64 y,.int .i64 v,.int .u8 k,.int .i64 t,.int .i64 f,.int .i64 a,.int .i64 l] 111∧Kp (MK m lb) w W∧Tab W) ⟨MB.kp (by (repeat' (first|with_reducible exact hmb|with_reducible refine MB.alloc ?_ _|with_reducible refine MB.drew ?_|with_reducible refine MB.n ?_ _|((with_reducible refine MB.other ?_ _ ?_ ?_);rotate_left;((try dsimp only);omega);((try dsimp only);omega))))) k1 no_elim no_elim,k1.blk (by (exact blA)) no_elim,Kp.trans (by (exact kpA)) k1 (fun _ _ e=>e.elim),(htab.kp ((Kp.refl no w).alloc _) no_elim).kp k1 no_elim⟩ ?_
 rintro W ⟨hm,hN,hk,htW⟩
 obtain ⟨d0,d1,d2,d3,d4,d5,d6,df⟩:=hm.c
 obtain ⟨hy6,y0,y1,y2⟩:=hm.vu hyu
 obtain ⟨hv6,v0,v1,v2⟩:=hm.vu hvu
 obtain ⟨hx6,x0,x1,x2⟩:=hm.vu hxu
 obtain ⟨n0,n1,n2,n3,n4,n5,n6,n7,n8,nf⟩:=hN.c9
 have hz1:=hN.lt
 obtain ⟨hz2,hz3⟩:=hm.lt
 dsimp only at y0 y1 y2 v0 v1 v2 x0 x1 x2
 go_quiet ((go_at_call 103;exact Calls.quiet_of_same (in_c _ _ _ (by omega))))
 go_wp2
 refine wp_gen (fun W'=>MB W' m lb inp st∧Blk W' w.heap.size [.int .u8 60,.int .i64 x,.int .i64 y,.int .i64 v,.int .u8 k,.int .i64 t,.int .i64 f,.int .i64 a,.int .i64 l] 111∧Kp (MK m lb) w W'∧Tab W') ⟨hm.n _,hN,hk.drewN _,htW⟩ ?_
 clear d0 d1 d2 d3 d4 d5 d6 df y0 y1 y2 v0 v1 v2 x0 x1 x2 n0 n1 n2 n3 n4 n5 n6 n7 n8 nf hz1 hz2 hz3 hm hN hk htW
 rintro W2 ⟨hm,hN,hk,htW⟩
 obtain ⟨d0,d1,d2,d3,d4,d5,d6,df⟩:=hm.c
 obtain ⟨hy6,y0,y1,y2⟩:=hm.vu hyu
 obtain ⟨hv6,v0,v1,v2⟩:=hm.vu hvu
 obtain ⟨hx6,x0,x1,x2⟩:=hm.vu hxu
 obtain ⟨n0,n1,n2,n3,n4,n5,n6,n7,n8,nf⟩:=hN.c9
 have hz1:=hN.lt
 obtain ⟨hz2,hz3⟩:=hm.lt
 dsimp only at y0 y1 y2 v0 v1 v2 x0 x1 x2
 go_quiet ((go_at_call 103;exact Calls.quiet_of_same (in_c _ _ _ (by omega))))
 go_wp2
 refine bodyPost_ret (results_none rfl _ _ _) rfl ?_
 rw [HV.out]
 exact ⟨rfl,(hm.n _).setE 5,by (exact kpA)⟩
set_option maxHeartbeats 6400000 in
theorem do_same {w:World} {m lb:Nat} {inp:ByteArray} {st:Mc} {n:Nd} {x y v:Nat} {xu yu vu:Vl} (p:DoPre w m lb inp st n x y v xu yu vu) (h4:n.op=42) (h2:inK n.op yu.k=true) :
  Calls Tryz.prog 61 #[.pointer (some ⟨m,0,none⟩),.agg #[.int .u8 n.op,.int .i64 n.x,.int .i64 n.y,.int .i64 n.v,.int .u8 n.k,.int .i64 n.t,.int .i64 n.f,.int .i64 n.a,.int .i64 n.l]] w fun e w'=>e=.returned (.tuple #[])∧MB w' m lb inp (doF inp n x xu yu vu st)∧Kp (MK m lb) w w':=by
 obtain ⟨hmb,hinp,hx,hy,hv,hxu,hyu,hvu,oy,ov,hkk,hout,htab,tm,tl⟩:=p
 obtain ⟨o,x',y',v',k,t,f,a,l⟩:=n
 dsimp only at *
 subst hx hy hv
 subst h4
 have HV:=hide (show doF inp ⟨42,x,y,v,k,t,f,a,l⟩ x xu yu vu st=st by simp [doF,h2])
 have f33:((42:Int) == 33)=false:=by decide
 have hlt:=hmb.lt
 obtain ⟨yk,yn,yv⟩:=yu
 obtain ⟨vk,vn,vv⟩:=vu
 obtain ⟨xk,xn,xv⟩:=xu
 obtain ⟨oy1,oy2,oy3⟩:=oy
 obtain ⟨ov1,ov2,ov3⟩:=ov
 dsimp only at *
 obtain ⟨yk,rfl⟩:=Int.eq_ofNat_of_zero_le oy3
 obtain ⟨vk,rfl⟩:=Int.eq_ofNat_of_zero_le ov3
 clear oy3 ov3
 have hts:=takF_size 42
 have HT:=hide (takes_c ⟨42,x,y,v,k,t,f,a,l⟩ (w.alloc (.cells #[.int .u8 42,.int .i64 x,.int .i64 y,.int .i64 v,.int .u8 k,.int .i64 t,.int .i64 f,.int .i64 a,.int .i64 l] 111)))
 dsimp only at HT
 have hin:amF yk (takF 42).data.toList=true:=h2
 clear h2
 generalize takF 42=T at *
 go_enter Tryz.func61,Tryz.ntmps61
 go_wp2_with fail
 refine HT.out.mono ?_
 rintro e w1 ⟨rfl,k1⟩
 go_wp2
 refine wp_gen (fun W=>MB W m lb inp st∧Blk W w.heap.size [.int .u8 42,.int .i64 x,.int .i64 y,.int .i64 v,.int .u8 k,.int .i64 t,.int .i64 f,.int .i64 a,.int .i64 l] 111∧Kp (MK m lb) w W∧Tab W) ⟨MB.kp (by (repeat' (first|with_reducible exact hmb|with_reducible refine MB.alloc ?_ _|with_reducible refine MB.drew ?_|with_reducible refine MB.n ?_ _|((with_reducible refine MB.other ?_ _ ?_ ?_);rotate_left;((try dsimp only);omega);((try dsimp only);omega))))) k1 no_elim no_elim,k1.blk (by (exact blA)) no_elim,Kp.trans (by (exact kpA)) k1 (fun _ _ e=>e.elim),(htab.kp ((Kp.refl no w).alloc _) no_elim).kp k1 no_elim⟩ ?_
 rintro W ⟨hm,hN,hk,htW⟩
 obtain ⟨d0,d1,d2,d3,d4,d5,d6,df⟩:=hm.c
 obtain ⟨hy6,y0,y1,y2⟩:=hm.vu hyu
 obtain ⟨hv6,v0,v1,v2⟩:=hm.vu hvu
 obtain ⟨hx6,x0,x1,x2⟩:=hm.vu hxu
 obtain ⟨n0,n1,n2,n3,n4,n5,n6,n7,n8,nf⟩:=hN.c9
 have hz1:=hN.lt
 obtain ⟨hz2,hz3⟩:=hm.lt
 dsimp only at y0 y1 y2 v0 v1 v2 x0 x1 x2
 go_quiet ((go_at_call 103;exact Calls.quiet_of_same (in_c _ _ _ (by omega))))
 go_wp2
 go_quiet ((go_at_call 103;exact Calls.quiet_of_same (in_c _ _ _ (by omega))))
 go_wp2
 go_end0
 rw [HV.out]
 exact ⟨rfl,hm.n _,by (exact kpA)⟩
set_option maxHeartbeats 6400000 in
theorem do_cast {w:World} {m lb:Nat} {inp:ByteArray} {st:Mc} {n:Nd} {x y v:Nat} {xu yu vu:Vl} (p:DoPre w m lb inp st n x y v xu yu vu) (h4:n.op=126) (h2:inK n.op yu.k=true) :
  Calls Tryz.prog 61 #[.pointer (some ⟨m,0,none⟩),.agg #[.int .u8 n.op,.int .i64 n.x,.int .i64 n.y,.int .i64 n.v,.int .u8 n.k,.int .i64 n.t,.int .i64 n.f,.int .i64 n.a,.int .i64 n.l]] w fun e w'=>e=.returned (.tuple #[])∧MB w' m lb inp (doF inp n x xu yu vu st)∧Kp (MK m lb) w w':=by
 obtain ⟨hmb,hinp,hx,hy,hv,hxu,hyu,hvu,oy,ov,hkk,hout,htab,tm,tl⟩:=p
 obtain ⟨o,x',y',v',k,t,f,a,l⟩:=n
 dsimp only at *
 subst hx hy hv
 subst h4
 have HV:=hide (show doF inp ⟨126,x,y,v,k,t,f,a,l⟩ x xu yu vu st=if xu.k=k then st else { st with e:=7 } by simp [doF,h2])
 have f33:((126:Int) == 33)=false:=by decide
 have hlt:=hmb.lt
 obtain ⟨yk,yn,yv⟩:=yu
 obtain ⟨vk,vn,vv⟩:=vu
 obtain ⟨xk,xn,xv⟩:=xu
 obtain ⟨oy1,oy2,oy3⟩:=oy
 obtain ⟨ov1,ov2,ov3⟩:=ov
 dsimp only at *
 obtain ⟨yk,rfl⟩:=Int.eq_ofNat_of_zero_le oy3
 obtain ⟨vk,rfl⟩:=Int.eq_ofNat_of_zero_le ov3
 clear oy3 ov3
 have hts:=takF_size 126
 have HT:=hide (takes_c ⟨126,x,y,v,k,t,f,a,l⟩ (w.alloc (.cells #[.int .u8 126,.int .i64 x,.int .i64 y,.int .i64 v,.int .u8 k,.int .i64 t,.int .i64 f,.int .i64 a,.int .i64 l] 111)))
 dsimp only at HT
 have hin:amF yk (takF 126).data.toList=true:=h2
 clear h2
 generalize takF 126=T at *
 go_enter Tryz.func61,Tryz.ntmps61
 go_wp2_with fail
 refine HT.out.mono ?_
 rintro e w1 ⟨rfl,k1⟩
 go_wp2
 refine wp_gen (fun W=>MB W m lb inp st∧Blk W w.heap.size [.int .u8 126,.int .i64 x,.int .i64 y,.int .i64 v,.int .u8 k,.int .i64 t,.int .i64 f,.int .i64 a,.int .i64 l] 111∧Kp (MK m lb) w W∧Tab W) ⟨MB.kp (by (repeat' (first|with_reducible exact hmb|with_reducible refine MB.alloc ?_ _|with_reducible refine MB.drew ?_|with_reducible refine MB.n ?_ _|((with_reducible refine MB.other ?_ _ ?_ ?_);rotate_left;((try dsimp only);omega);((try dsimp only);omega))))) k1 no_elim no_elim,k1.blk (by (exact blA)) no_elim,Kp.trans (by (exact kpA)) k1 (fun _ _ e=>e.elim),(htab.kp ((Kp.refl no w).alloc _) no_elim).kp k1 no_elim⟩ ?_
 rintro W ⟨hm,hN,hk,htW⟩
 obtain ⟨d0,d1,d2,d3,d4,d5,d6,df⟩:=hm.c
 obtain ⟨hy6,y0,y1,y2⟩:=hm.vu hyu
 obtain ⟨hv6,v0,v1,v2⟩:=hm.vu hvu
 obtain ⟨hx6,x0,x1,x2⟩:=hm.vu hxu
 obtain ⟨n0,n1,n2,n3,n4,n5,n6,n7,n8,nf⟩:=hN.c9
 have hz1:=hN.lt
 obtain ⟨hz2,hz3⟩:=hm.lt
 dsimp only at y0 y1 y2 v0 v1 v2 x0 x1 x2
 go_quiet ((go_at_call 103;exact Calls.quiet_of_same (in_c _ _ _ (by omega))))
 go_wp2
 refine wp_gen (fun W'=>MB W' m lb inp st∧Blk W' w.heap.size [.int .u8 126,.int .i64 x,.int .i64 y,.int .i64 v,.int .u8 k,.int .i64 t,.int .i64 f,.int .i64 a,.int .i64 l] 111∧Kp (MK m lb) w W'∧Tab W') ⟨hm.n _,hN,hk.drewN _,htW⟩ ?_
 clear d0 d1 d2 d3 d4 d5 d6 df y0 y1 y2 v0 v1 v2 x0 x1 x2 n0 n1 n2 n3 n4 n5 n6 n7 n8 nf hz1 hz2 hz3 hm hN hk htW
 rintro W2 ⟨hm,hN,hk,htW⟩
 obtain ⟨d0,d1,d2,d3,d4,d5,d6,df⟩:=hm.c
 obtain ⟨hy6,y0,y1,y2⟩:=hm.vu hyu
 obtain ⟨hv6,v0,v1,v2⟩:=hm.vu hvu
 obtain ⟨hx6,x0,x1,x2⟩:=hm.vu hxu
 obtain ⟨n0,n1,n2,n3,n4,n5,n6,n7,n8,nf⟩:=hN.c9
 have hz1:=hN.lt
 obtain ⟨hz2,hz3⟩:=hm.lt
 dsimp only at y0 y1 y2 v0 v1 v2 x0 x1 x2
 go_quiet ((go_at_call 103;exact Calls.quiet_of_same (in_c _ _ _ (by omega))))
 go_wp2
 refine wp_gen (fun W'=>MB W' m lb inp st∧Blk W' w.heap.size [.int .u8 126,.int .i64 x,.int .i64 y,.int .i64 v,.int .u8 k,.int .i64 t,.int .i64 f,.int .i64 a,.int .i64 l] 111∧Kp (MK m lb) w W'∧Tab W') ⟨hm.n _,hN,hk.drewN _,htW⟩ ?_
 clear d0 d1 d2 d3 d4 d5 d6 df y0 y1 y2 v0 v1 v2 x0 x1 x2 n0 n1 n2 n3 n4 n5 n6 n7 n8 nf hz1 hz2 hz3 hm hN hk htW
 rintro W3 ⟨hm,hN,hk,htW⟩
 obtain ⟨d0,d1,d2,d3,d4,d5,d6,df⟩:=hm.c
 obtain ⟨hy6,y0,y1,y2⟩:=hm.vu hyu
 obtain ⟨hv6,v0,v1,v2⟩:=hm.vu hvu
 obtain ⟨hx6,x0,x1,x2⟩:=hm.vu hxu
 obtain ⟨n0,n1,n2,n3,n4,n5,n6,n7,n8,nf⟩:=hN.c9
 have hz1:=hN.lt
 obtain ⟨hz2,hz3⟩:=hm.lt
 dsimp only at y0 y1 y2 v0 v1 v2 x0 x1 x2
 by_cases hq:xk=k
 ·subst hq
  go_quiet (fail)
  go_wp2
  go_end0
  rw [HV.out,if_pos trivial]
  exact ⟨rfl,hm.n _,by (exact kpA)⟩
 ·have hq':(xk == k)=false:=by simp [hq]
  have hq'':(xk != k)=true:=by simp [hq]
  have HQ:=hide hq
  clear hq
  go_quiet (fail)
  go_wp2
  go_end0
  rw [HV.out,if_neg HQ.out]
  exact ⟨rfl,(hm.n _).setE 7,by (exact kpA)⟩
theorem spell_size (v:Vl) (h:VOk v):(spellF v).size≤200:=by
 have h1:=itoa_size v.n h.1 (by have:=h.2.1;omega)
 unfold spellF
 repeat' split
 ·omega
 ·rw [ByteArray.size_append];show 1+_≤_;omega
 ·rw [ByteArray.size_append,capF_size];show 1+_≤_;omega
 ·rw [capF_size];omega
set_option maxHeartbeats 6400000 in
theorem do_put {w:World} {m lb:Nat} {inp:ByteArray} {st:Mc} {n:Nd} {x y v:Nat} {xu yu vu:Vl} (p:DoPre w m lb inp st n x y v xu yu vu) (h4:n.op=94) (h2:inK n.op yu.k=true) :
  Calls Tryz.prog 61 #[.pointer (some ⟨m,0,none⟩),.agg #[.int .u8 n.op,.int .i64 n.x,.int .i64 n.y,.int .i64 n.v,.int .u8 n.k,.int .i64 n.t,.int .i64 n.f,.int .i64 n.a,.int .i64 n.l]] w fun e w'=>e=.returned (.tuple #[])∧MB w' m lb inp (doF inp n x xu yu vu st)∧Kp (MK m lb) w w':=by
 obtain ⟨hmb,hinp,hx,hy,hv,hxu,hyu,hvu,oy,ov,hkk,hout,htab,tm,tl⟩:=p
 obtain ⟨o,x',y',v',k,t,f,a,l⟩:=n
 dsimp only at *
 subst hx hy hv
 subst h4
 have HV:=hide (show doF inp ⟨94,x,y,v,k,t,f,a,l⟩ x xu yu vu st={ st with out:=st.out++spellF yu++sp } by simp [doF,h2])
 have hss:=spell_size yu oy
 have HS:=hide (fun W (hW:Tab W)=>spelled_c yu oy.1 (by have:=oy.2.1;omega) W hW)
 generalize spellF yu=S at *
 have f33:((94:Int) == 33)=false:=by decide
 have hlt:=hmb.lt
 obtain ⟨yk,yn,yv⟩:=yu
 obtain ⟨vk,vn,vv⟩:=vu
 obtain ⟨xk,xn,xv⟩:=xu
 obtain ⟨oy1,oy2,oy3⟩:=oy
 obtain ⟨ov1,ov2,ov3⟩:=ov
 dsimp only at *
 obtain ⟨yk,rfl⟩:=Int.eq_ofNat_of_zero_le oy3
 obtain ⟨vk,rfl⟩:=Int.eq_ofNat_of_zero_le ov3
 clear oy3 ov3
 have hts:=takF_size 94
 have HT:=hide (takes_c ⟨94,x,y,v,k,t,f,a,l⟩ (w.alloc (.cells #[.int .u8 94,.int .i64 x,.int .i64 y,.int .i64 v,.int .u8 k,.int .i64 t,.int .i64 f,.int .i64 a,.int .i64 l] 111)))
 dsimp only at HT
 have hin:amF yk (takF 94).data.toList=true:=h2
 clear h2
 have hsp:(ByteArray.mk #[32]).size=1:=rfl
 generalize takF 94=T at *
 go_enter Tryz.func61,Tryz.ntmps61
 go_wp2_with fail
 refine HT.out.mono ?_
 rintro e w1 ⟨rfl,k1⟩
 go_wp2
 refine wp_gen (fun W=>MB W m lb inp st∧Blk W w.heap.size [.int .u8 94,.int .i64 x,.int .i64 y,.int .i64 v,.int .u8 k,.int .i64 t,.int .i64 f,.int .i64 a,.int .i64 l] 111∧Kp (MK m lb) w W∧Tab W) ⟨MB.kp (by (repeat' (first|with_reducible exact hmb|with_reducible refine MB.alloc ?_ _|with_reducible refine MB.drew ?_|with_reducible refine MB.n ?_ _|((with_reducible refine MB.other ?_ _ ?_ ?_);rotate_left;((try dsimp only);omega);((try dsimp only);omega))))) k1 no_elim no_elim,k1.blk (by (exact blA)) no_elim,Kp.trans (by (exact kpA)) k1 (fun _ _ e=>e.elim),(htab.kp ((Kp.refl no w).alloc _) no_elim).kp k1 no_elim⟩ ?_
 rintro W ⟨hm,hN,hk,htW⟩
 obtain ⟨d0,d1,d2,d3,d4,d5,d6,df⟩:=hm.c
 obtain ⟨hy6,y0,y1,y2⟩:=hm.vu hyu
 obtain ⟨hv6,v0,v1,v2⟩:=hm.vu hvu
 obtain ⟨hx6,x0,x1,x2⟩:=hm.vu hxu
 obtain ⟨n0,n1,n2,n3,n4,n5,n6,n7,n8,nf⟩:=hN.c9
 have hz1:=hN.lt
 obtain ⟨hz2,hz3⟩:=hm.lt
 dsimp only at y0 y1 y2 v0 v1 v2 x0 x1 x2
 go_quiet ((go_at_call 103;exact Calls.quiet_of_same (in_c _ _ _ (by omega))))
 go_wp2
 refine wp_gen (fun W'=>MB W' m lb inp st∧Blk W' w.heap.size [.int .u8 94,.int .i64 x,.int .i64 y,.int .i64 v,.int .u8 k,.int .i64 t,.int .i64 f,.int .i64 a,.int .i64 l] 111∧Kp (MK m lb) w W'∧Tab W') ⟨hm.n _,hN,hk.drewN _,htW⟩ ?_
 clear d0 d1 d2 d3 d4 d5 d6 df y0 y1 y2 v0 v1 v2 x0 x1 x2 n0 n1 n2 n3 n4 n5 n6 n7 n8 nf hz1 hz2 hz3 hm hN hk htW
 rintro W2 ⟨hm,hN,hk,htW⟩
 obtain ⟨d0,d1,d2,d3,d4,d5,d6,df⟩:=hm.c
 obtain ⟨hy6,y0,y1,y2⟩:=hm.vu hyu
 obtain ⟨hv6,v0,v1,v2⟩:=hm.vu hvu
 obtain ⟨hx6,x0,x1,x2⟩:=hm.vu hxu
 obtain ⟨n0,n1,n2,n3,n4,n5,n6,n7,n8,nf⟩:=hN.c9
 have hz1:=hN.lt
 obtain ⟨hz2,hz3⟩:=hm.lt
 dsimp only at y0 y1 y2 v0 v1 v2 x0 x1 x2
 go_quiet ((go_at_call 103;exact Calls.quiet_of_same (in_c _ _ _ (by omega))))
 go_wp2
 refine wp_gen (fun W'=>MB W' m lb inp st∧Blk W' w.heap.size [.int .u8 94,.int .i64 x,.int .i64 y,.int .i64 v,.int .u8 k,.int .i64 t,.int .i64 f,.int .i64 a,.int .i64 l] 111∧Kp (MK m lb) w W'∧Tab W') ⟨hm.n _,hN,hk.drewN _,htW⟩ ?_
 clear d0 d1 d2 d3 d4 d5 d6 df y0 y1 y2 v0 v1 v2 x0 x1 x2 n0 n1 n2 n3 n4 n5 n6 n7 n8 nf hz1 hz2 hz3 hm hN hk htW
 rintro W3 ⟨hm,hN,hk,htW⟩
 obtain ⟨d0,d1,d2,d3,d4,d5,d6,df⟩:=hm.c
 obtain ⟨hy6,y0,y1,y2⟩:=hm.vu hyu
 obtain ⟨hv6,v0,v1,v2⟩:=hm.vu hvu
 obtain ⟨hx6,x0,x1,x2⟩:=hm.vu hxu
 obtain ⟨n0,n1,n2,n3,n4,n5,n6,n7,n8,nf⟩:=hN.c9
 have hz1:=hN.lt
 obtain ⟨hz2,hz3⟩:=hm.lt
 dsimp only at y0 y1 y2 v0 v1 v2 x0 x1 x2
 go_region_with (go_at_call 104;refine (HS.out _ (by exact htW)).mono ?_;rintro e w2 ⟨rfl,k2⟩)
 all_goals
  have h2:MB w2 m lb inp st:=MB.kp hm.drew k2 no_elim no_elim
  obtain ⟨e0,e1,e2,e3,e4,e5,e6,ef⟩:=h2.c
  go_wp2
  go_end0
  rw [HV.out]
  exact ⟨rfl,h2.setOut _,((hk.drew).trans k2 (fun _ _ e=>e.elim)).setCell _ (fun _=>.inl rfl)⟩
theorem vset:∀ (l:List Vl) (x:Nat) (u:Vl),x<l.length→(((vCells l).set (x*3) (.int .u8 u.k)).set (x*3+1) (.int .i64 u.n)).set (x*3+2) (.int .u8 u.v)=vCells (l.set x u):=by
 intro l x u hx
 have a1:=flat_set Vl.cells 3 vl3 (fun z=>{ z with k:=u.k }) 0 (.int .u8 u.k) (by decide) (fun z=>rfl) l x hx
 have a2:=flat_set Vl.cells 3 vl3 (fun z=>{ z with n:=u.n }) 1 (.int .i64 u.n) (by decide) (fun z=>rfl) (l.modify x (fun z=>{ z with k:=u.k })) x (by simpa using hx)
 have a3:=flat_set Vl.cells 3 vl3 (fun z=>{ z with v:=u.v }) 2 (.int .u8 u.v) (by decide) (fun z=>rfl) ((l.modify x (fun z=>{ z with k:=u.k })).modify x (fun z=>{ z with n:=u.n })) x (by simpa using hx)
 simp only [Nat.add_zero] at a1
 simp only [vCells]
 rw [a1,a2,a3]
 congr 1
 apply List.ext_getElem
 ·simp
 ·intro i h1 h2
  simp only [List.getElem_modify,List.getElem_set]
  split
  ·rfl
  ·rfl
theorem MB.setV {w:World} {m lb:Nat} {inp:ByteArray} {st:Mc} (h:MB w m lb inp st) (x:Nat) (u:Vl) (hx:x<6) :
  MB (((w.setCell ⟨lb,x*3,none⟩ (.int .u8 u.k)).setCell ⟨lb,x*3+1,none⟩ (.int .i64 u.n)).setCell ⟨lb,x*3+2,none⟩ (.int .u8 u.v)) m lb inp (putL st x u):=by
 have h6:=h.six
 refine ⟨((h.b.other _ h.ne).other _ h.ne).other _ h.ne,?_,h.ne,by simpa [putL] using h6⟩
 have:=((h.l.set (x*3) (.int .u8 u.k)).set (x*3+1) (.int .i64 u.n)).set (x*3+2) (.int .u8 u.v)
 rw [vset st.l x u (by omega)] at this
 exact this
end Go.Proofs.YtellieabhaphhabGreatDoor
