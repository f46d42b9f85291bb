import Derived.Test.YtellieabhaphhabGreatDoorPAllJ
namespace Go.Proofs.YtellieabhaphhabGreatDoor
open Go.RowKit
abbrev DRow (w:World) (v:Value) (l:List Nd):Prop:=Row w v 111 9 l.length (nCells l)
theorem DRow.shape {w:World} {v:Value} {l:List Nd} (h:DRow w v l):∃ a cap,v=.slice a l.length cap:=by
 rcases h.2 with ⟨rfl,h0⟩|⟨g,cap,cur,rfl,_⟩
 ·exact ⟨none,0,by rw [h0]⟩
 ·exact ⟨_,_,rfl⟩
theorem DRow.at {w:World} {a:Option Addr} {cap:Nat} {l:List Nd} (h:DRow w (.slice a l.length cap) l) {k:Nat} {n:Nd} (hk:l[k]?=some n) :
  k<l.length∧∃ g,a=some ⟨g,0,none⟩∧g<w.heap.size∧w.cell? ⟨g,k*9,none⟩=some (.int .u8 n.op)∧w.cell? ⟨g,k*9+1,none⟩=some (.int .i64 n.x)∧w.cell? ⟨g,k*9+2,none⟩=some (.int .i64 n.y)∧w.cell? ⟨g,k*9+3,none⟩=some (.int .i64 n.v)∧w.cell? ⟨g,k*9+4,none⟩=some (.int .u8 n.k)∧w.cell? ⟨g,k*9+5,none⟩=some (.int .i64 n.t)∧w.cell? ⟨g,k*9+6,none⟩=some (.int .i64 n.f)∧w.cell? ⟨g,k*9+7,none⟩=some (.int .i64 n.a)∧w.cell? ⟨g,k*9+8,none⟩=some (.int .i64 n.l):=by
 obtain ⟨hl,rfl⟩:=List.getElem?_eq_some_iff.1 hk
 obtain ⟨g,cap',e,_,hg⟩:=World.ownsRow.form h (by omega)
 injection e with e1 e2 e3
 subst e1
 have hc:∀ j,j<9→w.cell? ⟨g,k*9+j,none⟩=l[k].cells[j]?:=fun j hj=>by
  rw [Row.cell h _ (by have:=Nat.mul_le_mul_right 9 hl;omega)]
  exact flat_get Nd.cells 9 nd9 l k j hl hj
 have hlt:=Row.lt h (b:=g) rfl
 exact ⟨hl,g,rfl,hlt,hc 0 (by decide),hc 1 (by decide),hc 2 (by decide),hc 3 (by decide),hc 4 (by decide),hc 5 (by decide),hc 6 (by decide),hc 7 (by decide),hc 8 (by decide)⟩
theorem DRow.at2 {w:World} {g cap:Nat} {l:List Nd} (h:DRow w (.slice (some ⟨g,0,none⟩) l.length cap) l) {k:Nat} {n:Nd} (hk:l[k]?=some n) :
  g<w.heap.size∧w.cell? ⟨g,k*9,none⟩=some (.int .u8 n.op)∧w.cell? ⟨g,k*9+1,none⟩=some (.int .i64 n.x)∧w.cell? ⟨g,k*9+2,none⟩=some (.int .i64 n.y)∧w.cell? ⟨g,k*9+3,none⟩=some (.int .i64 n.v)∧w.cell? ⟨g,k*9+4,none⟩=some (.int .u8 n.k)∧w.cell? ⟨g,k*9+5,none⟩=some (.int .i64 n.t)∧w.cell? ⟨g,k*9+6,none⟩=some (.int .i64 n.f)∧w.cell? ⟨g,k*9+7,none⟩=some (.int .i64 n.a)∧w.cell? ⟨g,k*9+8,none⟩=some (.int .i64 n.l):=by
 obtain ⟨_,g',e,h2⟩:=DRow.at h hk
 injection e with e
 injection e with e
 subst e
 exact h2
structure LSc (w:World) (tp tb n:Nat) (T:Tbl) (g:Bool) (v:Value) (l:List Nd):Prop where
 t:TbR w tp tb n T g
 r:DRow w v l
 o1:v.ownBlock≠some tp
 o2:v.ownBlock≠some tb
theorem LSc.kp {w w':World} {tp tb n:Nat} {T:Tbl} {g:Bool} {v:Value} {l:List Nd} (h:LSc w tp tb n T g v l) (k:Kp no w w'):LSc w' tp tb n T g v l :=
 ⟨h.t.kp k,k.row h.r (fun _ _=>no_elim),h.o1,h.o2⟩
theorem LSc.tk {w w':World} {tp tb n:Nat} {T T':Tbl} {g g':Bool} {v:Value} {l:List Nd} (h:LSc w tp tb n T g v l) (k:Kp (TK tp tb) w w') (t:TbR w' tp tb n T' g'):LSc w' tp tb n T' g' v l :=
 ⟨t,k.row h.r (fun b hb e=>by rcases e with rfl|rfl;exact h.o1 hb;exact h.o2 hb),h.o1,h.o2⟩
theorem LSc.turn {w:World} {tp tb n:Nat} {T:Tbl} {g:Bool} {v:Value} {l:List Nd} (h:LSc w tp tb n T g v l) (b:Bool):LSc (w.setCell ⟨tp,1,none⟩ (.bool b)) tp tb n T b v l :=
 ⟨h.t.turn b,Row.set h.r _ h.o1,h.o1,h.o2⟩
theorem info_ss:(Tryz.prog.info? 122).map (fun i=>(i.zero,i.size,i.bytes))=some (some (.slice none 0 0),1,24):=by kernel_rfl
theorem row_blk {w:World} {b n:Nat} {T:TypeId} {vs:List Value} (h:Row w (.slice (some ⟨b,0,none⟩) n n) T 1 n vs):vs.length=n∧Blk w b vs T:=by
 rcases h.2 with ⟨e,_⟩|⟨g,cap,cur,e,_,hg,_,_,hs,ht⟩
 ·cases e
 ·injection e with e1 e2 e3
  injection e1 with e1
  injection e1 with e1
  subst e1 e3
  refine ⟨by rw [h.1,Nat.mul_one],?_⟩
  rw [Nat.mul_one] at hs ht
  rw [List.take_of_length_le (by simp [hs])] at ht
  unfold Blk
  rw [hg,← ht]
theorem made_nil (n:Nat):(madeCells (Value.slice none 0 0).cells (n*1)).toList=List.replicate n (.slice none 0 0):=by
 rw [Nat.mul_one]
 apply List.ext_getElem
 ·simp [madeCells]
 ·intro i h1 h2
  simp [madeCells,Value.cells,Nat.mod_one]
def TV (w:World) (v:Value) (T:Tbl):Prop :=
 ∃ tb cap,v=.slice (some ⟨tb,0,none⟩) T.length cap∧tb<w.heap.size∧∀ i,i<T.length→∃ a c,w.cell? ⟨tb,i,none⟩=some (.slice a (T.getD i []).length c)∧SV w (.slice a (T.getD i []).length c) (T.getD i [])
theorem start_s (w:World) :
  Calls Tryz.prog 106 #[] w fun e w'=>∃ au cu,e=.returned (.slice au 6 cu)∧SV w' (.slice au 6 cu) [8,8,8,8,8,8]∧New w (.slice au 6 cu)∧Kp no w w' :=
 (start_c w).mono fun e w' ⟨u,h1,h2,h3,h4⟩=>by
  obtain ⟨a,c,rfl⟩:=h2.shape
  exact ⟨a,c,h1,h2,h3,h4⟩
theorem New.ne {w:World} {v:Value} {b:Nat} (h:New w v) (hb:b<w.heap.size):v.ownBlock≠some b:=fun e=>by have:=h b e;omega
def SB (w:World) (tp tb:Nat) (u:Value) (s:St):Prop:=SV w u s∧u.ownBlock≠some tp∧u.ownBlock≠some tb
theorem SB.tk {w w':World} {tp tb:Nat} {u:Value} {s:St} (h:SB w tp tb u s) (k:Kp (TK tp tb) w w'):SB w' tp tb u s :=
 ⟨k.row h.1 (fun b hb e=>by rcases e with rfl|rfl;exact h.2.1 hb;exact h.2.2 hb),h.2⟩
theorem SB.kp {w w':World} {tp tb:Nat} {u:Value} {s:St} (h:SB w tp tb u s) (k:Kp no w w'):SB w' tp tb u s:=⟨k.row h.1 (fun _ _=>no_elim),h.2⟩
theorem lsc_tv {w:World} {tp tb n:Nat} {T:Tbl} {g:Bool} {v:Value} {l:List Nd} (h:LSc w tp tb n T g v l) (hn:l.length≤n):TV w (.slice (some ⟨tb,0,none⟩) l.length n) (T.take l.length):=by
 have hl:(T.take l.length).length=l.length:=by rw [List.length_take,h.t.len];omega
 refine ⟨tb,n,by rw [hl],h.t.c.2.2.2.2.2,fun i hi=>?_⟩
 rw [hl] at hi
 obtain ⟨a,c,q0,q1,_⟩:=h.t.at (i:=i) (by omega)
 rw [getD_take hi]
 exact ⟨a,c,q0,q1⟩
set_option maxRecDepth 100000 in
set_option maxHeartbeats 6400000 in
theorem least_c (v:Value) (l:List Nd) (w:World) (h:DRow w v l) (hl:l.length≤90) (hg:∀ n∈l,Gn n) :
  Calls Tryz.prog 63 #[v] w fun e w'=>∃ u,e=.returned u∧TV w' u (lstF l)∧Kp no w w':=by
 obtain ⟨i0,hi,hz0,hz1,hz2⟩:=info_parts info_ss
 obtain ⟨a,cap,rfl⟩:=h.shape
 have HD:=hide h
 clear h
 go_enter Tryz.func63,Tryz.ntmps63
 go_wp2_with (at_make;refine wpList_make_full _ rfl (.tmp 12) (.tmp 12) 120 rfl 0 122 i0 _ 1 Tryz.underlying120 hi hz0 hz1 .i64 .i64 _ _ (l.length+1) (by simp [Act.eval];rfl) (by simp [Act.eval];rfl) (by push_cast;rfl) (by push_cast;rfl) (by rw [hz2];omega) (by unfold maxLen;omega) (Nat.zero_le _) ?_;intro w1 hrow hgrow)
 have hT0:LSc (w1.alloc (.cells #[.slice (some ⟨w.heap.size,0,none⟩) (l.length+1) (l.length+1),.bool true] 164)) w1.heap.size w.heap.size (l.length+1) (List.replicate (l.length+1) []) true (.slice a l.length cap) l:=by
  have k1:Kp no w w1:=(Kp.refl _ _).grown hgrow (fun k _ e=>by cases e)
  obtain ⟨b1,b2⟩:=row_blk hrow
  rw [made_nil] at b1 b2
  have hb:=b2.lt
  refine ⟨⟨by (exact blA),by omega,by simp,_,b1,b2.alloc _,?_⟩,World.ownsRow.alloc (k1.row HD.out (fun _ _=>no_elim)) _,?_,?_⟩
  ·intro i v hv
   obtain ⟨h1,rfl⟩:=List.getElem?_eq_some_iff.1 hv
   rw [List.getElem_replicate]
   refine ⟨?_,by simp [Value.ownBlock],by simp [Value.ownBlock]⟩
   have:(List.replicate (l.length+1) ([]:St)).getD i []=[]:=by rw [List.getD_eq_getElem?_getD,List.getElem?_replicate];split <;> rfl
   rw [this]
   exact SV.nil _
  ·intro e;have:=Row.lt HD.out e;have:=k1.size;omega
  ·intro e;have:=Row.lt HD.out e;omega
 have hk0:Kp no w (w1.alloc (.cells #[.slice (some ⟨w.heap.size,0,none⟩) (l.length+1) (l.length+1),.bool true] 164)):=((Kp.refl _ _).grown hgrow (fun k _ e=>by cases e)).alloc _
 have hs1:=hgrow.size
 refine wp_gen (fun W=>LSc W w1.heap.size w.heap.size (l.length+1) (List.replicate (l.length+1) []) true (.slice a l.length cap) l∧Kp no w W) ⟨hT0,hk0⟩ ?_
 clear hT0 hk0 hrow hgrow
 rintro W ⟨hW,kW⟩
 generalize w1.heap.size=tp at *
 obtain ⟨tb,htb⟩:∃ tb,tb=w.heap.size:=⟨_,rfl⟩
 rw [← htb] at hW ⊢
 have HTB:=hide htb
 have HTP:=hide hs1
 have HWW:=hide hW
 obtain ⟨c0,c1,cf,cg,cl,cm⟩:=hW.t.c
 obtain ⟨a0,cap0,q0,_⟩:=hW.t.at (i:=0) (by omega)
 rw [show ((List.replicate (l.length+1) ([]:St)).getD 0 []).length=0 from rfl] at q0
 have hne:=hW.t.ne
 clear hs1 hW htb
 have b0:(0:Int)<(l.length:Int)+1:=by omega
 go_cut [] from 10 (fun W5=>LSc W5 tp tb (l.length+1) (tR l.length) true (.slice a l.length cap) l∧Kp no w W5)
 case first =>
  go_region_with (go_at_call 106;refine (start_s _).mono ?_;rintro e w5 ⟨au,cu,rfl,hu,hnew,k5⟩;have k5':Kp no W w5:=Kp.trans (by (exact kpA)) k5 (fun _ _ e=>e);have HW5:=hide (HWW.out.kp k5');obtain ⟨c0,c1,cf,cg,cl,cm⟩:=HW5.out.t.c;obtain ⟨a0,cap0,q0,_⟩:=HW5.out.t.at (i:=0) (by omega);rw [show ((List.replicate (l.length+1) ([]:St)).getD 0 []).length=0 from rfl] at q0)
  all_goals
   go_wp2
   go_meet
   case rel =>
    have hc:=HWW.out.t.c
    have hn1:Value.ownBlock (.slice au 6 cu)≠some tp:=fun e=>by have:=hnew _ e;have:=hc.2.2.2.2.1;simp at *;omega
    have hn2:Value.ownBlock (.slice au 6 cu)≠some tb:=fun e=>by have:=hnew _ e;have:=hc.2.2.2.2.2;simp at *;omega
    exact ⟨⟨HW5.out.t.set (i:=0) (by omega) hu hn1 hn2,Row.set HW5.out.r _ HW5.out.o2,HW5.out.o1,HW5.out.o2⟩,(kW.trans k5' (fun _ _ e=>e)).setCell _ (fun hb=>by have:=HTB.out;dsimp only at hb;omega)⟩
 case rest =>
  obtain ⟨hW2,kW2⟩:=hcut
  have HW2:=hide hW2
  have HK2:=hide kW2
  have HTR:=hide (show TOk (tR l.length) from tR_ok _)
  clear hW2 kW2 HWW kW c0 c1 cf cg cl cm q0 b0
  go_wp2
  go_loopg [4] 4000 (fun k nv wr=>∃ m:Nat,m≤4000∧k=4000-m∧nv=.int .i64 m∧∃ g,LSc wr tp tb (l.length+1) (itF l m (tR l.length)) g (.slice a l.length cap) l∧(g=false→(swpF l 0 (itF l m (tR l.length))).1=itF l m (tR l.length))∧Kp no w wr)
  case atStart=>exact ⟨0,Nat.zero_le _,rfl,rfl,true,HW2.out,(fun e=>by cases e),HK2.out⟩
  case round =>
   obtain ⟨m,hm,hk,rfl,g,hS,hfx,kr⟩:=hrel
   have HKK:=hide hk
   have HS:=hide hS
   have HFX:=hide hfx
   have HKR:=hide kr
   obtain ⟨c0,c1,cf,cg,cl,cm⟩:=hS.t.c
   have HOK:=hide (TOk.it (l:=l) (k:=m) HTR.out)
   have HIT:=hide (it_succ l m (tR l.length))
   clear hk hS hfx kr
   by_cases hlt:m<4000
   ·have hmI:(m:Int)<4000:=by omega
    cases g
    ·have HRS:=hide (show itF l 4000 (tR l.length)=itF l m (tR l.length) from it_rest l _ m (HFX.out rfl) 4000 hm)
     go_wp2
     go_ret
     refine ⟨_,rfl,?_,HKR.out⟩
     unfold lstF
     rw [HRS.out]
     exact lsc_tv HS.out (by omega)
    ·generalize itF l m (tR l.length)=T at *
     go_wp2
     go_loopg [5] l.length (fun k iv wx=>∃ j:Nat,j≤l.length∧k=l.length-j∧iv=.int .i64 j∧LSc wx tp tb (l.length+1) (swpF (l.take j) 0 T).1 (swpF (l.take j) 0 T).2 (.slice a l.length cap) l∧Kp no w wx)
     case atStart=>exact ⟨0,Nat.zero_le _,rfl,rfl,HS.out.turn false,HKR.out.setCell _ (fun hb=>by have:=HTP.out;dsimp only at hb;omega)⟩
     case round =>
      obtain ⟨j,hj,hk2,rfl,hS2,kx⟩:=hrel
      have HKK2:=hide hk2
      have HB0:=hide hS2
      have HKB0:=hide kx
      clear hk2 hS2 kx c0 c1 cf cg cl cm
      by_cases hlt:j<l.length
      ·obtain ⟨nd,hnd⟩:∃ nd,l[j]?=some nd:=⟨_,List.getElem?_eq_getElem hlt⟩
       have HND:=hide hnd
       have HGN:=hide (hg nd (List.mem_of_getElem? hnd))
       have HSN:=hide (show swpF (l.take (j+1)) 0 T=((pasF nd j (swpF (l.take j) 0 T).1).1,(swpF (l.take j) 0 T).2 || (pasF nd j (swpF (l.take j) 0 T).1).2) by
        obtain ⟨h1,rfl⟩:=List.getElem?_eq_some_iff.1 hnd
        rw [List.take_succ_eq_append_getElem h1,swp_snoc,List.length_take,Nat.min_eq_left hj,Nat.zero_add])
       have HTO:=hide (TOk.swp (l:=l.take j) (i:=0) HOK.out)
       obtain ⟨_,gn,ha,_⟩:=DRow.at HB0.out.r hnd
       subst ha
       clear hnd
       generalize swpF (l.take j) 0 T=TG at *
       obtain ⟨T1,g1⟩:=TG
       dsimp only at HSN HTO HB0
       have HSO:=hide (HTO.out.get j)
       generalize hss:T1.getD j []=S at *
       have HSS:=hide hss
       clear hss
       obtain ⟨gnl,n0,n1,n2,n3,n4,n5,n6,n7,n8⟩:=DRow.at2 HB0.out.r HND.out;obtain ⟨c0,c1,cf,cg,cl,cm⟩:=HB0.out.t.c;obtain ⟨a1,p1,q0,q1,q2,q3⟩:=HB0.out.t.at (i:=j) (by omega);rw [HSS.out] at q0 q1 q2 q3
       have hjI:(j:Int)<l.length:=by omega
       have hjI2:(j:Int)<(l.length:Int)+1:=by omega
       go_wp2_with fail
       refine (ftest_c nd _).mono ?_
       rintro e wB ⟨rfl,k1⟩
       have HB:=hide (HB0.out.kp k1)
       have HKB:=hide (HKB0.out.trans k1 (fun _ _ e=>e))
       clear gnl n0 n1 n2 n3 n4 n5 n6 n7 n8 c0 c1 cf cg cl cm q0 q1 q2 q3
       obtain ⟨gnl,n0,n1,n2,n3,n4,n5,n6,n7,n8⟩:=DRow.at2 HB.out.r HND.out;obtain ⟨c0,c1,cf,cg,cl,cm⟩:=HB.out.t.c;obtain ⟨a1,p1,q0,q1,q2,q3⟩:=HB.out.t.at (i:=j) (by omega);rw [HSS.out] at q0 q1 q2 q3
       by_cases hS0:S=[]
       ·have HP:=hide (show pasF nd j T1=(T1,false) by rw [pasF,HSS.out,if_pos hS0])
        subst hS0
        generalize decide (nd.op=121∨nd.op=58)=tst at *
        cases tst
        all_goals
         go_wp2
         go_roundg (l.length-(j+1))
         case measure=>have:=HKK2.out;omega
         case rel=>exact ⟨j+1,by omega,rfl,by go_num,by rw [HSN.out,HP.out,Bool.or_false];exact HB.out,HKB.out⟩
       ·have h6:S.length=6:=(HSO.out.resolve_left hS0).1
        have hSI:(0:Int)<(S.length:Int):=by omega
        clear h6
        by_cases ht:nd.op=121∨nd.op=58
        ·have htt:nd.op=121∨nd.op=58:=ht
         have HTT:=hide htt
         rw [decide_eq_true htt]
         have HP:=hide (show pasF nd j T1=((intoF (intoF T1 nd.t (hldF nd true S)).1 nd.f (hldF nd false S)).1,(intoF T1 nd.t (hldF nd true S)).2 || (intoF (intoF T1 nd.t (hldF nd true S)).1 nd.f (hldF nd false S)).2) by rw [pasF,HSS.out,if_neg hS0,if_pos htt])
         clear ht htt
         go_wp2_with fail
         go_cut [7] from 1000 (fun av W5=>SB W5 tp tb av (hldF nd true S)∧LSc W5 tp tb (l.length+1) T1 g1 (.slice (some ⟨gn,0,none⟩) l.length cap) l∧Kp no w W5)
         case first =>
          go_region_with (go_at_call 66;refine (fholds_c nd _ S true _ (Kp.row (S:=no) (by (exact kpA)) q1 (fun _ _=>no_elim)) HSO.out hS0 HGN.out HTT.out).mono ?_;rintro e w5 ⟨u,rfl,hu,hnew,k5⟩)
          all_goals
           go_wp2
           go_meet
           case rel =>
            have k6:Kp no wB w5:=Kp.trans (by (exact kpA)) k5 (fun _ _ e=>e)
            exact ⟨⟨hu,hnew.ne (by simpa using cl),hnew.ne (by simpa using cm)⟩,HB.out.kp (by (exact kpA)),HKB.out.trans (S':=no) (by (exact kpA)) (fun _ _ e=>e)⟩
         case rest =>
          obtain ⟨hA,hC1,kC1⟩:=hcut
          have HA:=hide hA
          have HC:=hide hC1
          have HKC:=hide kC1
          clear hA hC1 kC1
          clear gnl n0 n1 n2 n3 n4 n5 n6 n7 n8 c0 c1 cf cg cl cm q0 q1 q2 q3
          obtain ⟨gnl,n0,n1,n2,n3,n4,n5,n6,n7,n8⟩:=DRow.at2 HC.out.r HND.out;obtain ⟨c0,c1,cf,cg,cl,cm⟩:=HC.out.t.c;obtain ⟨a1,p1,q0,q1,q2,q3⟩:=HC.out.t.at (i:=j) (by omega);rw [HSS.out] at q0 q1 q2 q3
          go_wp2_with fail
          go_cut [8] from 1000 (fun av W5=>SB W5 tp tb av (hldF nd false S)∧LSc W5 tp tb (l.length+1) T1 g1 (.slice (some ⟨gn,0,none⟩) l.length cap) l∧Kp no w W5∧SB W5 tp tb u7 (hldF nd true S))
          case first =>
           go_region_with (go_at_call 66;refine (fholds_c nd _ S false _ (Kp.row (S:=no) (by (exact kpA)) q1 (fun _ _=>no_elim)) HSO.out hS0 HGN.out HTT.out).mono ?_;rintro e w5 ⟨u,rfl,hu,hnew,k5⟩)
           all_goals
            go_wp2
            go_meet
            case rel =>
             have k6:Kp no wc w5:=Kp.trans (by (exact kpA)) k5 (fun _ _ e=>e)
             exact ⟨⟨hu,hnew.ne (by simpa using cl),hnew.ne (by simpa using cm)⟩,HC.out.kp (by (exact kpA)),HKC.out.trans (S':=no) (by (exact kpA)) (fun _ _ e=>e),HA.out.kp (by (exact kpA))⟩
          case rest =>
           obtain ⟨hB2,hC2,kC2,hA2⟩:=hcut
           rename_i wc2
           have HA2:=hide hA2
           have HB2:=hide hB2
           have HC2:=hide hC2
           have HKC2:=hide kC2
           clear hB2 hC2 kC2 hA2 HA HC HKC
           clear gnl n0 n1 n2 n3 n4 n5 n6 n7 n8 c0 c1 cf cg cl cm q0 q1 q2 q3
           obtain ⟨gnl,n0,n1,n2,n3,n4,n5,n6,n7,n8⟩:=DRow.at2 HC2.out.r HND.out;obtain ⟨c0,c1,cf,cg,cl,cm⟩:=HC2.out.t.c
           go_wp2_with fail
           refine (into_c tp tb (l.length+1) T1 g1 nd.t _ _ _ HC2.out.t HTO.out HA2.out.1 (HSO.out.hld nd true) HA2.out.2.1 HA2.out.2.2).mono ?_
           rintro e w6 ⟨rfl,hT6,k6⟩
           have HC3:=hide (HC2.out.tk k6 hT6)
           have HB3:=hide (HB2.out.tk k6)
           have HKC3:=hide (HKC2.out.trans k6 (fun x hx e=>by have:=HTB.out;have:=HTP.out;rcases e with rfl|rfl <;> omega))
           have HTO3:=hide (HTO.out.into nd.t (HSO.out.hld nd true))
           clear hT6 k6
           clear gnl n0 n1 n2 n3 n4 n5 n6 n7 n8 c0 c1 cf cg cl cm
           obtain ⟨gnl,n0,n1,n2,n3,n4,n5,n6,n7,n8⟩:=DRow.at2 HC3.out.r HND.out;obtain ⟨c0,c1,cf,cg,cl,cm⟩:=HC3.out.t.c
           go_wp2_with fail
           refine (into_c tp tb (l.length+1) _ _ nd.f _ _ _ HC3.out.t HTO3.out HB3.out.1 (HSO.out.hld nd false) HB3.out.2.1 HB3.out.2.2).mono ?_
           rintro e w7 ⟨rfl,hT7,k7⟩
           have HC4:=hide (HC3.out.tk k7 hT7)
           have HKC4:=hide (HKC3.out.trans k7 (fun x hx e=>by have:=HTB.out;have:=HTP.out;rcases e with rfl|rfl <;> omega))
           go_wp2
           go_roundg (l.length-(j+1))
           case measure=>have:=HKK2.out;omega
           case rel=>exact ⟨j+1,by omega,rfl,by go_num,by rw [HSN.out,HP.out,← Bool.or_assoc];exact HC4.out,HKC4.out⟩
        ·have HTT:=hide ht
         rw [decide_eq_false ht]
         have HP:=hide (show pasF nd j T1=intoF T1 nd.t (behF nd S) by rw [pasF,HSS.out,if_neg hS0,if_neg ht])
         clear ht
         go_wp2_with fail
         go_cut [9] from 1000 (fun av W5=>SB W5 tp tb av (behF nd S)∧LSc W5 tp tb (l.length+1) T1 g1 (.slice (some ⟨gn,0,none⟩) l.length cap) l∧Kp no w W5)
         case first =>
          go_region_with (go_at_call 68;refine (fbehind_c nd _ S _ (Kp.row (S:=no) (by (exact kpA)) q1 (fun _ _=>no_elim)) HSO.out hS0 HGN.out HTT.out).mono ?_;rintro e w5 ⟨u,rfl,hu,hor,k5⟩)
          all_goals
           go_wp2
           go_meet
           case rel =>
            have k6:Kp no wB w5:=Kp.trans (by (exact kpA)) k5 (fun _ _ e=>e)
            exact ⟨⟨hu,by rcases hor with rfl|hnew;exact q2;exact hnew.ne (by simpa using cl),by rcases hor with rfl|hnew;exact q3;exact hnew.ne (by simpa using cm)⟩,HB.out.kp (by (exact kpA)),HKB.out.trans (S':=no) (by (exact kpA)) (fun _ _ e=>e)⟩
         case rest =>
          obtain ⟨hA,hC1,kC1⟩:=hcut
          have HA:=hide hA
          have HC:=hide hC1
          have HKC:=hide kC1
          clear hA hC1 kC1
          clear gnl n0 n1 n2 n3 n4 n5 n6 n7 n8 c0 c1 cf cg cl cm q0 q1 q2 q3
          obtain ⟨gnl,n0,n1,n2,n3,n4,n5,n6,n7,n8⟩:=DRow.at2 HC.out.r HND.out;obtain ⟨c0,c1,cf,cg,cl,cm⟩:=HC.out.t.c
          go_wp2_with fail
          refine (into_c tp tb (l.length+1) T1 g1 nd.t _ _ _ HC.out.t HTO.out HA.out.1 (HSO.out.beh nd) HA.out.2.1 HA.out.2.2).mono ?_
          rintro e w6 ⟨rfl,hT6,k6⟩
          have HC3:=hide (HC.out.tk k6 hT6)
          have HKC3:=hide (HKC.out.trans k6 (fun x hx e=>by have:=HTB.out;have:=HTP.out;rcases e with rfl|rfl <;> omega))
          go_wp2
          go_roundg (l.length-(j+1))
          case measure=>have:=HKK2.out;omega
          case rel=>exact ⟨j+1,by omega,rfl,by go_num,by rw [HSN.out,HP.out];exact HC3.out,HKC3.out⟩
      ·obtain rfl:j=l.length:=by omega
       rw [List.take_length] at HB0
       go_wp2
       go_roundg (4000-(m+1))
       case measure=>have:=HKK.out;omega
       case rel=>exact ⟨m+1,by omega,rfl,by go_num,(swpF l 0 T).2,by rw [HIT.out];exact HB0.out,by rw [HIT.out];exact fun e=>by rw [swp_same e];exact swp_same e,HKB0.out⟩
   ·obtain rfl:m=4000:=by omega
    cases g
    all_goals
     go_wp2
     go_ret
     refine ⟨_,rfl,?_,HKR.out⟩
     unfold lstF
     exact lsc_tv HS.out (by omega)
end Go.Proofs.YtellieabhaphhabGreatDoor
namespace Go.Proofs.YtellieabhaphhabGreatDoor
open Go.RowKit
theorem ba_nil (a:ByteArray):a++(⟨#[]⟩:ByteArray)=a:=ByteArray.append_empty
def wayB (k:Int):ByteArray:=if 0≤k then ⟨#[44]⟩++twoB k.toNat else ⟨#[]⟩
def linB (g:ByteArray) (n:Nd):ByteArray:=g.extract n.a.toNat (n.a+n.l).toNat++wayB n.t++wayB n.f++⟨#[59]⟩
def wriF (g:ByteArray) (l:List Nd):ByteArray:=l.foldl (fun a n=>a++linB g n) ⟨#[]⟩
theorem wri_take (g:ByteArray) (l:List Nd) (j:Nat) (n:Nd) (h:l[j]?=some n):wriF g (l.take (j+1))=wriF g (l.take j)++linB g n:=by
 obtain ⟨hj,rfl⟩:=List.getElem?_eq_some_iff.1 h
 rw [List.take_succ_eq_append_getElem hj]
 unfold wriF
 rw [List.foldl_append]
 rfl
structure Wn (g:ByteArray) (n:Nd):Prop where
 a:0≤n.a
 l:0≤n.l∧n.l≤1000
 al:n.a+n.l≤g.size
 t:n.t<100
 f:n.f<100
theorem wayB_size (k:Int):(wayB k).size≤3:=by
 unfold wayB;split
 ·rw [ByteArray.size_append,show (twoB k.toNat).size=2 by simp [twoB,strOfNums_size]];decide
 ·decide
theorem linB_size {g:ByteArray} {n:Nd} (h:Wn g n):(linB g n).size≤1007:=by
 have h1:=wayB_size n.t
 have h2:=wayB_size n.f
 have h3:=h.l
 have h4:=h.a
 have h5:=h.al
 unfold linB
 rw [ByteArray.size_append,ByteArray.size_append,ByteArray.size_append,ByteArray.size_extract,show (ByteArray.mk #[59]).size=1 from rfl]
 omega
theorem wri_size {g:ByteArray} {l:List Nd} (h:∀ n∈l,Wn g n):(wriF g l).size≤1007*l.length:=by
 have key:∀ (l:List Nd) (a:ByteArray),(∀ n∈l,Wn g n)→(l.foldl (fun a n=>a++linB g n) a).size≤a.size+1007*l.length:=by
  intro l
  induction l with
  | nil=>intro a _;simp
  | cons n l ih =>
   intro a h
   have h1:=ih (a++linB g n) (fun z hz=>h z (List.mem_cons_of_mem _ hz))
   have h2:=linB_size (h n (List.mem_cons_self ..))
   rw [ByteArray.size_append] at h1
   rw [List.foldl_cons,List.length_cons]
   omega
 have:=key l ⟨#[]⟩ h
 rw [show (ByteArray.mk #[]).size=0 from rfl,Nat.zero_add] at this
 exact this
set_option maxRecDepth 100000 in
set_option maxHeartbeats 1600000 in
theorem write_c (g:ByteArray) (v:Value) (l:List Nd) (w:World) (h:DRow w v l) (hl:l.length≤100) (hg:g.size≤1000) (hw:∀ n∈l,Wn g n) :
  Calls Tryz.prog 57 #[.string g,v] w fun e w'=>e=.returned (.string (wriF g l))∧Kp no w w':=by
 obtain ⟨a,cap,rfl⟩:=h.shape
 have HD:=hide h
 clear h
 go_enter Tryz.func57,Tryz.ntmps57
 go_wp2
 go_loopg [5,6] l.length (fun k tv iv wr=>∃ j:Nat,j≤l.length∧k=l.length-j∧iv=.int .i64 j∧tv=.string (wriF g (l.take j))∧Kp no w wr)
 case atStart=>exact ⟨0,Nat.zero_le _,rfl,rfl,rfl,Kp.refl _ _⟩
 case round =>
  obtain ⟨j,hj,hk,rfl,rfl,kr⟩:=hrel
  have HKK:=hide hk
  have HKR:=hide kr
  clear hk kr
  by_cases hlt:j<l.length
  ·obtain ⟨nd,hnd⟩:∃ nd,l[j]?=some nd:=⟨_,List.getElem?_eq_getElem hlt⟩
   have hW:=hw nd (List.mem_of_getElem? hnd)
   obtain ⟨_,gn,ha,hgn,n0,n1,n2,n3,n4,n5,n6,n7,n8⟩:=DRow.at (HKR.out.row HD.out (fun _ _=>no_elim)) hnd
   subst ha
   have HT:=hide (wri_take g l j nd hnd)
   have hsz:(wriF g (l.take j)).size≤100700:=Nat.le_trans (wri_size (fun n hn=>hw n (List.mem_of_mem_take hn))) (by rw [List.length_take];omega)
   have hjI:(j:Int)<l.length:=by omega
   obtain ⟨na,hna⟩:=Int.eq_ofNat_of_zero_le hW.a
   obtain ⟨nl,hnl⟩:=Int.eq_ofNat_of_zero_le hW.l.1
   have hal:=hW.al
   have hl2:=hW.l.2
   have ht:=hW.t
   have hf:=hW.f
   unfold linB at HT
   rw [hna,hnl] at HT hal
   rw [hnl] at hl2
   rw [hna] at n7
   rw [hnl] at n8
   rw [show ((na:Int)+(nl:Int)).toNat=na+nl by omega,Int.toNat_natCast] at HT
   generalize wriF g (l.take j)=acc at *
   clear hnd hW hna hnl
   obtain ⟨op,nx,ny,nv,nk,nt,nff,na',nl'⟩:=nd
   dsimp only at *
   have hexs:(g.extract na (na+nl)).size≤1000:=by rw [ByteArray.size_extract];omega
   have e59:(ByteArray.mk #[59]).size=1:=rfl
   have e44:(ByteArray.mk #[44]).size=1:=rfl
   by_cases h1:0≤nt
   ·by_cases h2:0≤nff
    ·obtain ⟨tn,rfl⟩:=Int.eq_ofNat_of_zero_le h1
     have HW1:=hide (show wayB (tn:Int)=⟨#[44]⟩++twoB tn by rw [wayB,if_pos h1,Int.toNat_natCast])
     have HC1:=hide (fun W=>two_c tn W (by omega))
     have hs1:=twoB_size tn
     obtain ⟨fn,rfl⟩:=Int.eq_ofNat_of_zero_le h2
     have HW2:=hide (show wayB (fn:Int)=⟨#[44]⟩++twoB fn by rw [wayB,if_pos h2,Int.toNat_natCast])
     have HC2:=hide (fun W=>two_c fn W (by omega))
     have hs2:=twoB_size fn
     rw [HW1.out,HW2.out] at HT
     clear HW1 HW2 h1 h2
     generalize twoB tn=tw at *
     generalize twoB fn=fw at *
     go_wp2_with fail
     refine (HC1.out _).mono ?_
     rintro e w5 ⟨rfl,k5⟩
     have hN5:Blk w5 wr.heap.size [.int .u8 op,.int .i64 nx,.int .i64 ny,.int .i64 nv,.int .u8 nk,.int .i64 tn,.int .i64 fn,.int .i64 na,.int .i64 nl] 111:=k5.blk (by (exact blA)) no_elim
     have HK5:=hide (HKR.out.trans (S':=no) (Kp.trans (by (exact kpA)) k5 (fun _ _ e=>e)) (fun _ _ e=>e))
     clear k5 n0 n1 n2 n3 n4 n5 n6 n7 n8
     obtain ⟨n0,n1,n2,n3,n4,n5,n6,n7,n8,nf⟩:=hN5.c9;have hnl5:=hN5.lt
     go_wp2_with fail
     refine (HC2.out _).mono ?_
     rintro e w6 ⟨rfl,k6⟩
     have HKF:=hide (HK5.out.trans (S':=no) (Kp.trans (by (exact kpA)) k6 (fun _ _ e=>e)) (fun _ _ e=>e))
     go_wp2
     go_roundg (l.length-(j+1))
     case measure=>have:=HKK.out;omega
     case rel=>exact ⟨j+1,by omega,rfl,by go_num,by rw [HT.out];simp only [ba_assoc],HKF.out⟩
    ·obtain ⟨tn,rfl⟩:=Int.eq_ofNat_of_zero_le h1
     have HW1:=hide (show wayB (tn:Int)=⟨#[44]⟩++twoB tn by rw [wayB,if_pos h1,Int.toNat_natCast])
     have HC1:=hide (fun W=>two_c tn W (by omega))
     have hs1:=twoB_size tn
     have HW2:=hide (show wayB nff=⟨#[]⟩ by rw [wayB,if_neg h2])
     have d2:decide (0≤nff)=false:=by simp;omega
     rw [HW1.out,HW2.out] at HT
     clear HW1 HW2 h1 h2
     generalize twoB tn=tw at *
     go_wp2_with fail
     refine (HC1.out _).mono ?_
     rintro e w5 ⟨rfl,k5⟩
     have hN5:Blk w5 wr.heap.size [.int .u8 op,.int .i64 nx,.int .i64 ny,.int .i64 nv,.int .u8 nk,.int .i64 tn,.int .i64 nff,.int .i64 na,.int .i64 nl] 111:=k5.blk (by (exact blA)) no_elim
     have HK5:=hide (HKR.out.trans (S':=no) (Kp.trans (by (exact kpA)) k5 (fun _ _ e=>e)) (fun _ _ e=>e))
     clear k5 n0 n1 n2 n3 n4 n5 n6 n7 n8
     obtain ⟨n0,n1,n2,n3,n4,n5,n6,n7,n8,nf⟩:=hN5.c9;have hnl5:=hN5.lt
     go_wp2
     go_roundg (l.length-(j+1))
     case measure=>have:=HKK.out;omega
     case rel=>exact ⟨j+1,by omega,rfl,by go_num,by rw [HT.out];simp only [ba_assoc,ba_nil],HK5.out⟩
   ·by_cases h2:0≤nff
    ·have HW1:=hide (show wayB nt=⟨#[]⟩ by rw [wayB,if_neg h1])
     have d1:decide (0≤nt)=false:=by simp;omega
     obtain ⟨fn,rfl⟩:=Int.eq_ofNat_of_zero_le h2
     have HW2:=hide (show wayB (fn:Int)=⟨#[44]⟩++twoB fn by rw [wayB,if_pos h2,Int.toNat_natCast])
     have HC2:=hide (fun W=>two_c fn W (by omega))
     have hs2:=twoB_size fn
     rw [HW1.out,HW2.out] at HT
     clear HW1 HW2 h1 h2
     generalize twoB fn=fw at *
     go_wp2_with fail
     refine (HC2.out _).mono ?_
     rintro e w6 ⟨rfl,k6⟩
     have HKF:=hide (HKR.out.trans (S':=no) (Kp.trans (by (exact kpA)) k6 (fun _ _ e=>e)) (fun _ _ e=>e))
     go_wp2
     go_roundg (l.length-(j+1))
     case measure=>have:=HKK.out;omega
     case rel=>exact ⟨j+1,by omega,rfl,by go_num,by rw [HT.out];simp only [ba_assoc,ba_nil],HKF.out⟩
    ·have HW1:=hide (show wayB nt=⟨#[]⟩ by rw [wayB,if_neg h1])
     have d1:decide (0≤nt)=false:=by simp;omega
     have HW2:=hide (show wayB nff=⟨#[]⟩ by rw [wayB,if_neg h2])
     have d2:decide (0≤nff)=false:=by simp;omega
     rw [HW1.out,HW2.out] at HT
     clear HW1 HW2 h1 h2
     go_wp2
     go_roundg (l.length-(j+1))
     case measure=>have:=HKK.out;omega
     case rel=>exact ⟨j+1,by omega,rfl,by go_num,by rw [HT.out];simp only [ba_assoc,ba_nil],(HKR.out.alloc _)⟩
  ·obtain rfl:j=l.length:=by omega
   rw [List.take_length]
   go_wp2
   go_ret
   exact ⟨rfl,HKR.out⟩
end Go.Proofs.YtellieabhaphhabGreatDoor
namespace Go.Proofs.YtellieabhaphhabGreatDoor
open Go.RowKit
def lnTx (n:NN):ByteArray:=n.tx++(if n.act=11 then ⟨#[]⟩ else ⟨#[44]⟩++twoB n.yes.toNat)++(if n.act=12∨n.act=13 then ⟨#[44]⟩++twoB n.no.toNat else ⟨#[]⟩)++⟨#[59]⟩
structure Ln (n:NN):Prop where
 tx:n.tx.size≤1000
 yes:n.act≠11→0≤n.yes∧n.yes<100
 no:n.act=12∨n.act=13→0≤n.no∧n.no<100
theorem lnTx_size {n:NN} (h:Ln n):(lnTx n).size≤1007:=by
 have h1:=h.tx
 have h2:∀ k,(twoB k).size=2:=twoB_size
 unfold lnTx
 rw [ByteArray.size_append,ByteArray.size_append,ByteArray.size_append,show (ByteArray.mk #[59]).size=1 from rfl]
 have h3:(if n.act=11 then (⟨#[]⟩:ByteArray) else ⟨#[44]⟩++twoB n.yes.toNat).size≤3:=by
  split
  ·decide
  ·rw [ByteArray.size_append,h2];decide
 have h4:(if n.act=12∨n.act=13 then (⟨#[44]⟩:ByteArray)++twoB n.no.toNat else ⟨#[]⟩).size≤3:=by
  split
  ·rw [ByteArray.size_append,h2];decide
  ·decide
 omega
set_option maxRecDepth 100000 in
set_option maxHeartbeats 1600000 in
theorem lineText_c (n:NN) (w:World) (h:Ln n) :
  Calls Tryz.prog 43 #[.agg #[.string n.tx,.int .i64 n.act,.int .i64 n.x,.int .i64 n.y,.int .i64 n.w,.int .i64 n.ck,.int .i64 n.cn,.int .i64 n.ch,.int .i64 n.kd,.int .i64 n.yes,.int .i64 n.no]] w fun e w'=>e=.returned (.string (lnTx n))∧Kp no w w':=by
 have HT:=hide (fun W=>nisTest_c n.act W)
 have htx:=h.tx
 have e59:(ByteArray.mk #[59]).size=1:=rfl
 have e44:(ByteArray.mk #[44]).size=1:=rfl
 by_cases h11:n.act=11
 ·have HE:=hide (show lnTx n=n.tx++⟨#[59]⟩ by rw [lnTx,if_pos h11,if_neg (by omega),ba_nil,ba_nil])
  rw [HE.out]
  obtain ⟨tx,act,nx,ny,nw,ck,cn,ch,kd,yes,nno⟩:=n
  dsimp only at *
  subst h11
  clear h HE
  go_enter Tryz.func43,Tryz.ntmps43
  go_wp2_with (go_at_call 72;refine (HT.out _).mono ?_;rintro e w' ⟨rfl,rfl⟩)
  go_ret
  exact ⟨rfl,by (exact kpA)⟩
 ·obtain ⟨y1,y2⟩:=h.yes h11
  obtain ⟨yn,hyn⟩:=Int.eq_ofNat_of_zero_le y1
  by_cases ht:n.act=12∨n.act=13
  ·obtain ⟨o1,o2⟩:=h.no ht
   obtain ⟨on,hon⟩:=Int.eq_ofNat_of_zero_le o1
   have HE:=hide (show lnTx n=n.tx++(⟨#[44]⟩++twoB yn)++(⟨#[44]⟩++twoB on)++⟨#[59]⟩ by rw [lnTx,if_neg h11,if_pos ht,hyn,hon,Int.toNat_natCast,Int.toNat_natCast])
   rw [HE.out]
   rw [decide_eq_true ht] at HT
   have HY:=hide (fun W=>ntwo_c yn W (by omega))
   have HO:=hide (fun W=>ntwo_c on W (by omega))
   have s1:=twoB_size yn
   have s2:=twoB_size on
   have g11:(n.act == 11)=false:=by simpa using h11
   have g11':(n.act != 11)=true:=by simpa using h11
   obtain ⟨tx,act,nx,ny,nw,ck,cn,ch,kd,yes,nno⟩:=n
   dsimp only at *
   subst hyn hon
   clear h HE ht h11
   generalize twoB yn=ty at *
   generalize twoB on=tn at *
   go_enter Tryz.func43,Tryz.ntmps43
   go_wp2_with fail
   refine (HY.out _).mono ?_
   rintro e w1 ⟨rfl,k1⟩
   have hN1:Blk w1 w.heap.size [.string tx,.int .i64 act,.int .i64 nx,.int .i64 ny,.int .i64 nw,.int .i64 ck,.int .i64 cn,.int .i64 ch,.int .i64 kd,.int .i64 yn,.int .i64 on] 68:=k1.blk (by (exact blA)) no_elim
   have HK1:=hide (show Kp no w w1 from Kp.trans (by (exact kpA)) k1 (fun _ _ e=>e))
   obtain ⟨n0,n1,n2,n3,n4,n5,n6,n7,n8,n9,n10,nf⟩:=hN1.c11;have hnl:=hN1.lt
   clear k1
   go_wp2_with fail
   refine (HT.out _).mono ?_
   rintro e w' ⟨rfl,rfl⟩
   go_wp2_with fail
   refine (HO.out _).mono ?_
   rintro e w2 ⟨rfl,k2⟩
   go_wp2
   go_ret
   exact ⟨rfl,HK1.out.trans k2 (fun _ _ e=>e)⟩
  ·have HE:=hide (show lnTx n=n.tx++(⟨#[44]⟩++twoB yn)++⟨#[59]⟩ by rw [lnTx,if_neg h11,if_neg ht,hyn,Int.toNat_natCast,ba_nil])
   rw [HE.out]
   rw [decide_eq_false ht] at HT
   have HY:=hide (fun W=>ntwo_c yn W (by omega))
   have s1:=twoB_size yn
   have g11:(n.act == 11)=false:=by simpa using h11
   have g11':(n.act != 11)=true:=by simpa using h11
   obtain ⟨tx,act,nx,ny,nw,ck,cn,ch,kd,yes,nno⟩:=n
   dsimp only at *
   subst hyn
   clear h HE ht h11
   generalize twoB yn=ty at *
   go_enter Tryz.func43,Tryz.ntmps43
   go_wp2_with fail
   refine (HY.out _).mono ?_
   rintro e w1 ⟨rfl,k1⟩
   have hN1:Blk w1 w.heap.size [.string tx,.int .i64 act,.int .i64 nx,.int .i64 ny,.int .i64 nw,.int .i64 ck,.int .i64 cn,.int .i64 ch,.int .i64 kd,.int .i64 yn,.int .i64 nno] 68:=k1.blk (by (exact blA)) no_elim
   have HK1:=hide (show Kp no w w1 from Kp.trans (by (exact kpA)) k1 (fun _ _ e=>e))
   obtain ⟨n0,n1,n2,n3,n4,n5,n6,n7,n8,n9,n10,nf⟩:=hN1.c11;have hnl:=hN1.lt
   clear k1
   go_wp2_with fail
   refine (HT.out _).mono ?_
   rintro e w' ⟨rfl,rfl⟩
   go_wp2
   go_ret
   exact ⟨rfl,HK1.out⟩
def graT (L:List NN):ByteArray:=L.foldl (fun a n=>a++lnTx n) ⟨#[]⟩
theorem graT_take (L:List NN) (j:Nat) (n:NN) (h:L[j]?=some n):graT (L.take (j+1))=graT (L.take j)++lnTx n:=by
 obtain ⟨hj,rfl⟩:=List.getElem?_eq_some_iff.1 h
 rw [List.take_succ_eq_append_getElem hj]
 unfold graT
 rw [List.foldl_append]
 rfl
theorem graT_size {L:List NN} (h:∀ n∈L,Ln n):(graT L).size≤1007*L.length:=by
 have key:∀ (L:List NN) (a:ByteArray),(∀ n∈L,Ln n)→(L.foldl (fun a n=>a++lnTx n) a).size≤a.size+1007*L.length:=by
  intro L
  induction L with
  | nil=>intro a _;simp
  | cons n L ih =>
   intro a h
   have h1:=ih (a++lnTx n) (fun z hz=>h z (List.mem_cons_of_mem _ hz))
   have h2:=lnTx_size (h n (List.mem_cons_self ..))
   rw [ByteArray.size_append] at h1
   rw [List.foldl_cons,List.length_cons]
   omega
 have:=key L ⟨#[]⟩ h
 rw [show (ByteArray.mk #[]).size=0 from rfl,Nat.zero_add] at this
 exact this
set_option maxRecDepth 100000 in
set_option maxHeartbeats 1600000 in
theorem graphText_c (v:Value) (L:List NN) (w:World) (h:NRow w v L) (hl:L.length≤100) (hL:∀ n∈L,Ln n) :
  Calls Tryz.prog 20 #[v] w fun e w'=>e=.returned (.string (graT L))∧Kp no w w':=by
 obtain ⟨a,cap,rfl⟩:=h.shape
 have HD:=hide h
 clear h
 go_enter Tryz.func20,Tryz.ntmps20
 go_wp2
 go_loopg [3,9] L.length (fun k tv iv wr=>∃ j:Nat,j≤L.length∧k=L.length-j∧iv=.int .i64 j∧tv=.string (graT (L.take j))∧Kp no w wr)
 case atStart=>exact ⟨0,Nat.zero_le _,rfl,rfl,rfl,Kp.refl _ _⟩
 case round =>
  obtain ⟨j,hj,hk,rfl,rfl,kr⟩:=hrel
  have HKK:=hide hk
  have HKR:=hide kr
  clear hk kr
  by_cases hlt:j<L.length
  ·obtain ⟨nd,hnd⟩:∃ nd,L[j]?=some nd:=⟨_,List.getElem?_eq_getElem hlt⟩
   have HLN:=hide (hL nd (List.mem_of_getElem? hnd))
   obtain ⟨_,gn,ha,hgn,n0,n1,n2,n3,n4,n5,n6,n7,n8,n9,n10⟩:=NRow.at (HKR.out.row HD.out (fun _ _=>no_elim)) hnd
   subst ha
   have HT:=hide (graT_take L j nd hnd)
   have hsz:(graT (L.take j)).size≤100700:=Nat.le_trans (graT_size (fun n hn=>hL n (List.mem_of_mem_take hn))) (by rw [List.length_take];omega)
   have hs2:=lnTx_size HLN.out
   have HC:=hide (fun W=>lineText_c nd W HLN.out)
   have hjI:(j:Int)<L.length:=by omega
   generalize graT (L.take j)=acc at *
   generalize lnTx nd=ln at *
   clear hnd
   obtain ⟨tx,act,nx,ny,nw,ck,cn,ch,kd,yes,nno⟩:=nd
   dsimp only at *
   go_wp2_with fail
   refine (HC.out _).mono ?_
   rintro e w5 ⟨rfl,k5⟩
   go_wp2
   go_roundg (L.length-(j+1))
   case measure=>have:=HKK.out;omega
   case rel=>exact ⟨j+1,by omega,rfl,by go_num,by rw [HT.out],(HKR.out.alloc _).trans k5 (fun _ _ e=>e)⟩
  ·obtain rfl:j=L.length:=by omega
   rw [List.take_length]
   go_wp2
   go_ret
   exact ⟨rfl,HKR.out⟩
end Go.Proofs.YtellieabhaphhabGreatDoor
namespace Go.Proofs.YtellieabhaphhabGreatDoor
open Go.RowKit
theorem nj_take (row:List NN) (j:Nat):nj (row.take (j+1))=nj (row.take j)+(match row[j]? with|some n=>if n.act≠15 then 1 else 0|none=>0):=by
 unfold nj
 rw [List.take_add_one,List.countP_append]
 cases row[j]? with
 | none=>rfl
 | some n =>
  show _+List.countP _ [n]=_+_
  rw [List.countP_cons,List.countP_nil,Nat.zero_add]
  by_cases h:n.act=15 <;> simp [h]
theorem ahdA_nj (row:List NN) (p:Nat):∀ j,ahdA row p j≤nj (row.take j)
 | 0=>Nat.zero_le _
 | j+1=>by
  have:=ahdA_nj row p j
  rw [ahdA,nj_take]
  cases row[j]? with
  | none=>exact this
  | some n =>
   dsimp only
   by_cases h:n.act=15
   ·rw [if_neg (fun e=>e.2 h),if_neg (fun e=>e h)];exact this
   ·rw [if_pos h]
    split <;> omega
theorem nbhM_le (m:MS) (k:Int):nbhM m k≤nj m.row:=by
 have:=ahdA_nj m.row (hopM m m.row.length (plcM m k)) m.row.length
 rw [List.take_length] at this
 exact this
theorem nodA_nj (m:MS):∀ j,(nodA m j).length=nj (m.row.take j)
 | 0=>rfl
 | j+1=>by
  have:=nodA_nj m j
  rw [nodA,nj_take,List.length_append,this]
  cases m.row[j]? with
  | none=>rfl
  | some n =>
   dsimp only
   by_cases h:n.act=15
   ·rw [if_pos h,if_neg (fun e=>e h)];rfl
   ·rw [if_neg h,if_pos h];rfl
theorem nodM_nj (m:MS):(nodM m).length=nj m.row:=by
 have:=nodA_nj m m.row.length
 rw [List.take_length] at this
 exact this
theorem nodA_mem (m:MS):∀ j n,n∈nodA m j→∃ n0∈m.row,n0.act≠15∧n=n0.setW (nbhM m n0.yes) (nbhM m n0.no)
 | 0,n,h=>by cases h
 | j+1,n,h=>by
  rw [nodA] at h
  rcases List.mem_append.1 h with h|h
  ·exact nodA_mem m j n h
  ·cases hj:m.row[j]? with
   | none=>rw [hj] at h;cases h
   | some n0 =>
    rw [hj] at h
    dsimp only at h
    by_cases ha:n0.act=15
    ·rw [if_pos ha] at h;cases h
    ·rw [if_neg ha] at h
     obtain rfl:n=_:=by simpa using h
     exact ⟨n0,List.mem_of_getElem? hj,ha,rfl⟩
def SN (n:NN):Prop:=∃ nd tx y z,n=encN nd tx y z∧Gn nd∧tx.size≤1000∧(0≤y∧y≤90)∧(0≤z∧z≤90)∧TxP nd tx
theorem src_nodes {s:ByteArray} (hs:s.size≤180) (h:(srE s).1=0):(∀ n∈nodM (srM s),SN n)∧(nodM (srM s)).length≤90:=by
 obtain ⟨_,g2,g3,_⟩:=srM_good hs h
 refine ⟨fun n hn=>?_,by rw [nodM_nj];exact g2⟩
 obtain ⟨n0,h1,h2,rfl⟩:=nodA_mem (srM s) _ n hn
 rcases g3 n0 h1 with h3|⟨_,nd,tx,y,z,rfl,hg,ht,hp⟩
 ·exact absurd h3 h2
 ·have b1:=nbhM_le (srM s) (encN nd tx y z).yes
  have b2:=nbhM_le (srM s) (encN nd tx y z).no
  exact ⟨nd,tx,_,_,encW nd tx y z _ _,hg,ht,⟨Int.natCast_nonneg _,by omega⟩,⟨Int.natCast_nonneg _,by omega⟩,hp⟩
set_option maxHeartbeats 1600000 in
theorem nrun_long (s inp:ByteArray) (fuel:Int) (w:World) (hm:inp.size≤maxLen) (h:¬ (inp.size≤40∧0≤fuel∧fuel≤300)) :
  Calls Tryz.prog 13 #[.string s,.string inp,.int .i64 fuel] w fun e w'=>e=em3 1∧Kp no w w':=by
 have HG:=hide (nwithin_c inp fuel w hm)
 rw [decide_eq_false h] at HG
 clear h
 go_enter Tryz.func13,Tryz.ntmps13
 go_wp2_with fail
 refine HG.out.mono ?_
 rintro e w1 ⟨rfl,rfl⟩
 go_wp2
 go_ret3
 exact ⟨rfl,Kp.refl _ _⟩
set_option maxHeartbeats 1600000 in
theorem nrun_big (s inp:ByteArray) (fuel:Int) (w:World) (hm:inp.size≤maxLen) (hm2:s.size≤maxLen) (h:inp.size≤40∧0≤fuel∧fuel≤300) (hs:180<s.size) :
  Calls Tryz.prog 13 #[.string s,.string inp,.int .i64 fuel] w fun e w'=>e=em3 1∧Kp no w w':=by
 have HG:=hide (nwithin_c inp fuel w hm)
 rw [decide_eq_true h] at HG
 have HS:=hide (nos_long s w hm2 hs)
 clear h
 go_enter Tryz.func13,Tryz.ntmps13
 go_wp2_with fail
 refine HG.out.mono ?_
 rintro e w1 ⟨rfl,rfl⟩
 go_wp2_with fail
 refine HS.out.mono ?_
 rintro e w1 ⟨rfl,k1⟩
 go_wp2
 go_ret3
 exact ⟨rfl,k1⟩
set_option maxHeartbeats 1600000 in
theorem nrun_bad (s inp:ByteArray) (fuel:Int) (w:World) (hm:inp.size≤maxLen) (h:inp.size≤40∧0≤fuel∧fuel≤300) (hs:s.size≤180) (hb:(srE s).1≠0) :
  Calls Tryz.prog 13 #[.string s,.string inp,.int .i64 fuel] w fun e w'=>e=em3 (srE s).1∧Kp no w w':=by
 have HG:=hide (nwithin_c inp fuel w hm)
 rw [decide_eq_true h] at HG
 have HS:=hide (nos_c s w hs)
 have hb':(((srE s).1:Int) == 0)=false:=by simp;omega
 unfold SrcP at HS
 generalize srE s=ge at *
 obtain ⟨ge1,ge2⟩:=ge
 dsimp only at *
 clear h hb
 go_enter Tryz.func13,Tryz.ntmps13
 go_wp2_with fail
 refine HG.out.mono ?_
 rintro e w1 ⟨rfl,rfl⟩
 go_wp2_with fail
 refine HS.out.mono ?_
 rintro e w1 ⟨v,rfl,k1,_⟩
 go_wp2
 go_ret3
 exact ⟨rfl,k1⟩
set_option maxRecDepth 100000 in
set_option maxHeartbeats 1600000 in
theorem nrun_good (s inp:ByteArray) (fuel:Nat) (w:World) (hm:inp.size≤40) (h:fuel≤300) (hs:s.size≤180) (hb:(srE s).1=0) (ht:Tab w) (nds:List Nd) (hq:NEq (nodM (srM s)) nds) (hl:nds.length≤100) (F:Nat) (mc':Mc) (hE:wkF F nds inp (mc0 fuel) 0=some mc') :
  Calls Tryz.prog 13 #[.string s,.string inp,.int .i64 fuel] w fun e w'=>e=.returned (.tuple #[.string mc'.tr,.string mc'.out,.int .i64 (endE mc'.e)])∧Kp no w w':=by
 have hm2:inp.size≤maxLen:=by unfold maxLen;omega
 have HG:=hide (nwithin_c inp fuel w hm2)
 rw [decide_eq_true (by omega)] at HG
 have HS:=hide (nos_c s w hs)
 unfold SrcP at HS
 rw [hb] at HS
 have HE:=hide hE
 have HQ:=hide hq
 clear hb hE hq
 go_enter Tryz.func13,Tryz.ntmps13
 go_wp2_with fail
 refine HG.out.mono ?_
 rintro e w1 ⟨rfl,rfl⟩
 go_wp2_with fail
 refine HS.out.mono ?_
 rintro e w2 ⟨v,rfl,k2,hpost⟩
 obtain ⟨hR,hO⟩:=hpost trivial
 have HW:=hide (nwalk_c v _ _ inp fuel w2 hR HQ.out hl hm h (ht.kp k2 no_elim) F mc' HE.out)
 clear hO hpost HE HS HG HQ
 generalize nodM (srM s)=L at *
 obtain ⟨a,cap,rfl⟩:=hR.shape
 clear hR
 go_wp2_with fail
 refine HW.out.mono ?_
 rintro e w3 ⟨rfl,k3⟩
 go_wp2
 go_ret3
 exact ⟨rfl,k2.trans k3 (fun _ _ e=>e)⟩
def gr3 (t:ByteArray) (e p:Int):Ending:=.returned (.tuple #[.string t,.int .i64 e,.int .i64 p])
set_option maxHeartbeats 1600000 in
theorem ngraph_long (s:ByteArray) (w:World) (hm:s.size≤maxLen) (hs:180<s.size) :
  Calls Tryz.prog 14 #[.string s] w fun e w'=>e=gr3 em 1 0∧Kp no w w':=by
 have HS:=hide (nos_long s w hm hs)
 go_enter Tryz.func14,Tryz.ntmps14
 go_wp2_with fail
 refine HS.out.mono ?_
 rintro e w1 ⟨rfl,k1⟩
 go_wp2
 go_ret3
 exact ⟨rfl,k1⟩
set_option maxHeartbeats 1600000 in
theorem ngraph_bad (s:ByteArray) (w:World) (hs:s.size≤180) (hb:(srE s).1≠0) :
  Calls Tryz.prog 14 #[.string s] w fun e w'=>e=gr3 em (srE s).1 (srE s).2∧Kp no w w':=by
 have HS:=hide (nos_c s w hs)
 have hb':(((srE s).1:Int) == 0)=false:=by simp;omega
 unfold SrcP at HS
 generalize srE s=ge at *
 obtain ⟨ge1,ge2⟩:=ge
 dsimp only at *
 clear hb
 go_enter Tryz.func14,Tryz.ntmps14
 go_wp2_with fail
 refine HS.out.mono ?_
 rintro e w1 ⟨v,rfl,k1,_⟩
 go_wp2
 go_ret3
 exact ⟨rfl,k1⟩
theorem SN.ln {n:NN} (h:SN n):Ln n:=by
 obtain ⟨nd,tx,y,z,rfl,_,ht,hy,hz,_⟩:=h
 exact ⟨ht,fun _=>by show 0≤y∧y<100;omega,fun _=>by show 0≤z∧z<100;omega⟩
set_option maxHeartbeats 1600000 in
theorem ngraph_good (s:ByteArray) (w:World) (hs:s.size≤180) (hb:(srE s).1=0) :
  Calls Tryz.prog 14 #[.string s] w fun e w'=>e=gr3 (graT (nodM (srM s))) 0 0∧Kp no w w':=by
 have HS:=hide (nos_c s w hs)
 obtain ⟨hsn,hlen⟩:=src_nodes hs hb
 unfold SrcP at HS
 rw [hb] at HS
 have HGT:=hide (fun u W hW=>graphText_c u (nodM (srM s)) W hW (by omega) (fun n hn=>(hsn n hn).ln))
 clear hb hsn
 generalize nodM (srM s)=L at *
 go_enter Tryz.func14,Tryz.ntmps14
 go_wp2_with fail
 refine HS.out.mono ?_
 rintro e w2 ⟨v,rfl,k2,hpost⟩
 obtain ⟨hR,hO⟩:=hpost trivial
 have HR:=hide hR
 obtain ⟨a,cap,rfl⟩:=hR.shape
 clear hO hpost HS hR
 go_wp2_with fail
 refine (HGT.out _ _ (by exact HR.out)).mono ?_
 rintro e w5 ⟨rfl,k5⟩
 go_wp2
 go_ret3
 exact ⟨rfl,k2.trans k5 (fun _ _ e=>e)⟩
end Go.Proofs.YtellieabhaphhabGreatDoor
namespace Go.Proofs.YtellieabhaphhabGreatDoor
open Go.RowKit
def Ag {α:Type} (L:Nat) (a b:List α):Prop:=∀ k,L≤k→k<a.length→b[k]?=a[k]?
section
variable {α:Type} {L L' k:Nat} {a b c:List α}
theorem Ag.refl:Ag L a a:=fun _ _ _=>rfl
theorem Ag.trans (h:Ag L a b) (g:Ag L b c):Ag L a c:=fun k h1 h2=>by
 have e:=h k h1 h2
 have hb:k<b.length:=by
  rcases Nat.lt_or_ge k b.length with h3|h3
  ·exact h3
  ·rw [List.getElem?_eq_none h3,List.getElem?_eq_getElem h2] at e;cases e
 rw [g k h1 hb,e]
theorem Ag.mono (h:Ag L a b) (hL:L≤L'):Ag L' a b:=fun k h1 h2=>h k (Nat.le_trans hL h1) h2
theorem Ag.app (a x:List α):Ag L a (a++x):=fun k _ h2=>by rw [List.getElem?_append_left h2]
theorem Ag.set (h:Ag L a b) (v:α) (hk:k<L∨a.length≤k):Ag L a (b.set k v):=fun j h1 h2=>by
 rw [List.getElem?_set_ne (by omega)];exact h j h1 h2
theorem Ag.mod (h:Ag L a b) (f:α→α) (hk:k<L∨a.length≤k):Ag L a (b.modify k f):=fun j h1 h2=>by
 have hne:¬ k=j:=by omega
 rw [List.getElem?_modify,h j h1 h2]
 cases a[j]? <;> simp [hne]
theorem Ag.unmod {f:α→α} (h:Ag L (a.modify k f) b) (hk:k<L') (hL:L≤L'):Ag L' a b:=fun j h1 h2=>by
 rw [h j (by omega) (by rw [List.length_modify];exact h2),List.getElem?_modify]
 have hne:¬ k=j:=by omega
 cases a[j]? <;> simp [hne]
theorem Ag.len (h:Ag 0 a b):a.length≤b.length:=by
 cases hl:a.length with
 | zero=>exact Nat.zero_le _
 | succ n =>
  have e:=h n (Nat.zero_le _) (by omega)
  rcases Nat.lt_or_ge n b.length with h3|h3
  ·exact h3
  ·rw [List.getElem?_eq_none h3,List.getElem?_eq_getElem (by omega)] at e;cases e
theorem Ag.take (h:Ag 0 a b) {p:Nat} (hp:p≤a.length):b.take p=a.take p:=by
 apply List.ext_getElem?
 intro i
 rw [List.getElem?_take,List.getElem?_take]
 split
 ·exact h i (Nat.zero_le _) (by omega)
 ·rfl
theorem Ag.at (h:Ag L a b) (hk:L≤k) {x:α} (hx:a[k]?=some x):b[k]?=some x:=by
 rw [h k hk (List.getElem?_eq_some_iff.1 hx).1,hx]
end
structure Xe (L:Nat) (a b:MS):Prop where
 row:Ag 0 a.row b.row
 mm:Ag L a.marks b.marks
section
variable {L L' k:Nat} {a b c:MS} {s:ByteArray}
theorem Xe.refl:Xe L a a:=⟨Ag.refl,Ag.refl⟩
theorem Xe.trans (h:Xe L a b) (g:Xe L b c):Xe L a c:=⟨h.row.trans g.row,h.mm.trans g.mm⟩
theorem Xe.mono (h:Xe L a b) (hL:L≤L'):Xe L' a b:=⟨h.row,h.mm.mono hL⟩
theorem xe_exp (l:List UInt8):Xe L a (expM s a l):=⟨Ag.refl,Ag.refl⟩
theorem xe_new:Xe L a (newM a):=⟨Ag.refl,Ag.app _ _⟩
theorem xe_new3:Xe L a (new3 a):=xe_new.trans (xe_new.trans xe_new)
theorem xe_jmp (k:Int):Xe L a (jmpM a k):=⟨Ag.app _ _,Ag.refl⟩
theorem Xe.lay (h:Xe L a b) (hk:k<L∨a.marks.length≤k):Xe L a (layM b k):=⟨h.row,h.mm.set _ hk⟩
theorem xe_lay (hk:k<L):Xe L a (layM a k):=Xe.refl.lay (.inl hk)
end
theorem lay_at {m:MS} {k:Nat} (h:k<m.marks.length):(layM m k).marks[k]?=some m.row.length:=by
 show (m.marks.set k m.row.length)[k]?=_
 rw [List.getElem?_set_self h]
theorem plc_of {m:MS} {k v:Nat} (h:m.marks[k]?=some v):plcM m (k:Int)=v:=by
 have hl:=(List.getElem?_eq_some_iff.1 h).1
 unfold plcM
 rw [if_neg (by omega),Int.toNat_natCast,List.getD_eq_getElem?_getD,h]
 rfl
structure Fin' (M:MS) (Ld:Nat→Int) (W:Nat→Int × Int × Bool):Prop where
 node:∀ p n,M.row[p]?=some n→n.act≠15→Ld p=(nj (M.row.take p):Nat)∧W (nj (M.row.take p))=(Ld (plcM M n.yes),Ld (plcM M n.no),decide (n.act=12∨n.act=13))
 jump:∀ p k,M.row[p]?=some (jumpN k)→Ld p=Ld (plcM M k)
def txN (s:ByteArray) (nd:Nd):ByteArray:=s.extract nd.a.toNat (nd.a+nd.l).toNat
structure N1 (s:ByteArray) (nd:Nd):Prop where
 g:Gn nd
 a:0≤nd.a
 l:0≤nd.l
 al:nd.a+nd.l≤s.size
def FR (s:ByteArray) (row:List NN) (nodes:List Nd):Prop :=
 (row.filter (fun n=>decide (n.act≠15))).map (fun n=>n.setW 0 0)=nodes.map (fun nd=>encN nd (txN s nd) 0 0)∧∀ nd∈nodes,N1 s nd
theorem FR.len {s:ByteArray} {row:List NN} {nodes:List Nd} (h:FR s row nodes):nj row=nodes.length:=by
 have:=congrArg List.length h.1
 rw [List.length_map,List.length_map] at this
 rw [nj,List.countP_eq_length_filter,this]
theorem FR.jump {s:ByteArray} {row:List NN} {nodes:List Nd} (h:FR s row nodes) (k:Int):FR s (row++[jumpN k]) nodes:=by
 refine ⟨?_,h.2⟩
 rw [List.filter_append]
 have:[jumpN k].filter (fun n=>decide (n.act≠15))=[]:=rfl
 rw [this,List.append_nil]
 exact h.1
theorem FR.one {s:ByteArray} {row:List NN} {nodes:List Nd} (h:FR s row nodes) (nd:Nd) (y z:Int) (hn:N1 s nd):FR s (row++[encN nd (txN s nd) y z]) (nodes++[nd]):=by
 refine ⟨?_,fun x hx=>?_⟩
 ·rw [List.filter_append]
  have:[encN nd (txN s nd) y z].filter (fun n=>decide (n.act≠15))=[encN nd (txN s nd) y z]:=by
   rw [List.filter_cons,if_pos (decide_eq_true (show (encN nd (txN s nd) y z).act≠15 from actN_ne nd.op))];rfl
  rw [this,List.map_append,List.map_append,h.1]
  rfl
 ·rcases List.mem_append.1 hx with h1|h1
  ·exact h.2 x h1
  ·obtain rfl:x=nd:=by simpa using h1
   exact hn
def CdW:Nat→List It→(Nat→Int × Int × Bool)→Nat→Nat→Nat→Nat→Int→Int→Prop
 | 0,_,_,_,_,_,_,_,_=>False
 | f+1,IT,W,i,e,c,d,t,g=>∃ it,IT[i]?=some it∧it.en=(e:Int)∧e≤1000∧i<e∧c<d ∧
   ((it.k=99∧it.n=(c:Int)∧d=c+1∧e=i+1∧W c=(t,g,true)) ∨
    (it.k=33∧CdW f IT W (i+1) e c d g t) ∨
    (it.k=38∧∃ e1 m,CdW f IT W (i+1) e1 c m m g∧CdW f IT W e1 e m d t g) ∨
    (it.k=124∧∃ e1 m,CdW f IT W (i+1) e1 c m t m∧CdW f IT W e1 e m d t g))
theorem cdw_lt {f:Nat} {IT:List It} {W:Nat→Int × Int × Bool} {i e c d:Nat} {t g:Int} (h:CdW f IT W i e c d t g):i<e∧c<d∧∃ it,IT[i]?=some it∧it.en=(e:Int)∧e≤1000:=by
 cases f with
 | zero=>exact h.elim
 | succ f=>obtain ⟨it,h1,h2,h3,h4,h5,_⟩:=h;exact ⟨h4,h5,it,h1,h2,h3⟩
theorem cdw_fst:∀ (f:Nat) {IT:List It} {W:Nat→Int × Int × Bool} {i e c d:Nat} {t g:Int},CdW f IT W i e c d t g→∀ F,e-i≤F→firG F IT i=some (c:Int)
 | 0,_,_,_,_,_,_,_,_,h=>h.elim
 | f+1,IT,W,i,e,c,d,t,g,h=>by
  intro F hF
  obtain ⟨it,h1,h2,h3,h4,h5,h6⟩:=h
  cases F with
  | zero=>omega
  | succ F =>
   rw [firG,h1]
   dsimp only
   rcases h6 with ⟨k,n,_⟩|⟨k,q⟩|⟨k,e1,m,q,q2⟩|⟨k,e1,m,q,q2⟩
   ·rw [if_pos k,n]
   ·rw [if_neg (by omega)];exact cdw_fst f q F (by omega)
   ·rw [if_neg (by omega)];exact cdw_fst f q F (by have:=(cdw_lt q2).1;omega)
   ·rw [if_neg (by omega)];exact cdw_fst f q F (by have:=(cdw_lt q2).1;omega)
structure Pr (s:ByteArray) (m:MS) (st:RS) (m':MS) (st':RS):Prop where
 p:m'.p=(st'.i,false)
 b:st'.bad=false
 lo:st'.loops=st.loops
 fr:FR s m'.row st'.nodes
 x:Xe 0 m m'
 y:Ag 0 st.items st'.items
 ge:st.i≤st'.i
 le:st'.i≤s.size
theorem nj_mono {a b:List NN} (h:Ag 0 a b):nj a≤nj b:=by
 have e:=h.take (Nat.le_refl _)
 rw [List.take_length] at e
 rw [← e]
 unfold nj
 exact List.Sublist.countP_le (List.take_sublist _ _)
theorem fin_node {M:MS} {Ld:Nat→Int} {W:Nat→Int × Int × Bool} (h:Fin' M Ld W) {m:MS} {row:List NN} {n:NN} (hx:Ag 0 (row++[n]) m.row) (hM:Ag 0 m.row M.row) (hn:n.act≠15) :
  Ld row.length=(nj row:Nat)∧W (nj row)=(Ld (plcM M n.yes),Ld (plcM M n.no),decide (n.act=12∨n.act=13)):=by
 have hM2:=hx.trans hM
 have h1:M.row[row.length]?=some n:=hM2.at (Nat.zero_le _) (by simp)
 have h2:M.row.take row.length=row:=by
  rw [hM2.take (by simp),List.take_append_of_le_length (Nat.le_refl _),List.take_length]
 have:=h.node _ _ h1 hn
 rw [h2] at this
 exact this
theorem act_tst {op:Int} (h:opOk op):(actN op=12∨actN op=13)↔(op=121∨op=58):=by
 unfold opOk at h
 rcases h with rfl|rfl|rfl|rfl|rfl|rfl|rfl|rfl|rfl|rfl|rfl|rfl|rfl|rfl|rfl|rfl|rfl|rfl <;> decide
theorem nj_encN (row:List NN) (nd:Nd) (tx:ByteArray) (y z:Int):nj (row++[encN nd tx y z])=nj row+1:=by
 unfold nj
 rw [List.countP_append]
 have:List.countP (fun n=>decide (n.act≠15)) [encN nd tx y z]=1:=by
  rw [List.countP_cons,if_pos (decide_eq_true (show (encN nd tx y z).act≠15 from actN_ne nd.op)),List.countP_nil]
 rw [this]
structure CPar (s:ByteArray) (f:Nat) (yes no:Int) (m:MS) (st:RS) (m':MS) (st':RS):Prop where
 r:Pr s m st m' st'
 nd:∃ n,m'.row[m.row.length]?=some n∧n.act≠15
 al:∀ p n,m.row.length≤p→m'.row[p]?=some n→n.act≠15
 w:∀ M IT Ld W,Fin' M Ld W→Xe m.marks.length m' M→Ag st.items.length st'.items IT→IT.length≤1000 →
  CdW f IT W st.items.length st'.items.length (nj m.row) (nj m'.row) (Ld (plcM M yes)) (Ld (plcM M no))
def JOk (M:MS) (lo hi:Nat):Prop:=∀ p n,lo≤p→p<hi→M.row[p]?=some n→n.act=15→p<plcM M n.yes∨∃ n',M.row[plcM M n.yes]?=some n'∧n'.act≠15
theorem JOk.join {M:MS} {a b c:Nat} (h:JOk M a b) (k:JOk M b c):JOk M a c:=fun p n h1 h2=>by
 rcases Nat.lt_or_ge p b with h3|h3
 ·exact h p n h1 h3
 ·exact k p n h3 h2
theorem jok_one {M:MS} {a:Nat} {n:NN} (hn:M.row[a]?=some n) (h:n.act=15→a<plcM M n.yes∨∃ n',M.row[plcM M n.yes]?=some n'∧n'.act≠15):JOk M a (a+1):=fun p n' h1 h2 h3 h4=>by
 obtain rfl:p=a:=by omega
 rw [hn] at h3
 obtain rfl:n=n':=by simpa using h3
 exact h h4
theorem jok_nodes {M:MS} {m':MS} {a:Nat} (hx:Ag 0 m'.row M.row) (h:∀ p n,a≤p→m'.row[p]?=some n→n.act≠15):JOk M a m'.row.length:=fun p n h1 h2 h3 h4=>by
 rw [hx p (Nat.zero_le _) h2] at h3
 exact absurd h4 (h p n h1 h3)
theorem ag_le {α:Type} {L:Nat} {a b:List α} (h:Ag L a b) (hL:L<a.length):a.length≤b.length:=by
 have e:=h (a.length-1) (by omega) (by omega)
 rcases Nat.lt_or_ge (a.length-1) b.length with h3|h3
 ·omega
 ·rw [List.getElem?_eq_none h3,List.getElem?_eq_getElem (by omega)] at e;cases e
end Go.Proofs.YtellieabhaphhabGreatDoor
namespace Go.Proofs.YtellieabhaphhabGreatDoor
open Go.RowKit
theorem modify_at {α:Type} {l:List α} {k:Nat} {x:α} (f:α→α) (h:l[k]?=some x):(l.modify k f)[k]?=some (f x):=by
 rw [List.getElem?_modify,h];simp
theorem par_test {f:Nat} {s:ByteArray} {yes no:Int} {m:MS} {st:RS} (hp:m.p=(st.i,false)) (hi:st.i≤s.size) (hfr:FR s m.row st.nodes) (hg:(tstM s yes no m).p.2=false) :
  CPar s (f+1) yes no m st (tstM s yes no m) (condT s st):=by
 obtain ⟨r1,r2⟩:=tst_ref s st.i
 have hg':(testF s st.i).2.2=false:=by
  have:(tstF s m.p).2.2=false:=hg
  rw [hp,r1] at this;exact this
 obtain ⟨g1,g2,g3⟩:=testF_gn s st.i hg'
 have hge:=testF_ge s st.i
 have hle:=testF_le s st.i hi
 have hn1:N1 s (testF s st.i).1:=⟨g1,by omega,by omega,by omega⟩
 have htx:sinceB s m.p.1 (tstF s m.p).2.1=txN s (testF s st.i).1:=by
  unfold sinceB txN
  rw [hp,r1,g2,g3,Int.toNat_natCast]
  congr 1
  omega
 have hrow:(tstM s yes no m).row=m.row++[encN (testF s st.i).1 (txN s (testF s st.i).1) yes no]:=by
  show m.row++[((tstF s m.p).1.setT (sinceB s m.p.1 (tstF s m.p).2.1)).setW yes no]=_
  rw [htx,hp,r2]
  rfl
 have hit:(condT s st).items=(st.items++[(⟨99,st.nodes.length,0,0⟩:It)]).modify st.items.length (fun x=>{ x with en:=((st.items++[(⟨99,st.nodes.length,0,0⟩:It)]).length:Nat) }):=rfl
 have hl:(condT s st).items.length=st.items.length+1:=by rw [hit,List.length_modify,List.length_append];rfl
 refine ⟨⟨?_,hg',rfl,?_,⟨?_,Ag.refl⟩,?_,hge.1,hle⟩,?_,?_,?_⟩
 ·show (tstF s m.p).2=_
  rw [hp,r1]
  exact Prod.ext rfl hg'
 ·rw [hrow];exact hfr.one _ _ _ hn1
 ·rw [hrow];exact Ag.app _ _
 ·rw [hit];exact (Ag.app _ _).mod _ (.inr (Nat.le_refl _))
 ·refine ⟨encN (testF s st.i).1 (txN s (testF s st.i).1) yes no,?_,actN_ne (testF s st.i).1.op⟩
  ·rw [hrow,List.getElem?_append_right (Nat.le_refl _),Nat.sub_self];rfl
 ·intro p n h1 h2
  rw [hrow,List.getElem?_append_right h1] at h2
  have:n∈[encN (testF s st.i).1 (txN s (testF s st.i).1) yes no]:=List.mem_of_getElem? h2
  obtain rfl:n=_:=by simpa using this
  exact actN_ne (testF s st.i).1.op
 ·intro M IT Ld W hF hX hI hIl
  obtain ⟨q1,q2⟩:=fin_node hF (m:=tstM s yes no m) (row:=m.row) (n:=encN (testF s st.i).1 (txN s (testF s st.i).1) yes no) (by rw [hrow];exact Ag.refl) hX.row (actN_ne _)
  have hc:nj (tstM s yes no m).row=nj m.row+1:=by rw [hrow,nj_encN]
  have hop:decide ((encN (testF s st.i).1 (txN s (testF s st.i).1) yes no).act=12∨(encN (testF s st.i).1 (txN s (testF s st.i).1) yes no).act=13)=true:=decide_eq_true ((act_tst g1.op).2 (testF_op s st.i))
  rw [hop] at q2
  refine ⟨⟨99,st.nodes.length,0,(st.items.length+1:Nat)⟩,?_,by rw [hl],?_,by omega,by omega,.inl ⟨rfl,?_,hc,hl,q2⟩⟩
  ·refine hI.at (Nat.le_refl _) ?_
   rw [hit,modify_at _ (x:=(⟨99,st.nodes.length,0,0⟩:It)) (by simp)]
   simp
  ·have:=ag_le hI (by omega);omega
  ·rw [hfr.len]
def pushOp (s:ByteArray) (st:RS):RS:={ st with i:=st.i+1,items:=st.items++[⟨pk s st.i,0,0,0⟩] }
theorem op_item {s:ByteArray} {st st3:RS} {IT:List It} (h:Ag 0 (pushOp s st).items st3.items) (hI:Ag st.items.length (endAt st3 st.items.length).items IT) :
  IT[st.items.length]?=some ⟨pk s st.i,0,0,(st3.items.length:Nat)⟩:=by
 refine hI.at (Nat.le_refl _) ?_
 have h1:st3.items[st.items.length]?=some ⟨pk s st.i,0,0,0⟩:=h.at (Nat.zero_le _) (by show (st.items++_)[_]?=_;simp)
 show (st3.items.modify st.items.length (fun x=>{ x with en:=(st3.items.length:Nat) }))[st.items.length]?=_
 rw [modify_at _ h1]
theorem endAt_len (st:RS) (k:Nat):(endAt st k).items.length=st.items.length:=List.length_modify ..
theorem par_cond:∀ (f:Nat) (s:ByteArray) (yes no:Int) (m:MS) (st:RS),s.size≤1000→m.p=(st.i,false)→st.bad=false→st.i≤s.size→s.size-st.i<f→FR s m.row st.nodes →
  (condM f s yes no m).p.2=false→CPar s f yes no m st (condM f s yes no m) (condF f s st)
 | 0,_,_,_,_,_,_,_,_,_,h,_,_=>by omega
 | f+1,s,yes,no,m,st,hs,hp,hb,hi,hf,hfr,hg=>by
  have hpk:pkb s m.p=pk s st.i:=by rw [hp,pkb_false]
  rw [condM] at hg ⊢
  rw [condF]
  rw [hpk] at hg ⊢
  by_cases h33:pk s st.i=33
  ·rw [if_pos h33] at hg ⊢
   have hop:isOp (pk s st.i)=true:=by simp [isOp,h33]
   obtain ⟨e1,e2,e3⟩:=eat_at (s:=s) (p:=m.p) (c:=33) (by rw [hpk];exact h33) (by decide)
   rw [hp] at e2
   have hst:(if isOp (pk s st.i)=true then
     (let st2:=condF f s { st with i:=st.i+1,items:=st.items++[⟨pk s st.i,0,0,0⟩] }
      let st3:=if (pk s st.i != 33 && !st2.bad) then condF f s st2 else st2
      endAt st3 st.items.length) else condT s st)=endAt (condF f s (pushOp s st)) st.items.length:=by
    rw [if_pos hop]
    have:¬ ((pk s st.i != 33 && !(condF f s { st with i:=st.i+1,items:=st.items++[⟨pk s st.i,0,0,0⟩] }).bad)=true):=by simp [h33]
    dsimp only
    rw [if_neg this]
    rfl
   rw [hst]
   have x1:(expM s m [33]).p=((pushOp s st).i,false):=by rw [expM_p,e1,hp];rfl
   have ih:=par_cond f s no yes (expM s m [33]) (pushOp s st) hs x1 hb (by show st.i+1≤_;omega) (by show s.size-(st.i+1)<f;omega) hfr hg
   have hpl:(pushOp s st).items.length=st.items.length+1:=by show (st.items++[_]).length=_;simp
   have h0:Ag 0 st.items (pushOp s st).items:=Ag.app _ _
   have hln:=ih.r.y.len
   refine ⟨⟨ih.r.p,ih.r.b,ih.r.lo,ih.r.fr,(xe_exp _).trans ih.r.x,(h0.trans ih.r.y).mod _ (.inr (Nat.le_refl _)),by have:=ih.r.ge;show st.i≤_;exact Nat.le_trans (Nat.le_succ _) this,ih.r.le⟩,ih.nd,ih.al,?_⟩
   intro M IT Ld W hF hX hI hIl
   have hit:=op_item ih.r.y hI
   have hI2:Ag (pushOp s st).items.length (condF f s (pushOp s st)).items IT:=hI.unmod (by omega) (by omega)
   have hw:=ih.w M IT Ld W hF hX hI2 hIl
   rw [hpl] at hw
   obtain ⟨w1,w2,_,_,_,w3⟩:=cdw_lt hw
   exact ⟨_,hit,by rw [endAt_len],by rw [endAt_len];exact w3,by rw [endAt_len];omega,w2,.inr (.inl ⟨by simp [h33],by rw [endAt_len];exact hw⟩)⟩
  rw [if_neg h33] at hg ⊢
  by_cases h38:pk s st.i=38
  ·rw [if_pos h38] at hg ⊢
   have hop:isOp (pk s st.i)=true:=by simp [isOp,h38]
   obtain ⟨e1,e2,e3⟩:=eat_at (s:=s) (p:=m.p) (c:=38) (by rw [hpk];exact h38) (by decide)
   rw [hp] at e2
   have x1:(newM (expM s m [38])).p=((pushOp s st).i,false):=by rw [newM_p,expM_p,e1,hp];rfl
   have hpl:(pushOp s st).items.length=st.items.length+1:=by show (st.items++[_]).length=_;simp
   have h0:Ag 0 st.items (pushOp s st).items:=Ag.app _ _
   have hi1:(pushOp s st).i=st.i+1:=rfl
   have hi0:(newM (expM s m [38])).p.1=st.i+1:=by rw [x1,hi1]
   have mc:=condM_mc f s m.marks.length no (newM (expM s m [38])) (by omega) (by omega)
   have hy3:(condM f s m.marks.length no (newM (expM s m [38]))).p.2=false:=by
    have:=(condM_gp f s yes no (layM (condM f s m.marks.length no (newM (expM s m [38]))) m.marks.length) hs (by rw [layM_p];have:=mc.lo;omega) (by rw [layM_p];exact mc.i) hg).1
    exact this
   have ih1:=par_cond f s m.marks.length no (newM (expM s m [38])) (pushOp s st) hs x1 hb (by omega) (by omega) hfr hy3
   have hst:(if isOp (pk s st.i)=true then
     (let st2:=condF f s { st with i:=st.i+1,items:=st.items++[⟨pk s st.i,0,0,0⟩] }
      let st3:=if (pk s st.i != 33 && !st2.bad) then condF f s st2 else st2
      endAt st3 st.items.length) else condT s st)=endAt (condF f s (condF f s (pushOp s st))) st.items.length:=by
    rw [if_pos hop]
    have hbb:(condF f s { st with i:=st.i+1,items:=st.items++[⟨pk s st.i,0,0,0⟩] }).bad=false:=ih1.r.b
    have:((pk s st.i != 33 && !(condF f s { st with i:=st.i+1,items:=st.items++[⟨pk s st.i,0,0,0⟩] }).bad)=true):=by rw [hbb];simp [h38]
    dsimp only
    rw [if_pos this]
    rfl
   rw [hst]
   generalize condM f s m.marks.length no (newM (expM s m [38]))=y3 at *
   generalize hc1:condF f s (pushOp s st)=c1 at *
   have ih2:=par_cond f s yes no (layM y3 m.marks.length) c1 hs ih1.r.p ih1.r.b ih1.r.le (by have:=ih1.r.ge;omega) ih1.r.fr hg
   generalize condM f s yes no (layM y3 m.marks.length)=m' at *
   generalize condF f s c1=c2 at *
   have hln1:=ih1.r.y.len
   have hln2:=ih2.r.y.len
   have hmx:Xe 0 m y3:=((xe_exp _).trans xe_new).trans ih1.r.x
   have hml:m.marks.length<y3.marks.length:=by
    have:=ih1.r.x.mm.len
    have e:(newM (expM s m [38])).marks.length=m.marks.length+1:=by show (m.marks++[0]).length=_;simp
    omega
   refine ⟨⟨ih2.r.p,ih2.r.b,ih2.r.lo.trans ih1.r.lo,ih2.r.fr,(hmx.lay (.inr (Nat.le_refl _))).trans ih2.r.x,((h0.trans ih1.r.y).trans ih2.r.y).mod _ (.inr (Nat.le_refl _)),by have:=ih1.r.ge;have:=ih2.r.ge;show st.i≤c2.i;omega,ih2.r.le⟩,?_,?_,?_⟩
   ·obtain ⟨n,n1,n2⟩:=ih1.nd
    exact ⟨n,ih2.r.x.row.at (Nat.zero_le _) n1,n2⟩
   ·intro p n h1 h2
    rcases Nat.lt_or_ge p y3.row.length with h3|h3
    ·rw [ih2.r.x.row p (Nat.zero_le _) h3] at h2
     exact ih1.al p n h1 h2
    ·exact ih2.al p n h3 h2
   intro M IT Ld W hF hX hI hIl
   have hit:=op_item (ih1.r.y.trans ih2.r.y) hI
   have hI2:Ag (st.items.length+1) c2.items IT:=hI.unmod (by omega) (by omega)
   have hI1:Ag (pushOp s st).items.length c1.items IT:=by rw [hpl];exact (ih2.r.y.mono (Nat.zero_le _)).trans hI2
   have hX2:Xe m.marks.length (layM y3 m.marks.length) M:=(ih2.r.x.mono (Nat.zero_le _)).trans hX
   have hlm:(layM y3 m.marks.length).marks.length=y3.marks.length:=List.length_set ..
   have hX1:Xe (m.marks.length+1) y3 M:=(xe_lay (Nat.lt_succ_self _)).trans (hX2.mono (Nat.le_succ _))
   have hnl:(newM (expM s m [38])).marks.length=m.marks.length+1:=by show (m.marks++[0]).length=_;simp
   have hw1:=ih1.w M IT Ld W hF (by rw [hnl];exact hX1) hI1 hIl
   have hw2:=ih2.w M IT Ld W hF (hX.mono (by rw [hlm];omega)) (hI2.mono (by omega)) hIl
   have hmk:plcM M (m.marks.length:Nat)=y3.row.length:=plc_of (hX2.mm.at (Nat.le_refl _) (lay_at hml))
   obtain ⟨n,n1,n2⟩:=ih2.nd
   have hld:Ld y3.row.length=(nj y3.row:Nat):=by
    have:=(hF.node y3.row.length n (hX.row.at (Nat.zero_le _) n1) n2).1
    rw [this,hX2.row.take (p:=y3.row.length) (Nat.le_refl _)]
    show ((nj (y3.row.take y3.row.length):Nat):Int)=_
    rw [List.take_length]
   rw [hmk,hld,hpl] at hw1
   obtain ⟨w1,w2,_⟩:=cdw_lt hw1
   obtain ⟨w4,w5,_,_,_,w6⟩:=cdw_lt hw2
   refine ⟨_,hit,by rw [endAt_len],by rw [endAt_len];exact w6,by rw [endAt_len];omega,Nat.lt_trans w2 w5,.inr (.inr (.inl ⟨by simp [h38],c1.items.length,nj y3.row,hw1,?_⟩))⟩
   rw [endAt_len];exact hw2
  rw [if_neg h38] at hg ⊢
  by_cases h124:pk s st.i=124
  ·rw [if_pos h124] at hg ⊢
   have hop:isOp (pk s st.i)=true:=by simp [isOp,h124]
   obtain ⟨e1,e2,e3⟩:=eat_at (s:=s) (p:=m.p) (c:=124) (by rw [hpk];exact h124) (by decide)
   rw [hp] at e2
   have x1:(newM (expM s m [124])).p=((pushOp s st).i,false):=by rw [newM_p,expM_p,e1,hp];rfl
   have hpl:(pushOp s st).items.length=st.items.length+1:=by show (st.items++[_]).length=_;simp
   have h0:Ag 0 st.items (pushOp s st).items:=Ag.app _ _
   have hi1:(pushOp s st).i=st.i+1:=rfl
   have hi0:(newM (expM s m [124])).p.1=st.i+1:=by rw [x1,hi1]
   have mc:=condM_mc f s yes m.marks.length (newM (expM s m [124])) (by omega) (by omega)
   have hy3:(condM f s yes m.marks.length (newM (expM s m [124]))).p.2=false:=by
    have:=(condM_gp f s yes no (layM (condM f s yes m.marks.length (newM (expM s m [124]))) m.marks.length) hs (by rw [layM_p];have:=mc.lo;omega) (by rw [layM_p];exact mc.i) hg).1
    exact this
   have ih1:=par_cond f s yes m.marks.length (newM (expM s m [124])) (pushOp s st) hs x1 hb (by omega) (by omega) hfr hy3
   have hst:(if isOp (pk s st.i)=true then
     (let st2:=condF f s { st with i:=st.i+1,items:=st.items++[⟨pk s st.i,0,0,0⟩] }
      let st3:=if (pk s st.i != 33 && !st2.bad) then condF f s st2 else st2
      endAt st3 st.items.length) else condT s st)=endAt (condF f s (condF f s (pushOp s st))) st.items.length:=by
    rw [if_pos hop]
    have hbb:(condF f s { st with i:=st.i+1,items:=st.items++[⟨pk s st.i,0,0,0⟩] }).bad=false:=ih1.r.b
    have:((pk s st.i != 33 && !(condF f s { st with i:=st.i+1,items:=st.items++[⟨pk s st.i,0,0,0⟩] }).bad)=true):=by rw [hbb];simp [h124]
    dsimp only
    rw [if_pos this]
    rfl
   rw [hst]
   generalize condM f s yes m.marks.length (newM (expM s m [124]))=y3 at *
   generalize hc1:condF f s (pushOp s st)=c1 at *
   have ih2:=par_cond f s yes no (layM y3 m.marks.length) c1 hs ih1.r.p ih1.r.b ih1.r.le (by have:=ih1.r.ge;omega) ih1.r.fr hg
   generalize condM f s yes no (layM y3 m.marks.length)=m' at *
   generalize condF f s c1=c2 at *
   have hln1:=ih1.r.y.len
   have hln2:=ih2.r.y.len
   have hmx:Xe 0 m y3:=((xe_exp _).trans xe_new).trans ih1.r.x
   have hml:m.marks.length<y3.marks.length:=by
    have:=ih1.r.x.mm.len
    have e:(newM (expM s m [124])).marks.length=m.marks.length+1:=by show (m.marks++[0]).length=_;simp
    omega
   refine ⟨⟨ih2.r.p,ih2.r.b,ih2.r.lo.trans ih1.r.lo,ih2.r.fr,(hmx.lay (.inr (Nat.le_refl _))).trans ih2.r.x,((h0.trans ih1.r.y).trans ih2.r.y).mod _ (.inr (Nat.le_refl _)),by have:=ih1.r.ge;have:=ih2.r.ge;show st.i≤c2.i;omega,ih2.r.le⟩,?_,?_,?_⟩
   ·obtain ⟨n,n1,n2⟩:=ih1.nd
    exact ⟨n,ih2.r.x.row.at (Nat.zero_le _) n1,n2⟩
   ·intro p n h1 h2
    rcases Nat.lt_or_ge p y3.row.length with h3|h3
    ·rw [ih2.r.x.row p (Nat.zero_le _) h3] at h2
     exact ih1.al p n h1 h2
    ·exact ih2.al p n h3 h2
   intro M IT Ld W hF hX hI hIl
   have hit:=op_item (ih1.r.y.trans ih2.r.y) hI
   have hI2:Ag (st.items.length+1) c2.items IT:=hI.unmod (by omega) (by omega)
   have hI1:Ag (pushOp s st).items.length c1.items IT:=by rw [hpl];exact (ih2.r.y.mono (Nat.zero_le _)).trans hI2
   have hX2:Xe m.marks.length (layM y3 m.marks.length) M:=(ih2.r.x.mono (Nat.zero_le _)).trans hX
   have hlm:(layM y3 m.marks.length).marks.length=y3.marks.length:=List.length_set ..
   have hX1:Xe (m.marks.length+1) y3 M:=(xe_lay (Nat.lt_succ_self _)).trans (hX2.mono (Nat.le_succ _))
   have hnl:(newM (expM s m [124])).marks.length=m.marks.length+1:=by show (m.marks++[0]).length=_;simp
   have hw1:=ih1.w M IT Ld W hF (by rw [hnl];exact hX1) hI1 hIl
   have hw2:=ih2.w M IT Ld W hF (hX.mono (by rw [hlm];omega)) (hI2.mono (by omega)) hIl
   have hmk:plcM M (m.marks.length:Nat)=y3.row.length:=plc_of (hX2.mm.at (Nat.le_refl _) (lay_at hml))
   obtain ⟨n,n1,n2⟩:=ih2.nd
   have hld:Ld y3.row.length=(nj y3.row:Nat):=by
    have:=(hF.node y3.row.length n (hX.row.at (Nat.zero_le _) n1) n2).1
    rw [this,hX2.row.take (p:=y3.row.length) (Nat.le_refl _)]
    show ((nj (y3.row.take y3.row.length):Nat):Int)=_
    rw [List.take_length]
   rw [hmk,hld,hpl] at hw1
   obtain ⟨w1,w2,_⟩:=cdw_lt hw1
   obtain ⟨w4,w5,_,_,_,w6⟩:=cdw_lt hw2
   refine ⟨_,hit,by rw [endAt_len],by rw [endAt_len];exact w6,by rw [endAt_len];omega,Nat.lt_trans w2 w5,.inr (.inr (.inr ⟨by simp [h124],c1.items.length,nj y3.row,hw1,?_⟩))⟩
   rw [endAt_len];exact hw2
  ·rw [if_neg h124] at hg ⊢
   have hop:¬ isOp (pk s st.i)=true:=by simp [isOp,h33,h38,h124]
   rw [if_neg hop]
   exact par_test hp hi hfr hg
end Go.Proofs.YtellieabhaphhabGreatDoor
namespace Go.Proofs.YtellieabhaphhabGreatDoor
open Go.RowKit
def PcW (C:Nat→Nat→Nat→Nat→Int→Int→Prop) (S:Nat→Nat→Nat→Nat→Int→Int→Int→Prop) (IT:List It) (W:Nat→Int × Int × Bool) (it:It) (i j c m:Nat) (nx ou ag:Int):Prop :=
 (it.k=115∧it.n=(c:Int)∧m=c+1∧W c=(nx,nx,false)) ∨
 ((it.k=62∨it.k=60)∧m=c) ∨
 (it.k=105∧∃ a b p q t g,C (i+1) a c p t g∧a≤b∧b≤j∧it.els=(b:Int)∧S a b p q nx ou ag∧S b j q m nx ou ag∧entO IT a b nx ou ag=some t∧entO IT b j nx ou ag=some g) ∨
 (it.k=119∧∃ a p t,C (i+1) a c p t nx∧a≤j∧S a j p m c nx c∧entO IT a j c nx c=some t)
def StW:Nat→List It→(Nat→Int × Int × Bool)→Nat→Nat→Nat→Nat→Int→Int→Int→Prop
 | 0,_,_,_,_,_,_,_,_,_=>False
 | f+1,IT,W,i,e,c,d,nx,ou,ag=>c≤d∧((i=e∧c=d) ∨
   (i<e∧e≤1000∧∃ (it:It) (j m:Nat) (nx':Int),IT[i]?=some it∧it.en=(j:Int)∧i<j∧j≤e∧c≤m∧m≤d∧entO IT j e nx ou ag=some nx' ∧
    PcW (CdW f IT W) (StW f IT W) IT W it i j c m nx' ou ag∧StW f IT W j e m d nx ou ag))
def JH (M:MS) (lp:Bool) (h b:Int) (hi:Nat):Prop:=lp=true→hi≤plcM M b∧∃ n,M.row[plcM M h]?=some n∧n.act≠15
def SPar (s:ByteArray) (f E:Nat) (S:Int→Int→MS→MS) (R:RS→RS):Prop :=
 ∀ (lp:Bool) (h b:Int) (m:MS) (st:RS),lpOk lp h b→decide (st.loops≠0)=lp→m.p=(st.i,false)→st.bad=false→st.i≤s.size→s.size-st.i<f→FR s m.row st.nodes →
  (S h b m).p.2=false→(pk s (S h b m).p.1=E∨s.size≤(S h b m).p.1) →
  Pr s m st (S h b m) (R st)∧(∀ M,Xe m.marks.length (S h b m) M→JH M lp h b (S h b m).row.length→JOk M m.row.length (S h b m).row.length)∧∀ M IT Ld W nx ou ag,Fin' M Ld W→Xe m.marks.length (S h b m) M→Ag st.items.length (R st).items IT→IT.length≤1000 →
   nx=Ld (S h b m).row.length→(lp=true→ou=Ld (plcM M b)∧ag=Ld (plcM M h)) →
   StW f IT W st.items.length (R st).items.length (nj m.row) (nj (S h b m).row) nx ou ag∧entO IT st.items.length (R st).items.length nx ou ag=some (Ld m.row.length)
def OPar (s:ByteArray) (f:Nat) (lp:Bool) (h b:Int) (m:MS) (st:RS) (m':MS) (st':RS):Prop :=
  Pr s m st m' st'∧st.items.length<st'.items.length∧(∀ M,Xe m.marks.length m' M→JH M lp h b m'.row.length→JOk M m.row.length m'.row.length)∧∀ M IT Ld W nx ou ag,Fin' M Ld W→Xe m.marks.length m' M→Ag st.items.length st'.items IT→IT.length≤1000 →
   nx=Ld m'.row.length→(lp=true→ou=Ld (plcM M b)∧ag=Ld (plcM M h)) →
   ∃ it,IT[st.items.length]?=some it∧it.en=(st'.items.length:Int)∧PcW (CdW f IT W) (StW f IT W) IT W it st.items.length st'.items.length (nj m.row) (nj m'.row) nx ou ag ∧
    ∀ e nx0,st.items.length<e→entO IT st.items.length e nx0 ou ag=some (Ld m.row.length)
theorem eatS_at {s:ByteArray} {st:RS} {c:Nat} (hb:st.bad=false) (h:pk s st.i=c) (hc:c≠0):eatS s st c={ st with i:=st.i+1 }:=by
 have e:eatF s (st.i,st.bad) c=(st.i+1,false):=by
  rw [eatF_pkb s _ c hc,hb,pkb_false,if_pos h]
 unfold eatS
 rw [e,← hb]
theorem exp1_good {s:ByteArray} {p:Nat × Bool} {c:UInt8} (h:(expF s p [c]).2=false):p.2=false∧pk s p.1=c.toNat∧expF s p [c]=(p.1+1,false):=eatF_good s p c.toNat h
theorem exp2_good {s:ByteArray} {p:Nat × Bool} {c d:UInt8} (h:(expF s p [c,d]).2=false):p.2=false∧pk s p.1=c.toNat∧pk s (p.1+1)=d.toNat∧expF s p [c,d]=(p.1+2,false):=by
 have h1:(expF s (eatF s p c.toNat) [d]).2=false:=h
 obtain ⟨a1,a2,a3⟩:=exp1_good h1
 obtain ⟨b1,b2,b3⟩:=eatF_good s p c.toNat a1
 rw [b3] at a2 a3
 refine ⟨b1,b2,a2,?_⟩
 show expF s (eatF s p c.toNat) [d]=_
 rw [b3,a3]
theorem par_act {f:Nat} {s:ByteArray} {lp:Bool} {h b:Int} {m:MS} {st:RS} (hp:m.p=(st.i,false)) (hi:st.i<s.size) (hfr:FR s m.row st.nodes) (hg:(actM s m).p.2=false) :
  OPar s f lp h b m st (actM s m) (actF s st):=by
 obtain ⟨r1,r2⟩:=nac_ref s st.i
 have hg0:(expF s (nacF s m.p).2 [59]).2=false:=hg
 obtain ⟨a1,a2,a3⟩:=exp1_good hg0
 rw [hp,r1] at a1 a2 a3
 have hr2:=r2 a1
 obtain ⟨g1,g2,g3⟩:=simpF_gn s st.i a1
 have hge:=simpF_ge s st.i
 have hle:=simpF_le s st.i (Nat.le_of_lt hi)
 have hn1:N1 s (simpF s st.i).1:=⟨g1,by omega,by omega,by omega⟩
 have htx:sinceB s m.p.1 (nacF s m.p).2.1=txN s (simpF s st.i).1:=by
  unfold sinceB txN
  rw [hp,r1,g2,g3,Int.toNat_natCast]
  congr 1
  omega
 have hrow:(actM s m).row=m.row++[encN (simpF s st.i).1 (txN s (simpF s st.i).1) m.marks.length m.marks.length]:=by
  show m.row++[((nacF s m.p).1.setT (sinceB s m.p.1 (nacF s m.p).2.1)).setW m.marks.length m.marks.length]=_
  rw [htx,hp,hr2]
  rfl
 have hmk:(actM s m).marks=(m.marks++[0]).set m.marks.length (m.row.length+1):=by
  show (m.marks++[0]).set m.marks.length (m.row++[_]).length=_
  rw [List.length_append];rfl
 have hmk2:(actM s m).marks[m.marks.length]?=some (m.row.length+1):=by rw [hmk,List.getElem?_set_self (by simp)]
 have hst:actF s st={ st with i:=(simpF s st.i).2.1+1,bad:=false,nodes:=st.nodes++[(simpF s st.i).1],items:=(st.items++[(⟨115,st.nodes.length,0,0⟩:It)]).modify st.items.length (fun x=>{ x with en:=((st.items++[(⟨115,st.nodes.length,0,0⟩:It)]).length:Nat) }) }:=by
  unfold actF
  rw [eatS_at a1 (c:=59) a2 (by decide)]
  unfold endAt
  dsimp only
  rw [a1]
 have hil:(actF s st).items.length=st.items.length+1:=by rw [hst];dsimp only;rw [List.length_modify,List.length_append];rfl
 have hbyte:=pk_in s (simpF s st.i).2.1 (by rw [a2];decide)
 refine ⟨⟨?_,by rw [hst],by rw [hst],?_,⟨?_,?_⟩,?_,?_,?_⟩,by omega,?_,?_⟩
 ·show expF s (nacF s m.p).2 [59]=_
  rw [hp,r1,a3,hst]
 ·rw [hrow,hst];exact hfr.one _ _ _ hn1
 ·rw [hrow];exact Ag.app _ _
 ·rw [hmk];exact (Ag.app _ _).set _ (.inr (Nat.le_refl _))
 ·rw [hst];exact (Ag.app _ _).mod _ (.inr (Nat.le_refl _))
 ·rw [hst];dsimp only;have:=hge.1;omega
 ·rw [hst];dsimp only;omega
 ·intro M hX _
  rw [hrow,List.length_append]
  exact jok_one (n:=encN (simpF s st.i).1 (txN s (simpF s st.i).1) m.marks.length m.marks.length) (hX.row.at (Nat.zero_le _) (by rw [hrow];simp)) (fun e=>absurd e (actN_ne (simpF s st.i).1.op))
 ·intro M IT Ld W nx ou ag hF hX hI hIl hnx hlp
  obtain ⟨q1,q2⟩:=fin_node hF (m:=actM s m) (row:=m.row) (n:=encN (simpF s st.i).1 (txN s (simpF s st.i).1) m.marks.length m.marks.length) (by rw [hrow];exact Ag.refl) hX.row (actN_ne _)
  have hc:nj (actM s m).row=nj m.row+1:=by rw [hrow,nj_encN]
  have hit:IT[st.items.length]?=some ⟨115,st.nodes.length,0,(st.items.length+1:Nat)⟩:=by
   refine hI.at (Nat.le_refl _) ?_
   rw [hst]
   dsimp only
   rw [modify_at _ (x:=(⟨115,st.nodes.length,0,0⟩:It)) (by simp)]
   simp
  have hpl:plcM M (m.marks.length:Nat)=m.row.length+1:=plc_of (hX.mm.at (Nat.le_refl _) hmk2)
  have hrl:(actM s m).row.length=m.row.length+1:=by rw [hrow,List.length_append];rfl
  refine ⟨_,hit,by rw [hil],.inl ⟨rfl,by rw [hfr.len],hc,?_⟩,?_⟩
  ·have hop:decide ((encN (simpF s st.i).1 (txN s (simpF s st.i).1) m.marks.length m.marks.length).act=12∨(encN (simpF s st.i).1 (txN s (simpF s st.i).1) m.marks.length m.marks.length).act=13)=false :=
    decide_eq_false (fun e=>by have:=(act_tst g1.op).1 e;have:=simpF_op s st.i;omega)
   rw [q2,hop]
   show (Ld (plcM M (m.marks.length:Nat)),Ld (plcM M (m.marks.length:Nat)),false)=_
   rw [hpl,hnx,hrl]
  ·intro e nx0 he
   unfold entO
   rw [if_neg (by omega),hit]
   dsimp only
   rw [if_pos rfl,q1,hfr.len]
theorem par_lep {f:Nat} {s:ByteArray} {lp:Bool} {h b:Int} {m:MS} {st:RS} {c:UInt8} {k:Int} (hc:c=62∨c=60) (hk:k=if c=62 then b else h) (hl:lpOk lp h b) (hlp:decide (st.loops≠0)=lp) (hp:m.p=(st.i,false)) (hb:st.bad=false) (hfr:FR s m.row st.nodes) (hpk:pk s st.i=c.toNat)
  (hg:(lepM s [c,59] k m).p.2=false) :
  OPar s f lp h b m st (lepM s [c,59] k m) (if st.loops=0 then { st with bad:=true } else lpF s st):=by
 have hk1:k≠-1:=by
  intro e
  unfold lepM at hg
  rw [if_pos e] at hg
  cases hg
 have hlt:lp=true:=by
  rcases hl with ⟨q,_⟩|⟨_,q1,q2⟩
  ·exact q
  ·exfalso
   apply hk1
   rw [hk]
   split
   ·exact q2
   ·exact q1
 subst hlt
 have hlo:st.loops≠0:=by simpa using hlp
 rw [if_neg hlo]
 unfold lepM at hg ⊢
 rw [if_neg hk1] at hg ⊢
 have hg0:(expF s m.p [c,59]).2=false:=hg
 obtain ⟨a1,a2,a3,a4⟩:=exp2_good hg0
 rw [hp] at a2 a3 a4
 have hst:lpF s st={ st with i:=st.i+2,items:=(st.items++[(⟨pk s st.i,0,0,0⟩:It)]).modify st.items.length (fun x=>{ x with en:=((st.items++[(⟨pk s st.i,0,0,0⟩:It)]).length:Nat) }) }:=by
  unfold lpF
  rw [eatS_at (by exact hb) (c:=59) (by exact a3) (by decide)]
  rfl
 have hil:(lpF s st).items.length=st.items.length+1:=by rw [hst];dsimp only;rw [List.length_modify,List.length_append];rfl
 have hin:=pk_in s (st.i+1) (by rw [a3];decide)
 refine ⟨⟨?_,by rw [hst];exact hb,by rw [hst],?_,(xe_exp _).trans (xe_jmp _),?_,?_,?_⟩,by omega,?_,?_⟩
 ·show expF s m.p [c,59]=_
  rw [hp,a4,hst]
 ·rw [hst];exact hfr.jump k
 ·rw [hst];exact (Ag.app _ _).mod _ (.inr (Nat.le_refl _))
 ·rw [hst];dsimp only;omega
 ·rw [hst];dsimp only;omega
 ·intro M hX hJ
  obtain ⟨j1,j2⟩:=hJ rfl
  have hrl:(jmpM (expM s m [c,59]) k).row.length=m.row.length+1:=by show (m.row++[_]).length=_;simp
  rw [hrl] at j1 ⊢
  refine jok_one (n:=jumpN k) (hX.row.at (Nat.zero_le _) (by show (m.row++[jumpN k])[_]?=_;simp)) (fun _=>?_)
  show _<plcM M k∨∃ n',M.row[plcM M k]?=some n'∧n'.act≠15
  rw [hk]
  split
  ·exact .inl (by omega)
  ·exact .inr j2
 ·intro M IT Ld W nx ou ag hF hX hI hIl hnx hlp
  obtain ⟨l1,l2⟩:=hlp rfl
  have hit:IT[st.items.length]?=some ⟨pk s st.i,0,0,(st.items.length+1:Nat)⟩:=by
   refine hI.at (Nat.le_refl _) ?_
   rw [hst]
   dsimp only
   rw [modify_at _ (x:=(⟨pk s st.i,0,0,0⟩:It)) (by simp)]
   simp
  have hj:Ld m.row.length=Ld (plcM M k):=hF.jump _ _ (hX.row.at (Nat.zero_le _) (by show (m.row++[jumpN k])[_]?=_;simp))
  refine ⟨_,hit,by rw [hil],.inr (.inl ⟨?_,nj_jump m.row k⟩),?_⟩
  ·rw [hpk];rcases hc with rfl|rfl
   ·exact .inl rfl
   ·exact .inr rfl
  ·intro e nx0 he
   unfold entO
   rw [if_neg (by omega),hit]
   dsimp only
   rw [hpk,hj,hk]
   rcases hc with rfl|rfl
   ·rw [if_neg (by decide),if_pos (by decide),l1];rfl
   ·rw [if_neg (by decide),if_neg (by decide),if_pos (by decide),l2];rfl
end Go.Proofs.YtellieabhaphhabGreatDoor
