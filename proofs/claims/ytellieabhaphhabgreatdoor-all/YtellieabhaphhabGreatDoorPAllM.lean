import Derived.Test.YtellieabhaphhabGreatDoorPAllL
namespace Go.Proofs.YtellieabhaphhabGreatDoor
open Go.RowKit
theorem stepF_ok {inp:ByteArray} {ND:List Nd} {m m':Mc} {it:It} (hN:∀ n∈ND,NOk n) (h:MOk m) (hs:stepF inp ND m it=some m'):MOk m':=by
 unfold stepF at hs
 split at hs
 ·split at hs
  ·simp at hs
  ·rename_i nd hnd
   have hk:=hN nd (List.mem_of_getElem? hnd)
   split at hs
   ·rename_i xu yu vu hx hy hv
    have h1:=startF_ok it.n.toNat h
    have oy:=h.v yu (List.mem_of_getElem? hy)
    have ov:=h.v vu (List.mem_of_getElem? hv)
    split at hs
    ·rename_i hq
     simp only [Option.some.injEq] at hs
     subst hs
     exact doF_ok hk.k oy ov h1.1 (h1.2.1 hq)
    ·simp only [Option.some.injEq] at hs
     subst hs
     exact h1.1
   ·simp at hs
 ·simp at hs
set_option maxHeartbeats 4000000 in
theorem exR_ok:∀ (f:Nat) (IT:List It) (ND:List Nd) (inp:ByteArray) (m:Mc) (b:Bool) (i en:Nat) (m':Mc) (w:Nat),(∀ n∈ND,NOk n)→exR f IT ND inp m b i en=some (m',w)→MOk m→MOk m':=by
 intro f
 induction f with
 | zero=>intro IT ND inp m b i en m' w _ h;simp [exR] at h
 | succ f ih =>
  intro IT ND inp m b i en m' w hN h hm
  cases b
  ·rw [exR] at h
   split at h
   ·cases hit:IT[i]? with
    | none=>rw [hit] at h;simp at h
    | some it =>
     rw [hit] at h
     dsimp only at h
     split at h
     ·split at h
      ·cases hs:stepF inp ND m it with
       | none=>rw [hs] at h;simp at h
       | some m1=>rw [hs] at h;exact ih _ _ _ _ _ _ _ _ _ hN h (stepF_ok hN hm hs)
      split at h
      ·simp only [Option.some.injEq,Prod.mk.injEq] at h;rw [← h.1];exact hm
      split at h
      ·simp only [Option.some.injEq,Prod.mk.injEq] at h;rw [← h.1];exact hm
      split at h
      ·cases hs:exR f IT ND inp m true i 0 with
       | none=>rw [hs] at h;simp at h
       | some q=>rw [hs] at h;exact ih _ _ _ _ _ _ _ _ _ hN h (ih _ _ _ _ _ _ _ _ _ hN hs hm)
      split at h
      ·cases hs:decF f IT ND m (i+1) with
       | none=>rw [hs] at h;simp at h
       | some q =>
        obtain ⟨m1,c⟩:=q
        rw [hs] at h
        dsimp only at h
        have h1:=decF_ok _ _ _ _ _ _ _ hs hm
        split at h
        ·exact ih _ _ _ _ _ _ _ _ _ hN h h1
        cases hit1:IT[i+1]? with
        | none=>rw [hit1] at h;simp at h
        | some it1 =>
         rw [hit1] at h
         dsimp only at h
         split at h
         ·cases hs2:exR f IT ND inp m1 false (if c then it1.en.toNat else it.els.toNat) (if c then it.els.toNat else it.en.toNat) with
          | none=>rw [hs2] at h;simp at h
          | some q =>
           obtain ⟨m2,w2⟩:=q
           rw [hs2] at h
           dsimp only at h
           have h2:=ih _ _ _ _ _ _ _ _ _ hN hs2 h1
           split at h
           ·simp only [Option.some.injEq,Prod.mk.injEq] at h;rw [← h.1];exact h2
           ·exact ih _ _ _ _ _ _ _ _ _ hN h h2
         ·simp at h
      ·exact ih _ _ _ _ _ _ _ _ _ hN h hm
     ·simp at h
   ·simp only [Option.some.injEq,Prod.mk.injEq] at h;rw [← h.1];exact hm
  ·rw [exR] at h
   split at h
   ·simp only [Option.some.injEq,Prod.mk.injEq] at h;rw [← h.1];exact hm
   cases hs:decF f IT ND m (i+1) with
   | none=>rw [hs] at h;simp at h
   | some q =>
    obtain ⟨m1,c⟩:=q
    rw [hs] at h
    dsimp only at h
    have h1:=decF_ok _ _ _ _ _ _ _ hs hm
    split at h
    ·simp only [Option.some.injEq,Prod.mk.injEq] at h;rw [← h.1];exact h1
    cases hit1:IT[i+1]? with
    | none=>rw [hit1] at h;simp at h
    | some a =>
     cases hit:IT[i]? with
     | none=>rw [hit1,hit] at h;simp at h
     | some b =>
      rw [hit1,hit] at h
      dsimp only at h
      split at h
      ·cases hs2:exR f IT ND inp m1 false a.en.toNat b.en.toNat with
       | none=>rw [hs2] at h;simp at h
       | some q =>
        obtain ⟨m2,w2⟩:=q
        rw [hs2] at h
        dsimp only at h
        have h2:=ih _ _ _ _ _ _ _ _ _ hN hs2 h1
        split at h
        ·simp only [Option.some.injEq,Prod.mk.injEq] at h;rw [← h.1];exact h2
        ·exact ih _ _ _ _ _ _ _ _ _ hN h h2
      ·simp at h
def LoopSaid (f:Nat):Prop:=∀ (w:World) (m lb:Nat) (inp:ByteArray) (mc:Mc) (r:Nat) (s:ByteArray) (st:RS) (O:Nat→Prop) (i:Nat) (mc':Mc) (d:Nat),
 RM w m lb inp mc r s st O→i≤999→exR f st.items st.nodes inp mc true i 0=some (mc',d) →
  Calls Tryz.prog 95 #[.pointer (some ⟨m,0,none⟩),.pointer (some ⟨r,0,none⟩),.int .i64 i] w fun e w'=>e=.returned (.tuple #[])∧MB w' m lb inp mc'∧Kp (MK m lb) w w'
def BlockSaid (f:Nat):Prop:=∀ (w:World) (m lb:Nat) (inp:ByteArray) (mc:Mc) (r:Nat) (s:ByteArray) (st:RS) (O:Nat→Prop) (i en:Nat) (mc':Mc) (d:Nat),
 RM w m lb inp mc r s st O→i≤1000→en≤1000→exR f st.items st.nodes inp mc false i en=some (mc',d) →
  Calls Tryz.prog 54 #[.pointer (some ⟨m,0,none⟩),.pointer (some ⟨r,0,none⟩),.int .i64 i,.int .i64 en] w fun e w'=>e=.returned (.int .i64 d)∧MB w' m lb inp mc'∧Kp (MK m lb) w w'
set_option maxHeartbeats 6400000 in
theorem loop_w {f:Nat} (ih:∀ k,k<f→BlockSaid k):LoopSaid f:=by
 intro w m lb inp mc r s st O i mc' d hR hi h
 have IH:=hide ih
 clear ih
 have H0:=hide h
 clear h
 go_enter Tryz.func95,Tryz.ntmps95
 go_wp2
 go_loopg [6] f (fun k _ wr=>∃ mc1,RM wr m lb inp mc1 r s st O∧Kp (MK m lb) w wr∧k≤f∧exR k st.items st.nodes inp mc1 true i 0=some (mc',d))
 case atStart=>exact ⟨mc,hR,Kp.refl _ _,Nat.le_refl _,H0.out⟩
 case round =>
  obtain ⟨mc1,R1,K1,hkf,hE⟩:=hrel
  have HK1:=hide K1
  have HKF:=hide hkf
  clear K1 hkf
  obtain ⟨c0,c1,c2,c3,c4,c5,c6,cf⟩:=R1.mb.c
  have hrl:=R1.rp.lt r R1.rp.own
  obtain ⟨hml,hll⟩:=R1.mb.lt
  cases gk with
  | zero=>simp [exR] at hE
  | succ k =>
   rw [exR] at hE
   by_cases e8:mc1.e=8
   ·rw [if_neg (by simp [e8])] at hE
    cases hs:decF k st.items st.nodes mc1 (i+1) with
    | none=>rw [hs] at hE;simp at hE
    | some q =>
     obtain ⟨m1,c⟩:=q
     rw [hs] at hE
     dsimp only at hE
     have HD:=hide (fun W (hW:RM W m lb inp mc1 r s st O)=>decide_w k W m lb inp mc1 r s st O (i+1) m1 c hW (by omega) hs)
     have ok1:=decF_ok _ _ _ _ _ _ _ hs R1.ok
     clear hs
     rw [e8] at c6
     have HE8:=hide e8
     clear e8
     by_cases hc:m1.e≠8∨c=false
     ·rw [if_pos hc] at hE
      simp only [Option.some.injEq,Prod.mk.injEq] at hE
      have hE1:=hide hE.1
      clear hE
      go_wp2_with fail
      refine (HD.out _ R1).mono ?_
      rintro e w2 ⟨rfl,hm2,k2⟩
      obtain ⟨a0,a1,a2,a3,a4,a5,a6,af⟩:=hm2.c
      by_cases e1:m1.e=8
      ·have hc':c=false:=by rcases hc with q|q;exact absurd e1 q;exact q
       rw [e1] at a6
       clear hc e1
       subst hc'
       go_wp2
       refine bodyPost_ret (results_none rfl _ _ _) rfl ?_
       rw [← hE1.out]
       exact ⟨rfl,hm2,by (exact kpA)⟩
      ·have f8:(m1.e == 8)=false:=by simp [e1]
       have f8':(m1.e != 8)=true:=by simp [e1]
       clear hc e1
       go_wp2
       refine bodyPost_ret (results_none rfl _ _ _) rfl ?_
       rw [← hE1.out]
       exact ⟨rfl,hm2,by (exact kpA)⟩
     ·rw [if_neg hc] at hE
      have hc1:m1.e=8:=by cases hq:decide (m1.e=8);exact absurd (.inl (by simpa using hq)) hc;simpa using hq
      have hc2:c=true:=by cases c;exact absurd (.inr rfl) hc;rfl
      subst hc2
      clear hc
      cases hit1:st.items[i+1]? with
      | none=>rw [hit1] at hE;simp at hE
      | some a =>
       cases hit:st.items[i]? with
       | none=>rw [hit1,hit] at hE;simp at hE
       | some b =>
        rw [hit1,hit] at hE
        dsimp only at hE
        split at hE
        case isFalse=>simp at hE
        rename_i hb
        obtain ⟨hb1,hb2,hb3,hb4⟩:=hb
        obtain ⟨ae,hae⟩:=Int.eq_ofNat_of_zero_le hb1
        obtain ⟨be,hbe⟩:=Int.eq_ofNat_of_zero_le hb3
        rw [hae,hbe,Int.toNat_natCast,Int.toNat_natCast] at hE
        rw [hae] at hb2
        rw [hbe] at hb4
        cases hs2:exR k st.items st.nodes inp m1 false ae be with
        | none=>rw [hs2] at hE;simp at hE
        | some q =>
         obtain ⟨m2,w2'⟩:=q
         rw [hs2] at hE
         dsimp only at hE
         have ok2:=exR_ok _ _ _ _ _ _ _ _ _ _ R1.nok hs2 ok1
         have HB:=hide (fun W (hW:RM W m lb inp m1 r s st O)=>IH.out k (by have:=HKF.out;omega) W m lb inp m1 r s st O ae be m2 w2' hW (by omega) (by omega) hs2)
         clear hs2
         have HHE:=hide hE
         have HC1:=hide hc1
         go_wp2_with fail
         refine (HD.out _ R1).mono ?_
         rintro e w2 ⟨rfl,hm2,k2⟩
         have R2:=R1.next hm2 k2 ok1
         obtain ⟨a0,a1,a2,a3,a4,a5,a6,af⟩:=hm2.c
         rw [hc1] at a6
         clear hc1 hE
         obtain ⟨g1,cap1,hl1,_,p4,_,_,_,j3⟩:=R2.rp.itemAt hit1
         obtain ⟨g2,cap2,hl2,_,p4',_,_,_,l3⟩:=R2.rp.itemAt hit
         have egc:g2=g1∧cap2=cap1:=by
          rw [p4] at p4'
          simp only [Option.some.injEq,Value.slice.injEq,Addr.mk.injEq,and_true,true_and] at p4'
          exact ⟨p4'.1.symm,p4'.2.symm⟩
         obtain ⟨rfl,rfl⟩:=egc
         clear p4'
         rw [hae] at j3
         rw [hbe] at l3
         clear hae hbe hb1 hb3
         have hli:=R1.li
         have hz1:(i:Int)+1<(st.items.length:Int):=by omega
         have hz2:0≤(i:Int)+1:=by omega
         have hz4:IntKind.i64.wrap ((i:Int)+1)=(i:Int)+1:=by rw [IntKind.wrap_i64];omega
         have hz3:(i:Int)<(st.items.length:Int):=by omega
         by_cases hw1:w2'=1
         ·have HF:=hide (show m2=mc' by have:=HHE.out;rw [if_pos hw1] at this;simp only [Option.some.injEq,Prod.mk.injEq] at this;exact this.1)
          subst hw1
          go_wp2
          go_region_with (go_at_call 54;refine (HB.out _ (by exact R2.drew)).mono ?_;rintro e w3 ⟨rfl,hm3,k3⟩)
          all_goals
           go_wp2
           refine bodyPost_ret (results_none rfl _ _ _) rfl ?_
           rw [← HF.out]
           refine ⟨rfl,hm3,?_⟩
           exact ((HK1.out.trans k2 (fun _ _ e=>e)).drew).trans k3 (fun _ _ e=>e)
         ·have HF:=hide (show exR k st.items st.nodes inp m2 true i 0=some (mc',d) by have:=HHE.out;rwa [if_neg hw1] at this)
          have hw1':((w2':Int) == 1)=false:=by simp;omega
          clear hw1
          go_wp2
          go_region_with (go_at_call 54;refine (HB.out _ (by exact R2.drew)).mono ?_;rintro e w3 ⟨rfl,hm3,k3⟩)
          all_goals
           go_wp2
           go_roundg k
           case measure=>omega
           case rel=>exact ⟨m2,R2.drew.next hm3 k3 ok2,((HK1.out.trans k2 (fun _ _ e=>e)).drew).trans k3 (fun _ _ e=>e),by have:=HKF.out;omega,HF.out⟩
   ·rw [if_pos e8] at hE
    simp only [Option.some.injEq,Prod.mk.injEq] at hE
    have hE1:=hide hE.1
    have f8:(mc1.e == 8)=false:=by simp [e8]
    clear hE e8
    go_wp2
    go_end0
    rw [← hE1.out]
    exact ⟨rfl,R1.mb,HK1.out⟩
end Go.Proofs.YtellieabhaphhabGreatDoor
namespace Go.Proofs.YtellieabhaphhabGreatDoor
open Go.RowKit
theorem stepF_split {inp:ByteArray} {ND:List Nd} {m m1:Mc} {it:It} (h:stepF inp ND m it=some m1) :
  ∃ n:Nat,it.n=n∧n<100∧∃ nd,ND[n]?=some nd∧∃ xu yu vu,m.l[nd.x.toNat]?=some xu∧m.l[nd.y.toNat]?=some yu∧m.l[nd.v.toNat]?=some vu ∧
   ∃ m0 ok,startF m n=(m0,ok)∧m1=if ok then doF inp nd nd.x.toNat xu yu vu m0 else m0:=by
 unfold stepF at h
 split at h
 ·rename_i hn
  obtain ⟨n,hn'⟩:=Int.eq_ofNat_of_zero_le hn.1
  rw [hn',Int.toNat_natCast] at h
  refine ⟨n,hn',by omega,?_⟩
  split at h
  ·simp at h
  ·rename_i nd hnd
   refine ⟨nd,hnd,?_⟩
   split at h
   ·rename_i xu yu vu hx hy hv
    refine ⟨xu,yu,vu,hx,hy,hv,(startF m n).1,(startF m n).2,rfl,?_⟩
    split at h
    ·rename_i hq;simp only [Option.some.injEq] at h;rw [← h,if_pos hq]
    ·rename_i hq;simp only [Option.some.injEq] at h;rw [← h,if_neg hq]
   ·simp at h
 ·simp at h
set_option maxRecDepth 100000 in
set_option maxHeartbeats 12800000 in
theorem block_m {f:Nat} (ihl:∀ k,k<f→LoopSaid k) (ih:∀ k,k<f→BlockSaid k):BlockSaid f:=by
 intro w m lb inp mc r s st O i en mc' d hR hi hen h
 have IH:=hide ih
 have IHL:=hide ihl
 clear ih ihl
 have H0:=hide h
 clear h
 go_enter Tryz.func54,Tryz.ntmps54
 go_wp2
 go_loopg [2] f (fun k iv wr=>∃ i mc1,iv=.int .i64 (i:Nat)∧i≤1000∧RM wr m lb inp mc1 r s st O∧Kp (MK m lb) w wr∧k≤f∧exR k st.items st.nodes inp mc1 false i en=some (mc',d))
 case atStart=>exact ⟨i,mc,rfl,hi,hR,Kp.refl _ _,Nat.le_refl _,H0.out⟩
 case round =>
  obtain ⟨i,mc1,rfl,hi',R1,K1,hkf,hE⟩:=hrel
  have HK1:=hide K1
  have HKF:=hide hkf
  clear K1 hkf
  obtain ⟨c0,c1,c2,c3,c4,c5,c6,cf⟩:=R1.mb.c
  have hrl:=R1.rp.lt r R1.rp.own
  obtain ⟨hml,hll⟩:=R1.mb.lt
  cases gk with
  | zero=>simp [exR] at hE
  | succ k =>
   have hk:=HKF.out
   rw [exR] at hE
   by_cases hgo:i<en∧mc1.e=8
   case neg =>
    rw [if_neg hgo] at hE
    simp only [Option.some.injEq,Prod.mk.injEq] at hE
    obtain ⟨hE1,hE2⟩:=hE
    have HE1:=hide hE1
    have HE2:=hide hE2
    clear hE1 hE2
    by_cases hlt:i<en
    ·have e8:¬ mc1.e=8:=fun e=>hgo ⟨hlt,e⟩
     have f8:(mc1.e == 8)=false:=by simp [e8]
     clear hgo e8
     go_wp2
     go_ret
     rw [← HE1.out,← HE2.out]
     exact ⟨rfl,R1.mb,HK1.out⟩
    ·clear hgo
     go_wp2
     go_ret
     rw [← HE1.out,← HE2.out]
     exact ⟨rfl,R1.mb,HK1.out⟩
   case pos =>
    rw [if_pos hgo] at hE
    obtain ⟨hlt,e8⟩:=hgo
    rw [e8] at c6
    have HE8:=hide e8
    clear e8
    cases hit:st.items[i]? with
    | none=>rw [hit] at hE;simp at hE
    | some it =>
     rw [hit] at hE
     dsimp only at hE
     obtain ⟨g,cap,hl,hog,q4,i0,i1,i2,i3⟩:=R1.rp.itemAt hit
     have hli:=R1.li
     split at hE
     case isFalse=>simp at hE
     rename_i hen'
     obtain ⟨hen1,hen2⟩:=hen'
     obtain ⟨ik,n,ie,ien⟩:=it
     dsimp only at *
     obtain ⟨nx,rfl⟩:=Int.eq_ofNat_of_zero_le hen1
     rw [Int.toNat_natCast] at hE
     clear hen1
     by_cases k115:ik=115
     ·subst k115
      rw [if_pos rfl] at hE
      cases hs:stepF inp st.nodes mc1 ⟨115,n,ie,nx⟩ with
      | none=>rw [hs] at hE;simp at hE
      | some m1 =>
       rw [hs] at hE
       have HE:=hide hE
       clear hE
       have okm:=stepF_ok R1.nok R1.ok hs
       obtain ⟨n',hn',hn1,nd,hnd,xu,yu,vu,hxu,hyu,hvu,m0,ok,hst,hm1⟩:=stepF_split hs
       dsimp only at hn'
       subst hn'
       clear hs
       have hso:=startF_ok n' R1.ok
       have HS:=hide (starts_c (st:=mc1) n' hn1 (R1.mb.alloc (.cells #[.int .u8 115,.int .i64 n',.int .i64 ie,.int .i64 nx] 153)) (by have:=R1.ok.tr;omega) (by have:=R1.ok.left;omega))
       rw [hst] at HS hso
       clear hst
       dsimp only at hso HS
       have HM1:=hide hm1
       clear hm1
       cases ok
       ·go_wp2_with fail
        refine HS.out.mono ?_
        rintro e w2 ⟨rfl,hm2,k2⟩
        have R2:=(R1.alloc _).next hm2 k2 hso.1
        have hL:Blk w2 wr.heap.size [.int .u8 115,.int .i64 n',.int .i64 ie,.int .i64 nx] 153:=k2.blk (by (exact blA)) (by rintro (e|e) <;> omega)
        obtain ⟨l0,l1,l2,l3,lf⟩:=hL.c4
        have hm0:=HM1.out
        simp only [Bool.false_eq_true,if_false] at hm0
        subst hm0
        go_wp2
        go_roundg k
        case measure=>omega
        case rel=>exact ⟨nx,m1,rfl,by omega,R2,by (exact kpA),by omega,HE.out⟩
       ·go_wp2_with fail
        refine HS.out.mono ?_
        rintro e w2 ⟨rfl,hm2,k2⟩
        have R2:=(R1.alloc _).next hm2 k2 hso.1
        have hL:Blk w2 wr.heap.size [.int .u8 115,.int .i64 n',.int .i64 ie,.int .i64 nx] 153:=k2.blk (by (exact blA)) (by rintro (e|e) <;> omega)
        obtain ⟨l0,l1,l2,l3,lf⟩:=hL.c4
        have hzL:=hL.lt
        obtain ⟨g2,cap2,hn2,_,q3,qc⟩:=R2.rp.node hnd
        have e0:=qc 0 (by decide);have e1:=qc 1 (by decide);have e2:=qc 2 (by decide);have e3:=qc 3 (by decide);have e4:=qc 4 (by decide);have e5:=qc 5 (by decide);have e6:=qc 6 (by decide);have e7:=qc 7 (by decide);have e8:=qc 8 (by decide)
        clear qc
        simp only [Nd.cells,List.getElem?_cons_zero,List.getElem?_cons_succ,Nat.add_zero] at e0 e1 e2 e3 e4 e5 e6 e7 e8
        have hln:=R2.ln
        have hnk:=R1.nok nd (List.mem_of_getElem? hnd)
        have hm1e:=HM1.out
        simp only [if_true] at hm1e
        have HDO:=hide (fun W (hW:RM W m lb inp m0 r s st O)=>do_c (w:=W) (m:=m) (lb:=lb) (inp:=inp) (st:=m0) (n:=nd) (x:=nd.x.toNat) (y:=nd.y.toNat) (v:=nd.v.toNat) (xu:=xu) (yu:=yu) (vu:=vu)
         ⟨hW.mb,hW.inp,by have:=hnk.x;omega,by have:=hnk.y;omega,by have:=hnk.v;omega,by rw [hso.2.2];exact hxu,by rw [hso.2.2];exact hyu,by rw [hso.2.2];exact hvu,(R1.ok.v yu (List.mem_of_getElem? hyu)).1,(R1.ok.v vu (List.mem_of_getElem? hvu)).1,hnk.k,by have:=hso.2.1 trivial;omega,hW.tab,hW.tm,hW.tl⟩)
        rw [← hm1e] at HDO
        clear hm1e HM1 hso hnk hnd hxu hyu hvu
        obtain ⟨uo,ux,uy,uv,uk,ut,uf,ua,ul⟩:=nd
        dsimp only at *
        go_wp2
        go_region_with (go_at_call 61;refine (HDO.out _ (by exact R2.drew)).mono ?_;rintro e w3 ⟨rfl,hm3,k3⟩)
        all_goals
         have hL3:Blk w3 wr.heap.size [.int .u8 115,.int .i64 n',.int .i64 ie,.int .i64 nx] 153:=k3.blk hL (by rintro (e|e) <;> omega)
         obtain ⟨s0,s1,s2,s3,sf⟩:=hL3.c4
         go_wp2
         go_roundg k
         case measure=>omega
         case rel=>exact ⟨nx,m1,rfl,by omega,R2.drew.next hm3 k3 okm,((Kp.trans (HK1.out.alloc _) k2 (fun _ _ e=>e)).drew).trans k3 (fun _ _ e=>e),by omega,HE.out⟩
     have f115:(ik == 115)=false:=by simp [k115]
     rw [if_neg k115] at hE
     clear k115
     by_cases k62:ik=62
     ·subst k62
      simp only [if_true,Option.some.injEq,Prod.mk.injEq] at hE
      obtain ⟨hE1,hE2⟩:=hE
      have HE1:=hide hE1
      have HE2:=hide hE2
      clear hE1 hE2
      go_wp2
      go_ret
      rw [← HE1.out,← HE2.out]
      exact ⟨rfl,R1.mb.alloc _,HK1.out.alloc _⟩
     have f62:(ik == 62)=false:=by simp [k62]
     rw [if_neg k62] at hE
     clear k62
     by_cases k60:ik=60
     ·subst k60
      simp only [if_true,Option.some.injEq,Prod.mk.injEq] at hE
      obtain ⟨hE1,hE2⟩:=hE
      have HE1:=hide hE1
      have HE2:=hide hE2
      clear hE1 hE2
      go_wp2
      go_ret
      rw [← HE1.out,← HE2.out]
      exact ⟨rfl,R1.mb.alloc _,HK1.out.alloc _⟩
     have f60:(ik == 60)=false:=by simp [k60]
     rw [if_neg k60] at hE
     clear k60
     by_cases k119:ik=119
     ·subst k119
      rw [if_pos rfl] at hE
      cases hs:exR k st.items st.nodes inp mc1 true i 0 with
      | none=>rw [hs] at hE;simp at hE
      | some q =>
       obtain ⟨m2,wd⟩:=q
       rw [hs] at hE
       have HE:=hide hE
       have ok2:=exR_ok _ _ _ _ _ _ _ _ _ _ R1.nok hs R1.ok
       have HL:=hide (fun W (hW:RM W m lb inp mc1 r s st O)=>IHL.out k (by omega) W m lb inp mc1 r s st O i m2 wd hW (by omega) hs)
       clear hs hE
       go_wp2_with fail
       refine (HL.out _ (R1.alloc _)).mono ?_
       rintro e w2 ⟨rfl,hm2,k2⟩
       have R2:=(R1.alloc _).next hm2 k2 ok2
       have hL:Blk w2 wr.heap.size [.int .u8 119,.int .i64 n,.int .i64 ie,.int .i64 nx] 153:=k2.blk (by (exact blA)) (by rintro (e|e) <;> omega)
       obtain ⟨l0,l1,l2,l3,lf⟩:=hL.c4
       go_wp2
       go_roundg k
       case measure=>omega
       case rel=>exact ⟨nx,m2,rfl,by omega,R2,by (exact kpA),by omega,HE.out⟩
     have f119:(ik == 119)=false:=by simp [k119]
     rw [if_neg k119] at hE
     clear k119
     by_cases k105:ik=105
     ·subst k105
      rw [if_pos rfl] at hE
      cases hs:decF k st.items st.nodes mc1 (i+1) with
      | none=>rw [hs] at hE;simp at hE
      | some q =>
       obtain ⟨m1,c⟩:=q
       rw [hs] at hE
       dsimp only at hE
       have HD:=hide (fun W (hW:RM W m lb inp mc1 r s st O)=>decide_w k W m lb inp mc1 r s st O (i+1) m1 c hW (by omega) hs)
       have ok1:=decF_ok _ _ _ _ _ _ _ hs R1.ok
       clear hs
       by_cases e1:m1.e=8
       case neg =>
        rw [if_pos e1] at hE
        have HE:=hide hE
        clear hE
        go_wp2_with fail
        refine (HD.out _ (R1.alloc _)).mono ?_
        rintro e w2 ⟨rfl,hm2,k2⟩
        have R2:=(R1.alloc _).next hm2 k2 ok1
        have hL:Blk w2 wr.heap.size [.int .u8 105,.int .i64 n,.int .i64 ie,.int .i64 nx] 153:=k2.blk (by (exact blA)) (by rintro (e|e) <;> omega)
        obtain ⟨l0,l1,l2,l3,lf⟩:=hL.c4
        obtain ⟨a0,a1,a2,a3,a4,a5,a6,af⟩:=hm2.c
        have f8:(m1.e == 8)=false:=by simp [e1]
        clear e1
        go_wp2
        go_roundg k
        case measure=>omega
        case rel=>exact ⟨nx,m1,rfl,by omega,R2,by (exact kpA),by omega,HE.out⟩
       case pos =>
        rw [if_neg (by simp [e1])] at hE
        cases hit1:st.items[i+1]? with
        | none=>rw [hit1] at hE;simp at hE
        | some it1 =>
         rw [hit1] at hE
         dsimp only at hE
         split at hE
         case isFalse=>simp at hE
         rename_i hb
         obtain ⟨hb1,hb2,hb3,hb4⟩:=hb
         obtain ⟨ae,hae⟩:=Int.eq_ofNat_of_zero_le hb1
         obtain ⟨ie',rfl⟩:=Int.eq_ofNat_of_zero_le hb3
         rw [hae,Int.toNat_natCast,Int.toNat_natCast] at hE
         rw [hae] at hb2
         cases hs2:exR k st.items st.nodes inp m1 false (if c then ae else ie') (if c then ie' else nx) with
         | none=>rw [hs2] at hE;simp at hE
         | some q =>
         obtain ⟨m2,wd⟩:=q
         rw [hs2] at hE
         dsimp only at hE
         have HE:=hide hE
         clear hE
         have ok2:=exR_ok _ _ _ _ _ _ _ _ _ _ R1.nok hs2 ok1
         have HB:=hide (fun W (hW:RM W m lb inp m1 r s st O)=>IH.out k (by omega) W m lb inp m1 r s st O _ _ m2 wd hW (by split <;> omega) (by split <;> omega) hs2)
         clear hs2
         go_wp2_with fail
         refine (HD.out _ (R1.alloc _)).mono ?_
         rintro e w2 ⟨rfl,hm2,k2⟩
         have R2:=(R1.alloc _).next hm2 k2 ok1
         have hL:Blk w2 wr.heap.size [.int .u8 105,.int .i64 n,.int .i64 ie',.int .i64 nx] 153:=k2.blk (by (exact blA)) (by rintro (e|e) <;> omega)
         obtain ⟨l0,l1,l2,l3,lf⟩:=hL.c4
         have hzL:=hL.lt
         obtain ⟨a0,a1,a2,a3,a4,a5,a6,af⟩:=hm2.c
         rw [e1] at a6
         clear e1
         cases c
         case false =>
          simp only [Bool.false_eq_true,if_false] at HB
          by_cases hw0:wd=0
          ·have HF:=hide (show exR k st.items st.nodes inp m2 false nx en=some (mc',d) by have:=HE.out;rwa [if_neg (by simp [hw0])] at this)
           subst hw0
           go_wp2_with fail
           refine (HB.out _ R2).mono ?_;rintro e w3 ⟨rfl,hm3,k3⟩
           all_goals
            have hL3:Blk w3 wr.heap.size [.int .u8 105,.int .i64 n,.int .i64 ie',.int .i64 nx] 153:=k3.blk hL (by rintro (e|e) <;> omega)
            obtain ⟨s0,s1,s2,s3,sf⟩:=hL3.c4
            go_wp2
            go_roundg k
            case measure=>omega
            case rel=>exact ⟨nx,m2,rfl,by omega,R2.next hm3 k3 ok2,(Kp.trans (HK1.out.alloc _) k2 (fun _ _ e=>e)).trans k3 (fun _ _ e=>e),by omega,HF.out⟩
          ·have HF:=hide (show m2=mc'∧wd=d by have:=HE.out;rw [if_pos hw0] at this;simp only [Option.some.injEq,Prod.mk.injEq] at this;exact this)
           have hw0':((wd:Int) == 0)=false:=by simp;omega
           have hw0'':((wd:Int) != 0)=true:=by simp;omega
           clear hw0
           go_wp2_with fail
           refine (HB.out _ R2).mono ?_;rintro e w3 ⟨rfl,hm3,k3⟩
           all_goals
            go_wp2
            go_ret
            rw [← HF.out.1,← HF.out.2]
            exact ⟨rfl,hm3,(Kp.trans (HK1.out.alloc _) k2 (fun _ _ e=>e)).trans k3 (fun _ _ e=>e)⟩
         case true =>
          simp only [if_true] at HB
          obtain ⟨g1,cap1,hl1,_,p4,_,_,_,j3⟩:=R2.rp.itemAt hit1
          rw [hae] at j3
          have hz1:(i:Int)+1<(st.items.length:Int):=by omega
          have hz2:0≤(i:Int)+1:=by omega
          have hz4:IntKind.i64.wrap ((i:Int)+1)=(i:Int)+1:=by rw [IntKind.wrap_i64];omega
          clear hae hb1 hb3
          by_cases hw0:wd=0
          ·have HF:=hide (show exR k st.items st.nodes inp m2 false nx en=some (mc',d) by have:=HE.out;rwa [if_neg (by simp [hw0])] at this)
           subst hw0
           go_wp2
           go_region_with (go_at_call 54;refine (HB.out _ (by exact R2.drew)).mono ?_;rintro e w3 ⟨rfl,hm3,k3⟩)
           all_goals
            have hL3:Blk w3 wr.heap.size [.int .u8 105,.int .i64 n,.int .i64 ie',.int .i64 nx] 153:=k3.blk hL (by rintro (e|e) <;> omega)
            obtain ⟨s0,s1,s2,s3,sf⟩:=hL3.c4
            go_wp2
            go_roundg k
            case measure=>omega
            case rel=>exact ⟨nx,m2,rfl,by omega,R2.drew.next hm3 k3 ok2,((Kp.trans (HK1.out.alloc _) k2 (fun _ _ e=>e)).drew).trans k3 (fun _ _ e=>e),by omega,HF.out⟩
          ·have HF:=hide (show m2=mc'∧wd=d by have:=HE.out;rw [if_pos hw0] at this;simp only [Option.some.injEq,Prod.mk.injEq] at this;exact this)
           have hw0':((wd:Int) == 0)=false:=by simp;omega
           have hw0'':((wd:Int) != 0)=true:=by simp;omega
           clear hw0
           go_wp2
           go_region_with (go_at_call 54;refine (HB.out _ (by exact R2.drew)).mono ?_;rintro e w3 ⟨rfl,hm3,k3⟩)
           all_goals
            go_wp2
            go_ret
            rw [← HF.out.1,← HF.out.2]
            exact ⟨rfl,hm3,((Kp.trans (HK1.out.alloc _) k2 (fun _ _ e=>e)).drew).trans k3 (fun _ _ e=>e)⟩
     have f105:(ik == 105)=false:=by simp [k105]
     rw [if_neg k105] at hE
     clear k105
     have HE:=hide hE
     clear hE
     go_wp2
     go_roundg k
     case measure=>omega
     case rel=>exact ⟨nx,mc1,rfl,by omega,R1.alloc _,HK1.out.alloc _,by omega,HE.out⟩
end Go.Proofs.YtellieabhaphhabGreatDoor
namespace Go.Proofs.YtellieabhaphhabGreatDoor
open Go.RowKit
theorem ex_all:∀ f,LoopSaid f∧BlockSaid f:=by
 intro f
 induction f using Nat.strongRecOn with
 | _ f ih=>exact ⟨loop_w (fun k hk=>(ih k hk).2),block_m (fun k hk=>(ih k hk).1) (fun k hk=>(ih k hk).2)⟩
set_option maxHeartbeats 1600000 in
theorem refrun_long (s inp:ByteArray) (fuel:Int) (w:World) (hm:inp.size≤maxLen) (h:¬ (inp.size≤40∧0≤fuel∧fuel≤300)) :
  Calls Tryz.prog 28 #[.string s,.string inp,.int .i64 fuel] w fun e w'=>e=.returned (.tuple #[.string ByteArray.empty,.string ByteArray.empty,.int .i64 1])∧Kp no w w':=by
 have HG:=hide (given_c inp fuel w hm)
 rw [decide_eq_false h] at HG
 clear h
 go_enter Tryz.func28,Tryz.ntmps28
 go_wp2_with fail
 refine HG.out.mono ?_
 rintro e w1 ⟨rfl,rfl⟩
 go_wp2
 go_ret3
 exact ⟨rfl,Kp.refl _ _⟩
set_option maxHeartbeats 1600000 in
theorem refrun_big (s inp:ByteArray) (fuel:Int) (w:World) (hm:inp.size≤maxLen) (hm2:s.size≤maxLen) (h:inp.size≤40∧0≤fuel∧fuel≤300) (hs:180<s.size) :
  Calls Tryz.prog 28 #[.string s,.string inp,.int .i64 fuel] w fun e w'=>e=.returned (.tuple #[.string ByteArray.empty,.string ByteArray.empty,.int .i64 1])∧Kp no w w':=by
 have HG:=hide (given_c inp fuel w hm)
 rw [decide_eq_true h] at HG
 have HS:=hide (source_long s w hm2 hs)
 clear h
 go_enter Tryz.func28,Tryz.ntmps28
 go_wp2_with fail
 refine HG.out.mono ?_
 rintro e w1 ⟨rfl,rfl⟩
 go_wp2_with fail
 refine HS.out.mono ?_
 rintro e w1 ⟨⟨r,rfl⟩,k1⟩
 go_wp2
 go_ret3
 exact ⟨rfl,k1⟩
set_option maxHeartbeats 1600000 in
theorem refrun_bad (s inp:ByteArray) (fuel:Int) (w:World) (hm:inp.size≤maxLen) (h:inp.size≤40∧0≤fuel∧fuel≤300) (hs:s.size≤180) (hb:srcBad s=true) :
  Calls Tryz.prog 28 #[.string s,.string inp,.int .i64 fuel] w fun e w'=>e=.returned (.tuple #[.string ByteArray.empty,.string ByteArray.empty,.int .i64 2])∧Kp no w w':=by
 have HG:=hide (given_c inp fuel w hm)
 rw [decide_eq_true h] at HG
 have HS:=hide (source_c s w hs)
 have HB:=hide hb
 clear h hb
 go_enter Tryz.func28,Tryz.ntmps28
 go_wp2_with fail
 refine HG.out.mono ?_
 rintro e w1 ⟨rfl,rfl⟩
 go_wp2_with fail
 refine HS.out.mono ?_
 rintro e w1 ⟨r,O,rfl,hr,k1,hO⟩
 rw [HB.out]
 simp only [if_true]
 go_wp2
 go_ret3
 exact ⟨rfl,k1⟩
set_option maxHeartbeats 3200000 in
theorem refrun_good (s inp:ByteArray) (fuel:Nat) (w:World) (hm:inp.size≤40) (h:fuel≤300) (hs:s.size≤180) (hb:srcBad s=false) (ht:Tab w)
  (hn:∀ n∈(srcF s).nodes,NOk n) (F:Nat) (mc':Mc) (d:Nat) (hE:exR F (srcF s).items (srcF s).nodes inp (mc0 fuel) false 0 (srcF s).items.length=some (mc',d)) :
  Calls Tryz.prog 28 #[.string s,.string inp,.int .i64 fuel] w fun e w'=>e=.returned (.tuple #[.string mc'.tr,.string mc'.out,.int .i64 (endE mc'.e)])∧Kp no w w':=by
 have hm2:inp.size≤maxLen:=by unfold maxLen;omega
 have HG:=hide (given_c inp fuel w hm2)
 rw [decide_eq_true (by omega)] at HG
 have HS:=hide (source_c s w hs)
 have HB:=hide hb
 have hlen:=inv_len (by omega) (srcF_good s).inv
 have HE:=hide hE
 have ok0:=mc0_ok fuel h
 clear hE hb
 go_enter Tryz.func28,Tryz.ntmps28
 go_wp2_with fail
 refine HG.out.mono ?_
 rintro e w0 ⟨rfl,rfl⟩
 go_wp2_with fail
 refine HS.out.mono ?_
 rintro e w1 ⟨r,O,rfl,hr,k1,hO⟩
 rw [HB.out]
 simp only [Bool.false_eq_true,if_false]
 have htl:=ht.lt
 have ht1:=ht.kp k1 no_elim
 generalize srcF s=st at *
 go_wp2_with fail
 refine (begin_c inp fuel _).mono ?_
 rintro e w2 ⟨m,lb,rfl,hmb,k2,hm1,hl1⟩
 have hs1:=k1.size
 have hr2:Rp w2 r s st O:=hr.kp k2 (fun _ _=>no_elim)
 have hRM:RM w2 m lb inp (mc0 fuel) r s st O:=⟨hmb,hr2,fun e=>by have:=hr.lt m e;omega,fun e=>by have:=hr.lt lb e;omega,ht1.kp k2 no_elim,by omega,by omega,ok0,hn,hm,by omega,by omega⟩
 have hc4:∃ g cap,w2.cell? ⟨r,4,none⟩=some (.slice g st.items.length cap):=by
  obtain ⟨nv,iv,hB,hN,hI,_⟩:=hr2
  rcases hI.2 with ⟨rfl,h0⟩|⟨g,cap,cur,rfl,_⟩
  ·exact ⟨none,0,by rw [h0];exact Blk.cell hB 4⟩
  ·exact ⟨_,cap,Blk.cell hB 4⟩
 obtain ⟨g,cap,q4⟩:=hc4
 go_wp2_with fail
 refine ((ex_all F).2 w2 m lb inp (mc0 fuel) r s st O 0 st.items.length mc' d hRM (by omega) (by omega) HE.out).mono ?_
 rintro e w3 ⟨rfl,hm3,k3⟩
 go_wp2_with fail
 refine (answer_c hm3).mono ?_
 rintro e w4 ⟨rfl,k4⟩
 go_wp2
 go_ret3
 refine ⟨rfl,?_⟩
 have k12:Kp no w0 w2:=k1.trans k2 (fun _ _ e=>e)
 exact (k12.trans k3 (fun x hx e=>by rcases e with e|e <;> omega)).trans k4 (fun x hx e=>by rcases e with e|e <;> omega)
theorem varF_lt (s:ByteArray) (p:Nat × Bool):(varF s p).1<6:=by
 unfold varF;split
 ·show (0:Nat)<6;decide
 ·rename_i h;simp at h;show pk s p.1-97<6;omega
theorem valF_nok (s:ByteArray) (i:Nat) (n:Nd) (h:n.x<6∧0≤n.x) (hy:n.y=0) (hv:n.v=0):NOk (valF s i n).1:=by
 have v1:=varF_lt s (i+1,false)
 have v2:=varF_lt s (i,false)
 have v3:=varF_lt s (varF s (i+1,false)).2
 unfold valF
 repeat' split
 ·rename_i hd
  exact ⟨⟨h.2,h.1⟩,by simp only [hy];omega,by simp only [hv];omega,fun _=>by simp only [];omega⟩
 ·rename_i hd hq
  exact ⟨⟨h.2,h.1⟩,by simp only [hy];omega,by simp only [hv];omega,fun e=>absurd (show pk s i=48 by simp only at e;omega) (fun e'=>by omega)⟩
 ·rename_i hd hq hq2
  exact ⟨⟨h.2,h.1⟩,by simp only [];omega,by simp only [];omega,fun e=>absurd (show pk s i=48 by simp only at e;omega) (fun e'=>by omega)⟩
 ·rename_i hd hq hq2 hq3
  exact ⟨⟨h.2,h.1⟩,by simp only [];omega,by simp only [hv];omega,fun e=>absurd (show pk s i=48 by simp only at e;omega) (fun e'=>by omega)⟩
 ·exact ⟨⟨h.2,h.1⟩,by simp only [];omega,by simp only [hv];omega,fun e=>by simp at e⟩
theorem simpF_nok (s:ByteArray) (i:Nat):NOk (simpF s i).1:=by
 have v1:=varF_lt s (i+1,false)
 have v2:=varF_lt s (i,false)
 unfold simpF
 repeat' split
 ·exact ⟨by simp [nd0],by simp only [];omega,by simp [nd0],fun e=>by simp at e⟩
 ·exact ⟨by simp [nd0],by simp [nd0],by simp [nd0],fun e=>by simp at e⟩
 ·exact ⟨by simp only [];omega,by simp [nd0],by simp [nd0],fun e=>by simp at e⟩
 ·exact ⟨by simp only [];omega,by simp [nd0],by simp [nd0],fun e=>by simp [nd0] at e⟩
 ·have:=valF_nok s (eatF s (varF s (i,false)).2 61).1 { nd0 i with x:=(varF s (i,false)).1 } (by simp only [];omega) rfl rfl
  exact ⟨this.x,this.y,this.v,this.k⟩
theorem testF_nok (s:ByteArray) (i:Nat):NOk (testF s i).1:=by
 have v2:=varF_lt s (i,false)
 unfold testF
 split
 ·exact ⟨by simp [ty0],by simp only [];omega,by simp [ty0],fun e=>by simp at e⟩
 ·exact ⟨by simp [ty0],by simp only [];omega,by simp [ty0],fun e=>by simp [ty0] at e⟩
def AllN (st:RS):Prop:=∀ n∈st.nodes,NOk n
theorem condF_n:∀ (f:Nat) (s:ByteArray) (st:RS),AllN st→AllN (condF f s st):=by
 intro f
 induction f with
 | zero=>intro s st h;exact h
 | succ f ih =>
  intro s st h
  unfold condF
  split
  ·have h2:=ih s { st with i:=st.i+1,items:=st.items++[⟨pk s st.i,0,0,0⟩] } h
   intro n hn
   simp only [endAt] at hn
   split at hn
   ·exact ih _ _ h2 n hn
   ·exact h2 n hn
  ·intro n hn
   simp only [condT,endAt,List.mem_append,List.mem_singleton] at hn
   rcases hn with hn|rfl
   ·exact h n hn
   ·exact testF_nok _ _
theorem blkF_n {S:RS→RS} (hS:∀ st,AllN st→AllN (S st)) (s:ByteArray) (st:RS) (h:AllN st):AllN (blkF S s st):=by
 intro n hn
 have e:(blkF S s st).nodes=(if (eatS s st 123).bad then eatS s st 123 else S (eatS s st 123)).nodes:=rfl
 rw [e] at hn
 by_cases hb:(eatS s st 123).bad=true
 ·rw [if_pos hb] at hn;exact h n hn
 ·rw [if_neg hb] at hn;exact hS (eatS s st 123) h n hn
theorem stmtsF_n:∀ (f:Nat) (s:ByteArray) (e:Nat) (st:RS),AllN st→AllN (stmtsF f s e st):=by
 intro f
 induction f with
 | zero=>intro s e st h;exact h
 | succ f ih =>
  intro s e st h
  unfold stmtsF
  split
  ·refine ih _ _ _ ?_
   unfold stF
   split
   ·intro n hn
    simp only [ifF,endAt,eatS] at hn
    have a1:AllN (condF f s (pushI (nextI st) 105 0)):=condF_n f s _ h
    have a2:=blkF_n (ih s 125) s _ a1
    have a3:AllN (elseAt (blkF (stmtsF f s 125) s (condF f s (pushI (nextI st) 105 0))) st.items.length):=a2
    exact blkF_n (ih s 125) s _ a3 n hn
   split
   ·intro n hn
    simp only [whF,endAt,eatS] at hn
    have a1:AllN (condF f s (pushI (nextI st) 119 0)):=condF_n f s _ h
    have a2:AllN { condF f s (pushI (nextI st) 119 0) with loops:=(condF f s (pushI (nextI st) 119 0)).loops+1 }:=a1
    exact blkF_n (ih s 125) s _ a2 n hn
   split
   ·split
    ·exact h
    ·exact h
   ·intro n hn
    simp only [actF,eatS,endAt,List.mem_append,List.mem_singleton] at hn
    rcases hn with hn|rfl
    ·exact h n hn
    ·exact simpF_nok _ _
  ·exact h
theorem src_nok (s:ByteArray):∀ n∈(srcF s).nodes,NOk n:=stmtsF_n _ _ _ _ (by intro n hn;simp [rs0] at hn)
end Go.Proofs.YtellieabhaphhabGreatDoor
namespace Go.Proofs.YtellieabhaphhabGreatDoor
open Go.RowKit
theorem act_sim {W:Nat→Int × Int × Bool} {ND nds:List Nd} {inp:ByteArray} (hN:Nw W ND nds) {it:It} {c:Nat} {nx:Int} {F:Nat} {m mc':Mc} (hn:it.n=(c:Int)) (hc:c<ND.length) (hW:W c=(nx,nx,false)) (he:m.e=8) (hw:Wk nds inp F m c mc') :
  ∃ m1,stepF inp ND m it=some m1∧∃ F1,F1<F∧Wk nds inp F1 m1 nx mc':=by
 obtain ⟨nd,hnd⟩:∃ nd,ND[c]?=some nd:=⟨_,List.getElem?_eq_getElem hc⟩
 obtain ⟨xu,yu,vu,c1,c2,c3,c4,F1,c5,c6,c7⟩:=wk_step hN hnd he hw
 have ht:¬ (nd.op=121∨nd.op=58):=by
  have:=hN.tst c nd hnd
  rw [hW] at this
  exact of_decide_eq_false this.symm
 unfold stepF
 rw [hn,if_pos (by omega),Int.toNat_natCast,hnd]
 dsimp only
 rw [c2,c3,c4]
 dsimp only
 cases hs:(startF m c).2
 ·exact ⟨_,by rw [if_neg (by decide)],F1,c5,c6 hs _⟩
 ·refine ⟨_,by rw [if_pos rfl],F1,c5,?_⟩
  have:=(c7 hs).2 ht
  rw [hW] at this
  exact this
theorem ent_piece {IT:List It} {W:Nat→Int × Int × Bool} {f:Nat} {it:It} {i j c m:Nat} {nx' ou ag:Int} (h1:IT[i]?=some it) (hj:j≤IT.length) (h:PcW (CdW f IT W) (StW f IT W) IT W it i j c m nx' ou ag) {e:Nat} {nx a:Int} (hie:i<e) (ha:entO IT i e nx ou ag=some a) :
  a=if it.k=62 then ou else if it.k=60 then ag else (c:Int):=by
 unfold entO at ha
 rw [if_neg (by omega),h1] at ha
 dsimp only at ha
 rcases h with ⟨k,n,_⟩|⟨k,_⟩|⟨k,a',b',p,q,t,g,q1,q2,q3,_⟩|⟨k,a',p,t,q1,q2,_⟩
 ·rw [if_pos k,n] at ha
  rw [if_neg (by omega),if_neg (by omega)]
  exact (Option.some.inj ha).symm
 ·rcases k with k|k
  ·rw [if_neg (by omega),if_pos k] at ha
   rw [if_pos k]
   exact (Option.some.inj ha).symm
  ·rw [if_neg (by omega),if_neg (by omega),if_pos k] at ha
   rw [if_neg (by omega),if_pos k]
   exact (Option.some.inj ha).symm
 ·rw [if_neg (by omega),if_neg (by omega),if_neg (by omega),cdw_fst f q1 (IT.length+1) (by omega)] at ha
  rw [if_neg (by omega),if_neg (by omega)]
  exact (Option.some.inj ha).symm
 ·rw [if_neg (by omega),if_neg (by omega),if_neg (by omega),cdw_fst f q1 (IT.length+1) (by omega)] at ha
  rw [if_neg (by omega),if_neg (by omega)]
  exact (Option.some.inj ha).symm
theorem pcs_sim {W:Nat→Int × Int × Bool} {IT:List It} {ND nds:List Nd} {inp:ByteArray} (hN:Nw W ND nds):∀ (f:Nat) {i e c d:Nat} {nx ou ag a:Int} {F:Nat} {m mc':Mc},StW f IT W i e c d nx ou ag→e≤IT.length→d≤ND.length →
  entO IT i e nx ou ag=some a→Wk nds inp F m a mc'→∀ G,f+F≤G→∃ m1 w,exR G IT ND inp m false i e=some (m1,w)∧Wk nds inp F m1 (tgW w nx ou ag) mc'
 | 0,_,_,_,_,_,_,_,_,_,_,_,h,_,_,_,_=>h.elim
 | f+1,i,e,c,d,nx,ou,ag,a,F,m,mc',h,hei,hd,ha,hw=>by
  intro G hG
  cases G with
  | zero=>omega
  | succ G =>
   rw [exR]
   by_cases he0:¬ m.e=8
   ·rw [if_neg (fun z=>he0 z.2)]
    exact ⟨_,_,rfl,hw.off he0 _ _⟩
   have he:m.e=8:=Decidable.not_not.1 he0
   have hF1:=hw.pos he
   rcases h with ⟨hcd,⟨rfl,rfl⟩|⟨hie,he1,it,j,mm,nx',h1,h2,h3,h4,h5,h6,h7,h8,h9⟩⟩
   ·rw [if_neg (fun z=>Nat.lt_irrefl _ z.1)]
    rw [entO_end] at ha
    obtain rfl:=Option.some.inj ha
    exact ⟨_,_,rfl,hw⟩
   have hent:=ent_piece h1 (by omega) h8 hie ha
   rw [if_pos ⟨hie,he⟩,h1]
   dsimp only
   rw [h2,if_pos (by omega),Int.toNat_natCast]
   have rest:∀ F1 m1,F1≤F→Wk nds inp F1 m1 nx' mc'→∃ m2 w,exR G IT ND inp m1 false j e=some (m2,w)∧Wk nds inp F m2 (tgW w nx ou ag) mc':=by
    intro F1 m1 hF hw1
    obtain ⟨m2,w,x1,x2⟩:=pcs_sim hN f h9 hei hd h7 hw1 G (by omega)
    exact ⟨m2,w,x1,x2.mono hF⟩
   rcases h8 with ⟨k,n,q1,q2⟩|⟨k,q1⟩|⟨k,a',b',p,q,t,g,q1,q2,q3,q4,q5,q6,q7,q8⟩|⟨k,a',p,t,q1,q2,q3,q4⟩
   ·rw [if_neg (by omega),if_neg (by omega)] at hent
    rw [hent] at hw
    obtain ⟨m1,x1,F1,x2,x3⟩:=act_sim hN n (by omega) q2 he hw
    rw [if_pos k,x1]
    exact rest F1 m1 (by omega) x3
   ·rcases k with k|k
    ·rw [if_pos k] at hent
     rw [if_neg (by omega),if_pos k]
     rw [hent] at hw
     exact ⟨_,_,rfl,hw⟩
    ·rw [if_neg (by omega),if_pos k] at hent
     rw [if_neg (by omega),if_neg (by omega),if_pos k]
     rw [hent] at hw
     exact ⟨_,_,rfl,hw⟩
   ·rw [if_neg (by omega),if_neg (by omega)] at hent
    rw [hent] at hw
    obtain ⟨w1,w2,i1,w3,w4,w5⟩:=cdw_lt q1
    have l1:=stw_le q5
    have l2:=stw_le q6
    obtain ⟨m1,b,d1,F1,d2,d3⟩:=dec_sim hN f q1 (by omega) he hw G (by omega)
    rw [if_neg (by omega),if_neg (by omega),if_neg (by omega),if_neg (by omega),if_pos k,d1]
    dsimp only
    by_cases he2:m1.e=8
    ·rw [if_neg (by omega),w3]
     dsimp only
     rw [w4,q4,if_pos (by omega),Int.toNat_natCast,Int.toNat_natCast]
     have blk:∃ m2 w,exR G IT ND inp m1 false (if b=true then a' else b') (if b=true then b' else j)=some (m2,w)∧Wk nds inp F1 m2 (tgW w nx' ou ag) mc':=by
      cases b
      ·exact pcs_sim hN f q6 (by omega) (by omega) q8 d3 G (by omega)
      ·exact pcs_sim hN f q5 (by omega) (by omega) q7 d3 G (by omega)
     obtain ⟨m2,w,x1,x2⟩:=blk
     rw [x1]
     dsimp only
     by_cases hw0:w=0
     ·rw [if_neg (by omega)]
      rw [hw0] at x2
      exact rest F1 m2 (by omega) x2
     ·rw [if_pos hw0]
      refine ⟨_,_,rfl,?_⟩
      have e1:tgW w nx' ou ag=tgW w nx ou ag:=by unfold tgW;rw [if_neg hw0,if_neg hw0]
      rw [e1] at x2
      exact x2.mono (by omega)
    ·rw [if_pos he2]
     exact rest F1 m1 (by omega) (d3.off he2 _ _)
   ·rw [if_neg (by omega),if_neg (by omega)] at hent
    rw [hent] at hw
    have l1:=stw_le q3
    obtain ⟨m1,w,x1,x2⟩:=loop_sim hN h1 h2 (by omega) q1 (by omega) (fun F m mc' hb G hG=>pcs_sim hN f q3 (by omega) (by omega) q4 hb G hG) F m mc' hw G (by omega)
    rw [if_neg (by omega),if_neg (by omega),if_neg (by omega),if_pos k,x1]
    exact rest F m1 (Nat.le_refl _) x2
theorem src_nds {s:ByteArray} (hs:s.size≤180) (h:(srE s).1=0):∃ nds,Nw (WyM (srM s)) (srcF s).nodes nds∧NEq (nodM (srM s)) nds∧nds.length≤90∧∀ n∈nds,Gn n∧(n.op≠33→0≤n.t)∧(n.op=121∨n.op=58→0≤n.f):=by
 obtain ⟨hsn,hsl⟩:=src_nodes hs h
 have hN:nj (srM s).row=(srcF s).nodes.length:=(src_par hs h 0 0).1.len
 obtain ⟨fr,hS,_⟩:=src_par hs h (nj (srM s).row:Nat) (nj (srM s).row:Nat)
 obtain ⟨nds,_,u⟩:=ps_of (s.size+1) (ND:=(srcF s).nodes) hS (Nat.le_refl _) (by omega)
 have hnl:(nodM (srM s)).length=(srcF s).nodes.length:=by rw [nodM_nj,hN]
 have hget:∀ n x,(srcF s).nodes[n]?=some x→nds[n]?=some (upW (WyM (srM s)) n x):=fun n x hn=>by
  have:=(List.getElem?_eq_some_iff.1 hn).1
  rw [u.get n x hn,if_pos ⟨Nat.zero_le _,by omega⟩]
 have key:∀ n nd,(srcF s).nodes[n]?=some nd→∃ y z,(nodM (srM s))[n]?=some (encN nd (txN s nd) y z)∧WyM (srM s) n=(y,z,decide (nd.op=121∨nd.op=58))∧(0≤y∧y≤90)∧(0≤z∧z≤90):=by
  intro n nd hn
  obtain ⟨y,z,h1,h2⟩:=nodM_at fr hn
  obtain ⟨nd',tx',y',z',q1,_,_,q2,q3,_⟩:=hsn _ (List.mem_of_getElem? h1)
  have ey:y=y':=congrArg NN.yes q1
  have ez:z=z':=congrArg NN.no q1
  exact ⟨y,z,h1,h2,by rw [ey];exact q2,by rw [ez];exact q3⟩
 have all:∀ (n:Nat) (x':Nd),nds[n]?=some x'→∃ nd y z,(srcF s).nodes[n]?=some nd∧x'=(if decide (nd.op=121∨nd.op=58) then { nd with t:=y,f:=z } else { nd with t:=y })∧(nodM (srM s))[n]?=some (encN nd (txN s nd) y z)∧(0≤y∧y≤90)∧(0≤z∧z≤90)∧Gn nd:=by
  intro n x' hx
  have hl:=(List.getElem?_eq_some_iff.1 hx).1
  have hl2:n<(srcF s).nodes.length:=by have:=u.len;omega
  obtain ⟨nd,hn⟩:∃ nd,(srcF s).nodes[n]?=some nd:=⟨_,List.getElem?_eq_getElem hl2⟩
  obtain ⟨y,z,k1,k2,k3,k4⟩:=key n nd hn
  have e:=hget n nd hn
  rw [hx] at e
  refine ⟨nd,y,z,hn,?_,k1,k3,k4,(fr.2 nd (List.mem_of_getElem? hn)).g⟩
  rw [Option.some.inj e]
  unfold upW
  rw [k2]
 refine ⟨nds,⟨u.len,hget,fun n x hn=>?_⟩,⟨by rw [hnl,u.len],fun n x' hx=>?_⟩,by rw [u.len];omega,fun x' hx=>?_⟩
 ·obtain ⟨y,z,k1,k2,_⟩:=key n x hn
  rw [k2]
 ·obtain ⟨nd,y,z,hn,e,k1,k3,k4,g⟩:=all n x' hx
  by_cases ht:nd.op=121∨nd.op=58
  ·rw [decide_eq_true ht,if_pos rfl] at e
   subst e
   exact ⟨⟨g.x,g.y,g.v,g.op,g.k,g.kd,fun z=>absurd ht z⟩,_,y,z,k1,fun _=>⟨rfl,by show -1≤y;omega,by show y≤1000;omega⟩,fun _=>⟨rfl,by show -1≤z;omega,by show z≤1000;omega⟩⟩
  ·rw [decide_eq_false ht] at e
   simp only [Bool.false_eq_true,if_false] at e
   subst e
   exact ⟨⟨g.x,g.y,g.v,g.op,g.k,g.kd,g.f⟩,_,y,z,k1,fun _=>⟨rfl,by show -1≤y;omega,by show y≤1000;omega⟩,fun z=>absurd z ht⟩
 ·obtain ⟨n,hn,rfl⟩:=List.getElem_of_mem hx
  obtain ⟨nd,y,z,_,e,k1,k3,k4,g⟩:=all n _ (List.getElem?_eq_getElem hn)
  by_cases ht:nd.op=121∨nd.op=58
  ·rw [decide_eq_true ht,if_pos rfl] at e
   rw [e]
   exact ⟨⟨g.x,g.y,g.v,g.op,g.k,g.kd,fun z=>absurd ht z⟩,fun _=>k3.1,fun _=>k4.1⟩
  ·rw [decide_eq_false ht] at e
   simp only [Bool.false_eq_true,if_false] at e
   rw [e]
   exact ⟨⟨g.x,g.y,g.v,g.op,g.k,g.kd,g.f⟩,fun _=>k3.1,fun z=>absurd z ht⟩
theorem src_first {s:ByteArray} (hs:s.size≤180) (h:(srE s).1=0):entO (srcF s).items 0 (srcF s).items.length (nj (srM s).row:Nat) (nj (srM s).row:Nat) (nj (srM s).row:Nat)=some 0:=by
 obtain ⟨_,hS,hA⟩:=src_par hs h (nj (srM s).row:Nat) (nj (srM s).row:Nat)
 obtain ⟨_,_,hB⟩:=src_par hs h ((nj (srM s).row:Nat)+1) ((nj (srM s).row:Nat)+1)
 rw [hA]
 rcases hS with ⟨hcd,⟨e1,e2⟩|⟨hie,he1,it,j,mm,nx',h1,h2,h3,h4,h5,h6,h7,h8,h9⟩⟩
 ·rw [← e1,entO_end,← e2] at hA
  rw [← Option.some.inj hA]
  rfl
 ·have hent:=ent_piece h1 h4 h8 hie hA
  by_cases k1:it.k=62
  ·exfalso
   unfold entO at hA hB
   rw [if_neg (by omega),h1] at hA hB
   dsimp only at hA hB
   rw [if_neg (by omega),if_pos k1] at hA hB
   have:=Option.some.inj hA
   have:=Option.some.inj hB
   omega
  by_cases k2:it.k=60
  ·exfalso
   unfold entO at hA hB
   rw [if_neg (by omega),h1] at hA hB
   dsimp only at hA hB
   rw [if_neg (by omega),if_neg k1,if_pos k2] at hA hB
   have:=Option.some.inj hA
   have:=Option.some.inj hB
   omega
  rw [if_neg k1,if_neg k2] at hent
  rw [hent]
  rfl
theorem src_run {s:ByteArray} (hs:s.size≤180) (h:(srE s).1=0) (inp:ByteArray) (fuel:Nat):∃ nds mc' F G d,NEq (nodM (srM s)) nds∧nds.length≤100∧wkF F nds inp (mc0 fuel) 0=some mc' ∧
  exR G (srcF s).items (srcF s).nodes inp (mc0 fuel) false 0 (srcF s).items.length=some (mc',d):=by
 obtain ⟨nds,hN,hq,hl,hg⟩:=src_nds hs h
 obtain ⟨mc',hE⟩:=wkF_total nds inp hl hg fuel (mc0 fuel) 0 rfl rfl (fun _=>Int.le_refl _)
 have hnl:nj (srM s).row=(srcF s).nodes.length:=(src_par hs h 0 0).1.len
 obtain ⟨_,hS,_⟩:=src_par hs h (nj (srM s).row:Nat) (nj (srM s).row:Nat)
 obtain ⟨m1,w,x1,x2⟩:=pcs_sim hN (s.size+1) hS (Nat.le_refl _) (by omega) (src_first hs h) (wkF_wk hE) _ (Nat.le_refl _)
 have htg:tgW w (nj (srM s).row:Nat) (nj (srM s).row:Nat) (nj (srM s).row:Nat)=(nj (srM s).row:Nat):=by unfold tgW;split <;> (try split) <;> rfl
 rw [htg] at x2
 have hm:m1=mc':=by
  rcases x2 with ⟨_,e⟩|⟨_,F',_,e⟩
  ·exact e.symm
  ·cases F' with
   | zero=>cases e
   | succ F' =>
    rw [wkF,if_neg (fun z=>by have:=hN.len;omega)] at e
    exact Option.some.inj e
 rw [hm] at x1
 exact ⟨nds,mc',_,_,w,hq,by omega,hE,x1⟩
end Go.Proofs.YtellieabhaphhabGreatDoor
namespace Go.Proofs.YtellieabhaphhabGreatDoor
open Go.RowKit
def RunIs (s inp:ByteArray) (fuel:Int) (t u:ByteArray) (c:Int):Prop :=
 (∀ W,Tab W→Calls Tryz.prog 13 #[.string s,.string inp,.int .i64 fuel] W fun e w'=>e=.returned (.tuple #[.string t,.string u,.int .i64 c])∧Kp no W w') ∧
 (∀ W,Tab W→Calls Tryz.prog 28 #[.string s,.string inp,.int .i64 fuel] W fun e w'=>e=.returned (.tuple #[.string t,.string u,.int .i64 c])∧Kp no W w')
theorem run_both (s inp:ByteArray) (fuel:Int) (hs:s.size≤maxLen) (hi:inp.size≤maxLen):∃ t u c,RunIs s inp fuel t u c:=by
 by_cases hg:inp.size≤40∧0≤fuel∧fuel≤300
 ·by_cases hs9:s.size≤180
  ·have e:=src_same s
   cases hb:srcBad s
   ·rw [hb] at e
    have e1:(srE s).1=0:=by rw [e];rfl
    obtain ⟨h1,h2,h3⟩:=hg
    obtain ⟨fuel,rfl⟩:=Int.eq_ofNat_of_zero_le h2
    obtain ⟨nds,mc',F,G,d,q1,q2,q3,q4⟩:=src_run hs9 e1 inp fuel
    exact ⟨_,_,_,fun W hW=>nrun_good s inp fuel W h1 (by omega) hs9 e1 hW nds q1 q2 F mc' q3,fun W hW=>refrun_good s inp fuel W h1 (by omega) hs9 hb hW (src_nok s) G mc' d q4⟩
   ·rw [hb] at e
    have e1:(srE s).1=2:=by rw [e];rfl
    refine ⟨_,_,_,fun W _=>?_,fun W _=>refrun_bad s inp fuel W hi hg hs9 hb⟩
    have:=nrun_bad s inp fuel W hi hg hs9 (by omega)
    rw [e1] at this
    exact this
  ·exact ⟨_,_,_,fun W _=>nrun_big s inp fuel W hi hs hg (by omega),fun W _=>refrun_big s inp fuel W hi hs hg (by omega)⟩
 ·exact ⟨_,_,_,fun W _=>nrun_long s inp fuel W hi hg,fun W _=>refrun_long s inp fuel W hi hg⟩
end Go.Proofs.YtellieabhaphhabGreatDoor
namespace Go.Proofs.YtellieabhaphhabGreatDoor
open Go.RowKit
set_option maxHeartbeats 800000 in
theorem lrunp_c (s inp:ByteArray) (fuel:Int) (t u:ByteArray) (c:Int) (w:World) (h:RunIs s inp fuel t u c) (ht:Tab w) :
  Calls Tryz.prog 27 #[.string s,.string inp,.int .i64 fuel] w fun e w'=>e=.returned (.agg #[.string t,.string u,.int .i64 c])∧Kp no w w':=by
 have HN:=hide h.1
 have HNU:=hide (fun W=>lnum_c c W)
 clear h
 go_enter Tryz.func27,Tryz.ntmps27
 go_wp2_with fail
 refine (HN.out _ (ht.kp (by (exact kpA)) no_elim)).mono ?_
 rintro e w1 ⟨rfl,k1⟩
 have hR:Blk w1 w.heap.size [.string ⟨#[]⟩,.string ⟨#[]⟩,.int .i64 0] 34:=k1.blk (by (exact blA)) no_elim
 obtain ⟨z0,z1,z2,zf⟩:=hR.c3
 have hz:=hR.lt
 go_wp2_with (go_at_call 10;refine (HNU.out _).mono ?_;rintro e w' ⟨rfl,rfl⟩)
 refine body_agg (Tb:=34) (b:=w.heap.size) (cs:=[.string t,.string u,.int .i64 c]) (.inr rfl) Tryz.results27 rfl rfl (by (exact blA)) Tryz.underlying34 rfl (by kernel_rfl) ?_
 exact ⟨rfl,by (exact kpA)⟩
set_option maxRecDepth 100000 in
set_option maxHeartbeats 1600000 in
theorem lplays_run (b c:Int) (s t u:ByteArray) (w:World) (hs:s.size≤maxLen) (hi:t.size≤maxLen) (ht:Tab w) :
  Calls Tryz.prog 16 #[.agg #[.int .i64 1,.int .i64 b,.int .i64 c,.string s,.string t,.string u]] w fun e w'=>e=.returned (.bool true)∧Kp no w w':=by
 obtain ⟨x,y,z,hw⟩:=run_both s t b hs hi
 have HN:=hide (fun W (hW:Tab W)=>lrunp_c s t b x y z W hw hW)
 have HR:=hide hw.2
 clear hw
 go_enter Tryz.func16,Tryz.ntmps16
 go_wp2_with fail
 refine (HN.out _ (ht.kp (by (exact kpA)) no_elim)).mono ?_
 rintro e w1 ⟨rfl,k1⟩
 have hT1:Tab w1:=(ht.kp ((Kp.refl no w).alloc _) no_elim).kp k1 no_elim
 have hO:Blk w1 w.heap.size [.int .i64 1,.int .i64 b,.int .i64 c,.string s,.string t,.string u] 25:=k1.blk (by (exact blA)) no_elim
 have o0:=hO.cell 0;have o1:=hO.cell 1;have o2:=hO.cell 2;have o3:=hO.cell 3;have o4:=hO.cell 4;have o5:=hO.cell 5
 simp only [List.getElem?_cons_zero,List.getElem?_cons_succ] at o0 o1 o2 o3 o4 o5
 have of:=hO.frozen
 have hz:=hO.lt
 go_wp2_with fail
 refine (HR.out _ (hT1.kp (by (exact kpA)) no_elim)).mono ?_
 rintro e w2 ⟨rfl,k2⟩
 have hX:Blk w2 w1.heap.size [.string x,.string y,.int .i64 z] 34:=k2.blk (by (exact blA)) no_elim
 obtain ⟨z0,z1,z2,zf⟩:=hX.c3
 have hz2:=hX.lt
 clear o0 o1 o2 o3 o4 o5 of
 go_wp2
 go_ret
 exact ⟨by simp,by (exact kpA)⟩
end Go.Proofs.YtellieabhaphhabGreatDoor
namespace Go.Proofs.YtellieabhaphhabGreatDoor
open Go.RowKit
theorem nev_act {op:Int} (h:opOk op):(actN op=11)↔(op=33):=by
 unfold opOk at h
 rcases h with rfl|rfl|rfl|rfl|rfl|rfl|rfl|rfl|rfl|rfl|rfl|rfl|rfl|rfl|rfl|rfl|rfl|rfl <;> decide
theorem fix_get (ND:List Nd):∀ (j n:Nat),(fixJ ND j)[n]?=(ND[n]?).map (fun x=>if n<j then nvr x else x)
 | 0,n=>by rw [fixJ];cases ND[n]? <;> simp
 | j+1,n=>by
  rw [fixJ,List.getElem?_modify,fix_get ND j n]
  cases ND[n]? with
  | none=>rfl
  | some x =>
   by_cases e:j=n
   ·subst e;simp
   ·by_cases h:n<j
    ·have h2:n<j+1:=by omega
     simp [e,h,h2]
    ·have h2:¬ n<j+1:=by omega
     simp [e,h,h2]
theorem gr_line {s:ByteArray} {nd:Nd} {y z:Int} (h:N1 s nd) (hy:0≤y) (hz:0≤z) {W:Nat→Int × Int × Bool} {n:Nat} (hW:W n=(y,z,decide (nd.op=121∨nd.op=58))) :
  lnTx (encN nd (txN s nd) y z)=linB s (nvr (upW W n nd)):=by
 have t1:=act_tst h.g.op
 have t2:=nev_act h.g.op
 have hf:=h.g.f
 have wy:wayB y=⟨#[44]⟩++twoB y.toNat:=by rw [wayB,if_pos hy]
 have wz:wayB z=⟨#[44]⟩++twoB z.toNat:=by rw [wayB,if_pos hz]
 have wm:wayB (-1)=⟨#[]⟩:=rfl
 unfold lnTx linB
 show txN s nd++(if actN nd.op=11 then ⟨#[]⟩ else ⟨#[44]⟩++twoB y.toNat)++(if actN nd.op=12∨actN nd.op=13 then ⟨#[44]⟩++twoB z.toNat else ⟨#[]⟩)++⟨#[59]⟩=_
 by_cases ht:nd.op=121∨nd.op=58
 ·have h33:¬ nd.op=33:=by omega
  have e:nvr (upW W n nd)={ nd with t:=y,f:=z }:=by
   unfold upW
   rw [hW,decide_eq_true ht]
   unfold nvr
   rw [if_pos rfl,if_neg h33]
  rw [if_neg (fun q=>h33 (t2.1 q)),if_pos (t1.2 ht),e]
  show _=txN s nd++wayB y++wayB z++_
  rw [wy,wz]
 ·have e0:upW W n nd={ nd with t:=y }:=by
   unfold upW
   rw [hW,decide_eq_false ht]
   rfl
  rw [if_neg (fun q=>ht (t1.1 q)),e0]
  by_cases h33:nd.op=33
  ·have e:nvr { nd with t:=y }={ nd with t:=-1 }:=by unfold nvr;rw [if_pos h33]
   rw [if_pos (t2.2 h33),e]
   show _=txN s nd++wayB (-1)++wayB nd.f++_
   rw [hf ht,wm]
  ·have e:nvr { nd with t:=y }={ nd with t:=y }:=by unfold nvr;rw [if_neg h33]
   rw [if_neg (fun q=>h33 (t2.1 q)),e]
   show _=txN s nd++wayB y++wayB nd.f++_
   rw [hf ht,wm,wy]
theorem gra_wri {s:ByteArray} {L:List NN} {l:List Nd} (h:L.map lnTx=l.map (linB s)):graT L=wriF s l:=by
 have e1:graT L=(L.map lnTx).foldl (fun a b=>a++b) ⟨#[]⟩:=by rw [List.foldl_map];rfl
 have e2:wriF s l=(l.map (linB s)).foldl (fun a b=>a++b) ⟨#[]⟩:=by rw [List.foldl_map];rfl
 rw [e1,e2,h]
theorem src_graph {s:ByteArray} (hs:s.size≤180) (h:(srE s).1=0):∃ ND,psO (s.size+1) (srcF s).items 0 (srcF s).items.length (srcF s).nodes.length (srcF s).nodes.length (srcF s).nodes.length (srcF s).nodes=some ND ∧
  (∀ x∈fixJ ND ND.length,Wn s x)∧graT (nodM (srM s))=wriF s (fixJ ND ND.length)∧(srcF s).nodes.length≤90:=by
 obtain ⟨hsn,hsl⟩:=src_nodes hs h
 have hN:nj (srM s).row=(srcF s).nodes.length:=(src_par hs h 0 0).1.len
 obtain ⟨fr,hS,_⟩:=src_par hs h (nj (srM s).row:Nat) (nj (srM s).row:Nat)
 obtain ⟨ND,e,u⟩:=ps_of (s.size+1) (ND:=(srcF s).nodes) hS (Nat.le_refl _) (by omega)
 rw [hN] at e u
 have hlen:=u.len
 have hnl:(nodM (srM s)).length=(srcF s).nodes.length:=by rw [nodM_nj,hN]
 have hfl:(fixJ ND ND.length).length=ND.length:=fix_len ND _
 have key:∀ n nd,(srcF s).nodes[n]?=some nd→∃ y z,(nodM (srM s))[n]?=some (encN nd (txN s nd) y z)∧WyM (srM s) n=(y,z,decide (nd.op=121∨nd.op=58))∧(0≤y∧y≤90)∧(0≤z∧z≤90) ∧
   (fixJ ND ND.length)[n]?=some (nvr (upW (WyM (srM s)) n nd)):=by
  intro n nd hn
  obtain ⟨y,z,h1,h2⟩:=nodM_at fr hn
  obtain ⟨nd',tx',y',z',q1,_,_,q2,q3,_⟩:=hsn _ (List.mem_of_getElem? h1)
  have ey:y=y':=congrArg NN.yes q1
  have ez:z=z':=congrArg NN.no q1
  have hl:=(List.getElem?_eq_some_iff.1 hn).1
  refine ⟨y,z,h1,h2,by rw [ey];exact q2,by rw [ez];exact q3,?_⟩
  rw [fix_get,u.get n nd hn,if_pos ⟨Nat.zero_le _,by omega⟩]
  show some (if n<ND.length then _ else _)=_
  rw [if_pos (by omega)]
 refine ⟨ND,e,?_,?_,by omega⟩
 ·intro x hx
  obtain ⟨n,hn,rfl⟩:=List.getElem_of_mem hx
  have hn2:n<(srcF s).nodes.length:=by omega
  obtain ⟨y,z,k1,k2,k3,k4,k5⟩:=key n _ (List.getElem?_eq_getElem hn2)
  rw [List.getElem?_eq_getElem hn] at k5
  have k5':=Option.some.inj k5
  rw [k5']
  have h1:=fr.2 _ (List.getElem_mem hn2)
  generalize (srcF s).nodes[n]=nd at *
  have hsz:nd.l≤1000:=by have:=h1.al;have:=h1.a;omega
  have hfx:=h1.g.f
  unfold upW nvr
  rw [k2]
  dsimp only
  by_cases ht:nd.op=121∨nd.op=58
  ·rw [decide_eq_true ht,if_pos rfl]
   split
   ·exact ⟨h1.a,⟨h1.l,hsz⟩,h1.al,by show (-1:Int)<100;decide,by show z<100;omega⟩
   ·exact ⟨h1.a,⟨h1.l,hsz⟩,h1.al,by show y<100;omega,by show z<100;omega⟩
  ·have hf:=hfx ht
   rw [decide_eq_false ht]
   simp only [Bool.false_eq_true,if_false]
   split
   ·exact ⟨h1.a,⟨h1.l,hsz⟩,h1.al,by show (-1:Int)<100;decide,by show nd.f<100;omega⟩
   ·exact ⟨h1.a,⟨h1.l,hsz⟩,h1.al,by show y<100;omega,by show nd.f<100;omega⟩
 ·apply gra_wri
  apply List.ext_getElem?
  intro n
  rw [List.getElem?_map,List.getElem?_map]
  cases hn:(srcF s).nodes[n]? with
  | none =>
   have:=List.getElem?_eq_none_iff.1 hn
   rw [List.getElem?_eq_none (by omega),List.getElem?_eq_none (by omega)]
   rfl
  | some nd =>
   obtain ⟨y,z,k1,k2,k3,k4,k5⟩:=key n nd hn
   rw [k1,k5]
   show some (lnTx _)=some (linB s _)
   rw [gr_line (fr.2 _ (List.mem_of_getElem? hn)) k3.1 k4.1 k2]
def GraIs (s:ByteArray) (t:ByteArray) (c p:Int):Prop :=
 (∀ W,Calls Tryz.prog 14 #[.string s] W fun e w'=>e=.returned (.tuple #[.string t,.int .i64 c,.int .i64 p])∧Kp no W w') ∧
 (∀ W,Calls Tryz.prog 29 #[.string s] W fun e w'=>e=.returned (.tuple #[.string t,.int .i64 c,.int .i64 p])∧Kp no W w')
theorem graph_both (s:ByteArray) (hs:s.size≤maxLen):∃ t c p,GraIs s t c p:=by
 by_cases hs9:s.size≤180
 ·have e:=src_same s
  cases hb:srcBad s
  ·rw [hb] at e
   have e1:(srE s).1=0:=by rw [e];rfl
   obtain ⟨ND,q1,q2,q3,q4⟩:=src_graph hs9 e1
   refine ⟨_,_,_,fun W=>ngraph_good s W hs9 e1,fun W=>?_⟩
   rw [q3]
   exact rgraph_good s W hs9 hb _ ND q1 (by omega) q2
  ·rw [hb] at e
   have e1:(srE s).1=2:=by rw [e];rfl
   have e2:(srE s).2=((srcF s).i:Int):=by rw [e];rfl
   refine ⟨em,2,((srcF s).i:Int),fun W=>?_,fun W=>rgraph_bad s W hs9 hb⟩
   have:=ngraph_bad s W hs9 (by omega)
   rw [e1,e2] at this
   exact this
 ·exact ⟨_,_,_,fun W=>ngraph_long s W hs (by omega),fun W=>rgraph_long s W hs (by omega)⟩
end Go.Proofs.YtellieabhaphhabGreatDoor
namespace Go.Proofs.YtellieabhaphhabGreatDoor
open Go.RowKit
set_option maxRecDepth 100000 in
set_option maxHeartbeats 1600000 in
theorem lplays_graph (b c:Int) (s t u:ByteArray) (w:World) (hs:s.size≤maxLen) :
  Calls Tryz.prog 16 #[.agg #[.int .i64 2,.int .i64 b,.int .i64 c,.string s,.string t,.string u]] w fun e w'=>e=.returned (.bool true)∧Kp no w w':=by
 obtain ⟨x,z,p,hw⟩:=graph_both s hs
 have HN:=hide hw.1
 have HR:=hide hw.2
 have HNU:=hide (fun W=>lnum_c z W)
 clear hw
 go_enter Tryz.func16,Tryz.ntmps16
 go_wp2_with fail
 refine (HN.out _).mono ?_
 rintro e w1 ⟨rfl,k1⟩
 have hO:Blk w1 w.heap.size [.int .i64 2,.int .i64 b,.int .i64 c,.string s,.string t,.string u] 25:=k1.blk (by (exact blA)) no_elim
 have o0:=hO.cell 0;have o1:=hO.cell 1;have o2:=hO.cell 2;have o3:=hO.cell 3;have o4:=hO.cell 4;have o5:=hO.cell 5
 simp only [List.getElem?_cons_zero,List.getElem?_cons_succ] at o0 o1 o2 o3 o4 o5
 have of:=hO.frozen
 have hz:=hO.lt
 go_wp2_with fail
 refine (HR.out _).mono ?_
 rintro e w2 ⟨rfl,k2⟩
 clear o0 o1 o2 o3 o4 o5 of
 go_wp2_with (go_at_call 10;refine (HNU.out _).mono ?_;rintro e w' ⟨rfl,rfl⟩)
 go_ret
 exact ⟨by simp,by (exact kpA)⟩
end Go.Proofs.YtellieabhaphhabGreatDoor
namespace Go.Proofs.YtellieabhaphhabGreatDoor
open Go.RowKit
theorem lineF_items (s:ByteArray) (st:RS):(lineF s st).items=st.items:=by
 simp only [lineF];split <;> rfl
theorem lnsF_gd:∀ (f:Nat) (s:ByteArray) (st:RS),st.bad=false→(∀ n∈st.nodes,Gd s n)→(lnsF f s st).items=st.items∧((lnsF f s st).bad=false→∀ n∈(lnsF f s st).nodes,Gd s n):=by
 intro f
 induction f with
 | zero=>intro s st _ h;exact ⟨rfl,fun _=>h⟩
 | succ f ih =>
  intro s st hb h
  rw [lnsF]
  split
  ·rename_i hc
   split
   ·exact ⟨rfl,fun e=>by cases e⟩
   ·cases hb2:(lineF s st).bad
    ·obtain ⟨nd,h1,h2,_⟩:=lineF_gd s st hc.2 hb2
     have:=ih s (lineF s st) hb2 (fun n hn=>by
      rw [h1,List.mem_append,List.mem_singleton] at hn
      rcases hn with h'|rfl
      ·exact h n h'
      ·exact h2)
     exact ⟨this.1.trans (lineF_items s st),this.2⟩
    ·rw [lns_stop f s (lineF s st) (by rw [hb2];simp)]
     exact ⟨lineF_items s st,fun e=>by rw [hb2] at e;cases e⟩
  ·exact ⟨rfl,fun _=>h⟩
theorem graF_gd (s:ByteArray):(graF s).items=[]∧((graF s).bad=false→∀ n∈(graF s).nodes,Gd s n) :=
 lnsF_gd _ s rs0 rfl (fun n hn=>by simp [rs0] at hn)
theorem graE_zero (s:ByteArray) (h:(graE s).1=0):graE s=(0,0)∧(graF s).bad=false:=by
 unfold graE at h ⊢
 split
 ·rename_i hb;rw [if_pos hb] at h;simp at h
 ·rename_i hb
  rw [if_neg hb] at h
  refine ⟨?_,by simpa using hb⟩
  split
  ·rename_i hl;rw [hl] at h;simp at h
  ·rfl
end Go.Proofs.YtellieabhaphhabGreatDoor
namespace Go.Proofs.YtellieabhaphhabGreatDoor
open Go.RowKit
def WalkIs (s inp:ByteArray) (fuel:Int) (t u:ByteArray) (c:Int):Prop :=
 (∀ W,Tab W→Calls Tryz.prog 22 #[.string s,.string inp,.int .i64 fuel] W fun e w'=>e=.returned (.tuple #[.string t,.string u,.int .i64 c])∧Kp no W w') ∧
 (∀ W,Tab W→Calls Tryz.prog 30 #[.string s,.string inp,.int .i64 fuel] W fun e w'=>e=.returned (.tuple #[.string t,.string u,.int .i64 c])∧Kp no W w')
theorem walk_both (s inp:ByteArray) (fuel:Int) (hs:s.size≤maxLen) (hi:inp.size≤maxLen):∃ t u c,WalkIs s inp fuel t u c:=by
 by_cases hg:inp.size≤40∧0≤fuel∧fuel≤300
 ·by_cases hs9:s.size≤900
  ·by_cases hb:(graE s).1=0
   ·obtain ⟨h1,h2,h3⟩:=hg
    obtain ⟨fuel,rfl⟩:=Int.eq_ofNat_of_zero_le h2
    obtain ⟨e1,e2⟩:=graE_zero s hb
    obtain ⟨g1,g2⟩:=graF_gd s
    have gd:=g2 e2
    obtain ⟨F,mc',hE⟩:=graF_total s inp fuel gd
    exact ⟨_,_,_,fun W hW=>nwalk_good s inp fuel W h1 (by omega) hs9 hb hW F mc' hE,fun W hW=>walk_good s inp fuel W h1 (by omega) hs9 e1 hW (fun n hn=>(gd n hn).g.nok) g1 (fun n hn=>(gd n hn).tf) F mc' hE⟩
   ·exact ⟨_,_,_,fun W _=>nwalk_bad s inp fuel W hi hg hs9 hb,fun W _=>refwalk_bad s inp fuel W hi hg hs9 hb⟩
  ·exact ⟨_,_,_,fun W _=>nwalk_big s inp fuel W hi hs hg (by omega),fun W _=>refwalk_big s inp fuel W hi hs hg (by omega)⟩
 ·exact ⟨_,_,_,fun W _=>nwalk_long s inp fuel W hi hg,fun W _=>refwalk_long s inp fuel W hi hg⟩
end Go.Proofs.YtellieabhaphhabGreatDoor
namespace Go.Proofs.YtellieabhaphhabGreatDoor
open Go.RowKit
set_option maxHeartbeats 800000 in
theorem lwalks_c (s inp:ByteArray) (fuel:Int) (t u:ByteArray) (c:Int) (w:World) (h:WalkIs s inp fuel t u c) (ht:Tab w) :
  Calls Tryz.prog 11 #[.string s,.string inp,.int .i64 fuel] w fun e w'=>e=.returned (.agg #[.string t,.string u,.int .i64 c])∧Kp no w w':=by
 have HN:=hide h.1
 have HNU:=hide (fun W=>lnum_c c W)
 clear h
 go_enter Tryz.func11,Tryz.ntmps11
 go_wp2_with fail
 refine (HN.out _ (ht.kp (by (exact kpA)) no_elim)).mono ?_
 rintro e w1 ⟨rfl,k1⟩
 have hR:Blk w1 w.heap.size [.string ⟨#[]⟩,.string ⟨#[]⟩,.int .i64 0] 34:=k1.blk (by (exact blA)) no_elim
 obtain ⟨z0,z1,z2,zf⟩:=hR.c3
 have hz:=hR.lt
 go_wp2_with (go_at_call 10;refine (HNU.out _).mono ?_;rintro e w' ⟨rfl,rfl⟩)
 refine body_agg (Tb:=34) (b:=w.heap.size) (cs:=[.string t,.string u,.int .i64 c]) (.inr rfl) Tryz.results11 rfl rfl (by (exact blA)) Tryz.underlying34 rfl (by kernel_rfl) ?_
 exact ⟨rfl,by (exact kpA)⟩
set_option maxRecDepth 100000 in
set_option maxHeartbeats 1600000 in
theorem lplays_walk (b c:Int) (s t u:ByteArray) (w:World) (hs:s.size≤maxLen) (hi:t.size≤maxLen) (ht:Tab w) :
  Calls Tryz.prog 16 #[.agg #[.int .i64 3,.int .i64 b,.int .i64 c,.string s,.string t,.string u]] w fun e w'=>e=.returned (.bool true)∧Kp no w w':=by
 obtain ⟨x,y,z,hw⟩:=walk_both s t b hs hi
 have HN:=hide (fun W (hW:Tab W)=>lwalks_c s t b x y z W hw hW)
 have HR:=hide hw.2
 clear hw
 go_enter Tryz.func16,Tryz.ntmps16
 go_wp2_with fail
 refine (HN.out _ (ht.kp (by (exact kpA)) no_elim)).mono ?_
 rintro e w1 ⟨rfl,k1⟩
 have hT1:Tab w1:=(ht.kp ((Kp.refl no w).alloc _) no_elim).kp k1 no_elim
 have hO:Blk w1 w.heap.size [.int .i64 3,.int .i64 b,.int .i64 c,.string s,.string t,.string u] 25:=k1.blk (by (exact blA)) no_elim
 have o0:=hO.cell 0;have o1:=hO.cell 1;have o2:=hO.cell 2;have o3:=hO.cell 3;have o4:=hO.cell 4;have o5:=hO.cell 5
 simp only [List.getElem?_cons_zero,List.getElem?_cons_succ] at o0 o1 o2 o3 o4 o5
 have of:=hO.frozen
 have hz:=hO.lt
 go_wp2_with fail
 refine (HR.out _ (hT1.kp (by (exact kpA)) no_elim)).mono ?_
 rintro e w2 ⟨rfl,k2⟩
 have hX:Blk w2 w1.heap.size [.string x,.string y,.int .i64 z] 34:=k2.blk (by (exact blA)) no_elim
 obtain ⟨z0,z1,z2,zf⟩:=hX.c3
 have hz2:=hX.lt
 clear o0 o1 o2 o3 o4 o5 of
 go_wp2
 go_ret
 exact ⟨by simp,by (exact kpA)⟩
end Go.Proofs.YtellieabhaphhabGreatDoor
namespace Go.Proofs.YtellieabhaphhabGreatDoor
open Go.RowKit
theorem ofi_nat (a:Nat) (ha:a<128):(BitVec.ofInt 64 (a:Int)).toNat=a:=by
 rw [BitVec.ofInt_natCast,BitVec.toNat_ofNat];exact Nat.mod_eq_of_lt (by omega)
theorem bits_and_nat (a b:Nat) (ha:a<128) (hb:b<128):bits .and .i64 (a:Int) (b:Int)=((a&&&b:Nat):Int):=by
 have:=and_lt b ha
 show IntKind.i64.wrap ((BitVec.ofInt 64 (a:Int)&&&BitVec.ofInt 64 (b:Int)).toNat:Int)=_
 rw [BitVec.toNat_and,ofi_nat a ha,ofi_nat b hb,IntKind.wrap_i64]
 omega
theorem bits_or_nat (a b:Nat) (ha:a<128) (hb:b<128):bits .or .i64 (a:Int) (b:Int)=((a ||| b:Nat):Int):=by
 have:=or_lt ha hb
 show IntKind.i64.wrap ((BitVec.ofInt 64 (a:Int) ||| BitVec.ofInt 64 (b:Int)).toNat:Int)=_
 rw [BitVec.toNat_or,ofi_nat a ha,ofi_nat b hb,IntKind.wrap_i64]
 omega
theorem not_bits (a b:Nat) (ha:a<128) (hb:b<128):a&&&(2 ^ 64-1-b)=a&&&(127 ^^^ b):=by
 refine Nat.eq_of_testBit_eq fun i=>?_
 rw [Nat.testBit_and,Nat.testBit_and,Nat.sub_sub,Nat.add_comm 1 b,Nat.testBit_two_pow_sub_succ (by omega),Nat.testBit_xor]
 by_cases hi:i<7
 ·rw [decide_eq_true (by omega:i<64)]
  have:Nat.testBit 127 i=true:=by
   rcases (show i=0∨i=1∨i=2∨i=3∨i=4∨i=5∨i=6 by omega) with rfl|rfl|rfl|rfl|rfl|rfl|rfl <;> decide
  rw [this]
  cases b.testBit i <;> simp
 ·have h2:128≤2 ^ i:=by
   have:2 ^ 7≤2 ^ i:=Nat.pow_le_pow_right (by decide) (by omega)
   omega
  rw [Nat.testBit_lt_two_pow (show a<2 ^ i by omega)]
  simp
theorem bits_not_nat (a b:Nat) (ha:a<128) (hb:b<128):bits .andNot .i64 (a:Int) (b:Int)=((a&&&(127 ^^^ b):Nat):Int):=by
 have:=and_lt (127 ^^^ b) ha
 show IntKind.i64.wrap ((BitVec.ofInt 64 (a:Int)&&&~~~(BitVec.ofInt 64 (b:Int))).toNat:Int)=_
 rw [BitVec.toNat_and,BitVec.toNat_not,ofi_nat a ha,ofi_nat b hb,not_bits a b ha hb,IntKind.wrap_i64]
 omega
def zc (Z:St):List Value:=Z.map (fun (m:Nat)=>Value.int .i64 (m:Int))
structure Z6 (Z:St):Prop where
 len:Z.length=6
 lt:∀ m∈Z,m<128
theorem Z6.get {Z:St} (h:Z6 Z) (i:Nat):Z.getD i 0<128:=by
 rw [List.getD_eq_getElem?_getD]
 cases hx:Z[i]? with
 | none=>simp
 | some m=>exact h.lt m (List.mem_of_getElem? hx)
theorem Z6.set {Z:St} (h:Z6 Z) (i:Nat) {m:Nat} (hm:m<128):Z6 (Z.set i m) :=
 ⟨by rw [List.length_set];exact h.len,fun z hz=>by
  rcases List.mem_or_eq_of_mem_set hz with h1|rfl
  ·exact h.lt z h1
  ·exact hm⟩
abbrev ZB (w:World) (b:Nat) (Z:St):Prop:=Blk w b (zc Z) 75
theorem ZB.at {w:World} {b:Nat} {Z:St} (h:ZB w b Z) {i:Nat} (hi:i<Z.length):w.cell? ⟨b,i,none⟩=some (.int .i64 (Z.getD i 0:Nat)):=by
 rw [Blk.cell h]
 simp [zc,List.getD_eq_getElem?_getD,hi]
theorem zc_set (Z:St) (i m:Nat):(zc Z).set i (.int .i64 (m:Int))=zc (Z.set i m):=by
 unfold zc;rw [List.map_set]
theorem ZB.set {w:World} {b:Nat} {Z:St} (h:ZB w b Z) (i m:Nat):ZB (w.setCell ⟨b,i,none⟩ (.int .i64 (m:Int))) b (Z.set i m):=by
 have:=Blk.set h i (.int .i64 (m:Int))
 rwa [zc_set] at this
theorem zb_six {w:World} {b:Nat} {Z:St} (h:ZB w b Z) (h6:Z6 Z):∃ m0 m1 m2 m3 m4 m5:Nat,Z=[m0,m1,m2,m3,m4,m5]:=by
 match Z,h6.len with
 | [m0,m1,m2,m3,m4,m5],_=>exact ⟨m0,m1,m2,m3,m4,m5,rfl⟩
theorem zIx (w:World) (m0 m1 m2 m3 m4 m5:Nat) (j:Nat) (hj:j<6):(Instr.index 73 (.agg #[.int .i64 m0,.int .i64 m1,.int .i64 m2,.int .i64 m3,.int .i64 m4,.int .i64 m5]) (.int .i64 (j:Int))).run Tryz.prog w=.ok (.int .i64 (List.getD [m0,m1,m2,m3,m4,m5] j 0:Nat)) w:=by
 rcases (show j=0∨j=1∨j=2∨j=3∨j=4∨j=5 by omega) with rfl|rfl|rfl|rfl|rfl|rfl <;> simp [Instr.index,go_sem]
theorem exS_no {Z:St} {j:Nat} (hj:j<Z.length) (h:Z.getD j 0=0):exS Z=false:=by
 unfold exS
 rw [List.all_eq_false]
 rw [List.getD_eq_getElem?_getD,List.getElem?_eq_getElem hj,Option.getD_some] at h
 exact ⟨Z[j],List.getElem_mem hj,by simp [h]⟩
theorem exS_yes {Z:St} (h:∀ i,i<Z.length→Z.getD i 0≠0):exS Z=true:=by
 unfold exS
 rw [List.all_eq_true]
 intro m hm
 obtain ⟨i,hi,rfl⟩:=List.getElem_of_mem hm
 have:=h i hi
 rw [List.getD_eq_getElem?_getD,List.getElem?_eq_getElem hi,Option.getD_some] at this
 simpa using this
set_option maxRecDepth 100000 in
set_option maxHeartbeats 1600000 in
theorem exists_c (b:Nat) (Z:St) (w:World) (h:ZB w b Z) (h6:Z6 Z) :
  Calls Tryz.prog 40 #[.pointer (some ⟨b,0,none⟩)] w fun e w'=>e=.returned (.bool (exS Z))∧w'=w:=by
 obtain ⟨m0,m1,m2,m3,m4,m5,rfl⟩:=zb_six h h6
 have c0:=Blk.cell h 0;have c1:=Blk.cell h 1;have c2:=Blk.cell h 2;have c3:=Blk.cell h 3;have c4:=Blk.cell h 4;have c5:=Blk.cell h 5
 simp only [zc,List.map_cons,List.map_nil,List.getElem?_cons_zero,List.getElem?_cons_succ] at c0 c1 c2 c3 c4 c5
 have hlt:=Blk.lt h
 have HIX:=hide (fun W j hj=>zIx W m0 m1 m2 m3 m4 m5 j hj)
 have HNO:=hide (fun j hj h=>exS_no (Z:=[m0,m1,m2,m3,m4,m5]) (j:=j) hj h)
 have HYES:=hide (exS_yes (Z:=[m0,m1,m2,m3,m4,m5]))
 clear h
 generalize hE:exS [m0,m1,m2,m3,m4,m5]=E at *
 clear hE
 go_enter Tryz.func40,Tryz.ntmps40
 go_wp2
 go_loopg [9] 6 (fun k iv wr=>∃ j:Nat,j≤6∧k=6-j∧iv=.int .i64 j∧(∀ i,i<j→List.getD [m0,m1,m2,m3,m4,m5] i 0≠0)∧wr=w)
 case atStart=>exact ⟨0,by decide,rfl,rfl,fun i hi=>by omega,rfl⟩
 case round =>
  obtain ⟨j,hj,hk,rfl,hz,rfl⟩:=hrel
  have HKK:=hide hk
  have HZ:=hide hz
  clear hk hz
  by_cases hlt6:j<6
  ·have hix:=HIX.out wr j hlt6
   have HN2:=hide (HNO.out j hlt6)
   generalize hmm:List.getD [m0,m1,m2,m3,m4,m5] j 0=m at *
   have HMM:=hide hmm
   clear hmm
   by_cases hm:m=0
   ·have HF:=hide (HN2.out hm)
    subst hm
    go_wp2
    go_ret
    rw [HF.out]
    exact ⟨rfl,rfl⟩
   ·have hm':((m:Int) == 0)=false:=by simp;omega
    go_wp2
    go_roundg (6-(j+1))
    case measure=>have:=HKK.out;omega
    case rel=>exact ⟨j+1,by omega,rfl,by go_num,fun i hi=>by
     rcases Nat.lt_or_ge i j with h1|h1
     ·exact HZ.out i h1
     ·obtain rfl:i=j:=by omega
      rw [HMM.out];exact hm,rfl⟩
  ·obtain rfl:j=6:=by omega
   have HT:=hide (HYES.out (fun i hi=>HZ.out i hi))
   go_wp2
   go_ret
   rw [HT.out]
   exact ⟨rfl,rfl⟩
set_option maxRecDepth 100000 in
set_option maxHeartbeats 1600000 in
theorem kindsOf_c (b:Nat) (Z:St) (v:Nat) (w:World) (h:ZB w b Z) (h6:Z6 Z) (hv:v<6) :
  Calls Tryz.prog 93 #[.pointer (some ⟨b,0,none⟩),.int .i64 v] w fun e w'=>e=.returned (.int .i64 (Z.getD v 0:Nat))∧w'=w:=by
 have hc:=ZB.at h (i:=v) (by rw [h6.len];exact hv)
 have hlt:=Blk.lt h
 generalize Z.getD v 0=m at *
 have d0:decide ((v:Int)<0)=false:=by simp
 have d1:decide ((6:Int)≤v)=false:=by simp;omega
 have d2:(v:Int)<6:=by omega
 clear h
 go_enter Tryz.func93,Tryz.ntmps93
 go_wp2
 go_ret
 exact ⟨rfl,rfl⟩
set_option maxRecDepth 100000 in
set_option maxHeartbeats 1600000 in
theorem zset_c (b:Nat) (Z:St) (v m:Nat) (w:World) (h:ZB w b Z) (h6:Z6 Z) (hv:v<6) :
  Calls Tryz.prog 121 #[.pointer (some ⟨b,0,none⟩),.int .i64 v,.int .i64 (m:Int)] w fun e w'=>e=.returned (.tuple #[])∧ZB w' b (Z.set v m)∧Kp (·=b) w w':=by
 have hc:=ZB.at h (i:=v) (by rw [h6.len];exact hv)
 have hlt:=Blk.lt h
 have hf:=Blk.frozen h
 have HS:=hide (h.set v m)
 generalize Z.getD v 0=m0 at *
 have d0:(0:Int)≤(v:Int):=by omega
 have d2:(v:Int)<6:=by omega
 clear h
 go_enter Tryz.func121,Tryz.ntmps121
 go_wp2
 go_end0
 exact ⟨rfl,HS.out,(Kp.refl _ _).setCell _ (fun _=>rfl)⟩
set_option maxRecDepth 100000 in
set_option maxHeartbeats 1600000 in
theorem keep_c (b:Nat) (Z:St) (v m:Nat) (w:World) (h:ZB w b Z) (h6:Z6 Z) (hv:v<6) (hm:m<128) :
  Calls Tryz.prog 117 #[.pointer (some ⟨b,0,none⟩),.int .i64 v,.int .i64 (m:Int)] w fun e w'=>e=.returned (.tuple #[])∧ZB w' b (Z.set v (Z.getD v 0&&&m))∧Kp (·=b) w w':=by
 have HK:=hide (kindsOf_c b Z v w h h6 hv)
 have HB:=hide (bits_and_nat (Z.getD v 0) m (h6.get v) hm)
 have HS:=hide (zset_c b Z v (Z.getD v 0&&&m) w h h6 hv)
 generalize Z.getD v 0=m0 at *
 go_enter Tryz.func117,Tryz.ntmps117
 go_wp2_with fail
 refine HK.out.mono ?_
 rintro e w' ⟨rfl,rfl⟩
 go_wp2_with fail
 rw [HB.out]
 refine HS.out.mono ?_
 rintro e w' ⟨rfl,h1,h2⟩
 go_wp2
 go_end0
 exact ⟨rfl,h1,h2⟩
def fZ (j:Nat):St:=(List.range 6).map (fun i=>if i<j then 8 else 0)
theorem fZ_set (j:Nat) (hj:j<6):(fZ j).set j 8=fZ (j+1):=by
 rcases (show j=0∨j=1∨j=2∨j=3∨j=4∨j=5 by omega) with rfl|rfl|rfl|rfl|rfl|rfl <;> decide
theorem fZ_len (j:Nat):(fZ j).length=6:=by simp [fZ]
theorem Blk.c6 {w:World} {b:Nat} {a0 a1 a2 a3 a4 a5:Value} {T:TypeId} (h:Blk w b [a0,a1,a2,a3,a4,a5] T) :
  w.cell? ⟨b,0,none⟩=some a0∧w.cell? ⟨b,1,none⟩=some a1∧w.cell? ⟨b,2,none⟩=some a2∧w.cell? ⟨b,3,none⟩=some a3∧w.cell? ⟨b,4,none⟩=some a4∧w.cell? ⟨b,5,none⟩=some a5∧(∀ o,w.frozen? ⟨b,o,none⟩=false)∧b<w.heap.size :=
 ⟨h.cell 0,h.cell 1,h.cell 2,h.cell 3,h.cell 4,h.cell 5,h.frozen,h.lt⟩
set_option maxRecDepth 100000 in
set_option maxHeartbeats 1600000 in
theorem firstState_c (w:World) :
  Calls Tryz.prog 36 #[] w fun e w'=>e=.returned (.agg (zc st0).toArray)∧Kp no w w':=by
 go_enter Tryz.func36,Tryz.ntmps36
 go_wp2
 go_loopg [4] 6 (fun k iv wr=>∃ j:Nat,j≤6∧k=6-j∧iv=.int .i64 j∧ZB wr (w.heap.size+1) (fZ j)∧ZB wr w.heap.size [0,0,0,0,0,0]∧Kp no w wr)
 case atStart=>exact ⟨0,by decide,rfl,rfl,by (show Blk _ _ [.int .i64 0,.int .i64 0,.int .i64 0,.int .i64 0,.int .i64 0,.int .i64 0] _);(exact blA),by (show Blk _ _ [.int .i64 0,.int .i64 0,.int .i64 0,.int .i64 0,.int .i64 0,.int .i64 0] _);(exact blA),by (exact kpA)⟩
 case round =>
  obtain ⟨j,hj,hk,rfl,hz,hr,kr⟩:=hrel
  have HKK:=hide hk
  have HZ:=hide hz
  have HR:=hide hr
  have HKR:=hide kr
  clear hk hz hr kr
  by_cases hlt6:j<6
  ·have hc:=ZB.at HZ.out (i:=j) (by rw [fZ_len];exact hlt6)
   have hf:=Blk.frozen HZ.out
   have hl:=Blk.lt HZ.out
   have hjI:(j:Int)<6:=by omega
   generalize (fZ j).getD j 0=m0 at *
   go_wp2
   go_roundg (6-(j+1))
   case measure=>have:=HKK.out;omega
   case rel =>
    have h2:=HZ.out.set j 8
    rw [fZ_set j hlt6] at h2
    exact ⟨j+1,by omega,rfl,by go_num,h2,Blk.other HR.out _ (by dsimp only;omega),HKR.out.setCell _ (fun h=>by dsimp only at h;omega)⟩
  ·obtain rfl:j=6:=by omega
   have hz:Blk wr (w.heap.size+1) [.int .i64 8,.int .i64 8,.int .i64 8,.int .i64 8,.int .i64 8,.int .i64 8] 75:=HZ.out
   have hr:Blk wr w.heap.size [.int .i64 0,.int .i64 0,.int .i64 0,.int .i64 0,.int .i64 0,.int .i64 0] 75:=HR.out
   have HRB:=hide hr
   obtain ⟨c0,c1,c2,c3,c4,c5,cf,cl⟩:=hz.c6
   obtain ⟨d0,d1,d2,d3,d4,d5,df,dl⟩:=hr.c6
   clear hz hr
   have kk:=HKR.out
   go_wp2
   have hr2:=HRB.out
   refine body_agg (Tb:=75) (b:=w.heap.size) (cs:=[.int .i64 8,.int .i64 8,.int .i64 8,.int .i64 8,.int .i64 8,.int .i64 8]) (.inr rfl) Tryz.results36 rfl rfl (by (exact blA)) Tryz.underlying75 rfl (by kernel_rfl) ?_
   exact ⟨rfl,by (exact kpA)⟩
end Go.Proofs.YtellieabhaphhabGreatDoor
namespace Go.Proofs.YtellieabhaphhabGreatDoor
open Go.RowKit
def jnZ (s t:St):St:=if exS t then List.zipWith (· ||| ·) s t else s
abbrev zv6 (m0 m1 m2 m3 m4 m5:Nat):Value:=.agg #[.int .i64 m0,.int .i64 m1,.int .i64 m2,.int .i64 m3,.int .i64 m4,.int .i64 m5]
def orJ (A B:St) (j:Nat):St:=(List.zipWith (· ||| ·) A B).take j++A.drop j
theorem orJ_step (a0 a1 a2 a3 a4 a5 b0 b1 b2 b3 b4 b5:Nat) (j:Nat) (hj:j<6) :
  (orJ [a0,a1,a2,a3,a4,a5] [b0,b1,b2,b3,b4,b5] j).length=6∧(orJ [a0,a1,a2,a3,a4,a5] [b0,b1,b2,b3,b4,b5] j).getD j 0=List.getD [a0,a1,a2,a3,a4,a5] j 0 ∧
  (orJ [a0,a1,a2,a3,a4,a5] [b0,b1,b2,b3,b4,b5] j).set j (List.getD [a0,a1,a2,a3,a4,a5] j 0 ||| List.getD [b0,b1,b2,b3,b4,b5] j 0)=orJ [a0,a1,a2,a3,a4,a5] [b0,b1,b2,b3,b4,b5] (j+1):=by
 rcases (show j=0∨j=1∨j=2∨j=3∨j=4∨j=5 by omega) with rfl|rfl|rfl|rfl|rfl|rfl <;> exact ⟨rfl,rfl,rfl⟩
set_option maxRecDepth 100000 in
set_option maxHeartbeats 1600000 in
theorem joined_c (a0 a1 a2 a3 a4 a5 b0 b1 b2 b3 b4 b5:Nat) (w:World) (ha:Z6 [a0,a1,a2,a3,a4,a5]) (hb:Z6 [b0,b1,b2,b3,b4,b5]) :
  Calls Tryz.prog 74 #[zv6 a0 a1 a2 a3 a4 a5,zv6 b0 b1 b2 b3 b4 b5] w fun e w'=>e=.returned (.agg (zc (jnZ [a0,a1,a2,a3,a4,a5] [b0,b1,b2,b3,b4,b5])).toArray)∧Kp no w w':=by
 have HX:=hide (fun b W h=>exists_c b [b0,b1,b2,b3,b4,b5] W h hb)
 go_enter Tryz.func74,Tryz.ntmps74
 go_wp2_with fail
 refine (HX.out _ _ (by (show Blk _ _ [.int .i64 b0,.int .i64 b1,.int .i64 b2,.int .i64 b3,.int .i64 b4,.int .i64 b5] _);(exact blA))).mono ?_
 rintro e w' ⟨rfl,rfl⟩
 cases hE:exS [b0,b1,b2,b3,b4,b5]
 ·have HJ:=hide (show jnZ [a0,a1,a2,a3,a4,a5] [b0,b1,b2,b3,b4,b5]=[a0,a1,a2,a3,a4,a5] by rw [jnZ,hE];rfl)
  clear hE
  go_wp2
  refine body_agg (Tb:=75) (b:=w.heap.size+1+1) (cs:=[.int .i64 a0,.int .i64 a1,.int .i64 a2,.int .i64 a3,.int .i64 a4,.int .i64 a5]) (.inr rfl) Tryz.results74 rfl rfl (by (exact blA)) Tryz.underlying75 rfl (by kernel_rfl) ?_
  rw [HJ.out]
  exact ⟨rfl,by (exact kpA)⟩
 ·have HJ:=hide (show jnZ [a0,a1,a2,a3,a4,a5] [b0,b1,b2,b3,b4,b5]=[a0 ||| b0,a1 ||| b1,a2 ||| b2,a3 ||| b3,a4 ||| b4,a5 ||| b5] by rw [jnZ,hE];rfl)
  clear hE HX
  have HIX:=hide (fun W j hj=>zIx W b0 b1 b2 b3 b4 b5 j hj)
  have HOJ:=hide (orJ_step a0 a1 a2 a3 a4 a5 b0 b1 b2 b3 b4 b5)
  go_wp2
  go_loopg [12] 6 (fun k iv wr=>∃ j:Nat,j≤6∧k=6-j∧iv=.int .i64 j∧ZB wr w.heap.size (orJ [a0,a1,a2,a3,a4,a5] [b0,b1,b2,b3,b4,b5] j)∧ZB wr (w.heap.size+1+1) [0,0,0,0,0,0]∧Kp no w wr)
  case atStart=>exact ⟨0,by decide,rfl,rfl,by (show Blk _ _ [.int .i64 a0,.int .i64 a1,.int .i64 a2,.int .i64 a3,.int .i64 a4,.int .i64 a5] _);(exact blA),by (show Blk _ _ [.int .i64 0,.int .i64 0,.int .i64 0,.int .i64 0,.int .i64 0,.int .i64 0] _);(exact blA),by (exact kpA)⟩
  case round =>
   obtain ⟨j,hj,hk,rfl,hz,hr,kr⟩:=hrel
   have HKK:=hide hk
   have HZ:=hide hz
   have HR:=hide hr
   have HKR:=hide kr
   clear hk hz hr kr
   by_cases hlt6:j<6
   ·obtain ⟨e1,e2,e3⟩:=HOJ.out j hlt6
    have hc:=ZB.at HZ.out (i:=j) (by rw [e1];exact hlt6)
    rw [e2] at hc
    have HE3:=hide e3
    have hf:=Blk.frozen HZ.out
    have hl:=Blk.lt HZ.out
    have hjI:(j:Int)<6:=by omega
    have hix:=HIX.out wr j hlt6
    have hbo:=bits_or_nat _ _ (ha.get j) (hb.get j)
    clear e1 e2 e3 HIX HOJ
    generalize hgA:List.getD [a0,a1,a2,a3,a4,a5] j 0=mA at *
    generalize hgB:List.getD [b0,b1,b2,b3,b4,b5] j 0=mB at *
    clear hgA hgB
    go_wp2
    go_roundg (6-(j+1))
    case measure=>have:=HKK.out;omega
    case rel =>
     have h2:=HZ.out.set j (mA ||| mB)
     rw [HE3.out] at h2
     exact ⟨j+1,by omega,rfl,by go_num,h2,Blk.other HR.out _ (by dsimp only;omega),HKR.out.setCell _ (fun h=>by dsimp only at h;omega)⟩
   ·obtain rfl:j=6:=by omega
    have hz:Blk wr w.heap.size [.int .i64 (a0 ||| b0:Nat),.int .i64 (a1 ||| b1:Nat),.int .i64 (a2 ||| b2:Nat),.int .i64 (a3 ||| b3:Nat),.int .i64 (a4 ||| b4:Nat),.int .i64 (a5 ||| b5:Nat)] 75:=HZ.out
    have hr:Blk wr (w.heap.size+1+1) [.int .i64 0,.int .i64 0,.int .i64 0,.int .i64 0,.int .i64 0,.int .i64 0] 75:=HR.out
    have HRB:=hide hr
    obtain ⟨c0,c1,c2,c3,c4,c5,cf,cl⟩:=hz.c6
    obtain ⟨d0,d1,d2,d3,d4,d5,df,dl⟩:=hr.c6
    clear hz hr
    have kk:=HKR.out
    go_wp2
    have hr2:=HRB.out
    refine body_agg (Tb:=75) (b:=w.heap.size+1+1) (cs:=[.int .i64 (a0 ||| b0:Nat),.int .i64 (a1 ||| b1:Nat),.int .i64 (a2 ||| b2:Nat),.int .i64 (a3 ||| b3:Nat),.int .i64 (a4 ||| b4:Nat),.int .i64 (a5 ||| b5:Nat)]) (.inr rfl) Tryz.results74 rfl rfl (by (exact blA)) Tryz.underlying75 rfl (by kernel_rfl) ?_
    rw [HJ.out]
    exact ⟨rfl,by (exact kpA)⟩
def setF (a:Int):Bool:=decide (1≤a∧a≤8)
set_option maxHeartbeats 1600000 in
theorem setsVariable_c (a:Int) (w:World) (h0:0≤a) (h14:a≤14) :
  Calls Tryz.prog 119 #[.int .i64 a] w fun e w'=>e=.returned (.bool (setF a))∧w'=w:=by
 rcases (show a=0∨a=1∨a=2∨a=3∨a=4∨a=5∨a=6∨a=7∨a=8∨a=9∨a=10∨a=11∨a=12∨a=13∨a=14 by omega) with rfl|rfl|rfl|rfl|rfl|rfl|rfl|rfl|rfl|rfl|rfl|rfl|rfl|rfl|rfl
 all_goals
  go_enter Tryz.func119,Tryz.ntmps119
  go_wp2
  go_ret
  exact ⟨rfl,rfl⟩
def heldZ (y:Nat):Nat:=(if y.testBit 4 then 1 else 0) ||| (if y.testBit 5 then 14 else 0)
theorem and16:∀ y,y<128→(((y&&&16:Nat):Int) != 0)=y.testBit 4:=by decide
theorem and32:∀ y,y<128→(((y&&&32:Nat):Int) != 0)=y.testBit 5:=by decide
set_option maxHeartbeats 1600000 in
theorem kindsHeld_c (y:Nat) (w:World) (hy:y<128) :
  Calls Tryz.prog 153 #[.int .i64 (y:Int)] w fun e w'=>e=.returned (.int .i64 (heldZ y:Nat))∧w'=w:=by
 have b1:bits .and .i64 (y:Int) 16=((y&&&16:Nat):Int):=bits_and_nat y 16 hy (by decide)
 have b2:bits .and .i64 (y:Int) 32=((y&&&32:Nat):Int):=bits_and_nat y 32 hy (by decide)
 have f1:=and16 y hy
 have f2:=and32 y hy
 have HE:Hid (heldZ y=(if y.testBit 4 then 1 else 0) ||| (if y.testBit 5 then 14 else 0)):=rfl
 rw [HE.out]
 clear HE
 generalize y.testBit 4=p at *
 generalize y.testBit 5=q at *
 generalize ((y&&&16:Nat):Int)=v1 at *
 generalize ((y&&&32:Nat):Int)=v2 at *
 have o1:bits .or .i64 0 1=1:=by decide
 have o2:bits .or .i64 0 14=14:=by decide
 have o3:bits .or .i64 1 14=15:=by decide
 cases p <;> cases q
 all_goals
  go_enter Tryz.func153,Tryz.ntmps153
  go_wp2
  go_ret
  exact ⟨rfl,rfl⟩
def giZ (act ck:Int) (y:Nat):Int :=
 if act=1 then ck else if act=2 then 127 else if act=4 then 1 else if act=5 then 6 else if act=6 then 16 else if act=7 then 32 else if act=8 then (heldZ y:Nat) else (y:Int)
set_option maxHeartbeats 3200000 in
theorem kindsGiven_c (n:NN) (y:Nat) (w:World) (hy:y<128) (h0:0≤n.act) (h14:n.act≤14) :
  Calls Tryz.prog 120 #[.agg #[.string n.tx,.int .i64 n.act,.int .i64 n.x,.int .i64 n.y,.int .i64 n.w,.int .i64 n.ck,.int .i64 n.cn,.int .i64 n.ch,.int .i64 n.kd,.int .i64 n.yes,.int .i64 n.no],.int .i64 (y:Int)] w fun e w'=>e=.returned (.int .i64 (giZ n.act n.ck y))∧Kp no w w':=by
 have HK:=hide (fun W=>kindsHeld_c y W hy)
 obtain ⟨tx,act,nx,ny,nw,ck,cn,ch,kd,yes,no⟩:=n
 dsimp only at *
 rcases (show act=0∨act=1∨act=2∨act=3∨act=4∨act=5∨act=6∨act=7∨act=8∨act=9∨act=10∨act=11∨act=12∨act=13∨act=14 by omega) with rfl|rfl|rfl|rfl|rfl|rfl|rfl|rfl|rfl|rfl|rfl|rfl|rfl|rfl|rfl
 all_goals
  clear h0 h14
  go_enter Tryz.func120,Tryz.ntmps120
  go_wp2_with (go_at_call 153;refine (HK.out _).mono ?_;rintro e w' ⟨rfl,rfl⟩)
  go_ret
  exact ⟨rfl,by (exact kpA)⟩
end Go.Proofs.YtellieabhaphhabGreatDoor
