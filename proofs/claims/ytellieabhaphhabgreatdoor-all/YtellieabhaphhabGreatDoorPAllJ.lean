import Derived.Test.YtellieabhaphhabGreatDoorPAllI
namespace Go.Proofs.YtellieabhaphhabGreatDoor
open Go.RowKit
set_option maxHeartbeats 1600000 in
theorem nodesAhead_c {r:Nat} {s:ByteArray} {m:MS} {nv iv:Value} (p:Nat) (w:World) (h:Mo w r s m nv iv) (hl:m.row.length≤2000) :
  Calls Tryz.prog 127 #[.pointer (some ⟨r,0,none⟩),.int .i64 p] w fun e w'=>e=.returned (.int .i64 (ahdM m.row p))∧Kp no w w':=by
 have hr:=h.b.lt
 have q3:=h.b.cell 3
 simp only [List.getElem?_cons_zero,List.getElem?_cons_succ] at q3
 have qf:=h.b.frozen
 obtain ⟨a,cap,rfl⟩:=h.n.shape
 have HN:=hide h.n
 have HF:Hid (ahdM m.row p=ahdA m.row p m.row.length):=rfl
 clear h
 generalize m.row=row at *
 go_enter Tryz.func127,Tryz.ntmps127
 go_wp2
 go_loopg [5,13] row.length (fun k cv jv wr=>∃ j:Nat,j≤row.length∧k=row.length-j∧jv=.int .i64 j∧cv=.int .i64 (ahdA row p j)∧Kp no w wr)
 case atStart=>exact ⟨0,Nat.zero_le _,rfl,rfl,rfl,Kp.refl _ _⟩
 case round =>
  obtain ⟨j,hj,hk,rfl,rfl,kr⟩:=hrel
  have HK:=hide kr
  have HKK:=hide hk
  clear kr hk
  by_cases hlt:j<row.length
  ·obtain ⟨_,g,rfl,hg,q0,q1,q2,q3,q4,q5,q6,q7,q8,q9,q10⟩:=NRow.at (HK.out.row HN.out (fun _ _=>no_elim)) (List.getElem?_eq_getElem hlt)
   have HS:=hide (show ahdA row p (j+1)=ahdA row p j+(if j<p∧row[j].act≠15 then 1 else 0) by rw [ahdA,List.getElem?_eq_getElem hlt])
   have hc:=ahdA_le row p j
   clear HN HF
   generalize ahdA row p j=c at *
   generalize row[j]=n at *
   obtain ⟨tx,act,nx,ny,nw,ck,cn,ch,kd,yes,nno⟩:=n
   dsimp only at *
   have hqI:(j:Int)<row.length:=by omega
   by_cases b1:j<p
   ·have b1':(j:Int)<(p:Int):=by omega
    by_cases b2:act=15
    ·subst b2
     rw [if_neg (fun e=>e.2 rfl)] at HS
     clear b1
     go_wp2
     go_roundg (row.length-(j+1))
     case measure=>have:=HKK.out;omega
     case rel=>exact ⟨j+1,by omega,rfl,by go_num,by rw [HS.out];rfl,by have k1:=HK.out;(exact kpA)⟩
    ·have b2':((act:Int) != 15)=true:=by simp [b2]
     rw [if_pos ⟨b1,b2⟩] at HS
     clear b1 b2
     go_wp2
     go_roundg (row.length-(j+1))
     case measure=>have:=HKK.out;omega
     case rel=>exact ⟨j+1,by omega,rfl,by go_num,by rw [HS.out];go_num,by have k1:=HK.out;(exact kpA)⟩
   ·have b1':(p:Int)≤(j:Int):=by omega
    rw [if_neg (fun e=>b1 e.1)] at HS
    go_wp2
    go_roundg (row.length-(j+1))
    case measure=>have:=HKK.out;omega
    case rel=>exact ⟨j+1,by omega,rfl,by go_num,by rw [HS.out];rfl,by have k1:=HK.out;(exact kpA)⟩
  ·obtain rfl:j=row.length:=by omega
   go_wp2
   go_ret
   rw [HF.out]
   exact ⟨rfl,HK.out⟩
theorem hopM_none {m:MS} {f p:Nat} (h:¬ p<m.row.length):hopM m f p=p:=by
 cases f with
 | zero=>rfl
 | succ f=>rw [hopM,List.getElem?_eq_none (by omega)]
theorem hopM_node {m:MS} {f p:Nat} (h:p<m.row.length) (ha:m.row[p].act≠15):hopM m f p=p:=by
 cases f with
 | zero=>rfl
 | succ f=>rw [hopM,List.getElem?_eq_getElem h];simp [ha]
theorem hopM_jump {m:MS} {f p:Nat} (h:p<m.row.length) (ha:m.row[p].act=15):hopM m (f+1) p=hopM m f (plcM m m.row[p].yes):=by
 rw [hopM,List.getElem?_eq_getElem h];simp [ha]
set_option maxHeartbeats 1600000 in
theorem nodeBehind_c {r:Nat} {s:ByteArray} {m:MS} {nv iv:Value} (k0:Int) (w:World) (h:Mo w r s m nv iv) (hl:m.row.length≤2000) :
  Calls Tryz.prog 84 #[.pointer (some ⟨r,0,none⟩),.int .i64 k0] w fun e w'=>e=.returned (.int .i64 (nbhM m k0))∧Kp no w w':=by
 have HP:=hide (fun k W (hW:Mo W r s m nv iv)=>placeOf_c k W hW)
 have HA:=hide (fun p W (hW:Mo W r s m nv iv)=>nodesAhead_c p W hW hl)
 have HM:=hide h
 have HF:Hid (nbhM m k0=ahdM m.row (hopM m m.row.length (plcM m k0))):=rfl
 obtain ⟨a,cap,rfl⟩:=h.n.shape
 clear h
 go_enter Tryz.func84,Tryz.ntmps84
 go_wp2_with fail
 refine (HP.out k0 _ HM.out).mono ?_
 rintro e w1 ⟨rfl,k1⟩
 generalize plcM m k0=p0 at *
 go_wp2
 go_loopg [5,6] m.row.length (fun k pv hv wr=>∃ p j:Nat,j≤m.row.length∧k=m.row.length-j∧hv=.int .i64 j∧pv=.int .i64 p∧Kp no w wr∧hopM m m.row.length p0=hopM m (m.row.length-j) p)
 case atStart=>exact ⟨p0,0,Nat.zero_le _,rfl,rfl,rfl,k1,rfl⟩
 case round =>
  obtain ⟨p,j,hj,hk,rfl,rfl,kr,hE⟩:=hrel
  have HK:=hide kr
  have HKK:=hide hk
  have HE:=hide hE
  have HMr:=hide (HM.out.kp kr)
  have hr:=HMr.out.b.lt
  have q3:=HMr.out.b.cell 3
  simp only [List.getElem?_cons_zero,List.getElem?_cons_succ] at q3
  have qf:=HMr.out.b.frozen
  clear kr hk hE k1 HM
  by_cases hlt:j<m.row.length
  ·by_cases hp:p<m.row.length
   ·have hp':(p:Int)<m.row.length:=by omega
    obtain ⟨_,g,rfl,hg,c0,c1,c2,c3,c4,c5,c6,c7,c8,c9,c10⟩:=NRow.at HMr.out.n (List.getElem?_eq_getElem hp)
    have cf:=Row.frozen HMr.out.n
    have HNO:=hide (fun e:m.row[p].act≠15=>hopM_node (f:=m.row.length-j) hp e)
    have HJ:=hide (fun e:m.row[p].act=15=>show hopM m (m.row.length-j) p=hopM m (m.row.length-(j+1)) (plcM m m.row[p].yes) by
     rw [show m.row.length-j=m.row.length-(j+1)+1 by omega];exact hopM_jump hp e)
    generalize m.row[p]=n at *
    obtain ⟨tx,act,nx,ny,nw,ck,cn,ch,kd,yes,nno⟩:=n
    dsimp only at *
    by_cases b:act=15
    ·subst b
     have HJ':=hide (HJ.out rfl)
     clear HJ HNO
     go_wp2_with fail
     refine (HP.out yes _ (HMr.out.kp (by (exact kpA)))).mono ?_
     rintro e w2 ⟨rfl,k2⟩
     go_wp2
     go_roundg (m.row.length-(j+1))
     case measure=>have:=HKK.out;omega
     case rel=>exact ⟨plcM m yes,j+1,by omega,rfl,by go_num,rfl,by have k1:=HK.out;(exact kpA),by rw [HE.out,HJ'.out]⟩
    ·have b':((act:Int) != 15)=true:=by simp [b]
     have HN':=hide (HNO.out b)
     clear HJ HNO b
     go_wp2_with fail
     refine (HA.out p _ (HMr.out.kp (by (exact kpA)))).mono ?_
     rintro e w2 ⟨rfl,k2⟩
     go_wp2
     go_ret
     rw [HF.out,HE.out,HN'.out]
     exact ⟨rfl,by have k1:=HK.out;(exact kpA)⟩
   ·have HN':=hide (hopM_none (f:=m.row.length-j) hp)
    have hp':(m.row.length:Int)≤p:=by omega
    clear hp
    go_wp2_with fail
    refine (HA.out p _ (HMr.out.kp (by (exact kpA)))).mono ?_
    rintro e w2 ⟨rfl,k2⟩
    go_wp2
    go_ret
    rw [HF.out,HE.out,HN'.out]
    exact ⟨rfl,by have k1:=HK.out;(exact kpA)⟩
  ·obtain rfl:j=m.row.length:=by omega
   have HN':=hide (show hopM m (m.row.length-m.row.length) p=p by rw [Nat.sub_self];rfl)
   go_wp2_with fail
   refine (HA.out p _ (HMr.out.kp (by (exact kpA)))).mono ?_
   rintro e w2 ⟨rfl,k2⟩
   go_wp2
   go_ret
   rw [HF.out,HE.out,HN'.out]
   exact ⟨rfl,by have k1:=HK.out;(exact kpA)⟩
set_option maxRecDepth 100000 in
set_option maxHeartbeats 1600000 in
theorem mnodes_c {r:Nat} {s:ByteArray} {m:MS} {nv iv:Value} (w:World) (h:Mo w r s m nv iv) (hl:m.row.length≤2000) :
  Calls Tryz.prog 46 #[.pointer (some ⟨r,0,none⟩)] w fun e w'=>∃ u,e=.returned u∧NRow w' u (nodM m)∧New w u∧Kp no w w':=by
 obtain ⟨i0,hi0,hz0,hz1,hz2⟩:=info_parts info_nn
 have HB:=hide (fun k W (hW:Mo W r s m nv iv)=>nodeBehind_c k W hW hl)
 have HM:=hide h
 have hr:=h.b.lt
 have q3:=h.b.cell 3
 simp only [List.getElem?_cons_zero,List.getElem?_cons_succ] at q3
 have qf:=h.b.frozen
 obtain ⟨a,cap,rfl⟩:=h.n.shape
 have HF:Hid (nodM m=nodA m m.row.length):=rfl
 clear h
 go_enter Tryz.func46,Tryz.ntmps46
 go_wp2
 go_loopg [3,12] m.row.length (fun k lv jv wr=>∃ j:Nat,j≤m.row.length∧k=m.row.length-j∧jv=.int .i64 j∧KN w wr lv (nodA m j)∧Kp no w wr)
 case atStart =>
  refine ⟨0,Nat.zero_le _,rfl,rfl,⟨⟨rfl,.inr ⟨w.heap.size,0,#[],rfl,Nat.zero_le _,?_,Nat.le_refl _,Nat.zero_le _,rfl,rfl⟩⟩,fun b hb=>by simp [Value.ownBlock] at hb;omega⟩,by (exact kpA)⟩
  have hh:Blk (w.alloc (.cells #[] 68)) w.heap.size [] 68:=by (exact blA)
  exact hh
 case round =>
  obtain ⟨j,hj,hk,rfl,hKB,kr⟩:=hrel
  have HKK:=hide hk
  have HKB:=hide hKB
  have HKR:=hide kr
  obtain ⟨la,lc,rfl⟩:=hKB.r.shape
  clear hk hKB kr
  by_cases hlt:j<m.row.length
  ·have hqI:(j:Int)<m.row.length:=by omega
   have HPL:=hide (show nodA m (j+1)=nodA m j++(if m.row[j].act=15 then [] else [m.row[j].setW (nbhM m m.row[j].yes) (nbhM m m.row[j].no)]) by rw [nodA,List.getElem?_eq_getElem hlt])
   obtain ⟨_,gn,ha,hgn,n0,n1,n2,n3,n4,n5,n6,n7,n8,n9,n10⟩:=NRow.at (HKR.out.row HM.out.n (fun _ _=>no_elim)) (List.getElem?_eq_getElem hlt)
   subst ha
   have hpl:=nodA_le m j
   generalize nodA m j=P at *
   generalize m.row[j]=nd at *
   obtain ⟨tx,act,nx,ny,nw,ck,cn,ch,kd,yes,nno⟩:=nd
   dsimp only [NN.setW] at HPL n0 n1 n2 n3 n4 n5 n6 n7 n8 n9 n10
   have HLN:Hid (Value.ownBlock (.slice la P.length lc)≠some wr.heap.size):=fun e=>by have:=Row.lt HKB.out.r e;omega
   clear q3
   by_cases b:act=15
   ·subst b
    rw [if_pos rfl,List.append_nil] at HPL
    go_wp2
    go_roundg (m.row.length-(j+1))
    case measure=>have:=HKK.out;omega
    case rel=>exact ⟨j+1,by omega,rfl,by go_num,by rw [HPL.out];exact HKB.out.kp (by (exact kpA)),by have k1:=HKR.out;(exact kpA)⟩
   ·rw [if_neg b] at HPL
    have b':((act:Int) == 15)=false:=by simp [b]
    clear b
    go_wp2_with fail
    refine (HB.out yes _ (HM.out.kp (by have k1:=HKR.out;(exact kpA)))).mono ?_
    rintro e w5 ⟨rfl,k5⟩
    have hN5:Blk w5 wr.heap.size [.string tx,.int .i64 act,.int .i64 nx,.int .i64 ny,.int .i64 nw,.int .i64 ck,.int .i64 cn,.int .i64 ch,.int .i64 kd,.int .i64 yes,.int .i64 nno] 68:=k5.blk (by (exact blA)) no_elim
    have HK5:=hide (HKR.out.trans (S':=no) (Kp.trans (by (exact kpA)) k5 (fun _ _ e=>e)) (fun _ _ e=>e))
    have HL5:=hide (HKB.out.kp (Kp.trans (by (exact kpA)) k5 (fun _ _ e=>e)))
    have hsw:=HKR.out.size
    clear k5 n0 n1 n2 n3 n4 n5 n6 n7 n8 n9 n10
    obtain ⟨n0,n1,n2,n3,n4,n5,n6,n7,n8,n9,n10,nf⟩:=hN5.c11;have hnl:=hN5.lt
    generalize nbhM m yes=cy at *
    go_wp2_with fail
    have kk5:=HK5.out
    refine (HB.out nno _ (HM.out.kp (by (exact kpA)))).mono ?_
    rintro e w8 ⟨rfl,k8⟩
    have hN8:Blk w8 wr.heap.size [.string tx,.int .i64 act,.int .i64 nx,.int .i64 ny,.int .i64 nw,.int .i64 ck,.int .i64 cn,.int .i64 ch,.int .i64 kd,.int .i64 cy,.int .i64 nno] 68:=k8.blk (by (exact blA)) no_elim
    have HK8:=hide (show Kp no w w8 from Kp.trans (by (exact kpA)) k8 (fun _ _ e=>e))
    have HL8:Hid (KN w w8 (.slice la P.length lc) P):=KN.kp (by repeat' (first|with_reducible exact HL5.out|with_reducible refine KN.set ?_ _ HLN.out)) k8
    clear k8 hN5 HL5
    clear n0 n1 n2 n3 n4 n5 n6 n7 n8 n9 n10 nf hnl
    obtain ⟨n0,n1,n2,n3,n4,n5,n6,n7,n8,n9,n10,nf⟩:=hN8.c11;have hnl:=hN8.lt
    generalize nbhM m nno=cz at *
    have hone:∀ u∈([.string tx,.int .i64 act,.int .i64 nx,.int .i64 ny,.int .i64 nw,.int .i64 ck,.int .i64 cn,.int .i64 ch,.int .i64 kd,.int .i64 cy,.int .i64 cz]:List Value),u.oneCell'=true:=by simp [Value.oneCell']
    have HL9:=hide (HL8.out.set (o:=10) (.int .i64 (cz:Int)) HLN.out)
    go_wp2_with (at_builtin;refine wpList_append_lies _ rfl (.tmp 29) (.tmp 31) 43 rfl 0 68 i0 _ 11 96 Tryz.underlying43 hi0 hz0 hz1 hz2 rfl (by decide) (.slice la P.length lc) P.length (nnCells P) (by simp [Act.eval]) (by exact World.ownsRow.alloc HL9.out.r _) ⟨w8.heap.size,0,none⟩ 1 1 [.string tx,.int .i64 act,.int .i64 nx,.int .i64 ny,.int .i64 nw,.int .i64 ck,.int .i64 cn,.int .i64 ch,.int .i64 kd,.int .i64 cy,.int .i64 cz] (by simp [Act.eval]) rfl (by exact Blk.news (Blk.newAt _ [.string tx,.int .i64 act,.int .i64 nx,.int .i64 ny,.int .i64 nw,.int .i64 ck,.int .i64 cn,.int .i64 ch,.int .i64 kd,.int .i64 cy,.int .i64 cz] _ (by simp))) hone (by decide) (by unfold maxLen;omega) (by omega) (Nat.zero_le _) _ rfl ?_;intro g cap' w' hown hgrow hat hlt')
    go_roundg (m.row.length-(j+1))
    case measure=>have:=HKK.out;omega
    case rel =>
     have kk8:=HK8.out
     have hap:=KN.app ⟨tx,act,nx,ny,nw,ck,cn,ch,kd,cy,cz⟩ HL9.out (by (exact kpA)) hown hgrow hat
     exact ⟨j+1,by omega,rfl,by go_num,by rw [HPL.out];exact hap.1,hap.2⟩
  ·obtain rfl:j=m.row.length:=by omega
   go_wp2
   go_ret
   rw [HF.out]
   exact ⟨_,rfl,HKB.out.r,HKB.out.o,HKR.out⟩
end Go.Proofs.YtellieabhaphhabGreatDoor
namespace Go.Proofs.YtellieabhaphhabGreatDoor
open Go.RowKit
def SrcP (s:ByteArray) (w:World) (e:Ending) (w':World):Prop :=
 ∃ v,e=.returned (.tuple #[v,.int .i64 (srE s).1,.int .i64 (srE s).2])∧Kp no w w'∧((srE s).1=0→NRow w' v (nodM (srM s))∧New w v)
set_option maxHeartbeats 800000 in
theorem nos_long (s:ByteArray) (w:World) (hm:s.size≤maxLen) (hs:180<s.size) :
  Calls Tryz.prog 24 #[.string s] w fun e w'=>e=.returned (.tuple #[.slice none 0 0,.int .i64 1,.int .i64 0])∧Kp no w w':=by
 unfold maxLen at hm
 go_enter Tryz.func24,Tryz.ntmps24
 go_wp2
 go_ret3
 exact ⟨rfl,by (exact kpA)⟩
set_option maxHeartbeats 1600000 in
theorem nos_c (s:ByteArray) (w:World) (hs:s.size≤180) :
  Calls Tryz.prog 24 #[.string s] w fun e w'=>SrcP s w e w':=by
 have HS:=hide (fun W r O (hM:Mp W r s ms0 O)=>stm_all (s.size+1) r s (-1) (-1) ms0 hs (fun _=>by show s.size-0<_;omega) ⟨Nat.zero_le _,Nat.zero_le _,Nat.zero_le _⟩ W O hM)
 have HF:Hid (srM s=stmM (s.size+1) s (-1) (-1) ms0):=rfl
 have hI:=srM_mi s
 have n1:=hI.row;have n2:=hI.mm;have n3:=hI.i;have nb:=bc_le (srM s).p
 clear hI
 have HE:Hid (srE s=if (srM s).p.2=true∨(srM s).p.1≠s.size then (2,((srM s).p.1:Int)) else (0,0)):=rfl
 go_enter Tryz.func24,Tryz.ntmps24
 go_wp2_with fail
 have h0:Mp (w.alloc (.cells #[.string s,.int .i64 0,.bool false,.slice none 0 0,.slice none 0 0] 86)) w.heap.size s ms0 (Own w.heap.size (.slice none 0 0) (.slice none 0 0)) :=
  ⟨_,_,Blk.new w [.string s,.int .i64 0,.bool false,.slice none 0 0,.slice none 0 0] _,World.ownsRow_nil _ _ _ _,World.ownsRow_nil _ _ _ _,by simp [Value.ownBlock],by simp [Value.ownBlock],by simp [Value.ownBlock],rfl⟩
 refine (HS.out _ w.heap.size _ h0).mono ?_
 rw [← HF.out]
 rintro e w1 ⟨rfl,O1,h1,t1⟩
 generalize hst:srM s=m at h1 n1 n2 n3 nb HE
 have HST:=hide hst
 clear hst
 have hk:Kp no w w1:=((Kp.refl no w).alloc _).trans t1.1 (fun x hx e=>by
  rcases e with e|e|e
  ·omega
  ·simp [Value.ownBlock] at e
  ·simp [Value.ownBlock] at e)
 obtain ⟨c0,c1,c2,cf⟩:=h1.c
 have HMO:Hid (∃ nv iv,Mo w1 w.heap.size s m nv iv):=by
  obtain ⟨nv,iv,hB,hN,hI,d1,d2,d3,_⟩:=h1
  exact ⟨nv,iv,hB,hN,hI⟩
 have HK:=hide hk
 have hsz:=hk.size
 clear hk t1 h1 h0 HS HF
 cases hb:m.p.2
 ·rw [hb] at c2
  by_cases hi:m.p.1=s.size
  ·have e1:srE s=(0,0):=by rw [HE.out,if_neg (by rw [hb];simp [hi])]
   obtain ⟨nv,iv,hMo⟩:=HMO.out
   have HN:=hide (mnodes_c w1 hMo (by omega))
   have hi':((m.p.1:Int) != (s.size:Int))=false:=by simp [hi]
   have E1:=hide e1
   clear hMo e1 HE hb hi
   generalize m.p.1=pi at *
   go_wp2_with fail
   refine HN.out.mono ?_
   rintro e w2 ⟨u,rfl,hu,ho,k2⟩
   have HU:=hide hu
   have HO:=hide ho
   obtain ⟨ua,uc,rfl⟩:=hu.shape
   clear hu ho
   go_wp2
   go_ret3
   exact ⟨_,by rw [E1.out];rfl,HK.out.trans k2 (fun _ _ e=>e),fun _=>⟨by rw [HST.out];exact HU.out,fun b hb=>by have:=HO.out b hb;omega⟩⟩
  ·have e1:srE s=(2,(m.p.1:Int)):=by rw [HE.out,if_pos (.inr hi)]
   have hi':((m.p.1:Int) != (s.size:Int))=true:=by simp;omega
   have E1:=hide e1
   clear e1 HE hb hi HMO
   generalize m.p.1=pi at *
   go_wp2
   go_quiet (fail)
   go_wp2
   go_ret3
   exact ⟨_,by rw [E1.out];rfl,HK.out.drewN _,fun h=>absurd h (by rw [E1.out];show ¬ (2:Int)=0;decide)⟩
 ·rw [hb] at c2
  have e1:srE s=(2,(m.p.1:Int)):=by rw [HE.out,if_pos (.inl hb)]
  have E1:=hide e1
  clear e1 HE hb HMO
  generalize m.p.1=pi at *
  go_wp2
  go_quiet (fail)
  go_wp2
  go_ret3
  exact ⟨_,by rw [E1.out];rfl,HK.out.drewN _,fun h=>absurd h (by rw [E1.out];show ¬ (2:Int)=0;decide)⟩
end Go.Proofs.YtellieabhaphhabGreatDoor
namespace Go.Proofs.YtellieabhaphhabGreatDoor
open Go.RowKit
set_option maxHeartbeats 800000 in
theorem nwithin_c (inp:ByteArray) (fuel:Int) (w:World) (hm:inp.size≤maxLen) :
  Calls Tryz.prog 23 #[.string inp,.int .i64 fuel] w fun e w'=>e=.returned (.bool (decide (inp.size≤40∧0≤fuel∧fuel≤300)))∧w'=w:=by
 unfold maxLen at hm
 by_cases h1:inp.size≤40
 ·by_cases h2:0≤fuel
  ·by_cases h3:fuel≤300
   ·rw [decide_eq_true ⟨h1,h2,h3⟩]
    go_enter Tryz.func23,Tryz.ntmps23
    go_wp2
    go_ret
    exact ⟨rfl,rfl⟩
   ·rw [decide_eq_false (fun e=>h3 e.2.2)]
    have d3:decide (fuel≤300)=false:=by simp;omega
    clear h3
    go_enter Tryz.func23,Tryz.ntmps23
    go_wp2
    go_ret
    exact ⟨rfl,rfl⟩
  ·rw [decide_eq_false (fun e=>h2 e.2.1)]
   have d3:decide (0≤fuel)=false:=by simp;omega
   clear h2
   go_enter Tryz.func23,Tryz.ntmps23
   go_wp2
   go_ret
   exact ⟨rfl,rfl⟩
 ·rw [decide_eq_false (fun e=>h1 e.1)]
  have d3:decide ((inp.size:Int)≤40)=false:=by simp;omega
  go_enter Tryz.func23,Tryz.ntmps23
  go_wp2
  go_ret
  exact ⟨rfl,rfl⟩
def em3 (c:Int):Ending:=.returned (.tuple #[.string ByteArray.empty,.string ByteArray.empty,.int .i64 c])
set_option maxHeartbeats 1600000 in
theorem refwalk_long (s inp:ByteArray) (fuel:Int) (w:World) (hm:inp.size≤maxLen) (h:¬ (inp.size≤40∧0≤fuel∧fuel≤300)) :
  Calls Tryz.prog 30 #[.string s,.string inp,.int .i64 fuel] w fun e w'=>e=em3 1∧Kp no w w':=by
 have HG:=hide (given_c inp fuel w hm)
 rw [decide_eq_false h] at HG
 clear h
 go_enter Tryz.func30,Tryz.ntmps30
 go_wp2_with fail
 refine HG.out.mono ?_
 rintro e w1 ⟨rfl,rfl⟩
 go_wp2
 go_ret3
 exact ⟨rfl,Kp.refl _ _⟩
set_option maxHeartbeats 1600000 in
theorem refwalk_big (s inp:ByteArray) (fuel:Int) (w:World) (hm:inp.size≤maxLen) (hm2:s.size≤maxLen) (h:inp.size≤40∧0≤fuel∧fuel≤300) (hs:900<s.size) :
  Calls Tryz.prog 30 #[.string s,.string inp,.int .i64 fuel] w fun e w'=>e=em3 1∧Kp no w w':=by
 have HG:=hide (given_c inp fuel w hm)
 rw [decide_eq_true h] at HG
 have HS:=hide (lines_long s w hm2 hs)
 clear h
 go_enter Tryz.func30,Tryz.ntmps30
 go_wp2_with fail
 refine HG.out.mono ?_
 rintro e w1 ⟨rfl,rfl⟩
 go_wp2_with fail
 refine HS.out.mono ?_
 rintro e w1 ⟨⟨r,rfl⟩,k1⟩
 go_wp2
 go_ret3
 exact ⟨rfl,k1⟩
set_option maxHeartbeats 1600000 in
theorem refwalk_bad (s inp:ByteArray) (fuel:Int) (w:World) (hm:inp.size≤maxLen) (h:inp.size≤40∧0≤fuel∧fuel≤300) (hs:s.size≤900) (hb:(graE s).1≠0) :
  Calls Tryz.prog 30 #[.string s,.string inp,.int .i64 fuel] w fun e w'=>e=em3 (graE s).1∧Kp no w w':=by
 have HG:=hide (given_c inp fuel w hm)
 rw [decide_eq_true h] at HG
 have HS:=hide (lines_c s w hs)
 have hb':(((graE s).1:Int) == 0)=false:=by simp;omega
 unfold LinPost at HS
 generalize graE s=ge at *
 obtain ⟨ge1,ge2⟩:=ge
 dsimp only at *
 clear h hb
 go_enter Tryz.func30,Tryz.ntmps30
 go_wp2_with fail
 refine HG.out.mono ?_
 rintro e w1 ⟨rfl,rfl⟩
 go_wp2_with fail
 refine HS.out.mono ?_
 rintro e w1 ⟨r,O,rfl,hr,k1,hO⟩
 clear hr hO
 go_wp2
 go_ret3
 exact ⟨rfl,k1⟩
set_option maxHeartbeats 1600000 in
theorem nwalk_long (s inp:ByteArray) (fuel:Int) (w:World) (hm:inp.size≤maxLen) (h:¬ (inp.size≤40∧0≤fuel∧fuel≤300)) :
  Calls Tryz.prog 22 #[.string s,.string inp,.int .i64 fuel] w fun e w'=>e=em3 1∧Kp no w w':=by
 have HG:=hide (nwithin_c inp fuel w hm)
 rw [decide_eq_false h] at HG
 clear h
 go_enter Tryz.func22,Tryz.ntmps22
 go_wp2_with fail
 refine HG.out.mono ?_
 rintro e w1 ⟨rfl,rfl⟩
 go_wp2
 go_ret3
 exact ⟨rfl,Kp.refl _ _⟩
set_option maxHeartbeats 1600000 in
theorem nwalk_big (s inp:ByteArray) (fuel:Int) (w:World) (hm:inp.size≤maxLen) (hm2:s.size≤maxLen) (h:inp.size≤40∧0≤fuel∧fuel≤300) (hs:900<s.size) :
  Calls Tryz.prog 22 #[.string s,.string inp,.int .i64 fuel] w fun e w'=>e=em3 1∧Kp no w w':=by
 have HG:=hide (nwithin_c inp fuel w hm)
 rw [decide_eq_true h] at HG
 have HS:=hide (nog_long s w hm2 hs)
 clear h
 go_enter Tryz.func22,Tryz.ntmps22
 go_wp2_with fail
 refine HG.out.mono ?_
 rintro e w1 ⟨rfl,rfl⟩
 go_wp2_with fail
 refine HS.out.mono ?_
 rintro e w1 ⟨rfl,k1⟩
 go_wp2
 go_ret3
 exact ⟨rfl,k1⟩
set_option maxHeartbeats 1600000 in
theorem nwalk_bad (s inp:ByteArray) (fuel:Int) (w:World) (hm:inp.size≤maxLen) (h:inp.size≤40∧0≤fuel∧fuel≤300) (hs:s.size≤900) (hb:(graE s).1≠0) :
  Calls Tryz.prog 22 #[.string s,.string inp,.int .i64 fuel] w fun e w'=>e=em3 (graE s).1∧Kp no w w':=by
 have HG:=hide (nwithin_c inp fuel w hm)
 rw [decide_eq_true h] at HG
 have HS:=hide (nog_c s w hs)
 have hb':(((graE s).1:Int) == 0)=false:=by simp;omega
 unfold NogPost at HS
 generalize graE s=ge at *
 obtain ⟨ge1,ge2⟩:=ge
 dsimp only at *
 clear h hb
 go_enter Tryz.func22,Tryz.ntmps22
 go_wp2_with fail
 refine HG.out.mono ?_
 rintro e w1 ⟨rfl,rfl⟩
 go_wp2_with fail
 refine HS.out.mono ?_
 rintro e w1 ⟨v,rfl,k1,_⟩
 go_wp2
 go_ret3
 exact ⟨rfl,k1⟩
set_option maxRecDepth 100000 in
set_option maxHeartbeats 1600000 in
theorem nwalk_good (s inp:ByteArray) (fuel:Nat) (w:World) (hm:inp.size≤40) (h:fuel≤300) (hs:s.size≤900) (hb:(graE s).1=0) (ht:Tab w) (F:Nat) (mc':Mc) (hE:wkF F (graF s).nodes inp (mc0 fuel) 0=some mc') :
  Calls Tryz.prog 22 #[.string s,.string inp,.int .i64 fuel] w fun e w'=>e=.returned (.tuple #[.string mc'.tr,.string mc'.out,.int .i64 (endE mc'.e)])∧Kp no w w':=by
 have hm2:inp.size≤maxLen:=by unfold maxLen;omega
 have HG:=hide (nwithin_c inp fuel w hm2)
 rw [decide_eq_true (by omega)] at HG
 have HS:=hide (nog_c s w hs)
 have hlen:=(graF_inv s).2
 unfold NogPost at HS
 rw [hb] at HS
 have HE:=hide hE
 clear hb hE
 go_enter Tryz.func22,Tryz.ntmps22
 go_wp2_with fail
 refine HG.out.mono ?_
 rintro e w1 ⟨rfl,rfl⟩
 go_wp2_with fail
 refine HS.out.mono ?_
 rintro e w2 ⟨v,rfl,k2,hpost⟩
 obtain ⟨hR,hO,hgd⟩:=hpost trivial
 have HW:=hide (nwalk_c v _ _ inp fuel w2 hR (NEq.of hgd) (by omega) hm h (ht.kp k2 no_elim) F mc' HE.out)
 clear hO hgd hpost HE HS HG
 generalize (graF s).nodes.map (encX s)=L at *
 obtain ⟨a,cap,rfl⟩:=hR.shape
 clear hR hlen
 go_wp2_with fail
 refine HW.out.mono ?_
 rintro e w3 ⟨rfl,k3⟩
 go_wp2
 go_ret3
 exact ⟨rfl,k2.trans k3 (fun _ _ e=>e)⟩
theorem doF_six {inp:ByteArray} {n:Nd} {x:Nat} {xu yu vu:Vl} {m:Mc} (h:m.l.length=6):(doF inp n x xu yu vu m).l.length=6:=by
 unfold doF
 repeat' split
 all_goals first|exact h|(show ((worF inp n yu vu m).2.l.set x _).length=6;rw [List.length_set,(worF_l inp n yu vu m).1];exact h)
theorem wkF_total (nds:List Nd) (inp:ByteArray) (hl:nds.length≤90) (hg:∀ n∈nds,Gn n∧(n.op≠33→0≤n.t)∧(n.op=121∨n.op=58→0≤n.f)) :
  ∀ (c:Nat) (m:Mc) (a:Int),m.left=c→m.l.length=6→(m.e=8→0≤a)→∃ mc',wkF (c+3) nds inp m a=some mc':=by
 intro c
 induction c with
 | zero =>
  intro m a hc h6 ha
  by_cases hgo:a<nds.length∧m.e=8
  ·obtain ⟨at1,rfl⟩:=Int.eq_ofNat_of_zero_le (ha hgo.2)
   obtain ⟨nd,hnd⟩:∃ nd,nds[at1]?=some nd:=⟨_,List.getElem?_eq_getElem (by omega)⟩
   have g:=(hg nd (List.mem_of_getElem? hnd)).1
   obtain ⟨xu,hxu⟩:∃ u,m.l[nd.x.toNat]?=some u:=⟨_,List.getElem?_eq_getElem (by have:=g.x;omega)⟩
   obtain ⟨yu,hyu⟩:∃ u,m.l[nd.y.toNat]?=some u:=⟨_,List.getElem?_eq_getElem (by have:=g.y;omega)⟩
   obtain ⟨vu,hvu⟩:∃ u,m.l[nd.v.toNat]?=some u:=⟨_,List.getElem?_eq_getElem (by have:=g.v;omega)⟩
   have es:startF m at1=({ m with e:=4 },false):=by rw [startF,if_pos hc]
   refine ⟨{ m with e:=4 },?_⟩
   rw [wkF,if_pos hgo,if_pos ⟨by omega,by omega⟩,Int.toNat_natCast,hnd]
   simp only [hxu,hyu,hvu,es,Bool.false_eq_true,if_false]
   rw [wkF,if_neg (fun e=>by have:=e.2;simp at this)]
  ·exact ⟨m,by rw [wkF,if_neg hgo]⟩
 | succ c ih =>
  intro m a hc h6 ha
  by_cases hgo:a<nds.length∧m.e=8
  ·obtain ⟨at1,rfl⟩:=Int.eq_ofNat_of_zero_le (ha hgo.2)
   obtain ⟨nd,hnd⟩:∃ nd,nds[at1]?=some nd:=⟨_,List.getElem?_eq_getElem (by omega)⟩
   obtain ⟨g,gt,gf⟩:=hg nd (List.mem_of_getElem? hnd)
   obtain ⟨xu,hxu⟩:∃ u,m.l[nd.x.toNat]?=some u:=⟨_,List.getElem?_eq_getElem (by have:=g.x;omega)⟩
   obtain ⟨yu,hyu⟩:∃ u,m.l[nd.y.toNat]?=some u:=⟨_,List.getElem?_eq_getElem (by have:=g.y;omega)⟩
   obtain ⟨vu,hvu⟩:∃ u,m.l[nd.v.toNat]?=some u:=⟨_,List.getElem?_eq_getElem (by have:=g.v;omega)⟩
   have es:startF m at1=({ m with left:=m.left-1,tr:=m.tr++toldB at1 m.l++sp },true):=by rw [startF,if_neg (by omega)]
   rw [show c+1+3=(c+3)+1 from rfl,wkF,if_pos hgo,if_pos ⟨by omega,by omega⟩,Int.toNat_natCast,hnd]
   simp only [hxu,hyu,hvu,es,if_true]
   have hle:({ m with left:=m.left-1,tr:=m.tr++toldB at1 m.l++sp }:Mc).left=c:=by show m.left-1=c;omega
   have h60:({ m with left:=m.left-1,tr:=m.tr++toldB at1 m.l++sp }:Mc).l.length=6:=h6
   have he0:({ m with left:=m.left-1,tr:=m.tr++toldB at1 m.l++sp }:Mc).e=8:=hgo.2
   generalize ({ m with left:=m.left-1,tr:=m.tr++toldB at1 m.l++sp }:Mc)=m0 at *
   by_cases ht:nd.op=121∨nd.op=58
   ·rw [if_pos ht]
    refine ih m0 _ hle h60 (fun _=>?_)
    split
    ·exact gt (by omega)
    ·exact gf ht
   ·rw [if_neg ht]
    refine ih _ _ (by rw [doF_left];exact hle) (doF_six h60) (fun e8=>?_)
    rcases doF_e (inp:=inp) (n:=nd) (x:=nd.x.toNat) (xu:=xu) (yu:=yu) (vu:=vu) he0 with h|h|h|h
    ·exact gt h.2
    ·omega
    ·omega
    ·omega
  ·exact ⟨m,by rw [wkF,if_neg hgo]⟩
theorem graF_total (s inp:ByteArray) (fuel:Nat) (hg:∀ n∈(graF s).nodes,Gd s n):∃ F mc',wkF F (graF s).nodes inp (mc0 fuel) 0=some mc':=by
 obtain ⟨mc',h⟩:=wkF_total (graF s).nodes inp (graF_inv s).2 (fun n hn=>⟨(hg n hn).g,fun h=>((hg n hn).t h).1,fun h=>((hg n hn).f h).1⟩) fuel (mc0 fuel) 0 rfl rfl (fun _=>Int.le_refl _)
 exact ⟨_,mc',h⟩
end Go.Proofs.YtellieabhaphhabGreatDoor
namespace Go.Proofs.YtellieabhaphhabGreatDoor
open Go.RowKit
theorem sg_z:sgB 8=⟨#[122]⟩:=by decide
set_option maxRecDepth 100000 in
set_option maxHeartbeats 1600000 in
theorem start_c (w:World) :
  Calls Tryz.prog 106 #[] w fun e w'=>∃ u,e=.returned u∧SV w' u [8,8,8,8,8,8]∧New w u∧Kp no w w':=by
 obtain ⟨i0,hi,hz0,hz1,hz2⟩:=info_parts info_str
 have HX:=hide (show ∀ j,j<6→∃ l:List Value,(sgS [8,8,8,8,8,8]).take j=l∧(sgS [8,8,8,8,8,8]).take (j+1)=l++[.string ⟨#[122]⟩] from fun j hj=>⟨_,rfl,by
  rw [← sg_z]
  rcases (show j=0∨j=1∨j=2∨j=3∨j=4∨j=5 by omega) with rfl|rfl|rfl|rfl|rfl|rfl <;> rfl⟩)
 have HXL:=hide (show (sgS [8,8,8,8,8,8]).take 6=sgS [8,8,8,8,8,8] from rfl)
 generalize hR:sgS [8,8,8,8,8,8]=R at *
 have HRR:=hide hR
 clear hR
 go_enter Tryz.func106,Tryz.ntmps106
 go_wp2
 go_loopg [1,2] 6 (fun k tv iv wr=>∃ j:Nat,j≤6∧k=6-j∧iv=.int .i64 j∧Row wr tv 9 1 j (R.take j)∧New w tv∧Kp no w wr)
 case atStart=>exact ⟨0,Nat.zero_le _,rfl,rfl,⟨rfl,.inl ⟨rfl,rfl⟩⟩,New.none _,Kp.refl _ _⟩
 case round =>
  obtain ⟨j,hj,hk,rfl,hrow,hnew,kr⟩:=hrel
  have HKK:=hide hk
  have HR:=hide hrow
  have HN:=hide hnew
  have HK:=hide kr
  clear hk hrow hnew kr
  by_cases hlt:j<6
  ·obtain ⟨l,e1,e2⟩:=HX.out j hlt
   rw [e1] at HR
   have HE3:=hide e2
   clear e1 e2 HX
   have hone:∀ u∈[Value.string ⟨#[122]⟩],u.oneCell'=true:=by simp [Value.oneCell']
   go_wp2_with (at_builtin;refine wpList_append_lies _ rfl (.tmp 7) (.tmp 8) 122 rfl 0 9 i0 _ 1 16 Tryz.underlying122 hi hz0 hz1 hz2 rfl (by decide) _ j l (by simp [Act.eval];rfl) (by exact World.ownsRow.alloc HR.out _) ⟨wr.heap.size,0,none⟩ 1 1 [.string ⟨#[122]⟩] (by simp [Act.eval]) rfl (by exact Blk.news (Blk.new wr [.string ⟨#[122]⟩] _)) hone (by decide) (by unfold maxLen;omega) (by omega) (Nat.zero_le _) _ rfl ?_;intro g cap w' hown hgrow hat hlt)
   go_roundg (6-(j+1))
   case measure=>have:=HKK.out;omega
   case rel =>
    have ha:=app_step HN.out HK.out hgrow hat (j+1) cap
    exact ⟨j+1,by omega,rfl,by go_num,by rw [HE3.out];exact hown,ha.1,ha.2⟩
  ·obtain rfl:j=6:=by omega
   go_wp2
   go_ret
   refine ⟨_,rfl,?_,HN.out,HK.out⟩
   have:=HR.out
   rw [HXL.out] at this
   show Row _ _ _ _ 6 (sgS [8,8,8,8,8,8])
   rw [HRR.out]
   exact this
theorem zip_take (a b:St) (h:a.length=b.length) (j:Nat) (hj:j<a.length) :
  (sgS (List.zipWith (· ||| ·) a b)).take (j+1)=(sgS (List.zipWith (· ||| ·) a b)).take j++[.string (sgB (a.getD j 0 ||| b.getD j 0))] ∧
  decide ((List.zipWith (· ||| ·) a b).take (j+1)≠a.take (j+1))=(decide ((List.zipWith (· ||| ·) a b).take j≠a.take j) || decide (a.getD j 0 ||| b.getD j 0≠a.getD j 0)):=by
 have hb:j<b.length:=by omega
 have hz:j<(List.zipWith (· ||| ·) a b).length:=by rw [List.length_zipWith];omega
 constructor
 ·rw [List.take_succ_eq_append_getElem (by simpa [sgS] using hz)]
  simp [sgS,hj,hb]
 ·rw [List.take_succ_eq_append_getElem hz,List.take_succ_eq_append_getElem hj,List.getElem_zipWith]
  simp only [List.getD_eq_getElem?_getD,List.getElem?_eq_getElem hj,List.getElem?_eq_getElem hb,Option.getD_some]
  by_cases h1:(List.zipWith (· ||| ·) a b).take j=a.take j
  ·rw [h1]
   have e1:(List.take j a++[a[j] ||| b[j]]=List.take j a++[a[j]])↔a[j] ||| b[j]=a[j]:=⟨fun e=>by simpa using List.append_cancel_left e,fun e=>by rw [e]⟩
   have e2:decide (List.take j a≠List.take j a)=false:=by simp
   rw [e2,Bool.false_or,decide_eq_decide]
   exact not_congr e1
  ·have:¬ (List.take j (List.zipWith (· ||| ·) a b)++[a[j] ||| b[j]]=List.take j a++[a[j]]):=fun e=>h1 (List.append_inj_left e (by simp;omega))
   rw [decide_eq_true (by exact this),decide_eq_true (by exact h1),Bool.true_or]
theorem bytes_eqb (a b:ByteArray):(a.toList == b.toList)=decide (a=b):=by
 rw [ByteArray.toList_eq,ByteArray.toList_eq,Bool.eq_iff_iff,beq_iff_eq,decide_eq_true_iff]
 exact ⟨fun e=>ByteArray.ext (by simpa using e),fun e=>by rw [e]⟩
theorem bytes_ne (a b:ByteArray):(!(a.toList == b.toList))=decide (¬ a=b):=by rw [bytes_eqb,decide_not]
set_option maxRecDepth 100000 in
set_option maxHeartbeats 1600000 in
theorem join_c (va vb:Value) (a b:St) (w:World) (ha:SV w va a) (hb:SV w vb b) (oa:SOk a) (ob:SOk b) :
  Calls Tryz.prog 149 #[va,vb] w fun e w'=>∃ u,e=.returned (.tuple #[u,.bool (joinR a b).2])∧SV w' u (joinR a b).1∧(u=va∨u=vb∨New w u)∧Kp no w w':=by
 obtain ⟨i0,hi,hz0,hz1,hz2⟩:=info_parts info_str
 obtain ⟨aa,ca,rfl⟩:=ha.shape
 obtain ⟨ab,cb,rfl⟩:=hb.shape
 by_cases hb0:b=[]
 ·subst hb0
  have HE:=hide (show joinR a []=(a,false) from rfl)
  rw [HE.out]
  have HA:=hide ha
  clear ha
  go_enter Tryz.func149,Tryz.ntmps149
  go_wp2
  go_ret2
  exact ⟨_,rfl,HA.out,.inl rfl,Kp.refl _ _⟩
 have hb6:=(ob.resolve_left hb0).1
 by_cases ha0:a=[]
 ·subst ha0
  have HE:=hide (show joinR [] b=(b,true) by simp [joinR,hb0])
  rw [HE.out]
  have HB:=hide hb
  clear hb
  have hq:((b.length:Int) == 0)=false:=by rw [hb6];rfl
  clear hb6
  go_enter Tryz.func149,Tryz.ntmps149
  go_wp2
  go_ret2
  exact ⟨_,rfl,HB.out,.inr (.inl rfl),Kp.refl _ _⟩
 ·have ha6:=(oa.resolve_left ha0).1
  have HE:=hide (show joinR a b=(List.zipWith (· ||| ·) a b,decide (List.zipWith (· ||| ·) a b≠a)) by simp [joinR,hb0,ha0])
  rw [HE.out]
  have HZ:=hide (zip_take a b (by omega))
  have HL:=hide (show (List.zipWith (· ||| ·) a b).length=6 by rw [List.length_zipWith];omega)
  have HAL:=hide (show a.length=6 from ha6)
  generalize hZZ:List.zipWith (· ||| ·) a b=Z at *
  clear hZZ
  have ha':Row w (.slice aa a.length ca) 9 1 a.length (sgS a):=ha
  have hb':Row w (.slice ab b.length cb) 9 1 b.length (sgS b):=hb
  rw [ha6] at ha' ⊢
  rw [hb6] at hb' ⊢
  clear ha6 hb6 ha0 hb0 ha hb
  go_enter Tryz.func149,Tryz.ntmps149
  go_wp2
  go_loopg [6,7,8] 6 (fun k tv uv iv wr=>∃ j:Nat,j≤6∧k=6-j∧iv=.int .i64 j∧Row wr tv 9 1 j ((sgS Z).take j)∧uv=.bool (decide (Z.take j≠a.take j))∧New w tv∧Kp no w wr)
  case atStart=>exact ⟨0,Nat.zero_le _,rfl,rfl,⟨rfl,.inl ⟨rfl,rfl⟩⟩,rfl,New.none _,Kp.refl _ _⟩
  case round =>
   obtain ⟨j,hj,hk,rfl,hrow,rfl,hnew,kr⟩:=hrel
   have HKK:=hide hk
   have HR:=hide hrow
   have HN:=hide hnew
   have HK:=hide kr
   clear hk hrow hnew kr
   by_cases hlt:j<6
   ·obtain ⟨e1,e2⟩:=HZ.out j (by rw [HAL.out];exact hlt)
    obtain ⟨g1,rfl,hg1w,hc1w⟩:=SV.at ha' (k:=j) hlt
    obtain ⟨g2,rfl,hg2w,hc2w⟩:=SV.at hb' (k:=j) hlt
    have hc1:=(HK.out.cell hg1w no_elim j).trans hc1w
    have hc2:=(HK.out.cell hg2w no_elim j).trans hc2w
    have HC1:=hide hc1w
    have hg1:=Nat.lt_of_lt_of_le hg1w HK.out.size
    have hg2:=Nat.lt_of_lt_of_le hg2w HK.out.size
    clear hc1w hc2w
    have HEI:=hide (fun W=>either_c (sgB (a.getD j 0)) (sgB (b.getD j 0)) W (Nat.le_trans (sg_size _) (by decide)) (Nat.le_trans (sg_size _) (by decide)))
    rw [either_sg] at HEI
    have HE1:=hide e1
    have HE2:=hide e2
    clear e1 e2 HZ ha' hb'
    have hjI:(j:Int)<6:=by omega
    have HV:=hide (show (sgB (a.getD j 0 ||| b.getD j 0)=sgB (a.getD j 0))↔a.getD j 0 ||| b.getD j 0=a.getD j 0 from ⟨fun e=>sg_inj (or_lt (oa.get j) (ob.get j)) (oa.get j) e,fun e=>by rw [e]⟩)
    have hs1:=sg_size (a.getD j 0 ||| b.getD j 0)
    generalize sgB (a.getD j 0 ||| b.getD j 0)=zc at *
    generalize sgB (a.getD j 0)=za at *
    generalize sgB (b.getD j 0)=zb at *
    generalize hl:(sgS Z).take j=l at *
    generalize hq:decide (Z.take j≠a.take j)=q at *
    clear hl hq
    have hone:∀ u∈[Value.string zc],u.oneCell'=true:=by simp [Value.oneCell']
    cases q
    all_goals
     go_wp2
     go_quiet ((go_at_call 164;exact Calls.quiet_of_same (HEI.out _)))
     go_wp2_with (at_builtin;refine wpList_append_lies _ rfl (.tmp 33) (.tmp 35) 122 rfl 0 9 i0 _ 1 16 Tryz.underlying122 hi hz0 hz1 hz2 rfl (by decide) _ j l (by simp [Act.eval];rfl) (by exact World.ownsRow.alloc HR.out _) ⟨wr.heap.size,0,none⟩ 1 1 [.string zc] (by simp [Act.eval]) rfl (by exact Blk.news (Blk.new _ [.string zc] _)) hone (by decide) (by unfold maxLen;omega) (by omega) (Nat.zero_le _) _ rfl ?_;intro g cap w' hown hgrow hat hlt;have hap:=hide (app_step HN.out (HK.out.drewN _) hgrow hat (j+1) cap);have hc1':=(hap.out.2.cell hg1w no_elim j).trans HC1.out;have hg1':=Nat.lt_of_lt_of_le hg1w hap.out.2.size)
     go_roundg (6-(j+1))
     case measure=>have:=HKK.out;omega
     case rel =>
      refine ⟨j+1,by omega,rfl,by go_num,by rw [HE1.out];exact hown,?_,hap.out.1,hap.out.2⟩
      have h2:=HE2.out
      simp only [Bool.true_or,Bool.false_or] at h2
      rw [h2]
      all_goals rw [bytes_ne,decide_not,decide_not,decide_eq_decide.2 HV.out]
   ·obtain rfl:j=6:=by omega
    go_wp2
    go_ret2
    refine ⟨_,?_,?_,.inr (.inr HN.out),HK.out⟩
    ·rw [List.take_of_length_le (by rw [HL.out];exact Nat.le_refl _),List.take_of_length_le (by rw [HAL.out];exact Nat.le_refl _)]
     rfl
    ·have:=HR.out
     rw [List.take_of_length_le (by rw [sgS_len,HL.out];exact Nat.le_refl _)] at this
     show Row _ _ _ _ Z.length (sgS Z)
     rw [HL.out]
     exact this
end Go.Proofs.YtellieabhaphhabGreatDoor
namespace Go.Proofs.YtellieabhaphhabGreatDoor
open Go.RowKit
set_option maxHeartbeats 400000 in
theorem ftest_c (n:Nd) (w:World) :
  Calls Tryz.prog 65 #[.agg #[.int .u8 n.op,.int .i64 n.x,.int .i64 n.y,.int .i64 n.v,.int .u8 n.k,.int .i64 n.t,.int .i64 n.f,.int .i64 n.a,.int .i64 n.l]] w fun e w'=>e=.returned (.bool (decide (n.op=121∨n.op=58)))∧Kp no w w':=by
 generalize n.op=o
 by_cases h1:o=121
 ·subst h1
  go_enter Tryz.func65,Tryz.ntmps65
  go_wp2
  all_goals
   go_ret
   exact ⟨rfl,by (exact kpA)⟩
 by_cases h2:o=58
 ·subst h2
  go_enter Tryz.func65,Tryz.ntmps65
  go_wp2
  all_goals
   go_ret
   exact ⟨rfl,by (exact kpA)⟩
 ·have g1:(o == 121)=false:=by simp [h1]
  have g2:(o == 58)=false:=by simp [h2]
  rw [decide_eq_false (by simp [h1,h2])]
  go_enter Tryz.func65,Tryz.ntmps65
  go_wp2
  all_goals
   go_ret
   exact ⟨rfl,by (exact kpA)⟩
theorem sg_1:sgB 1=⟨#[110]⟩:=by decide
theorem sg_2:sgB 2=⟨#[116]⟩:=by decide
theorem sg_4:sgB 4=⟨#[102]⟩:=by decide
theorem sg_6:sgB 6=⟨#[116,102]⟩:=by decide
theorem sg_127:sgB 127=⟨#[110,116,102,122,65,66,67]⟩:=by decide
theorem sg_16:sgB 16=⟨#[65]⟩:=by decide
theorem sg_32:sgB 32=⟨#[66]⟩:=by decide
theorem sg_64:sgB 64=⟨#[67]⟩:=by decide
theorem sg_14:sgB 14=⟨#[116,102,122]⟩:=by decide
theorem sg_48:sgB 48=⟨#[65,66]⟩:=by decide
theorem tak_sg (op:Int):takF op=sgB (tkN op):=by
 unfold takF tkN
 repeat' split
 ·exact sg_1.symm
 ·exact sg_14.symm
 ·exact sg_48.symm
 ·exact sg_127.symm
theorem conv1' (W:World) (k:Int) (b:Nat) (hb:b=W.heap.size):(convert 167 9 (.slice (some ⟨b,0,none⟩) 1 1)).run Tryz.prog (W.alloc (.cells #[.int .u8 k] 5))=.ok (.string (strOfNums [k])) (W.alloc (.cells #[.int .u8 k] 5)):=by
 subst hb;exact conv1 W k
def opG (o:Int):Prop:=o=48∨o=84∨o=70∨o=90∨o=67∨o=63∨o=118∨o=43∨o=60∨o=65∨o=66∨o=46
set_option maxRecDepth 100000 in
set_option maxHeartbeats 3200000 in
theorem gives_c (n:Nd) (y:Nat) (w:World) (ho:opG n.op) :
  Calls Tryz.prog 111 #[.agg #[.int .u8 n.op,.int .i64 n.x,.int .i64 n.y,.int .i64 n.v,.int .u8 n.k,.int .i64 n.t,.int .i64 n.f,.int .i64 n.a,.int .i64 n.l],.string (sgB y)] w fun e w'=>e=.returned (.string (sgB (givN n.op y)))∧Kp no w w':=by
 have hA:=hide (am_sg y 65 (by decide))
 have hB:=hide (am_sg y 66 (by decide))
 have HI:=hide (fun c W=>fin_c c (sgB y) W (Nat.le_trans (sg_size _) (by decide)))
 have hsz:=sg_size y
 have hc:=conv1'
 generalize n.op=o at *
 unfold opG at ho
 rcases ho with rfl|rfl|rfl|rfl|rfl|rfl|rfl|rfl|rfl|rfl|rfl|rfl
 ·rw [show sgB (givN 48 y)=⟨#[110]⟩ from sg_1]
  generalize sgB y=z at *
  go_enter Tryz.func111,Tryz.ntmps111
  go_wp2
  go_ret
  exact ⟨rfl,by (exact kpA)⟩
 ·rw [show sgB (givN 84 y)=⟨#[116]⟩ from sg_2]
  generalize sgB y=z at *
  go_enter Tryz.func111,Tryz.ntmps111
  go_wp2
  go_ret
  exact ⟨rfl,by (exact kpA)⟩
 ·rw [show sgB (givN 70 y)=⟨#[102]⟩ from sg_4]
  generalize sgB y=z at *
  go_enter Tryz.func111,Tryz.ntmps111
  go_wp2
  go_ret
  exact ⟨rfl,by (exact kpA)⟩
 ·rw [show sgB (givN 90 y)=⟨#[122]⟩ from sg_z]
  generalize sgB y=z at *
  go_enter Tryz.func111,Tryz.ntmps111
  go_wp2
  go_ret
  exact ⟨rfl,by (exact kpA)⟩
 ·rw [show sgB (givN 67 y)=strOfNums [67] from sg_64.trans (by decide)]
  generalize sgB y=z at *
  go_enter Tryz.func111,Tryz.ntmps111
  go_wp2
  go_ret
  exact ⟨rfl,by (exact kpA)⟩
 ·rw [show sgB (givN 63 y)=⟨#[110,116,102,122,65,66,67]⟩ from sg_127]
  generalize sgB y=z at *
  go_enter Tryz.func111,Tryz.ntmps111
  go_wp2
  go_ret
  exact ⟨rfl,by (exact kpA)⟩
 ·rw [show sgB (givN 118 y)=sgB y from rfl]
  generalize sgB y=z at *
  go_enter Tryz.func111,Tryz.ntmps111
  go_wp2
  go_ret
  exact ⟨rfl,by (exact kpA)⟩
 ·rw [show sgB (givN 43 y)=⟨#[110]⟩ from sg_1]
  generalize sgB y=z at *
  go_enter Tryz.func111,Tryz.ntmps111
  go_wp2
  go_ret
  exact ⟨rfl,by (exact kpA)⟩
 ·rw [show sgB (givN 60 y)=⟨#[116,102]⟩ from sg_6]
  generalize sgB y=z at *
  go_enter Tryz.func111,Tryz.ntmps111
  go_wp2
  go_ret
  exact ⟨rfl,by (exact kpA)⟩
 ·rw [show sgB (givN 65 y)=strOfNums [65] from sg_16.trans (by decide)]
  generalize sgB y=z at *
  go_enter Tryz.func111,Tryz.ntmps111
  go_wp2
  go_ret
  exact ⟨rfl,by (exact kpA)⟩
 ·rw [show sgB (givN 66 y)=strOfNums [66] from sg_32.trans (by decide)]
  generalize sgB y=z at *
  go_enter Tryz.func111,Tryz.ntmps111
  go_wp2
  go_ret
  exact ⟨rfl,by (exact kpA)⟩
 ·have HG:=hide (show sgB (givN 46 y)=sgB ((if y.testBit 4 then 1 else 0) ||| (if y.testBit 5 then 14 else 0)) from rfl)
  rw [HG.out]
  have HA:Hid (amF 65 (sgB y).data.toList=y.testBit 4):=hA.out
  have HB:Hid (amF 66 (sgB y).data.toList=y.testBit 5):=hB.out
  have HIA:=hide (fun W=>HI.out 65 W)
  have HIB:=hide (fun W=>HI.out 66 W)
  rw [HA.out] at HIA
  rw [HB.out] at HIB
  clear hA hB HA HB HI HG
  generalize sgB y=z at *
  generalize y.testBit 4=p at *
  generalize y.testBit 5=q at *
  have HF:=hide (show sgB ((if p=true then 1 else 0) ||| (if q=true then 14 else 0))=(if p then ⟨#[110]⟩ else ⟨#[]⟩)++(if q then ⟨#[116,102,122]⟩ else ⟨#[]⟩) by cases p <;> cases q <;> decide)
  rw [HF.out]
  clear HF
  cases p <;> cases q
  all_goals
   simp only [if_true,Bool.false_eq_true,if_false]
   go_enter Tryz.func111,Tryz.ntmps111
   go_wp2_with (first|(go_at_call_of 0 (z);fail)|(go_at_call 103;first|(refine (HIA.out _).mono ?_;rintro e w' ⟨rfl,rfl⟩)|(refine (HIB.out _).mono ?_;rintro e w' ⟨rfl,rfl⟩)))
   go_ret
   exact ⟨rfl,by (exact kpA)⟩
end Go.Proofs.YtellieabhaphhabGreatDoor
namespace Go.Proofs.YtellieabhaphhabGreatDoor
open Go.RowKit
set_option maxRecDepth 100000 in
set_option maxHeartbeats 1600000 in
theorem behind_one (n:Nd) (v:Value) (s:St) (w:World) (h:SV w v s) (hs:SOk s) (h0:s≠[]) (hg:Gn n) (hG:opG n.op) (ho:¬ (n.op=43∨n.op=60)) :
  Calls Tryz.prog 68 #[.agg #[.int .u8 n.op,.int .i64 n.x,.int .i64 n.y,.int .i64 n.v,.int .u8 n.k,.int .i64 n.t,.int .i64 n.f,.int .i64 n.a,.int .i64 n.l],v] w fun e w'=>∃ u,e=.returned u∧SV w' u (behF n s)∧New w u∧Kp no w w':=by
 obtain ⟨x,hx⟩:=Int.eq_ofNat_of_zero_le hg.x.1
 obtain ⟨y,hy⟩:=Int.eq_ofNat_of_zero_le hg.y.1
 have hx6:x<6:=by have:=hg.x.2;omega
 have hy6:y<6:=by have:=hg.y.2;omega
 have hG0:=hG
 unfold opG at hG
 have HE:=hide (show behF n s=withS (withS s y (s.getD y 0&&&tkN n.op)) x (givN n.op (s.getD y 0&&&tkN n.op)) by
  rw [behF,if_neg (by omega),if_neg (by omega),if_neg (by omega),if_neg (fun e=>ho e.2),hx,hy];rfl)
 rw [HE.out]
 obtain ⟨h6,hm⟩:=hs.resolve_left h0
 have HS:=hide h
 obtain ⟨a,cap,rfl⟩:=h.shape
 have h':Row w (.slice a s.length cap) 9 1 s.length (sgS s):=h
 rw [h6] at h' HS ⊢
 clear h
 have HT:=hide (fun W=>takes_c n W)
 rw [tak_sg] at HT
 have HV:=hide (fun Y W=>gives_c n Y W hG0)
 obtain ⟨op,nx,ny,nv,nk,nt,nff,na,nl⟩:=n
 dsimp only at *
 subst hx hy
 obtain ⟨g,rfl,hgl,hgc⟩:=SV.at h' (k:=y) hy6
 have HB:=hide (fun W=>both_c (sgB (s.getD y 0)) (sgB (tkN op)) W (Nat.le_trans (sg_size _) (by decide)) (Nat.le_trans (sg_size _) (by decide)))
 rw [both_sg] at HB
 have HM:=hide (and_lt (tkN op) (hs.get y))
 have HGC:=hide hgc
 have g1:(op == 33)=false:=by simp;omega
 have g2:(op == 42)=false:=by simp;omega
 have g3:(op == 94)=false:=by simp;omega
 have g4:(op == 126)=false:=by simp;omega
 have g5:(op == 43)=false:=by simp;omega
 have g6:(op == 60)=false:=by simp;omega
 clear hG ho hG0 HE h6 hm
 generalize s.getD y 0&&&tkN op=m at *
 generalize tkN op=tk at *
 have hsz:=sg_size (s.getD y 0)
 generalize sgB (s.getD y 0)=sy at *
 go_enter Tryz.func68,Tryz.ntmps68
 go_wp2_with fail
 refine wp_gen (fun W=>Blk W w.heap.size [.int .u8 op,.int .i64 x,.int .i64 y,.int .i64 nv,.int .u8 nk,.int .i64 nt,.int .i64 nff,.int .i64 na,.int .i64 nl] 111∧Kp no w W) ⟨by (exact blA),by (exact kpA)⟩ ?_
 rintro W ⟨hN,hk⟩
 obtain ⟨n0,n1,n2,n3,n4,n5,n6,n7,n8,nf⟩:=hN.c9;have hnl:=hN.lt
 have nn:=hN.cell
 have hc1:=(hk.cell hgl no_elim y).trans HGC.out
 have hg1:=Nat.lt_of_lt_of_le hgl hk.size
 have hyI:(y:Int)<6:=by omega
 go_cut [6] from 10 (fun yv W5=>yv=.string (sgB m)∧Blk W5 w.heap.size [.int .u8 op,.int .i64 x,.int .i64 y,.int .i64 nv,.int .u8 nk,.int .i64 nt,.int .i64 nff,.int .i64 na,.int .i64 nl] 111∧Kp no w W5)
 case first =>
  go_region_with (first|(go_at_call 102;refine (HT.out _).mono ?_;rintro e w5 ⟨rfl,k5⟩;have hN5:=k5.blk (b:=w.heap.size) hN no_elim;obtain ⟨n0,n1,n2,n3,n4,n5,n6,n7,n8,nf⟩:=hN5.c9;have hnl:=hN5.lt;have hk5:Kp no w w5:=Kp.trans (by (exact kpA)) k5 (fun _ _ e=>e);have hc5:=(hk5.cell hgl no_elim y).trans HGC.out;have hg5:=Nat.lt_of_lt_of_le hgl hk5.size)|(go_at_call 109;refine (HB.out _).mono ?_;rintro e w' ⟨rfl,rfl⟩))
  all_goals
   go_wp2
   go_meet
   case rel=>exact ⟨rfl,hN5,by (exact kpA)⟩
 case rest =>
  obtain ⟨rfl,hN5,hk5⟩:=hcut
  obtain ⟨p0,p1,p2,p3,p4,p5,p6,p7,p8,pf⟩:=hN5.c9;have hpl:=hN5.lt
  clear n0 n1 n2 n3 n4 n5 n6 n7 n8 hnl hN hk nn hc1 hg1
  go_wp2_with fail
  refine (with_c _ s y m _ (Kp.row (S:=no) (by (exact kpA)) HS.out (fun _ _=>no_elim)) hs hy6 HM.out).mono ?_
  rintro e w6 ⟨u,rfl,hu,hnew,k6⟩
  have hN6:=k6.blk (b:=w.heap.size) hN5 no_elim
  have hk6:Kp no w w6:=Kp.trans (by (exact kpA)) k6 (fun _ _ e=>e)
  obtain ⟨m0,m1,m2,m3,m4,m5,m6,m7,m8,mf⟩:=hN6.c9;have hml:=hN6.lt
  have ok2:=hs.withS y m HM.out
  obtain ⟨au,cu,rfl⟩:=hu.shape
  have HU:=hide hu
  have OK2:=hide ok2
  clear hnew hu
  generalize ht0:withS s y m=t at *
  have HT0:=hide ht0
  clear ht0
  have ht06:t.length=0∨t.length=6:=by
   rcases ok2 with rfl|h
   ·exact .inl rfl
   ·exact .inr h.1
  rcases ht06 with ht|ht
  all_goals
   rw [ht] at HU ⊢
   clear ht ok2 p0 p1 p2 p3 p4 p5 p6 p7 p8 pf hpl
   go_wp2_with fail
   refine (HV.out m _).mono ?_
   rintro e w7 ⟨rfl,k7⟩
   have hk7:Kp no w w7:=Kp.trans (by (exact kpA)) k7 (fun _ _ e=>e)
   have hN7:=k7.blk (b:=w.heap.size) hN6 no_elim
   obtain ⟨q0,q1,q2,q3,q4,q5,q6,q7,q8,qf⟩:=hN7.c9;have hql:=hN7.lt
   go_wp2_with fail
   refine (with_c _ t x (givN op m) _ (Kp.row (S:=no) (by (exact kpA)) HU.out (fun _ _=>no_elim)) OK2.out hx6 (givN_lt op HM.out)).mono ?_
   rintro e w8 ⟨u2,rfl,hu2,hnew2,k8⟩
   go_wp2
   go_ret
   exact ⟨_,rfl,by rw [HT0.out];exact hu2,fun b hb=>Nat.le_trans hk7.size (hnew2 b hb),Kp.trans (by (exact kpA)) k8 (fun _ _ e=>e)⟩
end Go.Proofs.YtellieabhaphhabGreatDoor
namespace Go.Proofs.YtellieabhaphhabGreatDoor
open Go.RowKit
set_option maxRecDepth 100000 in
set_option maxHeartbeats 3200000 in
theorem behind_two (n:Nd) (v:Value) (s:St) (w:World) (h:SV w v s) (hs:SOk s) (h0:s≠[]) (hg:Gn n) (ho:n.op=43∨n.op=60) :
  Calls Tryz.prog 68 #[.agg #[.int .u8 n.op,.int .i64 n.x,.int .i64 n.y,.int .i64 n.v,.int .u8 n.k,.int .i64 n.t,.int .i64 n.f,.int .i64 n.a,.int .i64 n.l],v] w fun e w'=>∃ u,e=.returned u∧SV w' u (behF n s)∧New w u∧Kp no w w':=by
 obtain ⟨x,hx⟩:=Int.eq_ofNat_of_zero_le hg.x.1
 obtain ⟨y,hy⟩:=Int.eq_ofNat_of_zero_le hg.y.1
 have hx6:x<6:=by have:=hg.x.2;omega
 have hy6:y<6:=by have:=hg.y.2;omega
 obtain ⟨z,hz⟩:=Int.eq_ofNat_of_zero_le hg.v.1
 have hz6:z<6:=by have:=hg.v.2;omega
 have hG0:opG n.op:=by unfold opG;omega
 have HE0:=hide (show withS s y (s.getD y 0&&&tkN n.op)=[]→behF n s=[] from fun e=>by
  rw [behF,if_neg (by omega),if_neg (by omega),if_neg (by omega),hy,Int.toNat_natCast,e,if_neg (by simp)];simp [withS])
 have HE1:=hide (show withS s y (s.getD y 0&&&tkN n.op)≠[]→behF n s=withS (withS (withS s y (s.getD y 0&&&tkN n.op)) z ((withS s y (s.getD y 0&&&tkN n.op)).getD z 0&&&tkN n.op)) x (givN n.op (s.getD y 0&&&tkN n.op)) from fun e=>by
  rw [behF,if_neg (by omega),if_neg (by omega),if_neg (by omega),hx,hy,hz,Int.toNat_natCast,Int.toNat_natCast,Int.toNat_natCast,if_pos ⟨e,ho⟩])
 generalize behF n s=B at *
 obtain ⟨h6,hm⟩:=hs.resolve_left h0
 have HS:=hide h
 obtain ⟨a,cap,rfl⟩:=h.shape
 have h':Row w (.slice a s.length cap) 9 1 s.length (sgS s):=h
 rw [h6] at h' HS ⊢
 clear h
 have HT:=hide (fun W=>takes_c n W)
 rw [tak_sg] at HT
 have HV:=hide (fun Y W=>gives_c n Y W hG0)
 obtain ⟨op,nx,ny,nv,nk,nt,nff,na,nl⟩:=n
 dsimp only at *
 subst hx hy hz
 obtain ⟨g,rfl,hgl,hgc⟩:=SV.at h' (k:=y) hy6
 have HB:=hide (fun W=>both_c (sgB (s.getD y 0)) (sgB (tkN op)) W (Nat.le_trans (sg_size _) (by decide)) (Nat.le_trans (sg_size _) (by decide)))
 rw [both_sg] at HB
 have HM:=hide (and_lt (tkN op) (hs.get y))
 have HGC:=hide hgc
 have g1:(op == 33)=false:=by simp;omega
 have g2:(op == 42)=false:=by simp;omega
 have g3:(op == 94)=false:=by simp;omega
 have g4:(op == 126)=false:=by simp;omega
 clear hG0 h6 hm
 generalize s.getD y 0&&&tkN op=m at *
 have HTK:=hide (fun a W=>both_c (sgB a) (sgB (tkN op)) W (Nat.le_trans (sg_size _) (by decide)) (Nat.le_trans (sg_size _) (by decide)))
 generalize tkN op=tk at *
 have hsz:=sg_size (s.getD y 0)
 generalize sgB (s.getD y 0)=sy at *
 have hgg:((op == 43)=true)∨((op == 43)=false∧(op == 60)=true):=by
  rcases ho with rfl|rfl
  ·exact .inl rfl
  ·exact .inr ⟨rfl,rfl⟩
 clear ho
 rcases hgg with g5|⟨g5,g6⟩
 all_goals
  go_enter Tryz.func68,Tryz.ntmps68
  go_wp2_with fail
  refine wp_gen (fun W=>Blk W w.heap.size [.int .u8 op,.int .i64 x,.int .i64 y,.int .i64 z,.int .u8 nk,.int .i64 nt,.int .i64 nff,.int .i64 na,.int .i64 nl] 111∧Kp no w W) ⟨by (exact blA),by (exact kpA)⟩ ?_
  rintro W ⟨hN,hk⟩
  obtain ⟨n0,n1,n2,n3,n4,n5,n6,n7,n8,nf⟩:=hN.c9;have hnl:=hN.lt
  have nn:=hN.cell
  have hc1:=(hk.cell hgl no_elim y).trans HGC.out
  have hg1:=Nat.lt_of_lt_of_le hgl hk.size
  have hyI:(y:Int)<6:=by omega
  go_cut [6] from 10 (fun yv W5=>yv=.string (sgB m)∧Blk W5 w.heap.size [.int .u8 op,.int .i64 x,.int .i64 y,.int .i64 z,.int .u8 nk,.int .i64 nt,.int .i64 nff,.int .i64 na,.int .i64 nl] 111∧Kp no w W5)
  case first =>
   go_region_with (first|(go_at_call 102;refine (HT.out _).mono ?_;rintro e w5 ⟨rfl,k5⟩;have hN5:=k5.blk (b:=w.heap.size) hN no_elim;obtain ⟨n0,n1,n2,n3,n4,n5,n6,n7,n8,nf⟩:=hN5.c9;have hnl:=hN5.lt;have hk5:Kp no w w5:=Kp.trans (by (exact kpA)) k5 (fun _ _ e=>e);have hc5:=(hk5.cell hgl no_elim y).trans HGC.out;have hg5:=Nat.lt_of_lt_of_le hgl hk5.size)|(go_at_call 109;refine (HB.out _).mono ?_;rintro e w' ⟨rfl,rfl⟩))
   all_goals
    go_wp2
    go_meet
    case rel=>exact ⟨rfl,hN5,by (exact kpA)⟩
  case rest =>
   obtain ⟨rfl,hN5,hk5⟩:=hcut
   obtain ⟨p0,p1,p2,p3,p4,p5,p6,p7,p8,pf⟩:=hN5.c9;have hpl:=hN5.lt
   clear n0 n1 n2 n3 n4 n5 n6 n7 n8 hnl hN hk nn hc1 hg1
   go_wp2_with fail
   refine (with_c _ s y m _ (Kp.row (S:=no) (by (exact kpA)) HS.out (fun _ _=>no_elim)) hs hy6 HM.out).mono ?_
   rintro e w6 ⟨u,rfl,hu,hnew,k6⟩
   have hN6:=k6.blk (b:=w.heap.size) hN5 no_elim
   have hk6:Kp no w w6:=Kp.trans (by (exact kpA)) k6 (fun _ _ e=>e)
   obtain ⟨m0,m1,m2,m3,m4,m5,m6,m7,m8,mf⟩:=hN6.c9;have hml:=hN6.lt
   have ok2:=hs.withS y m HM.out
   obtain ⟨au,cu,rfl⟩:=hu.shape
   have HU:=hide hu
   have OK2:=hide ok2
   clear hnew hu
   generalize ht0:withS s y m=t at *
   have HT0:=hide ht0
   clear ht0
   have ht06:t.length=0∨t.length=6:=by
    rcases ok2 with rfl|h
    ·exact .inl rfl
    ·exact .inr h.1
   rcases ht06 with ht|ht
   ·have ht':t=[]:=List.length_eq_zero_iff.1 ht
    have HE2:=hide (HE0.out ht')
    rw [ht] at HU ⊢
    clear ht ok2 p0 p1 p2 p3 p4 p5 p6 p7 p8 pf hpl
    go_wp2_with fail
    refine (HV.out m _).mono ?_
    rintro e w7 ⟨rfl,k7⟩
    have hk7:Kp no w w7:=Kp.trans (by (exact kpA)) k7 (fun _ _ e=>e)
    have hN7:=k7.blk (b:=w.heap.size) hN6 no_elim
    obtain ⟨q0,q1,q2,q3,q4,q5,q6,q7,q8,qf⟩:=hN7.c9;have hql:=hN7.lt
    go_wp2_with fail
    refine (with_c _ t x (givN _ m) _ (Kp.row (S:=no) (by (exact kpA)) HU.out (fun _ _=>no_elim)) OK2.out hx6 (givN_lt _ HM.out)).mono ?_
    rintro e w8 ⟨u2,rfl,hu2,hnew2,k8⟩
    have hu3:SV w8 u2 []:=by rw [ht'] at hu2;exact hu2
    go_wp2
    go_ret
    exact ⟨_,rfl,by rw [HE2.out];exact hu3,fun b hb=>Nat.le_trans hk7.size (hnew2 b hb),Kp.trans (by (exact kpA)) k8 (fun _ _ e=>e)⟩
   ·have htne:t≠[]:=fun e=>by rw [e] at ht;cases ht
    have HE2:=hide (HE1.out htne)
    have HUR:Hid (Row w6 (.slice au t.length cu) 9 1 t.length (sgS t)):=HU.out
    rw [ht] at HU HUR ⊢
    obtain ⟨gt,rfl,hgt,hgtc⟩:=SV.at HUR.out (k:=z) hz6
    have HC2:=hide hgtc
    have HK6:=hide hk6
    have HM2:=hide (and_lt tk (OK2.out.get z))
    clear ht ok2 p0 p1 p2 p3 p4 p5 p6 p7 p8 pf hpl htne
    generalize hm2:t.getD z 0&&&tk=m2' at *
    have HM3:=hide hm2
    clear hm2
    have hzI:(z:Int)<6:=by omega
    have hst:=sg_size (t.getD z 0)
    have HTB:Hid (∀ W,Calls Tryz.prog 109 #[.string (sgB (t.getD z 0)),.string (sgB tk)] W fun e w'=>e=.returned (.string (sgB m2'))∧w'=W):=fun W=>by
     have:=HTK.out (t.getD z 0) W
     rw [both_sg,HM3.out] at this
     exact this
    generalize sgB (t.getD z 0)=sz at *
    go_upto_region 13 with fail
    clear m0 m1 m2 m3 m4 m5 m6 m7 m8 mf hml
    refine wp_gen (fun W=>Blk W w.heap.size [.int .u8 op,.int .i64 x,.int .i64 y,.int .i64 z,.int .u8 nk,.int .i64 nt,.int .i64 nff,.int .i64 na,.int .i64 nl] 111∧Kp no w6 W) ⟨hN6,by (exact kpA)⟩ ?_
    rintro W6 ⟨hN6,hkw⟩
    have hk6':Kp no w W6:=hk6.trans hkw (fun _ _ e=>e)
    clear hk6
    have hk6:=hk6'
    clear hk6'
    obtain ⟨m0,m1,m2,m3,m4,m5,m6,m7,m8,mf⟩:=hN6.c9;have hml:=hN6.lt
    have hc6:=(hkw.cell hgt no_elim z).trans HC2.out
    have hg6:=Nat.lt_of_lt_of_le hgt hkw.size
    go_cut [8] from 10 (fun vv W5=>vv=.string (sgB m2')∧Blk W5 w.heap.size [.int .u8 op,.int .i64 x,.int .i64 y,.int .i64 z,.int .u8 nk,.int .i64 nt,.int .i64 nff,.int .i64 na,.int .i64 nl] 111∧Kp no w6 W5)
    case first =>
     go_region_with (first|(go_at_call 102;refine (HT.out _).mono ?_;rintro e w5 ⟨rfl,k5⟩;have hN5:=k5.blk (b:=w.heap.size) hN6 no_elim;obtain ⟨n0,n1,n2,n3,n4,n5,n6,n7,n8,nf⟩:=hN5.c9;have hnl:=hN5.lt;have hk5:Kp no w6 w5:=Kp.trans (by (exact kpA)) k5 (fun _ _ e=>e);have hc5:=(hk5.cell hgt no_elim z).trans HC2.out;have hg5:=Nat.lt_of_lt_of_le hgt hk5.size)|(go_at_call 109;refine (HTB.out _).mono ?_;rintro e w' ⟨rfl,rfl⟩))
     all_goals
      go_wp2
      go_meet
      case rel=>exact ⟨rfl,hN5,by (exact kpA)⟩
    case rest =>
     obtain ⟨rfl,hN8,hk8⟩:=hcut
     clear m0 m1 m2 m3 m4 m5 m6 m7 m8 mf hml hN6 hk6 hkw hc6 hg6 hgtc
     obtain ⟨p0,p1,p2,p3,p4,p5,p6,p7,p8,pf⟩:=hN8.c9;have hpl:=hN8.lt
     go_wp2_with fail
     refine (with_c _ t z m2' _ (Kp.row (S:=no) (by (exact kpA)) HU.out (fun _ _=>no_elim)) OK2.out hz6 HM2.out).mono ?_
     rintro e w9 ⟨u3,rfl,hu3,_,k9⟩
     have hk9:Kp no w6 w9:=Kp.trans (by (exact kpA)) k9 (fun _ _ e=>e)
     have hN9:=k9.blk (b:=w.heap.size) hN8 no_elim
     obtain ⟨m0,m1,m2,m3,m4,m5,m6,m7,m8,mf⟩:=hN9.c9;have hml:=hN9.lt
     clear p0 p1 p2 p3 p4 p5 p6 p7 p8 pf hpl
     have HU3:=hide hu3
     have OK3:=hide (OK2.out.withS z m2' HM2.out)
     clear hu3
     generalize ht3:withS t z m2'=t3 at *
     clear ht3
     go_wp2_with fail
     refine (HV.out m _).mono ?_
     rintro e w10 ⟨rfl,k10⟩
     have hk10:Kp no w6 w10:=Kp.trans (by (exact kpA)) k10 (fun _ _ e=>e)
     have hN10:=k10.blk (b:=w.heap.size) hN9 no_elim
     obtain ⟨q0,q1,q2,q3,q4,q5,q6,q7,q8,qf⟩:=hN10.c9;have hql:=hN10.lt
     go_wp2_with fail
     refine (with_c _ t3 x (givN _ m) _ (Kp.row (S:=no) (by (exact kpA)) HU3.out (fun _ _=>no_elim)) OK3.out hx6 (givN_lt _ HM.out)).mono ?_
     rintro e w11 ⟨u2,rfl,hu2,hnew2,k11⟩
     have hkf:Kp no w6 w11:=Kp.trans (by (exact kpA)) k11 (fun _ _ e=>e)
     go_wp2
     go_ret
     exact ⟨_,rfl,by rw [HE2.out];exact hu2,fun b hb=>Nat.le_trans (Nat.le_trans HK6.out.size hk10.size) (hnew2 b hb),by (exact kpA)⟩
end Go.Proofs.YtellieabhaphhabGreatDoor
namespace Go.Proofs.YtellieabhaphhabGreatDoor
open Go.RowKit
set_option maxRecDepth 100000 in
set_option maxHeartbeats 1600000 in
theorem behind_never (n:Nd) (v:Value) (s:St) (w:World) (ho:n.op=33) :
  Calls Tryz.prog 68 #[.agg #[.int .u8 n.op,.int .i64 n.x,.int .i64 n.y,.int .i64 n.v,.int .u8 n.k,.int .i64 n.t,.int .i64 n.f,.int .i64 n.a,.int .i64 n.l],v] w fun e w'=>∃ u,e=.returned u∧SV w' u (behF n s)∧(u=v∨New w u)∧Kp no w w':=by
 have HE:=hide (show behF n s=[] by rw [behF,if_pos ho])
 rw [HE.out,ho]
 go_enter Tryz.func68,Tryz.ntmps68
 go_wp2
 go_ret
 exact ⟨_,rfl,SV.nil _,.inr (New.none _),by (exact kpA)⟩
set_option maxRecDepth 100000 in
set_option maxHeartbeats 1600000 in
theorem behind_same (n:Nd) (v:Value) (s:St) (w:World) (h:SV w v s) (ho:n.op=42∨n.op=94) :
  Calls Tryz.prog 68 #[.agg #[.int .u8 n.op,.int .i64 n.x,.int .i64 n.y,.int .i64 n.v,.int .u8 n.k,.int .i64 n.t,.int .i64 n.f,.int .i64 n.a,.int .i64 n.l],v] w fun e w'=>∃ u,e=.returned u∧SV w' u (behF n s)∧(u=v∨New w u)∧Kp no w w':=by
 have HE:=hide (show behF n s=s by rw [behF,if_neg (by omega),if_pos ho])
 rw [HE.out]
 have HS:=hide h
 clear h
 rcases ho with ho|ho
 all_goals
  rw [ho]
  clear ho
  go_enter Tryz.func68,Tryz.ntmps68
  go_wp2
  go_ret
  exact ⟨_,rfl,Kp.row (S:=no) (by (exact kpA)) HS.out (fun _ _=>no_elim),.inl rfl,by (exact kpA)⟩
theorem conv1d (W:World) (k:Int) (b:Nat) (hb:b=W.heap.size):(convert 167 9 (.slice (some ⟨b,0,none⟩) 1 1)).run Tryz.prog (W.alloc (.cells #[.int .u8 k] 5)).drew=.ok (.string (strOfNums [k])) (W.alloc (.cells #[.int .u8 k] 5)).drew:=by
 subst hb
 exact conv1 W.drew k
theorem str_sg (k:Int) (h:KOk k):strOfNums [k]=sgB (bitN k):=by
 unfold KOk at h
 rcases h with rfl|rfl|rfl|rfl|rfl|rfl|rfl <;> decide
set_option maxRecDepth 100000 in
set_option maxHeartbeats 1600000 in
theorem behind_cast (n:Nd) (v:Value) (s:St) (w:World) (h:SV w v s) (hs:SOk s) (h0:s≠[]) (hg:Gn n) (ho:n.op=126) :
  Calls Tryz.prog 68 #[.agg #[.int .u8 n.op,.int .i64 n.x,.int .i64 n.y,.int .i64 n.v,.int .u8 n.k,.int .i64 n.t,.int .i64 n.f,.int .i64 n.a,.int .i64 n.l],v] w fun e w'=>∃ u,e=.returned u∧SV w' u (behF n s)∧New w u∧Kp no w w':=by
 obtain ⟨x,hx⟩:=Int.eq_ofNat_of_zero_le hg.x.1
 have hx6:x<6:=by have:=hg.x.2;omega
 have HK:=hide (str_sg n.k (hg.kd (.inr ho)))
 have HE:=hide (show behF n s=withS s x (s.getD x 0&&&bitN n.k) by
  rw [behF,if_neg (by omega),if_neg (by omega),if_pos ho,hx,Int.toNat_natCast])
 rw [HE.out]
 obtain ⟨h6,hm⟩:=hs.resolve_left h0
 have HS:=hide h
 obtain ⟨a,cap,rfl⟩:=h.shape
 have h':Row w (.slice a s.length cap) 9 1 s.length (sgS s):=h
 rw [h6] at h' HS ⊢
 clear h
 obtain ⟨op,nx,ny,nv,nk,nt,nff,na,nl⟩:=n
 dsimp only at *
 subst hx ho
 obtain ⟨g,rfl,hgl,hgc⟩:=SV.at h' (k:=x) hx6
 have HB:=hide (fun W=>both_c (sgB (s.getD x 0)) (sgB (bitN nk)) W (Nat.le_trans (sg_size _) (by decide)) (Nat.le_trans (sg_size _) (by decide)))
 rw [both_sg] at HB
 have HM:=hide (and_lt (bitN nk) (hs.get x))
 have HGC:=hide hgc
 rw [← HK.out] at HB
 clear HE h6 hm HK
 generalize s.getD x 0&&&bitN nk=m at *
 have hsz:=sg_size (s.getD x 0)
 generalize sgB (s.getD x 0)=sx at *
 have hc:=conv1'
 have hcd:=conv1d
 go_enter Tryz.func68,Tryz.ntmps68
 go_wp2_with fail
 refine wp_gen (fun W=>Blk W w.heap.size [.int .u8 126,.int .i64 x,.int .i64 ny,.int .i64 nv,.int .u8 nk,.int .i64 nt,.int .i64 nff,.int .i64 na,.int .i64 nl] 111∧Kp no w W) ⟨by (exact blA),by (exact kpA)⟩ ?_
 rintro W ⟨hN,hk⟩
 obtain ⟨n0,n1,n2,n3,n4,n5,n6,n7,n8,nf⟩:=hN.c9;have hnl:=hN.lt
 have hc1:=(hk.cell hgl no_elim x).trans HGC.out
 have hg1:=Nat.lt_of_lt_of_le hgl hk.size
 have hxI:(x:Int)<6:=by omega
 go_cut [5] from 10 (fun yv W5=>yv=.string (sgB m)∧Blk W5 w.heap.size [.int .u8 126,.int .i64 x,.int .i64 ny,.int .i64 nv,.int .u8 nk,.int .i64 nt,.int .i64 nff,.int .i64 na,.int .i64 nl] 111∧Kp no w W5)
 case first =>
  go_region_with (go_at_call 109;refine (HB.out _).mono ?_;rintro e w' ⟨rfl,rfl⟩)
  all_goals
   go_wp2
   go_meet
   case rel=>exact ⟨rfl,by (exact blA),by (exact kpA)⟩
 case rest =>
  obtain ⟨rfl,hN5,hk5⟩:=hcut
  clear n0 n1 n2 n3 n4 n5 n6 n7 n8 hnl hN hk hc1 hg1
  obtain ⟨p0,p1,p2,p3,p4,p5,p6,p7,p8,pf⟩:=hN5.c9;have hpl:=hN5.lt
  go_wp2_with fail
  refine (with_c _ s x m _ (Kp.row (S:=no) (by (exact kpA)) HS.out (fun _ _=>no_elim)) hs hx6 HM.out).mono ?_
  rintro e w6 ⟨u,rfl,hu,hnew,k6⟩
  go_wp2
  go_ret
  exact ⟨_,rfl,hu,fun b hb=>Nat.le_trans hk5.size (hnew b hb),Kp.trans (by (exact kpA)) k6 (fun _ _ e=>e)⟩
theorem not_sg (k:Int) (h:KOk k):selB (fun c=>!decide ((c:Int)=k))=sgB (127 ^^^ bitN k):=by
 unfold KOk at h
 rcases h with rfl|rfl|rfl|rfl|rfl|rfl|rfl <;> decide
theorem sg_115:sgB 115=⟨#[110,116,65,66,67]⟩:=by decide
theorem sg_13:sgB 13=⟨#[110,102,122]⟩:=by decide
end Go.Proofs.YtellieabhaphhabGreatDoor
namespace Go.Proofs.YtellieabhaphhabGreatDoor
open Go.RowKit
set_option maxRecDepth 100000 in
set_option maxHeartbeats 1600000 in
theorem holds_t1 (n:Nd) (v:Value) (s:St) (w:World) (h:SV w v s) (hs:SOk s) (h0:s≠[]) (hg:Gn n) (ho:n.op=121) :
  Calls Tryz.prog 66 #[.agg #[.int .u8 n.op,.int .i64 n.x,.int .i64 n.y,.int .i64 n.v,.int .u8 n.k,.int .i64 n.t,.int .i64 n.f,.int .i64 n.a,.int .i64 n.l],v,.bool true] w fun e w'=>∃ u,e=.returned u∧SV w' u (hldF n true s)∧New w u∧Kp no w w':=by
 obtain ⟨y,hy⟩:=Int.eq_ofNat_of_zero_le hg.y.1
 have hy6:y<6:=by have:=hg.y.2;omega
 have HE:=hide (show hldF n true s=withS s y (s.getD y 0&&&115) by
  rw [hldF,wayM,hy,Int.toNat_natCast,ho];rfl)
 rw [HE.out]
 obtain ⟨h6,hm⟩:=hs.resolve_left h0
 have HS:=hide h
 obtain ⟨a,cap,rfl⟩:=h.shape
 have h':Row w (.slice a s.length cap) 9 1 s.length (sgS s):=h
 rw [h6] at h' HS ⊢
 clear h
 have HKD:=hide hg.kd
 obtain ⟨op,nx,ny,nv,nk,nt,nff,na,nl⟩:=n
 dsimp only at *
 subst hy ho
 obtain ⟨g,rfl,hgl,hgc⟩:=SV.at h' (k:=y) hy6
 have HB:=hide (fun W=>both_c (sgB (s.getD y 0)) (sgB (115)) W (Nat.le_trans (sg_size _) (by decide)) (Nat.le_trans (sg_size _) (by decide)))
 rw [both_sg] at HB
 have HM:=hide (and_lt (115) (hs.get y))
 have HGC:=hide hgc
 have hyI:(y:Int)<6:=by omega
 rw [sg_115] at HB
 generalize s.getD y 0&&&115=m at *
 have hsz:=sg_size (s.getD y 0)
 generalize sgB (s.getD y 0)=sy at *
 clear HE h6 hm
 go_enter Tryz.func66,Tryz.ntmps66
 go_wp2_with fail
 refine (HB.out _).mono ?_
 rintro e w' ⟨rfl,rfl⟩
 go_wp2_with fail
 refine (with_c _ s y m _ (Kp.row (S:=no) (by (exact kpA)) HS.out (fun _ _=>no_elim)) hs hy6 HM.out).mono ?_
 rintro e w6 ⟨u,rfl,hu,hnew,k6⟩
 have hkf:Kp no w w6:=Kp.trans (by (exact kpA)) k6 (fun _ _ e=>e)
 have hnf:New w u:=fun b hb=>Nat.le_trans (Kp.size (S:=no) (by (exact kpA))) (hnew b hb)
 go_wp2
 go_ret
 exact ⟨_,rfl,hu,hnf,hkf⟩
set_option maxRecDepth 100000 in
set_option maxHeartbeats 1600000 in
theorem holds_t0 (n:Nd) (v:Value) (s:St) (w:World) (h:SV w v s) (hs:SOk s) (h0:s≠[]) (hg:Gn n) (ho:n.op=121) :
  Calls Tryz.prog 66 #[.agg #[.int .u8 n.op,.int .i64 n.x,.int .i64 n.y,.int .i64 n.v,.int .u8 n.k,.int .i64 n.t,.int .i64 n.f,.int .i64 n.a,.int .i64 n.l],v,.bool false] w fun e w'=>∃ u,e=.returned u∧SV w' u (hldF n false s)∧New w u∧Kp no w w':=by
 obtain ⟨y,hy⟩:=Int.eq_ofNat_of_zero_le hg.y.1
 have hy6:y<6:=by have:=hg.y.2;omega
 have HE:=hide (show hldF n false s=withS s y (s.getD y 0&&&13) by
  rw [hldF,wayM,hy,Int.toNat_natCast,ho];rfl)
 rw [HE.out]
 obtain ⟨h6,hm⟩:=hs.resolve_left h0
 have HS:=hide h
 obtain ⟨a,cap,rfl⟩:=h.shape
 have h':Row w (.slice a s.length cap) 9 1 s.length (sgS s):=h
 rw [h6] at h' HS ⊢
 clear h
 have HKD:=hide hg.kd
 obtain ⟨op,nx,ny,nv,nk,nt,nff,na,nl⟩:=n
 dsimp only at *
 subst hy ho
 obtain ⟨g,rfl,hgl,hgc⟩:=SV.at h' (k:=y) hy6
 have HB:=hide (fun W=>both_c (sgB (s.getD y 0)) (sgB (13)) W (Nat.le_trans (sg_size _) (by decide)) (Nat.le_trans (sg_size _) (by decide)))
 rw [both_sg] at HB
 have HM:=hide (and_lt (13) (hs.get y))
 have HGC:=hide hgc
 have hyI:(y:Int)<6:=by omega
 rw [sg_13] at HB
 generalize s.getD y 0&&&13=m at *
 have hsz:=sg_size (s.getD y 0)
 generalize sgB (s.getD y 0)=sy at *
 clear HE h6 hm
 go_enter Tryz.func66,Tryz.ntmps66
 go_wp2_with fail
 refine (HB.out _).mono ?_
 rintro e w' ⟨rfl,rfl⟩
 go_wp2_with fail
 refine (with_c _ s y m _ (Kp.row (S:=no) (by (exact kpA)) HS.out (fun _ _=>no_elim)) hs hy6 HM.out).mono ?_
 rintro e w6 ⟨u,rfl,hu,hnew,k6⟩
 have hkf:Kp no w w6:=Kp.trans (by (exact kpA)) k6 (fun _ _ e=>e)
 have hnf:New w u:=fun b hb=>Nat.le_trans (Kp.size (S:=no) (by (exact kpA))) (hnew b hb)
 go_wp2
 go_ret
 exact ⟨_,rfl,hu,hnf,hkf⟩
set_option maxRecDepth 100000 in
set_option maxHeartbeats 1600000 in
theorem holds_k1 (n:Nd) (v:Value) (s:St) (w:World) (h:SV w v s) (hs:SOk s) (h0:s≠[]) (hg:Gn n) (ho:n.op=58) :
  Calls Tryz.prog 66 #[.agg #[.int .u8 n.op,.int .i64 n.x,.int .i64 n.y,.int .i64 n.v,.int .u8 n.k,.int .i64 n.t,.int .i64 n.f,.int .i64 n.a,.int .i64 n.l],v,.bool true] w fun e w'=>∃ u,e=.returned u∧SV w' u (hldF n true s)∧New w u∧Kp no w w':=by
 obtain ⟨y,hy⟩:=Int.eq_ofNat_of_zero_le hg.y.1
 have hy6:y<6:=by have:=hg.y.2;omega
 have HE:=hide (show hldF n true s=withS s y (s.getD y 0&&&bitN n.k) by
  rw [hldF,wayM,hy,Int.toNat_natCast,ho];rfl)
 rw [HE.out]
 obtain ⟨h6,hm⟩:=hs.resolve_left h0
 have HS:=hide h
 obtain ⟨a,cap,rfl⟩:=h.shape
 have h':Row w (.slice a s.length cap) 9 1 s.length (sgS s):=h
 rw [h6] at h' HS ⊢
 clear h
 have HKD:=hide hg.kd
 obtain ⟨op,nx,ny,nv,nk,nt,nff,na,nl⟩:=n
 dsimp only at *
 subst hy ho
 obtain ⟨g,rfl,hgl,hgc⟩:=SV.at h' (k:=y) hy6
 have HB:=hide (fun W=>both_c (sgB (s.getD y 0)) (sgB (bitN nk)) W (Nat.le_trans (sg_size _) (by decide)) (Nat.le_trans (sg_size _) (by decide)))
 rw [both_sg] at HB
 have HM:=hide (and_lt (bitN nk) (hs.get y))
 have HGC:=hide hgc
 have hyI:(y:Int)<6:=by omega
 have HKK:=hide (str_sg nk (HKD.out (.inl rfl)))
 rw [← HKK.out] at HB
 clear HKK
 have hc:=conv1'
 have hcd:=conv1d
 generalize s.getD y 0&&&bitN nk=m at *
 have hsz:=sg_size (s.getD y 0)
 generalize sgB (s.getD y 0)=sy at *
 clear HE h6 hm
 go_enter Tryz.func66,Tryz.ntmps66
 go_wp2_with fail
 refine (HB.out _).mono ?_
 rintro e w' ⟨rfl,rfl⟩
 go_wp2_with fail
 refine (with_c _ s y m _ (Kp.row (S:=no) (by (exact kpA)) HS.out (fun _ _=>no_elim)) hs hy6 HM.out).mono ?_
 rintro e w6 ⟨u,rfl,hu,hnew,k6⟩
 have hkf:Kp no w w6:=Kp.trans (by (exact kpA)) k6 (fun _ _ e=>e)
 have hnf:New w u:=fun b hb=>Nat.le_trans (Kp.size (S:=no) (by (exact kpA))) (hnew b hb)
 go_wp2
 go_ret
 exact ⟨_,rfl,hu,hnf,hkf⟩
set_option maxRecDepth 100000 in
set_option maxHeartbeats 1600000 in
theorem holds_k0 (n:Nd) (v:Value) (s:St) (w:World) (h:SV w v s) (hs:SOk s) (h0:s≠[]) (hg:Gn n) (ho:n.op=58) :
  Calls Tryz.prog 66 #[.agg #[.int .u8 n.op,.int .i64 n.x,.int .i64 n.y,.int .i64 n.v,.int .u8 n.k,.int .i64 n.t,.int .i64 n.f,.int .i64 n.a,.int .i64 n.l],v,.bool false] w fun e w'=>∃ u,e=.returned u∧SV w' u (hldF n false s)∧New w u∧Kp no w w':=by
 obtain ⟨y,hy⟩:=Int.eq_ofNat_of_zero_le hg.y.1
 have hy6:y<6:=by have:=hg.y.2;omega
 have HE:=hide (show hldF n false s=withS s y (s.getD y 0&&&(127 ^^^ bitN n.k)) by
  rw [hldF,wayM,hy,Int.toNat_natCast,ho];rfl)
 rw [HE.out]
 obtain ⟨h6,hm⟩:=hs.resolve_left h0
 have HS:=hide h
 obtain ⟨a,cap,rfl⟩:=h.shape
 have h':Row w (.slice a s.length cap) 9 1 s.length (sgS s):=h
 rw [h6] at h' HS ⊢
 clear h
 have HKD:=hide hg.kd
 obtain ⟨op,nx,ny,nv,nk,nt,nff,na,nl⟩:=n
 dsimp only at *
 subst hy ho
 obtain ⟨g,rfl,hgl,hgc⟩:=SV.at h' (k:=y) hy6
 have HB:=hide (fun W=>both_c (sgB (s.getD y 0)) (sgB (127 ^^^ bitN nk)) W (Nat.le_trans (sg_size _) (by decide)) (Nat.le_trans (sg_size _) (by decide)))
 rw [both_sg] at HB
 have HM:=hide (and_lt (127 ^^^ bitN nk) (hs.get y))
 have HGC:=hide hgc
 have hyI:(y:Int)<6:=by omega
 have HKK:=hide (not_sg nk (HKD.out (.inl rfl)))
 rw [← HKK.out] at HB
 clear HKK
 have hc:=conv1'
 have hcd:=conv1d
 generalize s.getD y 0&&&(127 ^^^ bitN nk)=m at *
 have hsz:=sg_size (s.getD y 0)
 generalize sgB (s.getD y 0)=sy at *
 clear HE h6 hm
 go_enter Tryz.func66,Tryz.ntmps66
 go_wp2
 go_loopg [7,8] 7 (fun k kv iv wr=>∃ j:Nat,j≤7∧k=7-j∧iv=.int .i64 j∧kv=.string (selN (fun c=>!decide ((c:Int)=nk)) j)∧Blk wr w.heap.size [.int .u8 58,.int .i64 nx,.int .i64 y,.int .i64 nv,.int .u8 nk,.int .i64 nt,.int .i64 nff,.int .i64 na,.int .i64 nl] 111∧Kp no w wr)
 case atStart=>exact ⟨0,by decide,rfl,rfl,rfl,by (exact blA),by (exact kpA)⟩
 case round =>
  obtain ⟨j,hj,hk,rfl,rfl,hN,hkr⟩:=hrel
  have HKK:=hide hk
  have HNN:=hide hN
  have HKR:=hide hkr
  obtain ⟨n0,n1,n2,n3,n4,n5,n6,n7,n8,nf⟩:=hN.c9;have hnl:=hN.lt
  have hc1:=(hkr.cell hgl no_elim y).trans HGC.out
  have hg1:=Nat.lt_of_lt_of_le hgl hkr.size
  clear hk hN hkr
  by_cases hlt:j<7
  ·have HY:=hide (selN_yes (fun c=>!decide ((c:Int)=nk)) j hlt)
   have HN:=hide (selN_no (fun c=>!decide ((c:Int)=nk)) j hlt)
   have hsz:=selN_size (fun c=>!decide ((c:Int)=nk)) j
   generalize selN (fun c=>!decide ((c:Int)=nk)) j=tj at *
   have hjI:(j:Int)<7:=by omega
   by_cases he:((KB[j]'hlt).toNat:Int)=nk
   ·have he':(((KB[j]'hlt).toNat:Int) != nk)=false:=by simpa using he
    rw [decide_eq_true he] at HN
    clear HY
    go_wp2
    go_quiet (fail)
    go_wp2
    go_roundg (7-(j+1))
    case measure=>have:=HKK.out;omega
    case rel=>exact ⟨j+1,by omega,rfl,by go_num,by rw [← HN.out rfl],HNN.out,HKR.out.drewN _⟩
   ·have he':(((KB[j]'hlt).toNat:Int) != nk)=true:=by simpa using he
    rw [decide_eq_false he] at HY
    clear HN
    go_wp2
    go_quiet (fail)
    go_wp2
    go_roundg (7-(j+1))
    case measure=>have:=HKK.out;omega
    case rel=>exact ⟨j+1,by omega,rfl,by go_num,by rw [← HY.out rfl],HNN.out,HKR.out.drewN _⟩
  ·obtain rfl:j=7:=by omega
   rw [selN_all]
   go_wp2_with fail
   refine (HB.out _).mono ?_
   rintro e w' ⟨rfl,rfl⟩
   go_wp2_with fail
   refine (with_c _ s y m _ (Kp.row (S:=no) (by (exact kpA)) HS.out (fun _ _=>no_elim)) hs hy6 HM.out).mono ?_
   rintro e w6 ⟨u,rfl,hu,hnew,k6⟩
   have hkf:Kp no w w6:=Kp.trans (by (exact kpA)) k6 (fun _ _ e=>e)
   have hnf:New w u:=fun b hb=>Nat.le_trans (Kp.size (S:=no) (by (exact kpA))) (hnew b hb)
   go_wp2
   go_ret
   exact ⟨_,rfl,hu,hnf,hkf⟩
theorem fholds_c (n:Nd) (v:Value) (s:St) (b:Bool) (w:World) (h:SV w v s) (hs:SOk s) (h0:s≠[]) (hg:Gn n) (ho:n.op=121∨n.op=58) :
  Calls Tryz.prog 66 #[.agg #[.int .u8 n.op,.int .i64 n.x,.int .i64 n.y,.int .i64 n.v,.int .u8 n.k,.int .i64 n.t,.int .i64 n.f,.int .i64 n.a,.int .i64 n.l],v,.bool b] w fun e w'=>∃ u,e=.returned u∧SV w' u (hldF n b s)∧New w u∧Kp no w w':=by
 rcases ho with ho|ho <;> cases b
 ·exact holds_t0 n v s w h hs h0 hg ho
 ·exact holds_t1 n v s w h hs h0 hg ho
 ·exact holds_k0 n v s w h hs h0 hg ho
 ·exact holds_k1 n v s w h hs h0 hg ho
end Go.Proofs.YtellieabhaphhabGreatDoor
namespace Go.Proofs.YtellieabhaphhabGreatDoor
open Go.RowKit
abbrev Tbl:=List St
def intoF (T:Tbl) (i:Int) (s:St):Tbl × Bool :=
 if 0≤i∧i<T.length then (T.set i.toNat (joinR (T.getD i.toNat []) s).1,(joinR (T.getD i.toNat []) s).2) else (T,false)
def pasF (n:Nd) (i:Nat) (T:Tbl):Tbl × Bool :=
 if T.getD i []=[] then (T,false)
 else if n.op=121∨n.op=58 then
  ((intoF (intoF T n.t (hldF n true (T.getD i []))).1 n.f (hldF n false (T.getD i []))).1,(intoF T n.t (hldF n true (T.getD i []))).2 || (intoF (intoF T n.t (hldF n true (T.getD i []))).1 n.f (hldF n false (T.getD i []))).2)
 else intoF T n.t (behF n (T.getD i []))
def swpF:List Nd→Nat→Tbl→Tbl × Bool
 | [],_,T=>(T,false)
 | n::l,i,T=>((swpF l (i+1) (pasF n i T).1).1,(pasF n i T).2 || (swpF l (i+1) (pasF n i T).1).2)
theorem swp_snoc (n:Nd):∀ (l:List Nd) (i:Nat) (T:Tbl),swpF (l++[n]) i T=((pasF n (i+l.length) (swpF l i T).1).1,(swpF l i T).2 || (pasF n (i+l.length) (swpF l i T).1).2)
 | [],i,T=>by simp [swpF]
 | m::l,i,T=>by
  rw [List.cons_append,swpF,swp_snoc n l (i+1) (pasF m i T).1,swpF,List.length_cons,show i+1+l.length=i+(l.length+1) by omega,Bool.or_assoc]
def itF (l:List Nd):Nat→Tbl→Tbl
 | 0,T=>T
 | k+1,T=>itF l k (swpF l 0 T).1
theorem it_succ (l:List Nd):∀ (k:Nat) (T:Tbl),itF l (k+1) T=(swpF l 0 (itF l k T)).1
 | 0,_=>rfl
 | k+1,T=>by rw [itF,it_succ l k,← itF]
theorem it_fix (l:List Nd) (T:Tbl) (h:(swpF l 0 T).1=T):∀ k,itF l k T=T
 | 0=>rfl
 | k+1=>by rw [itF,h,it_fix l T h k]
theorem it_add (l:List Nd):∀ (a b:Nat) (T:Tbl),itF l (a+b) T=itF l b (itF l a T)
 | 0,b,T=>by rw [Nat.zero_add];rfl
 | a+1,b,T=>by rw [show a+1+b=(a+b)+1 by omega,itF,it_add l a b,← itF]
theorem it_rest (l:List Nd) (T:Tbl) (j:Nat) (hf:(swpF l 0 (itF l j T)).1=itF l j T) (N:Nat) (hN:j≤N):itF l N T=itF l j T:=by
 obtain ⟨b,rfl⟩:=Nat.exists_eq_add_of_le hN
 rw [it_add,it_fix l _ hf]
theorem into_len (T:Tbl) (i:Int) (s:St):(intoF T i s).1.length=T.length:=by unfold intoF;split <;> simp
theorem pas_len (n:Nd) (i:Nat) (T:Tbl):(pasF n i T).1.length=T.length:=by
 unfold pasF
 repeat' split
 ·rfl
 ·simp [into_len]
 ·simp [into_len]
theorem swp_len:∀ (l:List Nd) (i:Nat) (T:Tbl),(swpF l i T).1.length=T.length
 | [],_,_=>rfl
 | n::l,i,T=>by rw [swpF];show (swpF l (i+1) (pasF n i T).1).1.length=_;rw [swp_len l,pas_len]
theorem it_len (l:List Nd):∀ (k:Nat) (T:Tbl),(itF l k T).length=T.length
 | 0,_=>rfl
 | k+1,T=>by rw [itF,it_len l k,swp_len]
theorem join_same {a b:St} (h:(joinR a b).2=false):(joinR a b).1=a:=by
 unfold joinR at h ⊢
 split
 ·rfl
 ·rename_i h1
  rw [if_neg h1] at h
  split
  ·rename_i h2;rw [if_pos h2] at h;cases h
  ·rename_i h2
   rw [if_neg h2] at h
   simpa using h
theorem set_getD {T:Tbl} {i:Nat} (h:i<T.length):T.set i (T.getD i [])=T:=by
 rw [List.getD_eq_getElem?_getD,List.getElem?_eq_getElem h,Option.getD_some,List.set_getElem_self]
theorem into_same {T:Tbl} {i:Int} {s:St} (h:(intoF T i s).2=false):(intoF T i s).1=T:=by
 unfold intoF at h ⊢
 split
 ·rename_i hc
  rw [if_pos hc] at h
  show T.set i.toNat _=T
  rw [join_same h,set_getD (by omega)]
 ·rfl
theorem pas_same {n:Nd} {i:Nat} {T:Tbl} (h:(pasF n i T).2=false):(pasF n i T).1=T:=by
 unfold pasF at h ⊢
 split
 ·rfl
 ·rename_i h1
  rw [if_neg h1] at h
  split
  ·rename_i h2
   rw [if_pos h2] at h
   rw [Bool.or_eq_false_iff] at h
   show (intoF _ _ _).1=T
   rw [into_same h.2,into_same h.1]
  ·rename_i h2
   rw [if_neg h2] at h
   exact into_same h
theorem swp_same:∀ {l:List Nd} {i:Nat} {T:Tbl},(swpF l i T).2=false→(swpF l i T).1=T
 | [],_,_,_=>rfl
 | n::l,i,T,h=>by
  rw [swpF] at h ⊢
  rw [Bool.or_eq_false_iff] at h
  show (swpF l (i+1) (pasF n i T).1).1=T
  rw [swp_same h.2,pas_same h.1]
def TOk (T:Tbl):Prop:=∀ s∈T,SOk s
theorem TOk.get {T:Tbl} (h:TOk T) (i:Nat):SOk (T.getD i []):=by
 rw [List.getD_eq_getElem?_getD]
 cases hx:T[i]? with
 | none=>exact .nil
 | some m=>exact h m (List.mem_of_getElem? hx)
theorem TOk.into {T:Tbl} (h:TOk T) (i:Int) {s:St} (hs:SOk s):TOk (intoF T i s).1:=by
 unfold intoF
 split
 ·intro z hz
  rcases List.mem_or_eq_of_mem_set hz with h1|rfl
  ·exact h z h1
  ·exact (h.get _).join hs
 ·exact h
theorem TOk.pas {T:Tbl} (h:TOk T) (n:Nd) (i:Nat):TOk (pasF n i T).1:=by
 unfold pasF
 repeat' split
 ·exact h
 ·exact (h.into _ ((h.get i).hld n true)).into _ ((h.get i).hld n false)
 ·exact h.into _ ((h.get i).beh n)
theorem TOk.swp:∀ {l:List Nd} {i:Nat} {T:Tbl},TOk T→TOk (swpF l i T).1
 | [],_,_,h=>h
 | n::l,i,T,h=>by rw [swpF];exact TOk.swp (h.pas n i)
theorem TOk.it {l:List Nd}:∀ {k:Nat} {T:Tbl},TOk T→TOk (itF l k T)
 | 0,_,h=>h
 | k+1,T,h=>by rw [itF];exact TOk.it h.swp
def pc (m:Nat):Nat:=(List.range 7).countP (fun i=>m.testBit i)
def mS (s:St):Nat:=(s.map pc).sum
def mT (T:Tbl):Nat:=(T.map mS).sum
theorem pc_le (a b:Nat):pc a≤pc (a ||| b):=List.countP_mono_left (fun i _ h=>by rw [Nat.testBit_or,h,Bool.true_or])
theorem pc_seven (a:Nat):pc a≤7:=List.countP_le_length
theorem pc_lt {a b:Nat} (ha:a<128) (hb:b<128) (h:a ||| b≠a):pc a<pc (a ||| b):=by
 rcases Nat.lt_or_ge (pc a) (pc (a ||| b)) with h1|h1
 ·exact h1
 ·exfalso
  apply h
  refine Nat.eq_of_testBit_eq fun i=>?_
  by_cases hi:i<7
  ·cases hc:a.testBit i
   ·cases hd:(a ||| b).testBit i
    ·rfl
    ·exfalso
     have key:∀ (l:List Nat),i∈l→l.countP (fun i=>a.testBit i)<l.countP (fun i=>(a ||| b).testBit i):=by
      intro l hl
      induction l with
      | nil=>cases hl
      | cons x l ih =>
       have hm:l.countP (fun i=>a.testBit i)≤l.countP (fun i=>(a ||| b).testBit i):=List.countP_mono_left (fun i _ h=>by rw [Nat.testBit_or,h,Bool.true_or])
       rw [List.countP_cons,List.countP_cons]
       rcases List.mem_cons.1 hl with rfl|hl'
       ·rw [hc,hd,if_pos rfl,if_neg (by decide)];omega
       ·have:=ih hl'
        have h2:(if a.testBit x=true then 1 else 0)≤(if (a ||| b).testBit x=true then 1 else 0):=by
         rw [Nat.testBit_or];cases a.testBit x <;> cases b.testBit x <;> simp
        omega
     have:=key (List.range 7) (by simpa using hi)
     unfold pc at h1
     omega
   ·rw [Nat.testBit_or,hc,Bool.true_or]
  ·have h2:128≤2 ^ i:=by
    have:2 ^ 7≤2 ^ i:=Nat.pow_le_pow_right (by decide) (by omega)
    omega
   have:=or_lt ha hb
   rw [Nat.testBit_lt_two_pow (by omega),Nat.testBit_lt_two_pow (by omega)]
theorem zip_le:∀ (a b:St),a.length≤b.length→mS a≤mS (List.zipWith (· ||| ·) a b)
 | [],_,_=>Nat.zero_le _
 | x::a,[],h=>by simp at h
 | x::a,y::b,h=>by
  have:=zip_le a b (by simpa using h)
  have:=pc_le x y
  simp only [mS,List.zipWith_cons_cons,List.map_cons,List.sum_cons] at *
  omega
theorem zip_lt:∀ (a b:St),a.length≤b.length→(∀ m∈a,m<128)→(∀ m∈b,m<128)→List.zipWith (· ||| ·) a b≠a→mS a<mS (List.zipWith (· ||| ·) a b)
 | [],_,_,_,_,h=>by simp at h
 | x::a,[],h,_,_,_=>by simp at h
 | x::a,y::b,h,ha,hb,hne=>by
  have h1:=zip_le a b (by simpa using h)
  have h2:=pc_le x y
  by_cases hx:x ||| y=x
  ·have:=zip_lt a b (by simpa using h) (fun m hm=>ha m (List.mem_cons_of_mem _ hm)) (fun m hm=>hb m (List.mem_cons_of_mem _ hm)) (fun e=>hne (by rw [List.zipWith_cons_cons,hx,e]))
   simp only [mS,List.zipWith_cons_cons,List.map_cons,List.sum_cons] at *
   omega
  ·have:=pc_lt (ha x (List.mem_cons_self ..)) (hb y (List.mem_cons_self ..)) hx
   simp only [mS,List.zipWith_cons_cons,List.map_cons,List.sum_cons] at *
   omega
theorem pc_pos {a:Nat} (ha:a<128) (h:a≠0):0<pc a:=by
 have:=pc_lt (a:=0) (b:=a) (by decide) ha (by simpa using h)
 simp only [Nat.zero_or] at this
 omega
theorem mS_le (s:St):mS s≤7*s.length:=by
 induction s with
 | nil=>exact Nat.le_refl _
 | cons x s ih =>
  have:=pc_seven x
  simp only [mS,List.map_cons,List.sum_cons,List.length_cons] at *
  omega
theorem mS_ok {s:St} (h:SOk s):mS s≤42:=by
 have:=mS_le s
 rcases h with rfl|⟨h,_⟩
 ·decide
 ·omega
theorem join_le {a b:St} (ha:SOk a) (hb:SOk b):mS a≤mS (joinR a b).1∧((joinR a b).2=true→mS a<mS (joinR a b).1):=by
 unfold joinR
 split
 ·exact ⟨Nat.le_refl _,fun h=>by cases h⟩
 ·rename_i h1
  obtain ⟨lb,mb⟩:=hb.resolve_left h1
  split
  ·rename_i h2
   subst h2
   have:0<mS b:=by
    match b,lb,mb with
    | x::b,_,mb =>
     have:=pc_pos (mb x (List.mem_cons_self ..)).2 (mb x (List.mem_cons_self ..)).1
     simp only [mS,List.map_cons,List.sum_cons]
     omega
   exact ⟨Nat.zero_le _,fun _=>this⟩
  ·rename_i h2
   obtain ⟨la,ma⟩:=ha.resolve_left h2
   exact ⟨zip_le a b (by omega),fun h=>zip_lt a b (by omega) (fun m hm=>(ma m hm).2) (fun m hm=>(mb m hm).2) (by simpa using h)⟩
theorem mT_set:∀ (T:Tbl) (i:Nat) (s:St),i<T.length→mT (T.set i s)+mS (T.getD i [])=mT T+mS s
 | [],i,_,h=>by simp at h
 | a::T,0,s,_=>by simp only [List.set_cons_zero,mT,List.map_cons,List.sum_cons,List.getD_cons_zero];omega
 | a::T,i+1,s,h=>by
  have:=mT_set T i s (by simpa using h)
  simp only [List.set_cons_succ,mT,List.map_cons,List.sum_cons,List.getD_cons_succ] at *
  omega
theorem mT_le:∀ {T:Tbl},TOk T→mT T≤42*T.length
 | [],_=>Nat.le_refl _
 | a::T,h=>by
  have h1:=mS_ok (h a (List.mem_cons_self ..))
  have h2:=mT_le (T:=T) (fun s hs=>h s (List.mem_cons_of_mem _ hs))
  simp only [mT,List.map_cons,List.sum_cons,List.length_cons] at *
  omega
theorem into_le {T:Tbl} (h:TOk T) (i:Int) {s:St} (hs:SOk s):mT T≤mT (intoF T i s).1∧((intoF T i s).2=true→mT T<mT (intoF T i s).1):=by
 unfold intoF
 split
 ·rename_i hc
  have h1:=join_le (h.get i.toNat) hs
  have h2:=mT_set T i.toNat (joinR (T.getD i.toNat []) s).1 (by omega)
  refine ⟨?_,fun e=>?_⟩
  ·dsimp only;omega
  ·have:=h1.2 e;dsimp only;omega
 ·exact ⟨Nat.le_refl _,fun h=>by cases h⟩
theorem pas_le {T:Tbl} (h:TOk T) (n:Nd) (i:Nat):mT T≤mT (pasF n i T).1∧((pasF n i T).2=true→mT T<mT (pasF n i T).1):=by
 unfold pasF
 repeat' split
 ·exact ⟨Nat.le_refl _,fun h=>by cases h⟩
 ·have h1:=into_le h n.t ((h.get i).hld n true)
  have h2:=into_le (h.into n.t ((h.get i).hld n true)) n.f ((h.get i).hld n false)
  refine ⟨Nat.le_trans h1.1 h2.1,fun e=>?_⟩
  rw [Bool.or_eq_true] at e
  rcases e with e|e
  ·exact Nat.lt_of_lt_of_le (h1.2 e) h2.1
  ·exact Nat.lt_of_le_of_lt h1.1 (h2.2 e)
 ·exact into_le h _ ((h.get i).beh n)
theorem swp_le:∀ {l:List Nd} {i:Nat} {T:Tbl},TOk T→mT T≤mT (swpF l i T).1∧((swpF l i T).2=true→mT T<mT (swpF l i T).1)
 | [],_,_,_=>⟨Nat.le_refl _,fun h=>by cases h⟩
 | n::l,i,T,h=>by
  have h1:=pas_le h n i
  have h2:=swp_le (l:=l) (i:=i+1) (h.pas n i)
  rw [swpF]
  refine ⟨Nat.le_trans h1.1 h2.1,fun e=>?_⟩
  rw [Bool.or_eq_true] at e
  rcases e with e|e
  ·exact Nat.lt_of_lt_of_le (h1.2 e) h2.1
  ·exact Nat.lt_of_le_of_lt h1.1 (h2.2 e)
theorem getD_take {T:Tbl} {i k:Nat} (h:i<k):(T.take k).getD i []=T.getD i []:=by
 rw [List.getD_eq_getElem?_getD,List.getD_eq_getElem?_getD,List.getElem?_take_of_lt h]
theorem into_take {T:Tbl} {k:Nat} (hT:T.length=k+1) (i:Int) (s:St):(intoF T i s).1.take k=(intoF (T.take k) i s).1:=by
 unfold intoF
 rw [List.length_take,hT]
 by_cases hc:0≤i∧i<((min k (k+1):Nat):Int)
 ·rw [if_pos hc,if_pos ⟨hc.1,by omega⟩,List.take_set,getD_take (by omega)]
 ·rw [if_neg hc]
  by_cases h2:0≤i∧i<((k+1:Nat):Int)
  ·rw [if_pos h2,List.take_set]
   exact List.set_eq_of_length_le (by rw [List.length_take];omega)
  ·rw [if_neg h2]
theorem pas_take {T:Tbl} {k:Nat} (hT:T.length=k+1) (n:Nd) {i:Nat} (hi:i<k):(pasF n i T).1.take k=(pasF n i (T.take k)).1:=by
 unfold pasF
 rw [getD_take hi]
 repeat' split
 ·rfl
 ·rw [into_take (by rw [into_len];exact hT),into_take hT]
 ·rw [into_take hT]
theorem swp_take {k:Nat}:∀ {l:List Nd} {i:Nat} {T:Tbl},T.length=k+1→i+l.length≤k→(swpF l i T).1.take k=(swpF l i (T.take k)).1
 | [],_,_,_,_=>rfl
 | n::l,i,T,hT,hi=>by
  rw [List.length_cons] at hi
  rw [swpF,swpF,swp_take (by rw [pas_len];exact hT) (by omega),pas_take hT n (by omega)]
theorem it_take {l:List Nd} {k:Nat} (hk:l.length≤k):∀ {j:Nat} {T:Tbl},T.length=k+1→(itF l j T).take k=itF l j (T.take k)
 | 0,_,_=>rfl
 | j+1,T,hT=>by rw [itF,itF,it_take hk (by rw [swp_len];exact hT),swp_take hT (by omega)]
abbrev st0:St:=[8,8,8,8,8,8]
def tR (k:Nat):Tbl:=st0::List.replicate k []
def lstF (l:List Nd):Tbl:=(itF l 4000 (tR l.length)).take l.length
theorem st0_ok:SOk st0:=.inr ⟨rfl,by decide⟩
theorem tR_ok (k:Nat):TOk (tR k):=by
 intro s hs
 rcases List.mem_cons.1 hs with rfl|h
 ·exact st0_ok
 ·rw [List.eq_of_mem_replicate h];exact .nil
theorem lst_len (l:List Nd):(lstF l).length=l.length:=by
 unfold lstF tR
 rw [List.length_take,it_len];simp
theorem lst_ok (l:List Nd):TOk (lstF l):=fun s hs=>TOk.it (tR_ok _) s (List.mem_of_mem_take hs)
end Go.Proofs.YtellieabhaphhabGreatDoor
namespace Go.Proofs.YtellieabhaphhabGreatDoor
open Go.RowKit
theorem fbehind_c (n:Nd) (v:Value) (s:St) (w:World) (h:SV w v s) (hs:SOk s) (h0:s≠[]) (hg:Gn n) (ho:¬ (n.op=121∨n.op=58)) :
  Calls Tryz.prog 68 #[.agg #[.int .u8 n.op,.int .i64 n.x,.int .i64 n.y,.int .i64 n.v,.int .u8 n.k,.int .i64 n.t,.int .i64 n.f,.int .i64 n.a,.int .i64 n.l],v] w fun e w'=>∃ u,e=.returned u∧SV w' u (behF n s)∧(u=v∨New w u)∧Kp no w w':=by
 have hop:=hg.op
 unfold opOk at hop
 by_cases h33:n.op=33
 ·exact behind_never n v s w h33
 by_cases h42:n.op=42∨n.op=94
 ·exact behind_same n v s w h h42
 by_cases h126:n.op=126
 ·exact (behind_cast n v s w h hs h0 hg h126).mono fun e w' ⟨u,h1,h2,h3,h4⟩=>⟨u,h1,h2,.inr h3,h4⟩
 by_cases h43:n.op=43∨n.op=60
 ·exact (behind_two n v s w h hs h0 hg h43).mono fun e w' ⟨u,h1,h2,h3,h4⟩=>⟨u,h1,h2,.inr h3,h4⟩
 ·exact (behind_one n v s w h hs h0 hg (by unfold opG;omega) h43).mono fun e w' ⟨u,h1,h2,h3,h4⟩=>⟨u,h1,h2,.inr h3,h4⟩
structure TbR (w:World) (tp tb n:Nat) (T:Tbl) (g:Bool):Prop where
 p:Blk w tp [.slice (some ⟨tb,0,none⟩) n n,.bool g] 164
 ne:tp≠tb
 len:T.length=n
 ex:∃ vs:List Value,vs.length=n∧Blk w tb vs 122∧∀ i v,vs[i]?=some v→SV w v (T.getD i [])∧v.ownBlock≠some tp∧v.ownBlock≠some tb
theorem TbR.kp {w w':World} {tp tb n:Nat} {T:Tbl} {g:Bool} (h:TbR w tp tb n T g) (k:Kp no w w'):TbR w' tp tb n T g:=by
 obtain ⟨vs,h1,h2,h3⟩:=h.ex
 exact ⟨k.blk h.p no_elim,h.ne,h.len,vs,h1,k.blk h2 no_elim,fun i v hv=>⟨k.row (h3 i v hv).1 (fun _ _=>no_elim),(h3 i v hv).2⟩⟩
def TK (tp tb:Nat) (b:Nat):Prop:=b=tp∨b=tb
theorem TbR.set {w:World} {tp tb n:Nat} {T:Tbl} {g:Bool} (h:TbR w tp tb n T g) {i:Nat} (hi:i<n) {u:Value} {s:St} (hu:SV w u s) (h1:u.ownBlock≠some tp) (h2:u.ownBlock≠some tb) :
  TbR (w.setCell ⟨tb,i,none⟩ u) tp tb n (T.set i s) g:=by
 obtain ⟨vs,e1,e2,e3⟩:=h.ex
 refine ⟨Blk.other h.p _ (fun e=>h.ne e),h.ne,by rw [List.length_set];exact h.len,vs.set i u,by simpa using e1,e2.set i u,?_⟩
 intro j v hv
 by_cases hj:j=i
 ·subst hj
  rw [List.getElem?_set_self (by omega)] at hv
  obtain rfl:u=v:=by simpa using hv
  refine ⟨?_,h1,h2⟩
  rw [List.getD_eq_getElem?_getD,List.getElem?_set_self (by rw [h.len];exact hi)]
  exact Row.set hu _ h2
 ·rw [List.getElem?_set_ne (Ne.symm hj)] at hv
  obtain ⟨a1,a2,a3⟩:=e3 j v hv
  refine ⟨?_,a2,a3⟩
  rw [List.getD_eq_getElem?_getD,List.getElem?_set_ne (Ne.symm hj),← List.getD_eq_getElem?_getD]
  exact Row.set a1 _ a3
theorem TbR.turn {w:World} {tp tb n:Nat} {T:Tbl} {g:Bool} (h:TbR w tp tb n T g) (b:Bool):TbR (w.setCell ⟨tp,1,none⟩ (.bool b)) tp tb n T b:=by
 obtain ⟨vs,e1,e2,e3⟩:=h.ex
 refine ⟨h.p.set 1 (.bool b),h.ne,h.len,vs,e1,Blk.other e2 _ (fun e=>h.ne e.symm),fun j v hv=>?_⟩
 obtain ⟨a1,a2,a3⟩:=e3 j v hv
 exact ⟨Row.set a1 _ a2,a2,a3⟩
theorem TbR.drew {w:World} {tp tb n:Nat} {T:Tbl} {g:Bool} (h:TbR w tp tb n T g):TbR w.drew tp tb n T g:=h.kp (Kp.refl _ _).drew
theorem TbR.drewN {w:World} {tp tb n:Nat} {T:Tbl} {g:Bool} (h:TbR w tp tb n T g) (k:Nat):TbR (w.drewN k) tp tb n T g:=h.kp ((Kp.refl _ _).drewN k)
theorem TbR.c {w:World} {tp tb n:Nat} {T:Tbl} {g:Bool} (h:TbR w tp tb n T g):w.cell? ⟨tp,0,none⟩=some (.slice (some ⟨tb,0,none⟩) n n)∧w.cell? ⟨tp,1,none⟩=some (.bool g)∧(∀ o,w.frozen? ⟨tp,o,none⟩=false)∧(∀ o,w.frozen? ⟨tb,o,none⟩=false)∧tp<w.heap.size∧tb<w.heap.size:=by
 obtain ⟨vs,e1,e2,e3⟩:=h.ex
 exact ⟨h.p.cell 0,h.p.cell 1,h.p.frozen,e2.frozen,h.p.lt,e2.lt⟩
theorem TbR.at {w:World} {tp tb n:Nat} {T:Tbl} {g:Bool} (h:TbR w tp tb n T g) {i:Nat} (hi:i<n) :
  ∃ a cap,w.cell? ⟨tb,i,none⟩=some (.slice a (T.getD i []).length cap)∧SV w (.slice a (T.getD i []).length cap) (T.getD i [])∧Value.ownBlock (.slice a (T.getD i []).length cap)≠some tp∧Value.ownBlock (.slice a (T.getD i []).length cap)≠some tb:=by
 obtain ⟨vs,e1,e2,e3⟩:=h.ex
 obtain ⟨v,hv⟩:∃ v,vs[i]?=some v:=⟨_,List.getElem?_eq_getElem (by omega)⟩
 obtain ⟨a1,a2,a3⟩:=e3 i v hv
 obtain ⟨a,cap,rfl⟩:=SV.shape a1
 exact ⟨a,cap,(e2.cell i).trans hv,a1,a2,a3⟩
set_option maxRecDepth 100000 in
set_option maxHeartbeats 1600000 in
theorem into_c (tp tb n:Nat) (T:Tbl) (g:Bool) (i:Int) (v:Value) (s:St) (w:World) (h:TbR w tp tb n T g) (hT:TOk T) (hv:SV w v s) (hs:SOk s) (h1:v.ownBlock≠some tp) (h2:v.ownBlock≠some tb) :
  Calls Tryz.prog 107 #[.pointer (some ⟨tp,0,none⟩),.int .i64 i,v] w fun e w'=>e=.returned (.tuple #[])∧TbR w' tp tb n (intoF T i s).1 (g || (intoF T i s).2)∧Kp (TK tp tb) w w':=by
 obtain ⟨c0,c1,cf,cg,cl,cm⟩:=h.c
 obtain ⟨va,vc,rfl⟩:=hv.shape
 have HH:=hide h
 have hl:=h.len
 by_cases hi0:i<0
 ·have HE:=hide (show intoF T i s=(T,false) by rw [intoF,if_neg (by omega)])
  rw [HE.out,Bool.or_false]
  clear hl
  go_enter Tryz.func107,Tryz.ntmps107
  go_wp2
  refine bodyPost_ret (results_none rfl _ _ _) rfl ?_
  exact ⟨rfl,HH.out,Kp.refl _ _⟩
 by_cases hin:(n:Int)≤i
 ·have HE:=hide (show intoF T i s=(T,false) by rw [intoF,if_neg (by omega)])
  rw [HE.out,Bool.or_false]
  have d0:decide (i<0)=false:=by simp;omega
  clear hl hi0
  go_enter Tryz.func107,Tryz.ntmps107
  go_wp2
  refine bodyPost_ret (results_none rfl _ _ _) rfl ?_
  exact ⟨rfl,HH.out,Kp.refl _ _⟩
 ·obtain ⟨k,rfl⟩:=Int.eq_ofNat_of_zero_le (by omega:0≤i)
  have hk:k<n:=by omega
  have HE:=hide (show intoF T k s=(T.set k (joinR (T.getD k []) s).1,(joinR (T.getD k []) s).2) by rw [intoF,if_pos (by omega),Int.toNat_natCast])
  rw [HE.out]
  have d0:decide ((k:Int)<0)=false:=by simp
  have d1:decide (n≤k)=false:=by simp;omega
  have d2:decide ((n:Int)≤k)=false:=by simp;omega
  have hkI:(k:Int)<n:=by omega
  obtain ⟨a,cap,q0,q1,q2,q3⟩:=h.at hk
  have HJ:=hide (join_c _ _ _ _ w q1 hv (hT.get k) hs)
  clear hl hi0 hin h hv
  have HG:=hide (hT.get k)
  generalize T.getD k []=S0 at *
  clear HE
  generalize joinR S0 s=J at *
  obtain ⟨J1,J2⟩:=J
  dsimp only at *
  go_enter Tryz.func107,Tryz.ntmps107
  go_wp2_with fail
  refine HJ.out.mono ?_
  rintro e w1 ⟨u,rfl,hu,hor,k1⟩
  have hu1:u.ownBlock≠some tp∧u.ownBlock≠some tb:=by
   rcases hor with rfl|rfl|hn
   ·exact ⟨q2,q3⟩
   ·exact ⟨h1,h2⟩
   ·exact ⟨fun e=>by have:=hn _ e;omega,fun e=>by have:=hn _ e;omega⟩
  have HT1:=hide (HH.out.kp k1)
  have HU:=hide hu
  have HK1:=hide k1
  have HU1:=hide hu1
  clear hor hu q0 q1 q2 q3 c0 c1 cf cg cl cm k1 hu1
  obtain ⟨au,cu,rfl⟩:=HU.out.shape
  obtain ⟨a',cap',q0',_⟩:=HT1.out.at hk
  simp only [List.getD_eq_getElem?_getD] at q0'
  obtain ⟨c0,c1,cf,cg,cl,cm⟩:=HT1.out.c
  have hne:=HT1.out.ne
  cases g <;> cases J2
  all_goals
   go_wp2_with fail
   try go_quiet (fail)
   go_wp2
   go_end0
   exact ⟨rfl,(HT1.out.set hk HU.out HU1.out.1 HU1.out.2).turn _,((HK1.out.mono (S':=TK tp tb) (fun _ e=>e.elim)).setCell _ (fun _=>.inr rfl)).setCell _ (fun _=>.inl rfl)⟩
end Go.Proofs.YtellieabhaphhabGreatDoor
