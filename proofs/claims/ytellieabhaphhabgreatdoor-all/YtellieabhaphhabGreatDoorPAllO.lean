import Derived.Test.YtellieabhaphhabGreatDoorPAllN
namespace Go.Proofs.YtellieabhaphhabGreatDoor
open Go.RowKit
theorem and_pow0:∀ m,m<128→(((m&&&1:Nat):Int) != 0)=m.testBit 0:=by decide
theorem and_pow1:∀ m,m<128→(((m&&&2:Nat):Int) != 0)=m.testBit 1:=by decide
theorem and_pow2:∀ m,m<128→(((m&&&4:Nat):Int) != 0)=m.testBit 2:=by decide
theorem and_pow3:∀ m,m<128→(((m&&&8:Nat):Int) != 0)=m.testBit 3:=by decide
theorem and_pow4:∀ m,m<128→(((m&&&16:Nat):Int) != 0)=m.testBit 4:=by decide
theorem and_pow5:∀ m,m<128→(((m&&&32:Nat):Int) != 0)=m.testBit 5:=by decide
theorem and_pow6:∀ m,m<128→(((m&&&64:Nat):Int) != 0)=m.testBit 6:=by decide
set_option maxRecDepth 100000 in
set_option maxHeartbeats 1600000 in
theorem kindsText_c (m:Nat) (w:World) (hm:m<128) :
  Calls Tryz.prog 78 #[.int .i64 (m:Int)] w fun e w'=>e=.returned (.string (sgB m))∧w'=w:=by
 go_enter Tryz.func78,Tryz.ntmps78
 go_wp2
 go_loopg [3,4] 7 (fun k tv kv wr=>∃ j:Nat,j≤7∧k=7-j∧kv=.int .i64 ((2 ^ j:Nat):Int)∧tv=.string (selN (fun c=>m.testBit (kix c)) j)∧wr=w)
 case atStart=>exact ⟨0,by decide,rfl,rfl,rfl,rfl⟩
 case round =>
  obtain ⟨j,hj,hk,rfl,rfl,rfl⟩:=hrel
  have HKK:=hide hk
  clear hk
  rcases (show j=7∨j=0∨j=1∨j=2∨j=3∨j=4∨j=5∨j=6 by omega) with rfl|rfl|rfl|rfl|rfl|rfl|rfl|rfl
  ·go_wp2
   go_ret
   exact ⟨rfl,rfl⟩
  ·have HY:=hide (selN_yes (fun c=>m.testBit (kix c)) 0 (by decide))
   have HN:=hide (selN_no (fun c=>m.testBit (kix c)) 0 (by decide))
   have hsz:=selN_size (fun c=>m.testBit (kix c)) 0
   have HKS:=hide (fun W=>nkindSign_c 110 (by unfold KOk;omega) W)
   have hb:bits .and .i64 (m:Int) 1=((m&&&1:Nat):Int):=bits_and_nat m 1 hm (by decide)
   have hq:=and_pow0 m hm
   have HY2:Hid (m.testBit 0=true→selN (fun c=>m.testBit (kix c)) 0++strOfNums [110]=selN (fun c=>m.testBit (kix c)) 1):=HY.out
   have HN2:Hid (m.testBit 0=false→selN (fun c=>m.testBit (kix c)) 0=selN (fun c=>m.testBit (kix c)) 1):=HN.out
   have HKS2:Hid (∀ W,Calls Tryz.prog 85 #[.int .i64 1] W fun e w'=>e=.returned (.string (strOfNums [110]))∧w'=W):=HKS.out
   have hs1:=str1 110
   clear HY HN HKS
   generalize ((m&&&1:Nat):Int)=v at *
   generalize m.testBit 0=p at *
   generalize selN (fun c=>m.testBit (kix c)) 0=tj at *
   cases p
   all_goals
    go_wp2_with (go_at_call 85;refine (HKS2.out _).mono ?_;rintro e w' ⟨rfl,rfl⟩)
    go_roundg (7-1)
    case measure=>have:=HKK.out;omega
    case rel=>exact ⟨1,by decide,rfl,rfl,by first|(rw [← HN2.out (by first|rfl|trivial)];done)|(rw [← HY2.out (by first|rfl|trivial)];done),rfl⟩
  ·have HY:=hide (selN_yes (fun c=>m.testBit (kix c)) 1 (by decide))
   have HN:=hide (selN_no (fun c=>m.testBit (kix c)) 1 (by decide))
   have hsz:=selN_size (fun c=>m.testBit (kix c)) 1
   have HKS:=hide (fun W=>nkindSign_c 116 (by unfold KOk;omega) W)
   have hb:bits .and .i64 (m:Int) 2=((m&&&2:Nat):Int):=bits_and_nat m 2 hm (by decide)
   have hq:=and_pow1 m hm
   have HY2:Hid (m.testBit 1=true→selN (fun c=>m.testBit (kix c)) 1++strOfNums [116]=selN (fun c=>m.testBit (kix c)) 2):=HY.out
   have HN2:Hid (m.testBit 1=false→selN (fun c=>m.testBit (kix c)) 1=selN (fun c=>m.testBit (kix c)) 2):=HN.out
   have HKS2:Hid (∀ W,Calls Tryz.prog 85 #[.int .i64 2] W fun e w'=>e=.returned (.string (strOfNums [116]))∧w'=W):=HKS.out
   have hs1:=str1 116
   clear HY HN HKS
   generalize ((m&&&2:Nat):Int)=v at *
   generalize m.testBit 1=p at *
   generalize selN (fun c=>m.testBit (kix c)) 1=tj at *
   cases p
   all_goals
    go_wp2_with (go_at_call 85;refine (HKS2.out _).mono ?_;rintro e w' ⟨rfl,rfl⟩)
    go_roundg (7-2)
    case measure=>have:=HKK.out;omega
    case rel=>exact ⟨2,by decide,rfl,rfl,by first|(rw [← HN2.out (by first|rfl|trivial)];done)|(rw [← HY2.out (by first|rfl|trivial)];done),rfl⟩
  ·have HY:=hide (selN_yes (fun c=>m.testBit (kix c)) 2 (by decide))
   have HN:=hide (selN_no (fun c=>m.testBit (kix c)) 2 (by decide))
   have hsz:=selN_size (fun c=>m.testBit (kix c)) 2
   have HKS:=hide (fun W=>nkindSign_c 102 (by unfold KOk;omega) W)
   have hb:bits .and .i64 (m:Int) 4=((m&&&4:Nat):Int):=bits_and_nat m 4 hm (by decide)
   have hq:=and_pow2 m hm
   have HY2:Hid (m.testBit 2=true→selN (fun c=>m.testBit (kix c)) 2++strOfNums [102]=selN (fun c=>m.testBit (kix c)) 3):=HY.out
   have HN2:Hid (m.testBit 2=false→selN (fun c=>m.testBit (kix c)) 2=selN (fun c=>m.testBit (kix c)) 3):=HN.out
   have HKS2:Hid (∀ W,Calls Tryz.prog 85 #[.int .i64 4] W fun e w'=>e=.returned (.string (strOfNums [102]))∧w'=W):=HKS.out
   have hs1:=str1 102
   clear HY HN HKS
   generalize ((m&&&4:Nat):Int)=v at *
   generalize m.testBit 2=p at *
   generalize selN (fun c=>m.testBit (kix c)) 2=tj at *
   cases p
   all_goals
    go_wp2_with (go_at_call 85;refine (HKS2.out _).mono ?_;rintro e w' ⟨rfl,rfl⟩)
    go_roundg (7-3)
    case measure=>have:=HKK.out;omega
    case rel=>exact ⟨3,by decide,rfl,rfl,by first|(rw [← HN2.out (by first|rfl|trivial)];done)|(rw [← HY2.out (by first|rfl|trivial)];done),rfl⟩
  ·have HY:=hide (selN_yes (fun c=>m.testBit (kix c)) 3 (by decide))
   have HN:=hide (selN_no (fun c=>m.testBit (kix c)) 3 (by decide))
   have hsz:=selN_size (fun c=>m.testBit (kix c)) 3
   have HKS:=hide (fun W=>nkindSign_c 122 (by unfold KOk;omega) W)
   have hb:bits .and .i64 (m:Int) 8=((m&&&8:Nat):Int):=bits_and_nat m 8 hm (by decide)
   have hq:=and_pow3 m hm
   have HY2:Hid (m.testBit 3=true→selN (fun c=>m.testBit (kix c)) 3++strOfNums [122]=selN (fun c=>m.testBit (kix c)) 4):=HY.out
   have HN2:Hid (m.testBit 3=false→selN (fun c=>m.testBit (kix c)) 3=selN (fun c=>m.testBit (kix c)) 4):=HN.out
   have HKS2:Hid (∀ W,Calls Tryz.prog 85 #[.int .i64 8] W fun e w'=>e=.returned (.string (strOfNums [122]))∧w'=W):=HKS.out
   have hs1:=str1 122
   clear HY HN HKS
   generalize ((m&&&8:Nat):Int)=v at *
   generalize m.testBit 3=p at *
   generalize selN (fun c=>m.testBit (kix c)) 3=tj at *
   cases p
   all_goals
    go_wp2_with (go_at_call 85;refine (HKS2.out _).mono ?_;rintro e w' ⟨rfl,rfl⟩)
    go_roundg (7-4)
    case measure=>have:=HKK.out;omega
    case rel=>exact ⟨4,by decide,rfl,rfl,by first|(rw [← HN2.out (by first|rfl|trivial)];done)|(rw [← HY2.out (by first|rfl|trivial)];done),rfl⟩
  ·have HY:=hide (selN_yes (fun c=>m.testBit (kix c)) 4 (by decide))
   have HN:=hide (selN_no (fun c=>m.testBit (kix c)) 4 (by decide))
   have hsz:=selN_size (fun c=>m.testBit (kix c)) 4
   have HKS:=hide (fun W=>nkindSign_c 65 (by unfold KOk;omega) W)
   have hb:bits .and .i64 (m:Int) 16=((m&&&16:Nat):Int):=bits_and_nat m 16 hm (by decide)
   have hq:=and_pow4 m hm
   have HY2:Hid (m.testBit 4=true→selN (fun c=>m.testBit (kix c)) 4++strOfNums [65]=selN (fun c=>m.testBit (kix c)) 5):=HY.out
   have HN2:Hid (m.testBit 4=false→selN (fun c=>m.testBit (kix c)) 4=selN (fun c=>m.testBit (kix c)) 5):=HN.out
   have HKS2:Hid (∀ W,Calls Tryz.prog 85 #[.int .i64 16] W fun e w'=>e=.returned (.string (strOfNums [65]))∧w'=W):=HKS.out
   have hs1:=str1 65
   clear HY HN HKS
   generalize ((m&&&16:Nat):Int)=v at *
   generalize m.testBit 4=p at *
   generalize selN (fun c=>m.testBit (kix c)) 4=tj at *
   cases p
   all_goals
    go_wp2_with (go_at_call 85;refine (HKS2.out _).mono ?_;rintro e w' ⟨rfl,rfl⟩)
    go_roundg (7-5)
    case measure=>have:=HKK.out;omega
    case rel=>exact ⟨5,by decide,rfl,rfl,by first|(rw [← HN2.out (by first|rfl|trivial)];done)|(rw [← HY2.out (by first|rfl|trivial)];done),rfl⟩
  ·have HY:=hide (selN_yes (fun c=>m.testBit (kix c)) 5 (by decide))
   have HN:=hide (selN_no (fun c=>m.testBit (kix c)) 5 (by decide))
   have hsz:=selN_size (fun c=>m.testBit (kix c)) 5
   have HKS:=hide (fun W=>nkindSign_c 66 (by unfold KOk;omega) W)
   have hb:bits .and .i64 (m:Int) 32=((m&&&32:Nat):Int):=bits_and_nat m 32 hm (by decide)
   have hq:=and_pow5 m hm
   have HY2:Hid (m.testBit 5=true→selN (fun c=>m.testBit (kix c)) 5++strOfNums [66]=selN (fun c=>m.testBit (kix c)) 6):=HY.out
   have HN2:Hid (m.testBit 5=false→selN (fun c=>m.testBit (kix c)) 5=selN (fun c=>m.testBit (kix c)) 6):=HN.out
   have HKS2:Hid (∀ W,Calls Tryz.prog 85 #[.int .i64 32] W fun e w'=>e=.returned (.string (strOfNums [66]))∧w'=W):=HKS.out
   have hs1:=str1 66
   clear HY HN HKS
   generalize ((m&&&32:Nat):Int)=v at *
   generalize m.testBit 5=p at *
   generalize selN (fun c=>m.testBit (kix c)) 5=tj at *
   cases p
   all_goals
    go_wp2_with (go_at_call 85;refine (HKS2.out _).mono ?_;rintro e w' ⟨rfl,rfl⟩)
    go_roundg (7-6)
    case measure=>have:=HKK.out;omega
    case rel=>exact ⟨6,by decide,rfl,rfl,by first|(rw [← HN2.out (by first|rfl|trivial)];done)|(rw [← HY2.out (by first|rfl|trivial)];done),rfl⟩
  ·have HY:=hide (selN_yes (fun c=>m.testBit (kix c)) 6 (by decide))
   have HN:=hide (selN_no (fun c=>m.testBit (kix c)) 6 (by decide))
   have hsz:=selN_size (fun c=>m.testBit (kix c)) 6
   have HKS:=hide (fun W=>nkindSign_c 67 (by unfold KOk;omega) W)
   have hb:bits .and .i64 (m:Int) 64=((m&&&64:Nat):Int):=bits_and_nat m 64 hm (by decide)
   have hq:=and_pow6 m hm
   have HY2:Hid (m.testBit 6=true→selN (fun c=>m.testBit (kix c)) 6++strOfNums [67]=selN (fun c=>m.testBit (kix c)) 7):=HY.out
   have HN2:Hid (m.testBit 6=false→selN (fun c=>m.testBit (kix c)) 6=selN (fun c=>m.testBit (kix c)) 7):=HN.out
   have HKS2:Hid (∀ W,Calls Tryz.prog 85 #[.int .i64 64] W fun e w'=>e=.returned (.string (strOfNums [67]))∧w'=W):=HKS.out
   have hs1:=str1 67
   clear HY HN HKS
   generalize ((m&&&64:Nat):Int)=v at *
   generalize m.testBit 6=p at *
   generalize selN (fun c=>m.testBit (kix c)) 6=tj at *
   cases p
   all_goals
    go_wp2_with (go_at_call 85;refine (HKS2.out _).mono ?_;rintro e w' ⟨rfl,rfl⟩)
    go_roundg (7-7)
    case measure=>have:=HKK.out;omega
    case rel=>exact ⟨7,by decide,rfl,rfl,by first|(rw [← HN2.out (by first|rfl|trivial)];done)|(rw [← HY2.out (by first|rfl|trivial)];done),rfl⟩
def txS (s:St):ByteArray:=if s=[] then ⟨#[63]⟩ else stB ⟨#[]⟩ s
theorem stB_acc (a:ByteArray) (s:St):stB a s=a++stB ⟨#[]⟩ s:=by
 have key:∀ (s:St) (a b:ByteArray),stB (a++b) s=a++stB b s:=by
  intro s
  induction s with
  | nil=>intro a b;rfl
  | cons m s ih =>
   intro a b
   show stB (a++b++sgB m++⟨#[46]⟩) s=a++stB (b++sgB m++⟨#[46]⟩) s
   rw [← ih,ba_assoc,ba_assoc]
 have:=key s a ⟨#[]⟩
 rw [show a++(⟨#[]⟩:ByteArray)=a from ByteArray.append_empty] at this
 exact this
theorem rowB_tx (a:ByteArray) (s:St):rowB a s=a++(txS s++⟨#[59]⟩):=by
 unfold rowB txS
 split
 ·rename_i h;subst h
  show a++⟨#[63]⟩++⟨#[59]⟩=_
  rw [ba_assoc]
 ·rw [stB_acc,ba_assoc]
theorem txS_size (s:St) (h:SOk s):(txS s).size≤48:=by
 unfold txS
 split
 ·decide
 ·rename_i h0
  have h1:=stB_size ⟨#[]⟩ s
  have h2:=(h.resolve_left h0).1
  have h3:(ByteArray.mk #[]).size=0:=rfl
  omega
set_option maxRecDepth 100000 in
set_option maxHeartbeats 1600000 in
theorem stateText_c (s:St) (w:World) (h:SOk s) :
  Calls Tryz.prog 44 #[.agg (zc (encZ s)).toArray] w fun e w'=>e=.returned (.string (txS s))∧Kp no w w':=by
 obtain ⟨m0,m1,m2,m3,m4,m5,hm⟩:=z6_six (encZ_z6 h)
 have HZ6:=hide (show Z6 [m0,m1,m2,m3,m4,m5] from hm ▸ encZ_z6 h)
 have HEX:=hide (exS_enc h)
 rw [hm] at HEX ⊢
 rw [show Value.agg (zc [m0,m1,m2,m3,m4,m5]).toArray=zv6 m0 m1 m2 m3 m4 m5 from rfl]
 have HX:=hide (fun b W hW=>exists_c b [m0,m1,m2,m3,m4,m5] W hW HZ6.out)
 rw [HEX.out] at HX
 by_cases h0:s=[]
 ·rw [decide_eq_false (fun e=>e h0)] at HX
  have HT:=hide (show txS s=⟨#[63]⟩ by rw [txS,if_pos h0])
  clear h0 hm HEX
  go_enter Tryz.func44,Tryz.ntmps44
  go_wp2_with fail
  refine (HX.out _ _ (by (show Blk _ _ [.int .i64 m0,.int .i64 m1,.int .i64 m2,.int .i64 m3,.int .i64 m4,.int .i64 m5] _);(exact blA))).mono ?_
  rintro e w' ⟨rfl,rfl⟩
  go_wp2
  go_ret
  rw [HT.out]
  exact ⟨rfl,by (exact kpA)⟩
 ·rw [decide_eq_true h0] at HX
  have hF:=h.ful h0
  have hs:s=[m0,m1,m2,m3,m4,m5]:=by rw [← encZ_ful hF];exact hm
  have HT:=hide (show txS s=stB ⟨#[]⟩ [m0,m1,m2,m3,m4,m5] by rw [txS,if_neg h0,hs])
  have HIX:=hide (fun W j hj=>zIx W m0 m1 m2 m3 m4 m5 j hj)
  have HST:=hide (fun j hj=>stB_take ⟨#[]⟩ [m0,m1,m2,m3,m4,m5] j hj)
  have HSZ:=hide (fun j=>stB_size ⟨#[]⟩ (List.take j [m0,m1,m2,m3,m4,m5]))
  have HKT:=hide (fun j W=>kindsText_c (List.getD [m0,m1,m2,m3,m4,m5] j 0) W (HZ6.out.get j))
  clear h0 hm HEX hF hs h
  go_enter Tryz.func44,Tryz.ntmps44
  go_wp2_with fail
  refine (HX.out _ _ (by (show Blk _ _ [.int .i64 m0,.int .i64 m1,.int .i64 m2,.int .i64 m3,.int .i64 m4,.int .i64 m5] _);(exact blA))).mono ?_
  rintro e w' ⟨rfl,rfl⟩
  clear HX
  go_wp2
  go_loopg [3,11] 6 (fun k tv iv wr=>∃ j:Nat,j≤6∧k=6-j∧iv=.int .i64 j∧tv=.string (stB ⟨#[]⟩ (List.take j [m0,m1,m2,m3,m4,m5]))∧Kp no w wr)
  case atStart=>exact ⟨0,by decide,rfl,rfl,rfl,by (exact kpA)⟩
  case round =>
   obtain ⟨j,hj,hk,rfl,rfl,kr⟩:=hrel
   have HKK:=hide hk
   have HKR:=hide kr
   clear hk kr
   by_cases hlt:j<6
   ·have hix:=HIX.out wr j hlt
    have HS2:=hide (HST.out j hlt)
    have hz2:=HSZ.out j
    have hz3:(stB ⟨#[]⟩ (List.take j [m0,m1,m2,m3,m4,m5])).size≤48:=Nat.le_trans hz2 (by rw [List.length_take,show (ByteArray.mk #[]).size=0 from rfl];simp;omega)
    have HK2:=hide (HKT.out j)
    have hs4:=sg_size (List.getD [m0,m1,m2,m3,m4,m5] j 0)
    have e46:(ByteArray.mk #[46]).size=1:=rfl
    clear hz2 HIX HST HSZ HKT
    generalize hgd:List.getD [m0,m1,m2,m3,m4,m5] j 0=mj at *
    clear hgd
    generalize stB ⟨#[]⟩ (List.take j [m0,m1,m2,m3,m4,m5])=acc at *
    generalize sgB mj=sg at *
    go_wp2_with (go_at_call 78;refine (HK2.out _).mono ?_;rintro e w' ⟨rfl,rfl⟩)
    go_roundg (6-(j+1))
    case measure=>have:=HKK.out;omega
    case rel=>exact ⟨j+1,by omega,rfl,by go_num,by rw [HS2.out,ba_assoc],HKR.out⟩
   ·obtain rfl:j=6:=by omega
    go_wp2
    go_ret
    rw [HT.out]
    exact ⟨rfl,HKR.out⟩
theorem tb_at {w:World} {tb:Nat} {T:Tbl} (h:Blk w tb (tCells T) 75) {i:Nat} (hi:i<T.length) {m0 m1 m2 m3 m4 m5:Nat} (hm:encZ (T.getD i [])=[m0,m1,m2,m3,m4,m5]) :
  w.cell? ⟨tb,i*6,none⟩=some (.int .i64 m0)∧w.cell? ⟨tb,i*6+1,none⟩=some (.int .i64 m1)∧w.cell? ⟨tb,i*6+2,none⟩=some (.int .i64 m2)∧w.cell? ⟨tb,i*6+3,none⟩=some (.int .i64 m3)∧w.cell? ⟨tb,i*6+4,none⟩=some (.int .i64 m4)∧w.cell? ⟨tb,i*6+5,none⟩=some (.int .i64 m5):=by
 rw [List.getD_eq_getElem?_getD,List.getElem?_eq_getElem hi,Option.getD_some] at hm
 have hc:∀ j,j<6→w.cell? ⟨tb,i*6+j,none⟩=(zc [m0,m1,m2,m3,m4,m5])[j]?:=fun j hj=>by
  rw [h.cell,tCells,flat_get (fun s=>zc (encZ s)) 6 zce6 T i j hi hj,hm]
 exact ⟨hc 0 (by decide),hc 1 (by decide),hc 2 (by decide),hc 3 (by decide),hc 4 (by decide),hc 5 (by decide)⟩
set_option maxRecDepth 100000 in
set_option maxHeartbeats 1600000 in
theorem tableText_c (tb:Nat) (T:Tbl) (w:World) (h:Blk w tb (tCells T) 75) (hT:TOk T) (hl:T.length≤90) :
  Calls Tryz.prog 21 #[.slice (some ⟨tb,0,none⟩) T.length T.length] w fun e w'=>e=.returned (.string (splB T))∧Kp no w w':=by
 have HB:=hide h
 clear h
 go_enter Tryz.func21,Tryz.ntmps21
 go_wp2
 go_loopg [3,9] T.length (fun k sv iv wr=>∃ j:Nat,j≤T.length∧k=T.length-j∧iv=.int .i64 j∧sv=.string (splB (T.take j))∧Kp no w wr)
 case atStart=>exact ⟨0,Nat.zero_le _,rfl,rfl,rfl,Kp.refl _ _⟩
 case round =>
  obtain ⟨j,hj,hk,rfl,rfl,kr⟩:=hrel
  have HKK:=hide hk
  have HKR:=hide kr
  clear hk kr
  by_cases hlt:j<T.length
  ·have HRW:=hide (splB_take T j hlt)
   have hsz:=Nat.le_trans (splB_size _ (hT.take j)) (Nat.mul_le_mul_left 50 (show (T.take j).length≤90 by rw [List.length_take];omega))
   have hSO:=hT.get j
   obtain ⟨m0,m1,m2,m3,m4,m5,hm⟩:=z6_six (encZ_z6 hSO)
   have hbr:=HKR.out.blk HB.out no_elim
   obtain ⟨c0,c1,c2,c3,c4,c5⟩:=tb_at hbr hlt hm
   have hbl:=hbr.lt
   have HTX:=hide (fun W=>stateText_c (T.getD j []) W hSO)
   rw [hm] at HTX
   have HTX2:Hid (∀ W,Calls Tryz.prog 44 #[zv6 m0 m1 m2 m3 m4 m5] W fun e w'=>e=.returned (.string (txS (T.getD j [])))∧Kp no W w'):=HTX.out
   have hs2:=txS_size _ hSO
   rw [rowB_tx] at HRW
   have e59:(ByteArray.mk #[59]).size=1:=rfl
   clear hbr hSO hm HTX
   generalize txS (T.getD j [])=tx at *
   generalize splB (T.take j)=acc at *
   have hjI:(j:Int)<T.length:=by omega
   go_wp2_with fail
   refine (HTX2.out _).mono ?_
   rintro e w5 ⟨rfl,k5⟩
   go_wp2
   go_roundg (T.length-(j+1))
   case measure=>have:=HKK.out;omega
   case rel=>exact ⟨j+1,by omega,rfl,by go_num,by rw [HRW.out],(HKR.out.alloc _).trans k5 (fun _ _ e=>e)⟩
  ·obtain rfl:j=T.length:=by omega
   rw [List.take_length]
   go_wp2
   go_ret
   exact ⟨rfl,HKR.out⟩
end Go.Proofs.YtellieabhaphhabGreatDoor
namespace Go.Proofs.YtellieabhaphhabGreatDoor
open Go.RowKit
set_option maxHeartbeats 1600000 in
theorem nflow_long (s:ByteArray) (w:World) (hm:s.size≤maxLen) (hs:900<s.size) :
  Calls Tryz.prog 9 #[.string s] w fun e w'=>e=em2 1∧Kp no w w':=by
 have HS:=hide (nog_long s w hm hs)
 go_enter Tryz.func9,Tryz.ntmps9
 go_wp2_with fail
 refine HS.out.mono ?_
 rintro e w1 ⟨rfl,k1⟩
 go_wp2
 go_ret2
 exact ⟨rfl,k1⟩
set_option maxHeartbeats 1600000 in
theorem nflow_bad (s:ByteArray) (w:World) (hs:s.size≤900) (hb:(graE s).1≠0) :
  Calls Tryz.prog 9 #[.string s] w fun e w'=>e=em2 (graE s).1∧Kp no w w':=by
 have HS:=hide (nog_c s w hs)
 have hb':(((graE s).1:Int) == 0)=false:=by simp;omega
 unfold NogPost at HS
 generalize graE s=ge at *
 obtain ⟨ge1,ge2⟩:=ge
 dsimp only at *
 clear hb
 go_enter Tryz.func9,Tryz.ntmps9
 go_wp2_with fail
 refine HS.out.mono ?_
 rintro e w1 ⟨v,rfl,k1,_⟩
 go_wp2
 go_ret2
 exact ⟨rfl,k1⟩
set_option maxHeartbeats 1600000 in
theorem nflow_good (s:ByteArray) (w:World) (hs:s.size≤900) (hb:graE s=(0,0)) :
  Calls Tryz.prog 9 #[.string s] w fun e w'=>e=.returned (.tuple #[.string (splB (lstF (graF s).nodes)),.int .i64 0])∧Kp no w w':=by
 have HS:=hide (nog_c s w hs)
 have hlen:=(graF_inv s).2
 unfold NogPost at HS
 rw [hb] at HS
 clear hb
 generalize graF s=st at *
 go_enter Tryz.func9,Tryz.ntmps9
 go_wp2_with fail
 refine HS.out.mono ?_
 rintro e w2 ⟨v,rfl,k2,hpost⟩
 obtain ⟨hR,hO,hgd⟩:=hpost trivial
 have HL:=hide (leastTable_c s v st.nodes w2 hR hlen hgd)
 obtain ⟨a,cap,rfl⟩:=hR.shape
 rw [List.length_map] at HL ⊢
 clear hO hgd hpost HS hR
 go_wp2_with fail
 refine HL.out.mono ?_
 rintro e w3 ⟨tb,rfl,hB,k3⟩
 have HT:=hide (fun W hW=>tableText_c tb (lstF st.nodes) W hW (lst_ok st.nodes) (by rw [lst_len];exact hlen))
 rw [lst_len] at HT
 go_wp2_with fail
 refine (HT.out _ (by exact hB)).mono ?_
 rintro e w4 ⟨rfl,k4⟩
 go_wp2
 go_ret2
 exact ⟨rfl,(k2.trans k3 (fun _ _ e=>e)).trans k4 (fun _ _ e=>e)⟩
def FlowIs (s:ByteArray) (t:ByteArray) (c:Int):Prop :=
 (∀ W,Calls Tryz.prog 9 #[.string s] W fun e w'=>e=.returned (.tuple #[.string t,.int .i64 c])∧Kp no W w') ∧
 (∀ W,Calls Tryz.prog 31 #[.string s] W fun e w'=>e=.returned (.tuple #[.string t,.int .i64 c])∧Kp no W w')
theorem flow_both (s:ByteArray) (hs:s.size≤maxLen):∃ t c,FlowIs s t c:=by
 by_cases hs9:s.size≤900
 ·by_cases hb:(graE s).1=0
  ·obtain ⟨e1,e2⟩:=graE_zero s hb
   obtain ⟨_,g2⟩:=graF_gd s
   exact ⟨_,_,fun W=>nflow_good s W hs9 e1,fun W=>rflow_good s W hs9 e1 (fun n hn=>(g2 e2 n hn).g)⟩
  ·exact ⟨_,_,fun W=>nflow_bad s W hs9 hb,fun W=>rflow_bad s W hs9 hb⟩
 ·exact ⟨_,_,fun W=>nflow_long s W hs (by omega),fun W=>rflow_long s W hs (by omega)⟩
end Go.Proofs.YtellieabhaphhabGreatDoor
namespace Go.Proofs.YtellieabhaphhabGreatDoor
open Go.RowKit
set_option maxRecDepth 100000 in
set_option maxHeartbeats 1600000 in
theorem lplays_flow (b c:Int) (s t u:ByteArray) (w:World) (hs:s.size≤maxLen) :
  Calls Tryz.prog 16 #[.agg #[.int .i64 4,.int .i64 b,.int .i64 c,.string s,.string t,.string u]] w fun e w'=>e=.returned (.bool true)∧Kp no w w':=by
 obtain ⟨x,z,hw⟩:=flow_both s hs
 have HN:=hide hw.1
 have HR:=hide hw.2
 have HNU:=hide (fun W=>lnum_c z W)
 clear hw
 go_enter Tryz.func16,Tryz.ntmps16
 go_wp2_with fail
 refine (HN.out _).mono ?_
 rintro e w1 ⟨rfl,k1⟩
 have hO:Blk w1 w.heap.size [.int .i64 4,.int .i64 b,.int .i64 c,.string s,.string t,.string u] 25:=k1.blk (by (exact blA)) no_elim
 have o0:=hO.cell 0;have o1:=hO.cell 1;have o2:=hO.cell 2;have o3:=hO.cell 3;have o4:=hO.cell 4;have o5:=hO.cell 5
 simp only [List.getElem?_cons_zero,List.getElem?_cons_succ] at o0 o1 o2 o3 o4 o5
 have of:=hO.frozen
 have hz:=hO.lt
 go_wp2_with fail
 refine (HR.out _).mono ?_
 rintro e w2 ⟨rfl,k2⟩
 clear o0 o1 o2 o3 o4 o5 of
 go_wp2_with (go_at_call 10;refine (HNU.out _).mono ?_;rintro e w' ⟨rfl,rfl⟩)
 go_ret
 exact ⟨by simp,by (exact kpA)⟩
end Go.Proofs.YtellieabhaphhabGreatDoor
namespace Go.Proofs.YtellieabhaphhabGreatDoor
open Go.RowKit
def fitF (n:Nd) (S:St):Bool :=
 decide (S.getD n.y.toNat 0&&&tkN n.op=S.getD n.y.toNat 0) && ((if n.op=43∨n.op=60 then decide (S.getD n.v.toNat 0&&&tkN n.op=S.getD n.v.toNat 0) else true) && decide (n.op≠33))
def fauF (n:Nd) (S:St):Int:=if S=[] then 0 else if fitF n S then 0 else if n.op=33 then 6 else 5
def accG (n:Nat) (f:Nat→Int):Int × Nat:=match (List.range n).find? (fun i=>decide (f i≠0)) with|some i=>(f i,i)|none=>(0,0)
theorem accG_at {n:Nat} {f:Nat→Int} {j:Nat} (hj:j<n) (h:f j≠0) (hb:∀ i,i<j→f i=0):accG n f=(f j,j):=by
 have e:(List.range n).find? (fun i=>decide (f i≠0))=some j:=by
  rw [List.find?_range_eq_some]
  exact ⟨by simpa using h,by simpa using hj,fun i hi=>by simpa using hb i hi⟩
 rw [accG,e]
theorem accG_none {n:Nat} {f:Nat→Int} (hb:∀ i,i<n→f i=0):accG n f=(0,0):=by
 have e:(List.range n).find? (fun i=>decide (f i≠0))=none:=by
  rw [List.find?_range_eq_none]
  exact fun i hi=>by simpa using hb i hi
 rw [accG,e]
def fauA (l:List Nd) (T:Tbl) (i:Nat):Int:=match l[i]? with|some n=>fauF n (T.getD i [])|none=>0
set_option maxRecDepth 100000 in
set_option maxHeartbeats 1600000 in
theorem fits_c (n:Nd) (v:Value) (s:St) (w:World) (h:SV w v s) (hs:SOk s) (h0:s≠[]) (hg:Gn n) :
  Calls Tryz.prog 64 #[.agg #[.int .u8 n.op,.int .i64 n.x,.int .i64 n.y,.int .i64 n.v,.int .u8 n.k,.int .i64 n.t,.int .i64 n.f,.int .i64 n.a,.int .i64 n.l],v] w fun e w'=>e=.returned (.bool (fitF n s))∧Kp no w w':=by
 obtain ⟨y,hy⟩:=Int.eq_ofNat_of_zero_le hg.y.1
 obtain ⟨z,hz⟩:=Int.eq_ofNat_of_zero_le hg.v.1
 have hy6:y<6:=by have:=hg.y.2;omega
 have hz6:z<6:=by have:=hg.v.2;omega
 have HE:=hide (show fitF n s=(decide (s.getD y 0&&&tkN n.op=s.getD y 0) && ((if n.op=43∨n.op=60 then decide (s.getD z 0&&&tkN n.op=s.getD z 0) else true) && decide (n.op≠33))) by
  rw [fitF,hy,hz,Int.toNat_natCast,Int.toNat_natCast])
 rw [HE.out]
 obtain ⟨h6,hm⟩:=hs.resolve_left h0
 obtain ⟨a,cap,rfl⟩:=h.shape
 have h':Row w (.slice a s.length cap) 9 1 s.length (sgS s):=h
 rw [h6] at h' ⊢
 clear h
 have HT:=hide (fun W=>takes_c n W)
 rw [tak_sg] at HT
 have HWY:=hide (fun W=>within_c (sgB (s.getD y 0)) (sgB (tkN n.op)) W (Nat.le_trans (sg_size _) (by decide)) (Nat.le_trans (sg_size _) (by decide)))
 have HWV:=hide (fun W=>within_c (sgB (s.getD z 0)) (sgB (tkN n.op)) W (Nat.le_trans (sg_size _) (by decide)) (Nat.le_trans (sg_size _) (by decide)))
 rw [sub_sg _ _ (hs.get y)] at HWY
 rw [sub_sg _ _ (hs.get z)] at HWV
 obtain ⟨op,nx,ny,nv,nk,nt,nff,na,nl⟩:=n
 dsimp only at *
 subst hy hz
 obtain ⟨g,rfl,hgl,hgc⟩:=SV.at h' (k:=y) hy6
 obtain ⟨g',e',_,hgc2⟩:=SV.at h' (k:=z) hz6
 injection e' with e'
 injection e' with e'
 subst e'
 have HC1:=hide hgc
 have HC2:=hide hgc2
 clear HE h6 hm hgc hgc2
 generalize decide (s.getD y 0&&&tkN op=s.getD y 0)=p at *
 generalize decide (s.getD z 0&&&tkN op=s.getD z 0)=q at *
 generalize sgB (tkN op)=tk at *
 generalize sgB (s.getD y 0)=sy at *
 generalize sgB (s.getD z 0)=sz at *
 have hyI:(y:Int)<6:=by omega
 have hzI:(z:Int)<6:=by omega
 by_cases ho:op=43∨op=60
 ·have h33:(op != 33)=true:=by rcases ho with e|e <;> rw [e] <;> rfl
  have h33':decide (op≠33)=true:=by rcases ho with e|e <;> rw [e] <;> rfl
  have hgg:((op == 43)=true)∨((op == 43)=false∧(op == 60)=true):=by
   rcases ho with rfl|rfl
   ·exact .inl rfl
   ·exact .inr ⟨rfl,rfl⟩
  rw [if_pos ho,h33']
  clear ho h33'
  rcases hgg with g5|⟨g5,g6⟩ <;> cases p <;> cases q
  all_goals
   go_enter Tryz.func64,Tryz.ntmps64
   go_wp2_with fail
   refine (HT.out _).mono ?_
   rintro e w1 ⟨rfl,k1⟩
   have hN:Blk w1 w.heap.size [.int .u8 op,.int .i64 nx,.int .i64 y,.int .i64 z,.int .u8 nk,.int .i64 nt,.int .i64 nff,.int .i64 na,.int .i64 nl] 111:=k1.blk (by (exact blA)) no_elim
   have HK1:=hide (show Kp no w w1 from Kp.trans (by (exact kpA)) k1 (fun _ _ e=>e))
   obtain ⟨n0,n1,n2,n3,n4,n5,n6,n7,n8,nf⟩:=hN.c9;have hnl:=hN.lt
   have hc1:=(HK1.out.cell hgl no_elim y).trans HC1.out
   have hc2:=(HK1.out.cell hgl no_elim z).trans HC2.out
   have hg1:=Nat.lt_of_lt_of_le hgl HK1.out.size
   clear k1 hN
   go_wp2_with fail
   refine (HWY.out _).mono ?_
   rintro e w' ⟨rfl,rfl⟩
   go_wp2_with fail
   refine (HWV.out _).mono ?_
   rintro e w' ⟨rfl,rfl⟩
   go_wp2
   go_ret
   exact ⟨rfl,HK1.out⟩
 ·have h33:(op != 33)=decide (op≠33):=by
   by_cases e:op=33
   ·rw [e];rfl
   ·rw [decide_eq_true e];simpa using e
  have g5:(op == 43)=false:=by simp;omega
  have g6:(op == 60)=false:=by simp;omega
  rw [if_neg ho]
  clear ho
  generalize decide (op≠33)=r at *
  cases p <;> cases r
  all_goals
   go_enter Tryz.func64,Tryz.ntmps64
   go_wp2_with fail
   refine (HT.out _).mono ?_
   rintro e w1 ⟨rfl,k1⟩
   have hN:Blk w1 w.heap.size [.int .u8 op,.int .i64 nx,.int .i64 y,.int .i64 z,.int .u8 nk,.int .i64 nt,.int .i64 nff,.int .i64 na,.int .i64 nl] 111:=k1.blk (by (exact blA)) no_elim
   have HK1:=hide (show Kp no w w1 from Kp.trans (by (exact kpA)) k1 (fun _ _ e=>e))
   obtain ⟨n0,n1,n2,n3,n4,n5,n6,n7,n8,nf⟩:=hN.c9;have hnl:=hN.lt
   have hc1:=(HK1.out.cell hgl no_elim y).trans HC1.out
   have hc2:=(HK1.out.cell hgl no_elim z).trans HC2.out
   have hg1:=Nat.lt_of_lt_of_le hgl HK1.out.size
   clear k1 hN
   go_wp2_with fail
   refine (HWY.out _).mono ?_
   rintro e w' ⟨rfl,rfl⟩
   go_wp2
   go_ret
   exact ⟨rfl,HK1.out⟩
end Go.Proofs.YtellieabhaphhabGreatDoor
namespace Go.Proofs.YtellieabhaphhabGreatDoor
open Go.RowKit
theorem sub_not:∀ a:Fin 128,∀ t:Fin 128,((((a:Nat)&&&(127 ^^^ (t:Nat)):Nat):Int) != 0)=!decide ((a:Nat)&&&(t:Nat)=(a:Nat)):=by
 intro a t
 have ha:=a.2
 have ht:=t.2
 have key:((a:Nat)&&&(127 ^^^ (t:Nat))=0)↔(a:Nat)&&&(t:Nat)=(a:Nat):=by
  constructor
  ·intro h
   refine Nat.eq_of_testBit_eq fun i=>?_
   have hh:=congrArg (fun z=>z.testBit i) h
   simp only [Nat.testBit_and,Nat.testBit_xor,Nat.zero_testBit] at hh
   rw [Nat.testBit_and]
   by_cases hi:i<7
   ·have h127:Nat.testBit 127 i=true:=by
     rcases (show i=0∨i=1∨i=2∨i=3∨i=4∨i=5∨i=6 by omega) with rfl|rfl|rfl|rfl|rfl|rfl|rfl <;> decide
    rw [h127] at hh
    revert hh
    cases Nat.testBit (a:Nat) i <;> cases Nat.testBit (t:Nat) i <;> simp
   ·have h2:128≤2 ^ i:=by
     have:2 ^ 7≤2 ^ i:=Nat.pow_le_pow_right (by decide) (by omega)
     omega
    rw [Nat.testBit_lt_two_pow (show (a:Nat)<2 ^ i by omega)]
    simp
  ·intro h
   refine Nat.eq_of_testBit_eq fun i=>?_
   have hh:=congrArg (fun z=>z.testBit i) h
   simp only [Nat.testBit_and] at hh
   rw [Nat.testBit_and,Nat.testBit_xor,Nat.zero_testBit]
   by_cases hi:i<7
   ·have h127:Nat.testBit 127 i=true:=by
     rcases (show i=0∨i=1∨i=2∨i=3∨i=4∨i=5∨i=6 by omega) with rfl|rfl|rfl|rfl|rfl|rfl|rfl <;> decide
    rw [h127]
    revert hh
    cases Nat.testBit (a:Nat) i <;> cases Nat.testBit (t:Nat) i <;> simp
   ·have h2:128≤2 ^ i:=by
     have:2 ^ 7≤2 ^ i:=Nat.pow_le_pow_right (by decide) (by omega)
     omega
    rw [Nat.testBit_lt_two_pow (show (a:Nat)<2 ^ i by omega)]
    simp
 by_cases h:(a:Nat)&&&(t:Nat)=(a:Nat)
 ·rw [decide_eq_true h,key.2 h];rfl
 ·rw [decide_eq_false h]
  have:¬ ((a:Nat)&&&(127 ^^^ (t:Nat))=0):=fun e=>h (key.1 e)
  simpa using this
theorem or_sub (a b t:Nat):((a ||| b)&&&t=a ||| b)↔(a&&&t=a∧b&&&t=b):=by
 constructor
 ·intro h
  have hb:∀ i,(a.testBit i || b.testBit i)=true→t.testBit i=true:=fun i hi=>by
   have hh:=congrArg (fun z=>z.testBit i) h
   simp only [Nat.testBit_and,Nat.testBit_or] at hh
   rw [hi] at hh
   simpa using hh
  constructor
  ·refine Nat.eq_of_testBit_eq fun i=>?_
   rw [Nat.testBit_and]
   cases e:a.testBit i
   ·rfl
   ·rw [hb i (by rw [e];rfl)];rfl
  ·refine Nat.eq_of_testBit_eq fun i=>?_
   rw [Nat.testBit_and]
   cases e:b.testBit i
   ·rfl
   ·rw [hb i (by rw [e,Bool.or_true])];rfl
 ·rintro ⟨h1,h2⟩
  rw [Nat.and_or_distrib_right,h1,h2]
theorem fau_or {n:Nd} {S:St} {y v:Nat} (hy:n.y=y) (hv:n.v=v) (h0:S≠[]) (h33:n.op≠33) :
  fauF n S=if ((S.getD y 0 ||| S.getD (if n.op=43∨n.op=60 then v else y) 0)&&&tkN n.op=S.getD y 0 ||| S.getD (if n.op=43∨n.op=60 then v else y) 0) then 0 else 5:=by
 rw [fauF,if_neg h0,fitF,hy,hv,Int.toNat_natCast,Int.toNat_natCast,decide_eq_true h33,Bool.and_true,if_neg h33]
 by_cases ht:n.op=43∨n.op=60
 ·rw [if_pos ht,if_pos ht]
  by_cases h1:S.getD y 0&&&tkN n.op=S.getD y 0∧S.getD v 0&&&tkN n.op=S.getD v 0
  ·rw [if_pos ((or_sub _ _ _).2 h1),decide_eq_true h1.1,decide_eq_true h1.2];rfl
  ·rw [if_neg (fun e=>h1 ((or_sub _ _ _).1 e)),if_neg]
   intro e
   rw [Bool.and_eq_true,decide_eq_true_iff,decide_eq_true_iff] at e
   exact h1 e
 ·rw [if_neg ht,if_neg ht,Nat.or_self,Bool.and_true]
  by_cases h1:S.getD y 0&&&tkN n.op=S.getD y 0
  ·rw [if_pos h1,decide_eq_true h1];rfl
  ·rw [if_neg h1,decide_eq_false h1];rfl
end Go.Proofs.YtellieabhaphhabGreatDoor
namespace Go.Proofs.YtellieabhaphhabGreatDoor
open Go.RowKit
set_option maxRecDepth 100000 in
set_option maxHeartbeats 1600000 in
theorem faultOf_c (n:Nd) (tx:ByteArray) (yes nwy:Int) (S:St) (w:World) (hg:Gn n) (hS:SOk S) :
  Calls Tryz.prog 50 #[.agg #[.string tx,.int .i64 (actN n.op),.int .i64 n.x,.int .i64 n.y,.int .i64 (if n.op=43∨n.op=60 then n.v else n.y),.int .i64 (bit (consN n).k),.int .i64 (consN n).n,.int .i64 (bit (consN n).v),.int .i64 (if n.op=126∨n.op=58 then bit n.k else 0),.int .i64 yes,.int .i64 nwy],.agg (zc (encZ S)).toArray] w
   fun e w'=>e=.returned (.int .i64 (fauF n S))∧Kp no w w':=by
 obtain ⟨y,hy⟩:=Int.eq_ofNat_of_zero_le hg.y.1
 obtain ⟨v,hv⟩:=Int.eq_ofNat_of_zero_le hg.v.1
 have hy6:y<6:=by have:=hg.y.2;omega
 have hv6:v<6:=by have:=hg.v.2;omega
 have hw:(if n.op=43∨n.op=60 then n.v else n.y)=(((if n.op=43∨n.op=60 then v else y):Nat):Int):=by split <;> assumption
 have hw6:(if n.op=43∨n.op=60 then v else y)<6:=by split <;> assumption
 obtain ⟨m0,m1,m2,m3,m4,m5,hm⟩:=z6_six (encZ_z6 hS)
 have HZ6:=hide (show Z6 [m0,m1,m2,m3,m4,m5] from hm ▸ encZ_z6 hS)
 have HEX:=hide (exS_enc hS)
 have HF0:=hide (fun h0:S=[]=>show fauF n S=0 by rw [fauF,if_pos h0])
 have HF1:=hide (fun (h0:S≠[]) (h33:n.op=33)=>show fauF n S=6 by rw [fauF,if_neg h0,fitF,h33];simp)
 have HF2:=hide (fun (h0:S≠[]) h33=>fau_or (n:=n) (S:=S) hy hv h0 h33)
 have HSM:=hide (fun h0:S≠[]=>show S=[m0,m1,m2,m3,m4,m5] by rw [← encZ_ful (hS.ful h0)];exact hm)
 have HTK:=hide (fun W=>ntakenKinds_c (actN n.op) W)
 rw [tk_of hg.op] at HTK
 have htl:=tk_lt n.op
 rw [hm] at HEX ⊢
 rw [show Value.agg (zc [m0,m1,m2,m3,m4,m5]).toArray=zv6 m0 m1 m2 m3 m4 m5 from rfl,hw,hy]
 have HX:=hide (fun b W hW=>exists_c b [m0,m1,m2,m3,m4,m5] W hW HZ6.out)
 rw [HEX.out] at HX
 have ha33:n.op=33∧actN n.op=11∨n.op≠33∧actN n.op≠11:=by
  have ho:=hg.op
  unfold opOk at ho
  generalize n.op=o at *
  rcases ho with rfl|rfl|rfl|rfl|rfl|rfl|rfl|rfl|rfl|rfl|rfl|rfl|rfl|rfl|rfl|rfl|rfl|rfl <;> decide
 clear hm HEX hw hv
 generalize fauF n S=R at *
 generalize (if n.op=43∨n.op=60 then v else y)=z at *
 generalize (if n.op=126∨n.op=58 then bit n.k else 0)=kdv at *
 generalize (consN n).n=cnn at *
 generalize bit (consN n).k=ckk at *
 generalize bit (consN n).v=chh at *
 generalize n.x=nx at *
 by_cases h0:S=[]
 ·rw [decide_eq_false (fun e=>e h0)] at HX
  have HR:=hide (HF0.out h0)
  generalize actN n.op=act at *
  clear h0 ha33 HF1 HF2 HF0
  go_enter Tryz.func50,Tryz.ntmps50
  go_wp2_with fail
  refine (HX.out _ _ (by (show Blk _ _ [.int .i64 m0,.int .i64 m1,.int .i64 m2,.int .i64 m3,.int .i64 m4,.int .i64 m5] _);(exact blA))).mono ?_
  rintro e w' ⟨rfl,rfl⟩
  go_wp2
  go_ret
  rw [HR.out]
  exact ⟨rfl,by (exact kpA)⟩
 ·rw [decide_eq_true h0] at HX
  have hSm:=HSM.out h0
  rcases ha33 with ⟨h33,h11⟩|⟨h33,h11⟩
  ·have HR:=hide (HF1.out h0 h33)
   rw [h11]
   clear h0 h33 h11 HF1 HF2 HF0 hSm HSM
   go_enter Tryz.func50,Tryz.ntmps50
   go_wp2_with fail
   refine (HX.out _ _ (by (show Blk _ _ [.int .i64 m0,.int .i64 m1,.int .i64 m2,.int .i64 m3,.int .i64 m4,.int .i64 m5] _);(exact blA))).mono ?_
   rintro e w' ⟨rfl,rfl⟩
   go_wp2
   go_ret
   rw [HR.out]
   exact ⟨rfl,by (exact kpA)⟩
  ·have HR:=hide (HF2.out h0 h33)
   have g11:(actN n.op == 11)=false:=by simpa using h11
   subst hSm
   have hby:=HZ6.out.get y
   have hbz:=HZ6.out.get z
   have HKY:=hide (fun b W hW=>kindsOf_c b [m0,m1,m2,m3,m4,m5] y W hW HZ6.out hy6)
   have HKZ:=hide (fun b W hW=>kindsOf_c b [m0,m1,m2,m3,m4,m5] z W hW HZ6.out hw6)
   have hor:=bits_or_nat _ _ hby hbz
   have hnt:=bits_not_nat _ (tkN n.op) (or_lt hby hbz) htl
   have hsn:=sub_not ⟨_,or_lt hby hbz⟩ ⟨tkN n.op,htl⟩
   dsimp only at hsn
   clear h0 h33 h11 HF1 HF2 HF0 HSM
   generalize List.getD [m0,m1,m2,m3,m4,m5] y 0=my at *
   generalize List.getD [m0,m1,m2,m3,m4,m5] z 0=mz at *
   generalize tkN n.op=tk at *
   generalize actN n.op=act at *
   have HRR:=hide (show R=if decide ((my ||| mz)&&&tk=my ||| mz) then 0 else 5 by rw [HR.out];by_cases e:(my ||| mz)&&&tk=my ||| mz <;> simp [e])
   clear HR
   generalize decide ((my ||| mz)&&&tk=my ||| mz)=q at *
   generalize (((my ||| mz)&&&(127 ^^^ tk):Nat):Int)=nv at *
   generalize ((my ||| mz:Nat):Int)=ov at *
   cases q
   all_goals
    go_enter Tryz.func50,Tryz.ntmps50
    go_wp2_with fail
    refine (HX.out _ _ (by (show Blk _ _ [.int .i64 m0,.int .i64 m1,.int .i64 m2,.int .i64 m3,.int .i64 m4,.int .i64 m5] _);(exact blA))).mono ?_
    rintro e w' ⟨rfl,rfl⟩
    go_wp2_with fail
    refine (HKY.out _ _ (by (show Blk _ _ [.int .i64 m0,.int .i64 m1,.int .i64 m2,.int .i64 m3,.int .i64 m4,.int .i64 m5] _);(exact blA))).mono ?_
    rintro e w' ⟨rfl,rfl⟩
    go_wp2_with fail
    refine (HKZ.out _ _ (by (show Blk _ _ [.int .i64 m0,.int .i64 m1,.int .i64 m2,.int .i64 m3,.int .i64 m4,.int .i64 m5] _);(exact blA))).mono ?_
    rintro e w' ⟨rfl,rfl⟩
    go_wp2_with fail
    refine (HTK.out _).mono ?_
    rintro e w' ⟨rfl,rfl⟩
    go_wp2
    go_ret
    rw [HRR.out]
    exact ⟨rfl,by (exact kpA)⟩
end Go.Proofs.YtellieabhaphhabGreatDoor
namespace Go.Proofs.YtellieabhaphhabGreatDoor
open Go.RowKit
def accF (l:List Nd):Int × Nat:=accG l.length (fauA l (lstF l))
def ei2 (c p:Int):Ending:=.returned (.tuple #[.int .i64 c,.int .i64 p])
set_option maxHeartbeats 1600000 in
theorem raccept_long (s:ByteArray) (w:World) (hm:s.size≤maxLen) (hs:900<s.size) :
  Calls Tryz.prog 32 #[.string s] w fun e w'=>e=ei2 1 0∧Kp no w w':=by
 have HS:=hide (lines_long s w hm hs)
 go_enter Tryz.func32,Tryz.ntmps32
 go_wp2_with fail
 refine HS.out.mono ?_
 rintro e w1 ⟨⟨r,rfl⟩,k1⟩
 go_wp2
 go_ret2
 exact ⟨rfl,k1⟩
set_option maxHeartbeats 1600000 in
theorem raccept_bad (s:ByteArray) (w:World) (hs:s.size≤900) (hb:(graE s).1≠0) :
  Calls Tryz.prog 32 #[.string s] w fun e w'=>e=ei2 (graE s).1 (graE s).2∧Kp no w w':=by
 have HS:=hide (lines_c s w hs)
 have hb':(((graE s).1:Int) == 0)=false:=by simp;omega
 unfold LinPost at HS
 generalize graE s=ge at *
 obtain ⟨ge1,ge2⟩:=ge
 dsimp only at *
 clear hb
 go_enter Tryz.func32,Tryz.ntmps32
 go_wp2_with fail
 refine HS.out.mono ?_
 rintro e w1 ⟨r,O,rfl,hr,k1,hO⟩
 clear hr hO
 go_wp2
 go_ret2
 exact ⟨rfl,k1⟩
set_option maxRecDepth 100000 in
set_option maxHeartbeats 3200000 in
theorem raccept_good (s:ByteArray) (w:World) (hs:s.size≤900) (hb:graE s=(0,0)) (hg:∀ n∈(graF s).nodes,Gn n) :
  Calls Tryz.prog 32 #[.string s] w fun e w'=>e=ei2 (accF (graF s).nodes).1 (accF (graF s).nodes).2∧Kp no w w':=by
 have HS:=hide (lines_c s w hs)
 have hlen:=(graF_inv s).2
 unfold LinPost at HS
 rw [hb] at HS
 clear hb
 generalize graF s=st at *
 go_enter Tryz.func32,Tryz.ntmps32
 go_wp2_with fail
 refine HS.out.mono ?_
 rintro e w1 ⟨r,O,rfl,hr,k1,hO⟩
 obtain ⟨a,cap,n3,hD,hrl⟩:=rp_drow hr
 have HD:=hide hD
 have HN3:=hide n3
 clear hr hO hD HS
 go_wp2_with fail
 refine (least_c _ st.nodes _ HD.out hlen hg).mono ?_
 rintro e w2 ⟨u,rfl,hu,k2⟩
 obtain ⟨tb,c2,rfl,htb,hat⟩:=hu
 rw [lst_len] at hat ⊢
 have HAT:=hide hat
 have HD2:=hide (k2.row HD.out (fun _ _=>no_elim))
 have HN2:=hide ((k2.cell hrl no_elim 3).trans HN3.out)
 have hr2:=Nat.lt_of_lt_of_le hrl k2.size
 have HKW:=hide (k1.trans k2 (fun _ _ e=>e))
 have HACC:Hid (accF st.nodes=accG st.nodes.length (fauA st.nodes (lstF st.nodes))):=rfl
 have HOK:=hide (lst_ok st.nodes)
 clear hat k1 k2 HD HN3 n3 hrl
 generalize lstF st.nodes=T at *
 generalize hl0:st.nodes=l at *
 have HL0:=hide hl0
 clear hl0
 go_wp2
 go_loopg [8] l.length (fun k iv wr=>∃ j:Nat,j≤l.length∧k=l.length-j∧iv=.int .i64 j∧(∀ i,i<j→fauA l T i=0)∧Kp no w2 wr)
 case atStart=>exact ⟨0,Nat.zero_le _,rfl,rfl,fun i hi=>by omega,Kp.refl _ _⟩
 case round =>
  obtain ⟨j,hj,hk,rfl,hz,kr⟩:=hrel
  have HKK:=hide hk
  have HZ:=hide hz
  have HKR:=hide kr
  clear hk hz kr
  by_cases hlt:j<l.length
  ·obtain ⟨nd,hnd⟩:∃ nd,l[j]?=some nd:=⟨_,List.getElem?_eq_getElem hlt⟩
   have HND:=hide hnd
   have HGN:=hide (hg nd (List.mem_of_getElem? hnd))
   have HFA:=hide (show fauA l T j=fauF nd (T.getD j []) by rw [fauA,hnd])
   obtain ⟨_,gn,ha,_⟩:=DRow.at HD2.out hnd
   subst ha
   obtain ⟨a1,p1,q0w,q1w⟩:=HAT.out j hlt
   have HSO:=hide (HOK.out.get j)
   clear hnd
   generalize T.getD j []=S at *
   have hjI:(j:Int)<l.length:=by omega
   have q0:=(HKR.out.cell htb no_elim j).trans q0w
   have HQ1:=hide q1w
   have HR2:=hide (HKR.out.row HD2.out (fun _ _=>no_elim))
   obtain ⟨gnl,n0,n1,n2,n3,n4,n5,n6,n7,n8⟩:=DRow.at2 HR2.out HND.out
   have c3:=(HKR.out.cell hr2 no_elim 3).trans HN2.out
   have htr:=Nat.lt_of_lt_of_le htb HKR.out.size
   have hrr:=Nat.lt_of_lt_of_le hr2 HKR.out.size
   clear q0w q1w
   by_cases hS0:S=[]
   ·have HF0:=hide (show fauA l T j=0 by rw [HFA.out,fauF,if_pos hS0])
    subst hS0
    go_wp2
    go_roundg (l.length-(j+1))
    case measure=>have:=HKK.out;omega
    case rel=>exact ⟨j+1,by omega,rfl,by go_num,fun i hi=>by
     rcases Nat.lt_or_ge i j with h1|h1
     ·exact HZ.out i h1
     ·obtain rfl:i=j:=by omega
      exact HF0.out,HKR.out⟩
   ·have h6:S.length=6:=(HSO.out.resolve_left hS0).1
    have hSI:(0:Int)<(S.length:Int):=by omega
    clear h6
    have HFF:=hide (show fauA l T j=if fitF nd S then 0 else if nd.op=33 then 6 else 5 by rw [HFA.out,fauF,if_neg hS0])
    go_wp2_with fail
    go_cut [9] from 25 (fun okv W5=>okv=.bool (fitF nd S)∧Kp no w2 W5)
    case first =>
     go_region_with (go_at_call 64;refine (fits_c nd _ S _ (Kp.row (S:=no) (HKR.out.trans (S':=no) (by (exact kpA)) (fun _ _ e=>e)) HQ1.out (fun _ _=>no_elim)) HSO.out hS0 HGN.out).mono ?_;rintro e w5 ⟨rfl,k5⟩)
     all_goals
      go_wp2
      go_meet
      case rel =>
       have k6:Kp no wr w5:=Kp.trans (by (exact kpA)) k5 (fun _ _ e=>e)
       exact ⟨rfl,HKR.out.trans (S':=no) (by (exact kpA)) (fun _ _ e=>e)⟩
    case rest =>
     obtain ⟨rfl,kc⟩:=hcut
     clear q0 gnl n0 n1 n2 n3 n4 n5 n6 n7 n8 c3 htr hrr
     have HR2':=hide (kc.row HD2.out (fun _ _=>no_elim))
     obtain ⟨gnl,n0,n1,n2,n3,n4,n5,n6,n7,n8⟩:=DRow.at2 HR2'.out HND.out
     have c3:=(kc.cell hr2 no_elim 3).trans HN2.out
     have htr:=Nat.lt_of_lt_of_le htb kc.size
     have hrr:=Nat.lt_of_lt_of_le hr2 kc.size
     have HKC:=hide kc
     clear kc
     cases hfit:fitF nd S
     ·rw [hfit] at HFF
      clear hfit
      by_cases h33:nd.op=33
      ·have HR:=hide (show accG l.length (fauA l T)=(6,j) by
        have e6:fauA l T j=6:=by rw [HFF.out,if_neg (by decide),if_pos h33]
        have:=accG_at hlt (f:=fauA l T) (by rw [e6];decide) HZ.out
        rw [e6] at this
        exact this)
       rw [h33] at n0
       clear h33
       go_wp2
       go_ret2
       rw [HL0.out,HACC.out,HR.out]
       exact ⟨rfl,HKW.out.trans HKC.out (fun _ _ e=>e)⟩
      ·have HR:=hide (show accG l.length (fauA l T)=(5,j) by
        have e6:fauA l T j=5:=by rw [HFF.out,if_neg (by decide),if_neg h33]
        have:=accG_at hlt (f:=fauA l T) (by rw [e6];decide) HZ.out
        rw [e6] at this
        exact this)
       have g33:(nd.op == 33)=false:=by simpa using h33
       clear h33
       go_wp2
       go_ret2
       rw [HL0.out,HACC.out,HR.out]
       exact ⟨rfl,HKW.out.trans HKC.out (fun _ _ e=>e)⟩
     ·rw [hfit] at HFF
      have HF0:=hide (show fauA l T j=0 by rw [HFF.out,if_pos rfl])
      clear hfit
      go_wp2
      go_roundg (l.length-(j+1))
      case measure=>have:=HKK.out;omega
      case rel=>exact ⟨j+1,by omega,rfl,by go_num,fun i hi=>by
       rcases Nat.lt_or_ge i j with h1|h1
       ·exact HZ.out i h1
       ·obtain rfl:i=j:=by omega
        exact HF0.out,HKC.out⟩
  ·obtain rfl:j=l.length:=by omega
   have HR:=hide (accG_none (f:=fauA l T) HZ.out)
   go_wp2
   go_ret2
   rw [HL0.out,HACC.out,HR.out]
   exact ⟨rfl,HKW.out.trans HKR.out (fun _ _ e=>e)⟩
end Go.Proofs.YtellieabhaphhabGreatDoor
namespace Go.Proofs.YtellieabhaphhabGreatDoor
open Go.RowKit
set_option maxRecDepth 100000 in
set_option maxHeartbeats 1600000 in
theorem stateOf_b (tb n:Nat) (T:Tbl) (i:Nat) (w:World) (h:Blk w tb (tCells T) 75) (hl:T.length=n) (hi:i<n) :
  Calls Tryz.prog 39 #[.slice (some ⟨tb,0,none⟩) n n,.int .i64 i] w fun e w'=>e=.returned (.agg (zc (encZ (T.getD i []))).toArray)∧Kp no w w':=by
 obtain ⟨m0,m1,m2,m3,m4,m5,hm⟩:∃ m0 m1 m2 m3 m4 m5,encZ (T.getD i [])=[m0,m1,m2,m3,m4,m5]:=by
  match encZ (T.getD i []),encZ6 (T.getD i []) with
  | [m0,m1,m2,m3,m4,m5],_=>exact ⟨m0,m1,m2,m3,m4,m5,rfl⟩
 obtain ⟨c0,c1,c2,c3,c4,c5⟩:=tb_at h (by rw [hl];exact hi) hm
 have htl:=h.lt
 rw [hm]
 have d0:decide ((i:Int)<0)=false:=by simp
 have d1:decide ((n:Int)≤i)=false:=by simp;omega
 have d2:(i:Int)<n:=by omega
 have d3:decide (n≤i)=false:=by simp;omega
 clear h hm hl
 go_enter Tryz.func39,Tryz.ntmps39
 go_wp2
 refine body_agg (Tb:=75) (b:=w.heap.size) (cs:=[.int .i64 m0,.int .i64 m1,.int .i64 m2,.int .i64 m3,.int .i64 m4,.int .i64 m5]) (.inr rfl) Tryz.results39 rfl rfl (by (exact blA)) Tryz.underlying75 rfl (by kernel_rfl) ?_
 exact ⟨rfl,by (exact kpA)⟩
set_option maxRecDepth 100000 in
set_option maxHeartbeats 1600000 in
theorem firstFault_c (s:ByteArray) (v:Value) (l:List Nd) (tb:Nat) (T:Tbl) (w:World) (h:NRow w v (l.map (encX s))) (hB:Blk w tb (tCells T) 75) (hTl:T.length=l.length) (hT:TOk T) (hl:l.length≤90) (hg:∀ n∈l,Gd s n) :
  Calls Tryz.prog 26 #[v,.slice (some ⟨tb,0,none⟩) l.length l.length] w fun e w'=>e=ei2 (accG l.length (fauA l T)).1 (accG l.length (fauA l T)).2∧Kp no w w':=by
 obtain ⟨a,cap,rfl⟩:=h.shape
 have HD:=hide h
 rw [List.length_map]
 have HB:=hide hB
 clear h hB
 generalize hAG:accG l.length (fauA l T)=AG at *
 have HAG:=hide hAG
 clear hAG
 go_enter Tryz.func26,Tryz.ntmps26
 go_wp2
 go_loopg [12] l.length (fun k iv wr=>∃ j:Nat,j≤l.length∧k=l.length-j∧iv=.int .i64 j∧(∀ i,i<j→fauA l T i=0)∧Kp no w wr)
 case atStart=>exact ⟨0,Nat.zero_le _,rfl,rfl,fun i hi=>by omega,Kp.refl _ _⟩
 case round =>
  obtain ⟨j,hj,hk,rfl,hz,kr⟩:=hrel
  have HKK:=hide hk
  have HZ:=hide hz
  have HKR:=hide kr
  clear hk hz kr
  by_cases hlt:j<l.length
  ·obtain ⟨nd,hnd⟩:∃ nd,l[j]?=some nd:=⟨_,List.getElem?_eq_getElem hlt⟩
   have HGD:=hide (hg nd (List.mem_of_getElem? hnd))
   have HFA:=hide (show fauA l T j=fauF nd (T.getD j []) by rw [fauA,hnd])
   obtain ⟨_,gn,ha,hgn,n0,n1,n2,n3,n4,n5,n6,n7,n8,n9,n10⟩:=NRow.at (HKR.out.row HD.out (fun _ _=>no_elim)) (k:=j) (n:=encX s nd) (by rw [List.getElem?_map,hnd];rfl)
   subst ha
   have HSO:=hide (hT.get j)
   have HST:=hide (fun W hW=>stateOf_b tb l.length T j W hW hTl hlt)
   have HFO:=hide (fun W=>faultOf_c nd (s.extract nd.a.toNat (nd.a+nd.l).toNat) (yesN nd) (noN nd) (T.getD j []) W HGD.out.g HSO.out)
   obtain ⟨m0,m1,m2,m3,m4,m5,hm⟩:=z6_six (encZ_z6 HSO.out)
   rw [hm] at HST HFO
   have HST2:Hid (∀ W,Blk W tb (tCells T) 75→Calls Tryz.prog 39 #[.slice (some ⟨tb,0,none⟩) l.length l.length,.int .i64 j] W fun e w'=>e=.returned (zv6 m0 m1 m2 m3 m4 m5)∧Kp no W w'):=HST.out
   rw [show Value.agg (zc [m0,m1,m2,m3,m4,m5]).toArray=zv6 m0 m1 m2 m3 m4 m5 from rfl] at HFO
   rw [← HFA.out] at HFO
   clear HST hm hnd
   dsimp only [encX,encN] at n0 n1 n2 n3 n4 n5 n6 n7 n8 n9 n10
   generalize s.extract nd.a.toNat (nd.a+nd.l).toNat=tx at *
   generalize yesN nd=yn at *
   generalize noN nd=nn at *
   generalize actN nd.op=act at *
   generalize (if nd.op=43∨nd.op=60 then nd.v else nd.y)=nwv at *
   generalize (if nd.op=126∨nd.op=58 then bit nd.k else 0)=kdv at *
   generalize (consN nd).n=cnn at *
   generalize bit (consN nd).k=ckk at *
   generalize bit (consN nd).v=chh at *
   have hqI:(j:Int)<l.length:=by omega
   have HAT:=hide (fun hne=>accG_at hlt (f:=fauA l T) hne HZ.out)
   generalize hF:fauA l T j=F at *
   have HF:=hide hF
   clear hF
   go_wp2_with fail
   refine (HST2.out _ ((HKR.out.blk HB.out no_elim).alloc _)).mono ?_
   rintro e w5 ⟨rfl,k5⟩
   have hN5:Blk w5 wr.heap.size [.string tx,.int .i64 act,.int .i64 nd.x,.int .i64 nd.y,.int .i64 nwv,.int .i64 ckk,.int .i64 cnn,.int .i64 chh,.int .i64 kdv,.int .i64 yn,.int .i64 nn] 68:=k5.blk (by (exact blA)) no_elim
   have HK5:=hide (show Kp no w w5 from HKR.out.trans (S':=no) (Kp.trans (by (exact kpA)) k5 (fun _ _ e=>e)) (fun _ _ e=>e))
   clear k5 n0 n1 n2 n3 n4 n5 n6 n7 n8 n9 n10
   obtain ⟨n0,n1,n2,n3,n4,n5,n6,n7,n8,n9,n10,nf⟩:=hN5.c11;have hnl:=hN5.lt
   go_wp2_with fail
   refine (HFO.out _).mono ?_
   rintro e w6 ⟨rfl,k6⟩
   have HK6:=hide ((HK5.out.alloc _).trans k6 (fun _ _ e=>e))
   by_cases hF0:F=0
   ·subst hF0
    go_wp2
    go_roundg (l.length-(j+1))
    case measure=>have:=HKK.out;omega
    case rel=>exact ⟨j+1,by omega,rfl,by go_num,fun i hi=>by
     rcases Nat.lt_or_ge i j with h1|h1
     ·exact HZ.out i h1
     ·obtain rfl:i=j:=by omega
      exact HF.out,HK6.out⟩
   ·have HR:=hide (HAT.out hF0)
    have g0:(F == 0)=false:=by simpa using hF0
    have g1:(F != 0)=true:=by simpa using hF0
    clear hF0
    go_wp2
    go_ret2
    rw [← HAG.out,HR.out]
    exact ⟨rfl,HK6.out⟩
  ·obtain rfl:j=l.length:=by omega
   have HR:=hide (accG_none (f:=fauA l T) HZ.out)
   go_wp2
   go_ret2
   rw [← HAG.out,HR.out]
   exact ⟨rfl,HKR.out⟩
set_option maxHeartbeats 1600000 in
theorem naccept_long (s:ByteArray) (w:World) (hm:s.size≤maxLen) (hs:900<s.size) :
  Calls Tryz.prog 15 #[.string s] w fun e w'=>e=ei2 1 0∧Kp no w w':=by
 have HS:=hide (nog_long s w hm hs)
 go_enter Tryz.func15,Tryz.ntmps15
 go_wp2_with fail
 refine HS.out.mono ?_
 rintro e w1 ⟨rfl,k1⟩
 go_wp2
 go_ret2
 exact ⟨rfl,k1⟩
set_option maxHeartbeats 1600000 in
theorem naccept_bad (s:ByteArray) (w:World) (hs:s.size≤900) (hb:(graE s).1≠0) :
  Calls Tryz.prog 15 #[.string s] w fun e w'=>e=ei2 (graE s).1 (graE s).2∧Kp no w w':=by
 have HS:=hide (nog_c s w hs)
 have hb':(((graE s).1:Int) == 0)=false:=by simp;omega
 unfold NogPost at HS
 generalize graE s=ge at *
 obtain ⟨ge1,ge2⟩:=ge
 dsimp only at *
 clear hb
 go_enter Tryz.func15,Tryz.ntmps15
 go_wp2_with fail
 refine HS.out.mono ?_
 rintro e w1 ⟨v,rfl,k1,_⟩
 go_wp2
 go_ret2
 exact ⟨rfl,k1⟩
set_option maxHeartbeats 1600000 in
theorem naccept_good (s:ByteArray) (w:World) (hs:s.size≤900) (hb:graE s=(0,0)) :
  Calls Tryz.prog 15 #[.string s] w fun e w'=>e=ei2 (accF (graF s).nodes).1 (accF (graF s).nodes).2∧Kp no w w':=by
 have HS:=hide (nog_c s w hs)
 have hlen:=(graF_inv s).2
 unfold NogPost at HS
 rw [hb] at HS
 clear hb
 generalize graF s=st at *
 have HAC:Hid (accF st.nodes=accG st.nodes.length (fauA st.nodes (lstF st.nodes))):=rfl
 go_enter Tryz.func15,Tryz.ntmps15
 go_wp2_with fail
 refine HS.out.mono ?_
 rintro e w2 ⟨v,rfl,k2,hpost⟩
 obtain ⟨hR,hO,hgd⟩:=hpost trivial
 have HL:=hide (leastTable_c s v st.nodes w2 hR hlen hgd)
 have HFF:=hide (fun tb W (hW:NRow W v (st.nodes.map (encX s))) hB=>firstFault_c s v st.nodes tb (lstF st.nodes) W hW hB (lst_len _) (lst_ok _) hlen hgd)
 have HRR:=hide hR
 obtain ⟨a,cap,rfl⟩:=hR.shape
 rw [List.length_map] at HL HFF HRR ⊢
 clear hO hgd hpost HS hR
 go_wp2_with fail
 refine HL.out.mono ?_
 rintro e w3 ⟨tb,rfl,hB,k3⟩
 go_wp2_with fail
 refine (HFF.out tb _ (by exact k3.row HRR.out (fun _ _=>no_elim)) (by exact hB)).mono ?_
 rintro e w4 ⟨rfl,k4⟩
 unfold ei2
 go_wp2
 go_ret2
 rw [HAC.out]
 exact ⟨rfl,(k2.trans k3 (fun _ _ e=>e)).trans k4 (fun _ _ e=>e)⟩
def AccIs (s:ByteArray) (c p:Int):Prop :=
 (∀ W,Calls Tryz.prog 15 #[.string s] W fun e w'=>e=.returned (.tuple #[.int .i64 c,.int .i64 p])∧Kp no W w') ∧
 (∀ W,Calls Tryz.prog 32 #[.string s] W fun e w'=>e=.returned (.tuple #[.int .i64 c,.int .i64 p])∧Kp no W w')
theorem accept_both (s:ByteArray) (hs:s.size≤maxLen):∃ c p,AccIs s c p:=by
 by_cases hs9:s.size≤900
 ·by_cases hb:(graE s).1=0
  ·obtain ⟨e1,e2⟩:=graE_zero s hb
   obtain ⟨_,g2⟩:=graF_gd s
   exact ⟨_,_,fun W=>naccept_good s W hs9 e1,fun W=>raccept_good s W hs9 e1 (fun n hn=>(g2 e2 n hn).g)⟩
  ·exact ⟨_,_,fun W=>naccept_bad s W hs9 hb,fun W=>raccept_bad s W hs9 hb⟩
 ·exact ⟨_,_,fun W=>naccept_long s W hs (by omega),fun W=>raccept_long s W hs (by omega)⟩
end Go.Proofs.YtellieabhaphhabGreatDoor
namespace Go.Proofs.YtellieabhaphhabGreatDoor
open Go.RowKit
set_option maxRecDepth 100000 in
set_option maxHeartbeats 1600000 in
theorem lplays_accept (b c:Int) (s t u:ByteArray) (w:World) (hs:s.size≤maxLen) :
  Calls Tryz.prog 16 #[.agg #[.int .i64 5,.int .i64 b,.int .i64 c,.string s,.string t,.string u]] w fun e w'=>e=.returned (.bool true)∧Kp no w w':=by
 obtain ⟨z,x,hw⟩:=accept_both s hs
 have HN:=hide hw.1
 have HR:=hide hw.2
 have HNU:=hide (fun W=>lnum_c z W)
 clear hw
 go_enter Tryz.func16,Tryz.ntmps16
 go_wp2_with fail
 refine (HN.out _).mono ?_
 rintro e w1 ⟨rfl,k1⟩
 have hO:Blk w1 w.heap.size [.int .i64 5,.int .i64 b,.int .i64 c,.string s,.string t,.string u] 25:=k1.blk (by (exact blA)) no_elim
 have o0:=hO.cell 0;have o1:=hO.cell 1;have o2:=hO.cell 2;have o3:=hO.cell 3;have o4:=hO.cell 4;have o5:=hO.cell 5
 simp only [List.getElem?_cons_zero,List.getElem?_cons_succ] at o0 o1 o2 o3 o4 o5
 have of:=hO.frozen
 have hz:=hO.lt
 go_wp2_with fail
 refine (HR.out _).mono ?_
 rintro e w2 ⟨rfl,k2⟩
 clear o0 o1 o2 o3 o4 o5 of
 go_wp2_with (go_at_call 10;refine (HNU.out _).mono ?_;rintro e w' ⟨rfl,rfl⟩)
 go_ret
 exact ⟨by simp,by (exact kpA)⟩
end Go.Proofs.YtellieabhaphhabGreatDoor
namespace Go.Proofs.YtellieabhaphhabGreatDoor
open Go.RowKit
def cntF (T:Tbl) (i:Nat):Nat:=(T.take i).countP (fun s=>decide (s≠[]))
theorem cnt_succ (T:Tbl) (j:Nat) (h:j<T.length):cntF T (j+1)=cntF T j+(if T.getD j []=[] then 0 else 1):=by
 unfold cntF
 rw [List.take_succ_eq_append_getElem h,List.countP_append,List.getD_eq_getElem?_getD,List.getElem?_eq_getElem h,Option.getD_some,List.countP_cons,List.countP_nil]
 by_cases e:T[j]=[] <;> simp [e]
theorem cnt_le (T:Tbl) (i:Nat):cntF T i≤T.length:=by
 unfold cntF
 refine Nat.le_trans List.countP_le_length ?_
 rw [List.length_take]
 exact Nat.min_le_right _ _
theorem cnt_top (T:Tbl) {i:Nat} (h:T.length≤i):cntF T i=cntF T T.length:=by
 unfold cntF
 rw [List.take_of_length_le h,List.take_length]
def renF (T:Tbl) (i:Nat) (s:St):Nat:=if s=[] then cntF T T.length else cntF T i
set_option maxRecDepth 100000 in
set_option maxHeartbeats 1600000 in
theorem renumbered_c (v u:Value) (T:Tbl) (i:Nat) (s:St) (w:World) (h:TV w v T) (hT:TOk T) (hu:SV w u s) (hl:T.length≤90) :
  Calls Tryz.prog 67 #[v,.int .i64 i,u] w fun e w'=>e=.returned (.int .i64 (renF T i s))∧w'=w:=by
 obtain ⟨tb,cap,rfl,htb,hat⟩:=h
 obtain ⟨ua,uc,rfl⟩:=hu.shape
 have HAT:=hide hat
 have HR0:=hide (fun e:s=[]=>show renF T i s=cntF T T.length by rw [renF,if_pos e])
 have HR1:=hide (fun e:s≠[]=>show renF T i s=cntF T i by rw [renF,if_neg e])
 have HCL:=hide (cnt_le T)
 have HCT:=hide (fun i (h:T.length≤i)=>cnt_top T h)
 clear hat hu
 go_enter Tryz.func67,Tryz.ntmps67
 go_wp2
 go_loopg [7,8,9] T.length (fun k nv av kv wr=>∃ j:Nat,j≤T.length∧k=T.length-j∧kv=.int .i64 j∧nv=.int .i64 (cntF T (min j i))∧av=.int .i64 (cntF T j)∧wr=w)
 case atStart=>exact ⟨0,Nat.zero_le _,rfl,rfl,by rw [Nat.zero_min];rfl,rfl,rfl⟩
 case round =>
  obtain ⟨j,hj,hk,rfl,rfl,rfl,rfl⟩:=hrel
  have HKK:=hide hk
  clear hk
  by_cases hlt:j<T.length
  ·obtain ⟨a1,p1,q0,_⟩:=HAT.out j hlt
   have HCS:=hide (cnt_succ T j hlt)
   have hb1:=HCL.out j
   have hb2:=HCL.out (min j i)
   have HSO:=hide (hT.get j)
   have hjI:(j:Int)<T.length:=by omega
   generalize T.getD j []=S at *
   by_cases hS0:S=[]
   ·have HM:=hide (show cntF T (min (j+1) i)=cntF T (min j i) by
     rcases Nat.lt_or_ge j i with h1|h1
     ·rw [Nat.min_eq_left (by omega),Nat.min_eq_left (by omega),HCS.out,if_pos hS0,Nat.add_zero]
     ·rw [Nat.min_eq_right (by omega),Nat.min_eq_right (by omega)])
    rw [if_pos hS0,Nat.add_zero] at HCS
    subst hS0
    go_wp2
    go_roundg (T.length-(j+1))
    case measure=>have:=HKK.out;omega
    case rel=>exact ⟨j+1,by omega,rfl,by go_num,by rw [HM.out],by rw [HCS.out];rfl,rfl⟩
   ·have h6:S.length=6:=(HSO.out.resolve_left hS0).1
    have hSI:(0:Int)<(S.length:Int):=by omega
    rw [if_neg hS0] at HCS
    by_cases hji:j<i
    ·have hjiI:(j:Int)<(i:Int):=by omega
     have HM:=hide (show cntF T (min (j+1) i)=cntF T (min j i)+1 by rw [Nat.min_eq_left (by omega),Nat.min_eq_left (by omega),HCS.out])
     clear h6 hS0
     go_wp2
     go_roundg (T.length-(j+1))
     case measure=>have:=HKK.out;omega
     case rel=>exact ⟨j+1,by omega,rfl,by go_num,by rw [HM.out];push_cast;rfl,by rw [HCS.out];push_cast;rfl,rfl⟩
    ·have hjiI:decide ((j:Int)<(i:Int))=false:=by simp;omega
     have hjiN:decide (j<i)=false:=by simp;omega
     have HM:=hide (show cntF T (min (j+1) i)=cntF T (min j i) by rw [Nat.min_eq_right (by omega),Nat.min_eq_right (by omega)])
     clear h6 hS0 hji
     go_wp2
     go_roundg (T.length-(j+1))
     case measure=>have:=HKK.out;omega
     case rel=>exact ⟨j+1,by omega,rfl,by go_num,by rw [HM.out],by rw [HCS.out];push_cast;rfl,rfl⟩
  ·obtain rfl:j=T.length:=by omega
   by_cases hs0:s=[]
   ·have HR:=hide (HR0.out hs0)
    subst hs0
    go_wp2
    go_ret
    rw [HR.out]
    exact ⟨rfl,rfl⟩
   ·have HR:=hide (HR1.out hs0)
    have HM:=hide (show cntF T (min T.length i)=cntF T i by
     rcases Nat.lt_or_ge i T.length with h1|h1
     ·rw [Nat.min_eq_right (by omega)]
     ·rw [Nat.min_eq_left h1,HCT.out i h1])
    have hl0:((s.length:Int) == 0)=false:=by
     have:s.length≠0:=fun e=>hs0 (List.length_eq_zero_iff.1 e)
     simp;omega
    clear hs0
    go_wp2
    go_ret
    rw [HR.out,← HM.out]
    exact ⟨rfl,rfl⟩
end Go.Proofs.YtellieabhaphhabGreatDoor
namespace Go.Proofs.YtellieabhaphhabGreatDoor
open Go.RowKit
set_option maxRecDepth 100000 in
set_option maxHeartbeats 1600000 in
theorem statesAhead_c (tb:Nat) (T:Tbl) (i:Nat) (w:World) (h:Blk w tb (tCells T) 75) (hT:TOk T) (hl:T.length≤90) :
  Calls Tryz.prog 42 #[.slice (some ⟨tb,0,none⟩) T.length T.length,.int .i64 i] w fun e w'=>e=.returned (.int .i64 (cntF T i))∧Kp no w w':=by
 have HB:=hide h
 have HCL:=hide (cnt_le T)
 have HCT:=hide (fun i (h:T.length≤i)=>cnt_top T h)
 clear h
 go_enter Tryz.func42,Tryz.ntmps42
 go_wp2
 go_loopg [5,10] T.length (fun k nv kv wr=>∃ j:Nat,j≤T.length∧k=T.length-j∧kv=.int .i64 j∧nv=.int .i64 (cntF T (min j i))∧Kp no w wr)
 case atStart=>exact ⟨0,Nat.zero_le _,rfl,rfl,by rw [Nat.zero_min];rfl,Kp.refl _ _⟩
 case round =>
  obtain ⟨j,hj,hk,rfl,rfl,kr⟩:=hrel
  have HKK:=hide hk
  have HKR:=hide kr
  clear hk kr
  by_cases hlt:j<T.length
  ·have HCS:=hide (cnt_succ T j hlt)
   have hb2:=HCL.out (min j i)
   have hSO:=hT.get j
   obtain ⟨m0,m1,m2,m3,m4,m5,hm⟩:=z6_six (encZ_z6 hSO)
   have hbr:=HKR.out.blk HB.out no_elim
   obtain ⟨c0,c1,c2,c3,c4,c5⟩:=tb_at hbr hlt hm
   have hbl:=hbr.lt
   have HZ6:=hide (show Z6 [m0,m1,m2,m3,m4,m5] from hm ▸ encZ_z6 hSO)
   have HEX:=hide (exS_enc hSO)
   rw [hm] at HEX
   have HX:=hide (fun b W hW=>exists_c b [m0,m1,m2,m3,m4,m5] W hW HZ6.out)
   rw [HEX.out] at HX
   have hjI:(j:Int)<T.length:=by omega
   clear hbr hSO hm HEX
   generalize T.getD j []=S at *
   by_cases hji:j<i
   ·have hjiI:(j:Int)<(i:Int):=by omega
    by_cases hS0:S=[]
    ·rw [decide_eq_false (fun e=>e hS0)] at HX
     have HM:=hide (show cntF T (min (j+1) i)=cntF T (min j i) by rw [Nat.min_eq_left (by omega),Nat.min_eq_left (by omega),HCS.out,if_pos hS0,Nat.add_zero])
     clear hS0
     go_wp2_with (go_at_call 40;refine (HX.out _ _ (by (show Blk _ _ [.int .i64 m0,.int .i64 m1,.int .i64 m2,.int .i64 m3,.int .i64 m4,.int .i64 m5] _);(exact blA))).mono ?_;rintro e w' ⟨rfl,rfl⟩)
     go_roundg (T.length-(j+1))
     case measure=>have:=HKK.out;omega
     case rel=>exact ⟨j+1,by omega,rfl,by go_num,by rw [HM.out],HKR.out.alloc _⟩
    ·rw [decide_eq_true hS0] at HX
     have HM:=hide (show cntF T (min (j+1) i)=cntF T (min j i)+1 by rw [Nat.min_eq_left (by omega),Nat.min_eq_left (by omega),HCS.out,if_neg hS0])
     clear hS0
     go_wp2_with (go_at_call 40;refine (HX.out _ _ (by (show Blk _ _ [.int .i64 m0,.int .i64 m1,.int .i64 m2,.int .i64 m3,.int .i64 m4,.int .i64 m5] _);(exact blA))).mono ?_;rintro e w' ⟨rfl,rfl⟩)
     go_roundg (T.length-(j+1))
     case measure=>have:=HKK.out;omega
     case rel=>exact ⟨j+1,by omega,rfl,by go_num,by rw [HM.out];push_cast;rfl,HKR.out.alloc _⟩
   ·have hjiI:decide ((j:Int)<(i:Int))=false:=by simp;omega
    have hjiN:decide (j<i)=false:=by simp;omega
    have HM:=hide (show cntF T (min (j+1) i)=cntF T (min j i) by rw [Nat.min_eq_right (by omega),Nat.min_eq_right (by omega)])
    clear hji
    go_wp2
    go_roundg (T.length-(j+1))
    case measure=>have:=HKK.out;omega
    case rel=>exact ⟨j+1,by omega,rfl,by go_num,by rw [HM.out],HKR.out.alloc _⟩
  ·obtain rfl:j=T.length:=by omega
   have HM:=hide (show cntF T (min T.length i)=cntF T i by
    rcases Nat.lt_or_ge i T.length with h1|h1
    ·rw [Nat.min_eq_right (by omega)]
    ·rw [Nat.min_eq_left h1,HCT.out i h1])
   go_wp2
   go_ret
   rw [← HM.out]
   exact ⟨rfl,HKR.out⟩
def idlN (k:Int):NN:=⟨⟨#[42]⟩,14,0,0,0,0,0,0,0,k,k⟩
set_option maxRecDepth 100000 in
set_option maxHeartbeats 1600000 in
theorem idleNode_c (k:Int) (w:World) :
  Calls Tryz.prog 76 #[.int .i64 k] w fun e w'=>e=.returned (.agg (idlN k).cells.toArray)∧Kp no w w':=by
 go_enter Tryz.func76,Tryz.ntmps76
 go_wp2
 refine body_agg (Tb:=68) (b:=w.heap.size) (cs:=(idlN k).cells) (.inr rfl) Tryz.results76 rfl rfl (by (show Blk _ _ [.string ⟨#[42]⟩,.int .i64 14,.int .i64 0,.int .i64 0,.int .i64 0,.int .i64 0,.int .i64 0,.int .i64 0,.int .i64 0,.int .i64 k,.int .i64 k] _);(exact blA)) Tryz.underlying68 rfl (by kernel_rfl) ?_
 exact ⟨rfl,by (exact kpA)⟩
end Go.Proofs.YtellieabhaphhabGreatDoor
namespace Go.Proofs.YtellieabhaphhabGreatDoor
open Go.RowKit
theorem exS_nrm {Z:St} (h:Z6 Z):exS Z=decide (nrm Z≠[]):=by
 cases e:exS Z
 ·rw [nrm,e];rfl
 ·rw [nrm,e]
  have:Z≠[]:=fun e=>by have:=h.len;rw [e] at this;cases this
  simp [this]
def lwN (n:NN) (y o:St) (en:Int):NN :=
 if y≠[]∧o≠[] then n else if y≠[] then idlN n.yes else if o≠[] then idlN n.no else { n with yes:=en,no:=en }
set_option maxRecDepth 100000 in
set_option maxHeartbeats 1600000 in
theorem withLiveWays_c (nd:Nd) (tx:ByteArray) (yn nn en:Int) (S:St) (w:World) (hg:Gn nd) (hF:Ful S) :
  Calls Tryz.prog 41 #[.agg #[.string tx,.int .i64 (actN nd.op),.int .i64 nd.x,.int .i64 nd.y,.int .i64 (if nd.op=43∨nd.op=60 then nd.v else nd.y),.int .i64 (bit (consN nd).k),.int .i64 (consN nd).n,.int .i64 (bit (consN nd).v),.int .i64 (if nd.op=126∨nd.op=58 then bit nd.k else 0),.int .i64 yn,.int .i64 nn],.agg (zc S).toArray,.int .i64 en] w
   fun e w'=>e=.returned (.agg (lwN (encN nd tx yn nn) (algF nd true S) (algF nd false S) en).cells.toArray)∧Kp no w w':=by
 obtain ⟨m0,m1,m2,m3,m4,m5,rfl⟩:=z6_six hF.z
 rw [show Value.agg (zc [m0,m1,m2,m3,m4,m5]).toArray=zv6 m0 m1 m2 m3 m4 m5 from rfl]
 have HAT:=hide (fun W=>along_c nd tx yn nn [m0,m1,m2,m3,m4,m5] true W hg hF)
 have HAF:=hide (fun W=>along_c nd tx yn nn [m0,m1,m2,m3,m4,m5] false W hg hF)
 rw [show Value.agg (zc [m0,m1,m2,m3,m4,m5]).toArray=zv6 m0 m1 m2 m3 m4 m5 from rfl] at HAT HAF
 unfold encN
 generalize algF nd true [m0,m1,m2,m3,m4,m5]=Y at *
 generalize algF nd false [m0,m1,m2,m3,m4,m5]=O at *
 generalize actN nd.op=act at *
 generalize (if nd.op=43∨nd.op=60 then nd.v else nd.y)=nwv at *
 generalize (if nd.op=126∨nd.op=58 then bit nd.k else 0)=kdv at *
 generalize (consN nd).n=cnn at *
 generalize bit (consN nd).k=ckk at *
 generalize bit (consN nd).v=chh at *
 generalize nd.x=nx at *
 generalize nd.y=ny at *
 clear hF hg
 have HR1:=hide (fun (h1:Y≠[]) (h2:O≠[])=>show lwN ⟨tx,act,nx,ny,nwv,ckk,cnn,chh,kdv,yn,nn⟩ Y O en=⟨tx,act,nx,ny,nwv,ckk,cnn,chh,kdv,yn,nn⟩ by rw [lwN,if_pos ⟨h1,h2⟩])
 have HR2:=hide (fun (h1:Y≠[]) (h2:O=[])=>show lwN ⟨tx,act,nx,ny,nwv,ckk,cnn,chh,kdv,yn,nn⟩ Y O en=idlN yn by rw [lwN,if_neg (fun e=>e.2 h2),if_pos h1])
 have HR3:=hide (fun (h1:Y=[]) (h2:O≠[])=>show lwN ⟨tx,act,nx,ny,nwv,ckk,cnn,chh,kdv,yn,nn⟩ Y O en=idlN nn by rw [lwN,if_neg (fun e=>e.1 h1),if_neg (fun e=>e h1),if_pos h2])
 have HR4:=hide (fun (h1:Y=[]) (h2:O=[])=>show lwN ⟨tx,act,nx,ny,nwv,ckk,cnn,chh,kdv,yn,nn⟩ Y O en=⟨tx,act,nx,ny,nwv,ckk,cnn,chh,kdv,en,en⟩ by rw [lwN,if_neg (fun e=>e.1 h1),if_neg (fun e=>e h1),if_neg (fun e=>e h2)])
 generalize lwN ⟨tx,act,nx,ny,nwv,ckk,cnn,chh,kdv,yn,nn⟩ Y O en=R at *
 have HID:=hide (fun k W=>idleNode_c k W)
 go_enter Tryz.func41,Tryz.ntmps41
 go_wp2_with fail
 refine (HAT.out _).mono ?_
 rintro e w1 ⟨Z,rfl,hZ6,hZn,k1⟩
 obtain ⟨y0,y1,y2,y3,y4,y5,rfl⟩:=z6_six hZ6
 rw [show Value.agg (zc [y0,y1,y2,y3,y4,y5]).toArray=zv6 y0 y1 y2 y3 y4 y5 from rfl]
 have hN1:Blk w1 w.heap.size [.string tx,.int .i64 act,.int .i64 nx,.int .i64 ny,.int .i64 nwv,.int .i64 ckk,.int .i64 cnn,.int .i64 chh,.int .i64 kdv,.int .i64 yn,.int .i64 nn] 68:=k1.blk (by (exact blA)) no_elim
 have hA1:Blk w1 (w.heap.size+1) [.int .i64 m0,.int .i64 m1,.int .i64 m2,.int .i64 m3,.int .i64 m4,.int .i64 m5] 75:=k1.blk (by (exact blA)) no_elim
 have hR1:Blk w1 (w.heap.size+1+1) [.string ⟨#[]⟩,.int .i64 0,.int .i64 0,.int .i64 0,.int .i64 0,.int .i64 0,.int .i64 0,.int .i64 0,.int .i64 0,.int .i64 0,.int .i64 0] 68:=k1.blk (by (exact blA)) no_elim
 have HK1:=hide (show Kp no w w1 from Kp.trans (by (exact kpA)) k1 (fun _ _ e=>e))
 have HEY:=hide (exS_nrm hZ6)
 rw [hZn] at HEY
 have HZY:=hide hZ6
 clear k1 hZ6 hZn HAT
 obtain ⟨n0,n1,n2,n3,n4,n5,n6,n7,n8,n9,n10,nf⟩:=hN1.c11;have hnl:=hN1.lt
 obtain ⟨a0,a1,a2,a3,a4,a5,af,al⟩:=hA1.c6
 go_wp2_with fail
 refine (HAF.out _).mono ?_
 rintro e w2 ⟨Z2,rfl,hZ6,hZn,k2⟩
 obtain ⟨o0,o1,o2,o3,o4,o5,rfl⟩:=z6_six hZ6
 rw [show Value.agg (zc [o0,o1,o2,o3,o4,o5]).toArray=zv6 o0 o1 o2 o3 o4 o5 from rfl]
 have hN2:Blk w2 w.heap.size [.string tx,.int .i64 act,.int .i64 nx,.int .i64 ny,.int .i64 nwv,.int .i64 ckk,.int .i64 cnn,.int .i64 chh,.int .i64 kdv,.int .i64 yn,.int .i64 nn] 68:=k2.blk (by (exact blA)) no_elim
 have hR2:Blk w2 (w.heap.size+1+1) [.string ⟨#[]⟩,.int .i64 0,.int .i64 0,.int .i64 0,.int .i64 0,.int .i64 0,.int .i64 0,.int .i64 0,.int .i64 0,.int .i64 0,.int .i64 0] 68:=k2.blk (by (exact blA)) no_elim
 have hY2:Blk w2 w1.heap.size [.int .i64 y0,.int .i64 y1,.int .i64 y2,.int .i64 y3,.int .i64 y4,.int .i64 y5] 75:=k2.blk (by (exact blA)) no_elim
 have HK2:=hide (HK1.out.trans (S':=no) (Kp.trans (by (exact kpA)) k2 (fun _ _ e=>e)) (fun _ _ e=>e))
 have HEO:=hide (exS_nrm hZ6)
 rw [hZn] at HEO
 have HZO:=hide hZ6
 clear k2 hZ6 hZn HAF n0 n1 n2 n3 n4 n5 n6 n7 n8 n9 n10 nf hnl a0 a1 a2 a3 a4 a5 af al hN1 hA1 hR1
 obtain ⟨n0,n1,n2,n3,n4,n5,n6,n7,n8,n9,n10,nf⟩:=hN2.c11;have hnl:=hN2.lt
 obtain ⟨r0,r1,r2,r3,r4,r5,r6,r7,r8,r9,r10,rf⟩:=hR2.c11;have rl:=hR2.lt
 have hyl:=hY2.lt
 have HXY:=hide (fun W hW=>exists_c w1.heap.size [y0,y1,y2,y3,y4,y5] W hW HZY.out)
 have HXO:=hide (fun b W hW=>exists_c b [o0,o1,o2,o3,o4,o5] W hW HZO.out)
 rw [HEY.out] at HXY
 rw [HEO.out] at HXO
 clear HEY HEO
 by_cases hy:Y=[]
 ·rw [decide_eq_false (fun e=>e hy)] at HXY
  by_cases ho:O=[]
  ·rw [decide_eq_false (fun e=>e ho)] at HXO
   have HRX:=hide (HR4.out hy ho)
   clear HR1 HR2 HR3 HR4 hy ho
   go_wp2_with fail
   refine (HXY.out _ (by (show Blk _ _ [.int .i64 y0,.int .i64 y1,.int .i64 y2,.int .i64 y3,.int .i64 y4,.int .i64 y5] _);(exact blA))).mono ?_
   rintro e w' ⟨rfl,rfl⟩
   go_wp2_with fail
   refine (HXO.out _ _ (by (show Blk _ _ [.int .i64 o0,.int .i64 o1,.int .i64 o2,.int .i64 o3,.int .i64 o4,.int .i64 o5] _);(exact blA))).mono ?_
   rintro e w' ⟨rfl,rfl⟩
   have kk:=HK2.out
   go_wp2
   have hRR:=hR2
   refine body_agg (Tb:=68) (b:=w.heap.size+1+1) (cs:=[.string tx,.int .i64 act,.int .i64 nx,.int .i64 ny,.int .i64 nwv,.int .i64 ckk,.int .i64 cnn,.int .i64 chh,.int .i64 kdv,.int .i64 en,.int .i64 en]) (.inr rfl) Tryz.results41 rfl rfl (by (exact blA)) Tryz.underlying68 rfl (by kernel_rfl) ?_
   rw [HRX.out]
   exact ⟨rfl,by (exact kpA)⟩
  ·rw [decide_eq_true ho] at HXO
   have HRX:=hide (HR3.out hy ho)
   clear HR1 HR2 HR3 HR4 hy ho
   go_wp2_with fail
   refine (HXY.out _ (by (show Blk _ _ [.int .i64 y0,.int .i64 y1,.int .i64 y2,.int .i64 y3,.int .i64 y4,.int .i64 y5] _);(exact blA))).mono ?_
   rintro e w' ⟨rfl,rfl⟩
   go_wp2_with fail
   refine (HXO.out _ _ (by (show Blk _ _ [.int .i64 o0,.int .i64 o1,.int .i64 o2,.int .i64 o3,.int .i64 o4,.int .i64 o5] _);(exact blA))).mono ?_
   rintro e w' ⟨rfl,rfl⟩
   go_wp2_with fail
   refine (HID.out nn _).mono ?_
   rintro e w5 ⟨rfl,k5⟩
   rw [show Value.agg (idlN nn).cells.toArray=.agg #[.string ⟨#[42]⟩,.int .i64 14,.int .i64 0,.int .i64 0,.int .i64 0,.int .i64 0,.int .i64 0,.int .i64 0,.int .i64 0,.int .i64 nn,.int .i64 nn] from rfl]
   have hR5:Blk w5 (w.heap.size+1+1) [.string ⟨#[]⟩,.int .i64 0,.int .i64 0,.int .i64 0,.int .i64 0,.int .i64 0,.int .i64 0,.int .i64 0,.int .i64 0,.int .i64 0,.int .i64 0] 68:=k5.blk (by (exact blA)) no_elim
   have kk:Kp no w w5:=HK2.out.trans (S':=no) (Kp.trans (by (exact kpA)) k5 (fun _ _ e=>e)) (fun _ _ e=>e)
   clear n0 n1 n2 n3 n4 n5 n6 n7 n8 n9 n10 nf hnl r0 r1 r2 r3 r4 r5 r6 r7 r8 r9 r10 rf rl
   obtain ⟨r0,r1,r2,r3,r4,r5,r6,r7,r8,r9,r10,rf⟩:=hR5.c11;have rl:=hR5.lt
   go_wp2
   have hRR:=hR5
   refine body_agg (Tb:=68) (b:=w.heap.size+1+1) (cs:=[.string ⟨#[42]⟩,.int .i64 14,.int .i64 0,.int .i64 0,.int .i64 0,.int .i64 0,.int .i64 0,.int .i64 0,.int .i64 0,.int .i64 nn,.int .i64 nn]) (.inr rfl) Tryz.results41 rfl rfl (by (exact blA)) Tryz.underlying68 rfl (by kernel_rfl) ?_
   rw [HRX.out]
   exact ⟨rfl,by (exact kpA)⟩
 ·rw [decide_eq_true hy] at HXY
  by_cases ho:O=[]
  ·rw [decide_eq_false (fun e=>e ho)] at HXO
   have HRX:=hide (HR2.out hy ho)
   clear HR1 HR2 HR3 HR4 hy ho
   go_wp2_with fail
   refine (HXY.out _ (by (show Blk _ _ [.int .i64 y0,.int .i64 y1,.int .i64 y2,.int .i64 y3,.int .i64 y4,.int .i64 y5] _);(exact blA))).mono ?_
   rintro e w' ⟨rfl,rfl⟩
   go_wp2_with fail
   refine (HXO.out _ _ (by (show Blk _ _ [.int .i64 o0,.int .i64 o1,.int .i64 o2,.int .i64 o3,.int .i64 o4,.int .i64 o5] _);(exact blA))).mono ?_
   rintro e w' ⟨rfl,rfl⟩
   go_wp2_with fail
   refine (HID.out yn _).mono ?_
   rintro e w5 ⟨rfl,k5⟩
   rw [show Value.agg (idlN yn).cells.toArray=.agg #[.string ⟨#[42]⟩,.int .i64 14,.int .i64 0,.int .i64 0,.int .i64 0,.int .i64 0,.int .i64 0,.int .i64 0,.int .i64 0,.int .i64 yn,.int .i64 yn] from rfl]
   have hR5:Blk w5 (w.heap.size+1+1) [.string ⟨#[]⟩,.int .i64 0,.int .i64 0,.int .i64 0,.int .i64 0,.int .i64 0,.int .i64 0,.int .i64 0,.int .i64 0,.int .i64 0,.int .i64 0] 68:=k5.blk (by (exact blA)) no_elim
   have kk:Kp no w w5:=HK2.out.trans (S':=no) (Kp.trans (by (exact kpA)) k5 (fun _ _ e=>e)) (fun _ _ e=>e)
   clear n0 n1 n2 n3 n4 n5 n6 n7 n8 n9 n10 nf hnl r0 r1 r2 r3 r4 r5 r6 r7 r8 r9 r10 rf rl
   obtain ⟨r0,r1,r2,r3,r4,r5,r6,r7,r8,r9,r10,rf⟩:=hR5.c11;have rl:=hR5.lt
   go_wp2
   have hRR:=hR5
   refine body_agg (Tb:=68) (b:=w.heap.size+1+1) (cs:=[.string ⟨#[42]⟩,.int .i64 14,.int .i64 0,.int .i64 0,.int .i64 0,.int .i64 0,.int .i64 0,.int .i64 0,.int .i64 0,.int .i64 yn,.int .i64 yn]) (.inr rfl) Tryz.results41 rfl rfl (by (exact blA)) Tryz.underlying68 rfl (by kernel_rfl) ?_
   rw [HRX.out]
   exact ⟨rfl,by (exact kpA)⟩
  ·rw [decide_eq_true ho] at HXO
   have HRX:=hide (HR1.out hy ho)
   clear HR1 HR2 HR3 HR4 hy ho
   go_wp2_with fail
   refine (HXY.out _ (by (show Blk _ _ [.int .i64 y0,.int .i64 y1,.int .i64 y2,.int .i64 y3,.int .i64 y4,.int .i64 y5] _);(exact blA))).mono ?_
   rintro e w' ⟨rfl,rfl⟩
   go_wp2_with fail
   refine (HXO.out _ _ (by (show Blk _ _ [.int .i64 o0,.int .i64 o1,.int .i64 o2,.int .i64 o3,.int .i64 o4,.int .i64 o5] _);(exact blA))).mono ?_
   rintro e w' ⟨rfl,rfl⟩
   have kk:=HK2.out
   go_wp2
   have hRR:=hR2
   refine body_agg (Tb:=68) (b:=w.heap.size+1+1) (cs:=[.string tx,.int .i64 act,.int .i64 nx,.int .i64 ny,.int .i64 nwv,.int .i64 ckk,.int .i64 cnn,.int .i64 chh,.int .i64 kdv,.int .i64 yn,.int .i64 nn]) (.inr rfl) Tryz.results41 rfl rfl (by (exact blA)) Tryz.underlying68 rfl (by kernel_rfl) ?_
   rw [HRX.out]
   exact ⟨rfl,by (exact kpA)⟩
end Go.Proofs.YtellieabhaphhabGreatDoor
namespace Go.Proofs.YtellieabhaphhabGreatDoor
open Go.RowKit
def kpN (s:ByteArray) (T:Tbl) (n:Nd) (S:St):NN :=
 { lwN (encX s n) (algF n true S) (algF n false S) T.length with
  yes:=(cntF T (lwN (encX s n) (algF n true S) (algF n false S) T.length).yes.toNat:Nat)
  no:=(cntF T (lwN (encX s n) (algF n true S) (algF n false S) T.length).no.toNat:Nat) }
def kpL (s:ByteArray) (T:Tbl) (l:List Nd):Nat→List NN
 | 0=>[]
 | j+1=>kpL s T l j++(match l[j]? with|some n=>if T.getD j []=[] then [] else [kpN s T n (T.getD j [])]|none=>[])
theorem kpL_len (s:ByteArray) (T:Tbl) (l:List Nd):∀ j,(kpL s T l j).length≤j
 | 0=>Nat.le_refl _
 | j+1=>by
  have:=kpL_len s T l j
  rw [kpL,List.length_append]
  have h2:(match l[j]? with|some n=>if T.getD j []=[] then [] else [kpN s T n (T.getD j [])]|none=>([]:List NN)).length≤1:=by
   split
   ·split <;> simp
   ·simp
  omega
set_option maxRecDepth 100000 in
set_option maxHeartbeats 1600000 in
theorem prunedNodes_c (s:ByteArray) (v:Value) (l:List Nd) (tb:Nat) (T:Tbl) (w:World) (h:NRow w v (l.map (encX s))) (hB:Blk w tb (tCells T) 75) (hTl:T.length=l.length) (hT:TOk T) (hl:l.length≤90) (hg:∀ n∈l,Gd s n) :
  Calls Tryz.prog 19 #[v,.slice (some ⟨tb,0,none⟩) l.length l.length] w fun e w'=>∃ u,e=.returned u∧NRow w' u (kpL s T l l.length)∧Kp no w w':=by
 obtain ⟨i0,hi0,hz0,hz1,hz2⟩:=info_parts info_nn
 obtain ⟨a,cap,rfl⟩:=h.shape
 have HD:=hide h
 rw [List.length_map]
 have HB:=hide hB
 clear h hB
 go_enter Tryz.func19,Tryz.ntmps19
 go_wp2
 go_loopg [5,12] l.length (fun k lv iv wr=>∃ j:Nat,j≤l.length∧k=l.length-j∧iv=.int .i64 j∧KN w wr lv (kpL s T l j)∧Kp no w wr)
 case atStart =>
  refine ⟨0,Nat.zero_le _,rfl,rfl,⟨⟨rfl,.inr ⟨w.heap.size,0,#[],rfl,Nat.zero_le _,?_,Nat.le_refl _,Nat.zero_le _,rfl,rfl⟩⟩,fun b hb=>by simp [Value.ownBlock] at hb;omega⟩,by (exact kpA)⟩
  have hh:Blk (w.alloc (.cells #[] 68)) w.heap.size [] 68:=by (exact blA)
  exact hh
 case round =>
  obtain ⟨j,hj,hk,rfl,hKB,kr⟩:=hrel
  have HKK:=hide hk
  have HKB:=hide hKB
  have HKR:=hide kr
  obtain ⟨la,lc,rfl⟩:=hKB.r.shape
  clear hk hKB kr
  by_cases hlt:j<l.length
  ·obtain ⟨nd,hnd⟩:∃ nd,l[j]?=some nd:=⟨_,List.getElem?_eq_getElem hlt⟩
   have HGD:=hide (hg nd (List.mem_of_getElem? hnd))
   have HPL:=hide (show kpL s T l (j+1)=kpL s T l j++(if T.getD j []=[] then [] else [kpN s T nd (T.getD j [])]) by rw [kpL,hnd])
   obtain ⟨_,gn,ha,hgn,n0,n1,n2,n3,n4,n5,n6,n7,n8,n9,n10⟩:=NRow.at (HKR.out.row HD.out (fun _ _=>no_elim)) (k:=j) (n:=encX s nd) (by rw [List.getElem?_map,hnd];rfl)
   subst ha
   have HSO:=hide (hT.get j)
   have hpl:=kpL_len s T l j
   have HST:=hide (fun W hW=>stateOf_b tb l.length T j W hW hTl hlt)
   obtain ⟨m0,m1,m2,m3,m4,m5,hm⟩:=z6_six (encZ_z6 HSO.out)
   have HEX:=hide (exS_enc HSO.out)
   have HLW:=hide (fun (hF:Ful (T.getD j [])) W=>withLiveWays_c nd (s.extract nd.a.toNat (nd.a+nd.l).toNat) (yesN nd) (noN nd) l.length (T.getD j []) W HGD.out.g hF)
   have HFU:=hide (fun h0=>HSO.out.ful h0)
   have HSM:=hide (fun h0:T.getD j []≠[]=>show T.getD j []=[m0,m1,m2,m3,m4,m5] by rw [← encZ_ful (HSO.out.ful h0)];exact hm)
   have HKP:=hide (show kpN s T nd (T.getD j [])={ lwN (encN nd (s.extract nd.a.toNat (nd.a+nd.l).toNat) (yesN nd) (noN nd)) (algF nd true (T.getD j [])) (algF nd false (T.getD j [])) l.length with
    yes:=(cntF T (lwN (encN nd (s.extract nd.a.toNat (nd.a+nd.l).toNat) (yesN nd) (noN nd)) (algF nd true (T.getD j [])) (algF nd false (T.getD j [])) l.length).yes.toNat:Nat)
    no:=(cntF T (lwN (encN nd (s.extract nd.a.toNat (nd.a+nd.l).toNat) (yesN nd) (noN nd)) (algF nd true (T.getD j [])) (algF nd false (T.getD j [])) l.length).no.toNat:Nat) } by rw [kpN,hTl];rfl)
   have HYN:=hide (show 0≤yesN nd∧0≤noN nd by
    have h1:=HGD.out.t
    have h2:=HGD.out.f
    constructor
    ·unfold yesN;split;exact Int.le_refl _;exact (h1 (by assumption)).1
    ·unfold noN yesN
     split
     ·exact (h2 (by assumption)).1
     ·split;exact Int.le_refl _;exact (h1 (by assumption)).1)
   have HWY:=hide (show 0≤(lwN (encN nd (s.extract nd.a.toNat (nd.a+nd.l).toNat) (yesN nd) (noN nd)) (algF nd true (T.getD j [])) (algF nd false (T.getD j [])) l.length).yes∧0≤(lwN (encN nd (s.extract nd.a.toNat (nd.a+nd.l).toNat) (yesN nd) (noN nd)) (algF nd true (T.getD j [])) (algF nd false (T.getD j [])) l.length).no by
    have h1:=HYN.out
    unfold lwN
    repeat' split
    ·exact h1
    ·exact ⟨h1.1,h1.1⟩
    ·exact ⟨h1.2,h1.2⟩
    ·exact ⟨Int.natCast_nonneg _,Int.natCast_nonneg _⟩)
   rw [hm] at HST HEX
   have HST2:Hid (∀ W,Blk W tb (tCells T) 75→Calls Tryz.prog 39 #[.slice (some ⟨tb,0,none⟩) l.length l.length,.int .i64 j] W fun e w'=>e=.returned (zv6 m0 m1 m2 m3 m4 m5)∧Kp no W w'):=HST.out
   have HZ6:=hide (show Z6 [m0,m1,m2,m3,m4,m5] from hm ▸ encZ_z6 HSO.out)
   clear HST hm hnd
   dsimp only [encX,encN] at n0 n1 n2 n3 n4 n5 n6 n7 n8 n9 n10
   generalize s.extract nd.a.toNat (nd.a+nd.l).toNat=tx at *
   generalize lwN (encN nd tx (yesN nd) (noN nd)) (algF nd true (T.getD j [])) (algF nd false (T.getD j [])) l.length=R at *
   generalize kpN s T nd (T.getD j [])=KP at *
   generalize T.getD j []=S at *
   generalize kpL s T l j=P at *
   generalize yesN nd=yn at *
   generalize noN nd=nn at *
   generalize actN nd.op=act at *
   generalize (if nd.op=43∨nd.op=60 then nd.v else nd.y)=nwv at *
   generalize (if nd.op=126∨nd.op=58 then bit nd.k else 0)=kdv at *
   generalize (consN nd).n=cnn at *
   generalize bit (consN nd).k=ckk at *
   generalize bit (consN nd).v=chh at *
   generalize nd.x=nx at *
   generalize nd.y=ny at *
   have hqI:(j:Int)<l.length:=by omega
   have HX:=hide (fun b W hW=>exists_c b [m0,m1,m2,m3,m4,m5] W hW HZ6.out)
   rw [HEX.out] at HX
   have HLN:Hid (Value.ownBlock (.slice la P.length lc)≠some wr.heap.size):=fun e=>by have:=Row.lt HKB.out.r e;omega
   go_wp2_with fail
   refine (HST2.out _ ((HKR.out.blk HB.out no_elim).alloc _)).mono ?_
   rintro e w5 ⟨rfl,k5⟩
   have hN5:Blk w5 wr.heap.size [.string tx,.int .i64 act,.int .i64 nx,.int .i64 ny,.int .i64 nwv,.int .i64 ckk,.int .i64 cnn,.int .i64 chh,.int .i64 kdv,.int .i64 yn,.int .i64 nn] 68:=k5.blk (by (exact blA)) no_elim
   have HK5:=hide (HKR.out.trans (S':=no) (Kp.trans (by (exact kpA)) k5 (fun _ _ e=>e)) (fun _ _ e=>e))
   have HL5:=hide (HKB.out.kp (Kp.trans (by (exact kpA)) k5 (fun _ _ e=>e)))
   clear k5 n0 n1 n2 n3 n4 n5 n6 n7 n8 n9 n10
   obtain ⟨n0,n1,n2,n3,n4,n5,n6,n7,n8,n9,n10,nf⟩:=hN5.c11;have hnl:=hN5.lt
   by_cases hS0:S=[]
   ·rw [if_pos hS0,List.append_nil] at HPL
    rw [decide_eq_false (fun e=>e hS0)] at HX
    clear hS0
    go_wp2_with fail
    refine (HX.out _ _ (by (show Blk _ _ [.int .i64 m0,.int .i64 m1,.int .i64 m2,.int .i64 m3,.int .i64 m4,.int .i64 m5] _);(exact blA))).mono ?_
    rintro e w' ⟨rfl,rfl⟩
    go_wp2
    go_roundg (l.length-(j+1))
    case measure=>have:=HKK.out;omega
    case rel=>exact ⟨j+1,by omega,rfl,by go_num,by rw [HPL.out];exact HL5.out.kp ((Kp.refl _ _).alloc _),HK5.out.alloc _⟩
   ·rw [if_neg hS0] at HPL
    rw [decide_eq_true hS0] at HX
    have HLX:=hide (HLW.out (HFU.out hS0))
    rw [HSM.out hS0] at HLX
    rw [show Value.agg (zc [m0,m1,m2,m3,m4,m5]).toArray=zv6 m0 m1 m2 m3 m4 m5 from rfl] at HLX
    clear hS0 HLW HFU HSM
    obtain ⟨rtx,ract,rx,ry,rw',rck,rcn,rch,rkd,ryes,rno⟩:=R
    obtain ⟨ryn,hryn⟩:=Int.eq_ofNat_of_zero_le HWY.out.1
    obtain ⟨rnn,hrnn⟩:=Int.eq_ofNat_of_zero_le HWY.out.2
    dsimp only at hryn hrnn
    subst hryn hrnn
    dsimp only [NN.cells] at HLX
    dsimp only at HKP
    rw [Int.toNat_natCast,Int.toNat_natCast] at HKP
    go_wp2_with fail
    refine (HX.out _ _ (by (show Blk _ _ [.int .i64 m0,.int .i64 m1,.int .i64 m2,.int .i64 m3,.int .i64 m4,.int .i64 m5] _);(exact blA))).mono ?_
    rintro e w' ⟨rfl,rfl⟩
    go_wp2_with fail
    refine (HLX.out _).mono ?_
    rintro e w6 ⟨rfl,k6⟩
    have hN6:Blk w6 wr.heap.size [.string tx,.int .i64 act,.int .i64 nx,.int .i64 ny,.int .i64 nwv,.int .i64 ckk,.int .i64 cnn,.int .i64 chh,.int .i64 kdv,.int .i64 yn,.int .i64 nn] 68:=k6.blk (by (exact blA)) no_elim
    have HK6:=hide (HK5.out.trans (S':=no) (Kp.trans (by (exact kpA)) k6 (fun _ _ e=>e)) (fun _ _ e=>e))
    have HL6:=hide (HL5.out.kp (Kp.trans (by (exact kpA)) k6 (fun _ _ e=>e)))
    have hT6:=HK6.out.blk HB.out no_elim
    have htbl:=HB.out.lt
    have hsw:=HKR.out.size
    clear k6
    clear n0 n1 n2 n3 n4 n5 n6 n7 n8 n9 n10 nf hnl
    obtain ⟨n0,n1,n2,n3,n4,n5,n6,n7,n8,n9,n10,nf⟩:=hN6.c11;have hnl:=hN6.lt
    have HSA:=hide (fun i W hW=>statesAhead_c tb T i W hW hT (by omega))
    rw [hTl] at HSA
    go_wp2_with fail
    refine (HSA.out ryn _ (by (exact blA))).mono ?_
    rintro e w7 ⟨rfl,k7⟩
    have hN7:Blk w7 wr.heap.size [.string rtx,.int .i64 ract,.int .i64 rx,.int .i64 ry,.int .i64 rw',.int .i64 rck,.int .i64 rcn,.int .i64 rch,.int .i64 rkd,.int .i64 ryn,.int .i64 rnn] 68:=k7.blk (by (exact blA)) no_elim
    have kk6:=HK6.out
    have HK7:=hide (show Kp no w w7 from Kp.trans (by (exact kpA)) k7 (fun _ _ e=>e))
    have HL7:Hid (KN w w7 (.slice la P.length lc) P):=KN.kp (by repeat' (first|with_reducible exact HL6.out|with_reducible refine KN.set ?_ _ HLN.out)) k7
    have hT7:=HK7.out.blk HB.out no_elim
    clear k7 hN6 HL6 hT6
    clear n0 n1 n2 n3 n4 n5 n6 n7 n8 n9 n10 nf hnl
    obtain ⟨n0,n1,n2,n3,n4,n5,n6,n7,n8,n9,n10,nf⟩:=hN7.c11;have hnl:=hN7.lt
    generalize cntF T ryn=cy at *
    go_wp2_with fail
    refine (HSA.out rnn _ (by (exact blA))).mono ?_
    rintro e w8 ⟨rfl,k8⟩
    have hN8:Blk w8 wr.heap.size [.string rtx,.int .i64 ract,.int .i64 rx,.int .i64 ry,.int .i64 rw',.int .i64 rck,.int .i64 rcn,.int .i64 rch,.int .i64 rkd,.int .i64 cy,.int .i64 rnn] 68:=k8.blk (by (exact blA)) no_elim
    have kk7:=HK7.out
    have HK8:=hide (show Kp no w w8 from Kp.trans (by (exact kpA)) k8 (fun _ _ e=>e))
    have HL8:Hid (KN w w8 (.slice la P.length lc) P):=KN.kp (by repeat' (first|with_reducible exact HL7.out|with_reducible refine KN.set ?_ _ HLN.out)) k8
    clear k8 hN7 HL7 hT7
    clear n0 n1 n2 n3 n4 n5 n6 n7 n8 n9 n10 nf hnl
    obtain ⟨n0,n1,n2,n3,n4,n5,n6,n7,n8,n9,n10,nf⟩:=hN8.c11;have hnl:=hN8.lt
    generalize cntF T rnn=cz at *
    have hone:∀ u∈([.string rtx,.int .i64 ract,.int .i64 rx,.int .i64 ry,.int .i64 rw',.int .i64 rck,.int .i64 rcn,.int .i64 rch,.int .i64 rkd,.int .i64 cy,.int .i64 cz]:List Value),u.oneCell'=true:=by simp [Value.oneCell']
    have HL9:=hide (HL8.out.set (o:=10) (.int .i64 (cz:Int)) HLN.out)
    go_wp2_with (at_builtin;refine wpList_append_lies _ rfl (.tmp 37) (.tmp 39) 43 rfl 0 68 i0 _ 11 96 Tryz.underlying43 hi0 hz0 hz1 hz2 rfl (by decide) (.slice la P.length lc) P.length (nnCells P) (by simp [Act.eval]) (by exact World.ownsRow.alloc HL9.out.r _) ⟨w8.heap.size,0,none⟩ 1 1 [.string rtx,.int .i64 ract,.int .i64 rx,.int .i64 ry,.int .i64 rw',.int .i64 rck,.int .i64 rcn,.int .i64 rch,.int .i64 rkd,.int .i64 cy,.int .i64 cz] (by simp [Act.eval]) rfl (by exact Blk.news (Blk.newAt _ [.string rtx,.int .i64 ract,.int .i64 rx,.int .i64 ry,.int .i64 rw',.int .i64 rck,.int .i64 rcn,.int .i64 rch,.int .i64 rkd,.int .i64 cy,.int .i64 cz] _ (by simp))) hone (by decide) (by unfold maxLen;omega) (by omega) (Nat.zero_le _) _ rfl ?_;intro g cap' w' hown hgrow hat hlt')
    go_roundg (l.length-(j+1))
    case measure=>have:=HKK.out;omega
    case rel =>
     have kk8:=HK8.out
     have hap:=KN.app ⟨rtx,ract,rx,ry,rw',rck,rcn,rch,rkd,cy,cz⟩ HL9.out (by (exact kpA)) hown hgrow hat
     exact ⟨j+1,by omega,rfl,by go_num,by rw [HPL.out,HKP.out];exact hap.1,hap.2⟩
  ·obtain rfl:j=l.length:=by omega
   go_wp2
   go_ret
   exact ⟨_,rfl,HKB.out.r,HKR.out⟩
end Go.Proofs.YtellieabhaphhabGreatDoor
namespace Go.Proofs.YtellieabhaphhabGreatDoor
open Go.RowKit
theorem ext_size {s:ByteArray} {n:Nd} (hs:s.size≤900):(s.extract n.a.toNat (n.a+n.l).toNat).size≤1000:=by
 rw [ByteArray.size_extract];omega
theorem lwN_tx {n:NN} (y o:St) (en:Int) (h:n.tx.size≤1000):(lwN n y o en).tx.size≤1000:=by
 unfold lwN
 repeat' split
 ·exact h
 ·show (ByteArray.mk #[42]).size≤1000;decide
 ·show (ByteArray.mk #[42]).size≤1000;decide
 ·exact h
theorem kpN_ln {s:ByteArray} {T:Tbl} {n:Nd} (S:St) (hs:s.size≤900) (hT:T.length≤90):Ln (kpN s T n S):=by
 have h1:=cnt_le T (lwN (encX s n) (algF n true S) (algF n false S) T.length).yes.toNat
 have h2:=cnt_le T (lwN (encX s n) (algF n true S) (algF n false S) T.length).no.toNat
 refine ⟨lwN_tx _ _ _ (ext_size hs),fun _=>?_,fun _=>?_⟩
 ·show 0≤((cntF T _:Nat):Int)∧((cntF T _:Nat):Int)<100;omega
 ·show 0≤((cntF T _:Nat):Int)∧((cntF T _:Nat):Int)<100;omega
theorem kpL_ln {s:ByteArray} {T:Tbl} {l:List Nd} (hs:s.size≤900) (hT:T.length≤90):∀ j,∀ n∈kpL s T l j,Ln n
 | 0,n,hn=>by simp [kpL] at hn
 | j+1,n,hn=>by
  rw [kpL,List.mem_append] at hn
  rcases hn with hn|hn
  ·exact kpL_ln hs hT j n hn
  ·split at hn
   ·split at hn
    ·simp at hn
    ·obtain rfl:n=_:=by simpa using hn
     exact kpN_ln _ hs hT
   ·simp at hn
set_option maxHeartbeats 1600000 in
theorem nprune_long (s:ByteArray) (w:World) (hm:s.size≤maxLen) (hs:900<s.size) :
  Calls Tryz.prog 8 #[.string s] w fun e w'=>e=em2 1∧Kp no w w':=by
 have HS:=hide (nog_long s w hm hs)
 go_enter Tryz.func8,Tryz.ntmps8
 go_wp2_with fail
 refine HS.out.mono ?_
 rintro e w1 ⟨rfl,k1⟩
 go_wp2
 go_ret2
 exact ⟨rfl,k1⟩
set_option maxHeartbeats 1600000 in
theorem nprune_bad (s:ByteArray) (w:World) (hs:s.size≤900) (hb:(graE s).1≠0) :
  Calls Tryz.prog 8 #[.string s] w fun e w'=>e=em2 (graE s).1∧Kp no w w':=by
 have HS:=hide (nog_c s w hs)
 have hb':(((graE s).1:Int) == 0)=false:=by simp;omega
 unfold NogPost at HS
 generalize graE s=ge at *
 obtain ⟨ge1,ge2⟩:=ge
 dsimp only at *
 clear hb
 go_enter Tryz.func8,Tryz.ntmps8
 go_wp2_with fail
 refine HS.out.mono ?_
 rintro e w1 ⟨v,rfl,k1,_⟩
 go_wp2
 go_ret2
 exact ⟨rfl,k1⟩
set_option maxHeartbeats 1600000 in
theorem nprune_good (s:ByteArray) (w:World) (hs:s.size≤900) (hb:graE s=(0,0)) :
  Calls Tryz.prog 8 #[.string s] w fun e w'=>e=.returned (.tuple #[.string (graT (kpL s (lstF (graF s).nodes) (graF s).nodes (graF s).nodes.length)),.int .i64 0])∧Kp no w w':=by
 have HS:=hide (nog_c s w hs)
 have hlen:=(graF_inv s).2
 unfold NogPost at HS
 rw [hb] at HS
 clear hb
 generalize graF s=st at *
 go_enter Tryz.func8,Tryz.ntmps8
 go_wp2_with fail
 refine HS.out.mono ?_
 rintro e w2 ⟨v,rfl,k2,hpost⟩
 obtain ⟨hR,hO,hgd⟩:=hpost trivial
 have HL:=hide (leastTable_c s v st.nodes w2 hR hlen hgd)
 have HPN:=hide (fun tb W (hW:NRow W v (st.nodes.map (encX s))) hB=>prunedNodes_c s v st.nodes tb (lstF st.nodes) W hW hB (lst_len _) (lst_ok _) hlen hgd)
 have HGT:=hide (fun u W hW=>graphText_c u (kpL s (lstF st.nodes) st.nodes st.nodes.length) W hW (Nat.le_trans (kpL_len _ _ _ _) (by omega)) (kpL_ln hs (by rw [lst_len];exact hlen) _))
 have HRR:=hide hR
 obtain ⟨a,cap,rfl⟩:=hR.shape
 rw [List.length_map] at HL HPN HRR ⊢
 clear hO hgd hpost HS hR
 go_wp2_with fail
 refine HL.out.mono ?_
 rintro e w3 ⟨tb,rfl,hB,k3⟩
 go_wp2_with fail
 refine (HPN.out tb _ (by exact k3.row HRR.out (fun _ _=>no_elim)) (by exact hB)).mono ?_
 rintro e w4 ⟨u,rfl,hu,k4⟩
 have HU:=hide hu
 obtain ⟨ua,uc,rfl⟩:=hu.shape
 go_wp2_with fail
 refine (HGT.out _ _ (by exact HU.out)).mono ?_
 rintro e w5 ⟨rfl,k5⟩
 go_wp2
 go_ret2
 exact ⟨rfl,((k2.trans k3 (fun _ _ e=>e)).trans k4 (fun _ _ e=>e)).trans k5 (fun _ _ e=>e)⟩
end Go.Proofs.YtellieabhaphhabGreatDoor
namespace Go.Proofs.YtellieabhaphhabGreatDoor
open Go.RowKit
def prnN (g:Nat) (T:Tbl) (n:Nd) (S:St):Nd :=
 if n.op=121∨n.op=58 then
  (if hldF n true S≠[]∧hldF n false S≠[] then { n with t:=(renF T n.t.toNat (hldF n true S):Nat),f:=(renF T n.f.toNat (hldF n false S):Nat) }
  else ⟨42,0,0,0,0,if hldF n true S=[] then (renF T n.f.toNat (hldF n false S):Nat) else (renF T n.t.toNat (hldF n true S):Nat),-1,g,1⟩)
 else if n.op=33 then n else { n with t:=(renF T n.t.toNat (behF n S):Nat) }
def prnL (g:Nat) (T:Tbl) (l:List Nd):Nat→List Nd
 | 0=>[]
 | j+1=>prnL g T l j++(match l[j]? with|some n=>if T.getD j []=[] then [] else [prnN g T n (T.getD j [])]|none=>[])
theorem prnL_len (g:Nat) (T:Tbl) (l:List Nd):∀ j,(prnL g T l j).length≤j
 | 0=>Nat.le_refl _
 | j+1=>by
  have:=prnL_len g T l j
  rw [prnL,List.length_append]
  have h2:(match l[j]? with|some n=>if T.getD j []=[] then [] else [prnN g T n (T.getD j [])]|none=>([]:List Nd)).length≤1:=by
   split
   ·split <;> simp
   ·simp
  omega
end Go.Proofs.YtellieabhaphhabGreatDoor
