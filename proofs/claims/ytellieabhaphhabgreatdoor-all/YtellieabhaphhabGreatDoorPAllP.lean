import Derived.Test.YtellieabhaphhabGreatDoorPAllO
namespace Go.Proofs.YtellieabhaphhabGreatDoor
open Go.RowKit
theorem ext_app {s t:ByteArray} {a b:Nat} (h:b≤s.size):(s++t).extract a b=s.extract a b:=by
 apply ByteArray.ext
 rw [ByteArray.data_extract,ByteArray.data_extract,ByteArray.data_append]
 have hb:b≤s.data.size:=h
 apply Array.ext'
 simp only [Array.toList_extract,Array.toList_append,List.extract_eq_take_drop]
 rw [List.drop_append,List.take_append]
 simp
 omega
theorem ext_star (s:ByteArray):(s++⟨#[42]⟩).extract s.size (s.size+1)=⟨#[42]⟩:=by
 apply ByteArray.ext
 rw [ByteArray.data_extract,ByteArray.data_append]
 have hs:s.size=s.data.size:=rfl
 rw [hs]
 apply Array.ext'
 simp
theorem wayB_nat (k:Nat):wayB ((k:Nat):Int)=⟨#[44]⟩++twoB k:=by rw [wayB,if_pos (Int.natCast_nonneg k),Int.toNat_natCast]
theorem wayB_neg:wayB (-1)=⟨#[]⟩:=rfl
theorem actN_test {op:Int} (h:opOk op):(actN op=12∨actN op=13)↔(op=121∨op=58):=by
 unfold opOk at h
 rcases h with rfl|rfl|rfl|rfl|rfl|rfl|rfl|rfl|rfl|rfl|rfl|rfl|rfl|rfl|rfl|rfl|rfl|rfl <;> decide
theorem actN_never {op:Int} (h:opOk op):(actN op=11)↔(op=33):=by
 unfold opOk at h
 rcases h with rfl|rfl|rfl|rfl|rfl|rfl|rfl|rfl|rfl|rfl|rfl|rfl|rfl|rfl|rfl|rfl|rfl|rfl <;> decide
theorem idl_ln (k c d:Int):lnTx { idlN k with yes:=c,no:=d }=(⟨#[42]⟩:ByteArray)++(⟨#[44]⟩++twoB c.toNat)++⟨#[59]⟩:=by
 show (⟨#[42]⟩:ByteArray)++(⟨#[44]⟩++twoB c.toNat)++⟨#[]⟩++⟨#[59]⟩=_
 rw [ba_nil]
theorem node_text {s:ByteArray} {n:Nd} (h:Gd s n):(s++⟨#[42]⟩).extract n.a.toNat (n.a+n.l).toNat=s.extract n.a.toNat (n.a+n.l).toNat :=
 ext_app (by have:=h.al;omega)
theorem way_all {n:Nd} (hg:Gn n) (ht:n.op=121∨n.op=58):wayM n true ||| wayM n false=127:=by
 rcases ht with e|e
 ·rw [show wayM n true=115 by rw [wayM,e];rfl,show wayM n false=13 by rw [wayM,e];rfl];rfl
 ·have hk:=hg.kd (.inl e)
  rw [wayM,wayM,e]
  unfold KOk at hk
  rcases hk with h|h|h|h|h|h|h <;> rw [h] <;> rfl
theorem one_way {n:Nd} {S:St} (hg:Gn n) (hF:Ful S) (ht:n.op=121∨n.op=58) (h1:hldF n true S=[]) (h2:hldF n false S=[]):False:=by
 have hy6:n.y.toNat<6:=by have:=hg.y;omega
 have key:∀ b,hldF n b S=[]→S.getD n.y.toNat 0&&&wayM n b=0:=by
  intro b h
  rw [hldF,withS] at h
  split at h
  ·rename_i hc;exact hc.resolve_left hF.nil
  ·rename_i hc
   exfalso
   have:=congrArg List.length h
   rw [List.length_set,hF.z.len] at this
   cases this
 have e:=Nat.and_or_distrib_left (S.getD n.y.toNat 0) (wayM n true) (wayM n false)
 rw [key true h1,key false h2,way_all hg ht,and_127 (hF.z.get _)] at e
 exact hF.ne _ hy6 e
theorem kp_line {s:ByteArray} {T:Tbl} {n:Nd} {S:St} (h:Gd s n) (hF:Ful S):lnTx (kpN s T n S)=linB (s++⟨#[42]⟩) (prnN s.size T n S):=by
 have hop:=h.g.op
 have ht12:=actN_test hop
 have ht11:=actN_never hop
 have hx:=node_text h
 by_cases ht:n.op=121∨n.op=58
 ·have hA:algF n true S=hldF n true S:=by rw [algF,if_pos ht]
  have hB:algF n false S=hldF n false S:=by rw [algF,if_pos ht]
  have hyes:yesN n=n.t:=by rw [yesN,if_neg (by omega)]
  have hno:noN n=n.f:=by rw [noN,if_pos ht]
  have hone:=one_way h.g hF ht
  unfold kpN prnN
  rw [hA,hB,if_pos ht]
  generalize hldF n true S=A at *
  generalize hldF n false S=B at *
  by_cases h1:A=[]
  ·have h2:B≠[]:=fun e=>hone h1 e
   have hl:lwN (encX s n) A B T.length=idlN n.f:=by
    rw [lwN,if_neg (fun e=>e.1 h1),if_neg (fun e=>e h1),if_pos h2]
    show idlN (noN n)=_
    rw [hno]
   rw [hl,if_neg (fun e=>e.1 h1),if_pos h1,idl_ln,Int.toNat_natCast]
   show _=(s++⟨#[42]⟩).extract (s.size:Int).toNat ((s.size:Int)+1).toNat++wayB ((renF T n.f.toNat B:Nat):Int)++wayB (-1)++⟨#[59]⟩
   rw [show ((s.size:Int)+1).toNat=s.size+1 by omega,Int.toNat_natCast,ext_star,wayB_nat,wayB_neg,ba_nil,renF,if_neg h2]
   rfl
  ·by_cases h2:B=[]
   ·have hl:lwN (encX s n) A B T.length=idlN n.t:=by
     rw [lwN,if_neg (fun e=>e.2 h2),if_pos h1]
     show idlN (yesN n)=_
     rw [hyes]
    rw [hl,if_neg (fun e=>e.2 h2),if_neg h1,idl_ln,Int.toNat_natCast]
    show _=(s++⟨#[42]⟩).extract (s.size:Int).toNat ((s.size:Int)+1).toNat++wayB ((renF T n.t.toNat A:Nat):Int)++wayB (-1)++⟨#[59]⟩
    rw [show ((s.size:Int)+1).toNat=s.size+1 by omega,Int.toNat_natCast,ext_star,wayB_nat,wayB_neg,ba_nil,renF,if_neg h1]
    rfl
   ·have hl:lwN (encX s n) A B T.length=encX s n:=by rw [lwN,if_pos ⟨h1,h2⟩]
    rw [hl,if_pos ⟨h1,h2⟩,lnTx]
    show s.extract n.a.toNat (n.a+n.l).toNat++(if actN n.op=11 then ⟨#[]⟩ else ⟨#[44]⟩++twoB ((cntF T (yesN n).toNat:Nat):Int).toNat)++(if actN n.op=12∨actN n.op=13 then ⟨#[44]⟩++twoB ((cntF T (noN n).toNat:Nat):Int).toNat else ⟨#[]⟩)++⟨#[59]⟩=(s++⟨#[42]⟩).extract n.a.toNat (n.a+n.l).toNat++wayB ((renF T n.t.toNat A:Nat):Int)++wayB ((renF T n.f.toNat B:Nat):Int)++⟨#[59]⟩
    rw [if_neg (fun e=>by have:=ht11.1 e;omega),if_pos (ht12.2 ht),hx,wayB_nat,wayB_nat,renF,renF,if_neg h1,if_neg h2,hyes,hno,Int.toNat_natCast,Int.toNat_natCast]
 ·have hA:algF n true S=behF n S:=by rw [algF,if_neg ht]
  have hB:algF n false S=behF n S:=by rw [algF,if_neg ht]
  have hf:=h.g.f ht
  unfold kpN prnN
  rw [hA,hB,if_neg ht]
  by_cases h33:n.op=33
  ·have hb:behF n S=[]:=by rw [behF,if_pos h33]
   have hl:lwN (encX s n) [] [] T.length={ encX s n with yes:=T.length,no:=T.length }:=by rw [lwN,if_neg (fun e=>e.1 rfl),if_neg (fun e=>e rfl),if_neg (fun e=>e rfl)]
   rw [hb,hl,if_pos h33,lnTx]
   show s.extract n.a.toNat (n.a+n.l).toNat++(if actN n.op=11 then ⟨#[]⟩ else _)++(if actN n.op=12∨actN n.op=13 then _ else ⟨#[]⟩)++⟨#[59]⟩=(s++⟨#[42]⟩).extract n.a.toNat (n.a+n.l).toNat++wayB n.t++wayB n.f++⟨#[59]⟩
   rw [if_pos (ht11.2 h33),if_neg (fun e=>ht (ht12.1 e)),hx,h.t3 h33,hf,wayB_neg]
  ·have hyes:yesN n=n.t:=by rw [yesN,if_neg h33]
   rw [if_neg h33]
   generalize behF n S=A at *
   by_cases h1:A=[]
   ·have hl:lwN (encX s n) A A T.length={ encX s n with yes:=T.length,no:=T.length }:=by rw [lwN,if_neg (fun e=>e.1 h1),if_neg (fun e=>e h1),if_neg (fun e=>e h1)]
    rw [hl,lnTx]
    show s.extract n.a.toNat (n.a+n.l).toNat++(if actN n.op=11 then ⟨#[]⟩ else ⟨#[44]⟩++twoB ((cntF T ((T.length:Nat):Int).toNat:Nat):Int).toNat)++(if actN n.op=12∨actN n.op=13 then _ else ⟨#[]⟩)++⟨#[59]⟩=(s++⟨#[42]⟩).extract n.a.toNat (n.a+n.l).toNat++wayB ((renF T n.t.toNat A:Nat):Int)++wayB n.f++⟨#[59]⟩
    rw [if_neg (fun e=>h33 (ht11.1 e)),if_neg (fun e=>ht (ht12.1 e)),hx,hf,wayB_nat,wayB_neg,renF,if_pos h1,Int.toNat_natCast,Int.toNat_natCast]
   ·have hl:lwN (encX s n) A A T.length=encX s n:=by rw [lwN,if_pos ⟨h1,h1⟩]
    rw [hl,lnTx]
    show s.extract n.a.toNat (n.a+n.l).toNat++(if actN n.op=11 then ⟨#[]⟩ else ⟨#[44]⟩++twoB ((cntF T (yesN n).toNat:Nat):Int).toNat)++(if actN n.op=12∨actN n.op=13 then _ else ⟨#[]⟩)++⟨#[59]⟩=(s++⟨#[42]⟩).extract n.a.toNat (n.a+n.l).toNat++wayB ((renF T n.t.toNat A:Nat):Int)++wayB n.f++⟨#[59]⟩
    rw [if_neg (fun e=>h33 (ht11.1 e)),if_neg (fun e=>ht (ht12.1 e)),hx,hf,wayB_nat,wayB_neg,renF,if_neg h1,hyes,Int.toNat_natCast]
theorem prune_text {s:ByteArray} {T:Tbl} {l:List Nd} (hT:TOk T) (hg:∀ n∈l,Gd s n):∀ j,graT (kpL s T l j)=wriF (s++⟨#[42]⟩) (prnL s.size T l j)
 | 0=>rfl
 | j+1=>by
  have ih:=prune_text hT hg j
  rw [kpL,prnL]
  cases hn:l[j]? with
  | none=>rw [List.append_nil,List.append_nil];exact ih
  | some n =>
   dsimp only
   by_cases h0:T.getD j []=[]
   ·rw [if_pos h0,if_pos h0,List.append_nil,List.append_nil];exact ih
   ·rw [if_neg h0,if_neg h0,graT,List.foldl_append,← graT,wriF,List.foldl_append,← wriF,ih]
    show _++lnTx _=_++linB _ _
    rw [kp_line (hg n (List.mem_of_getElem? hn)) ((hT.get j).ful h0)]
end Go.Proofs.YtellieabhaphhabGreatDoor
namespace Go.Proofs.YtellieabhaphhabGreatDoor
open Go.RowKit
theorem TV.kp {w w':World} {v:Value} {T:Tbl} (h:TV w v T) (k:Kp no w w'):TV w' v T:=by
 obtain ⟨tb,cap,rfl,htb,hat⟩:=h
 refine ⟨tb,cap,rfl,Nat.lt_of_lt_of_le htb k.size,fun i hi=>?_⟩
 obtain ⟨a,c,h1,h2⟩:=hat i hi
 exact ⟨a,c,(k.cell htb no_elim i).trans h1,k.row h2 (fun _ _=>no_elim)⟩
structure LB (w0 w:World) (v:Value) (l:List Nd):Prop where
 r:DRow w v l
 o:New w0 v
theorem LB.kp {w0 w w':World} {v:Value} {l:List Nd} (h:LB w0 w v l) (k:Kp no w w'):LB w0 w' v l:=⟨k.row h.r (fun _ _=>no_elim),h.o⟩
theorem LB.set {w0 w:World} {v:Value} {l:List Nd} (h:LB w0 w v l) {b o:Nat} (u:Value) (hb:v.ownBlock≠some b):LB w0 (w.setCell ⟨b,o,none⟩ u) v l:=⟨Row.set h.r _ hb,h.o⟩
theorem ncells_snoc {l:List Nd} {n:Nd}:nCells (l++[n])=nCells l++n.cells:=by
 rw [nCells,List.flatMap_append,← nCells,List.flatMap_cons,List.flatMap_nil,List.append_nil]
theorem drow_snoc {W':World} {l:List Nd} {n:Nd} {g cap:Nat}
  (hown:W'.ownsRow 0 111 9 (.slice (some ⟨g,0,none⟩) (l.length+1) cap) (l.length+1) (nCells l++n.cells)):DRow W' (.slice (some ⟨g,0,none⟩) (l.length+1) cap) (l++[n]):=by
 have e4:(l++[n]).length=l.length+1:=List.length_append
 show World.ownsRow W' 0 111 9 _ (l++[n]).length (nCells (l++[n]))
 rw [ncells_snoc,e4]
 exact hown
theorem LB.app {w0 W W':World} {v:Value} {l:List Nd} {o:Obj} {g cap:Nat} (n:Nd) (h:LB w0 W v l) (hk:Kp no w0 W)
  (hown:W'.ownsRow 0 111 9 (.slice (some ⟨g,0,none⟩) (l.length+1) cap) (l.length+1) (nCells l++n.cells)) (hgrow:(W.alloc o).grownBy W' v.ownBlock) (hat:v.ownBlock=some g∨g=(W.alloc o).heap.size) :
  LB w0 W' (.slice (some ⟨g,0,none⟩) (l.length+1) cap) (l++[n])∧Kp no w0 W' :=
 ⟨⟨drow_snoc hown,(app_step h.o hk hgrow hat (l.length+1) cap).1⟩,(app_step h.o hk hgrow hat (l.length+1) cap).2⟩
theorem prnN_wn {s:ByteArray} {T:Tbl} {n:Nd} (S:St) (h:Gd s n) (hs:s.size≤900) (hT:T.length≤90):Wn (s++⟨#[42]⟩) (prnN s.size T n S):=by
 have hsz:(s++(⟨#[42]⟩:ByteArray)).size=s.size+1:=by rw [ByteArray.size_append];rfl
 have hr:∀ i s',renF T i s'≤90:=fun i s'=>by
  unfold renF;split
  ·exact Nat.le_trans (cnt_le T _) hT
  ·exact Nat.le_trans (cnt_le T _) hT
 have h1:=h.a
 have h2:=h.l
 have h3:=h.al
 have htf:=h.tf
 unfold prnN
 repeat' split
 ·have a1:=hr n.t.toNat (hldF n true S);have a2:=hr n.f.toNat (hldF n false S)
  exact ⟨h1,by dsimp only;omega,by rw [hsz];dsimp only;omega,by dsimp only;omega,by dsimp only;omega⟩
 ·have a2:=hr n.f.toNat (hldF n false S)
  exact ⟨by dsimp only;omega,by dsimp only;omega,by rw [hsz];dsimp only;omega,by dsimp only;omega,by dsimp only;omega⟩
 ·have a1:=hr n.t.toNat (hldF n true S)
  exact ⟨by dsimp only;omega,by dsimp only;omega,by rw [hsz];dsimp only;omega,by dsimp only;omega,by dsimp only;omega⟩
 ·rename_i ht h33
  have:=h.t3 h33;have:=h.g.f ht
  exact ⟨h1,by omega,by rw [hsz];omega,by omega,by omega⟩
 ·rename_i ht h33
  have a1:=hr n.t.toNat (behF n S);have:=h.g.f ht
  exact ⟨h1,by dsimp only;omega,by rw [hsz];dsimp only;omega,by dsimp only;omega,by dsimp only;omega⟩
theorem prnL_wn {s:ByteArray} {T:Tbl} {l:List Nd} (hg:∀ n∈l,Gd s n) (hs:s.size≤900) (hT:T.length≤90):∀ j,∀ n∈prnL s.size T l j,Wn (s++⟨#[42]⟩) n
 | 0,n,hn=>by simp [prnL] at hn
 | j+1,n,hn=>by
  rw [prnL,List.mem_append] at hn
  rcases hn with hn|hn
  ·exact prnL_wn hg hs hT j n hn
  ·split at hn
   ·rename_i m hm
    split at hn
    ·simp at hn
    ·obtain rfl:n=_:=by simpa using hn
     exact prnN_wn _ (hg m (List.mem_of_getElem? hm)) hs hT
   ·simp at hn
theorem buildStar (x sz:Int) (w:World):(Instr.build 111 #[(0,.int .u8 42),(7,.int .i64 sz),(8,.int .i64 1),(5,.int .i64 x),(6,.int .i64 (-1))]).run Tryz.prog w=.ok (.agg #[.int .u8 42,.int .i64 0,.int .i64 0,.int .i64 0,.int .u8 0,.int .i64 x,.int .i64 (-1),.int .i64 sz,.int .i64 1]) w:=run_build w 111 _ _ (by kernel_rfl)
set_option maxRecDepth 100000 in
set_option maxHeartbeats 3200000 in
theorem rprune_good (s:ByteArray) (w:World) (hs:s.size≤900) (hb:graE s=(0,0)) (hg:∀ n∈(graF s).nodes,Gd s n) :
  Calls Tryz.prog 33 #[.string s] w fun e w'=>e=.returned (.tuple #[.string (wriF (s++⟨#[42]⟩) (prnL s.size (lstF (graF s).nodes) (graF s).nodes (graF s).nodes.length)),.int .i64 0])∧Kp no w w':=by
 have HS:=hide (lines_c s w hs)
 have hlen:=(graF_inv s).2
 unfold LinPost at HS
 rw [hb] at HS
 clear hb
 generalize graF s=st at *
 obtain ⟨i0,hi,hz0,hz1,hz2⟩:=info_parts info_node
 go_enter Tryz.func33,Tryz.ntmps33
 go_wp2_with fail
 refine HS.out.mono ?_
 rintro e w1 ⟨r,O,rfl,hr,k1,hO⟩
 obtain ⟨a,cap,n3,hD,hrl⟩:=rp_drow hr
 have HD:=hide hD
 have HN3:=hide n3
 clear hr hO hD HS
 go_wp2_with fail
 refine (least_c _ st.nodes _ HD.out hlen (fun n hn=>(hg n hn).g)).mono ?_
 rintro e w2 ⟨u,rfl,hu,k2⟩
 have HTV:=hide hu
 obtain ⟨tb,c2,rfl,htb,hat⟩:=hu
 rw [lst_len] at HTV hat ⊢
 have HAT:=hide hat
 have HD2:=hide (k2.row HD.out (fun _ _=>no_elim))
 have HN2:=hide ((k2.cell hrl no_elim 3).trans HN3.out)
 have hr2:=Nat.lt_of_lt_of_le hrl k2.size
 have HKW:=hide (k1.trans k2 (fun _ _ e=>e))
 have HOK:=hide (lst_ok st.nodes)
 have HLE:=hide (lst_len st.nodes)
 clear hat k1 k2 HD HN3 n3 hrl
 generalize hT0:lstF st.nodes=T at *
 have HT0:=hide hT0
 clear hT0
 generalize hl0:st.nodes=l at *
 have HL0:=hide hl0
 clear hl0
 go_wp2
 go_loopg [8,9] l.length (fun k lv iv wr=>∃ j:Nat,j≤l.length∧k=l.length-j∧iv=.int .i64 j∧LB w2 wr lv (prnL s.size T l j)∧Kp no w2 wr)
 case atStart=>exact ⟨0,Nat.zero_le _,rfl,rfl,⟨⟨rfl,.inl ⟨rfl,rfl⟩⟩,New.none _⟩,Kp.refl _ _⟩
 case round =>
  obtain ⟨j,hj,hk,rfl,hLB,kr⟩:=hrel
  have HKK:=hide hk
  have HLB:=hide hLB
  have HKR:=hide kr
  obtain ⟨la,lc,rfl⟩:=hLB.r.shape
  clear hk hLB kr
  by_cases hlt:j<l.length
  ·obtain ⟨nd,hnd⟩:∃ nd,l[j]?=some nd:=⟨_,List.getElem?_eq_getElem hlt⟩
   have HND:=hide hnd
   have HGD:=hide (hg nd (List.mem_of_getElem? hnd))
   have HPL:=hide (show prnL s.size T l (j+1)=prnL s.size T l j++(if T.getD j []=[] then [] else [prnN s.size T nd (T.getD j [])]) by rw [prnL,hnd])
   obtain ⟨_,gn,ha,_⟩:=DRow.at HD2.out hnd
   subst ha
   obtain ⟨a1,p1,q0w,q1w⟩:=HAT.out j (by omega)
   have HSO:=hide (HOK.out.get j)
   have hpl:=prnL_len s.size T l j
   clear hnd
   generalize T.getD j []=S at *
   generalize prnL s.size T l j=P at *
   have hjI:(j:Int)<l.length:=by omega
   have HQ0:=hide q0w
   have HQ1:=hide q1w
   have q0:=(HKR.out.cell htb no_elim j).trans q0w
   obtain ⟨gnl,n0,n1,n2,n3,n4,n5,n6,n7,n8⟩:=DRow.at2 (HKR.out.row HD2.out (fun _ _=>no_elim)) HND.out
   have c3:=(HKR.out.cell hr2 no_elim 3).trans HN2.out
   have htr:=Nat.lt_of_lt_of_le htb HKR.out.size
   have hrr:=Nat.lt_of_lt_of_le hr2 HKR.out.size
   clear q0w q1w
   have HTE:=hide (fun W=>ftest_c nd W)
   have HLN:Hid (Value.ownBlock (.slice la P.length lc)≠some wr.heap.size):=fun e=>by have:=Row.lt HLB.out.r e;omega
   go_wp2_with fail
   refine (HTE.out _).mono ?_
   rintro e w5 ⟨rfl,k5⟩
   have hN5:Blk w5 wr.heap.size [.int .u8 nd.op,.int .i64 nd.x,.int .i64 nd.y,.int .i64 nd.v,.int .u8 nd.k,.int .i64 nd.t,.int .i64 nd.f,.int .i64 nd.a,.int .i64 nd.l] 111:=k5.blk (by (exact blA)) no_elim
   have HK5:=hide (HKR.out.trans (S':=no) (Kp.trans (by (exact kpA)) k5 (fun _ _ e=>e)) (fun _ _ e=>e))
   have HL5:=hide (HLB.out.kp (Kp.trans (by (exact kpA)) k5 (fun _ _ e=>e)))
   clear k5 q0 gnl n0 n1 n2 n3 n4 n5 n6 n7 n8 c3 htr hrr
   have q0:=(HK5.out.cell htb no_elim j).trans HQ0.out
   have htr:=Nat.lt_of_lt_of_le htb HK5.out.size
   obtain ⟨n0,n1,n2,n3,n4,n5,n6,n7,n8,nf⟩:=hN5.c9;have hnl:=hN5.lt
   by_cases hS0:S=[]
   ·rw [if_pos hS0,List.append_nil] at HPL
    subst hS0
    generalize decide (nd.op=121∨nd.op=58)=tst at *
    cases tst
    all_goals
     go_wp2
     go_roundg (l.length-(j+1))
     case measure=>have:=HKK.out;omega
     case rel=>exact ⟨j+1,by omega,rfl,by go_num,by rw [HPL.out];exact HL5.out,HK5.out⟩
   ·rw [if_neg hS0] at HPL
    have hSI:(0:Int)<(S.length:Int):=by have:=(HSO.out.resolve_left hS0).1;omega
    by_cases ht:nd.op=121∨nd.op=58
    ·obtain ⟨tn,htn⟩:=Int.eq_ofNat_of_zero_le (HGD.out.t (by omega)).1
     obtain ⟨fn,hfn⟩:=Int.eq_ofNat_of_zero_le (HGD.out.f ht).1
     have HHT:=hide (fun v W hv=>fholds_c nd v S true W hv HSO.out hS0 HGD.out.g ht)
     have HHF:=hide (fun v W hv=>fholds_c nd v S false W hv HSO.out hS0 HGD.out.g ht)
     have HOA:=hide (HSO.out.hld nd true)
     have HOB:=hide (HSO.out.hld nd false)
     have HPN1:=hide (fun (h1:hldF nd true S≠[]∧hldF nd false S≠[])=>show prnN s.size T nd S={ nd with t:=(renF T tn (hldF nd true S):Nat),f:=(renF T fn (hldF nd false S):Nat) } by rw [prnN,if_pos ht,if_pos h1,htn,hfn,Int.toNat_natCast,Int.toNat_natCast])
     have HPN2:=hide (fun (h1:¬ (hldF nd true S≠[]∧hldF nd false S≠[]))=>show prnN s.size T nd S=⟨42,0,0,0,0,if hldF nd true S=[] then (renF T fn (hldF nd false S):Nat) else (renF T tn (hldF nd true S):Nat),-1,s.size,1⟩ by rw [prnN,if_pos ht,if_neg h1,htn,hfn,Int.toNat_natCast,Int.toNat_natCast])
     rw [decide_eq_true ht]
     clear ht hS0 HTE
     generalize hldF nd true S=A at *
     generalize hldF nd false S=B at *
     have HH5:=hide (And.intro hN5 HK5.out)
     obtain ⟨op,nx,ny,nv,nk,nt,nff,na,nl⟩:=nd
     dsimp only at *
     subst htn hfn
     have HH5L:=HL5
     go_wp2_with fail
     go_cut [12] from 1000 (fun av W5=>SV W5 av (A)∧(Blk W5 wr.heap.size [.int .u8 op,.int .i64 nx,.int .i64 ny,.int .i64 nv,.int .u8 nk,.int .i64 tn,.int .i64 fn,.int .i64 na,.int .i64 nl] 111∧Kp no w2 W5)∧LB w2 W5 (.slice la P.length lc) P)
     case first =>
      go_region_with (go_at_call 66;refine (HHT.out _ _ (Kp.row (S:=no) (HH5.out.2.trans (S':=no) (by (exact kpA)) (fun _ _ e=>e)) HQ1.out (fun _ _=>no_elim))).mono ?_;rintro e w6 ⟨u,rfl,hu,hnew,k6⟩)
      all_goals
       go_wp2
       go_meet
       case rel =>
        have k7:Kp no w5 w6:=Kp.trans (by (exact kpA)) k6 (fun _ _ e=>e)
        exact ⟨hu,⟨(by (exact kpA):Kp no w5 _).blk HH5.out.1 no_elim,HH5.out.2.trans (S':=no) (by (exact kpA)) (fun _ _ e=>e)⟩,HH5L.out.kp (by (exact kpA))⟩
     case rest =>
      obtain ⟨hA,hHC,hLC⟩:=hcut
      obtain ⟨aa,ca,rfl⟩:=hA.shape
      have HA:=hide hA
      have HC:=hide hHC
      have HCL:=hide hLC
      clear hA hHC hLC
      clear n0 n1 n2 n3 n4 n5 n6 n7 n8 nf hnl q0 htr
      obtain ⟨n0,n1,n2,n3,n4,n5,n6,n7,n8,nf⟩:=HC.out.1.c9;have hnl:=HC.out.1.lt;have q0:=(HC.out.2.cell htb no_elim j).trans HQ0.out;have htr:=Nat.lt_of_lt_of_le htb HC.out.2.size
      go_wp2_with fail
      go_cut [13] from 1000 (fun av W5=>SV W5 av (B)∧(Blk W5 wr.heap.size [.int .u8 op,.int .i64 nx,.int .i64 ny,.int .i64 nv,.int .u8 nk,.int .i64 tn,.int .i64 fn,.int .i64 na,.int .i64 nl] 111∧Kp no w2 W5)∧LB w2 W5 (.slice la P.length lc) P∧SV W5 (.slice aa A.length ca) A)
      case first =>
       go_region_with (go_at_call 66;refine (HHF.out _ _ (Kp.row (S:=no) (HC.out.2.trans (S':=no) (by (exact kpA)) (fun _ _ e=>e)) HQ1.out (fun _ _=>no_elim))).mono ?_;rintro e w6 ⟨u,rfl,hu,hnew,k6⟩)
       all_goals
        go_wp2
        go_meet
        case rel =>
         have k7:Kp no wc w6:=Kp.trans (by (exact kpA)) k6 (fun _ _ e=>e)
         exact ⟨hu,⟨(by (exact kpA):Kp no wc _).blk HC.out.1 no_elim,HC.out.2.trans (S':=no) (by (exact kpA)) (fun _ _ e=>e)⟩,HCL.out.kp (by (exact kpA)),(by (exact kpA):Kp no wc _).row HA.out (fun _ _=>no_elim)⟩
      case rest =>
       obtain ⟨hB,hHD,hLD,hA2⟩:=hcut
       obtain ⟨ba,cb,rfl⟩:=hB.shape
       have HB:=hide hB
       have HD:=hide hHD
       have HDL:=hide hLD
       have HA2:=hide hA2
       clear hB hHD hLD hA2
       clear n0 n1 n2 n3 n4 n5 n6 n7 n8 nf hnl q0 htr
       obtain ⟨n0,n1,n2,n3,n4,n5,n6,n7,n8,nf⟩:=HD.out.1.c9;have hnl:=HD.out.1.lt;have q0:=(HD.out.2.cell htb no_elim j).trans HQ0.out;have htr:=Nat.lt_of_lt_of_le htb HD.out.2.size
       have HRX:=hide (renumbered_c _ _ T tn A _ (HTV.out.kp HD.out.2) HOK.out HA2.out (by have:=HLE.out;omega))
       have HRY:=hide (renumbered_c _ _ T fn B _ (HTV.out.kp HD.out.2) HOK.out HB.out (by have:=HLE.out;omega))
       generalize renF T tn A=X at *
       generalize renF T fn B=Y at *
       go_wp2_with fail
       refine HRX.out.mono ?_
       rintro e w' ⟨rfl,rfl⟩
       go_wp2_with fail
       refine HRY.out.mono ?_
       rintro e w' ⟨rfl,rfl⟩
       have hNb:=HD.out.1
       have hKb:=HD.out.2
       have hsw:=HKR.out.size
       have hbu:=buildStar
       by_cases hA0:A=[]
       ·have HPP:=hide (HPN2.out (fun e=>e.1 hA0))
        rw [if_pos hA0] at HPP
        rw [HPP.out] at HPL
        have hl0:A.length=0:=by rw [hA0];rfl
        rw [hl0]
        clear HPN1 HPN2 HPP hA0 hl0
        go_upto_region 20 with fail
        refine wp_gen (fun W=>Blk W wr.heap.size [.int .u8 42,.int .i64 0,.int .i64 0,.int .i64 0,.int .u8 0,.int .i64 (X:Nat),.int .i64 (-1),.int .i64 s.size,.int .i64 1] 111∧LB w2 W (.slice la P.length lc) P∧Kp no w2 W) ⟨by (exact blA),by repeat' (first|with_reducible exact HDL.out|with_reducible refine LB.set ?_ _ HLN.out),by (exact kpA)⟩ ?_
        rintro W ⟨hNW,hLW,kW⟩
        have HLW:=hide hLW
        have HKW2:=hide kW
        clear n0 n1 n2 n3 n4 n5 n6 n7 n8 nf hnl q0 htr
        obtain ⟨n0,n1,n2,n3,n4,n5,n6,n7,n8,nf⟩:=hNW.c9;have hnl:=hNW.lt
        have hKb2:=HKW2.out
        clear hNW hLW kW
        have hone:∀ u∈([.int .u8 42,.int .i64 0,.int .i64 0,.int .i64 0,.int .u8 0,.int .i64 (Y:Nat),.int .i64 (-1),.int .i64 s.size,.int .i64 1]:List Value),u.oneCell'=true:=by simp [Value.oneCell']
        go_wp2_with (at_builtin;refine wpList_append_lies _ rfl (.tmp 99) (.tmp 101) 102 rfl 0 111 i0 _ 9 72 Tryz.underlying102 hi hz0 hz1 hz2 rfl (by decide) (.slice la P.length lc) P.length (nCells P) (by simp [Act.eval]) (World.ownsRow.alloc (by repeat' (first|with_reducible exact HLW.out.r|with_reducible refine Row.set ?_ _ HLN.out)) _) ⟨W.heap.size,0,none⟩ 1 1 [.int .u8 42,.int .i64 0,.int .i64 0,.int .i64 0,.int .u8 0,.int .i64 (Y:Nat),.int .i64 (-1),.int .i64 s.size,.int .i64 1] (by simp [Act.eval]) rfl (by exact Blk.news (Blk.newAt _ [.int .u8 42,.int .i64 0,.int .i64 0,.int .i64 0,.int .u8 0,.int .i64 (Y:Nat),.int .i64 (-1),.int .i64 s.size,.int .i64 1] _ (by simp))) hone (by decide) (by unfold maxLen;omega) (by omega) (Nat.zero_le _) _ rfl ?_;intro g cap' w' hown hgrow hat hlt')
        go_roundg (l.length-(j+1))
        case measure=>have:=HKK.out;omega
        case rel =>
         have hap:=LB.app (w0:=w2) ⟨42,0,0,0,0,(Y:Nat),-1,s.size,1⟩ (by repeat' (first|with_reducible exact HLW.out|with_reducible refine LB.set ?_ _ HLN.out)) (by (exact kpA)) hown hgrow hat
         exact ⟨j+1,by omega,rfl,by go_num,by rw [HPL.out];exact hap.1,hap.2⟩
       ·have ha6:A.length=6:=(HOA.out.resolve_left hA0).1
        rw [ha6]
        by_cases hB0:B=[]
        ·have HPP:=hide (HPN2.out (fun e=>e.2 hB0))
         rw [if_neg hA0] at HPP
         rw [HPP.out] at HPL
         have hl0:B.length=0:=by rw [hB0];rfl
         rw [hl0]
         clear HPN1 HPN2 HPP hA0 hB0 hl0 ha6
         go_upto_region 20 with fail
         refine wp_gen (fun W=>Blk W wr.heap.size [.int .u8 42,.int .i64 0,.int .i64 0,.int .i64 0,.int .u8 0,.int .i64 (X:Nat),.int .i64 (-1),.int .i64 s.size,.int .i64 1] 111∧LB w2 W (.slice la P.length lc) P∧Kp no w2 W) ⟨by (exact blA),by repeat' (first|with_reducible exact HDL.out|with_reducible refine LB.set ?_ _ HLN.out),by (exact kpA)⟩ ?_
         rintro W ⟨hNW,hLW,kW⟩
         have HLW:=hide hLW
         have HKW2:=hide kW
         clear n0 n1 n2 n3 n4 n5 n6 n7 n8 nf hnl q0 htr
         obtain ⟨n0,n1,n2,n3,n4,n5,n6,n7,n8,nf⟩:=hNW.c9;have hnl:=hNW.lt
         have hKb2:=HKW2.out
         clear hNW hLW kW
         have hone:∀ u∈([.int .u8 42,.int .i64 0,.int .i64 0,.int .i64 0,.int .u8 0,.int .i64 (X:Nat),.int .i64 (-1),.int .i64 s.size,.int .i64 1]:List Value),u.oneCell'=true:=by simp [Value.oneCell']
         go_wp2_with (at_builtin;refine wpList_append_lies _ rfl (.tmp 99) (.tmp 101) 102 rfl 0 111 i0 _ 9 72 Tryz.underlying102 hi hz0 hz1 hz2 rfl (by decide) (.slice la P.length lc) P.length (nCells P) (by simp [Act.eval]) (World.ownsRow.alloc (by repeat' (first|with_reducible exact HLW.out.r|with_reducible refine Row.set ?_ _ HLN.out)) _) ⟨W.heap.size,0,none⟩ 1 1 [.int .u8 42,.int .i64 0,.int .i64 0,.int .i64 0,.int .u8 0,.int .i64 (X:Nat),.int .i64 (-1),.int .i64 s.size,.int .i64 1] (by simp [Act.eval]) rfl (by exact Blk.news (Blk.newAt _ [.int .u8 42,.int .i64 0,.int .i64 0,.int .i64 0,.int .u8 0,.int .i64 (X:Nat),.int .i64 (-1),.int .i64 s.size,.int .i64 1] _ (by simp))) hone (by decide) (by unfold maxLen;omega) (by omega) (Nat.zero_le _) _ rfl ?_;intro g cap' w' hown hgrow hat hlt')
         go_roundg (l.length-(j+1))
         case measure=>have:=HKK.out;omega
         case rel =>
          have hap:=LB.app (w0:=w2) ⟨42,0,0,0,0,(X:Nat),-1,s.size,1⟩ (by repeat' (first|with_reducible exact HLW.out|with_reducible refine LB.set ?_ _ HLN.out)) (by (exact kpA)) hown hgrow hat
          exact ⟨j+1,by omega,rfl,by go_num,by rw [HPL.out];exact hap.1,hap.2⟩
        ·have hb6:B.length=6:=(HOB.out.resolve_left hB0).1
         have HPP:=hide (HPN1.out ⟨hA0,hB0⟩)
         rw [HPP.out] at HPL
         rw [hb6]
         clear HPN1 HPN2 HPP hA0 hB0 ha6 hb6
         have hone:∀ u∈([.int .u8 op,.int .i64 nx,.int .i64 ny,.int .i64 nv,.int .u8 nk,.int .i64 (X:Nat),.int .i64 (Y:Nat),.int .i64 na,.int .i64 nl]:List Value),u.oneCell'=true:=by simp [Value.oneCell']
         go_wp2_with (at_builtin;refine wpList_append_lies _ rfl (.tmp 99) (.tmp 101) 102 rfl 0 111 i0 _ 9 72 Tryz.underlying102 hi hz0 hz1 hz2 rfl (by decide) (.slice la P.length lc) P.length (nCells P) (by simp [Act.eval]) (World.ownsRow.alloc (by repeat' (first|with_reducible exact HDL.out.r|with_reducible refine Row.set ?_ _ HLN.out)) _) ⟨w'.heap.size,0,none⟩ 1 1 [.int .u8 op,.int .i64 nx,.int .i64 ny,.int .i64 nv,.int .u8 nk,.int .i64 (X:Nat),.int .i64 (Y:Nat),.int .i64 na,.int .i64 nl] (by simp [Act.eval]) rfl (by exact Blk.news (Blk.newAt _ [.int .u8 op,.int .i64 nx,.int .i64 ny,.int .i64 nv,.int .u8 nk,.int .i64 (X:Nat),.int .i64 (Y:Nat),.int .i64 na,.int .i64 nl] _ (by simp))) hone (by decide) (by unfold maxLen;omega) (by omega) (Nat.zero_le _) _ rfl ?_;intro g cap' w' hown hgrow hat hlt')
         go_roundg (l.length-(j+1))
         case measure=>have:=HKK.out;omega
         case rel =>
          have hap:=LB.app (w0:=w2) ⟨op,nx,ny,nv,nk,(X:Nat),(Y:Nat),na,nl⟩ (by repeat' (first|with_reducible exact HDL.out|with_reducible refine LB.set ?_ _ HLN.out)) (by (exact kpA)) hown hgrow hat
          exact ⟨j+1,by omega,rfl,by go_num,by rw [HPL.out];exact hap.1,hap.2⟩
    ·have hsw:=HKR.out.size
     rw [decide_eq_false ht]
     by_cases h33:nd.op=33
     ·have HPP:=hide (show prnN s.size T nd S=nd by rw [prnN,if_neg ht,if_pos h33])
      rw [HPP.out] at HPL
      have hKb:=HK5.out
      clear ht hS0 HTE HPP
      obtain ⟨op,nx,ny,nv,nk,nt,nff,na,nl⟩:=nd
      dsimp only at *
      subst h33
      have hone:∀ u∈([.int .u8 33,.int .i64 nx,.int .i64 ny,.int .i64 nv,.int .u8 nk,.int .i64 nt,.int .i64 nff,.int .i64 na,.int .i64 nl]:List Value),u.oneCell'=true:=by simp [Value.oneCell']
      go_wp2_with (at_builtin;refine wpList_append_lies _ rfl (.tmp 124) (.tmp 126) 102 rfl 0 111 i0 _ 9 72 Tryz.underlying102 hi hz0 hz1 hz2 rfl (by decide) (.slice la P.length lc) P.length (nCells P) (by simp [Act.eval]) (World.ownsRow.alloc (by repeat' (first|with_reducible exact HL5.out.r|with_reducible refine Row.set ?_ _ HLN.out)) _) ⟨w5.heap.size,0,none⟩ 1 1 [.int .u8 33,.int .i64 nx,.int .i64 ny,.int .i64 nv,.int .u8 nk,.int .i64 nt,.int .i64 nff,.int .i64 na,.int .i64 nl] (by simp [Act.eval]) rfl (by exact Blk.news (Blk.newAt _ [.int .u8 33,.int .i64 nx,.int .i64 ny,.int .i64 nv,.int .u8 nk,.int .i64 nt,.int .i64 nff,.int .i64 na,.int .i64 nl] _ (by simp))) hone (by decide) (by unfold maxLen;omega) (by omega) (Nat.zero_le _) _ rfl ?_;intro g cap' w' hown hgrow hat hlt')
      go_roundg (l.length-(j+1))
      case measure=>have:=HKK.out;omega
      case rel =>
       have hap:=LB.app (w0:=w2) ⟨33,nx,ny,nv,nk,nt,nff,na,nl⟩ (by repeat' (first|with_reducible exact HL5.out|with_reducible refine LB.set ?_ _ HLN.out)) (by (exact kpA)) hown hgrow hat
       exact ⟨j+1,by omega,rfl,by go_num,by rw [HPL.out];exact hap.1,hap.2⟩
     ·obtain ⟨tn,htn⟩:=Int.eq_ofNat_of_zero_le (HGD.out.t h33).1
      have HBE:=hide (fun v W hv=>fbehind_c nd v S W hv HSO.out hS0 HGD.out.g ht)
      have HPP:=hide (show prnN s.size T nd S={ nd with t:=(renF T tn (behF nd S):Nat) } by rw [prnN,if_neg ht,if_neg h33,htn,Int.toNat_natCast])
      have g33:(nd.op == 33)=false:=by simpa using h33
      have g33':(nd.op != 33)=true:=by simpa using h33
      rw [HPP.out] at HPL
      clear ht hS0 HTE HPP h33
      generalize behF nd S=A at *
      have HH5:=hide (And.intro hN5 HK5.out)
      obtain ⟨op,nx,ny,nv,nk,nt,nff,na,nl⟩:=nd
      dsimp only at *
      subst htn
      go_wp2_with fail
      go_cut [16] from 1000 (fun av W5=>SV W5 av A∧(Blk W5 wr.heap.size [.int .u8 op,.int .i64 nx,.int .i64 ny,.int .i64 nv,.int .u8 nk,.int .i64 tn,.int .i64 nff,.int .i64 na,.int .i64 nl] 111∧Kp no w2 W5)∧LB w2 W5 (.slice la P.length lc) P)
      case first =>
       go_region_with (go_at_call 68;refine (HBE.out _ _ (Kp.row (S:=no) (HH5.out.2.trans (S':=no) (by (exact kpA)) (fun _ _ e=>e)) HQ1.out (fun _ _=>no_elim))).mono ?_;rintro e w6 ⟨u,rfl,hu,hnew,k6⟩)
       all_goals
        go_wp2
        go_meet
        case rel =>
         have k7:Kp no w5 w6:=Kp.trans (by (exact kpA)) k6 (fun _ _ e=>e)
         exact ⟨hu,⟨(by (exact kpA):Kp no w5 _).blk HH5.out.1 no_elim,HH5.out.2.trans (S':=no) (by (exact kpA)) (fun _ _ e=>e)⟩,HL5.out.kp (by (exact kpA))⟩
      case rest =>
       obtain ⟨hA,hHC,hLC⟩:=hcut
       obtain ⟨aa,ca,rfl⟩:=hA.shape
       have HA:=hide hA
       have HC:=hide hHC
       have HCL:=hide hLC
       clear hA hHC hLC
       clear n0 n1 n2 n3 n4 n5 n6 n7 n8 nf hnl q0 htr
       obtain ⟨n0,n1,n2,n3,n4,n5,n6,n7,n8,nf⟩:=HC.out.1.c9;have hnl:=HC.out.1.lt;have q0:=(HC.out.2.cell htb no_elim j).trans HQ0.out;have htr:=Nat.lt_of_lt_of_le htb HC.out.2.size
       have hKb:=HC.out.2
       have HRX:=hide (renumbered_c _ _ T tn A _ (HTV.out.kp HC.out.2) HOK.out HA.out (by have:=HLE.out;omega))
       generalize renF T tn A=X at *
       go_wp2_with fail
       refine HRX.out.mono ?_
       rintro e w' ⟨rfl,rfl⟩
       have hone:∀ u∈([.int .u8 op,.int .i64 nx,.int .i64 ny,.int .i64 nv,.int .u8 nk,.int .i64 (X:Nat),.int .i64 nff,.int .i64 na,.int .i64 nl]:List Value),u.oneCell'=true:=by simp [Value.oneCell']
       go_wp2_with (at_builtin;refine wpList_append_lies _ rfl (.tmp 124) (.tmp 126) 102 rfl 0 111 i0 _ 9 72 Tryz.underlying102 hi hz0 hz1 hz2 rfl (by decide) (.slice la P.length lc) P.length (nCells P) (by simp [Act.eval]) (World.ownsRow.alloc (by repeat' (first|with_reducible exact HCL.out.r|with_reducible refine Row.set ?_ _ HLN.out)) _) ⟨w'.heap.size,0,none⟩ 1 1 [.int .u8 op,.int .i64 nx,.int .i64 ny,.int .i64 nv,.int .u8 nk,.int .i64 (X:Nat),.int .i64 nff,.int .i64 na,.int .i64 nl] (by simp [Act.eval]) rfl (by exact Blk.news (Blk.newAt _ [.int .u8 op,.int .i64 nx,.int .i64 ny,.int .i64 nv,.int .u8 nk,.int .i64 (X:Nat),.int .i64 nff,.int .i64 na,.int .i64 nl] _ (by simp))) hone (by decide) (by unfold maxLen;omega) (by omega) (Nat.zero_le _) _ rfl ?_;intro g cap' w' hown hgrow hat hlt')
       go_roundg (l.length-(j+1))
       case measure=>have:=HKK.out;omega
       case rel =>
        have hap:=LB.app (w0:=w2) ⟨op,nx,ny,nv,nk,(X:Nat),nff,na,nl⟩ (by repeat' (first|with_reducible exact HCL.out|with_reducible refine LB.set ?_ _ HLN.out)) (by (exact kpA)) hown hgrow hat
        exact ⟨j+1,by omega,rfl,by go_num,by rw [HPL.out];exact hap.1,hap.2⟩
  ·obtain rfl:j=l.length:=by omega
   have HWR:=hide (fun W hW=>write_c (s++⟨#[42]⟩) (.slice la (prnL s.size T l l.length).length lc) (prnL s.size T l l.length) W hW (Nat.le_trans (prnL_len _ _ _ _) (by omega)) (by rw [ByteArray.size_append];show s.size+1≤1000;omega) (prnL_wn hg hs (by have:=HLE.out;omega) _))
   have hs42:(ByteArray.mk #[42]).size=1:=rfl
   go_wp2_with fail
   refine (HWR.out _ (by exact HLB.out.r)).mono ?_
   rintro e w9 ⟨rfl,k9⟩
   go_wp2
   go_ret2
   rw [HL0.out,HT0.out]
   exact ⟨rfl,(HKW.out.trans HKR.out (fun _ _ e=>e)).trans k9 (fun _ _ e=>e)⟩
end Go.Proofs.YtellieabhaphhabGreatDoor
namespace Go.Proofs.YtellieabhaphhabGreatDoor
open Go.RowKit
set_option maxHeartbeats 1600000 in
theorem rprune_long (s:ByteArray) (w:World) (hm:s.size≤maxLen) (hs:900<s.size) :
  Calls Tryz.prog 33 #[.string s] w fun e w'=>e=em2 1∧Kp no w w':=by
 have HS:=hide (lines_long s w hm hs)
 go_enter Tryz.func33,Tryz.ntmps33
 go_wp2_with fail
 refine HS.out.mono ?_
 rintro e w1 ⟨⟨r,rfl⟩,k1⟩
 go_wp2
 go_ret2
 exact ⟨rfl,k1⟩
set_option maxHeartbeats 1600000 in
theorem rprune_bad (s:ByteArray) (w:World) (hs:s.size≤900) (hb:(graE s).1≠0) :
  Calls Tryz.prog 33 #[.string s] w fun e w'=>e=em2 (graE s).1∧Kp no w w':=by
 have HS:=hide (lines_c s w hs)
 have hb':(((graE s).1:Int) == 0)=false:=by simp;omega
 unfold LinPost at HS
 generalize graE s=ge at *
 obtain ⟨ge1,ge2⟩:=ge
 dsimp only at *
 clear hb
 go_enter Tryz.func33,Tryz.ntmps33
 go_wp2_with fail
 refine HS.out.mono ?_
 rintro e w1 ⟨r,O,rfl,hr,k1,hO⟩
 clear hr hO
 go_wp2
 go_ret2
 exact ⟨rfl,k1⟩
def PruIs (s:ByteArray) (t:ByteArray) (c:Int):Prop :=
 (∀ W,Calls Tryz.prog 8 #[.string s] W fun e w'=>e=.returned (.tuple #[.string t,.int .i64 c])∧Kp no W w') ∧
 (∀ W,Calls Tryz.prog 33 #[.string s] W fun e w'=>e=.returned (.tuple #[.string t,.int .i64 c])∧Kp no W w')
theorem prune_both (s:ByteArray) (hs:s.size≤maxLen):∃ t c,PruIs s t c:=by
 by_cases hs9:s.size≤900
 ·by_cases hb:(graE s).1=0
  ·obtain ⟨e1,e2⟩:=graE_zero s hb
   obtain ⟨_,g2⟩:=graF_gd s
   have hg:=g2 e2
   refine ⟨_,_,fun W=>nprune_good s W hs9 e1,fun W=>?_⟩
   rw [prune_text (lst_ok _) hg]
   exact rprune_good s W hs9 e1 hg
  ·exact ⟨_,_,fun W=>nprune_bad s W hs9 hb,fun W=>rprune_bad s W hs9 hb⟩
 ·exact ⟨_,_,fun W=>nprune_long s W hs (by omega),fun W=>rprune_long s W hs (by omega)⟩
end Go.Proofs.YtellieabhaphhabGreatDoor
namespace Go.Proofs.YtellieabhaphhabGreatDoor
open Go.RowKit
set_option maxRecDepth 100000 in
set_option maxHeartbeats 1600000 in
theorem lplays_prune (b c:Int) (s t u:ByteArray) (w:World) (hs:s.size≤maxLen) :
  Calls Tryz.prog 16 #[.agg #[.int .i64 6,.int .i64 b,.int .i64 c,.string s,.string t,.string u]] w fun e w'=>e=.returned (.bool true)∧Kp no w w':=by
 obtain ⟨x,z,hw⟩:=prune_both s hs
 have HN:=hide hw.1
 have HR:=hide hw.2
 have HNU:=hide (fun W=>lnum_c z W)
 clear hw
 go_enter Tryz.func16,Tryz.ntmps16
 go_wp2_with fail
 refine (HN.out _).mono ?_
 rintro e w1 ⟨rfl,k1⟩
 have hO:Blk w1 w.heap.size [.int .i64 6,.int .i64 b,.int .i64 c,.string s,.string t,.string u] 25:=k1.blk (by (exact blA)) no_elim
 have o0:=hO.cell 0;have o1:=hO.cell 1;have o2:=hO.cell 2;have o3:=hO.cell 3;have o4:=hO.cell 4;have o5:=hO.cell 5
 simp only [List.getElem?_cons_zero,List.getElem?_cons_succ] at o0 o1 o2 o3 o4 o5
 have of:=hO.frozen
 have hz:=hO.lt
 go_wp2_with fail
 refine (HR.out _).mono ?_
 rintro e w2 ⟨rfl,k2⟩
 clear o0 o1 o2 o3 o4 o5 of
 go_wp2_with (go_at_call 10;refine (HNU.out _).mono ?_;rintro e w' ⟨rfl,rfl⟩)
 go_ret
 exact ⟨by simp,by (exact kpA)⟩
end Go.Proofs.YtellieabhaphhabGreatDoor
namespace Go.Proofs.YtellieabhaphhabGreatDoor
open Go.ChangeShapes Go.WideShapes Go.ChangeAt Go.RowKit Go.Deep
theorem pow_data:(Rows.laid_internal_strconv_uint64pow10:DataW Unit)=Lib.tabData .u64 Lib.pow10Tab:=by kernel_rfl
theorem tab_of {W:World} (h:laidMetH Tryz.prog Rows.allRow.laid W):Tab W:=by
 have h1:laidMet Tryz.prog Rows.allRow.laid W:=h
 obtain ⟨ps,⟨g0,t0,cs0,f0,p0,q0,hg0,ht0,hv0,hd0,⟨g1,t1,cs1,f1,p1,q1,hg1,ht1,hv1,hd1,⟨g2,t2,cs2,f2,p2,q2,hg2,ht2,hv2,hd2,_,_⟩,_⟩,_⟩,_⟩:=h1
 obtain rfl:=Option.some.inj (gtab.symm.trans hg2)
 obtain rfl:=Option.some.inj (gT.symm.trans ht2)
 rw [pow_data] at hd2
 show Lib.TabIs _ _ _ _ _
 unfold Lib.TabIs
 rw [hv2,← Lib.cells_of_tab Tryz.underlying202 Tryz.underlying196 c64 c20 hd2]
set_option maxHeartbeats 800000 in
theorem allLaw_c (v:Value) (w:World) (h:Calls Tryz.prog 7 #[v,.int .i64 1,.int .i64 6] w fun e w'=>e=.returned (.int .i64 (-1))∧Kp no w w') :
  Calls Tryz.prog 4 #[v] w fun e w'=>e=.returned (.bool true)∧Kp no w w':=by
 have H:=hide h
 clear h
 go_enter Tryz.func4,Tryz.ntmps4
 go_wp2_with fail
 refine H.out.mono ?_
 rintro e w1 ⟨rfl,k1⟩
 go_wp2
 go_ret
 exact ⟨rfl,k1⟩
set_option maxRecDepth 100000 in
theorem all_contract (H:Type) (enc:TypeId × Value→H) (W:World) (base:Nat) (args:Array Value) (ds gs:List (DataW H)) (before:List MemPlace)
  (hval:∀ (j:Nat) t v,Tryz.f4.params[j]?=some t→args[j]?=some v→Value.okWide Tryz.prog W .any base t v)
  (hW:DataW.Whole enc Tryz.prog Tryz.f4.params.toList Rows.allSpec.vars false W args.toList ds gs before) (hL:laidMetH Tryz.prog Rows.allRow.laid W) :
  Calls Tryz.prog 4 args W fun e W'=>∃ v,e=.returned v∧Rows.allSpec.post enc Tryz.prog Tryz.f4 false true false false W args v W':=by
 have hW':=hW
 obtain ⟨p,q,hA0,hV,rfl,hfz,hnd⟩:=hW
 have hA:DataW.TrodAll enc Tryz.prog W 0 (fun _=>true) true Tryz.f4.params.toList args.toList ds p:=hA0
 rw [Tryz.params4] at hA hval
 obtain ⟨v0,d0,rfl,rfl,h0⟩:=trodAll_one hA
 obtain ⟨rfl,rfl⟩:=trodVars_none hV
 obtain ⟨ao,len,cap,rfl⟩:=okWide_slice Tryz.underlying22 (hval 0 22 v0 rfl rfl)
 have walk:Calls Tryz.prog 4 #[.slice ao len cap] W fun e w'=>e=.returned (.bool true)∧Kp no W w' :=
  allLaw_c _ W (script_upto h0 Tab (fun X Y h k=>Tab.kp h k no_elim) (tab_of hL) 1 6 (fun o ho h1 h2 X hX=>by
   have e3:o.k=1∨o.k=2∨o.k=3∨o.k=4∨o.k=5∨o.k=6:=by omega
   rcases e3 with e|e|e|e|e|e
   ·rw [e];exact lplays_run o.b o.c o.s o.t o.u X ho.s ho.t hX
   ·rw [e];exact lplays_graph o.b o.c o.s o.t o.u X ho.s
   ·rw [e];exact lplays_walk o.b o.c o.s o.t o.u X ho.s ho.t hX
   ·rw [e];exact lplays_flow o.b o.c o.s o.t o.u X ho.s
   ·rw [e];exact lplays_accept o.b o.c o.s o.t o.u X ho.s
   ·rw [e];exact lplays_prune o.b o.c o.s o.t o.u X ho.s))
 have hsh:=(script_open h0).2
 refine walk.mono fun e W' ⟨he,k⟩=>?_
 subst he
 have hold:∀ q∈p,(fun b=>decide (b<W.heap.size)) q.block=true:=fun q hq=>by simpa using hW'.lt q (by simpa using hq)
 refine ⟨_,rfl,[d0],[],p++[],[],p,[],hW',?_,?_,?_,?_,fun h=>by cases h⟩
 ·exact trodAll_mk1 (shut_bool Tryz.underlying4 _)
 ·exact trodAll_mk1 (hsh W' k _ hold)
 ·first|exact rfl|exact ⟨rfl,rfl⟩
 ·exact Kp.keptBut k _
end Go.Proofs.YtellieabhaphhabGreatDoor
namespace Go.Proofs.YtellieabhaphhabGreatDoor
open Go.ChangeShapes Go.WideShapes Go.ChangeAt Go.RowKit Go.Deep
def lay1 (c:Array Value):Obj→Obj
 | .cells _ t frozen=>.cells c t frozen
 | o=>o
theorem laid_met (os:Os):laidMet Tryz.prog Rows.allRow.laid (({ World.holding Tryz.prog os ⟨#[],#[],[]⟩ with heap:=(((World.holding Tryz.prog os ⟨#[],#[],[]⟩).heap.modify 0 (lay1 #[.int .u64 1,.int .u64 10,.int .u64 100,.int .u64 1000,.int .u64 10000,.int .u64 100000,.int .u64 1000000,.int .u64 10000000,.int .u64 100000000,.int .u64 1000000000,.int .u64 10000000000,.int .u64 100000000000,.int .u64 1000000000000,.int .u64 10000000000000,.int .u64 100000000000000,.int .u64 1000000000000000,.int .u64 10000000000000000,.int .u64 100000000000000000,.int .u64 1000000000000000000,.int .u64 10000000000000000000])).modify 1 (lay1 #[.int .u8 0,.int .u8 1,.int .u8 28,.int .u8 2,.int .u8 29,.int .u8 14,.int .u8 24,.int .u8 3,.int .u8 30,.int .u8 22,.int .u8 20,.int .u8 15,.int .u8 25,.int .u8 17,.int .u8 4,.int .u8 8,.int .u8 31,.int .u8 27,.int .u8 13,.int .u8 23,.int .u8 21,.int .u8 19,.int .u8 16,.int .u8 7,.int .u8 26,.int .u8 12,.int .u8 18,.int .u8 6,.int .u8 11,.int .u8 5,.int .u8 10,.int .u8 9])).modify 2 (lay1 #[.int .u8 0,.int .u8 1,.int .u8 56,.int .u8 2,.int .u8 57,.int .u8 49,.int .u8 28,.int .u8 3,.int .u8 61,.int .u8 58,.int .u8 42,.int .u8 50,.int .u8 38,.int .u8 29,.int .u8 17,.int .u8 4,.int .u8 62,.int .u8 47,.int .u8 59,.int .u8 36,.int .u8 45,.int .u8 43,.int .u8 51,.int .u8 22,.int .u8 53,.int .u8 39,.int .u8 33,.int .u8 30,.int .u8 24,.int .u8 18,.int .u8 12,.int .u8 5,.int .u8 63,.int .u8 55,.int .u8 48,.int .u8 27,.int .u8 60,.int .u8 41,.int .u8 37,.int .u8 16,.int .u8 46,.int .u8 35,.int .u8 44,.int .u8 21,.int .u8 52,.int .u8 32,.int .u8 23,.int .u8 11,.int .u8 54,.int .u8 26,.int .u8 40,.int .u8 15,.int .u8 34,.int .u8 20,.int .u8 31,.int .u8 10,.int .u8 25,.int .u8 14,.int .u8 19,.int .u8 9,.int .u8 13,.int .u8 8,.int .u8 7,.int .u8 6]) }:World).forCall (fun _ _=>0) ⟨#[],#[.slice none 0 0],[]⟩).memory :=
 laidMet_of_run' 8 (by kernel_rfl) (by kernel_rfl)
theorem all_reads (os:Os) {H:Type} (enc:TypeId × Value→H):∃ places,DataW.whole enc Tryz.prog (({ World.holding Tryz.prog os ⟨#[],#[],[]⟩ with heap:=(((World.holding Tryz.prog os ⟨#[],#[],[]⟩).heap.modify 0 (lay1 #[.int .u64 1,.int .u64 10,.int .u64 100,.int .u64 1000,.int .u64 10000,.int .u64 100000,.int .u64 1000000,.int .u64 10000000,.int .u64 100000000,.int .u64 1000000000,.int .u64 10000000000,.int .u64 100000000000,.int .u64 1000000000000,.int .u64 10000000000000,.int .u64 100000000000000,.int .u64 1000000000000000,.int .u64 10000000000000000,.int .u64 100000000000000000,.int .u64 1000000000000000000,.int .u64 10000000000000000000])).modify 1 (lay1 #[.int .u8 0,.int .u8 1,.int .u8 28,.int .u8 2,.int .u8 29,.int .u8 14,.int .u8 24,.int .u8 3,.int .u8 30,.int .u8 22,.int .u8 20,.int .u8 15,.int .u8 25,.int .u8 17,.int .u8 4,.int .u8 8,.int .u8 31,.int .u8 27,.int .u8 13,.int .u8 23,.int .u8 21,.int .u8 19,.int .u8 16,.int .u8 7,.int .u8 26,.int .u8 12,.int .u8 18,.int .u8 6,.int .u8 11,.int .u8 5,.int .u8 10,.int .u8 9])).modify 2 (lay1 #[.int .u8 0,.int .u8 1,.int .u8 56,.int .u8 2,.int .u8 57,.int .u8 49,.int .u8 28,.int .u8 3,.int .u8 61,.int .u8 58,.int .u8 42,.int .u8 50,.int .u8 38,.int .u8 29,.int .u8 17,.int .u8 4,.int .u8 62,.int .u8 47,.int .u8 59,.int .u8 36,.int .u8 45,.int .u8 43,.int .u8 51,.int .u8 22,.int .u8 53,.int .u8 39,.int .u8 33,.int .u8 30,.int .u8 24,.int .u8 18,.int .u8 12,.int .u8 5,.int .u8 63,.int .u8 55,.int .u8 48,.int .u8 27,.int .u8 60,.int .u8 41,.int .u8 37,.int .u8 16,.int .u8 46,.int .u8 35,.int .u8 44,.int .u8 21,.int .u8 52,.int .u8 32,.int .u8 23,.int .u8 11,.int .u8 54,.int .u8 26,.int .u8 40,.int .u8 15,.int .u8 34,.int .u8 20,.int .u8 31,.int .u8 10,.int .u8 25,.int .u8 14,.int .u8 19,.int .u8 9,.int .u8 13,.int .u8 8,.int .u8 7,.int .u8 6]) }:World).forCall (fun _ _=>0) ⟨#[],#[.slice none 0 0],[]⟩).memory Tryz.f4.params.toList Rows.allSpec.vars false #[Value.slice none 0 0].toList 8=some ([.nil],[],places) :=
 ⟨[],by kernel_rfl⟩
set_option maxRecDepth 100000 in
theorem all_lifted (os:Os) (started:os.Started) (H:Type) (enc:TypeId × Value→H) (F:Stop.Interp) :
  ReturnsInHanded {} Tryz.checked os 4 .any ((OpenSpec.ofChange Rows.allSpec).preRow enc Tryz.prog Tryz.f4 Rows.allRow.domain false Rows.allRow.laid) (((OpenSpec.ofChange Rows.allSpec).at F).post enc Tryz.prog Tryz.f4 false true false false):=by
 obtain ⟨places,hx⟩:=all_reads os enc
 refine returnsInHanded_of_row (C:=Tryz.checked) (s:=OpenSpec.ofChange Rows.allSpec) own started (by kernel_rfl) Tryz.func4
  (witness_row_at (enc:=enc) (C:=Tryz.checked) false ({ World.holding Tryz.prog os ⟨#[],#[],[]⟩ with heap:=(((World.holding Tryz.prog os ⟨#[],#[],[]⟩).heap.modify 0 (lay1 #[.int .u64 1,.int .u64 10,.int .u64 100,.int .u64 1000,.int .u64 10000,.int .u64 100000,.int .u64 1000000,.int .u64 10000000,.int .u64 100000000,.int .u64 1000000000,.int .u64 10000000000,.int .u64 100000000000,.int .u64 1000000000000,.int .u64 10000000000000,.int .u64 100000000000000,.int .u64 1000000000000000,.int .u64 10000000000000000,.int .u64 100000000000000000,.int .u64 1000000000000000000,.int .u64 10000000000000000000])).modify 1 (lay1 #[.int .u8 0,.int .u8 1,.int .u8 28,.int .u8 2,.int .u8 29,.int .u8 14,.int .u8 24,.int .u8 3,.int .u8 30,.int .u8 22,.int .u8 20,.int .u8 15,.int .u8 25,.int .u8 17,.int .u8 4,.int .u8 8,.int .u8 31,.int .u8 27,.int .u8 13,.int .u8 23,.int .u8 21,.int .u8 19,.int .u8 16,.int .u8 7,.int .u8 26,.int .u8 12,.int .u8 18,.int .u8 6,.int .u8 11,.int .u8 5,.int .u8 10,.int .u8 9])).modify 2 (lay1 #[.int .u8 0,.int .u8 1,.int .u8 56,.int .u8 2,.int .u8 57,.int .u8 49,.int .u8 28,.int .u8 3,.int .u8 61,.int .u8 58,.int .u8 42,.int .u8 50,.int .u8 38,.int .u8 29,.int .u8 17,.int .u8 4,.int .u8 62,.int .u8 47,.int .u8 59,.int .u8 36,.int .u8 45,.int .u8 43,.int .u8 51,.int .u8 22,.int .u8 53,.int .u8 39,.int .u8 33,.int .u8 30,.int .u8 24,.int .u8 18,.int .u8 12,.int .u8 5,.int .u8 63,.int .u8 55,.int .u8 48,.int .u8 27,.int .u8 60,.int .u8 41,.int .u8 37,.int .u8 16,.int .u8 46,.int .u8 35,.int .u8 44,.int .u8 21,.int .u8 52,.int .u8 32,.int .u8 23,.int .u8 11,.int .u8 54,.int .u8 26,.int .u8 40,.int .u8 15,.int .u8 34,.int .u8 20,.int .u8 31,.int .u8 10,.int .u8 25,.int .u8 14,.int .u8 19,.int .u8 9,.int .u8 13,.int .u8 8,.int .u8 7,.int .u8 6]) }:World) #[.slice none 0 0] rfl (by kernel_rfl) (by kernel_rfl) (by kernel_rfl)
   (OpenSpec.preRow_of_cond 8 hx (by kernel_rfl) (fun k hk=>by cases hk) (by kernel_rfl) (laid_met os))) ?_
 intro W base args ds gs before hval hW _ _ _ hL _ _
 exact all_contract H enc W base args ds gs before hval hW hL
theorem all_said:Rows.AllSaid :=
 OpenClaim.holds_of_cond 4 Tryz.f4 rfl rfl rfl rfl rfl rfl rfl ⟨rfl,rfl,rfl,rfl,rfl⟩ rfl rfl rfl rfl rfl (by kernel_rfl) Tryz.func4 (by kernel_rfl)
  (of_decide_eq_true (by kernel_rfl)) (by unfold Func.isWrapper;first|(rw [if_pos (by decide +kernel)];kernel_rfl)|(rw [if_neg (by decide +kernel)];exact ⟨rfl,rfl⟩))
  (fun os started H enc _ F=>by rw [OpenClaim.pre_eq_preRow];exact all_lifted os started H enc F)
theorem all_plain (f:FuncId) (fn:Func) (hf:Tryz.pinned.checked.prog.funcNamed "narrow/narrowlaw.All"=some f) (hfn:Tryz.pinned.checked.prog.funcs[f]?=some fn) :
  false=Tryz.pinned.checked.prog.looks []∧∀ (j:Nat) t,fn.params[j]?=some t→Tryz.pinned.checked.prog.wantsStandIn t=false:=by
 obtain rfl:f=4:=Option.some.inj ((show Tryz.prog.funcNamed "narrow/narrowlaw.All"=some 4 by kernel_rfl).symm.trans hf) |>.symm
 obtain rfl:fn=Tryz.f4:=(Option.some.inj (Tryz.func4.symm.trans hfn)).symm
 refine ⟨by kernel_rfl,fun j t ht=>?_⟩
 rw [Tryz.params4] at ht
 obtain rfl:t=22:=by simpa using Array.mem_of_getElem? ht
 exact (show Tryz.prog.wantsStandIn 22=false by kernel_rfl)
theorem all_card:Rows.AllCardSaid :=
 Claim7.holds_tied_plain_at .later [] _ _ _ _ all_said (fun _ h=>by cases h) (by kernel_rfl) (fun _ h=>by cases h) all_row_tie rfl ⟨rfl,rfl⟩ (by kernel_rfl) rfl all_plain (by kernel_rfl)
#print axioms all_card
end Go.Proofs.YtellieabhaphhabGreatDoor
