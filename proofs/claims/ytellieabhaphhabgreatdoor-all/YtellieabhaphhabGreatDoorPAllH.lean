import Derived.Test.YtellieabhaphhabGreatDoorPAllG
namespace Go.Proofs.YtellieabhaphhabGreatDoor
open Go.RowKit
theorem wp_store_new {P:Program} {op:Oper} {a:Act} {K:Act→World→Prop} {Q:Exit→Act→World→Prop} (w0:World) (ty:TypeId) (x y:Operand) (c c':Array Value) (ho:op.op=.store ty x y)
  (hx:a.eval x=.pointer (some ⟨w0.heap.size,0,none⟩)) (hy:a.eval y=.agg c') (hi:(P.info? ty).map (·.size)=some c'.size) (hs:c.size=c'.size) (h1:c'.all (·.oneCell')=true)
  (h:K (a.put op.dst undef) (w0.alloc (.cells c' ty))):op.wp P a (w0.alloc (.cells c ty)) K Q:=by
 unfold Oper.wp execOp
 simp only [ho,hx,hy,Sem.run_bind,run_storeAt_new w0 ty c c' hi hs h1,Result.andThen_ok,Sem.run_pure]
 exact h
theorem wpList_store_new {P:Program} {ops:Array Oper} {rest:List Oper} {op:Oper} {a:Act} {Q:Exit→Act→World→Prop} (hgd:op.guard=none) (w0:World) (ty:TypeId) (x y:Operand) (c c':Array Value) (ho:op.op=.store ty x y)
  (hx:a.eval x=.pointer (some ⟨w0.heap.size,0,none⟩)) (hy:a.eval y=.agg c') (hi:(P.info? ty).map (·.size)=some c'.size) (hs:c.size=c'.size) (h1:c'.all (·.oneCell')=true)
  (h:wpList P ops Q rest (a.put op.dst undef) (w0.alloc (.cells c' ty))):wpList P ops Q (op::rest) a (w0.alloc (.cells c ty)) :=
 wpList_plain hgd fun _ hK=>wp_store_new w0 ty x y c c' ho hx hy hi hs h1 (hK _ _ h)
theorem wpList_build_at {P:Program} {ops:Array Oper} {rest:List Oper} {o:Oper} {a:Act} {w:World} {Q:Exit→Act→World→Prop} (hg:o.guard=none) (t:TypeId) (parts:Array (Nat × Operand)) (ho:o.op=.build t parts)
  (vals:List (Nat × Value)) (hv:(parts.map fun (i,x)=>(i,a.eval x)).toList=vals) (cells:Array Value) (hb:P.built t vals=some cells)
  (h:wpList P ops Q rest (a.put o.dst (.agg cells)) w):wpList P ops Q (o::rest) a w :=
 wpList_build hg t parts ho (by rw [hv,hb];rfl) (by rw [hv,hb];exact h)
theorem built_run (inp:ByteArray):Tryz.prog.built 91 [(1,.string inp)]=some #[.int .i64 0,.int .i64 0,.int .i64 0,.int .i64 0,.int .i64 0,.int .i64 0,.int .i64 0,.int .i64 0,.int .i64 0,.int .i64 0,.int .i64 0,.int .i64 0,.int .i64 0,.int .i64 0,.int .i64 0,.int .i64 0,.int .i64 0,.int .i64 0,.string inp,.int .i64 0,.string ⟨#[]⟩,.string ⟨#[]⟩]:=by kernel_rfl
theorem wpList_runs {P:Program} {ops:Array Oper} {rest:List Oper} {o:Oper} {a:Act} {w:World} {Q:Exit→Act→World→Prop} (hg:o.guard=none) (v:Value) (w':World)
  (hrun:(execOp a.eval o).run P w=.ok (.value v) w') (h:wpList P ops Q rest (a.put o.dst v) w'):wpList P ops Q (o::rest) a w :=
 wpList_plain hg fun _ hK=>by
  unfold Oper.wp
  rw [hrun]
  exact hK _ _ h
theorem info_run:(Tryz.prog.info? 91).map (fun i=>(i.zero,i.size))=some (some (.agg #[.int .i64 0,.int .i64 0,.int .i64 0,.int .i64 0,.int .i64 0,.int .i64 0,.int .i64 0,.int .i64 0,.int .i64 0,.int .i64 0,.int .i64 0,.int .i64 0,.int .i64 0,.int .i64 0,.int .i64 0,.int .i64 0,.int .i64 0,.int .i64 0,.string ⟨#[]⟩,.int .i64 0,.string ⟨#[]⟩,.string ⟨#[]⟩]),22):=by kernel_rfl
theorem alloc_run (w:World) (ρ:Operand→Value) (o:Oper) (ho:o.op=.alloc 91):(execOp ρ o).run Tryz.prog w=.ok (.value (.pointer (some ⟨w.heap.size,0,none⟩))) (w.alloc (.cells #[.int .i64 0,.int .i64 0,.int .i64 0,.int .i64 0,.int .i64 0,.int .i64 0,.int .i64 0,.int .i64 0,.int .i64 0,.int .i64 0,.int .i64 0,.int .i64 0,.int .i64 0,.int .i64 0,.int .i64 0,.int .i64 0,.int .i64 0,.int .i64 0,.string ⟨#[]⟩,.int .i64 0,.string ⟨#[]⟩,.string ⟨#[]⟩] 91)):=by
 have hz:=(zero_of_info info_run).1
 unfold execOp
 simp only [ho,Instr.alloc,Sem.run_bind,hz,Result.andThen_ok]
 rfl
theorem ntest_c {w:World} {r:Nat} {inp:ByteArray} {m:Mc} {nd:Nd} {x y v:Nat} {xu yu vu:Vl} (tx:ByteArray) (yes no:Int) (p:StPre w r inp m nd x y v xu yu vu) (ht:nd.op=121∨nd.op=58) :
  Calls Tryz.prog 48 #[.pointer (some ⟨r,0,none⟩),.agg (encN nd tx yes no).cells.toArray] w fun e w' =>
   e=.returned (.int .i64 0)∧NB w' r inp m∧Kp (·=r) w w':=by
 obtain ⟨nb,g,hinp,hx,hy,hv,gx,gy,gv,vw,hout,htab,he⟩:=p
 have vy:=vw yu (List.mem_of_getElem? gy)
 have by1:=bits_in nd.op yu.k g.op vy.k
 rw [inK_all vy.k (by omega) (by omega) (by omega) (by omega) (by omega)] at by1
 obtain ⟨op,nx,ny,nv,k,t,f,a,l⟩:=nd
 dsimp only at *
 subst hx hy hv
 rcases ht with rfl|rfl
 ·exact nstep_12 tx 0 0 0 0 yes no x y y yu yu nb gy gy by1 by1
 ·exact nstep_13 tx 0 0 0 (bit k) yes no x y y yu yu nb gy gy by1 by1
theorem bit_eq {k l:Int} (h:KOk k) (h':KOk l):(bit k == bit l)=(k == l):=by
 unfold KOk at h h'
 rcases h with rfl|rfl|rfl|rfl|rfl|rfl|rfl <;> rcases h' with rfl|rfl|rfl|rfl|rfl|rfl|rfl <;> decide
theorem nwayOf_t {w:World} {r:Nat} {inp:ByteArray} {m:Mc} {nd:Nd} {y:Nat} {yu:Vl} (tx:ByteArray) (yes nno:Int) (nb:NB w r inp m) (g:Gn nd) (hy:nd.y=y) (gy:m.l[y]?=some yu) (vy:VW yu) (ht:nd.op=121∨nd.op=58) :
  Calls Tryz.prog 49 #[.pointer (some ⟨r,0,none⟩),.agg (encN nd tx yes nno).cells.toArray] w fun e w' =>
   e=.returned (.int .i64 (if holdF nd yu then yes else nno))∧Kp no w w':=by
 have gkd:=g.kd
 obtain ⟨op,nx,ny,nv,k,t,f,a,l⟩:=nd
 dsimp only at *
 subst hy
 rcases ht with rfl|rfl
 ·refine nway_of tx 12 nx y 0 0 0 0 yes nno y yu nb gy _ ?_
  rw [if_pos rfl]
  show _=(if (121:Int)=58 then _ else _)
  rw [if_neg (by decide)]
  have h1:=vy.k
  unfold KOk at h1
  rcases h1 with e|e|e|e|e|e|e <;> rw [e] <;> rfl
 ·refine nway_of tx 13 nx y 0 0 0 (bit k) yes nno y yu nb gy _ ?_
  rw [if_neg (by decide),if_pos rfl]
  show _=(if (58:Int)=58 then _ else _)
  rw [if_pos rfl]
  exact bit_eq vy.k (gkd (.inl rfl))
theorem nwayOf_n {w:World} {r:Nat} {inp:ByteArray} {m:Mc} {nd:Nd} {y:Nat} {yu:Vl} (tx:ByteArray) (yes nno:Int) (nb:NB w r inp m) (hy:nd.y=y) (gy:m.l[y]?=some yu) (ht:¬ (nd.op=121∨nd.op=58)) :
  Calls Tryz.prog 49 #[.pointer (some ⟨r,0,none⟩),.agg (encN nd tx yes nno).cells.toArray] w fun e w' =>
   e=.returned (.int .i64 yes)∧Kp no w w':=by
 have ha:=actN_t nd.op
 obtain ⟨op,nx,ny,nv,k,t,f,a,l⟩:=nd
 dsimp only at *
 subst hy
 refine nway_of tx (actN op) nx _ _ _ _ _ yes nno y yu nb gy true ?_
 rw [if_neg (fun e=>ht (ha.1 (.inl e))),if_neg (fun e=>ht (ha.1 (.inr e)))]
def NEq (L:List NN) (nds:List Nd):Prop :=
 L.length=nds.length∧∀ (i:Nat) (nd:Nd),nds[i]?=some nd→Gn nd∧∃ tx yes nno,L[i]?=some (encN nd tx yes nno)∧(nd.op≠33→yes=nd.t∧-1≤nd.t∧nd.t≤1000)∧(nd.op=121∨nd.op=58→nno=nd.f∧-1≤nd.f∧nd.f≤1000)
theorem NB.trC {w:World} {r:Nat} {inp:ByteArray} {m:Mc} (h:NB w r inp m):w.cell? ⟨r,20,none⟩=some (.string m.tr):=by
 obtain ⟨hb,h6⟩:=h
 obtain ⟨l,rd,left,tr,outp,me⟩:=m
 dsimp only at *
 obtain ⟨a,b,c,d,e,f,rfl⟩:=six_of h6
 exact hb.cell 20
theorem doF_e {inp:ByteArray} {n:Nd} {x:Nat} {xu yu vu:Vl} {m:Mc} (h:m.e=8):(doF inp n x xu yu vu m).e=8∧n.op≠33∨(doF inp n x xu yu vu m).e=5∨(doF inp n x xu yu vu m).e=6∨(doF inp n x xu yu vu m).e=7:=by
 unfold doF
 repeat' split
 ·exact .inr (.inr (.inl rfl))
 ·exact .inr (.inl rfl)
 ·exact .inr (.inl rfl)
 all_goals first|exact .inr (.inr (.inr rfl))|exact .inl ⟨h,by assumption⟩|exact .inl ⟨(worF_l inp n yu vu m).2.trans h,by assumption⟩
theorem nextF_left (inp:ByteArray) (m:Mc):(nextF inp m).2.left=m.left:=by unfold nextF;split <;> rfl
theorem worF_left (inp:ByteArray) (n:Nd) (y v:Vl) (m:Mc):(worF inp n y v m).2.left=m.left:=by
 unfold worF
 repeat' split
 ·exact nextF_left inp m
 all_goals rfl
theorem doF_left {inp:ByteArray} {n:Nd} {x:Nat} {xu yu vu:Vl} {m:Mc}:(doF inp n x xu yu vu m).left=m.left:=by
 unfold doF
 repeat' split
 all_goals first|rfl|exact worF_left inp n yu vu m
theorem NB.kp {w w':World} {S:Nat→Prop} {r:Nat} {inp:ByteArray} {m:Mc} (h:NB w r inp m) (k:Kp S w w') (hn:¬ S r):NB w' r inp m:=⟨k.blk h.b hn,h.six⟩
theorem wkF_end {k:Nat} {nds:List Nd} {inp:ByteArray} {m mc':Mc} {a:Int} (h:wkF k nds inp m a=some mc') (he:m.e≠8):mc'=m:=by
 cases k with
 | zero=>simp [wkF] at h
 | succ k =>
  rw [wkF,if_neg (fun e=>he e.2)] at h
  simpa using h.symm
theorem NEq.of {s:ByteArray} {nds:List Nd} (h:∀ n∈nds,Gd s n):NEq (nds.map (encX s)) nds:=by
 refine ⟨by simp,fun i nd hi=>?_⟩
 have hg:=h nd (List.mem_of_getElem? hi)
 have tf:=hg.tf
 refine ⟨hg.g,_,_,_,by rw [List.getElem?_map,hi];rfl,fun h3=>⟨by rw [yesN,if_neg h3],tf.1⟩,fun ht=>⟨by rw [noN,if_pos ht],tf.2⟩⟩
set_option maxRecDepth 100000 in
set_option maxHeartbeats 6400000 in
theorem nwalk_c (v:Value) (L:List NN) (nds:List Nd) (inp:ByteArray) (fuel:Nat) (w:World) (hR:NRow w v L) (hq:NEq L nds) (hl:nds.length≤100) (hinp:inp.size≤40) (hf:fuel≤300) (ht:Tab w) (F:Nat) (mc':Mc) (hE:wkF F nds inp (mc0 fuel) 0=some mc') :
  Calls Tryz.prog 25 #[v,.string inp,.int .i64 fuel] w fun e w'=>e=.returned (.tuple #[.string mc'.tr,.string mc'.out,.int .i64 (endE mc'.e)])∧Kp no w w':=by
 have htl:=ht.lt
 have HE:=hide hE
 have HQ:=hide hq
 obtain ⟨a,cap,rfl⟩:=hR.shape
 have hll:L.length≤100:=by rw [hq.1];exact hl
 clear hE hq
 go_enter Tryz.func25,Tryz.ntmps25
 go_wp2_with (first
  | (refine wpList_build_at rfl 91 #[(1,.tmp 15)] rfl [(1,.string inp)] (by simp [Act.eval]) _ (built_run inp) ?_)
  | (refine wpList_runs rfl _ _ (alloc_run _ _ _ rfl) ?_)
  | (refine wpList_store_new rfl w 91 (.tmp 9) (.tmp 16) #[.int .i64 0,.int .i64 0,.int .i64 0,.int .i64 0,.int .i64 0,.int .i64 0,.int .i64 0,.int .i64 0,.int .i64 0,.int .i64 0,.int .i64 0,.int .i64 0,.int .i64 0,.int .i64 0,.int .i64 0,.int .i64 0,.int .i64 0,.int .i64 0,.string ⟨#[]⟩,.int .i64 0,.string ⟨#[]⟩,.string ⟨#[]⟩] #[.int .i64 0,.int .i64 0,.int .i64 0,.int .i64 0,.int .i64 0,.int .i64 0,.int .i64 0,.int .i64 0,.int .i64 0,.int .i64 0,.int .i64 0,.int .i64 0,.int .i64 0,.int .i64 0,.int .i64 0,.int .i64 0,.int .i64 0,.int .i64 0,.string inp,.int .i64 0,.string ⟨#[]⟩,.string ⟨#[]⟩] rfl (by simp [Act.eval,Act.put]) (by simp [Act.eval,Act.put]) (zero_of_info info_run).2 rfl (all_oneCell_toArray (by simp [Value.oneCell'])) ?_))
 go_loopg [17] 6 (fun k i wr=>∃ j:Nat,j≤6∧k=6-j∧i=.int .i64 j∧Blk wr w.heap.size (nvCells (lj j)++[.string inp,.int .i64 0,.string ⟨#[]⟩,.string ⟨#[]⟩]) 91∧Kp no w wr)
 case atStart=>exact ⟨0,by decide,rfl,rfl,Blk.new w _ _,(Kp.refl no w).alloc _⟩
 case round =>
  obtain ⟨j,hj,hk,rfl,hb,kr⟩:=hrel
  have HK:=hide hk
  have HKR:=hide kr
  clear hk kr
  have hbl:=hb.lt
  rcases (show j=6∨j=0∨j=1∨j=2∨j=3∨j=4∨j=5 by omega) with rfl|rfl|rfl|rfl|rfl|rfl|rfl
  ·have HB:=hide hb
   clear hb
   have HM:=hide (show NB wr w.heap.size inp (mc0 fuel) from ⟨HB.out,rfl⟩)
   go_wp2
   go_loopg [11,12] F (fun k av sv wx=>∃ (at1:Int) (m1:Mc) (st:Nat),av=.int .i64 at1∧sv=.int .i64 st∧-1≤at1∧at1≤1000∧NB wx w.heap.size inp m1∧MOk m1∧m1.e=8∧(∀ u∈m1.l,VW u)∧st+m1.left=fuel∧Kp no w wx∧wkF k nds inp m1 at1=some mc')
   case atStart=>exact ⟨0,mc0 fuel,0,rfl,rfl,by decide,by decide,HM.out,mc0_ok fuel hf,rfl,fun u hu=>by
    have:u=zv:=by
     simp only [mc0,lj,Nat.sub_self,List.replicate_zero,List.append_nil] at hu
     exact List.eq_of_mem_replicate hu
    rw [this];exact VW.plain (by decide),Nat.zero_add _,HKR.out,HE.out⟩
   case round =>
    clear HK hbl HB HM HKR HE
    obtain ⟨at1,m1,st,rfl,rfl,ha1,ha2,hnb,hok,he8,hvw,hst,kr,hE⟩:=hrel
    have HKR:=hide kr
    have HNB:=hide hnb
    have HOK:=hide hok
    have HVW:=hide hvw
    have hT:=(ht.kp kr no_elim)
    have HT:=hide hT
    have hbl:=hnb.b.lt
    have tc:=hnb.trC
    have oc:=hnb.outC
    have bf:=hnb.b.frozen
    have HRW:=hide (kr.row hR (fun _ _=>no_elim))
    clear kr hnb hok hvw hT
    have hne:w.heap.size≠0:=by omega
    cases gk with
    | zero=>simp [wkF] at hE
    | succ k =>
     rw [wkF] at hE
     by_cases hgo:at1<nds.length∧m1.e=8
     case neg =>
      rw [if_neg hgo] at hE
      simp only [Option.some.injEq] at hE
      have HE:=hide hE
      have hlt:¬ at1<L.length:=fun e=>hgo ⟨by rw [← HQ.out.1];exact e,he8⟩
      have HE8:=hide he8
      clear hE hgo he8
      have d1:decide (0≤at1)=true:=by simp;omega
      go_wp2
      go_quiet (fail)
      go_wp2
      go_ret3
      rw [← HE.out,HE8.out]
      exact ⟨rfl,HKR.out.drewN _⟩
     case pos =>
      rw [if_pos hgo] at hE
      split at hE
      case isFalse=>simp at hE
      rename_i ha
      obtain ⟨at1,rfl⟩:=Int.eq_ofNat_of_zero_le ha.1
      rw [Int.toNat_natCast] at hE
      have hlt:at1<L.length:=by rw [HQ.out.1];omega
      have ha100:at1<100:=by omega
      clear ha ha1 ha2 hgo
      cases hnd:nds[at1]? with
      | none=>rw [hnd] at hE;simp at hE
      | some nd =>
       rw [hnd] at hE
       dsimp only at hE
       obtain ⟨hgn,tx0,yes0,nno0,hLi,hyes,hno⟩:=HQ.out.2 at1 nd hnd
       obtain ⟨_,g,rfl,hg,q0,q1,q2,q3,q4,q5,q6,q7,q8,q9,q10⟩:=NRow.at HRW.out hLi
       split at hE
       case h_2=>simp at hE
       rename_i xu yu vu hxu hyu hvu
       by_cases hl0:m1.left=0
       ·have es:startF m1 at1=({ m1 with e:=4 },false):=by rw [startF,if_pos hl0]
        rw [es] at hE
        simp only [Bool.false_eq_true,if_false] at hE
        have hend:=wkF_end hE (by show (4:Int)≠8;decide)
        have HE:=hide hend
        clear hE hend es hLi hyes hno q0 q1 q2 q3 q4 q5 q6 q7 q8 q9 q10
        have hst2:(fuel:Int)≤st:=by omega
        clear hst he8
        go_wp2
        go_quiet (fail)
        go_wp2
        go_ret3
        rw [HE.out]
        exact ⟨rfl,HKR.out.drewN _⟩
       ·have es:startF m1 at1=({ m1 with left:=m1.left-1,tr:=m1.tr++toldB at1 m1.l++sp },true):=by rw [startF,if_neg hl0]
        have hso:=startF_ok at1 HOK.out
        rw [es] at hE hso
        simp only [if_true] at hE
        have hTL:=hide (fun W (hW:NB W w.heap.size inp m1)=>ntell_c at1 ha100 hW (by have:=HOK.out.tr;omega) HVW.out)
        have hM0:Hid (∀ W,NB W w.heap.size inp { m1 with tr:=m1.tr++toldB at1 m1.l++sp }→NB W w.heap.size inp { m1 with left:=m1.left-1,tr:=m1.tr++toldB at1 m1.l++sp }):=hide (fun W h=>⟨h.b,h.six⟩)
        have he80:({ m1 with left:=m1.left-1,tr:=m1.tr++toldB at1 m1.l++sp }:Mc).e=8:=he8
        have hl0':({ m1 with left:=m1.left-1,tr:=m1.tr++toldB at1 m1.l++sp }:Mc).l=m1.l:=rfl
        have hle0:({ m1 with left:=m1.left-1,tr:=m1.tr++toldB at1 m1.l++sp }:Mc).left+1=m1.left:=by show m1.left-1+1=m1.left;omega
        generalize ({ m1 with tr:=m1.tr++toldB at1 m1.l++sp }:Mc)=mt at *
        generalize ({ m1 with left:=m1.left-1,tr:=m1.tr++toldB at1 m1.l++sp }:Mc)=m0 at *
        dsimp only at hso
        have hPre:=hide (fun W (hW:NB W w.heap.size inp m0) (hTW:Tab W)=>(show StPre W w.heap.size inp m0 nd nd.x.toNat nd.y.toNat nd.v.toNat xu yu vu from
         ⟨hW,hgn,hinp,by have:=hgn.x;omega,by have:=hgn.y;omega,by have:=hgn.v;omega,by rw [hl0'];exact hxu,by rw [hl0'];exact hyu,by rw [hl0'];exact hvu,by rw [hl0'];exact HVW.out,by have:=hso.2.1 rfl;omega,hTW,he80⟩))
        have vy:=HVW.out yu (List.mem_of_getElem? hyu)
        have hst1:(st:Int)<fuel:=by omega
        have HE80:=hide he80
        by_cases htst:nd.op=121∨nd.op=58
        ·rw [if_pos htst] at hE
         have HE:=hide hE
         have HS:=hide (fun W (hW:NB W w.heap.size inp m0) (hTW:Tab W)=>ntest_c tx0 yes0 nno0 (hPre.out W hW hTW) htst)
         have HWY:=hide (fun W (hW:NB W w.heap.size inp m0)=>nwayOf_t tx0 yes0 nno0 hW hgn (show nd.y=(nd.y.toNat:Nat) by have:=hgn.y;omega) (by rw [hl0'];exact hyu) vy htst)
         obtain ⟨hy1,hy2,hy3⟩:=hyes (by omega)
         obtain ⟨hn1,hn2,hn3⟩:=hno htst
         have HAT:=hide (show (if holdF nd yu then yes0 else nno0)=(if holdF nd yu then nd.t else nd.f) by rw [hy1,hn1])
         have HBD:=hide (show -1≤(if holdF nd yu then nd.t else nd.f)∧(if holdF nd yu then nd.t else nd.f)≤1000 by split <;> omega)
         rw [HAT.out] at HWY
         generalize (if holdF nd yu=true then nd.t else nd.f)=an at *
         clear hE hyes hno hy1 hy2 hy3 hn1 hn2 hn3 htst HAT
         generalize hnn:encN nd tx0 yes0 nno0=n at *
         have HNN:=hide hnn
         clear hnn
         obtain ⟨tx,act,nx,ny,nw,ck,cn,ch,kd,yes,nno⟩:=n
         unfold NN.cells at HS HWY
         dsimp only at HS HWY q0 q1 q2 q3 q4 q5 q6 q7 q8 q9 q10
         clear es hLi he80 hxu hvu hPre
         have HL0:=hide hl0'
         have HLE:=hide hle0
         have HST:=hide hst
         have HSO:=hide hso
         clear hl0' hle0 hst hso hgn he8 hl0 hyu vy
         go_wp2_with fail
         refine (hTL.out _ ⟨Blk.alloc HNB.out.b _,HNB.out.six⟩).mono ?_
         rintro e w2 ⟨rfl,h2,k2⟩
         have h2':=hM0.out _ h2
         have hN2:Blk w2 wr.heap.size [.string tx,.int .i64 act,.int .i64 nx,.int .i64 ny,.int .i64 nw,.int .i64 ck,.int .i64 cn,.int .i64 ch,.int .i64 kd,.int .i64 yes,.int .i64 nno] 68:=k2.blk (by (exact blA)) (by omega)
         obtain ⟨d0,d1,d2,d3,d4,d5,d6,d7,d8,d9,d10,df⟩:=hN2.c11
         have hz2:=hN2.lt
         have hT2:Tab w2:=(HT.out.kp ((Kp.refl no wr).alloc _) no_elim).kp k2 (fun e=>hne e.symm)
         have K2:Kp no w w2:=(HKR.out.alloc _).trans k2 (fun x hx e=>by omega)
         have HK2:=hide K2
         clear K2 q0 q1 q2 q3 q4 q5 q6 q7 q8 q9 q10 tc oc bf
         go_wp2_with fail
         refine (HS.out _ h2' hT2).mono ?_
         rintro e w3 ⟨rfl,h3,k3⟩
         have hN3:Blk w3 wr.heap.size [.string tx,.int .i64 act,.int .i64 nx,.int .i64 ny,.int .i64 nw,.int .i64 ck,.int .i64 cn,.int .i64 ch,.int .i64 kd,.int .i64 yes,.int .i64 nno] 68:=k3.blk hN2 (by omega)
         obtain ⟨e0,e1,e2,e3,e4,e5,e6,e7,e8,e9,e10,ef⟩:=hN3.c11
         have hz3:=hN3.lt
         have K3:Kp no w w3:=HK2.out.trans k3 (fun x hx e=>by omega)
         have HK3:=hide K3
         clear K3 d0 d1 d2 d3 d4 d5 d6 d7 d8 d9 d10 df
         go_wp2_with fail
         refine (HWY.out _ h3).mono ?_
         rintro e w4 ⟨rfl,k4⟩
         go_wp2
         go_roundg k
         case measure=>omega
         case rel=>exact ⟨an,m0,st+1,rfl,by go_num,HBD.out.1,HBD.out.2,h3.kp k4 no_elim,HSO.out.1,HE80.out,by rw [HL0.out];exact HVW.out,by have:=HLE.out;have:=HST.out;omega,HK3.out.trans k4 (fun _ _ e=>e),HE.out⟩
        ·rw [if_neg htst] at hE
         have HS:=hide (fun W (hW:NB W w.heap.size inp m0) (hTW:Tab W)=>nstep_c tx0 yes0 nno0 (hPre.out W hW hTW) htst)
         have hde:=doF_e (inp:=inp) (n:=nd) (x:=nd.x.toNat) (xu:=xu) (yu:=yu) (vu:=vu) he80
         have hdv:=doF_vw (inp:=inp) (n:=nd) (x:=nd.x.toNat) (xu:=xu) (yu:=yu) (vu:=vu) (m:=m0) hgn (by rw [hl0'];exact HVW.out) vy (HVW.out vu (List.mem_of_getElem? hvu))
         have hdo:MOk (doF inp nd nd.x.toNat xu yu vu m0):=doF_ok hgn.k (HOK.out.v yu (List.mem_of_getElem? hyu)) (HOK.out.v vu (List.mem_of_getElem? hvu)) hso.1 (hso.2.1 rfl)
         have hdl:(doF inp nd nd.x.toNat xu yu vu m0).left=m0.left:=doF_left
         generalize doF inp nd nd.x.toNat xu yu vu m0=md at *
         by_cases h8:md.e=8
         ·have h33:nd.op≠33:=by
           rcases hde with h|h|h|h
           ·exact h.2
           ·omega
           ·omega
           ·omega
          obtain ⟨hy1,hy2,hy3⟩:=hyes h33
          obtain ⟨yu2,hyu2⟩:∃ yu2,md.l[nd.y.toNat]?=some yu2:=⟨_,List.getElem?_eq_getElem (by have:=hdo.six;have:=hgn.y;omega)⟩
          have HWY:=hide (fun W (hW:NB W w.heap.size inp md)=>(nwayOf_n tx0 yes0 nno0 hW (show nd.y=(nd.y.toNat:Nat) by have:=hgn.y;omega) hyu2 htst).mono (R':=fun e w'=>e=.returned (.int .i64 nd.t)∧Kp no W w') (fun e w' h=>⟨h.1.trans (by rw [hy1]),h.2⟩))
          have HE:=hide hE
          have hBD:-1≤nd.t∧nd.t≤1000:=⟨hy2,hy3⟩
          have HBD:=hide hBD
          rw [h8] at HS
          rw [show endE 8=0 from rfl] at HS
          have HH8:=hide h8
          generalize nd.t=an at *
          have HDV:=hide hdv
          have HDO:=hide hdo
          have HDL:=hide hdl
          clear hE hyes hno hy1 hy2 hy3 htst hde hyu2 hBD h8 hdv hdo hdl
          generalize hnn:encN nd tx0 yes0 nno0=n at *
          have HNN:=hide hnn
          clear hnn
          obtain ⟨tx,act,nx,ny,nw,ck,cn,ch,kd,yes,nno⟩:=n
          unfold NN.cells at HS HWY
          dsimp only at HS HWY q0 q1 q2 q3 q4 q5 q6 q7 q8 q9 q10
          clear es hLi he80 hxu hvu hPre
          have HL0:=hide hl0'
          have HLE:=hide hle0
          have HST:=hide hst
          have HSO:=hide hso
          clear hl0' hle0 hst hso hgn he8 hl0 hyu vy
          go_wp2_with fail
          refine (hTL.out _ ⟨Blk.alloc HNB.out.b _,HNB.out.six⟩).mono ?_
          rintro e w2 ⟨rfl,h2,k2⟩
          have h2':=hM0.out _ h2
          have hN2:Blk w2 wr.heap.size [.string tx,.int .i64 act,.int .i64 nx,.int .i64 ny,.int .i64 nw,.int .i64 ck,.int .i64 cn,.int .i64 ch,.int .i64 kd,.int .i64 yes,.int .i64 nno] 68:=k2.blk (by (exact blA)) (by omega)
          obtain ⟨d0,d1,d2,d3,d4,d5,d6,d7,d8,d9,d10,df⟩:=hN2.c11
          have hz2:=hN2.lt
          have hT2:Tab w2:=(HT.out.kp ((Kp.refl no wr).alloc _) no_elim).kp k2 (fun e=>hne e.symm)
          have K2:Kp no w w2:=(HKR.out.alloc _).trans k2 (fun x hx e=>by omega)
          have HK2:=hide K2
          clear K2 q0 q1 q2 q3 q4 q5 q6 q7 q8 q9 q10 tc oc bf
          go_wp2_with fail
          refine (HS.out _ h2' hT2).mono ?_
          rintro e w3 ⟨rfl,h3,k3⟩
          have hN3:Blk w3 wr.heap.size [.string tx,.int .i64 act,.int .i64 nx,.int .i64 ny,.int .i64 nw,.int .i64 ck,.int .i64 cn,.int .i64 ch,.int .i64 kd,.int .i64 yes,.int .i64 nno] 68:=k3.blk hN2 (by omega)
          obtain ⟨e0,e1,e2,e3,e4,e5,e6,e7,e8,e9,e10,ef⟩:=hN3.c11
          have hz3:=hN3.lt
          have K3:Kp no w w3:=HK2.out.trans k3 (fun x hx e=>by omega)
          have HK3:=hide K3
          clear K3 d0 d1 d2 d3 d4 d5 d6 d7 d8 d9 d10 df
          go_wp2_with fail
          refine (HWY.out _ h3).mono ?_
          rintro e w4 ⟨rfl,k4⟩
          go_wp2
          go_roundg k
          case measure=>omega
          case rel=>exact ⟨an,md,st+1,rfl,by go_num,HBD.out.1,HBD.out.2,h3.kp k4 no_elim,HDO.out,HH8.out,HDV.out,by have:=HLE.out;have:=HST.out;have:=HDL.out;omega,HK3.out.trans k4 (fun _ _ e=>e),HE.out⟩
         ·have hend:=wkF_end hE h8
          have HE:=hide hend
          have h567:md.e=5∨md.e=6∨md.e=7:=by omega
          have he':endE md.e=md.e:=by rw [endE,if_neg h8]
          rw [← he'] at h567
          have hec:(endE md.e == 0)=false:=by simp;omega
          generalize hge:endE md.e=ee at *
          have HGE:=hide hge
          clear hE hyes hno htst hde hend h8 h567 he' hge hdv hdo hdl
          generalize hnn:encN nd tx0 yes0 nno0=n at *
          have HNN:=hide hnn
          clear hnn
          obtain ⟨tx,act,nx,ny,nw,ck,cn,ch,kd,yes,nno⟩:=n
          unfold NN.cells at HS
          dsimp only at HS q0 q1 q2 q3 q4 q5 q6 q7 q8 q9 q10
          clear es hLi he80 hxu hvu hPre
          have HL0:=hide hl0'
          have HLE:=hide hle0
          have HST:=hide hst
          have HSO:=hide hso
          clear hl0' hle0 hst hso hgn he8 hl0 hyu vy
          go_wp2_with fail
          refine (hTL.out _ ⟨Blk.alloc HNB.out.b _,HNB.out.six⟩).mono ?_
          rintro e w2 ⟨rfl,h2,k2⟩
          have h2':=hM0.out _ h2
          have hN2:Blk w2 wr.heap.size [.string tx,.int .i64 act,.int .i64 nx,.int .i64 ny,.int .i64 nw,.int .i64 ck,.int .i64 cn,.int .i64 ch,.int .i64 kd,.int .i64 yes,.int .i64 nno] 68:=k2.blk (by (exact blA)) (by omega)
          obtain ⟨d0,d1,d2,d3,d4,d5,d6,d7,d8,d9,d10,df⟩:=hN2.c11
          have hz2:=hN2.lt
          have hT2:Tab w2:=(HT.out.kp ((Kp.refl no wr).alloc _) no_elim).kp k2 (fun e=>hne e.symm)
          have K2:Kp no w w2:=(HKR.out.alloc _).trans k2 (fun x hx e=>by omega)
          have HK2:=hide K2
          clear K2 q0 q1 q2 q3 q4 q5 q6 q7 q8 q9 q10 tc oc bf
          go_wp2_with fail
          refine (HS.out _ h2' hT2).mono ?_
          rintro e w3 ⟨rfl,h3,k3⟩
          have hN3:Blk w3 wr.heap.size [.string tx,.int .i64 act,.int .i64 nx,.int .i64 ny,.int .i64 nw,.int .i64 ck,.int .i64 cn,.int .i64 ch,.int .i64 kd,.int .i64 yes,.int .i64 nno] 68:=k3.blk hN2 (by omega)
          obtain ⟨e0,e1,e2,e3,e4,e5,e6,e7,e8,e9,e10,ef⟩:=hN3.c11
          have hz3:=hN3.lt
          have K3:Kp no w w3:=HK2.out.trans k3 (fun x hx e=>by omega)
          have HK3:=hide K3
          clear K3 d0 d1 d2 d3 d4 d5 d6 d7 d8 d9 d10 df
          have tc:=h3.trC
          have oc:=h3.outC
          have bf:=h3.b.frozen
          go_wp2
          go_quiet (fail)
          go_wp2
          go_ret3
          rw [HE.out,HGE.out]
          exact ⟨rfl,HK3.out.drewN _⟩
  ·have hb':Blk wr w.heap.size [.int .i64 0,.int .i64 0,.int .i64 0,.int .i64 0,.int .i64 0,.int .i64 0,.int .i64 0,.int .i64 0,.int .i64 0,.int .i64 0,.int .i64 0,.int .i64 0,.int .i64 0,.int .i64 0,.int .i64 0,.int .i64 0,.int .i64 0,.int .i64 0,.string inp,.int .i64 0,.string ⟨#[]⟩,.string ⟨#[]⟩] 91:=hb
   have z1:=hb'.cell 0
   have z2:=hb'.cell 1
   have z3:=hb'.cell 2
   have zf:=hb'.frozen
   simp only [List.getElem?_cons_zero,List.getElem?_cons_succ] at z1 z2 z3
   clear hb
   go_wp2
   go_roundg (6-1)
   case measure=>have:=HK.out;omega
   case rel =>
    have kk:=HKR.out
    refine ⟨1,by omega,rfl,by go_num,?_,by (exact kpA)⟩
    show Blk _ _ [.int .i64 8,.int .i64 0,.int .i64 0,.int .i64 0,.int .i64 0,.int .i64 0,.int .i64 0,.int .i64 0,.int .i64 0,.int .i64 0,.int .i64 0,.int .i64 0,.int .i64 0,.int .i64 0,.int .i64 0,.int .i64 0,.int .i64 0,.int .i64 0,.string inp,.int .i64 0,.string ⟨#[]⟩,.string ⟨#[]⟩] _
    (exact blA)
  ·have hb':Blk wr w.heap.size [.int .i64 8,.int .i64 0,.int .i64 0,.int .i64 0,.int .i64 0,.int .i64 0,.int .i64 0,.int .i64 0,.int .i64 0,.int .i64 0,.int .i64 0,.int .i64 0,.int .i64 0,.int .i64 0,.int .i64 0,.int .i64 0,.int .i64 0,.int .i64 0,.string inp,.int .i64 0,.string ⟨#[]⟩,.string ⟨#[]⟩] 91:=hb
   have z1:=hb'.cell 3
   have z2:=hb'.cell 4
   have z3:=hb'.cell 5
   have zf:=hb'.frozen
   simp only [List.getElem?_cons_zero,List.getElem?_cons_succ] at z1 z2 z3
   clear hb
   go_wp2
   go_roundg (6-2)
   case measure=>have:=HK.out;omega
   case rel =>
    have kk:=HKR.out
    refine ⟨2,by omega,rfl,by go_num,?_,by (exact kpA)⟩
    show Blk _ _ [.int .i64 8,.int .i64 0,.int .i64 0,.int .i64 8,.int .i64 0,.int .i64 0,.int .i64 0,.int .i64 0,.int .i64 0,.int .i64 0,.int .i64 0,.int .i64 0,.int .i64 0,.int .i64 0,.int .i64 0,.int .i64 0,.int .i64 0,.int .i64 0,.string inp,.int .i64 0,.string ⟨#[]⟩,.string ⟨#[]⟩] _
    (exact blA)
  ·have hb':Blk wr w.heap.size [.int .i64 8,.int .i64 0,.int .i64 0,.int .i64 8,.int .i64 0,.int .i64 0,.int .i64 0,.int .i64 0,.int .i64 0,.int .i64 0,.int .i64 0,.int .i64 0,.int .i64 0,.int .i64 0,.int .i64 0,.int .i64 0,.int .i64 0,.int .i64 0,.string inp,.int .i64 0,.string ⟨#[]⟩,.string ⟨#[]⟩] 91:=hb
   have z1:=hb'.cell 6
   have z2:=hb'.cell 7
   have z3:=hb'.cell 8
   have zf:=hb'.frozen
   simp only [List.getElem?_cons_zero,List.getElem?_cons_succ] at z1 z2 z3
   clear hb
   go_wp2
   go_roundg (6-3)
   case measure=>have:=HK.out;omega
   case rel =>
    have kk:=HKR.out
    refine ⟨3,by omega,rfl,by go_num,?_,by (exact kpA)⟩
    show Blk _ _ [.int .i64 8,.int .i64 0,.int .i64 0,.int .i64 8,.int .i64 0,.int .i64 0,.int .i64 8,.int .i64 0,.int .i64 0,.int .i64 0,.int .i64 0,.int .i64 0,.int .i64 0,.int .i64 0,.int .i64 0,.int .i64 0,.int .i64 0,.int .i64 0,.string inp,.int .i64 0,.string ⟨#[]⟩,.string ⟨#[]⟩] _
    (exact blA)
  ·have hb':Blk wr w.heap.size [.int .i64 8,.int .i64 0,.int .i64 0,.int .i64 8,.int .i64 0,.int .i64 0,.int .i64 8,.int .i64 0,.int .i64 0,.int .i64 0,.int .i64 0,.int .i64 0,.int .i64 0,.int .i64 0,.int .i64 0,.int .i64 0,.int .i64 0,.int .i64 0,.string inp,.int .i64 0,.string ⟨#[]⟩,.string ⟨#[]⟩] 91:=hb
   have z1:=hb'.cell 9
   have z2:=hb'.cell 10
   have z3:=hb'.cell 11
   have zf:=hb'.frozen
   simp only [List.getElem?_cons_zero,List.getElem?_cons_succ] at z1 z2 z3
   clear hb
   go_wp2
   go_roundg (6-4)
   case measure=>have:=HK.out;omega
   case rel =>
    have kk:=HKR.out
    refine ⟨4,by omega,rfl,by go_num,?_,by (exact kpA)⟩
    show Blk _ _ [.int .i64 8,.int .i64 0,.int .i64 0,.int .i64 8,.int .i64 0,.int .i64 0,.int .i64 8,.int .i64 0,.int .i64 0,.int .i64 8,.int .i64 0,.int .i64 0,.int .i64 0,.int .i64 0,.int .i64 0,.int .i64 0,.int .i64 0,.int .i64 0,.string inp,.int .i64 0,.string ⟨#[]⟩,.string ⟨#[]⟩] _
    (exact blA)
  ·have hb':Blk wr w.heap.size [.int .i64 8,.int .i64 0,.int .i64 0,.int .i64 8,.int .i64 0,.int .i64 0,.int .i64 8,.int .i64 0,.int .i64 0,.int .i64 8,.int .i64 0,.int .i64 0,.int .i64 0,.int .i64 0,.int .i64 0,.int .i64 0,.int .i64 0,.int .i64 0,.string inp,.int .i64 0,.string ⟨#[]⟩,.string ⟨#[]⟩] 91:=hb
   have z1:=hb'.cell 12
   have z2:=hb'.cell 13
   have z3:=hb'.cell 14
   have zf:=hb'.frozen
   simp only [List.getElem?_cons_zero,List.getElem?_cons_succ] at z1 z2 z3
   clear hb
   go_wp2
   go_roundg (6-5)
   case measure=>have:=HK.out;omega
   case rel =>
    have kk:=HKR.out
    refine ⟨5,by omega,rfl,by go_num,?_,by (exact kpA)⟩
    show Blk _ _ [.int .i64 8,.int .i64 0,.int .i64 0,.int .i64 8,.int .i64 0,.int .i64 0,.int .i64 8,.int .i64 0,.int .i64 0,.int .i64 8,.int .i64 0,.int .i64 0,.int .i64 8,.int .i64 0,.int .i64 0,.int .i64 0,.int .i64 0,.int .i64 0,.string inp,.int .i64 0,.string ⟨#[]⟩,.string ⟨#[]⟩] _
    (exact blA)
  ·have hb':Blk wr w.heap.size [.int .i64 8,.int .i64 0,.int .i64 0,.int .i64 8,.int .i64 0,.int .i64 0,.int .i64 8,.int .i64 0,.int .i64 0,.int .i64 8,.int .i64 0,.int .i64 0,.int .i64 8,.int .i64 0,.int .i64 0,.int .i64 0,.int .i64 0,.int .i64 0,.string inp,.int .i64 0,.string ⟨#[]⟩,.string ⟨#[]⟩] 91:=hb
   have z1:=hb'.cell 15
   have z2:=hb'.cell 16
   have z3:=hb'.cell 17
   have zf:=hb'.frozen
   simp only [List.getElem?_cons_zero,List.getElem?_cons_succ] at z1 z2 z3
   clear hb
   go_wp2
   go_roundg (6-6)
   case measure=>have:=HK.out;omega
   case rel =>
    have kk:=HKR.out
    refine ⟨6,by omega,rfl,by go_num,?_,by (exact kpA)⟩
    show Blk _ _ [.int .i64 8,.int .i64 0,.int .i64 0,.int .i64 8,.int .i64 0,.int .i64 0,.int .i64 8,.int .i64 0,.int .i64 0,.int .i64 8,.int .i64 0,.int .i64 0,.int .i64 8,.int .i64 0,.int .i64 0,.int .i64 8,.int .i64 0,.int .i64 0,.string inp,.int .i64 0,.string ⟨#[]⟩,.string ⟨#[]⟩] _
    (exact blA)
end Go.Proofs.YtellieabhaphhabGreatDoor
namespace Go.Proofs.YtellieabhaphhabGreatDoor
open Go.RowKit
def nj (row:List NN):Nat:=row.countP (fun n=>decide (n.act≠15))
theorem nj_jump (row:List NN) (k:Int):nj (row++[jumpN k])=nj row:=by
 unfold nj;rw [List.countP_append];rfl
theorem nj_one (row:List NN) (n:NN):nj (row++[n])≤nj row+1:=by
 unfold nj;rw [List.countP_append]
 have:List.countP (fun n=>decide (n.act≠15)) [n]≤[n].length:=List.countP_le_length
 simp only [List.length_singleton] at this
 omega
def sz (row:List NN):Nat:=(row.map (fun n=>n.tx.size)).sum
theorem sz_one (row:List NN) (n:NN):sz (row++[n])=sz row+n.tx.size:=by simp [sz]
def TxP (nd:Nd) (tx:ByteArray):Prop:=∃ s i j,tx=sinceB s i j∧i≤j∧j≤s.size∧(simpF s i=(nd,(j,false))∨testF s i=(nd,(j,false)))
def RN (n:NN):Prop:=n.act=15∨(n.act≠15∧∃ nd tx y z,n=encN nd tx y z∧Gn nd∧tx.size≤1000∧TxP nd tx)
def Gp (c:Int) (m m':MS):Prop:=m'.p.2=false→m.p.2=false∧(∀ n∈m'.row,n∈m.row∨RN n)∧2*(nj m'.row:Int)+m.p.1≤2*nj m.row+m'.p.1+c∧sz m'.row+m.p.1≤sz m.row+m'.p.1
theorem Gp.trans {a b:Int} {m m1 m2:MS} (h:Gp a m m1) (k:Gp b m1 m2):Gp (a+b) m m2:=by
 intro hb
 obtain ⟨k1,k2,k3,k4⟩:=k hb
 obtain ⟨h1,h2,h3,h4⟩:=h k1
 exact ⟨h1,fun n hn=>(k2 n hn).elim (h2 n) .inr,by omega,by omega⟩
theorem Gp.mono {a b:Int} {m m':MS} (h:Gp a m m') (hab:a≤b):Gp b m m':=fun hb=>let ⟨h1,h2,h3,h4⟩:=h hb;⟨h1,h2,by omega,h4⟩
theorem Gp.of {c:Int} {m m':MS} (hp:m'.p=m.p) (hr:m'.row=m.row) (hc:0≤c):Gp c m m':=by
 intro hb
 rw [hp] at hb
 refine ⟨hb,fun n hn=>.inl (hr ▸ hn),?_,?_⟩
 ·rw [hp,hr];omega
 ·rw [hp,hr];exact Nat.le_refl _
theorem Gp.refl (m:MS):Gp 0 m m:=Gp.of rfl rfl (Int.le_refl _)
theorem layM_gp (m:MS) (k:Nat):Gp 0 m (layM m k):=Gp.of rfl rfl (Int.le_refl _)
theorem newM_gp (m:MS):Gp 0 m (newM m):=Gp.of rfl rfl (Int.le_refl _)
theorem new3_gp (m:MS):Gp 0 m (new3 m):=Gp.of rfl rfl (Int.le_refl _)
theorem jmpM_gp (m:MS) (k:Int):Gp 0 m (jmpM m k):=by
 intro hb
 refine ⟨hb,fun n hn=>?_,?_,?_⟩
 ·rcases List.mem_append.1 hn with h|h
  ·exact .inl h
  ·obtain rfl:n=jumpN k:=by simpa using h
   exact .inr (.inl rfl)
 ·show 2*(nj (m.row++[jumpN k]):Int)+_≤_
  rw [nj_jump,jmpM_p];omega
 ·show sz (m.row++[jumpN k])+_≤_
  rw [sz_one,jmpM_p];exact Nat.le_refl _
theorem expF_good (s:ByteArray):∀ (l:List UInt8) (p:Nat × Bool),(expF s p l).2=false→p.2=false∧(expF s p l).1=p.1+l.length
 | [],p,h=>⟨h,rfl⟩
 | c::l,p,h=>by
  have ih:=expF_good s l (eatF s p c.toNat) h
  obtain ⟨e1,e2,e3⟩:=eatF_good s p c.toNat ih.1
  refine ⟨e1,?_⟩
  show (expF s (eatF s p c.toNat) l).1=_
  rw [ih.2,e3,List.length_cons]
  omega
theorem expM_gp (s:ByteArray) (m:MS) (l:List UInt8):Gp (-(l.length:Int)) m (expM s m l):=by
 intro hb
 obtain ⟨e1,e2⟩:=expF_good s l m.p hb
 refine ⟨e1,fun n hn=>.inl hn,?_,?_⟩
 ·rw [expM_p,e2,expM_row]
  omega
 ·rw [expM_p,e2,expM_row]
  omega
theorem actN_ne (o:Int):actN o≠15:=by
 unfold actN
 intro h
 repeat' split at h
 all_goals omega
theorem tst_ref (s:ByteArray) (i:Nat):(tstF s (i,false)).2=(testF s i).2∧(tstF s (i,false)).1=encN (testF s i).1 em 0 0:=by
 unfold tstF queF testF
 generalize varF s (i,false)=q
 obtain ⟨k,q,b⟩:=q
 dsimp only
 cases b
 ·by_cases h:pk s q=58
  ·rw [pkb_false,if_pos h,if_pos ⟨rfl,h⟩]
   exact ⟨rfl,rfl⟩
  ·rw [pkb_false,if_neg h,if_neg (fun e=>h e.2)]
   exact ⟨rfl,rfl⟩
 ·rw [pkb_true,if_neg (by decide),if_neg (fun e=>by cases e.1)]
  exact ⟨rfl,rfl⟩
theorem since_size (s:ByteArray) (a b:Nat) (hs:s.size≤1000):(sinceB s a b).size≤1000:=by
 unfold sinceB
 rw [ByteArray.size_extract];omega
theorem tstM_gp {s:ByteArray} {m:MS} (yes no:Int) (hs:s.size≤1000) (hi:m.p.1≤s.size):Gp 1 m (tstM s yes no m):=by
 intro hb
 have hb':(tstF s m.p).2.2=false:=hb
 have b0:=(tstF_bc s m.p hi).1
 have hp:m.p.2=false:=by
  have h1:=bc_live hb'
  cases h:m.p.2
  ·rfl
  ·rw [h1] at b0;simp [bc,h] at b0
 have e:m.p=(m.p.1,false):=by rw [← hp]
 obtain ⟨r1,r2⟩:=tst_ref s m.p.1
 rw [← e] at r1 r2
 have g:=testF_gn s m.p.1 (by rw [← r1];exact hb')
 have htp:TxP (testF s m.p.1).1 (sinceB s m.p.1 (tstF s m.p).2.1):=⟨s,m.p.1,(tstF s m.p).2.1,rfl,(tstF_bc s m.p hi).2.1,(tstF_bc s m.p hi).2.2,.inr (by
  have hbb:(testF s m.p.1).2=((tstF s m.p).2.1,false):=by rw [← r1];exact Prod.ext rfl hb'
  exact Prod.ext rfl hbb)⟩
 refine ⟨hp,fun n hn=>?_,?_,?_⟩
 ·rcases List.mem_append.1 hn with h|h
  ·exact .inl h
  ·obtain rfl:n=_:=by simpa using h
   rw [r2]
   exact .inr (.inr ⟨actN_ne _,_,_,_,_,rfl,g.1,since_size s _ _ hs,htp⟩)
 ·have h1:nj (tstM s yes no m).row≤nj m.row+1:=nj_one m.row _
  have h2:m.p.1+1≤(tstM s yes no m).p.1:=by
   show m.p.1+1≤(tstF s m.p).2.1
   have v:=varF_ge s m.p
   have hv:(varF s m.p).2.2=false:=by
    have q:=(queF_bc s (varF s m.p).2 (varF s m.p).1 (varF_le s m.p hi)).1
    have:bc (tstF s m.p).2=0:=bc_live hb'
    cases h:(varF s m.p).2.2
    ·rfl
    ·unfold tstF at this;rw [this] at q;simp [bc,h] at q
   have q2:=(queF_bc s (varF s m.p).2 (varF s m.p).1 (varF_le s m.p hi)).2.1
   have:=v.2 hv
   show m.p.1+1≤(queF s (varF s m.p).2 (varF s m.p).1).2.1
   omega
  omega
 ·show sz (m.row++[_])+m.p.1≤sz m.row+(tstF s m.p).2.1
  rw [sz_one]
  show sz m.row+(sinceB s m.p.1 (tstF s m.p).2.1).size+m.p.1≤_
  have:=tstF_bc s m.p hi
  unfold sinceB
  rw [ByteArray.size_extract]
  omega
theorem condM_gp:∀ (f:Nat) (s:ByteArray) (yes no:Int) (m:MS),s.size≤1000→s.size-m.p.1<f→m.p.1≤s.size→Gp 1 m (condM f s yes no m)
 | 0,_,_,_,_,_,h,_=>by omega
 | f+1,s,yes,no,m,hs,hf,hi=>by
  rw [condM]
  split
  ·rename_i hc
   obtain ⟨e1,e2,e3⟩:=eat_at (c:=33) hc (by decide)
   have x1:(expM s m [33]).p.1=m.p.1+1:=by rw [expM_p,e1]
   exact ((expM_gp s m [33]).trans (condM_gp f s no yes (expM s m [33]) hs (by omega) (by omega))).mono (by decide)
  split
  ·rename_i _ hc
   obtain ⟨e1,e2,e3⟩:=eat_at (c:=38) hc (by decide)
   have x1:(newM (expM s m [38])).p.1=m.p.1+1:=by rw [newM_p,expM_p,e1]
   have g:=condM_mc f s m.marks.length no (newM (expM s m [38])) (by omega) (by omega)
   have k1:=condM_gp f s m.marks.length no (newM (expM s m [38])) hs (by omega) (by omega)
   generalize condM f s m.marks.length no (newM (expM s m [38]))=y3 at *
   have g1:=g.lo;have g2:=g.i
   have k2:=condM_gp f s yes no (layM y3 m.marks.length) hs (by rw [layM_p];omega) (by rw [layM_p];omega)
   exact (((expM_gp s m [38]).trans (newM_gp _)).trans ((k1.trans (layM_gp y3 m.marks.length)).trans k2)).mono (by decide)
  split
  ·rename_i _ _ hc
   obtain ⟨e1,e2,e3⟩:=eat_at (c:=124) hc (by decide)
   have x1:(newM (expM s m [124])).p.1=m.p.1+1:=by rw [newM_p,expM_p,e1]
   have g:=condM_mc f s yes m.marks.length (newM (expM s m [124])) (by omega) (by omega)
   have k1:=condM_gp f s yes m.marks.length (newM (expM s m [124])) hs (by omega) (by omega)
   generalize condM f s yes m.marks.length (newM (expM s m [124]))=y3 at *
   have g1:=g.lo;have g2:=g.i
   have k2:=condM_gp f s yes no (layM y3 m.marks.length) hs (by rw [layM_p];omega) (by rw [layM_p];omega)
   exact (((expM_gp s m [124]).trans (newM_gp _)).trans ((k1.trans (layM_gp y3 m.marks.length)).trans k2)).mono (by decide)
  ·exact tstM_gp yes no hs hi
theorem actM_gp {s:ByteArray} {m:MS} (hs:s.size≤1000) (h:pkb s m.p≠0):Gp 0 m (actM s m):=by
 intro hb
 obtain ⟨h1,h2⟩:=pkb_live h
 have e:m.p=(m.p.1,false):=by rw [← h1]
 have hb':(expF s (nacF s m.p).2 [59]).2=false:=hb
 obtain ⟨e1,e2⟩:=expF_good s [59] _ hb'
 obtain ⟨r1,r2⟩:=nac_ref s m.p.1
 rw [← e] at r1 r2
 rw [r1] at e1
 have g:=simpF_gn s m.p.1 e1
 have hge:=(simpF_ge s m.p.1).2 e1
 have hle:=simpF_le s m.p.1 (Nat.le_of_lt h2)
 have htp:TxP (simpF s m.p.1).1 (sinceB s m.p.1 (nacF s m.p).2.1):=⟨s,m.p.1,(nacF s m.p).2.1,rfl,by rw [r1];omega,by rw [r1];exact hle,.inl (Prod.ext rfl (Prod.ext (by rw [r1]) e1))⟩
 refine ⟨h1,fun n hn=>?_,?_,?_⟩
 ·rcases List.mem_append.1 hn with h|h
  ·exact .inl h
  ·obtain rfl:n=_:=by simpa using h
   rw [r2 e1]
   exact .inr (.inr ⟨actN_ne _,_,_,_,_,rfl,g.1,since_size s _ _ hs,htp⟩)
 ·have h3:nj (actM s m).row≤nj m.row+1:=nj_one m.row _
  have h4:(actM s m).p.1=(simpF s m.p.1).2.1+1:=by
   show (expF s (nacF s m.p).2 [59]).1=_
   rw [e2,r1];rfl
  omega
 ·have h4:(actM s m).p.1=(simpF s m.p.1).2.1+1:=by
   show (expF s (nacF s m.p).2 [59]).1=_
   rw [e2,r1];rfl
  rw [h4]
  show sz (m.row++[_])+m.p.1≤_
  rw [sz_one]
  show sz m.row+(sinceB s m.p.1 (nacF s m.p).2.1).size+m.p.1≤_
  unfold sinceB
  rw [ByteArray.size_extract,r1]
  omega
theorem lepM_gp (s:ByteArray) (m:MS) (l:List UInt8) (k:Int):Gp 0 m (lepM s l k m):=by
 unfold lepM
 split
 ·intro hb;cases hb
 ·exact ((expM_gp s m l).trans (jmpM_gp _ k)).mono (by omega)
def SGp (s:ByteArray) (n:Nat) (S:Int→Int→MS→MS):Prop:=∀ h b m,m.p.1≤s.size→(m.p.2=false→s.size-m.p.1<n)→Gp 0 m (S h b m)
theorem choM_gp {f:Nat} {s:ByteArray} {S:Int→Int→MS→MS} {h b:Int} {m:MS} (hs:s.size≤1000) (hS:SMG s f S) (hG:SGp s f S) (hc:pkb s m.p=40) (hf:s.size-m.p.1<f+1):Gp 0 m (choM f S s h b m):=by
 obtain ⟨e1,e2,e3⟩:=eat_at (c:=40) hc (by decide)
 unfold choM
 dsimp only
 have k1:=(new3_gp m).trans (expM_gp s (new3 m) [40])
 have q1:(expM s (new3 m) [40]).p.1=m.p.1+1:=by rw [expM_p,new3_p,e1]
 generalize expM s (new3 m) [40]=x1 at *
 have g2:=condM_mc f s m.marks.length (m.marks.length+1:Nat) x1 (by omega) (by omega)
 have k2:=condM_gp f s m.marks.length (m.marks.length+1:Nat) x1 hs (by omega) (by omega)
 generalize condM f s m.marks.length (m.marks.length+1:Nat) x1=x2 at *
 have g3:=expM_mg (l:=[123]) (by decide) g2.i
 have k3:=expM_gp s x2 [123]
 generalize expM s x2 [123]=x3 at *
 have g4:=layM_mg (k:=m.marks.length) g3.i
 have k4:=layM_gp x3 m.marks.length
 generalize layM x3 m.marks.length=x4 at *
 have lo4:x1.p.1≤x4.p.1:=Nat.le_trans g2.lo (Nat.le_trans g3.lo g4.lo)
 have i4:=g4.i
 have g5:=hS h b x4 g4.i (fun _=>by omega)
 have k5:=hG h b x4 g4.i (fun _=>by omega)
 generalize S h b x4=x5 at *
 have g6:=expM_mg (l:=[125,123]) (by decide) g5.i
 have k6:=expM_gp s x5 [125,123]
 generalize expM s x5 [125,123]=x6 at *
 have p7:=jmpM_p x6 (m.marks.length+2:Nat)
 have k7:=jmpM_gp x6 (m.marks.length+2:Nat)
 generalize jmpM x6 (m.marks.length+2:Nat)=x7 at *
 have g8:=layM_mg (s:=s) (m:=x7) (k:=m.marks.length+1) (by rw [p7];exact g6.i)
 have k8:=layM_gp x7 (m.marks.length+1)
 generalize layM x7 (m.marks.length+1)=x8 at *
 have lo8:x4.p.1≤x8.p.1:=Nat.le_trans g5.lo (Nat.le_trans g6.lo (by rw [← p7];exact g8.lo))
 have i8:=g8.i
 have k9:=hG h b x8 g8.i (fun _=>by omega)
 generalize S h b x8=x9 at *
 have k10:=expM_gp s x9 [125,41]
 generalize expM s x9 [125,41]=x10 at *
 have k11:=layM_gp x10 (m.marks.length+2)
 generalize layM x10 (m.marks.length+2)=x11 at *
 exact (((((((((k1.trans k2).trans k3).trans k4).trans k5).trans k6).trans k7).trans k8).trans k9).trans (k10.trans k11)).mono (by decide)
theorem lopM_gp {f:Nat} {s:ByteArray} {S:Int→Int→MS→MS} {m:MS} (hs:s.size≤1000) (hG:SGp s f S) (hc:pkb s m.p=91) (hf:s.size-m.p.1<f+1):Gp 0 m (lopM f S s m):=by
 obtain ⟨e1,e2,e3⟩:=eat_at (c:=91) hc (by decide)
 unfold lopM
 dsimp only
 have k1:=((new3_gp m).trans (expM_gp s (new3 m) [91])).trans (layM_gp _ m.marks.length)
 have q1:(layM (expM s (new3 m) [91]) m.marks.length).p.1=m.p.1+1:=by rw [layM_p,expM_p,new3_p,e1]
 generalize layM (expM s (new3 m) [91]) m.marks.length=x1 at *
 have g2:=condM_mc f s (m.marks.length+1:Nat) (m.marks.length+2:Nat) x1 (by omega) (by omega)
 have k2:=condM_gp f s (m.marks.length+1:Nat) (m.marks.length+2:Nat) x1 hs (by omega) (by omega)
 generalize condM f s (m.marks.length+1:Nat) (m.marks.length+2:Nat) x1=x2 at *
 have g3:=expM_mg (l:=[123]) (by decide) g2.i
 have k3:=expM_gp s x2 [123]
 generalize expM s x2 [123]=x3 at *
 have g4:=layM_mg (k:=m.marks.length+1) g3.i
 have k4:=layM_gp x3 (m.marks.length+1)
 generalize layM x3 (m.marks.length+1)=x4 at *
 have lo4:x1.p.1≤x4.p.1:=Nat.le_trans g2.lo (Nat.le_trans g3.lo g4.lo)
 have i4:=g4.i
 have k5:=hG m.marks.length (m.marks.length+2:Nat) x4 g4.i (fun _=>by omega)
 generalize S m.marks.length (m.marks.length+2:Nat) x4=x5 at *
 have k6:=expM_gp s x5 [125,93]
 generalize expM s x5 [125,93]=x6 at *
 have k7:=jmpM_gp x6 m.marks.length
 generalize jmpM x6 m.marks.length=x7 at *
 have k8:=layM_gp x7 (m.marks.length+2)
 exact (((((((k1.trans k2).trans k3).trans k4).trans k5).trans k6).trans k7).trans k8).mono (by decide)
theorem stM_gp {f:Nat} {s:ByteArray} {S:Int→Int→MS→MS} {h b:Int} {m:MS} (hs:s.size≤1000) (hS:SMG s f S) (hG:SGp s f S) (hp:pkb s m.p≠0) (hf:s.size-m.p.1<f+1):Gp 0 m (stM f S s h b m):=by
 unfold stM
 split
 ·rename_i hc;exact choM_gp hs hS hG hc hf
 split
 ·rename_i hc;exact lopM_gp hs hG hc hf
 split
 ·exact lepM_gp s m _ b
 split
 ·exact lepM_gp s m _ h
 ·exact actM_gp hs hp
theorem stmM_gp:∀ (f:Nat) (s:ByteArray),s.size≤1000→SGp s f (stmM f s)
 | 0,s,_=>fun h b m _ _=>Gp.refl m
 | f+1,s,hs=>fun h b m hi hf=>by
  rw [stmM]
  split
  ·rename_i hc
   have hl:=pkb_live hc.2
   have g:=stM_mg (h:=h) (b:=b) (stmM_mg f s) hc.2 (hf hl.1)
   have k:=stM_gp (h:=h) (b:=b) hs (stmM_mg f s) (stmM_gp f s hs) hc.2 (hf hl.1)
   have hl2:=hf hl.1
   generalize stM f (stmM f s) s h b m=x at *
   exact (k.trans (stmM_gp f s hs h b x g.1.i (fun hb=>by have:=g.2 hb;have:=g.1.i;omega))).mono (by decide)
  ·exact Gp.refl m
def ms0:MS:={ p:=(0,false),row:=[],marks:=[] }
def srM (s:ByteArray):MS:=stmM (s.size+1) s (-1) (-1) ms0
def srE (s:ByteArray):Int × Int:=if (srM s).p.2=true∨(srM s).p.1≠s.size then (2,(srM s).p.1) else (0,0)
theorem srM_mi (s:ByteArray):MI s (srM s):=MI.mg (m:=ms0) ⟨Nat.zero_le _,Nat.zero_le _,Nat.zero_le _⟩ (stmM_mg (s.size+1) s (-1) (-1) ms0 (Nat.zero_le _) (fun _=>by show s.size-0<_;omega))
theorem srM_good {s:ByteArray} (hs:s.size≤180) (h:(srE s).1=0):(srM s).p=(s.size,false)∧nj (srM s).row≤90∧(∀ n∈(srM s).row,RN n)∧sz (srM s).row≤180:=by
 unfold srE at h
 split at h
 ·simp at h
 ·rename_i hn
  have h1:(srM s).p.2=false:=by cases hb:(srM s).p.2;rfl;exact absurd (.inl hb) hn
  have h2:(srM s).p.1=s.size:=by
   rcases Nat.decEq (srM s).p.1 s.size with h|h
   ·exact absurd (.inr h) hn
   ·exact h
  have g:=stmM_gp (s.size+1) s (by omega) (-1) (-1) ms0 (Nat.zero_le _) (fun _=>by show s.size-0<_;omega) h1
  obtain ⟨_,g2,g3,g4⟩:=g
  have g3':2*(nj (srM s).row:Int)+(0:Nat)≤2*(0:Nat)+(srM s).p.1+0:=g3
  have g4':sz (srM s).row+0≤0+(srM s).p.1:=g4
  exact ⟨by rw [← h1,← h2],by omega,fun n hn=>(g2 n hn).elim (fun e=>by cases e) id,by omega⟩
end Go.Proofs.YtellieabhaphhabGreatDoor
namespace Go.Proofs.YtellieabhaphhabGreatDoor
open Go.RowKit
def cndP:Nat→ByteArray→Nat × Bool→Nat × Bool
 | 0,_,p=>p
 | f+1,s,p=>if pkb s p=33 then cndP f s (p.1+1,false) else if pkb s p=38∨pkb s p=124 then cndP f s (cndP f s (p.1+1,false)) else (tstF s p).2
def stP (f:Nat) (S:Bool→Nat × Bool→Nat × Bool) (s:ByteArray) (lp:Bool) (p:Nat × Bool):Nat × Bool :=
 if pkb s p=40 then expF s (S lp (expF s (S lp (expF s (cndP f s (p.1+1,false)) [123])) [125,123])) [125,41]
 else if pkb s p=91 then expF s (S true (expF s (cndP f s (p.1+1,false)) [123])) [125,93]
 else if pkb s p=62 then (if lp then expF s p [62,59] else (p.1,true))
 else if pkb s p=60 then (if lp then expF s p [60,59] else (p.1,true))
 else expF s (nacF s p).2 [59]
def stmP:Nat→ByteArray→Bool→Nat × Bool→Nat × Bool
 | 0,_,_,p=>p
 | f+1,s,lp,p=>if pkb s p≠125∧pkb s p≠0 then stmP f s lp (stP f (stmP f s) s lp p) else p
theorem condM_pos:∀ (f:Nat) (s:ByteArray) (yes no:Int) (m:MS),(condM f s yes no m).p=cndP f s m.p
 | 0,_,_,_,_=>rfl
 | f+1,s,yes,no,m=>by
  rw [condM,cndP]
  split
  ·rename_i hc
   rw [condM_pos f,expM_p,(eat_at (c:=33) hc (by decide)).1]
  split
  ·rename_i _ hc
   rw [if_pos (.inl hc),condM_pos f,layM_p,condM_pos f,newM_p,expM_p,(eat_at (c:=38) hc (by decide)).1]
  split
  ·rename_i _ _ hc
   rw [if_pos (.inr hc),condM_pos f,layM_p,condM_pos f,newM_p,expM_p,(eat_at (c:=124) hc (by decide)).1]
  ·rename_i h1 h2 h3
   rw [if_neg (by omega)]
   rfl
def lpOk (lp:Bool) (h b:Int):Prop:=(lp=true∧h≠-1∧b≠-1)∨(lp=false∧h=-1∧b=-1)
theorem stM_pos {f:Nat} {s:ByteArray} {S:Int→Int→MS→MS} {P:Bool→Nat × Bool→Nat × Bool} {lp:Bool} {h b:Int} {m:MS} (hl:lpOk lp h b)
  (hS:∀ lp h b m,lpOk lp h b→(S h b m).p=P lp m.p):(stM f S s h b m).p=stP f P s lp m.p:=by
 unfold stM stP
 split
 ·rename_i hc
  unfold choM
  dsimp only
  rw [layM_p,expM_p,hS lp h b _ hl,layM_p,jmpM_p,expM_p,hS lp h b _ hl,layM_p,expM_p,condM_pos,expM_p,new3_p,(eat_at (c:=40) hc (by decide)).1]
 split
 ·rename_i hc
  unfold lopM
  dsimp only
  rw [layM_p,jmpM_p,expM_p,hS true _ _ _ (.inl ⟨rfl,by omega,by omega⟩),layM_p,expM_p,condM_pos,layM_p,expM_p,new3_p,(eat_at (c:=91) hc (by decide)).1]
 split
 ·unfold lepM
  rcases hl with ⟨rfl,_,h2⟩|⟨rfl,_,h2⟩
  ·rw [if_neg h2,if_pos rfl];rfl
  ·rw [if_pos h2,if_neg (by decide)];rfl
 split
 ·unfold lepM
  rcases hl with ⟨rfl,h2,_⟩|⟨rfl,h2,_⟩
  ·rw [if_neg h2,if_pos rfl];rfl
  ·rw [if_pos h2,if_neg (by decide)];rfl
 ·rfl
theorem stmM_pos:∀ (f:Nat) (s:ByteArray) (lp:Bool) (h b:Int) (m:MS),lpOk lp h b→(stmM f s h b m).p=stmP f s lp m.p
 | 0,_,_,_,_,_,_=>rfl
 | f+1,s,lp,h,b,m,hl=>by
  rw [stmM,stmP]
  split
  ·rw [stmM_pos f s lp h b _ hl,stM_pos hl (fun lp h b m hl=>stmM_pos f s lp h b m hl)]
  ·rfl
theorem cndP_ge:∀ (f:Nat) (s:ByteArray) (p:Nat × Bool),p.1≤(cndP f s p).1
 | 0,_,_=>Nat.le_refl _
 | f+1,s,p=>by
  rw [cndP]
  split
  ·have:=cndP_ge f s (p.1+1,false);simp only at this;omega
  split
  ·have h1:=cndP_ge f s (p.1+1,false)
   have h2:=cndP_ge f s (cndP f s (p.1+1,false))
   simp only at h1;omega
  ·have h1:=varF_ge s p
   unfold tstF queF
   split
   ·have h2:=kindF_ge s ((varF s p).2.1+1,false)
    show p.1≤(kindF s ((varF s p).2.1+1,false)).2.1
    simp only at h2;omega
   ·exact h1.1
theorem cndP_bad (f:Nat) (s:ByteArray) (i:Nat):cndP f s (i,true)=(i,true):=by
 cases f with
 | zero=>rfl
 | succ f =>
  rw [cndP,pkb_true,if_neg (by decide),if_neg (by decide)]
  unfold tstF queF varF
  simp [pkb]
theorem condF_pos:∀ (f:Nat) (s:ByteArray) (st:RS),st.bad=false→s.size-st.i<f→((condF f s st).i,(condF f s st).bad)=cndP f s (st.i,false)
 | 0,_,_,_,h=>by omega
 | f+1,s,st,hb,hf=>by
  rw [condF,cndP,pkb_false]
  cases hop:isOp (pk s st.i)
  ·simp only [Bool.false_eq_true,if_false]
   simp only [isOp,Bool.or_eq_false_iff,beq_eq_false_iff_ne] at hop
   obtain ⟨⟨h1,h2⟩,h3⟩:=hop
   rw [if_neg h1,if_neg (by omega),(tst_ref s st.i).1]
   rfl
  ·have hin:=isOp_in hop
   simp only [if_true]
   have hd:pk s st.i=33∨pk s st.i=38∨pk s st.i=124:=by simp only [isOp,Bool.or_eq_true,beq_iff_eq] at hop;omega
   have ih:=condF_pos f s { st with i:=st.i+1,items:=st.items++[⟨pk s st.i,0,0,0⟩] } hb (by simp only [];omega)
   generalize condF f s { st with i:=st.i+1,items:=st.items++[⟨pk s st.i,0,0,0⟩] }=c1 at *
   have ih':(c1.i,c1.bad)=cndP f s (st.i+1,false):=ih
   by_cases h33:pk s st.i=33
   ·have e1:¬ ((pk s st.i != 33 && !c1.bad)=true):=by simp [h33]
    rw [if_pos h33,if_neg e1]
    exact ih'
   ·have e2:pk s st.i=38∨pk s st.i=124:=by omega
    rw [if_neg h33,if_pos e2]
    cases hcb:c1.bad
    ·have e3:(pk s st.i != 33 && !false)=true:=by simp [h33]
     rw [if_pos e3,← ih',hcb]
     have hge:st.i+1≤c1.i:=by
      have:=cndP_ge f s (st.i+1,false)
      rw [← ih'] at this
      exact this
     exact condF_pos f s c1 hcb (by omega)
    ·have e3:¬ ((pk s st.i != 33 && !true)=true):=by simp
     rw [if_neg e3,← ih',hcb,cndP_bad]
     show (c1.i,c1.bad)=_
     rw [hcb]
theorem stmP_bad (f:Nat) (s:ByteArray) (lp:Bool) (i:Nat):stmP f s lp (i,true)=(i,true):=by
 cases f with
 | zero=>rfl
 | succ f=>rw [stmP,pkb_true,if_neg (by simp)]
def Rp2 (s:ByteArray) (p q:Nat × Bool):Prop:=p=q∨(∃ i,p=(i,false)∧q=(i,true)∧pk s i=0)
theorem Rp2.exp {s:ByteArray} {p q:Nat × Bool} (h:Rp2 s p q) (l:List UInt8):expF s p (125::l)=expF s q (125::l):=by
 rcases h with rfl|⟨i,rfl,rfl,h0⟩
 ·rfl
 ·show expF s (eatF s (i,false) 125) l=expF s (eatF s (i,true) 125) l
  have e1:eatF s (i,false) 125=(i,true):=by rw [eatF_pkb s _ 125 (by decide),pkb_false,h0,if_neg (by decide)]
  have e2:eatF s (i,true) 125=(i,true):=by unfold eatF;simp
  rw [e1,e2]
abbrev psn (st:RS):Nat × Bool:=(st.i,st.bad)
def SRl (s:ByteArray) (n:Nat) (S:RS→RS) (P:Bool→Nat × Bool→Nat × Bool):Prop :=
 ∀ st,Inv s st→st.bad=false→s.size-st.i<n→Rp2 s (P (decide (st.loops≠0)) (psn st)) (psn (S st))
theorem blk_psn {s:ByteArray} {n:Nat} {S:RS→RS} {P:Bool→Nat × Bool→Nat × Bool} (hS:SRl s n S P) (hP:∀ lp i,P lp (i,true)=(i,true)) {st:RS} (hI:Inv s st) (hn:s.size-st.i<n) (l:List UInt8) :
  expF s (P (decide (st.loops≠0)) (expF s (psn st) [123])) (125::l)=expF s (psn (blkF S s st)) l:=by
 have h1:=eatS_good (c:=123) (by decide) hI
 have e1:expF s (psn st) [123]=psn (eatS s st 123):=rfl
 rw [e1]
 unfold blkF
 have hlo:(eatS s st 123).loops=st.loops:=rfl
 cases hb:(eatS s st 123).bad
 ·rw [if_neg (by decide)]
  have hr:=hS (eatS s st 123) h1.1.inv hb (by have:=h1.1.mono.i;omega)
  rw [hlo] at hr
  have:=hr.exp l
  rw [this]
  rfl
 ·rw [if_pos rfl]
  have e2:psn (eatS s st 123)=((eatS s st 123).i,true):=Prod.ext rfl hb
  rw [e2,hP]
  show expF s (eatF s ((eatS s st 123).i,true) 125) l=expF s (eatF s (psn (eatS s st 123)) 125) l
  rw [e2]
end Go.Proofs.YtellieabhaphhabGreatDoor
namespace Go.Proofs.YtellieabhaphhabGreatDoor
open Go.RowKit
theorem blk_mono {s:ByteArray} {n:Nat} {S:RS→RS} (hG:SGood s n S) {st:RS} (hI:Inv s st) (hn:s.size-st.i<n):Inv s (blkF S s st)∧st.i≤(blkF S s st).i∧(blkF S s st).loops=st.loops :=
 let g:=blkF_good hG hI hn
 ⟨g.inv,g.mono.i,g.loops⟩
theorem st_psn {f:Nat} {s:ByteArray} {S:RS→RS} {P:Bool→Nat × Bool→Nat × Bool} (hG:SGood s f S) (hS:SRl s f S P) (hP:∀ lp i,P lp (i,true)=(i,true)) {st:RS} (hI:Inv s st) (hb:st.bad=false) (hi:st.i<s.size) (hf:s.size-st.i<f+1) :
  stP f P s (decide (st.loops≠0)) (psn st)=psn (stF f S s st):=by
 have hp:psn st=(st.i,false):=Prod.ext rfl hb
 rw [hp]
 unfold stP stF
 rw [pkb_false]
 by_cases h40:pk s st.i=40
 ·rw [if_pos h40,if_pos h40]
  unfold ifF
  have i1:=pushI_good (k:=105) (n:=0) hb hi hI
  have c1:=condF_pos f s (pushI (nextI st) 105 0) hb (by show s.size-(st.i+1)<f;omega)
  have g1:=condF_good (f:=f) (st:=pushI (nextI st) 105 0) (by show s.size-(st.i+1)<f;omega) hb i1.inv
  have hlo:(condF f s (pushI (nextI st) 105 0)).loops=st.loops:=g1.loops
  have hge:st.i+1≤(condF f s (pushI (nextI st) 105 0)).i:=g1.mono.i
  have c1':psn (condF f s (pushI (nextI st) 105 0))=cndP f s (st.i+1,false):=c1
  have hinv:=g1.inv
  generalize condF f s (pushI (nextI st) 105 0)=c at *
  rw [← c1',← hlo]
  have b1:=blk_psn hS hP hinv (by omega) [123]
  obtain ⟨m1,m2,m3⟩:=blk_mono hG hinv (by omega)
  have e1:=elseAt_good (k:=st.items.length) m1
  have hlo2:(elseAt (blkF S s c) st.items.length).loops=c.loops:=m3
  have hge2:c.i≤(elseAt (blkF S s c) st.items.length).i:=m2
  have ep:psn (elseAt (blkF S s c) st.items.length)=psn (blkF S s c):=rfl
  have b2:=blk_psn hS hP e1.inv (by omega) [41]
  rw [hlo2,ep] at b2
  rw [b1,b2]
  rfl
 rw [if_neg h40,if_neg h40]
 by_cases h91:pk s st.i=91
 ·rw [if_pos h91,if_pos h91]
  unfold whF
  dsimp only
  have i1:=pushI_good (k:=119) (n:=0) hb hi hI
  have c1:=condF_pos f s (pushI (nextI st) 119 0) hb (by show s.size-(st.i+1)<f;omega)
  have g1:=condF_good (f:=f) (st:=pushI (nextI st) 119 0) (by show s.size-(st.i+1)<f;omega) hb i1.inv
  have hlo:(condF f s (pushI (nextI st) 119 0)).loops=st.loops:=g1.loops
  have hge:st.i+1≤(condF f s (pushI (nextI st) 119 0)).i:=g1.mono.i
  have c1':psn (condF f s (pushI (nextI st) 119 0))=cndP f s (st.i+1,false):=c1
  have hinv:=g1.inv
  generalize condF f s (pushI (nextI st) 119 0)=c at *
  have hlp:=hI.lp
  have i2:Inv s { c with loops:=c.loops+1 }:=⟨hinv.i,hinv.n,hinv.t,by show c.loops+1≤c.i;omega⟩
  have b1:=blk_psn (st:={ c with loops:=c.loops+1 }) hS hP i2 (by show s.size-c.i<f;omega) [93]
  have e1:decide (({ c with loops:=c.loops+1 }:RS).loops≠0)=true:=by simp
  have e2:psn ({ c with loops:=c.loops+1 }:RS)=psn c:=rfl
  rw [e1,e2] at b1
  rw [← c1',b1]
  rfl
 rw [if_neg h91,if_neg h91]
 by_cases h62:pk s st.i=62
 ·have hor:pk s st.i=62∨pk s st.i=60:=.inl h62
  rw [if_pos h62,if_pos hor]
  by_cases hl:st.loops=0
  ·have hd:¬ (decide (st.loops≠0)=true):=by simp [hl]
   rw [if_neg hd,if_pos hl]
  ·have hd:decide (st.loops≠0)=true:=by simp [hl]
   rw [if_pos hd,if_neg hl,exp_head (s:=s) (p:=(st.i,false)) (c:=62) (l:=[59]) (by rw [pkb_false];exact h62) (by decide)]
   show expF s (st.i+1,false) [59]=eatF s (st.i+1,st.bad) 59
   rw [hb]
   rfl
 rw [if_neg h62]
 by_cases h60:pk s st.i=60
 ·have hor:pk s st.i=62∨pk s st.i=60:=.inr h60
  rw [if_pos h60,if_pos hor]
  by_cases hl:st.loops=0
  ·have hd:¬ (decide (st.loops≠0)=true):=by simp [hl]
   rw [if_neg hd,if_pos hl]
  ·have hd:decide (st.loops≠0)=true:=by simp [hl]
   rw [if_pos hd,if_neg hl,exp_head (s:=s) (p:=(st.i,false)) (c:=60) (l:=[59]) (by rw [pkb_false];exact h60) (by decide)]
   show expF s (st.i+1,false) [59]=eatF s (st.i+1,st.bad) 59
   rw [hb]
   rfl
 have hor:¬ (pk s st.i=62∨pk s st.i=60):=by omega
 rw [if_neg h60,if_neg hor,(nac_ref s st.i).1]
 rfl
theorem act_none {s:ByteArray} {st:RS} (h:pk s st.i=0∨pk s st.i=125):psn (actF s st)=(st.i,true):=by
 have hv:=varF_no s st.i (by omega)
 have e1:eatF s (st.i,true) 61=(st.i,true):=by unfold eatF;simp
 have hs:(simpF s st.i).2=(st.i,true):=by
  unfold simpF
  rw [if_neg (by omega),if_neg (by omega),hv,if_neg (fun e=>by cases e.1),e1,if_pos rfl]
 show eatF s (simpF s st.i).2 59=_
 rw [hs]
 unfold eatF;simp
theorem stmts_bad (f:Nat) (s:ByteArray) (e:Nat) (st:RS) (h:st.bad=true):stmtsF f s e st=st:=by
 cases f with
 | zero=>rfl
 | succ f=>rw [stmtsF,if_neg (fun k=>by rw [h] at k;cases k.1)]
theorem pk_end {s:ByteArray} {i:Nat} (h:¬ i<s.size):pk s i=0:=by unfold pk;rw [dif_neg h]
theorem stms_psn:∀ (f:Nat) (s:ByteArray),SRl s f (stmtsF f s 125) (stmP f s)
 | 0,s=>fun st _ _ _=>.inl rfl
 | f+1,s=>fun st hI hb hf=>by
  have hp:psn st=(st.i,false):=Prod.ext rfl hb
  rw [stmtsF]
  by_cases h125:pk s st.i=125
  ·rw [if_neg (fun k=>k.2.1 h125)]
   refine .inl ?_
   rw [hp,stmP,pkb_false,if_neg (by omega)]
  by_cases hi:st.i<s.size
  ·rw [if_pos ⟨hb,h125,hi⟩]
   by_cases h0:pk s st.i=0
   ·refine .inr ⟨st.i,?_,?_,h0⟩
    ·rw [hp,stmP,pkb_false,if_neg (by omega)]
    ·have e:stF f (stmtsF f s 125) s st=actF s st:=by
      unfold stF
      rw [if_neg (by omega),if_neg (by omega),if_neg (by omega)]
     have ha:=act_none (st:=st) (.inl h0)
     rw [e,stmts_bad f s 125 _ (congrArg Prod.snd ha)]
     exact ha
   ·have hs:=st_psn (stmtsF_good f s 125) (stms_psn f s) (stmP_bad f s) hI hb hi hf
    have hg:=stF_good (stmtsF_good f s 125) hI hb hi hf
    have hl0:decide (st.loops≠0)=decide ((stF f (stmtsF f s 125) s st).loops≠0):=by rw [hg.1.loops]
    have hstep:stmP (f+1) s (decide (st.loops≠0)) (psn st)=stmP f s (decide (st.loops≠0)) (psn (stF f (stmtsF f s 125) s st)):=by
     rw [← hs,hp,stmP,pkb_false,if_pos ⟨h125,h0⟩]
    rw [hstep,hl0]
    generalize stF f (stmtsF f s 125) s st=x at *
    cases hxb:x.bad
    ·exact stms_psn f s x hg.1.inv hxb (by have:=hg.2 hxb;have:=hg.1.inv.i;omega)
    ·rw [stmts_bad f s 125 x hxb]
     have e:psn x=(x.i,true):=Prod.ext rfl hxb
     rw [e,stmP_bad]
     exact .inl rfl
  ·rw [if_neg (fun k=>hi k.2.2)]
   refine .inl ?_
   rw [hp,stmP,pkb_false,if_neg (by rw [pk_end hi];simp)]
theorem top_psn:∀ (f:Nat) (s:ByteArray) (st:RS),Inv s st→st.bad=false→s.size-st.i<f→st.loops=0 →
  stmP f s false (psn st)=psn (stmtsF f s 0 st)∨(∃ i,stmP f s false (psn st)=(i,false)∧psn (stmtsF f s 0 st)=(i,true)∧pk s i=125)
 | 0,s,st,_,_,h,_=>by omega
 | f+1,s,st,hI,hb,hf,hl=>by
  have hp:psn st=(st.i,false):=Prod.ext rfl hb
  rw [stmtsF]
  by_cases h0:pk s st.i=0
  ·rw [if_neg (fun k=>k.2.1 h0)]
   refine .inl ?_
   rw [hp,stmP,pkb_false,if_neg (by omega)]
  have hi:=pk_in s st.i h0
  rw [if_pos ⟨hb,h0,hi⟩]
  by_cases h125:pk s st.i=125
  ·refine .inr ⟨st.i,?_,?_,h125⟩
   ·rw [hp,stmP,pkb_false,if_neg (by omega)]
   ·have e:stF f (stmtsF f s 125) s st=actF s st:=by
     unfold stF
     rw [if_neg (by omega),if_neg (by omega),if_neg (by omega)]
    have ha:=act_none (st:=st) (.inr h125)
    rw [e,stmts_bad f s 0 _ (congrArg Prod.snd ha)]
    exact ha
  ·have hs:=st_psn (stmtsF_good f s 125) (stms_psn f s) (stmP_bad f s) hI hb hi hf
   have hg:=stF_good (stmtsF_good f s 125) hI hb hi hf
   have hd:decide (st.loops≠0)=false:=by simp [hl]
   rw [hd] at hs
   have hstep:stmP (f+1) s false (psn st)=stmP f s false (psn (stF f (stmtsF f s 125) s st)):=by
    rw [← hs,hp,stmP,pkb_false,if_pos ⟨h125,h0⟩]
   rw [hstep]
   have hl2:(stF f (stmtsF f s 125) s st).loops=0:=by rw [hg.1.loops];exact hl
   generalize stF f (stmtsF f s 125) s st=x at *
   cases hxb:x.bad
   ·exact top_psn f s x hg.1.inv hxb (by have:=hg.2 hxb;have:=hg.1.inv.i;omega) hl2
   ·rw [stmts_bad f s 0 x hxb]
    have e:psn x=(x.i,true):=Prod.ext rfl hxb
    rw [e,stmP_bad]
    exact .inl rfl
theorem src_same (s:ByteArray):srE s=((if srcBad s then 2 else 0),(if srcBad s then ((srcF s).i:Int) else 0)):=by
 have hm:(srM s).p=stmP (s.size+1) s false (0,false):=stmM_pos (s.size+1) s false (-1) (-1) ms0 (.inr ⟨rfl,rfl,rfl⟩)
 have ht:=top_psn (s.size+1) s rs0 (inv0 s) rfl (by show s.size-0<_;omega) rfl
 have hi:=(srcF_good s).inv.i
 have e0:psn rs0=(0,false):=rfl
 rw [e0,← hm] at ht
 unfold srE srcBad
 rcases ht with h|⟨i,h1,h2,h3⟩
 ·have h1:(srM s).p=((srcF s).i,(srcF s).bad):=h
  rw [h1]
  dsimp only
  cases hb:(srcF s).bad
  ·by_cases hlt:(srcF s).i<s.size
   ·rw [if_pos (.inr (by omega))]
    simp [hlt]
   ·rw [if_neg (by simp;omega)]
    simp [hlt]
  ·rw [if_pos (.inl rfl)]
   simp
 ·have h2':((srcF s).i,(srcF s).bad)=(i,true):=h2
  have hb:(srcF s).bad=true:=congrArg Prod.snd h2'
  have hii:(srcF s).i=i:=congrArg Prod.fst h2'
  have hlt:=pk_in s i (by omega)
  rw [h1,hb,hii,if_pos (.inr (by show i≠s.size;omega))]
  simp
end Go.Proofs.YtellieabhaphhabGreatDoor
namespace Go.Proofs.YtellieabhaphhabGreatDoor
open Go.RowKit
def firG:Nat→List It→Nat→Option Int
 | 0,_,_=>none
 | f+1,IT,i=>match IT[i]? with|none=>none|some it=>if it.k=99 then some it.n else firG f IT (i+1)
set_option maxHeartbeats 1600000 in
theorem first_c {r:Nat} {s:ByteArray} {st:RS} {O:Nat→Prop} (F i:Nat) (n:Int) (w:World) (h:Rp w r s st O) (hl:st.items.length≤1000) (hE:firG F st.items i=some n) :
  Calls Tryz.prog 137 #[.pointer (some ⟨r,0,none⟩),.int .i64 i] w fun e w'=>e=.returned (.int .i64 n)∧Kp no w w':=by
 have HE:=hide hE
 clear hE
 go_enter Tryz.func137,Tryz.ntmps137
 go_wp2
 go_loopg [1] F (fun k iv wr=>∃ j:Nat,iv=.int .i64 j∧firG k st.items j=some n∧Kp no w wr)
 case atStart=>exact ⟨i,rfl,HE.out,Kp.refl _ _⟩
 case round =>
  obtain ⟨j,rfl,hj,kr⟩:=hrel
  have HKR:=hide kr
  have hr:=h.kp kr (fun _ _=>no_elim)
  obtain ⟨c0,c1,c2,c5,cf⟩:=hr.c
  have hrl:=hr.lt r hr.own
  clear kr
  cases gk with
  | zero=>simp [firG] at hj
  | succ k =>
   rw [firG] at hj
   cases hit:st.items[j]? with
   | none=>rw [hit] at hj;simp at hj
   | some it =>
    rw [hit] at hj
    dsimp only at hj
    obtain ⟨g,cap,hjl,hog,q4,i0,i1,i2,i3⟩:=hr.itemAt hit
    have hgl:=hr.lt g hog
    have hjI:(j:Int)<st.items.length:=by omega
    obtain ⟨ik,inn,iel,ien⟩:=it
    dsimp only at hj i0 i1 i2 i3
    by_cases hk:ik=99
    ·rw [if_pos hk] at hj
     obtain rfl:inn=n:=by simpa using hj
     subst hk
     clear hj hit
     go_wp2
     go_ret
     exact ⟨rfl,HKR.out⟩
    ·rw [if_neg hk] at hj
     have hk':((ik:Int) != 99)=true:=by simp [hk]
     have HJ:=hide hj
     clear hj hit hk
     go_wp2
     go_roundg k
     case measure=>omega
     case rel=>exact ⟨j+1,by go_num,HJ.out,HKR.out⟩
def entO (IT:List It) (i e:Nat) (nx ou ag:Int):Option Int :=
 if e≤i then some nx else match IT[i]? with|none=>none|some it=>if it.k=115 then some it.n else if it.k=62 then some ou else if it.k=60 then some ag else firG (IT.length+1) IT (i+1)
set_option maxRecDepth 100000 in
set_option maxHeartbeats 1600000 in
theorem entry_c {r:Nat} {s:ByteArray} {st:RS} {O:Nat→Prop} (i e:Nat) (nx ou ag n:Int) (w:World) (h:Rp w r s st O) (hl:st.items.length≤1000) (hE:entO st.items i e nx ou ag=some n) :
  Calls Tryz.prog 97 #[.pointer (some ⟨r,0,none⟩),.int .i64 i,.int .i64 e,.agg #[.int .i64 nx,.int .i64 ou,.int .i64 ag]] w fun x w'=>x=.returned (.int .i64 n)∧Kp no w w':=by
 unfold entO at hE
 obtain ⟨c0,c1,c2,c5,cf⟩:=h.c
 have hrl:=h.lt r h.own
 by_cases hie:e≤i
 ·rw [if_pos hie] at hE
  obtain rfl:nx=n:=by simpa using hE
  have hie':(e:Int)≤i:=by omega
  clear hE hie
  go_enter Tryz.func97,Tryz.ntmps97
  go_wp2
  go_ret
  exact ⟨rfl,by (exact kpA)⟩
 ·rw [if_neg hie] at hE
  have hie':¬ (e:Int)≤i:=by omega
  cases hit:st.items[i]? with
  | none=>rw [hit] at hE;simp at hE
  | some it =>
   rw [hit] at hE
   dsimp only at hE
   obtain ⟨g,cap,hjl,hog,q4,i0,i1,i2,i3⟩:=h.itemAt hit
   have hgl:=h.lt g hog
   have hjI:(i:Int)<st.items.length:=by omega
   obtain ⟨ik,inn,iel,ien⟩:=it
   dsimp only at hE i0 i1 i2 i3
   clear hit hie
   by_cases h1:ik=115
   ·rw [if_pos h1] at hE
    obtain rfl:inn=n:=by simpa using hE
    subst h1
    clear hE
    go_enter Tryz.func97,Tryz.ntmps97
    go_wp2
    go_ret
    exact ⟨rfl,by (exact kpA)⟩
   rw [if_neg h1] at hE
   by_cases h2:ik=62
   ·rw [if_pos h2] at hE
    obtain rfl:ou=n:=by simpa using hE
    subst h2
    clear hE
    go_enter Tryz.func97,Tryz.ntmps97
    go_wp2
    go_ret
    exact ⟨rfl,by (exact kpA)⟩
   rw [if_neg h2] at hE
   by_cases h3:ik=60
   ·rw [if_pos h3] at hE
    obtain rfl:ag=n:=by simpa using hE
    subst h3
    clear hE
    go_enter Tryz.func97,Tryz.ntmps97
    go_wp2
    go_ret
    exact ⟨rfl,by (exact kpA)⟩
   ·rw [if_neg h3] at hE
    have k1:((ik:Int) == 115)=false:=by simp [h1]
    have k2:((ik:Int) == 62)=false:=by simp [h2]
    have k3:((ik:Int) == 60)=false:=by simp [h3]
    have HF:=hide (fun W (hW:Rp W r s st O)=>first_c (st.items.length+1) (i+1) n W hW hl hE)
    have hcast:((i+1:Nat):Int)=(i:Int)+1:=by omega
    rw [hcast] at HF
    have HH:=hide h
    clear hE h1 h2 h3 hcast
    go_enter Tryz.func97,Tryz.ntmps97
    go_wp2_with fail
    refine (HF.out _ (HH.out.alloc _)).mono ?_
    rintro x w1 ⟨rfl,k4⟩
    go_wp2
    go_ret
    exact ⟨rfl,by (exact kpA)⟩
def tieO:Nat→List It→Nat→Int→Int→List Nd→Option (List Nd)
 | 0,_,_,_,_,_=>none
 | f+1,IT,i,t,g,ND =>
  match IT[i]? with
  | none=>none
  | some it =>
   if it.k=99 then (if 0≤it.n∧it.n<ND.length then some (ND.modify it.n.toNat (fun x=>{ x with t:=t,f:=g })) else none)
   else if it.k=33 then tieO f IT (i+1) g t ND
   else match IT[i+1]? with
    | none=>none
    | some i1 =>
     if 0≤i1.en∧i1.en≤1000 then
      match firG (IT.length+1) IT i1.en.toNat with
      | none=>none
      | some n =>
       match (if it.k=38 then tieO f IT (i+1) n g ND else tieO f IT (i+1) t n ND) with
       | none=>none
       | some N1=>tieO f IT i1.en.toNat t g N1
     else none
theorem Rp.setNode {w:World} {r:Nat} {s:ByteArray} {st:RS} {O:Nat→Prop} (h:Rp w r s st O) {k:Nat} (hk:k<st.nodes.length) :
  ∃ g cap,O g∧w.cell? ⟨r,3,none⟩=some (.slice (some ⟨g,0,none⟩) st.nodes.length cap)∧(∀ j,j<9→w.cell? ⟨g,k*9+j,none⟩=st.nodes[k].cells[j]?)∧(∀ o,w.frozen? ⟨g,o,none⟩=false) ∧
   ∀ j u m,j<9→(∀ x:Nd,(m x).cells=x.cells.set j u)→Rp (w.setCell ⟨g,k*9+j,none⟩ u) r s { st with nodes:=st.nodes.modify k m } O:=by
 obtain ⟨nv,iv,hB,hN,hI,d1,d2,d3,rfl⟩:=h
 obtain ⟨g,cap,rfl,_,hg⟩:=World.ownsRow.form hN (by omega)
 have hgr:r≠g:=fun e=>d1 (by simp [Value.ownBlock,e])
 refine ⟨g,cap,.inr (.inl rfl),Blk.cell hB 3,fun j hj=>?_,hN.frozen,?_⟩
 ·rw [Row.cell hN _ (by have:=Nat.mul_le_mul_right 9 hk;omega)]
  exact flat_get Nd.cells 9 nd9 st.nodes k j hk hj
 intro j u m hj hm
 refine ⟨_,iv,Blk.other hB _ hgr,?_,Row.set hI _ (fun e=>d3 g rfl e),d1,d2,d3,rfl⟩
 show Row _ _ _ _ (st.nodes.modify k m).length (nCells (st.nodes.modify k m))
 rw [List.length_modify,nCells,← flat_set Nd.cells 9 nd9 m j u hj hm st.nodes k hk]
 exact hN.setIn _ _
end Go.Proofs.YtellieabhaphhabGreatDoor
namespace Go.Proofs.YtellieabhaphhabGreatDoor
open Go.RowKit
def TieSaid (f:Nat):Prop:=∀ (w:World) (r:Nat) (s:ByteArray) (st:RS) (O:Nat→Prop) (i:Nat) (t g:Int) (ND:List Nd),st.items.length≤1000→st.nodes.length≤1000→i≤1000→Rp w r s st O→tieO f st.items i t g st.nodes=some ND →
  Calls Tryz.prog 138 #[.pointer (some ⟨r,0,none⟩),.int .i64 i,.int .i64 t,.int .i64 g] w fun x w'=>x=.returned (.tuple #[])∧Went w O r s { st with nodes:=ND } w'
theorem tieO_len:∀ (f:Nat) (IT:List It) (i:Nat) (t g:Int) (ND N':List Nd),tieO f IT i t g ND=some N'→N'.length=ND.length
 | 0,_,_,_,_,_,_,h=>by simp [tieO] at h
 | f+1,IT,i,t,g,ND,N',h=>by
  rw [tieO] at h
  cases hit:IT[i]? with
  | none=>rw [hit] at h;simp at h
  | some it =>
   rw [hit] at h
   dsimp only at h
   split at h
   ·split at h
    ·simp only [Option.some.injEq] at h;rw [← h,List.length_modify]
    ·simp at h
   split at h
   ·exact tieO_len f IT _ _ _ ND N' h
   ·cases hi1:IT[i+1]? with
    | none=>rw [hi1] at h;simp at h
    | some i1 =>
     rw [hi1] at h
     dsimp only at h
     split at h
     ·split at h
      ·simp at h
      ·split at h
       ·simp at h
       ·rename_i n _ _ N1 hN1
        rw [tieO_len f IT _ _ _ N1 N' h]
        split at hN1
        ·exact tieO_len f IT _ _ _ ND N1 hN1
        ·exact tieO_len f IT _ _ _ ND N1 hN1
     ·simp at h
theorem modify_two (l:List Nd) (k:Nat) (t g:Int):(l.modify k (fun x=>{ x with t:=t })).modify k (fun x=>{ x with f:=g })=l.modify k (fun x=>{ x with t:=t,f:=g }):=by
 apply List.ext_getElem?
 intro i
 rw [List.getElem?_modify,List.getElem?_modify,List.getElem?_modify]
 by_cases h:k=i <;> simp [h]
 cases l[i]? <;> rfl
set_option maxRecDepth 100000 in
set_option maxHeartbeats 3200000 in
theorem tie_leaf {w:World} {r:Nat} {s:ByteArray} {st:RS} {O:Nat→Prop} {i k:Nat} {t g:Int} {iel ien:Int} (_:st.items.length≤1000) (h:Rp w r s st O) (hit:st.items[i]?=some ⟨99,k,iel,ien⟩) (hk:k<st.nodes.length) (_:st.nodes.length≤1000) :
  Calls Tryz.prog 138 #[.pointer (some ⟨r,0,none⟩),.int .i64 i,.int .i64 t,.int .i64 g] w fun x w'=>x=.returned (.tuple #[])∧Went w O r s { st with nodes:=st.nodes.modify k (fun x=>{ x with t:=t,f:=g }) } w':=by
 obtain ⟨gi,cap,hil,hog,q4,i0,i1,i2,i3⟩:=h.itemAt hit
 obtain ⟨c0,c1,c2,c5,cf⟩:=h.c
 have hrl:=h.lt r h.own
 have hgl:=h.lt gi hog
 have hiI:(i:Int)<st.items.length:=by omega
 have hkI:(k:Int)<st.nodes.length:=by omega
 dsimp only at i0 i1 i2 i3
 have hnO:¬ O w.heap.size:=fun e=>Nat.lt_irrefl _ (h.lt _ e)
 clear hit
 go_enter Tryz.func138,Tryz.ntmps138
 go_wp2
 refine wp_gen (fun W=>Rp W r s st O∧Blk W w.heap.size [.int .u8 99,.int .i64 k,.int .i64 iel,.int .i64 ien] 153∧Th O w O W) ⟨h.alloc _,by (exact blA),(Th.refl O w).alloc _⟩ ?_
 clear c0 c1 c2 c5 cf q4 i0 i1 i2 i3 hgl hrl hog hil
 rintro W ⟨hW,hB,hTh⟩
 obtain ⟨gn,cap3,hon,q3,nc,nf,hset⟩:=hW.setNode hk
 obtain ⟨c0,c1,c2,c5,cf⟩:=hW.c
 obtain ⟨b0,b1,b2,b3,bf⟩:=hB.c4
 have hrl:=hW.lt r hW.own
 have hnl:=hW.lt gn hon
 have hbl:=hB.lt
 have hgne:gn≠w.heap.size:=fun e=>hnO (e ▸ hon)
 have n5:W.cell? ⟨gn,k*9+5,none⟩=some (.int .i64 st.nodes[k].t):=nc 5 (by decide)
 have H1:=hide (hset 5 (.int .i64 t) (fun x=>{ x with t:=t }) (by decide) (fun x=>rfl))
 have HB2:=hide (show Blk (W.setCell ⟨gn,k*9+5,none⟩ (.int .i64 t)) w.heap.size [.int .u8 99,.int .i64 k,.int .i64 iel,.int .i64 ien] 153 from Blk.other hB _ (fun e=>hgne e.symm))
 have HT2:=hide (hTh.set (.int .i64 t) (a:=⟨gn,k*9+5,none⟩) (.inl hon))
 clear hset nc
 generalize st.nodes[k].t=ot at *
 go_region
 all_goals
  go_wp2
  refine wp_gen (fun W=>Rp W r s { st with nodes:=st.nodes.modify k (fun x=>{ x with t:=t }) } O∧Blk W w.heap.size [.int .u8 99,.int .i64 k,.int .i64 iel,.int .i64 ien] 153∧Th O w O W) ⟨H1.out.drew,HB2.out.drew,HT2.out.drew⟩ ?_
  clear c0 c1 c2 c5 cf b0 b1 b2 b3 bf q3 nf n5 hrl hnl hbl hgne hon H1 HB2 HT2 hTh hB hW
  rintro V ⟨hV,hBV,hThV⟩
  have hk2:k<(st.nodes.modify k (fun x=>{ x with t:=t })).length:=by rw [List.length_modify];exact hk
  obtain ⟨gn,cap3,hon,q3,nc,nf,hset⟩:=hV.setNode hk2
  obtain ⟨c0,c1,c2,c5,cf⟩:=hV.c
  obtain ⟨b0,b1,b2,b3,bf⟩:=hBV.c4
  have hrl:=hV.lt r hV.own
  have hnl:=hV.lt gn hon
  have hbl:=hBV.lt
  have hgne:gn≠w.heap.size:=fun e=>hnO (e ▸ hon)
  dsimp only at q3 nc hset
  have n6:V.cell? ⟨gn,k*9+6,none⟩=some (.int .i64 ((st.nodes.modify k (fun x=>{ x with t:=t }))[k]).f):=nc 6 (by decide)
  have H1:=hide (hset 6 (.int .i64 g) (fun x=>{ x with f:=g }) (by decide) (fun x=>rfl))
  have HT2:=hide (hThV.set (.int .i64 g) (a:=⟨gn,k*9+6,none⟩) (.inl hon))
  rw [modify_two] at H1
  rw [List.length_modify] at q3
  clear hset nc hV hBV hThV
  generalize ((st.nodes.modify k (fun x=>{ x with t:=t }))[k]).f=of at *
  clear hk2
  go_region
  all_goals
   go_wp2
   refine bodyPost_ret (results_none rfl _ _ _) rfl ?_
   exact ⟨rfl,O,H1.out.drew,HT2.out.drew⟩
set_option maxRecDepth 100000 in
set_option maxHeartbeats 3200000 in
theorem tie_not {w:World} {r:Nat} {s:ByteArray} {st:RS} {O:Nat→Prop} {i:Nat} {t g:Int} {inn iel ien:Int} {ND:List Nd} (h:Rp w r s st O) (hi:i≤1000) (hit:st.items[i]?=some ⟨33,inn,iel,ien⟩)
  (hT:∀ W,Rp W r s st O→Calls Tryz.prog 138 #[.pointer (some ⟨r,0,none⟩),.int .i64 (i+1:Nat),.int .i64 g,.int .i64 t] W fun x w'=>x=.returned (.tuple #[])∧Went W O r s { st with nodes:=ND } w') :
  Calls Tryz.prog 138 #[.pointer (some ⟨r,0,none⟩),.int .i64 i,.int .i64 t,.int .i64 g] w fun x w'=>x=.returned (.tuple #[])∧Went w O r s { st with nodes:=ND } w':=by
 obtain ⟨gi,cap,hil,hog,q4,i0,i1,i2,i3⟩:=h.itemAt hit
 obtain ⟨c0,c1,c2,c5,cf⟩:=h.c
 have hrl:=h.lt r h.own
 have hgl:=h.lt gi hog
 have hiI:(i:Int)<st.items.length:=by omega
 dsimp only at i0 i1 i2 i3
 have hcast:((i+1:Nat):Int)=(i:Int)+1:=by omega
 rw [hcast] at hT
 have HT:=hide hT
 clear hit hT hcast
 go_enter Tryz.func138,Tryz.ntmps138
 go_wp2_with fail
 refine (HT.out _ (h.alloc _)).mono ?_
 rintro x w1 ⟨rfl,O1,h1,t1⟩
 go_wp2
 refine bodyPost_ret (results_none rfl _ _ _) rfl ?_
 exact ⟨rfl,O1,h1,((Th.refl O w).alloc _).trans t1⟩
set_option maxRecDepth 100000 in
set_option maxHeartbeats 3200000 in
theorem tie_two {w:World} {r:Nat} {s:ByteArray} {st:RS} {O:Nat→Prop} {i q:Nat} {t g n:Int} {ik inn iel ien:Int} {i1:It} {N1 ND:List Nd} (h:Rp w r s st O) (hi:i≤1000) (_:q≤1000) (hit:st.items[i]?=some ⟨ik,inn,iel,ien⟩) (h99:ik≠99) (h33:ik≠33)
  (hit1:st.items[i+1]?=some i1) (hen:i1.en=q)
  (hF:∀ W,Rp W r s st O→Calls Tryz.prog 137 #[.pointer (some ⟨r,0,none⟩),.int .i64 q] W fun x w'=>x=.returned (.int .i64 n)∧Kp no W w')
  (hT:∀ W,Rp W r s st O→Calls Tryz.prog 138 #[.pointer (some ⟨r,0,none⟩),.int .i64 (i+1:Nat),.int .i64 (if ik=38 then n else t),.int .i64 (if ik=38 then g else n)] W fun x w'=>x=.returned (.tuple #[])∧Went W O r s { st with nodes:=N1 } w')
  (hU:∀ W O1,Rp W r s { st with nodes:=N1 } O1→Calls Tryz.prog 138 #[.pointer (some ⟨r,0,none⟩),.int .i64 q,.int .i64 t,.int .i64 g] W fun x w'=>x=.returned (.tuple #[])∧Went W O1 r s { st with nodes:=ND } w') :
  Calls Tryz.prog 138 #[.pointer (some ⟨r,0,none⟩),.int .i64 i,.int .i64 t,.int .i64 g] w fun x w'=>x=.returned (.tuple #[])∧Went w O r s { st with nodes:=ND } w':=by
 obtain ⟨gi,cap,hil,hog,q4,i0,j1,i2,i3⟩:=h.itemAt hit
 obtain ⟨gi',cap',hil1,_,q4',m0,m1,m2,m3⟩:=h.itemAt hit1
 rw [q4] at q4'
 simp only [Option.some.injEq,Value.slice.injEq,Addr.mk.injEq,and_true] at q4'
 obtain ⟨rfl,_,_⟩:=q4'
 obtain ⟨c0,c1,c2,c5,cf⟩:=h.c
 have hrl:=h.lt r h.own
 have hgl:=h.lt gi hog
 have hiI:(i:Int)<st.items.length:=by omega
 have hiI1:(i:Int)+1<st.items.length:=by omega
 rw [hen] at m3
 dsimp only at i0 j1 i2 i3
 have hcast:((i+1:Nat):Int)=(i:Int)+1:=by omega
 rw [hcast] at hT
 have e99:((ik:Int) == 99)=false:=by simp [h99]
 have e33:((ik:Int) == 33)=false:=by simp [h33]
 have HF:=hide hF
 have HU:=hide hU
 have hm3:w.cell? ⟨gi,(i+1)*4+3,none⟩=some (.int .i64 q):=m3
 clear hit hit1 hF hU hcast h99 h33 m0 m1 m2
 by_cases h38:ik=38
 ·subst h38
  rw [if_pos rfl,if_pos rfl] at hT
  have HT:=hide hT
  clear hT e99 e33
  go_enter Tryz.func138,Tryz.ntmps138
  go_wp2_with fail
  refine (HF.out _ (h.alloc _)).mono ?_
  rintro x w1 ⟨rfl,k1⟩
  have hB1:Blk w1 w.heap.size [.int .u8 38,.int .i64 inn,.int .i64 iel,.int .i64 ien] 153:=k1.blk (by (exact blA)) no_elim
  obtain ⟨b0,b1,b2,b3,bf⟩:=hB1.c4
  have hbl:=hB1.lt
  have h1:Rp w1 r s st O:=(h.alloc _).kp k1 (fun _ _=>no_elim)
  have HTh:=hide (show Th O w O w1 from ⟨(((Kp.refl no w).alloc _).trans k1 (fun _ _ e=>e)).mono (fun _ e=>e.elim),fun _ hb _=>hb⟩)
  clear c0 c1 c2 c5 cf q4 i0 j1 i2 i3 m3 hm3 k1
  go_wp2_with fail
  refine (HT.out _ h1).mono ?_
  rintro x w2 ⟨rfl,O2,h2,t2⟩
  go_wp2_with fail
  refine (HU.out _ _ h2).mono ?_
  rintro x w3 ⟨rfl,O3,h3,t3⟩
  go_wp2
  go_end0
  exact ⟨rfl,O3,h3,(HTh.out.trans t2).trans t3⟩
 ·rw [if_neg h38,if_neg h38] at hT
  have e38:((ik:Int) == 38)=false:=by simp [h38]
  have HT:=hide hT
  clear hT h38
  go_enter Tryz.func138,Tryz.ntmps138
  go_wp2_with fail
  refine (HF.out _ (h.alloc _)).mono ?_
  rintro x w1 ⟨rfl,k1⟩
  have hB1:Blk w1 w.heap.size [.int .u8 ik,.int .i64 inn,.int .i64 iel,.int .i64 ien] 153:=k1.blk (by (exact blA)) no_elim
  obtain ⟨b0,b1,b2,b3,bf⟩:=hB1.c4
  have hbl:=hB1.lt
  have h1:Rp w1 r s st O:=(h.alloc _).kp k1 (fun _ _=>no_elim)
  have HTh:=hide (show Th O w O w1 from ⟨(((Kp.refl no w).alloc _).trans k1 (fun _ _ e=>e)).mono (fun _ e=>e.elim),fun _ hb _=>hb⟩)
  clear c0 c1 c2 c5 cf q4 i0 j1 i2 i3 m3 hm3 k1
  go_wp2_with fail
  refine (HT.out _ h1).mono ?_
  rintro x w2 ⟨rfl,O2,h2,t2⟩
  go_wp2_with fail
  refine (HU.out _ _ h2).mono ?_
  rintro x w3 ⟨rfl,O3,h3,t3⟩
  go_wp2
  go_end0
  exact ⟨rfl,O3,h3,(HTh.out.trans t2).trans t3⟩
theorem tie_all:∀ f,TieSaid f
 | 0=>fun _ _ _ _ _ _ _ _ _ _ _ _ _ h=>by simp [tieO] at h
 | f+1=>fun w r s st O i t g ND hl hn hi h hE=>by
  have IH:=tie_all f
  rw [tieO] at hE
  cases hit:st.items[i]? with
  | none=>rw [hit] at hE;simp at hE
  | some it =>
   rw [hit] at hE
   have hil:=(List.getElem?_eq_some_iff.1 hit).1
   obtain ⟨ik,inn,iel,ien⟩:=it
   dsimp only at hE
   by_cases h99:ik=99
   ·rw [if_pos h99] at hE
    subst h99
    by_cases hc:0≤inn∧inn<st.nodes.length
    ·rw [if_pos hc] at hE
     obtain ⟨k,rfl⟩:=Int.eq_ofNat_of_zero_le hc.1
     rw [Int.toNat_natCast] at hE
     simp only [Option.some.injEq] at hE
     rw [← hE]
     exact tie_leaf hl h hit (by omega) hn
    ·rw [if_neg hc] at hE;simp at hE
   rw [if_neg h99] at hE
   by_cases h33:ik=33
   ·rw [if_pos h33] at hE
    subst h33
    exact tie_not h hi hit (fun W hW=>IH W r s st O (i+1) g t ND hl hn (by omega) hW hE)
   rw [if_neg h33] at hE
   cases hi1:st.items[i+1]? with
   | none=>rw [hi1] at hE;simp at hE
   | some i1 =>
    rw [hi1] at hE
    dsimp only at hE
    by_cases hc:0≤i1.en∧i1.en≤1000
    ·rw [if_pos hc] at hE
     obtain ⟨q,hq⟩:=Int.eq_ofNat_of_zero_le hc.1
     rw [hq,Int.toNat_natCast] at hE
     cases hf:firG (st.items.length+1) st.items q with
     | none=>rw [hf] at hE;simp at hE
     | some n =>
      rw [hf] at hE
      dsimp only at hE
      cases hN:(if ik=38 then tieO f st.items (i+1) n g st.nodes else tieO f st.items (i+1) t n st.nodes) with
      | none=>rw [hN] at hE;simp at hE
      | some N1 =>
       rw [hN] at hE
       dsimp only at hE
       have hlen:N1.length=st.nodes.length:=by
        split at hN
        ·exact tieO_len f _ _ _ _ _ _ hN
        ·exact tieO_len f _ _ _ _ _ _ hN
       have hN2:tieO f st.items (i+1) (if ik=38 then n else t) (if ik=38 then g else n) st.nodes=some N1:=by
        by_cases h38:ik=38
        ·rw [if_pos h38] at hN;rw [if_pos h38,if_pos h38];exact hN
        ·rw [if_neg h38] at hN;rw [if_neg h38,if_neg h38];exact hN
       exact tie_two (q:=q) (n:=n) (N1:=N1) h hi (by omega) hit h99 h33 hi1 hq (fun W hW=>first_c (st.items.length+1) q n W hW hl hf)
        (fun W hW=>IH W r s st O (i+1) _ _ N1 hl hn (by omega) hW hN2)
        (fun W O1 hW=>IH W r s { st with nodes:=N1 } O1 q t g ND hl (by show N1.length≤1000;omega) (by omega) hW hE)
    ·rw [if_neg hc] at hE;simp at hE
end Go.Proofs.YtellieabhaphhabGreatDoor
