import Derived.Test.YtellieabhaphhabGreatDoorPAllM
namespace Go.Proofs.YtellieabhaphhabGreatDoor
open Go.RowKit
def waZ (act:Int) (kd:Nat) (b:Bool):Nat:=if act=12 then (if b then 115 else 13) else (if b then kd else 127&&&(127 ^^^ kd))
theorem waZ_lt (act:Int) (kd:Nat) (b:Bool) (h:kd<128):waZ act kd b<128:=by
 unfold waZ
 repeat' split
 all_goals first|exact h|exact and_lt _ (by decide)|decide
set_option maxHeartbeats 1600000 in
theorem kindsAlong_c (n:NN) (kd:Nat) (b:Bool) (w:World) (hk:n.kd=(kd:Int)) (hk2:kd<128) (h:n.act=12∨n.act=13) :
  Calls Tryz.prog 118 #[.agg #[.string n.tx,.int .i64 n.act,.int .i64 n.x,.int .i64 n.y,.int .i64 n.w,.int .i64 n.ck,.int .i64 n.cn,.int .i64 n.ch,.int .i64 n.kd,.int .i64 n.yes,.int .i64 n.no],.bool b] w fun e w'=>e=.returned (.int .i64 (waZ n.act kd b:Nat))∧Kp no w w':=by
 have b1:bits .andNot .i64 127 (kd:Int)=((127&&&(127 ^^^ kd):Nat):Int):=bits_not_nat 127 kd (by decide) hk2
 obtain ⟨tx,act,nx,ny,nw,ck,cn,ch,kd',yes,no⟩:=n
 dsimp only at *
 subst hk
 rcases h with rfl|rfl <;> cases b
 all_goals
  unfold waZ
  simp only [if_true,Bool.false_eq_true,if_false,Int.reduceEq]
  generalize 127&&&(127 ^^^ kd)=nk at *
  go_enter Tryz.func118,Tryz.ntmps118
  go_wp2
  go_ret
  exact ⟨rfl,by (exact kpA)⟩
def keZ (S:St) (v m:Nat):St:=S.set v (S.getD v 0&&&m)
theorem Z6.ke {S:St} (h:Z6 S) (v m:Nat):Z6 (keZ S v m):=h.set v (and_lt m (h.get v))
structure AS (w:World) (H:Nat) (nc:List Value) (S:St):Prop where
 n:Blk w H nc 68
 r:ZB w (H+1+1) [0,0,0,0,0,0]
 s:ZB w (H+1+1+1) S
theorem AS.r' {w:World} {H:Nat} {nc:List Value} {S:St} (h:AS w H nc S):Blk w (H+1+1) [.int .i64 0,.int .i64 0,.int .i64 0,.int .i64 0,.int .i64 0,.int .i64 0] 75:=h.r
theorem AS.s' {w:World} {H:Nat} {nc:List Value} {t0 t1 t2 t3 t4 t5:Nat} (h:AS w H nc [t0,t1,t2,t3,t4,t5]) (_ _ _ _ _ _:Nat):Blk w (H+1+1+1) [.int .i64 t0,.int .i64 t1,.int .i64 t2,.int .i64 t3,.int .i64 t4,.int .i64 t5] 75:=h.s
theorem AS.kn {w w':World} {H:Nat} {nc:List Value} {S:St} (h:AS w H nc S) (k:Kp no w w'):AS w' H nc S:=⟨k.blk h.n no_elim,k.blk h.r no_elim,k.blk h.s no_elim⟩
theorem AS.ks {w w':World} {H:Nat} {nc:List Value} {S S':St} (h:AS w H nc S) (k:Kp (·=H+1+1+1) w w') (hz:ZB w' (H+1+1+1) S'):AS w' H nc S' :=
 ⟨k.blk h.n (by omega),k.blk h.r (by omega),hz⟩
def alZ (act:Int) (gi:Nat→Nat) (S:St) (x y:Nat):St:=if exS S && setF act then S.set x (gi (S.getD y 0)) else S
set_option maxRecDepth 100000 in
set_option maxHeartbeats 3200000 in
theorem stateAlong_o (tx:ByteArray) (act ck cn ch yes nwy:Int) (x y v kd:Nat) (s0 s1 s2 s3 s4 s5:Nat) (b:Bool) (w:World) (hs:Z6 [s0,s1,s2,s3,s4,s5]) (hx6:x<6) (hy6:y<6) (hv6:v<6)
  (h0:0≤act) (h14:act≤14) (hn:act≠10∧act≠11∧act≠12∧act≠13) (tk:Nat) (htk:tkM act=(tk:Int)) (htk2:tk<128) (gi:Nat→Nat) (hg:∀ u,u<128→giZ act ck u=((gi u:Nat):Int)) (hgl:∀ u,u<128→gi u<128) :
  Calls Tryz.prog 75 #[.agg #[.string tx,.int .i64 act,.int .i64 x,.int .i64 y,.int .i64 v,.int .i64 ck,.int .i64 cn,.int .i64 ch,.int .i64 kd,.int .i64 yes,.int .i64 nwy],zv6 s0 s1 s2 s3 s4 s5,.bool b] w fun e w'=>e=.returned (.agg (zc (alZ act gi (keZ (keZ [s0,s1,s2,s3,s4,s5] y tk) v tk) x y)).toArray)∧Kp no w w':=by
 have HT:=hide (fun W=>ntakenKinds_c act W)
 rw [htk] at HT
 have HSV:=hide (fun W=>setsVariable_c act W h0 h14)
 have HGV:=hide (fun u hu W=>kindsGiven_c ⟨tx,act,x,y,v,ck,cn,ch,kd,yes,nwy⟩ u W hu h0 h14)
 have HGV2:Hid (∀ u:Nat,u<128→∀ W,Calls Tryz.prog 120 #[.agg #[.string tx,.int .i64 act,.int .i64 x,.int .i64 y,.int .i64 v,.int .i64 ck,.int .i64 cn,.int .i64 ch,.int .i64 kd,.int .i64 yes,.int .i64 nwy],.int .i64 (u:Int)] W fun e w'=>e=.returned (.int .i64 (gi u:Nat))∧Kp no W w'):=fun u hu W=>by
  have:=HGV.out u hu W
  rw [show giZ (NN.mk tx act x y v ck cn ch kd yes nwy).act (NN.mk tx act x y v ck cn ch kd yes nwy).ck u=((gi u:Nat):Int) from hg u hu] at this
  exact this
 clear HGV
 have HGV:=HGV2
 clear HGV2 hg htk
 have g10:(act == 10)=false:=by simp;omega
 have g11:(act == 11)=false:=by simp;omega
 have g12:(act == 12)=false:=by simp;omega
 have g13:(act == 13)=false:=by simp;omega
 have HK1:=hide (fun W h=>keep_c (w.heap.size+1+1+1) [s0,s1,s2,s3,s4,s5] y tk W h hs hy6 htk2)
 have H61:=hide (hs.ke y tk)
 have HK2:=hide (fun W h=>keep_c (w.heap.size+1+1+1) (keZ [s0,s1,s2,s3,s4,s5] y tk) v tk W h H61.out hv6 htk2)
 have H62:=hide (H61.out.ke v tk)
 go_enter Tryz.func75,Tryz.ntmps75
 go_wp2_with (go_at_call 87;refine (HT.out _).mono ?_;rintro e w' ⟨rfl,rfl⟩)
 have hsb:Blk (((((w.alloc (.cells #[.string tx,.int .i64 act,.int .i64 x,.int .i64 y,.int .i64 v,.int .i64 ck,.int .i64 cn,.int .i64 ch,.int .i64 kd,.int .i64 yes,.int .i64 nwy] 68)).alloc (.cells #[.int .i64 s0,.int .i64 s1,.int .i64 s2,.int .i64 s3,.int .i64 s4,.int .i64 s5] 75)).alloc (.cells #[.int .i64 0,.int .i64 0,.int .i64 0,.int .i64 0,.int .i64 0,.int .i64 0] 75)).alloc (.cells #[.int .i64 s0,.int .i64 s1,.int .i64 s2,.int .i64 s3,.int .i64 s4,.int .i64 s5] 75))) (w.heap.size+1+1+1) [.int .i64 s0,.int .i64 s1,.int .i64 s2,.int .i64 s3,.int .i64 s4,.int .i64 s5] 75:=by (exact blA)
 have hrb:Blk (((((w.alloc (.cells #[.string tx,.int .i64 act,.int .i64 x,.int .i64 y,.int .i64 v,.int .i64 ck,.int .i64 cn,.int .i64 ch,.int .i64 kd,.int .i64 yes,.int .i64 nwy] 68)).alloc (.cells #[.int .i64 s0,.int .i64 s1,.int .i64 s2,.int .i64 s3,.int .i64 s4,.int .i64 s5] 75)).alloc (.cells #[.int .i64 0,.int .i64 0,.int .i64 0,.int .i64 0,.int .i64 0,.int .i64 0] 75)).alloc (.cells #[.int .i64 s0,.int .i64 s1,.int .i64 s2,.int .i64 s3,.int .i64 s4,.int .i64 s5] 75))) (w.heap.size+1+1) [.int .i64 0,.int .i64 0,.int .i64 0,.int .i64 0,.int .i64 0,.int .i64 0] 75:=by (exact blA)
 have hnb:Blk (((((w.alloc (.cells #[.string tx,.int .i64 act,.int .i64 x,.int .i64 y,.int .i64 v,.int .i64 ck,.int .i64 cn,.int .i64 ch,.int .i64 kd,.int .i64 yes,.int .i64 nwy] 68)).alloc (.cells #[.int .i64 s0,.int .i64 s1,.int .i64 s2,.int .i64 s3,.int .i64 s4,.int .i64 s5] 75)).alloc (.cells #[.int .i64 0,.int .i64 0,.int .i64 0,.int .i64 0,.int .i64 0,.int .i64 0] 75)).alloc (.cells #[.int .i64 s0,.int .i64 s1,.int .i64 s2,.int .i64 s3,.int .i64 s4,.int .i64 s5] 75))) w.heap.size [.string tx,.int .i64 act,.int .i64 x,.int .i64 y,.int .i64 v,.int .i64 ck,.int .i64 cn,.int .i64 ch,.int .i64 kd,.int .i64 yes,.int .i64 nwy] 68:=by (exact blA)
 have hkk:Kp no w (((((w.alloc (.cells #[.string tx,.int .i64 act,.int .i64 x,.int .i64 y,.int .i64 v,.int .i64 ck,.int .i64 cn,.int .i64 ch,.int .i64 kd,.int .i64 yes,.int .i64 nwy] 68)).alloc (.cells #[.int .i64 s0,.int .i64 s1,.int .i64 s2,.int .i64 s3,.int .i64 s4,.int .i64 s5] 75)).alloc (.cells #[.int .i64 0,.int .i64 0,.int .i64 0,.int .i64 0,.int .i64 0,.int .i64 0] 75)).alloc (.cells #[.int .i64 s0,.int .i64 s1,.int .i64 s2,.int .i64 s3,.int .i64 s4,.int .i64 s5] 75))):=by (exact kpA)
 have HA0:=hide (AS.mk hnb hrb hsb:AS _ _ _ [s0,s1,s2,s3,s4,s5])
 have HKK0:=hide hkk
 clear hnb hrb hsb hkk
 refine (HK1.out _ HA0.out.s).mono ?_
 rintro e w1 ⟨rfl,hz1,k1⟩
 have HA1:=hide (HA0.out.ks k1 hz1)
 have HKK1:=hide (HKK0.out.trans k1 (fun z hz e=>by omega))
 clear hz1 k1 HA0 HKK0
 obtain ⟨n0,n1,n2,n3,n4,n5,n6,n7,n8,n9,n10,nf⟩:=HA1.out.n.c11;have hnl:=HA1.out.n.lt
 go_wp2_with fail
 refine (HK2.out _ HA1.out.s).mono ?_
 rintro e w2 ⟨rfl,hz2,k2⟩
 have HA2:=hide (HA1.out.ks k2 hz2)
 have HKK2:=hide (HKK1.out.trans k2 (fun z hz e=>by omega))
 clear hz2 k2 HA1 HKK1
 clear n0 n1 n2 n3 n4 n5 n6 n7 n8 n9 n10 nf hnl
 obtain ⟨n0,n1,n2,n3,n4,n5,n6,n7,n8,n9,n10,nf⟩:=HA2.out.n.c11;have hnl:=HA2.out.n.lt
 change Hid (AS _ _ _ (keZ (keZ [s0,s1,s2,s3,s4,s5] y tk) v tk)) at HA2
 generalize hSE:keZ (keZ [s0,s1,s2,s3,s4,s5] y tk) v tk=S3 at *
 have HSE:=hide hSE
 clear hSE
 have HA3:=HA2
 have HKK:=HKK2
 have H63:=H62
 obtain ⟨t0,t1,t2,t3,t4,t5,hS⟩:=zb_six HA3.out.s H63.out
 rw [hS] at HA3 H63 HSE
 clear hS
 have HXX:=hide (fun b W h=>exists_c b [t0,t1,t2,t3,t4,t5] W h H63.out)
 go_wp2_with fail
 refine (HXX.out _ _ HA3.out.s).mono ?_
 rintro e w' ⟨rfl,rfl⟩
 cases hE:exS [t0,t1,t2,t3,t4,t5]
 ·have HR:=hide (show alZ act gi [t0,t1,t2,t3,t4,t5] x y=[t0,t1,t2,t3,t4,t5] by rw [alZ,hE];rfl)
  clear hE
  obtain ⟨n0,n1,n2,n3,n4,n5,n6,n7,n8,n9,n10,nf⟩:=HA3.out.n.c11;have hnl:=HA3.out.n.lt;obtain ⟨c0,c1,c2,c3,c4,c5,cf,cl⟩:=Blk.c6 (HA3.out.s' t0 t1 t2 t3 t4 t5);obtain ⟨d0,d1,d2,d3,d4,d5,df,dl⟩:=HA3.out.r'.c6
  go_wp2
  have hb:=HA3.out.r'
  have kk:=HKK.out
  refine body_agg (Tb:=75) (b:=w.heap.size+1+1) (cs:=[.int .i64 t0,.int .i64 t1,.int .i64 t2,.int .i64 t3,.int .i64 t4,.int .i64 t5]) (.inr rfl) Tryz.results75 rfl rfl (by (exact blA)) Tryz.underlying75 rfl (by kernel_rfl) ?_
  rw [HSE.out,HR.out]
  exact ⟨rfl,by (exact kpA)⟩
 ·obtain ⟨n0,n1,n2,n3,n4,n5,n6,n7,n8,n9,n10,nf⟩:=HA3.out.n.c11;have hnl:=HA3.out.n.lt;obtain ⟨c0,c1,c2,c3,c4,c5,cf,cl⟩:=Blk.c6 (HA3.out.s' t0 t1 t2 t3 t4 t5);obtain ⟨d0,d1,d2,d3,d4,d5,df,dl⟩:=HA3.out.r'.c6
  go_wp2_with fail
  refine (HSV.out _).mono ?_
  rintro e w' ⟨rfl,rfl⟩
  cases hF:setF act
  ·have HR:=hide (show alZ act gi [t0,t1,t2,t3,t4,t5] x y=[t0,t1,t2,t3,t4,t5] by rw [alZ,hF,Bool.and_false];rfl)
   clear hE hF
   go_wp2
   have hb:=HA3.out.r'
   have kk:=HKK.out
   refine body_agg (Tb:=75) (b:=w.heap.size+1+1) (cs:=[.int .i64 t0,.int .i64 t1,.int .i64 t2,.int .i64 t3,.int .i64 t4,.int .i64 t5]) (.inr rfl) Tryz.results75 rfl rfl (by (exact blA)) Tryz.underlying75 rfl (by kernel_rfl) ?_
   rw [HSE.out,HR.out]
   exact ⟨rfl,by (exact kpA)⟩
  ·have HR:=hide (show alZ act gi [t0,t1,t2,t3,t4,t5] x y=List.set [t0,t1,t2,t3,t4,t5] x (gi (List.getD [t0,t1,t2,t3,t4,t5] y 0)) by rw [alZ,hE,hF];rfl)
   have HKO:=hide (fun W h=>kindsOf_c (w.heap.size+1+1+1) [t0,t1,t2,t3,t4,t5] y W h H63.out hy6)
   have HGU:=hide (H63.out.get y)
   have H64:=hide (H63.out.set x (hgl _ (H63.out.get y)))
   have HZS:=hide (fun W h=>zset_c (w.heap.size+1+1+1) [t0,t1,t2,t3,t4,t5] x (gi (List.getD [t0,t1,t2,t3,t4,t5] y 0)) W h H63.out hx6)
   clear hE hF
   generalize hgy:List.getD [t0,t1,t2,t3,t4,t5] y 0=uy at *
   clear hgy
   clear n0 n1 n2 n3 n4 n5 n6 n7 n8 n9 n10 nf hnl c0 c1 c2 c3 c4 c5 cf cl d0 d1 d2 d3 d4 d5 df dl
   obtain ⟨n0,n1,n2,n3,n4,n5,n6,n7,n8,n9,n10,nf⟩:=HA3.out.n.c11;have hnl:=HA3.out.n.lt;obtain ⟨c0,c1,c2,c3,c4,c5,cf,cl⟩:=Blk.c6 (HA3.out.s' t0 t1 t2 t3 t4 t5);obtain ⟨d0,d1,d2,d3,d4,d5,df,dl⟩:=HA3.out.r'.c6
   go_wp2_with fail
   refine (HKO.out _ HA3.out.s).mono ?_
   rintro e w' ⟨rfl,rfl⟩
   go_wp2_with fail
   refine (HGV.out uy HGU.out _).mono ?_
   rintro e w7 ⟨rfl,k7⟩
   have HA4:=hide (HA3.out.kn k7)
   have HK4:=hide (HKK.out.trans k7 (fun _ _ e=>e))
   clear k7
   clear n0 n1 n2 n3 n4 n5 n6 n7 n8 n9 n10 nf hnl c0 c1 c2 c3 c4 c5 cf cl d0 d1 d2 d3 d4 d5 df dl
   obtain ⟨n0,n1,n2,n3,n4,n5,n6,n7,n8,n9,n10,nf⟩:=HA4.out.n.c11;have hnl:=HA4.out.n.lt;obtain ⟨c0,c1,c2,c3,c4,c5,cf,cl⟩:=Blk.c6 (HA4.out.s' t0 t1 t2 t3 t4 t5);obtain ⟨d0,d1,d2,d3,d4,d5,df,dl⟩:=HA4.out.r'.c6
   go_wp2_with fail
   refine (HZS.out _ HA4.out.s).mono ?_
   rintro e w8 ⟨rfl,hz8,k8⟩
   have HA5:=hide (HA4.out.ks k8 hz8)
   have HK5:=hide (HK4.out.trans k8 (fun z hz e=>by omega))
   clear hz8 k8
   clear n0 n1 n2 n3 n4 n5 n6 n7 n8 n9 n10 nf hnl c0 c1 c2 c3 c4 c5 cf cl d0 d1 d2 d3 d4 d5 df dl
   obtain ⟨r0,r1,r2,r3,r4,r5,hS⟩:=zb_six HA5.out.s H64.out
   rw [hS] at HA5 H64 HR
   clear hS
   obtain ⟨n0,n1,n2,n3,n4,n5,n6,n7,n8,n9,n10,nf⟩:=HA5.out.n.c11;have hnl:=HA5.out.n.lt;obtain ⟨c0,c1,c2,c3,c4,c5,cf,cl⟩:=Blk.c6 (HA5.out.s' r0 r1 r2 r3 r4 r5);obtain ⟨d0,d1,d2,d3,d4,d5,df,dl⟩:=HA5.out.r'.c6
   go_wp2
   have hb:=HA5.out.r'
   have kk:=HK5.out
   refine body_agg (Tb:=75) (b:=w.heap.size+1+1) (cs:=[.int .i64 r0,.int .i64 r1,.int .i64 r2,.int .i64 r3,.int .i64 r4,.int .i64 r5]) (.inr rfl) Tryz.results75 rfl rfl (by (exact blA)) Tryz.underlying75 rfl (by kernel_rfl) ?_
   rw [HSE.out,HR.out]
   exact ⟨rfl,by (exact kpA)⟩
set_option maxRecDepth 100000 in
set_option maxHeartbeats 3200000 in
theorem stateAlong_k (tx:ByteArray) (act ck cn ch yes nwy:Int) (x y v kd:Nat) (s0 s1 s2 s3 s4 s5:Nat) (b:Bool) (w:World) (hs:Z6 [s0,s1,s2,s3,s4,s5]) (hk2:kd<128) (hx6:x<6) (hy6:y<6) (hv6:v<6)
  (h0:0≤act) (h14:act≤14) (hn:act=10) (tk:Nat) (htk:tkM act=(tk:Int)) (htk2:tk<128) (gi:Nat→Nat) (hg:∀ u,u<128→giZ act ck u=((gi u:Nat):Int)) (hgl:∀ u,u<128→gi u<128) :
  Calls Tryz.prog 75 #[.agg #[.string tx,.int .i64 act,.int .i64 x,.int .i64 y,.int .i64 v,.int .i64 ck,.int .i64 cn,.int .i64 ch,.int .i64 kd,.int .i64 yes,.int .i64 nwy],zv6 s0 s1 s2 s3 s4 s5,.bool b] w fun e w'=>e=.returned (.agg (zc (alZ act gi (keZ (keZ (keZ [s0,s1,s2,s3,s4,s5] y tk) v tk) x kd) x y)).toArray)∧Kp no w w':=by
 have HT:=hide (fun W=>ntakenKinds_c act W)
 rw [htk] at HT
 have HSV:=hide (fun W=>setsVariable_c act W h0 h14)
 have HGV:=hide (fun u hu W=>kindsGiven_c ⟨tx,act,x,y,v,ck,cn,ch,kd,yes,nwy⟩ u W hu h0 h14)
 have HGV2:Hid (∀ u:Nat,u<128→∀ W,Calls Tryz.prog 120 #[.agg #[.string tx,.int .i64 act,.int .i64 x,.int .i64 y,.int .i64 v,.int .i64 ck,.int .i64 cn,.int .i64 ch,.int .i64 kd,.int .i64 yes,.int .i64 nwy],.int .i64 (u:Int)] W fun e w'=>e=.returned (.int .i64 (gi u:Nat))∧Kp no W w'):=fun u hu W=>by
  have:=HGV.out u hu W
  rw [show giZ (NN.mk tx act x y v ck cn ch kd yes nwy).act (NN.mk tx act x y v ck cn ch kd yes nwy).ck u=((gi u:Nat):Int) from hg u hu] at this
  exact this
 clear HGV
 have HGV:=HGV2
 clear HGV2 hg htk
 have g10:(act == 10)=true:=by simp [hn]
 have g11:(act == 11)=false:=by simp [hn]
 clear hn
 have HK1:=hide (fun W h=>keep_c (w.heap.size+1+1+1) [s0,s1,s2,s3,s4,s5] y tk W h hs hy6 htk2)
 have H61:=hide (hs.ke y tk)
 have HK2:=hide (fun W h=>keep_c (w.heap.size+1+1+1) (keZ [s0,s1,s2,s3,s4,s5] y tk) v tk W h H61.out hv6 htk2)
 have H62:=hide (H61.out.ke v tk)
 have HK3:=hide (fun W h=>keep_c (w.heap.size+1+1+1) (keZ (keZ [s0,s1,s2,s3,s4,s5] y tk) v tk) x kd W h H62.out hx6 hk2)
 have H63:=hide (H62.out.ke x kd)
 go_enter Tryz.func75,Tryz.ntmps75
 go_wp2_with (go_at_call 87;refine (HT.out _).mono ?_;rintro e w' ⟨rfl,rfl⟩)
 have hsb:Blk (((((w.alloc (.cells #[.string tx,.int .i64 act,.int .i64 x,.int .i64 y,.int .i64 v,.int .i64 ck,.int .i64 cn,.int .i64 ch,.int .i64 kd,.int .i64 yes,.int .i64 nwy] 68)).alloc (.cells #[.int .i64 s0,.int .i64 s1,.int .i64 s2,.int .i64 s3,.int .i64 s4,.int .i64 s5] 75)).alloc (.cells #[.int .i64 0,.int .i64 0,.int .i64 0,.int .i64 0,.int .i64 0,.int .i64 0] 75)).alloc (.cells #[.int .i64 s0,.int .i64 s1,.int .i64 s2,.int .i64 s3,.int .i64 s4,.int .i64 s5] 75))) (w.heap.size+1+1+1) [.int .i64 s0,.int .i64 s1,.int .i64 s2,.int .i64 s3,.int .i64 s4,.int .i64 s5] 75:=by (exact blA)
 have hrb:Blk (((((w.alloc (.cells #[.string tx,.int .i64 act,.int .i64 x,.int .i64 y,.int .i64 v,.int .i64 ck,.int .i64 cn,.int .i64 ch,.int .i64 kd,.int .i64 yes,.int .i64 nwy] 68)).alloc (.cells #[.int .i64 s0,.int .i64 s1,.int .i64 s2,.int .i64 s3,.int .i64 s4,.int .i64 s5] 75)).alloc (.cells #[.int .i64 0,.int .i64 0,.int .i64 0,.int .i64 0,.int .i64 0,.int .i64 0] 75)).alloc (.cells #[.int .i64 s0,.int .i64 s1,.int .i64 s2,.int .i64 s3,.int .i64 s4,.int .i64 s5] 75))) (w.heap.size+1+1) [.int .i64 0,.int .i64 0,.int .i64 0,.int .i64 0,.int .i64 0,.int .i64 0] 75:=by (exact blA)
 have hnb:Blk (((((w.alloc (.cells #[.string tx,.int .i64 act,.int .i64 x,.int .i64 y,.int .i64 v,.int .i64 ck,.int .i64 cn,.int .i64 ch,.int .i64 kd,.int .i64 yes,.int .i64 nwy] 68)).alloc (.cells #[.int .i64 s0,.int .i64 s1,.int .i64 s2,.int .i64 s3,.int .i64 s4,.int .i64 s5] 75)).alloc (.cells #[.int .i64 0,.int .i64 0,.int .i64 0,.int .i64 0,.int .i64 0,.int .i64 0] 75)).alloc (.cells #[.int .i64 s0,.int .i64 s1,.int .i64 s2,.int .i64 s3,.int .i64 s4,.int .i64 s5] 75))) w.heap.size [.string tx,.int .i64 act,.int .i64 x,.int .i64 y,.int .i64 v,.int .i64 ck,.int .i64 cn,.int .i64 ch,.int .i64 kd,.int .i64 yes,.int .i64 nwy] 68:=by (exact blA)
 have hkk:Kp no w (((((w.alloc (.cells #[.string tx,.int .i64 act,.int .i64 x,.int .i64 y,.int .i64 v,.int .i64 ck,.int .i64 cn,.int .i64 ch,.int .i64 kd,.int .i64 yes,.int .i64 nwy] 68)).alloc (.cells #[.int .i64 s0,.int .i64 s1,.int .i64 s2,.int .i64 s3,.int .i64 s4,.int .i64 s5] 75)).alloc (.cells #[.int .i64 0,.int .i64 0,.int .i64 0,.int .i64 0,.int .i64 0,.int .i64 0] 75)).alloc (.cells #[.int .i64 s0,.int .i64 s1,.int .i64 s2,.int .i64 s3,.int .i64 s4,.int .i64 s5] 75))):=by (exact kpA)
 have HA0:=hide (AS.mk hnb hrb hsb:AS _ _ _ [s0,s1,s2,s3,s4,s5])
 have HKK0:=hide hkk
 clear hnb hrb hsb hkk
 refine (HK1.out _ HA0.out.s).mono ?_
 rintro e w1 ⟨rfl,hz1,k1⟩
 have HA1:=hide (HA0.out.ks k1 hz1)
 have HKK1:=hide (HKK0.out.trans k1 (fun z hz e=>by omega))
 clear hz1 k1 HA0 HKK0
 obtain ⟨n0,n1,n2,n3,n4,n5,n6,n7,n8,n9,n10,nf⟩:=HA1.out.n.c11;have hnl:=HA1.out.n.lt
 go_wp2_with fail
 refine (HK2.out _ HA1.out.s).mono ?_
 rintro e w2 ⟨rfl,hz2,k2⟩
 have HA2:=hide (HA1.out.ks k2 hz2)
 have HKK2:=hide (HKK1.out.trans k2 (fun z hz e=>by omega))
 clear hz2 k2 HA1 HKK1
 clear n0 n1 n2 n3 n4 n5 n6 n7 n8 n9 n10 nf hnl
 obtain ⟨n0,n1,n2,n3,n4,n5,n6,n7,n8,n9,n10,nf⟩:=HA2.out.n.c11;have hnl:=HA2.out.n.lt
 change Hid (AS _ _ _ (keZ (keZ [s0,s1,s2,s3,s4,s5] y tk) v tk)) at HA2
 go_wp2_with fail
 refine (HK3.out _ HA2.out.s).mono ?_
 rintro e w3 ⟨rfl,hz3,k3⟩
 have HA3:=hide (HA2.out.ks k3 hz3)
 have HKK:=hide (HKK2.out.trans k3 (fun z hz e=>by omega))
 clear hz3 k3 HA2 HKK2
 clear n0 n1 n2 n3 n4 n5 n6 n7 n8 n9 n10 nf hnl
 change Hid (AS _ _ _ (keZ (keZ (keZ [s0,s1,s2,s3,s4,s5] y tk) v tk) x kd)) at HA3
 generalize hSE:keZ (keZ (keZ [s0,s1,s2,s3,s4,s5] y tk) v tk) x kd=S3 at *
 have HSE:=hide hSE
 clear hSE
 obtain ⟨t0,t1,t2,t3,t4,t5,hS⟩:=zb_six HA3.out.s H63.out
 rw [hS] at HA3 H63 HSE
 clear hS
 have HXX:=hide (fun b W h=>exists_c b [t0,t1,t2,t3,t4,t5] W h H63.out)
 go_wp2_with fail
 refine (HXX.out _ _ HA3.out.s).mono ?_
 rintro e w' ⟨rfl,rfl⟩
 cases hE:exS [t0,t1,t2,t3,t4,t5]
 ·have HR:=hide (show alZ act gi [t0,t1,t2,t3,t4,t5] x y=[t0,t1,t2,t3,t4,t5] by rw [alZ,hE];rfl)
  clear hE
  obtain ⟨n0,n1,n2,n3,n4,n5,n6,n7,n8,n9,n10,nf⟩:=HA3.out.n.c11;have hnl:=HA3.out.n.lt;obtain ⟨c0,c1,c2,c3,c4,c5,cf,cl⟩:=Blk.c6 (HA3.out.s' t0 t1 t2 t3 t4 t5);obtain ⟨d0,d1,d2,d3,d4,d5,df,dl⟩:=HA3.out.r'.c6
  go_wp2
  have hb:=HA3.out.r'
  have kk:=HKK.out
  refine body_agg (Tb:=75) (b:=w.heap.size+1+1) (cs:=[.int .i64 t0,.int .i64 t1,.int .i64 t2,.int .i64 t3,.int .i64 t4,.int .i64 t5]) (.inr rfl) Tryz.results75 rfl rfl (by (exact blA)) Tryz.underlying75 rfl (by kernel_rfl) ?_
  rw [HSE.out,HR.out]
  exact ⟨rfl,by (exact kpA)⟩
 ·obtain ⟨n0,n1,n2,n3,n4,n5,n6,n7,n8,n9,n10,nf⟩:=HA3.out.n.c11;have hnl:=HA3.out.n.lt;obtain ⟨c0,c1,c2,c3,c4,c5,cf,cl⟩:=Blk.c6 (HA3.out.s' t0 t1 t2 t3 t4 t5);obtain ⟨d0,d1,d2,d3,d4,d5,df,dl⟩:=HA3.out.r'.c6
  go_wp2_with fail
  refine (HSV.out _).mono ?_
  rintro e w' ⟨rfl,rfl⟩
  cases hF:setF act
  ·have HR:=hide (show alZ act gi [t0,t1,t2,t3,t4,t5] x y=[t0,t1,t2,t3,t4,t5] by rw [alZ,hF,Bool.and_false];rfl)
   clear hE hF
   go_wp2
   have hb:=HA3.out.r'
   have kk:=HKK.out
   refine body_agg (Tb:=75) (b:=w.heap.size+1+1) (cs:=[.int .i64 t0,.int .i64 t1,.int .i64 t2,.int .i64 t3,.int .i64 t4,.int .i64 t5]) (.inr rfl) Tryz.results75 rfl rfl (by (exact blA)) Tryz.underlying75 rfl (by kernel_rfl) ?_
   rw [HSE.out,HR.out]
   exact ⟨rfl,by (exact kpA)⟩
  ·have HR:=hide (show alZ act gi [t0,t1,t2,t3,t4,t5] x y=List.set [t0,t1,t2,t3,t4,t5] x (gi (List.getD [t0,t1,t2,t3,t4,t5] y 0)) by rw [alZ,hE,hF];rfl)
   have HKO:=hide (fun W h=>kindsOf_c (w.heap.size+1+1+1) [t0,t1,t2,t3,t4,t5] y W h H63.out hy6)
   have HGU:=hide (H63.out.get y)
   have H64:=hide (H63.out.set x (hgl _ (H63.out.get y)))
   have HZS:=hide (fun W h=>zset_c (w.heap.size+1+1+1) [t0,t1,t2,t3,t4,t5] x (gi (List.getD [t0,t1,t2,t3,t4,t5] y 0)) W h H63.out hx6)
   clear hE hF
   generalize hgy:List.getD [t0,t1,t2,t3,t4,t5] y 0=uy at *
   clear hgy
   clear n0 n1 n2 n3 n4 n5 n6 n7 n8 n9 n10 nf hnl c0 c1 c2 c3 c4 c5 cf cl d0 d1 d2 d3 d4 d5 df dl
   obtain ⟨n0,n1,n2,n3,n4,n5,n6,n7,n8,n9,n10,nf⟩:=HA3.out.n.c11;have hnl:=HA3.out.n.lt;obtain ⟨c0,c1,c2,c3,c4,c5,cf,cl⟩:=Blk.c6 (HA3.out.s' t0 t1 t2 t3 t4 t5);obtain ⟨d0,d1,d2,d3,d4,d5,df,dl⟩:=HA3.out.r'.c6
   go_wp2_with fail
   refine (HKO.out _ HA3.out.s).mono ?_
   rintro e w' ⟨rfl,rfl⟩
   go_wp2_with fail
   refine (HGV.out uy HGU.out _).mono ?_
   rintro e w7 ⟨rfl,k7⟩
   have HA4:=hide (HA3.out.kn k7)
   have HK4:=hide (HKK.out.trans k7 (fun _ _ e=>e))
   clear k7
   clear n0 n1 n2 n3 n4 n5 n6 n7 n8 n9 n10 nf hnl c0 c1 c2 c3 c4 c5 cf cl d0 d1 d2 d3 d4 d5 df dl
   obtain ⟨n0,n1,n2,n3,n4,n5,n6,n7,n8,n9,n10,nf⟩:=HA4.out.n.c11;have hnl:=HA4.out.n.lt;obtain ⟨c0,c1,c2,c3,c4,c5,cf,cl⟩:=Blk.c6 (HA4.out.s' t0 t1 t2 t3 t4 t5);obtain ⟨d0,d1,d2,d3,d4,d5,df,dl⟩:=HA4.out.r'.c6
   go_wp2_with fail
   refine (HZS.out _ HA4.out.s).mono ?_
   rintro e w8 ⟨rfl,hz8,k8⟩
   have HA5:=hide (HA4.out.ks k8 hz8)
   have HK5:=hide (HK4.out.trans k8 (fun z hz e=>by omega))
   clear hz8 k8
   clear n0 n1 n2 n3 n4 n5 n6 n7 n8 n9 n10 nf hnl c0 c1 c2 c3 c4 c5 cf cl d0 d1 d2 d3 d4 d5 df dl
   obtain ⟨r0,r1,r2,r3,r4,r5,hS⟩:=zb_six HA5.out.s H64.out
   rw [hS] at HA5 H64 HR
   clear hS
   obtain ⟨n0,n1,n2,n3,n4,n5,n6,n7,n8,n9,n10,nf⟩:=HA5.out.n.c11;have hnl:=HA5.out.n.lt;obtain ⟨c0,c1,c2,c3,c4,c5,cf,cl⟩:=Blk.c6 (HA5.out.s' r0 r1 r2 r3 r4 r5);obtain ⟨d0,d1,d2,d3,d4,d5,df,dl⟩:=HA5.out.r'.c6
   go_wp2
   have hb:=HA5.out.r'
   have kk:=HK5.out
   refine body_agg (Tb:=75) (b:=w.heap.size+1+1) (cs:=[.int .i64 r0,.int .i64 r1,.int .i64 r2,.int .i64 r3,.int .i64 r4,.int .i64 r5]) (.inr rfl) Tryz.results75 rfl rfl (by (exact blA)) Tryz.underlying75 rfl (by kernel_rfl) ?_
   rw [HSE.out,HR.out]
   exact ⟨rfl,by (exact kpA)⟩
set_option maxRecDepth 100000 in
set_option maxHeartbeats 3200000 in
theorem stateAlong_t (tx:ByteArray) (act ck cn ch yes nwy:Int) (x y v kd:Nat) (s0 s1 s2 s3 s4 s5:Nat) (b:Bool) (w:World) (hs:Z6 [s0,s1,s2,s3,s4,s5]) (hk2:kd<128) (hx6:x<6) (hy6:y<6) (hv6:v<6)
  (h0:0≤act) (h14:act≤14) (hn:act=12∨act=13) (tk:Nat) (htk:tkM act=(tk:Int)) (htk2:tk<128) (gi:Nat→Nat) (hg:∀ u,u<128→giZ act ck u=((gi u:Nat):Int)) (hgl:∀ u,u<128→gi u<128) :
  Calls Tryz.prog 75 #[.agg #[.string tx,.int .i64 act,.int .i64 x,.int .i64 y,.int .i64 v,.int .i64 ck,.int .i64 cn,.int .i64 ch,.int .i64 kd,.int .i64 yes,.int .i64 nwy],zv6 s0 s1 s2 s3 s4 s5,.bool b] w fun e w'=>e=.returned (.agg (zc (alZ act gi (keZ (keZ (keZ [s0,s1,s2,s3,s4,s5] y tk) v tk) y (waZ act kd b)) x y)).toArray)∧Kp no w w':=by
 have HT:=hide (fun W=>ntakenKinds_c act W)
 rw [htk] at HT
 have HSV:=hide (fun W=>setsVariable_c act W h0 h14)
 have HGV:=hide (fun u hu W=>kindsGiven_c ⟨tx,act,x,y,v,ck,cn,ch,kd,yes,nwy⟩ u W hu h0 h14)
 have HGV2:Hid (∀ u:Nat,u<128→∀ W,Calls Tryz.prog 120 #[.agg #[.string tx,.int .i64 act,.int .i64 x,.int .i64 y,.int .i64 v,.int .i64 ck,.int .i64 cn,.int .i64 ch,.int .i64 kd,.int .i64 yes,.int .i64 nwy],.int .i64 (u:Int)] W fun e w'=>e=.returned (.int .i64 (gi u:Nat))∧Kp no W w'):=fun u hu W=>by
  have:=HGV.out u hu W
  rw [show giZ (NN.mk tx act x y v ck cn ch kd yes nwy).act (NN.mk tx act x y v ck cn ch kd yes nwy).ck u=((gi u:Nat):Int) from hg u hu] at this
  exact this
 clear HGV
 have HGV:=HGV2
 clear HGV2 hg htk
 have g10:(act == 10)=false:=by rcases hn with e|e <;> simp [e]
 have g11:(act == 11)=false:=by rcases hn with e|e <;> simp [e]
 have gt:((act == 12)=true)∨((act == 12)=false∧(act == 13)=true):=by
  rcases hn with e|e
  ·exact .inl (by simp [e])
  ·exact .inr ⟨by simp [e],by simp [e]⟩
 have HKA:=hide (fun W=>kindsAlong_c ⟨tx,act,x,y,v,ck,cn,ch,kd,yes,nwy⟩ kd b W rfl hk2 hn)
 dsimp only at HKA
 have HWL:=hide (waZ_lt act kd b hk2)
 have HK1:=hide (fun W h=>keep_c (w.heap.size+1+1+1) [s0,s1,s2,s3,s4,s5] y tk W h hs hy6 htk2)
 have H61:=hide (hs.ke y tk)
 have HK2:=hide (fun W h=>keep_c (w.heap.size+1+1+1) (keZ [s0,s1,s2,s3,s4,s5] y tk) v tk W h H61.out hv6 htk2)
 have H62:=hide (H61.out.ke v tk)
 have HK3:=hide (fun W h=>keep_c (w.heap.size+1+1+1) (keZ (keZ [s0,s1,s2,s3,s4,s5] y tk) v tk) y (waZ act kd b) W h H62.out hy6 HWL.out)
 have H63:=hide (H62.out.ke y (waZ act kd b))
 go_enter Tryz.func75,Tryz.ntmps75
 go_wp2_with (go_at_call 87;refine (HT.out _).mono ?_;rintro e w' ⟨rfl,rfl⟩)
 have hsb:Blk (((((w.alloc (.cells #[.string tx,.int .i64 act,.int .i64 x,.int .i64 y,.int .i64 v,.int .i64 ck,.int .i64 cn,.int .i64 ch,.int .i64 kd,.int .i64 yes,.int .i64 nwy] 68)).alloc (.cells #[.int .i64 s0,.int .i64 s1,.int .i64 s2,.int .i64 s3,.int .i64 s4,.int .i64 s5] 75)).alloc (.cells #[.int .i64 0,.int .i64 0,.int .i64 0,.int .i64 0,.int .i64 0,.int .i64 0] 75)).alloc (.cells #[.int .i64 s0,.int .i64 s1,.int .i64 s2,.int .i64 s3,.int .i64 s4,.int .i64 s5] 75))) (w.heap.size+1+1+1) [.int .i64 s0,.int .i64 s1,.int .i64 s2,.int .i64 s3,.int .i64 s4,.int .i64 s5] 75:=by (exact blA)
 have hrb:Blk (((((w.alloc (.cells #[.string tx,.int .i64 act,.int .i64 x,.int .i64 y,.int .i64 v,.int .i64 ck,.int .i64 cn,.int .i64 ch,.int .i64 kd,.int .i64 yes,.int .i64 nwy] 68)).alloc (.cells #[.int .i64 s0,.int .i64 s1,.int .i64 s2,.int .i64 s3,.int .i64 s4,.int .i64 s5] 75)).alloc (.cells #[.int .i64 0,.int .i64 0,.int .i64 0,.int .i64 0,.int .i64 0,.int .i64 0] 75)).alloc (.cells #[.int .i64 s0,.int .i64 s1,.int .i64 s2,.int .i64 s3,.int .i64 s4,.int .i64 s5] 75))) (w.heap.size+1+1) [.int .i64 0,.int .i64 0,.int .i64 0,.int .i64 0,.int .i64 0,.int .i64 0] 75:=by (exact blA)
 have hnb:Blk (((((w.alloc (.cells #[.string tx,.int .i64 act,.int .i64 x,.int .i64 y,.int .i64 v,.int .i64 ck,.int .i64 cn,.int .i64 ch,.int .i64 kd,.int .i64 yes,.int .i64 nwy] 68)).alloc (.cells #[.int .i64 s0,.int .i64 s1,.int .i64 s2,.int .i64 s3,.int .i64 s4,.int .i64 s5] 75)).alloc (.cells #[.int .i64 0,.int .i64 0,.int .i64 0,.int .i64 0,.int .i64 0,.int .i64 0] 75)).alloc (.cells #[.int .i64 s0,.int .i64 s1,.int .i64 s2,.int .i64 s3,.int .i64 s4,.int .i64 s5] 75))) w.heap.size [.string tx,.int .i64 act,.int .i64 x,.int .i64 y,.int .i64 v,.int .i64 ck,.int .i64 cn,.int .i64 ch,.int .i64 kd,.int .i64 yes,.int .i64 nwy] 68:=by (exact blA)
 have hkk:Kp no w (((((w.alloc (.cells #[.string tx,.int .i64 act,.int .i64 x,.int .i64 y,.int .i64 v,.int .i64 ck,.int .i64 cn,.int .i64 ch,.int .i64 kd,.int .i64 yes,.int .i64 nwy] 68)).alloc (.cells #[.int .i64 s0,.int .i64 s1,.int .i64 s2,.int .i64 s3,.int .i64 s4,.int .i64 s5] 75)).alloc (.cells #[.int .i64 0,.int .i64 0,.int .i64 0,.int .i64 0,.int .i64 0,.int .i64 0] 75)).alloc (.cells #[.int .i64 s0,.int .i64 s1,.int .i64 s2,.int .i64 s3,.int .i64 s4,.int .i64 s5] 75))):=by (exact kpA)
 have HA0:=hide (AS.mk hnb hrb hsb:AS _ _ _ [s0,s1,s2,s3,s4,s5])
 have HKK0:=hide hkk
 clear hnb hrb hsb hkk
 refine (HK1.out _ HA0.out.s).mono ?_
 rintro e w1 ⟨rfl,hz1,k1⟩
 have HA1:=hide (HA0.out.ks k1 hz1)
 have HKK1:=hide (HKK0.out.trans k1 (fun z hz e=>by omega))
 clear hz1 k1 HA0 HKK0
 obtain ⟨n0,n1,n2,n3,n4,n5,n6,n7,n8,n9,n10,nf⟩:=HA1.out.n.c11;have hnl:=HA1.out.n.lt
 go_wp2_with fail
 refine (HK2.out _ HA1.out.s).mono ?_
 rintro e w2 ⟨rfl,hz2,k2⟩
 have HA2:=hide (HA1.out.ks k2 hz2)
 have HKK2:=hide (HKK1.out.trans k2 (fun z hz e=>by omega))
 clear hz2 k2 HA1 HKK1
 clear n0 n1 n2 n3 n4 n5 n6 n7 n8 n9 n10 nf hnl
 obtain ⟨n0,n1,n2,n3,n4,n5,n6,n7,n8,n9,n10,nf⟩:=HA2.out.n.c11;have hnl:=HA2.out.n.lt
 change Hid (AS _ _ _ (keZ (keZ [s0,s1,s2,s3,s4,s5] y tk) v tk)) at HA2
 rcases gt with g12|⟨g12,g13⟩
 all_goals
  go_wp2_with fail
  refine (HKA.out _).mono ?_
  rintro e w9 ⟨rfl,k9⟩
  have HA9:=hide (HA2.out.kn k9)
  have HKK9:=hide (HKK2.out.trans k9 (fun _ _ e=>e))
  clear k9 HA2 HKK2
  clear n0 n1 n2 n3 n4 n5 n6 n7 n8 n9 n10 nf hnl
  obtain ⟨n0,n1,n2,n3,n4,n5,n6,n7,n8,n9,n10,nf⟩:=HA9.out.n.c11;have hnl:=HA9.out.n.lt
  go_wp2_with fail
  refine (HK3.out _ HA9.out.s).mono ?_
  rintro e w3 ⟨rfl,hz3,k3⟩
  have HA3:=hide (HA9.out.ks k3 hz3)
  have HKK:=hide (HKK9.out.trans k3 (fun z hz e=>by omega))
  clear hz3 k3 HA9 HKK9
  clear n0 n1 n2 n3 n4 n5 n6 n7 n8 n9 n10 nf hnl
  change Hid (AS _ _ _ (keZ (keZ (keZ [s0,s1,s2,s3,s4,s5] y tk) v tk) y (waZ act kd b))) at HA3
  generalize hSE:keZ (keZ (keZ [s0,s1,s2,s3,s4,s5] y tk) v tk) y (waZ act kd b)=S3 at *
  have HSE:=hide hSE
  clear hSE
  obtain ⟨t0,t1,t2,t3,t4,t5,hS⟩:=zb_six HA3.out.s H63.out
  rw [hS] at HA3 H63 HSE
  clear hS
  have HXX:=hide (fun b W h=>exists_c b [t0,t1,t2,t3,t4,t5] W h H63.out)
  go_wp2_with fail
  refine (HXX.out _ _ HA3.out.s).mono ?_
  rintro e w' ⟨rfl,rfl⟩
  cases hE:exS [t0,t1,t2,t3,t4,t5]
  ·have HR:=hide (show alZ act gi [t0,t1,t2,t3,t4,t5] x y=[t0,t1,t2,t3,t4,t5] by rw [alZ,hE];rfl)
   clear hE
   obtain ⟨n0,n1,n2,n3,n4,n5,n6,n7,n8,n9,n10,nf⟩:=HA3.out.n.c11;have hnl:=HA3.out.n.lt;obtain ⟨c0,c1,c2,c3,c4,c5,cf,cl⟩:=Blk.c6 (HA3.out.s' t0 t1 t2 t3 t4 t5);obtain ⟨d0,d1,d2,d3,d4,d5,df,dl⟩:=HA3.out.r'.c6
   go_wp2
   have hb:=HA3.out.r'
   have kk:=HKK.out
   refine body_agg (Tb:=75) (b:=w.heap.size+1+1) (cs:=[.int .i64 t0,.int .i64 t1,.int .i64 t2,.int .i64 t3,.int .i64 t4,.int .i64 t5]) (.inr rfl) Tryz.results75 rfl rfl (by (exact blA)) Tryz.underlying75 rfl (by kernel_rfl) ?_
   rw [HSE.out,HR.out]
   exact ⟨rfl,by (exact kpA)⟩
  ·obtain ⟨n0,n1,n2,n3,n4,n5,n6,n7,n8,n9,n10,nf⟩:=HA3.out.n.c11;have hnl:=HA3.out.n.lt;obtain ⟨c0,c1,c2,c3,c4,c5,cf,cl⟩:=Blk.c6 (HA3.out.s' t0 t1 t2 t3 t4 t5);obtain ⟨d0,d1,d2,d3,d4,d5,df,dl⟩:=HA3.out.r'.c6
   go_wp2_with fail
   refine (HSV.out _).mono ?_
   rintro e w' ⟨rfl,rfl⟩
   cases hF:setF act
   ·have HR:=hide (show alZ act gi [t0,t1,t2,t3,t4,t5] x y=[t0,t1,t2,t3,t4,t5] by rw [alZ,hF,Bool.and_false];rfl)
    clear hE hF
    go_wp2
    have hb:=HA3.out.r'
    have kk:=HKK.out
    refine body_agg (Tb:=75) (b:=w.heap.size+1+1) (cs:=[.int .i64 t0,.int .i64 t1,.int .i64 t2,.int .i64 t3,.int .i64 t4,.int .i64 t5]) (.inr rfl) Tryz.results75 rfl rfl (by (exact blA)) Tryz.underlying75 rfl (by kernel_rfl) ?_
    rw [HSE.out,HR.out]
    exact ⟨rfl,by (exact kpA)⟩
   ·have HR:=hide (show alZ act gi [t0,t1,t2,t3,t4,t5] x y=List.set [t0,t1,t2,t3,t4,t5] x (gi (List.getD [t0,t1,t2,t3,t4,t5] y 0)) by rw [alZ,hE,hF];rfl)
    have HKO:=hide (fun W h=>kindsOf_c (w.heap.size+1+1+1) [t0,t1,t2,t3,t4,t5] y W h H63.out hy6)
    have HGU:=hide (H63.out.get y)
    have H64:=hide (H63.out.set x (hgl _ (H63.out.get y)))
    have HZS:=hide (fun W h=>zset_c (w.heap.size+1+1+1) [t0,t1,t2,t3,t4,t5] x (gi (List.getD [t0,t1,t2,t3,t4,t5] y 0)) W h H63.out hx6)
    clear hE hF
    generalize hgy:List.getD [t0,t1,t2,t3,t4,t5] y 0=uy at *
    clear hgy
    clear n0 n1 n2 n3 n4 n5 n6 n7 n8 n9 n10 nf hnl c0 c1 c2 c3 c4 c5 cf cl d0 d1 d2 d3 d4 d5 df dl
    obtain ⟨n0,n1,n2,n3,n4,n5,n6,n7,n8,n9,n10,nf⟩:=HA3.out.n.c11;have hnl:=HA3.out.n.lt;obtain ⟨c0,c1,c2,c3,c4,c5,cf,cl⟩:=Blk.c6 (HA3.out.s' t0 t1 t2 t3 t4 t5);obtain ⟨d0,d1,d2,d3,d4,d5,df,dl⟩:=HA3.out.r'.c6
    go_wp2_with fail
    refine (HKO.out _ HA3.out.s).mono ?_
    rintro e w' ⟨rfl,rfl⟩
    go_wp2_with fail
    refine (HGV.out uy HGU.out _).mono ?_
    rintro e w7 ⟨rfl,k7⟩
    have HA4:=hide (HA3.out.kn k7)
    have HK4:=hide (HKK.out.trans k7 (fun _ _ e=>e))
    clear k7
    clear n0 n1 n2 n3 n4 n5 n6 n7 n8 n9 n10 nf hnl c0 c1 c2 c3 c4 c5 cf cl d0 d1 d2 d3 d4 d5 df dl
    obtain ⟨n0,n1,n2,n3,n4,n5,n6,n7,n8,n9,n10,nf⟩:=HA4.out.n.c11;have hnl:=HA4.out.n.lt;obtain ⟨c0,c1,c2,c3,c4,c5,cf,cl⟩:=Blk.c6 (HA4.out.s' t0 t1 t2 t3 t4 t5);obtain ⟨d0,d1,d2,d3,d4,d5,df,dl⟩:=HA4.out.r'.c6
    go_wp2_with fail
    refine (HZS.out _ HA4.out.s).mono ?_
    rintro e w8 ⟨rfl,hz8,k8⟩
    have HA5:=hide (HA4.out.ks k8 hz8)
    have HK5:=hide (HK4.out.trans k8 (fun z hz e=>by omega))
    clear hz8 k8
    clear n0 n1 n2 n3 n4 n5 n6 n7 n8 n9 n10 nf hnl c0 c1 c2 c3 c4 c5 cf cl d0 d1 d2 d3 d4 d5 df dl
    obtain ⟨r0,r1,r2,r3,r4,r5,hS⟩:=zb_six HA5.out.s H64.out
    rw [hS] at HA5 H64 HR
    clear hS
    obtain ⟨n0,n1,n2,n3,n4,n5,n6,n7,n8,n9,n10,nf⟩:=HA5.out.n.c11;have hnl:=HA5.out.n.lt;obtain ⟨c0,c1,c2,c3,c4,c5,cf,cl⟩:=Blk.c6 (HA5.out.s' r0 r1 r2 r3 r4 r5);obtain ⟨d0,d1,d2,d3,d4,d5,df,dl⟩:=HA5.out.r'.c6
    go_wp2
    have hb:=HA5.out.r'
    have kk:=HK5.out
    refine body_agg (Tb:=75) (b:=w.heap.size+1+1) (cs:=[.int .i64 r0,.int .i64 r1,.int .i64 r2,.int .i64 r3,.int .i64 r4,.int .i64 r5]) (.inr rfl) Tryz.results75 rfl rfl (by (exact blA)) Tryz.underlying75 rfl (by kernel_rfl) ?_
    rw [HSE.out,HR.out]
    exact ⟨rfl,by (exact kpA)⟩
set_option maxRecDepth 100000 in
set_option maxHeartbeats 3200000 in
theorem stateAlong_n (tx:ByteArray) (act ck cn ch yes nwy:Int) (x y v kd:Nat) (s0 s1 s2 s3 s4 s5:Nat) (b:Bool) (w:World) (hs:Z6 [s0,s1,s2,s3,s4,s5]) (hy6:y<6) (hv6:v<6)
  (hn:act=11) (tk:Nat) (htk:tkM act=(tk:Int)) (htk2:tk<128) :
  Calls Tryz.prog 75 #[.agg #[.string tx,.int .i64 act,.int .i64 x,.int .i64 y,.int .i64 v,.int .i64 ck,.int .i64 cn,.int .i64 ch,.int .i64 kd,.int .i64 yes,.int .i64 nwy],zv6 s0 s1 s2 s3 s4 s5,.bool b] w fun e w'=>e=.returned (.agg (zc ([0,0,0,0,0,0])).toArray)∧Kp no w w':=by
 have HT:=hide (fun W=>ntakenKinds_c act W)
 rw [htk] at HT
 have g11:(act == 11)=true:=by simp [hn]
 clear hn
 have HK1:=hide (fun W h=>keep_c (w.heap.size+1+1+1) [s0,s1,s2,s3,s4,s5] y tk W h hs hy6 htk2)
 have H61:=hide (hs.ke y tk)
 have HK2:=hide (fun W h=>keep_c (w.heap.size+1+1+1) (keZ [s0,s1,s2,s3,s4,s5] y tk) v tk W h H61.out hv6 htk2)
 go_enter Tryz.func75,Tryz.ntmps75
 go_wp2_with (go_at_call 87;refine (HT.out _).mono ?_;rintro e w' ⟨rfl,rfl⟩)
 have hsb:Blk (((((w.alloc (.cells #[.string tx,.int .i64 act,.int .i64 x,.int .i64 y,.int .i64 v,.int .i64 ck,.int .i64 cn,.int .i64 ch,.int .i64 kd,.int .i64 yes,.int .i64 nwy] 68)).alloc (.cells #[.int .i64 s0,.int .i64 s1,.int .i64 s2,.int .i64 s3,.int .i64 s4,.int .i64 s5] 75)).alloc (.cells #[.int .i64 0,.int .i64 0,.int .i64 0,.int .i64 0,.int .i64 0,.int .i64 0] 75)).alloc (.cells #[.int .i64 s0,.int .i64 s1,.int .i64 s2,.int .i64 s3,.int .i64 s4,.int .i64 s5] 75))) (w.heap.size+1+1+1) [.int .i64 s0,.int .i64 s1,.int .i64 s2,.int .i64 s3,.int .i64 s4,.int .i64 s5] 75:=by (exact blA)
 have hrb:Blk (((((w.alloc (.cells #[.string tx,.int .i64 act,.int .i64 x,.int .i64 y,.int .i64 v,.int .i64 ck,.int .i64 cn,.int .i64 ch,.int .i64 kd,.int .i64 yes,.int .i64 nwy] 68)).alloc (.cells #[.int .i64 s0,.int .i64 s1,.int .i64 s2,.int .i64 s3,.int .i64 s4,.int .i64 s5] 75)).alloc (.cells #[.int .i64 0,.int .i64 0,.int .i64 0,.int .i64 0,.int .i64 0,.int .i64 0] 75)).alloc (.cells #[.int .i64 s0,.int .i64 s1,.int .i64 s2,.int .i64 s3,.int .i64 s4,.int .i64 s5] 75))) (w.heap.size+1+1) [.int .i64 0,.int .i64 0,.int .i64 0,.int .i64 0,.int .i64 0,.int .i64 0] 75:=by (exact blA)
 have hnb:Blk (((((w.alloc (.cells #[.string tx,.int .i64 act,.int .i64 x,.int .i64 y,.int .i64 v,.int .i64 ck,.int .i64 cn,.int .i64 ch,.int .i64 kd,.int .i64 yes,.int .i64 nwy] 68)).alloc (.cells #[.int .i64 s0,.int .i64 s1,.int .i64 s2,.int .i64 s3,.int .i64 s4,.int .i64 s5] 75)).alloc (.cells #[.int .i64 0,.int .i64 0,.int .i64 0,.int .i64 0,.int .i64 0,.int .i64 0] 75)).alloc (.cells #[.int .i64 s0,.int .i64 s1,.int .i64 s2,.int .i64 s3,.int .i64 s4,.int .i64 s5] 75))) w.heap.size [.string tx,.int .i64 act,.int .i64 x,.int .i64 y,.int .i64 v,.int .i64 ck,.int .i64 cn,.int .i64 ch,.int .i64 kd,.int .i64 yes,.int .i64 nwy] 68:=by (exact blA)
 have hkk:Kp no w (((((w.alloc (.cells #[.string tx,.int .i64 act,.int .i64 x,.int .i64 y,.int .i64 v,.int .i64 ck,.int .i64 cn,.int .i64 ch,.int .i64 kd,.int .i64 yes,.int .i64 nwy] 68)).alloc (.cells #[.int .i64 s0,.int .i64 s1,.int .i64 s2,.int .i64 s3,.int .i64 s4,.int .i64 s5] 75)).alloc (.cells #[.int .i64 0,.int .i64 0,.int .i64 0,.int .i64 0,.int .i64 0,.int .i64 0] 75)).alloc (.cells #[.int .i64 s0,.int .i64 s1,.int .i64 s2,.int .i64 s3,.int .i64 s4,.int .i64 s5] 75))):=by (exact kpA)
 have HA0:=hide (AS.mk hnb hrb hsb:AS _ _ _ [s0,s1,s2,s3,s4,s5])
 have HKK0:=hide hkk
 clear hnb hrb hsb hkk
 refine (HK1.out _ HA0.out.s).mono ?_
 rintro e w1 ⟨rfl,hz1,k1⟩
 have HA1:=hide (HA0.out.ks k1 hz1)
 have HKK1:=hide (HKK0.out.trans k1 (fun z hz e=>by omega))
 clear hz1 k1 HA0 HKK0
 obtain ⟨n0,n1,n2,n3,n4,n5,n6,n7,n8,n9,n10,nf⟩:=HA1.out.n.c11;have hnl:=HA1.out.n.lt
 go_wp2_with fail
 refine (HK2.out _ HA1.out.s).mono ?_
 rintro e w2 ⟨rfl,hz2,k2⟩
 have HA2:=hide (HA1.out.ks k2 hz2)
 have HKK2:=hide (HKK1.out.trans k2 (fun z hz e=>by omega))
 clear hz2 k2 HA1 HKK1
 clear n0 n1 n2 n3 n4 n5 n6 n7 n8 n9 n10 nf hnl
 obtain ⟨n0,n1,n2,n3,n4,n5,n6,n7,n8,n9,n10,nf⟩:=HA2.out.n.c11;have hnl:=HA2.out.n.lt
 change Hid (AS _ _ _ (keZ (keZ [s0,s1,s2,s3,s4,s5] y tk) v tk)) at HA2
 obtain ⟨d0,d1,d2,d3,d4,d5,df,dl⟩:=HA2.out.r'.c6
 go_wp2
 have hb:=HA2.out.r'
 have kk:=HKK2.out
 refine body_agg (Tb:=75) (b:=w.heap.size+1+1) (cs:=[.int .i64 0,.int .i64 0,.int .i64 0,.int .i64 0,.int .i64 0,.int .i64 0]) (.inr rfl) Tryz.results75 rfl rfl (by (exact blA)) Tryz.underlying75 rfl (by kernel_rfl) ?_
 exact ⟨rfl,by (exact kpA)⟩
end Go.Proofs.YtellieabhaphhabGreatDoor
namespace Go.Proofs.YtellieabhaphhabGreatDoor
open Go.RowKit
def algF (n:Nd) (b:Bool) (S:St):St:=if n.op=121∨n.op=58 then hldF n b S else behF n S
structure Ful (S:St):Prop where
 z:Z6 S
 ne:∀ i,i<6→S.getD i 0≠0
theorem SOk.ful {S:St} (h:SOk S) (h0:S≠[]):Ful S:=by
 obtain ⟨h6,hm⟩:=h.resolve_left h0
 refine ⟨⟨h6,fun m hm'=>(hm m hm').2⟩,fun i hi=>?_⟩
 rw [List.getD_eq_getElem?_getD,List.getElem?_eq_getElem (by omega),Option.getD_some]
 exact (hm _ (List.getElem_mem _)).1
theorem Ful.ex {S:St} (h:Ful S):exS S=true:=exS_yes (fun i hi=>h.ne i (by rw [h.z.len] at hi;exact hi))
theorem Ful.nrm {S:St} (h:Ful S):nrm S=S:=by rw [Go.Proofs.YtellieabhaphhabGreatDoor.nrm,h.ex];rfl
theorem Ful.nil {S:St} (h:Ful S):S≠[]:=fun e=>by have:=h.z.len;rw [e] at this;cases this
theorem getD_set_self {S:St} {y m:Nat} (h:y<S.length):(S.set y m).getD y 0=m:=by
 rw [List.getD_eq_getElem?_getD,List.getElem?_set_self h];rfl
theorem getD_set_ne {S:St} {y z m:Nat} (h:y≠z):(S.set y m).getD z 0=S.getD z 0:=by
 rw [List.getD_eq_getElem?_getD,List.getElem?_set_ne h,← List.getD_eq_getElem?_getD]
theorem Ful.set {S:St} (h:Ful S) (y:Nat) {m:Nat} (hm:m<128) (h0:m≠0) (hy:y<6):Ful (S.set y m):=by
 refine ⟨h.z.set y hm,fun i hi=>?_⟩
 by_cases e:y=i
 ·subst e;rw [getD_set_self (by rw [h.z.len];exact hy)];exact h0
 ·rw [getD_set_ne e];exact h.ne i hi
theorem nrm_zero {S:St} {y:Nat} (hy:y<S.length) (h:S.getD y 0=0):nrm S=[]:=by
 rw [nrm,exS_no hy h];rfl
theorem nrm_set {S:St} (h:Ful S) {y m:Nat} (hy:y<6) (hm:m<128):nrm (S.set y m)=withS S y m:=by
 have hl:=h.z.len
 by_cases h0:m=0
 ·subst h0
  rw [nrm_zero (y:=y) (by rw [List.length_set];omega) (getD_set_self (by omega)),withS,if_pos (.inr rfl)]
 ·rw [(h.set y hm h0 hy).nrm,withS,if_neg (by simp [h0,h.nil])]
theorem nrm_keep {S:St} (h:Ful S) {y m:Nat} (hy:y<6):nrm (keZ S y m)=withS S y (S.getD y 0&&&m):=nrm_set h hy (and_lt m (h.z.get y))
theorem and_127 {m:Nat} (h:m<128):m&&&127=m:=by
 have:=Nat.and_two_pow_sub_one_eq_mod m 7
 rw [show 2 ^ 7-1=127 from rfl] at this
 rw [this]
 exact Nat.mod_eq_of_lt h
theorem set_self {S:St} {y:Nat} (h:y<S.length):S.set y (S.getD y 0)=S:=by
 rw [List.getD_eq_getElem?_getD,List.getElem?_eq_getElem h,Option.getD_some,List.set_getElem_self]
theorem keep_all {S:St} (h:Z6 S) {y:Nat} (hy:y<6):keZ S y 127=S:=by
 rw [keZ,and_127 (h.get y),set_self (by rw [h.len];exact hy)]
theorem keep_twice {S:St} (h:Z6 S) {y m:Nat} (hy:y<6):keZ (keZ S y m) y m=keZ S y m:=by
 have e:(keZ S y m).getD y 0=S.getD y 0&&&m:=getD_set_self (by rw [h.len];exact hy)
 rw [keZ,e,Nat.and_assoc,Nat.and_self]
 exact List.set_set ..
def giN (op:Int) (u:Nat):Nat:=if op=94∨op=42∨op=121∨op=58∨op=126 then u else givN op u
theorem tk_of {op:Int} (h:opOk op):tkM (actN op)=((tkN op:Nat):Int):=by
 unfold opOk at h
 rcases h with rfl|rfl|rfl|rfl|rfl|rfl|rfl|rfl|rfl|rfl|rfl|rfl|rfl|rfl|rfl|rfl|rfl|rfl <;> rfl
theorem tk_lt (op:Int):tkN op<128:=by
 unfold tkN;repeat' split
 all_goals decide
theorem gi_of {n:Nd} (h:opOk n.op) (h33:n.op≠33) (u:Nat):giZ (actN n.op) (bit (consN n).k) u=((giN n.op u:Nat):Int):=by
 obtain ⟨op,nx,ny,nv,nk,nt,nf,na,nl⟩:=n
 dsimp only at *
 unfold opOk at h
 rcases h with rfl|rfl|rfl|rfl|rfl|rfl|rfl|rfl|rfl|rfl|rfl|rfl|rfl|rfl|rfl|rfl|rfl|rfl
 all_goals first|rfl|exact absurd rfl h33
theorem gi_lt (op:Int) (u:Nat) (h:u<128):giN op u<128:=by
 unfold giN
 split
 ·exact h
 ·exact givN_lt op h
theorem act_le {op:Int} (h:opOk op):0≤actN op∧actN op≤14:=by
 unfold opOk at h
 rcases h with rfl|rfl|rfl|rfl|rfl|rfl|rfl|rfl|rfl|rfl|rfl|rfl|rfl|rfl|rfl|rfl|rfl|rfl <;> decide
theorem Z6.al {S:St} (h:Z6 S) (act:Int) (gi:Nat→Nat) (hg:∀ u,u<128→gi u<128) (x y:Nat):Z6 (alZ act gi S x y):=by
 unfold alZ
 split
 ·exact h.set x (hg _ (h.get y))
 ·exact h
theorem al_give {n:Nd} {S:St} (h:Ful S) {x y v:Nat} (hx:n.x=x) (hy:n.y=y) (hv:n.v=v) (hx6:x<6) (hy6:y<6) (hv6:v<6) (ho:opG n.op) :
  nrm (alZ (actN n.op) (giN n.op) (keZ (keZ S y (tkN n.op)) (if n.op=43∨n.op=60 then v else y) (tkN n.op)) x y)=behF n S:=by
 have hset:setF (actN n.op)=true:=by
  unfold opG at ho
  rcases ho with e|e|e|e|e|e|e|e|e|e|e|e <;> rw [e] <;> rfl
 have hgi:giN n.op=givN n.op:=by
  unfold opG at ho
  funext u
  rw [giN,if_neg (by omega)]
 have htk:=tk_lt n.op
 have hm:S.getD y 0&&&tkN n.op<128:=and_lt _ (h.z.get y)
 rw [hgi]
 unfold opG at ho
 have hB:behF n S=withS (if withS S y (S.getD y 0&&&tkN n.op)≠[]∧(n.op=43∨n.op=60) then withS (withS S y (S.getD y 0&&&tkN n.op)) v ((withS S y (S.getD y 0&&&tkN n.op)).getD v 0&&&tkN n.op) else withS S y (S.getD y 0&&&tkN n.op)) x (givN n.op (S.getD y 0&&&tkN n.op)):=by
  rw [behF,if_neg (by omega),if_neg (by omega),if_neg (by omega),hx,hy,hv,Int.toNat_natCast,Int.toNat_natCast,Int.toNat_natCast]
 rw [hB]
 clear hB
 have hl:=h.z.len
 by_cases h0:S.getD y 0&&&tkN n.op=0
 ·-- nothing is left of y
  have hw:withS S y (S.getD y 0&&&tkN n.op)=[]:=by rw [withS,if_pos (.inr h0)]
  rw [hw,if_neg (fun e:([]:St)≠[]∧_=>e.1 rfl)]
  have h1:(keZ S y (tkN n.op)).getD y 0=0:=by rw [keZ,getD_set_self (by omega),h0]
  have hl1:(keZ S y (tkN n.op)).length=6:=(h.z.ke y _).len
  have h2:(keZ (keZ S y (tkN n.op)) (if n.op=43∨n.op=60 then v else y) (tkN n.op)).getD y 0=0:=by
   generalize (if n.op=43∨n.op=60 then v else y)=z
   rw [keZ]
   by_cases e:z=y
   ·subst e;rw [getD_set_self (by omega),h1,Nat.zero_and]
   ·rw [getD_set_ne e,h1]
  have hl2:(keZ (keZ S y (tkN n.op)) (if n.op=43∨n.op=60 then v else y) (tkN n.op)).length=6:=((h.z.ke y _).ke _ _).len
  rw [alZ,exS_no (by omega) h2,Bool.false_and]
  rw [if_neg (by decide),nrm_zero (by omega) h2]
  simp [withS]
 ·have hw:withS S y (S.getD y 0&&&tkN n.op)=keZ S y (tkN n.op):=by rw [withS,if_neg (fun e=>e.elim h.nil h0)];rfl
  have hF1:Ful (keZ S y (tkN n.op)):=h.set y hm h0 hy6
  rw [hw]
  by_cases ht:n.op=43∨n.op=60
  ·rw [if_pos ht,if_pos ⟨hF1.nil,ht⟩]
   generalize hS1:keZ S y (tkN n.op)=S1 at *
   have hm2:S1.getD v 0&&&tkN n.op<128:=and_lt _ (hF1.z.get v)
   by_cases h02:S1.getD v 0&&&tkN n.op=0
   ·have hw2:withS S1 v (S1.getD v 0&&&tkN n.op)=[]:=by rw [withS,if_pos (.inr h02)]
    have h2:(keZ S1 v (tkN n.op)).getD v 0=0:=by rw [keZ,getD_set_self (by rw [hF1.z.len];exact hv6),h02]
    have hl2:(keZ S1 v (tkN n.op)).length=6:=(hF1.z.ke v _).len
    rw [hw2,alZ,exS_no (by omega) h2,Bool.false_and,if_neg (by decide),nrm_zero (by omega) h2]
    simp [withS]
   ·have hw2:withS S1 v (S1.getD v 0&&&tkN n.op)=keZ S1 v (tkN n.op):=by rw [withS,if_neg (fun e=>e.elim hF1.nil h02)];rfl
    have hF2:Ful (keZ S1 v (tkN n.op)):=hF1.set v hm2 h02 hv6
    have hgy:∀ u,givN n.op u=givN n.op (S.getD y 0&&&tkN n.op):=by
     intro u
     rcases ht with e|e <;> rw [e] <;> rfl
    rw [hw2,alZ,hF2.ex,hset,Bool.true_and,if_pos rfl,nrm_set hF2 hx6 (givN_lt _ (hF2.z.get y)),hgy]
  ·rw [if_neg ht,if_neg (fun e=>ht e.2),keep_twice h.z hy6]
   have hgy:(keZ S y (tkN n.op)).getD y 0=S.getD y 0&&&tkN n.op:=getD_set_self (by omega)
   rw [alZ,hF1.ex,hset,Bool.true_and,if_pos rfl,nrm_set hF1 hx6 (givN_lt _ (hF1.z.get y)),hgy]
end Go.Proofs.YtellieabhaphhabGreatDoor
namespace Go.Proofs.YtellieabhaphhabGreatDoor
open Go.RowKit
theorem z6_six {Z:St} (h6:Z6 Z):∃ m0 m1 m2 m3 m4 m5:Nat,Z=[m0,m1,m2,m3,m4,m5]:=by
 match Z,h6.len with
 | [m0,m1,m2,m3,m4,m5],_=>exact ⟨m0,m1,m2,m3,m4,m5,rfl⟩
theorem bitN_cast (k:Int):((bitN k:Nat):Int)=bit k:=by
 unfold bitN bit;repeat' split
 all_goals rfl
def kdN (n:Nd):Nat:=if n.op=126∨n.op=58 then bitN n.k else 0
theorem kdN_lt (n:Nd):kdN n<128:=by unfold kdN;split;exact bitN_lt _;decide
theorem kdN_cast (n:Nd):((kdN n:Nat):Int)=(if n.op=126∨n.op=58 then bit n.k else 0):=by
 unfold kdN;split
 ·exact bitN_cast _
 ·rfl
theorem way_of {n:Nd} (hg:Gn n) (ht:n.op=121∨n.op=58) (b:Bool):waZ (actN n.op) (kdN n) b=wayM n b:=by
 rcases ht with e|e
 ·rw [waZ,wayM,e];cases b <;> rfl
 ·have hk:=hg.kd (.inl e)
  rw [waZ,wayM,kdN,e]
  unfold KOk at hk
  rcases hk with h|h|h|h|h|h|h <;> rw [h] <;> cases b <;> rfl
theorem act_class {op:Int} (h:opOk op):(op=126∧actN op=10)∨(op=33∧actN op=11)∨((op=121∨op=58)∧(actN op=12∨actN op=13)) ∨
  ((op=94∨op=42∨opG op)∧actN op≠10∧actN op≠11∧actN op≠12∧actN op≠13):=by
 unfold opOk at h
 unfold opG
 rcases h with rfl|rfl|rfl|rfl|rfl|rfl|rfl|rfl|rfl|rfl|rfl|rfl|rfl|rfl|rfl|rfl|rfl|rfl <;> decide
theorem nrm_no:nrm [0,0,0,0,0,0]=[]:=rfl
theorem no_z6:Z6 [0,0,0,0,0,0]:=⟨rfl,by decide⟩
theorem al_plain {op:Int} {S:St} (gi:Nat→Nat) (x y:Nat) (hs:setF (actN op)=false):alZ (actN op) gi S x y=S:=by rw [alZ,hs,Bool.and_false];rfl
theorem along_c (n:Nd) (tx:ByteArray) (yes nwy:Int) (S:St) (b:Bool) (w:World) (hg:Gn n) (hS:Ful S) :
  Calls Tryz.prog 75 #[.agg #[.string tx,.int .i64 (actN n.op),.int .i64 n.x,.int .i64 n.y,.int .i64 (if n.op=43∨n.op=60 then n.v else n.y),.int .i64 (bit (consN n).k),.int .i64 (consN n).n,.int .i64 (bit (consN n).v),.int .i64 (if n.op=126∨n.op=58 then bit n.k else 0),.int .i64 yes,.int .i64 nwy],.agg (zc S).toArray,.bool b] w
   fun e w'=>∃ Z,e=.returned (.agg (zc Z).toArray)∧Z6 Z∧nrm Z=algF n b S∧Kp no w w':=by
 obtain ⟨x,hx⟩:=Int.eq_ofNat_of_zero_le hg.x.1
 obtain ⟨y,hy⟩:=Int.eq_ofNat_of_zero_le hg.y.1
 obtain ⟨v,hv⟩:=Int.eq_ofNat_of_zero_le hg.v.1
 have hx6:x<6:=by have:=hg.x.2;omega
 have hy6:y<6:=by have:=hg.y.2;omega
 have hv6:v<6:=by have:=hg.v.2;omega
 obtain ⟨a0,a14⟩:=act_le hg.op
 have htk:=tk_of hg.op
 have htl:=tk_lt n.op
 have hw:(if n.op=43∨n.op=60 then n.v else n.y)=(((if n.op=43∨n.op=60 then v else y):Nat):Int):=by split <;> assumption
 have hw6:(if n.op=43∨n.op=60 then v else y)<6:=by split <;> assumption
 have hk:=kdN_cast n
 have hkl:=kdN_lt n
 obtain ⟨s0,s1,s2,s3,s4,s5,hs⟩:=z6_six hS.z
 have hz:=hS.z
 rw [hw,← hk,hx,hy]
 rcases act_class hg.op with ⟨ho,ha⟩|⟨ho,ha⟩|⟨ho,ha⟩|⟨ho,ha⟩
 ·-- a cast
  have hgi:=gi_of hg.op (by omega)
  have h127:tkN n.op=127:=by rw [ho];rfl
  have key:=stateAlong_k tx (actN n.op) (bit (consN n).k) (consN n).n (bit (consN n).v) yes nwy x y (if n.op=43∨n.op=60 then v else y) (kdN n) s0 s1 s2 s3 s4 s5 b w (hs ▸ hz) hkl hx6 hy6 hw6 a0 a14 ha (tkN n.op) htk htl (giN n.op) (fun u _=>hgi u) (gi_lt n.op)
  rw [← hs] at key
  subst hs
  refine key.mono fun e w' ⟨h1,h2⟩=>⟨_,h1,(((hz.ke y _).ke _ _).ke _ _).al _ _ (gi_lt n.op) _ _,?_,h2⟩
  rw [h127,keep_all hz hy6,keep_all hz hw6,alZ,show setF (actN n.op)=false by rw [ha];rfl,Bool.and_false,if_neg (by decide),nrm_keep hS hx6]
  rw [algF,if_neg (by omega),behF,if_neg (by omega),if_neg (by omega),if_pos ho,hx,Int.toNat_natCast,kdN,if_pos (.inl ho)]
 ·-- never
  have key:=stateAlong_n tx (actN n.op) (bit (consN n).k) (consN n).n (bit (consN n).v) yes nwy x y (if n.op=43∨n.op=60 then v else y) (kdN n) s0 s1 s2 s3 s4 s5 b w (hs ▸ hz) hy6 hw6 ha (tkN n.op) htk htl
  subst hs
  refine key.mono fun e w' ⟨h1,h2⟩=>⟨_,h1,no_z6,?_,h2⟩
  rw [nrm_no,algF,if_neg (by omega),behF,if_pos ho]
 ·-- a test
  have hgi:=gi_of hg.op (by omega)
  have h127:tkN n.op=127:=by rcases ho with e|e <;> rw [e] <;> rfl
  have key:=stateAlong_t tx (actN n.op) (bit (consN n).k) (consN n).n (bit (consN n).v) yes nwy x y (if n.op=43∨n.op=60 then v else y) (kdN n) s0 s1 s2 s3 s4 s5 b w (hs ▸ hz) hkl hx6 hy6 hw6 a0 a14 ha (tkN n.op) htk htl (giN n.op) (fun u _=>hgi u) (gi_lt n.op)
  rw [← hs] at key
  subst hs
  refine key.mono fun e w' ⟨h1,h2⟩=>⟨_,h1,(((hz.ke y _).ke _ _).ke _ _).al _ _ (gi_lt n.op) _ _,?_,h2⟩
  rw [h127,keep_all hz hy6,keep_all hz hw6,alZ,show setF (actN n.op)=false by rcases ha with e|e <;> rw [e] <;> rfl,Bool.and_false,if_neg (by decide),nrm_keep hS hy6,way_of hg ho]
  rw [algF,if_pos ho,hldF,hy,Int.toNat_natCast]
 ·have hgi:=gi_of hg.op (by unfold opG at ho;omega)
  have key:=stateAlong_o tx (actN n.op) (bit (consN n).k) (consN n).n (bit (consN n).v) yes nwy x y (if n.op=43∨n.op=60 then v else y) (kdN n) s0 s1 s2 s3 s4 s5 b w (hs ▸ hz) hx6 hy6 hw6 a0 a14 ha (tkN n.op) htk htl (giN n.op) (fun u _=>hgi u) (gi_lt n.op)
  rw [← hs] at key
  subst hs
  refine key.mono fun e w' ⟨h1,h2⟩=>⟨_,h1,((hz.ke y _).ke _ _).al _ _ (gi_lt n.op) _ _,?_,h2⟩
  rcases ho with e|e|e
  ·have h127:tkN n.op=127:=by rw [e];rfl
   rw [h127,keep_all hz hy6,keep_all hz hw6,al_plain _ _ _ (by rw [e];rfl),hS.nrm,algF,if_neg (by omega),behF,if_neg (by omega),if_pos (.inr e)]
  ·have h127:tkN n.op=127:=by rw [e];rfl
   rw [h127,keep_all hz hy6,keep_all hz hw6,al_plain _ _ _ (by rw [e];rfl),hS.nrm,algF,if_neg (by omega),behF,if_neg (by omega),if_pos (.inl e)]
  ·rw [al_give hS hx hy hv hx6 hy6 hv6 e,algF,if_neg (by unfold opG at e;omega)]
end Go.Proofs.YtellieabhaphhabGreatDoor
namespace Go.Proofs.YtellieabhaphhabGreatDoor
open Go.RowKit
def encZ (s:St):St:=if s.length=6 then s else [0,0,0,0,0,0]
def tCells (T:Tbl):List Value:=T.flatMap (fun s=>zc (encZ s))
theorem encZ6 (s:St):(encZ s).length=6:=by unfold encZ;split;assumption;rfl
theorem zce6 (s:St):(zc (encZ s)).length=6:=by rw [zc,List.length_map];exact encZ6 s
theorem encZ_nil:encZ []=[0,0,0,0,0,0]:=rfl
theorem encZ_ful {s:St} (h:Ful s):encZ s=s:=by rw [encZ,if_pos h.z.len]
theorem encZ_z6 {s:St} (h:SOk s):Z6 (encZ s):=by
 by_cases h0:s=[]
 ·subst h0;exact no_z6
 ·rw [encZ_ful (h.ful h0)];exact (h.ful h0).z
theorem exS_enc {s:St} (h:SOk s):exS (encZ s)=decide (s≠[]):=by
 by_cases h0:s=[]
 ·subst h0;rfl
 ·rw [encZ_ful (h.ful h0),(h.ful h0).ex,decide_eq_true h0]
theorem flat_six (f:St→List Value) (hf:∀ s,(f s).length=6) (x:St) (a0 a1 a2 a3 a4 a5:Value) (hx:f x=[a0,a1,a2,a3,a4,a5]):∀ (T:Tbl) (i:Nat),i<T.length →
  ((((((T.flatMap f).set (i*6) a0).set (i*6+1) a1).set (i*6+2) a2).set (i*6+3) a3).set (i*6+4) a4).set (i*6+5) a5=(T.set i x).flatMap f
 | [],i,h=>by simp at h
 | s::T,0,_=>by
  obtain ⟨b0,b1,b2,b3,b4,b5,hb⟩:∃ b0 b1 b2 b3 b4 b5,f s=[b0,b1,b2,b3,b4,b5]:=by
   match f s,hf s with
   | [b0,b1,b2,b3,b4,b5],_=>exact ⟨b0,b1,b2,b3,b4,b5,rfl⟩
  rw [List.set_cons_zero,List.flatMap_cons,List.flatMap_cons,hx,hb]
  rfl
 | s::T,i+1,h=>by
  have ih:=flat_six f hf x a0 a1 a2 a3 a4 a5 hx T i (by simpa using h)
  obtain ⟨b0,b1,b2,b3,b4,b5,hb⟩:∃ b0 b1 b2 b3 b4 b5,f s=[b0,b1,b2,b3,b4,b5]:=by
   match f s,hf s with
   | [b0,b1,b2,b3,b4,b5],_=>exact ⟨b0,b1,b2,b3,b4,b5,rfl⟩
  rw [List.set_cons_succ,List.flatMap_cons,List.flatMap_cons,hb,← ih]
  have e:(i+1)*6=i*6+1+1+1+1+1+1:=by omega
  have e1:(i+1)*6+1=i*6+1+1+1+1+1+1+1:=by omega
  have e2:(i+1)*6+2=i*6+2+1+1+1+1+1+1:=by omega
  have e3:(i+1)*6+3=i*6+3+1+1+1+1+1+1:=by omega
  have e4:(i+1)*6+4=i*6+4+1+1+1+1+1+1:=by omega
  have e5:(i+1)*6+5=i*6+5+1+1+1+1+1+1:=by omega
  rw [e5,e4,e3,e2,e1,e]
  rfl
structure FT (w:World) (fp tb n:Nat) (T:Tbl) (g:Bool):Prop where
 p:Blk w fp [.slice (some ⟨tb,0,none⟩) n n,.bool g] 72
 ne:fp≠tb
 len:T.length=n
 b:Blk w tb (tCells T) 75
def TK2 (fp tb:Nat) (b:Nat):Prop:=b=fp∨b=tb
theorem FT.at {w:World} {fp tb n:Nat} {T:Tbl} {g:Bool} (h:FT w fp tb n T g) {i:Nat} (hi:i<n) {m0 m1 m2 m3 m4 m5:Nat} (hm:encZ (T.getD i [])=[m0,m1,m2,m3,m4,m5]) :
  w.cell? ⟨tb,i*6,none⟩=some (.int .i64 m0)∧w.cell? ⟨tb,i*6+1,none⟩=some (.int .i64 m1)∧w.cell? ⟨tb,i*6+2,none⟩=some (.int .i64 m2)∧w.cell? ⟨tb,i*6+3,none⟩=some (.int .i64 m3)∧w.cell? ⟨tb,i*6+4,none⟩=some (.int .i64 m4)∧w.cell? ⟨tb,i*6+5,none⟩=some (.int .i64 m5):=by
 have hl:i<T.length:=by rw [h.len];exact hi
 rw [List.getD_eq_getElem?_getD,List.getElem?_eq_getElem hl,Option.getD_some] at hm
 have hc:∀ j,j<6→w.cell? ⟨tb,i*6+j,none⟩=(zc [m0,m1,m2,m3,m4,m5])[j]?:=fun j hj=>by
  rw [h.b.cell,tCells,flat_get (fun s=>zc (encZ s)) 6 zce6 T i j hl hj,hm]
 exact ⟨hc 0 (by decide),hc 1 (by decide),hc 2 (by decide),hc 3 (by decide),hc 4 (by decide),hc 5 (by decide)⟩
theorem FT.c {w:World} {fp tb n:Nat} {T:Tbl} {g:Bool} (h:FT w fp tb n T g):w.cell? ⟨fp,0,none⟩=some (.slice (some ⟨tb,0,none⟩) n n)∧w.cell? ⟨fp,1,none⟩=some (.bool g)∧(∀ o,w.frozen? ⟨fp,o,none⟩=false)∧(∀ o,w.frozen? ⟨tb,o,none⟩=false)∧fp<w.heap.size∧tb<w.heap.size :=
 ⟨h.p.cell 0,h.p.cell 1,h.p.frozen,h.b.frozen,h.p.lt,h.b.lt⟩
theorem FT.kp {w w':World} {fp tb n:Nat} {T:Tbl} {g:Bool} (h:FT w fp tb n T g) (k:Kp no w w'):FT w' fp tb n T g :=
 ⟨k.blk h.p no_elim,h.ne,h.len,k.blk h.b no_elim⟩
theorem FT.turn {w:World} {fp tb n:Nat} {T:Tbl} {g:Bool} (h:FT w fp tb n T g) (b:Bool):FT (w.setCell ⟨fp,1,none⟩ (.bool b)) fp tb n T b :=
 ⟨h.p.set 1 (.bool b),h.ne,h.len,Blk.other h.b _ (fun e=>h.ne e.symm)⟩
theorem FT.set {w:World} {fp tb n:Nat} {T:Tbl} {g:Bool} (h:FT w fp tb n T g) {i:Nat} (hi:i<n) {s:St} {m0 m1 m2 m3 m4 m5:Nat} (hm:encZ s=[m0,m1,m2,m3,m4,m5]) :
  FT ((((((w.setCell ⟨tb,i*6,none⟩ (.int .i64 m0)).setCell ⟨tb,i*6+1,none⟩ (.int .i64 m1)).setCell ⟨tb,i*6+2,none⟩ (.int .i64 m2)).setCell ⟨tb,i*6+3,none⟩ (.int .i64 m3)).setCell ⟨tb,i*6+4,none⟩ (.int .i64 m4)).setCell ⟨tb,i*6+5,none⟩ (.int .i64 m5)) fp tb n (T.set i s) g:=by
 have hne:fp≠tb:=h.ne
 refine ⟨Blk.other (Blk.other (Blk.other (Blk.other (Blk.other (Blk.other h.p _ hne) _ hne) _ hne) _ hne) _ hne) _ hne,hne,by rw [List.length_set];exact h.len,?_⟩
 have h2:=(((((h.b.set (i*6) (.int .i64 m0)).set (i*6+1) (.int .i64 m1)).set (i*6+2) (.int .i64 m2)).set (i*6+3) (.int .i64 m3)).set (i*6+4) (.int .i64 m4)).set (i*6+5) (.int .i64 m5)
 rw [tCells,flat_six (fun s=>zc (encZ s)) zce6 s _ _ _ _ _ _ (by rw [hm];rfl) T i (by rw [h.len];exact hi)] at h2
 exact h2
set_option maxRecDepth 100000 in
set_option maxHeartbeats 1600000 in
theorem stateOf_c (fp tb n:Nat) (T:Tbl) (g:Bool) (i:Nat) (w:World) (h:FT w fp tb n T g) (hi:i<n) :
  Calls Tryz.prog 39 #[.slice (some ⟨tb,0,none⟩) n n,.int .i64 i] w fun e w'=>e=.returned (.agg (zc (encZ (T.getD i []))).toArray)∧Kp no w w':=by
 obtain ⟨m0,m1,m2,m3,m4,m5,hm⟩:∃ m0 m1 m2 m3 m4 m5,encZ (T.getD i [])=[m0,m1,m2,m3,m4,m5]:=by
  match encZ (T.getD i []),encZ6 (T.getD i []) with
  | [m0,m1,m2,m3,m4,m5],_=>exact ⟨m0,m1,m2,m3,m4,m5,rfl⟩
 obtain ⟨c0,c1,c2,c3,c4,c5⟩:=h.at hi hm
 have htl:=h.b.lt
 rw [hm]
 have d0:decide ((i:Int)<0)=false:=by simp
 have d1:decide ((n:Int)≤i)=false:=by simp;omega
 have d2:(i:Int)<n:=by omega
 have d3:decide (n≤i)=false:=by simp;omega
 clear h hm
 go_enter Tryz.func39,Tryz.ntmps39
 go_wp2
 refine body_agg (Tb:=75) (b:=w.heap.size) (cs:=[.int .i64 m0,.int .i64 m1,.int .i64 m2,.int .i64 m3,.int .i64 m4,.int .i64 m5]) (.inr rfl) Tryz.results39 rfl rfl (by (exact blA)) Tryz.underlying75 rfl (by kernel_rfl) ?_
 exact ⟨rfl,by (exact kpA)⟩
set_option maxHeartbeats 1600000 in
theorem eqArr (w:World) (a0 a1 a2 a3 a4 a5 b0 b1 b2 b3 b4 b5:Int):(Op.equalIn 9999 73 (.agg #[.int .i64 a0,.int .i64 a1,.int .i64 a2,.int .i64 a3,.int .i64 a4,.int .i64 a5]) (.agg #[.int .i64 b0,.int .i64 b1,.int .i64 b2,.int .i64 b3,.int .i64 b4,.int .i64 b5])).run Tryz.prog w=.ok (a0 == b0 && (a1 == b1 && (a2 == b2 && (a3 == b3 && (a4 == b4 && a5 == b5))))) w:=by
 have u3:=Tryz.underlying64
 have a3':=Tryz.isAgg64
 have z3:=Tryz.sizeOf64
 rw [show (9999:Nat)=9998+1 from rfl,Op.equalIn]
 simp only [Sem.run_bind,run_underlying Tryz.underlying73,Result.andThen_ok]
 simp only [Std.Legacy.Range.forIn_eq_forIn_range',Std.Legacy.Range.size,Nat.sub_zero,Nat.add_sub_cancel,Nat.div_one,List.range'_succ,List.range'_zero,List.forIn_cons,List.forIn_nil]
 go_simp
 by_cases h0:a0=b0
 ·by_cases h1:a1=b1
  ·by_cases h2:a2=b2
   ·by_cases h3:a3=b3
    ·by_cases h4:a4=b4
     ·by_cases h5:a5=b5 <;> simp [h0,h1,h2,h3,h4,h5]
     ·simp [h0,h1,h2,h3,h4]
    ·simp [h0,h1,h2,h3]
   ·simp [h0,h1,h2]
  ·simp [h0,h1]
 ·simp [h0]
theorem eqArr_list (a0 a1 a2 a3 a4 a5 b0 b1 b2 b3 b4 b5:Nat):((a0:Int) == b0 && ((a1:Int) == b1 && ((a2:Int) == b2 && ((a3:Int) == b3 && ((a4:Int) == b4 && (a5:Int) == b5)))))=decide ([a0,a1,a2,a3,a4,a5]=[b0,b1,b2,b3,b4,b5]):=by
 rw [Bool.eq_iff_iff,decide_eq_true_iff]
 simp [Int.ofNat_inj]
theorem zip_zero {Z:St} (h:Z6 Z):List.zipWith (· ||| ·) [0,0,0,0,0,0] Z=Z:=by
 obtain ⟨m0,m1,m2,m3,m4,m5,rfl⟩:=z6_six h
 simp
theorem jn_join {S Z:St} (hS:SOk S) (hZ:Z6 Z):jnZ (encZ S) Z=encZ (joinR S (nrm Z)).1∧(joinR S (nrm Z)).2=decide (jnZ (encZ S) Z≠encZ S):=by
 cases hE:exS Z
 ·have h1:nrm Z=[]:=by rw [nrm,hE];rfl
  have h2:jnZ (encZ S) Z=encZ S:=by rw [jnZ,hE];rfl
  rw [h1,h2]
  exact ⟨rfl,by simp [joinR]⟩
 ·have h1:nrm Z=Z:=by rw [nrm,hE];rfl
  have h2:jnZ (encZ S) Z=List.zipWith (· ||| ·) (encZ S) Z:=by rw [jnZ,hE];rfl
  have hZ0:Z≠[]:=fun e=>by have:=hZ.len;rw [e] at this;cases this
  rw [h1,h2]
  by_cases h0:S=[]
  ·subst h0
   have hj:joinR [] Z=(Z,true):=by rw [joinR,if_neg hZ0,if_pos rfl]
   rw [hj,encZ_nil,zip_zero hZ]
   refine ⟨by rw [encZ,if_pos hZ.len],?_⟩
   rw [eq_comm,decide_eq_true_iff]
   intro e
   rw [e] at hE
   cases hE
  ·have hF:=hS.ful h0
   have hj:joinR S Z=(List.zipWith (· ||| ·) S Z,decide (List.zipWith (· ||| ·) S Z≠S)):=by rw [joinR,if_neg hZ0,if_neg h0]
   rw [hj,encZ_ful hF]
   refine ⟨?_,rfl⟩
   rw [encZ,if_pos (by rw [List.length_zipWith,hF.z.len,hZ.len];rfl)]
set_option maxRecDepth 100000 in
set_option maxHeartbeats 800000 in
theorem come_c (fp tb n:Nat) (T:Tbl) (g:Bool) (i:Int) (Z:St) (w:World) (h:FT w fp tb n T g) (hT:TOk T) (hZ:Z6 Z) :
  Calls Tryz.prog 37 #[.pointer (some ⟨fp,0,none⟩),.int .i64 i,.agg (zc Z).toArray] w fun e w'=>e=.returned (.tuple #[])∧FT w' fp tb n (intoF T i (nrm Z)).1 (g || (intoF T i (nrm Z)).2)∧Kp (TK2 fp tb) w w':=by
 obtain ⟨z0,z1,z2,z3,z4,z5,rfl⟩:=z6_six hZ
 rw [show Value.agg (zc [z0,z1,z2,z3,z4,z5]).toArray=zv6 z0 z1 z2 z3 z4 z5 from rfl]
 obtain ⟨c0,c1,cf,cg,cl,cm⟩:=h.c
 have HH:=hide h
 have hl:=h.len
 by_cases hi0:i<0
 ·have HE:=hide (show intoF T i (nrm [z0,z1,z2,z3,z4,z5])=(T,false) by rw [intoF,if_neg (by omega)])
  rw [HE.out,Bool.or_false]
  clear hl
  go_enter Tryz.func37,Tryz.ntmps37
  go_wp2
  refine bodyPost_ret (results_none rfl _ _ _) rfl ?_
  exact ⟨rfl,HH.out.kp (by (exact kpA)),by (exact kpA)⟩
 by_cases hin:(n:Int)≤i
 ·have HE:=hide (show intoF T i (nrm [z0,z1,z2,z3,z4,z5])=(T,false) by rw [intoF,if_neg (by omega)])
  rw [HE.out,Bool.or_false]
  have d0:decide (i<0)=false:=by simp;omega
  clear hl hi0
  go_enter Tryz.func37,Tryz.ntmps37
  go_wp2
  refine bodyPost_ret (results_none rfl _ _ _) rfl ?_
  exact ⟨rfl,HH.out.kp (by (exact kpA)),by (exact kpA)⟩
 ·obtain ⟨k,rfl⟩:=Int.eq_ofNat_of_zero_le (by omega:0≤i)
  have hk:k<n:=by omega
  have HE:=hide (show intoF T k (nrm [z0,z1,z2,z3,z4,z5])=(T.set k (joinR (T.getD k []) (nrm [z0,z1,z2,z3,z4,z5])).1,(joinR (T.getD k []) (nrm [z0,z1,z2,z3,z4,z5])).2) by rw [intoF,if_pos (by omega),Int.toNat_natCast])
  rw [HE.out]
  have d0:decide ((k:Int)<0)=false:=by simp
  have d1:decide (n≤k)=false:=by simp;omega
  have d2:decide ((n:Int)≤k)=false:=by simp;omega
  have hkI:(k:Int)<n:=by omega
  obtain ⟨m0,m1,m2,m3,m4,m5,hm⟩:=z6_six (encZ_z6 (hT.get k))
  obtain ⟨q0,q1,q2,q3,q4,q5⟩:=h.at hk hm
  obtain ⟨j1,j2⟩:=jn_join (hT.get k) hZ
  have hSet:T.set k (T.getD k [])=T:=set_getD (by omega)
  have hsame:(joinR (T.getD k []) (nrm [z0,z1,z2,z3,z4,z5])).2=false→(joinR (T.getD k []) (nrm [z0,z1,z2,z3,z4,z5])).1=T.getD k []:=join_same
  have HJ:=hide (fun W=>joined_c m0 m1 m2 m3 m4 m5 z0 z1 z2 z3 z4 z5 W (hm ▸ encZ_z6 (hT.get k)) hZ)
  rw [hm] at j1 j2
  have hjz:Z6 (jnZ [m0,m1,m2,m3,m4,m5] [z0,z1,z2,z3,z4,z5]):=by
   rw [j1]
   exact encZ_z6 ((hT.get k).join (by unfold nrm;split;exact .inr ⟨rfl,fun m hm'=>⟨by rename_i hx;have:=List.all_eq_true.1 hx m hm';simpa using this,hZ.lt m hm'⟩⟩;exact .inl rfl))
  obtain ⟨r0,r1,r2,r3,r4,r5,hr⟩:=z6_six hjz
  rw [hr] at HJ j1 j2
  have HJJ:Hid (∀ W,Calls Tryz.prog 74 #[zv6 m0 m1 m2 m3 m4 m5,zv6 z0 z1 z2 z3 z4 z5] W fun e w'=>e=.returned (zv6 r0 r1 r2 r3 r4 r5)∧Kp no W w'):=fun W=>HJ.out W
  clear HJ
  clear hl hi0 hin h hm hr hjz
  have HTG:=hide (hT.get k)
  have HTG2:Hid (SOk (T.getD k [])):=HTG.out
  clear HTG
  generalize T.getD k []=S0 at *
  clear HE HTG2
  have HTG:=hide (hT.get k)
  generalize joinR S0 (nrm [z0,z1,z2,z3,z4,z5])=J at *
  obtain ⟨J1,J2⟩:=J
  dsimp only at *
  have HJ1:=hide j1
  have HJ2:=hide j2
  have HST:=hide hSet
  have HSM:=hide hsame
  clear j1 j2 hSet hsame
  go_enter Tryz.func37,Tryz.ntmps37
  go_wp2_with fail
  refine (HJJ.out _).mono ?_
  rintro e w1 ⟨rfl,k1⟩
  have HF1:=hide (HH.out.kp (Kp.trans (by (exact kpA)) k1 (fun _ _ e=>e)))
  have HK1:=hide (show Kp no w w1 from Kp.trans (by (exact kpA)) k1 (fun _ _ e=>e))
  have hob:Blk w1 (w.heap.size+1) [.int .i64 m0,.int .i64 m1,.int .i64 m2,.int .i64 m3,.int .i64 m4,.int .i64 m5] 75:=k1.blk (by (exact blA)) no_elim
  have hk1:=(HK1.out).size
  have hcl0:=cl
  have hcm0:=cm
  clear c0 c1 cf cg cl cm q0 q1 q2 q3 q4 q5 k1
  obtain ⟨c0,c1,cf,cg,cl,cm⟩:=HF1.out.c
  obtain ⟨o0,o1,o2,o3,o4,o5,of,ol⟩:=hob.c6
  have heq:∀ W,(Op.equalIn 9999 73 (.agg #[.int .i64 r0,.int .i64 r1,.int .i64 r2,.int .i64 r3,.int .i64 r4,.int .i64 r5]) (.agg #[.int .i64 m0,.int .i64 m1,.int .i64 m2,.int .i64 m3,.int .i64 m4,.int .i64 m5])).run Tryz.prog W=.ok (decide ([r0,r1,r2,r3,r4,r5]=[m0,m1,m2,m3,m4,m5])) W:=fun W=>by
   rw [eqArr,eqArr_list]
  have HJ3:=hide (show J2=!decide ([r0,r1,r2,r3,r4,r5]=[m0,m1,m2,m3,m4,m5]) by rw [HJ2.out,decide_not])
  have hne:=HF1.out.ne
  obtain ⟨t0,t1,t2,t3,t4,t5,ht⟩:=z6_six (encZ_z6 (HTG.out))
  obtain ⟨q0,q1,q2,q3,q4,q5⟩:=HF1.out.at hk ht
  clear ht HJ2
  generalize decide ([r0,r1,r2,r3,r4,r5]=[m0,m1,m2,m3,m4,m5])=q at *
  cases q
  ·go_wp2
   refine wp_gen (fun W=>FT W fp tb n T g∧Blk W w1.heap.size [.int .i64 r0,.int .i64 r1,.int .i64 r2,.int .i64 r3,.int .i64 r4,.int .i64 r5] 75∧Kp no w W) ⟨HF1.out.kp ((Kp.refl _ _).alloc _),by (exact blA),HK1.out.alloc _⟩ ?_
   rintro W ⟨hFW,hRW,kW⟩
   have HFW:=hide hFW
   have HKW:=hide kW
   clear c0 c1 cf cg cl cm q0 q1 q2 q3 q4 q5 o0 o1 o2 o3 o4 o5 of ol
   obtain ⟨c0,c1,cf,cg,cl,cm⟩:=hFW.c
   obtain ⟨t0,t1,t2,t3,t4,t5,ht⟩:=z6_six (encZ_z6 (HTG.out))
   obtain ⟨q0,q1,q2,q3,q4,q5⟩:=hFW.at hk ht
   obtain ⟨o0,o1,o2,o3,o4,o5,of,ol⟩:=hRW.c6
   clear hFW hRW kW ht
   go_region
   all_goals
    go_wp2
    go_end0
    rw [HJ3.out,Bool.not_false,Bool.or_true]
    refine ⟨rfl,((HFW.out.set hk HJ1.out.symm).turn true).kp ((Kp.refl _ _).drew),?_⟩
    have kk:=HKW.out.mono (S':=TK2 fp tb) (fun _ e=>e.elim)
    exact (((((((kk.setCell _ (fun _=>.inr rfl)).setCell _ (fun _=>.inr rfl)).setCell _ (fun _=>.inr rfl)).setCell _ (fun _=>.inr rfl)).setCell _ (fun _=>.inr rfl)).setCell _ (fun _=>.inr rfl)).setCell _ (fun _=>.inl rfl)).drew
  ·go_wp2
   go_end0
   have hj:J1=S0:=HSM.out (by rw [HJ3.out];rfl)
   rw [HJ3.out,Bool.not_true,Bool.or_false,hj,HST.out]
   refine ⟨rfl,HF1.out.kp ((Kp.refl _ _).alloc _),?_⟩
   have kk:=HK1.out.mono (S':=TK2 fp tb) (fun _ e=>e.elim)
   exact kk.alloc _
end Go.Proofs.YtellieabhaphhabGreatDoor
namespace Go.Proofs.YtellieabhaphhabGreatDoor
open Go.RowKit
theorem into_nil (T:Tbl) (i:Int):intoF T i []=(T,false):=by
 unfold intoF
 split
 ·rename_i h
  have e:joinR (T.getD i.toNat []) []=(T.getD i.toNat [],false):=by rw [joinR,if_pos rfl]
  rw [e,set_getD (by omega)]
 ·rfl
theorem or_again (a b:Nat):a ||| b ||| b=a ||| b:=by rw [Nat.or_assoc,Nat.or_self]
theorem zip_again:∀ (a b:St),List.zipWith (· ||| ·) (List.zipWith (· ||| ·) a b) b=List.zipWith (· ||| ·) a b
 | [],_=>by simp
 | _::_,[]=>by simp
 | x::a,y::b=>by simp only [List.zipWith_cons_cons,zip_again a b,or_again]
theorem join_again {a s:St} (ha:SOk a) (hs:SOk s):joinR (joinR a s).1 s=((joinR a s).1,false):=by
 by_cases h0:s=[]
 ·subst h0;rfl
 ·by_cases h1:a=[]
  ·subst h1
   have e:joinR [] s=(s,true):=by rw [joinR,if_neg h0,if_pos rfl]
   have hz:List.zipWith (· ||| ·) s s=s:=by
    have:∀ s:St,List.zipWith (· ||| ·) s s=s:=by
     intro s
     induction s with
     | nil=>rfl
     | cons x s ih=>simp only [List.zipWith_cons_cons,ih,Nat.or_self]
    exact this s
   rw [e,joinR,if_neg h0,if_neg h0,hz];simp
  ·have hl:=(hs.resolve_left h0).1
   have hl2:=(ha.resolve_left h1).1
   have e:joinR a s=(List.zipWith (· ||| ·) a s,decide (List.zipWith (· ||| ·) a s≠a)):=by rw [joinR,if_neg h0,if_neg h1]
   have hne:List.zipWith (· ||| ·) a s≠[]:=fun e=>by
    have:=congrArg List.length e
    rw [List.length_zipWith,hl,hl2] at this
    cases this
   rw [e,joinR,if_neg h0,if_neg hne,zip_again];simp
theorem into_again {T:Tbl} (hT:TOk T) (i:Int) {s:St} (hs:SOk s):intoF (intoF T i s).1 i s=((intoF T i s).1,false):=by
 by_cases h:0≤i∧i<T.length
 ·have e:intoF T i s=(T.set i.toNat (joinR (T.getD i.toNat []) s).1,(joinR (T.getD i.toNat []) s).2):=by rw [intoF,if_pos h]
  rw [e]
  have hl:i.toNat<T.length:=by omega
  have g:(T.set i.toNat (joinR (T.getD i.toNat []) s).1).getD i.toNat []=(joinR (T.getD i.toNat []) s).1:=by
   rw [List.getD_eq_getElem?_getD,List.getElem?_set_self hl];rfl
  rw [intoF,if_pos (by rw [List.length_set];exact h)]
  dsimp only
  rw [g,join_again (hT.get _) hs,List.set_set]
 ·have e:intoF T i s=(T,false):=by rw [intoF,if_neg h]
  rw [e];exact e
theorem SOk.alg {S:St} (n:Nd) (b:Bool) (h:SOk S):SOk (algF n b S):=by
 unfold algF;split
 ·exact h.hld n b
 ·exact h.beh n
theorem pas_two {n:Nd} {T:Tbl} (hT:TOk T) {i:Nat} {S:St} (hS:T.getD i []=S) (h0:S≠[]) :
  pasF n i T=((intoF (intoF T (yesN n) (algF n true S)).1 (noN n) (algF n false S)).1,(intoF T (yesN n) (algF n true S)).2 || (intoF (intoF T (yesN n) (algF n true S)).1 (noN n) (algF n false S)).2):=by
 have hSO:SOk S:=hS ▸ hT.get i
 rw [pasF,hS,if_neg h0]
 by_cases ht:n.op=121∨n.op=58
 ·rw [if_pos ht,algF,algF,if_pos ht,if_pos ht,yesN,noN,if_pos ht,if_neg (by omega)]
 ·rw [if_neg ht,algF,algF,if_neg ht,if_neg ht,noN,if_neg ht]
  by_cases h3:n.op=33
  ·have hb:behF n S=[]:=by rw [behF,if_pos h3]
   rw [hb,into_nil,into_nil,into_nil];rfl
  ·rw [yesN,if_neg h3,into_again hT _ (hSO.beh n),Bool.or_false]
set_option maxRecDepth 100000 in
set_option maxHeartbeats 1600000 in
theorem pass_c (fp tb n:Nat) (T:Tbl) (g:Bool) (i:Nat) (nd:Nd) (tx:ByteArray) (w:World) (h:FT w fp tb n T g) (hT:TOk T) (hi:i<n) (hg:Gn nd) :
  Calls Tryz.prog 38 #[.pointer (some ⟨fp,0,none⟩),.int .i64 i,.agg #[.string tx,.int .i64 (actN nd.op),.int .i64 nd.x,.int .i64 nd.y,.int .i64 (if nd.op=43∨nd.op=60 then nd.v else nd.y),.int .i64 (bit (consN nd).k),.int .i64 (consN nd).n,.int .i64 (bit (consN nd).v),.int .i64 (if nd.op=126∨nd.op=58 then bit nd.k else 0),.int .i64 (yesN nd),.int .i64 (noN nd)]] w
   fun e w'=>e=.returned (.tuple #[])∧FT w' fp tb n (pasF nd i T).1 (g || (pasF nd i T).2)∧Kp (TK2 fp tb) w w':=by
 have HH:=hide h
 have HSO:=hide (fun W hW=>stateOf_c fp tb n T g i W hW hi)
 have hSk:=hT.get i
 obtain ⟨m0,m1,m2,m3,m4,m5,hm⟩:=z6_six (encZ_z6 hSk)
 obtain ⟨c0,c1,cf,cg,cl,cm⟩:=h.c
 have HAL:=hide (fun b S W hF=>along_c nd tx (yesN nd) (noN nd) S b W hg hF)
 have HP2:=hide (fun h0=>pas_two (n:=nd) (i:=i) (S:=T.getD i []) hT rfl h0)
 have HP1:=hide (fun h0:T.getD i []=[]=>show pasF nd i T=(T,false) by rw [pasF,if_pos h0])
 have HEX:=hide (exS_enc hSk)
 generalize hSS:T.getD i []=S at *
 clear hSS
 rw [hm] at HSO HEX
 have HZ6:=hide (show Z6 [m0,m1,m2,m3,m4,m5] from hm ▸ encZ_z6 hSk)
 have HM:=hide hm
 have HSOK:=hide hSk
 clear h hm hSk
 generalize pasF nd i T=PF at *
 generalize yesN nd=yn at *
 generalize noN nd=nn at *
 generalize actN nd.op=act at *
 generalize (if nd.op=43∨nd.op=60 then nd.v else nd.y)=nwv at *
 generalize (if nd.op=126∨nd.op=58 then bit nd.k else 0)=kdv at *
 generalize (consN nd).n=cnn at *
 generalize bit (consN nd).k=ckk at *
 generalize bit (consN nd).v=chh at *
 have HSO2:Hid (∀ W,FT W fp tb n T g→Calls Tryz.prog 39 #[.slice (some ⟨tb,0,none⟩) n n,.int .i64 i] W fun e w'=>e=.returned (zv6 m0 m1 m2 m3 m4 m5)∧Kp no W w'):=fun W hW=>HSO.out W hW
 clear HSO
 go_enter Tryz.func38,Tryz.ntmps38
 go_wp2_with fail
 refine (HSO2.out _ (HH.out.kp (by (exact kpA)))).mono ?_
 rintro e w1 ⟨rfl,k1⟩
 have hN1:Blk w1 w.heap.size [.string tx,.int .i64 act,.int .i64 nd.x,.int .i64 nd.y,.int .i64 nwv,.int .i64 ckk,.int .i64 cnn,.int .i64 chh,.int .i64 kdv,.int .i64 yn,.int .i64 nn] 68:=k1.blk (by (exact blA)) no_elim
 have HF1:=hide (HH.out.kp (Kp.trans (by (exact kpA)) k1 (fun _ _ e=>e)))
 have HK1:=hide (show Kp no w w1 from Kp.trans (by (exact kpA)) k1 (fun _ _ e=>e))
 have hs1:=HK1.out.size
 have hnl:=hN1.lt
 clear k1 HSO2 c0 c1 cf cg cl cm
 go_wp2_with fail
 refine (exists_c _ [m0,m1,m2,m3,m4,m5] _ (by (show Blk _ _ [.int .i64 m0,.int .i64 m1,.int .i64 m2,.int .i64 m3,.int .i64 m4,.int .i64 m5] _);(exact blA)) HZ6.out).mono ?_
 rintro e w' ⟨rfl,rfl⟩
 rw [HEX.out]
 clear HEX
 by_cases h0:S=[]
 ·have HPP:=hide (HP1.out h0)
  rw [decide_eq_false (fun e=>e h0)]
  go_wp2
  refine bodyPost_ret (results_none rfl _ _ _) rfl ?_
  rw [HPP.out,Bool.or_false]
  exact ⟨rfl,HF1.out.kp ((Kp.refl _ _).alloc _),(HK1.out.alloc _).mono (fun _ e=>e.elim)⟩
 ·have hFul:=HSOK.out.ful h0
  have hSm:S=[m0,m1,m2,m3,m4,m5]:=by rw [← encZ_ful hFul];exact HM.out
  have HPP:=hide (HP2.out h0)
  rw [decide_eq_true h0]
  clear HP1 HP2 h0 HM
  subst hSm
  have HFU:=hide hFul
  clear hFul
  obtain ⟨n0,n1,n2,n3,n4,n5,n6,n7,n8,n9,n10,nf⟩:=hN1.c11
  go_wp2_with fail
  refine (HAL.out true [m0,m1,m2,m3,m4,m5] _ HFU.out).mono ?_
  rintro e w3 ⟨Z,rfl,hZ6,hZn,k3⟩
  obtain ⟨y0,y1,y2,y3,y4,y5,rfl⟩:=z6_six hZ6
  rw [show Value.agg (zc [y0,y1,y2,y3,y4,y5]).toArray=zv6 y0 y1 y2 y3 y4 y5 from rfl]
  have hN3:Blk w3 w.heap.size [.string tx,.int .i64 act,.int .i64 nd.x,.int .i64 nd.y,.int .i64 nwv,.int .i64 ckk,.int .i64 cnn,.int .i64 chh,.int .i64 kdv,.int .i64 yn,.int .i64 nn] 68:=k3.blk (by (exact blA)) no_elim
  have hA3:Blk w3 w1.heap.size [.int .i64 m0,.int .i64 m1,.int .i64 m2,.int .i64 m3,.int .i64 m4,.int .i64 m5] 75:=k3.blk (by (exact blA)) no_elim
  have HF3:=hide (HF1.out.kp (Kp.trans (by (exact kpA)) k3 (fun _ _ e=>e)))
  have HK3:=hide (HK1.out.trans (S':=no) (Kp.trans (by (exact kpA)) k3 (fun _ _ e=>e)) (fun _ _ e=>e))
  have HZY:=hide hZ6
  have HNY:=hide hZn
  clear k3 n0 n1 n2 n3 n4 n5 n6 n7 n8 n9 n10 nf hN1 hnl HF1 HK1 hZ6 hZn
  obtain ⟨n0,n1,n2,n3,n4,n5,n6,n7,n8,n9,n10,nf⟩:=hN3.c11;have hnl:=hN3.lt
  obtain ⟨a0,a1,a2,a3,a4,a5,af,al⟩:=hA3.c6
  go_wp2_with fail
  refine (HAL.out false [m0,m1,m2,m3,m4,m5] _ HFU.out).mono ?_
  rintro e w4 ⟨Z2,rfl,hZ6,hZn,k4⟩
  obtain ⟨o0,o1,o2,o3,o4,o5,rfl⟩:=z6_six hZ6
  rw [show Value.agg (zc [o0,o1,o2,o3,o4,o5]).toArray=zv6 o0 o1 o2 o3 o4 o5 from rfl]
  have hN4:Blk w4 w.heap.size [.string tx,.int .i64 act,.int .i64 nd.x,.int .i64 nd.y,.int .i64 nwv,.int .i64 ckk,.int .i64 cnn,.int .i64 chh,.int .i64 kdv,.int .i64 yn,.int .i64 nn] 68:=k4.blk (by (exact blA)) no_elim
  have hY4:Blk w4 w3.heap.size [.int .i64 y0,.int .i64 y1,.int .i64 y2,.int .i64 y3,.int .i64 y4,.int .i64 y5] 75:=k4.blk (by (exact blA)) no_elim
  have HF4:=hide (HF3.out.kp (Kp.trans (by (exact kpA)) k4 (fun _ _ e=>e)))
  have HK4:=hide (HK3.out.trans (S':=no) (Kp.trans (by (exact kpA)) k4 (fun _ _ e=>e)) (fun _ _ e=>e))
  have HZO:=hide hZ6
  have HNO:=hide hZn
  clear k4 n0 n1 n2 n3 n4 n5 n6 n7 n8 n9 n10 nf hN3 hnl a0 a1 a2 a3 a4 a5 af al hA3 HF3 HK3 hZ6 hZn
  obtain ⟨n0,n1,n2,n3,n4,n5,n6,n7,n8,n9,n10,nf⟩:=hN4.c11;have hnl:=hN4.lt
  obtain ⟨b0,b1,b2,b3,b4,b5,bf,bl⟩:=hY4.c6
  have HCO1:=hide (fun W hW=>come_c fp tb n T g yn [y0,y1,y2,y3,y4,y5] W hW hT HZY.out)
  have HOK1:=hide (hT.into yn (HSOK.out.alg nd true))
  rw [HNY.out] at HCO1
  rw [show Value.agg (zc [y0,y1,y2,y3,y4,y5]).toArray=zv6 y0 y1 y2 y3 y4 y5 from rfl] at HCO1
  have HCO2:=hide (fun W g hW=>come_c fp tb n (intoF T yn (algF nd true [m0,m1,m2,m3,m4,m5])).1 g nn [o0,o1,o2,o3,o4,o5] W hW HOK1.out HZO.out)
  rw [HNO.out] at HCO2
  rw [show Value.agg (zc [o0,o1,o2,o3,o4,o5]).toArray=zv6 o0 o1 o2 o3 o4 o5 from rfl] at HCO2
  generalize intoF T yn (algF nd true [m0,m1,m2,m3,m4,m5])=I1 at *
  obtain ⟨T1,g1⟩:=I1
  dsimp only at HCO1 HCO2 HPP
  go_wp2_with fail
  refine (HCO1.out _ (HF4.out.kp (by (exact kpA)))).mono ?_
  rintro e w5 ⟨rfl,hF5,k5⟩
  have hne:∀ b,w.heap.size≤b→¬ TK2 fp tb b:=fun b hb e=>by
   have:=HH.out.c.2.2.2.2
   rcases e with rfl|rfl <;> omega
  have hN5:Blk w5 w.heap.size [.string tx,.int .i64 act,.int .i64 nd.x,.int .i64 nd.y,.int .i64 nwv,.int .i64 ckk,.int .i64 cnn,.int .i64 chh,.int .i64 kdv,.int .i64 yn,.int .i64 nn] 68:=k5.blk (by (exact blA)) (hne _ (Nat.le_refl _))
  have hO5:Blk w5 w4.heap.size [.int .i64 o0,.int .i64 o1,.int .i64 o2,.int .i64 o3,.int .i64 o4,.int .i64 o5] 75:=k5.blk (by (exact blA)) (hne _ HK4.out.size)
  have HK5:=hide (show Kp (TK2 fp tb) w w5 from Kp.trans (S':=TK2 fp tb) (HK4.out.mono (fun _ e=>e.elim) |>.alloc _) k5 (fun _ _ e=>e))
  clear k5 n0 n1 n2 n3 n4 n5 n6 n7 n8 n9 n10 nf hN4 hnl b0 b1 b2 b3 b4 b5 bf bl hY4
  obtain ⟨n0,n1,n2,n3,n4,n5,n6,n7,n8,n9,n10,nf⟩:=hN5.c11;have hnl:=hN5.lt
  obtain ⟨b0,b1,b2,b3,b4,b5,bf,bl⟩:=hO5.c6
  have HF5:=hide hF5
  clear hF5
  go_wp2_with fail
  refine (HCO2.out _ _ HF5.out).mono ?_
  rintro e w6 ⟨rfl,hF6,k6⟩
  go_wp2
  go_end0
  rw [HPP.out]
  refine ⟨rfl,?_,HK5.out.trans k6 (fun _ _ e=>e)⟩
  rw [← Bool.or_assoc]
  exact hF6
end Go.Proofs.YtellieabhaphhabGreatDoor
namespace Go.Proofs.YtellieabhaphhabGreatDoor
open Go.RowKit
theorem info_st:(Tryz.prog.info? 75).map (fun i=>(i.zero,i.size,i.bytes))=some (some (.agg #[.int .i64 0,.int .i64 0,.int .i64 0,.int .i64 0,.int .i64 0,.int .i64 0]),6,48):=by kernel_rfl
theorem made_six (n:Nat):(madeCells (Value.agg #[.int .i64 0,.int .i64 0,.int .i64 0,.int .i64 0,.int .i64 0,.int .i64 0]).cells (n*6)).toList=tCells (List.replicate n []):=by
 apply List.ext_getElem
 ·rw [tCells,flat_len _ 6 zce6];simp [madeCells]
 ·intro i h1 h2
  have hc:(Value.agg #[.int .i64 0,.int .i64 0,.int .i64 0,.int .i64 0,.int .i64 0,.int .i64 0]).cells=#[.int .i64 0,.int .i64 0,.int .i64 0,.int .i64 0,.int .i64 0,.int .i64 0]:=rfl
  have hall:∀ v∈tCells (List.replicate n []),v=.int .i64 0:=by
   intro v hv
   rw [tCells,List.mem_flatMap] at hv
   obtain ⟨s,hs,hv⟩:=hv
   rw [List.eq_of_mem_replicate hs] at hv
   simp [zc,encZ] at hv
   exact hv
  rw [hall _ (List.getElem_mem h2)]
  simp only [madeCells,hc,Array.getElem_toList,Array.getElem_map,Array.getElem_range]
  have hm:i % 6<6:=Nat.mod_lt _ (by decide)
  rcases (show i % 6=0∨i % 6=1∨i % 6=2∨i % 6=3∨i % 6=4∨i % 6=5 by omega) with e|e|e|e|e|e <;> simp [e]
theorem rowk_blk {w:World} {b n k:Nat} {T:TypeId} {vs:List Value} (h:Row w (.slice (some ⟨b,0,none⟩) n n) T k n vs):Blk w b vs T:=by
 rcases h.2 with ⟨e,_⟩|⟨g,cap,cur,e,_,hg,_,_,hs,ht⟩
 ·cases e
 ·injection e with e1 e2 e3
  injection e1 with e1
  injection e1 with e1
  subst e1 e3
  rw [List.take_of_length_le (by simp [hs])] at ht
  unfold Blk
  rw [hg,← ht]
def tN (n:Nat):Tbl:=(tR n).take n
theorem tN_into (n:Nat):intoF (List.replicate n []) 0 st0=(tN n,decide (0<n)):=by
 cases n with
 | zero=>rfl
 | succ n =>
  rw [intoF,if_pos (by simp)]
  have e:joinR ((List.replicate (n+1) ([]:St)).getD (0:Int).toNat []) st0=(st0,true):=rfl
  rw [e]
  refine Prod.ext ?_ (by simp)
  show (List.replicate (n+1) ([]:St)).set 0 st0=(st0::List.replicate (n+1) []).take (n+1)
  rw [List.replicate_succ,List.set_cons_zero,List.take_succ_cons,← List.replicate_succ,List.take_replicate]
  simp
theorem tN_len (n:Nat):(tN n).length=n:=by rw [tN,tR,List.length_take];simp
theorem tN_ok (n:Nat):TOk (tN n):=fun s hs=>tR_ok n s (List.mem_of_mem_take hs)
theorem rep_ok (n:Nat):TOk (List.replicate n []):=fun s hs=>by rw [List.eq_of_mem_replicate hs];exact .nil
theorem lst_tN (l:List Nd):lstF l=itF l 4000 (tN l.length):=by
 rw [lstF,it_take (Nat.le_refl _) (by simp [tR])];rfl
theorem st0_z6:Z6 st0:=⟨rfl,by decide⟩
theorem nrm_st0:nrm st0=st0:=rfl
structure NS (w:World) (fp tb n:Nat) (T:Tbl) (g:Bool) (v:Value) (L:List NN):Prop where
 f:FT w fp tb n T g
 r:NRow w v L
 o1:v.ownBlock≠some fp
 o2:v.ownBlock≠some tb
theorem NS.kp {w w':World} {fp tb n:Nat} {T:Tbl} {g:Bool} {v:Value} {L:List NN} (h:NS w fp tb n T g v L) (k:Kp no w w'):NS w' fp tb n T g v L :=
 ⟨h.f.kp k,k.row h.r (fun _ _=>no_elim),h.o1,h.o2⟩
theorem NS.tk {w w':World} {fp tb n:Nat} {T T':Tbl} {g g':Bool} {v:Value} {L:List NN} (h:NS w fp tb n T g v L) (k:Kp (TK2 fp tb) w w') (f:FT w' fp tb n T' g'):NS w' fp tb n T' g' v L :=
 ⟨f,k.row h.r (fun b hb e=>by rcases e with rfl|rfl;exact h.o1 hb;exact h.o2 hb),h.o1,h.o2⟩
theorem NS.turn {w:World} {fp tb n:Nat} {T:Tbl} {g:Bool} {v:Value} {L:List NN} (h:NS w fp tb n T g v L) (b:Bool):NS (w.setCell ⟨fp,1,none⟩ (.bool b)) fp tb n T b v L :=
 ⟨h.f.turn b,Row.set h.r _ h.o1,h.o1,h.o2⟩
set_option maxRecDepth 100000 in
set_option maxHeartbeats 1600000 in
theorem leastTable_c (s:ByteArray) (v:Value) (l:List Nd) (w:World) (h:NRow w v (l.map (encX s))) (hl:l.length≤90) (hg:∀ n∈l,Gd s n) :
  Calls Tryz.prog 18 #[v] w fun e w'=>∃ tb,e=.returned (.slice (some ⟨tb,0,none⟩) l.length l.length)∧Blk w' tb (tCells (lstF l)) 75∧Kp no w w':=by
 obtain ⟨i0,hi,hz0,hz1,hz2⟩:=info_parts info_st
 obtain ⟨a,cap,rfl⟩:=h.shape
 rw [List.length_map] at h ⊢
 have HD:=hide h
 clear h
 go_enter Tryz.func18,Tryz.ntmps18
 go_wp2_with (at_make;refine wpList_make_full _ rfl (.tmp 8) (.tmp 8) 46 rfl 0 75 i0 _ 6 Tryz.underlying46 hi hz0 hz1 .i64 .i64 (l.length:Int) (l.length:Int) l.length (by simp [Act.eval]) (by simp [Act.eval]) rfl rfl (by rw [hz2];omega) (by unfold maxLen;omega) (Nat.zero_le _) ?_;intro w1 hrow hgrow)
 have k1:Kp no w w1:=(Kp.refl _ _).grown hgrow (fun k _ e=>by cases e)
 have hb:=rowk_blk hrow
 rw [made_six] at hb
 have hbl:=hb.lt
 have hN0:NS (w1.alloc (.cells #[.slice (some ⟨w.heap.size,0,none⟩) l.length l.length,.bool false] 72)) w1.heap.size w.heap.size l.length (List.replicate l.length []) false (.slice a l.length cap) (l.map (encX s)):=by
  refine ⟨⟨by (exact blA),by omega,by simp,hb.alloc _⟩,World.ownsRow.alloc (k1.row HD.out (fun _ _=>no_elim)) _,?_,?_⟩
  ·intro e;have:=Row.lt HD.out e;have:=k1.size;omega
  ·intro e;have:=Row.lt HD.out e;omega
 have hk0:Kp no w (w1.alloc (.cells #[.slice (some ⟨w.heap.size,0,none⟩) l.length l.length,.bool false] 72)):=k1.alloc _
 have hs1:=k1.size
 refine (firstState_c _).mono ?_
 rintro e w2 ⟨rfl,k2⟩
 rw [show Value.agg (zc st0).toArray=zv6 8 8 8 8 8 8 from rfl]
 have HN2:=hide (hN0.kp k2)
 have HK2:=hide (hk0.trans k2 (fun _ _ e=>e))
 clear hN0 hk0 k2 hb hrow hgrow k1 hbl
 generalize w1.heap.size=fp at *
 obtain ⟨tb,htb⟩:∃ tb,tb=w.heap.size:=⟨_,rfl⟩
 rw [← htb] at HN2 ⊢
 have HTB:=hide htb
 have HTP:=hide hs1
 clear hs1 htb
 have HCO:=hide (fun W hW=>come_c fp tb l.length (List.replicate l.length []) false 0 st0 W hW (rep_ok _) st0_z6)
 rw [nrm_st0,tN_into,Bool.false_or] at HCO
 rw [show Value.agg (zc st0).toArray=zv6 8 8 8 8 8 8 from rfl] at HCO
 dsimp only at HCO
 go_wp2_with fail
 refine (HCO.out _ (HN2.out.f.kp (by (exact kpA)))).mono ?_
 rintro e w3 ⟨rfl,hF3,k3⟩
 have HN3:=hide ((HN2.out.kp (by (exact kpA))).tk k3 hF3)
 have HK3:=hide ((HK2.out.alloc _).trans k3 (fun x hx e=>by have:=HTB.out;have:=HTP.out;rcases e with rfl|rfl <;> omega))
 clear hF3 k3 HN2 HK2 HCO
 have HOK:=hide (tN_ok l.length)
 have HTL:=hide (tN_len l.length)
 have HFIN:=hide (lst_tN l)
 go_wp2
 go_loopg [] 4000 (fun k wr=>∃ (j:Nat) (g:Bool),k=4000-j∧NS wr fp tb l.length (itF l j (tN l.length)) g (.slice a l.length cap) (l.map (encX s))∧(g=true→j≤mT (itF l j (tN l.length)))∧(g=false→(swpF l 0 (itF l j (tN l.length))).1=itF l j (tN l.length)∧j≤4000)∧Kp no w wr)
 case atStart =>
  refine ⟨0,_,rfl,HN3.out,fun _=>Nat.zero_le _,fun e=>⟨?_,Nat.zero_le _⟩,HK3.out⟩
  have h0:l.length=0:=by have:=of_decide_eq_false e;omega
  rw [List.length_eq_zero_iff.1 h0]
  rfl
 case round =>
  obtain ⟨j,g,hk,hS,hgt,hgf,kr⟩:=hrel
  have HKK:=hide hk
  have HS:=hide hS
  have HGT:=hide hgt
  have HGF:=hide hgf
  have HKR:=hide kr
  obtain ⟨c0,c1,cf,cg,cl,cm⟩:=hS.f.c
  have HTO:=hide (TOk.it (l:=l) (k:=j) HOK.out)
  have HIT:=hide (it_succ l j (tN l.length))
  have HRST:=hide (fun hf hj=>it_rest l (tN l.length) j hf 4000 hj)
  have HBD:=hide (show mT (itF l j (tN l.length))≤3780 from Nat.le_trans (mT_le HTO.out) (by rw [it_len,HTL.out];omega))
  clear hk hS hgt hgf kr
  generalize hTT:itF l j (tN l.length)=T at *
  cases g
  ·obtain ⟨hf,hj⟩:=HGF.out rfl
   have HR2:=hide (HRST.out hf hj)
   clear hf hj hTT
   go_wp2
   go_ret
   refine ⟨tb,rfl,?_,HKR.out⟩
   rw [HFIN.out,HR2.out]
   exact HS.out.f.b
  ·have hj:=HGT.out rfl
   have hsw:=swp_le (l:=l) (i:=0) HTO.out
   have HSW:=hide hsw
   clear hTT hsw
   go_wp2
   go_loopg [19] l.length (fun k iv wx=>∃ q:Nat,q≤l.length∧k=l.length-q∧iv=.int .i64 q∧NS wx fp tb l.length (swpF (l.take q) 0 T).1 (swpF (l.take q) 0 T).2 (.slice a l.length cap) (l.map (encX s))∧Kp no w wx)
   case atStart=>exact ⟨0,Nat.zero_le _,rfl,rfl,HS.out.turn false,HKR.out.setCell _ (fun hb=>by have:=HTP.out;dsimp only at hb;omega)⟩
   case round =>
    obtain ⟨q,hq,hk2,rfl,hS2,kx⟩:=hrel
    have HKK2:=hide hk2
    have HB:=hide hS2
    have HKB:=hide kx
    clear hk2 hS2 kx c0 c1 cf cg cl cm
    by_cases hlt:q<l.length
    ·obtain ⟨nd,hnd⟩:∃ nd,l[q]?=some nd:=⟨_,List.getElem?_eq_getElem hlt⟩
     have HGD:=hide (hg nd (List.mem_of_getElem? hnd))
     have HSN:=hide (show swpF (l.take (q+1)) 0 T=((pasF nd q (swpF (l.take q) 0 T).1).1,(swpF (l.take q) 0 T).2 || (pasF nd q (swpF (l.take q) 0 T).1).2) by
      obtain ⟨h1,rfl⟩:=List.getElem?_eq_some_iff.1 hnd
      rw [List.take_succ_eq_append_getElem h1,swp_snoc,List.length_take,Nat.min_eq_left hq,Nat.zero_add])
     have HTQ:=hide (TOk.swp (l:=l.take q) (i:=0) HTO.out)
     have hRR:NRow wr (.slice a (l.map (encX s)).length cap) (l.map (encX s)):=by
      have:=HB.out.r
      rw [show (Value.slice a l.length cap)=.slice a (l.map (encX s)).length cap by rw [List.length_map]] at this
      exact this
     obtain ⟨_,gn,ha,hgn,n0,n1,n2,n3,n4,n5,n6,n7,n8,n9,n10⟩:=NRow.at hRR (k:=q) (n:=encX s nd) (by rw [List.getElem?_map,hnd];rfl)
     subst ha
     clear hnd hRR
     generalize swpF (l.take q) 0 T=TG at *
     obtain ⟨T1,g1⟩:=TG
     dsimp only at HSN HTQ HB
     have HPA:=hide (fun W hW=>pass_c fp tb l.length T1 g1 q nd (s.extract nd.a.toNat (nd.a+nd.l).toNat) W hW HTQ.out hlt HGD.out.g)
     dsimp only [encX,encN] at n0 n1 n2 n3 n4 n5 n6 n7 n8 n9 n10
     generalize s.extract nd.a.toNat (nd.a+nd.l).toNat=tx at *
     generalize pasF nd q T1=PF at *
     generalize yesN nd=yn at *
     generalize noN nd=nn at *
     generalize actN nd.op=act at *
     generalize (if nd.op=43∨nd.op=60 then nd.v else nd.y)=nwv at *
     generalize (if nd.op=126∨nd.op=58 then bit nd.k else 0)=kdv at *
     generalize (consN nd).n=cnn at *
     generalize bit (consN nd).k=ckk at *
     generalize bit (consN nd).v=chh at *
     have hqI:(q:Int)<l.length:=by omega
     go_wp2_with fail
     refine (HPA.out _ (HB.out.f.kp (by (exact kpA)))).mono ?_
     rintro e w5 ⟨rfl,hF5,k5⟩
     have HB5:=hide ((HB.out.kp (by (exact kpA))).tk k5 hF5)
     have HK5:=hide ((HKB.out.alloc _).trans k5 (fun x hx e=>by have:=HTB.out;have:=HTP.out;rcases e with rfl|rfl <;> omega))
     go_wp2
     go_roundg (l.length-(q+1))
     case measure=>have:=HKK2.out;omega
     case rel=>exact ⟨q+1,by omega,rfl,by go_num,by rw [HSN.out];exact HB5.out,HK5.out⟩
    ·obtain rfl:q=l.length:=by omega
     rw [List.take_length] at HB
     go_wp2
     go_roundg (4000-(j+1))
     case measure=>have:=HKK.out;have:=HBD.out;omega
     case rel =>
      refine ⟨j+1,_,rfl,by rw [HIT.out];exact HB.out,?_,?_,HKB.out⟩
      ·intro e
       rw [HIT.out]
       have:=HSW.out.2 e
       omega
      ·intro e
       rw [HIT.out,swp_same e]
       exact ⟨swp_same e,by have:=HBD.out;omega⟩
end Go.Proofs.YtellieabhaphhabGreatDoor
