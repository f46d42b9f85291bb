import Derived.Test.YtellieabhaphhabGreatDoorPAllF
namespace Go.Proofs.YtellieabhaphhabGreatDoor
open Go.RowKit
theorem nvalueOf_c {w:World} {r:Nat} {inp:ByteArray} {m:Mc} (i:Nat) (u:Vl) (h:NB w r inp m) (hu:m.l[i]?=some u) :
  Calls Tryz.prog 86 #[.pointer (some ⟨r,0,none⟩),.int .i64 i] w fun e w'=>e=.returned (.agg #[.int .i64 (bit u.k),.int .i64 u.n,.int .i64 (bit u.v)])∧Kp no w w':=by
 obtain ⟨hb,h6⟩:=h
 obtain ⟨l,rd,left,tr,outp,me⟩:=m
 dsimp only at *
 obtain ⟨a,b,c,d,e,f,rfl⟩:=six_of h6
 have hi:=(List.getElem?_eq_some_iff.1 hu).1
 simp only [List.length_cons,List.length_nil] at hi
 rcases (show i=0∨i=1∨i=2∨i=3∨i=4∨i=5 by omega) with rfl|rfl|rfl|rfl|rfl|rfl
 ·have hu2:a=u:=by simpa using hu
  rw [← hu2]
  exact nvalueOf_0 r inp tr outp rd (bit a.k) a.n (bit a.v) (bit b.k) b.n (bit b.v) (bit c.k) c.n (bit c.v) (bit d.k) d.n (bit d.v) (bit e.k) e.n (bit e.v) (bit f.k) f.n (bit f.v) w hb
 ·have hu2:b=u:=by simpa using hu
  rw [← hu2]
  exact nvalueOf_1 r inp tr outp rd (bit a.k) a.n (bit a.v) (bit b.k) b.n (bit b.v) (bit c.k) c.n (bit c.v) (bit d.k) d.n (bit d.v) (bit e.k) e.n (bit e.v) (bit f.k) f.n (bit f.v) w hb
 ·have hu2:c=u:=by simpa using hu
  rw [← hu2]
  exact nvalueOf_2 r inp tr outp rd (bit a.k) a.n (bit a.v) (bit b.k) b.n (bit b.v) (bit c.k) c.n (bit c.v) (bit d.k) d.n (bit d.v) (bit e.k) e.n (bit e.v) (bit f.k) f.n (bit f.v) w hb
 ·have hu2:d=u:=by simpa using hu
  rw [← hu2]
  exact nvalueOf_3 r inp tr outp rd (bit a.k) a.n (bit a.v) (bit b.k) b.n (bit b.v) (bit c.k) c.n (bit c.v) (bit d.k) d.n (bit d.v) (bit e.k) e.n (bit e.v) (bit f.k) f.n (bit f.v) w hb
 ·have hu2:e=u:=by simpa using hu
  rw [← hu2]
  exact nvalueOf_4 r inp tr outp rd (bit a.k) a.n (bit a.v) (bit b.k) b.n (bit b.v) (bit c.k) c.n (bit c.v) (bit d.k) d.n (bit d.v) (bit e.k) e.n (bit e.v) (bit f.k) f.n (bit f.v) w hb
 ·have hu2:f=u:=by simpa using hu
  rw [← hu2]
  exact nvalueOf_5 r inp tr outp rd (bit a.k) a.n (bit a.v) (bit b.k) b.n (bit b.v) (bit c.k) c.n (bit c.v) (bit d.k) d.n (bit d.v) (bit e.k) e.n (bit e.v) (bit f.k) f.n (bit f.v) w hb
theorem nset_c {w:World} {r:Nat} {inp:ByteArray} {m:Mc} (i:Nat) (u:Vl) (h:NB w r inp m) (hi:i<6) :
  Calls Tryz.prog 90 #[.pointer (some ⟨r,0,none⟩),.int .i64 i,.agg #[.int .i64 (bit u.k),.int .i64 u.n,.int .i64 (bit u.v)]] w fun e w'=>e=.returned (.tuple #[])∧NB w' r inp (putL m i u)∧Kp (·=r) w w':=by
 obtain ⟨hb,h6⟩:=h
 obtain ⟨l,rd,left,tr,outp,me⟩:=m
 dsimp only at *
 obtain ⟨a,b,c,d,e,f,rfl⟩:=six_of h6
 rcases (show i=0∨i=1∨i=2∨i=3∨i=4∨i=5 by omega) with rfl|rfl|rfl|rfl|rfl|rfl
 ·refine (nset_0 r inp tr outp rd (bit a.k) a.n (bit a.v) (bit b.k) b.n (bit b.v) (bit c.k) c.n (bit c.v) (bit d.k) d.n (bit d.v) (bit e.k) e.n (bit e.v) (bit f.k) f.n (bit f.v) (bit u.k) u.n (bit u.v) w hb).mono ?_
  rintro x w' ⟨rfl,hb',k'⟩
  exact ⟨rfl,⟨hb',rfl⟩,k'⟩
 ·refine (nset_1 r inp tr outp rd (bit a.k) a.n (bit a.v) (bit b.k) b.n (bit b.v) (bit c.k) c.n (bit c.v) (bit d.k) d.n (bit d.v) (bit e.k) e.n (bit e.v) (bit f.k) f.n (bit f.v) (bit u.k) u.n (bit u.v) w hb).mono ?_
  rintro x w' ⟨rfl,hb',k'⟩
  exact ⟨rfl,⟨hb',rfl⟩,k'⟩
 ·refine (nset_2 r inp tr outp rd (bit a.k) a.n (bit a.v) (bit b.k) b.n (bit b.v) (bit c.k) c.n (bit c.v) (bit d.k) d.n (bit d.v) (bit e.k) e.n (bit e.v) (bit f.k) f.n (bit f.v) (bit u.k) u.n (bit u.v) w hb).mono ?_
  rintro x w' ⟨rfl,hb',k'⟩
  exact ⟨rfl,⟨hb',rfl⟩,k'⟩
 ·refine (nset_3 r inp tr outp rd (bit a.k) a.n (bit a.v) (bit b.k) b.n (bit b.v) (bit c.k) c.n (bit c.v) (bit d.k) d.n (bit d.v) (bit e.k) e.n (bit e.v) (bit f.k) f.n (bit f.v) (bit u.k) u.n (bit u.v) w hb).mono ?_
  rintro x w' ⟨rfl,hb',k'⟩
  exact ⟨rfl,⟨hb',rfl⟩,k'⟩
 ·refine (nset_4 r inp tr outp rd (bit a.k) a.n (bit a.v) (bit b.k) b.n (bit b.v) (bit c.k) c.n (bit c.v) (bit d.k) d.n (bit d.v) (bit e.k) e.n (bit e.v) (bit f.k) f.n (bit f.v) (bit u.k) u.n (bit u.v) w hb).mono ?_
  rintro x w' ⟨rfl,hb',k'⟩
  exact ⟨rfl,⟨hb',rfl⟩,k'⟩
 ·refine (nset_5 r inp tr outp rd (bit a.k) a.n (bit a.v) (bit b.k) b.n (bit b.v) (bit c.k) c.n (bit c.v) (bit d.k) d.n (bit d.v) (bit e.k) e.n (bit e.v) (bit f.k) f.n (bit f.v) (bit u.k) u.n (bit u.v) w hb).mono ?_
  rintro x w' ⟨rfl,hb',k'⟩
  exact ⟨rfl,⟨hb',rfl⟩,k'⟩
set_option maxHeartbeats 1600000 in
theorem nnext_at (r:Nat) (inp tr outp:ByteArray) (rd:Nat) (k0 n0 v0 k1 n1 v1 k2 n2 v2 k3 n3 v3 k4 n4 v4 k5 n5 v5:Int) (w:World) (hi:inp.size≤40) (hb:Blk w r [.int .i64 k0,.int .i64 n0,.int .i64 v0,.int .i64 k1,.int .i64 n1,.int .i64 v1,.int .i64 k2,.int .i64 n2,.int .i64 v2,.int .i64 k3,.int .i64 n3,.int .i64 v3,.int .i64 k4,.int .i64 n4,.int .i64 v4,.int .i64 k5,.int .i64 n5,.int .i64 v5,.string inp,.int .i64 rd,.string tr,.string outp] 91) :
  Calls Tryz.prog 89 #[.pointer (some ⟨r,0,none⟩)] w fun e w'=>(rd<inp.size→e=.returned (.agg (inVal (pk inp rd)).nc.toArray)∧Blk w' r [.int .i64 k0,.int .i64 n0,.int .i64 v0,.int .i64 k1,.int .i64 n1,.int .i64 v1,.int .i64 k2,.int .i64 n2,.int .i64 v2,.int .i64 k3,.int .i64 n3,.int .i64 v3,.int .i64 k4,.int .i64 n4,.int .i64 v4,.int .i64 k5,.int .i64 n5,.int .i64 v5,.string inp,.int .i64 (rd+1:Nat),.string tr,.string outp] 91)∧(¬ rd<inp.size→e=.returned (.agg (inVal 90).nc.toArray)∧Blk w' r [.int .i64 k0,.int .i64 n0,.int .i64 v0,.int .i64 k1,.int .i64 n1,.int .i64 v1,.int .i64 k2,.int .i64 n2,.int .i64 v2,.int .i64 k3,.int .i64 n3,.int .i64 v3,.int .i64 k4,.int .i64 n4,.int .i64 v4,.int .i64 k5,.int .i64 n5,.int .i64 v5,.string inp,.int .i64 rd,.string tr,.string outp] 91)∧Kp (·=r) w w':=by
 have hr:=hb.lt
 by_cases hlt:rd<inp.size
 ·have HP:=hide (show pk inp rd=(inp[rd]'hlt).toNat by simp [pk,hlt])
  have HI:=hide (fun W=>ninputValue_c (pk inp rd) (pk_lt inp rd) W)
  have hpl:=pk_lt inp rd
  have HV:Hid ((inVal (pk inp rd)).nc=[.int .i64 (bit (inVal (pk inp rd)).k),.int .i64 (inVal (pk inp rd)).n,.int .i64 (bit (inVal (pk inp rd)).v)]):=rfl
  unfold Vl.nc at HI
  generalize bit (inVal (pk inp rd)).k=ik at HI HV
  generalize (inVal (pk inp rd)).n=inn at HI HV
  generalize bit (inVal (pk inp rd)).v=iv at HI HV
  rw [HP.out] at HI hpl
  go_enter Tryz.func89,Tryz.ntmps89
  go_wp2
  refine wp_gen (fun W=>Blk W r [.int .i64 k0,.int .i64 n0,.int .i64 v0,.int .i64 k1,.int .i64 n1,.int .i64 v1,.int .i64 k2,.int .i64 n2,.int .i64 v2,.int .i64 k3,.int .i64 n3,.int .i64 v3,.int .i64 k4,.int .i64 n4,.int .i64 v4,.int .i64 k5,.int .i64 n5,.int .i64 v5,.string inp,.int .i64 rd,.string tr,.string outp] 91∧Blk W w.heap.size [.int .i64 0,.int .i64 0,.int .i64 0] 66∧Kp (·=r) w W) ⟨by (exact blA),by (exact blA),by (exact kpA)⟩ ?_
  rintro W ⟨hbW,hL,kW⟩
  obtain ⟨c0,c1,c2,c3,c4,c5,c6,c7,c8,c9,c10,c11,c12,c13,c14,c15,c16,c17,c18,c19,c20,c21,cf⟩:=hbW.c22
  clear c0 c1 c2 c3 c4 c5 c6 c7 c8 c9 c10 c11 c12 c13 c14 c15 c16 c17
  have hrW:=hbW.lt
  have hLl:=hL.lt
  go_quiet (fail)
  go_wp2
  go_quiet (fail)
  go_wp2_with fail
  refine (HI.out _).mono ?_
  rintro e w2 ⟨rfl,kp2⟩
  have hL2:Blk w2 w.heap.size [.int .i64 0,.int .i64 0,.int .i64 0] 66:=kp2.blk (by (exact blA)) no_elim
  have hb2:Blk w2 r [.int .i64 k0,.int .i64 n0,.int .i64 v0,.int .i64 k1,.int .i64 n1,.int .i64 v1,.int .i64 k2,.int .i64 n2,.int .i64 v2,.int .i64 k3,.int .i64 n3,.int .i64 v3,.int .i64 k4,.int .i64 n4,.int .i64 v4,.int .i64 k5,.int .i64 n5,.int .i64 v5,.string inp,.int .i64 ((rd:Int)+1),.string tr,.string outp] 91:=kp2.blk (by (exact blA)) no_elim
  have K2:=kp2.mono (S':=(·=r)) (fun _ e=>False.elim e)
  obtain ⟨z0,z1,z2,zf⟩:=hL2.c3
  have hz:=hL2.lt
  go_wp2
  refine body_agg (Tb:=66) (b:=w.heap.size) (cs:=[.int .i64 ik,.int .i64 inn,.int .i64 iv]) (.inr rfl) Tryz.results89 rfl rfl (by (exact blA)) Tryz.underlying66 rfl (by kernel_rfl) ?_
  rw [HV.out]
  exact ⟨fun _=>⟨rfl,by push_cast;(exact blA)⟩,fun h=>absurd hlt h,by (exact kpA)⟩
 ·have HV:Hid ((inVal 90).nc=[.int .i64 8,.int .i64 0,.int .i64 0]):=rfl
  go_enter Tryz.func89,Tryz.ntmps89
  go_wp2
  refine wp_gen (fun W=>Blk W r [.int .i64 k0,.int .i64 n0,.int .i64 v0,.int .i64 k1,.int .i64 n1,.int .i64 v1,.int .i64 k2,.int .i64 n2,.int .i64 v2,.int .i64 k3,.int .i64 n3,.int .i64 v3,.int .i64 k4,.int .i64 n4,.int .i64 v4,.int .i64 k5,.int .i64 n5,.int .i64 v5,.string inp,.int .i64 rd,.string tr,.string outp] 91∧Blk W w.heap.size [.int .i64 0,.int .i64 0,.int .i64 0] 66∧Kp (·=r) w W) ⟨by (exact blA),by (exact blA),by (exact kpA)⟩ ?_
  rintro W ⟨hbW,hL,kW⟩
  obtain ⟨c0,c1,c2,c3,c4,c5,c6,c7,c8,c9,c10,c11,c12,c13,c14,c15,c16,c17,c18,c19,c20,c21,cf⟩:=hbW.c22
  clear c0 c1 c2 c3 c4 c5 c6 c7 c8 c9 c10 c11 c12 c13 c14 c15 c16 c17
  have hrW:=hbW.lt
  have hLl:=hL.lt
  obtain ⟨z0,z1,z2,zf⟩:=hL.c3
  go_quiet (fail)
  go_wp2
  refine body_agg (Tb:=66) (b:=w.heap.size) (cs:=[.int .i64 8,.int .i64 0,.int .i64 0]) (.inr rfl) Tryz.results89 rfl rfl (by (exact blA)) Tryz.underlying66 rfl (by kernel_rfl) ?_
  rw [HV.out]
  exact ⟨fun h=>absurd h hlt,fun _=>⟨rfl,by (exact blA)⟩,by (exact kpA)⟩
theorem nnext_c {w:World} {r:Nat} {inp:ByteArray} {m:Mc} (h:NB w r inp m) (hi:inp.size≤40) :
  Calls Tryz.prog 89 #[.pointer (some ⟨r,0,none⟩)] w fun e w'=>e=.returned (.agg (nextF inp m).1.nc.toArray)∧NB w' r inp (nextF inp m).2∧Kp (·=r) w w':=by
 obtain ⟨hb,h6⟩:=h
 obtain ⟨l,rd,left,tr,outp,me⟩:=m
 dsimp only at *
 obtain ⟨a,b,c,d,e,f,rfl⟩:=six_of h6
 refine (nnext_at r inp tr outp rd (bit a.k) a.n (bit a.v) (bit b.k) b.n (bit b.v) (bit c.k) c.n (bit c.v) (bit d.k) d.n (bit d.v) (bit e.k) e.n (bit e.v) (bit f.k) f.n (bit f.v) w hi hb).mono ?_
 rintro x w' ⟨h1,h2,k'⟩
 by_cases hlt:rd<inp.size
 ·obtain ⟨rfl,hb'⟩:=h1 hlt
  rw [nextF,if_pos hlt]
  exact ⟨rfl,⟨hb',rfl⟩,k'⟩
 ·obtain ⟨rfl,hb'⟩:=h2 hlt
  rw [nextF,if_neg hlt]
  exact ⟨rfl,⟨hb',rfl⟩,k'⟩
set_option maxHeartbeats 1600000 in
theorem ngiven_1 (tx:ByteArray) (nx ny nw ck cn ch kd yes nno yk yn yv wk wn wv:Int) (w:World) :
  Calls Tryz.prog 91 #[.agg #[.string tx,.int .i64 1,.int .i64 nx,.int .i64 ny,.int .i64 nw,.int .i64 ck,.int .i64 cn,.int .i64 ch,.int .i64 kd,.int .i64 yes,.int .i64 nno],.agg #[.int .i64 yk,.int .i64 yn,.int .i64 yv],.agg #[.int .i64 wk,.int .i64 wn,.int .i64 wv]] w fun e w'=>e=.returned (.agg #[.int .i64 ck,.int .i64 cn,.int .i64 ch])∧Kp no w w':=by
 go_enter Tryz.func91,Tryz.ntmps91
 go_wp2
 refine body_agg (Tb:=66) (b:=w.heap.size+3) (cs:=[.int .i64 ck,.int .i64 cn,.int .i64 ch]) (.inr rfl) Tryz.results91 rfl rfl (by (exact blA)) Tryz.underlying66 rfl (by kernel_rfl) ?_
 exact ⟨rfl,by (exact kpA)⟩
set_option maxHeartbeats 1600000 in
theorem ngiven_3 (tx:ByteArray) (nx ny nw ck cn ch kd yes nno yk yn yv wk wn wv:Int) (w:World) :
  Calls Tryz.prog 91 #[.agg #[.string tx,.int .i64 3,.int .i64 nx,.int .i64 ny,.int .i64 nw,.int .i64 ck,.int .i64 cn,.int .i64 ch,.int .i64 kd,.int .i64 yes,.int .i64 nno],.agg #[.int .i64 yk,.int .i64 yn,.int .i64 yv],.agg #[.int .i64 wk,.int .i64 wn,.int .i64 wv]] w fun e w'=>e=.returned (.agg #[.int .i64 yk,.int .i64 yn,.int .i64 yv])∧Kp no w w':=by
 go_enter Tryz.func91,Tryz.ntmps91
 go_wp2
 refine body_agg (Tb:=66) (b:=w.heap.size+3) (cs:=[.int .i64 yk,.int .i64 yn,.int .i64 yv]) (.inr rfl) Tryz.results91 rfl rfl (by (exact blA)) Tryz.underlying66 rfl (by kernel_rfl) ?_
 exact ⟨rfl,by (exact kpA)⟩
set_option maxHeartbeats 1600000 in
theorem ngiven_6 (tx:ByteArray) (nx ny nw ck cn ch kd yes nno yk yn yv wk wn wv:Int) (w:World) :
  Calls Tryz.prog 91 #[.agg #[.string tx,.int .i64 6,.int .i64 nx,.int .i64 ny,.int .i64 nw,.int .i64 ck,.int .i64 cn,.int .i64 ch,.int .i64 kd,.int .i64 yes,.int .i64 nno],.agg #[.int .i64 yk,.int .i64 yn,.int .i64 yv],.agg #[.int .i64 wk,.int .i64 wn,.int .i64 wv]] w fun e w'=>e=.returned (.agg #[.int .i64 16,.int .i64 yn,.int .i64 0])∧Kp no w w':=by
 go_enter Tryz.func91,Tryz.ntmps91
 go_wp2
 refine body_agg (Tb:=66) (b:=w.heap.size+3) (cs:=[.int .i64 16,.int .i64 yn,.int .i64 0]) (.inr rfl) Tryz.results91 rfl rfl (by (exact blA)) Tryz.underlying66 rfl (by kernel_rfl) ?_
 exact ⟨rfl,by (exact kpA)⟩
set_option maxHeartbeats 1600000 in
theorem ngiven_7 (tx:ByteArray) (nx ny nw ck cn ch kd yes nno yk yn yv wk wn wv:Int) (w:World) :
  Calls Tryz.prog 91 #[.agg #[.string tx,.int .i64 7,.int .i64 nx,.int .i64 ny,.int .i64 nw,.int .i64 ck,.int .i64 cn,.int .i64 ch,.int .i64 kd,.int .i64 yes,.int .i64 nno],.agg #[.int .i64 yk,.int .i64 yn,.int .i64 yv],.agg #[.int .i64 wk,.int .i64 wn,.int .i64 wv]] w fun e w'=>e=.returned (.agg #[.int .i64 32,.int .i64 0,.int .i64 yk])∧Kp no w w':=by
 go_enter Tryz.func91,Tryz.ntmps91
 go_wp2
 refine body_agg (Tb:=66) (b:=w.heap.size+3) (cs:=[.int .i64 32,.int .i64 0,.int .i64 yk]) (.inr rfl) Tryz.results91 rfl rfl (by (exact blA)) Tryz.underlying66 rfl (by kernel_rfl) ?_
 exact ⟨rfl,by (exact kpA)⟩
set_option maxHeartbeats 1600000 in
theorem ngiven_4 (tx:ByteArray) (nx ny nw ck cn ch kd yes nno yk yn yv wk wn wv:Int) (w:World) (h1:0≤yn) (h2:yn≤999) (h3:0≤wn) (h4:wn≤999) :
  Calls Tryz.prog 91 #[.agg #[.string tx,.int .i64 4,.int .i64 nx,.int .i64 ny,.int .i64 nw,.int .i64 ck,.int .i64 cn,.int .i64 ch,.int .i64 kd,.int .i64 yes,.int .i64 nno],.agg #[.int .i64 yk,.int .i64 yn,.int .i64 yv],.agg #[.int .i64 wk,.int .i64 wn,.int .i64 wv]] w fun e w'=>e=.returned (.agg #[.int .i64 1,.int .i64 ((yn+wn) % 1000),.int .i64 0])∧Kp no w w':=by
 have HC:=hide (fun W=>nsumOf_c yk yn yv wk wn wv W h1 h2 h3 h4)
 go_enter Tryz.func91,Tryz.ntmps91
 go_wp2_with fail
 refine (HC.out _).mono ?_
 rintro e w1 ⟨rfl,k1⟩
 have hR:Blk w1 (w.heap.size+3) [.int .i64 0,.int .i64 0,.int .i64 0] 66:=k1.blk (by (exact blA)) no_elim
 obtain ⟨z0,z1,z2,zf⟩:=hR.c3
 have hz:=hR.lt
 go_wp2
 refine body_agg (Tb:=66) (b:=w.heap.size+3) (cs:=[.int .i64 1,.int .i64 ((yn+wn) % 1000),.int .i64 0]) (.inr rfl) Tryz.results91 rfl rfl (by (exact blA)) Tryz.underlying66 rfl (by kernel_rfl) ?_
 exact ⟨rfl,by (exact kpA)⟩
set_option maxHeartbeats 1600000 in
theorem ngiven_5 (tx:ByteArray) (nx ny nw ck cn ch kd yes nno yk yn yv wk wn wv:Int) (w:World) :
  Calls Tryz.prog 91 #[.agg #[.string tx,.int .i64 5,.int .i64 nx,.int .i64 ny,.int .i64 nw,.int .i64 ck,.int .i64 cn,.int .i64 ch,.int .i64 kd,.int .i64 yes,.int .i64 nno],.agg #[.int .i64 yk,.int .i64 yn,.int .i64 yv],.agg #[.int .i64 wk,.int .i64 wn,.int .i64 wv]] w fun e w'=>e=.returned (.agg #[.int .i64 (if yn<wn then 2 else 4),.int .i64 0,.int .i64 0])∧Kp no w w':=by
 have HC:=hide (fun W=>nisBelow_c yk yn yv wk wn wv W)
 generalize (if yn<wn then (2:Int) else 4)=q at *
 go_enter Tryz.func91,Tryz.ntmps91
 go_wp2_with fail
 refine (HC.out _).mono ?_
 rintro e w1 ⟨rfl,k1⟩
 have hR:Blk w1 (w.heap.size+3) [.int .i64 0,.int .i64 0,.int .i64 0] 66:=k1.blk (by (exact blA)) no_elim
 obtain ⟨z0,z1,z2,zf⟩:=hR.c3
 have hz:=hR.lt
 go_wp2
 refine body_agg (Tb:=66) (b:=w.heap.size+3) (cs:=[.int .i64 q,.int .i64 0,.int .i64 0]) (.inr rfl) Tryz.results91 rfl rfl (by (exact blA)) Tryz.underlying66 rfl (by kernel_rfl) ?_
 exact ⟨rfl,by (exact kpA)⟩
set_option maxHeartbeats 1600000 in
theorem ngiven_8 (tx:ByteArray) (nx ny nw ck cn ch kd yes nno yk yn yv wk wn wv:Int) (w:World) :
  Calls Tryz.prog 91 #[.agg #[.string tx,.int .i64 8,.int .i64 nx,.int .i64 ny,.int .i64 nw,.int .i64 ck,.int .i64 cn,.int .i64 ch,.int .i64 kd,.int .i64 yes,.int .i64 nno],.agg #[.int .i64 yk,.int .i64 yn,.int .i64 yv],.agg #[.int .i64 wk,.int .i64 wn,.int .i64 wv]] w fun e w'=>e=.returned (.agg #[.int .i64 (if yk=16 then 1 else yv),.int .i64 (if yk=16 then yn else 0),.int .i64 0])∧Kp no w w':=by
 have HC:=hide (fun W=>nheldBy_c yk yn yv W)
 generalize (if yk=16 then (1:Int) else yv)=q at *
 generalize (if yk=16 then yn else (0:Int))=q2 at *
 go_enter Tryz.func91,Tryz.ntmps91
 go_wp2_with fail
 refine (HC.out _).mono ?_
 rintro e w1 ⟨rfl,k1⟩
 have hR:Blk w1 (w.heap.size+3) [.int .i64 0,.int .i64 0,.int .i64 0] 66:=k1.blk (by (exact blA)) no_elim
 obtain ⟨z0,z1,z2,zf⟩:=hR.c3
 have hz:=hR.lt
 go_wp2
 refine body_agg (Tb:=66) (b:=w.heap.size+3) (cs:=[.int .i64 q,.int .i64 q2,.int .i64 0]) (.inr rfl) Tryz.results91 rfl rfl (by (exact blA)) Tryz.underlying66 rfl (by kernel_rfl) ?_
 exact ⟨rfl,by (exact kpA)⟩
set_option maxHeartbeats 1600000 in
theorem nholds_c (tx:ByteArray) (act nx ny nw ck cn ch kd yes nno yk yn yv:Int) (w:World) :
  Calls Tryz.prog 92 #[.agg #[.string tx,.int .i64 act,.int .i64 nx,.int .i64 ny,.int .i64 nw,.int .i64 ck,.int .i64 cn,.int .i64 ch,.int .i64 kd,.int .i64 yes,.int .i64 nno],.agg #[.int .i64 yk,.int .i64 yn,.int .i64 yv]] w fun e w'=>e=.returned (.bool (if act=12 then (yk != 4 && yk != 8 && (yk != 1 || yn != 0)) else if act=13 then yk == kd else true))∧Kp no w w':=by
 by_cases h12:act=12
 ·subst h12
  rw [if_pos rfl]
  have HT:=hide (fun W=>ntakenAsTrue_c yk yn yv W)
  generalize (yk != 4 && yk != 8 && (yk != 1 || yn != 0))=q at *
  go_enter Tryz.func92,Tryz.ntmps92
  go_wp2_with fail
  refine (HT.out _).mono ?_
  rintro e w1 ⟨rfl,k1⟩
  go_wp2
  go_ret
  exact ⟨rfl,by (exact kpA)⟩
 by_cases h13:act=13
 ·subst h13
  rw [if_neg (by decide),if_pos rfl]
  go_enter Tryz.func92,Tryz.ntmps92
  go_wp2
  go_ret
  exact ⟨rfl,by (exact kpA)⟩
 ·rw [if_neg h12,if_neg h13]
  have f12:(act == 12)=false:=by simp [h12]
  have f13:(act == 13)=false:=by simp [h13]
  go_enter Tryz.func92,Tryz.ntmps92
  go_wp2
  go_ret
  exact ⟨rfl,by (exact kpA)⟩
end Go.Proofs.YtellieabhaphhabGreatDoor
namespace Go.Proofs.YtellieabhaphhabGreatDoor
open Go.RowKit
theorem NB.outC {w:World} {r:Nat} {inp:ByteArray} {m:Mc} (h:NB w r inp m):w.cell? ⟨r,21,none⟩=some (.string m.out):=by
 obtain ⟨hb,h6⟩:=h
 obtain ⟨l,rd,left,tr,outp,me⟩:=m
 dsimp only at *
 obtain ⟨a,b,c,d,e,f,rfl⟩:=six_of h6
 exact hb.cell 21
theorem NB.setOut {w:World} {r:Nat} {inp:ByteArray} {m:Mc} (h:NB w r inp m) (o:ByteArray):NB (w.setCell ⟨r,21,none⟩ (.string o)) r inp { m with out:=o }:=by
 obtain ⟨hb,h6⟩:=h
 obtain ⟨l,rd,left,tr,outp,me⟩:=m
 dsimp only at *
 obtain ⟨a,b,c,d,e,f,rfl⟩:=six_of h6
 exact ⟨hb.set 21 _,rfl⟩
set_option maxHeartbeats 1600000 in
theorem nway_of {w:World} {r:Nat} {inp:ByteArray} {m:Mc} (tx:ByteArray) (act nx nw ck cn ch kd yes nno:Int) (y:Nat) (u:Vl) (h:NB w r inp m) (hu:m.l[y]?=some u) (q:Bool)
  (hq:(if act=12 then (bit u.k != 4 && bit u.k != 8 && (bit u.k != 1 || u.n != 0)) else if act=13 then bit u.k == kd else true)=q) :
  Calls Tryz.prog 49 #[.pointer (some ⟨r,0,none⟩),.agg #[.string tx,.int .i64 act,.int .i64 nx,.int .i64 y,.int .i64 nw,.int .i64 ck,.int .i64 cn,.int .i64 ch,.int .i64 kd,.int .i64 yes,.int .i64 nno]] w fun e w' =>
   e=.returned (.int .i64 (if q then yes else nno))∧Kp no w w':=by
 have HV:=hide (fun W (hW:NB W r inp m)=>nvalueOf_c y u hW hu)
 have HH:=hide (fun W=>nholds_c tx act nx y nw ck cn ch kd yes nno (bit u.k) u.n (bit u.v) W)
 rw [hq] at HH
 have HB:=hide h.b
 clear hq
 generalize bit u.k=uk at *
 generalize bit u.v=uv at *
 generalize u.n=un at *
 go_enter Tryz.func49,Tryz.ntmps49
 go_wp2_with fail
 refine (HV.out _ ⟨by exact Blk.alloc HB.out _,h.six⟩).mono ?_
 rintro e w1 ⟨rfl,k1⟩
 have hN:Blk w1 w.heap.size [.string tx,.int .i64 act,.int .i64 nx,.int .i64 y,.int .i64 nw,.int .i64 ck,.int .i64 cn,.int .i64 ch,.int .i64 kd,.int .i64 yes,.int .i64 nno] 68:=k1.blk (by (exact blA)) no_elim
 obtain ⟨d0,d1,d2,d3,d4,d5,d6,d7,d8,d9,d10,df⟩:=hN.c11
 have hz:=hN.lt
 go_wp2_with fail
 refine (HH.out _).mono ?_
 rintro e w2 ⟨rfl,k2⟩
 have hN2:Blk w2 w.heap.size [.string tx,.int .i64 act,.int .i64 nx,.int .i64 y,.int .i64 nw,.int .i64 ck,.int .i64 cn,.int .i64 ch,.int .i64 kd,.int .i64 yes,.int .i64 nno] 68:=k2.blk (by (exact blA)) no_elim
 obtain ⟨e0,e1,e2,e3,e4,e5,e6,e7,e8,e9,e10,ef⟩:=hN2.c11
 cases q
 ·go_wp2
  go_ret
  exact ⟨rfl,by (exact kpA)⟩
 ·go_wp2
  go_ret
  exact ⟨rfl,by (exact kpA)⟩
set_option maxHeartbeats 3200000 in
theorem nstep_k1 {w:World} {r:Nat} {inp:ByteArray} {m:Mc} (tx:ByteArray) (act ck cn ch kd yes nno:Int) (x y v:Nat) (yu vu:Vl) (h:NB w r inp m) (hyu:m.l[y]?=some yu) (hvu:m.l[v]?=some vu)
  (hb1:(bits BinOp.and IntKind.i64 (bit yu.k) (tkM act) == 0)=true) :
  Calls Tryz.prog 48 #[.pointer (some ⟨r,0,none⟩),.agg #[.string tx,.int .i64 act,.int .i64 x,.int .i64 y,.int .i64 v,.int .i64 ck,.int .i64 cn,.int .i64 ch,.int .i64 kd,.int .i64 yes,.int .i64 nno]] w fun e w'=>e=.returned (.int .i64 5)∧NB w' r inp m∧Kp (·=r) w w':=by
 have HV:=hide (fun W (hW:NB W r inp m)=>nvalueOf_c y yu hW hyu)
 have HW:=hide (fun W (hW:NB W r inp m)=>nvalueOf_c v vu hW hvu)
 have HT:=hide (fun W=>ntakenKinds_c act W)
 have hr:=h.b.lt
 have HB:=hide h
 clear h
 generalize bit yu.k=yk at *
 generalize bit yu.v=yv at *
 generalize bit vu.k=wk at *
 generalize bit vu.v=wv at *
 generalize hyn:yu.n=yn at *
 generalize hwn:vu.n=wn at *
 generalize tkM act=tk at *
 have HYN:=hide hyn
 have HWN:=hide hwn
 clear hyn hwn
 go_enter Tryz.func48,Tryz.ntmps48
 go_wp2_with fail
 refine (HV.out _ ⟨Blk.alloc HB.out.b _,HB.out.six⟩).mono ?_
 rintro e w1 ⟨rfl,k1⟩
 have hN:Blk w1 w.heap.size [.string tx,.int .i64 act,.int .i64 x,.int .i64 y,.int .i64 v,.int .i64 ck,.int .i64 cn,.int .i64 ch,.int .i64 kd,.int .i64 yes,.int .i64 nno] 68:=k1.blk (by (exact blA)) no_elim
 obtain ⟨d0,d1,d2,d3,d4,d5,d6,d7,d8,d9,d10,df⟩:=hN.c11
 have hz:=hN.lt
 have hB1:=k1.blk (Blk.alloc HB.out.b _) no_elim
 have hr1:=hB1.lt
 go_wp2_with fail
 refine (HW.out _ ⟨Blk.alloc hB1 _,HB.out.six⟩).mono ?_
 rintro e w2 ⟨rfl,k2⟩
 have hN2:Blk w2 w.heap.size [.string tx,.int .i64 act,.int .i64 x,.int .i64 y,.int .i64 v,.int .i64 ck,.int .i64 cn,.int .i64 ch,.int .i64 kd,.int .i64 yes,.int .i64 nno] 68:=k2.blk (by (exact blA)) no_elim
 have hY2:Blk w2 w1.heap.size [.int .i64 yk,.int .i64 yn,.int .i64 yv] 66:=k2.blk (by (exact blA)) no_elim
 obtain ⟨e0,e1,e2,e3,e4,e5,e6,e7,e8,e9,e10,ef⟩:=hN2.c11
 obtain ⟨y0,y1,y2,yf⟩:=hY2.c3
 have hB2:=k2.blk (Blk.alloc hB1 _) no_elim
 have hz2:=hY2.lt
 have hz3:=hN2.lt
 have hr2:=hB2.lt
 have hr3:r≠w.heap.size:=by omega
 have hr4:r≠w1.heap.size:=by omega
 have hr5:r≠w2.heap.size:=by omega
 have kk:Kp no w w2:=by (exact kpA)
 clear d0 d1 d2 d3 d4 d5 d6 d7 d8 d9 d10 df
 go_wp2_with fail
 refine (HT.out _).mono ?_
 rintro e w3 ⟨rfl,rfl⟩
 go_wp2_with fail
 go_ret
 have K:=kk.mono (S':=(·=r)) (fun _ e=>False.elim e)
 exact ⟨rfl,⟨Blk.alloc hB2 _,HB.out.six⟩,by (exact kpA)⟩
set_option maxHeartbeats 3200000 in
theorem nstep_k2 {w:World} {r:Nat} {inp:ByteArray} {m:Mc} (tx:ByteArray) (act ck cn ch kd yes nno:Int) (x y v:Nat) (yu vu:Vl) (h:NB w r inp m) (hyu:m.l[y]?=some yu) (hvu:m.l[v]?=some vu)
  (hb1:(bits BinOp.and IntKind.i64 (bit yu.k) (tkM act) == 0)=false) (hb2:(bits BinOp.and IntKind.i64 (bit vu.k) (tkM act) == 0)=true) :
  Calls Tryz.prog 48 #[.pointer (some ⟨r,0,none⟩),.agg #[.string tx,.int .i64 act,.int .i64 x,.int .i64 y,.int .i64 v,.int .i64 ck,.int .i64 cn,.int .i64 ch,.int .i64 kd,.int .i64 yes,.int .i64 nno]] w fun e w'=>e=.returned (.int .i64 5)∧NB w' r inp m∧Kp (·=r) w w':=by
 have HV:=hide (fun W (hW:NB W r inp m)=>nvalueOf_c y yu hW hyu)
 have HW:=hide (fun W (hW:NB W r inp m)=>nvalueOf_c v vu hW hvu)
 have HT:=hide (fun W=>ntakenKinds_c act W)
 have hr:=h.b.lt
 have HB:=hide h
 clear h
 generalize bit yu.k=yk at *
 generalize bit yu.v=yv at *
 generalize bit vu.k=wk at *
 generalize bit vu.v=wv at *
 generalize hyn:yu.n=yn at *
 generalize hwn:vu.n=wn at *
 generalize tkM act=tk at *
 have HYN:=hide hyn
 have HWN:=hide hwn
 clear hyn hwn
 go_enter Tryz.func48,Tryz.ntmps48
 go_wp2_with fail
 refine (HV.out _ ⟨Blk.alloc HB.out.b _,HB.out.six⟩).mono ?_
 rintro e w1 ⟨rfl,k1⟩
 have hN:Blk w1 w.heap.size [.string tx,.int .i64 act,.int .i64 x,.int .i64 y,.int .i64 v,.int .i64 ck,.int .i64 cn,.int .i64 ch,.int .i64 kd,.int .i64 yes,.int .i64 nno] 68:=k1.blk (by (exact blA)) no_elim
 obtain ⟨d0,d1,d2,d3,d4,d5,d6,d7,d8,d9,d10,df⟩:=hN.c11
 have hz:=hN.lt
 have hB1:=k1.blk (Blk.alloc HB.out.b _) no_elim
 have hr1:=hB1.lt
 go_wp2_with fail
 refine (HW.out _ ⟨Blk.alloc hB1 _,HB.out.six⟩).mono ?_
 rintro e w2 ⟨rfl,k2⟩
 have hN2:Blk w2 w.heap.size [.string tx,.int .i64 act,.int .i64 x,.int .i64 y,.int .i64 v,.int .i64 ck,.int .i64 cn,.int .i64 ch,.int .i64 kd,.int .i64 yes,.int .i64 nno] 68:=k2.blk (by (exact blA)) no_elim
 have hY2:Blk w2 w1.heap.size [.int .i64 yk,.int .i64 yn,.int .i64 yv] 66:=k2.blk (by (exact blA)) no_elim
 obtain ⟨e0,e1,e2,e3,e4,e5,e6,e7,e8,e9,e10,ef⟩:=hN2.c11
 obtain ⟨y0,y1,y2,yf⟩:=hY2.c3
 have hB2:=k2.blk (Blk.alloc hB1 _) no_elim
 have hz2:=hY2.lt
 have hz3:=hN2.lt
 have hr2:=hB2.lt
 have hr3:r≠w.heap.size:=by omega
 have hr4:r≠w1.heap.size:=by omega
 have hr5:r≠w2.heap.size:=by omega
 have kk:Kp no w w2:=by (exact kpA)
 clear d0 d1 d2 d3 d4 d5 d6 d7 d8 d9 d10 df
 go_wp2_with fail
 refine (HT.out _).mono ?_
 rintro e w3 ⟨rfl,rfl⟩
 go_wp2_with fail
 go_ret
 have K:=kk.mono (S':=(·=r)) (fun _ e=>False.elim e)
 exact ⟨rfl,⟨Blk.alloc hB2 _,HB.out.six⟩,by (exact kpA)⟩
set_option maxHeartbeats 3200000 in
theorem nstep_11 {w:World} {r:Nat} {inp:ByteArray} {m:Mc} (tx:ByteArray) ( ck cn ch kd yes nno:Int) (x y v:Nat) (yu vu:Vl) (h:NB w r inp m) (hyu:m.l[y]?=some yu) (hvu:m.l[v]?=some vu)
  (hb1:(bits BinOp.and IntKind.i64 (bit yu.k) (tkM 11) == 0)=false) (hb2:(bits BinOp.and IntKind.i64 (bit vu.k) (tkM 11) == 0)=false) :
  Calls Tryz.prog 48 #[.pointer (some ⟨r,0,none⟩),.agg #[.string tx,.int .i64 11,.int .i64 x,.int .i64 y,.int .i64 v,.int .i64 ck,.int .i64 cn,.int .i64 ch,.int .i64 kd,.int .i64 yes,.int .i64 nno]] w fun e w'=>e=.returned (.int .i64 6)∧NB w' r inp m∧Kp (·=r) w w':=by
 have HV:=hide (fun W (hW:NB W r inp m)=>nvalueOf_c y yu hW hyu)
 have HW:=hide (fun W (hW:NB W r inp m)=>nvalueOf_c v vu hW hvu)
 have HT:=hide (fun W=>ntakenKinds_c 11 W)
 have hr:=h.b.lt
 have HB:=hide h
 clear h
 generalize bit yu.k=yk at *
 generalize bit yu.v=yv at *
 generalize bit vu.k=wk at *
 generalize bit vu.v=wv at *
 generalize hyn:yu.n=yn at *
 generalize hwn:vu.n=wn at *
 generalize tkM 11=tk at *
 have HYN:=hide hyn
 have HWN:=hide hwn
 clear hyn hwn
 go_enter Tryz.func48,Tryz.ntmps48
 go_wp2_with fail
 refine (HV.out _ ⟨Blk.alloc HB.out.b _,HB.out.six⟩).mono ?_
 rintro e w1 ⟨rfl,k1⟩
 have hN:Blk w1 w.heap.size [.string tx,.int .i64 11,.int .i64 x,.int .i64 y,.int .i64 v,.int .i64 ck,.int .i64 cn,.int .i64 ch,.int .i64 kd,.int .i64 yes,.int .i64 nno] 68:=k1.blk (by (exact blA)) no_elim
 obtain ⟨d0,d1,d2,d3,d4,d5,d6,d7,d8,d9,d10,df⟩:=hN.c11
 have hz:=hN.lt
 have hB1:=k1.blk (Blk.alloc HB.out.b _) no_elim
 have hr1:=hB1.lt
 go_wp2_with fail
 refine (HW.out _ ⟨Blk.alloc hB1 _,HB.out.six⟩).mono ?_
 rintro e w2 ⟨rfl,k2⟩
 have hN2:Blk w2 w.heap.size [.string tx,.int .i64 11,.int .i64 x,.int .i64 y,.int .i64 v,.int .i64 ck,.int .i64 cn,.int .i64 ch,.int .i64 kd,.int .i64 yes,.int .i64 nno] 68:=k2.blk (by (exact blA)) no_elim
 have hY2:Blk w2 w1.heap.size [.int .i64 yk,.int .i64 yn,.int .i64 yv] 66:=k2.blk (by (exact blA)) no_elim
 obtain ⟨e0,e1,e2,e3,e4,e5,e6,e7,e8,e9,e10,ef⟩:=hN2.c11
 obtain ⟨y0,y1,y2,yf⟩:=hY2.c3
 have hB2:=k2.blk (Blk.alloc hB1 _) no_elim
 have hz2:=hY2.lt
 have hz3:=hN2.lt
 have hr2:=hB2.lt
 have hr3:r≠w.heap.size:=by omega
 have hr4:r≠w1.heap.size:=by omega
 have hr5:r≠w2.heap.size:=by omega
 have kk:Kp no w w2:=by (exact kpA)
 clear d0 d1 d2 d3 d4 d5 d6 d7 d8 d9 d10 df
 go_wp2_with fail
 refine (HT.out _).mono ?_
 rintro e w3 ⟨rfl,rfl⟩
 go_wp2_with fail
 go_ret
 have K:=kk.mono (S':=(·=r)) (fun _ e=>False.elim e)
 exact ⟨rfl,⟨Blk.alloc hB2 _,HB.out.six⟩,by (exact kpA)⟩
set_option maxHeartbeats 3200000 in
theorem nstep_12 {w:World} {r:Nat} {inp:ByteArray} {m:Mc} (tx:ByteArray) ( ck cn ch kd yes nno:Int) (x y v:Nat) (yu vu:Vl) (h:NB w r inp m) (hyu:m.l[y]?=some yu) (hvu:m.l[v]?=some vu)
  (hb1:(bits BinOp.and IntKind.i64 (bit yu.k) (tkM 12) == 0)=false) (hb2:(bits BinOp.and IntKind.i64 (bit vu.k) (tkM 12) == 0)=false) :
  Calls Tryz.prog 48 #[.pointer (some ⟨r,0,none⟩),.agg #[.string tx,.int .i64 12,.int .i64 x,.int .i64 y,.int .i64 v,.int .i64 ck,.int .i64 cn,.int .i64 ch,.int .i64 kd,.int .i64 yes,.int .i64 nno]] w fun e w'=>e=.returned (.int .i64 0)∧NB w' r inp m∧Kp (·=r) w w':=by
 have HV:=hide (fun W (hW:NB W r inp m)=>nvalueOf_c y yu hW hyu)
 have HW:=hide (fun W (hW:NB W r inp m)=>nvalueOf_c v vu hW hvu)
 have HT:=hide (fun W=>ntakenKinds_c 12 W)
 have hr:=h.b.lt
 have HB:=hide h
 clear h
 generalize bit yu.k=yk at *
 generalize bit yu.v=yv at *
 generalize bit vu.k=wk at *
 generalize bit vu.v=wv at *
 generalize hyn:yu.n=yn at *
 generalize hwn:vu.n=wn at *
 generalize tkM 12=tk at *
 have HYN:=hide hyn
 have HWN:=hide hwn
 clear hyn hwn
 go_enter Tryz.func48,Tryz.ntmps48
 go_wp2_with fail
 refine (HV.out _ ⟨Blk.alloc HB.out.b _,HB.out.six⟩).mono ?_
 rintro e w1 ⟨rfl,k1⟩
 have hN:Blk w1 w.heap.size [.string tx,.int .i64 12,.int .i64 x,.int .i64 y,.int .i64 v,.int .i64 ck,.int .i64 cn,.int .i64 ch,.int .i64 kd,.int .i64 yes,.int .i64 nno] 68:=k1.blk (by (exact blA)) no_elim
 obtain ⟨d0,d1,d2,d3,d4,d5,d6,d7,d8,d9,d10,df⟩:=hN.c11
 have hz:=hN.lt
 have hB1:=k1.blk (Blk.alloc HB.out.b _) no_elim
 have hr1:=hB1.lt
 go_wp2_with fail
 refine (HW.out _ ⟨Blk.alloc hB1 _,HB.out.six⟩).mono ?_
 rintro e w2 ⟨rfl,k2⟩
 have hN2:Blk w2 w.heap.size [.string tx,.int .i64 12,.int .i64 x,.int .i64 y,.int .i64 v,.int .i64 ck,.int .i64 cn,.int .i64 ch,.int .i64 kd,.int .i64 yes,.int .i64 nno] 68:=k2.blk (by (exact blA)) no_elim
 have hY2:Blk w2 w1.heap.size [.int .i64 yk,.int .i64 yn,.int .i64 yv] 66:=k2.blk (by (exact blA)) no_elim
 obtain ⟨e0,e1,e2,e3,e4,e5,e6,e7,e8,e9,e10,ef⟩:=hN2.c11
 obtain ⟨y0,y1,y2,yf⟩:=hY2.c3
 have hB2:=k2.blk (Blk.alloc hB1 _) no_elim
 have hz2:=hY2.lt
 have hz3:=hN2.lt
 have hr2:=hB2.lt
 have hr3:r≠w.heap.size:=by omega
 have hr4:r≠w1.heap.size:=by omega
 have hr5:r≠w2.heap.size:=by omega
 have kk:Kp no w w2:=by (exact kpA)
 clear d0 d1 d2 d3 d4 d5 d6 d7 d8 d9 d10 df
 go_wp2_with fail
 refine (HT.out _).mono ?_
 rintro e w3 ⟨rfl,rfl⟩
 go_wp2_with fail
 go_ret
 have K:=kk.mono (S':=(·=r)) (fun _ e=>False.elim e)
 exact ⟨rfl,⟨Blk.alloc hB2 _,HB.out.six⟩,by (exact kpA)⟩
set_option maxHeartbeats 3200000 in
theorem nstep_13 {w:World} {r:Nat} {inp:ByteArray} {m:Mc} (tx:ByteArray) ( ck cn ch kd yes nno:Int) (x y v:Nat) (yu vu:Vl) (h:NB w r inp m) (hyu:m.l[y]?=some yu) (hvu:m.l[v]?=some vu)
  (hb1:(bits BinOp.and IntKind.i64 (bit yu.k) (tkM 13) == 0)=false) (hb2:(bits BinOp.and IntKind.i64 (bit vu.k) (tkM 13) == 0)=false) :
  Calls Tryz.prog 48 #[.pointer (some ⟨r,0,none⟩),.agg #[.string tx,.int .i64 13,.int .i64 x,.int .i64 y,.int .i64 v,.int .i64 ck,.int .i64 cn,.int .i64 ch,.int .i64 kd,.int .i64 yes,.int .i64 nno]] w fun e w'=>e=.returned (.int .i64 0)∧NB w' r inp m∧Kp (·=r) w w':=by
 have HV:=hide (fun W (hW:NB W r inp m)=>nvalueOf_c y yu hW hyu)
 have HW:=hide (fun W (hW:NB W r inp m)=>nvalueOf_c v vu hW hvu)
 have HT:=hide (fun W=>ntakenKinds_c 13 W)
 have hr:=h.b.lt
 have HB:=hide h
 clear h
 generalize bit yu.k=yk at *
 generalize bit yu.v=yv at *
 generalize bit vu.k=wk at *
 generalize bit vu.v=wv at *
 generalize hyn:yu.n=yn at *
 generalize hwn:vu.n=wn at *
 generalize tkM 13=tk at *
 have HYN:=hide hyn
 have HWN:=hide hwn
 clear hyn hwn
 go_enter Tryz.func48,Tryz.ntmps48
 go_wp2_with fail
 refine (HV.out _ ⟨Blk.alloc HB.out.b _,HB.out.six⟩).mono ?_
 rintro e w1 ⟨rfl,k1⟩
 have hN:Blk w1 w.heap.size [.string tx,.int .i64 13,.int .i64 x,.int .i64 y,.int .i64 v,.int .i64 ck,.int .i64 cn,.int .i64 ch,.int .i64 kd,.int .i64 yes,.int .i64 nno] 68:=k1.blk (by (exact blA)) no_elim
 obtain ⟨d0,d1,d2,d3,d4,d5,d6,d7,d8,d9,d10,df⟩:=hN.c11
 have hz:=hN.lt
 have hB1:=k1.blk (Blk.alloc HB.out.b _) no_elim
 have hr1:=hB1.lt
 go_wp2_with fail
 refine (HW.out _ ⟨Blk.alloc hB1 _,HB.out.six⟩).mono ?_
 rintro e w2 ⟨rfl,k2⟩
 have hN2:Blk w2 w.heap.size [.string tx,.int .i64 13,.int .i64 x,.int .i64 y,.int .i64 v,.int .i64 ck,.int .i64 cn,.int .i64 ch,.int .i64 kd,.int .i64 yes,.int .i64 nno] 68:=k2.blk (by (exact blA)) no_elim
 have hY2:Blk w2 w1.heap.size [.int .i64 yk,.int .i64 yn,.int .i64 yv] 66:=k2.blk (by (exact blA)) no_elim
 obtain ⟨e0,e1,e2,e3,e4,e5,e6,e7,e8,e9,e10,ef⟩:=hN2.c11
 obtain ⟨y0,y1,y2,yf⟩:=hY2.c3
 have hB2:=k2.blk (Blk.alloc hB1 _) no_elim
 have hz2:=hY2.lt
 have hz3:=hN2.lt
 have hr2:=hB2.lt
 have hr3:r≠w.heap.size:=by omega
 have hr4:r≠w1.heap.size:=by omega
 have hr5:r≠w2.heap.size:=by omega
 have kk:Kp no w w2:=by (exact kpA)
 clear d0 d1 d2 d3 d4 d5 d6 d7 d8 d9 d10 df
 go_wp2_with fail
 refine (HT.out _).mono ?_
 rintro e w3 ⟨rfl,rfl⟩
 go_wp2_with fail
 go_ret
 have K:=kk.mono (S':=(·=r)) (fun _ e=>False.elim e)
 exact ⟨rfl,⟨Blk.alloc hB2 _,HB.out.six⟩,by (exact kpA)⟩
set_option maxHeartbeats 3200000 in
theorem nstep_14 {w:World} {r:Nat} {inp:ByteArray} {m:Mc} (tx:ByteArray) ( ck cn ch kd yes nno:Int) (x y v:Nat) (yu vu:Vl) (h:NB w r inp m) (hyu:m.l[y]?=some yu) (hvu:m.l[v]?=some vu)
  (hb1:(bits BinOp.and IntKind.i64 (bit yu.k) (tkM 14) == 0)=false) (hb2:(bits BinOp.and IntKind.i64 (bit vu.k) (tkM 14) == 0)=false) :
  Calls Tryz.prog 48 #[.pointer (some ⟨r,0,none⟩),.agg #[.string tx,.int .i64 14,.int .i64 x,.int .i64 y,.int .i64 v,.int .i64 ck,.int .i64 cn,.int .i64 ch,.int .i64 kd,.int .i64 yes,.int .i64 nno]] w fun e w'=>e=.returned (.int .i64 0)∧NB w' r inp m∧Kp (·=r) w w':=by
 have HV:=hide (fun W (hW:NB W r inp m)=>nvalueOf_c y yu hW hyu)
 have HW:=hide (fun W (hW:NB W r inp m)=>nvalueOf_c v vu hW hvu)
 have HT:=hide (fun W=>ntakenKinds_c 14 W)
 have hr:=h.b.lt
 have HB:=hide h
 clear h
 generalize bit yu.k=yk at *
 generalize bit yu.v=yv at *
 generalize bit vu.k=wk at *
 generalize bit vu.v=wv at *
 generalize hyn:yu.n=yn at *
 generalize hwn:vu.n=wn at *
 generalize tkM 14=tk at *
 have HYN:=hide hyn
 have HWN:=hide hwn
 clear hyn hwn
 go_enter Tryz.func48,Tryz.ntmps48
 go_wp2_with fail
 refine (HV.out _ ⟨Blk.alloc HB.out.b _,HB.out.six⟩).mono ?_
 rintro e w1 ⟨rfl,k1⟩
 have hN:Blk w1 w.heap.size [.string tx,.int .i64 14,.int .i64 x,.int .i64 y,.int .i64 v,.int .i64 ck,.int .i64 cn,.int .i64 ch,.int .i64 kd,.int .i64 yes,.int .i64 nno] 68:=k1.blk (by (exact blA)) no_elim
 obtain ⟨d0,d1,d2,d3,d4,d5,d6,d7,d8,d9,d10,df⟩:=hN.c11
 have hz:=hN.lt
 have hB1:=k1.blk (Blk.alloc HB.out.b _) no_elim
 have hr1:=hB1.lt
 go_wp2_with fail
 refine (HW.out _ ⟨Blk.alloc hB1 _,HB.out.six⟩).mono ?_
 rintro e w2 ⟨rfl,k2⟩
 have hN2:Blk w2 w.heap.size [.string tx,.int .i64 14,.int .i64 x,.int .i64 y,.int .i64 v,.int .i64 ck,.int .i64 cn,.int .i64 ch,.int .i64 kd,.int .i64 yes,.int .i64 nno] 68:=k2.blk (by (exact blA)) no_elim
 have hY2:Blk w2 w1.heap.size [.int .i64 yk,.int .i64 yn,.int .i64 yv] 66:=k2.blk (by (exact blA)) no_elim
 obtain ⟨e0,e1,e2,e3,e4,e5,e6,e7,e8,e9,e10,ef⟩:=hN2.c11
 obtain ⟨y0,y1,y2,yf⟩:=hY2.c3
 have hB2:=k2.blk (Blk.alloc hB1 _) no_elim
 have hz2:=hY2.lt
 have hz3:=hN2.lt
 have hr2:=hB2.lt
 have hr3:r≠w.heap.size:=by omega
 have hr4:r≠w1.heap.size:=by omega
 have hr5:r≠w2.heap.size:=by omega
 have kk:Kp no w w2:=by (exact kpA)
 clear d0 d1 d2 d3 d4 d5 d6 d7 d8 d9 d10 df
 go_wp2_with fail
 refine (HT.out _).mono ?_
 rintro e w3 ⟨rfl,rfl⟩
 go_wp2_with fail
 go_ret
 have K:=kk.mono (S':=(·=r)) (fun _ e=>False.elim e)
 exact ⟨rfl,⟨Blk.alloc hB2 _,HB.out.six⟩,by (exact kpA)⟩
set_option maxHeartbeats 3200000 in
theorem nstep_cast {w:World} {r:Nat} {inp:ByteArray} {m:Mc} (tx:ByteArray) ( ck cn ch kd yes nno:Int) (x y v:Nat) (yu vu:Vl) (h:NB w r inp m) (hyu:m.l[y]?=some yu) (hvu:m.l[v]?=some vu)
  (hb1:(bits BinOp.and IntKind.i64 (bit yu.k) (tkM 10) == 0)=false) (hb2:(bits BinOp.and IntKind.i64 (bit vu.k) (tkM 10) == 0)=false) (xu:Vl) (hxu:m.l[x]?=some xu) (hk:(bit xu.k == kd)=true) :
  Calls Tryz.prog 48 #[.pointer (some ⟨r,0,none⟩),.agg #[.string tx,.int .i64 10,.int .i64 x,.int .i64 y,.int .i64 v,.int .i64 ck,.int .i64 cn,.int .i64 ch,.int .i64 kd,.int .i64 yes,.int .i64 nno]] w fun e w'=>e=.returned (.int .i64 0)∧NB w' r inp m∧Kp (·=r) w w':=by
 have HV:=hide (fun W (hW:NB W r inp m)=>nvalueOf_c y yu hW hyu)
 have HW:=hide (fun W (hW:NB W r inp m)=>nvalueOf_c v vu hW hvu)
 have HT:=hide (fun W=>ntakenKinds_c 10 W)
 have hr:=h.b.lt
 have HB:=hide h
 clear h
 have HX:=hide (fun W (hW:NB W r inp m)=>nvalueOf_c x xu hW hxu)
 generalize bit xu.k=xk at *
 generalize bit xu.v=xv at *
 generalize xu.n=xn at *
 generalize bit yu.k=yk at *
 generalize bit yu.v=yv at *
 generalize bit vu.k=wk at *
 generalize bit vu.v=wv at *
 generalize hyn:yu.n=yn at *
 generalize hwn:vu.n=wn at *
 generalize tkM 10=tk at *
 have HYN:=hide hyn
 have HWN:=hide hwn
 clear hyn hwn
 go_enter Tryz.func48,Tryz.ntmps48
 go_wp2_with fail
 refine (HV.out _ ⟨Blk.alloc HB.out.b _,HB.out.six⟩).mono ?_
 rintro e w1 ⟨rfl,k1⟩
 have hN:Blk w1 w.heap.size [.string tx,.int .i64 10,.int .i64 x,.int .i64 y,.int .i64 v,.int .i64 ck,.int .i64 cn,.int .i64 ch,.int .i64 kd,.int .i64 yes,.int .i64 nno] 68:=k1.blk (by (exact blA)) no_elim
 obtain ⟨d0,d1,d2,d3,d4,d5,d6,d7,d8,d9,d10,df⟩:=hN.c11
 have hz:=hN.lt
 have hB1:=k1.blk (Blk.alloc HB.out.b _) no_elim
 have hr1:=hB1.lt
 go_wp2_with fail
 refine (HW.out _ ⟨Blk.alloc hB1 _,HB.out.six⟩).mono ?_
 rintro e w2 ⟨rfl,k2⟩
 have hN2:Blk w2 w.heap.size [.string tx,.int .i64 10,.int .i64 x,.int .i64 y,.int .i64 v,.int .i64 ck,.int .i64 cn,.int .i64 ch,.int .i64 kd,.int .i64 yes,.int .i64 nno] 68:=k2.blk (by (exact blA)) no_elim
 have hY2:Blk w2 w1.heap.size [.int .i64 yk,.int .i64 yn,.int .i64 yv] 66:=k2.blk (by (exact blA)) no_elim
 obtain ⟨e0,e1,e2,e3,e4,e5,e6,e7,e8,e9,e10,ef⟩:=hN2.c11
 obtain ⟨y0,y1,y2,yf⟩:=hY2.c3
 have hB2:=k2.blk (Blk.alloc hB1 _) no_elim
 have hz2:=hY2.lt
 have hz3:=hN2.lt
 have hr2:=hB2.lt
 have hr3:r≠w.heap.size:=by omega
 have hr4:r≠w1.heap.size:=by omega
 have hr5:r≠w2.heap.size:=by omega
 have kk:Kp no w w2:=by (exact kpA)
 clear d0 d1 d2 d3 d4 d5 d6 d7 d8 d9 d10 df
 go_wp2_with fail
 refine (HT.out _).mono ?_
 rintro e w3 ⟨rfl,rfl⟩
 go_wp2_with fail
 refine (HX.out _ ⟨Blk.alloc hB2 _,HB.out.six⟩).mono ?_
 rintro e w4 ⟨rfl,k4⟩
 have hB4:=k4.blk (Blk.alloc hB2 _) no_elim
 have hN4:Blk w4 w.heap.size [.string tx,.int .i64 10,.int .i64 x,.int .i64 y,.int .i64 v,.int .i64 ck,.int .i64 cn,.int .i64 ch,.int .i64 kd,.int .i64 yes,.int .i64 nno] 68:=k4.blk (by (exact blA)) no_elim
 obtain ⟨f0,f1,f2,f3,f4,f5,f6,f7,f8,f9,f10,ff⟩:=hN4.c11
 have hz4:=hN4.lt
 go_wp2
 go_ret
 have K:=kk.mono (S':=(·=r)) (fun _ e=>False.elim e)
 have K4:=k4.mono (S':=(·=r)) (fun _ e=>False.elim e)
 exact ⟨rfl,⟨Blk.alloc hB4 _,HB.out.six⟩,by (exact kpA)⟩
set_option maxHeartbeats 3200000 in
theorem nstep_castno {w:World} {r:Nat} {inp:ByteArray} {m:Mc} (tx:ByteArray) ( ck cn ch kd yes nno:Int) (x y v:Nat) (yu vu:Vl) (h:NB w r inp m) (hyu:m.l[y]?=some yu) (hvu:m.l[v]?=some vu)
  (hb1:(bits BinOp.and IntKind.i64 (bit yu.k) (tkM 10) == 0)=false) (hb2:(bits BinOp.and IntKind.i64 (bit vu.k) (tkM 10) == 0)=false) (xu:Vl) (hxu:m.l[x]?=some xu) (hk:(bit xu.k == kd)=false) :
  Calls Tryz.prog 48 #[.pointer (some ⟨r,0,none⟩),.agg #[.string tx,.int .i64 10,.int .i64 x,.int .i64 y,.int .i64 v,.int .i64 ck,.int .i64 cn,.int .i64 ch,.int .i64 kd,.int .i64 yes,.int .i64 nno]] w fun e w'=>e=.returned (.int .i64 7)∧NB w' r inp m∧Kp (·=r) w w':=by
 have HV:=hide (fun W (hW:NB W r inp m)=>nvalueOf_c y yu hW hyu)
 have HW:=hide (fun W (hW:NB W r inp m)=>nvalueOf_c v vu hW hvu)
 have HT:=hide (fun W=>ntakenKinds_c 10 W)
 have hr:=h.b.lt
 have HB:=hide h
 clear h
 have HX:=hide (fun W (hW:NB W r inp m)=>nvalueOf_c x xu hW hxu)
 generalize bit xu.k=xk at *
 generalize bit xu.v=xv at *
 generalize xu.n=xn at *
 generalize bit yu.k=yk at *
 generalize bit yu.v=yv at *
 generalize bit vu.k=wk at *
 generalize bit vu.v=wv at *
 generalize hyn:yu.n=yn at *
 generalize hwn:vu.n=wn at *
 generalize tkM 10=tk at *
 have HYN:=hide hyn
 have HWN:=hide hwn
 clear hyn hwn
 go_enter Tryz.func48,Tryz.ntmps48
 go_wp2_with fail
 refine (HV.out _ ⟨Blk.alloc HB.out.b _,HB.out.six⟩).mono ?_
 rintro e w1 ⟨rfl,k1⟩
 have hN:Blk w1 w.heap.size [.string tx,.int .i64 10,.int .i64 x,.int .i64 y,.int .i64 v,.int .i64 ck,.int .i64 cn,.int .i64 ch,.int .i64 kd,.int .i64 yes,.int .i64 nno] 68:=k1.blk (by (exact blA)) no_elim
 obtain ⟨d0,d1,d2,d3,d4,d5,d6,d7,d8,d9,d10,df⟩:=hN.c11
 have hz:=hN.lt
 have hB1:=k1.blk (Blk.alloc HB.out.b _) no_elim
 have hr1:=hB1.lt
 go_wp2_with fail
 refine (HW.out _ ⟨Blk.alloc hB1 _,HB.out.six⟩).mono ?_
 rintro e w2 ⟨rfl,k2⟩
 have hN2:Blk w2 w.heap.size [.string tx,.int .i64 10,.int .i64 x,.int .i64 y,.int .i64 v,.int .i64 ck,.int .i64 cn,.int .i64 ch,.int .i64 kd,.int .i64 yes,.int .i64 nno] 68:=k2.blk (by (exact blA)) no_elim
 have hY2:Blk w2 w1.heap.size [.int .i64 yk,.int .i64 yn,.int .i64 yv] 66:=k2.blk (by (exact blA)) no_elim
 obtain ⟨e0,e1,e2,e3,e4,e5,e6,e7,e8,e9,e10,ef⟩:=hN2.c11
 obtain ⟨y0,y1,y2,yf⟩:=hY2.c3
 have hB2:=k2.blk (Blk.alloc hB1 _) no_elim
 have hz2:=hY2.lt
 have hz3:=hN2.lt
 have hr2:=hB2.lt
 have hr3:r≠w.heap.size:=by omega
 have hr4:r≠w1.heap.size:=by omega
 have hr5:r≠w2.heap.size:=by omega
 have kk:Kp no w w2:=by (exact kpA)
 clear d0 d1 d2 d3 d4 d5 d6 d7 d8 d9 d10 df
 go_wp2_with fail
 refine (HT.out _).mono ?_
 rintro e w3 ⟨rfl,rfl⟩
 go_wp2_with fail
 refine (HX.out _ ⟨Blk.alloc hB2 _,HB.out.six⟩).mono ?_
 rintro e w4 ⟨rfl,k4⟩
 have hB4:=k4.blk (Blk.alloc hB2 _) no_elim
 have hN4:Blk w4 w.heap.size [.string tx,.int .i64 10,.int .i64 x,.int .i64 y,.int .i64 v,.int .i64 ck,.int .i64 cn,.int .i64 ch,.int .i64 kd,.int .i64 yes,.int .i64 nno] 68:=k4.blk (by (exact blA)) no_elim
 obtain ⟨f0,f1,f2,f3,f4,f5,f6,f7,f8,f9,f10,ff⟩:=hN4.c11
 have hz4:=hN4.lt
 go_wp2
 go_ret
 have K:=kk.mono (S':=(·=r)) (fun _ e=>False.elim e)
 have K4:=k4.mono (S':=(·=r)) (fun _ e=>False.elim e)
 exact ⟨rfl,⟨Blk.alloc hB4 _,HB.out.six⟩,by (exact kpA)⟩
set_option maxHeartbeats 3200000 in
theorem nstep_put {w:World} {r:Nat} {inp:ByteArray} {m:Mc} (tx:ByteArray) ( ck cn ch kd yes nno:Int) (x y v:Nat) (yu vu:Vl) (h:NB w r inp m) (hyu:m.l[y]?=some yu) (hvu:m.l[v]?=some vu)
  (hb1:(bits BinOp.and IntKind.i64 (bit yu.k) (tkM 9) == 0)=false) (hb2:(bits BinOp.and IntKind.i64 (bit vu.k) (tkM 9) == 0)=false) (hvw:VW yu) (htab:Tab w) (hsz:(spellF yu).size≤200) (hout:m.out.size≤100000) :
  Calls Tryz.prog 48 #[.pointer (some ⟨r,0,none⟩),.agg #[.string tx,.int .i64 9,.int .i64 x,.int .i64 y,.int .i64 v,.int .i64 ck,.int .i64 cn,.int .i64 ch,.int .i64 kd,.int .i64 yes,.int .i64 nno]] w fun e w'=>e=.returned (.int .i64 0)∧NB w' r inp { m with out:=m.out++spellF yu++sp }∧Kp (·=r) w w':=by
 have HV:=hide (fun W (hW:NB W r inp m)=>nvalueOf_c y yu hW hyu)
 have HW:=hide (fun W (hW:NB W r inp m)=>nvalueOf_c v vu hW hvu)
 have HT:=hide (fun W=>ntakenKinds_c 9 W)
 have hr:=h.b.lt
 have HB:=hide h
 clear h
 have HS:=hide (fun W (hW:Tab W)=>nvalueText_c yu hvw W hW)
 clear hvw
 have hsp:(ByteArray.mk #[32]).size=1:=rfl
 generalize spellF yu=sb at *
 generalize bit yu.k=yk at *
 generalize bit yu.v=yv at *
 generalize bit vu.k=wk at *
 generalize bit vu.v=wv at *
 generalize hyn:yu.n=yn at *
 generalize hwn:vu.n=wn at *
 generalize tkM 9=tk at *
 have HYN:=hide hyn
 have HWN:=hide hwn
 clear hyn hwn
 go_enter Tryz.func48,Tryz.ntmps48
 go_wp2_with fail
 refine (HV.out _ ⟨Blk.alloc HB.out.b _,HB.out.six⟩).mono ?_
 rintro e w1 ⟨rfl,k1⟩
 have hN:Blk w1 w.heap.size [.string tx,.int .i64 9,.int .i64 x,.int .i64 y,.int .i64 v,.int .i64 ck,.int .i64 cn,.int .i64 ch,.int .i64 kd,.int .i64 yes,.int .i64 nno] 68:=k1.blk (by (exact blA)) no_elim
 obtain ⟨d0,d1,d2,d3,d4,d5,d6,d7,d8,d9,d10,df⟩:=hN.c11
 have hz:=hN.lt
 have hB1:=k1.blk (Blk.alloc HB.out.b _) no_elim
 have hr1:=hB1.lt
 go_wp2_with fail
 refine (HW.out _ ⟨Blk.alloc hB1 _,HB.out.six⟩).mono ?_
 rintro e w2 ⟨rfl,k2⟩
 have hN2:Blk w2 w.heap.size [.string tx,.int .i64 9,.int .i64 x,.int .i64 y,.int .i64 v,.int .i64 ck,.int .i64 cn,.int .i64 ch,.int .i64 kd,.int .i64 yes,.int .i64 nno] 68:=k2.blk (by (exact blA)) no_elim
 have hY2:Blk w2 w1.heap.size [.int .i64 yk,.int .i64 yn,.int .i64 yv] 66:=k2.blk (by (exact blA)) no_elim
 obtain ⟨e0,e1,e2,e3,e4,e5,e6,e7,e8,e9,e10,ef⟩:=hN2.c11
 obtain ⟨y0,y1,y2,yf⟩:=hY2.c3
 have hB2:=k2.blk (Blk.alloc hB1 _) no_elim
 have hz2:=hY2.lt
 have hz3:=hN2.lt
 have hr2:=hB2.lt
 have hr3:r≠w.heap.size:=by omega
 have hr4:r≠w1.heap.size:=by omega
 have hr5:r≠w2.heap.size:=by omega
 have kk:Kp no w w2:=by (exact kpA)
 clear d0 d1 d2 d3 d4 d5 d6 d7 d8 d9 d10 df
 go_wp2_with fail
 refine (HT.out _).mono ?_
 rintro e w3 ⟨rfl,rfl⟩
 go_wp2_with fail
 refine wp_gen (fun W=>NB W r inp m∧Blk W w1.heap.size [.int .i64 yk,.int .i64 yn,.int .i64 yv] 66∧Kp (·=r) w W∧Tab W) ⟨⟨Blk.alloc hB2 _,HB.out.six⟩,by (exact blA),?_,(htab.kp kk no_elim).kp ((Kp.refl no _).alloc _) no_elim⟩ ?_
 ·have K:=kk.mono (S':=(·=r)) (fun _ e=>False.elim e)
  (exact kpA)
 clear e0 e1 e2 e3 e4 e5 e6 e7 e8 e9 e10 ef y0 y1 y2 yf
 rintro W ⟨hm,hY,hk,htW⟩
 have o1:=hm.outC
 have of:=hm.b.frozen
 have hrW:=hm.b.lt
 obtain ⟨y0,y1,y2,yf⟩:=hY.c3
 have hyl:=hY.lt
 go_region_with (go_at_call 88;refine (HS.out _ (by exact htW)).mono ?_;rintro e w5 ⟨rfl,k5⟩;have h5:NB w5 r inp m:=⟨k5.blk (by exact hm.b) no_elim,hm.six⟩;have p1:=h5.outC;have pf:=h5.b.frozen;have hr6:=h5.b.lt)
 all_goals
  go_wp2
  go_ret
  have q:=h5.setOut (m.out++(sb++sp))
  have K5:=k5.mono (S':=(·=r)) (fun _ e=>False.elim e)
  rw [← ba_assoc]
  exact ⟨rfl,q,by (exact kpA)⟩
set_option maxHeartbeats 3200000 in
theorem nstep_set {w:World} {r:Nat} {inp:ByteArray} {m:Mc} (tx:ByteArray) (act ck cn ch kd yes nno:Int) (x y v:Nat) (yu vu:Vl) (h:NB w r inp m) (hyu:m.l[y]?=some yu) (hvu:m.l[v]?=some vu)
  (hb1:(bits BinOp.and IntKind.i64 (bit yu.k) (tkM act) == 0)=false) (hb2:(bits BinOp.and IntKind.i64 (bit vu.k) (tkM act) == 0)=false) (f11:(act == 11)=false) (f10:(act == 10)=false) (f9:(act == 9)=false) (f2:(act == 2)=false) (f12:(act == 12)=false) (f13:(act == 13)=false) (f14:(act == 14)=false) (u:Vl) (hx6:x<6) (hg:∀ W,Calls Tryz.prog 91 #[.agg #[.string tx,.int .i64 act,.int .i64 x,.int .i64 y,.int .i64 v,.int .i64 ck,.int .i64 cn,.int .i64 ch,.int .i64 kd,.int .i64 yes,.int .i64 nno],.agg #[.int .i64 (bit yu.k),.int .i64 yu.n,.int .i64 (bit yu.v)],.agg #[.int .i64 (bit vu.k),.int .i64 vu.n,.int .i64 (bit vu.v)]] W fun e w'=>e=.returned (.agg #[.int .i64 (bit u.k),.int .i64 u.n,.int .i64 (bit u.v)])∧Kp no W w') :
  Calls Tryz.prog 48 #[.pointer (some ⟨r,0,none⟩),.agg #[.string tx,.int .i64 act,.int .i64 x,.int .i64 y,.int .i64 v,.int .i64 ck,.int .i64 cn,.int .i64 ch,.int .i64 kd,.int .i64 yes,.int .i64 nno]] w fun e w'=>e=.returned (.int .i64 0)∧NB w' r inp (putL m x u)∧Kp (·=r) w w':=by
 have HV:=hide (fun W (hW:NB W r inp m)=>nvalueOf_c y yu hW hyu)
 have HW:=hide (fun W (hW:NB W r inp m)=>nvalueOf_c v vu hW hvu)
 have HT:=hide (fun W=>ntakenKinds_c act W)
 have hr:=h.b.lt
 have HB:=hide h
 clear h
 have HG:=hide hg
 have HS:=hide (fun W (hW:NB W r inp m)=>nset_c x u hW hx6)
 clear hg
 generalize bit u.k=uk at *
 generalize bit u.v=uv at *
 generalize hun:u.n=un at *
 have HUN:=hide hun
 clear hun
 generalize bit yu.k=yk at *
 generalize bit yu.v=yv at *
 generalize bit vu.k=wk at *
 generalize bit vu.v=wv at *
 generalize hyn:yu.n=yn at *
 generalize hwn:vu.n=wn at *
 generalize tkM act=tk at *
 have HYN:=hide hyn
 have HWN:=hide hwn
 clear hyn hwn
 go_enter Tryz.func48,Tryz.ntmps48
 go_wp2_with fail
 refine (HV.out _ ⟨Blk.alloc HB.out.b _,HB.out.six⟩).mono ?_
 rintro e w1 ⟨rfl,k1⟩
 have hN:Blk w1 w.heap.size [.string tx,.int .i64 act,.int .i64 x,.int .i64 y,.int .i64 v,.int .i64 ck,.int .i64 cn,.int .i64 ch,.int .i64 kd,.int .i64 yes,.int .i64 nno] 68:=k1.blk (by (exact blA)) no_elim
 obtain ⟨d0,d1,d2,d3,d4,d5,d6,d7,d8,d9,d10,df⟩:=hN.c11
 have hz:=hN.lt
 have hB1:=k1.blk (Blk.alloc HB.out.b _) no_elim
 have hr1:=hB1.lt
 go_wp2_with fail
 refine (HW.out _ ⟨Blk.alloc hB1 _,HB.out.six⟩).mono ?_
 rintro e w2 ⟨rfl,k2⟩
 have hN2:Blk w2 w.heap.size [.string tx,.int .i64 act,.int .i64 x,.int .i64 y,.int .i64 v,.int .i64 ck,.int .i64 cn,.int .i64 ch,.int .i64 kd,.int .i64 yes,.int .i64 nno] 68:=k2.blk (by (exact blA)) no_elim
 have hY2:Blk w2 w1.heap.size [.int .i64 yk,.int .i64 yn,.int .i64 yv] 66:=k2.blk (by (exact blA)) no_elim
 obtain ⟨e0,e1,e2,e3,e4,e5,e6,e7,e8,e9,e10,ef⟩:=hN2.c11
 obtain ⟨y0,y1,y2,yf⟩:=hY2.c3
 have hB2:=k2.blk (Blk.alloc hB1 _) no_elim
 have hz2:=hY2.lt
 have hz3:=hN2.lt
 have hr2:=hB2.lt
 have hr3:r≠w.heap.size:=by omega
 have hr4:r≠w1.heap.size:=by omega
 have hr5:r≠w2.heap.size:=by omega
 have kk:Kp no w w2:=by (exact kpA)
 clear d0 d1 d2 d3 d4 d5 d6 d7 d8 d9 d10 df
 go_wp2_with fail
 refine (HT.out _).mono ?_
 rintro e w3 ⟨rfl,rfl⟩
 have hW2:Blk (w2.alloc (.cells #[.int .i64 wk,.int .i64 wn,.int .i64 wv] 66)) w2.heap.size [.int .i64 wk,.int .i64 wn,.int .i64 wv] 66:=by (exact blA)
 go_wp2_with fail
 refine (HG.out _).mono ?_
 rintro e w4 ⟨rfl,k4⟩
 have hB4:=k4.blk (Blk.alloc hB2 _) no_elim
 have hr6:=hB4.lt
 have hN4:Blk w4 w.heap.size [.string tx,.int .i64 act,.int .i64 x,.int .i64 y,.int .i64 v,.int .i64 ck,.int .i64 cn,.int .i64 ch,.int .i64 kd,.int .i64 yes,.int .i64 nno] 68:=k4.blk (by (exact blA)) no_elim
 obtain ⟨g0,g1,g2,g3,g4,g5,g6,g7,g8,g9,g10,gf⟩:=hN4.c11
 have hz4:=hN4.lt
 go_wp2_with fail
 refine (HS.out _ ⟨Blk.alloc hB4 _,HB.out.six⟩).mono ?_
 rintro e w5 ⟨rfl,h5,k5⟩
 go_wp2
 go_ret
 have K:=kk.mono (S':=(·=r)) (fun _ e=>False.elim e)
 have K4:=k4.mono (S':=(·=r)) (fun _ e=>False.elim e)
 exact ⟨rfl,h5,by (exact kpA)⟩
set_option maxHeartbeats 3200000 in
theorem nstep_in {w:World} {r:Nat} {inp:ByteArray} {m:Mc} (tx:ByteArray) ( ck cn ch kd yes nno:Int) (x y v:Nat) (yu vu:Vl) (h:NB w r inp m) (hyu:m.l[y]?=some yu) (hvu:m.l[v]?=some vu)
  (hb1:(bits BinOp.and IntKind.i64 (bit yu.k) (tkM 2) == 0)=false) (hb2:(bits BinOp.and IntKind.i64 (bit vu.k) (tkM 2) == 0)=false) (hinp:inp.size≤40) (hx6:x<6) :
  Calls Tryz.prog 48 #[.pointer (some ⟨r,0,none⟩),.agg #[.string tx,.int .i64 2,.int .i64 x,.int .i64 y,.int .i64 v,.int .i64 ck,.int .i64 cn,.int .i64 ch,.int .i64 kd,.int .i64 yes,.int .i64 nno]] w fun e w'=>e=.returned (.int .i64 0)∧NB w' r inp (putL (nextF inp m).2 x (nextF inp m).1)∧Kp (·=r) w w':=by
 have HV:=hide (fun W (hW:NB W r inp m)=>nvalueOf_c y yu hW hyu)
 have HW:=hide (fun W (hW:NB W r inp m)=>nvalueOf_c v vu hW hvu)
 have HT:=hide (fun W=>ntakenKinds_c 2 W)
 have hr:=h.b.lt
 have HB:=hide h
 clear h
 have HG:=hide (fun W (hW:NB W r inp m)=>nnext_c hW hinp)
 unfold Vl.nc at HG
 have HS:=hide (fun W (hW:NB W r inp (nextF inp m).2)=>nset_c x (nextF inp m).1 hW hx6)
 have h62:Hid ((nextF inp m).2.l.length=6):=hide (by have:=HB.out.six;unfold nextF;split <;> exact this)
 generalize nextF inp m=nf at *
 obtain ⟨u,m2⟩:=nf
 dsimp only at *
 generalize bit u.k=uk at *
 generalize bit u.v=uv at *
 generalize hun:u.n=un at *
 have HUN:=hide hun
 clear hun
 generalize bit yu.k=yk at *
 generalize bit yu.v=yv at *
 generalize bit vu.k=wk at *
 generalize bit vu.v=wv at *
 generalize hyn:yu.n=yn at *
 generalize hwn:vu.n=wn at *
 generalize tkM 2=tk at *
 have HYN:=hide hyn
 have HWN:=hide hwn
 clear hyn hwn
 go_enter Tryz.func48,Tryz.ntmps48
 go_wp2_with fail
 refine (HV.out _ ⟨Blk.alloc HB.out.b _,HB.out.six⟩).mono ?_
 rintro e w1 ⟨rfl,k1⟩
 have hN:Blk w1 w.heap.size [.string tx,.int .i64 2,.int .i64 x,.int .i64 y,.int .i64 v,.int .i64 ck,.int .i64 cn,.int .i64 ch,.int .i64 kd,.int .i64 yes,.int .i64 nno] 68:=k1.blk (by (exact blA)) no_elim
 obtain ⟨d0,d1,d2,d3,d4,d5,d6,d7,d8,d9,d10,df⟩:=hN.c11
 have hz:=hN.lt
 have hB1:=k1.blk (Blk.alloc HB.out.b _) no_elim
 have hr1:=hB1.lt
 go_wp2_with fail
 refine (HW.out _ ⟨Blk.alloc hB1 _,HB.out.six⟩).mono ?_
 rintro e w2 ⟨rfl,k2⟩
 have hN2:Blk w2 w.heap.size [.string tx,.int .i64 2,.int .i64 x,.int .i64 y,.int .i64 v,.int .i64 ck,.int .i64 cn,.int .i64 ch,.int .i64 kd,.int .i64 yes,.int .i64 nno] 68:=k2.blk (by (exact blA)) no_elim
 have hY2:Blk w2 w1.heap.size [.int .i64 yk,.int .i64 yn,.int .i64 yv] 66:=k2.blk (by (exact blA)) no_elim
 obtain ⟨e0,e1,e2,e3,e4,e5,e6,e7,e8,e9,e10,ef⟩:=hN2.c11
 obtain ⟨y0,y1,y2,yf⟩:=hY2.c3
 have hB2:=k2.blk (Blk.alloc hB1 _) no_elim
 have hz2:=hY2.lt
 have hz3:=hN2.lt
 have hr2:=hB2.lt
 have hr3:r≠w.heap.size:=by omega
 have hr4:r≠w1.heap.size:=by omega
 have hr5:r≠w2.heap.size:=by omega
 have kk:Kp no w w2:=by (exact kpA)
 clear d0 d1 d2 d3 d4 d5 d6 d7 d8 d9 d10 df
 go_wp2_with fail
 refine (HT.out _).mono ?_
 rintro e w3 ⟨rfl,rfl⟩
 go_wp2_with fail
 refine (HG.out _ ⟨Blk.alloc hB2 _,HB.out.six⟩).mono ?_
 rintro e w4 ⟨rfl,h4,k4⟩
 have hB4:=h4.b
 have hr6:=hB4.lt
 have hN4:Blk w4 w.heap.size [.string tx,.int .i64 2,.int .i64 x,.int .i64 y,.int .i64 v,.int .i64 ck,.int .i64 cn,.int .i64 ch,.int .i64 kd,.int .i64 yes,.int .i64 nno] 68:=k4.blk (by (exact blA)) (by omega)
 obtain ⟨g0,g1,g2,g3,g4,g5,g6,g7,g8,g9,g10,gf⟩:=hN4.c11
 have hz4:=hN4.lt
 go_wp2_with fail
 refine (HS.out _ ⟨Blk.alloc hB4 _,h62.out⟩).mono ?_
 rintro e w5 ⟨rfl,h5,k5⟩
 go_wp2
 go_ret
 have K:=kk.mono (S':=(·=r)) (fun _ e=>False.elim e)
 exact ⟨rfl,h5,by (exact kpA)⟩
end Go.Proofs.YtellieabhaphhabGreatDoor
namespace Go.Proofs.YtellieabhaphhabGreatDoor
open Go.RowKit
def zv:Vl:=⟨122,0,0⟩
def zz:Vl:=⟨0,0,0⟩
def lj (j:Nat):List Vl:=List.replicate j zv++List.replicate (6-j) zz
theorem lj_len (j:Nat) (h:j≤6):(lj j).length=6:=by simp [lj];omega
theorem lj_set (j:Nat) (h:j<6):(lj j).set j zv=lj (j+1):=by
 obtain rfl|rfl|rfl|rfl|rfl|rfl:j=0∨j=1∨j=2∨j=3∨j=4∨j=5:=by omega
 all_goals rfl
def mc0 (fuel:Nat):Mc:={ l:=lj 6,rd:=0,left:=fuel,tr:=ByteArray.empty,out:=ByteArray.empty,e:=8 }
theorem mc0_ok (fuel:Nat) (h:fuel≤300):MOk (mc0 fuel):=by
 refine ⟨h,?_,?_,?_,rfl⟩
 ·show 0+9*fuel≤2700;omega
 ·show 0+300*fuel≤90000;omega
 ·intro u hu
  have:u=zv:=by
   have hu':u∈List.replicate 6 zv++List.replicate 0 zz:=hu
   simpa using hu'
  subst this
  exact ⟨⟨by decide,by decide,by decide⟩,by decide⟩
set_option maxHeartbeats 400000 in
theorem given_c (inp:ByteArray) (fuel:Int) (w:World) (hm:inp.size≤maxLen) :
  Calls Tryz.prog 51 #[.string inp,.int .i64 fuel] w fun e w'=>e=.returned (.bool (decide (inp.size≤40∧0≤fuel∧fuel≤300)))∧w'=w:=by
 unfold maxLen at hm
 by_cases h1:inp.size≤40
 ·by_cases h2:0≤fuel
  ·by_cases h3:fuel≤300
   ·have e1:decide (inp.size≤40∧0≤fuel∧fuel≤300)=true:=by simp [h1,h2,h3]
    rw [e1]
    go_enter Tryz.func51,Tryz.ntmps51
    go_wp2
    go_ret
    exact ⟨by simp,rfl⟩
   ·have e1:decide (inp.size≤40∧0≤fuel∧fuel≤300)=false:=by simp [h3]
    rw [e1]
    go_enter Tryz.func51,Tryz.ntmps51
    go_wp2
    go_ret
    exact ⟨by simp,rfl⟩
  ·have e1:decide (inp.size≤40∧0≤fuel∧fuel≤300)=false:=by simp [h2]
   rw [e1]
   go_enter Tryz.func51,Tryz.ntmps51
   go_wp2
   go_ret
   exact ⟨rfl,rfl⟩
 ·have e1:decide (inp.size≤40∧0≤fuel∧fuel≤300)=false:=by simp [h1]
  rw [e1]
  go_enter Tryz.func51,Tryz.ntmps51
  go_wp2
  go_ret
  exact ⟨rfl,rfl⟩
def endE (e:Int):Int:=if e=8 then 0 else e
set_option maxHeartbeats 800000 in
theorem answer_c {w:World} {m lb:Nat} {inp:ByteArray} {mc:Mc} (h:MB w m lb inp mc) :
  Calls Tryz.prog 55 #[.pointer (some ⟨m,0,none⟩)] w fun e w'=>e=.returned (.tuple #[.string mc.tr,.string mc.out,.int .i64 (endE mc.e)])∧Kp (MK m lb) w w':=by
 obtain ⟨c0,c1,c2,c3,c4,c5,c6,cf⟩:=h.c
 by_cases he:mc.e=8
 ·have e1:endE mc.e=0:=by simp [endE,he]
  rw [e1]
  rw [he] at c6
  clear he e1
  go_enter Tryz.func55,Tryz.ntmps55
  go_wp2
  refine wp_gen (fun W=>MB W m lb inp { mc with e:=0 }∧Kp (MK m lb) w W) ⟨h.setE 0,by (exact kpA)⟩ ?_
  clear c0 c1 c2 c3 c4 c5 c6 cf
  rintro W ⟨hm,hk⟩
  obtain ⟨c0,c1,c2,c3,c4,c5,c6,cf⟩:=hm.c
  dsimp only at c4 c5 c6
  go_quiet (fail)
  go_wp2
  go_ret3
  exact ⟨rfl,hk.drewN _⟩
 ·have e1:endE mc.e=mc.e:=by simp [endE,he]
  rw [e1]
  have f8:(mc.e == 8)=false:=by simp [he]
  clear he e1
  go_enter Tryz.func55,Tryz.ntmps55
  go_wp2
  go_quiet (fail)
  go_wp2
  go_ret3
  exact ⟨rfl,(Kp.refl _ _).drewN _⟩
theorem info_val:(Tryz.prog.info? 151).map (fun i=>(i.zero,i.size,i.bytes))=some (some (.agg #[.int .u8 0,.int .i64 0,.int .u8 0]),3,24):=by kernel_rfl
theorem madeZ:madeCells (Value.agg #[.int .u8 0,.int .i64 0,.int .u8 0]).cells (6*3)=(vCells (lj 0)).toArray:=by kernel_rfl
def BegPost (inp:ByteArray) (fuel:Nat) (w:World) (e:Ending) (w':World):Prop :=
 ∃ m lb,e=.returned (.pointer (some ⟨m,0,none⟩))∧MB w' m lb inp (mc0 fuel)∧Kp no w w'∧w.heap.size≤m∧w.heap.size≤lb
set_option maxRecDepth 100000 in
set_option maxHeartbeats 1600000 in
theorem begin_c (inp:ByteArray) (fuel:Nat) (w:World) :
  Calls Tryz.prog 53 #[.string inp,.int .i64 fuel] w fun e w'=>BegPost inp fuel w e w':=by
 obtain ⟨i0,hi0,hz0,hz1,hz2⟩:=info_parts info_val
 have hmk:(Instr.makeSlice 113 (.int .i64 6) (.int .i64 6)).run Tryz.prog w=.ok (.slice (some ⟨w.heap.size,0,none⟩) 6 6) (w.alloc (.cells (vCells (lj 0)).toArray 151)):=by
  have:=run_make (P:=Tryz.prog) w 113 151 i0 _ Tryz.underlying113 hi0 hz0 .i64 .i64 6 6 (by decide) (by decide) (by rw [hz2];decide) (by decide)
  rw [hz1,show Int.toNat 6=6 from rfl,madeZ] at this
  exact this
 clear hz0 hz1 hz2 hi0
 go_enter Tryz.func53,Tryz.ntmps53
 go_wp2
 go_loopg [6] 6 (fun k i wr=>∃ j:Nat,j≤6∧k=6-j∧i=.int .i64 j∧Blk wr w.heap.size (vCells (lj j)) 151∧Kp no w wr)
 case atStart=>exact ⟨0,by decide,rfl,rfl,Blk.new w _ _,(Kp.refl _ _).alloc _⟩
 case round =>
  obtain ⟨j,hj,hk,rfl,hb,kr⟩:=hrel
  have HK:=hide hk
  have HKR:=hide kr
  clear hk kr hmk
  have hf:=hb.frozen
  have hlt:=hb.lt
  by_cases hlt6:j<6
  ·have g0:=hb.cell (j*3+0);have g1:=hb.cell (j*3+1);have g2:=hb.cell (j*3+2)
   rw [vCells,flat_get Vl.cells 3 vl3 (lj j) j _ (by rw [lj_len j hj];omega) (by decide)] at g0 g1 g2
   simp only [Vl.cells,List.getElem?_cons_zero,List.getElem?_cons_succ,Nat.add_zero] at g0 g1 g2
   have HB:=hide (show Blk (((wr.setCell ⟨w.heap.size,j*3,none⟩ (.int .u8 122)).setCell ⟨w.heap.size,j*3+1,none⟩ (.int .i64 0)).setCell ⟨w.heap.size,j*3+2,none⟩ (.int .u8 0)) w.heap.size (vCells (lj (j+1))) 151 by
    have:=((hb.set (j*3) (.int .u8 zv.k)).set (j*3+1) (.int .i64 zv.n)).set (j*3+2) (.int .u8 zv.v)
    rw [vset (lj j) j zv (by rw [lj_len j hj];omega),lj_set j hlt6] at this
    exact this)
   go_wp2
   go_roundg (6-(j+1))
   case measure=>have:=HK.out;omega
   case rel=>exact ⟨j+1,by omega,rfl,by go_num,HB.out,by (exact kpA)⟩
  ·obtain rfl:j=6:=by omega
   go_wp2
   go_ret
   refine ⟨_,w.heap.size,rfl,⟨?_,hb.alloc _,by omega,rfl⟩,HKR.out.alloc _,by have:=HKR.out.size;omega,Nat.le_refl _⟩
   exact Blk.new wr [.slice (some ⟨w.heap.size,0,none⟩) 6 6,.string inp,.int .i64 0,.int .i64 fuel,.string ByteArray.empty,.string ByteArray.empty,.int .i64 8] _
end Go.Proofs.YtellieabhaphhabGreatDoor
namespace Go.Proofs.YtellieabhaphhabGreatDoor
open Go.RowKit
set_option maxHeartbeats 3200000 in
theorem bits_in (op k:Int) (ho:opOk op) (hk:KOk k):(bits BinOp.and IntKind.i64 (bit k) (tkM (actN op)) == 0)=!inK op k:=by
 unfold opOk at ho
 unfold KOk at hk
 rcases ho with rfl|rfl|rfl|rfl|rfl|rfl|rfl|rfl|rfl|rfl|rfl|rfl|rfl|rfl|rfl|rfl|rfl|rfl <;> rcases hk with rfl|rfl|rfl|rfl|rfl|rfl|rfl <;> decide
theorem inK_66 {k:Int} (h:KOk k) (hi:inK 66 k=true):k=116∨k=102∨k=122:=by
 unfold KOk at h
 rcases h with rfl|rfl|rfl|rfl|rfl|rfl|rfl <;> revert hi <;> decide
theorem inK_46 {k:Int} (h:KOk k) (hi:inK 46 k=true):k=65∨k=66:=by
 unfold KOk at h
 rcases h with rfl|rfl|rfl|rfl|rfl|rfl|rfl <;> revert hi <;> decide
theorem inK_all {op k:Int} (h:KOk k) (ho:op≠43) (h2:op≠60) (h3:op≠65) (h4:op≠66) (h5:op≠46):inK op k=true:=by
 unfold inK takF
 rw [if_neg (by omega),if_neg h4,if_neg h5]
 unfold KOk at h
 rcases h with rfl|rfl|rfl|rfl|rfl|rfl|rfl <;> decide
theorem VW.plain {k:Int} (h:k=116∨k=102∨k=122∨k=67):VW ⟨k,0,0⟩ :=
 ⟨by unfold KOk;dsimp only;omega,by simp,by simp,fun e=>by dsimp only at e;omega,fun _=>rfl⟩
theorem VW.num {n:Int} (h0:0≤n) (h1:n≤999):VW ⟨110,n,0⟩:=⟨.inl rfl,h0,h1,fun e=>by simp at e,fun _=>rfl⟩
theorem VW.recA {n:Int} (h0:0≤n) (h1:n≤999):VW ⟨65,n,0⟩:=⟨by unfold KOk;dsimp only;omega,h0,h1,fun e=>by simp at e,fun _=>rfl⟩
theorem VW.recB {k:Int} (h:k=116∨k=102∨k=122):VW ⟨66,0,k⟩:=⟨by unfold KOk;dsimp only;omega,by simp,by simp,fun _=>h,fun e=>absurd rfl e⟩
theorem inVal_vw (c:Nat):VW (inVal c):=by
 unfold inVal
 repeat' split
 ·exact VW.num (by omega) (by omega)
 ·exact VW.plain (by decide)
 ·exact VW.plain (by decide)
 ·exact VW.recA (by decide) (by decide)
 ·exact VW.recB (by decide)
 ·exact VW.plain (by decide)
 ·exact VW.plain (by decide)
theorem consF_vw (n:Nd) (h:Gn n):VW (consF n):=by
 unfold consF
 repeat' split
 ·rename_i h1;have:=h.k h1;exact VW.num (by omega) (by omega)
 ·exact VW.plain (by decide)
 ·exact VW.plain (by decide)
 ·exact VW.plain (by decide)
 ·exact VW.plain (by decide)
theorem partF_vw {y:Vl} (h:VW y) (hi:y.k=65∨y.k=66):VW (partF y):=by
 unfold partF
 split
 ·exact VW.num h.n0 h.n1
 ·rename_i h1
  have:=h.b (by omega)
  exact VW.plain (by omega)
theorem worF_vw {inp:ByteArray} {n:Nd} {y v:Vl} {m:Mc} (hn:Gn n) (hy:VW y) (hv:VW v) (hi:inK n.op y.k=true):VW (worF inp n y v m).1:=by
 unfold worF
 repeat' split
 ·unfold nextF
  split
  ·exact inVal_vw (pk inp m.rd)
  ·exact inVal_vw 90
 ·exact hy
 ·exact VW.num (by have:=hy.n0;have:=hv.n0;omega) (by omega)
 ·exact VW.plain (by decide)
 ·exact VW.plain (by decide)
 ·exact VW.recA hy.n0 hy.n1
 ·rename_i h66;rw [h66] at hi;exact VW.recB (inK_66 hy.k hi)
 ·rename_i h46;rw [h46] at hi;exact partF_vw hy (inK_46 hy.k hi)
 ·exact consF_vw n hn
theorem nextF_l (inp:ByteArray) (m:Mc):(nextF inp m).2.l=m.l∧(nextF inp m).2.e=m.e:=by unfold nextF;split <;> exact ⟨rfl,rfl⟩
theorem worF_l (inp:ByteArray) (n:Nd) (y v:Vl) (m:Mc):(worF inp n y v m).2.l=m.l∧(worF inp n y v m).2.e=m.e:=by
 unfold worF
 repeat' split
 ·exact nextF_l inp m
 all_goals exact ⟨rfl,rfl⟩
theorem doF_vw {inp:ByteArray} {n:Nd} {x:Nat} {xu yu vu:Vl} {m:Mc} (hn:Gn n) (hm:∀ u∈m.l,VW u) (hy:VW yu) (hv:VW vu):∀ u∈(doF inp n x xu yu vu m).l,VW u:=by
 unfold doF
 repeat' split
 ·exact hm
 ·exact hm
 ·exact hm
 ·exact hm
 ·exact hm
 ·exact hm
 ·exact hm
 ·rename_i h2 _ _ _ _
  intro u hu
  have hu':u∈(worF inp n yu vu m).2.l.set x (worF inp n yu vu m).1:=hu
  rw [(worF_l inp n yu vu m).1] at hu'
  rcases List.mem_or_eq_of_mem_set hu' with h|rfl
  ·exact hm u h
  ·exact worF_vw hn hy hv (by simpa using h2)
theorem NB.e {w:World} {r:Nat} {inp:ByteArray} {m:Mc} (h:NB w r inp m) (c:Int):NB w r inp { m with e:=c }:=⟨h.b,h.six⟩
structure StPre (w:World) (r:Nat) (inp:ByteArray) (m:Mc) (nd:Nd) (x y v:Nat) (xu yu vu:Vl):Prop where
 nb:NB w r inp m
 g:Gn nd
 inp:inp.size≤40
 hx:nd.x=x
 hy:nd.y=y
 hv:nd.v=v
 gx:m.l[x]?=some xu
 gy:m.l[y]?=some yu
 gv:m.l[v]?=some vu
 vw:∀ u∈m.l,VW u
 out:m.out.size≤100000
 tab:Tab w
 e:m.e=8
theorem StPre.x6 {w:World} {r:Nat} {inp:ByteArray} {m:Mc} {nd:Nd} {x y v:Nat} {xu yu vu:Vl} (p:StPre w r inp m nd x y v xu yu vu):x<6:=by have:=p.g.x;have:=p.hx;omega
set_option maxHeartbeats 3200000 in
theorem nstep_c {w:World} {r:Nat} {inp:ByteArray} {m:Mc} {nd:Nd} {x y v:Nat} {xu yu vu:Vl} (tx:ByteArray) (yes no:Int) (p:StPre w r inp m nd x y v xu yu vu) (ht:¬ (nd.op=121∨nd.op=58)) :
  Calls Tryz.prog 48 #[.pointer (some ⟨r,0,none⟩),.agg (encN nd tx yes no).cells.toArray] w fun e w' =>
   e=.returned (.int .i64 (endE (doF inp nd x xu yu vu m).e))∧NB w' r inp (doF inp nd x xu yu vu m)∧Kp (·=r) w w':=by
 have hx6:=p.x6
 obtain ⟨nb,g,hinp,hx,hy,hv,gx,gy,gv,vw,hout,htab,he⟩:=p
 have vy:=vw yu (List.mem_of_getElem? gy)
 have vv:=vw vu (List.mem_of_getElem? gv)
 have vx:=vw xu (List.mem_of_getElem? gx)
 have hop:=g.op
 have by1:=bits_in nd.op yu.k hop vy.k
 have bv1:=bits_in nd.op vu.k hop vv.k
 have gk:=g.k
 have gkd:=g.kd
 have hw:=worF_l inp nd yu vu m
 obtain ⟨op,nx,ny,nv,k,t,f,a,l⟩:=nd
 dsimp only at *
 subst hx hy hv
 by_cases c33:op=33
 ·subst c33
  have ib:=inK_all (op:=33) vy.k (by decide) (by decide) (by decide) (by decide) (by decide)
  rw [ib] at by1
  have e1:doF inp ⟨33,x,y,v,k,t,f,a,l⟩ x xu yu vu m={ m with e:=6 }:=by rw [doF,if_pos rfl]
  rw [e1]
  refine (nstep_11 tx 0 0 0 0 yes no x y y yu yu nb gy gy by1 by1).mono ?_
  rintro e w' ⟨rfl,h1,k1⟩
  exact ⟨rfl,h1.e 6,k1⟩
 by_cases ci:inK op yu.k=false
 ·rw [ci] at by1
  have e1:doF inp ⟨op,x,y,v,k,t,f,a,l⟩ x xu yu vu m={ m with e:=5 }:=by rw [doF,if_neg (by exact c33),if_pos (by exact ci)]
  rw [e1]
  by_cases c2:op=43∨op=60
  ·have e2:(encN ⟨op,x,y,v,k,t,f,a,l⟩ tx yes no).w=v:=if_pos c2
   refine (show Calls _ _ #[_,.agg #[.string tx,.int .i64 (actN op),.int .i64 x,.int .i64 y,.int .i64 (encN ⟨op,x,y,v,k,t,f,a,l⟩ tx yes no).w,_,_,_,_,_,_]] _ _ from by rw [e2];exact (nstep_k1 tx (actN op) _ _ _ _ yes no x y v yu vu nb gy gv by1)).mono ?_
   rintro e w' ⟨rfl,h1,k1⟩
   exact ⟨rfl,h1.e 5,k1⟩
  ·have e2:(encN ⟨op,x,y,v,k,t,f,a,l⟩ tx yes no).w=y:=if_neg c2
   refine (show Calls _ _ #[_,.agg #[.string tx,.int .i64 (actN op),.int .i64 x,.int .i64 y,.int .i64 (encN ⟨op,x,y,v,k,t,f,a,l⟩ tx yes no).w,_,_,_,_,_,_]] _ _ from by rw [e2];exact (nstep_k1 tx (actN op) _ _ _ _ yes no x y y yu yu nb gy gy by1)).mono ?_
   rintro e w' ⟨rfl,h1,k1⟩
   exact ⟨rfl,h1.e 5,k1⟩
 have ci':inK op yu.k=true:=by simpa using ci
 rw [ci'] at by1
 have e0:doF inp ⟨op,x,y,v,k,t,f,a,l⟩ x xu yu vu m=if (op=43∨op=60)∧inK op vu.k=false then { m with e:=5 } else if op=42 then m else if op=94 then { m with out:=m.out++spellF yu++sp } else if op=126 then (if xu.k=k then m else { m with e:=7 }) else putL (worF inp ⟨op,x,y,v,k,t,f,a,l⟩ yu vu m).2 x (worF inp ⟨op,x,y,v,k,t,f,a,l⟩ yu vu m).1:=by
  rw [doF,if_neg (by exact c33),if_neg (by exact ci)]
 rw [e0]
 have f8:endE 8=0:=rfl
 by_cases c42:op=42
 ·subst c42
  rw [if_neg (by omega),if_pos rfl,he,f8]
  exact nstep_14 tx 0 0 0 0 yes no x y y yu yu nb gy gy by1 by1
 by_cases c94:op=94
 ·subst c94
  rw [if_neg (by omega),if_neg (by decide),if_pos rfl]
  show Calls _ _ _ _ fun e w'=>e=.returned (.int .i64 (endE m.e))∧_
  rw [show endE m.e=0 by rw [he];rfl]
  exact nstep_put tx 0 0 0 0 yes no x y y yu yu nb gy gy by1 by1 vy htab (spell_size yu ⟨vy.n0,vy.n1,by have:=vy.k;unfold KOk at this;omega⟩) hout
 by_cases c126:op=126
 ·subst c126
  rw [if_neg (by omega),if_neg (by decide),if_neg (by decide),if_pos rfl]
  have kok:=gkd (.inr rfl)
  by_cases ck:xu.k=k
  ·rw [if_pos ck,he,f8]
   exact nstep_cast tx 0 0 0 (bit k) yes no x y y yu yu nb gy gy by1 by1 xu gx (by rw [ck];simp)
  ·rw [if_neg ck]
   have hne:(bit xu.k == bit k)=false:=by
    have h1:=vx.k
    unfold KOk at h1 kok
    rcases h1 with e|e|e|e|e|e|e <;> rcases kok with e'|e'|e'|e'|e'|e'|e' <;> rw [e,e'] <;> first|decide|(exfalso;omega)
   refine (nstep_castno tx 0 0 0 (bit k) yes no x y y yu yu nb gy gy by1 by1 xu gx hne).mono ?_
   rintro e w' ⟨rfl,h1,k1⟩
   exact ⟨rfl,h1.e 7,k1⟩
 by_cases c63:op=63
 ·subst c63
  rw [if_neg (by omega),if_neg (by decide),if_neg (by decide),if_neg (by decide)]
  have e1:worF inp ⟨63,x,y,v,k,t,f,a,l⟩ yu vu m=nextF inp m:=by rw [worF,if_pos rfl]
  rw [e1]
  show Calls _ _ _ _ fun e w'=>e=.returned (.int .i64 (endE (nextF inp m).2.e))∧_
  rw [(nextF_l inp m).2,he,f8]
  exact nstep_in tx 0 0 0 0 yes no x y y yu yu nb gy gy by1 by1 hinp hx6
 by_cases c2:op=43∨op=60
 ·have e2:(encN ⟨op,x,y,v,k,t,f,a,l⟩ tx yes no).w=v:=if_pos c2
  by_cases cv:inK op vu.k=false
  ·rw [cv] at bv1
   rw [if_pos ⟨c2,cv⟩]
   refine (show Calls _ _ #[_,.agg #[.string tx,.int .i64 (actN op),.int .i64 x,.int .i64 y,.int .i64 (encN ⟨op,x,y,v,k,t,f,a,l⟩ tx yes no).w,_,_,_,_,_,_]] _ _ from by rw [e2];exact (nstep_k2 tx (actN op) _ _ _ _ yes no x y v yu vu nb gy gv by1 bv1)).mono ?_
   rintro e w' ⟨rfl,h1,k1⟩
   exact ⟨rfl,h1.e 5,k1⟩
  ·have cv':inK op vu.k=true:=by simpa using cv
   rw [cv'] at bv1
   rw [if_neg (fun h=>cv h.2),if_neg c42,if_neg c94,if_neg c126]
   show Calls _ _ _ _ fun e w'=>e=.returned (.int .i64 (endE (worF inp ⟨op,x,y,v,k,t,f,a,l⟩ yu vu m).2.e))∧_
   rw [hw.2,he,f8]
   have hwm:(worF inp ⟨op,x,y,v,k,t,f,a,l⟩ yu vu m).2=m:=by
    rcases c2 with rfl|rfl <;> rfl
   rw [hwm]
   rcases c2 with rfl|rfl
   ·exact nstep_set tx 4 0 0 0 0 yes no x y v yu vu nb gy gv by1 bv1 rfl rfl rfl rfl rfl rfl rfl ⟨110,(yu.n+vu.n) % 1000,0⟩ hx6 (fun W=>ngiven_4 tx x y v 0 0 0 0 yes no _ _ _ _ _ _ W vy.n0 vy.n1 vv.n0 vv.n1)
   ·have e5:(worF inp ⟨60,x,y,v,k,t,f,a,l⟩ yu vu m).1=(if yu.n<vu.n then ⟨116,0,0⟩ else ⟨102,0,0⟩):=rfl
    rw [e5]
    refine nstep_set tx 5 0 0 0 0 yes no x y v yu vu nb gy gv by1 bv1 rfl rfl rfl rfl rfl rfl rfl (if yu.n<vu.n then ⟨116,0,0⟩ else ⟨102,0,0⟩) hx6 (fun W=>?_)
    refine (ngiven_5 tx x y v 0 0 0 0 yes no _ yu.n _ _ vu.n _ W).mono ?_
    rintro e w' ⟨rfl,k1⟩
    refine ⟨?_,k1⟩
    split <;> rfl
 rw [if_neg (fun h=>c2 h.1),if_neg c42,if_neg c94,if_neg c126]
 show Calls _ _ _ _ fun e w'=>e=.returned (.int .i64 (endE (worF inp ⟨op,x,y,v,k,t,f,a,l⟩ yu vu m).2.e))∧_
 rw [hw.2,he,f8]
 have hwm:(worF inp ⟨op,x,y,v,k,t,f,a,l⟩ yu vu m).2=m:=by
  unfold opOk at hop
  rcases hop with rfl|rfl|rfl|rfl|rfl|rfl|rfl|rfl|rfl|rfl|rfl|rfl|rfl|rfl|rfl|rfl|rfl|rfl <;> first|rfl|exact absurd rfl c63
 rw [hwm]
 by_cases c118:op=118
 ·subst c118
  exact nstep_set tx 3 0 0 0 0 yes no x y y yu yu nb gy gy by1 by1 rfl rfl rfl rfl rfl rfl rfl yu hx6 (fun W=>ngiven_3 tx x y y 0 0 0 0 yes no _ _ _ _ _ _ W)
 by_cases c65:op=65
 ·subst c65
  exact nstep_set tx 6 0 0 0 0 yes no x y y yu yu nb gy gy by1 by1 rfl rfl rfl rfl rfl rfl rfl ⟨65,yu.n,0⟩ hx6 (fun W=>ngiven_6 tx x y y 0 0 0 0 yes no _ _ _ _ _ _ W)
 by_cases c66:op=66
 ·subst c66
  exact nstep_set tx 7 0 0 0 0 yes no x y y yu yu nb gy gy by1 by1 rfl rfl rfl rfl rfl rfl rfl ⟨66,0,yu.k⟩ hx6 (fun W=>ngiven_7 tx x y y 0 0 0 0 yes no _ _ _ _ _ _ W)
 by_cases c46:op=46
 ·subst c46
  have e5:(worF inp ⟨46,x,y,v,k,t,f,a,l⟩ yu vu m).1=partF yu:=rfl
  rw [e5]
  refine nstep_set tx 8 0 0 0 0 yes no x y y yu yu nb gy gy by1 by1 rfl rfl rfl rfl rfl rfl rfl (partF yu) hx6 (fun W=>?_)
  refine (ngiven_8 tx x y y 0 0 0 0 yes no (bit yu.k) yu.n (bit yu.v) _ _ _ W).mono ?_
  rintro e w' ⟨rfl,k1⟩
  refine ⟨?_,k1⟩
  have h16:=bit_65 vy.k
  unfold partF
  by_cases c:yu.k=65
  ·rw [if_pos (h16.2 c),if_pos (h16.2 c),if_pos c];rfl
  ·rw [if_neg (fun e=>c (h16.1 e)),if_neg (fun e=>c (h16.1 e)),if_neg c];rfl
 ·have e5:(worF inp ⟨op,x,y,v,k,t,f,a,l⟩ yu vu m).1=consF ⟨op,x,y,v,k,t,f,a,l⟩:=by
   rw [worF,if_neg (by exact c63),if_neg (by exact c118),if_neg (fun e=>c2 (.inl e)),if_neg (fun e=>c2 (.inr e)),if_neg (by exact c65),if_neg (by exact c66),if_neg (by exact c46)]
  have ea:actN op=1:=by unfold opOk at hop;unfold actN;rw [if_pos (by omega)]
  have ew:(encN ⟨op,x,y,v,k,t,f,a,l⟩ tx yes no).w=y:=if_neg c2
  have ec:consN ⟨op,x,y,v,k,t,f,a,l⟩=consF ⟨op,x,y,v,k,t,f,a,l⟩:=by rw [consN,if_pos ea]
  rw [e5]
  generalize consF ⟨op,x,y,v,k,t,f,a,l⟩=cu at *
  have en:(encN ⟨op,x,y,v,k,t,f,a,l⟩ tx yes no).cells=[.string tx,.int .i64 1,.int .i64 x,.int .i64 y,.int .i64 y,.int .i64 (bit cu.k),.int .i64 cu.n,.int .i64 (bit cu.v),.int .i64 (if op=126∨op=58 then bit k else 0),.int .i64 yes,.int .i64 no]:=by
   unfold NN.cells
   rw [ew]
   unfold encN
   dsimp only
   rw [ea,ec]
  rw [en]
  rw [ea] at by1
  exact nstep_set tx 1 _ _ _ _ yes no x y y yu yu nb gy gy by1 by1 rfl rfl rfl rfl rfl rfl rfl cu hx6 (fun W=>ngiven_1 tx x y y _ _ _ _ yes no _ _ _ _ _ _ W)
end Go.Proofs.YtellieabhaphhabGreatDoor
namespace Go.Proofs.YtellieabhaphhabGreatDoor
open Go.RowKit
def wkF:Nat→List Nd→ByteArray→Mc→Int→Option Mc
 | 0,_,_,_,_=>none
 | f+1,ND,inp,m,a =>
  if a<ND.length∧m.e=8 then
   (if 0≤a∧a<100 then
    match ND[a.toNat]? with
    | none=>none
    | some nd =>
     match m.l[nd.x.toNat]?,m.l[nd.y.toNat]?,m.l[nd.v.toNat]? with
     | some xu,some yu,some vu =>
      if (startF m a.toNat).2 then
       (if nd.op=121∨nd.op=58 then wkF f ND inp (startF m a.toNat).1 (if holdF nd yu then nd.t else nd.f)
       else wkF f ND inp (doF inp nd nd.x.toNat xu yu vu (startF m a.toNat).1) nd.t)
      else wkF f ND inp (startF m a.toNat).1 a
     | _,_,_=>none
   else none)
  else some m
set_option maxRecDepth 100000 in
set_option maxHeartbeats 12800000 in
theorem walk_good (s inp:ByteArray) (fuel:Nat) (w:World) (hm:inp.size≤40) (h:fuel≤300) (hs:s.size≤900) (hb:graE s=(0,0)) (ht:Tab w)
  (hn:∀ n∈(graF s).nodes,NOk n) (hi0:(graF s).items=[]) (htf:∀ n∈(graF s).nodes,(-1≤n.t∧n.t≤1000)∧(-1≤n.f∧n.f≤1000)) (F:Nat) (mc':Mc) (hE:wkF F (graF s).nodes inp (mc0 fuel) 0=some mc') :
  Calls Tryz.prog 30 #[.string s,.string inp,.int .i64 fuel] w fun e w'=>e=.returned (.tuple #[.string mc'.tr,.string mc'.out,.int .i64 (endE mc'.e)])∧Kp no w w':=by
 have hm2:inp.size≤maxLen:=by unfold maxLen;omega
 have HG:=hide (given_c inp fuel w hm2)
 rw [decide_eq_true (by omega)] at HG
 have HS:=hide (lines_c s w hs)
 have HB:=hide hb
 have hlen:=(graF_inv s).2
 have HE:=hide hE
 have ok0:=mc0_ok fuel h
 clear hE hb
 go_enter Tryz.func30,Tryz.ntmps30
 go_wp2_with fail
 refine HG.out.mono ?_
 rintro e w0 ⟨rfl,rfl⟩
 go_wp2_with fail
 refine HS.out.mono ?_
 rintro e w1 ⟨r,O,rfl,hr,k1,hO⟩
 rw [HB.out]
 have htl:=ht.lt
 have ht1:=ht.kp k1 no_elim
 generalize graF s=st at *
 go_wp2_with fail
 refine (begin_c inp fuel _).mono ?_
 rintro e w2 ⟨m,lb,rfl,hmb,k2,hm1,hl1⟩
 have hs1:=k1.size
 have hr2:Rp w2 r s st O:=hr.kp k2 (fun _ _=>no_elim)
 have hRM:RM w2 m lb inp (mc0 fuel) r s st O:=⟨hmb,hr2,fun e=>by have:=hr.lt m e;omega,fun e=>by have:=hr.lt lb e;omega,ht1.kp k2 no_elim,by omega,by omega,ok0,hn,hm,by rw [hi0];exact Nat.zero_le _,by omega⟩
 have k12:Kp no w0 w2:=k1.trans k2 (fun _ _ e=>e)
 have HK12:=hide k12
 have HRM:=hide hRM
 clear k12 hRM hr2 hmb k1 k2 hr hO
 go_wp2
 go_loopg [14] F (fun k av wr=>∃ (a:Int) (mc1:Mc),av=.int .i64 a∧-1≤a∧a≤1000∧RM wr m lb inp mc1 r s st O∧Kp no w0 wr∧wkF k st.nodes inp mc1 a=some mc')
 case atStart=>exact ⟨0,mc0 fuel,rfl,by decide,by decide,HRM.out,HK12.out,HE.out⟩
 case round =>
  obtain ⟨a,mc1,rfl,ha1,ha2,R1,K1,hE1⟩:=hrel
  have HK1:=hide K1
  clear K1
  obtain ⟨c0,c1,c2,c3,c4,c5,c6,cf⟩:=R1.mb.c
  obtain ⟨g3,cap3,n3⟩:=rp_nodes R1.rp
  have hrl:=R1.rp.lt r R1.rp.own
  obtain ⟨hml,hll⟩:=R1.mb.lt
  cases gk with
  | zero=>simp [wkF] at hE1
  | succ k =>
   rw [wkF] at hE1
   by_cases hgo:a<st.nodes.length∧mc1.e=8
   case neg =>
    rw [if_neg hgo] at hE1
    simp only [Option.some.injEq] at hE1
    have HE1:=hide hE1
    clear hE1
    by_cases hlt:a<st.nodes.length
    ·have e8:¬ mc1.e=8:=fun e=>hgo ⟨hlt,e⟩
     have f8:(mc1.e == 8)=false:=by simp [e8]
     clear hgo e8
     go_wp2_with fail
     refine (answer_c R1.mb).mono ?_
     rintro e w4 ⟨rfl,k4⟩
     go_wp2
     go_ret3
     rw [← HE1.out]
     exact ⟨rfl,HK1.out.trans k4 (fun x hx e=>by have:=HK12.out.size;rcases e with e|e <;> omega)⟩
    ·clear hgo
     go_wp2_with fail
     refine (answer_c R1.mb).mono ?_
     rintro e w4 ⟨rfl,k4⟩
     go_wp2
     go_ret3
     rw [← HE1.out]
     exact ⟨rfl,HK1.out.trans k4 (fun x hx e=>by have:=HK12.out.size;rcases e with e|e <;> omega)⟩
   case pos =>
    rw [if_pos hgo] at hE1
    obtain ⟨hlt,e8⟩:=hgo
    rw [e8] at c6
    have HE8:=hide e8
    clear e8
    split at hE1
    case isFalse=>simp at hE1
    rename_i ha
    obtain ⟨a,rfl⟩:=Int.eq_ofNat_of_zero_le ha.1
    rw [Int.toNat_natCast] at hE1
    have ha100:a<100:=by omega
    clear ha ha1 ha2
    cases hnd:st.nodes[a]? with
    | none=>rw [hnd] at hE1;simp at hE1
    | some nd =>
     rw [hnd] at hE1
     dsimp only at hE1
     have hnk:=R1.nok nd (List.mem_of_getElem? hnd)
     split at hE1
     case h_2=>simp at hE1
     rename_i xu yu vu hxu hyu hvu
     have hso:=startF_ok a R1.ok
     have hLn:=R1.ln
     obtain ⟨g2,cap2,hn2,_,q3,qc⟩:=R1.rp.node hnd
     have e0:=qc 0 (by decide);have e1:=qc 1 (by decide);have e2:=qc 2 (by decide);have e3:=qc 3 (by decide);have e4:=qc 4 (by decide);have e5:=qc 5 (by decide);have e6:=qc 6 (by decide);have e7:=qc 7 (by decide);have e8:=qc 8 (by decide)
     clear qc n3
     simp only [Nd.cells,List.getElem?_cons_zero,List.getElem?_cons_succ,Nat.add_zero] at e0 e1 e2 e3 e4 e5 e6 e7 e8
     have HS2:=hide (fun W (hW:MB W m lb inp mc1)=>starts_c (w:=W) (st:=mc1) a ha100 hW (by have:=R1.ok.tr;omega) (by have:=R1.ok.left;omega))
     obtain ⟨ht1',hf1'⟩:=htf nd (List.mem_of_getElem? hnd)
     cases hst:startF mc1 a with
     | mk m0 ok =>
     rw [hst] at HS2 hso hE1
     clear hst
     dsimp only at hso HS2 hE1
     have hyy:nd.y=(nd.y.toNat:Int):=by have:=hnk.y;omega
     have hyu0:m0.l[nd.y.toNat]?=some yu:=by rw [hso.2.2];exact hyu
     have okd:ok=true→MOk (doF inp nd nd.x.toNat xu yu vu m0):=fun e=>doF_ok hnk.k (R1.ok.v yu (List.mem_of_getElem? hyu)) (R1.ok.v vu (List.mem_of_getElem? hvu)) hso.1 (hso.2.1 e)
     have HDO:=hide (fun (hok:ok=true) W (hW:RM W m lb inp m0 r s st O)=>do_c (w:=W) (m:=m) (lb:=lb) (inp:=inp) (st:=m0) (n:=nd) (x:=nd.x.toNat) (y:=nd.y.toNat) (v:=nd.v.toNat) (xu:=xu) (yu:=yu) (vu:=vu)
      ⟨hW.mb,hW.inp,by have:=hnk.x;omega,by have:=hnk.y;omega,by have:=hnk.v;omega,by rw [hso.2.2];exact hxu,by rw [hso.2.2];exact hyu,by rw [hso.2.2];exact hvu,(R1.ok.v yu (List.mem_of_getElem? hyu)).1,(R1.ok.v vu (List.mem_of_getElem? hvu)).1,hnk.k,by have:=hso.2.1 hok;omega,hW.tab,hW.tm,hW.tl⟩)
     have HHO:=hide (fun W (hW:MB W m lb inp m0)=>holds_c (w:=W) (m:=m) (lb:=lb) (inp:=inp) (st:=m0) nd nd.y.toNat yu hW hyy hyu0)
     generalize hdm:doF inp nd nd.x.toNat xu yu vu m0=md at *
     generalize hhb:holdF nd yu=hb at *
     clear hdm hhb hnk hnd hxu hyu hvu hyy hyu0
     obtain ⟨uo,ux,uy,uv,uk,ut,uf,ua,ul⟩:=nd
     dsimp only at *
     cases ok
     ·simp only [Bool.false_eq_true,if_false] at hE1
      have HE1:=hide hE1
      clear hE1
      go_wp2_with fail
      refine (HS2.out _ (R1.mb.alloc _)).mono ?_
      rintro e w2 ⟨rfl,hm2,k2⟩
      have R2:=(R1.alloc _).next hm2 k2 hso.1
      have hL:Blk w2 wr.heap.size [.int .u8 uo,.int .i64 ux,.int .i64 uy,.int .i64 uv,.int .u8 uk,.int .i64 ut,.int .i64 uf,.int .i64 ua,.int .i64 ul] 111:=k2.blk (by (exact blA)) (by rintro (e|e) <;> omega)
      go_wp2
      go_roundg k
      case measure=>omega
      case rel=>exact ⟨a,m0,rfl,by omega,by omega,R2,(HK1.out.alloc _).trans k2 (fun x hx e=>by have:=HK12.out.size;rcases e with e|e <;> omega),HE1.out⟩
     ·simp only [if_true] at hE1
      have hMO:=okd rfl
      by_cases ht2:uo=121∨uo=58
      ·rw [if_pos ht2] at hE1
       have HE1:=hide hE1
       clear hE1
       rcases ht2 with h121|h58
       ·subst h121
        cases hb
        ·simp only [Bool.false_eq_true,if_false] at HE1
         go_wp2_with fail
         refine (HS2.out _ (R1.mb.alloc _)).mono ?_
         rintro e w2 ⟨rfl,hm2,k2⟩
         have R2:=(R1.alloc _).next hm2 k2 hso.1
         have K2:=(HK1.out.alloc _).trans k2 (fun x hx e=>by have:=HK12.out.size;rcases e with e|e <;> omega)
         have hL:Blk w2 wr.heap.size [.int .u8 121,.int .i64 ux,.int .i64 uy,.int .i64 uv,.int .u8 uk,.int .i64 ut,.int .i64 uf,.int .i64 ua,.int .i64 ul] 111:=k2.blk (by (exact blA)) (by rintro (e|e) <;> omega)
         obtain ⟨l0,l1,l2,l3,l4,l5,l6,l7,l8,lf⟩:=hL.c9
         have hzL:=hL.lt
         go_wp2_with fail
         refine (HHO.out _ R2.mb).mono ?_
         rintro e w3 ⟨rfl,k3⟩
         have hL3:Blk w3 wr.heap.size [.int .u8 121,.int .i64 ux,.int .i64 uy,.int .i64 uv,.int .u8 uk,.int .i64 ut,.int .i64 uf,.int .i64 ua,.int .i64 ul] 111:=k3.blk hL no_elim
         obtain ⟨s0,s1,s2,s3,s4,s5,s6,s7,s8,sf⟩:=hL3.c9
         go_wp2
         go_roundg k
         case measure=>omega
         case rel=>exact ⟨uf,m0,rfl,by omega,by omega,R2.kp k3,K2.trans k3 (fun _ _ e=>e),HE1.out⟩
        ·simp only [if_true] at HE1
         go_wp2_with fail
         refine (HS2.out _ (R1.mb.alloc _)).mono ?_
         rintro e w2 ⟨rfl,hm2,k2⟩
         have R2:=(R1.alloc _).next hm2 k2 hso.1
         have K2:=(HK1.out.alloc _).trans k2 (fun x hx e=>by have:=HK12.out.size;rcases e with e|e <;> omega)
         have hL:Blk w2 wr.heap.size [.int .u8 121,.int .i64 ux,.int .i64 uy,.int .i64 uv,.int .u8 uk,.int .i64 ut,.int .i64 uf,.int .i64 ua,.int .i64 ul] 111:=k2.blk (by (exact blA)) (by rintro (e|e) <;> omega)
         obtain ⟨l0,l1,l2,l3,l4,l5,l6,l7,l8,lf⟩:=hL.c9
         have hzL:=hL.lt
         go_wp2_with fail
         refine (HHO.out _ R2.mb).mono ?_
         rintro e w3 ⟨rfl,k3⟩
         have hL3:Blk w3 wr.heap.size [.int .u8 121,.int .i64 ux,.int .i64 uy,.int .i64 uv,.int .u8 uk,.int .i64 ut,.int .i64 uf,.int .i64 ua,.int .i64 ul] 111:=k3.blk hL no_elim
         obtain ⟨s0,s1,s2,s3,s4,s5,s6,s7,s8,sf⟩:=hL3.c9
         go_wp2
         go_roundg k
         case measure=>omega
         case rel=>exact ⟨ut,m0,rfl,by omega,by omega,R2.kp k3,K2.trans k3 (fun _ _ e=>e),HE1.out⟩
       ·subst h58
        cases hb
        ·simp only [Bool.false_eq_true,if_false] at HE1
         go_wp2_with fail
         refine (HS2.out _ (R1.mb.alloc _)).mono ?_
         rintro e w2 ⟨rfl,hm2,k2⟩
         have R2:=(R1.alloc _).next hm2 k2 hso.1
         have K2:=(HK1.out.alloc _).trans k2 (fun x hx e=>by have:=HK12.out.size;rcases e with e|e <;> omega)
         have hL:Blk w2 wr.heap.size [.int .u8 58,.int .i64 ux,.int .i64 uy,.int .i64 uv,.int .u8 uk,.int .i64 ut,.int .i64 uf,.int .i64 ua,.int .i64 ul] 111:=k2.blk (by (exact blA)) (by rintro (e|e) <;> omega)
         obtain ⟨l0,l1,l2,l3,l4,l5,l6,l7,l8,lf⟩:=hL.c9
         have hzL:=hL.lt
         go_wp2_with fail
         refine (HHO.out _ R2.mb).mono ?_
         rintro e w3 ⟨rfl,k3⟩
         have hL3:Blk w3 wr.heap.size [.int .u8 58,.int .i64 ux,.int .i64 uy,.int .i64 uv,.int .u8 uk,.int .i64 ut,.int .i64 uf,.int .i64 ua,.int .i64 ul] 111:=k3.blk hL no_elim
         obtain ⟨s0,s1,s2,s3,s4,s5,s6,s7,s8,sf⟩:=hL3.c9
         go_wp2
         go_roundg k
         case measure=>omega
         case rel=>exact ⟨uf,m0,rfl,by omega,by omega,R2.kp k3,K2.trans k3 (fun _ _ e=>e),HE1.out⟩
        ·simp only [if_true] at HE1
         go_wp2_with fail
         refine (HS2.out _ (R1.mb.alloc _)).mono ?_
         rintro e w2 ⟨rfl,hm2,k2⟩
         have R2:=(R1.alloc _).next hm2 k2 hso.1
         have K2:=(HK1.out.alloc _).trans k2 (fun x hx e=>by have:=HK12.out.size;rcases e with e|e <;> omega)
         have hL:Blk w2 wr.heap.size [.int .u8 58,.int .i64 ux,.int .i64 uy,.int .i64 uv,.int .u8 uk,.int .i64 ut,.int .i64 uf,.int .i64 ua,.int .i64 ul] 111:=k2.blk (by (exact blA)) (by rintro (e|e) <;> omega)
         obtain ⟨l0,l1,l2,l3,l4,l5,l6,l7,l8,lf⟩:=hL.c9
         have hzL:=hL.lt
         go_wp2_with fail
         refine (HHO.out _ R2.mb).mono ?_
         rintro e w3 ⟨rfl,k3⟩
         have hL3:Blk w3 wr.heap.size [.int .u8 58,.int .i64 ux,.int .i64 uy,.int .i64 uv,.int .u8 uk,.int .i64 ut,.int .i64 uf,.int .i64 ua,.int .i64 ul] 111:=k3.blk hL no_elim
         obtain ⟨s0,s1,s2,s3,s4,s5,s6,s7,s8,sf⟩:=hL3.c9
         go_wp2
         go_roundg k
         case measure=>omega
         case rel=>exact ⟨ut,m0,rfl,by omega,by omega,R2.kp k3,K2.trans k3 (fun _ _ e=>e),HE1.out⟩
      ·rw [if_neg ht2] at hE1
       have HE1:=hide hE1
       clear hE1
       have f1:(uo == 121)=false:=by simp;omega
       have f2:(uo == 58)=false:=by simp;omega
       clear ht2
       go_wp2_with fail
       refine (HS2.out _ (R1.mb.alloc _)).mono ?_
       rintro e w2 ⟨rfl,hm2,k2⟩
       have R2:=(R1.alloc _).next hm2 k2 hso.1
       have K2:=(HK1.out.alloc _).trans k2 (fun x hx e=>by have:=HK12.out.size;rcases e with e|e <;> omega)
       have hL:Blk w2 wr.heap.size [.int .u8 uo,.int .i64 ux,.int .i64 uy,.int .i64 uv,.int .u8 uk,.int .i64 ut,.int .i64 uf,.int .i64 ua,.int .i64 ul] 111:=k2.blk (by (exact blA)) (by rintro (e|e) <;> omega)
       obtain ⟨l0,l1,l2,l3,l4,l5,l6,l7,l8,lf⟩:=hL.c9
       have hzL:=hL.lt
       go_wp2_with fail
       refine (HDO.out trivial _ R2).mono ?_
       rintro e w3 ⟨rfl,hm3,k3⟩
       have hL3:Blk w3 wr.heap.size [.int .u8 uo,.int .i64 ux,.int .i64 uy,.int .i64 uv,.int .u8 uk,.int .i64 ut,.int .i64 uf,.int .i64 ua,.int .i64 ul] 111:=k3.blk hL (by rintro (e|e) <;> omega)
       obtain ⟨s0,s1,s2,s3,s4,s5,s6,s7,s8,sf⟩:=hL3.c9
       go_wp2
       go_roundg k
       case measure=>omega
       case rel=>exact ⟨ut,md,rfl,by omega,by omega,R2.next hm3 k3 hMO,K2.trans k3 (fun x hx e=>by have:=HK12.out.size;rcases e with e|e <;> omega),HE1.out⟩
end Go.Proofs.YtellieabhaphhabGreatDoor
