/- Joined texts. -/
import Derived.Test.YteblmphohhbgcaaQaMtAi
import Derived.Test.YteblmphohhbgcaaQaMtX
import Derived.Test.YteblmphohhbgcaaQaWrBackP
import Derived.Test.YteblmphohhbgcaaQaMtG
set_option linter.unusedVariables false
namespace Go.Proofs.Yteblmphohhbgcaa.Mt
open Go.RowKit Go.Proofs.Yteblmphohhbgcaa.Gn Go.Proofs.Yteblmphohhbgcaa.Fd Go.Proofs.Yteblmphohhbgcaa.Wr Go.Deep
set_option maxRecDepth 100000
abbrev zr:List Nat:=List.replicate 32 0
def kV:Nd:=lN (tmN 1 9 2 3 zr)
def kB:List Nat:=[3,3,1,1,1,9,3,3,1,2,1,3,2,32,0,0,0,0,0,0,0,0,0,0,0,0,0,0,0,0,0,0,0,0,0,0,0,0,0,0,0,0,0,0,0,0]
theorem kV_wern:wern 8192 8 1024 8192 kV=0:=by decide +kernel
theorem kV_wbn:wbn kV=kB:=by decide +kernel
theorem kV_wE:wE (tmB 1 9 2 3 32) (lN (tmN 1 9 2 3 zr))=0:=by rw[show tmB 1 9 2 3 32=true from by decide];exact wE_ok kV_wern
theorem kV_wL:wL (tmB 1 9 2 3 32) (lN (tmN 1 9 2 3 zr))=kB:=by
 rw[show tmB 1 9 2 3 32=true from by decide,wL_ok]
 exact(if_pos kV_wern).trans kV_wbn
theorem kV_smn:smn kV:=by
 simp only[kV,smn,smns,List.length_cons,List.length_nil,List.length_replicate]
 refine⟨by decide,by decide,by decide,⟨un_lt _,by decide,by decide,trivial⟩,⟨un_lt _,by decide,by decide,trivial⟩,⟨by decide,by decide,by decide,⟨un_lt _,by decide,by decide,trivial⟩,⟨un_lt _,by decide,by decide,trivial⟩,⟨by decide,by decide,by decide,trivial⟩,trivial⟩,trivial⟩
theorem kB_good:∃k,rdw 8192 8 1024 8192 kB=.good kV kB.length k:=by
 have h:=wern_back kV_smn kV_wern
 rw[kV_wbn] at h
 exact h
theorem kB_ts:bO tsO kB=some (1,9,2,3,zr):=by
 obtain⟨k,h⟩:=kB_good
 unfold bO
 rw[h]
 show tsO kV=some (1,9,2,3,zr)
 decide +kernel
theorem kB_rt:(ksd (rtL kV).1).length≠4:=by decide +kernel
end Go.Proofs.Yteblmphohhbgcaa.Mt
namespace Go.Proofs.Yteblmphohhbgcaa.Mt
open Go.RowKit Go.Proofs.Yteblmphohhbgcaa.Gn Go.Proofs.Yteblmphohhbgcaa.Fd Go.Proofs.Yteblmphohhbgcaa.Wr Go.Deep
set_option maxRecDepth 100000
set_option maxHeartbeats 4000000 in
theorem Read_timestamp{w:World}{r:Rw}(hr:Pc w r)(hr9:r.2.1≤800000)(hin:∀ad,r.1=some ad→ad.block < w.heap.size):Calls Try.prog 22 #[.slice r.1 r.2.1 r.2.2.1] w (A5Q (bO tsO r.2.2.2) w):=by
 obtain⟨U,hU⟩:∃U,w.alloc (.cells z5 63)=U:=⟨_,rfl⟩
 have BU:=Lib.hid (show Below w.heap.size w U from by rw[←hU];exact below_one w _)
 have NR:=Lib.hid (show Bl U w.heap.size 63 z5 from by rw[←hU];exact Bl.new_ w _ _)
 have CR:=Lib.hid (read_timestamp (hr.below BU.out) hr9 (fun ad e=>Nat.lt_of_lt_of_le (hin ad e) BU.out.size))
 obtain⟨o,ho⟩:∃o,bO tsO r.2.2.2=o:=⟨_,rfl⟩
 rw[ho] at CR ⊢
 clear hr hr9 hin ho
 obtain⟨rA,rn,rc,rl⟩:=r
 simp only at CR ⊢
 cases o with
 |none =>
  go_enter Try.func22,Try.ntmps22
  go_wp2_with (go_at_call 41;(refine CR.out.mono ?_);rintro e1 w1 ⟨h1,rfl⟩;simp only[R5];have B1:=Lib.hid h1;have R1:=Lib.hid (NR.out.below' h1);have r0:w1.cell? ⟨w.heap.size,0,none⟩=some (.int .i64 0):=R1.out.cell_ rfl;have g0:=R1.out.frozen 0;have r1:w1.cell? ⟨w.heap.size,1,none⟩=some (.int .i64 0):=R1.out.cell_ rfl;have g1:=R1.out.frozen 1;have r2:w1.cell? ⟨w.heap.size,2,none⟩=some (.int .i64 0):=R1.out.cell_ rfl;have g2:=R1.out.frozen 2;have r3:w1.cell? ⟨w.heap.size,3,none⟩=some (.int .i64 0):=R1.out.cell_ rfl;have g3:=R1.out.frozen 3;have r4:w1.cell? ⟨w.heap.size,4,none⟩=some (.slice none 0 0):=R1.out.cell_ rfl;have g4:=R1.out.frozen 4;clear h1)
  refine⟨rfl,_,results_c2 rfl _ _ _ ⟨w.heap.size,0,none⟩ _ _ (by kernel_rfl) rfl (run_loadVar_row _ w.heap.size 63 63 #[.int .i64 0,.int .i64 0,.int .i64 0,.int .i64 0,.slice none 0 0] (0,0) _ (set5_bl R1.out _ _ _ _ _) Try.underlying63 rfl (by kernel_rfl)),?_⟩
  exact⟨set5_below (BU.out.trans (B1.out.mono BU.out.size)) (Nat.le_refl _) _ _ _ _ _,rfl⟩
 |some v =>
  obtain⟨a,b,c,d,h⟩:=v
  go_enter Try.func22,Try.ntmps22
  go_wp2_with (go_at_call 41;(refine CR.out.mono ?_);rintro e1 w1 ⟨h1,A,c',rfl,hp⟩;simp only[R5];have B1:=Lib.hid h1;have P1:=Lib.hid hp;have R1:=Lib.hid (NR.out.below' h1);have r0:w1.cell? ⟨w.heap.size,0,none⟩=some (.int .i64 0):=R1.out.cell_ rfl;have g0:=R1.out.frozen 0;have r1:w1.cell? ⟨w.heap.size,1,none⟩=some (.int .i64 0):=R1.out.cell_ rfl;have g1:=R1.out.frozen 1;have r2:w1.cell? ⟨w.heap.size,2,none⟩=some (.int .i64 0):=R1.out.cell_ rfl;have g2:=R1.out.frozen 2;have r3:w1.cell? ⟨w.heap.size,3,none⟩=some (.int .i64 0):=R1.out.cell_ rfl;have g3:=R1.out.frozen 3;have r4:w1.cell? ⟨w.heap.size,4,none⟩=some (.slice none 0 0):=R1.out.cell_ rfl;have g4:=R1.out.frozen 4;clear h1 hp)
  refine⟨rfl,_,results_c2 rfl _ _ _ ⟨w.heap.size,0,none⟩ _ _ (by kernel_rfl) rfl (run_loadVar_row _ w.heap.size 63 63 #[.int .i64 (a:Int),.int .i64 (b:Int),.int .i64 (c:Int),.int .i64 (d:Int),.slice A h.length c'] (0,0) _ (set5_bl R1.out _ _ _ _ _) Try.underlying63 rfl (by kernel_rfl)),?_⟩
  exact⟨set5_below (BU.out.trans (B1.out.mono BU.out.size)) (Nat.le_refl _) _ _ _ _ _,A,c',rfl,set5_pc R1.out (by decide) P1.out z5_pl _ _ _ _ _⟩
end Go.Proofs.Yteblmphohhbgcaa.Mt
namespace Go.Proofs.Yteblmphohhbgcaa.Mt
open Go.RowKit Go.Proofs.Yteblmphohhbgcaa.Gn Go.Proofs.Yteblmphohhbgcaa.Fd Go.Proofs.Yteblmphohhbgcaa.Wr Go.Deep
set_option maxRecDepth 100000
theorem infob:(Try.prog.info? 5).map (fun i=>(i.zero,i.size,i.bytes))=some (some (.int .u8 0),1,1):=by kernel_rfl
theorem zr_pc(w:World):Pc (w.alloc (.cells (madeCells #[.int .u8 0] 32) 5)) (some ⟨w.heap.size,0,none⟩,32,32,zr) :=
 ⟨rfl,by have h:=Sl.new_ w 5 (bl zr);rw[show((bl zr).toArray:Array Value)=madeCells #[.int .u8 0] 32 from by kernel_rfl] at h;exact h,fun x hx=>by rw[List.eq_of_mem_replicate hx];decide,Nat.le_refl _,fun e=>by cases e⟩
theorem read_kB{w:World}{A:Option Addr}{c:Nat}(hp:Pc w (A,46,c,kB))(hin:∀ad,A=some ad→ad.block < w.heap.size):Calls Try.prog 22 #[.slice A 46 c] w fun e w'=>Below w.heap.size w w'∧∃A2 c2,e=.returned (.tuple #[.agg #[.int .i64 1,.int .i64 9,.int .i64 2,.int .i64 3,.slice A2 32 c2],.int .i64 0]):=by
 have h:=Read_timestamp hp (by show 46≤800000;decide) hin
 rw[show bO tsO ((A,46,c,kB):Rw).2.2.2=some (1,9,2,3,zr) from kB_ts] at h
 refine h.mono fun e w' ⟨hb,A2,c2,h1,_⟩=>⟨hb,A2,c2,h1⟩
theorem root_kB{w:World}{A:Option Addr}{c:Nat}(hp:Pc w (A,46,c,kB))(hin:∀ad,A=some ad→ad.block < w.heap.size):Calls Try.prog 11 #[.slice A 46 c] w (NoR w):=by
 obtain⟨k,h⟩:=kB_good
 exact ReadRoot_bad (r:=(A,46,c,kB)) (V:=kV) (p:=kB.length) (k:=k) hp (by show 46≤800000;decide) hin h kB_rt
theorem write_kB{w:World}{A:Option Addr}(hp:Pc w (A,32,32,zr)):Calls Try.prog 21 #[.agg #[.int .i64 1,.int .i64 9,.int .i64 2,.int .i64 3,.slice A 32 32]] w fun e w'=>Below w.heap.size w w'∧∃A2 c2,e=.returned (.tuple #[.slice A2 46 c2,.int .i64 0])∧Pc w' (A2,46,c2,kB)∧∀ad,A2=some ad→ad.block < w'.heap.size:=by
 have h:=Write_timestamp (v:=1) (e:=9) (rv:=2) (rs:=3) hp (by decide)
 rw[kV_wE,kV_wL] at h
 exact h
set_option maxHeartbeats 4000000 in
theorem known_m(w:World):Calls Try.prog 9 #[] w fun e w'=>e=.returned (.bool true)∧Below w.heap.size w w':=by
 have RM:∀u,(Instr.makeSlice 25 (.int .i64 32) (.int .i64 32)).run Try.prog u=.ok (.slice (some ⟨u.heap.size,0,none⟩) 32 32) (u.alloc (.cells (madeCells #[.int .u8 0] 32) 5)) :=
  fun u=>run_make_row' (P:=Try.prog) 25 5 (.int .u8 0) 1 Try.underlying25 infob rfl .i64 .i64 32 (by omega) (by omega) u
 obtain⟨U,hU⟩:∃U,w.alloc (.cells (madeCells #[.int .u8 0] 32) 5)=U:=⟨_,rfl⟩
 have BU:=Lib.hid (show Below w.heap.size w U from by rw[←hU];exact below_one w _)
 have PZ:=Lib.hid (show Pc U (some ⟨w.heap.size,0,none⟩,32,32,zr) from by rw[←hU];exact zr_pc w)
 have RM1:(Instr.makeSlice 25 (.int .i64 32) (.int .i64 32)).run Try.prog w=.ok (.slice (some ⟨w.heap.size,0,none⟩) 32 32) U:=by rw[RM,hU]
 have CW:=Lib.hid (write_kB PZ.out)
 clear RM hU
 go_enter Try.func9,Try.ntmps9
 go_upto_region 2 with(go_at_call 21;(refine CW.out.mono ?_);rintro e1 w1 ⟨h1,A1,c1,rfl,h2,h3⟩;have B1:=Lib.hid (BU.out.trans (h1.mono BU.out.size));have P1:=Lib.hid h2;have I1:=Lib.hid h3;have CT:=Lib.hid (read_kB h2 h3);clear h1 h2 h3)
 clear CW RM1 PZ BU
 go_upto_region 3 with(go_at_call 22;(refine CT.out.mono ?_);rintro e2 w2 ⟨h1,A2,c2,rfl⟩;have B2:=Lib.hid h1;clear h1)
 have X2:=Lib.hid (below_one w2 (.cells #[.int .i64 1,.int .i64 9,.int .i64 2,.int .i64 3,.slice A2 32 c2] 63))
 have N2:=Lib.hid (Bl.new_ w2 63 #[.int .i64 1,.int .i64 9,.int .i64 2,.int .i64 3,.slice A2 32 c2])
 have B3:=Lib.hid (B2.out.trans (X2.out.mono B2.out.size))
 obtain⟨xb,hxb⟩:∃xb,w2.heap.size=xb:=⟨_,rfl⟩
 rw[hxb] at N2 ⊢
 generalize w2.alloc (.cells #[.int .i64 1,.int .i64 9,.int .i64 2,.int .i64 3,.slice A2 32 c2] 63)=w3 at *
 have P3:=Lib.hid (P1.out.below B3.out)
 have CR:=Lib.hid (root_kB P3.out (fun ad e=>Nat.lt_of_lt_of_le (I1.out ad e) B3.out.size))
 clear X2 hxb CT B2 w2
 go_upto_region 4 with(go_at_call 11;(refine CR.out.mono ?_);rintro e4 w4 ⟨h1,rfl⟩;have B4:=Lib.hid h1;clear h1)
 have X4:=Lib.hid (below_one w4 (.cells z3 24))
 have B5:=Lib.hid (B4.out.trans (X4.out.mono B4.out.size))
 have P5:=Lib.hid (P3.out.below B5.out)
 have N5:=Lib.hid (N2.out.below' B5.out)
 obtain⟨rb,hrb⟩:∃rb,w4.heap.size=rb:=⟨_,rfl⟩
 rw[hrb]
 generalize w4.alloc (.cells z3 24)=w5 at *
 clear X4 CR B4 N2 P3 hrb w4
 have BW:=Lib.hid (B1.out.trans ((B3.out.trans (B5.out.mono B3.out.size)).mono B1.out.size))
 obtain⟨ad,rfl⟩:∃ad,A1=some ad:=by
  obtain⟨ad,e,-⟩:=P5.out.row.2 0 (.int .u8 3) rfl
  exact⟨ad,e⟩
 have S1:=Lib.hid (show Sl w5 (some ad) 14 (bl [3,3,1,1,1,9,3,3,1,2,1,3,2,32]) from⟨rfl,fun k v hv=>P5.out.row.2 k v (by
  have hk:k < 14:=(List.getElem?_eq_some_iff.1 hv).1
  rw[show bl [3,3,1,1,1,9,3,3,1,2,1,3,2,32]=(bl kB).take 14 from rfl,List.getElem?_take,if_pos hk] at hv
  exact hv)⟩)
 have q46:46≤c1:=by have h:=P5.out.cap;rw[show((some ad,46,c1,kB):Rw).2.2.2.length=46 from rfl] at h;exact h
 have q14:(14:Int)≤(c1:Int):=by omega
 have q14':14≤c1:=by omega
 clear q46
 have c3:w5.cell? ⟨xb,3,none⟩=some (.int .i64 3):=N5.out.cell_ rfl
 have X6:=Lib.hid (below_one w5 (.cells #[.int .u8 3,.int .u8 3,.int .u8 1,.int .u8 1,.int .u8 1,.int .u8 9,.int .u8 3,.int .u8 3,.int .u8 1,.int .u8 2,.int .u8 1,.int .u8 3,.int .u8 2,.int .u8 32] 5))
 have N6:=Lib.hid (N5.out.below' X6.out)
 have d3:(w5.alloc (.cells #[.int .u8 3,.int .u8 3,.int .u8 1,.int .u8 1,.int .u8 1,.int .u8 9,.int .u8 3,.int .u8 3,.int .u8 1,.int .u8 2,.int .u8 1,.int .u8 3,.int .u8 2,.int .u8 32] 5)).cell? ⟨xb,3,none⟩=some (.int .i64 3):=N6.out.cell_ rfl
 have CS:=Lib.hid (fun c=>samebytes_any (some ad) (some ⟨w5.heap.size,0,none⟩) 14 14 c 14 [3,3,1,1,1,9,3,3,1,2,1,3,2,32] [3,3,1,1,1,9,3,3,1,2,1,3,2,32] (w5.alloc (.cells #[.int .u8 3,.int .u8 3,.int .u8 1,.int .u8 1,.int .u8 1,.int .u8 9,.int .u8 3,.int .u8 3,.int .u8 1,.int .u8 2,.int .u8 1,.int .u8 3,.int .u8 2,.int .u8 32] 5)) (by decide) (by decide) (S1.out.below X6.out) (Sl.new_ w5 5 (bl [3,3,1,1,1,9,3,3,1,2,1,3,2,32])))
 go_wp2_with (go_at_call 16;(refine(CS.out _).mono ?_);rintro e6 w6 ⟨rfl,rfl⟩)
 go_ret
 exact⟨rfl,BW.out.trans (X6.out.mono BW.out.size)⟩
end Go.Proofs.Yteblmphohhbgcaa.Mt
namespace Go.Proofs.Yteblmphohhbgcaa.Mt
open Go.RowKit Go.Proofs.Yteblmphohhbgcaa.Gn Go.Proofs.Yteblmphohhbgcaa.Fd Go.Proofs.Yteblmphohhbgcaa.Wr Go.Deep
def tx:List Nat:=[105,109,112,114,105,109,97,116,117,114]
def msgn(k:Nat)(l:List Nat):Nd:=.mk 3 0 [] [.mk 2 0 tx [],.mk 1 k [] [],.mk 2 0 l []]
theorem rn_msg(k:Nat)(l:List Nat):rn (msgn k l)=true:=by simp[msgn,rn,rns,tx]
theorem smn_msg{k:Nat}{l:List Nat}(hk:k < 18446744073709551616)(hl:l.length≤8192):smn (msgn k l):=by
 have h:l.length < 18446744073709551616:=Nat.lt_of_le_of_lt hl (by decide)
 simp only[msgn,smn,smns,List.length_nil,List.length_cons]
 exact⟨by decide,by decide,by decide,⟨by decide,by decide,by decide,trivial⟩,⟨hk,by decide,by decide,trivial⟩,⟨by decide,h,by decide,trivial⟩,trivial⟩
theorem len_msg{k:Nat}{l:List Nat}(hk:k < 18446744073709551616)(hl:l.length≤8192):(wbn (msgn k l)).length≤9000:=by
 have h1:=cb_len (n:=k) hk
 have h2:=cb_len (n:=l.length) (Nat.lt_of_le_of_lt hl (by decide))
 have h3:(cb tx.length).length≤9:=cb_len (by decide)
 have h4:(cb 3).length≤9:=cb_len (by decide)
 have h5:tx.length=10:=rfl
 simp only[msgn,wbn,wbns,List.length_cons,List.length_append,List.length_nil,if_true,show((3:Int)=1)=False by decide,show((3:Int)=2)=False by decide,show((2:Int)=1)=False by decide,if_false]
 simp only[Nat.reduceAdd] at *
 omega
theorem wgn_msg{k:Nat}{l:List Nat}(hl:l.length≤8192):(wgn 16 16384 65536 (msgn k l) 1 0).1=0:=by
 have h1:¬(65536:Int) < (l.length:Int):=by omega
 simp[msgn,wgn,wgns,tx,h1]
theorem wern_msg{k:Nat}{l:List Nat}(hk:k < 18446744073709551616)(hl:l.length≤8192):wern 65536 16 16384 65536 (msgn k l)=0:=by
 have h:=len_msg hk hl
 unfold wern
 rw[if_pos (rn_msg k l),if_pos (wgn_msg hl),if_neg (by omega)]
theorem wout_msg{k:Nat}{l:List Nat}(hk:k < 18446744073709551616)(hl:l.length≤8192):wout 65536 16 16384 65536 (msgn k l)=wbn (msgn k l):=if_pos (wern_msg hk hl)
theorem msg_inj{k k':Nat}{l l':List Nat}(hk:k < 18446744073709551616)(hk':k' < 18446744073709551616)(hl:l.length≤8192)(hl':l'.length≤8192):wbn (msgn k l)=wbn (msgn k' l')↔k=k'∧l=l':=by
 constructor
 ·intro h
  obtain⟨i,h1⟩:=wern_back (smn_msg hk hl) (wern_msg hk hl)
  obtain⟨j,h2⟩:=wern_back (smn_msg hk' hl') (wern_msg hk' hl')
  rw[h,h2] at h1
  injection h1 with h1
  unfold msgn at h1
  injection h1 with _ _ _ h1
  simp only[List.cons.injEq,Nd.mk.injEq] at h1
  exact⟨h1.2.1.2.1.symm,h1.2.2.1.2.2.1.symm⟩
 ·rintro⟨rfl,rfl⟩;rfl
theorem szn_msg(k:Nat)(l:List Nat):szn (msgn k l)=14+l.length:=by
 simp[msgn,szn,szns,tx];omega
end Go.Proofs.Yteblmphohhbgcaa.Mt
