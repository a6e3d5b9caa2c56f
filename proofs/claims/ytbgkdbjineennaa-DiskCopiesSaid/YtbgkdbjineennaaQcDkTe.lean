/- Joined texts. -/
import Derived.Test.YtbgkdbjineennaaQcDkTd
set_option linter.unusedVariables false
namespace Go.Proofs.Ytbgkdbjineennaa.Dk
open Go.IntWalk Go.RowKit Go.Proofs.Ytbgkdbjineennaa.Gn Go.Proofs.Ytbgkdbjineennaa.Fd Go.Deep
section
variable {w:World} {g gb:Nat} {H:Value} {cs:Bool} {cw:Int} {ch:Value} {m:M} {a0 lo r n K:Nat}
theorem Dd.glt(D:Dd w a0 g gb H cs cw ch m):g < w.heap.size:=Bl.lt D.blk
def StQ(u:World)(a0 g gb:Nat)(H:Value)(m':M)(e:Ending)(w':World):Prop:=∃(er:Int) (H1:Value) (cs1:Bool) (cw1:Int) (ch1:Value),e=.returned (.int .i64 er)∧Dd w' a0 g gb H1 cs1 cw1 ch1 m'∧(H1.ownBlock=H.ownBlock∨∃q,H1.ownBlock=some q∧u.heap.size≤q)∧Gx (Ts g gb H) u w'
theorem StQ.of_op{u:World}{x:Nat × M}{e:Ending}{w':World}(h:OpQ u a0 g gb H cs ch x e w'):StQ u a0 g gb H x.2 e w':=by
 obtain⟨h1,H1,cw1,h2,h3,h4⟩:=h
 exact⟨_,H1,_,cw1,_,h1,h2,h3,h4⟩
theorem StQ.of_set{u:World}{x:Nat × M}{e:Ending}{w':World}(h:SetQ u a0 g gb H ch x e w'):StQ u a0 g gb H x.2 e w':=by
 obtain⟨h1,cs1,cw1,ch1,h2,h3,h4⟩:=h
 exact⟨_,H,cs1,cw1,ch1,h1,h2,.inl rfl,h4.mono fun k hk=>by rw[List.mem_singleton.1 hk];simp[Ts]⟩
set_option maxRecDepth 100000 in
set_option maxHeartbeats 8000000 in
theorem plays_1(D:Dd w a0 g gb H cs cw ch m)(R:Rd w a0 lo r n K)(hgb:gb < lo)(h9:m.ss.length≤100)(o:Od)(ho:o.ok w a0)(hK:K+o.bn+1≤9000)(hk:m.hd.length≤K)(hst:m.st≤K):Calls Try.prog 26 #[.pointer (some ⟨g,0,none⟩),.pointer (some ⟨r,0,none⟩),.agg #[.int .i64 1,.int .i64 o.at_,.int .i64 o.nn,.slice o.bA o.bn o.bc,.slice o.cA o.cn o.cc]] w (PlQ w a0 lo g gb H r n (K+o.bn+1) (m.write o.at_ o.bs).2):=by
 have AL:a0≤w.heap.size:=Nat.le_of_lt (Nat.lt_of_le_of_lt D.b1 D.glt)
 have HBX:=Lib.hid (Bl.new_ w 37 #[.int .i64 1,.int .i64 o.at_,.int .i64 o.nn,.slice o.bA o.bn o.bc,.slice o.cA o.cn o.cc])
 obtain⟨W0,hW0⟩:∃W0,w.alloc (.cells #[.int .i64 1,.int .i64 o.at_,.int .i64 o.nn,.slice o.bA o.bn o.bc,.slice o.cA o.cn o.cc] 37)=W0:=⟨_,rfl⟩
 rw[hW0] at HBX
 have BW:=Lib.hid (show Below w.heap.size w W0 from by rw[←hW0];exact(Below.refl _ _).alloc (Nat.le_refl _) _)
 have BD:=Lib.hid (show Below W0.heap.size W0 W0.drew from below_drewN (Below.refl _ _) 1)
 have b0:W0.cell? ⟨w.heap.size,0,none⟩=some (.int .i64 1):=HBX.out.cell_ rfl
 have b1:W0.cell? ⟨w.heap.size,1,none⟩=some (.int .i64 o.at_):=HBX.out.cell_ rfl
 have b2:W0.cell? ⟨w.heap.size,2,none⟩=some (.int .i64 o.nn):=HBX.out.cell_ rfl
 have b3:W0.cell? ⟨w.heap.size,3,none⟩=some (.slice o.bA o.bn o.bc):=HBX.out.cell_ rfl
 have b4:W0.cell? ⟨w.heap.size,4,none⟩=some (.slice o.cA o.cn o.cc):=HBX.out.cell_ rfl
 have HD:=Lib.hid (D.below BW.out)
 have HRR:=Lib.hid (R.below BW.out)
 have HO:=Lib.hid (ho.low (BW.out.mono AL))
 have HDD:=Lib.hid D
 have HGB:=Lib.hid hgb
 have PC:=Lib.hid (fun(u:World) (hu:Below W0.heap.size W0 u)=>(Write_dd (HD.out.below hu) (by omega) (by omega) o.at_ o.bs o.bA o.bn o.bc (HO.out.low (hu.mono (Nat.le_trans AL BW.out.size))).b (by have:=ho.b9;omega)).mono fun e w' h=>StQ.of_op h)
 have RC:=Lib.hid (fun(u:World) (hr:Rd u a0 lo r n K) (hu:Below a0 W0 u)=>(Write_r hr (by omega) o.at_ o.bA o.bn o.bc o.bs (HO.out.low hu).b ho.b0).mono fun e w' (h:RopQ u a0 lo r n (K+1) e w')=>show RopQ u a0 lo r n (K+o.bn+1) e w' from⟨h.choose,h.choose_spec.1,h.choose_spec.2.1.more (by omega),h.choose_spec.2.2⟩)
 clear D R ho hgb h9 hK hk hst AL
 obtain⟨MM,hMM⟩:∃MM,(m.write o.at_ o.bs).2=MM:=⟨_,rfl⟩
 have HMM:=Lib.hid hMM
 rw[hMM]
 clear hMM
 go_enter Try.func26,Try.ntmps26
 go_upto_region 3 with fail
 refine wp_region_held_drew (S:=fun u=>Bl u w.heap.size 37 #[.int .i64 1,.int .i64 o.at_,.int .i64 o.nn,.slice o.bA o.bn o.bc,.slice o.cA o.cn o.cc]) (by kernel_rfl) (show Bl _ w.heap.size 37 #[.int .i64 1,.int .i64 o.at_,.int .i64 o.nn,.slice o.bA o.bn o.bc,.slice o.cA o.cn o.cc] from HBX.out) (fun _=>?_)
 refine take_l 0 (v:=?_) rfl (by kernel_rfl) (by kernel_rfl) (by kernel_rfl) (fun _ _ _ h=>h) (Or.inl ⟨by rfl,?_⟩) (show Bl _ w.heap.size 37 #[.int .i64 1,.int .i64 o.at_,.int .i64 o.nn,.slice o.bA o.bn o.bc,.slice o.cA o.cn o.cc] from HBX.out) ?_;rotate_left
 ·intro w' hSw
  replace hSw:Bl w' w.heap.size 37 #[.int .i64 1,.int .i64 o.at_,.int .i64 o.nn,.slice o.bA o.bn o.bc,.slice o.cA o.cn o.cc]:=hSw
  have hS1:w'.cell? ⟨w.heap.size,1,none⟩=some (.int .i64 o.at_):=hSw.cell_ rfl
  have hS3:w'.cell? ⟨w.heap.size,3,none⟩=some (.slice o.bA o.bn o.bc):=hSw.cell_ rfl
  clear hSw
  go_simp
  all_goals with_reducible rfl
 try simp only[Act.put,List.setIfInBounds_toArray,List.set_cons_zero,List.set_cons_succ]
 refine take_l 1 (v:=?_) rfl (by kernel_rfl) (by kernel_rfl) (by kernel_rfl) (fun _ _ _ h=>h) (Or.inl ⟨by rfl,?_⟩) (show Bl _ w.heap.size 37 #[.int .i64 1,.int .i64 o.at_,.int .i64 o.nn,.slice o.bA o.bn o.bc,.slice o.cA o.cn o.cc] from HBX.out) ?_;rotate_left
 ·intro w' hSw
  replace hSw:Bl w' w.heap.size 37 #[.int .i64 1,.int .i64 o.at_,.int .i64 o.nn,.slice o.bA o.bn o.bc,.slice o.cA o.cn o.cc]:=hSw
  have hS1:w'.cell? ⟨w.heap.size,1,none⟩=some (.int .i64 o.at_):=hSw.cell_ rfl
  have hS3:w'.cell? ⟨w.heap.size,3,none⟩=some (.slice o.bA o.bn o.bc):=hSw.cell_ rfl
  clear hSw
  go_simp
  all_goals with_reducible rfl
 try simp only[Act.put,List.setIfInBounds_toArray,List.set_cons_zero,List.set_cons_succ]
 refine take_l 2 (v:=?_) rfl (by kernel_rfl) (by kernel_rfl) (by kernel_rfl) (fun _ _ _ h=>h) (Or.inl ⟨by rfl,?_⟩) (show Bl _ w.heap.size 37 #[.int .i64 1,.int .i64 o.at_,.int .i64 o.nn,.slice o.bA o.bn o.bc,.slice o.cA o.cn o.cc] from HBX.out) ?_;rotate_left
 ·intro w' hSw
  replace hSw:Bl w' w.heap.size 37 #[.int .i64 1,.int .i64 o.at_,.int .i64 o.nn,.slice o.bA o.bn o.bc,.slice o.cA o.cn o.cc]:=hSw
  have hS1:w'.cell? ⟨w.heap.size,1,none⟩=some (.int .i64 o.at_):=hSw.cell_ rfl
  have hS3:w'.cell? ⟨w.heap.size,3,none⟩=some (.slice o.bA o.bn o.bc):=hSw.cell_ rfl
  clear hSw
  go_simp
  all_goals with_reducible rfl
 try simp only[Act.put,List.setIfInBounds_toArray,List.set_cons_zero,List.set_cons_succ]
 refine take_l 3 (v:=?_) rfl (by kernel_rfl) (by kernel_rfl) (by kernel_rfl) (fun _ _ _ h=>h) (Or.inl ⟨by rfl,?_⟩) (show Bl _ w.heap.size 37 #[.int .i64 1,.int .i64 o.at_,.int .i64 o.nn,.slice o.bA o.bn o.bc,.slice o.cA o.cn o.cc] from HBX.out) ?_;rotate_left
 ·intro w' hSw
  replace hSw:Bl w' w.heap.size 37 #[.int .i64 1,.int .i64 o.at_,.int .i64 o.nn,.slice o.bA o.bn o.bc,.slice o.cA o.cn o.cc]:=hSw
  have hS1:w'.cell? ⟨w.heap.size,1,none⟩=some (.int .i64 o.at_):=hSw.cell_ rfl
  have hS3:w'.cell? ⟨w.heap.size,3,none⟩=some (.slice o.bA o.bn o.bc):=hSw.cell_ rfl
  clear hSw
  go_simp
  all_goals with_reducible rfl
 try simp only[Act.put,List.setIfInBounds_toArray,List.set_cons_zero,List.set_cons_succ]
 refine take_l 4 (v:=?_) rfl (by kernel_rfl) (by kernel_rfl) (by kernel_rfl) (fun _ _ _ h=>h) (Or.inl ⟨by rfl,?_⟩) (show Bl _ w.heap.size 37 #[.int .i64 1,.int .i64 o.at_,.int .i64 o.nn,.slice o.bA o.bn o.bc,.slice o.cA o.cn o.cc] from HBX.out) ?_;rotate_left
 ·intro w' hSw
  replace hSw:Bl w' w.heap.size 37 #[.int .i64 1,.int .i64 o.at_,.int .i64 o.nn,.slice o.bA o.bn o.bc,.slice o.cA o.cn o.cc]:=hSw
  have hS1:w'.cell? ⟨w.heap.size,1,none⟩=some (.int .i64 o.at_):=hSw.cell_ rfl
  have hS3:w'.cell? ⟨w.heap.size,3,none⟩=some (.slice o.bA o.bn o.bc):=hSw.cell_ rfl
  clear hSw
  go_simp
  all_goals with_reducible rfl
 try simp only[Act.put,List.setIfInBounds_toArray,List.set_cons_zero,List.set_cons_succ]
 refine take_l 6 (v:=?_) rfl (by kernel_rfl) (by kernel_rfl) (by kernel_rfl) (fun _ _ _ h=>h) (Or.inl ⟨by rfl,?_⟩) (show Bl _ w.heap.size 37 #[.int .i64 1,.int .i64 o.at_,.int .i64 o.nn,.slice o.bA o.bn o.bc,.slice o.cA o.cn o.cc] from HBX.out) ?_;rotate_left
 ·intro w' hSw
  replace hSw:Bl w' w.heap.size 37 #[.int .i64 1,.int .i64 o.at_,.int .i64 o.nn,.slice o.bA o.bn o.bc,.slice o.cA o.cn o.cc]:=hSw
  have hS1:w'.cell? ⟨w.heap.size,1,none⟩=some (.int .i64 o.at_):=hSw.cell_ rfl
  have hS3:w'.cell? ⟨w.heap.size,3,none⟩=some (.slice o.bA o.bn o.bc):=hSw.cell_ rfl
  clear hSw
  go_simp
  all_goals with_reducible rfl
 try simp only[Act.put,List.setIfInBounds_toArray,List.set_cons_zero,List.set_cons_succ]
 refine take_l 7 (v:=?_) rfl (by kernel_rfl) (by kernel_rfl) (by kernel_rfl) (fun _ _ _ h=>h) (Or.inl ⟨by rfl,?_⟩) (show Bl _ w.heap.size 37 #[.int .i64 1,.int .i64 o.at_,.int .i64 o.nn,.slice o.bA o.bn o.bc,.slice o.cA o.cn o.cc] from HBX.out) ?_;rotate_left
 ·intro w' hSw
  replace hSw:Bl w' w.heap.size 37 #[.int .i64 1,.int .i64 o.at_,.int .i64 o.nn,.slice o.bA o.bn o.bc,.slice o.cA o.cn o.cc]:=hSw
  have hS1:w'.cell? ⟨w.heap.size,1,none⟩=some (.int .i64 o.at_):=hSw.cell_ rfl
  have hS3:w'.cell? ⟨w.heap.size,3,none⟩=some (.slice o.bA o.bn o.bc):=hSw.cell_ rfl
  clear hSw
  go_simp
  all_goals with_reducible rfl
 try simp only[Act.put,List.setIfInBounds_toArray,List.set_cons_zero,List.set_cons_succ]
 refine take_l 8 (v:=?_) rfl (by kernel_rfl) (by kernel_rfl) (by kernel_rfl) (fun _ _ _ h=>h) (Or.inl ⟨by rfl,?_⟩) (show Bl _ w.heap.size 37 #[.int .i64 1,.int .i64 o.at_,.int .i64 o.nn,.slice o.bA o.bn o.bc,.slice o.cA o.cn o.cc] from HBX.out) ?_;rotate_left
 ·intro w' hSw
  replace hSw:Bl w' w.heap.size 37 #[.int .i64 1,.int .i64 o.at_,.int .i64 o.nn,.slice o.bA o.bn o.bc,.slice o.cA o.cn o.cc]:=hSw
  have hS1:w'.cell? ⟨w.heap.size,1,none⟩=some (.int .i64 o.at_):=hSw.cell_ rfl
  have hS3:w'.cell? ⟨w.heap.size,3,none⟩=some (.slice o.bA o.bn o.bc):=hSw.cell_ rfl
  clear hSw
  go_simp
  all_goals with_reducible rfl
 try simp only[Act.put,List.setIfInBounds_toArray,List.set_cons_zero,List.set_cons_succ]
 refine take_l 9 (v:=?_) rfl (by kernel_rfl) (by kernel_rfl) (by kernel_rfl) (fun _ _ _ h=>h) (Or.inl ⟨by rfl,?_⟩) (show Bl _ w.heap.size 37 #[.int .i64 1,.int .i64 o.at_,.int .i64 o.nn,.slice o.bA o.bn o.bc,.slice o.cA o.cn o.cc] from HBX.out) ?_;rotate_left
 ·intro w' hSw
  replace hSw:Bl w' w.heap.size 37 #[.int .i64 1,.int .i64 o.at_,.int .i64 o.nn,.slice o.bA o.bn o.bc,.slice o.cA o.cn o.cc]:=hSw
  have hS1:w'.cell? ⟨w.heap.size,1,none⟩=some (.int .i64 o.at_):=hSw.cell_ rfl
  have hS3:w'.cell? ⟨w.heap.size,3,none⟩=some (.slice o.bA o.bn o.bc):=hSw.cell_ rfl
  clear hSw
  go_simp
  all_goals with_reducible rfl
 try simp only[Act.put,List.setIfInBounds_toArray,List.set_cons_zero,List.set_cons_succ]
 refine take_l 10 (v:=?_) rfl (by kernel_rfl) (by kernel_rfl) (by kernel_rfl) (fun _ _ _ h=>h) (Or.inl ⟨by rfl,?_⟩) (show Bl _ w.heap.size 37 #[.int .i64 1,.int .i64 o.at_,.int .i64 o.nn,.slice o.bA o.bn o.bc,.slice o.cA o.cn o.cc] from HBX.out) ?_;rotate_left
 ·intro w' hSw
  replace hSw:Bl w' w.heap.size 37 #[.int .i64 1,.int .i64 o.at_,.int .i64 o.nn,.slice o.bA o.bn o.bc,.slice o.cA o.cn o.cc]:=hSw
  have hS1:w'.cell? ⟨w.heap.size,1,none⟩=some (.int .i64 o.at_):=hSw.cell_ rfl
  have hS3:w'.cell? ⟨w.heap.size,3,none⟩=some (.slice o.bA o.bn o.bc):=hSw.cell_ rfl
  clear hSw
  go_simp
  all_goals with_reducible rfl
 try simp only[Act.put,List.setIfInBounds_toArray,List.set_cons_zero,List.set_cons_succ]
 refine wpAnyH_ready (rs:=[5]) (by kernel_rfl) (by simp) ?_
 refine cons_l rfl (fun K0 hK=>?_) (AllReadyH.nil)
 go_simp
 (go_at_call 18;(with_reducible refine(PC.out _ BD.out).mono ?_);rintro e w1 ⟨er,H1,cs1,cw1,ch1,rfl,d1,o1,g1⟩)
 have D1:=Lib.hid d1
 have O1:=Lib.hid o1
 have G1:=Lib.hid (show Gx (Ts g gb H) W0 w1 from(Gx.of_below BD.out).trans g1)
 have BX1:=Lib.hid (G1.out.bl (HD.out.off ⟨_,HBX.out⟩ (by decide) (by decide) (by decide)) HBX.out)
 have R1:=Lib.hid (HRR.out.ts HD.out HGB.out G1.out)
 clear d1 o1 g1
 refine hK.out _ _ (show Bl _ w.heap.size 37 #[.int .i64 1,.int .i64 o.at_,.int .i64 o.nn,.slice o.bA o.bn o.bc,.slice o.cA o.cn o.cc] from BX1.out) (fun _=>?_)
 clear hK K0
 try simp only[Act.put,List.setIfInBounds_toArray,List.set_cons_zero,List.set_cons_succ]
 refine wpAnyH_ready (rs:=[11]) (by kernel_rfl) (by simp) ?_
 refine cons_l rfl (fun K0 hK=>?_) (AllReadyH.nil)
 go_simp
 (go_at_call 43;(with_reducible refine(RC.out w1 R1.out (G1.out.below (Nat.le_of_lt (Nat.lt_of_le_of_lt HD.out.b1 HD.out.glt)) (ts_base HD.out))).mono ?_);rintro e w2 ⟨v,rfl,r2,f2⟩)
 have R2:=Lib.hid r2
 have F2:=Lib.hid f2
 have BX2:=Lib.hid (show Bl w2 w.heap.size 37 #[.int .i64 1,.int .i64 o.at_,.int .i64 o.nn,.slice o.bA o.bn o.bc,.slice o.cA o.cn o.cc] from(F2.out.block w.heap.size BX1.out.lt (by simp) (fun e=>Dt.unlike e.2 ⟨_,BX1.out⟩ (by decide) (by decide) (by decide) rfl)).trans BX1.out)
 clear r2 f2
 refine hK.out _ _ (show Bl _ w.heap.size 37 #[.int .i64 1,.int .i64 o.at_,.int .i64 o.nn,.slice o.bA o.bn o.bc,.slice o.cA o.cn o.cc] from BX2.out) (fun _=>?_)
 clear hK K0
 try simp only[Act.put,List.setIfInBounds_toArray,List.set_cons_zero,List.set_cons_succ]
 refine take_l 12 (v:=?_) rfl (by kernel_rfl) (by kernel_rfl) (by kernel_rfl) (fun _ _ _ h=>h) (Or.inl ⟨by rfl,?_⟩) (show Bl _ w.heap.size 37 #[.int .i64 1,.int .i64 o.at_,.int .i64 o.nn,.slice o.bA o.bn o.bc,.slice o.cA o.cn o.cc] from BX2.out) ?_;rotate_left
 ·intro w' hSw
  replace hSw:Bl w' w.heap.size 37 #[.int .i64 1,.int .i64 o.at_,.int .i64 o.nn,.slice o.bA o.bn o.bc,.slice o.cA o.cn o.cc]:=hSw
  have hS1:w'.cell? ⟨w.heap.size,1,none⟩=some (.int .i64 o.at_):=hSw.cell_ rfl
  have hS3:w'.cell? ⟨w.heap.size,3,none⟩=some (.slice o.bA o.bn o.bc):=hSw.cell_ rfl
  clear hSw
  go_simp
  all_goals with_reducible rfl
 try simp only[Act.put,List.setIfInBounds_toArray,List.set_cons_zero,List.set_cons_succ]
 refine wpAnyH_ready (rs:=[13]) (by kernel_rfl) (by simp) ?_
 refine cons_l rfl (fun K0 hK=>?_) (AllReadyH.nil)
 go_simp
 refine hK.out _ _ (show Bl _ w.heap.size 37 #[.int .i64 1,.int .i64 o.at_,.int .i64 o.nn,.slice o.bA o.bn o.bc,.slice o.cA o.cn o.cc] from BX2.out) (fun _=>?_)
 clear hK K0
 try simp only[Act.put,List.setIfInBounds_toArray,List.set_cons_zero,List.set_cons_succ]
 refine wpAnyH_done (by kernel_rfl) ?_ _
 go_wp2_with fail
 go_ret
 rw[←HMM.out]
 exact pl_both HDD.out BW.out G1.out D1.out O1.out R2.out F2.out _
set_option maxRecDepth 100000 in
set_option maxHeartbeats 8000000 in
theorem plays_3(D:Dd w a0 g gb H cs cw ch m)(R:Rd w a0 lo r n K)(hgb:gb < lo)(h9:m.ss.length≤100)(o:Od)(ho:o.ok w a0)(hK:K+o.bn+1≤9000)(hk:m.hd.length≤K)(hst:m.st≤K):Calls Try.prog 26 #[.pointer (some ⟨g,0,none⟩),.pointer (some ⟨r,0,none⟩),.agg #[.int .i64 3,.int .i64 o.at_,.int .i64 o.nn,.slice o.bA o.bn o.bc,.slice o.cA o.cn o.cc]] w (PlQ w a0 lo g gb H r n (K+o.bn+1) (m.set o.nn o.cl).2):=by
 have AL:a0≤w.heap.size:=Nat.le_of_lt (Nat.lt_of_le_of_lt D.b1 D.glt)
 have HBX:=Lib.hid (Bl.new_ w 37 #[.int .i64 3,.int .i64 o.at_,.int .i64 o.nn,.slice o.bA o.bn o.bc,.slice o.cA o.cn o.cc])
 obtain⟨W0,hW0⟩:∃W0,w.alloc (.cells #[.int .i64 3,.int .i64 o.at_,.int .i64 o.nn,.slice o.bA o.bn o.bc,.slice o.cA o.cn o.cc] 37)=W0:=⟨_,rfl⟩
 rw[hW0] at HBX
 have BW:=Lib.hid (show Below w.heap.size w W0 from by rw[←hW0];exact(Below.refl _ _).alloc (Nat.le_refl _) _)
 have BD:=Lib.hid (show Below W0.heap.size W0 W0.drew from below_drewN (Below.refl _ _) 1)
 have b0:W0.cell? ⟨w.heap.size,0,none⟩=some (.int .i64 3):=HBX.out.cell_ rfl
 have b1:W0.cell? ⟨w.heap.size,1,none⟩=some (.int .i64 o.at_):=HBX.out.cell_ rfl
 have b2:W0.cell? ⟨w.heap.size,2,none⟩=some (.int .i64 o.nn):=HBX.out.cell_ rfl
 have b3:W0.cell? ⟨w.heap.size,3,none⟩=some (.slice o.bA o.bn o.bc):=HBX.out.cell_ rfl
 have b4:W0.cell? ⟨w.heap.size,4,none⟩=some (.slice o.cA o.cn o.cc):=HBX.out.cell_ rfl
 have HD:=Lib.hid (D.below BW.out)
 have HRR:=Lib.hid (R.below BW.out)
 have HO:=Lib.hid (ho.low (BW.out.mono AL))
 have HDD:=Lib.hid D
 have HGB:=Lib.hid hgb
 have PC:=Lib.hid (fun(u:World) (hu:Below W0.heap.size W0 u)=>(Set_dd (HD.out.below hu) o.nn ho.n9 o.cA o.cn o.cc o.cl (HO.out.low (hu.mono (Nat.le_trans AL BW.out.size))).c (fun e=>by have:=ho.c0 e;have:=ho.c1;omega)).mono fun e w' h=>StQ.of_set h)
 have RC:=Lib.hid (fun(u:World) (hr:Rd u a0 lo r n K) (hu:Below a0 W0 u)=>(Set_r hr o.nn ho.n9 o.cA o.cn o.cc o.cl (HO.out.low hu).c ho.c2).mono fun e w' (h:RopQ u a0 lo r n K e w')=>show RopQ u a0 lo r n (K+o.bn+1) e w' from⟨h.choose,h.choose_spec.1,h.choose_spec.2.1.more (by omega),h.choose_spec.2.2⟩)
 clear D R ho hgb h9 hK hk hst AL
 obtain⟨MM,hMM⟩:∃MM,(m.set o.nn o.cl).2=MM:=⟨_,rfl⟩
 have HMM:=Lib.hid hMM
 rw[hMM]
 clear hMM
 go_enter Try.func26,Try.ntmps26
 go_upto_region 7 with fail
 refine wp_region_held_drew (S:=fun u=>Bl u w.heap.size 37 #[.int .i64 3,.int .i64 o.at_,.int .i64 o.nn,.slice o.bA o.bn o.bc,.slice o.cA o.cn o.cc]) (by kernel_rfl) (show Bl _ w.heap.size 37 #[.int .i64 3,.int .i64 o.at_,.int .i64 o.nn,.slice o.bA o.bn o.bc,.slice o.cA o.cn o.cc] from HBX.out) (fun _=>?_)
 refine take_l 0 (v:=?_) rfl (by kernel_rfl) (by kernel_rfl) (by kernel_rfl) (fun _ _ _ h=>h) (Or.inl ⟨by rfl,?_⟩) (show Bl _ w.heap.size 37 #[.int .i64 3,.int .i64 o.at_,.int .i64 o.nn,.slice o.bA o.bn o.bc,.slice o.cA o.cn o.cc] from HBX.out) ?_;rotate_left
 ·intro w' hSw
  replace hSw:Bl w' w.heap.size 37 #[.int .i64 3,.int .i64 o.at_,.int .i64 o.nn,.slice o.bA o.bn o.bc,.slice o.cA o.cn o.cc]:=hSw
  have hS2:w'.cell? ⟨w.heap.size,2,none⟩=some (.int .i64 o.nn):=hSw.cell_ rfl
  have hS4:w'.cell? ⟨w.heap.size,4,none⟩=some (.slice o.cA o.cn o.cc):=hSw.cell_ rfl
  clear hSw
  go_simp
  all_goals with_reducible rfl
 try simp only[Act.put,List.setIfInBounds_toArray,List.set_cons_zero,List.set_cons_succ]
 refine take_l 1 (v:=?_) rfl (by kernel_rfl) (by kernel_rfl) (by kernel_rfl) (fun _ _ _ h=>h) (Or.inl ⟨by rfl,?_⟩) (show Bl _ w.heap.size 37 #[.int .i64 3,.int .i64 o.at_,.int .i64 o.nn,.slice o.bA o.bn o.bc,.slice o.cA o.cn o.cc] from HBX.out) ?_;rotate_left
 ·intro w' hSw
  replace hSw:Bl w' w.heap.size 37 #[.int .i64 3,.int .i64 o.at_,.int .i64 o.nn,.slice o.bA o.bn o.bc,.slice o.cA o.cn o.cc]:=hSw
  have hS2:w'.cell? ⟨w.heap.size,2,none⟩=some (.int .i64 o.nn):=hSw.cell_ rfl
  have hS4:w'.cell? ⟨w.heap.size,4,none⟩=some (.slice o.cA o.cn o.cc):=hSw.cell_ rfl
  clear hSw
  go_simp
  all_goals with_reducible rfl
 try simp only[Act.put,List.setIfInBounds_toArray,List.set_cons_zero,List.set_cons_succ]
 refine take_l 2 (v:=?_) rfl (by kernel_rfl) (by kernel_rfl) (by kernel_rfl) (fun _ _ _ h=>h) (Or.inl ⟨by rfl,?_⟩) (show Bl _ w.heap.size 37 #[.int .i64 3,.int .i64 o.at_,.int .i64 o.nn,.slice o.bA o.bn o.bc,.slice o.cA o.cn o.cc] from HBX.out) ?_;rotate_left
 ·intro w' hSw
  replace hSw:Bl w' w.heap.size 37 #[.int .i64 3,.int .i64 o.at_,.int .i64 o.nn,.slice o.bA o.bn o.bc,.slice o.cA o.cn o.cc]:=hSw
  have hS2:w'.cell? ⟨w.heap.size,2,none⟩=some (.int .i64 o.nn):=hSw.cell_ rfl
  have hS4:w'.cell? ⟨w.heap.size,4,none⟩=some (.slice o.cA o.cn o.cc):=hSw.cell_ rfl
  clear hSw
  go_simp
  all_goals with_reducible rfl
 try simp only[Act.put,List.setIfInBounds_toArray,List.set_cons_zero,List.set_cons_succ]
 refine take_l 3 (v:=?_) rfl (by kernel_rfl) (by kernel_rfl) (by kernel_rfl) (fun _ _ _ h=>h) (Or.inl ⟨by rfl,?_⟩) (show Bl _ w.heap.size 37 #[.int .i64 3,.int .i64 o.at_,.int .i64 o.nn,.slice o.bA o.bn o.bc,.slice o.cA o.cn o.cc] from HBX.out) ?_;rotate_left
 ·intro w' hSw
  replace hSw:Bl w' w.heap.size 37 #[.int .i64 3,.int .i64 o.at_,.int .i64 o.nn,.slice o.bA o.bn o.bc,.slice o.cA o.cn o.cc]:=hSw
  have hS2:w'.cell? ⟨w.heap.size,2,none⟩=some (.int .i64 o.nn):=hSw.cell_ rfl
  have hS4:w'.cell? ⟨w.heap.size,4,none⟩=some (.slice o.cA o.cn o.cc):=hSw.cell_ rfl
  clear hSw
  go_simp
  all_goals with_reducible rfl
 try simp only[Act.put,List.setIfInBounds_toArray,List.set_cons_zero,List.set_cons_succ]
 refine take_l 4 (v:=?_) rfl (by kernel_rfl) (by kernel_rfl) (by kernel_rfl) (fun _ _ _ h=>h) (Or.inl ⟨by rfl,?_⟩) (show Bl _ w.heap.size 37 #[.int .i64 3,.int .i64 o.at_,.int .i64 o.nn,.slice o.bA o.bn o.bc,.slice o.cA o.cn o.cc] from HBX.out) ?_;rotate_left
 ·intro w' hSw
  replace hSw:Bl w' w.heap.size 37 #[.int .i64 3,.int .i64 o.at_,.int .i64 o.nn,.slice o.bA o.bn o.bc,.slice o.cA o.cn o.cc]:=hSw
  have hS2:w'.cell? ⟨w.heap.size,2,none⟩=some (.int .i64 o.nn):=hSw.cell_ rfl
  have hS4:w'.cell? ⟨w.heap.size,4,none⟩=some (.slice o.cA o.cn o.cc):=hSw.cell_ rfl
  clear hSw
  go_simp
  all_goals with_reducible rfl
 try simp only[Act.put,List.setIfInBounds_toArray,List.set_cons_zero,List.set_cons_succ]
 refine take_l 6 (v:=?_) rfl (by kernel_rfl) (by kernel_rfl) (by kernel_rfl) (fun _ _ _ h=>h) (Or.inl ⟨by rfl,?_⟩) (show Bl _ w.heap.size 37 #[.int .i64 3,.int .i64 o.at_,.int .i64 o.nn,.slice o.bA o.bn o.bc,.slice o.cA o.cn o.cc] from HBX.out) ?_;rotate_left
 ·intro w' hSw
  replace hSw:Bl w' w.heap.size 37 #[.int .i64 3,.int .i64 o.at_,.int .i64 o.nn,.slice o.bA o.bn o.bc,.slice o.cA o.cn o.cc]:=hSw
  have hS2:w'.cell? ⟨w.heap.size,2,none⟩=some (.int .i64 o.nn):=hSw.cell_ rfl
  have hS4:w'.cell? ⟨w.heap.size,4,none⟩=some (.slice o.cA o.cn o.cc):=hSw.cell_ rfl
  clear hSw
  go_simp
  all_goals with_reducible rfl
 try simp only[Act.put,List.setIfInBounds_toArray,List.set_cons_zero,List.set_cons_succ]
 refine take_l 7 (v:=?_) rfl (by kernel_rfl) (by kernel_rfl) (by kernel_rfl) (fun _ _ _ h=>h) (Or.inl ⟨by rfl,?_⟩) (show Bl _ w.heap.size 37 #[.int .i64 3,.int .i64 o.at_,.int .i64 o.nn,.slice o.bA o.bn o.bc,.slice o.cA o.cn o.cc] from HBX.out) ?_;rotate_left
 ·intro w' hSw
  replace hSw:Bl w' w.heap.size 37 #[.int .i64 3,.int .i64 o.at_,.int .i64 o.nn,.slice o.bA o.bn o.bc,.slice o.cA o.cn o.cc]:=hSw
  have hS2:w'.cell? ⟨w.heap.size,2,none⟩=some (.int .i64 o.nn):=hSw.cell_ rfl
  have hS4:w'.cell? ⟨w.heap.size,4,none⟩=some (.slice o.cA o.cn o.cc):=hSw.cell_ rfl
  clear hSw
  go_simp
  all_goals with_reducible rfl
 try simp only[Act.put,List.setIfInBounds_toArray,List.set_cons_zero,List.set_cons_succ]
 refine take_l 8 (v:=?_) rfl (by kernel_rfl) (by kernel_rfl) (by kernel_rfl) (fun _ _ _ h=>h) (Or.inl ⟨by rfl,?_⟩) (show Bl _ w.heap.size 37 #[.int .i64 3,.int .i64 o.at_,.int .i64 o.nn,.slice o.bA o.bn o.bc,.slice o.cA o.cn o.cc] from HBX.out) ?_;rotate_left
 ·intro w' hSw
  replace hSw:Bl w' w.heap.size 37 #[.int .i64 3,.int .i64 o.at_,.int .i64 o.nn,.slice o.bA o.bn o.bc,.slice o.cA o.cn o.cc]:=hSw
  have hS2:w'.cell? ⟨w.heap.size,2,none⟩=some (.int .i64 o.nn):=hSw.cell_ rfl
  have hS4:w'.cell? ⟨w.heap.size,4,none⟩=some (.slice o.cA o.cn o.cc):=hSw.cell_ rfl
  clear hSw
  go_simp
  all_goals with_reducible rfl
 try simp only[Act.put,List.setIfInBounds_toArray,List.set_cons_zero,List.set_cons_succ]
 refine take_l 9 (v:=?_) rfl (by kernel_rfl) (by kernel_rfl) (by kernel_rfl) (fun _ _ _ h=>h) (Or.inl ⟨by rfl,?_⟩) (show Bl _ w.heap.size 37 #[.int .i64 3,.int .i64 o.at_,.int .i64 o.nn,.slice o.bA o.bn o.bc,.slice o.cA o.cn o.cc] from HBX.out) ?_;rotate_left
 ·intro w' hSw
  replace hSw:Bl w' w.heap.size 37 #[.int .i64 3,.int .i64 o.at_,.int .i64 o.nn,.slice o.bA o.bn o.bc,.slice o.cA o.cn o.cc]:=hSw
  have hS2:w'.cell? ⟨w.heap.size,2,none⟩=some (.int .i64 o.nn):=hSw.cell_ rfl
  have hS4:w'.cell? ⟨w.heap.size,4,none⟩=some (.slice o.cA o.cn o.cc):=hSw.cell_ rfl
  clear hSw
  go_simp
  all_goals with_reducible rfl
 try simp only[Act.put,List.setIfInBounds_toArray,List.set_cons_zero,List.set_cons_succ]
 refine take_l 10 (v:=?_) rfl (by kernel_rfl) (by kernel_rfl) (by kernel_rfl) (fun _ _ _ h=>h) (Or.inl ⟨by rfl,?_⟩) (show Bl _ w.heap.size 37 #[.int .i64 3,.int .i64 o.at_,.int .i64 o.nn,.slice o.bA o.bn o.bc,.slice o.cA o.cn o.cc] from HBX.out) ?_;rotate_left
 ·intro w' hSw
  replace hSw:Bl w' w.heap.size 37 #[.int .i64 3,.int .i64 o.at_,.int .i64 o.nn,.slice o.bA o.bn o.bc,.slice o.cA o.cn o.cc]:=hSw
  have hS2:w'.cell? ⟨w.heap.size,2,none⟩=some (.int .i64 o.nn):=hSw.cell_ rfl
  have hS4:w'.cell? ⟨w.heap.size,4,none⟩=some (.slice o.cA o.cn o.cc):=hSw.cell_ rfl
  clear hSw
  go_simp
  all_goals with_reducible rfl
 try simp only[Act.put,List.setIfInBounds_toArray,List.set_cons_zero,List.set_cons_succ]
 refine wpAnyH_ready (rs:=[5]) (by kernel_rfl) (by simp) ?_
 refine cons_l rfl (fun K0 hK=>?_) (AllReadyH.nil)
 go_simp
 (go_at_call 28;(with_reducible refine(PC.out _ BD.out).mono ?_);rintro e w1 ⟨er,H1,cs1,cw1,ch1,rfl,d1,o1,g1⟩)
 have D1:=Lib.hid d1
 have O1:=Lib.hid o1
 have G1:=Lib.hid (show Gx (Ts g gb H) W0 w1 from(Gx.of_below BD.out).trans g1)
 have BX1:=Lib.hid (G1.out.bl (HD.out.off ⟨_,HBX.out⟩ (by decide) (by decide) (by decide)) HBX.out)
 have R1:=Lib.hid (HRR.out.ts HD.out HGB.out G1.out)
 clear d1 o1 g1
 refine hK.out _ _ (show Bl _ w.heap.size 37 #[.int .i64 3,.int .i64 o.at_,.int .i64 o.nn,.slice o.bA o.bn o.bc,.slice o.cA o.cn o.cc] from BX1.out) (fun _=>?_)
 clear hK K0
 try simp only[Act.put,List.setIfInBounds_toArray,List.set_cons_zero,List.set_cons_succ]
 refine wpAnyH_ready (rs:=[11]) (by kernel_rfl) (by simp) ?_
 refine cons_l rfl (fun K0 hK=>?_) (AllReadyH.nil)
 go_simp
 (go_at_call 45;(with_reducible refine(RC.out w1 R1.out (G1.out.below (Nat.le_of_lt (Nat.lt_of_le_of_lt HD.out.b1 HD.out.glt)) (ts_base HD.out))).mono ?_);rintro e w2 ⟨v,rfl,r2,f2⟩)
 have R2:=Lib.hid r2
 have F2:=Lib.hid f2
 have BX2:=Lib.hid (show Bl w2 w.heap.size 37 #[.int .i64 3,.int .i64 o.at_,.int .i64 o.nn,.slice o.bA o.bn o.bc,.slice o.cA o.cn o.cc] from(F2.out.block w.heap.size BX1.out.lt (by simp) (fun e=>Dt.unlike e.2 ⟨_,BX1.out⟩ (by decide) (by decide) (by decide) rfl)).trans BX1.out)
 clear r2 f2
 refine hK.out _ _ (show Bl _ w.heap.size 37 #[.int .i64 3,.int .i64 o.at_,.int .i64 o.nn,.slice o.bA o.bn o.bc,.slice o.cA o.cn o.cc] from BX2.out) (fun _=>?_)
 clear hK K0
 try simp only[Act.put,List.setIfInBounds_toArray,List.set_cons_zero,List.set_cons_succ]
 refine take_l 12 (v:=?_) rfl (by kernel_rfl) (by kernel_rfl) (by kernel_rfl) (fun _ _ _ h=>h) (Or.inl ⟨by rfl,?_⟩) (show Bl _ w.heap.size 37 #[.int .i64 3,.int .i64 o.at_,.int .i64 o.nn,.slice o.bA o.bn o.bc,.slice o.cA o.cn o.cc] from BX2.out) ?_;rotate_left
 ·intro w' hSw
  replace hSw:Bl w' w.heap.size 37 #[.int .i64 3,.int .i64 o.at_,.int .i64 o.nn,.slice o.bA o.bn o.bc,.slice o.cA o.cn o.cc]:=hSw
  have hS2:w'.cell? ⟨w.heap.size,2,none⟩=some (.int .i64 o.nn):=hSw.cell_ rfl
  have hS4:w'.cell? ⟨w.heap.size,4,none⟩=some (.slice o.cA o.cn o.cc):=hSw.cell_ rfl
  clear hSw
  go_simp
  all_goals with_reducible rfl
 try simp only[Act.put,List.setIfInBounds_toArray,List.set_cons_zero,List.set_cons_succ]
 refine wpAnyH_ready (rs:=[13]) (by kernel_rfl) (by simp) ?_
 refine cons_l rfl (fun K0 hK=>?_) (AllReadyH.nil)
 go_simp
 refine hK.out _ _ (show Bl _ w.heap.size 37 #[.int .i64 3,.int .i64 o.at_,.int .i64 o.nn,.slice o.bA o.bn o.bc,.slice o.cA o.cn o.cc] from BX2.out) (fun _=>?_)
 clear hK K0
 try simp only[Act.put,List.setIfInBounds_toArray,List.set_cons_zero,List.set_cons_succ]
 refine wpAnyH_done (by kernel_rfl) ?_ _
 go_wp2_with fail
 go_ret
 rw[←HMM.out]
 exact pl_both HDD.out BW.out G1.out D1.out O1.out R2.out F2.out _
set_option maxRecDepth 100000 in
set_option maxHeartbeats 8000000 in
theorem plays_8(D:Dd w a0 g gb H cs cw ch m)(R:Rd w a0 lo r n K)(hgb:gb < lo)(h9:m.ss.length≤100)(o:Od)(ho:o.ok w a0)(hK:K+o.bn+1≤9000)(hk:m.hd.length≤K)(hst:m.st≤K):Calls Try.prog 26 #[.pointer (some ⟨g,0,none⟩),.pointer (some ⟨r,0,none⟩),.agg #[.int .i64 8,.int .i64 o.at_,.int .i64 o.nn,.slice o.bA o.bn o.bc,.slice o.cA o.cn o.cc]] w (PlQ w a0 lo g gb H r n (K+o.bn+1) (m.save o.at_ o.bs).2):=by
 have AL:a0≤w.heap.size:=Nat.le_of_lt (Nat.lt_of_le_of_lt D.b1 D.glt)
 have HBX:=Lib.hid (Bl.new_ w 37 #[.int .i64 8,.int .i64 o.at_,.int .i64 o.nn,.slice o.bA o.bn o.bc,.slice o.cA o.cn o.cc])
 obtain⟨W0,hW0⟩:∃W0,w.alloc (.cells #[.int .i64 8,.int .i64 o.at_,.int .i64 o.nn,.slice o.bA o.bn o.bc,.slice o.cA o.cn o.cc] 37)=W0:=⟨_,rfl⟩
 rw[hW0] at HBX
 have BW:=Lib.hid (show Below w.heap.size w W0 from by rw[←hW0];exact(Below.refl _ _).alloc (Nat.le_refl _) _)
 have BD:=Lib.hid (show Below W0.heap.size W0 W0.drew from below_drewN (Below.refl _ _) 1)
 have b0:W0.cell? ⟨w.heap.size,0,none⟩=some (.int .i64 8):=HBX.out.cell_ rfl
 have b1:W0.cell? ⟨w.heap.size,1,none⟩=some (.int .i64 o.at_):=HBX.out.cell_ rfl
 have b2:W0.cell? ⟨w.heap.size,2,none⟩=some (.int .i64 o.nn):=HBX.out.cell_ rfl
 have b3:W0.cell? ⟨w.heap.size,3,none⟩=some (.slice o.bA o.bn o.bc):=HBX.out.cell_ rfl
 have b4:W0.cell? ⟨w.heap.size,4,none⟩=some (.slice o.cA o.cn o.cc):=HBX.out.cell_ rfl
 have HD:=Lib.hid (D.below BW.out)
 have HRR:=Lib.hid (R.below BW.out)
 have HO:=Lib.hid (ho.low (BW.out.mono AL))
 have HDD:=Lib.hid D
 have HGB:=Lib.hid hgb
 have PC:=Lib.hid (fun(u:World) (hu:Below W0.heap.size W0 u)=>(Save_dd (HD.out.below hu) h9 o.at_ o.bA o.bn o.bc o.bs (HO.out.low (hu.mono (Nat.le_trans AL BW.out.size))).b ho.b0 ho.b1 ho.b2 (by have:=ho.b9;omega) (by omega) (by omega)).mono fun e w' h=>StQ.of_op h)
 have RC:=Lib.hid (fun(u:World) (hr:Rd u a0 lo r n K) (hu:Below a0 W0 u)=>(Save_r hr o.at_ o.bA o.bn o.bc o.bs (HO.out.low hu).b ho.b0 ho.b1 ho.b2 (by omega)).mono fun e w' (h:RopQ u a0 lo r n (K+o.bn) e w')=>show RopQ u a0 lo r n (K+o.bn+1) e w' from⟨h.choose,h.choose_spec.1,h.choose_spec.2.1.more (by omega),h.choose_spec.2.2⟩)
 clear D R ho hgb h9 hK hk hst AL
 obtain⟨MM,hMM⟩:∃MM,(m.save o.at_ o.bs).2=MM:=⟨_,rfl⟩
 have HMM:=Lib.hid hMM
 rw[hMM]
 clear hMM
 go_enter Try.func26,Try.ntmps26
 go_upto_region 23 with fail
 refine wp_region_held_drew (S:=fun u=>Bl u w.heap.size 37 #[.int .i64 8,.int .i64 o.at_,.int .i64 o.nn,.slice o.bA o.bn o.bc,.slice o.cA o.cn o.cc]) (by kernel_rfl) (show Bl _ w.heap.size 37 #[.int .i64 8,.int .i64 o.at_,.int .i64 o.nn,.slice o.bA o.bn o.bc,.slice o.cA o.cn o.cc] from HBX.out) (fun _=>?_)
 refine take_l 0 (v:=?_) rfl (by kernel_rfl) (by kernel_rfl) (by kernel_rfl) (fun _ _ _ h=>h) (Or.inl ⟨by rfl,?_⟩) (show Bl _ w.heap.size 37 #[.int .i64 8,.int .i64 o.at_,.int .i64 o.nn,.slice o.bA o.bn o.bc,.slice o.cA o.cn o.cc] from HBX.out) ?_;rotate_left
 ·intro w' hSw
  replace hSw:Bl w' w.heap.size 37 #[.int .i64 8,.int .i64 o.at_,.int .i64 o.nn,.slice o.bA o.bn o.bc,.slice o.cA o.cn o.cc]:=hSw
  have hS1:w'.cell? ⟨w.heap.size,1,none⟩=some (.int .i64 o.at_):=hSw.cell_ rfl
  have hS3:w'.cell? ⟨w.heap.size,3,none⟩=some (.slice o.bA o.bn o.bc):=hSw.cell_ rfl
  clear hSw
  go_simp
  all_goals with_reducible rfl
 try simp only[Act.put,List.setIfInBounds_toArray,List.set_cons_zero,List.set_cons_succ]
 refine take_l 1 (v:=?_) rfl (by kernel_rfl) (by kernel_rfl) (by kernel_rfl) (fun _ _ _ h=>h) (Or.inl ⟨by rfl,?_⟩) (show Bl _ w.heap.size 37 #[.int .i64 8,.int .i64 o.at_,.int .i64 o.nn,.slice o.bA o.bn o.bc,.slice o.cA o.cn o.cc] from HBX.out) ?_;rotate_left
 ·intro w' hSw
  replace hSw:Bl w' w.heap.size 37 #[.int .i64 8,.int .i64 o.at_,.int .i64 o.nn,.slice o.bA o.bn o.bc,.slice o.cA o.cn o.cc]:=hSw
  have hS1:w'.cell? ⟨w.heap.size,1,none⟩=some (.int .i64 o.at_):=hSw.cell_ rfl
  have hS3:w'.cell? ⟨w.heap.size,3,none⟩=some (.slice o.bA o.bn o.bc):=hSw.cell_ rfl
  clear hSw
  go_simp
  all_goals with_reducible rfl
 try simp only[Act.put,List.setIfInBounds_toArray,List.set_cons_zero,List.set_cons_succ]
 refine take_l 2 (v:=?_) rfl (by kernel_rfl) (by kernel_rfl) (by kernel_rfl) (fun _ _ _ h=>h) (Or.inl ⟨by rfl,?_⟩) (show Bl _ w.heap.size 37 #[.int .i64 8,.int .i64 o.at_,.int .i64 o.nn,.slice o.bA o.bn o.bc,.slice o.cA o.cn o.cc] from HBX.out) ?_;rotate_left
 ·intro w' hSw
  replace hSw:Bl w' w.heap.size 37 #[.int .i64 8,.int .i64 o.at_,.int .i64 o.nn,.slice o.bA o.bn o.bc,.slice o.cA o.cn o.cc]:=hSw
  have hS1:w'.cell? ⟨w.heap.size,1,none⟩=some (.int .i64 o.at_):=hSw.cell_ rfl
  have hS3:w'.cell? ⟨w.heap.size,3,none⟩=some (.slice o.bA o.bn o.bc):=hSw.cell_ rfl
  clear hSw
  go_simp
  all_goals with_reducible rfl
 try simp only[Act.put,List.setIfInBounds_toArray,List.set_cons_zero,List.set_cons_succ]
 refine take_l 3 (v:=?_) rfl (by kernel_rfl) (by kernel_rfl) (by kernel_rfl) (fun _ _ _ h=>h) (Or.inl ⟨by rfl,?_⟩) (show Bl _ w.heap.size 37 #[.int .i64 8,.int .i64 o.at_,.int .i64 o.nn,.slice o.bA o.bn o.bc,.slice o.cA o.cn o.cc] from HBX.out) ?_;rotate_left
 ·intro w' hSw
  replace hSw:Bl w' w.heap.size 37 #[.int .i64 8,.int .i64 o.at_,.int .i64 o.nn,.slice o.bA o.bn o.bc,.slice o.cA o.cn o.cc]:=hSw
  have hS1:w'.cell? ⟨w.heap.size,1,none⟩=some (.int .i64 o.at_):=hSw.cell_ rfl
  have hS3:w'.cell? ⟨w.heap.size,3,none⟩=some (.slice o.bA o.bn o.bc):=hSw.cell_ rfl
  clear hSw
  go_simp
  all_goals with_reducible rfl
 try simp only[Act.put,List.setIfInBounds_toArray,List.set_cons_zero,List.set_cons_succ]
 refine take_l 4 (v:=?_) rfl (by kernel_rfl) (by kernel_rfl) (by kernel_rfl) (fun _ _ _ h=>h) (Or.inl ⟨by rfl,?_⟩) (show Bl _ w.heap.size 37 #[.int .i64 8,.int .i64 o.at_,.int .i64 o.nn,.slice o.bA o.bn o.bc,.slice o.cA o.cn o.cc] from HBX.out) ?_;rotate_left
 ·intro w' hSw
  replace hSw:Bl w' w.heap.size 37 #[.int .i64 8,.int .i64 o.at_,.int .i64 o.nn,.slice o.bA o.bn o.bc,.slice o.cA o.cn o.cc]:=hSw
  have hS1:w'.cell? ⟨w.heap.size,1,none⟩=some (.int .i64 o.at_):=hSw.cell_ rfl
  have hS3:w'.cell? ⟨w.heap.size,3,none⟩=some (.slice o.bA o.bn o.bc):=hSw.cell_ rfl
  clear hSw
  go_simp
  all_goals with_reducible rfl
 try simp only[Act.put,List.setIfInBounds_toArray,List.set_cons_zero,List.set_cons_succ]
 refine take_l 6 (v:=?_) rfl (by kernel_rfl) (by kernel_rfl) (by kernel_rfl) (fun _ _ _ h=>h) (Or.inl ⟨by rfl,?_⟩) (show Bl _ w.heap.size 37 #[.int .i64 8,.int .i64 o.at_,.int .i64 o.nn,.slice o.bA o.bn o.bc,.slice o.cA o.cn o.cc] from HBX.out) ?_;rotate_left
 ·intro w' hSw
  replace hSw:Bl w' w.heap.size 37 #[.int .i64 8,.int .i64 o.at_,.int .i64 o.nn,.slice o.bA o.bn o.bc,.slice o.cA o.cn o.cc]:=hSw
  have hS1:w'.cell? ⟨w.heap.size,1,none⟩=some (.int .i64 o.at_):=hSw.cell_ rfl
  have hS3:w'.cell? ⟨w.heap.size,3,none⟩=some (.slice o.bA o.bn o.bc):=hSw.cell_ rfl
  clear hSw
  go_simp
  all_goals with_reducible rfl
 try simp only[Act.put,List.setIfInBounds_toArray,List.set_cons_zero,List.set_cons_succ]
 refine take_l 7 (v:=?_) rfl (by kernel_rfl) (by kernel_rfl) (by kernel_rfl) (fun _ _ _ h=>h) (Or.inl ⟨by rfl,?_⟩) (show Bl _ w.heap.size 37 #[.int .i64 8,.int .i64 o.at_,.int .i64 o.nn,.slice o.bA o.bn o.bc,.slice o.cA o.cn o.cc] from HBX.out) ?_;rotate_left
 ·intro w' hSw
  replace hSw:Bl w' w.heap.size 37 #[.int .i64 8,.int .i64 o.at_,.int .i64 o.nn,.slice o.bA o.bn o.bc,.slice o.cA o.cn o.cc]:=hSw
  have hS1:w'.cell? ⟨w.heap.size,1,none⟩=some (.int .i64 o.at_):=hSw.cell_ rfl
  have hS3:w'.cell? ⟨w.heap.size,3,none⟩=some (.slice o.bA o.bn o.bc):=hSw.cell_ rfl
  clear hSw
  go_simp
  all_goals with_reducible rfl
 try simp only[Act.put,List.setIfInBounds_toArray,List.set_cons_zero,List.set_cons_succ]
 refine take_l 8 (v:=?_) rfl (by kernel_rfl) (by kernel_rfl) (by kernel_rfl) (fun _ _ _ h=>h) (Or.inl ⟨by rfl,?_⟩) (show Bl _ w.heap.size 37 #[.int .i64 8,.int .i64 o.at_,.int .i64 o.nn,.slice o.bA o.bn o.bc,.slice o.cA o.cn o.cc] from HBX.out) ?_;rotate_left
 ·intro w' hSw
  replace hSw:Bl w' w.heap.size 37 #[.int .i64 8,.int .i64 o.at_,.int .i64 o.nn,.slice o.bA o.bn o.bc,.slice o.cA o.cn o.cc]:=hSw
  have hS1:w'.cell? ⟨w.heap.size,1,none⟩=some (.int .i64 o.at_):=hSw.cell_ rfl
  have hS3:w'.cell? ⟨w.heap.size,3,none⟩=some (.slice o.bA o.bn o.bc):=hSw.cell_ rfl
  clear hSw
  go_simp
  all_goals with_reducible rfl
 try simp only[Act.put,List.setIfInBounds_toArray,List.set_cons_zero,List.set_cons_succ]
 refine take_l 9 (v:=?_) rfl (by kernel_rfl) (by kernel_rfl) (by kernel_rfl) (fun _ _ _ h=>h) (Or.inl ⟨by rfl,?_⟩) (show Bl _ w.heap.size 37 #[.int .i64 8,.int .i64 o.at_,.int .i64 o.nn,.slice o.bA o.bn o.bc,.slice o.cA o.cn o.cc] from HBX.out) ?_;rotate_left
 ·intro w' hSw
  replace hSw:Bl w' w.heap.size 37 #[.int .i64 8,.int .i64 o.at_,.int .i64 o.nn,.slice o.bA o.bn o.bc,.slice o.cA o.cn o.cc]:=hSw
  have hS1:w'.cell? ⟨w.heap.size,1,none⟩=some (.int .i64 o.at_):=hSw.cell_ rfl
  have hS3:w'.cell? ⟨w.heap.size,3,none⟩=some (.slice o.bA o.bn o.bc):=hSw.cell_ rfl
  clear hSw
  go_simp
  all_goals with_reducible rfl
 try simp only[Act.put,List.setIfInBounds_toArray,List.set_cons_zero,List.set_cons_succ]
 refine take_l 10 (v:=?_) rfl (by kernel_rfl) (by kernel_rfl) (by kernel_rfl) (fun _ _ _ h=>h) (Or.inl ⟨by rfl,?_⟩) (show Bl _ w.heap.size 37 #[.int .i64 8,.int .i64 o.at_,.int .i64 o.nn,.slice o.bA o.bn o.bc,.slice o.cA o.cn o.cc] from HBX.out) ?_;rotate_left
 ·intro w' hSw
  replace hSw:Bl w' w.heap.size 37 #[.int .i64 8,.int .i64 o.at_,.int .i64 o.nn,.slice o.bA o.bn o.bc,.slice o.cA o.cn o.cc]:=hSw
  have hS1:w'.cell? ⟨w.heap.size,1,none⟩=some (.int .i64 o.at_):=hSw.cell_ rfl
  have hS3:w'.cell? ⟨w.heap.size,3,none⟩=some (.slice o.bA o.bn o.bc):=hSw.cell_ rfl
  clear hSw
  go_simp
  all_goals with_reducible rfl
 try simp only[Act.put,List.setIfInBounds_toArray,List.set_cons_zero,List.set_cons_succ]
 refine wpAnyH_ready (rs:=[5]) (by kernel_rfl) (by simp) ?_
 refine cons_l rfl (fun K0 hK=>?_) (AllReadyH.nil)
 go_simp
 (go_at_call 21;(with_reducible refine(PC.out _ BD.out).mono ?_);rintro e w1 ⟨er,H1,cs1,cw1,ch1,rfl,d1,o1,g1⟩)
 have D1:=Lib.hid d1
 have O1:=Lib.hid o1
 have G1:=Lib.hid (show Gx (Ts g gb H) W0 w1 from(Gx.of_below BD.out).trans g1)
 have BX1:=Lib.hid (G1.out.bl (HD.out.off ⟨_,HBX.out⟩ (by decide) (by decide) (by decide)) HBX.out)
 have R1:=Lib.hid (HRR.out.ts HD.out HGB.out G1.out)
 clear d1 o1 g1
 refine hK.out _ _ (show Bl _ w.heap.size 37 #[.int .i64 8,.int .i64 o.at_,.int .i64 o.nn,.slice o.bA o.bn o.bc,.slice o.cA o.cn o.cc] from BX1.out) (fun _=>?_)
 clear hK K0
 try simp only[Act.put,List.setIfInBounds_toArray,List.set_cons_zero,List.set_cons_succ]
 refine wpAnyH_ready (rs:=[11]) (by kernel_rfl) (by simp) ?_
 refine cons_l rfl (fun K0 hK=>?_) (AllReadyH.nil)
 go_simp
 (go_at_call 50;(with_reducible refine(RC.out w1 R1.out (G1.out.below (Nat.le_of_lt (Nat.lt_of_le_of_lt HD.out.b1 HD.out.glt)) (ts_base HD.out))).mono ?_);rintro e w2 ⟨v,rfl,r2,f2⟩)
 have R2:=Lib.hid r2
 have F2:=Lib.hid f2
 have BX2:=Lib.hid (show Bl w2 w.heap.size 37 #[.int .i64 8,.int .i64 o.at_,.int .i64 o.nn,.slice o.bA o.bn o.bc,.slice o.cA o.cn o.cc] from(F2.out.block w.heap.size BX1.out.lt (by simp) (fun e=>Dt.unlike e.2 ⟨_,BX1.out⟩ (by decide) (by decide) (by decide) rfl)).trans BX1.out)
 clear r2 f2
 refine hK.out _ _ (show Bl _ w.heap.size 37 #[.int .i64 8,.int .i64 o.at_,.int .i64 o.nn,.slice o.bA o.bn o.bc,.slice o.cA o.cn o.cc] from BX2.out) (fun _=>?_)
 clear hK K0
 try simp only[Act.put,List.setIfInBounds_toArray,List.set_cons_zero,List.set_cons_succ]
 refine take_l 12 (v:=?_) rfl (by kernel_rfl) (by kernel_rfl) (by kernel_rfl) (fun _ _ _ h=>h) (Or.inl ⟨by rfl,?_⟩) (show Bl _ w.heap.size 37 #[.int .i64 8,.int .i64 o.at_,.int .i64 o.nn,.slice o.bA o.bn o.bc,.slice o.cA o.cn o.cc] from BX2.out) ?_;rotate_left
 ·intro w' hSw
  replace hSw:Bl w' w.heap.size 37 #[.int .i64 8,.int .i64 o.at_,.int .i64 o.nn,.slice o.bA o.bn o.bc,.slice o.cA o.cn o.cc]:=hSw
  have hS1:w'.cell? ⟨w.heap.size,1,none⟩=some (.int .i64 o.at_):=hSw.cell_ rfl
  have hS3:w'.cell? ⟨w.heap.size,3,none⟩=some (.slice o.bA o.bn o.bc):=hSw.cell_ rfl
  clear hSw
  go_simp
  all_goals with_reducible rfl
 try simp only[Act.put,List.setIfInBounds_toArray,List.set_cons_zero,List.set_cons_succ]
 refine wpAnyH_ready (rs:=[13]) (by kernel_rfl) (by simp) ?_
 refine cons_l rfl (fun K0 hK=>?_) (AllReadyH.nil)
 go_simp
 refine hK.out _ _ (show Bl _ w.heap.size 37 #[.int .i64 8,.int .i64 o.at_,.int .i64 o.nn,.slice o.bA o.bn o.bc,.slice o.cA o.cn o.cc] from BX2.out) (fun _=>?_)
 clear hK K0
 try simp only[Act.put,List.setIfInBounds_toArray,List.set_cons_zero,List.set_cons_succ]
 refine wpAnyH_done (by kernel_rfl) ?_ _
 go_wp2_with fail
 go_ret
 rw[←HMM.out]
 exact pl_both HDD.out BW.out G1.out D1.out O1.out R2.out F2.out _
end
end Go.Proofs.Ytbgkdbjineennaa.Dk
