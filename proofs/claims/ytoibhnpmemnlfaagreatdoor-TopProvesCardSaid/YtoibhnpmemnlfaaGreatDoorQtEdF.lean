/- Joined texts. -/
import Derived.IntWalk
import Derived.Deep.DeepCutAuto
import Derived.Deep.Cut
import Derived.Test.YtoibhnpmemnlfaaGreatDoorQtEdE
set_option linter.unusedVariables false
namespace Go.Proofs.YtoibhnpmemnlfaaGreatDoor.Ed
open Go.RowKit Go.Proofs.YtoibhnpmemnlfaaGreatDoor.Gn Go.Proofs.YtoibhnpmemnlfaaGreatDoor.Fd Go.Deep
theorem run_max_op{P:Program}{o:Oper}{a:Act}{w:World}(x y:Operand)(T:TypeId)(ho:o.op=.call { callee:=.builtin .max,args:=#[x,y],argTypes:=#[T,T] })(n m:Nat)(hx:a.eval x=.int .i64 (n:Int))(hy:a.eval y=.int .i64 (m:Int)) :
  (execOp a.eval o).run P w=.ok (.value (.int .i64 ((max n m:Nat):Int))) w:=by
 unfold execOp
 simp[ho,resolve,hx,hy,invoke,builtin,run_max_int2]
 split <;> omega
theorem o_mul2(w:World)(n:Nat)(h:n < 4611686018427387904):(binOp .mul 3 (.int .i64 2) (.int .i64 (n:Int))).run Tryz.prog w=.ok (.int .i64 ((2*n:Nat):Int)) w:=by
 go_simp
 all_goals first|exact IntWalk.i64_in _ (by omega)|rfl
theorem KP.sz(p q:KP):p.v.size=q.v.size:=by
 show 20=20
 rfl
def RetP(g:G)(w:World)(e:Ending)(w':World):Prop:=∃r:KP,e=.returned (.agg r.v)∧Hp r g∧Below w.heap.size w w'
theorem ti_pow2(j:Nat)(g:G):ga (ti (2 ^ j) g) (ti (2 ^ j) g)=ti (2 ^ (j+1)) g:=by
 rw[Nat.pow_succ,Nat.mul_comm,ti_two]
theorem tarr_size(s:Value)(f:Nat→KP):(tarr s f).size=321:=by kernel_rfl
theorem tarr_at(s:Value)(f:Nat→KP)(j:Nat)(hj:j < 16):(tarr s f).extract (0+1+20*j) (0+1+20*j+20)=(f j).v:=by
 obtain h:j=0∨j=1∨j=2∨j=3∨j=4∨j=5∨j=6∨j=7∨j=8∨j=9∨j=10∨j=11∨j=12∨j=13∨j=14∨j=15:=by omega
 rcases h with rfl|rfl|rfl|rfl|rfl|rfl|rfl|rfl|rfl|rfl|rfl|rfl|rfl|rfl|rfl|rfl <;> kernel_rfl
def tarr2(s:Value)(f:Nat→KP)(t:Value)(h:Nat→KP):Array Value:=((s :: (List.range 16).flatMap fun j=>(f j).v.toList) ++ (t :: (List.range 16).flatMap fun j=>(h j).v.toList)).toArray
theorem tarr2_at(s:Value)(f:Nat→KP)(t:Value)(h:Nat→KP)(j:Nat)(hj:j < 16):(tarr2 s f t h).extract (0+1+20*j) (0+1+20*j+20)=(f j).v:=by
 obtain q:j=0∨j=1∨j=2∨j=3∨j=4∨j=5∨j=6∨j=7∨j=8∨j=9∨j=10∨j=11∨j=12∨j=13∨j=14∨j=15:=by omega
 rcases q with rfl|rfl|rfl|rfl|rfl|rfl|rfl|rfl|rfl|rfl|rfl|rfl|rfl|rfl|rfl|rfl <;> kernel_rfl
theorem tarr2_at'(s:Value)(f:Nat→KP)(t:Value)(h:Nat→KP)(j:Nat)(hj:j < 16):(tarr2 s f t h).extract (321+1+20*j) (321+1+20*j+20)=(h j).v:=by
 obtain q:j=0∨j=1∨j=2∨j=3∨j=4∨j=5∨j=6∨j=7∨j=8∨j=9∨j=10∨j=11∨j=12∨j=13∨j=14∨j=15:=by omega
 rcases q with rfl|rfl|rfl|rfl|rfl|rfl|rfl|rfl|rfl|rfl|rfl|rfl|rfl|rfl|rfl|rfl <;> kernel_rfl
def Sm1(q:Nat→G)(gt h gr:Nat)(cs zr:Array Value)(w:World)(p:Value)(wr:World):Prop :=
 ∃(k:Nat) (r:KP),k≤2000∧p=.int .i64 ((k:Int) - 1)∧Bl wr gt 65 cs∧Bl wr gr 33 zr∧Bl wr h 33 r.v∧Hp r (q k)∧Below w.heap.size w wr
def Sd1(M:Nat)(q:Nat→G)(gt h gr:Nat)(cs zr:Array Value)(w:World)(p:Value)(wr:World):Prop :=
 ∃(k:Nat) (r:KP),k≤M∧p=.int .i64 (k:Int)∧Bl wr gt 65 cs∧Bl wr gr 33 zr∧Bl wr h 33 r.v∧Hp r (q k)∧Below w.heap.size w wr
def Sh1(H:Nat→Nat)(gt gr:Nat)(cs zr:Array Value)(w:World)(a p:Value)(wr:World):Prop :=
 ∃(k:Nat),k≤1∧p=.int .i64 (k:Int)∧a=.int .i64 ((H k:Nat):Int)∧Bl wr gt 65 cs∧Bl wr gr 33 zr∧Below w.heap.size w wr
def Pp1(a b c:G):Nat→G
 |0=>a
 |1=>b
 |_=>c
def Hh1(n0:Nat):Nat→Nat
 |0=>0
 |_=>max 0 (2*n0)
set_option maxRecDepth 100000 in
set_option maxHeartbeats 8000000 in
theorem sum1_any(A0:Option Addr)(n0 c0:Nat)(l0:List Nat)(f0:Nat→KP)(g0:G)(gt:Nat)(w:World)(tab:TabE w)(hb:Bl w gt 65 (tarr (.slice A0 n0 c0) f0))(bn0:n0≤1000)(hl0:∀x∈l0,x < 256)(hs0:Sl w A0 n0 (bl l0))(hf0:∀j,Hp (f0 j) (ti j g0)) :
  Calls Tryz.prog 34 #[.slice (some ⟨gt,0,none⟩) 1 1] w (RetP (ti (le l0) g0) w):=by
 have TB:=Lib.hid tab
 have HL0:=Lib.hid hl0
 have HS0:=Lib.hid hs0
 have HF0:=Lib.hid hf0
 have HB0:=Lib.hid bn0
 clear hl0 hs0 hf0 bn0
 have hgt:=hb.lt
 have hBB:=Lib.hid hb
 clear tab hb
 go_enter Tryz.func34,Tryz.ntmps34
 go_upto_region 1 with(fail)
 refine at_box1 _ _ _ ?_
 intro W0 B0 D0 hs0
 have BR:=Lib.hid B0
 have DD:=Lib.hid D0
 have BT:=Lib.hid (hBB.out.below' D0)
 have HS:=Lib.hid hs0
 clear B0 D0 hs0 hBB
 go_upto_region 2 with(fail)
 go_wp2_with fail
 go_loopw [3,10] (fun a p wr=>Sh1 (Hh1 n0) gt w.heap.size (tarr (.slice A0 n0 c0) f0) z20 w a p wr) (fun _ p _=>1 - (intOf p).toNat)
 case atStart=>exact⟨0,by omega,rfl,rfl,BT.out,BR.out,DD.out⟩
 case round =>
  obtain⟨k,hk,rfl,rfl,C0,C1,C2⟩:=hrel
  have CC0:=Lib.hid C0
  have CC1:=Lib.hid C1
  have CC2:=Lib.hid C2
  clear C0 C1 C2
  obtain hk:k=0∨k=1:=by omega
  rcases hk with rfl|rfl
  ·rw[show((0:Nat):Int)=0 from rfl]
   have hbn:=HB0.out
   have hhk:(Hh1 n0) 0=0:=rfl
   rw[hhk]
   clear hhk
   go_upto_region 5 with(fail)
   refine wp_region_o (sp:=[some (.int .i64 ((0:Nat):Int)),some (.slice (some ⟨gt,0,none⟩) 1 1),some (.int .i64 0),some (.pointer (some ⟨gt,0,none⟩)),some (.pointer (some ⟨gt,0,none⟩)),some ((.slice A0 n0 c0)),some (.int .i64 ((n0:Nat):Int)),some (.int .i64 ((2*n0:Nat):Int)),some (.int .i64 ((max 0 (2*n0):Nat):Int)),some (.int .i64 ((max 0 (2*n0):Nat):Int))]) (vs:=[]) (out:=none) (by kernel_rfl) (by kernel_rfl) (by kernel_rfl) (by kernel_rfl) (by kernel_rfl) (by simp) ?_ ?_
   refine Each.cons ?_<|Each.cons ?_<|Each.cons ?_<|Each.cons ?_<|Each.cons ?_<|Each.cons ?_<|Each.cons ?_<|Each.cons ?_<|Each.cons ?_<|Each.cons ?_<|Each.nil
   ·exact OV.val (.int .i64 ((0:Nat):Int)) (by kernel_rfl) (fun γ=>by kernel_rfl) (by kernel_rfl) (fun γ w=>by kernel_rfl)
   ·exact OV.val (.slice (some ⟨gt,0,none⟩) 1 1) (by kernel_rfl) (fun γ=>by kernel_rfl) (by kernel_rfl) (fun γ w=>by kernel_rfl)
   ·exact OV.val (.int .i64 0) (by kernel_rfl) (fun γ=>by kernel_rfl) (by kernel_rfl) (fun γ w=>by kernel_rfl)
   ·exact OV.val (.pointer (some ⟨gt,0,none⟩)) (by kernel_rfl) (fun γ=>by kernel_rfl) (by kernel_rfl) (fun γ w=>by kernel_rfl)
   ·exact OV.val (.pointer (some ⟨gt,0,none⟩)) (by kernel_rfl) (fun γ=>by kernel_rfl) (by kernel_rfl) (fun γ w=>by kernel_rfl)
   ·exact OV.cell ⟨gt,0,none⟩ (.slice A0 n0 c0) (CC0.out.cell_ (by kernel_rfl)) (by simp) 22 (.tmp 17) _ (by kernel_rfl) (fun γ=>by kernel_rfl) (by kernel_rfl) rfl (fun γ=>by kernel_rfl) Tryz.underlying22 rfl
   ·exact OV.val (.int .i64 ((n0:Nat):Int)) (by kernel_rfl) (fun γ=>by kernel_rfl) (by kernel_rfl) (fun γ w=>by kernel_rfl)
   ·exact OV.val (.int .i64 ((2*n0:Nat):Int)) (by kernel_rfl) (fun γ=>by kernel_rfl) (by kernel_rfl) (fun γ w=>run_bin_op .mul 3 (.const (.int .i64 2)) (.tmp 19) _ rfl (.int .i64 2) (.int .i64 ((n0:Nat):Int)) (.int .i64 ((2*n0:Nat):Int)) (by kernel_rfl) (by kernel_rfl) (by kernel_rfl) (o_mul2 w n0 (by omega)))
   ·exact OV.val (.int .i64 ((max 0 (2*n0):Nat):Int)) (by kernel_rfl) (fun γ=>by kernel_rfl) (by kernel_rfl) (fun γ w=>run_max_op (.tmp 13) (.tmp 20) 3 rfl (0) (2*n0) (by kernel_rfl) (by kernel_rfl))
   ·exact OV.val (.int .i64 ((max 0 (2*n0):Nat):Int)) (by kernel_rfl) (fun γ=>by kernel_rfl) (by kernel_rfl) (fun γ w=>by kernel_rfl)
   ·intro γ W2 hgr2 hat hx2 hres
    clear hat hx2 hres
    have R1:=Lib.hid (CC0.out.grown hgr2 (by simp))
    have R2:=Lib.hid (CC1.out.grown hgr2 (by simp))
    have R3:=Lib.hid (below_none CC2.out hgr2)
    clear hgr2
    simp only[fr,fill,exa,spx,List.map_cons,List.map_nil,List.getElem?_cons_zero,List.getElem?_cons_succ,List.setIfInBounds_toArray,List.set_cons_zero,List.set_cons_succ]
    go_wp2_with fail
    go_roundw
    case rel=>exact⟨1,by omega,rfl,rfl,R1.out,R2.out,R3.out⟩
    case measure=>simp[intOf]
  ·rw[show((1:Nat):Int)=1 from rfl]
   obtain⟨hv,hhv⟩:∃hv,(Hh1 n0) 1=hv:=⟨_,rfl⟩
   have hb1:hv≤2000:=by rw[←hhv];show max 0 (2*n0)≤2000;have:=HB0.out;omega
   have hge:2*n0≤hv:=by rw[←hhv];show 2*n0≤max 0 (2*n0);omega
   have HV:=Lib.hid hge
   rw[hhv]
   clear hhv hge
   go_upto_region 7 with(fail)
   refine wp_region_o (sp:=[some (.agg kzero.v),none,none]) (vs:=[⟨1,2,33,z20,kzero.v⟩]) (out:=none) (by kernel_rfl) (by kernel_rfl) (by kernel_rfl) (by kernel_rfl) (by kernel_rfl) (by simp) ?_ ?_
   refine Each.cons ?_<|Each.cons ?_<|Each.cons ?_<|Each.nil
   ·exact OV.call 60 #[] (.agg kzero.v) (by kernel_rfl) (fun γ=>by kernel_rfl) (by kernel_rfl) (fun γ w=>by kernel_rfl) (fun w _=>Zero_any w)
   ·exact OV.new_ ⟨1,2,33,z20,kzero.v⟩ (List.Mem.head _) rfl (by kernel_rfl) (by simp) (by kernel_rfl) (fun γ=>by kernel_rfl) (fun γ w=>by kernel_rfl)
   ·exact OV.put_ ⟨1,2,33,z20,kzero.v⟩ (List.Mem.head _) rfl (by kernel_rfl) (by simp) (by kernel_rfl) (fun γ=>by kernel_rfl) (by kernel_rfl) 33 (.tmp 5) (.tmp 23) rfl (fun γ=>by kernel_rfl) (fun γ=>by kernel_rfl) (by kernel_rfl) sizeP (KP.ones _)
   intro γ W3 hgr3 hat hx2 hres
   clear hx2 hres
   have R1:=Lib.hid (CC0.out.grown hgr3 (by simp))
   have R2:=Lib.hid (CC1.out.grown hgr3 (by simp))
   have R3:=Lib.hid (below_none CC2.out hgr3)
   obtain⟨h,eh,lh,B4⟩:=hat _ (List.Mem.head _)
   have l1:=CC1.out.lt
   have l2:=CC0.out.lt
   have HH:=Lib.hid (show w.heap.size < h∧gt < h∧gt < w.heap.size from⟨by omega,by omega,hgt⟩)
   have BH:=Lib.hid B4
   dsimp only at eh
   clear hat hgr3 B4 lh l1 l2
   simp only[fr,fill,exa,spx,List.map_cons,List.map_nil,List.getElem?_cons_zero,List.getElem?_cons_succ,List.setIfInBounds_toArray,List.set_cons_zero,List.set_cons_succ,eh]
   clear eh CC0 CC1 CC2
   go_upto_region 8 with(fail)
   have w1:IntKind.i64.wrap ((hv:Int) - 1)=(hv:Int) - 1:=IntWalk.i64_in _ (by omega)
   go_wp2_with fail
   go_loopw [6] (fun p wr=>Sm1 (fun k=>ti (le l0 / 16 ^ k) g0) gt h w.heap.size (tarr (.slice A0 n0 c0) f0) z20 w p wr) (fun p _=>((intOf p)+1).toNat)
   case atStart=>exact⟨hv,kzero,hb1,rfl,R1.out,R2.out,BH.out,(by dsimp only;rw[start_above l0 HL0.out hv (by have:=HV.out;have h2:=HS0.out.1;simp[bl] at h2;omega)];exact kzero_has),R3.out⟩
   case round =>
    obtain⟨k,r,hk,rfl,C0,C1,C2,C3,C4⟩:=hrel
    have CC0:=Lib.hid C0
    have CC1:=Lib.hid C1
    have CC2:=Lib.hid C2
    have CC3:=Lib.hid C3
    have CC4:=Lib.hid C4
    clear C0 C1 C2 C3 C4 w1
    rcases Nat.eq_zero_or_pos k with h0|h0
    ·subst h0
     rw[show(((0:Nat):Int) - 1)=-1 from rfl]
     go_upto_region 20 with(fail)
     have HL:=HH.out
     refine wp_region_o (sp:=[some (.agg r.v),none]) (vs:=[]) (out:=some ⟨1,w.heap.size,33,z20,r.v⟩) (by kernel_rfl) (by kernel_rfl) (by kernel_rfl) (by kernel_rfl) (by kernel_rfl) (fun r hr=>by obtain rfl:_=r:=Option.some.inj hr;exact⟨CC1.out.lt,CC1.out,Nat.le_of_ble_eq_true (by kernel_rfl)⟩) ?_ ?_
     refine Each.cons ?_<|Each.cons ?_<|Each.nil
     ·exact OV.load h 0 20 33 r.v CC2.out (by simp only[Option.map_some,ne_eq,Option.some.injEq];omega) r.v 33 (.tmp 5) _ (by kernel_rfl) (fun γ=>by kernel_rfl) (by kernel_rfl) rfl (fun γ=>by kernel_rfl) (by kernel_rfl) (by kernel_rfl) Tryz.underlying33 rfl sizeP
     ·exact OV.res_ rfl (by kernel_rfl) (by kernel_rfl) (fun γ=>by kernel_rfl) 33 (.tmp 2) (.tmp 48) rfl (fun γ=>by kernel_rfl) (fun γ=>by kernel_rfl) (by kernel_rfl) sizeP (KP.ones _)
     intro γ w' hgr hx1 hx2 hres
     clear hx1 hx2
     have hbf:=hres _ rfl
     have hz:=below_only (g:=w.heap.size) CC4.out hgr (Nat.le_refl _)
     have hr:=CC3.out
     go_wp2_with fail
     refine bodyPost_ret (v:=.agg r.v) (results_cell 2 33 _ _ _ Tryz.results34 (by kernel_rfl) hbf Tryz.underlying33 rfl sizeP) rfl ⟨r,rfl,?_,hz⟩
     simpa only[Nat.pow_zero,Nat.div_one] using hr
    ·obtain⟨q,rfl⟩:∃q,k=q+1:=⟨k - 1,by omega⟩
     rw[show(((q+1:Nat):Int) - 1)=(q:Int) from by omega]
     have hq:q < 2000:=by omega
     clear h0 hk
     go_upto_region 11 with(fail)
     go_wp2_with fail
     obtain⟨wo,hwo⟩:∃wo:World,wo=wr:=⟨_,rfl⟩
     rw[←hwo] at CC0 CC1 CC2 CC4 ⊢
     clear hwo
     go_loopw [30] (fun p wx=>Sd1 4 (fun j=>ti (2 ^ j) (ti (le l0 / 16 ^ (q+1)) g0)) gt h w.heap.size (tarr (.slice A0 n0 c0) f0) z20 w p wx) (fun p _=>4 - (intOf p).toNat)
     case atStart=>exact⟨0,r,by omega,rfl,CC0.out,CC1.out,CC2.out,(by dsimp only;rw[Nat.pow_zero,ti_one];exact CC3.out),CC4.out⟩
     case round =>
      obtain⟨j,r1,hj,rfl,C0,C1,C2,C3,C4⟩:=hrel
      clear CC0 CC1 CC2 CC3 CC4
      have CC0:=Lib.hid C0
      have CC1:=Lib.hid C1
      have CC2:=Lib.hid C2
      have CC3:=Lib.hid C3
      have CC4:=Lib.hid C4
      clear C0 C1 C2 C3 C4
      by_cases hlt:j < 4
      ·go_upto_region 13 with(fail)
       have HL:=HH.out
       refine wp_region_o (sp:=[some (.agg r1.v),some (.agg r1.twice.v),none]) (vs:=[]) (out:=some ⟨2,h,33,r1.v,r1.twice.v⟩) (by kernel_rfl) (by kernel_rfl) (by kernel_rfl) (by kernel_rfl) (by kernel_rfl) (fun r hr=>by obtain rfl:_=r:=Option.some.inj hr;exact⟨CC2.out.lt,CC2.out,Nat.le_of_ble_eq_true (by kernel_rfl)⟩) ?_ ?_
       refine Each.cons ?_<|Each.cons ?_<|Each.cons ?_<|Each.nil
       ·exact OV.load_out (by kernel_rfl) 0 20 r1.v 33 (.tmp 5) _ (by kernel_rfl) (fun γ=>by kernel_rfl) (by kernel_rfl) rfl (fun γ=>by kernel_rfl) (by kernel_rfl) (by kernel_rfl) Tryz.underlying33 rfl sizeP
       ·exact OV.call 61 #[.agg r1.v] (.agg r1.twice.v) (by kernel_rfl) (fun γ=>by kernel_rfl) (by kernel_rfl) (fun γ w=>by kernel_rfl) (fun w _=>twice_any r1 w)
       ·exact OV.res_ rfl (by kernel_rfl) (by kernel_rfl) (fun γ=>by kernel_rfl) 33 (.tmp 5) (.tmp 33) rfl (fun γ=>by kernel_rfl) (fun γ=>by kernel_rfl) (KP.sz _ _) sizeP (KP.ones _)
       intro γ W4 hgr4 hat hx2 hres
       clear hat hx2
       have R0:=Lib.hid (hres _ rfl)
       have R1:=Lib.hid (CC0.out.grown hgr4 (by simp only[Option.map_some,ne_eq,Option.some.injEq];omega))
       have R2:=Lib.hid (CC1.out.grown hgr4 (by simp only[Option.map_some,ne_eq,Option.some.injEq];omega))
       have R3:=Lib.hid (below_only (g:=h) CC4.out hgr4 (by omega))
       clear hres hgr4 HL
       simp only[fr,fill,exa,spx,List.map_cons,List.map_nil,List.getElem?_cons_zero,List.getElem?_cons_succ,List.setIfInBounds_toArray,List.set_cons_zero,List.set_cons_succ]
       go_wp2_with fail
       go_roundw
       case rel=>exact⟨j+1,r1.twice,by omega,by go_num,R1.out,R2.out,R0.out,(by have:=CC3.out.twice;dsimp only at this;rw[ti_pow2] at this;exact this),R3.out⟩
       case measure=>simp[intOf];omega
      ·obtain rfl:j=4:=by omega
       clear hlt hj
       rw[show((4:Nat):Int)=4 from rfl]
       go_upto_region 15 with(fail)
       go_wp2_with fail
       obtain⟨wp,hwp⟩:∃wp:World,wp=wr:=⟨_,rfl⟩
       rw[←hwp] at CC0 CC1 CC2 CC4 ⊢
       clear hwp
       go_loopw [37] (fun p wy=>Sd1 1 (Pp1 (ti 16 (ti (le l0 / 16 ^ (q+1)) g0)) (ga (ti 16 (ti (le l0 / 16 ^ (q+1)) g0)) (ti (hf l0 q) g0)) (ga (ti 16 (ti (le l0 / 16 ^ (q+1)) g0)) (ti (hf l0 q) g0))) gt h w.heap.size (tarr (.slice A0 n0 c0) f0) z20 w p wy) (fun p _=>1 - (intOf p).toNat)
       case atStart=>exact⟨0,r1,by omega,rfl,CC0.out,CC1.out,CC2.out,CC3.out,CC4.out⟩
       case round =>
        obtain⟨k,r2,hk,rfl,C0,C1,C2,C3,C4⟩:=hrel
        clear CC0 CC1 CC2 CC3 CC4
        have CC0:=Lib.hid C0
        have CC1:=Lib.hid C1
        have CC2:=Lib.hid C2
        have CC3:=Lib.hid C3
        have CC4:=Lib.hid C4
        clear C0 C1 C2 C3 C4
        rcases Nat.lt_or_ge k 1 with hlt|hge
        ·obtain hk:k=0:=by omega
         clear hlt
         subst hk
         ·rw[show((0:Nat):Int)=0 from rfl]
          go_upto_region 18 with(fail)
          have HL:=HH.out
          refine wp_region_o (sp:=[some (.agg r2.v),some (.slice (some ⟨gt,0,none⟩) 1 1),some (.int .i64 0),some (.pointer (some ⟨gt,0,none⟩)),some (.int .i64 (q:Int)),some (.agg (f0 (hf l0 q)).v),some (.agg (r2.add (f0 (hf l0 q))).v),none]) (vs:=[]) (out:=some ⟨7,h,33,r2.v,(r2.add (f0 (hf l0 q))).v⟩) (by kernel_rfl) (by kernel_rfl) (by kernel_rfl) (by kernel_rfl) (by kernel_rfl) (fun r hr=>by obtain rfl:_=r:=Option.some.inj hr;exact⟨CC2.out.lt,CC2.out,Nat.le_of_ble_eq_true (by kernel_rfl)⟩) ?_ ?_
          refine Each.cons ?_<|Each.cons ?_<|Each.cons ?_<|Each.cons ?_<|Each.cons ?_<|Each.cons ?_<|Each.cons ?_<|Each.cons ?_<|Each.nil
          ·exact OV.load_out (by kernel_rfl) 0 20 r2.v 33 (.tmp 5) _ (by kernel_rfl) (fun γ=>by kernel_rfl) (by kernel_rfl) rfl (fun γ=>by kernel_rfl) (by kernel_rfl) (by kernel_rfl) Tryz.underlying33 rfl sizeP
          ·exact OV.val (.slice (some ⟨gt,0,none⟩) 1 1) (by kernel_rfl) (fun γ=>by kernel_rfl) (by kernel_rfl) (fun γ w=>by kernel_rfl)
          ·exact OV.val (.int .i64 0) (by kernel_rfl) (fun γ=>by kernel_rfl) (by kernel_rfl) (fun γ w=>by kernel_rfl)
          ·exact OV.val (.pointer (some ⟨gt,0,none⟩)) (by kernel_rfl) (fun γ=>by kernel_rfl) (by kernel_rfl) (fun γ w=>by kernel_rfl)
          ·exact OV.val (.int .i64 (q:Int)) (by kernel_rfl) (fun γ=>by kernel_rfl) (by kernel_rfl) (fun γ w=>by kernel_rfl)
          ·exact OV.call 62 #[.pointer (some ⟨gt,0,none⟩),.int .i64 (q:Int)] (.agg (f0 (hf l0 q)).v) (by kernel_rfl) (fun γ=>by kernel_rfl) (by kernel_rfl) (fun γ w=>by kernel_rfl) (fun w' hg=>half_any gt 0 65 (tarr (.slice A0 n0 c0) f0) A0 n0 c0 l0 f0 q w' (CC0.out.grown hg (by simp only[Option.map_some,ne_eq,Option.some.injEq];omega)) (by kernel_rfl) (fun j hj=>tarr_at _ f0 j hj) (Nat.le_of_ble_eq_true (by kernel_rfl)) HL0.out (HS0.out.below (below_only (g:=h) CC4.out hg (by omega))) (by omega))
          ·exact OV.call 14 #[.agg r2.v,.agg (f0 (hf l0 q)).v] (.agg (r2.add (f0 (hf l0 q))).v) (by kernel_rfl) (fun γ=>by kernel_rfl) (by kernel_rfl) (fun γ w=>by kernel_rfl) (fun w' hg=>Add_any r2 (f0 (hf l0 q)) w' (TB.out.below (below_only (g:=h) CC4.out hg (by omega))))
          ·exact OV.res_ rfl (by kernel_rfl) (by kernel_rfl) (fun γ=>by kernel_rfl) 33 (.tmp 5) (.tmp 46) rfl (fun γ=>by kernel_rfl) (fun γ=>by kernel_rfl) (KP.sz _ _) sizeP (KP.ones _)
          intro γ W5 hgr5 hat hx2 hres
          clear hat hx2
          have R0:=Lib.hid (hres _ rfl)
          have R1:=Lib.hid (CC0.out.grown hgr5 (by simp only[Option.map_some,ne_eq,Option.some.injEq];omega))
          have R2:=Lib.hid (CC1.out.grown hgr5 (by simp only[Option.map_some,ne_eq,Option.some.injEq];omega))
          have R3:=Lib.hid (below_only (g:=h) CC4.out hgr5 (by omega))
          have HA:=Lib.hid (Hp.add CC3.out (HF0.out (hf l0 q)))
          clear hres hgr5 HL
          simp only[fr,fill,exa,spx,List.map_cons,List.map_nil,List.getElem?_cons_zero,List.getElem?_cons_succ,List.setIfInBounds_toArray,List.set_cons_zero,List.set_cons_succ]
          go_wp2_with fail
          go_roundw
          case rel=>exact⟨1,r2.add (f0 (hf l0 q)),by omega,rfl,R1.out,R2.out,R0.out,HA.out,R3.out⟩
          case measure=>simp[intOf]
        ·have h2:IntKind.i64.wrap ((q:Int) - 1)=(q:Int) - 1:=IntWalk.i64_in _ (by omega)
         have hge':(1:Int)≤(k:Int):=by omega
         have hk4:=Lib.hid hk
         go_wp2_with fail
         go_roundw
         case rel=>exact⟨q,r2,by omega,rfl,CC0.out,CC1.out,CC2.out,(by
          have:=CC3.out
          have hkk:Pp1 (ti 16 (ti (le l0 / 16 ^ (q+1)) g0)) (ga (ti 16 (ti (le l0 / 16 ^ (q+1)) g0)) (ti (hf l0 q) g0)) (ga (ti 16 (ti (le l0 / 16 ^ (q+1)) g0)) (ti (hf l0 q) g0)) k=(ga (ti 16 (ti (le l0 / 16 ^ (q+1)) g0)) (ti (hf l0 q) g0)):=by
           obtain hq:k=1:=by have:=hk4.out;omega
           subst hq;rfl
          rw[hkk] at this
          dsimp only
          rw[←sum_one (le l0) q g0 l0 HL0.out rfl]
          exact this),CC4.out⟩
         case measure=>(simp[intOf];try omega)
def Sm2(q:Nat→G)(gt h gr:Nat)(cs zr:Array Value)(w:World)(p:Value)(wr:World):Prop :=
 ∃(k:Nat) (r:KP),k≤2000∧p=.int .i64 ((k:Int) - 1)∧Bl wr gt 65 cs∧Bl wr gr 33 zr∧Bl wr h 33 r.v∧Hp r (q k)∧Below w.heap.size w wr
def Sd2(M:Nat)(q:Nat→G)(gt h gr:Nat)(cs zr:Array Value)(w:World)(p:Value)(wr:World):Prop :=
 ∃(k:Nat) (r:KP),k≤M∧p=.int .i64 (k:Int)∧Bl wr gt 65 cs∧Bl wr gr 33 zr∧Bl wr h 33 r.v∧Hp r (q k)∧Below w.heap.size w wr
def Sh2(H:Nat→Nat)(gt gr:Nat)(cs zr:Array Value)(w:World)(a p:Value)(wr:World):Prop :=
 ∃(k:Nat),k≤2∧p=.int .i64 (k:Int)∧a=.int .i64 ((H k:Nat):Int)∧Bl wr gt 65 cs∧Bl wr gr 33 zr∧Below w.heap.size w wr
def Pp2(a b c:G):Nat→G
 |0=>a
 |1=>b
 |_=>c
def Hh2(n0 n1:Nat):Nat→Nat
 |0=>0
 |1=>max 0 (2*n0)
 |_=>max (max 0 (2*n0)) (2*n1)
set_option maxRecDepth 100000 in
set_option maxHeartbeats 8000000 in
theorem sum2_any(A0:Option Addr)(n0 c0:Nat)(l0:List Nat)(f0:Nat→KP)(g0:G)(A1:Option Addr)(n1 c1:Nat)(l1:List Nat)(f1:Nat→KP)(g1:G)(gt:Nat)(w:World)(tab:TabE w)(hb:Bl w gt 65 (tarr2 (.slice A0 n0 c0) f0 (.slice A1 n1 c1) f1))(bn0:n0≤1000)(hl0:∀x∈l0,x < 256)(hs0:Sl w A0 n0 (bl l0))(hf0:∀j,Hp (f0 j) (ti j g0))(bn1:n1≤1000)(hl1:∀x∈l1,x < 256)(hs1:Sl w A1 n1 (bl l1))(hf1:∀j,Hp (f1 j) (ti j g1)) :
  Calls Tryz.prog 34 #[.slice (some ⟨gt,0,none⟩) 2 2] w (RetP (ga (ti (le l0) g0) (ti (le l1) g1)) w):=by
 have TB:=Lib.hid tab
 have HL0:=Lib.hid hl0
 have HS0:=Lib.hid hs0
 have HF0:=Lib.hid hf0
 have HB0:=Lib.hid bn0
 clear hl0 hs0 hf0 bn0
 have HL1:=Lib.hid hl1
 have HS1:=Lib.hid hs1
 have HF1:=Lib.hid hf1
 have HB1:=Lib.hid bn1
 clear hl1 hs1 hf1 bn1
 have hgt:=hb.lt
 have hBB:=Lib.hid hb
 clear tab hb
 go_enter Tryz.func34,Tryz.ntmps34
 go_upto_region 1 with(fail)
 refine at_box1 _ _ _ ?_
 intro W0 B0 D0 hs0
 have BR:=Lib.hid B0
 have DD:=Lib.hid D0
 have BT:=Lib.hid (hBB.out.below' D0)
 have HS:=Lib.hid hs0
 clear B0 D0 hs0 hBB
 go_upto_region 2 with(fail)
 go_wp2_with fail
 go_loopw [3,10] (fun a p wr=>Sh2 (Hh2 n0 n1) gt w.heap.size (tarr2 (.slice A0 n0 c0) f0 (.slice A1 n1 c1) f1) z20 w a p wr) (fun _ p _=>2 - (intOf p).toNat)
 case atStart=>exact⟨0,by omega,rfl,rfl,BT.out,BR.out,DD.out⟩
 case round =>
  obtain⟨k,hk,rfl,rfl,C0,C1,C2⟩:=hrel
  have CC0:=Lib.hid C0
  have CC1:=Lib.hid C1
  have CC2:=Lib.hid C2
  clear C0 C1 C2
  obtain hk:k=0∨k=1∨k=2:=by omega
  rcases hk with rfl|rfl|rfl
  ·rw[show((0:Nat):Int)=0 from rfl]
   have hbn:=HB0.out
   have hhk:(Hh2 n0 n1) 0=0:=rfl
   rw[hhk]
   clear hhk
   go_upto_region 5 with(fail)
   refine wp_region_o (sp:=[some (.int .i64 ((0:Nat):Int)),some (.slice (some ⟨gt,0,none⟩) 2 2),some (.int .i64 0),some (.pointer (some ⟨gt,0,none⟩)),some (.pointer (some ⟨gt,0,none⟩)),some ((.slice A0 n0 c0)),some (.int .i64 ((n0:Nat):Int)),some (.int .i64 ((2*n0:Nat):Int)),some (.int .i64 ((max 0 (2*n0):Nat):Int)),some (.int .i64 ((max 0 (2*n0):Nat):Int))]) (vs:=[]) (out:=none) (by kernel_rfl) (by kernel_rfl) (by kernel_rfl) (by kernel_rfl) (by kernel_rfl) (by simp) ?_ ?_
   refine Each.cons ?_<|Each.cons ?_<|Each.cons ?_<|Each.cons ?_<|Each.cons ?_<|Each.cons ?_<|Each.cons ?_<|Each.cons ?_<|Each.cons ?_<|Each.cons ?_<|Each.nil
   ·exact OV.val (.int .i64 ((0:Nat):Int)) (by kernel_rfl) (fun γ=>by kernel_rfl) (by kernel_rfl) (fun γ w=>by kernel_rfl)
   ·exact OV.val (.slice (some ⟨gt,0,none⟩) 2 2) (by kernel_rfl) (fun γ=>by kernel_rfl) (by kernel_rfl) (fun γ w=>by kernel_rfl)
   ·exact OV.val (.int .i64 0) (by kernel_rfl) (fun γ=>by kernel_rfl) (by kernel_rfl) (fun γ w=>by kernel_rfl)
   ·exact OV.val (.pointer (some ⟨gt,0,none⟩)) (by kernel_rfl) (fun γ=>by kernel_rfl) (by kernel_rfl) (fun γ w=>by kernel_rfl)
   ·exact OV.val (.pointer (some ⟨gt,0,none⟩)) (by kernel_rfl) (fun γ=>by kernel_rfl) (by kernel_rfl) (fun γ w=>by kernel_rfl)
   ·exact OV.cell ⟨gt,0,none⟩ (.slice A0 n0 c0) (CC0.out.cell_ (by kernel_rfl)) (by simp) 22 (.tmp 17) _ (by kernel_rfl) (fun γ=>by kernel_rfl) (by kernel_rfl) rfl (fun γ=>by kernel_rfl) Tryz.underlying22 rfl
   ·exact OV.val (.int .i64 ((n0:Nat):Int)) (by kernel_rfl) (fun γ=>by kernel_rfl) (by kernel_rfl) (fun γ w=>by kernel_rfl)
   ·exact OV.val (.int .i64 ((2*n0:Nat):Int)) (by kernel_rfl) (fun γ=>by kernel_rfl) (by kernel_rfl) (fun γ w=>run_bin_op .mul 3 (.const (.int .i64 2)) (.tmp 19) _ rfl (.int .i64 2) (.int .i64 ((n0:Nat):Int)) (.int .i64 ((2*n0:Nat):Int)) (by kernel_rfl) (by kernel_rfl) (by kernel_rfl) (o_mul2 w n0 (by omega)))
   ·exact OV.val (.int .i64 ((max 0 (2*n0):Nat):Int)) (by kernel_rfl) (fun γ=>by kernel_rfl) (by kernel_rfl) (fun γ w=>run_max_op (.tmp 13) (.tmp 20) 3 rfl (0) (2*n0) (by kernel_rfl) (by kernel_rfl))
   ·exact OV.val (.int .i64 ((max 0 (2*n0):Nat):Int)) (by kernel_rfl) (fun γ=>by kernel_rfl) (by kernel_rfl) (fun γ w=>by kernel_rfl)
   ·intro γ W2 hgr2 hat hx2 hres
    clear hat hx2 hres
    have R1:=Lib.hid (CC0.out.grown hgr2 (by simp))
    have R2:=Lib.hid (CC1.out.grown hgr2 (by simp))
    have R3:=Lib.hid (below_none CC2.out hgr2)
    clear hgr2
    simp only[fr,fill,exa,spx,List.map_cons,List.map_nil,List.getElem?_cons_zero,List.getElem?_cons_succ,List.setIfInBounds_toArray,List.set_cons_zero,List.set_cons_succ]
    go_wp2_with fail
    go_roundw
    case rel=>exact⟨1,by omega,rfl,rfl,R1.out,R2.out,R3.out⟩
    case measure=>simp[intOf]
  ·rw[show((1:Nat):Int)=1 from rfl]
   have hbn:=HB1.out
   have hhk:(Hh2 n0 n1) 1=max 0 (2*n0):=rfl
   rw[hhk]
   clear hhk
   go_upto_region 5 with(fail)
   refine wp_region_o (sp:=[some (.int .i64 ((max 0 (2*n0):Nat):Int)),some (.slice (some ⟨gt,0,none⟩) 2 2),some (.int .i64 1),some (.pointer (some ⟨gt,321,none⟩)),some (.pointer (some ⟨gt,321,none⟩)),some ((.slice A1 n1 c1)),some (.int .i64 ((n1:Nat):Int)),some (.int .i64 ((2*n1:Nat):Int)),some (.int .i64 ((max (max 0 (2*n0)) (2*n1):Nat):Int)),some (.int .i64 ((max (max 0 (2*n0)) (2*n1):Nat):Int))]) (vs:=[]) (out:=none) (by kernel_rfl) (by kernel_rfl) (by kernel_rfl) (by kernel_rfl) (by kernel_rfl) (by simp) ?_ ?_
   refine Each.cons ?_<|Each.cons ?_<|Each.cons ?_<|Each.cons ?_<|Each.cons ?_<|Each.cons ?_<|Each.cons ?_<|Each.cons ?_<|Each.cons ?_<|Each.cons ?_<|Each.nil
   ·exact OV.val (.int .i64 ((max 0 (2*n0):Nat):Int)) (by kernel_rfl) (fun γ=>by kernel_rfl) (by kernel_rfl) (fun γ w=>by kernel_rfl)
   ·exact OV.val (.slice (some ⟨gt,0,none⟩) 2 2) (by kernel_rfl) (fun γ=>by kernel_rfl) (by kernel_rfl) (fun γ w=>by kernel_rfl)
   ·exact OV.val (.int .i64 1) (by kernel_rfl) (fun γ=>by kernel_rfl) (by kernel_rfl) (fun γ w=>by kernel_rfl)
   ·exact OV.val (.pointer (some ⟨gt,321,none⟩)) (by kernel_rfl) (fun γ=>by kernel_rfl) (by kernel_rfl) (fun γ w=>by kernel_rfl)
   ·exact OV.val (.pointer (some ⟨gt,321,none⟩)) (by kernel_rfl) (fun γ=>by kernel_rfl) (by kernel_rfl) (fun γ w=>by kernel_rfl)
   ·exact OV.cell ⟨gt,321,none⟩ (.slice A1 n1 c1) (CC0.out.cell_ (by kernel_rfl)) (by simp) 22 (.tmp 17) _ (by kernel_rfl) (fun γ=>by kernel_rfl) (by kernel_rfl) rfl (fun γ=>by kernel_rfl) Tryz.underlying22 rfl
   ·exact OV.val (.int .i64 ((n1:Nat):Int)) (by kernel_rfl) (fun γ=>by kernel_rfl) (by kernel_rfl) (fun γ w=>by kernel_rfl)
   ·exact OV.val (.int .i64 ((2*n1:Nat):Int)) (by kernel_rfl) (fun γ=>by kernel_rfl) (by kernel_rfl) (fun γ w=>run_bin_op .mul 3 (.const (.int .i64 2)) (.tmp 19) _ rfl (.int .i64 2) (.int .i64 ((n1:Nat):Int)) (.int .i64 ((2*n1:Nat):Int)) (by kernel_rfl) (by kernel_rfl) (by kernel_rfl) (o_mul2 w n1 (by omega)))
   ·exact OV.val (.int .i64 ((max (max 0 (2*n0)) (2*n1):Nat):Int)) (by kernel_rfl) (fun γ=>by kernel_rfl) (by kernel_rfl) (fun γ w=>run_max_op (.tmp 13) (.tmp 20) 3 rfl (max 0 (2*n0)) (2*n1) (by kernel_rfl) (by kernel_rfl))
   ·exact OV.val (.int .i64 ((max (max 0 (2*n0)) (2*n1):Nat):Int)) (by kernel_rfl) (fun γ=>by kernel_rfl) (by kernel_rfl) (fun γ w=>by kernel_rfl)
   ·intro γ W2 hgr2 hat hx2 hres
    clear hat hx2 hres
    have R1:=Lib.hid (CC0.out.grown hgr2 (by simp))
    have R2:=Lib.hid (CC1.out.grown hgr2 (by simp))
    have R3:=Lib.hid (below_none CC2.out hgr2)
    clear hgr2
    simp only[fr,fill,exa,spx,List.map_cons,List.map_nil,List.getElem?_cons_zero,List.getElem?_cons_succ,List.setIfInBounds_toArray,List.set_cons_zero,List.set_cons_succ]
    go_wp2_with fail
    go_roundw
    case rel=>exact⟨2,by omega,rfl,rfl,R1.out,R2.out,R3.out⟩
    case measure=>simp[intOf]
  ·rw[show((2:Nat):Int)=2 from rfl]
   obtain⟨hv,hhv⟩:∃hv,(Hh2 n0 n1) 2=hv:=⟨_,rfl⟩
   have hb2:hv≤2000:=by rw[←hhv];show max (max 0 (2*n0)) (2*n1)≤2000;have:=HB0.out;have:=HB1.out;omega
   have hge:2*n0≤hv∧2*n1≤hv:=by rw[←hhv];show 2*n0≤max (max 0 (2*n0)) (2*n1)∧2*n1≤max (max 0 (2*n0)) (2*n1);omega
   have HV:=Lib.hid hge
   rw[hhv]
   clear hhv hge
   go_upto_region 7 with(fail)
   refine wp_region_o (sp:=[some (.agg kzero.v),none,none]) (vs:=[⟨1,2,33,z20,kzero.v⟩]) (out:=none) (by kernel_rfl) (by kernel_rfl) (by kernel_rfl) (by kernel_rfl) (by kernel_rfl) (by simp) ?_ ?_
   refine Each.cons ?_<|Each.cons ?_<|Each.cons ?_<|Each.nil
   ·exact OV.call 60 #[] (.agg kzero.v) (by kernel_rfl) (fun γ=>by kernel_rfl) (by kernel_rfl) (fun γ w=>by kernel_rfl) (fun w _=>Zero_any w)
   ·exact OV.new_ ⟨1,2,33,z20,kzero.v⟩ (List.Mem.head _) rfl (by kernel_rfl) (by simp) (by kernel_rfl) (fun γ=>by kernel_rfl) (fun γ w=>by kernel_rfl)
   ·exact OV.put_ ⟨1,2,33,z20,kzero.v⟩ (List.Mem.head _) rfl (by kernel_rfl) (by simp) (by kernel_rfl) (fun γ=>by kernel_rfl) (by kernel_rfl) 33 (.tmp 5) (.tmp 23) rfl (fun γ=>by kernel_rfl) (fun γ=>by kernel_rfl) (by kernel_rfl) sizeP (KP.ones _)
   intro γ W3 hgr3 hat hx2 hres
   clear hx2 hres
   have R1:=Lib.hid (CC0.out.grown hgr3 (by simp))
   have R2:=Lib.hid (CC1.out.grown hgr3 (by simp))
   have R3:=Lib.hid (below_none CC2.out hgr3)
   obtain⟨h,eh,lh,B4⟩:=hat _ (List.Mem.head _)
   have l1:=CC1.out.lt
   have l2:=CC0.out.lt
   have HH:=Lib.hid (show w.heap.size < h∧gt < h∧gt < w.heap.size from⟨by omega,by omega,hgt⟩)
   have BH:=Lib.hid B4
   dsimp only at eh
   clear hat hgr3 B4 lh l1 l2
   simp only[fr,fill,exa,spx,List.map_cons,List.map_nil,List.getElem?_cons_zero,List.getElem?_cons_succ,List.setIfInBounds_toArray,List.set_cons_zero,List.set_cons_succ,eh]
   clear eh CC0 CC1 CC2
   go_upto_region 8 with(fail)
   have w1:IntKind.i64.wrap ((hv:Int) - 1)=(hv:Int) - 1:=IntWalk.i64_in _ (by omega)
   go_wp2_with fail
   go_loopw [6] (fun p wr=>Sm2 (fun k=>ga (ti (le l0 / 16 ^ k) g0) (ti (le l1 / 16 ^ k) g1)) gt h w.heap.size (tarr2 (.slice A0 n0 c0) f0 (.slice A1 n1 c1) f1) z20 w p wr) (fun p _=>((intOf p)+1).toNat)
   case atStart=>exact⟨hv,kzero,hb2,rfl,R1.out,R2.out,BH.out,(by dsimp only;rw[start_above l0 HL0.out hv (by have:=HV.out;have h2:=HS0.out.1;simp[bl] at h2;omega),start_above l1 HL1.out hv (by have:=HV.out;have h2:=HS1.out.1;simp[bl] at h2;omega),ga_z];exact kzero_has),R3.out⟩
   case round =>
    obtain⟨k,r,hk,rfl,C0,C1,C2,C3,C4⟩:=hrel
    have CC0:=Lib.hid C0
    have CC1:=Lib.hid C1
    have CC2:=Lib.hid C2
    have CC3:=Lib.hid C3
    have CC4:=Lib.hid C4
    clear C0 C1 C2 C3 C4 w1
    rcases Nat.eq_zero_or_pos k with h0|h0
    ·subst h0
     rw[show(((0:Nat):Int) - 1)=-1 from rfl]
     go_upto_region 20 with(fail)
     have HL:=HH.out
     refine wp_region_o (sp:=[some (.agg r.v),none]) (vs:=[]) (out:=some ⟨1,w.heap.size,33,z20,r.v⟩) (by kernel_rfl) (by kernel_rfl) (by kernel_rfl) (by kernel_rfl) (by kernel_rfl) (fun r hr=>by obtain rfl:_=r:=Option.some.inj hr;exact⟨CC1.out.lt,CC1.out,Nat.le_of_ble_eq_true (by kernel_rfl)⟩) ?_ ?_
     refine Each.cons ?_<|Each.cons ?_<|Each.nil
     ·exact OV.load h 0 20 33 r.v CC2.out (by simp only[Option.map_some,ne_eq,Option.some.injEq];omega) r.v 33 (.tmp 5) _ (by kernel_rfl) (fun γ=>by kernel_rfl) (by kernel_rfl) rfl (fun γ=>by kernel_rfl) (by kernel_rfl) (by kernel_rfl) Tryz.underlying33 rfl sizeP
     ·exact OV.res_ rfl (by kernel_rfl) (by kernel_rfl) (fun γ=>by kernel_rfl) 33 (.tmp 2) (.tmp 48) rfl (fun γ=>by kernel_rfl) (fun γ=>by kernel_rfl) (by kernel_rfl) sizeP (KP.ones _)
     intro γ w' hgr hx1 hx2 hres
     clear hx1 hx2
     have hbf:=hres _ rfl
     have hz:=below_only (g:=w.heap.size) CC4.out hgr (Nat.le_refl _)
     have hr:=CC3.out
     go_wp2_with fail
     refine bodyPost_ret (v:=.agg r.v) (results_cell 2 33 _ _ _ Tryz.results34 (by kernel_rfl) hbf Tryz.underlying33 rfl sizeP) rfl ⟨r,rfl,?_,hz⟩
     simpa only[Nat.pow_zero,Nat.div_one] using hr
    ·obtain⟨q,rfl⟩:∃q,k=q+1:=⟨k - 1,by omega⟩
     rw[show(((q+1:Nat):Int) - 1)=(q:Int) from by omega]
     have hq:q < 2000:=by omega
     clear h0 hk
     go_upto_region 11 with(fail)
     go_wp2_with fail
     obtain⟨wo,hwo⟩:∃wo:World,wo=wr:=⟨_,rfl⟩
     rw[←hwo] at CC0 CC1 CC2 CC4 ⊢
     clear hwo
     go_loopw [30] (fun p wx=>Sd2 4 (fun j=>ti (2 ^ j) (ga (ti (le l0 / 16 ^ (q+1)) g0) (ti (le l1 / 16 ^ (q+1)) g1))) gt h w.heap.size (tarr2 (.slice A0 n0 c0) f0 (.slice A1 n1 c1) f1) z20 w p wx) (fun p _=>4 - (intOf p).toNat)
     case atStart=>exact⟨0,r,by omega,rfl,CC0.out,CC1.out,CC2.out,(by dsimp only;rw[Nat.pow_zero,ti_one];exact CC3.out),CC4.out⟩
     case round =>
      obtain⟨j,r1,hj,rfl,C0,C1,C2,C3,C4⟩:=hrel
      clear CC0 CC1 CC2 CC3 CC4
      have CC0:=Lib.hid C0
      have CC1:=Lib.hid C1
      have CC2:=Lib.hid C2
      have CC3:=Lib.hid C3
      have CC4:=Lib.hid C4
      clear C0 C1 C2 C3 C4
      by_cases hlt:j < 4
      ·go_upto_region 13 with(fail)
       have HL:=HH.out
       refine wp_region_o (sp:=[some (.agg r1.v),some (.agg r1.twice.v),none]) (vs:=[]) (out:=some ⟨2,h,33,r1.v,r1.twice.v⟩) (by kernel_rfl) (by kernel_rfl) (by kernel_rfl) (by kernel_rfl) (by kernel_rfl) (fun r hr=>by obtain rfl:_=r:=Option.some.inj hr;exact⟨CC2.out.lt,CC2.out,Nat.le_of_ble_eq_true (by kernel_rfl)⟩) ?_ ?_
       refine Each.cons ?_<|Each.cons ?_<|Each.cons ?_<|Each.nil
       ·exact OV.load_out (by kernel_rfl) 0 20 r1.v 33 (.tmp 5) _ (by kernel_rfl) (fun γ=>by kernel_rfl) (by kernel_rfl) rfl (fun γ=>by kernel_rfl) (by kernel_rfl) (by kernel_rfl) Tryz.underlying33 rfl sizeP
       ·exact OV.call 61 #[.agg r1.v] (.agg r1.twice.v) (by kernel_rfl) (fun γ=>by kernel_rfl) (by kernel_rfl) (fun γ w=>by kernel_rfl) (fun w _=>twice_any r1 w)
       ·exact OV.res_ rfl (by kernel_rfl) (by kernel_rfl) (fun γ=>by kernel_rfl) 33 (.tmp 5) (.tmp 33) rfl (fun γ=>by kernel_rfl) (fun γ=>by kernel_rfl) (KP.sz _ _) sizeP (KP.ones _)
       intro γ W4 hgr4 hat hx2 hres
       clear hat hx2
       have R0:=Lib.hid (hres _ rfl)
       have R1:=Lib.hid (CC0.out.grown hgr4 (by simp only[Option.map_some,ne_eq,Option.some.injEq];omega))
       have R2:=Lib.hid (CC1.out.grown hgr4 (by simp only[Option.map_some,ne_eq,Option.some.injEq];omega))
       have R3:=Lib.hid (below_only (g:=h) CC4.out hgr4 (by omega))
       clear hres hgr4 HL
       simp only[fr,fill,exa,spx,List.map_cons,List.map_nil,List.getElem?_cons_zero,List.getElem?_cons_succ,List.setIfInBounds_toArray,List.set_cons_zero,List.set_cons_succ]
       go_wp2_with fail
       go_roundw
       case rel=>exact⟨j+1,r1.twice,by omega,by go_num,R1.out,R2.out,R0.out,(by have:=CC3.out.twice;dsimp only at this;rw[ti_pow2] at this;exact this),R3.out⟩
       case measure=>simp[intOf];omega
      ·obtain rfl:j=4:=by omega
       clear hlt hj
       rw[show((4:Nat):Int)=4 from rfl]
       go_upto_region 15 with(fail)
       go_wp2_with fail
       obtain⟨wp,hwp⟩:∃wp:World,wp=wr:=⟨_,rfl⟩
       rw[←hwp] at CC0 CC1 CC2 CC4 ⊢
       clear hwp
       go_loopw [37] (fun p wy=>Sd2 2 (Pp2 (ti 16 (ga (ti (le l0 / 16 ^ (q+1)) g0) (ti (le l1 / 16 ^ (q+1)) g1))) (ga (ti 16 (ga (ti (le l0 / 16 ^ (q+1)) g0) (ti (le l1 / 16 ^ (q+1)) g1))) (ti (hf l0 q) g0)) (ga (ga (ti 16 (ga (ti (le l0 / 16 ^ (q+1)) g0) (ti (le l1 / 16 ^ (q+1)) g1))) (ti (hf l0 q) g0)) (ti (hf l1 q) g1))) gt h w.heap.size (tarr2 (.slice A0 n0 c0) f0 (.slice A1 n1 c1) f1) z20 w p wy) (fun p _=>2 - (intOf p).toNat)
       case atStart=>exact⟨0,r1,by omega,rfl,CC0.out,CC1.out,CC2.out,CC3.out,CC4.out⟩
       case round =>
        obtain⟨k,r2,hk,rfl,C0,C1,C2,C3,C4⟩:=hrel
        clear CC0 CC1 CC2 CC3 CC4
        have CC0:=Lib.hid C0
        have CC1:=Lib.hid C1
        have CC2:=Lib.hid C2
        have CC3:=Lib.hid C3
        have CC4:=Lib.hid C4
        clear C0 C1 C2 C3 C4
        rcases Nat.lt_or_ge k 2 with hlt|hge
        ·obtain hk:k=0∨k=1:=by omega
         clear hlt
         rcases hk with rfl|rfl
         ·rw[show((0:Nat):Int)=0 from rfl]
          go_upto_region 18 with(fail)
          have HL:=HH.out
          refine wp_region_o (sp:=[some (.agg r2.v),some (.slice (some ⟨gt,0,none⟩) 2 2),some (.int .i64 0),some (.pointer (some ⟨gt,0,none⟩)),some (.int .i64 (q:Int)),some (.agg (f0 (hf l0 q)).v),some (.agg (r2.add (f0 (hf l0 q))).v),none]) (vs:=[]) (out:=some ⟨7,h,33,r2.v,(r2.add (f0 (hf l0 q))).v⟩) (by kernel_rfl) (by kernel_rfl) (by kernel_rfl) (by kernel_rfl) (by kernel_rfl) (fun r hr=>by obtain rfl:_=r:=Option.some.inj hr;exact⟨CC2.out.lt,CC2.out,Nat.le_of_ble_eq_true (by kernel_rfl)⟩) ?_ ?_
          refine Each.cons ?_<|Each.cons ?_<|Each.cons ?_<|Each.cons ?_<|Each.cons ?_<|Each.cons ?_<|Each.cons ?_<|Each.cons ?_<|Each.nil
          ·exact OV.load_out (by kernel_rfl) 0 20 r2.v 33 (.tmp 5) _ (by kernel_rfl) (fun γ=>by kernel_rfl) (by kernel_rfl) rfl (fun γ=>by kernel_rfl) (by kernel_rfl) (by kernel_rfl) Tryz.underlying33 rfl sizeP
          ·exact OV.val (.slice (some ⟨gt,0,none⟩) 2 2) (by kernel_rfl) (fun γ=>by kernel_rfl) (by kernel_rfl) (fun γ w=>by kernel_rfl)
          ·exact OV.val (.int .i64 0) (by kernel_rfl) (fun γ=>by kernel_rfl) (by kernel_rfl) (fun γ w=>by kernel_rfl)
          ·exact OV.val (.pointer (some ⟨gt,0,none⟩)) (by kernel_rfl) (fun γ=>by kernel_rfl) (by kernel_rfl) (fun γ w=>by kernel_rfl)
          ·exact OV.val (.int .i64 (q:Int)) (by kernel_rfl) (fun γ=>by kernel_rfl) (by kernel_rfl) (fun γ w=>by kernel_rfl)
          ·exact OV.call 62 #[.pointer (some ⟨gt,0,none⟩),.int .i64 (q:Int)] (.agg (f0 (hf l0 q)).v) (by kernel_rfl) (fun γ=>by kernel_rfl) (by kernel_rfl) (fun γ w=>by kernel_rfl) (fun w' hg=>half_any gt 0 65 (tarr2 (.slice A0 n0 c0) f0 (.slice A1 n1 c1) f1) A0 n0 c0 l0 f0 q w' (CC0.out.grown hg (by simp only[Option.map_some,ne_eq,Option.some.injEq];omega)) (by kernel_rfl) (fun j hj=>tarr2_at _ f0 _ f1 j hj) (Nat.le_of_ble_eq_true (by kernel_rfl)) HL0.out (HS0.out.below (below_only (g:=h) CC4.out hg (by omega))) (by omega))
          ·exact OV.call 14 #[.agg r2.v,.agg (f0 (hf l0 q)).v] (.agg (r2.add (f0 (hf l0 q))).v) (by kernel_rfl) (fun γ=>by kernel_rfl) (by kernel_rfl) (fun γ w=>by kernel_rfl) (fun w' hg=>Add_any r2 (f0 (hf l0 q)) w' (TB.out.below (below_only (g:=h) CC4.out hg (by omega))))
          ·exact OV.res_ rfl (by kernel_rfl) (by kernel_rfl) (fun γ=>by kernel_rfl) 33 (.tmp 5) (.tmp 46) rfl (fun γ=>by kernel_rfl) (fun γ=>by kernel_rfl) (KP.sz _ _) sizeP (KP.ones _)
          intro γ W5 hgr5 hat hx2 hres
          clear hat hx2
          have R0:=Lib.hid (hres _ rfl)
          have R1:=Lib.hid (CC0.out.grown hgr5 (by simp only[Option.map_some,ne_eq,Option.some.injEq];omega))
          have R2:=Lib.hid (CC1.out.grown hgr5 (by simp only[Option.map_some,ne_eq,Option.some.injEq];omega))
          have R3:=Lib.hid (below_only (g:=h) CC4.out hgr5 (by omega))
          have HA:=Lib.hid (Hp.add CC3.out (HF0.out (hf l0 q)))
          clear hres hgr5 HL
          simp only[fr,fill,exa,spx,List.map_cons,List.map_nil,List.getElem?_cons_zero,List.getElem?_cons_succ,List.setIfInBounds_toArray,List.set_cons_zero,List.set_cons_succ]
          go_wp2_with fail
          go_roundw
          case rel=>exact⟨1,r2.add (f0 (hf l0 q)),by omega,rfl,R1.out,R2.out,R0.out,HA.out,R3.out⟩
          case measure=>simp[intOf]
         ·rw[show((1:Nat):Int)=1 from rfl]
          go_upto_region 18 with(fail)
          have HL:=HH.out
          refine wp_region_o (sp:=[some (.agg r2.v),some (.slice (some ⟨gt,0,none⟩) 2 2),some (.int .i64 1),some (.pointer (some ⟨gt,321,none⟩)),some (.int .i64 (q:Int)),some (.agg (f1 (hf l1 q)).v),some (.agg (r2.add (f1 (hf l1 q))).v),none]) (vs:=[]) (out:=some ⟨7,h,33,r2.v,(r2.add (f1 (hf l1 q))).v⟩) (by kernel_rfl) (by kernel_rfl) (by kernel_rfl) (by kernel_rfl) (by kernel_rfl) (fun r hr=>by obtain rfl:_=r:=Option.some.inj hr;exact⟨CC2.out.lt,CC2.out,Nat.le_of_ble_eq_true (by kernel_rfl)⟩) ?_ ?_
          refine Each.cons ?_<|Each.cons ?_<|Each.cons ?_<|Each.cons ?_<|Each.cons ?_<|Each.cons ?_<|Each.cons ?_<|Each.cons ?_<|Each.nil
          ·exact OV.load_out (by kernel_rfl) 0 20 r2.v 33 (.tmp 5) _ (by kernel_rfl) (fun γ=>by kernel_rfl) (by kernel_rfl) rfl (fun γ=>by kernel_rfl) (by kernel_rfl) (by kernel_rfl) Tryz.underlying33 rfl sizeP
          ·exact OV.val (.slice (some ⟨gt,0,none⟩) 2 2) (by kernel_rfl) (fun γ=>by kernel_rfl) (by kernel_rfl) (fun γ w=>by kernel_rfl)
          ·exact OV.val (.int .i64 1) (by kernel_rfl) (fun γ=>by kernel_rfl) (by kernel_rfl) (fun γ w=>by kernel_rfl)
          ·exact OV.val (.pointer (some ⟨gt,321,none⟩)) (by kernel_rfl) (fun γ=>by kernel_rfl) (by kernel_rfl) (fun γ w=>by kernel_rfl)
          ·exact OV.val (.int .i64 (q:Int)) (by kernel_rfl) (fun γ=>by kernel_rfl) (by kernel_rfl) (fun γ w=>by kernel_rfl)
          ·exact OV.call 62 #[.pointer (some ⟨gt,321,none⟩),.int .i64 (q:Int)] (.agg (f1 (hf l1 q)).v) (by kernel_rfl) (fun γ=>by kernel_rfl) (by kernel_rfl) (fun γ w=>by kernel_rfl) (fun w' hg=>half_any gt 321 65 (tarr2 (.slice A0 n0 c0) f0 (.slice A1 n1 c1) f1) A1 n1 c1 l1 f1 q w' (CC0.out.grown hg (by simp only[Option.map_some,ne_eq,Option.some.injEq];omega)) (by kernel_rfl) (fun j hj=>tarr2_at' _ f0 _ f1 j hj) (Nat.le_of_ble_eq_true (by kernel_rfl)) HL1.out (HS1.out.below (below_only (g:=h) CC4.out hg (by omega))) (by omega))
          ·exact OV.call 14 #[.agg r2.v,.agg (f1 (hf l1 q)).v] (.agg (r2.add (f1 (hf l1 q))).v) (by kernel_rfl) (fun γ=>by kernel_rfl) (by kernel_rfl) (fun γ w=>by kernel_rfl) (fun w' hg=>Add_any r2 (f1 (hf l1 q)) w' (TB.out.below (below_only (g:=h) CC4.out hg (by omega))))
          ·exact OV.res_ rfl (by kernel_rfl) (by kernel_rfl) (fun γ=>by kernel_rfl) 33 (.tmp 5) (.tmp 46) rfl (fun γ=>by kernel_rfl) (fun γ=>by kernel_rfl) (KP.sz _ _) sizeP (KP.ones _)
          intro γ W5 hgr5 hat hx2 hres
          clear hat hx2
          have R0:=Lib.hid (hres _ rfl)
          have R1:=Lib.hid (CC0.out.grown hgr5 (by simp only[Option.map_some,ne_eq,Option.some.injEq];omega))
          have R2:=Lib.hid (CC1.out.grown hgr5 (by simp only[Option.map_some,ne_eq,Option.some.injEq];omega))
          have R3:=Lib.hid (below_only (g:=h) CC4.out hgr5 (by omega))
          have HA:=Lib.hid (Hp.add CC3.out (HF1.out (hf l1 q)))
          clear hres hgr5 HL
          simp only[fr,fill,exa,spx,List.map_cons,List.map_nil,List.getElem?_cons_zero,List.getElem?_cons_succ,List.setIfInBounds_toArray,List.set_cons_zero,List.set_cons_succ]
          go_wp2_with fail
          go_roundw
          case rel=>exact⟨2,r2.add (f1 (hf l1 q)),by omega,rfl,R1.out,R2.out,R0.out,HA.out,R3.out⟩
          case measure=>simp[intOf]
        ·have h2:IntKind.i64.wrap ((q:Int) - 1)=(q:Int) - 1:=IntWalk.i64_in _ (by omega)
         have hge':(2:Int)≤(k:Int):=by omega
         have hk4:=Lib.hid hk
         go_wp2_with fail
         go_roundw
         case rel=>exact⟨q,r2,by omega,rfl,CC0.out,CC1.out,CC2.out,(by
          have:=CC3.out
          have hkk:Pp2 (ti 16 (ga (ti (le l0 / 16 ^ (q+1)) g0) (ti (le l1 / 16 ^ (q+1)) g1))) (ga (ti 16 (ga (ti (le l0 / 16 ^ (q+1)) g0) (ti (le l1 / 16 ^ (q+1)) g1))) (ti (hf l0 q) g0)) (ga (ga (ti 16 (ga (ti (le l0 / 16 ^ (q+1)) g0) (ti (le l1 / 16 ^ (q+1)) g1))) (ti (hf l0 q) g0)) (ti (hf l1 q) g1)) k=(ga (ga (ti 16 (ga (ti (le l0 / 16 ^ (q+1)) g0) (ti (le l1 / 16 ^ (q+1)) g1))) (ti (hf l0 q) g0)) (ti (hf l1 q) g1)):=by
           obtain hq:k=2:=by have:=hk4.out;omega
           subst hq;rfl
          rw[hkk] at this
          dsimp only
          rw[←sum_two (le l0) (le l1) q g0 g1 l0 l1 HL0.out HL1.out rfl rfl]
          exact this),CC4.out⟩
         case measure=>(simp[intOf];try omega)
end Go.Proofs.YtoibhnpmemnlfaaGreatDoor.Ed
