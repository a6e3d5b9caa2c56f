/- Joined texts. -/
import Derived.Test.YtkahelhoaihajaaQnWrCopyB
import Derived.Test.YtkahelhoaihajaaQnWrFault
import Derived.Test.YtkahelhoaihajaaQnWrTreadB
set_option linter.unusedVariables false
namespace Go.Proofs.Ytkahelhoaihajaa.Wr
open Go.RowKit Go.Proofs.Ytkahelhoaihajaa.Gn Go.Proofs.Ytkahelhoaihajaa.Fd Go.Deep
abbrev nodo:Obj:=.cells #[.int .i64 0,.int .u64 0,.slice none 0 0,.slice none 0 0] 26
set_option maxHeartbeats 4000000 in
set_option maxRecDepth 100000 in
theorem next_nil(k:Int)(fv:Value)(w:World):Calls Try.prog 65 #[.pointer none,.int .i64 k,fv] w fun e w'=>e=.returned (.agg #[.int .i64 0,.int .u64 0,.slice none 0 0,.slice none 0 0])∧Below w.heap.size w w':=by
 have HB:=Lib.hid (below_one w nodo)
 have HL:=Lib.hid (Bl.new_ w 26 #[.int .i64 0,.int .u64 0,.slice none 0 0,.slice none 0 0])
 go_enter Try.func65,Try.ntmps65
 go_wp2_with fail
 exact⟨rfl,_,results_c rfl _ _ _ ⟨w.heap.size,0,none⟩ _ (by kernel_rfl) (run_loadVar_row _ w.heap.size 26 26 #[.int .i64 0,.int .u64 0,.slice none 0 0,.slice none 0 0] (0,0) _ HL.out Try.underlying26 rfl size34),rfl,HB.out⟩
theorem run_field1(a b c d:Value)(w:World)(hb:b.cells.size=1)(hk:∃n:Int,b=.int .u64 n):(Instr.field 26 (.agg #[a,b,c,d]) 1).run Try.prog w=.ok b w:=by
 obtain⟨n,rfl⟩:=hk
 kernel_rfl
abbrev Rz(w:World)(g:Nat):Prop:=Bl w g 107 #[.bool false,.slice none 0 0]
set_option maxHeartbeats 4000000 in
set_option maxRecDepth 100000 in
theorem next_none{w:World}{g:Nat}(h:Rz w g)(k:Int)(fv:Value):Calls Try.prog 65 #[.pointer (some ⟨g,0,none⟩),.int .i64 k,fv] w fun e w'=>e=.returned (.agg #[.int .i64 0,.int .u64 0,.slice none 0 0,.slice none 0 0])∧Below g w w'∧Rz w' g∧w.heap.size≤w'.heap.size:=by
 have glt:=h.lt
 have RG:=Lib.hid (h.alloc nodo)
 have HL:=Lib.hid (Bl.new_ w 26 #[.int .i64 0,.int .u64 0,.slice none 0 0,.slice none 0 0])
 have HB:=Lib.hid ((below_one w nodo).mono (Nat.le_refl _))
 have r0:(w.alloc nodo).cell? ⟨g,0,none⟩=some (.bool false):=RG.out.cell_ rfl
 have r1:(w.alloc nodo).cell? ⟨g,1,none⟩=some (.slice none 0 0):=RG.out.cell_ rfl
 have f0:=RG.out.frozen 0
 have f1:=RG.out.frozen 1
 obtain⟨U,hU⟩:∃U,((w.alloc nodo).setCell ⟨g,0,none⟩ (.bool false)).setCell ⟨g,1,none⟩ (.slice none 0 0)=U:=⟨_,rfl⟩
 have RU:=Lib.hid (show Rz U g from by rw[←hU];exact(RG.out.set_ 0 _).set_ 1 _)
 have LU:=Lib.hid (show Bl U w.heap.size 26 #[.int .i64 0,.int .u64 0,.slice none 0 0,.slice none 0 0] from by rw[←hU];exact(HL.out.other (p:=⟨g,0,none⟩) (by show w.heap.size≠g;omega) _).other (p:=⟨g,1,none⟩) (by show w.heap.size≠g;omega) _)
 have BU:=Lib.hid (show Below g w U from by rw[←hU];exact(((Below.refl g w).alloc (Nat.le_of_lt glt) _).setCell (p:=⟨g,0,none⟩) (Nat.le_refl _) _).setCell (p:=⟨g,1,none⟩) (Nat.le_refl _) _)
 have SU:=Lib.hid (show U.heap.size=w.heap.size+1 from by rw[←hU,setc_size,setc_size];simp)
 have c0:U.cell? ⟨w.heap.size,0,none⟩=some (.int .i64 0):=LU.out.cell_ rfl
 have c1:U.cell? ⟨w.heap.size,1,none⟩=some (.int .u64 0):=LU.out.cell_ rfl
 have c2:U.cell? ⟨w.heap.size,2,none⟩=some (.slice none 0 0):=LU.out.cell_ rfl
 have c3:U.cell? ⟨w.heap.size,3,none⟩=some (.slice none 0 0):=LU.out.cell_ rfl
 have z0:=LU.out.frozen 0
 have z1:=LU.out.frozen 1
 have z2:=LU.out.frozen 2
 have z3:=LU.out.frozen 3
 have HG:=Lib.hid glt
 clear h glt
 go_enter Try.func65,Try.ntmps65
 go_wp2_with fail
 have ng:=HG.out
 have hs:=SU.out
 exact⟨rfl,_,results_c rfl _ _ _ ⟨w.heap.size,0,none⟩ _ (by kernel_rfl) (run_loadVar_row _ w.heap.size 26 26 #[.int .i64 0,.int .u64 0,.slice none 0 0,.slice none 0 0] (0,0) _ (st4_bl LU.out _ _ _ _) Try.underlying26 rfl size34),rfl,below_st4' BU.out (Nat.le_of_lt ng) _ _ _ _,(((RU.out.other (p:=⟨w.heap.size,0,none⟩) (by show g≠w.heap.size;omega) _).other (p:=⟨w.heap.size,1,none⟩) (by show g≠w.heap.size;omega) _).other (p:=⟨w.heap.size,2,none⟩) (by show g≠w.heap.size;omega) _).other (p:=⟨w.heap.size,3,none⟩) (by show g≠w.heap.size;omega) _,by rw[st4_size,hs];omega⟩
set_option maxHeartbeats 4000000 in
set_option maxRecDepth 100000 in
theorem Done_nil(w:World):Calls Try.prog 43 #[.pointer none] w fun e w'=>e=.returned (.bool false)∧w=w':=by
 go_enter Try.func43,Try.ntmps43
 go_wp2_with fail
 go_ret
 exact⟨rfl,rfl⟩
set_option maxHeartbeats 4000000 in
set_option maxRecDepth 100000 in
theorem Done_none{w:World}{g:Nat}(h:Rz w g):Calls Try.prog 43 #[.pointer (some ⟨g,0,none⟩)] w fun e w'=>e=.returned (.bool false)∧w=w':=by
 have r0:w.cell? ⟨g,0,none⟩=some (.bool false):=h.cell_ rfl
 clear h
 go_enter Try.func43,Try.ntmps43
 go_wp2_with fail
 go_ret
 exact⟨rfl,rfl⟩
set_option maxHeartbeats 4000000 in
set_option maxRecDepth 100000 in
theorem Num_nil{w:World}:Calls Try.prog 33 #[.pointer none] w fun e w'=>e=.returned (.int .u64 0)∧Below w.heap.size w w':=by
 have CN:=Lib.hid (fun k fv u=>next_nil k fv u)
 have BW:=Lib.hid (Below.refl w.heap.size w)
 have RF:∀u,Sem.run Try.prog (Instr.field 26 (.agg #[.int .i64 0,.int .u64 0,.slice none 0 0,.slice none 0 0]) 1) u=.ok (.int .u64 0) u:=fun u=>run_field1 _ _ _ _ u rfl ⟨0,rfl⟩
 go_enter Try.func33,Try.ntmps33
 go_wp2_with (first|(go_at_call 65;(refine(CN.out _ _ _).mono ?_);rintro e w1 ⟨rfl,hb⟩;have B1:=Lib.hid (BW.out.trans (hb.mono BW.out.size));clear hb))
 go_ret
 exact⟨rfl,B1.out⟩
set_option maxHeartbeats 4000000 in
set_option maxRecDepth 100000 in
theorem Num_none{w:World}{g:Nat}(h:Rz w g):Calls Try.prog 33 #[.pointer (some ⟨g,0,none⟩)] w fun e w'=>e=.returned (.int .u64 0)∧Below g w w'∧Rz w' g∧w.heap.size≤w'.heap.size:=by
 have glt:=h.lt
 have BW:=Lib.hid (Below.refl g w)
 have HW:=Lib.hid h
 have SW:=Lib.hid (Nat.le_refl w.heap.size)
 have GL:=Lib.hid glt
 have CN:=Lib.hid (fun k fv=>next_none HW.out k fv)
 clear h glt
 have RF:∀u,Sem.run Try.prog (Instr.field 26 (.agg #[.int .i64 0,.int .u64 0,.slice none 0 0,.slice none 0 0]) 1) u=.ok (.int .u64 0) u:=fun u=>run_field1 _ _ _ _ u rfl ⟨0,rfl⟩
 go_enter Try.func33,Try.ntmps33
 go_wp2_with (first|(go_at_call 65;(refine(CN.out _ _).mono ?_);rintro e w1 ⟨rfl,hb,hz,hs⟩;have B1:=Lib.hid (BW.out.trans hb);have Z1:=Lib.hid hz;have S1:=Lib.hid (Nat.le_trans SW.out hs);clear hb hz hs))
 go_ret
 exact⟨rfl,B1.out,Z1.out,S1.out⟩
set_option maxHeartbeats 4000000 in
set_option maxRecDepth 100000 in
theorem Int_nil{w:World}(a b:Int):Calls Try.prog 35 #[.pointer none,.int .i64 a,.int .i64 b] w fun e w'=>e=.returned (.int .i64 0)∧Below w.heap.size w w':=by
 have CN:=Lib.hid (fun k fv u=>next_nil k fv u)
 have BW:=Lib.hid (show Below w.heap.size w ((w.alloc (.cells #[.int .i64 a] 2)).alloc (.cells #[.int .i64 b] 2)) from((Below.refl _ w).alloc (Nat.le_refl _) _).alloc (by simp) _)
 go_enter Try.func35,Try.ntmps35
 go_wp2_with (first|(go_at_call 65;(refine(CN.out _ _ _).mono ?_);rintro e w1 ⟨rfl,hb⟩;have B1:=Lib.hid (BW.out.trans (hb.mono BW.out.size));clear hb))
 go_ret
 exact⟨rfl,B1.out.alloc B1.out.size _⟩
set_option maxHeartbeats 4000000 in
set_option maxRecDepth 100000 in
theorem Bytes_nil{w:World}(a b:Int):Calls Try.prog 37 #[.pointer none,.int .i64 a,.int .i64 b] w fun e w'=>e=.returned (.slice none 0 0)∧Below w.heap.size w w':=by
 have CN:=Lib.hid (fun k fv u=>next_nil k fv u)
 have BW:=Lib.hid (show Below w.heap.size w ((w.alloc (.cells #[.int .i64 a] 3)).alloc (.cells #[.int .i64 b] 3)) from((Below.refl _ w).alloc (Nat.le_refl _) _).alloc (by simp) _)
 go_enter Try.func37,Try.ntmps37
 go_wp2_with (first|(go_at_call 65;(refine(CN.out _ _ _).mono ?_);rintro e w1 ⟨rfl,hb⟩;have B1:=Lib.hid (BW.out.trans (hb.mono BW.out.size));clear hb)|(go_at_call 62;(refine(Clone_nil _).mono ?_);rintro e w2 ⟨rfl,rfl⟩))
 go_ret
 exact⟨rfl,B1.out.alloc B1.out.size _⟩
set_option maxHeartbeats 4000000 in
set_option maxRecDepth 100000 in
theorem read_empty(w:World):Calls Try.prog 74 #[.slice none 0 0] w fun e w'=>e=.returned (.tuple #[.float .f64 0,.int .i64 1])∧w=w':=by
 go_enter Try.func74,Try.ntmps74
 go_wp2_with fail
 go_ret2
 exact⟨rfl,rfl⟩
theorem copies_z(w:World):Calls Try.prog 61 #[.slice none 0 0] w fun e w'=>(∃A c,e=.returned (.slice A 0 c))∧Below w.heap.size w w' :=
 (copies_nil w).mono fun e w' h=>by
  obtain⟨us,A,c,h1,-, h2,-, -, -, -, -, -, h3⟩:=h
  rw[show us.length=0 from h2] at h1
  exact⟨⟨A,c,h1⟩,h3⟩
set_option maxHeartbeats 4000000 in
set_option maxRecDepth 100000 in
theorem List_nil{w:World}(a b:Int):Calls Try.prog 42 #[.pointer none,.int .i64 a,.int .i64 b] w fun e w'=>(∃A c,e=.returned (.slice A 0 c))∧Below w.heap.size w w':=by
 have CN:=Lib.hid (fun k fv u=>next_nil k fv u)
 have BW:=Lib.hid (show Below w.heap.size w ((w.alloc (.cells #[.int .i64 a] 3)).alloc (.cells #[.int .i64 b] 3)) from((Below.refl _ w).alloc (Nat.le_refl _) _).alloc (by simp) _)
 have CZ:=Lib.hid (fun u=>copies_z u)
 go_enter Try.func42,Try.ntmps42
 go_wp2_with (first|(go_at_call 65;(refine(CN.out _ _ _).mono ?_);rintro e w1 ⟨rfl,hb⟩;have B1:=Lib.hid (show Below w.heap.size w (w1.alloc nodo) from(BW.out.trans (hb.mono BW.out.size)).alloc (Nat.le_trans BW.out.size hb.size) _);clear hb)|(go_at_call 61;(refine(CZ.out _).mono ?_);rintro e w2 ⟨⟨A2,c2,rfl⟩,hb2⟩;have B2:=Lib.hid hb2;clear hb2))
 go_ret
 exact⟨⟨_,_,rfl⟩,B1.out.trans (B2.out.mono B1.out.size)⟩
set_option maxHeartbeats 4000000 in
set_option maxRecDepth 100000 in
theorem Score_nil{w:World}:Calls Try.prog 40 #[.pointer none] w fun e w'=>e=.returned (.float .f64 0)∧Below w.heap.size w w':=by
 have CN:=Lib.hid (fun k fv u=>next_nil k fv u)
 have BW:=Lib.hid (Below.refl w.heap.size w)
 have CZ:=Lib.hid (fun u=>read_empty u)
 go_enter Try.func40,Try.ntmps40
 go_wp2_with (first|(go_at_call 65;(refine(CN.out _ _ _).mono ?_);rintro e w1 ⟨rfl,hb⟩;have B1:=Lib.hid (show Below w.heap.size w (w1.alloc nodo) from(BW.out.trans (hb.mono BW.out.size)).alloc (Nat.le_trans BW.out.size hb.size) _);clear hb)|(go_at_call 74;(refine(CZ.out _).mono ?_);rintro e w2 ⟨rfl,rfl⟩))
 go_ret
 exact⟨rfl,B1.out⟩
set_option maxHeartbeats 4000000 in
set_option maxRecDepth 100000 in
theorem List_none{w:World}{g:Nat}(h:Rz w g)(a b:Int):Calls Try.prog 42 #[.pointer (some ⟨g,0,none⟩),.int .i64 a,.int .i64 b] w fun e w'=>(∃A c,e=.returned (.slice A 0 c))∧Below g w w'∧Rz w' g∧w.heap.size≤w'.heap.size:=by
 have glt:=h.lt
 have BW:=Lib.hid (show Below g w ((w.alloc (.cells #[.int .i64 a] 3)).alloc (.cells #[.int .i64 b] 3)) from((Below.refl g w).alloc (Nat.le_of_lt glt) _).alloc (by simp;omega) _)
 have HW:=Lib.hid (show Rz ((w.alloc (.cells #[.int .i64 a] 3)).alloc (.cells #[.int .i64 b] 3)) g from(h.alloc _).alloc _)
 have SW:=Lib.hid (show w.heap.size≤(((w.alloc (.cells #[.int .i64 a] 3)).alloc (.cells #[.int .i64 b] 3))).heap.size from by simp;omega)
 have GL:=Lib.hid glt
 have CN:=Lib.hid (fun k fv=>next_none HW.out k fv)
 clear h glt
 have CZ:=Lib.hid (fun u=>copies_z u)
 go_enter Try.func42,Try.ntmps42
 go_wp2_with (first|(go_at_call 65;(refine(CN.out _ _).mono ?_);rintro e w1 ⟨rfl,hb,hz,hs⟩;have B1:=Lib.hid (show Below g w (w1.alloc nodo) from(BW.out.trans hb).alloc (Nat.le_trans (Nat.le_of_lt GL.out) (Nat.le_trans SW.out hs)) _);have Z1:=Lib.hid (show Rz (w1.alloc nodo) g from hz.alloc _);have S1:=Lib.hid (show w.heap.size≤(w1.alloc nodo).heap.size from Nat.le_trans SW.out (Nat.le_trans hs (by simp)));clear hb hz hs)|(go_at_call 61;(refine(CZ.out _).mono ?_);rintro e w2 ⟨⟨A2,c2,rfl⟩,hb2⟩;have B2:=Lib.hid hb2;clear hb2))
 go_ret
 exact⟨⟨_,_,rfl⟩,B1.out.trans (B2.out.mono (Nat.le_trans (Nat.le_of_lt GL.out) S1.out)),Z1.out.below' B2.out,Nat.le_trans S1.out B2.out.size⟩
set_option maxHeartbeats 4000000 in
set_option maxRecDepth 100000 in
theorem Open_no(K:Int)(hK:¬K=3)(N:Nat)(r:Rw)(A:Option Addr)(n c:Nat)(w:World):Calls Try.prog 30 #[.agg #[.int .i64 K,.int .u64 (N:Int),.slice r.1 r.2.1 r.2.2.1,.slice A n c]] w fun e w'=>∃g,e=.returned (.pointer (some ⟨g,0,none⟩))∧Rz w' g∧w.heap.size≤g∧Below w.heap.size w w':=by
 have BW:=Lib.hid (((Below.refl _ w).alloc (Nat.le_refl _) (.cells #[.int .i64 K,.int .u64 (N:Int),.slice r.1 r.2.1 r.2.2.1,.slice A n c] 26)).alloc (by simp) (.cells #[.bool false,.slice none 0 0] 107))
 go_enter Try.func30,Try.ntmps30
 go_wp2_with fail
 go_ret
 exact⟨_,rfl,Bl.new' _ _ (by simp),by simp,BW.out⟩
end Go.Proofs.Ytkahelhoaihajaa.Wr
