/- Joined texts. -/
import Derived.Test.YtbgkdbjineennaaQcDkJ
set_option linter.unusedVariables false
namespace Go.Proofs.Ytbgkdbjineennaa.Dk
open Go.IntWalk Go.RowKit Go.Proofs.Ytbgkdbjineennaa.Gn Go.Proofs.Ytbgkdbjineennaa.Fd Go.Deep
def Z0:List Nat:=List.replicate 128 0
def Z1:List Nat:=7 :: List.replicate 127 0
def Z2:List Nat:=7 :: (List.replicate 63 0 ++ 7 :: List.replicate 63 0)
theorem z1_spl:spl (bl Z0).toArray (64*0) sv=(bl Z1).toArray:=by kernel_rfl
theorem z2_spl:spl (bl Z1).toArray 64 sv=(bl Z2).toArray:=by kernel_rfl
section
variable {g gb n cp:Nat} {H:Value} {up:Bool} {st:Int} {cs:Bool} {cw:Int} {ch:Value} {w:World}
set_option maxRecDepth 100000 in
theorem bytes_cell{bs:List Nat}(h:DB w g gb n cp H up st cs cw ch)(hcp:n≤cp)(hr:RB w gb bs)(hbs:bs.length=n)(hn:0 < n)(hn9:n≤100000)(k:Nat)(v:Value)(hk:(bl bs)[k]?=some v):Calls Try.prog 13 #[.pointer (some ⟨g,0,none⟩)] w fun e w'=>∃q cap,e=.returned (.slice (some ⟨q,0,none⟩) n cap)∧w'.cell? ⟨q,k,none⟩=some v∧w.heap.size≤q∧Below w.heap.size w w':=by
 have C:=Lib.hid (none_any h hn)
 have c0:=h.c0
 have C2:=Clone_any (some ⟨gb,0,none⟩) n cp bs w hn hn9 hcp (by rw[←hbs];exact hr.sl)
 have C2:=Lib.hid C2
 have HB:=Lib.hid hbs
 have HK:=Lib.hid hk
 clear h hr hbs hk
 go_enter Try.func13,Try.ntmps13
 go_wp2_with (first|(go_at_call 30;(with_reducible refine C.out.mono ?_);rintro e w1 ⟨rfl,rfl⟩)|(go_at_call 35;(with_reducible refine C2.out.mono ?_);rintro e w2 ⟨q,cap,cur,rfl,k1,k2,k3,k4,k5,k6⟩;rw[HB.out] at k2 k3 k4 ⊢;have K1:=Lib.hid k1;have K4:=Lib.hid k4;have K5:=Lib.hid k5;have K6:=Lib.hid k6;clear k1 k2 k3 k4 k5 k6))
 go_ret
 refine⟨q,cap,rfl,?_,K5.out,K6.out⟩
 refine K1.out.cell_ ?_
 have hk:=HK.out
 have hkl:k < n:=by have:=(List.getElem?_eq_some_iff.1 hk).1;rwa [bl_length,HB.out] at this
 have h4:=K4.out
 rw[←h4,List.getElem?_take,if_pos hkl] at hk
 rwa [Array.getElem?_toList] at hk
end
theorem Gx.cell{S:List Nat}{w w':World}(h:Gx S w w'){a:Addr}{v:Value}(hc:w.cell? a=some v)(ha:a.block∉S):w'.cell? a=some v:=(World.cell?_of_block (w:=w) (h.block a.block (World.block_lt_of_cell? w _ hc) ha)).trans hc
theorem two_blocks{w:World}{a b:Nat}{s t:TypeId}{x y:Array Value}(h:Bl w a s x)(k:Bl w b t y)(hst:s≠t):a≠b:=by
 rintro rfl
 have e:=h.symm.trans k
 simp only[Option.some.injEq,Obj.cells.injEq] at e
 exact hst e.2.1
set_option maxRecDepth 100000 in
set_option maxHeartbeats 4000000 in
theorem known_any(w:World):Calls Try.prog 10 #[] w fun e w'=>e=.returned (.bool true)∧Below w.heap.size w w':=by
 have hmk:∀w,(Instr.makeSlice 22 (.int .i64 64) (.int .i64 64)).run Try.prog w=.ok (.slice (some ⟨w.heap.size,0,none⟩) 64 64) (w.alloc (.cells (madeCells #[.int .u8 0] 64) 5)) :=
  fun w=>run_make_row' (P:=Try.prog) 22 5 (.int .u8 0) 1 Try.underlying22 infob rfl .i64 .i64 64 (by omega) (by omega) w
 obtain⟨Y,hY⟩:∃Y,madeCells #[Value.int .u8 0] 64=Y:=⟨_,rfl⟩
 rw[hY] at hmk
 have HY:=Lib.hid (show Y.setIfInBounds 0 (.int .u8 7)=sv.toArray by
  rw[←hY]
  have e:madeCells #[Value.int .u8 0] 64=(List.replicate 64 (Value.int .u8 0)).toArray:=by apply Array.toList_inj.1;rw[toList_madeCells_one]
  rw[e]
  exact(by kernel_rfl:(List.replicate 64 (Value.int .u8 0)).toArray.setIfInBounds 0 (.int .u8 7)=sv.toArray))
 have HY0:=Lib.hid (show Y[0]?=some (.int .u8 0) by
  rw[←hY]
  have e:madeCells #[Value.int .u8 0] 64=(List.replicate 64 (Value.int .u8 0)).toArray:=by apply Array.toList_inj.1;rw[toList_madeCells_one]
  rw[e];rfl)
 have N:=Lib.hid (New_nil w Z0 rfl)
 clear hY
 go_enter Try.func10,Try.ntmps10
 go_upto_region 6 with(go_at_call 29;(with_reducible refine N.out.mono ?_);rintro e w1 ⟨g,gb,rfl,k1,k2,k3,k4,k5⟩;have K1:=Lib.hid k1;have K2:=Lib.hid k2;have K3:=Lib.hid k3;have K4:=Lib.hid k4;have K5:=Lib.hid k5;have yc:=(Bl.new_ w1 5 Y).cell_ HY0.out;have yf:=(Bl.new_ w1 5 Y).frozen 0;clear k1 k2 k3 k4 k5)
 rw[HY.out]
 have hgb:g≠gb:=two_blocks K1.out K2.out (by decide)
 have hg1:g < w1.heap.size:=(Array.getElem?_eq_some_iff.1 K1.out).1
 have hb1:gb < w1.heap.size:=(Array.getElem?_eq_some_iff.1 K2.out).1
 have D2:DB (w1.alloc (.cells sv.toArray 5)) g gb 128 128 (.slice none 0 0) true 0 false 0 (.slice none 0 0):=Bl.alloc K1.out _
 have R2:RB (w1.alloc (.cells sv.toArray 5)) gb Z0:=Bl.alloc K2.out _
 have S2:=Bl.new_ w1 5 sv.toArray
 have B2:Below w.heap.size w (w1.alloc (.cells sv.toArray 5)):=K5.out.alloc K5.out.size _
 have hz2:(w1.alloc (.cells sv.toArray 5)).heap.size=w1.heap.size+1:=by simp
 generalize w1.alloc (.cells sv.toArray 5)=w2 at D2 R2 S2 B2 hz2 ⊢
 generalize w1.heap.size=sb at hg1 hb1 S2 hz2 ⊢
 have C1:=Lib.hid (write_first D2 ⟨by decide,by decide⟩ S2)
 have A:=Lib.hid (And.intro hgb (And.intro hg1 (And.intro hb1 hz2)))
 have Rr:=Lib.hid R2
 have Ss:=Lib.hid S2
 have Bb:=Lib.hid B2
 clear hgb hg1 hb1 hz2 D2 R2 S2 B2 yc yf hmk N
 go_upto_region 7 with(first|(go_at_call 18;(with_reducible refine C1.out.mono ?_);rintro e w3 ⟨rfl,gh,cap,cur,m1,m2,m3,m4,m5,m6,m7,m8⟩;have M1:=Lib.hid m1;have M2:=Lib.hid m2;have M3:=Lib.hid m3;have M4:=Lib.hid m4;have M5:=Lib.hid m5;have M6:=Lib.hid m6;have M7:=Lib.hid m7;have M8:=Lib.hid m8;have R3:=Lib.hid (show RB w3 gb Z0 from m8.bl (by simpa using Ne.symm A.out.1) Rr.out);have C2:=Lib.hid (bytes_cell m1 (Nat.le_refl _) R3.out (by kernel_rfl) (by decide) (by decide) 0 (.int .u8 0) (by kernel_rfl));clear m1 m2 m3 m4 m5 m6 m7 m8)|(go_at_call 13;(with_reducible refine C2.out.mono ?_);rintro e w4 ⟨q1,c1,rfl,b1,b2,b3⟩;have Q1:=Lib.hid b1;have Q2:=Lib.hid b2;have Q3:=Lib.hid b3;clear b1 b2 b3))
 have hA:=A.out
 have hgh:g≠gh∧gb≠gh∧sb≠gh:=by have:=M2.out;omega
 have l3:gh < w3.heap.size:=(Array.getElem?_eq_some_iff.1 M3.out).1
 have s3:=M8.out.size
 have C3:=Lib.hid (Flush_one gh cap 0 (bl Z0).toArray cur (M1.out.below Q3.out) ⟨by decide,by decide⟩ (Bl.below' R3.out Q3.out) (by kernel_rfl) (by decide) (Bl.below' M3.out Q3.out) M4.out M6.out M7.out hA.1 hgh.1 hgh.2.1)
 have E:=Lib.hid (And.intro hgh (And.intro l3 s3))
 clear hA hgh l3 s3
 go_upto_region 8 with(go_at_call 12;(with_reducible refine C3.out.mono ?_);rintro e w5 ⟨rfl,cur5,m1,m2,m3,m4,m5⟩;have F1:=Lib.hid m1;have F2:=Lib.hid m2;have F3:=Lib.hid m3;have F4:=Lib.hid m4;have F5:=Lib.hid m5;clear m1 m2 m3 m4 m5)
 have R5:RB w5 gb Z1:=by have:=F2.out;rw[z1_spl] at this;exact this
 have R5:=Lib.hid R5
 have C4:=Lib.hid (bytes_cell F1.out (Nat.le_refl _) R5.out (by kernel_rfl) (by decide) (by decide) 0 (.int .u8 7) (by kernel_rfl))
 go_upto_region 9 with(go_at_call 13;(with_reducible refine C4.out.mono ?_);rintro e w6 ⟨q2,c2,rfl,b1,b2,b3⟩;have P1:=Lib.hid b1;have P2:=Lib.hid b2;have P3:=Lib.hid b3;clear b1 b2 b3)
 have hA:=A.out
 have hE:=E.out
 have s4:=Q3.out.size
 have s5:=F5.out.size
 have s6:=P3.out.size
 have q1l:w3.heap.size≤q1:=Q2.out
 have q2l:w5.heap.size≤q2:=P2.out
 have D7:DB (w6.alloc (.cells #[.bool true] 4)) g gb 128 128 (.slice (some ⟨gh,0,none⟩) 0 cap) true (0+1+1) false 0 (.slice none 0 0):=Bl.alloc (F1.out.below P3.out) _
 have R7:RB (w6.alloc (.cells #[.bool true] 4)) gb Z1:=Bl.alloc (Bl.below' R5.out P3.out) _
 have H7:Bl (w6.alloc (.cells #[.bool true] 4)) gh 67 cur5:=Bl.alloc (Bl.below' F3.out P3.out) _
 have S3:=M8.out.bl (g:=sb) (by simp;omega) Ss.out
 have S4:=Bl.below' S3 Q3.out
 have S5:=F5.out.bl (g:=sb) (by simp;omega) S4
 have S7:Bl (w6.alloc (.cells #[.bool true] 4)) sb 5 sv.toArray:=Bl.alloc (Bl.below' S5 P3.out) _
 have hz7:(w6.alloc (.cells #[.bool true] 4)).heap.size=w6.heap.size+1:=by simp
 have G7:Gx [] w6 (w6.alloc (.cells #[.bool true] 4)):=(Gx.refl _ _).alloc _
 have X1:=F5.out.cell Q1.out (by simp;omega)
 have X2:=(Gx.of_below (S:=[]) P3.out).cell X1 (by simp)
 have X3:=G7.cell X2 (by simp)
 have Y3:=G7.cell P1.out (by simp)
 have sl7:Sl (w6.alloc (.cells #[.bool true] 4)) (some ⟨w6.heap.size,0,none⟩) 1 [.bool true]:=Sl.of_bl (Bl.new_ w6 4 #[.bool true]) 0 _ _ rfl fun k v hk=>by rw[Nat.zero_add];simpa using hk
 have C5:=Lib.hid (Set_true D7 (by decide) ⟨w6.heap.size,0,none⟩ sl7)
 have B3:Below w.heap.size w w3:=Bb.out.trans (M8.out.below Bb.out.size (by have:=K3.out;simpa using this))
 have B4:Below w.heap.size w w4:=B3.trans (Q3.out.mono B3.size)
 have kg:=K3.out
 have kgb:=K4.out
 have kgh:w.heap.size≤gh:=Nat.le_trans Bb.out.size M2.out
 have B5:Below w.heap.size w w5:=B4.trans (F5.out.below B4.size (by simp;omega))
 have B6:Below w.heap.size w w6:=B5.trans (P3.out.mono B5.size)
 have B7:Below w.heap.size w (w6.alloc (.cells #[.bool true] 4)):=B6.alloc B6.size _
 have R7':=Lib.hid R7
 have H7':=Lib.hid H7
 have S7':=Lib.hid S7
 have X3':=Lib.hid X3
 have Y3':=Lib.hid Y3
 have B7':=Lib.hid B7
 have hq1:q1≠g∧q1≠gb∧q1≠gh:=by omega
 have hq2:q2≠g∧q2≠gb∧q2≠gh:=by omega
 have E2:=Lib.hid (And.intro hA (And.intro hE (And.intro (And.intro hq1 hq2) (And.intro (And.intro kg (And.intro kgb kgh)) (And.intro (show gh < w6.heap.size∧g < w6.heap.size by omega) hz7)))))
 clear hA hE s4 s5 s6 q1l q2l D7 R7 H7 S3 S4 S5 S7 hz7 G7 X1 X2 X3 Y3 sl7 B3 B4 B5 B6 B7 kg kgb kgh hq1 hq2
 go_upto_region 10 with(go_at_call 28;(with_reducible refine C5.out.mono ?_);rintro e w8 ⟨q,qc,rfl,d1,d2,d3,d4,d5,d6⟩;have T1:=Lib.hid d1;have T2:=Lib.hid d2;have T3:=Lib.hid d3;have T4:=Lib.hid d4;have T6:=Lib.hid d6;clear d1 d2 d3 d4 d5 d6)
 have hE2:=E2.out
 have t4:=T4.out
 have hqq:q≠g∧q≠gh:=by omega
 have R8:RB w8 gb Z1:=T6.out.bl (by simp;omega) R7'.out
 have H8:=T6.out.bl (g:=gh) (by simp;omega) H7'.out
 have S8:=T6.out.bl (g:=sb) (by simp;omega) S7'.out
 have X8:=Lib.hid (T6.out.cell X3'.out (by simp;omega))
 have Y8:=Lib.hid (T6.out.cell Y3'.out (by simp;omega))
 have B8:=Lib.hid (B7'.out.trans (T6.out.below B7'.out.size (by simp;omega)))
 have C6:=Lib.hid (write_second T1.out ⟨by decide,by decide⟩ S8 R8 (by kernel_rfl) H8 M5.out F4.out hE2.1.1 hE2.2.1.1.1 hE2.2.1.1.2.1 T3.out hqq.1 hqq.2 T2.out)
 clear hE2 t4 hqq R8 H8 S8
 go_upto_region 11 with(go_at_call 18;(with_reducible refine C6.out.mono ?_);rintro e w9 ⟨rfl,gh2,cap2,x1,x2,x3⟩;have U1:=Lib.hid x1;have U2:=Lib.hid x2;have U3:=Lib.hid x3;clear x1 x2 x3)
 have hE2:=E2.out
 have R9:RB w9 gb Z2:=by have:=U2.out;rw[z2_spl] at this;exact this
 have X9:=Lib.hid (U3.out.cell X8.out (by simp;omega))
 have Y9:=Lib.hid (U3.out.cell Y8.out (by simp;omega))
 have B9:=Lib.hid (B8.out.trans (U3.out.below B8.out.size (by simp;omega)))
 have C7:=Lib.hid (bytes_cell U1.out (Nat.le_refl _) R9 (by kernel_rfl) (by decide) (by decide) 64 (.int .u8 7) (by kernel_rfl))
 clear hE2 R9
 go_upto_region 12 with(go_at_call 13;(with_reducible refine C7.out.mono ?_);rintro e w10 ⟨q3,c3,rfl,b1,b2,b3⟩;have V1:=Lib.hid b1;have V3:=Lib.hid b3;clear b1 b2 b3)
 have v1:=V1.out
 have x10:=(Gx.of_below (S:=[]) V3.out).cell X9.out (by simp)
 have y10:=(Gx.of_below (S:=[]) V3.out).cell Y9.out (by simp)
 have B10:=Lib.hid (B9.out.trans (V3.out.mono B9.out.size))
 have C8:=Lib.hid (up_any (U1.out.below V3.out) (by decide))
 have C9:=Lib.hid (strokes_any (U1.out.below V3.out) (by decide))
 go_wp2_with (first|(go_at_call 9;(with_reducible refine C8.out.mono ?_);rintro e w1 ⟨rfl,rfl⟩)|(go_at_call 27;(with_reducible refine C9.out.mono ?_);rintro e w1 ⟨rfl,rfl⟩))
 go_ret
 exact⟨rfl,B10.out⟩
end Go.Proofs.Ytbgkdbjineennaa.Dk
