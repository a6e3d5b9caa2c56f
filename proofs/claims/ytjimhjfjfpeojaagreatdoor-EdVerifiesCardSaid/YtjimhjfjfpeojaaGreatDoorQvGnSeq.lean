/- Joined texts. -/
import Derived.Test.YtjimhjfjfpeojaaGreatDoorQvEdF
import Derived.IntWalk
set_option maxRecDepth 100000
set_option maxHeartbeats 8000000
set_option linter.unusedVariables false
namespace Go.Proofs.YtjimhjfjfpeojaaGreatDoor.Gn
open Go.RowKit Go.Deep
theorem Z8a:∀(vs:List Value) (k off:Nat) (cs:Array Value),(vs.zipIdx k).foldl (fun cs (p:Value × Nat)=>cs.setIfInBounds (off+p.2) p.1) cs=spl cs (off+k) vs:=by
 intro vs
 induction vs with
 |nil=>intro k off cs;rfl
 |cons v r ih =>
  intro k off cs
  rw[List.zipIdx_cons,List.foldl_cons,ih,spl]
  rfl
theorem Zc6(vs:Array Value)(off:Nat)(cs:Array Value):vs.zipIdx.foldl (fun cs (p:Value × Nat)=>cs.setIfInBounds (off+p.2) p.1) cs=spl cs off vs.toList:=by
 rw[←Array.foldl_toList,Array.toList_zipIdx]
 exact Z8a vs.toList 0 off cs
theorem Zmp(Z x y:Array Value)(s:Nat)(hz:Z.size=2*s)(hx:x.size=s)(hy:y.size=s):spl (spl Z 0 x.toList) s y.toList=x ++ y:=by
 apply Array.ext_getElem?
 intro j
 rw[Z4x _ _ _ _ (by rw[Z4e];simp;omega),Z4x _ _ _ _ (by simp;omega)]
 simp only[Array.length_toList,hx,hy,Nat.zero_add,Nat.zero_le,true_and,Nat.sub_zero,Array.getElem?_toList]
 rw[Array.getElem?_append]
 by_cases h:j < s
 ·rw[if_neg (by omega),if_pos h,if_pos (by omega)]
 ·by_cases h2:j < s+s
  ·rw[if_pos ⟨by omega,h2⟩,if_neg (by omega),hx]
  ·rw[if_neg (by omega),if_neg (by omega),if_neg (by omega),Array.getElem?_eq_none (by omega),Array.getElem?_eq_none (by omega)]
theorem Z6j{P:Program}{o:Oper}{a:Act}(w:World)(t e:TypeId)(x y:Operand)(ho:o.op=.buildSlice t 2 #[(0,x),(1,y)])(vx vy:Array Value)(hx:a.eval x=.agg vx)(hy:a.eval y=.agg vy)
  (ht:P.underlying t=some (.slice e)) (i:TypeInfo) (hi:P.info? e=some i) (s:Nat) (hs:i.size=s) (z:Value) (hz:i.zero=some z) (h0:0 < s) (hm:2*s≤2 ^ 24) (h1:vx.size=s) (h2:vy.size=s) :
  (execOp a.eval o).run P w=.ok (.value (.slice (some ⟨w.heap.size,0,none⟩) 2 2)) (w.alloc (.cells (vx ++ vy) e)):=by
 subst hs
 have hne:¬2*i.size=0:=by omega
 have hgt:¬2*i.size > 2 ^ 24:=by omega
 have hf:Instr.fill (fun j=>some (j*i.size,i.size)) ((Array.range (2*i.size)).map (z.cells[· % z.cells.size]!)) [(0,.agg vx),(1,.agg vy)]=some (vx ++ vy):=by
  have e1:∀Z:Array Value,Z.size=2*i.size→Instr.fill (fun j=>some (j*i.size,i.size)) Z [(0,.agg vx),(1,.agg vy)]=some (vx ++ vy):=by
   intro Z hZ
   have q1:¬2*i.size < i.size:=by omega
   have q2:¬2*i.size < i.size+i.size:=by omega
   have f1:Array.foldl (fun(cs:Array Value) (x:Value × Nat)=>cs.setIfInBounds x.snd x.fst) Z vx.zipIdx 0 i.size=spl Z 0 vx.toList:=by
    have:=Zc6 vx 0 Z
    simpa[h1] using this
   have f2:∀Y:Array Value,Array.foldl (fun(cs:Array Value) (x:Value × Nat)=>cs.setIfInBounds (i.size+x.snd) x.fst) Y vy.zipIdx 0 i.size=spl Y i.size vy.toList:=by
    intro Y
    have:=Zc6 vy i.size Y
    simpa[h2] using this
   simp[Instr.fill,Value.cells,h1,h2,hZ,q1]
   rw[f1,f2]
   refine⟨by rw[Z4e];omega,Zmp _ _ _ _ hZ h1 h2⟩
  exact e1 _ (by simp)
 have hp:(#[(0,x),(1,y)]:Array (Nat × Operand)).map (fun p=>(p.1,a.eval p.2)) = #[(0,.agg vx),(1,.agg vy)]:=by simp[hx,hy]
 have hso:(sizeOf e).run P w=.ok i.size w:=by simp[sizeOf,typeInfo,hi]
 have hzv:(zeroValue e).run P w=.ok z w:=by simp[zeroValue,typeInfo,hi,hz]
 unfold execOp
 simp only[ho]
 change Sem.run P (do let r ←Instr.buildSlice t 2 ((#[(0,x),(1,y)]:Array (Nat × Operand)).map (fun p=>(p.1,a.eval p.2)));pure (Next.value r)) w=_
 rw[hp]
 simp only[Instr.buildSlice,Sem.run_bind,run_underlying ht,Result.andThen_ok,hso,Sem.run_ite,if_neg hgt,if_neg hne,hzv,Sem.run_pure,hf,newRow,run_newObj]
 rfl
section
variable {P:Program} {ops:Array Oper} {Q:Exit→Act→World→Prop} {rest:List Oper} {o:Oper} {a:Act} {w w':World}
theorem Z1o(w':World)(v:Value)(hgd:o.guard=none)(h:(execOp a.eval o).run P w=.ok (.value v) w')(hk:wpList P ops Q rest (a.put o.dst v) w'):wpList P ops Q (o :: rest) a w :=
 wpList_plain hgd fun K hK=>Z36 h (hK _ _ hk)
theorem Z00(v:Value)(hgd:o.guard=none)(h:(execOp a.eval o).run P w=.ok (.value v) w)(hk:wpList P ops Q rest (a.put o.dst v) w):wpList P ops Q (o :: rest) a w:=Z1o w v hgd h hk
theorem Z06(f:FuncId)(args:Array Value)(hgd:o.guard=none)(h:(execOp a.eval o).run P w=.ok (.enter f args) w)(hc:Calls P f args w fun e w''=>∃v,e=.returned v∧wpList P ops Q rest (a.put o.dst v) w''):wpList P ops Q (o :: rest) a w :=
 wpList_plain hgd fun K hK=>Z5m h (hc.mono (by rintro e w'' ⟨v,he,hk⟩;exact⟨v,he,hK _ _ hk⟩))
theorem Z0p(g k n:Nat)(t:TypeId)(cs:Array Value)(hb:Bl w g t cs)(vs:Array Value)(ty:TypeId)(x:Operand){d:TypeDesc}(hgd:o.guard=none)(ho:o.op=.load ty x)(hx:a.eval x=.pointer (some ⟨g,k,none⟩))(hle:Nat.ble (k+n) cs.size=true)(hvs:cs.extract k (k+n)=vs)
  (hu:P.underlying ty=some d) (hd:d.isRow=true) (hi:(P.info? ty).map (·.size)=some n) (hk:wpList P ops Q rest (a.put o.dst (.agg vs)) w):wpList P ops Q (o :: rest) a w :=
 Z00 (.agg vs) hgd (Z45 ty x ho g k n hx t cs hb d (Nat.le_of_ble_eq_true hle) vs hvs hu hd hi) hk
theorem Z1s(ad:Addr)(v:Value)(hc:w.cell? ad=some v)(ty:TypeId)(x:Operand){d:TypeDesc}(hgd:o.guard=none)(ho:o.op=.load ty x)(hx:a.eval x=.pointer (some ad))(hu:P.underlying ty=some d)(hd:d.isRow=false)(hk:wpList P ops Q rest (a.put o.dst v) w):wpList P ops Q (o :: rest) a w :=
 Z00 v hgd (Z24 ty x ho ad hx v hc d hu hd) hk
theorem Z0m(g:Nat)(t:TypeId)(cs vs:Array Value)(hb:Bl w g t cs)(ty:TypeId)(x y:Operand)(hgd:o.guard=none)(ho:o.op=.store ty x y)(hx:a.eval x=.pointer (some ⟨g,0,none⟩))(hy:a.eval y=.agg vs)(hz:cs.size=vs.size)(hi:(P.info? ty).map (·.size)=some vs.size)(h1:∀v∈vs.toList,v.oneCell'=true)
  (hk:∀w',Bl w' g t vs→w.grownBy w' (some g)→wpList P ops Q rest (a.put o.dst undef) w'):wpList P ops Q (o :: rest) a w:=by
 refine Z3a hgd ty x y ho g 0 vs hx hy t cs hb (by omega) hi h1 fun w' h2 h3=>?_
 rw[Z1g _ _ (by simpa using hz)] at h2
 exact hk w' (by simpa using h2) h3
theorem Z03(h:Q .normal a w):wpList P ops Q [] a w:=h
end
end Go.Proofs.YtjimhjfjfpeojaaGreatDoor.Gn
namespace Go.Proofs.YtjimhjfjfpeojaaGreatDoor.Ed
open Go.RowKit Go.Proofs.YtjimhjfjfpeojaaGreatDoor.Gn Go.Proofs.YtjimhjfjfpeojaaGreatDoor.Fd Go.Deep
theorem Zqb(w:World)(a n:Nat)(b:Bool)(hb:decide (n < a)=b):(binOp .gtr 3 (.int .i64 (a:Int)) (.int .i64 (n:Int))).run Tryz.prog w=.ok (.bool b) w:=by
 subst hb
 go_simp
def Zmq(g:G)(w:World)(e:Ending)(w':World):Prop:=∃r:KP,e=.returned (.tuple #[.agg r.v,.int .i64 0])∧Hp r g∧Below w.heap.size w w'
def NoP(k:Int)(w:World)(e:Ending)(w':World):Prop:=e=.returned (.tuple #[.agg z20,.int .i64 k])∧Below w.heap.size w w'
theorem Z5r:∀v∈z20.toList,v.oneCell'=true:=KP.ones kz4
theorem Zin(s:Value)(f:Nat→KP)(t:Value)(h:Nat→KP):Z4b s f t h=tarr s f ++ tarr t h:=by
 unfold Z4b tarr
 simp
theorem Zt4:∃i z,Tryz.prog.info? 87=some i∧i.zero=some z∧i.size=321:=by
 have h:=Zfn
 cases hq:Tryz.prog.info? 87 with
 |none=>rw[hq] at h;cases h
 |some i =>
  rw[hq] at h
  have hz:(Tryz.prog.info? 87).map (·.zero.isSome)=some true:=by kernel_rfl
  rw[hq] at hz
  obtain⟨z,hz⟩:=Option.isSome_iff_exists.1 (by simpa using hz)
  exact⟨i,z,rfl,hz,by simpa using h⟩
theorem Mul_any(A:Option Addr)(n c:Nat)(l:List Nat)(p:KP)(w:World)(g:G)(tab:TabE w)(hn:n≤32)(hl:∀x∈l,x < 256)(hs:Sl w A n (bl l))(hp:Hp p g):Calls Tryz.prog 27 #[.slice A n c,.agg p.v] w (Zmq (ti (le l) g) w):=by
 have TB:=Lib.hid tab
 have HS:=Lib.hid hs
 have HPP:=Lib.hid hp
 have HL:=Lib.hid hl
 clear tab hs hp hl
 go_enter Tryz.func27,Tryz.ntmps27
 go_upto_region 1 with(fail)
 refine Z50 _ _ _ _ _ ?_
 intro W0 B0 B1 D0 hs0
 have HN:=Lib.hid hn
 refine wp_region_lit ?_
 refine Z00 (.slice A n c) rfl (by kernel_rfl) ?_
 refine Z00 (.int .i64 (n:Int)) rfl (by kernel_rfl) ?_
 refine Z00 (.bool false) rfl (Z0a .gtr 3 (.tmp 7) (.const (.int .i64 32)) _ rfl (.int .i64 (n:Int)) (.int .i64 32) (.bool false) (by kernel_rfl) (by kernel_rfl) (by kernel_rfl) (Zqb _ n 32 false (by simp;have:=HN.out;omega))) ?_
 refine Z03 ?_
 simp only[Act.put,List.setIfInBounds_toArray,List.set_cons_zero,List.set_cons_succ]
 go_upto_region 3 with(fail)
 refine wp_region_lit ?_
 refine Z00 (.slice A n c) rfl (by kernel_rfl) ?_
 refine Z0p w.heap.size 0 20 28 p.v B0 p.v 28 (.tmp 3) rfl rfl (by kernel_rfl) (by kernel_rfl) (by kernel_rfl) Tryz.underlying28 rfl Z0e ?_
 refine Z06 67 #[.slice A n c,.agg p.v] rfl (by kernel_rfl) ((Z52 A n c p _ (TB.out.below D0)).mono ?_)
 rintro e W1 ⟨rfl,E1⟩
 refine⟨_,rfl,?_⟩
 have D1:=Z07 D0 (Nat.le_refl _) E1
 have B2:=B1.below' E1
 clear E1 B0 D0 B1
 refine Z1o (W1.alloc (.cells (tarr (.slice A n c) (tbl p)) 87)) (.slice (some ⟨W1.heap.size,0,none⟩) 1 1) rfl (by kernel_rfl) ?_
 have DA:=D1.alloc D1.size (.cells (tarr (.slice A n c) (tbl p)) 87)
 have BA:=B2.alloc (.cells (tarr (.slice A n c) (tbl p)) 87)
 have BN:=Bl.new_ W1 87 (tarr (.slice A n c) (tbl p))
 clear D1 B2
 refine Z06 66 #[.slice (some ⟨W1.heap.size,0,none⟩) 1 1] rfl (by kernel_rfl) ((Zil A n c l (tbl p) g _ _ (TB.out.below DA) BN (by have:=HN.out;omega) HL.out (HS.out.below DA) (Z89 HPP.out)).mono ?_)
 rintro e W5 ⟨r,rfl,hr,E5⟩
 refine⟨_,rfl,?_⟩
 have D5:=Z07 DA (Nat.le_refl _) E5
 have B5:=BA.below' E5
 have HR:=Lib.hid hr
 clear E5 DA BA BN hr
 refine Z0m (w.heap.size+1) 28 _ r.v B5 28 (.tmp 4) (.tmp 14) rfl rfl (by kernel_rfl) (by kernel_rfl) (by kernel_rfl) Z0e (KP.ones _) fun W6 C6 G6=>?_
 refine Z00 (.int .i64 0) rfl (by kernel_rfl) ?_
 refine Z03 ?_
 simp only[Act.put,List.setIfInBounds_toArray,List.set_cons_zero,List.set_cons_succ]
 have HF:=Lib.hid C6
 have hz:=Z01 (g:=w.heap.size+1) D5 G6 (by omega)
 go_wp2_with fail
 refine bodyPost_ret (v:=.tuple #[.agg r.v,.int .i64 0]) (Gn.results_cell_tmp 4 28 5 (.int .i64 0) (w.heap.size+1) 28 r.v Tryz.results27 (by kernel_rfl) (by kernel_rfl) HF.out Tryz.underlying28 rfl Z0e) rfl ⟨r,rfl,HR.out,hz⟩
theorem Zmr(A:Option Addr)(n c:Nat)(l:List Nat)(p:KP)(B:Option Addr)(k d:Nat)(j:List Nat)(w:World)(g b:G)(tab:TabE w)(hn:n≤32)(hk:k≤32)(hl:∀x∈l,x < 256)(hj:∀x∈j,x < 256)(hs:Sl w A n (bl l))(ht:Sl w B k (bl j))(hp:Hp p g)(q:KP)(BC:∀w,TabE w→Calls Tryz.prog 41 #[] w fun e w'=>e=.returned (.agg q.v)∧Below w.heap.size w w')(hb:Hp q b):Calls Tryz.prog 28 #[.slice A n c,.agg p.v,.slice B k d] w (Zmq (ga (ti (le l) g) (ti (le j) b)) w):=by
 have TB:=Lib.hid tab
 have HS:=Lib.hid hs
 have HPP:=Lib.hid hp
 have HL:=Lib.hid hl
 have HT:=Lib.hid ht
 have HJ:=Lib.hid hj
 have HBB:=Lib.hid hb
 have HK:=Lib.hid hk
 replace BC:=Lib.hid BC
 clear ht hj hb hk
 clear tab hs hp hl
 go_enter Tryz.func28,Tryz.ntmps28
 go_upto_region 1 with(fail)
 refine Z50 _ _ _ _ _ ?_
 intro W0 B0 B1 D0 hs0
 have HN:=Lib.hid hn
 refine wp_region_lit ?_
 refine Z00 (.slice A n c) rfl (by kernel_rfl) ?_
 refine Z00 (.int .i64 (n:Int)) rfl (by kernel_rfl) ?_
 refine Z00 (.slice B k d) rfl (by kernel_rfl) ?_
 refine Z00 (.int .i64 (k:Int)) rfl (by kernel_rfl) ?_
 refine Z00 (.int .i64 ((max n k:Nat):Int)) rfl (Z3v (.tmp 9) (.tmp 11) 3 rfl n k (by kernel_rfl) (by kernel_rfl)) ?_
 refine Z00 (.bool false) rfl (Z0a .gtr 3 (.tmp 12) (.const (.int .i64 32)) _ rfl (.int .i64 ((max n k:Nat):Int)) (.int .i64 32) (.bool false) (by kernel_rfl) (by kernel_rfl) (by kernel_rfl) (Zqb _ (max n k) 32 false (by simp;have:=HN.out;have:=HK.out;omega))) ?_
 refine Z03 ?_
 simp only[Act.put,List.setIfInBounds_toArray,List.set_cons_zero,List.set_cons_succ]
 go_upto_region 3 with(fail)
 refine wp_region_lit ?_
 refine Z00 (.slice A n c) rfl (by kernel_rfl) ?_
 refine Z0p w.heap.size 0 20 28 p.v B0 p.v 28 (.tmp 4) rfl rfl (by kernel_rfl) (by kernel_rfl) (by kernel_rfl) Tryz.underlying28 rfl Z0e ?_
 refine Z06 67 #[.slice A n c,.agg p.v] rfl (by kernel_rfl) ((Z52 A n c p _ (TB.out.below D0)).mono ?_)
 rintro e W1 ⟨rfl,E1⟩
 refine⟨_,rfl,?_⟩
 have D1:=Z07 D0 (Nat.le_refl _) E1
 have B2:=B1.below' E1
 clear E1 B0 D0 B1
 refine Z00 (.slice B k d) rfl (by kernel_rfl) ?_
 refine Z06 41 #[] rfl (by kernel_rfl) ((BC.out _ (TB.out.below D1)).mono ?_)
 rintro e W2 ⟨rfl,E2⟩
 refine⟨_,rfl,?_⟩
 have D2:=Z07 D1 (Nat.le_refl _) E2
 have B3:=B2.below' E2
 clear E2 D1 B2
 refine Z06 67 #[.slice B k d,.agg q.v] rfl (by kernel_rfl) ((Z52 B k d q _ (TB.out.below D2)).mono ?_)
 rintro e W3 ⟨rfl,E3⟩
 refine⟨_,rfl,?_⟩
 have D3:=Z07 D2 (Nat.le_refl _) E3
 have B4:=B3.below' E3
 clear E3 D2 B3
 obtain⟨ti0,ti1,hti0,hti1,hti2⟩:=Zt4
 refine Z1o (W3.alloc (.cells (Z4b (.slice A n c) (tbl p) (.slice B k d) (tbl q)) 87)) (.slice (some ⟨W3.heap.size,0,none⟩) 2 2) rfl (by rw[Zin];exact Z6j _ 117 87 (.tmp 17) (.tmp 20) rfl (tarr (.slice A n c) (tbl p)) (tarr (.slice B k d) (tbl q)) (by kernel_rfl) (by kernel_rfl) Tryz.underlying117 ti0 hti0 321 hti2 ti1 hti1 (by decide) (by decide) (Z98 _ _) (Z98 _ _)) ?_
 have DA:=D3.alloc D3.size (.cells (Z4b (.slice A n c) (tbl p) (.slice B k d) (tbl q)) 87)
 have BA:=B4.alloc (.cells (Z4b (.slice A n c) (tbl p) (.slice B k d) (tbl q)) 87)
 have BN:=Bl.new_ W3 87 (Z4b (.slice A n c) (tbl p) (.slice B k d) (tbl q))
 clear D3 B4
 refine Z06 66 #[.slice (some ⟨W3.heap.size,0,none⟩) 2 2] rfl (by kernel_rfl) ((Zim A n c l (tbl p) g B k d j (tbl q) b _ _ (TB.out.below DA) BN (by have:=HN.out;omega) HL.out (HS.out.below DA) (Z89 HPP.out) (by have:=HK.out;omega) HJ.out (HT.out.below DA) (Z89 HBB.out)).mono ?_)
 rintro e W5 ⟨r,rfl,hr,E5⟩
 refine⟨_,rfl,?_⟩
 have D5:=Z07 DA (Nat.le_refl _) E5
 have B5:=BA.below' E5
 have HR:=Lib.hid hr
 clear E5 DA BA BN hr
 refine Z0m (w.heap.size+1) 28 _ r.v B5 28 (.tmp 6) (.tmp 22) rfl rfl (by kernel_rfl) (by kernel_rfl) (by kernel_rfl) Z0e (KP.ones _) fun W6 C6 G6=>?_
 refine Z00 (.int .i64 0) rfl (by kernel_rfl) ?_
 refine Z03 ?_
 simp only[Act.put,List.setIfInBounds_toArray,List.set_cons_zero,List.set_cons_succ]
 have HF:=Lib.hid C6
 have hz:=Z01 (g:=w.heap.size+1) D5 G6 (by omega)
 go_wp2_with fail
 refine bodyPost_ret (v:=.tuple #[.agg r.v,.int .i64 0]) (Gn.results_cell_tmp 6 28 7 (.int .i64 0) (w.heap.size+1) 28 r.v Tryz.results28 (by kernel_rfl) (by kernel_rfl) HF.out Tryz.underlying28 rfl Z0e) rfl ⟨r,rfl,HR.out,hz⟩
end Go.Proofs.YtjimhjfjfpeojaaGreatDoor.Ed
