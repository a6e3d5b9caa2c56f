/- Joined texts. -/
import Derived.Test.YteblmphohhbgcaaQaMtC
set_option linter.unusedVariables false
namespace Go.Proofs.Yteblmphohhbgcaa.Mt
open Go.RowKit Go.Proofs.Yteblmphohhbgcaa.Gn Go.Proofs.Yteblmphohhbgcaa.Fd Go.Proofs.Yteblmphohhbgcaa.Wr Go.Deep
theorem nxt_rest{F:Tv→Bool}{k:Int}{wh:Bool}{ks:List Tv}(hz:∀t∈ks,sz t≤900000):∀t∈(nxt F k wh ks).2.2,sz t≤900000:=by
 rcases nxt_is F k wh ks with⟨-, h1⟩|⟨t,ts,rfl,-, -, h1⟩
 ·rw[h1];exact fun u hu=>(List.not_mem_nil hu).elim
 ·rw[h1];exact fun u hu=>hz u (List.mem_cons_of_mem _ hu)
structure Ps (w:World) (g q:Nat) (wr wh:Bool) (ks:List Tv) (bb:Nat) (t:TypeId) (cs:Array Value):Prop where
 pr:Pr w g q wr wh ks
 bx:Bx w bb t cs
 sz:∀t∈ks,sz t≤900000
 nq:bb≠q
 ng:bb≠g
theorem ps_gt{w w':World}{g q:Nat}{wr wh wh':Bool}{ks us:List Tv}{bb o:Nat}{t:TypeId}{cs:Array Value}{v:Value}(h:Ps w g q wr wh ks bb t cs)(hs:∀t∈us,Wr.sz t≤900000)(hg:Gt w q bb o t cs v wh' us w'):Ps w' g q wr wh' us bb t (cs.setIfInBounds o v) :=
 ⟨⟨hg.tc.bl h.pr.bl (fun e=>by
  rcases e with e|e
  ·exact h.pr.ne e
  ·exact h.ng e.symm),hg.fl,h.pr.ne⟩,hg.bx,hs,h.nq,h.ng⟩
abbrev Tq(q bb:Nat)(w w':World):Prop:=Tc (fun k=>k=q∨k=bb) w w'
theorem number_p{w:World}{g q:Nat}{wr wh:Bool}{ks:List Tv}{bb o:Nat}{t:TypeId}{cs:Array Value}{v0:Value}(h:Ps w g q wr wh ks bb t cs)(ho:cs[o]?=some v0)(x y:Int):Calls Try.prog 51 #[.pointer (some ⟨g,0,none⟩),.pointer (some ⟨bb,o,none⟩),.int .i64 x,.int .i64 y] w fun e w'=>e=.returned (.tuple #[])∧Ps w' g q wr (nxt (FI x y) 1 wh ks).2.1 (nxt (FI x y) 1 wh ks).2.2 bb t (cs.setIfInBounds o (.int .i64 (nm (nxt (FI x y) 1 wh ks).1:Int)))∧Tq q bb w w':=by
 refine(number_r h.pr.bl h.pr.fl (fun t ht=>Nat.le_trans (h.sz t ht) (by decide)) h.bx ho h.nq x y).mono ?_
 rintro e w' ⟨rfl,hg⟩
 exact⟨rfl,ps_gt h (nxt_rest h.sz) hg,hg.tc⟩
theorem bytes_p{w:World}{g q:Nat}{wr wh:Bool}{ks:List Tv}{bb o:Nat}{t:TypeId}{cs:Array Value}{v0:Value}(h:Ps w g q wr wh ks bb t cs)(ho:cs[o]?=some v0)(x y:Int):Calls Try.prog 52 #[.pointer (some ⟨g,0,none⟩),.pointer (some ⟨bb,o,none⟩),.int .i64 x,.int .i64 y] w fun e w'=>e=.returned (.tuple #[])∧∃A c,Ps w' g q wr (nxt (FB x y) 2 wh ks).2.1 (nxt (FB x y) 2 wh ks).2.2 bb t (cs.setIfInBounds o (.slice A (rw_ (nxt (FB x y) 2 wh ks).1).2.1 c))∧Pc w' (A,(rw_ (nxt (FB x y) 2 wh ks).1).2.1,c,(rw_ (nxt (FB x y) 2 wh ks).1).2.2.2)∧Tq q bb w w':=by
 refine(bytes_r h.pr.bl h.pr.fl (fun t ht=>Nat.le_trans (h.sz t ht) (by decide)) h.bx ho h.nq x y).mono ?_
 rintro e w' ⟨rfl,A,c,hg,hp⟩
 exact⟨rfl,A,c,ps_gt h (nxt_rest h.sz) hg,hp,hg.tc⟩
set_option maxHeartbeats 4000000 in
theorem version_p{w:World}{g q:Nat}{wr wh:Bool}{ks:List Tv}{bb o:Nat}{t:TypeId}{cs:Array Value}{v0:Value}(h:Ps w g q wr wh ks bb t cs)(ho:cs[o]?=some v0):Calls Try.prog 67 #[.pointer (some ⟨g,0,none⟩),.pointer (some ⟨bb,o,none⟩)] w fun e w'=>e=.returned (.tuple #[])∧Ps w' g q wr (nxt (FI 1 4611686018427387904) 1 wh ks).2.1 (nxt (FI 1 4611686018427387904) 1 wh ks).2.2 bb t (cs.setIfInBounds o (.int .i64 (nm (nxt (FI 1 4611686018427387904) 1 wh ks).1:Int)))∧Tq q bb w w':=by
 have CN:=Lib.hid (number_p h ho 1 4611686018427387904)
 obtain⟨X,hX⟩:∃X,nxt (FI 1 4611686018427387904) 1 wh ks=X:=⟨_,rfl⟩
 rw[hX] at CN ⊢
 clear hX h ho
 go_enter Try.func67,Try.ntmps67
 go_wp2_with (go_at_call 51;(refine CN.out.mono ?_);rintro e w1 ⟨rfl,hp⟩;have P1:=Lib.hid hp;clear hp)
 first|go_end0|refine bodyPost_ret (results_none rfl _ _ _) rfl ?_
 exact⟨rfl,P1.out⟩
theorem set_at{cs:Array Value}{o p:Nat}{v v0:Value}(hp:cs[p]?=some v0):∃u,(cs.setIfInBounds o v)[p]?=some u:=by
 have h:=(Array.getElem?_eq_some_iff.1 hp).1
 exact⟨_,Array.getElem?_eq_getElem (by rw[Array.size_setIfInBounds];exact h)⟩
set_option maxHeartbeats 4000000 in
theorem head_p{w:World}{g q:Nat}{wr wh:Bool}{ks:List Tv}{bb o p:Nat}{t:TypeId}{cs:Array Value}{v0 v1:Value}(h:Ps w g q wr wh ks bb t cs)(ho:cs[o]?=some v0)(hp:cs[p]?=some v1){X Y:Tv × Bool × List Tv}(hX:nxt (FI 1 4611686018427387904) 1 wh ks=X)(hY:nxt (FI 0 4611686018427387904) 1 X.2.1 X.2.2=Y):Calls Try.prog 44 #[.pointer (some ⟨g,0,none⟩),.pointer (some ⟨bb,o,none⟩),.pointer (some ⟨bb,p,none⟩)] w fun e w'=>e=.returned (.tuple #[])∧Ps w' g q wr Y.2.1 Y.2.2 bb t ((cs.setIfInBounds o (.int .i64 (nm X.1:Int))).setIfInBounds p (.int .i64 (nm Y.1:Int)))∧Tq q bb w w':=by
 have CV:=Lib.hid (version_p h ho)
 rw[hX] at CV
 have HP:=Lib.hid (set_at (o:=o) (v:=.int .i64 (nm X.1:Int)) hp)
 clear hX h ho hp
 go_enter Try.func44,Try.ntmps44
 go_wp2_with (first
  |(go_at_call 67;(refine CV.out.mono ?_);rintro e w1 ⟨rfl,hp,ht⟩;have P1:=Lib.hid hp;have T1:=Lib.hid ht;obtain⟨u,hu⟩:=HP.out;have CN:=Lib.hid (number_p hp hu 0 4611686018427387904);rw[hY] at CN;clear hp ht hu)
  |(go_at_call 51;(refine CN.out.mono ?_);rintro e w2 ⟨rfl,hp,ht⟩;have P2:=Lib.hid hp;have T2:=Lib.hid ht;clear hp ht))
 first|go_end0|refine bodyPost_ret (results_none rfl _ _ _) rfl ?_
 exact⟨rfl,P2.out,T1.out.trans T2.out⟩
end Go.Proofs.Yteblmphohhbgcaa.Mt
namespace Go.Proofs.Yteblmphohhbgcaa.Mt
open Go.RowKit Go.Proofs.Yteblmphohhbgcaa.Gn Go.Proofs.Yteblmphohhbgcaa.Fd Go.Proofs.Yteblmphohhbgcaa.Wr Go.Deep
abbrev rc(cs:Array Value)(X Y Z:Tv × Bool × List Tv)(A:Option Addr)(c:Nat):Array Value:=(((cs.setIfInBounds 2 (.int .i64 (nm X.1:Int))).setIfInBounds 3 (.int .i64 (nm Y.1:Int))).setIfInBounds 4 (.slice A (rw_ Z.1).2.1 c))
theorem sz1{cs:Array Value}{o n:Nat}{v:Value}{m:Nat}(h:m≤cs.size)(hn:n < m):n < (cs.setIfInBounds o v).size:=by rw[Array.size_setIfInBounds];omega
theorem sz2{cs:Array Value}{o p n:Nat}{v u:Value}{m:Nat}(h:m≤cs.size)(hn:n < m):n < ((cs.setIfInBounds o v).setIfInBounds p u).size:=by rw[Array.size_setIfInBounds,Array.size_setIfInBounds];omega
set_option maxHeartbeats 4000000 in
theorem ref_p{w:World}{g q:Nat}{wr wh:Bool}{ks:List Tv}{bb:Nat}{t:TypeId}{cs:Array Value}(h:Ps w g q wr wh ks bb t cs)(hs:5≤cs.size){X Y Z:Tv × Bool × List Tv}(hX:nxt (FI 1 4611686018427387904) 1 wh ks=X)(hY:nxt (FI 0 4611686018427387904) 1 X.2.1 X.2.2=Y)(hZ:nxt (FB 32 32) 2 Y.2.1 Y.2.2=Z):Calls Try.prog 64 #[.pointer (some ⟨g,0,none⟩),.pointer (some ⟨bb,2,none⟩)] w fun e w'=>e=.returned (.tuple #[])∧∃A c,Ps w' g q wr Z.2.1 Z.2.2 bb t (rc cs X Y Z A c)∧Pc w' (A,(rw_ Z.1).2.1,c,(rw_ Z.1).2.2.2)∧Tq q bb w w':=by
 have CV:=Lib.hid (version_p h (Array.getElem?_eq_getElem (show 2 < cs.size by omega)))
 rw[hX] at CV
 have HS:=Lib.hid hs
 clear hX h hs
 go_enter Try.func64,Try.ntmps64
 go_wp2_with (first
  |(go_at_call 67;(refine CV.out.mono ?_);rintro e w1 ⟨rfl,hp,ht⟩;have P1:=Lib.hid hp;have T1:=Lib.hid ht;have CN:=Lib.hid (number_p hp (Array.getElem?_eq_getElem (show 3 < (cs.setIfInBounds 2 (.int .i64 (nm X.1:Int))).size from sz1 HS.out (by decide))) 0 4611686018427387904);rw[hY] at CN;clear hp ht)
  |(go_at_call 51;(refine CN.out.mono ?_);rintro e w2 ⟨rfl,hp,ht⟩;have P2:=Lib.hid hp;have T2:=Lib.hid ht;have CB:=Lib.hid (bytes_p hp (Array.getElem?_eq_getElem (show 4 < ((cs.setIfInBounds 2 (.int .i64 (nm X.1:Int))).setIfInBounds 3 (.int .i64 (nm Y.1:Int))).size from sz2 HS.out (by decide))) 32 32);rw[hZ] at CB;clear hp ht)
  |(go_at_call 52;(refine CB.out.mono ?_);rintro e w3 ⟨rfl,A,c,hp,hc,ht⟩;have P3:=Lib.hid hp;have C3:=Lib.hid hc;have T3:=Lib.hid ht;clear hp hc ht))
 first|go_end0|refine bodyPost_ret (results_none rfl _ _ _) rfl ?_
 exact⟨rfl,A,c,P3.out,C3.out,(T1.out.trans T2.out).trans T3.out⟩
end Go.Proofs.Yteblmphohhbgcaa.Mt
namespace Go.Proofs.Yteblmphohhbgcaa.Mt
open Go.RowKit Go.Proofs.Yteblmphohhbgcaa.Gn Go.Proofs.Yteblmphohhbgcaa.Fd Go.Proofs.Yteblmphohhbgcaa.Wr Go.Deep
theorem pn_two{w:World}{a b:Nat}(h:Pn w a)(k:Pn w b):∀j,(j=a∨j=b)→Pn w j:=fun j e=>by
 rcases e with e|e
 ·exact e▸h
 ·exact e▸k
theorem tc_join{S T:Nat→Prop}{a b c:World}(h:Tc S a b)(k:Tc T b c)(hT:∀j,T j→S j∨a.heap.size≤j):Tc S a c :=
 ⟨k.os.trans h.os,k.tape.trans h.tape,k.output.trans h.output,Nat.le_trans h.size k.size,fun i hi hn=>(k.block i (Nat.lt_of_lt_of_le hi h.size) (fun e=>by
  rcases hT i e with e|e
  ·exact hn e
  ·omega)).trans (h.block i hi hn)⟩
theorem mem_szs:∀ {ks:List Tv} {n:Nat},szs ks≤n→∀t∈ks,sz t≤n
 | [],n,h,t,ht=>(List.not_mem_nil ht).elim
 |x :: xs,n,h,t,ht=>by
  rw[szs] at h
  rcases List.mem_cons.1 ht with rfl|ht
  ·omega
  ·exact mem_szs (n:=n) (by omega) t ht
set_option maxHeartbeats 4000000 in
theorem open_p{w:World}{g q:Nat}{wr wh:Bool}{ks:List Tv}{bb:Nat}{t:TypeId}{cs:Array Value}(h:Ps w g q wr wh ks bb t cs){X:Tv × Bool × List Tv}(hX:nxt (FL 0 9223372036854775807) 3 wh ks=X):Calls Try.prog 68 #[.pointer (some ⟨g,0,none⟩)] w fun e w'=>∃g2 q2 us,e=.returned (.tuple #[.pointer (some ⟨g2,0,none⟩),.int .i64 (us.length:Int)])∧nds us=nds (kids X.1)∧Ps w' g2 q2 false true us bb t cs∧Pr w' g q wr X.2.1 X.2.2∧w.heap.size≤g2∧w.heap.size≤q2∧w.grownBy w' (some q):=by
 refine(open_r h.pr h.sz).mono ?_
 rintro e w' ⟨g2,q2,us,rfl,hn,h2,h1,hg,hq,hw⟩
 have hb:=h.bx.bl.lt
 have hk:=nxt_kids (F:=FL 0 9223372036854775807) (k:=3) (wh:=wh) h.pr.fl.ok h.sz
 rw[hX] at hn h1 hk
 exact⟨g2,q2,us,rfl,hn,⟨h2,h.bx.tc (Tc.grown hw) (fun e=>h.nq e),mem_szs (us_sz h2.fl.ok hk.1 hn hk.2),by omega,by omega⟩,h1,hg,hq,hw⟩
set_option maxHeartbeats 4000000 in
theorem inner_p{w:World}{g q:Nat}{wr wh:Bool}{ks:List Tv}{bb:Nat}{t:TypeId}{cs:Array Value}(h:Ps w g q wr wh ks bb t cs)(hs:5≤cs.size){L:Tv × Bool × List Tv}(hL:nxt (FL 0 9223372036854775807) 3 wh ks=L):Calls Try.prog 63 #[.pointer (some ⟨g,0,none⟩),.pointer (some ⟨bb,2,none⟩),.func (.func 64) #[] #[]] w fun e w'=>e=.returned (.tuple #[])∧∃us X Y Z A c,(nds us=nds (kids L.1)∧∃u,∀t∈us,Ok u t)∧nxt (FI 1 4611686018427387904) 1 true us=X∧nxt (FI 0 4611686018427387904) 1 X.2.1 X.2.2=Y∧nxt (FB 32 32) 2 Y.2.1 Y.2.2=Z∧Ps w' g q (wr || !(Z.2.1 && decide (Z.2.2.length=0))) L.2.1 L.2.2 bb t (rc cs X Y Z A c)∧Pc w' (A,(rw_ Z.1).2.1,c,(rw_ Z.1).2.2.2)∧Tc (fun k=>k=q∨k=bb∨k=g) w w':=by
 have CO:=Lib.hid (open_p h hL)
 have H:=Lib.hid h
 have HS:=Lib.hid hs
 have HL:=Lib.hid (show ∀t∈L.2.2,sz t≤900000 from by rw[←hL];exact nxt_rest h.sz)
 clear h hs hL
 go_enter Try.func63,Try.ntmps63
 go_wp2_with (first
  |(go_at_call 68;(refine CO.out.mono ?_);rintro e w1 ⟨g2,q2,us,rfl,hn,hp,hr,hg,hq,hw⟩;obtain⟨X,hX⟩:∃X,nxt (FI 1 4611686018427387904) 1 true us=X:=⟨_,rfl⟩;obtain⟨Y,hY⟩:∃Y,nxt (FI 0 4611686018427387904) 1 X.2.1 X.2.2=Y:=⟨_,rfl⟩;obtain⟨Z,hZ⟩:∃Z,nxt (FB 32 32) 2 Y.2.1 Y.2.2=Z:=⟨_,rfl⟩;have CF:=Lib.hid (ref_p hp HS.out hX hY hZ);have N1:=Lib.hid (And.intro hn (And.intro hX (And.intro hY hZ)));have P1:=Lib.hid hp;have R1:=Lib.hid hr;have Q1:=Lib.hid (And.intro hg (And.intro hq hw));clear hn hp hr hg hq hw hX hY hZ)
  |(go_at_call 64;(refine CF.out.mono ?_);rintro e w2 ⟨rfl,A,c,hp,hc,ht⟩;have P2:=Lib.hid hp;have C2:=Lib.hid hc;have T2:=Lib.hid ht;have R2:=Lib.hid (R1.out.touch ht (pn_two (fl_pn P1.out.pr.fl) P1.out.bx.pnk) (fun e=>by(have h1:=H.out.pr.bl.lt;have h2:=Q1.out.2.1;have h3:=H.out.ng;rcases e with e|e <;> omega)) (fun e=>by(have h1:=H.out.pr.fl.row;have h2:=Q1.out.2.1;have h3:=H.out.nq;obtain⟨_,_,h4,-⟩:=h1;have h5:=h4.lt;rcases e with e|e <;> omega)));have CE:=Lib.hid (end_r R2.out hp.pr);clear hp hc ht)
  |(go_at_call 70;(refine CE.out.mono ?_);rintro e w3 ⟨rfl,hr,hw⟩;have R3:=Lib.hid hr;have G3:=Lib.hid hw;clear hr hw))
 first|go_end0|refine bodyPost_ret (results_none rfl _ _ _) rfl ?_
 have t3:=Tc.grown G3.out
 obtain⟨n1,n2,n3,n4⟩:=N1.out
 obtain⟨q1,q2',q3⟩:=Q1.out
 refine⟨rfl,us,X,Y,Z,A,c,⟨n1,w1,P1.out.pr.fl.ok⟩,n2,n3,n4,⟨R3.out,P2.out.bx.tc t3 (fun e=>H.out.ng e),HL.out,H.out.nq,H.out.ng⟩,t3.pc (fun k e=>e▸R2.out.png) C2.out,?_⟩
 exact tc_join (tc_join ((Tc.grown q3).mono (fun k _ e=>.inl e)) T2.out (fun k e=>by
  rcases e with e|e
  ·exact .inr (e▸q2')
  ·exact .inl (.inr (.inl e)))) t3 (fun k e=>.inl (.inr (.inr e)))
end Go.Proofs.Yteblmphohhbgcaa.Mt
