/- Joined texts. -/
import Derived.Test.YtnnfpmebopgogaaDoorQrMkL
import Derived.Test.YtnnfpmebopgogaaDoorQrGnFreeIn
import Derived.Test.YtnnfpmebopgogaaDoorQrGnStep
set_option linter.unusedVariables false
namespace Go.Proofs.YtnnfpmebopgogaaDoor.Mk
open Go.RowKit Go.Proofs.YtnnfpmebopgogaaDoor.Gn Go.Proofs.YtnnfpmebopgogaaDoor.Fd Go.Deep
attribute [local go_sem] Oper.semAt_some
theorem info22:(Tryd.prog.info? 22).map (fun i=>(i.zero,i.size,i.bytes))=some (some (.slice none 0 0),1,24):=by kernel_rfl
theorem Pc.cap'{w:World}{A:Option Addr}{L c:Nat}{l:List Nat}(h:Pc w (A,L,c,l)):L≤c:=by
 have h1:L=l.length:=h.len
 have h2:l.length≤c:=h.cap
 omega
theorem Pc.some'{w:World}{A:Option Addr}{L c:Nat}{l:List Nat}(h:Pc w (A,L,c,l))(h0:0 < L):A.isSome:=by
 cases A with
 |none=>have:=h.nil rfl;have:=Pc.cap' h;have e:c=0:=h.nil rfl;omega
 |some a=>rfl
theorem boxed_below{n B:Nat}{W W':World}{t:TypeId}{v:Value}(h:Boxed W B t v)(hb:Below n W W')(hn:B < n):Boxed W' B t v:=(hb.block B hn).trans h
theorem chunk_stops{A:Option Addr}{L c q m:Nat}(hq:1≤q)(hq2:q≤1024)(hL:L≤131072)(hLc:L≤c)(hm:m=(L+q - 1) / q)(hA:0 < L→A.isSome)(Bs Bc:Nat)(w:World)(hs:Boxed w Bs 22 (.slice A L c))(hc:Boxed w Bc 3 (.int .i64 (q:Int)))(n:Nat)(hn:1≤n) :
  SeqStopsK Fence.wide n Tryd.prog 87 #[.pointer (some ⟨Bs,0,none⟩),.pointer (some ⟨Bc,0,none⟩)] (fun x:Fin m=>#[ckv (A.getD ⟨0,0,none⟩) L q x.1]) (Kb Bs Bc) (fun ys=>ys=List.finRange m) (fun pre=>pre <+: List.finRange m) m w:=by
 intro l J Jx W hW hJ _ hY h0
 have hs':=boxed_below hs hW (Array.getElem?_eq_some_iff.1 hs).1
 have hc':=boxed_below hc hW (Array.getElem?_eq_some_iff.1 hc).1
 rcases Nat.eq_zero_or_pos L with h|h
 ·subst h
  have:m=0:=by rw[hm,Nat.zero_add];exact Nat.div_eq_of_lt (by omega)
  subst this
  exact chunk0_in l Bs Bc A c q J Jx n hn W hs' h0
 ·obtain⟨ad,rfl⟩:=Option.isSome_iff_exists.1 (hA h)
  refine chunk1_in l Bs Bc ad L c q m hq hq2 hL hLc ?_ ?_ J Jx n hn (fun s X Y h1 h2=>hJ s X Y none h1 h2 (fun r e=>by cases e)) (fun pre x W1 h1 h2=>hY pre x W1 h1 h2) W hs' hc' h0
  ·intro i hi
   rw[hm] at hi
   have:=(Nat.lt_div_iff_mul_lt (by omega)).1 hi
   omega
  ·rw[hm]
   have:=Nat.lt_div_mul_add (a:=L+q - 1) (b:=q) (by omega)
   omega
def csl(g k m:Nat):Value:=.slice (some ⟨g,0,none⟩) k m
structure CJ (w W:World) (B g Bs Bc m k:Nat) (rows:List Rw) (x:List Nat) (L:Nat→Bool) (γ:Nat→Value) (W1:World):Prop where
 bel:Below w.heap.size w W1
 oth:KeepsOthers W W1
 kb:Kb Bs Bc W W1
 box0:L 5=false→Boxed W1 B 23 (csl g k m)
 box1:L 5=true→Boxed W1 B 23 (csl g (k+1) m)
 row0:L 4=false→W1.ownsRow w.heap.size 22 1 (csl g k m) k (rows.map rwv)
 row1:L 4=true→W1.ownsRow w.heap.size 22 1 (csl g (k+1) m) (k+1) (rows.map rwv ++ [γ 2])
 old:∀r∈rows,Cb W1 w.heap.size r
 new:L 2=true→∃r:Rw,γ 2=rwv r∧r.2.2.2=x∧Cb W1 w.heap.size r
 one:L 3=true→L 4=false→∃gb,γ 3=.slice (some ⟨gb,0,none⟩) 1 1∧Bl W1 gb 22 #[γ 2]
 o43:L 4=true→L 3=true
 o32:L 3=true→L 2=true
 o54:L 5=true→L 4=true
section
variable {w W:World} {B g Bs Bc m k:Nat} {rows:List Rw} {x:List Nat} {L:Nat→Bool} {γ:Nat→Value} {W1 W2:World}
theorem grown_of_below{X Y:World}(h:Below X.heap.size X Y):X.grownBy Y none:=⟨h.os,h.tape,h.output,h.size,fun k hk _=>h.block k hk⟩
theorem CJ.grow(h:CJ w W B g Bs Bc m k rows x L γ W1)(hBs:Bs < W.heap.size)(hBc:Bc < W.heap.size)(hg:W1.grownBy W2 none):CJ w W B g Bs Bc m k rows x L γ W2:=by
 have hs:=h.oth.size
 refine⟨h.bel.grown hg h.bel.size (fun k e=>by cases e),h.oth.trans (KeepsOthers.of_grownBy hg (fun j o e=>by cases e)),h.kb.trans ⟨hg.block _ (by omega) (by simp),hg.block _ (by omega) (by simp)⟩,
  fun e=>Boxed.kept (h.box0 e) hg (by simp),fun e=>Boxed.kept (h.box1 e) hg (by simp),fun e=>(h.row0 e).kept hg (.inr (by simp[csl,Value.ownBlock])),fun e=>(h.row1 e).kept hg (.inr (by simp[csl,Value.ownBlock])),
  fun r hr=>(h.old r hr).keep hg (fun j cs e=>by cases e),fun e=>?_,fun e e4=>?_,h.o43,h.o32,h.o54⟩
 ·obtain⟨r,h1,h2,h3⟩:=h.new e
  exact⟨r,h1,h2,h3.keep hg (fun j cs e=>by cases e)⟩
 ·obtain⟨gb,h1,h2⟩:=h.one e e4
  exact⟨gb,h1,(hg.block gb (Array.getElem?_eq_some_iff.1 h2).1 (by simp)).trans h2⟩
theorem CJ.mark(h:CJ w W B g Bs Bc m k rows x L γ W1)(i:Nat)(hi:i < 2)(v:Value):CJ w W B g Bs Bc m k rows x (fun j=>if j=i then true else L j) (upd γ i v) W1:=by
 have u2:upd γ i v 2=γ 2:=by unfold upd;rw[if_neg (by omega)]
 have u3:upd γ i v 3=γ 3:=by unfold upd;rw[if_neg (by omega)]
 have l2:(if 2=i then true else L 2)=L 2:=if_neg (by omega)
 have l3:(if 3=i then true else L 3)=L 3:=if_neg (by omega)
 have l4:(if 4=i then true else L 4)=L 4:=if_neg (by omega)
 have l5:(if 5=i then true else L 5)=L 5:=if_neg (by omega)
 exact⟨h.bel,h.oth,h.kb,by rw[l5];exact h.box0,by rw[l5];exact h.box1,by rw[l4];exact h.row0,by rw[l4,u2];exact h.row1,h.old,by rw[l2,u2];exact h.new,by rw[l3,l4,u2,u3];exact h.one,by rw[l4,l3];exact h.o43,by rw[l3,l2];exact h.o32,by rw[l5,l4];exact h.o54⟩
theorem CJ.call(h:CJ w W B g Bs Bc m k rows x L γ W1)(hL:L 2=false)(r:Rw)(hr:r.2.2.2=x)(hc:Cb W1 w.heap.size r):CJ w W B g Bs Bc m k rows x (fun j=>if j=2 then true else L j) (upd γ 2 (rwv r)) W1:=by
 have l3:L 3=false:=by
  cases e:L 3 with
  |false=>rfl
  |true=>rw[h.o32 e] at hL;cases hL
 have l4:L 4=false:=by
  cases e:L 4 with
  |false=>rfl
  |true=>rw[h.o43 e] at l3;cases l3
 have l5:L 5=false:=by
  cases e:L 5 with
  |false=>rfl
  |true=>rw[h.o54 e] at l4;cases l4
 refine⟨h.bel,h.oth,h.kb,fun _=>h.box0 l5,fun e=>?_,fun _=>h.row0 l4,fun e=>?_,h.old,fun _=>⟨r,by simp[upd],hr,hc⟩,fun e=>?_,fun e=>?_,fun e=>rfl,fun e=>?_⟩
 ·simp[l5] at e
 ·simp[l4] at e
 ·simp[l3] at e
 ·simp[l4] at e
 ·simp[l5] at e
theorem CJ.build(h:CJ w W B g Bs Bc m k rows x L γ W1)(hL3:L 3=false)(hL2:L 2=true)(hBs:Bs < W.heap.size)(hBc:Bc < W.heap.size) :
  CJ w W B g Bs Bc m k rows x (fun j=>if j=3 then true else L j) (upd γ 3 (.slice (some ⟨W1.heap.size,0,none⟩) 1 1)) (W1.alloc (.cells #[γ 2] 22)):=by
 have h':=h.grow hBs hBc (World.grownBy_alloc W1 (.cells #[γ 2] 22) none)
 have l4:L 4=false:=by
  cases e:L 4 with
  |false=>rfl
  |true=>rw[h.o43 e] at hL3;cases hL3
 have l5:L 5=false:=by
  cases e:L 5 with
  |false=>rfl
  |true=>rw[h.o54 e] at l4;cases l4
 refine⟨h'.bel,h'.oth,h'.kb,fun _=>h'.box0 l5,fun e=>?_,fun _=>h'.row0 l4,fun e=>?_,h'.old,fun _=>?_,fun _ _=>⟨W1.heap.size,by simp[upd],?_⟩,fun e=>rfl,fun e=>?_,fun e=>?_⟩
 ·simp[l5] at e
 ·simp[l4] at e
 ·have:=h'.new hL2
  simpa[upd] using this
 ·have:upd γ 3 (.slice (some ⟨W1.heap.size,0,none⟩) 1 1) 2=γ 2:=by unfold upd;rw[if_neg (by decide)]
  rw[this]
  exact Bl.new_ W1 _ _
 ·show(if 2=3 then true else L 2)=true
  rw[if_neg (by decide)];exact hL2
 ·simp[l5] at e
theorem CJ.append(h:CJ w W B g Bs Bc m k rows x L γ W1)(hL4:L 4=false)(hL3:L 3=true)(hgw:w.heap.size≤g)(hBg:B≠g)(hsg:Bs≠g)(hcg:Bc≠g)(hBs:Bs < W.heap.size)(hBc:Bc < W.heap.size)
  (hr:W2.ownsRow w.heap.size 22 1 (csl g (k+1) m) (k+1) (rows.map rwv ++ [γ 2])) (hg:W1.grownBy W2 (some g)) :
  CJ w W B g Bs Bc m k rows x (fun j=>if j=4 then true else L j) (upd γ 4 (csl g (k+1) m)) W2:=by
 have l5:L 5=false:=by
  cases e:L 5 with
  |false=>rfl
  |true=>rw[h.o54 e] at hL4;cases hL4
 have hs:=h.oth.size
 have u2:upd γ 4 (csl g (k+1) m) 2=γ 2:=by unfold upd;rw[if_neg (by decide)]
 have hty:∀j cs,some g=some j→W1.heap[j]?≠some (.cells cs 5 (0,0)):=by
  rintro j cs e hj
  cases e
  obtain⟨-, e|⟨g',cap,cur,e,-, hh,-⟩⟩:=h.row0 hL4
  ·cases e.1
  ·cases e;rw[hh] at hj;cases hj
 have hcell:∀(j:Nat) (o:Obj),some g=some j→W1.heap[j]?=some o→o.isCells=true:=by
  rintro j o e hj
  cases e
  obtain⟨-, e|⟨g',cap,cur,e,-, hh,-⟩⟩:=h.row0 hL4
  ·cases e.1
  ·cases e;rw[hh] at hj;cases hj;rfl
 refine⟨h.bel.grown hg h.bel.size (fun k e=>by cases e;exact hgw),h.oth.trans (KeepsOthers.of_grownBy hg hcell),h.kb.trans ⟨hg.block _ (by omega) (by simp[hsg]),hg.block _ (by omega) (by simp[hcg])⟩,
  fun _=>Boxed.kept (h.box0 l5) hg (by simp[hBg]),fun e=>?_,fun e=>?_,fun _=>by rw[u2];exact hr,fun r hr=>(h.old r hr).keep hg hty,fun e=>?_,fun _ e=>?_,fun _=>?_,?_,fun _=>rfl⟩
 ·simp[l5] at e
 ·simp at e
 ·obtain⟨r,h1,h2,h3⟩:=h.new (by simpa using e)
  exact⟨r,by rw[u2];exact h1,h2,h3.keep hg hty⟩
 ·simp at e
 ·show(if 3=4 then true else L 3)=true
  rw[if_neg (by decide)];exact hL3
 ·show(if 3=4 then true else L 3)=true→(if 2=4 then true else L 2)=true
  rw[if_neg (by decide),if_neg (by decide)];exact h.o32
theorem CJ.store(h:CJ w W B g Bs Bc m k rows x L γ W1)(hL5:L 5=false)(hL4:L 4=true)(hwB:w.heap.size≤B)(hBg:B≠g)(hsB:Bs≠B)(hcB:Bc≠B)(hBs:Bs < W.heap.size)(hBc:Bc < W.heap.size)(v:Value) :
  CJ w W B g Bs Bc m k rows x (fun j=>if j=5 then true else L j) (upd γ 5 v) (W1.setCell ⟨B,0,none⟩ (csl g (k+1) m)):=by
 have hg:=grownBy_setCell' W1 B (csl g (k+1) m)
 have hs:=h.oth.size
 have hb:=h.box0 hL5
 have u2:upd γ 5 v 2=γ 2:=by unfold upd;rw[if_neg (by decide)]
 have hty:∀j cs,some B=some j→W1.heap[j]?≠some (.cells cs 5 (0,0)):=by
  rintro j cs e hj
  cases e
  rw[show W1.heap[B]?=_ from hb] at hj;cases hj
 refine⟨h.bel.setCell (p:=⟨B,0,none⟩) hwB _,h.oth.trans (KeepsOthers.setCell _ _ _),h.kb.trans ⟨hg.block _ (by omega) (by simp[hsB]),hg.block _ (by omega) (by simp[hcB])⟩,
  fun e=>?_,fun _=>Boxed.set _ hb,fun e=>?_,fun _=>?_,fun r hr=>(h.old r hr).keep hg hty,fun e=>?_,fun _ e=>?_,fun _=>?_,?_,fun _=>?_⟩
 ·simp at e
 ·simp[hL4] at e
 ·rw[u2];exact(h.row1 hL4).kept hg (.inr (by simp[csl,Value.ownBlock];exact Ne.symm hBg))
 ·obtain⟨r,h1,h2,h3⟩:=h.new (by simpa using e)
  exact⟨r,by rw[u2];exact h1,h2,h3.keep hg hty⟩
 ·simp[hL4] at e
 ·show(if 3=5 then true else L 3)=true
  rw[if_neg (by decide)];exact h.o43 hL4
 ·show(if 3=5 then true else L 3)=true→(if 2=5 then true else L 2)=true
  rw[if_neg (by decide),if_neg (by decide)];exact h.o32
 ·show(if 4=5 then true else L 4)=true
  rw[if_neg (by decide)];exact hL4
end
def CT(g k m:Nat)(X:Value):Nat→Value→Prop
 |0,v=>v=csl g k m
 |1,v=>v=X
 |4,v=>v=csl g (k+1) m
 |_,_=>True
theorem b27(w:World)(A:Option Addr)(n c:Nat):Sem.run Tryd.prog (do let v ←Instr.buildSlice 23 1 #[(0,Value.slice A n c)];pure (Next.value v)) w=.ok (.value (.slice (some ⟨w.heap.size,0,none⟩) 1 1)) (w.alloc (.cells #[.slice A n c] 22)):=by kernel_rfl
theorem build27{op:Oper}{a:Act}{w:World}(x:Operand)(ho:op.op=.buildSlice 23 1 #[(0,x)])(A:Option Addr)(n c:Nat)(hx:a.eval x=.slice A n c) :
  (execOp a.eval op).run Tryd.prog w=.ok (.value (.slice (some ⟨w.heap.size,0,none⟩) 1 1)) (w.alloc (.cells #[.slice A n c] 22)):=by
 unfold execOp
 rw[ho]
 simp only[List.map_toArray,List.map_cons,List.map_nil,hx]
 exact b27 w A n c
theorem size27:(Tryd.prog.info? 23).map (·.size)=some 1:=by kernel_rfl
theorem off{b:Bool}(h:b=true→False):b=false:=by cases b;rfl;exact(h rfl).elim
set_option maxRecDepth 100000 in
set_option maxHeartbeats 4000000 in
theorem Cut_own{A:Option Addr}{L c:Nat}{l:List Nat}{w:World}(h:Pc w (A,L,c,l))(q:Nat)(h64:64≤q)(hq:q≤1024)(hL:L≤131072)(m:Nat)(hm:m=(L+q - 1) / q) :
  Calls Tryd.prog 43 #[.slice A L c,.int .i64 (q:Int)] w fun e w'=>∃rows:List Rw,e=.returned (.tuple #[.slice (some ⟨w.heap.size,0,none⟩) m m,.int .i64 0])∧w'.ownsRow w.heap.size 22 1 (.slice (some ⟨w.heap.size,0,none⟩) m m) m (rows.map rwv)∧rows.map (·.2.2.2)=(List.finRange m).map (fun i=>ck l q i.1)∧(∀r∈rows,Cb w' w.heap.size r)∧Below w.heap.size w w':=by
 obtain⟨i0,hi,hz0,hz1,hz2⟩:=info_parts info22
 have hm9:m≤131072:=by rw[hm];exact Nat.le_trans (Nat.div_le_div_left h64 (by decide)) (by omega)
 have CC:=(fun w=>Count_ok (L:Int) (q:Int) (by omega) (by omega) w)
 have em:((L:Int)+(q:Int) - 1) / (q:Int)=(m:Int):=by
  rw[hm,Int.natCast_ediv,show((L+q - 1:Nat):Int)=(L:Int)+(q:Int) - 1 by omega]
 rw[em] at CC
 have CC:=Lib.hid CC
 have CK:=Lib.hid (fun w=>Chunk_any A L c q (by omega) hq w)
 have hmk:∀w,(Instr.makeSlice 23 (.int .i64 0) (.int .i64 (m:Int))).run Tryd.prog w=.ok (.slice (some ⟨w.heap.size,0,none⟩) 0 m) (w.alloc (.cells (madeCells #[.slice none 0 0] m) 22)):=fun w=>by
  have:=run_make (P:=Tryd.prog) w 23 22 i0 (.slice none 0 0) Tryd.underlying23 hi hz0 .i64 .i64 0 (m:Int) (by decide) (by omega) (by rw[hz2];omega) (by omega)
  rw[hz1,Nat.mul_one,Int.toNat_natCast] at this
  exact this
 obtain⟨cur0,hcur⟩:∃cur0,madeCells #[Value.slice none 0 0] m=cur0:=⟨_,rfl⟩
 have hcs:cur0.size=m:=by rw[←hcur,size_madeCells]
 rw[hcur] at hmk
 have HP:=Lib.hid h
 have HCS:=Lib.hid hcs
 have HM:=Lib.hid hm
 clear h em hcur hcs hm
 refine(callsIn_wide (n:=3)).1 ?_
 refine callsIn_of_wp_marks Tryd.func43 rfl trivial ?_ rfl
 simp only[Tryd.ntmps43,List.size_toArray,List.length_cons,List.length_nil,Nat.reduceAdd,Nat.reduceSub,Array.replicate_succ,Array.replicate_zero,List.push_toArray,List.append_toArray,List.nil_append,List.cons_append]
 gi_wp2_with (first|(refine⟨trivial,?_⟩;gi_at_call 30;refine(callsIn_wide.2 (CC.out _)).mono ?_;rintro e w1 ⟨rfl,rfl⟩)|(refine⟨trivial,?_⟩;gi_at_call 70;refine(callsIn_wide.2 (CK.out _)).mono ?_;rintro e w2 ⟨rfl,rfl⟩))
 obtain⟨n0,hn0⟩:∃n0,w.heap.size=n0:=⟨_,rfl⟩
 have bO:Boxed ((((w.alloc (.cells cur0 22)).alloc (.cells #[.slice (some ⟨w.heap.size,0,none⟩) 0 m] 23)).alloc (.cells #[.slice A L c] 22)).alloc (.cells #[.int .i64 (q:Int)] 3)) (w.heap.size+1) 23 (.slice (some ⟨w.heap.size,0,none⟩) 0 m):=by
  have:=Boxed.new (w.alloc (.cells cur0 22)) 23 (.slice (some ⟨w.heap.size,0,none⟩) 0 m)
  rw[World.size_alloc] at this
  exact Boxed.alloc (Boxed.alloc this _) _
 have bS:Boxed ((((w.alloc (.cells cur0 22)).alloc (.cells #[.slice (some ⟨w.heap.size,0,none⟩) 0 m] 23)).alloc (.cells #[.slice A L c] 22)).alloc (.cells #[.int .i64 (q:Int)] 3)) (w.heap.size+1+1) 22 (.slice A L c):=by
  have:=Boxed.new ((w.alloc (.cells cur0 22)).alloc (.cells #[.slice (some ⟨w.heap.size,0,none⟩) 0 m] 23)) 22 (.slice A L c)
  rw[World.size_alloc,World.size_alloc] at this
  exact Boxed.alloc this _
 have bQ:Boxed ((((w.alloc (.cells cur0 22)).alloc (.cells #[.slice (some ⟨w.heap.size,0,none⟩) 0 m] 23)).alloc (.cells #[.slice A L c] 22)).alloc (.cells #[.int .i64 (q:Int)] 3)) (w.heap.size+1+1+1) 3 (.int .i64 (q:Int)):=by
  have:=Boxed.new (((w.alloc (.cells cur0 22)).alloc (.cells #[.slice (some ⟨w.heap.size,0,none⟩) 0 m] 23)).alloc (.cells #[.slice A L c] 22)) 3 (.int .i64 (q:Int))
  rw[World.size_alloc,World.size_alloc,World.size_alloc] at this
  exact this
 have hB:Below w.heap.size w ((((w.alloc (.cells cur0 22)).alloc (.cells #[.slice (some ⟨w.heap.size,0,none⟩) 0 m] 23)).alloc (.cells #[.slice A L c] 22)).alloc (.cells #[.int .i64 (q:Int)] 3)) :=
  ((((Below.refl _ w).alloc (Nat.le_refl _) _).alloc (by simp) _).alloc (by simp;omega) _).alloc (by simp;omega) _
 have hO:World.ownsRow ((((w.alloc (.cells cur0 22)).alloc (.cells #[.slice (some ⟨w.heap.size,0,none⟩) 0 m] 23)).alloc (.cells #[.slice A L c] 22)).alloc (.cells #[.int .i64 (q:Int)] 3)) w.heap.size 22 1 (.slice (some ⟨w.heap.size,0,none⟩) 0 m) 0 [] :=
  (((World.ownsRow_made (base:=w.heap.size) (e:=22) (size:=1) w cur0 m (Nat.le_refl _) (by unfold maxLen;omega) (by rw[HCS.out,Nat.mul_one])).alloc _).alloc _).alloc _
 have hsz:((((w.alloc (.cells cur0 22)).alloc (.cells #[.slice (some ⟨w.heap.size,0,none⟩) 0 m] 23)).alloc (.cells #[.slice A L c] 22)).alloc (.cells #[.int .i64 (q:Int)] 3)).heap.size=w.heap.size+4:=by simp
 generalize((((w.alloc (.cells cur0 22)).alloc (.cells #[.slice (some ⟨w.heap.size,0,none⟩) 0 m] 23)).alloc (.cells #[.slice A L c] 22)).alloc (.cells #[.int .i64 (q:Int)] 3))=W4 at bO bS bQ hB hO hsz ⊢
 clear hn0 CC CK hmk
 refine wpIn_rangeFunc_ownF rfl (by decide) (gf:=87) (lb:=#[.pointer (some ⟨w.heap.size+1+1,0,none⟩),.pointer (some ⟨w.heap.size+1+1+1,0,none⟩)]) rfl trivial (enters_of Tryd.func87 (by kernel_rfl) rfl)
  (chunk_stops (by omega) hq hL (Pc.cap' HP.out) HM.out (fun h=>Pc.some' HP.out h) (w.heap.size+1+1) (w.heap.size+1+1+1) W4 bS bQ (3 - 1) (by decide))
  Kb.trans (fun W l o o' hl h1 h2 h3=>⟨World.putObj_heap_other (by omega),World.putObj_heap_other (by omega)⟩) (Below.refl _ _) (fun _=>rfl)
  (CutI w.heap.size (w.heap.size+1) l q m W4.heap.size w) (fun _ _ _=>False) (CutI.own (by omega)) (fun _ _ _ _ _ hs _ _=>hs)
  ⟨[],bO,hO,rfl,(fun r hr=>by cases hr),hB,Nat.le_refl _⟩
  (fun x=>{ tmps:=#[.slice A L c,.int .i64 (q:Int),undef,undef,.slice none 0 0,.int .i64 0,.int .i64 (m:Int),.int .i64 0,.pointer (some ⟨w.heap.size+1,0,none⟩),ckv (A.getD ⟨0,0,none⟩) L q x.1,.tuple #[.int .i64 (m:Int),.int .i64 0],.slice A L c,.int .i64 (L:Int),.int .i64 (q:Int),.tuple #[.int .i64 (m:Int),.int .i64 0],.int .i64 (m:Int),.int .i64 0,.int .i64 0,.bool false,undef,.int .i64 (m:Int),.slice (some ⟨w.heap.size,0,none⟩) 0 m,.slice A L c,.int .i64 (q:Int),.func (.func 87) #[] #[.pointer (some ⟨w.heap.size+1+1,0,none⟩),.pointer (some ⟨w.heap.size+1+1+1,0,none⟩)],ckv (A.getD ⟨0,0,none⟩) L q x.1,undef,undef,undef,undef,undef,undef],defers:=[] }) ?assign ?body ?done ?stop
 case assign =>
  intro l x W K hK
  gi_wp2
  exact hK
 case stop =>
  rintro D c pre W _ _ h _
  exact h.elim
 case done =>
  rintro D xs W hD rfl ⟨rows,hv,hrow,hct,hcb,hbl,-⟩ hK
  have hcl:=Boxed.cell hv
  have HD2:=Lib.hid (show w.heap.size≤D by omega)
  rw[List.length_finRange] at hrow hcl
  clear hD hsz
  gi_wp2
  refine⟨by simp,.inl ⟨_,_,rfl,run_takeDeferred hK,?_⟩⟩
  refine⟨_,results_tmp2 rfl _ _ _,rows,rfl,?_,hct,?_,?_⟩
  ·exact ownsRow_putObj hrow (.deferred none) hK rfl
  ·intro r hr
   exact(hcb r hr).keep (grownBy_putObj' W D (.deferred none)) (by rintro j cs e hj;cases e;rw[hK] at hj;cases hj)
  ·exact hbl.trans (belowK_b (w:=w) (Nat.le_refl _) W D _ _ HD2.out hK rfl rfl)
 case body =>
  rintro l0 pre x W ⟨rows,hv,hrow,hct,hcb,hbl,hWs⟩ hlt
  have hxq:x.1*q < L:=by
   have h1:x.1 < (L+q - 1) / q:=Nat.lt_of_lt_of_eq x.2 HM.out
   have:=(Nat.lt_div_iff_mul_lt (by omega)).1 h1
   omega
  obtain⟨ad,rfl⟩:=Option.isSome_iff_exists.1 (Pc.some' HP.out (by omega))
  have hpc:=ck_pc HP.out hxq
  have hel:(ck l q x.1).length=ckl L q x.1:=hpc.len.symm
  have he0:0 < ckl L q x.1:=by unfold ckl;omega
  have he1:ckl L q x.1≤1024:=by unfold ckl;exact Nat.le_trans (Nat.min_le_left _ _) hq
  have CL:=Lib.hid (fun W1 (hb1:Below w.heap.size w W1)=>Clone_any (some (ad.add (x.1*q))) (ckl L q x.1) (ckl L q x.1) (ck l q x.1) W1 he0 (by omega) (Nat.le_refl _) (by have:=(hpc.below hb1).row;rwa [show((some (ad.add (x.1*q)),ckl L q x.1,ckl L q x.1,ck l q x.1):Rw).2.2.2.length=ckl L q x.1 from hel] at this))
  have hcl:=Boxed.cell hv
  have HBL:=Lib.hid hbl
  have hd:1≤3 - 1 - 1:=by decide
  have hmx:Tryd.prog.follows .mixedOrders=true:=by kernel_rfl
  have hlt9:∀y∈ck l q x.1,y < 256:=hpc.lt
  unfold ckv
  obtain⟨X,hX⟩:∃X,Value.slice (some (ad.add (x.1*q))) (ckl L q x.1) (ckl L q x.1)=X:=⟨_,rfl⟩
  rw[hX] at CL
  change Boxed W (w.heap.size+1) 23 (csl w.heap.size pre.length m) at hv
  change W.ownsRow w.heap.size 22 1 (csl w.heap.size pre.length m) pre.length (rows.map rwv) at hrow
  dsimp only[Option.getD_some]
  rw[hX]
  clear hcl hX
  gi_wp2
  have hs1:w.heap.size+1+1 < W.heap.size:=by omega
  have hs2:w.heap.size+1+1+1 < W.heap.size:=by omega
  refine wpIn_region_free (fun i v _=>CT w.heap.size pre.length m X i v) (CJ w W (w.heap.size+1) w.heap.size (w.heap.size+1+1) (w.heap.size+1+1+1) m pre.length rows (ck l q x.1)) (fun _ _=>True) hmx (by kernel_rfl) (by kernel_rfl) (fun _ _ _ _ h _=>h) ?h0 ?each ?hQ ?hdf ?fin
  case h0 =>
   intro γ
   have base:CJ w W (w.heap.size+1) w.heap.size (w.heap.size+1+1) (w.heap.size+1+1+1) m pre.length rows (ck l q x.1) (fun _=>false) γ W :=
    ⟨HBL.out,KeepsOthers.refl _,Kb.refl _ _ _,fun _=>hv,(fun e=>by cases e),fun _=>hrow,(fun e=>by cases e),hcb,(fun e=>by cases e),(fun e=>by cases e),(fun e=>by cases e),(fun e=>by cases e),(fun e=>by cases e)⟩
   exact⟨base.grow hs1 hs2 ⟨rfl,rfl,rfl,Nat.le_refl _,fun _ _ _=>rfl⟩,base⟩
  case hQ =>
   rintro⟨a,w,h⟩
   exact h
  case hdf =>
   intro o ho c e
   simp only[List.mem_cons,List.mem_nil_iff,or_false] at ho
   rcases ho with rfl|rfl|rfl|rfl|rfl|rfl <;> cases e
  case fin =>
   intro L2 γ W1 hL2 hT hJ
   obtain⟨r,er,ec,hc⟩:=hJ.new (hL2 2 (by decide))
   have hb5:=hJ.box1 (hL2 5 (by decide))
   have hr4:=hJ.row1 (hL2 4 (by decide))
   have el:(pre ++ [x]).length=pre.length+1:=by simp
   refine⟨hJ.oth,hJ.kb,rows ++ [r],?_,?_,?_,?_,hJ.bel,Nat.le_trans hWs hJ.oth.size⟩
   ·rw[el];exact hb5
   ·rw[el,List.map_append]
    rw[er] at hr4
    exact hr4
   ·rw[List.map_append,List.map_append,hct]
    simp[ec]
   ·intro y hy
    rcases List.mem_append.1 hy with h|h
    ·exact hJ.old y h
    ·rw[show y=r by simpa using h];exact hc
  case each =>
   refine each_ox ?_
   refine Each.cons ?_<|Each.cons ?_<|Each.cons ?_<|Each.cons ?_<|Each.cons ?_<|Each.cons ?_ Each.nil
   ·refine OX.cell ⟨w.heap.size+1,0,none⟩ (csl w.heap.size pre.length m) 23 (.tmp 8) rfl rfl (fun γ=>by kernel_rfl) Tryd.underlying23 rfl ?_ (fun w=>rfl) (fun L γ W1 hLi hJ=>hJ.mark 0 (by decide) _) (fun _=>trivial)
    intro L γ W1 hLi hcl2 hJ
    have l4:L 4=false:=off fun e=>by have:=hcl2 4 _ rfl e 0 (by kernel_rfl);rw[hLi] at this;cases this
    have l5:L 5=false:=off fun e=>by rw[hJ.o54 e] at l4;cases l4
    exact Boxed.cell (hJ.box0 l5)
   ·refine⟨?_⟩
    intro Q K L γ W1 hLi hdep hcl2 hun hJ hd hK
    refine want rfl _ ?_
    exact wp_val (v:=X) (w':=W1) (by kernel_rfl) (hK _ _ rfl (hJ.mark 1 (by decide) _) trivial)
   ·refine⟨?_⟩
    intro Q K L γ W1 hLi hdep hcl2 hun hJ hd hK
    refine want rfl _ ?_
    have e1:γ 1=X:=hd 1 (by kernel_rfl)
    refine wp_enter (f:=62) (args:=#[γ 1]) (w':=W1) (by kernel_rfl) ?_
    rw[e1]
    refine(CL.out W1 hJ.bel).mono ?_
    rintro e w' ⟨g,cap,cur,rfl,h1,h2,h3,h4,h5,h6⟩
    refine⟨_,rfl,hK _ _ trivial ((hJ.grow hs1 hs2 (grown_of_below h6)).call hLi (some ⟨g,0,none⟩,(ck l q x.1).length,cap,ck l q x.1) rfl ⟨g,cur,rfl,rfl,h1,h4,h2,hlt9,Nat.le_trans hJ.bel.size h5⟩) trivial⟩
   ·refine⟨?_⟩
    intro Q K L γ W1 hLi hdep hcl2 hun hJ hd hK
    refine want rfl _ ?_
    have h2:=hdep 2 (by kernel_rfl)
    obtain⟨⟨A2,n2,c2,l2⟩,er,-, -⟩:=hJ.new h2
    have hb:=hJ.build hLi h2 hs1 hs2
    rw[show γ 2=.slice A2 n2 c2 from er] at hb
    exact wp_val (v:=.slice (some ⟨W1.heap.size,0,none⟩) 1 1) (w':=W1.alloc (.cells #[.slice A2 n2 c2] 22)) (build27 (.tmp 28) rfl A2 n2 c2 (Eq.trans (b:=γ 2) (by kernel_rfl) er)) (hK _ _ trivial hb trivial)
   ·refine⟨?_⟩
    intro Q K L γ W1 hLi hdep hcl2 hun hJ hd hK
    refine want rfl _ ?_
    have e0:γ 0=csl w.heap.size pre.length m:=hd 0 (by kernel_rfl)
    have h3:=hdep 3 (by kernel_rfl)
    obtain⟨gb,e3,hgb⟩:=hJ.one h3 hLi
    obtain⟨r,er,-, -⟩:=hJ.new (hJ.o32 h3)
    refine wp_append_fits (.tmp 26) (.tmp 29) 23 rfl w.heap.size 22 i0 1 Tryd.underlying23 hi hz1 w.heap.size pre.length m (rows.map rwv) (Eq.trans (b:=γ 0) (by kernel_rfl) e0) (hJ.row0 hLi) ⟨gb,0,none⟩ 1 1 [γ 2] (Eq.trans (b:=γ 3) (by kernel_rfl) e3) rfl ?_ ?_ (by omega) ?_
    ·intro j u hj
     rcases j with _|j
     ·cases hj;exact hgb.cell_ (i:=0) rfl
     ·simp at hj
    ·intro u hu
     have:u=γ 2:=by simpa using hu
     rw[this,er];rfl
    ·intro w' h1 h2
     exact hK _ _ rfl (hJ.append hLi h3 (Nat.le_refl _) (by omega) (by omega) (by omega) hs1 hs2 h1 h2) trivial
   ·exact OX.store (w.heap.size+1) (csl w.heap.size (pre.length+1) m) 23 (.tmp 8) (.tmp 30) rfl rfl (fun γ=>by kernel_rfl) size27 rfl (fun γ W1 hd=>Eq.trans (b:=γ 4) (by kernel_rfl) (hd 4 (by kernel_rfl))) (fun L γ W1 hLi hJ=>⟨_,_,hJ.box0 hLi⟩) (fun _=>trivial) (fun L γ W1 hLi hdep hJ=>hJ.store hLi (hdep 4 (by kernel_rfl)) (by omega) (by omega) (by omega) (by omega) hs1 hs2 undef) (fun _ _=>trivial)
end Go.Proofs.YtnnfpmebopgogaaDoor.Mk
