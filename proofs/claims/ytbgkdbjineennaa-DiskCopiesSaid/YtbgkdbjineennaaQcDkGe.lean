/- Joined texts. -/
import Derived.Test.YtbgkdbjineennaaQcDkF
import Derived.Test.YtbgkdbjineennaaQcDkP
set_option linter.unusedVariables false
namespace Go.Proofs.Ytbgkdbjineennaa.Dk
open Go.IntWalk Go.RowKit Go.Proofs.Ytbgkdbjineennaa.Gn Go.Proofs.Ytbgkdbjineennaa.Fd Go.Deep
theorem fill_v(V Z:Array Value)(hV:V.size=65)(hZ:Z.size=65)(n:Nat)(hn:n=65):Instr.fill (fun i=>some (i*n,n)) Z [(0,.agg V)]=some V:=by
 subst hn
 have e:=fold_arr V (0*65) Z
 show(if V.size≠65 || 0*65+V.size > Z.size then none else some (V.zipIdx.foldl (fun cs (p:Value × Nat)=>cs.setIfInBounds (0*65+p.2) p.1) Z))=some V
 rw[e,if_neg (by simp[hV,hZ]),Nat.zero_mul,spl_all _ _ (by rw[hZ,Array.length_toList,hV])]
def wv(p:Nat)(x:List Nat):Array Value:=(Value.int .i64 (p:Int) :: bl x).toArray
theorem wv_size(p:Nat){x:List Nat}(h:x.length=64):(wv p x).size=65:=by simp[wv,bl,h]
theorem wv_one(p:Nat)(x:List Nat):∀v∈(wv p x).toList,v.oneCell'=true:=by
 intro v hv
 simp only[wv,List.mem_cons] at hv
 rcases hv with rfl|hv
 ·rfl
 ·exact bl_one _ v hv
theorem spl_wv(p:Nat){x:List Nat}(h:x.length=64):spl (zw p) 1 (List.take 64 (bl x))=wv p x:=by
 have hz:(zw p).size=65:=by kernel_rfl
 have hb:(bl x).length=64:=by rw[bl_length,h]
 rw[List.take_of_length_le (by omega),spl_eq _ _ _ (by omega),List.drop_of_length_le (by rw[Array.length_toList];omega),List.append_nil]
 rfl
def xsp(g:Nat)(V:Array Value)(H:Value):List (Option Value):=[some (.pointer (some ⟨g,0,none⟩)),some (.pointer (some ⟨g,0,none⟩)),some (.pointer (some ⟨g,0,none⟩)),some (.pointer (some ⟨g,1,none⟩)),some H,some (.agg V),none,none,some (.pointer (some ⟨g,0,none⟩)),some (.pointer (some ⟨g,1,none⟩)),none]
structure XR (base g tb k:Nat) (V:Array Value) (xs:List Value) (H:Value) (w w0:World) (v7:Value) (w7:World):Prop where
 start:w0=w∨w0=w.drew
 c0:w0.cell? ⟨g,1,none⟩=some H
 c6:(w0.alloc (.cells V 67)).cell? ⟨g,1,none⟩=some H
 c7:w7.cell? ⟨g,1,none⟩=some H
 f7:w7.frozen? ⟨g,1,none⟩=false
 t0:Bl w0 tb 67 V
 run:(Builtin.append_ #[56,56] 56 #[H,.slice (some ⟨w0.heap.size,0,none⟩) 1 1]).run Try.prog (w0.alloc (.cells V 67))=.ok v7 w7
 one:v7.oneCell'=true
 own:w7.ownsRow base 67 65 v7 (k+1) (xs ++ V.toList)
 grow:(w0.alloc (.cells V 67)).grownBy w7 H.ownBlock
 at_:v7.ownBlock=H.ownBlock∨v7.ownBlock=some (w0.alloc (.cells V 67)).heap.size
def XJ(base g tb k:Nat)(V:Array Value)(xs:List Value)(H:Value)(w:World)(L:Nat→Bool)(γ:Nat→Value)(W:World):Prop :=
 ∃w0 v7 w7,XR base g tb k V xs H w w0 v7 w7∧(L 6=false→W=w0)∧(L 6=true→L 7=false→W=w0.alloc (.cells V 67))∧(L 7=true→L 10=false→W=w7)∧(L 10=true→W=w7.setCell ⟨g,1,none⟩ v7)∧(L 6=true→γ 6=.slice (some ⟨w0.heap.size,0,none⟩) 1 1)∧(L 7=true→γ 7=v7)∧(L 7=true→L 6=true)∧(L 10=true→L 7=true)
section
variable {base g tb k:Nat} {V:Array Value} {xs:List Value} {H:Value} {w:World} {L:Nat→Bool} {γ:Nat→Value} {W:World}
theorem XJ.mark(h:XJ base g tb k V xs H w L γ W)(i:Nat)(h6:i≠6)(h7:i≠7)(h10:i≠10)(v:Value):XJ base g tb k V xs H w (fun j=>if j=i then true else L j) (upd γ i v) W:=by
 obtain⟨w0,v7,w7,h1,h2⟩:=h
 refine⟨w0,v7,w7,h1,?_⟩
 have l6:(if 6=i then true else L 6)=L 6:=if_neg (Ne.symm h6)
 have l7:(if 7=i then true else L 7)=L 7:=if_neg (Ne.symm h7)
 have l10:(if 10=i then true else L 10)=L 10:=if_neg (Ne.symm h10)
 have u6:upd γ i v 6=γ 6:=by unfold upd;rw[if_neg (Ne.symm h6)]
 have u7:upd γ i v 7=γ 7:=by unfold upd;rw[if_neg (Ne.symm h7)]
 simp only[l6,l7,l10,u6,u7]
 exact h2
theorem XJ.cell(h:XJ base g tb k V xs H w L γ W)(h10:L 10=false):W.cell? ⟨g,1,none⟩=some H:=by
 obtain⟨w0,v7,w7,h1,h2,h3,h4,h5,-⟩:=h
 cases e6:L 6 with
 |false=>rw[h2 e6];exact h1.c0
 |true =>
  cases e7:L 7 with
  |false=>rw[h3 e6 e7];exact h1.c6
  |true=>rw[h4 e7 h10];exact h1.c7
theorem XJ.row(h:XJ base g tb k V xs H w L γ W)(h6:L 6=false):Bl W tb 67 V:=by
 obtain⟨w0,v7,w7,h1,h2,-⟩:=h
 rw[h2 h6];exact h1.t0
theorem XJ.six(h:XJ base g tb k V xs H w L γ W)(h6:L 6=false):XJ base g tb k V xs H w (fun j=>if j=6 then true else L j) (upd γ 6 (.slice (some ⟨W.heap.size,0,none⟩) 1 1)) (W.alloc (.cells V 67)):=by
 obtain⟨w0,v7,w7,h1,h2,h3,h4,h5,h6',h7,h8,h9⟩:=h
 have l7:L 7=false:=by
  cases e:L 7 with
  |false=>rfl
  |true=>rw[h8 e] at h6;cases h6
 have l10:L 10=false:=by
  cases e:L 10 with
  |false=>rfl
  |true=>rw[h9 e] at l7;cases l7
 obtain rfl:=h2 h6
 refine⟨W,v7,w7,h1,?_⟩
 simp[l7,l10,upd]
theorem XJ.seven(h:XJ base g tb k V xs H w L γ W)(h7:L 7=false)(h6:L 6=true):∃(w0:World) (v7:Value) (w7:World),W=w0.alloc (.cells V 67)∧γ 6=.slice (some ⟨w0.heap.size,0,none⟩) 1 1∧(Builtin.append_ #[56,56] 56 #[H,.slice (some ⟨w0.heap.size,0,none⟩) 1 1]).run Try.prog W=.ok v7 w7∧XJ base g tb k V xs H w (fun j=>if j=7 then true else L j) (upd γ 7 v7) w7:=by
 obtain⟨w0,v7,w7,h1,h2,h3,h4,h5,h6',h7',h8,h9⟩:=h
 have l10:L 10=false:=by
  cases e:L 10 with
  |false=>rfl
  |true=>rw[h9 e] at h7;cases h7
 obtain rfl:=h3 h6 h7
 refine⟨w0,v7,w7,rfl,h6' h6,h1.run,w0,v7,w7,h1,?_⟩
 have e6:=h6' h6
 simp[l10,h6,upd,e6]
theorem XJ.ten(h:XJ base g tb k V xs H w L γ W)(h10:L 10=false)(h7:L 7=true):(γ 7).oneCell'=true∧W.cell? ⟨g,1,none⟩=some H∧W.frozen? ⟨g,1,none⟩=false∧XJ base g tb k V xs H w (fun j=>if j=10 then true else L j) (upd γ 10 undef) (W.setCell ⟨g,1,none⟩ (γ 7)):=by
 obtain⟨w0,v7,w7,h1,h2,h3,h4,h5,h6',h7',h8,h9⟩:=h
 obtain rfl:=h4 h7 h10
 have e7:=h7' h7
 have l6:=h8 h7
 have e6:=h6' l6
 refine⟨by rw[e7];exact h1.one,h1.c7,h1.f7,w0,v7,W,h1,?_⟩
 simp[h7,l6,upd,e6,e7]
theorem XR.mk'{w w0:World}(hs:w0=w∨w0=w.drew)(hb:base≤w.heap.size)(c0:w0.cell? ⟨g,1,none⟩=some H)(f0:w0.frozen? ⟨g,1,none⟩=false)(hg:g < w0.heap.size)(hHg:H.ownBlock≠some g)(t0:Bl w0 tb 67 V)(hH:w0.ownsRow base 67 65 H k xs)(hk:k < 1000000)(hV:V.size=65)(hV1:∀v∈V.toList,v.oneCell'=true):∃v7 w7,XR base g tb k V xs H w w0 v7 w7:=by
 obtain⟨i0,hi,hz0,hz1,hz2⟩:=info_parts infoW
 have hb0:base≤w0.heap.size:=by rcases hs with rfl|rfl <;> exact hb
 have hg1:w0.grownBy (w0.alloc (.cells V 67)) none:=World.grownBy_alloc w0 _ none
 obtain⟨v7,w7,hr,h1,h2,-, h4⟩:=run_append_own_at (P:=Try.prog) (w0.alloc (.cells V 67)) base 56 56 67 i0 (.agg z0) 65 72 Try.underlying56 hi hz0 hz1 hz2 (by kernel_rfl) (by decide) H k xs (hH.alloc _) ⟨w0.heap.size,0,none⟩ 1 1 V.toList (by rw[Array.length_toList,hV]) (fun j u hj=>by rw[show(⟨w0.heap.size,0,none⟩:Addr).add j=⟨w0.heap.size,j,none⟩ by unfold Addr.add;split <;> simp_all];exact(Bl.new_ w0 _ _).cell_ (by rwa [Array.getElem?_toList] at hj)) hV1 (by unfold maxLen;omega) (by omega) (by simp;omega)
 have c6:(w0.alloc (.cells V 67)).cell? ⟨g,1,none⟩=some H:=hg1.cell c0 (by simp)
 have hgn:some g≠H.ownBlock:=Ne.symm hHg
 refine⟨v7,w7,hs,c0,c6,h2.cell c6 hgn,?_,t0,hr,own_one h1,by simpa using h1,h2,h4⟩
 have hx:w7.heap[g]?=w0.heap[g]?:=(h2.block g (by simp;omega) hgn).trans (hg1.block g hg (by simp))
 exact(World.frozen?_of_block (a:=⟨g,1,none⟩) hx).trans f0
end
end Go.Proofs.Ytbgkdbjineennaa.Dk
