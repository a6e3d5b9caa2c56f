/- Joined texts. -/
import Derived.Test.YtnnfpmebopgogaaDoorQkGnCat
set_option linter.unusedVariables false
namespace Go.Proofs.YtnnfpmebopgogaaDoor.Mk
open Go.RowKit Go.Proofs.YtnnfpmebopgogaaDoor.Gn Go.Proofs.YtnnfpmebopgogaaDoor.Fd Go.Deep
def eight(n:Nat):List Nat:=(by_ n 8).reverse
theorem by_snoc:∀(k n:Nat),by_ n (k+1)=by_ n k ++ [n / 256 ^ k%256]:=by
 intro k
 induction k with
 |zero=>intro n;simp[by_]
 |succ k ih =>
  intro n
  rw[by_succ,ih,by_succ n k,List.cons_append,Nat.div_div_eq_div_mul,Nat.pow_succ,Nat.mul_comm (256 ^ k)]
def lay8(n k:Nat):List Nat:=List.replicate (8 - k) 0 ++ (by_ n k).reverse
theorem lay8_len(n k:Nat)(h:k≤8):(lay8 n k).length=8:=by unfold lay8;simp[by_length];omega
theorem lay8_step(n k:Nat)(h:k < 8):(lay8 n k).set (7 - k) (n / 256 ^ k%256)=lay8 n (k+1):=by
 unfold lay8
 rw[by_snoc,List.reverse_append,show 8 - k=(7 - k)+1 by omega,List.replicate_succ',List.append_assoc,List.set_append_right _ _ (by simp)]
 simp[show 8 - (k+1)=7 - k by omega]
theorem eight_len(n:Nat):(eight n).length=8:=by simp[eight,by_length]
theorem eight_lt(n:Nat):∀x∈eight n,x < 256:=fun x hx=>by_lt n 8 x (List.mem_reverse.1 hx)
theorem lay8_end(n:Nat):lay8 n 8=eight n:=by simp[lay8,eight]
def CoRel(n g:Nat)(w0:World)(x i:Value)(wr:World):Prop :=
 ∃k:Nat,k≤8∧i=.int .i64 (k:Int)∧x=.int .i64 ((n / 256 ^ k:Nat):Int)∧Bl wr g 5 (bl (lay8 n k)).toArray∧Below g w0 wr
set_option maxRecDepth 100000 in
set_option maxHeartbeats 2000000 in
theorem count_any(n:Nat)(w:World)(hn:n≤9223372036854775807) :
  Calls Tryd.prog 35 #[.int .i64 (n:Int)] w fun e w'=>∃g,e=.returned (.slice (some ⟨g,0,none⟩) 8 8)∧Pc w' (some ⟨g,0,none⟩,8,8,eight n)∧w.heap.size≤g∧Below w.heap.size w w':=by
 have hmk:∀w,(Instr.makeSlice 22 (.int .i64 8) (.int .i64 8)).run Tryd.prog w=.ok (.slice (some ⟨w.heap.size,0,none⟩) 8 8) (w.alloc (.cells (madeCells #[.int .u8 0] 8) 5)) :=
  fun w=>run_make_row' (P:=Tryd.prog) 22 5 (.int .u8 0) 1 Tryd.underlying22 infob rfl .i64 .i64 8 (by omega) (by omega) w
 have hZ:madeCells #[Value.int .u8 0] 8=(bl (lay8 n 0)).toArray:=by
  apply Array.toList_inj.1
  rw[toList_madeCells_one];rfl
 rw[hZ] at hmk
 have HN:=Lib.hid hn
 clear hZ hn
 have R0:=Lib.hid (show CoRel n w.heap.size w (.int .i64 (n:Int)) (.int .i64 0) (w.alloc (.cells (bl (lay8 n 0)).toArray 5)) from⟨0,Nat.zero_le _,rfl,by rw[Nat.pow_zero,Nat.div_one],Bl.new_ _ _ _,(Below.refl _ _).alloc (Nat.le_refl _) _⟩)
 obtain⟨g,hg⟩:∃g,w.heap.size=g:=⟨_,rfl⟩
 have HG:=Lib.hid hg
 rw[hg] at R0
 obtain⟨Z,hZ⟩:∃Z,(bl (lay8 n 0)).toArray=Z:=⟨_,rfl⟩
 rw[hZ] at hmk R0
 have hsz:∀k,k≤8→(bl (lay8 n k)).toArray.size=8:=fun k hk=>by simp[bl,lay8_len n k hk]
 have SZ:=Lib.hid hsz
 clear hZ hsz
 go_enter Tryd.func35,Tryd.ntmps35
 go_wp2_with fail
 clear hg
 go_loopw [0,8] (fun x i wr=>CoRel n g w x i wr) (fun _ i _=>8 - (intOf i).toNat)
 case atStart=>exact R0.out
 case round =>
  obtain⟨k,hk,rfl,rfl,hbl,hbw⟩:=hrel
  have BW:=Lib.hid hbw
  by_cases hlt:k < 8
  ·obtain⟨m,hm⟩:∃m,n / 256 ^ k=m:=⟨_,rfl⟩
   obtain⟨j,hj⟩:∃j,j=7 - k:=⟨_,rfl⟩
   obtain⟨v,hv⟩:∃v,v=m%256:=⟨_,rfl⟩
   obtain⟨q,hq⟩:∃q,q=m / 256:=⟨_,rfl⟩
   have mle:m≤9223372036854775807:=by rw[←hm];exact Nat.le_trans (Nat.div_le_self _ _) HN.out
   have ej:(7:Int) - (k:Int)=(j:Int):=by omega
   have hj8:j < 8:=by omega
   have ev:(m:Int)%256=(v:Int):=by omega
   have ev2:IntKind.u8.wrap (m:Int)=(v:Int):=by rw[IntKind.wrap_u8];exact ev
   have ST:=Lib.hid (show(lay8 n k).set j v=lay8 n (k+1) by rw[hj,hv,←hm];exact lay8_step n k hlt)
   have NX:=Lib.hid (show n / 256 ^ (k+1)=q by rw[Nat.pow_succ,←Nat.div_div_eq_div_mul,hm,hq])
   have esh:(m:Int) / 256=(q:Int):=by omega
   have c2:=hbl.cell_ (i:=j) (v:=.int .u8 0) (by
    rw[List.getElem?_toArray,bl_get]
    unfold lay8
    rw[List.getElem?_append_left (by simp;omega),List.getElem?_replicate,if_pos (by omega)];rfl)
   have c3:=hbl.frozen j
   have HB:=Lib.hid hbl
   rw[hm]
   clear hm hv hq hj mle ev hbl
   go_wp2
   refine⟨⟨k+1,by omega,by go_num,by rw[NX.out],?_,BW.out.setCell (p:=⟨g,j,none⟩) (Nat.le_refl _) _⟩,by simp[intOf];omega⟩
   rw[←ST.out,←bl_set];exact HB.out.set_ j _
  ·obtain rfl:k=8:=by omega
   rw[lay8_end] at hbl
   have PC:=Lib.hid (show Pc wr (some ⟨g,0,none⟩,8,8,eight n) from⟨(eight_len n).symm,Sl.of_bl hbl 0 _ _ (by rw[bl_length]) (fun k v hk=>by rw[Nat.zero_add];simpa using hk),eight_lt n,by show(eight n).length≤8;rw[eight_len];exact Nat.le_refl _,fun h=>by cases h⟩)
   clear hbl
   go_wp2_with fail
   go_ret
   exact⟨g,rfl,PC.out,by rw[HG.out];exact Nat.le_refl _,by rw[HG.out];exact BW.out⟩
end Go.Proofs.YtnnfpmebopgogaaDoor.Mk
