/- Joined texts. -/
import Derived.BigQuiet
import Derived.IntWalk
import Derived.Deep.Cut
import Derived.Lib.Strings
import Derived.Lib.Slices
import Derived.Lib.Small
import Derived.Lib.Walk
import Derived.Lib.BitFns
import Derived.Deep.LoopGhost
import Derived.WalkMore
import Derived.Test.YteblmphohhbgcaaQaPuA
import Derived.Test.YteblmphohhbgcaaQaMkSeq
import Derived.Test.YteblmphohhbgcaaQaGnA
set_option linter.unusedVariables false
namespace Go.Proofs.Yteblmphohhbgcaa.Wr
open Go.RowKit Go.Proofs.Yteblmphohhbgcaa.Gn Go.Proofs.Yteblmphohhbgcaa.Fd Go.Deep
theorem bl_aux : ∀ (f x : Nat), x < 2 ^ f → x < 2 ^ Lib.bitLenAux f x ∧ (x ≠ 0 → 1 ≤ Lib.bitLenAux f x ∧ 2 ^ (Lib.bitLenAux f x - 1) ≤ x) := by
  intro f
  induction f with
  | zero => intro x h; have : x = 0 := by simpa using h
            subst this; simp [Lib.bitLenAux]
  | succ f ih =>
    intro x h
    by_cases hx : x = 0
    · subst hx; simp [Lib.bitLenAux]
    · have hh := ih (x / 2) (by rw [Nat.pow_succ] at h; omega)
      simp only [Lib.bitLenAux, if_neg hx]
      refine ⟨by rw [Nat.add_comm, Nat.pow_succ]; omega, fun _ => ⟨by omega, ?_⟩⟩
      by_cases h2 : x / 2 = 0
      · have : x = 1 := by omega
        subst this
        cases f <;> simp [Lib.bitLenAux]
      · obtain ⟨a, b⟩ := hh.2 h2
        obtain ⟨c, hc⟩ : ∃ c, Lib.bitLenAux f (x / 2) = c + 1 := ⟨_, (Nat.sub_add_cancel a).symm⟩
        rw [hc] at b ⊢
        rw [show 1 + (c + 1) - 1 = c + 1 by omega, Nat.pow_succ]
        simp at b
        omega
theorem bl_lt{n:Nat}(h:n < 2 ^ 64):n < 2 ^ Lib.bitLen n:=(bl_aux 64 n h).1
theorem bl_ge{n:Nat}(h:n < 2 ^ 64)(h0:n≠0):1≤Lib.bitLen n∧2 ^ (Lib.bitLen n - 1)≤n:=(bl_aux 64 n h).2 h0
def nb(n:Nat):Nat:=(Lib.bitLen n+7) / 8
theorem nb_le{n:Nat}(h:n < 2 ^ 64):nb n≤8:=by
 have:=Lib.bitLen_le n 64 (Nat.le_refl _) h
 unfold nb;omega
theorem nb_pos{n:Nat}(h:n < 2 ^ 64)(h0:n≠0):1≤nb n:=by
 have:=(bl_ge h h0).1
 unfold nb;omega
theorem nb_end{n:Nat}(h:n < 2 ^ 64):n / 256 ^ nb n=0:=by
 apply Nat.div_eq_of_lt
 have e:(256:Nat) ^ nb n=2 ^ (8*nb n):=by rw[Nat.pow_mul]
 rw[e]
 exact Nat.lt_of_lt_of_le (bl_lt h) (Nat.pow_le_pow_right (by omega) (by unfold nb;omega))
theorem nb_more{n i:Nat}(h:n < 2 ^ 64)(h0:n≠0)(hi:i < nb n):0 < n / 256 ^ i:=by
 apply Nat.div_pos _ (Nat.pow_pos (by omega))
 have e:(256:Nat) ^ i=2 ^ (8*i):=by rw[Nat.pow_mul]
 rw[e]
 exact Nat.le_trans (Nat.pow_le_pow_right (by omega) (by unfold nb at hi;have:=(bl_ge h h0).1;omega)) (bl_ge h h0).2
def cb(n:Nat):List Nat:=if n < 192 then[n] else(191+nb n) :: (by_ n (nb n)).reverse
theorem cb_low{n:Nat}(h:n < 192):cb n=[n]:=if_pos h
theorem cb_high{n:Nat}(h:¬n < 192):cb n=(191+nb n) :: (by_ n (nb n)).reverse:=if_neg h
theorem cb_len{n:Nat}(h:n < 2 ^ 64):(cb n).length≤9:=by
 unfold cb
 split
 ·simp
 ·have:=nb_le h;simp[by_length];omega
theorem cb_lt{n:Nat}(h:n < 2 ^ 64):∀x∈cb n,x < 256:=by
 unfold cb
 split
 ·intro x hx;simp at hx;omega
 ·intro x hx
  rcases List.mem_cons.1 hx with rfl|hx
  ·have:=nb_le h;omega
  ·exact by_lt _ _ x (List.mem_reverse.1 hx)
theorem by_snoc:∀(k n:Nat),by_ n (k+1)=by_ n k ++ [n / 256 ^ k%256]:=by
 intro k
 induction k with
 |zero=>intro n;simp[by_]
 |succ k ih =>
  intro n
  rw[by_succ,ih,by_succ n k,List.cons_append,Nat.div_div_eq_div_mul,Nat.pow_succ,Nat.mul_comm (256 ^ k)]
def lay(a n k j:Nat):List Nat:=a :: (List.replicate (k - j) 0 ++ (by_ n j).reverse)
theorem lay_step{a n k j:Nat}(h:j < k):(lay a n k j).set (k - j) (n / 256 ^ j%256)=lay a n k (j+1):=by
 unfold lay
 rw[by_snoc,List.reverse_append,show k - j=(k - j - 1)+1 by omega,List.set_cons_succ,List.replicate_succ',List.append_assoc,List.set_append_right _ _ (by simp)]
 simp[show k - (j+1)=k - j - 1 by omega]
theorem lay_end(a n k:Nat):lay a n k k=a :: (by_ n k).reverse:=by simp[lay]
theorem lay_at{a n k j:Nat}(h:j < k):(lay a n k j)[k - j]?=some 0:=by
 unfold lay
 rw[show k - j=(k - j - 1)+1 by omega,List.getElem?_cons_succ,List.getElem?_append_left (by simp),List.getElem?_replicate,if_pos (by omega)]
theorem tab_size:Lib.len8tab.size=256:=by decide +kernel
theorem tab_fin:∀n:Fin 256,(Lib.len8tab[n.val]'(by rw[tab_size];exact n.isLt)).toNat=Lib.bitLen n.val:=by decide +kernel
theorem tab_get{y:Nat}(h:y < Lib.len8tab.size):(Lib.len8tab[y]'h).toNat=Lib.bitLen y:=tab_fin ⟨y,by rw[tab_size] at h;exact h⟩
theorem bit8{y:Nat}(h:y < 256):Lib.bitLen y≤8:=Lib.bitLen_le8 ⟨y,h⟩
theorem fin56(x:Nat)(X:Int)(h:x < 18446744073709551616)(HX:X=(x:Int))(h1:256≤X / 4294967296 / 65536)(h2:X / 4294967296 / 65536 / 256 < 256):wrap64 (56+wrap64 ↑(Lib.bitLen (X / 4294967296 / 65536 / 256).toNat))=↑(Lib.bitLen x):=by
 subst HX
 have e:((x:Int) / 4294967296 / 65536 / 256).toNat=x / 72057594037927936:=by omega
 rw[e,Lib.bitLen_shift56 x (by omega) (by omega)]
 have:=bit8 (y:=x / 72057594037927936) (by omega)
 unfold wrap64
 omega
theorem fin48(x:Nat)(X:Int)(h:x < 18446744073709551616)(HX:X=(x:Int))(h1:65536≤X / 4294967296)(h2:X / 4294967296 / 65536 < 256):wrap64 (48+wrap64 ↑(Lib.bitLen (X / 4294967296 / 65536).toNat))=↑(Lib.bitLen x):=by
 subst HX
 have e:((x:Int) / 4294967296 / 65536).toNat=x / 281474976710656:=by omega
 rw[e,Lib.bitLen_shift48 x (by omega) (by omega)]
 have:=bit8 (y:=x / 281474976710656) (by omega)
 unfold wrap64
 omega
theorem fin40(x:Nat)(X:Int)(h:x < 18446744073709551616)(HX:X=(x:Int))(h1:256≤X / 4294967296)(h2:X / 4294967296 / 256 < 256):wrap64 (40+wrap64 ↑(Lib.bitLen (X / 4294967296 / 256).toNat))=↑(Lib.bitLen x):=by
 subst HX
 have e:((x:Int) / 4294967296 / 256).toNat=x / 1099511627776:=by omega
 rw[e,Lib.bitLen_shift40 x (by omega) (by omega)]
 have:=bit8 (y:=x / 1099511627776) (by omega)
 unfold wrap64
 omega
theorem fin32(x:Nat)(X:Int)(h:x < 18446744073709551616)(HX:X=(x:Int))(h1:4294967296≤X)(h2:X / 4294967296 < 256):wrap64 (32+wrap64 ↑(Lib.bitLen (X / 4294967296).toNat))=↑(Lib.bitLen x):=by
 subst HX
 have e:((x:Int) / 4294967296).toNat=x / 4294967296:=by omega
 rw[e,Lib.bitLen_shift32 x (by omega) (by omega)]
 have:=bit8 (y:=x / 4294967296) (by omega)
 unfold wrap64
 omega
theorem fin24(x:Nat)(X:Int)(h:x < 18446744073709551616)(HX:X=(x:Int))(h1:256≤X / 65536)(h2:X / 65536 / 256 < 256):wrap64 (24+wrap64 ↑(Lib.bitLen (X / 65536 / 256).toNat))=↑(Lib.bitLen x):=by
 subst HX
 have e:((x:Int) / 65536 / 256).toNat=x / 16777216:=by omega
 rw[e,Lib.bitLen_shift24 x (by omega) (by omega)]
 have:=bit8 (y:=x / 16777216) (by omega)
 unfold wrap64
 omega
theorem fin16(x:Nat)(X:Int)(h:x < 18446744073709551616)(HX:X=(x:Int))(h1:65536≤X)(h2:X / 65536 < 256):wrap64 (16+wrap64 ↑(Lib.bitLen (X / 65536).toNat))=↑(Lib.bitLen x):=by
 subst HX
 have e:((x:Int) / 65536).toNat=x / 65536:=by omega
 rw[e,Lib.bitLen_shift16 x (by omega) (by omega)]
 have:=bit8 (y:=x / 65536) (by omega)
 unfold wrap64
 omega
theorem fin8(x:Nat)(X:Int)(h:x < 18446744073709551616)(HX:X=(x:Int))(h1:256≤X)(h2:X / 256 < 256):wrap64 (8+wrap64 ↑(Lib.bitLen (X / 256).toNat))=↑(Lib.bitLen x):=by
 subst HX
 have e:((x:Int) / 256).toNat=x / 256:=by omega
 rw[e,Lib.bitLen_shift8 x (by omega) (by omega)]
 have:=bit8 (y:=x / 256) (by omega)
 unfold wrap64
 omega
set_option maxHeartbeats 8000000 in
set_option maxRecDepth 100000 in
theorem len64_any (x : Nat) (h : x < 2 ^ 64) (w : World) : Calls Try.prog 101 #[.int .u64 (x : Int)] w fun e w' => e = .returned (.int .i64 (Lib.bitLen x)) ∧ w = w' := by
  have h0 : (0 : Int) ≤ (x : Int) := by omega
  have h1 : (x : Int) ≤ 18446744073709551615 := by omega
  obtain ⟨X, hX⟩ : ∃ X : Int, X = (x : Int) := ⟨_, rfl⟩
  rw [← hX] at h0 h1 ⊢
  have HX := Lib.hid hX
  clear hX
  go_enter Try.func101, Try.ntmps101
  go_wp2
  all_goals first
    | (go_ret; refine ⟨congrArg Ending.returned (congrArg (Value.int IntKind.i64) ?_), rfl⟩)
    | (exfalso; rename_i hbad; apply hbad; rw [tab_size]; omega)
  all_goals first
    | (rw [tab_get]; with_reducible exact fin56 x X h HX.out (by assumption) (by omega))
    | (rw [tab_get]; with_reducible exact fin48 x X h HX.out (by assumption) (by omega))
    | (rw [tab_get]; with_reducible exact fin40 x X h HX.out (by assumption) (by omega))
    | (rw [tab_get]; with_reducible exact fin32 x X h HX.out (by assumption) (by omega))
    | (rw [tab_get]; with_reducible exact fin24 x X h HX.out (by assumption) (by omega))
    | (rw [tab_get]; with_reducible exact fin16 x X h HX.out (by assumption) (by omega))
    | (rw [tab_get]; with_reducible exact fin8 x X h HX.out (by assumption) (by omega))
    | (have e : X.toNat = x := by have := HX.out; omega
       rw [tab_get, e]
       have := bit8 (y := x) (by have := HX.out; omega)
       unfold wrap64
       omega)
theorem infob8:(Try.prog.info? 5).map (fun i=>(i.zero,i.size,i.bytes))=some (some (.int .u8 0),1,1):=by kernel_rfl
def CtQ(l:List Nat)(w:World)(e:Ending)(w':World):Prop:=∃g c,e=.returned (.slice (some ⟨g,0,none⟩) l.length c)∧Pc w' (some ⟨g,0,none⟩,l.length,c,l)∧w.heap.size≤g∧Below w.heap.size w w'
def CtRel(a n k g:Nat)(w0:World)(x i:Value)(wr:World):Prop :=
 ∃j:Nat,j≤k∧i=.int .i64 ((k - j:Nat):Int)∧x=.int .u64 ((n / 256 ^ j:Nat):Int)∧Bl wr g 5 (bl (lay a n k j)).toArray∧Below g w0 wr
set_option maxHeartbeats 4000000 in
set_option maxRecDepth 100000 in
theorem count_any(n:Nat)(hn:n < 2 ^ 64)(w:World):Calls Try.prog 99 #[.int .u64 (n:Int)] w (CtQ (cb n) w):=by
 by_cases hl:n < 192
 ·rw[cb_low hl]
  have PB:=Lib.hid (show Pc (w.alloc (.cells #[.int .u8 (n:Int)] 5)) (some ⟨w.heap.size,0,none⟩,1,1,[n]) from⟨rfl,Sl.new_ w 5 (bl [n]),fun x hx=>by simp at hx;omega,Nat.le_refl _,fun h=>by cases h⟩)
  have BB:=Lib.hid ((Below.refl w.heap.size w).alloc (Nat.le_refl _) (.cells #[.int .u8 (n:Int)] 5))
  have q0:(n:Int) < 192:=by omega
  clear hn hl
  go_enter Try.func99,Try.ntmps99
  go_wp2_with fail
  go_ret
  exact⟨_,_,rfl,PB.out,Nat.le_refl _,BB.out⟩
 ·rw[cb_high hl]
  have C:=Lib.hid (len64_any n hn w)
  have k1:=nb_pos hn (by omega)
  have k8:=nb_le hn
  have HK:=Lib.hid (show nb n=(Lib.bitLen n+7) / 8 from rfl)
  have hb:=Lib.bitLen_le n 64 (Nat.le_refl _) hn
  obtain⟨k,hk⟩:∃k,nb n=k:=⟨_,rfl⟩
  rw[hk] at k1 k8 HK ⊢
  have ek:((Lib.bitLen n:Int)+7) / 8=(k:Int):=by have:=HK.out;omega
  obtain⟨B,hB⟩:∃B,Lib.bitLen n=B:=⟨_,rfl⟩
  rw[hB] at C ek hb
  clear hB HK hk
  obtain⟨m,hm⟩:∃m,m=k+1:=⟨_,rfl⟩
  have em:1+(k:Int)=(m:Int):=by omega
  have HM:=Lib.hid hm
  have hmk:∀w,(Instr.makeSlice 25 (.int .i64 (m:Int)) (.int .i64 (m:Int))).run Try.prog w=.ok (.slice (some ⟨w.heap.size,0,none⟩) m m) (w.alloc (.cells (madeCells #[.int .u8 0] m) 5)) :=
   fun w=>run_make_row' (P:=Try.prog) 25 5 (.int .u8 0) 1 Try.underlying25 infob8 rfl .i64 .i64 m (by omega) (by omega) w
  have hZ:madeCells #[Value.int .u8 0] m=(bl (List.replicate m 0)).toArray:=by
   apply Array.toList_inj.1
   rw[toList_madeCells_one];unfold bl;simp
  rw[hZ] at hmk
  obtain⟨g,hg⟩:∃g,w.heap.size=g:=⟨_,rfl⟩
  have HG:=Lib.hid hg
  obtain⟨Z,hz⟩:∃Z,(bl (List.replicate m 0)).toArray=Z:=⟨_,rfl⟩
  have HZ:=Lib.hid hz
  have L0:=Lib.hid (show Bl (w.alloc (.cells Z 5)) g 5 Z from by rw[←hg];exact Bl.new_ _ _ _)
  have L1:=Lib.hid (show Z.set! 0 (.int .u8 ((191+k:Nat):Int))=(bl (lay (191+k) n k 0)).toArray from by
   rw[←hz,hm];unfold lay;simp[bl,List.replicate_succ,by_])
  have zs:Z.size=m:=by rw[←hz];simp[bl]
  have c0:(w.alloc (.cells Z 5)).cell? ⟨g,0,none⟩=some (.int .u8 0):=L0.out.cell_ (by rw[←hz,hm];simp[bl,List.replicate_succ])
  have c1:(w.alloc (.cells Z 5)).frozen? ⟨g,0,none⟩=false:=L0.out.frozen 0
  rw[hz] at hmk
  have hmk:=hmk w
  rw[hg] at hmk
  have BB0:=Lib.hid (show Below g w (w.alloc (.cells Z 5)) from by rw[←hg];exact(Below.refl w.heap.size w).alloc (Nat.le_refl _) _)
  have HN:=Lib.hid hn
  have q0:¬(n:Int) < 192:=by omega
  clear hZ hz hn hl hm
  go_enter Try.func99,Try.ntmps99
  go_wp2_with (go_at_call 101;(with_reducible refine C.out.mono ?_);rintro e w1 ⟨rfl,rfl⟩)
  go_loopw [0,5] (fun x i wr=>CtRel (191+k) n k g w x i wr) (fun _ i _=>(intOf i).toNat)
  case atStart =>
   refine⟨0,Nat.zero_le _,by rw[ek];rfl,by rw[Nat.pow_zero,Nat.div_one],?_,by rw[←HG.out];exact(Below.refl w.heap.size w).alloc (Nat.le_refl _) _⟩
   rw[←L1.out,show((191+k:Nat):Int)=192+(k:Int) - 1 by omega,←HG.out]
   exact Bl.new_ _ _ _
  case round =>
   obtain⟨j,hj,rfl,rfl,hbl,hbw⟩:=hrel
   have BW:=Lib.hid hbw
   have HB:=Lib.hid hbl
   by_cases hlt:j < k
   ·obtain⟨q,hq⟩:∃q,n / 256 ^ j=q:=⟨_,rfl⟩
    obtain⟨i,hi⟩:∃i,i=k - j:=⟨_,rfl⟩
    obtain⟨v,hv⟩:∃v,v=q%256:=⟨_,rfl⟩
    obtain⟨r,hr⟩:∃r,r=q / 256:=⟨_,rfl⟩
    have ql:q < 18446744073709551616:=by rw[←hq];exact Nat.lt_of_le_of_lt (Nat.div_le_self _ _) HN.out
    have ev2:IntKind.u8.wrap (q:Int)=(v:Int):=by rw[IntKind.wrap_u8];omega
    have esh:(q:Int) / 256=(r:Int):=by omega
    have ST:=Lib.hid (show(lay (191+k) n k j).set i v=lay (191+k) n k (j+1) by rw[hi,hv,←hq];exact lay_step hlt)
    have NX:=Lib.hid (show n / 256 ^ (j+1)=r by rw[Nat.pow_succ,←Nat.div_div_eq_div_mul,hq,hr])
    have i0:0 < (i:Int):=by omega
    have im:(i:Int) < (m:Int):=by have:=HM.out;omega
    have I1:=Lib.hid (show k - (j+1)=i - 1∧1≤i from by omega)
    have c2:=hbl.cell_ (i:=i) (v:=.int .u8 0) (by
     rw[List.getElem?_toArray,bl_get,hi,lay_at hlt];rfl)
    have c3:=hbl.frozen i
    rw[←hi,hq]
    clear hq hi hv hr hbl hbw ql
    go_wp2
    refine⟨⟨j+1,by omega,by have:=I1.out;rw[this.1];congr 1;omega,by rw[NX.out],?_,BW.out.setCell (p:=⟨g,i,none⟩) (Nat.le_refl _) _⟩,by simp[intOf];omega⟩
    rw[←ST.out,←bl_set];exact HB.out.set_ i _
   ·obtain rfl:j=k:=by omega
    rw[lay_end] at hbl
    have i0:((j - j:Nat):Int)=0:=by omega
    have PC:=Lib.hid (show Pc wr (some ⟨g,0,none⟩,m,m,(191+j) :: (by_ n j).reverse) from
     ⟨by rw[HM.out];simp[by_length],Sl.of_bl hbl 0 _ _ (by rw[bl_length]) (fun k v hk=>by rw[Nat.zero_add];simpa using hk),fun x hx=>by
      rcases List.mem_cons.1 hx with rfl|hx
      ·omega
      ·exact by_lt _ _ x (List.mem_reverse.1 hx),by rw[HM.out];simp[by_length],fun h=>by cases h⟩)
    have LN:=Lib.hid (show((191+j) :: (by_ n j).reverse).length=m from by rw[HM.out];simp[by_length])
    rw[i0]
    clear hbl i0
    go_wp2_with fail
    go_ret
    refine⟨g,m,?_,?_,by rw[HG.out];exact Nat.le_refl _,by rw[HG.out];exact BW.out⟩
    ·rw[LN.out];rfl
    ·rw[LN.out];exact PC.out
theorem own_rows{w:World}{base:Nat}{e:TypeId}{v:Value}{n:Nat}{xs:List Value}(h:w.ownsRow base e 1 v n xs):∀k,v.ownBlock=some k→base≤k:=by
 obtain⟨hl,h2⟩:=h
 rcases h2 with⟨rfl,-⟩|⟨g,cap,cur,rfl,hg,-⟩
 ·intro k hk;cases hk
 ·intro k hk;simp[Value.ownBlock] at hk;omega
theorem own_any{w:World}{base:Nat}{v:Value}{n:Nat}{s:List Nat}(h:w.ownsRow base 5 1 v n (bl s))(hn:s.length=n)(hs:∀x∈s,x < 256):∃A c,v=.slice A n c∧Pc w (A,n,c,s):=by
 obtain⟨A,c,rfl,h1,h2,h3,-, -⟩:=Sl.own h
 subst hn
 exact⟨A,c,rfl,rfl,h1,hs,h3,h2⟩
def OwnB(l:List Nat)(w:World)(e:Ending)(w':World):Prop:=∃v,e=.returned v∧w'.ownsRow w.heap.size 5 1 v l.length (bl l)∧Below w.heap.size w w'
end Go.Proofs.Yteblmphohhbgcaa.Wr
