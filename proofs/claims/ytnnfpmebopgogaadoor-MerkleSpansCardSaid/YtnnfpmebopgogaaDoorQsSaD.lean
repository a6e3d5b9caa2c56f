/- Joined texts. -/
import Derived.Deep.OwnRows
import Derived.Outline
import Derived.Test.YtnnfpmebopgogaaDoorQsSaA
import Derived.Test.YtnnfpmebopgogaaDoorQsGnA
import Derived.Test.YtnnfpmebopgogaaDoorQsSaC
set_option linter.unusedVariables false
namespace Go.Proofs.YtnnfpmebopgogaaDoor.Sh
open Go.RowKit Go.Proofs.YtnnfpmebopgogaaDoor.Gn Go.Deep
theorem be_get(x k j:Nat)(h:j < k):(be x k)[j]?=some (x / 256 ^ (k - 1 - j)%256):=by
 induction k generalizing j with
 |zero=>omega
 |succ k ih =>
  cases j with
  |zero=>simp[be]
  |succ j =>
   rw[be,List.getElem?_cons_succ,ih j (by omega)]
   congr 4;omega
def pads(b:Bool)(n:Nat):Nat:=if bk b - n%bk b < 1+bk b / 8 then bk b - n%bk b+bk b else bk b - n%bk b
theorem pad_length(b:Bool)(n:Nat):(pad b n).length=pads b n:=by
 have:=Nat.mod_lt n (bk_pos b)
 cases b <;> simp[pad,padz,pads,be_length,bk] at*<;> split <;> omega
def padF(b:Bool)(n j:Nat):Nat:=if j=0 then 128 else 8*n / 256 ^ (pads b n - 1 - j)%256
theorem padz_pads(b:Bool)(n:Nat):padz b n+1+bk b / 8=pads b n:=by
 have:=Nat.mod_lt n (bk_pos b)
 cases b <;> simp[padz,pads,bk] at*<;> split <;> omega
theorem pad_get(b:Bool)(n j:Nat)(hn:n≤1048576)(hj:j < pads b n):(pad b n)[j]?=some (padF b n j):=by
 have hz:=padz_pads b n
 have h8:8≤bk b / 8:=by cases b <;> decide
 unfold pad padF
 cases j with
 |zero=>rfl
 |succ j =>
  rw[if_neg (by omega),List.getElem?_cons_succ]
  by_cases h:j < padz b n
  ·rw[List.getElem?_append_left (by simpa using h)]
   have:8*n / 256 ^ (pads b n - 1 - (j+1))=0:=by
    apply Nat.div_eq_of_lt
    have:256 ^ 8≤256 ^ (pads b n - 1 - (j+1)):=Nat.pow_le_pow_right (by decide) (by omega)
    have e:(256:Nat) ^ 8=18446744073709551616:=by decide
    omega
   rw[this]
   simp[h]
  ·rw[List.getElem?_append_right (by simpa using h),List.length_replicate,be_get _ _ _ (by omega)]
   congr 4
   omega
theorem mod_add_pads(b:Bool)(n:Nat):(n+pads b n)%bk b=0:=by
 have h:=Nat.mod_lt n (bk_pos b)
 have hd:=Nat.div_add_mod n (bk b)
 cases b <;> simp[pads,bk] at*<;> split <;> omega
theorem flat_length(ws:List Nat)(S:Nat):(ws.flatMap fun x=>be x S).length=ws.length*S:=by
 induction ws with
 |nil=>simp
 |cons x ws ih=>rw[List.flatMap_cons,List.length_append,ih,be_length,List.length_cons,Nat.succ_mul];omega
def byA(ws:List Nat)(S p:Nat):Nat:=ws.getD (p / S) 0 / 256 ^ (S - 1 - p%S)%256
theorem flat_get(ws:List Nat)(S p:Nat)(hS:0 < S)(h:p < ws.length*S):(ws.flatMap fun x=>be x S)[p]?=some (byA ws S p):=by
 induction ws generalizing p with
 |nil=>simp at h
 |cons x ws ih =>
  rw[List.flatMap_cons]
  by_cases hp:p < S
  ·rw[List.getElem?_append_left (by rw[be_length];exact hp),be_get _ _ _ hp]
   unfold byA
   rw[Nat.div_eq_of_lt hp,Nat.mod_eq_of_lt hp]
   rfl
  ·have hp':S≤p:=by omega
   rw[List.length_cons,Nat.succ_mul] at h
   rw[List.getElem?_append_right (by rw[be_length];exact hp'),be_length,ih _ (by omega)]
   unfold byA
   have e1:p / S=(p - S) / S+1:=by rw[Nat.div_eq_sub_div hS hp']
   have e2:p%S=(p - S)%S:=Nat.mod_eq_sub_mod hp'
   rw[e1,e2]
   rfl
theorem infob:(Tryd.prog.info? 5).map (fun i=>(i.zero,i.size,i.bytes))=some (some (.int .u8 0),1,8 / 8):=by kernel_rfl
def PadRel(s n:Nat)(w:World)(i left:Value)(wr:World):Prop :=
 ∃(k:Nat) (arr:Array Value),k≤3∧i=.int .i64 ((s:Int) - 1 - (k:Int))∧left=.int .i64 ((8*n / 256 ^ k:Nat):Int)∧arr.size=s ∧
  (∀j,j < s→arr[j]?=some (.int .u8 ((if j=0 then 128 else if s - 1 - j < k then 8*n / 256 ^ (s - 1 - j)%256 else 0:Nat):Int)))∧wr=w.alloc (.cells arr 5)
theorem known32(w:World):Calls Tryd.prog 96 #[.int .i64 256] w fun e w'=>e=.returned (.bool true)∧w=w':=by
 go_enter Tryd.func96,Tryd.ntmps96
 go_wp2
 go_ret
 exact⟨rfl,rfl⟩
theorem block32(w:World):Calls Tryd.prog 105 #[.int .i64 256] w fun e w'=>e=.returned (.int .i64 64)∧w=w':=by
 go_enter Tryd.func105,Tryd.ntmps105
 go_wp2
 go_ret
 exact⟨rfl,rfl⟩
set_option maxRecDepth 100000 in
set_option maxHeartbeats 1000000 in
theorem pad32_any(n:Nat)(w:World)(hn:n≤1048576) :
  Calls Tryd.prog 100 #[.int .i64 (n:Int),.int .i64 256] w fun e w' =>
   e=.returned (.tuple #[.slice (some ⟨w.heap.size,0,none⟩) (pads false n) (pads false n),.int .i64 0])∧w'=w.alloc (.cells (bl (pad false n)).toArray 5):=by
 have t1:decide ((n:Int) < 0)=false:=decide_eq_false (by omega)
 have t2:decide (1048576 < (n:Int))=false:=by simp;omega
 obtain⟨r,hr⟩:∃r,r=64 - n%64:=⟨_,rfl⟩
 have hm:=Nat.mod_lt n (show 0 < 64 by decide)
 have e:64 - (n:Int)%64=(r:Int):=by omega
 obtain⟨s,hs⟩:∃s,s=pads false n:=⟨_,rfl⟩
 have hs':s=if r < 1+64 / 8 then r+64 else r:=by rw[hs,hr];rfl
 have hs9:1+64 / 8≤s:=by rw[hs'];split <;> omega
 have hs2:s≤2*64:=by rw[hs'];split <;> omega
 rw[←hs]
 have HS:=Lib.hid hs
 have hmk:=fun w=>run_make_row' (P:=Tryd.prog) 22 5 (.int .u8 0) 1 Tryd.underlying22 infob rfl .i64 .i64 s (by omega) (by omega) w
 have hm0:(madeCells #[Value.int .u8 0] s)[0]?=some (.int .u8 0):=by
  rw[←Array.getElem?_toList,toList_madeCells_one,List.getElem?_replicate,if_pos (by omega)]
 have hfin:∀(k:Nat) (arr:Array Value),8*n / 256 ^ k=0→arr.size=s→(∀j,j < s→arr[j]?=some (.int .u8 ((if j=0 then 128 else if s - 1 - j < k then 8*n / 256 ^ (s - 1 - j)%256 else 0:Nat):Int)))→arr=(bl (pad false n)).toArray:=by
  intro k arr h0 hsz harr
  apply Array.ext_getElem?
  intro j
  by_cases hj:j < s
  ·rw[harr j hj]
   have hg:=pad_get false n j hn (by rw[←hs];exact hj)
   simp only[List.getElem?_toArray,bl_get,hg,Option.map_some]
   congr 3
   unfold padF
   rw[←hs]
   by_cases hj0:j=0
   ·rw[if_pos hj0,if_pos hj0]
   ·rw[if_neg hj0,if_neg hj0]
    by_cases hk:s - 1 - j < k
    ·rw[if_pos hk]
    ·rw[if_neg hk]
     have h1:8*n < 256 ^ k:=by
      rcases Nat.lt_or_ge (8*n) (256 ^ k) with h|h
      ·exact h
      ·have:=Nat.div_pos h (Nat.pow_pos (by decide));omega
     have h2:256 ^ k≤256 ^ (s - 1 - j):=Nat.pow_le_pow_right (by decide) (by omega)
     rw[Nat.div_eq_of_lt (by omega)]
  ·rw[Array.getElem?_eq_none (by omega)]
   have:(pad false n).length=s:=by rw[pad_length,hs]
   rw[Array.getElem?_eq_none]
   simpa[bl,this] using hj
 have HF:=Lib.hid hfin
 clear hs hfin hm
 have HR:=Lib.hid hr
 clear hr
 by_cases h:r < 1+64 / 8
 ·have e2:(r:Int)+64=(s:Int):=by rw[hs',if_pos h];omega
  have h':decide ((r:Int) < 9)=true:=by simp;omega
  clear hs' h
  go_enter Tryd.func100,Tryd.ntmps100
  go_wp2_with (first|(go_at_call 96;refine(known32 _).mono ?_;rintro e w' ⟨rfl,rfl⟩)|(go_at_call 105;refine(block32 _).mono ?_;rintro e w' ⟨rfl,rfl⟩))
  have E:=Lib.hid (And.intro e e2)
  clear e e2 hmk h' hm0
  go_loopw [9,10] (fun i l wr=>PadRel s n w i l wr) (fun _ l _=>(intOf l).toNat)
  case atStart =>
   refine⟨0,_,Nat.zero_le _,by simp,congrArg _ (by simp),by simp[size_madeCells],?_,rfl⟩
   intro j hj
   rw[Array.getElem?_setIfInBounds]
   by_cases h0:0=j
   ·subst h0;rw[if_pos rfl,if_pos (by rw[size_madeCells];exact hj),if_pos rfl];rfl
   ·rw[if_neg h0,if_neg (by omega),if_neg (by omega)]
    have:=toList_madeCells_one (.int .u8 0) s
    rw[←Array.getElem?_toList,this]
    simp[hj]
  case round =>
   obtain⟨k,arr,hk,rfl,rfl,hsz,harr,rfl⟩:=hrel
   have HSZ:=Lib.hid hsz
   have HARR:=Lib.hid harr
   have hL8:8*n < 256 ^ 3:=by omega
   obtain⟨L,hL⟩:∃L,L=8*n / 256 ^ k:=⟨_,rfl⟩
   have hstep:L / 256=8*n / 256 ^ (k+1):=by rw[hL,Nat.div_div_eq_div_mul,Nat.pow_succ]
   have hLk:0 < L→k < 3:=by
    intro h0
    rcases Nat.lt_or_ge k 3 with h|h
    ·exact h
    ·have h2:256 ^ 3≤256 ^ k:=Nat.pow_le_pow_right (by decide) h
     have h3:=Nat.div_eq_of_lt (show 8*n < 256 ^ k by omega)
     omega
   have hLb:L < 256 ^ 3:=by rw[hL];exact Nat.lt_of_le_of_lt (Nat.div_le_self _ _) hL8
   rw[←hL]
   have HL:=Lib.hid hL
   have HST:=Lib.hid hstep
   clear hsz harr hL hstep hL8
   by_cases hlt:0 < L
   ·have hk3:=hLk hlt
    clear hLk
    have hks:s - 1 - k < arr.size:=by rw[HSZ.out];omega
    have hc:(w.alloc (.cells arr 5)).cell? ⟨w.heap.size,s - 1 - k,none⟩=some arr[s - 1 - k]:=by
     have:=cell_of_row _ _ (s - 1 - k) arr 5 (0,0) (heap_alloc_new w (.cells arr 5))
     rw[Array.getElem?_eq_getElem hks] at this
     exact this
    have ei:((s:Int) - 1 - (k:Int))=((s - 1 - k:Nat):Int):=by omega
    have eb:IntKind.u8.wrap (L:Int)=((L%256:Nat):Int):=by rw[IntKind.wrap_u8];omega
    rw[ei]
    have hi1:s - 1 - k < s:=by omega
    have EI:=Lib.hid ei
    clear ei
    go_wp2_with fail
    go_roundw
    case rel =>
     refine⟨k+1,_,by omega,congrArg _ (by omega),?_,by rw[Array.size_setIfInBounds];exact HSZ.out,?_,rfl⟩
     ·rw[←HST.out];exact congrArg _ (by simp)
     ·intro j hj
      rw[Array.getElem?_setIfInBounds]
      by_cases hjk:s - 1 - k=j
      ·rw[if_pos hjk,if_pos (by rw[HSZ.out];omega),if_neg (by omega),show s - 1 - j=k by omega,if_pos (by omega),←HL.out]
       simp
      ·rw[if_neg hjk,HARR.out j hj]
       by_cases h0:j=0
       ·rw[if_pos h0,if_pos h0]
       ·rw[if_neg h0,if_neg h0]
        by_cases h1:s - 1 - j < k
        ·rw[if_pos h1,if_pos (by omega)]
        ·rw[if_neg h1,if_neg (by omega)]
    case measure=>simp[intOf];omega
   ·have hL0:L=0:=by omega
    clear hLk
    go_wp2_with fail
    go_ret2
    exact⟨rfl,by rw[HF.out k arr (by rw[←HL.out];exact hL0) HSZ.out HARR.out]⟩
 ·obtain rfl:s=r:=by rw[hs',if_neg h]
  have h':decide ((s:Int) < 9)=false:=by simp;omega
  clear hs' h
  go_enter Tryd.func100,Tryd.ntmps100
  go_wp2_with (first|(go_at_call 96;refine(known32 _).mono ?_;rintro e w' ⟨rfl,rfl⟩)|(go_at_call 105;refine(block32 _).mono ?_;rintro e w' ⟨rfl,rfl⟩))
  have E:=Lib.hid e
  clear e hmk h' hm0
  go_loopw [9,10] (fun i l wr=>PadRel s n w i l wr) (fun _ l _=>(intOf l).toNat)
  case atStart =>
   refine⟨0,_,Nat.zero_le _,by simp,congrArg _ (by simp),by simp[size_madeCells],?_,rfl⟩
   intro j hj
   rw[Array.getElem?_setIfInBounds]
   by_cases h0:0=j
   ·subst h0;rw[if_pos rfl,if_pos (by rw[size_madeCells];exact hj),if_pos rfl];rfl
   ·rw[if_neg h0,if_neg (by omega),if_neg (by omega)]
    have:=toList_madeCells_one (.int .u8 0) s
    rw[←Array.getElem?_toList,this]
    simp[hj]
  case round =>
   obtain⟨k,arr,hk,rfl,rfl,hsz,harr,rfl⟩:=hrel
   have HSZ:=Lib.hid hsz
   have HARR:=Lib.hid harr
   have hL8:8*n < 256 ^ 3:=by omega
   obtain⟨L,hL⟩:∃L,L=8*n / 256 ^ k:=⟨_,rfl⟩
   have hstep:L / 256=8*n / 256 ^ (k+1):=by rw[hL,Nat.div_div_eq_div_mul,Nat.pow_succ]
   have hLk:0 < L→k < 3:=by
    intro h0
    rcases Nat.lt_or_ge k 3 with h|h
    ·exact h
    ·have h2:256 ^ 3≤256 ^ k:=Nat.pow_le_pow_right (by decide) h
     have h3:=Nat.div_eq_of_lt (show 8*n < 256 ^ k by omega)
     omega
   have hLb:L < 256 ^ 3:=by rw[hL];exact Nat.lt_of_le_of_lt (Nat.div_le_self _ _) hL8
   rw[←hL]
   have HL:=Lib.hid hL
   have HST:=Lib.hid hstep
   clear hsz harr hL hstep hL8
   by_cases hlt:0 < L
   ·have hk3:=hLk hlt
    clear hLk
    have hks:s - 1 - k < arr.size:=by rw[HSZ.out];omega
    have hc:(w.alloc (.cells arr 5)).cell? ⟨w.heap.size,s - 1 - k,none⟩=some arr[s - 1 - k]:=by
     have:=cell_of_row _ _ (s - 1 - k) arr 5 (0,0) (heap_alloc_new w (.cells arr 5))
     rw[Array.getElem?_eq_getElem hks] at this
     exact this
    have ei:((s:Int) - 1 - (k:Int))=((s - 1 - k:Nat):Int):=by omega
    have eb:IntKind.u8.wrap (L:Int)=((L%256:Nat):Int):=by rw[IntKind.wrap_u8];omega
    rw[ei]
    have hi1:s - 1 - k < s:=by omega
    have EI:=Lib.hid ei
    clear ei
    go_wp2_with fail
    go_roundw
    case rel =>
     refine⟨k+1,_,by omega,congrArg _ (by omega),?_,by rw[Array.size_setIfInBounds];exact HSZ.out,?_,rfl⟩
     ·rw[←HST.out];exact congrArg _ (by simp)
     ·intro j hj
      rw[Array.getElem?_setIfInBounds]
      by_cases hjk:s - 1 - k=j
      ·rw[if_pos hjk,if_pos (by rw[HSZ.out];omega),if_neg (by omega),show s - 1 - j=k by omega,if_pos (by omega),←HL.out]
       simp
      ·rw[if_neg hjk,HARR.out j hj]
       by_cases h0:j=0
       ·rw[if_pos h0,if_pos h0]
       ·rw[if_neg h0,if_neg h0]
        by_cases h1:s - 1 - j < k
        ·rw[if_pos h1,if_pos (by omega)]
        ·rw[if_neg h1,if_neg (by omega)]
    case measure=>simp[intOf];omega
   ·have hL0:L=0:=by omega
    clear hLk
    go_wp2_with fail
    go_ret2
    exact⟨rfl,by rw[HF.out k arr (by rw[←HL.out];exact hL0) HSZ.out HARR.out]⟩
end Go.Proofs.YtnnfpmebopgogaaDoor.Sh
namespace Go.Proofs.YtnnfpmebopgogaaDoor.Sh
open Go.RowKit Go.Proofs.YtnnfpmebopgogaaDoor.Gn Go.Deep
attribute [local go_sem ↓] Go.wp_at_zero Go.wp_at_succ
theorem byte_step(X t:Nat):X / 256 ^ t / 256=X / 256 ^ (t+1):=by rw[Nat.div_div_eq_div_mul,Nat.pow_succ]
theorem dsize32(w:World):Calls Tryd.prog 107 #[.int .i64 256] w fun e w'=>e=.returned (.int .i64 32)∧w=w':=by
 go_enter Tryd.func107,Tryd.ntmps107
 go_wp2
 go_ret
 exact⟨rfl,rfl⟩
def D132(ws:List Nat)(w:World)(i:Value)(wr:World):Prop :=
 ∃(k:Nat) (arr:Array Value),k≤8∧i=.int .i64 (k:Int)∧arr.size=32∧(∀p,p < 32→arr[p]?=some (.int .u8 ((if p < k*4 then byA ws 4 p else 0:Nat):Int)))∧wr=w.alloc (.cells arr 5)
def D232(ws:List Nat)(k X:Nat)(w:World)(x j:Value)(wr:World):Prop :=
 ∃(t:Nat) (arr:Array Value),t≤4∧x=.int .u64 ((X / 256 ^ t:Nat):Int)∧j=.int .i64 (4 - 1 - (t:Int))∧arr.size=32∧(∀p,p < 32→arr[p]?=some (.int .u8 ((if p < k*4∨(p < k*4+4∧k*4+4≤p+t) then byA ws 4 p else 0:Nat):Int)))∧wr=w.alloc (.cells arr 5)
set_option maxRecDepth 100000 in
set_option maxHeartbeats 1000000 in
theorem digest32_any(g n:Nat)(ws rs:List Nat)(hw:ws.length=8)(hr:rs.length=128)(hwl:∀x∈ws,x < 18446744073709551616)(w:World)(hb:Bl w g 121 (hc false n ws rs).toArray) :
  Calls Tryd.prog 102 #[.pointer (some ⟨g,0,none⟩)] w fun e w'=>e=.returned (.slice (some ⟨w.heap.size,0,none⟩) 32 32)∧w'=w.alloc (.cells (bl (ws.flatMap fun x=>be x 4)).toArray 5):=by
 have hmk:∀w,(Instr.makeSlice 22 (.int .i64 32) (.int .i64 32)).run Tryd.prog w=.ok (.slice (some ⟨w.heap.size,0,none⟩) 32 32) (w.alloc (.cells (madeCells #[.int .u8 0] 32) 5)) :=
  fun w=>run_make_row' (P:=Tryd.prog) 22 5 (.int .u8 0) 1 Tryd.underlying22 infob rfl .i64 .i64 32 (by omega) (by omega) w
 have HB:=Lib.hid hb
 have b0:w.cell? ⟨g,0,none⟩=some (.int .i64 256):=hb.cell_ rfl
 have hgl:=hb.lt
 have hex:(hc false n ws rs).toArray.extract 2 (2+8)=al .u64 ws:=by
  obtain⟨x0,x1,x2,x3,x4,x5,x6,x7,rfl⟩:=eight_of hw
  simp[hc,al]
 have HEX:=Lib.hid hex
 have HSZ:=Lib.hid (hc_size false n ws rs hw hr)
 have HW:=Lib.hid hw
 have HWL:=Lib.hid hwl
 clear hb hex hw hr hwl
 obtain⟨aw,haw⟩:∃a,a=al .u64 ws:=⟨_,rfl⟩
 rw[←haw] at HEX
 have HAW:=Lib.hid haw
 clear haw
 go_enter Tryd.func102,Tryd.ntmps102
 go_wp2_with (first|(go_at_call 107;refine(dsize32 _).mono ?_;rintro e w' ⟨rfl,rfl⟩)|(refine wpList_load_bl rfl 118 _ rfl g 2 8 rfl 121 _ (HB.out.below' ((Below.refl _ _).alloc (Nat.le_refl _) _)) _ (by rw[HSZ.out];decide) aw HEX.out Tryd.underlying118 rfl eightq ?_))
 go_loopw [21] (fun i wr=>D132 ws w i wr) (fun i _=>8 - (intOf i).toNat)
 case atStart =>
  refine⟨0,_,Nat.zero_le _,rfl,size_madeCells _ _,?_,rfl⟩
  intro p hp
  rw[if_neg (by omega),←Array.getElem?_toList,toList_madeCells_one,List.getElem?_replicate,if_pos hp]
  rfl
 case round =>
  obtain⟨k,arr,hk,rfl,hsz,harr,rfl⟩:=hrel
  have H1:=Lib.hid hsz
  have H2:=Lib.hid harr
  clear hsz harr
  by_cases hlt:k < 8
  ·obtain⟨X,hX⟩:∃X,X=ws.getD k 0:=⟨_,rfl⟩
   have hXl:X < 18446744073709551616:=by
    rw[hX]
    have hkl:k < ws.length:=by rw[HW.out];exact hlt
    rw[List.getD_eq_getElem?_getD,List.getElem?_eq_getElem hkl]
    exact HWL.out _ (List.getElem_mem _)
   have hidx:=run_index_agg Tryd.underlying118 Tryd.underlying97 info_u64 aw k (.int .u64 (X:Int)) hlt (by rw[HAW.out,al_get _ _ _ (by rw[HW.out];exact hlt),←hX])
   have HX:=Lib.hid hX
   have HXL:=Lib.hid hXl
   clear hX hXl
   go_wp2_with fail
   clear hidx
   go_loopw [6,7] (fun x j wr=>D232 ws k X w x j wr) (fun _ j _=>(intOf j+1).toNat)
   case atStart =>
    refine⟨0,arr,Nat.zero_le _,congrArg _ (by simp),congrArg _ (by simp),H1.out,?_,rfl⟩
    intro p hp
    rw[H2.out p hp]
    by_cases h:p < k*4
    ·rw[if_pos h,if_pos (.inl h)]
    ·rw[if_neg h,if_neg (by omega)]
   case round =>
    obtain⟨t,ar2,ht,rfl,rfl,hsz,harr,rfl⟩:=hrel
    have G1:=Lib.hid hsz
    have G2:=Lib.hid harr
    clear hsz harr
    by_cases htl:t < 4
    ·obtain⟨u,hu⟩:∃u,u=4 - 1 - t:=⟨_,rfl⟩
     have ej:(4 - 1 - (t:Int))=(u:Int):=by omega
     rw[ej]
     have hu4:u < 4:=by omega
     obtain⟨p,hp⟩:∃p,p=k*4+u:=⟨_,rfl⟩
     have ep:(k:Int)*4+(u:Int)=(p:Int):=by omega
     have hp32:p < 32:=by omega
     obtain⟨L,hL⟩:∃L,L=X / 256 ^ t:=⟨_,rfl⟩
     rw[←hL]
     have hLl:L < 18446744073709551616:=by rw[hL];exact Nat.lt_of_le_of_lt (Nat.div_le_self _ _) HXL.out
     have hL2:L / 256=X / 256 ^ (t+1):=by rw[hL,byte_step]
     have eb:IntKind.u8.wrap (L:Int)=((L%256:Nat):Int):=by rw[IntKind.wrap_u8];omega
     have HU:=Lib.hid (And.intro hu hp)
     have HLL:=Lib.hid hLl
     have HL:=Lib.hid hL
     have HL2:=Lib.hid hL2
     have EJ:=Lib.hid ej
     have hps:p < ar2.size:=by rw[G1.out];exact hp32
     have hc:(w.alloc (.cells ar2 5)).cell? ⟨w.heap.size,p,none⟩=some ar2[p]:=by
      have:=cell_of_row _ _ p ar2 5 (0,0) (heap_alloc_new w (.cells ar2 5))
      rw[Array.getElem?_eq_getElem hps] at this
      exact this
     clear hu hp hL hL2 hLl ej
     go_wp2_with fail
     go_roundw
     case rel =>
      obtain⟨hu,hp⟩:=HU.out
      refine⟨t+1,_,by omega,?_,congrArg _ (by omega),by rw[Array.size_setIfInBounds];exact G1.out,?_,rfl⟩
      ·rw[←HL2.out];exact congrArg _ (by simp)
      ·intro q hq
       rw[Array.getElem?_setIfInBounds]
       by_cases hpq:p=q
       ·subst hpq
        rw[if_pos rfl,if_pos hps,if_pos (.inr ⟨by omega,by omega⟩)]
        have e1:p / 4=k:=by omega
        have e2:p%4=u:=by omega
        have e3:4 - 1 - u=t:=by omega
        unfold byA
        rw[e1,e2,e3,←HX.out,←HL.out]
        simp
       ·rw[if_neg hpq,G2.out q hq]
        by_cases h:q < k*4∨q < k*4+4∧k*4+4≤q+t
        ·rw[if_pos h,if_pos (by omega)]
        ·rw[if_neg h,if_neg (by omega)]
     case measure=>simp[intOf]
    ·obtain rfl:t=4:=by omega
     have ej:((4:Int) - 1 - ((4:Nat):Int))=-1:=by omega
     rw[ej]
     clear ej
     go_wp2_with fail
     go_roundw
     case rel =>
      refine⟨k+1,ar2,by omega,by go_num,G1.out,?_,rfl⟩
      intro q hq
      rw[G2.out q hq]
      by_cases h:q < (k+1)*4
      ·rw[if_pos h,if_pos (by omega)]
      ·rw[if_neg h,if_neg (by omega)]
     case measure=>simp[intOf];omega
  ·obtain rfl:k=8:=by omega
   go_wp2_with fail
   go_ret
   refine⟨rfl,?_⟩
   congr 2
   apply Array.ext_getElem?
   intro q
   have hfl:=flat_length ws 4
   rw[HW.out] at hfl
   by_cases hq:q < 32
   ·rw[H2.out q hq,if_pos (by omega)]
    simp only[List.getElem?_toArray,bl_get,flat_get ws 4 q (by decide) (by rw[HW.out];exact hq),Option.map_some]
   ·rw[Array.getElem?_eq_none (by rw[H1.out];omega),Array.getElem?_eq_none]
    simp[bl,hfl];omega
end Go.Proofs.YtnnfpmebopgogaaDoor.Sh
