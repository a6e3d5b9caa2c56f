/- Joined texts. -/
import Derived.IntWalk
import Derived.Test.YtoibhnpmemnlfaaGreatDoorQtEdI
import Derived.Test.YtoibhnpmemnlfaaGreatDoorQtEdPts
set_option linter.unusedVariables false
namespace Go.Proofs.YtoibhnpmemnlfaaGreatDoor.Ed
open Go.RowKit Go.Proofs.YtoibhnpmemnlfaaGreatDoor.Gn Go.Proofs.YtoibhnpmemnlfaaGreatDoor.Fd Go.Deep
def CloneQ(l:List Nat)(w:World)(e:Ending)(w':World):Prop :=
 ∃(g cap:Nat) (cur:Array Value),e=.returned (.slice (some ⟨g,0,none⟩) l.length cap)∧Bl w' g 5 cur∧l.length≤cap∧l.length≤cur.size∧cur.toList.take l.length=bl l∧w.heap.size≤g∧Below w.heap.size w w'
theorem own_cur{w:World}{base:Nat}{e:TypeId}{v:Value}{n:Nat}{xs:List Value}(h:w.ownsRow base e 1 v n xs)(hn:0 < n) :
  ∃g cap cur,v=.slice (some ⟨g,0,none⟩) n cap∧Bl w g e cur∧n≤cap∧n≤cur.size∧cur.toList.take n=xs∧base≤g:=by
 obtain⟨hl,h2⟩:=h
 rcases h2 with⟨rfl,rfl⟩|⟨g,cap,cur,rfl,hb,hh,hn2,hm,hc,hx⟩
 ·simp at hl;omega
 ·exact⟨g,cap,cur,rfl,hh,by omega,by omega,(by rw[Nat.mul_one] at hx;exact hx),hb⟩
set_option maxRecDepth 100000 in
set_option maxHeartbeats 4000000 in
theorem Clone_any(A:Option Addr)(n c:Nat)(l:List Nat)(w:World)(h0:0 < n)(hn:n≤1000)(hc:n≤c)(hs:Sl w A n (bl l)) :
  Calls Tryz.prog 28 #[.slice A n c] w (CloneQ l w):=by
 have hln:l.length=n:=by simpa[bl] using hs.1
 obtain⟨ad,hA,-⟩:=hs.at_ h0
 subst hA
 obtain⟨i0,hi,hz0,hz1,hz2⟩:=info_parts infob
 go_enter Tryz.func28,Tryz.ntmps28
 go_upto_region 1 with(fail)
 refine wp_region_lit ?_
 refine sq_run (.slice (some ad) n c) rfl (by kernel_rfl) ?_
 refine sq_run (.bool false) rfl (by kernel_rfl) ?_
 refine sq_done ?_
 simp only[Act.put,List.setIfInBounds_toArray,List.set_cons_zero,List.set_cons_succ]
 go_upto_region 3 with(fail)
 refine wp_region_lit ?_
 refine sq_new (w.alloc (.cells #[] 5)) (.slice (some ⟨w.heap.size,0,none⟩) 0 0) rfl (by kernel_rfl) ?_
 refine sq_run (.slice (some ad) n c) rfl (by kernel_rfl) ?_
 refine wpList_append_sl rfl (.tmp 5) (.tmp 6) 22 rfl w.heap.size 5 i0 _ (8 / 8) Tryz.underlying22 hi hz0 hz1 hz2 rfl (.slice (some ⟨w.heap.size,0,none⟩) 0 0) 0 [] rfl (own_new w 5 [] (by decide)) (some ad) n c (bl l) rfl (by simp) (hs.below ((Below.refl _ _).alloc (Nat.le_refl _) _)) (bl_one _) (by unfold maxLen;omega) (by omega) (by simp) ?_
 intro v' w1 hown hgrow
 rw[Nat.zero_add,List.nil_append] at hown
 obtain⟨g,cap,cur,rfl,hb,h1,h2,h3,h4⟩:=own_cur hown h0
 have hB:Below w.heap.size w w1:=((Below.refl w.heap.size w).alloc (Nat.le_refl _) (.cells #[] 5)).grown hgrow (by simp) (by intro k e;simp[Value.ownBlock] at e;omega)
 refine sq_run (.slice (some ⟨g,0,none⟩) n cap) rfl (by kernel_rfl) ?_
 refine sq_done ?_
 simp only[Act.put,List.setIfInBounds_toArray,List.set_cons_zero,List.set_cons_succ]
 go_wp2_with fail
 go_ret
 exact⟨g,cap,cur,by rw[hln];rfl,hb,by omega,by omega,by rw[hln];exact h3,h4,hB⟩
theorem and128:∀b:Nat,b < 256→bits .and .u8 (b:Int) 128=((b / 128*128:Nat):Int):=by decide +kernel
theorem o_and128(w:World)(b:Nat)(h:b < 256):(binOp .and 5 (.int .u8 (b:Int)) (.int .u8 128)).run Tryz.prog w=.ok (.int .u8 ((b / 128*128:Nat):Int)) w:=by
 have:=and128 b h
 go_simp
 try simpa using this
theorem andn128:∀b:Nat,b < 256→bits .andNot .u8 (b:Int) 128=((b%128:Nat):Int):=by decide +kernel
theorem o_andn128(w:World)(b:Nat)(h:b < 256):(binOp .andNot 5 (.int .u8 (b:Int)) (.int .u8 128)).run Tryz.prog w=.ok (.int .u8 ((b%128:Nat):Int)) w:=by
 have:=andn128 b h
 go_simp
 try simpa using this
theorem o_neq8(w:World)(b:Nat)(q:Bool)(h:decide (128≤b)=q)(hb:b < 256):(binOp .neq 5 (.int .u8 ((b / 128*128:Nat):Int)) (.int .u8 0)).run Tryz.prog w=.ok (.bool q) w:=by
 obtain⟨c,hc⟩:∃c,b / 128=c:=⟨_,rfl⟩
 have:c=0∨c=1:=by omega
 rw[hc]
 rcases this with rfl|rfl
 ·have:q=false:=by rw[←h];simp;omega
  subst this
  rfl
 ·have:q=true:=by rw[←h];simp;omega
  subst this
  rfl
def low(l:List Nat):List Nat:=l.set 31 (l.getD 31 0%128)
theorem cacross{y:K}{r:Nat}(w:World)(tab:TabE w)(h:acr y=some r):Calls Tryz.prog 30 #[.agg y.v] w fun e w'=>e=.returned (.tuple #[.agg (kof r).v,.bool true])∧Below w.heap.size w w':=by
 refine across_walk y (kmul y y) (au y) (kmul kd (kmul y y)) (av y) kd (kof r) true w tab (csq y) (csub _ _) (cmul _ _) (cadd _ _) (fun w tab=>?_) (fun z hz=>c5_range kd_v (tab.below hz).d)
 refine(Root_any (au y).1 (av y).1 w (au y).2 (av y).2 tab.im).mono ?_
 rintro e w' ⟨he,hb⟩
 have h':rt (au y).1.val (av y).1.val=some r:=h
 rw[h'] at he
 refine⟨?_,hb⟩
 rw[kof_v,Nat.mod_eq_of_lt (acr_lt h).1]
 exact he
theorem nacross{y:K}(w:World)(tab:TabE w)(h:acr y=none):Calls Tryz.prog 30 #[.agg y.v] w fun e w'=>e=.returned (.tuple #[.agg ke.v,.bool false])∧Below w.heap.size w w':=by
 refine across_walk y (kmul y y) (au y) (kmul kd (kmul y y)) (av y) kd ke false w tab (csq y) (csub _ _) (cmul _ _) (cadd _ _) (fun w tab=>?_) (fun z hz=>c5_range kd_v (tab.below hz).d)
 refine(Root_any (au y).1 (av y).1 w (au y).2 (av y).2 tab.im).mono ?_
 rintro e w' ⟨he,hb⟩
 have h':rt (au y).1.val (av y).1.val=none:=h
 rw[h'] at he
 exact⟨he,hb⟩
theorem set_take{cur:Array Value}{l:List Nat}(h:cur.toList.take 32=bl l)(hl:l.length=32)(x:Nat)(k:Nat)(v:Value)(hv:(bl (l.set 31 x))[k]?=some v):(cur.setIfInBounds 31 (.int .u8 (x:Int)))[0+k]?=some v:=by
 rw[Nat.zero_add]
 have hk:k < 32:=by
  have:=(List.getElem?_eq_some_iff.1 hv).1
  simpa[bl,hl] using this
 have hcs:32≤cur.size:=by
  have:=congrArg List.length h
  simp[bl,hl] at this
  omega
 rw[bl_get,List.getElem?_set] at hv
 rw[Array.getElem?_setIfInBounds]
 by_cases e:31=k
 ·subst e
  rw[if_pos rfl,if_pos (by omega)]
  rw[if_pos rfl,if_pos (by omega)] at hv
  exact hv
 ·rw[if_neg e]
  rw[if_neg e] at hv
  have:=congrArg (fun z=>z[k]?) h
  simp only[List.getElem?_take,if_pos hk,bl_get] at this
  rw[←hv,←this]
  simp
set_option maxRecDepth 100000 in
set_option maxHeartbeats 4000000 in
theorem Dec_bad(A:Option Addr)(c:Nat)(l:List Nat)(w:World)(tab:TabE w)(hc:32≤c)(hl:∀x∈l,x < 256)(hs:Sl w A 32 (bl l))(odd:Bool)(ho:decide (128≤l.getD 31 0)=odd)(hm:¬le (low l) < pp) :
  Calls Tryz.prog 10 #[.slice A 32 c] w (NoP 40 w):=by
 have hln:l.length=32:=by simpa[bl] using hs.1
 have hlow:∀x∈low l,x < 256:=by
  intro x hx
  rcases List.mem_or_eq_of_mem_set hx with h1|h1
  ·exact hl x h1
  ·omega
 obtain⟨x,hx⟩:∃x,l.getD 31 0=x:=⟨_,rfl⟩
 have hx256:x < 256:=by rw[←hx,List.getD_eq_getElem?_getD,List.getElem?_eq_getElem (by omega)];exact hl _ (List.getElem_mem _)
 have hxl:(bl l)[31]?=some (.int .u8 (x:Int)):=by rw[bl_get,←hx,List.getD_eq_getElem?_getD,List.getElem?_eq_getElem (by omega)];rfl
 have elow:low l=l.set 31 (x%128):=by unfold low;rw[hx]
 have HLO:=Lib.hid hlow
 obtain⟨m,hmm⟩:∃m,le (low l)=m:=⟨_,rfl⟩
 rw[hmm] at hm
 have HM:=Lib.hid hm
 have HMM:=Lib.hid hmm
 have HEL:=Lib.hid elow
 rw[hx] at ho
 have HO:=Lib.hid ho
 have TB:=Lib.hid tab
 obtain⟨ad,hA,hcell⟩:=hs.at_ (show 31 < 32 by decide)
 subst hA
 rw[hxl] at hcell
 have HXL:=Lib.hid hxl
 have HS:=Lib.hid hs
 have HCE:=Lib.hid hcell
 clear hm hmm elow ho tab hlow hx hl hxl hs hcell
 go_enter Tryz.func10,Tryz.ntmps10
 go_upto_region 1 with(fail)
 refine at_box1 _ _ _ ?_
 intro W0 B0 D0 hs0
 refine wp_region_lit ?_
 refine sq_run (.slice (some ad) 32 c) rfl (by kernel_rfl) ?_
 refine sq_run (.int .i64 32) rfl (by kernel_rfl) ?_
 refine sq_run (.bool false) rfl (by kernel_rfl) ?_
 refine sq_done ?_
 simp only[Act.put,List.setIfInBounds_toArray,List.set_cons_zero,List.set_cons_succ]
 go_upto_region 3 with(fail)
 refine wp_region_lit ?_
 refine sq_run (.slice (some ad) 32 c) rfl (by kernel_rfl) ?_
 refine sq_run (.pointer (some (ad.add 31))) rfl (by kernel_rfl) ?_
 refine sq_cell (ad.add 31) (.int .u8 (x:Int)) (keepc D0 HCE.out) 5 (.tmp 14) rfl rfl (by kernel_rfl) Tryz.underlying5 rfl ?_
 refine sq_run (.int .u8 ((x / 128*128:Nat):Int)) rfl (run_bin_op .and 5 (.tmp 15) (.const (.int .u8 128)) _ rfl (.int .u8 (x:Int)) (.int .u8 128) (.int .u8 ((x / 128*128:Nat):Int)) (by kernel_rfl) (by kernel_rfl) (by kernel_rfl) (o_and128 _ x hx256)) ?_
 refine sq_run (.bool odd) rfl (run_bin_op .neq 5 (.tmp 16) (.const (.int .u8 0)) _ rfl (.int .u8 ((x / 128*128:Nat):Int)) (.int .u8 0) (.bool odd) (by kernel_rfl) (by kernel_rfl) (by kernel_rfl) (o_neq8 _ x odd HO.out hx256)) ?_
 refine sq_run (.bool odd) rfl (by kernel_rfl) ?_
 refine sq_done ?_
 simp only[Act.put,List.setIfInBounds_toArray,List.set_cons_zero,List.set_cons_succ]
 go_upto_region 4 with(fail)
 refine wp_region_lit ?_
 refine sq_run (.slice (some ad) 32 c) rfl (by kernel_rfl) ?_
 refine sq_enter 28 #[.slice (some ad) 32 c] rfl (by kernel_rfl) ((Clone_any (some ad) 32 c l _ (by decide) (by decide) hc (HS.out.below D0)).mono ?_)
 rintro e W1 ⟨g,cap,cur,rfl,C1,hcap,hcur,htake,hg,E1⟩
 refine⟨_,rfl,?_⟩
 rw[hln] at hcap hcur htake ⊢
 refine sq_run (.slice (some ⟨g,0,none⟩) 32 cap) rfl (by kernel_rfl) ?_
 refine sq_done ?_
 simp only[Act.put,List.setIfInBounds_toArray,List.set_cons_zero,List.set_cons_succ]
 have D1:=below_nx D0 (Nat.le_refl _) E1
 have B1:=B0.below' E1
 have GG:=Lib.hid (show w.heap.size+1≤g by omega)
 have hcx:cur[31]?=some (.int .u8 (x:Int)):=by
  have:=congrArg (fun z=>z[31]?) htake
  simp only[List.getElem?_take,HXL.out] at this
  simpa using this
 have HT:=Lib.hid htake
 have HLN:=Lib.hid hln
 clear D0 B0 E1 hg htake hln hs0
 go_upto_region 5 with(fail)
 refine wp_region_lit ?_
 refine sq_run (.slice (some ⟨g,0,none⟩) 32 cap) rfl (by kernel_rfl) ?_
 refine sq_run (.pointer (some ⟨g,31,none⟩)) rfl (by kernel_rfl) ?_
 refine sq_cell ⟨g,31,none⟩ (.int .u8 (x:Int)) (C1.cell_ hcx) 5 (.tmp 21) rfl rfl (by kernel_rfl) Tryz.underlying5 rfl ?_
 refine sq_run (.int .u8 ((x%128:Nat):Int)) rfl (run_bin_op .andNot 5 (.tmp 22) (.const (.int .u8 128)) _ rfl (.int .u8 (x:Int)) (.int .u8 128) (.int .u8 ((x%128:Nat):Int)) (by kernel_rfl) (by kernel_rfl) (by kernel_rfl) (o_andn128 _ x hx256)) ?_
 refine sq_run (.pointer (some ⟨g,31,none⟩)) rfl (by kernel_rfl) ?_
 refine sq_put g 31 _ _ C1 (.int .u8 ((x%128:Nat):Int)) 5 (.tmp 24) (.tmp 23) rfl rfl (by kernel_rfl) (by kernel_rfl) rfl (by omega) size8 rfl fun W2 C2 G2=>?_
 refine sq_done ?_
 simp only[Act.put,List.setIfInBounds_toArray,List.set_cons_zero,List.set_cons_succ]
 have D2:=below_only (g:=g) D1 G2 (by have:=GG.out;omega)
 have B2:=B1.grown G2 (by simp only[ne_eq,Option.some.injEq];have:=GG.out;omega)
 have SL:=Sl.of_bl C2 0 32 (bl (low l)) (by rw[HEL.out];simp[bl,HLN.out]) (fun k v hv=>set_take HT.out HLN.out (x%128) k v (by rw[←HEL.out];exact hv))
 clear C1 C2 D1 B1 G2 hcx
 go_upto_region 6 with(fail)
 refine wp_region_lit ?_
 refine sq_run (.slice (some ⟨g,0,none⟩) 32 cap) rfl (by kernel_rfl) ?_
 refine sq_enter 29 #[.slice (some ⟨g,0,none⟩) 32 cap] rfl (by kernel_rfl) ((decode_any (some ⟨g,0,none⟩) cap (low l) _ HLO.out SL).mono ?_)
 rintro e W3 ⟨he,E3⟩
 rw[HMM.out] at he
 unfold DecP at he
 rw[if_neg HM.out] at he
 obtain rfl:e=.returned (.tuple #[.agg (K.v ke),.int .i64 30]):=he
 refine⟨_,rfl,?_⟩
 have D3:=below_nx D2 (Nat.le_refl _) E3
 have B3:=B2.below' E3
 clear D2 B2 E3 SL
 refine sq_run (.tuple #[.agg (K.v ke),.int .i64 30]) rfl (by kernel_rfl) ?_
 refine sq_run (.agg (K.v ke)) rfl (by kernel_rfl) ?_
 refine sq_run (.int .i64 30) rfl (by kernel_rfl) ?_
 refine sq_new (W3.alloc (.cells z5 31)) (.pointer (some ⟨W3.heap.size,0,none⟩)) rfl (by kernel_rfl) ?_
 have D4:=D3.alloc D3.size (.cells z5 31)
 have B4:=B3.alloc (.cells z5 31)
 have hz3:=D3.size
 obtain⟨q5,hq5⟩:∃q,W3.heap.size=q:=⟨_,rfl⟩
 have BN:=Bl.new_ W3 31 z5
 have B3l:=B3.lt
 rw[hq5] at BN hz3 B3l ⊢
 clear D3 B3 hq5
 refine sq_store q5 31 z5 (K.v ke) BN 31 (.tmp 5) (.tmp 28) rfl rfl (by kernel_rfl) (by kernel_rfl) (K.sz ke _) sizeE (K.ones _) fun W4 C4 G4=>?_
 have D5:=below_only (g:=q5) D4 G4 hz3
 have B5:=B4.grown G4 (by simp only[ne_eq,Option.some.injEq];omega)
 clear D4 B4 G4 BN
 refine sq_run (.int .i64 30) rfl (by kernel_rfl) ?_
 refine sq_done ?_
 simp only[Act.put,List.setIfInBounds_toArray,List.set_cons_zero,List.set_cons_succ]
 go_upto_region 7 with(fail)
 refine wp_region_lit ?_
 refine sq_run (.int .i64 30) rfl (by kernel_rfl) ?_
 refine sq_run (.bool true) rfl (by kernel_rfl) ?_
 refine sq_done ?_
 simp only[Act.put,List.setIfInBounds_toArray,List.set_cons_zero,List.set_cons_succ]
 go_upto_region 8 with(fail)
 refine wp_region_lit ?_
 refine sq_run (.agg z20) rfl (by kernel_rfl) ?_
 refine sq_store w.heap.size 33 z20 z20 B5 33 (.tmp 2) (.tmp 32) rfl rfl (by kernel_rfl) (by kernel_rfl) rfl sizeP z20_ones fun W9 C9 G9=>?_
 refine sq_run (.int .i64 40) rfl (by kernel_rfl) ?_
 refine sq_done ?_
 simp only[Act.put,List.setIfInBounds_toArray,List.set_cons_zero,List.set_cons_succ]
 have HF:=Lib.hid C9
 have hz:=below_only (g:=w.heap.size) D5 G9 (Nat.le_refl _)
 go_wp2_with fail
 refine bodyPost_ret (v:=.tuple #[.agg z20,.int .i64 40]) (Gn.results_cell_tmp 2 33 3 (.int .i64 40) w.heap.size 33 z20 Tryz.results10 (by kernel_rfl) (by kernel_rfl) HF.out Tryz.underlying33 rfl sizeP) rfl ⟨rfl,hz⟩
set_option maxRecDepth 100000 in
set_option maxHeartbeats 4000000 in
theorem Dec_none(A:Option Addr)(c:Nat)(l:List Nat)(w:World)(tab:TabE w)(hc:32≤c)(hl:∀x∈l,x < 256)(hs:Sl w A 32 (bl l))(odd:Bool)(ho:decide (128≤l.getD 31 0)=odd)(hm:le (low l) < pp)(hr:acr (kof (le (low l)))=none) :
  Calls Tryz.prog 10 #[.slice A 32 c] w (NoP 40 w):=by
 have hln:l.length=32:=by simpa[bl] using hs.1
 have hlow:∀x∈low l,x < 256:=by
  intro x hx
  rcases List.mem_or_eq_of_mem_set hx with h1|h1
  ·exact hl x h1
  ·omega
 obtain⟨x,hx⟩:∃x,l.getD 31 0=x:=⟨_,rfl⟩
 have hx256:x < 256:=by rw[←hx,List.getD_eq_getElem?_getD,List.getElem?_eq_getElem (by omega)];exact hl _ (List.getElem_mem _)
 have hxl:(bl l)[31]?=some (.int .u8 (x:Int)):=by rw[bl_get,←hx,List.getD_eq_getElem?_getD,List.getElem?_eq_getElem (by omega)];rfl
 have elow:low l=l.set 31 (x%128):=by unfold low;rw[hx]
 have HLO:=Lib.hid hlow
 obtain⟨m,hmm⟩:∃m,le (low l)=m:=⟨_,rfl⟩
 rw[hmm] at hm
 rw[hmm] at hr
 have HR:=Lib.hid hr
 clear hr
 have HM:=Lib.hid hm
 have HMM:=Lib.hid hmm
 have HEL:=Lib.hid elow
 rw[hx] at ho
 have HO:=Lib.hid ho
 have TB:=Lib.hid tab
 obtain⟨ad,hA,hcell⟩:=hs.at_ (show 31 < 32 by decide)
 subst hA
 rw[hxl] at hcell
 have HXL:=Lib.hid hxl
 have HS:=Lib.hid hs
 have HCE:=Lib.hid hcell
 clear hm hmm elow ho tab hlow hx hl hxl hs hcell
 go_enter Tryz.func10,Tryz.ntmps10
 go_upto_region 1 with(fail)
 refine at_box1 _ _ _ ?_
 intro W0 B0 D0 hs0
 refine wp_region_lit ?_
 refine sq_run (.slice (some ad) 32 c) rfl (by kernel_rfl) ?_
 refine sq_run (.int .i64 32) rfl (by kernel_rfl) ?_
 refine sq_run (.bool false) rfl (by kernel_rfl) ?_
 refine sq_done ?_
 simp only[Act.put,List.setIfInBounds_toArray,List.set_cons_zero,List.set_cons_succ]
 go_upto_region 3 with(fail)
 refine wp_region_lit ?_
 refine sq_run (.slice (some ad) 32 c) rfl (by kernel_rfl) ?_
 refine sq_run (.pointer (some (ad.add 31))) rfl (by kernel_rfl) ?_
 refine sq_cell (ad.add 31) (.int .u8 (x:Int)) (keepc D0 HCE.out) 5 (.tmp 14) rfl rfl (by kernel_rfl) Tryz.underlying5 rfl ?_
 refine sq_run (.int .u8 ((x / 128*128:Nat):Int)) rfl (run_bin_op .and 5 (.tmp 15) (.const (.int .u8 128)) _ rfl (.int .u8 (x:Int)) (.int .u8 128) (.int .u8 ((x / 128*128:Nat):Int)) (by kernel_rfl) (by kernel_rfl) (by kernel_rfl) (o_and128 _ x hx256)) ?_
 refine sq_run (.bool odd) rfl (run_bin_op .neq 5 (.tmp 16) (.const (.int .u8 0)) _ rfl (.int .u8 ((x / 128*128:Nat):Int)) (.int .u8 0) (.bool odd) (by kernel_rfl) (by kernel_rfl) (by kernel_rfl) (o_neq8 _ x odd HO.out hx256)) ?_
 refine sq_run (.bool odd) rfl (by kernel_rfl) ?_
 refine sq_done ?_
 simp only[Act.put,List.setIfInBounds_toArray,List.set_cons_zero,List.set_cons_succ]
 go_upto_region 4 with(fail)
 refine wp_region_lit ?_
 refine sq_run (.slice (some ad) 32 c) rfl (by kernel_rfl) ?_
 refine sq_enter 28 #[.slice (some ad) 32 c] rfl (by kernel_rfl) ((Clone_any (some ad) 32 c l _ (by decide) (by decide) hc (HS.out.below D0)).mono ?_)
 rintro e W1 ⟨g,cap,cur,rfl,C1,hcap,hcur,htake,hg,E1⟩
 refine⟨_,rfl,?_⟩
 rw[hln] at hcap hcur htake ⊢
 refine sq_run (.slice (some ⟨g,0,none⟩) 32 cap) rfl (by kernel_rfl) ?_
 refine sq_done ?_
 simp only[Act.put,List.setIfInBounds_toArray,List.set_cons_zero,List.set_cons_succ]
 have D1:=below_nx D0 (Nat.le_refl _) E1
 have B1:=B0.below' E1
 have GG:=Lib.hid (show w.heap.size+1≤g by omega)
 have hcx:cur[31]?=some (.int .u8 (x:Int)):=by
  have:=congrArg (fun z=>z[31]?) htake
  simp only[List.getElem?_take,HXL.out] at this
  simpa using this
 have HT:=Lib.hid htake
 have HLN:=Lib.hid hln
 clear D0 B0 E1 hg htake hln hs0
 go_upto_region 5 with(fail)
 refine wp_region_lit ?_
 refine sq_run (.slice (some ⟨g,0,none⟩) 32 cap) rfl (by kernel_rfl) ?_
 refine sq_run (.pointer (some ⟨g,31,none⟩)) rfl (by kernel_rfl) ?_
 refine sq_cell ⟨g,31,none⟩ (.int .u8 (x:Int)) (C1.cell_ hcx) 5 (.tmp 21) rfl rfl (by kernel_rfl) Tryz.underlying5 rfl ?_
 refine sq_run (.int .u8 ((x%128:Nat):Int)) rfl (run_bin_op .andNot 5 (.tmp 22) (.const (.int .u8 128)) _ rfl (.int .u8 (x:Int)) (.int .u8 128) (.int .u8 ((x%128:Nat):Int)) (by kernel_rfl) (by kernel_rfl) (by kernel_rfl) (o_andn128 _ x hx256)) ?_
 refine sq_run (.pointer (some ⟨g,31,none⟩)) rfl (by kernel_rfl) ?_
 refine sq_put g 31 _ _ C1 (.int .u8 ((x%128:Nat):Int)) 5 (.tmp 24) (.tmp 23) rfl rfl (by kernel_rfl) (by kernel_rfl) rfl (by omega) size8 rfl fun W2 C2 G2=>?_
 refine sq_done ?_
 simp only[Act.put,List.setIfInBounds_toArray,List.set_cons_zero,List.set_cons_succ]
 have D2:=below_only (g:=g) D1 G2 (by have:=GG.out;omega)
 have B2:=B1.grown G2 (by simp only[ne_eq,Option.some.injEq];have:=GG.out;omega)
 have SL:=Sl.of_bl C2 0 32 (bl (low l)) (by rw[HEL.out];simp[bl,HLN.out]) (fun k v hv=>set_take HT.out HLN.out (x%128) k v (by rw[←HEL.out];exact hv))
 clear C1 C2 D1 B1 G2 hcx
 go_upto_region 6 with(fail)
 refine wp_region_lit ?_
 refine sq_run (.slice (some ⟨g,0,none⟩) 32 cap) rfl (by kernel_rfl) ?_
 refine sq_enter 29 #[.slice (some ⟨g,0,none⟩) 32 cap] rfl (by kernel_rfl) ((decode_any (some ⟨g,0,none⟩) cap (low l) _ HLO.out SL).mono ?_)
 rintro e W3 ⟨he,E3⟩
 rw[HMM.out] at he
 unfold DecP at he
 rw[if_pos HM.out] at he
 obtain rfl:e=.returned (.tuple #[.agg (K.v (kof m)),.int .i64 0]):=(by rw[kof_v,Nat.mod_eq_of_lt HM.out];exact he)
 refine⟨_,rfl,?_⟩
 have D3:=below_nx D2 (Nat.le_refl _) E3
 have B3:=B2.below' E3
 clear D2 B2 E3 SL
 refine sq_run (.tuple #[.agg (K.v (kof m)),.int .i64 0]) rfl (by kernel_rfl) ?_
 refine sq_run (.agg (K.v (kof m))) rfl (by kernel_rfl) ?_
 refine sq_run (.int .i64 0) rfl (by kernel_rfl) ?_
 refine sq_new (W3.alloc (.cells z5 31)) (.pointer (some ⟨W3.heap.size,0,none⟩)) rfl (by kernel_rfl) ?_
 have D4:=D3.alloc D3.size (.cells z5 31)
 have B4:=B3.alloc (.cells z5 31)
 have hz3:=D3.size
 obtain⟨q5,hq5⟩:∃q,W3.heap.size=q:=⟨_,rfl⟩
 have BN:=Bl.new_ W3 31 z5
 have B3l:=B3.lt
 rw[hq5] at BN hz3 B3l ⊢
 clear D3 B3 hq5
 refine sq_store q5 31 z5 (K.v (kof m)) BN 31 (.tmp 5) (.tmp 28) rfl rfl (by kernel_rfl) (by kernel_rfl) (K.sz ke _) sizeE (K.ones _) fun W4 C4 G4=>?_
 have D5:=below_only (g:=q5) D4 G4 hz3
 have B5:=B4.grown G4 (by simp only[ne_eq,Option.some.injEq];omega)
 clear D4 B4 G4 BN
 refine sq_run (.int .i64 0) rfl (by kernel_rfl) ?_
 refine sq_done ?_
 simp only[Act.put,List.setIfInBounds_toArray,List.set_cons_zero,List.set_cons_succ]
 go_upto_region 7 with(fail)
 refine wp_region_lit ?_
 refine sq_run (.int .i64 0) rfl (by kernel_rfl) ?_
 refine sq_run (.bool false) rfl (by kernel_rfl) ?_
 refine sq_done ?_
 simp only[Act.put,List.setIfInBounds_toArray,List.set_cons_zero,List.set_cons_succ]
 go_upto_region 9 with(fail)
 refine wp_region_lit ?_
 refine sq_load q5 0 5 31 (K.v (kof m)) C4 (K.v (kof m)) 31 (.tmp 5) rfl rfl (by kernel_rfl) (by kernel_rfl) (by kernel_rfl) Tryz.underlying31 rfl sizeE ?_
 refine sq_enter 30 #[.agg (K.v (kof m))] rfl (by kernel_rfl) ((nacross _ (TB.out.below D5) HR.out).mono ?_)
 rintro e W5 ⟨rfl,E5⟩
 refine⟨_,rfl,?_⟩
 have D6:=below_nx D5 (Nat.le_refl _) E5
 have B6:=B5.below' E5
 have C6:=C4.below' E5
 clear D5 B5 C4 E5
 refine sq_run (.tuple #[.agg (K.v ke),.bool false]) rfl (by kernel_rfl) ?_
 refine sq_run (.agg (K.v ke)) rfl (by kernel_rfl) ?_
 refine sq_run (.bool false) rfl (by kernel_rfl) ?_
 refine sq_new (W5.alloc (.cells z5 31)) (.pointer (some ⟨W5.heap.size,0,none⟩)) rfl (by kernel_rfl) ?_
 have D7:=D6.alloc D6.size (.cells z5 31)
 have B7:=B6.alloc (.cells z5 31)
 have C7:=C6.alloc (.cells z5 31)
 have hz5:=D6.size
 have C6l:=C6.lt
 have B6l:=B6.lt
 obtain⟨q7,hq7⟩:∃q,W5.heap.size=q:=⟨_,rfl⟩
 have BN:=Bl.new_ W5 31 z5
 rw[hq7] at BN hz5 C6l B6l ⊢
 clear D6 B6 C6 hq7
 refine sq_store q7 31 z5 (K.v ke) BN 31 (.tmp 7) (.tmp 36) rfl rfl (by kernel_rfl) (by kernel_rfl) (K.sz ke _) sizeE (K.ones _) fun W6 X6 G6=>?_
 have D8:=below_only (g:=q7) D7 G6 hz5
 have B8:=B7.grown G6 (by simp only[ne_eq,Option.some.injEq];omega)
 have C8:=C7.grown G6 (by simp only[ne_eq,Option.some.injEq];omega)
 clear D7 B7 C7 G6 BN
 refine sq_run (.bool false) rfl (by kernel_rfl) ?_
 refine sq_done ?_
 simp only[Act.put,List.setIfInBounds_toArray,List.set_cons_zero,List.set_cons_succ]
 go_upto_region 10 with(fail)
 refine wp_region_lit ?_
 refine sq_run (.bool false) rfl (by kernel_rfl) ?_
 refine sq_run (.bool true) rfl (by kernel_rfl) ?_
 refine sq_done ?_
 simp only[Act.put,List.setIfInBounds_toArray,List.set_cons_zero,List.set_cons_succ]
 go_upto_region 11 with(fail)
 refine wp_region_lit ?_
 refine sq_run (.agg z20) rfl (by kernel_rfl) ?_
 refine sq_store w.heap.size 33 z20 z20 B8 33 (.tmp 2) (.tmp 40) rfl rfl (by kernel_rfl) (by kernel_rfl) rfl sizeP z20_ones fun W9 C9 G9=>?_
 refine sq_run (.int .i64 40) rfl (by kernel_rfl) ?_
 refine sq_done ?_
 simp only[Act.put,List.setIfInBounds_toArray,List.set_cons_zero,List.set_cons_succ]
 have HF:=Lib.hid C9
 have hz:=below_only (g:=w.heap.size) D8 G9 (Nat.le_refl _)
 go_wp2_with fail
 refine bodyPost_ret (v:=.tuple #[.agg z20,.int .i64 40]) (Gn.results_cell_tmp 2 33 3 (.int .i64 40) w.heap.size 33 z20 Tryz.results10 (by kernel_rfl) (by kernel_rfl) HF.out Tryz.underlying33 rfl sizeP) rfl ⟨rfl,hz⟩
set_option maxRecDepth 100000 in
set_option maxHeartbeats 4000000 in
theorem Dec_even(A:Option Addr)(c:Nat)(l:List Nat)(w:World)(tab:TabE w)(hc:32≤c)(hl:∀x∈l,x < 256)(hs:Sl w A 32 (bl l))(r:Nat)(ho:decide (128≤l.getD 31 0)=false)(hm:le (low l) < pp)(hr:acr (kof (le (low l)))=some r) :
  Calls Tryz.prog 10 #[.slice A 32 c] w fun e w'=>e=.returned (.tuple #[.agg (kheld (sx 0 r) (kof (le (low l)))).v,.int .i64 0])∧Below w.heap.size w w':=by
 have hln:l.length=32:=by simpa[bl] using hs.1
 have hlow:∀x∈low l,x < 256:=by
  intro x hx
  rcases List.mem_or_eq_of_mem_set hx with h1|h1
  ·exact hl x h1
  ·omega
 obtain⟨x,hx⟩:∃x,l.getD 31 0=x:=⟨_,rfl⟩
 have hx256:x < 256:=by rw[←hx,List.getD_eq_getElem?_getD,List.getElem?_eq_getElem (by omega)];exact hl _ (List.getElem_mem _)
 have hxl:(bl l)[31]?=some (.int .u8 (x:Int)):=by rw[bl_get,←hx,List.getD_eq_getElem?_getD,List.getElem?_eq_getElem (by omega)];rfl
 have elow:low l=l.set 31 (x%128):=by unfold low;rw[hx]
 have HLO:=Lib.hid hlow
 obtain⟨m,hmm⟩:∃m,le (low l)=m:=⟨_,rfl⟩
 rw[hmm] at hm ⊢
 rw[hmm] at hr
 have HR:=Lib.hid hr
 clear hr
 have HM:=Lib.hid hm
 have HMM:=Lib.hid hmm
 have HEL:=Lib.hid elow
 rw[hx] at ho
 have HO:=Lib.hid ho
 have TB:=Lib.hid tab
 obtain⟨ad,hA,hcell⟩:=hs.at_ (show 31 < 32 by decide)
 subst hA
 rw[hxl] at hcell
 have HXL:=Lib.hid hxl
 have HS:=Lib.hid hs
 have HCE:=Lib.hid hcell
 clear hm hmm elow ho tab hlow hx hl hxl hs hcell
 go_enter Tryz.func10,Tryz.ntmps10
 go_upto_region 1 with(fail)
 refine at_box1 _ _ _ ?_
 intro W0 B0 D0 hs0
 refine wp_region_lit ?_
 refine sq_run (.slice (some ad) 32 c) rfl (by kernel_rfl) ?_
 refine sq_run (.int .i64 32) rfl (by kernel_rfl) ?_
 refine sq_run (.bool false) rfl (by kernel_rfl) ?_
 refine sq_done ?_
 simp only[Act.put,List.setIfInBounds_toArray,List.set_cons_zero,List.set_cons_succ]
 go_upto_region 3 with(fail)
 refine wp_region_lit ?_
 refine sq_run (.slice (some ad) 32 c) rfl (by kernel_rfl) ?_
 refine sq_run (.pointer (some (ad.add 31))) rfl (by kernel_rfl) ?_
 refine sq_cell (ad.add 31) (.int .u8 (x:Int)) (keepc D0 HCE.out) 5 (.tmp 14) rfl rfl (by kernel_rfl) Tryz.underlying5 rfl ?_
 refine sq_run (.int .u8 ((x / 128*128:Nat):Int)) rfl (run_bin_op .and 5 (.tmp 15) (.const (.int .u8 128)) _ rfl (.int .u8 (x:Int)) (.int .u8 128) (.int .u8 ((x / 128*128:Nat):Int)) (by kernel_rfl) (by kernel_rfl) (by kernel_rfl) (o_and128 _ x hx256)) ?_
 refine sq_run (.bool false) rfl (run_bin_op .neq 5 (.tmp 16) (.const (.int .u8 0)) _ rfl (.int .u8 ((x / 128*128:Nat):Int)) (.int .u8 0) (.bool false) (by kernel_rfl) (by kernel_rfl) (by kernel_rfl) (o_neq8 _ x false HO.out hx256)) ?_
 refine sq_run (.bool false) rfl (by kernel_rfl) ?_
 refine sq_done ?_
 simp only[Act.put,List.setIfInBounds_toArray,List.set_cons_zero,List.set_cons_succ]
 go_upto_region 4 with(fail)
 refine wp_region_lit ?_
 refine sq_run (.slice (some ad) 32 c) rfl (by kernel_rfl) ?_
 refine sq_enter 28 #[.slice (some ad) 32 c] rfl (by kernel_rfl) ((Clone_any (some ad) 32 c l _ (by decide) (by decide) hc (HS.out.below D0)).mono ?_)
 rintro e W1 ⟨g,cap,cur,rfl,C1,hcap,hcur,htake,hg,E1⟩
 refine⟨_,rfl,?_⟩
 rw[hln] at hcap hcur htake ⊢
 refine sq_run (.slice (some ⟨g,0,none⟩) 32 cap) rfl (by kernel_rfl) ?_
 refine sq_done ?_
 simp only[Act.put,List.setIfInBounds_toArray,List.set_cons_zero,List.set_cons_succ]
 have D1:=below_nx D0 (Nat.le_refl _) E1
 have B1:=B0.below' E1
 have GG:=Lib.hid (show w.heap.size+1≤g by omega)
 have hcx:cur[31]?=some (.int .u8 (x:Int)):=by
  have:=congrArg (fun z=>z[31]?) htake
  simp only[List.getElem?_take,HXL.out] at this
  simpa using this
 have HT:=Lib.hid htake
 have HLN:=Lib.hid hln
 clear D0 B0 E1 hg htake hln hs0
 go_upto_region 5 with(fail)
 refine wp_region_lit ?_
 refine sq_run (.slice (some ⟨g,0,none⟩) 32 cap) rfl (by kernel_rfl) ?_
 refine sq_run (.pointer (some ⟨g,31,none⟩)) rfl (by kernel_rfl) ?_
 refine sq_cell ⟨g,31,none⟩ (.int .u8 (x:Int)) (C1.cell_ hcx) 5 (.tmp 21) rfl rfl (by kernel_rfl) Tryz.underlying5 rfl ?_
 refine sq_run (.int .u8 ((x%128:Nat):Int)) rfl (run_bin_op .andNot 5 (.tmp 22) (.const (.int .u8 128)) _ rfl (.int .u8 (x:Int)) (.int .u8 128) (.int .u8 ((x%128:Nat):Int)) (by kernel_rfl) (by kernel_rfl) (by kernel_rfl) (o_andn128 _ x hx256)) ?_
 refine sq_run (.pointer (some ⟨g,31,none⟩)) rfl (by kernel_rfl) ?_
 refine sq_put g 31 _ _ C1 (.int .u8 ((x%128:Nat):Int)) 5 (.tmp 24) (.tmp 23) rfl rfl (by kernel_rfl) (by kernel_rfl) rfl (by omega) size8 rfl fun W2 C2 G2=>?_
 refine sq_done ?_
 simp only[Act.put,List.setIfInBounds_toArray,List.set_cons_zero,List.set_cons_succ]
 have D2:=below_only (g:=g) D1 G2 (by have:=GG.out;omega)
 have B2:=B1.grown G2 (by simp only[ne_eq,Option.some.injEq];have:=GG.out;omega)
 have SL:=Sl.of_bl C2 0 32 (bl (low l)) (by rw[HEL.out];simp[bl,HLN.out]) (fun k v hv=>set_take HT.out HLN.out (x%128) k v (by rw[←HEL.out];exact hv))
 clear C1 C2 D1 B1 G2 hcx
 go_upto_region 6 with(fail)
 refine wp_region_lit ?_
 refine sq_run (.slice (some ⟨g,0,none⟩) 32 cap) rfl (by kernel_rfl) ?_
 refine sq_enter 29 #[.slice (some ⟨g,0,none⟩) 32 cap] rfl (by kernel_rfl) ((decode_any (some ⟨g,0,none⟩) cap (low l) _ HLO.out SL).mono ?_)
 rintro e W3 ⟨he,E3⟩
 rw[HMM.out] at he
 unfold DecP at he
 rw[if_pos HM.out] at he
 obtain rfl:e=.returned (.tuple #[.agg (K.v (kof m)),.int .i64 0]):=(by rw[kof_v,Nat.mod_eq_of_lt HM.out];exact he)
 refine⟨_,rfl,?_⟩
 have D3:=below_nx D2 (Nat.le_refl _) E3
 have B3:=B2.below' E3
 clear D2 B2 E3 SL
 refine sq_run (.tuple #[.agg (K.v (kof m)),.int .i64 0]) rfl (by kernel_rfl) ?_
 refine sq_run (.agg (K.v (kof m))) rfl (by kernel_rfl) ?_
 refine sq_run (.int .i64 0) rfl (by kernel_rfl) ?_
 refine sq_new (W3.alloc (.cells z5 31)) (.pointer (some ⟨W3.heap.size,0,none⟩)) rfl (by kernel_rfl) ?_
 have D4:=D3.alloc D3.size (.cells z5 31)
 have B4:=B3.alloc (.cells z5 31)
 have hz3:=D3.size
 obtain⟨q5,hq5⟩:∃q,W3.heap.size=q:=⟨_,rfl⟩
 have BN:=Bl.new_ W3 31 z5
 have B3l:=B3.lt
 rw[hq5] at BN hz3 B3l ⊢
 clear D3 B3 hq5
 refine sq_store q5 31 z5 (K.v (kof m)) BN 31 (.tmp 5) (.tmp 28) rfl rfl (by kernel_rfl) (by kernel_rfl) (K.sz ke _) sizeE (K.ones _) fun W4 C4 G4=>?_
 have D5:=below_only (g:=q5) D4 G4 hz3
 have B5:=B4.grown G4 (by simp only[ne_eq,Option.some.injEq];omega)
 clear D4 B4 G4 BN
 refine sq_run (.int .i64 0) rfl (by kernel_rfl) ?_
 refine sq_done ?_
 simp only[Act.put,List.setIfInBounds_toArray,List.set_cons_zero,List.set_cons_succ]
 go_upto_region 7 with(fail)
 refine wp_region_lit ?_
 refine sq_run (.int .i64 0) rfl (by kernel_rfl) ?_
 refine sq_run (.bool false) rfl (by kernel_rfl) ?_
 refine sq_done ?_
 simp only[Act.put,List.setIfInBounds_toArray,List.set_cons_zero,List.set_cons_succ]
 go_upto_region 9 with(fail)
 refine wp_region_lit ?_
 refine sq_load q5 0 5 31 (K.v (kof m)) C4 (K.v (kof m)) 31 (.tmp 5) rfl rfl (by kernel_rfl) (by kernel_rfl) (by kernel_rfl) Tryz.underlying31 rfl sizeE ?_
 refine sq_enter 30 #[.agg (K.v (kof m))] rfl (by kernel_rfl) ((cacross _ (TB.out.below D5) HR.out).mono ?_)
 rintro e W5 ⟨rfl,E5⟩
 refine⟨_,rfl,?_⟩
 have D6:=below_nx D5 (Nat.le_refl _) E5
 have B6:=B5.below' E5
 have C6:=C4.below' E5
 clear D5 B5 C4 E5
 refine sq_run (.tuple #[.agg (K.v (kof r)),.bool true]) rfl (by kernel_rfl) ?_
 refine sq_run (.agg (K.v (kof r))) rfl (by kernel_rfl) ?_
 refine sq_run (.bool true) rfl (by kernel_rfl) ?_
 refine sq_new (W5.alloc (.cells z5 31)) (.pointer (some ⟨W5.heap.size,0,none⟩)) rfl (by kernel_rfl) ?_
 have D7:=D6.alloc D6.size (.cells z5 31)
 have B7:=B6.alloc (.cells z5 31)
 have C7:=C6.alloc (.cells z5 31)
 have hz5:=D6.size
 have C6l:=C6.lt
 have B6l:=B6.lt
 obtain⟨q7,hq7⟩:∃q,W5.heap.size=q:=⟨_,rfl⟩
 have BN:=Bl.new_ W5 31 z5
 rw[hq7] at BN hz5 C6l B6l ⊢
 clear D6 B6 C6 hq7
 refine sq_store q7 31 z5 (K.v (kof r)) BN 31 (.tmp 7) (.tmp 36) rfl rfl (by kernel_rfl) (by kernel_rfl) (K.sz ke _) sizeE (K.ones _) fun W6 X6 G6=>?_
 have D8:=below_only (g:=q7) D7 G6 hz5
 have B8:=B7.grown G6 (by simp only[ne_eq,Option.some.injEq];omega)
 have C8:=C7.grown G6 (by simp only[ne_eq,Option.some.injEq];omega)
 clear D7 B7 C7 G6 BN
 refine sq_run (.bool true) rfl (by kernel_rfl) ?_
 refine sq_done ?_
 simp only[Act.put,List.setIfInBounds_toArray,List.set_cons_zero,List.set_cons_succ]
 go_upto_region 10 with(fail)
 refine wp_region_lit ?_
 refine sq_run (.bool true) rfl (by kernel_rfl) ?_
 refine sq_run (.bool false) rfl (by kernel_rfl) ?_
 refine sq_done ?_
 simp only[Act.put,List.setIfInBounds_toArray,List.set_cons_zero,List.set_cons_succ]
 go_upto_region 12 with(fail)
 refine wp_region_lit ?_
 refine sq_run (.bool false) rfl (by kernel_rfl) ?_
 refine sq_done ?_
 simp only[Act.put,List.setIfInBounds_toArray,List.set_cons_zero,List.set_cons_succ]
 have OB:decide (fv (K.f (kof r))%2=1)=false:=(by rw[decide_eq_false_iff_not,kof_f,fv_small (acr_lt HR.out).1];have:=(acr_lt HR.out).2;omega)
 have OC:=codd (kof r)
 rw[OB] at OC
 replace OC:=Lib.hid OC
 clear OB
 go_upto_region 14 with(fail)
 refine wp_region_lit ?_
 refine sq_load q7 0 5 31 (K.v (kof r)) X6 (K.v (kof r)) 31 (.tmp 7) rfl rfl (by kernel_rfl) (by kernel_rfl) (by kernel_rfl) Tryz.underlying31 rfl sizeE ?_
 refine sq_enter 32 #[.agg (K.v (kof r))] rfl (by kernel_rfl) ((OC.out _).mono ?_)
 rintro e W11 ⟨rfl,E11⟩
 refine⟨_,rfl,?_⟩
 have D11:=below_nx D8 (Nat.le_refl _) E11
 have B11:=Bl.below' B8 E11
 have C11:=Bl.below' C8 E11
 have X11:=Bl.below' X6 E11
 refine sq_run (.bool false) rfl (by kernel_rfl) ?_
 refine sq_run (.bool false) rfl (by kernel_rfl) ?_
 refine sq_done ?_
 simp only[Act.put,List.setIfInBounds_toArray,List.set_cons_zero,List.set_cons_succ]
 go_upto_region 16 with(fail)
 refine wp_region_lit ?_
 refine sq_load q7 0 5 31 (K.v (kof r)) X11 (K.v (kof r)) 31 (.tmp 7) rfl rfl (by kernel_rfl) (by kernel_rfl) (by kernel_rfl) Tryz.underlying31 rfl sizeE ?_
 refine sq_load q5 0 5 31 (K.v (kof m)) C11 (K.v (kof m)) 31 (.tmp 5) rfl rfl (by kernel_rfl) (by kernel_rfl) (by kernel_rfl) Tryz.underlying31 rfl sizeE ?_
 refine sq_enter 33 #[.agg (K.v (kof r)),.agg (K.v (kof m))] rfl (by kernel_rfl) ((held_any (kof r) (kof m) _).mono ?_)
 rintro e W12 ⟨rfl,E12⟩
 refine⟨_,rfl,?_⟩
 have D12:=below_nx D11 (Nat.le_refl _) E12
 have B12:=B11.below' E12
 obtain⟨res,hres⟩:∃res,kheld (kof r) (kof m)=res:=⟨_,rfl⟩
 have HRS:=Lib.hid hres
 rw[hres]
 clear hres
 refine sq_store w.heap.size 33 z20 res.v B12 33 (.tmp 2) (.tmp 51) rfl rfl (by kernel_rfl) (by kernel_rfl) (KP.sz kz4 _) sizeP (KP.ones _) fun W13 C13 G13=>?_
 refine sq_run (.int .i64 0) rfl (by kernel_rfl) ?_
 refine sq_done ?_
 simp only[Act.put,List.setIfInBounds_toArray,List.set_cons_zero,List.set_cons_succ]
 have HF:=Lib.hid C13
 have hz:=below_only (g:=w.heap.size) D12 G13 (Nat.le_refl _)
 have hsx:kheld (sx 0 r) (kof m)=res:=by rw[←HRS.out];rfl
 go_wp2_with fail
 refine bodyPost_ret (v:=.tuple #[.agg res.v,.int .i64 0]) (Gn.results_cell_tmp 2 33 3 (.int .i64 0) w.heap.size 33 res.v Tryz.results10 (by kernel_rfl) (by kernel_rfl) HF.out Tryz.underlying33 rfl sizeP) rfl ⟨by rw[hsx],hz⟩
set_option maxRecDepth 100000 in
set_option maxHeartbeats 4000000 in
theorem Dec_zero(A:Option Addr)(c:Nat)(l:List Nat)(w:World)(tab:TabE w)(hc:32≤c)(hl:∀x∈l,x < 256)(hs:Sl w A 32 (bl l))(ho:decide (128≤l.getD 31 0)=true)(hm:le (low l) < pp)(hr:acr (kof (le (low l)))=some 0) :
  Calls Tryz.prog 10 #[.slice A 32 c] w (NoP 40 w):=by
 have hln:l.length=32:=by simpa[bl] using hs.1
 have hlow:∀x∈low l,x < 256:=by
  intro x hx
  rcases List.mem_or_eq_of_mem_set hx with h1|h1
  ·exact hl x h1
  ·omega
 obtain⟨x,hx⟩:∃x,l.getD 31 0=x:=⟨_,rfl⟩
 have hx256:x < 256:=by rw[←hx,List.getD_eq_getElem?_getD,List.getElem?_eq_getElem (by omega)];exact hl _ (List.getElem_mem _)
 have hxl:(bl l)[31]?=some (.int .u8 (x:Int)):=by rw[bl_get,←hx,List.getD_eq_getElem?_getD,List.getElem?_eq_getElem (by omega)];rfl
 have elow:low l=l.set 31 (x%128):=by unfold low;rw[hx]
 have HLO:=Lib.hid hlow
 obtain⟨m,hmm⟩:∃m,le (low l)=m:=⟨_,rfl⟩
 rw[hmm] at hm
 rw[hmm] at hr
 have HR:=Lib.hid hr
 clear hr
 have HM:=Lib.hid hm
 have HMM:=Lib.hid hmm
 have HEL:=Lib.hid elow
 rw[hx] at ho
 have HO:=Lib.hid ho
 have TB:=Lib.hid tab
 obtain⟨ad,hA,hcell⟩:=hs.at_ (show 31 < 32 by decide)
 subst hA
 rw[hxl] at hcell
 have HXL:=Lib.hid hxl
 have HS:=Lib.hid hs
 have HCE:=Lib.hid hcell
 clear hm hmm elow ho tab hlow hx hl hxl hs hcell
 go_enter Tryz.func10,Tryz.ntmps10
 go_upto_region 1 with(fail)
 refine at_box1 _ _ _ ?_
 intro W0 B0 D0 hs0
 refine wp_region_lit ?_
 refine sq_run (.slice (some ad) 32 c) rfl (by kernel_rfl) ?_
 refine sq_run (.int .i64 32) rfl (by kernel_rfl) ?_
 refine sq_run (.bool false) rfl (by kernel_rfl) ?_
 refine sq_done ?_
 simp only[Act.put,List.setIfInBounds_toArray,List.set_cons_zero,List.set_cons_succ]
 go_upto_region 3 with(fail)
 refine wp_region_lit ?_
 refine sq_run (.slice (some ad) 32 c) rfl (by kernel_rfl) ?_
 refine sq_run (.pointer (some (ad.add 31))) rfl (by kernel_rfl) ?_
 refine sq_cell (ad.add 31) (.int .u8 (x:Int)) (keepc D0 HCE.out) 5 (.tmp 14) rfl rfl (by kernel_rfl) Tryz.underlying5 rfl ?_
 refine sq_run (.int .u8 ((x / 128*128:Nat):Int)) rfl (run_bin_op .and 5 (.tmp 15) (.const (.int .u8 128)) _ rfl (.int .u8 (x:Int)) (.int .u8 128) (.int .u8 ((x / 128*128:Nat):Int)) (by kernel_rfl) (by kernel_rfl) (by kernel_rfl) (o_and128 _ x hx256)) ?_
 refine sq_run (.bool true) rfl (run_bin_op .neq 5 (.tmp 16) (.const (.int .u8 0)) _ rfl (.int .u8 ((x / 128*128:Nat):Int)) (.int .u8 0) (.bool true) (by kernel_rfl) (by kernel_rfl) (by kernel_rfl) (o_neq8 _ x true HO.out hx256)) ?_
 refine sq_run (.bool true) rfl (by kernel_rfl) ?_
 refine sq_done ?_
 simp only[Act.put,List.setIfInBounds_toArray,List.set_cons_zero,List.set_cons_succ]
 go_upto_region 4 with(fail)
 refine wp_region_lit ?_
 refine sq_run (.slice (some ad) 32 c) rfl (by kernel_rfl) ?_
 refine sq_enter 28 #[.slice (some ad) 32 c] rfl (by kernel_rfl) ((Clone_any (some ad) 32 c l _ (by decide) (by decide) hc (HS.out.below D0)).mono ?_)
 rintro e W1 ⟨g,cap,cur,rfl,C1,hcap,hcur,htake,hg,E1⟩
 refine⟨_,rfl,?_⟩
 rw[hln] at hcap hcur htake ⊢
 refine sq_run (.slice (some ⟨g,0,none⟩) 32 cap) rfl (by kernel_rfl) ?_
 refine sq_done ?_
 simp only[Act.put,List.setIfInBounds_toArray,List.set_cons_zero,List.set_cons_succ]
 have D1:=below_nx D0 (Nat.le_refl _) E1
 have B1:=B0.below' E1
 have GG:=Lib.hid (show w.heap.size+1≤g by omega)
 have hcx:cur[31]?=some (.int .u8 (x:Int)):=by
  have:=congrArg (fun z=>z[31]?) htake
  simp only[List.getElem?_take,HXL.out] at this
  simpa using this
 have HT:=Lib.hid htake
 have HLN:=Lib.hid hln
 clear D0 B0 E1 hg htake hln hs0
 go_upto_region 5 with(fail)
 refine wp_region_lit ?_
 refine sq_run (.slice (some ⟨g,0,none⟩) 32 cap) rfl (by kernel_rfl) ?_
 refine sq_run (.pointer (some ⟨g,31,none⟩)) rfl (by kernel_rfl) ?_
 refine sq_cell ⟨g,31,none⟩ (.int .u8 (x:Int)) (C1.cell_ hcx) 5 (.tmp 21) rfl rfl (by kernel_rfl) Tryz.underlying5 rfl ?_
 refine sq_run (.int .u8 ((x%128:Nat):Int)) rfl (run_bin_op .andNot 5 (.tmp 22) (.const (.int .u8 128)) _ rfl (.int .u8 (x:Int)) (.int .u8 128) (.int .u8 ((x%128:Nat):Int)) (by kernel_rfl) (by kernel_rfl) (by kernel_rfl) (o_andn128 _ x hx256)) ?_
 refine sq_run (.pointer (some ⟨g,31,none⟩)) rfl (by kernel_rfl) ?_
 refine sq_put g 31 _ _ C1 (.int .u8 ((x%128:Nat):Int)) 5 (.tmp 24) (.tmp 23) rfl rfl (by kernel_rfl) (by kernel_rfl) rfl (by omega) size8 rfl fun W2 C2 G2=>?_
 refine sq_done ?_
 simp only[Act.put,List.setIfInBounds_toArray,List.set_cons_zero,List.set_cons_succ]
 have D2:=below_only (g:=g) D1 G2 (by have:=GG.out;omega)
 have B2:=B1.grown G2 (by simp only[ne_eq,Option.some.injEq];have:=GG.out;omega)
 have SL:=Sl.of_bl C2 0 32 (bl (low l)) (by rw[HEL.out];simp[bl,HLN.out]) (fun k v hv=>set_take HT.out HLN.out (x%128) k v (by rw[←HEL.out];exact hv))
 clear C1 C2 D1 B1 G2 hcx
 go_upto_region 6 with(fail)
 refine wp_region_lit ?_
 refine sq_run (.slice (some ⟨g,0,none⟩) 32 cap) rfl (by kernel_rfl) ?_
 refine sq_enter 29 #[.slice (some ⟨g,0,none⟩) 32 cap] rfl (by kernel_rfl) ((decode_any (some ⟨g,0,none⟩) cap (low l) _ HLO.out SL).mono ?_)
 rintro e W3 ⟨he,E3⟩
 rw[HMM.out] at he
 unfold DecP at he
 rw[if_pos HM.out] at he
 obtain rfl:e=.returned (.tuple #[.agg (K.v (kof m)),.int .i64 0]):=(by rw[kof_v,Nat.mod_eq_of_lt HM.out];exact he)
 refine⟨_,rfl,?_⟩
 have D3:=below_nx D2 (Nat.le_refl _) E3
 have B3:=B2.below' E3
 clear D2 B2 E3 SL
 refine sq_run (.tuple #[.agg (K.v (kof m)),.int .i64 0]) rfl (by kernel_rfl) ?_
 refine sq_run (.agg (K.v (kof m))) rfl (by kernel_rfl) ?_
 refine sq_run (.int .i64 0) rfl (by kernel_rfl) ?_
 refine sq_new (W3.alloc (.cells z5 31)) (.pointer (some ⟨W3.heap.size,0,none⟩)) rfl (by kernel_rfl) ?_
 have D4:=D3.alloc D3.size (.cells z5 31)
 have B4:=B3.alloc (.cells z5 31)
 have hz3:=D3.size
 obtain⟨q5,hq5⟩:∃q,W3.heap.size=q:=⟨_,rfl⟩
 have BN:=Bl.new_ W3 31 z5
 have B3l:=B3.lt
 rw[hq5] at BN hz3 B3l ⊢
 clear D3 B3 hq5
 refine sq_store q5 31 z5 (K.v (kof m)) BN 31 (.tmp 5) (.tmp 28) rfl rfl (by kernel_rfl) (by kernel_rfl) (K.sz ke _) sizeE (K.ones _) fun W4 C4 G4=>?_
 have D5:=below_only (g:=q5) D4 G4 hz3
 have B5:=B4.grown G4 (by simp only[ne_eq,Option.some.injEq];omega)
 clear D4 B4 G4 BN
 refine sq_run (.int .i64 0) rfl (by kernel_rfl) ?_
 refine sq_done ?_
 simp only[Act.put,List.setIfInBounds_toArray,List.set_cons_zero,List.set_cons_succ]
 go_upto_region 7 with(fail)
 refine wp_region_lit ?_
 refine sq_run (.int .i64 0) rfl (by kernel_rfl) ?_
 refine sq_run (.bool false) rfl (by kernel_rfl) ?_
 refine sq_done ?_
 simp only[Act.put,List.setIfInBounds_toArray,List.set_cons_zero,List.set_cons_succ]
 go_upto_region 9 with(fail)
 refine wp_region_lit ?_
 refine sq_load q5 0 5 31 (K.v (kof m)) C4 (K.v (kof m)) 31 (.tmp 5) rfl rfl (by kernel_rfl) (by kernel_rfl) (by kernel_rfl) Tryz.underlying31 rfl sizeE ?_
 refine sq_enter 30 #[.agg (K.v (kof m))] rfl (by kernel_rfl) ((cacross _ (TB.out.below D5) HR.out).mono ?_)
 rintro e W5 ⟨rfl,E5⟩
 refine⟨_,rfl,?_⟩
 have D6:=below_nx D5 (Nat.le_refl _) E5
 have B6:=B5.below' E5
 have C6:=C4.below' E5
 clear D5 B5 C4 E5
 refine sq_run (.tuple #[.agg (K.v (kof 0)),.bool true]) rfl (by kernel_rfl) ?_
 refine sq_run (.agg (K.v (kof 0))) rfl (by kernel_rfl) ?_
 refine sq_run (.bool true) rfl (by kernel_rfl) ?_
 refine sq_new (W5.alloc (.cells z5 31)) (.pointer (some ⟨W5.heap.size,0,none⟩)) rfl (by kernel_rfl) ?_
 have D7:=D6.alloc D6.size (.cells z5 31)
 have B7:=B6.alloc (.cells z5 31)
 have C7:=C6.alloc (.cells z5 31)
 have hz5:=D6.size
 have C6l:=C6.lt
 have B6l:=B6.lt
 obtain⟨q7,hq7⟩:∃q,W5.heap.size=q:=⟨_,rfl⟩
 have BN:=Bl.new_ W5 31 z5
 rw[hq7] at BN hz5 C6l B6l ⊢
 clear D6 B6 C6 hq7
 refine sq_store q7 31 z5 (K.v (kof 0)) BN 31 (.tmp 7) (.tmp 36) rfl rfl (by kernel_rfl) (by kernel_rfl) (K.sz ke _) sizeE (K.ones _) fun W6 X6 G6=>?_
 have D8:=below_only (g:=q7) D7 G6 hz5
 have B8:=B7.grown G6 (by simp only[ne_eq,Option.some.injEq];omega)
 have C8:=C7.grown G6 (by simp only[ne_eq,Option.some.injEq];omega)
 clear D7 B7 C7 G6 BN
 refine sq_run (.bool true) rfl (by kernel_rfl) ?_
 refine sq_done ?_
 simp only[Act.put,List.setIfInBounds_toArray,List.set_cons_zero,List.set_cons_succ]
 go_upto_region 10 with(fail)
 refine wp_region_lit ?_
 refine sq_run (.bool true) rfl (by kernel_rfl) ?_
 refine sq_run (.bool false) rfl (by kernel_rfl) ?_
 refine sq_done ?_
 simp only[Act.put,List.setIfInBounds_toArray,List.set_cons_zero,List.set_cons_succ]
 go_upto_region 12 with(fail)
 refine wp_region_lit ?_
 refine sq_run (.bool true) rfl (by kernel_rfl) ?_
 refine sq_done ?_
 simp only[Act.put,List.setIfInBounds_toArray,List.set_cons_zero,List.set_cons_succ]
 go_upto_region 13 with(fail)
 refine wp_region_lit ?_
 refine sq_load q7 0 5 31 (K.v (kof 0)) X6 (K.v (kof 0)) 31 (.tmp 7) rfl rfl (by kernel_rfl) (by kernel_rfl) (by kernel_rfl) Tryz.underlying31 rfl sizeE ?_
 refine sq_enter 31 #[.agg (K.v (kof 0))] rfl (by kernel_rfl) ((cneg (kof 0) _).mono ?_)
 rintro e W7 ⟨rfl,E7⟩
 refine⟨_,rfl,?_⟩
 have D9:=below_nx D8 (Nat.le_refl _) E7
 have B9:=B8.below' E7
 have C9:=C8.below' E7
 have X9:=X6.below' E7
 clear D8 B8 C8 X6 E7
 refine sq_store q7 31 (K.v (kof 0)) (K.v (kneg (kof 0))) X9 31 (.tmp 7) (.tmp 43) rfl rfl (by kernel_rfl) (by kernel_rfl) (K.sz _ _) sizeE (K.ones _) fun W8 X10 G8=>?_
 have D10:=below_only (g:=q7) D9 G8 hz5
 have B10:=B9.grown G8 (by simp only[ne_eq,Option.some.injEq];omega)
 have C10:=C9.grown G8 (by simp only[ne_eq,Option.some.injEq];omega)
 clear D9 B9 C9 X9 G8
 refine sq_done ?_
 simp only[Act.put,List.setIfInBounds_toArray,List.set_cons_zero,List.set_cons_succ]
 have OB:decide (fv (K.f (kneg (kof 0)))%2=1)=false:=(by rw[decide_eq_false_iff_not,kneg_f,kof_f,←fe_ng,ng_zero,fe_zero];decide)
 have OC:=codd (kneg (kof 0))
 rw[OB] at OC
 replace OC:=Lib.hid OC
 clear OB
 go_upto_region 14 with(fail)
 refine wp_region_lit ?_
 refine sq_load q7 0 5 31 (K.v (kneg (kof 0))) X10 (K.v (kneg (kof 0))) 31 (.tmp 7) rfl rfl (by kernel_rfl) (by kernel_rfl) (by kernel_rfl) Tryz.underlying31 rfl sizeE ?_
 refine sq_enter 32 #[.agg (K.v (kneg (kof 0)))] rfl (by kernel_rfl) ((OC.out _).mono ?_)
 rintro e W11 ⟨rfl,E11⟩
 refine⟨_,rfl,?_⟩
 have D11:=below_nx D10 (Nat.le_refl _) E11
 have B11:=Bl.below' B10 E11
 have C11:=Bl.below' C10 E11
 have X11:=Bl.below' X10 E11
 refine sq_run (.bool true) rfl (by kernel_rfl) ?_
 refine sq_run (.bool true) rfl (by kernel_rfl) ?_
 refine sq_done ?_
 simp only[Act.put,List.setIfInBounds_toArray,List.set_cons_zero,List.set_cons_succ]
 go_upto_region 15 with(fail)
 refine wp_region_lit ?_
 refine sq_run (.agg z20) rfl (by kernel_rfl) ?_
 refine sq_store w.heap.size 33 z20 z20 B11 33 (.tmp 2) (.tmp 48) rfl rfl (by kernel_rfl) (by kernel_rfl) rfl sizeP z20_ones fun W9 C9 G9=>?_
 refine sq_run (.int .i64 40) rfl (by kernel_rfl) ?_
 refine sq_done ?_
 simp only[Act.put,List.setIfInBounds_toArray,List.set_cons_zero,List.set_cons_succ]
 have HF:=Lib.hid C9
 have hz:=below_only (g:=w.heap.size) D11 G9 (Nat.le_refl _)
 go_wp2_with fail
 refine bodyPost_ret (v:=.tuple #[.agg z20,.int .i64 40]) (Gn.results_cell_tmp 2 33 3 (.int .i64 40) w.heap.size 33 z20 Tryz.results10 (by kernel_rfl) (by kernel_rfl) HF.out Tryz.underlying33 rfl sizeP) rfl ⟨rfl,hz⟩
set_option maxRecDepth 100000 in
set_option maxHeartbeats 4000000 in
theorem Dec_odd(A:Option Addr)(c:Nat)(l:List Nat)(w:World)(tab:TabE w)(hc:32≤c)(hl:∀x∈l,x < 256)(hs:Sl w A 32 (bl l))(r:Nat)(h0:r≠0)(ho:decide (128≤l.getD 31 0)=true)(hm:le (low l) < pp)(hr:acr (kof (le (low l)))=some r) :
  Calls Tryz.prog 10 #[.slice A 32 c] w fun e w'=>e=.returned (.tuple #[.agg (kheld (sx 1 r) (kof (le (low l)))).v,.int .i64 0])∧Below w.heap.size w w':=by
 have hln:l.length=32:=by simpa[bl] using hs.1
 have hlow:∀x∈low l,x < 256:=by
  intro x hx
  rcases List.mem_or_eq_of_mem_set hx with h1|h1
  ·exact hl x h1
  ·omega
 obtain⟨x,hx⟩:∃x,l.getD 31 0=x:=⟨_,rfl⟩
 have hx256:x < 256:=by rw[←hx,List.getD_eq_getElem?_getD,List.getElem?_eq_getElem (by omega)];exact hl _ (List.getElem_mem _)
 have hxl:(bl l)[31]?=some (.int .u8 (x:Int)):=by rw[bl_get,←hx,List.getD_eq_getElem?_getD,List.getElem?_eq_getElem (by omega)];rfl
 have elow:low l=l.set 31 (x%128):=by unfold low;rw[hx]
 have HLO:=Lib.hid hlow
 obtain⟨m,hmm⟩:∃m,le (low l)=m:=⟨_,rfl⟩
 rw[hmm] at hm ⊢
 rw[hmm] at hr
 have HR:=Lib.hid hr
 clear hr
 have HM:=Lib.hid hm
 have HMM:=Lib.hid hmm
 have HEL:=Lib.hid elow
 rw[hx] at ho
 have HO:=Lib.hid ho
 have TB:=Lib.hid tab
 obtain⟨ad,hA,hcell⟩:=hs.at_ (show 31 < 32 by decide)
 subst hA
 rw[hxl] at hcell
 have HXL:=Lib.hid hxl
 have HS:=Lib.hid hs
 have HCE:=Lib.hid hcell
 clear hm hmm elow ho tab hlow hx hl hxl hs hcell
 go_enter Tryz.func10,Tryz.ntmps10
 go_upto_region 1 with(fail)
 refine at_box1 _ _ _ ?_
 intro W0 B0 D0 hs0
 refine wp_region_lit ?_
 refine sq_run (.slice (some ad) 32 c) rfl (by kernel_rfl) ?_
 refine sq_run (.int .i64 32) rfl (by kernel_rfl) ?_
 refine sq_run (.bool false) rfl (by kernel_rfl) ?_
 refine sq_done ?_
 simp only[Act.put,List.setIfInBounds_toArray,List.set_cons_zero,List.set_cons_succ]
 go_upto_region 3 with(fail)
 refine wp_region_lit ?_
 refine sq_run (.slice (some ad) 32 c) rfl (by kernel_rfl) ?_
 refine sq_run (.pointer (some (ad.add 31))) rfl (by kernel_rfl) ?_
 refine sq_cell (ad.add 31) (.int .u8 (x:Int)) (keepc D0 HCE.out) 5 (.tmp 14) rfl rfl (by kernel_rfl) Tryz.underlying5 rfl ?_
 refine sq_run (.int .u8 ((x / 128*128:Nat):Int)) rfl (run_bin_op .and 5 (.tmp 15) (.const (.int .u8 128)) _ rfl (.int .u8 (x:Int)) (.int .u8 128) (.int .u8 ((x / 128*128:Nat):Int)) (by kernel_rfl) (by kernel_rfl) (by kernel_rfl) (o_and128 _ x hx256)) ?_
 refine sq_run (.bool true) rfl (run_bin_op .neq 5 (.tmp 16) (.const (.int .u8 0)) _ rfl (.int .u8 ((x / 128*128:Nat):Int)) (.int .u8 0) (.bool true) (by kernel_rfl) (by kernel_rfl) (by kernel_rfl) (o_neq8 _ x true HO.out hx256)) ?_
 refine sq_run (.bool true) rfl (by kernel_rfl) ?_
 refine sq_done ?_
 simp only[Act.put,List.setIfInBounds_toArray,List.set_cons_zero,List.set_cons_succ]
 go_upto_region 4 with(fail)
 refine wp_region_lit ?_
 refine sq_run (.slice (some ad) 32 c) rfl (by kernel_rfl) ?_
 refine sq_enter 28 #[.slice (some ad) 32 c] rfl (by kernel_rfl) ((Clone_any (some ad) 32 c l _ (by decide) (by decide) hc (HS.out.below D0)).mono ?_)
 rintro e W1 ⟨g,cap,cur,rfl,C1,hcap,hcur,htake,hg,E1⟩
 refine⟨_,rfl,?_⟩
 rw[hln] at hcap hcur htake ⊢
 refine sq_run (.slice (some ⟨g,0,none⟩) 32 cap) rfl (by kernel_rfl) ?_
 refine sq_done ?_
 simp only[Act.put,List.setIfInBounds_toArray,List.set_cons_zero,List.set_cons_succ]
 have D1:=below_nx D0 (Nat.le_refl _) E1
 have B1:=B0.below' E1
 have GG:=Lib.hid (show w.heap.size+1≤g by omega)
 have hcx:cur[31]?=some (.int .u8 (x:Int)):=by
  have:=congrArg (fun z=>z[31]?) htake
  simp only[List.getElem?_take,HXL.out] at this
  simpa using this
 have HT:=Lib.hid htake
 have HLN:=Lib.hid hln
 clear D0 B0 E1 hg htake hln hs0
 go_upto_region 5 with(fail)
 refine wp_region_lit ?_
 refine sq_run (.slice (some ⟨g,0,none⟩) 32 cap) rfl (by kernel_rfl) ?_
 refine sq_run (.pointer (some ⟨g,31,none⟩)) rfl (by kernel_rfl) ?_
 refine sq_cell ⟨g,31,none⟩ (.int .u8 (x:Int)) (C1.cell_ hcx) 5 (.tmp 21) rfl rfl (by kernel_rfl) Tryz.underlying5 rfl ?_
 refine sq_run (.int .u8 ((x%128:Nat):Int)) rfl (run_bin_op .andNot 5 (.tmp 22) (.const (.int .u8 128)) _ rfl (.int .u8 (x:Int)) (.int .u8 128) (.int .u8 ((x%128:Nat):Int)) (by kernel_rfl) (by kernel_rfl) (by kernel_rfl) (o_andn128 _ x hx256)) ?_
 refine sq_run (.pointer (some ⟨g,31,none⟩)) rfl (by kernel_rfl) ?_
 refine sq_put g 31 _ _ C1 (.int .u8 ((x%128:Nat):Int)) 5 (.tmp 24) (.tmp 23) rfl rfl (by kernel_rfl) (by kernel_rfl) rfl (by omega) size8 rfl fun W2 C2 G2=>?_
 refine sq_done ?_
 simp only[Act.put,List.setIfInBounds_toArray,List.set_cons_zero,List.set_cons_succ]
 have D2:=below_only (g:=g) D1 G2 (by have:=GG.out;omega)
 have B2:=B1.grown G2 (by simp only[ne_eq,Option.some.injEq];have:=GG.out;omega)
 have SL:=Sl.of_bl C2 0 32 (bl (low l)) (by rw[HEL.out];simp[bl,HLN.out]) (fun k v hv=>set_take HT.out HLN.out (x%128) k v (by rw[←HEL.out];exact hv))
 clear C1 C2 D1 B1 G2 hcx
 go_upto_region 6 with(fail)
 refine wp_region_lit ?_
 refine sq_run (.slice (some ⟨g,0,none⟩) 32 cap) rfl (by kernel_rfl) ?_
 refine sq_enter 29 #[.slice (some ⟨g,0,none⟩) 32 cap] rfl (by kernel_rfl) ((decode_any (some ⟨g,0,none⟩) cap (low l) _ HLO.out SL).mono ?_)
 rintro e W3 ⟨he,E3⟩
 rw[HMM.out] at he
 unfold DecP at he
 rw[if_pos HM.out] at he
 obtain rfl:e=.returned (.tuple #[.agg (K.v (kof m)),.int .i64 0]):=(by rw[kof_v,Nat.mod_eq_of_lt HM.out];exact he)
 refine⟨_,rfl,?_⟩
 have D3:=below_nx D2 (Nat.le_refl _) E3
 have B3:=B2.below' E3
 clear D2 B2 E3 SL
 refine sq_run (.tuple #[.agg (K.v (kof m)),.int .i64 0]) rfl (by kernel_rfl) ?_
 refine sq_run (.agg (K.v (kof m))) rfl (by kernel_rfl) ?_
 refine sq_run (.int .i64 0) rfl (by kernel_rfl) ?_
 refine sq_new (W3.alloc (.cells z5 31)) (.pointer (some ⟨W3.heap.size,0,none⟩)) rfl (by kernel_rfl) ?_
 have D4:=D3.alloc D3.size (.cells z5 31)
 have B4:=B3.alloc (.cells z5 31)
 have hz3:=D3.size
 obtain⟨q5,hq5⟩:∃q,W3.heap.size=q:=⟨_,rfl⟩
 have BN:=Bl.new_ W3 31 z5
 have B3l:=B3.lt
 rw[hq5] at BN hz3 B3l ⊢
 clear D3 B3 hq5
 refine sq_store q5 31 z5 (K.v (kof m)) BN 31 (.tmp 5) (.tmp 28) rfl rfl (by kernel_rfl) (by kernel_rfl) (K.sz ke _) sizeE (K.ones _) fun W4 C4 G4=>?_
 have D5:=below_only (g:=q5) D4 G4 hz3
 have B5:=B4.grown G4 (by simp only[ne_eq,Option.some.injEq];omega)
 clear D4 B4 G4 BN
 refine sq_run (.int .i64 0) rfl (by kernel_rfl) ?_
 refine sq_done ?_
 simp only[Act.put,List.setIfInBounds_toArray,List.set_cons_zero,List.set_cons_succ]
 go_upto_region 7 with(fail)
 refine wp_region_lit ?_
 refine sq_run (.int .i64 0) rfl (by kernel_rfl) ?_
 refine sq_run (.bool false) rfl (by kernel_rfl) ?_
 refine sq_done ?_
 simp only[Act.put,List.setIfInBounds_toArray,List.set_cons_zero,List.set_cons_succ]
 go_upto_region 9 with(fail)
 refine wp_region_lit ?_
 refine sq_load q5 0 5 31 (K.v (kof m)) C4 (K.v (kof m)) 31 (.tmp 5) rfl rfl (by kernel_rfl) (by kernel_rfl) (by kernel_rfl) Tryz.underlying31 rfl sizeE ?_
 refine sq_enter 30 #[.agg (K.v (kof m))] rfl (by kernel_rfl) ((cacross _ (TB.out.below D5) HR.out).mono ?_)
 rintro e W5 ⟨rfl,E5⟩
 refine⟨_,rfl,?_⟩
 have D6:=below_nx D5 (Nat.le_refl _) E5
 have B6:=B5.below' E5
 have C6:=C4.below' E5
 clear D5 B5 C4 E5
 refine sq_run (.tuple #[.agg (K.v (kof r)),.bool true]) rfl (by kernel_rfl) ?_
 refine sq_run (.agg (K.v (kof r))) rfl (by kernel_rfl) ?_
 refine sq_run (.bool true) rfl (by kernel_rfl) ?_
 refine sq_new (W5.alloc (.cells z5 31)) (.pointer (some ⟨W5.heap.size,0,none⟩)) rfl (by kernel_rfl) ?_
 have D7:=D6.alloc D6.size (.cells z5 31)
 have B7:=B6.alloc (.cells z5 31)
 have C7:=C6.alloc (.cells z5 31)
 have hz5:=D6.size
 have C6l:=C6.lt
 have B6l:=B6.lt
 obtain⟨q7,hq7⟩:∃q,W5.heap.size=q:=⟨_,rfl⟩
 have BN:=Bl.new_ W5 31 z5
 rw[hq7] at BN hz5 C6l B6l ⊢
 clear D6 B6 C6 hq7
 refine sq_store q7 31 z5 (K.v (kof r)) BN 31 (.tmp 7) (.tmp 36) rfl rfl (by kernel_rfl) (by kernel_rfl) (K.sz ke _) sizeE (K.ones _) fun W6 X6 G6=>?_
 have D8:=below_only (g:=q7) D7 G6 hz5
 have B8:=B7.grown G6 (by simp only[ne_eq,Option.some.injEq];omega)
 have C8:=C7.grown G6 (by simp only[ne_eq,Option.some.injEq];omega)
 clear D7 B7 C7 G6 BN
 refine sq_run (.bool true) rfl (by kernel_rfl) ?_
 refine sq_done ?_
 simp only[Act.put,List.setIfInBounds_toArray,List.set_cons_zero,List.set_cons_succ]
 go_upto_region 10 with(fail)
 refine wp_region_lit ?_
 refine sq_run (.bool true) rfl (by kernel_rfl) ?_
 refine sq_run (.bool false) rfl (by kernel_rfl) ?_
 refine sq_done ?_
 simp only[Act.put,List.setIfInBounds_toArray,List.set_cons_zero,List.set_cons_succ]
 go_upto_region 12 with(fail)
 refine wp_region_lit ?_
 refine sq_run (.bool true) rfl (by kernel_rfl) ?_
 refine sq_done ?_
 simp only[Act.put,List.setIfInBounds_toArray,List.set_cons_zero,List.set_cons_succ]
 go_upto_region 13 with(fail)
 refine wp_region_lit ?_
 refine sq_load q7 0 5 31 (K.v (kof r)) X6 (K.v (kof r)) 31 (.tmp 7) rfl rfl (by kernel_rfl) (by kernel_rfl) (by kernel_rfl) Tryz.underlying31 rfl sizeE ?_
 refine sq_enter 31 #[.agg (K.v (kof r))] rfl (by kernel_rfl) ((cneg (kof r) _).mono ?_)
 rintro e W7 ⟨rfl,E7⟩
 refine⟨_,rfl,?_⟩
 have D9:=below_nx D8 (Nat.le_refl _) E7
 have B9:=B8.below' E7
 have C9:=C8.below' E7
 have X9:=X6.below' E7
 clear D8 B8 C8 X6 E7
 refine sq_store q7 31 (K.v (kof r)) (K.v (kneg (kof r))) X9 31 (.tmp 7) (.tmp 43) rfl rfl (by kernel_rfl) (by kernel_rfl) (K.sz _ _) sizeE (K.ones _) fun W8 X10 G8=>?_
 have D10:=below_only (g:=q7) D9 G8 hz5
 have B10:=B9.grown G8 (by simp only[ne_eq,Option.some.injEq];omega)
 have C10:=C9.grown G8 (by simp only[ne_eq,Option.some.injEq];omega)
 clear D9 B9 C9 X9 G8
 refine sq_done ?_
 simp only[Act.put,List.setIfInBounds_toArray,List.set_cons_zero,List.set_cons_succ]
 have OB:decide (fv (K.f (kneg (kof r)))%2=1)=true:=(by rw[decide_eq_true_eq,kneg_f,kof_f,←fe_ng,fv_small (ng_lt _),ng_of (acr_lt HR.out).1 h0];have:=(acr_lt HR.out);have:=pp_odd;omega)
 have OC:=codd (kneg (kof r))
 rw[OB] at OC
 replace OC:=Lib.hid OC
 clear OB
 go_upto_region 14 with(fail)
 refine wp_region_lit ?_
 refine sq_load q7 0 5 31 (K.v (kneg (kof r))) X10 (K.v (kneg (kof r))) 31 (.tmp 7) rfl rfl (by kernel_rfl) (by kernel_rfl) (by kernel_rfl) Tryz.underlying31 rfl sizeE ?_
 refine sq_enter 32 #[.agg (K.v (kneg (kof r)))] rfl (by kernel_rfl) ((OC.out _).mono ?_)
 rintro e W11 ⟨rfl,E11⟩
 refine⟨_,rfl,?_⟩
 have D11:=below_nx D10 (Nat.le_refl _) E11
 have B11:=Bl.below' B10 E11
 have C11:=Bl.below' C10 E11
 have X11:=Bl.below' X10 E11
 refine sq_run (.bool true) rfl (by kernel_rfl) ?_
 refine sq_run (.bool false) rfl (by kernel_rfl) ?_
 refine sq_done ?_
 simp only[Act.put,List.setIfInBounds_toArray,List.set_cons_zero,List.set_cons_succ]
 go_upto_region 16 with(fail)
 refine wp_region_lit ?_
 refine sq_load q7 0 5 31 (K.v (kneg (kof r))) X11 (K.v (kneg (kof r))) 31 (.tmp 7) rfl rfl (by kernel_rfl) (by kernel_rfl) (by kernel_rfl) Tryz.underlying31 rfl sizeE ?_
 refine sq_load q5 0 5 31 (K.v (kof m)) C11 (K.v (kof m)) 31 (.tmp 5) rfl rfl (by kernel_rfl) (by kernel_rfl) (by kernel_rfl) Tryz.underlying31 rfl sizeE ?_
 refine sq_enter 33 #[.agg (K.v (kneg (kof r))),.agg (K.v (kof m))] rfl (by kernel_rfl) ((held_any (kneg (kof r)) (kof m) _).mono ?_)
 rintro e W12 ⟨rfl,E12⟩
 refine⟨_,rfl,?_⟩
 have D12:=below_nx D11 (Nat.le_refl _) E12
 have B12:=B11.below' E12
 obtain⟨res,hres⟩:∃res,kheld (kneg (kof r)) (kof m)=res:=⟨_,rfl⟩
 have HRS:=Lib.hid hres
 rw[hres]
 clear hres
 refine sq_store w.heap.size 33 z20 res.v B12 33 (.tmp 2) (.tmp 51) rfl rfl (by kernel_rfl) (by kernel_rfl) (KP.sz kz4 _) sizeP (KP.ones _) fun W13 C13 G13=>?_
 refine sq_run (.int .i64 0) rfl (by kernel_rfl) ?_
 refine sq_done ?_
 simp only[Act.put,List.setIfInBounds_toArray,List.set_cons_zero,List.set_cons_succ]
 have HF:=Lib.hid C13
 have hz:=below_only (g:=w.heap.size) D12 G13 (Nat.le_refl _)
 have hsx:kheld (sx 1 r) (kof m)=res:=by rw[←HRS.out];rfl
 go_wp2_with fail
 refine bodyPost_ret (v:=.tuple #[.agg res.v,.int .i64 0]) (Gn.results_cell_tmp 2 33 3 (.int .i64 0) w.heap.size 33 res.v Tryz.results10 (by kernel_rfl) (by kernel_rfl) HF.out Tryz.underlying33 rfl sizeP) rfl ⟨by rw[hsx],hz⟩
end Go.Proofs.YtoibhnpmemnlfaaGreatDoor.Ed
