/- Joined texts. -/
import Derived.IntWalk
import Derived.Test.YtjimhjfjfpeojaaGreatDoorQvEdI
set_option maxRecDepth 100000
set_option maxHeartbeats 8000000
set_option linter.unusedVariables false
namespace Go.Proofs.YtjimhjfjfpeojaaGreatDoor.Ed
open Go.RowKit Go.Proofs.YtjimhjfjfpeojaaGreatDoor.Gn Go.Proofs.YtjimhjfjfpeojaaGreatDoor.Fd Go.Deep
def Zqe(l:List Nat)(w:World)(e:Ending)(w':World):Prop :=
 ∃(g cap:Nat) (cur:Array Value),e=.returned (.slice (some ⟨g,0,none⟩) l.length cap)∧Bl w' g 5 cur∧l.length≤cap∧l.length≤cur.size∧cur.toList.take l.length=bl l∧w.heap.size≤g∧Below w.heap.size w w'
theorem Zfu{w:World}{base:Nat}{e:TypeId}{v:Value}{n:Nat}{xs:List Value}(h:w.ownsRow base e 1 v n xs)(hn:0 < n) :
  ∃g cap cur,v=.slice (some ⟨g,0,none⟩) n cap∧Bl w g e cur∧n≤cap∧n≤cur.size∧cur.toList.take n=xs∧base≤g:=by
 obtain⟨hl,h2⟩:=h
 rcases h2 with⟨rfl,rfl⟩|⟨g,cap,cur,rfl,hb,hh,hn2,hm,hc,hx⟩
 ·simp at hl;omega
 ·exact⟨g,cap,cur,rfl,hh,by omega,by omega,(by rw[Nat.mul_one] at hx;exact hx),hb⟩
theorem Z3i(A:Option Addr)(n c:Nat)(l:List Nat)(w:World)(h0:0 < n)(hn:n≤1000)(hc:n≤c)(hs:Sl w A n (bl l)) :
  Calls Tryz.prog 42 #[.slice A n c] w (Zqe l w):=by
 have hln:l.length=n:=by simpa[bl] using hs.1
 obtain⟨ad,hA,-⟩:=hs.at_ h0
 subst hA
 obtain⟨i0,hi,hz0,hz1,hz2⟩:=info_parts infob
 go_enter Tryz.func42,Tryz.ntmps42
 go_upto_region 1 with(fail)
 refine wp_region_lit ?_
 refine Z00 (.slice (some ad) n c) rfl (by kernel_rfl) ?_
 refine Z00 (.bool false) rfl (by kernel_rfl) ?_
 refine Z03 ?_
 simp only[Act.put,List.setIfInBounds_toArray,List.set_cons_zero,List.set_cons_succ]
 go_upto_region 3 with(fail)
 refine wp_region_lit ?_
 refine Z1o (w.alloc (.cells #[] 5)) (.slice (some ⟨w.heap.size,0,none⟩) 0 0) rfl (by kernel_rfl) ?_
 refine Z00 (.slice (some ad) n c) rfl (by kernel_rfl) ?_
 refine Z0i rfl (.tmp 5) (.tmp 6) 22 rfl w.heap.size 5 i0 _ (8 / 8) Tryz.underlying22 hi hz0 hz1 hz2 rfl (.slice (some ⟨w.heap.size,0,none⟩) 0 0) 0 [] rfl (Z9u w 5 [] (by decide)) (some ad) n c (bl l) rfl (by simp) (hs.below ((Below.refl _ _).alloc (Nat.le_refl _) _)) (Z6z _) (by unfold maxLen;omega) (by omega) (by simp) ?_
 intro v' w1 hown hgrow
 rw[Nat.zero_add,List.nil_append] at hown
 obtain⟨g,cap,cur,rfl,hb,h1,h2,h3,h4⟩:=Zfu hown h0
 have hB:Below w.heap.size w w1:=((Below.refl w.heap.size w).alloc (Nat.le_refl _) (.cells #[] 5)).grown hgrow (by simp) (by intro k e;simp[Value.ownBlock] at e;omega)
 refine Z00 (.slice (some ⟨g,0,none⟩) n cap) rfl (by kernel_rfl) ?_
 refine Z03 ?_
 simp only[Act.put,List.setIfInBounds_toArray,List.set_cons_zero,List.set_cons_succ]
 go_wp2_with fail
 go_ret
 exact⟨g,cap,cur,by rw[hln];rfl,hb,by omega,by omega,by rw[hln];exact h3,h4,hB⟩
theorem Zqf:∀b:Nat,b < 256→bits .and .u8 (b:Int) 128=((b / 128*128:Nat):Int):=by decide +kernel
theorem Z4p(w:World)(b:Nat)(h:b < 256):(binOp .and 5 (.int .u8 (b:Int)) (.int .u8 128)).run Tryz.prog w=.ok (.int .u8 ((b / 128*128:Nat):Int)) w:=by
 have:=Zqf b h
 go_simp
 try simpa using this
theorem Zmu:∀b:Nat,b < 256→bits .andNot .u8 (b:Int) 128=((b%128:Nat):Int):=by decide +kernel
theorem Z2t(w:World)(b:Nat)(h:b < 256):(binOp .andNot 5 (.int .u8 (b:Int)) (.int .u8 128)).run Tryz.prog w=.ok (.int .u8 ((b%128:Nat):Int)) w:=by
 have:=Zmu b h
 go_simp
 try simpa using this
theorem Z9b(w:World)(b:Nat)(q:Bool)(h:decide (128≤b)=q)(hb:b < 256):(binOp .neq 5 (.int .u8 ((b / 128*128:Nat):Int)) (.int .u8 0)).run Tryz.prog w=.ok (.bool q) w:=by
 obtain⟨c,hc⟩:∃c,b / 128=c:=⟨_,rfl⟩
 have:c=0∨c=1:=by omega
 rw[hc]
 rcases this with rfl|rfl
 ·have:q=false:=by rw[←h];simp;omega
  subst this
  rfl
 ·have:q=true:=by rw[←h];simp;omega
  subst this
  rfl
def low(l:List Nat):List Nat:=l.set 31 (l.getD 31 0%128)
theorem Zat{y:K}{r:Nat}(w:World)(tab:TabE w)(h:acr y=some r):Calls Tryz.prog 44 #[.agg y.v] w fun e w'=>e=.returned (.tuple #[.agg (kof r).v,.bool true])∧Below w.heap.size w w':=by
 refine Z6k y (kmul y y) (au y) (kmul kd (kmul y y)) (av y) kd (kof r) true w tab (csq y) (csub _ _) (cmul _ _) (cadd _ _) (fun w tab=>?_) (fun z hz=>Z4n kd_v (tab.below hz).d)
 refine(Zc2 (au y).1 (av y).1 w (au y).2 (av y).2 tab.im).mono ?_
 rintro e w' ⟨he,hb⟩
 have h':rt (au y).1.val (av y).1.val=some r:=h
 rw[h'] at he
 refine⟨?_,hb⟩
 rw[Z3g,Nat.mod_eq_of_lt (Z7b h).1]
 exact he
theorem Zmv{y:K}(w:World)(tab:TabE w)(h:acr y=none):Calls Tryz.prog 44 #[.agg y.v] w fun e w'=>e=.returned (.tuple #[.agg ke.v,.bool false])∧Below w.heap.size w w':=by
 refine Z6k y (kmul y y) (au y) (kmul kd (kmul y y)) (av y) kd ke false w tab (csq y) (csub _ _) (cmul _ _) (cadd _ _) (fun w tab=>?_) (fun z hz=>Z4n kd_v (tab.below hz).d)
 refine(Zc2 (au y).1 (av y).1 w (au y).2 (av y).2 tab.im).mono ?_
 rintro e w' ⟨he,hb⟩
 have h':rt (au y).1.val (av y).1.val=none:=h
 rw[h'] at he
 exact⟨he,hb⟩
theorem Z4q{cur:Array Value}{l:List Nat}(h:cur.toList.take 32=bl l)(hl:l.length=32)(x:Nat)(k:Nat)(v:Value)(hv:(bl (l.set 31 x))[k]?=some v):(cur.setIfInBounds 31 (.int .u8 (x:Int)))[0+k]?=some v:=by
 rw[Nat.zero_add]
 have hk:k < 32:=by
  have:=(List.getElem?_eq_some_iff.1 hv).1
  simpa[bl,hl] using this
 have hcs:32≤cur.size:=by
  have:=congrArg List.length h
  simp[bl,hl] at this
  omega
 rw[Z1f,List.getElem?_set] at hv
 rw[Array.getElem?_setIfInBounds]
 by_cases e:31=k
 ·subst e
  rw[if_pos rfl,if_pos (by omega)]
  rw[if_pos rfl,if_pos (by omega)] at hv
  exact hv
 ·rw[if_neg e]
  rw[if_neg e] at hv
  have:=congrArg (fun z=>z[k]?) h
  simp only[List.getElem?_take,if_pos hk,Z1f] at this
  rw[←hv,←this]
  simp
theorem Zmw(A:Option Addr)(c:Nat)(l:List Nat)(w:World)(tab:TabE w)(hc:32≤c)(hl:∀x∈l,x < 256)(hs:Sl w A 32 (bl l))(odd:Bool)(ho:decide (128≤l.getD 31 0)=odd)(hm:¬le (low l) < pp) :
  Calls Tryz.prog 12 #[.slice A 32 c] w (NoP 40 w):=by
 have hln:l.length=32:=by simpa[bl] using hs.1
 have hlow:∀x∈low l,x < 256:=by
  intro x hx
  rcases List.mem_or_eq_of_mem_set hx with h1|h1
  ·exact hl x h1
  ·omega
 obtain⟨x,hx⟩:∃x,l.getD 31 0=x:=⟨_,rfl⟩
 have hx256:x < 256:=by rw[←hx,List.getD_eq_getElem?_getD,List.getElem?_eq_getElem (by omega)];exact hl _ (List.getElem_mem _)
 have hxl:(bl l)[31]?=some (.int .u8 (x:Int)):=by rw[Z1f,←hx,List.getD_eq_getElem?_getD,List.getElem?_eq_getElem (by omega)];rfl
 have elow:low l=l.set 31 (x%128):=by unfold low;rw[hx]
 have HLO:=Lib.hid hlow
 obtain⟨m,hmm⟩:∃m,le (low l)=m:=⟨_,rfl⟩
 rw[hmm] at hm
 have HM:=Lib.hid hm
 have HMM:=Lib.hid hmm
 have HEL:=Lib.hid elow
 rw[hx] at ho
 have HO:=Lib.hid ho
 have TB:=Lib.hid tab
 obtain⟨ad,hA,hcell⟩:=hs.at_ (show 31 < 32 by decide)
 subst hA
 rw[hxl] at hcell
 have HXL:=Lib.hid hxl
 have HS:=Lib.hid hs
 have HCE:=Lib.hid hcell
 clear hm hmm elow ho tab hlow hx hl hxl hs hcell
 go_enter Tryz.func12,Tryz.ntmps12
 go_upto_region 1 with(fail)
 refine Z1q _ _ _ ?_
 intro W0 B0 D0 hs0
 refine wp_region_lit ?_
 refine Z00 (.slice (some ad) 32 c) rfl (by kernel_rfl) ?_
 refine Z00 (.int .i64 32) rfl (by kernel_rfl) ?_
 refine Z00 (.bool false) rfl (by kernel_rfl) ?_
 refine Z03 ?_
 simp only[Act.put,List.setIfInBounds_toArray,List.set_cons_zero,List.set_cons_succ]
 go_upto_region 3 with(fail)
 refine wp_region_lit ?_
 refine Z00 (.slice (some ad) 32 c) rfl (by kernel_rfl) ?_
 refine Z00 (.pointer (some (ad.add 31))) rfl (by kernel_rfl) ?_
 refine Z1s (ad.add 31) (.int .u8 (x:Int)) (Z05 D0 HCE.out) 5 (.tmp 14) rfl rfl (by kernel_rfl) Tryz.underlying5 rfl ?_
 refine Z00 (.int .u8 ((x / 128*128:Nat):Int)) rfl (Z0a .and 5 (.tmp 15) (.const (.int .u8 128)) _ rfl (.int .u8 (x:Int)) (.int .u8 128) (.int .u8 ((x / 128*128:Nat):Int)) (by kernel_rfl) (by kernel_rfl) (by kernel_rfl) (Z4p _ x hx256)) ?_
 refine Z00 (.bool odd) rfl (Z0a .neq 5 (.tmp 16) (.const (.int .u8 0)) _ rfl (.int .u8 ((x / 128*128:Nat):Int)) (.int .u8 0) (.bool odd) (by kernel_rfl) (by kernel_rfl) (by kernel_rfl) (Z9b _ x odd HO.out hx256)) ?_
 refine Z00 (.bool odd) rfl (by kernel_rfl) ?_
 refine Z03 ?_
 simp only[Act.put,List.setIfInBounds_toArray,List.set_cons_zero,List.set_cons_succ]
 go_upto_region 4 with(fail)
 refine wp_region_lit ?_
 refine Z00 (.slice (some ad) 32 c) rfl (by kernel_rfl) ?_
 refine Z06 42 #[.slice (some ad) 32 c] rfl (by kernel_rfl) ((Z3i (some ad) 32 c l _ (by decide) (by decide) hc (HS.out.below D0)).mono ?_)
 rintro e W1 ⟨g,cap,cur,rfl,C1,hcap,hcur,htake,hg,E1⟩
 refine⟨_,rfl,?_⟩
 rw[hln] at hcap hcur htake ⊢
 refine Z00 (.slice (some ⟨g,0,none⟩) 32 cap) rfl (by kernel_rfl) ?_
 refine Z03 ?_
 simp only[Act.put,List.setIfInBounds_toArray,List.set_cons_zero,List.set_cons_succ]
 have D1:=Z07 D0 (Nat.le_refl _) E1
 have B1:=B0.below' E1
 have GG:=Lib.hid (show w.heap.size+1≤g by omega)
 have hcx:cur[31]?=some (.int .u8 (x:Int)):=by
  have:=congrArg (fun z=>z[31]?) htake
  simp only[List.getElem?_take,HXL.out] at this
  simpa using this
 have HT:=Lib.hid htake
 have HLN:=Lib.hid hln
 clear D0 B0 E1 hg htake hln hs0
 go_upto_region 5 with(fail)
 refine wp_region_lit ?_
 refine Z00 (.slice (some ⟨g,0,none⟩) 32 cap) rfl (by kernel_rfl) ?_
 refine Z00 (.pointer (some ⟨g,31,none⟩)) rfl (by kernel_rfl) ?_
 refine Z1s ⟨g,31,none⟩ (.int .u8 (x:Int)) (C1.cell_ hcx) 5 (.tmp 21) rfl rfl (by kernel_rfl) Tryz.underlying5 rfl ?_
 refine Z00 (.int .u8 ((x%128:Nat):Int)) rfl (Z0a .andNot 5 (.tmp 22) (.const (.int .u8 128)) _ rfl (.int .u8 (x:Int)) (.int .u8 128) (.int .u8 ((x%128:Nat):Int)) (by kernel_rfl) (by kernel_rfl) (by kernel_rfl) (Z2t _ x hx256)) ?_
 refine Z00 (.pointer (some ⟨g,31,none⟩)) rfl (by kernel_rfl) ?_
 refine Z5g g 31 _ _ C1 (.int .u8 ((x%128:Nat):Int)) 5 (.tmp 24) (.tmp 23) rfl rfl (by kernel_rfl) (by kernel_rfl) rfl (by omega) Z99 rfl fun W2 C2 G2=>?_
 refine Z03 ?_
 simp only[Act.put,List.setIfInBounds_toArray,List.set_cons_zero,List.set_cons_succ]
 have D2:=Z01 (g:=g) D1 G2 (by have:=GG.out;omega)
 have B2:=B1.grown G2 (by simp only[ne_eq,Option.some.injEq];have:=GG.out;omega)
 have SL:=Sl.of_bl C2 0 32 (bl (low l)) (by rw[HEL.out];simp[bl,HLN.out]) (fun k v hv=>Z4q HT.out HLN.out (x%128) k v (by rw[←HEL.out];exact hv))
 clear C1 C2 D1 B1 G2 hcx
 go_upto_region 6 with(fail)
 refine wp_region_lit ?_
 refine Z00 (.slice (some ⟨g,0,none⟩) 32 cap) rfl (by kernel_rfl) ?_
 refine Z06 43 #[.slice (some ⟨g,0,none⟩) 32 cap] rfl (by kernel_rfl) ((Z2r (some ⟨g,0,none⟩) cap (low l) _ HLO.out SL).mono ?_)
 rintro e W3 ⟨he,E3⟩
 rw[HMM.out] at he
 unfold DecP at he
 rw[if_neg HM.out] at he
 obtain rfl:e=.returned (.tuple #[.agg (K.v ke),.int .i64 30]):=he
 refine⟨_,rfl,?_⟩
 have D3:=Z07 D2 (Nat.le_refl _) E3
 have B3:=B2.below' E3
 clear D2 B2 E3 SL
 refine Z00 (.tuple #[.agg (K.v ke),.int .i64 30]) rfl (by kernel_rfl) ?_
 refine Z00 (.agg (K.v ke)) rfl (by kernel_rfl) ?_
 refine Z00 (.int .i64 30) rfl (by kernel_rfl) ?_
 refine Z1o (W3.alloc (.cells z5 26)) (.pointer (some ⟨W3.heap.size,0,none⟩)) rfl (by kernel_rfl) ?_
 have D4:=D3.alloc D3.size (.cells z5 26)
 have B4:=B3.alloc (.cells z5 26)
 have hz3:=D3.size
 obtain⟨q5,hq5⟩:∃q,W3.heap.size=q:=⟨_,rfl⟩
 have BN:=Bl.new_ W3 26 z5
 have B3l:=B3.lt
 rw[hq5] at BN hz3 B3l ⊢
 clear D3 B3 hq5
 refine Z0m q5 26 z5 (K.v ke) BN 26 (.tmp 5) (.tmp 28) rfl rfl (by kernel_rfl) (by kernel_rfl) (K.sz ke _) Z0b (K.ones _) fun W4 C4 G4=>?_
 have D5:=Z01 (g:=q5) D4 G4 hz3
 have B5:=B4.grown G4 (by simp only[ne_eq,Option.some.injEq];omega)
 clear D4 B4 G4 BN
 refine Z00 (.int .i64 30) rfl (by kernel_rfl) ?_
 refine Z03 ?_
 simp only[Act.put,List.setIfInBounds_toArray,List.set_cons_zero,List.set_cons_succ]
 go_upto_region 7 with(fail)
 refine wp_region_lit ?_
 refine Z00 (.int .i64 30) rfl (by kernel_rfl) ?_
 refine Z00 (.bool true) rfl (by kernel_rfl) ?_
 refine Z03 ?_
 simp only[Act.put,List.setIfInBounds_toArray,List.set_cons_zero,List.set_cons_succ]
 go_upto_region 8 with(fail)
 refine wp_region_lit ?_
 refine Z00 (.agg z20) rfl (by kernel_rfl) ?_
 refine Z0m w.heap.size 28 z20 z20 B5 28 (.tmp 2) (.tmp 32) rfl rfl (by kernel_rfl) (by kernel_rfl) rfl Z0e Z5r fun W9 C9 G9=>?_
 refine Z00 (.int .i64 40) rfl (by kernel_rfl) ?_
 refine Z03 ?_
 simp only[Act.put,List.setIfInBounds_toArray,List.set_cons_zero,List.set_cons_succ]
 have HF:=Lib.hid C9
 have hz:=Z01 (g:=w.heap.size) D5 G9 (Nat.le_refl _)
 go_wp2_with fail
 refine bodyPost_ret (v:=.tuple #[.agg z20,.int .i64 40]) (Gn.results_cell_tmp 2 28 3 (.int .i64 40) w.heap.size 28 z20 Tryz.results12 (by kernel_rfl) (by kernel_rfl) HF.out Tryz.underlying28 rfl Z0e) rfl ⟨rfl,hz⟩
theorem Zip(A:Option Addr)(c:Nat)(l:List Nat)(w:World)(tab:TabE w)(hc:32≤c)(hl:∀x∈l,x < 256)(hs:Sl w A 32 (bl l))(odd:Bool)(ho:decide (128≤l.getD 31 0)=odd)(hm:le (low l) < pp)(hr:acr (kof (le (low l)))=none) :
  Calls Tryz.prog 12 #[.slice A 32 c] w (NoP 40 w):=by
 have hln:l.length=32:=by simpa[bl] using hs.1
 have hlow:∀x∈low l,x < 256:=by
  intro x hx
  rcases List.mem_or_eq_of_mem_set hx with h1|h1
  ·exact hl x h1
  ·omega
 obtain⟨x,hx⟩:∃x,l.getD 31 0=x:=⟨_,rfl⟩
 have hx256:x < 256:=by rw[←hx,List.getD_eq_getElem?_getD,List.getElem?_eq_getElem (by omega)];exact hl _ (List.getElem_mem _)
 have hxl:(bl l)[31]?=some (.int .u8 (x:Int)):=by rw[Z1f,←hx,List.getD_eq_getElem?_getD,List.getElem?_eq_getElem (by omega)];rfl
 have elow:low l=l.set 31 (x%128):=by unfold low;rw[hx]
 have HLO:=Lib.hid hlow
 obtain⟨m,hmm⟩:∃m,le (low l)=m:=⟨_,rfl⟩
 rw[hmm] at hm
 rw[hmm] at hr
 have HR:=Lib.hid hr
 clear hr
 have HM:=Lib.hid hm
 have HMM:=Lib.hid hmm
 have HEL:=Lib.hid elow
 rw[hx] at ho
 have HO:=Lib.hid ho
 have TB:=Lib.hid tab
 obtain⟨ad,hA,hcell⟩:=hs.at_ (show 31 < 32 by decide)
 subst hA
 rw[hxl] at hcell
 have HXL:=Lib.hid hxl
 have HS:=Lib.hid hs
 have HCE:=Lib.hid hcell
 clear hm hmm elow ho tab hlow hx hl hxl hs hcell
 go_enter Tryz.func12,Tryz.ntmps12
 go_upto_region 1 with(fail)
 refine Z1q _ _ _ ?_
 intro W0 B0 D0 hs0
 refine wp_region_lit ?_
 refine Z00 (.slice (some ad) 32 c) rfl (by kernel_rfl) ?_
 refine Z00 (.int .i64 32) rfl (by kernel_rfl) ?_
 refine Z00 (.bool false) rfl (by kernel_rfl) ?_
 refine Z03 ?_
 simp only[Act.put,List.setIfInBounds_toArray,List.set_cons_zero,List.set_cons_succ]
 go_upto_region 3 with(fail)
 refine wp_region_lit ?_
 refine Z00 (.slice (some ad) 32 c) rfl (by kernel_rfl) ?_
 refine Z00 (.pointer (some (ad.add 31))) rfl (by kernel_rfl) ?_
 refine Z1s (ad.add 31) (.int .u8 (x:Int)) (Z05 D0 HCE.out) 5 (.tmp 14) rfl rfl (by kernel_rfl) Tryz.underlying5 rfl ?_
 refine Z00 (.int .u8 ((x / 128*128:Nat):Int)) rfl (Z0a .and 5 (.tmp 15) (.const (.int .u8 128)) _ rfl (.int .u8 (x:Int)) (.int .u8 128) (.int .u8 ((x / 128*128:Nat):Int)) (by kernel_rfl) (by kernel_rfl) (by kernel_rfl) (Z4p _ x hx256)) ?_
 refine Z00 (.bool odd) rfl (Z0a .neq 5 (.tmp 16) (.const (.int .u8 0)) _ rfl (.int .u8 ((x / 128*128:Nat):Int)) (.int .u8 0) (.bool odd) (by kernel_rfl) (by kernel_rfl) (by kernel_rfl) (Z9b _ x odd HO.out hx256)) ?_
 refine Z00 (.bool odd) rfl (by kernel_rfl) ?_
 refine Z03 ?_
 simp only[Act.put,List.setIfInBounds_toArray,List.set_cons_zero,List.set_cons_succ]
 go_upto_region 4 with(fail)
 refine wp_region_lit ?_
 refine Z00 (.slice (some ad) 32 c) rfl (by kernel_rfl) ?_
 refine Z06 42 #[.slice (some ad) 32 c] rfl (by kernel_rfl) ((Z3i (some ad) 32 c l _ (by decide) (by decide) hc (HS.out.below D0)).mono ?_)
 rintro e W1 ⟨g,cap,cur,rfl,C1,hcap,hcur,htake,hg,E1⟩
 refine⟨_,rfl,?_⟩
 rw[hln] at hcap hcur htake ⊢
 refine Z00 (.slice (some ⟨g,0,none⟩) 32 cap) rfl (by kernel_rfl) ?_
 refine Z03 ?_
 simp only[Act.put,List.setIfInBounds_toArray,List.set_cons_zero,List.set_cons_succ]
 have D1:=Z07 D0 (Nat.le_refl _) E1
 have B1:=B0.below' E1
 have GG:=Lib.hid (show w.heap.size+1≤g by omega)
 have hcx:cur[31]?=some (.int .u8 (x:Int)):=by
  have:=congrArg (fun z=>z[31]?) htake
  simp only[List.getElem?_take,HXL.out] at this
  simpa using this
 have HT:=Lib.hid htake
 have HLN:=Lib.hid hln
 clear D0 B0 E1 hg htake hln hs0
 go_upto_region 5 with(fail)
 refine wp_region_lit ?_
 refine Z00 (.slice (some ⟨g,0,none⟩) 32 cap) rfl (by kernel_rfl) ?_
 refine Z00 (.pointer (some ⟨g,31,none⟩)) rfl (by kernel_rfl) ?_
 refine Z1s ⟨g,31,none⟩ (.int .u8 (x:Int)) (C1.cell_ hcx) 5 (.tmp 21) rfl rfl (by kernel_rfl) Tryz.underlying5 rfl ?_
 refine Z00 (.int .u8 ((x%128:Nat):Int)) rfl (Z0a .andNot 5 (.tmp 22) (.const (.int .u8 128)) _ rfl (.int .u8 (x:Int)) (.int .u8 128) (.int .u8 ((x%128:Nat):Int)) (by kernel_rfl) (by kernel_rfl) (by kernel_rfl) (Z2t _ x hx256)) ?_
 refine Z00 (.pointer (some ⟨g,31,none⟩)) rfl (by kernel_rfl) ?_
 refine Z5g g 31 _ _ C1 (.int .u8 ((x%128:Nat):Int)) 5 (.tmp 24) (.tmp 23) rfl rfl (by kernel_rfl) (by kernel_rfl) rfl (by omega) Z99 rfl fun W2 C2 G2=>?_
 refine Z03 ?_
 simp only[Act.put,List.setIfInBounds_toArray,List.set_cons_zero,List.set_cons_succ]
 have D2:=Z01 (g:=g) D1 G2 (by have:=GG.out;omega)
 have B2:=B1.grown G2 (by simp only[ne_eq,Option.some.injEq];have:=GG.out;omega)
 have SL:=Sl.of_bl C2 0 32 (bl (low l)) (by rw[HEL.out];simp[bl,HLN.out]) (fun k v hv=>Z4q HT.out HLN.out (x%128) k v (by rw[←HEL.out];exact hv))
 clear C1 C2 D1 B1 G2 hcx
 go_upto_region 6 with(fail)
 refine wp_region_lit ?_
 refine Z00 (.slice (some ⟨g,0,none⟩) 32 cap) rfl (by kernel_rfl) ?_
 refine Z06 43 #[.slice (some ⟨g,0,none⟩) 32 cap] rfl (by kernel_rfl) ((Z2r (some ⟨g,0,none⟩) cap (low l) _ HLO.out SL).mono ?_)
 rintro e W3 ⟨he,E3⟩
 rw[HMM.out] at he
 unfold DecP at he
 rw[if_pos HM.out] at he
 obtain rfl:e=.returned (.tuple #[.agg (K.v (kof m)),.int .i64 0]):=(by rw[Z3g,Nat.mod_eq_of_lt HM.out];exact he)
 refine⟨_,rfl,?_⟩
 have D3:=Z07 D2 (Nat.le_refl _) E3
 have B3:=B2.below' E3
 clear D2 B2 E3 SL
 refine Z00 (.tuple #[.agg (K.v (kof m)),.int .i64 0]) rfl (by kernel_rfl) ?_
 refine Z00 (.agg (K.v (kof m))) rfl (by kernel_rfl) ?_
 refine Z00 (.int .i64 0) rfl (by kernel_rfl) ?_
 refine Z1o (W3.alloc (.cells z5 26)) (.pointer (some ⟨W3.heap.size,0,none⟩)) rfl (by kernel_rfl) ?_
 have D4:=D3.alloc D3.size (.cells z5 26)
 have B4:=B3.alloc (.cells z5 26)
 have hz3:=D3.size
 obtain⟨q5,hq5⟩:∃q,W3.heap.size=q:=⟨_,rfl⟩
 have BN:=Bl.new_ W3 26 z5
 have B3l:=B3.lt
 rw[hq5] at BN hz3 B3l ⊢
 clear D3 B3 hq5
 refine Z0m q5 26 z5 (K.v (kof m)) BN 26 (.tmp 5) (.tmp 28) rfl rfl (by kernel_rfl) (by kernel_rfl) (K.sz ke _) Z0b (K.ones _) fun W4 C4 G4=>?_
 have D5:=Z01 (g:=q5) D4 G4 hz3
 have B5:=B4.grown G4 (by simp only[ne_eq,Option.some.injEq];omega)
 clear D4 B4 G4 BN
 refine Z00 (.int .i64 0) rfl (by kernel_rfl) ?_
 refine Z03 ?_
 simp only[Act.put,List.setIfInBounds_toArray,List.set_cons_zero,List.set_cons_succ]
 go_upto_region 7 with(fail)
 refine wp_region_lit ?_
 refine Z00 (.int .i64 0) rfl (by kernel_rfl) ?_
 refine Z00 (.bool false) rfl (by kernel_rfl) ?_
 refine Z03 ?_
 simp only[Act.put,List.setIfInBounds_toArray,List.set_cons_zero,List.set_cons_succ]
 go_upto_region 9 with(fail)
 refine wp_region_lit ?_
 refine Z0p q5 0 5 26 (K.v (kof m)) C4 (K.v (kof m)) 26 (.tmp 5) rfl rfl (by kernel_rfl) (by kernel_rfl) (by kernel_rfl) Tryz.underlying26 rfl Z0b ?_
 refine Z06 44 #[.agg (K.v (kof m))] rfl (by kernel_rfl) ((Zmv _ (TB.out.below D5) HR.out).mono ?_)
 rintro e W5 ⟨rfl,E5⟩
 refine⟨_,rfl,?_⟩
 have D6:=Z07 D5 (Nat.le_refl _) E5
 have B6:=B5.below' E5
 have C6:=C4.below' E5
 clear D5 B5 C4 E5
 refine Z00 (.tuple #[.agg (K.v ke),.bool false]) rfl (by kernel_rfl) ?_
 refine Z00 (.agg (K.v ke)) rfl (by kernel_rfl) ?_
 refine Z00 (.bool false) rfl (by kernel_rfl) ?_
 refine Z1o (W5.alloc (.cells z5 26)) (.pointer (some ⟨W5.heap.size,0,none⟩)) rfl (by kernel_rfl) ?_
 have D7:=D6.alloc D6.size (.cells z5 26)
 have B7:=B6.alloc (.cells z5 26)
 have C7:=C6.alloc (.cells z5 26)
 have hz5:=D6.size
 have C6l:=C6.lt
 have B6l:=B6.lt
 obtain⟨q7,hq7⟩:∃q,W5.heap.size=q:=⟨_,rfl⟩
 have BN:=Bl.new_ W5 26 z5
 rw[hq7] at BN hz5 C6l B6l ⊢
 clear D6 B6 C6 hq7
 refine Z0m q7 26 z5 (K.v ke) BN 26 (.tmp 7) (.tmp 36) rfl rfl (by kernel_rfl) (by kernel_rfl) (K.sz ke _) Z0b (K.ones _) fun W6 X6 G6=>?_
 have D8:=Z01 (g:=q7) D7 G6 hz5
 have B8:=B7.grown G6 (by simp only[ne_eq,Option.some.injEq];omega)
 have C8:=C7.grown G6 (by simp only[ne_eq,Option.some.injEq];omega)
 clear D7 B7 C7 G6 BN
 refine Z00 (.bool false) rfl (by kernel_rfl) ?_
 refine Z03 ?_
 simp only[Act.put,List.setIfInBounds_toArray,List.set_cons_zero,List.set_cons_succ]
 go_upto_region 10 with(fail)
 refine wp_region_lit ?_
 refine Z00 (.bool false) rfl (by kernel_rfl) ?_
 refine Z00 (.bool true) rfl (by kernel_rfl) ?_
 refine Z03 ?_
 simp only[Act.put,List.setIfInBounds_toArray,List.set_cons_zero,List.set_cons_succ]
 go_upto_region 11 with(fail)
 refine wp_region_lit ?_
 refine Z00 (.agg z20) rfl (by kernel_rfl) ?_
 refine Z0m w.heap.size 28 z20 z20 B8 28 (.tmp 2) (.tmp 40) rfl rfl (by kernel_rfl) (by kernel_rfl) rfl Z0e Z5r fun W9 C9 G9=>?_
 refine Z00 (.int .i64 40) rfl (by kernel_rfl) ?_
 refine Z03 ?_
 simp only[Act.put,List.setIfInBounds_toArray,List.set_cons_zero,List.set_cons_succ]
 have HF:=Lib.hid C9
 have hz:=Z01 (g:=w.heap.size) D8 G9 (Nat.le_refl _)
 go_wp2_with fail
 refine bodyPost_ret (v:=.tuple #[.agg z20,.int .i64 40]) (Gn.results_cell_tmp 2 28 3 (.int .i64 40) w.heap.size 28 z20 Tryz.results12 (by kernel_rfl) (by kernel_rfl) HF.out Tryz.underlying28 rfl Z0e) rfl ⟨rfl,hz⟩
theorem Ziq(A:Option Addr)(c:Nat)(l:List Nat)(w:World)(tab:TabE w)(hc:32≤c)(hl:∀x∈l,x < 256)(hs:Sl w A 32 (bl l))(r:Nat)(ho:decide (128≤l.getD 31 0)=false)(hm:le (low l) < pp)(hr:acr (kof (le (low l)))=some r) :
  Calls Tryz.prog 12 #[.slice A 32 c] w fun e w'=>e=.returned (.tuple #[.agg (Z2i (sx 0 r) (kof (le (low l)))).v,.int .i64 0])∧Below w.heap.size w w':=by
 have hln:l.length=32:=by simpa[bl] using hs.1
 have hlow:∀x∈low l,x < 256:=by
  intro x hx
  rcases List.mem_or_eq_of_mem_set hx with h1|h1
  ·exact hl x h1
  ·omega
 obtain⟨x,hx⟩:∃x,l.getD 31 0=x:=⟨_,rfl⟩
 have hx256:x < 256:=by rw[←hx,List.getD_eq_getElem?_getD,List.getElem?_eq_getElem (by omega)];exact hl _ (List.getElem_mem _)
 have hxl:(bl l)[31]?=some (.int .u8 (x:Int)):=by rw[Z1f,←hx,List.getD_eq_getElem?_getD,List.getElem?_eq_getElem (by omega)];rfl
 have elow:low l=l.set 31 (x%128):=by unfold low;rw[hx]
 have HLO:=Lib.hid hlow
 obtain⟨m,hmm⟩:∃m,le (low l)=m:=⟨_,rfl⟩
 rw[hmm] at hm ⊢
 rw[hmm] at hr
 have HR:=Lib.hid hr
 clear hr
 have HM:=Lib.hid hm
 have HMM:=Lib.hid hmm
 have HEL:=Lib.hid elow
 rw[hx] at ho
 have HO:=Lib.hid ho
 have TB:=Lib.hid tab
 obtain⟨ad,hA,hcell⟩:=hs.at_ (show 31 < 32 by decide)
 subst hA
 rw[hxl] at hcell
 have HXL:=Lib.hid hxl
 have HS:=Lib.hid hs
 have HCE:=Lib.hid hcell
 clear hm hmm elow ho tab hlow hx hl hxl hs hcell
 go_enter Tryz.func12,Tryz.ntmps12
 go_upto_region 1 with(fail)
 refine Z1q _ _ _ ?_
 intro W0 B0 D0 hs0
 refine wp_region_lit ?_
 refine Z00 (.slice (some ad) 32 c) rfl (by kernel_rfl) ?_
 refine Z00 (.int .i64 32) rfl (by kernel_rfl) ?_
 refine Z00 (.bool false) rfl (by kernel_rfl) ?_
 refine Z03 ?_
 simp only[Act.put,List.setIfInBounds_toArray,List.set_cons_zero,List.set_cons_succ]
 go_upto_region 3 with(fail)
 refine wp_region_lit ?_
 refine Z00 (.slice (some ad) 32 c) rfl (by kernel_rfl) ?_
 refine Z00 (.pointer (some (ad.add 31))) rfl (by kernel_rfl) ?_
 refine Z1s (ad.add 31) (.int .u8 (x:Int)) (Z05 D0 HCE.out) 5 (.tmp 14) rfl rfl (by kernel_rfl) Tryz.underlying5 rfl ?_
 refine Z00 (.int .u8 ((x / 128*128:Nat):Int)) rfl (Z0a .and 5 (.tmp 15) (.const (.int .u8 128)) _ rfl (.int .u8 (x:Int)) (.int .u8 128) (.int .u8 ((x / 128*128:Nat):Int)) (by kernel_rfl) (by kernel_rfl) (by kernel_rfl) (Z4p _ x hx256)) ?_
 refine Z00 (.bool false) rfl (Z0a .neq 5 (.tmp 16) (.const (.int .u8 0)) _ rfl (.int .u8 ((x / 128*128:Nat):Int)) (.int .u8 0) (.bool false) (by kernel_rfl) (by kernel_rfl) (by kernel_rfl) (Z9b _ x false HO.out hx256)) ?_
 refine Z00 (.bool false) rfl (by kernel_rfl) ?_
 refine Z03 ?_
 simp only[Act.put,List.setIfInBounds_toArray,List.set_cons_zero,List.set_cons_succ]
 go_upto_region 4 with(fail)
 refine wp_region_lit ?_
 refine Z00 (.slice (some ad) 32 c) rfl (by kernel_rfl) ?_
 refine Z06 42 #[.slice (some ad) 32 c] rfl (by kernel_rfl) ((Z3i (some ad) 32 c l _ (by decide) (by decide) hc (HS.out.below D0)).mono ?_)
 rintro e W1 ⟨g,cap,cur,rfl,C1,hcap,hcur,htake,hg,E1⟩
 refine⟨_,rfl,?_⟩
 rw[hln] at hcap hcur htake ⊢
 refine Z00 (.slice (some ⟨g,0,none⟩) 32 cap) rfl (by kernel_rfl) ?_
 refine Z03 ?_
 simp only[Act.put,List.setIfInBounds_toArray,List.set_cons_zero,List.set_cons_succ]
 have D1:=Z07 D0 (Nat.le_refl _) E1
 have B1:=B0.below' E1
 have GG:=Lib.hid (show w.heap.size+1≤g by omega)
 have hcx:cur[31]?=some (.int .u8 (x:Int)):=by
  have:=congrArg (fun z=>z[31]?) htake
  simp only[List.getElem?_take,HXL.out] at this
  simpa using this
 have HT:=Lib.hid htake
 have HLN:=Lib.hid hln
 clear D0 B0 E1 hg htake hln hs0
 go_upto_region 5 with(fail)
 refine wp_region_lit ?_
 refine Z00 (.slice (some ⟨g,0,none⟩) 32 cap) rfl (by kernel_rfl) ?_
 refine Z00 (.pointer (some ⟨g,31,none⟩)) rfl (by kernel_rfl) ?_
 refine Z1s ⟨g,31,none⟩ (.int .u8 (x:Int)) (C1.cell_ hcx) 5 (.tmp 21) rfl rfl (by kernel_rfl) Tryz.underlying5 rfl ?_
 refine Z00 (.int .u8 ((x%128:Nat):Int)) rfl (Z0a .andNot 5 (.tmp 22) (.const (.int .u8 128)) _ rfl (.int .u8 (x:Int)) (.int .u8 128) (.int .u8 ((x%128:Nat):Int)) (by kernel_rfl) (by kernel_rfl) (by kernel_rfl) (Z2t _ x hx256)) ?_
 refine Z00 (.pointer (some ⟨g,31,none⟩)) rfl (by kernel_rfl) ?_
 refine Z5g g 31 _ _ C1 (.int .u8 ((x%128:Nat):Int)) 5 (.tmp 24) (.tmp 23) rfl rfl (by kernel_rfl) (by kernel_rfl) rfl (by omega) Z99 rfl fun W2 C2 G2=>?_
 refine Z03 ?_
 simp only[Act.put,List.setIfInBounds_toArray,List.set_cons_zero,List.set_cons_succ]
 have D2:=Z01 (g:=g) D1 G2 (by have:=GG.out;omega)
 have B2:=B1.grown G2 (by simp only[ne_eq,Option.some.injEq];have:=GG.out;omega)
 have SL:=Sl.of_bl C2 0 32 (bl (low l)) (by rw[HEL.out];simp[bl,HLN.out]) (fun k v hv=>Z4q HT.out HLN.out (x%128) k v (by rw[←HEL.out];exact hv))
 clear C1 C2 D1 B1 G2 hcx
 go_upto_region 6 with(fail)
 refine wp_region_lit ?_
 refine Z00 (.slice (some ⟨g,0,none⟩) 32 cap) rfl (by kernel_rfl) ?_
 refine Z06 43 #[.slice (some ⟨g,0,none⟩) 32 cap] rfl (by kernel_rfl) ((Z2r (some ⟨g,0,none⟩) cap (low l) _ HLO.out SL).mono ?_)
 rintro e W3 ⟨he,E3⟩
 rw[HMM.out] at he
 unfold DecP at he
 rw[if_pos HM.out] at he
 obtain rfl:e=.returned (.tuple #[.agg (K.v (kof m)),.int .i64 0]):=(by rw[Z3g,Nat.mod_eq_of_lt HM.out];exact he)
 refine⟨_,rfl,?_⟩
 have D3:=Z07 D2 (Nat.le_refl _) E3
 have B3:=B2.below' E3
 clear D2 B2 E3 SL
 refine Z00 (.tuple #[.agg (K.v (kof m)),.int .i64 0]) rfl (by kernel_rfl) ?_
 refine Z00 (.agg (K.v (kof m))) rfl (by kernel_rfl) ?_
 refine Z00 (.int .i64 0) rfl (by kernel_rfl) ?_
 refine Z1o (W3.alloc (.cells z5 26)) (.pointer (some ⟨W3.heap.size,0,none⟩)) rfl (by kernel_rfl) ?_
 have D4:=D3.alloc D3.size (.cells z5 26)
 have B4:=B3.alloc (.cells z5 26)
 have hz3:=D3.size
 obtain⟨q5,hq5⟩:∃q,W3.heap.size=q:=⟨_,rfl⟩
 have BN:=Bl.new_ W3 26 z5
 have B3l:=B3.lt
 rw[hq5] at BN hz3 B3l ⊢
 clear D3 B3 hq5
 refine Z0m q5 26 z5 (K.v (kof m)) BN 26 (.tmp 5) (.tmp 28) rfl rfl (by kernel_rfl) (by kernel_rfl) (K.sz ke _) Z0b (K.ones _) fun W4 C4 G4=>?_
 have D5:=Z01 (g:=q5) D4 G4 hz3
 have B5:=B4.grown G4 (by simp only[ne_eq,Option.some.injEq];omega)
 clear D4 B4 G4 BN
 refine Z00 (.int .i64 0) rfl (by kernel_rfl) ?_
 refine Z03 ?_
 simp only[Act.put,List.setIfInBounds_toArray,List.set_cons_zero,List.set_cons_succ]
 go_upto_region 7 with(fail)
 refine wp_region_lit ?_
 refine Z00 (.int .i64 0) rfl (by kernel_rfl) ?_
 refine Z00 (.bool false) rfl (by kernel_rfl) ?_
 refine Z03 ?_
 simp only[Act.put,List.setIfInBounds_toArray,List.set_cons_zero,List.set_cons_succ]
 go_upto_region 9 with(fail)
 refine wp_region_lit ?_
 refine Z0p q5 0 5 26 (K.v (kof m)) C4 (K.v (kof m)) 26 (.tmp 5) rfl rfl (by kernel_rfl) (by kernel_rfl) (by kernel_rfl) Tryz.underlying26 rfl Z0b ?_
 refine Z06 44 #[.agg (K.v (kof m))] rfl (by kernel_rfl) ((Zat _ (TB.out.below D5) HR.out).mono ?_)
 rintro e W5 ⟨rfl,E5⟩
 refine⟨_,rfl,?_⟩
 have D6:=Z07 D5 (Nat.le_refl _) E5
 have B6:=B5.below' E5
 have C6:=C4.below' E5
 clear D5 B5 C4 E5
 refine Z00 (.tuple #[.agg (K.v (kof r)),.bool true]) rfl (by kernel_rfl) ?_
 refine Z00 (.agg (K.v (kof r))) rfl (by kernel_rfl) ?_
 refine Z00 (.bool true) rfl (by kernel_rfl) ?_
 refine Z1o (W5.alloc (.cells z5 26)) (.pointer (some ⟨W5.heap.size,0,none⟩)) rfl (by kernel_rfl) ?_
 have D7:=D6.alloc D6.size (.cells z5 26)
 have B7:=B6.alloc (.cells z5 26)
 have C7:=C6.alloc (.cells z5 26)
 have hz5:=D6.size
 have C6l:=C6.lt
 have B6l:=B6.lt
 obtain⟨q7,hq7⟩:∃q,W5.heap.size=q:=⟨_,rfl⟩
 have BN:=Bl.new_ W5 26 z5
 rw[hq7] at BN hz5 C6l B6l ⊢
 clear D6 B6 C6 hq7
 refine Z0m q7 26 z5 (K.v (kof r)) BN 26 (.tmp 7) (.tmp 36) rfl rfl (by kernel_rfl) (by kernel_rfl) (K.sz ke _) Z0b (K.ones _) fun W6 X6 G6=>?_
 have D8:=Z01 (g:=q7) D7 G6 hz5
 have B8:=B7.grown G6 (by simp only[ne_eq,Option.some.injEq];omega)
 have C8:=C7.grown G6 (by simp only[ne_eq,Option.some.injEq];omega)
 clear D7 B7 C7 G6 BN
 refine Z00 (.bool true) rfl (by kernel_rfl) ?_
 refine Z03 ?_
 simp only[Act.put,List.setIfInBounds_toArray,List.set_cons_zero,List.set_cons_succ]
 go_upto_region 10 with(fail)
 refine wp_region_lit ?_
 refine Z00 (.bool true) rfl (by kernel_rfl) ?_
 refine Z00 (.bool false) rfl (by kernel_rfl) ?_
 refine Z03 ?_
 simp only[Act.put,List.setIfInBounds_toArray,List.set_cons_zero,List.set_cons_succ]
 go_upto_region 12 with(fail)
 refine wp_region_lit ?_
 refine Z00 (.bool false) rfl (by kernel_rfl) ?_
 refine Z03 ?_
 simp only[Act.put,List.setIfInBounds_toArray,List.set_cons_zero,List.set_cons_succ]
 have OB:decide (fv (K.f (kof r))%2=1)=false:=(by rw[decide_eq_false_iff_not,Z21,Z2e (Z7b HR.out).1];have:=(Z7b HR.out).2;omega)
 have OC:=codd (kof r)
 rw[OB] at OC
 replace OC:=Lib.hid OC
 clear OB
 go_upto_region 14 with(fail)
 refine wp_region_lit ?_
 refine Z0p q7 0 5 26 (K.v (kof r)) X6 (K.v (kof r)) 26 (.tmp 7) rfl rfl (by kernel_rfl) (by kernel_rfl) (by kernel_rfl) Tryz.underlying26 rfl Z0b ?_
 refine Z06 46 #[.agg (K.v (kof r))] rfl (by kernel_rfl) ((OC.out _).mono ?_)
 rintro e W11 ⟨rfl,E11⟩
 refine⟨_,rfl,?_⟩
 have D11:=Z07 D8 (Nat.le_refl _) E11
 have B11:=Bl.below' B8 E11
 have C11:=Bl.below' C8 E11
 have X11:=Bl.below' X6 E11
 refine Z00 (.bool false) rfl (by kernel_rfl) ?_
 refine Z00 (.bool false) rfl (by kernel_rfl) ?_
 refine Z03 ?_
 simp only[Act.put,List.setIfInBounds_toArray,List.set_cons_zero,List.set_cons_succ]
 go_upto_region 16 with(fail)
 refine wp_region_lit ?_
 refine Z0p q7 0 5 26 (K.v (kof r)) X11 (K.v (kof r)) 26 (.tmp 7) rfl rfl (by kernel_rfl) (by kernel_rfl) (by kernel_rfl) Tryz.underlying26 rfl Z0b ?_
 refine Z0p q5 0 5 26 (K.v (kof m)) C11 (K.v (kof m)) 26 (.tmp 5) rfl rfl (by kernel_rfl) (by kernel_rfl) (by kernel_rfl) Tryz.underlying26 rfl Z0b ?_
 refine Z06 47 #[.agg (K.v (kof r)),.agg (K.v (kof m))] rfl (by kernel_rfl) ((Z5p (kof r) (kof m) _).mono ?_)
 rintro e W12 ⟨rfl,E12⟩
 refine⟨_,rfl,?_⟩
 have D12:=Z07 D11 (Nat.le_refl _) E12
 have B12:=B11.below' E12
 obtain⟨res,hres⟩:∃res,Z2i (kof r) (kof m)=res:=⟨_,rfl⟩
 have HRS:=Lib.hid hres
 rw[hres]
 clear hres
 refine Z0m w.heap.size 28 z20 res.v B12 28 (.tmp 2) (.tmp 51) rfl rfl (by kernel_rfl) (by kernel_rfl) (KP.sz kz4 _) Z0e (KP.ones _) fun W13 C13 G13=>?_
 refine Z00 (.int .i64 0) rfl (by kernel_rfl) ?_
 refine Z03 ?_
 simp only[Act.put,List.setIfInBounds_toArray,List.set_cons_zero,List.set_cons_succ]
 have HF:=Lib.hid C13
 have hz:=Z01 (g:=w.heap.size) D12 G13 (Nat.le_refl _)
 have hsx:Z2i (sx 0 r) (kof m)=res:=by rw[←HRS.out];rfl
 go_wp2_with fail
 refine bodyPost_ret (v:=.tuple #[.agg res.v,.int .i64 0]) (Gn.results_cell_tmp 2 28 3 (.int .i64 0) w.heap.size 28 res.v Tryz.results12 (by kernel_rfl) (by kernel_rfl) HF.out Tryz.underlying28 rfl Z0e) rfl ⟨by rw[hsx],hz⟩
theorem Zir(A:Option Addr)(c:Nat)(l:List Nat)(w:World)(tab:TabE w)(hc:32≤c)(hl:∀x∈l,x < 256)(hs:Sl w A 32 (bl l))(ho:decide (128≤l.getD 31 0)=true)(hm:le (low l) < pp)(hr:acr (kof (le (low l)))=some 0) :
  Calls Tryz.prog 12 #[.slice A 32 c] w (NoP 40 w):=by
 have hln:l.length=32:=by simpa[bl] using hs.1
 have hlow:∀x∈low l,x < 256:=by
  intro x hx
  rcases List.mem_or_eq_of_mem_set hx with h1|h1
  ·exact hl x h1
  ·omega
 obtain⟨x,hx⟩:∃x,l.getD 31 0=x:=⟨_,rfl⟩
 have hx256:x < 256:=by rw[←hx,List.getD_eq_getElem?_getD,List.getElem?_eq_getElem (by omega)];exact hl _ (List.getElem_mem _)
 have hxl:(bl l)[31]?=some (.int .u8 (x:Int)):=by rw[Z1f,←hx,List.getD_eq_getElem?_getD,List.getElem?_eq_getElem (by omega)];rfl
 have elow:low l=l.set 31 (x%128):=by unfold low;rw[hx]
 have HLO:=Lib.hid hlow
 obtain⟨m,hmm⟩:∃m,le (low l)=m:=⟨_,rfl⟩
 rw[hmm] at hm
 rw[hmm] at hr
 have HR:=Lib.hid hr
 clear hr
 have HM:=Lib.hid hm
 have HMM:=Lib.hid hmm
 have HEL:=Lib.hid elow
 rw[hx] at ho
 have HO:=Lib.hid ho
 have TB:=Lib.hid tab
 obtain⟨ad,hA,hcell⟩:=hs.at_ (show 31 < 32 by decide)
 subst hA
 rw[hxl] at hcell
 have HXL:=Lib.hid hxl
 have HS:=Lib.hid hs
 have HCE:=Lib.hid hcell
 clear hm hmm elow ho tab hlow hx hl hxl hs hcell
 go_enter Tryz.func12,Tryz.ntmps12
 go_upto_region 1 with(fail)
 refine Z1q _ _ _ ?_
 intro W0 B0 D0 hs0
 refine wp_region_lit ?_
 refine Z00 (.slice (some ad) 32 c) rfl (by kernel_rfl) ?_
 refine Z00 (.int .i64 32) rfl (by kernel_rfl) ?_
 refine Z00 (.bool false) rfl (by kernel_rfl) ?_
 refine Z03 ?_
 simp only[Act.put,List.setIfInBounds_toArray,List.set_cons_zero,List.set_cons_succ]
 go_upto_region 3 with(fail)
 refine wp_region_lit ?_
 refine Z00 (.slice (some ad) 32 c) rfl (by kernel_rfl) ?_
 refine Z00 (.pointer (some (ad.add 31))) rfl (by kernel_rfl) ?_
 refine Z1s (ad.add 31) (.int .u8 (x:Int)) (Z05 D0 HCE.out) 5 (.tmp 14) rfl rfl (by kernel_rfl) Tryz.underlying5 rfl ?_
 refine Z00 (.int .u8 ((x / 128*128:Nat):Int)) rfl (Z0a .and 5 (.tmp 15) (.const (.int .u8 128)) _ rfl (.int .u8 (x:Int)) (.int .u8 128) (.int .u8 ((x / 128*128:Nat):Int)) (by kernel_rfl) (by kernel_rfl) (by kernel_rfl) (Z4p _ x hx256)) ?_
 refine Z00 (.bool true) rfl (Z0a .neq 5 (.tmp 16) (.const (.int .u8 0)) _ rfl (.int .u8 ((x / 128*128:Nat):Int)) (.int .u8 0) (.bool true) (by kernel_rfl) (by kernel_rfl) (by kernel_rfl) (Z9b _ x true HO.out hx256)) ?_
 refine Z00 (.bool true) rfl (by kernel_rfl) ?_
 refine Z03 ?_
 simp only[Act.put,List.setIfInBounds_toArray,List.set_cons_zero,List.set_cons_succ]
 go_upto_region 4 with(fail)
 refine wp_region_lit ?_
 refine Z00 (.slice (some ad) 32 c) rfl (by kernel_rfl) ?_
 refine Z06 42 #[.slice (some ad) 32 c] rfl (by kernel_rfl) ((Z3i (some ad) 32 c l _ (by decide) (by decide) hc (HS.out.below D0)).mono ?_)
 rintro e W1 ⟨g,cap,cur,rfl,C1,hcap,hcur,htake,hg,E1⟩
 refine⟨_,rfl,?_⟩
 rw[hln] at hcap hcur htake ⊢
 refine Z00 (.slice (some ⟨g,0,none⟩) 32 cap) rfl (by kernel_rfl) ?_
 refine Z03 ?_
 simp only[Act.put,List.setIfInBounds_toArray,List.set_cons_zero,List.set_cons_succ]
 have D1:=Z07 D0 (Nat.le_refl _) E1
 have B1:=B0.below' E1
 have GG:=Lib.hid (show w.heap.size+1≤g by omega)
 have hcx:cur[31]?=some (.int .u8 (x:Int)):=by
  have:=congrArg (fun z=>z[31]?) htake
  simp only[List.getElem?_take,HXL.out] at this
  simpa using this
 have HT:=Lib.hid htake
 have HLN:=Lib.hid hln
 clear D0 B0 E1 hg htake hln hs0
 go_upto_region 5 with(fail)
 refine wp_region_lit ?_
 refine Z00 (.slice (some ⟨g,0,none⟩) 32 cap) rfl (by kernel_rfl) ?_
 refine Z00 (.pointer (some ⟨g,31,none⟩)) rfl (by kernel_rfl) ?_
 refine Z1s ⟨g,31,none⟩ (.int .u8 (x:Int)) (C1.cell_ hcx) 5 (.tmp 21) rfl rfl (by kernel_rfl) Tryz.underlying5 rfl ?_
 refine Z00 (.int .u8 ((x%128:Nat):Int)) rfl (Z0a .andNot 5 (.tmp 22) (.const (.int .u8 128)) _ rfl (.int .u8 (x:Int)) (.int .u8 128) (.int .u8 ((x%128:Nat):Int)) (by kernel_rfl) (by kernel_rfl) (by kernel_rfl) (Z2t _ x hx256)) ?_
 refine Z00 (.pointer (some ⟨g,31,none⟩)) rfl (by kernel_rfl) ?_
 refine Z5g g 31 _ _ C1 (.int .u8 ((x%128:Nat):Int)) 5 (.tmp 24) (.tmp 23) rfl rfl (by kernel_rfl) (by kernel_rfl) rfl (by omega) Z99 rfl fun W2 C2 G2=>?_
 refine Z03 ?_
 simp only[Act.put,List.setIfInBounds_toArray,List.set_cons_zero,List.set_cons_succ]
 have D2:=Z01 (g:=g) D1 G2 (by have:=GG.out;omega)
 have B2:=B1.grown G2 (by simp only[ne_eq,Option.some.injEq];have:=GG.out;omega)
 have SL:=Sl.of_bl C2 0 32 (bl (low l)) (by rw[HEL.out];simp[bl,HLN.out]) (fun k v hv=>Z4q HT.out HLN.out (x%128) k v (by rw[←HEL.out];exact hv))
 clear C1 C2 D1 B1 G2 hcx
 go_upto_region 6 with(fail)
 refine wp_region_lit ?_
 refine Z00 (.slice (some ⟨g,0,none⟩) 32 cap) rfl (by kernel_rfl) ?_
 refine Z06 43 #[.slice (some ⟨g,0,none⟩) 32 cap] rfl (by kernel_rfl) ((Z2r (some ⟨g,0,none⟩) cap (low l) _ HLO.out SL).mono ?_)
 rintro e W3 ⟨he,E3⟩
 rw[HMM.out] at he
 unfold DecP at he
 rw[if_pos HM.out] at he
 obtain rfl:e=.returned (.tuple #[.agg (K.v (kof m)),.int .i64 0]):=(by rw[Z3g,Nat.mod_eq_of_lt HM.out];exact he)
 refine⟨_,rfl,?_⟩
 have D3:=Z07 D2 (Nat.le_refl _) E3
 have B3:=B2.below' E3
 clear D2 B2 E3 SL
 refine Z00 (.tuple #[.agg (K.v (kof m)),.int .i64 0]) rfl (by kernel_rfl) ?_
 refine Z00 (.agg (K.v (kof m))) rfl (by kernel_rfl) ?_
 refine Z00 (.int .i64 0) rfl (by kernel_rfl) ?_
 refine Z1o (W3.alloc (.cells z5 26)) (.pointer (some ⟨W3.heap.size,0,none⟩)) rfl (by kernel_rfl) ?_
 have D4:=D3.alloc D3.size (.cells z5 26)
 have B4:=B3.alloc (.cells z5 26)
 have hz3:=D3.size
 obtain⟨q5,hq5⟩:∃q,W3.heap.size=q:=⟨_,rfl⟩
 have BN:=Bl.new_ W3 26 z5
 have B3l:=B3.lt
 rw[hq5] at BN hz3 B3l ⊢
 clear D3 B3 hq5
 refine Z0m q5 26 z5 (K.v (kof m)) BN 26 (.tmp 5) (.tmp 28) rfl rfl (by kernel_rfl) (by kernel_rfl) (K.sz ke _) Z0b (K.ones _) fun W4 C4 G4=>?_
 have D5:=Z01 (g:=q5) D4 G4 hz3
 have B5:=B4.grown G4 (by simp only[ne_eq,Option.some.injEq];omega)
 clear D4 B4 G4 BN
 refine Z00 (.int .i64 0) rfl (by kernel_rfl) ?_
 refine Z03 ?_
 simp only[Act.put,List.setIfInBounds_toArray,List.set_cons_zero,List.set_cons_succ]
 go_upto_region 7 with(fail)
 refine wp_region_lit ?_
 refine Z00 (.int .i64 0) rfl (by kernel_rfl) ?_
 refine Z00 (.bool false) rfl (by kernel_rfl) ?_
 refine Z03 ?_
 simp only[Act.put,List.setIfInBounds_toArray,List.set_cons_zero,List.set_cons_succ]
 go_upto_region 9 with(fail)
 refine wp_region_lit ?_
 refine Z0p q5 0 5 26 (K.v (kof m)) C4 (K.v (kof m)) 26 (.tmp 5) rfl rfl (by kernel_rfl) (by kernel_rfl) (by kernel_rfl) Tryz.underlying26 rfl Z0b ?_
 refine Z06 44 #[.agg (K.v (kof m))] rfl (by kernel_rfl) ((Zat _ (TB.out.below D5) HR.out).mono ?_)
 rintro e W5 ⟨rfl,E5⟩
 refine⟨_,rfl,?_⟩
 have D6:=Z07 D5 (Nat.le_refl _) E5
 have B6:=B5.below' E5
 have C6:=C4.below' E5
 clear D5 B5 C4 E5
 refine Z00 (.tuple #[.agg (K.v (kof 0)),.bool true]) rfl (by kernel_rfl) ?_
 refine Z00 (.agg (K.v (kof 0))) rfl (by kernel_rfl) ?_
 refine Z00 (.bool true) rfl (by kernel_rfl) ?_
 refine Z1o (W5.alloc (.cells z5 26)) (.pointer (some ⟨W5.heap.size,0,none⟩)) rfl (by kernel_rfl) ?_
 have D7:=D6.alloc D6.size (.cells z5 26)
 have B7:=B6.alloc (.cells z5 26)
 have C7:=C6.alloc (.cells z5 26)
 have hz5:=D6.size
 have C6l:=C6.lt
 have B6l:=B6.lt
 obtain⟨q7,hq7⟩:∃q,W5.heap.size=q:=⟨_,rfl⟩
 have BN:=Bl.new_ W5 26 z5
 rw[hq7] at BN hz5 C6l B6l ⊢
 clear D6 B6 C6 hq7
 refine Z0m q7 26 z5 (K.v (kof 0)) BN 26 (.tmp 7) (.tmp 36) rfl rfl (by kernel_rfl) (by kernel_rfl) (K.sz ke _) Z0b (K.ones _) fun W6 X6 G6=>?_
 have D8:=Z01 (g:=q7) D7 G6 hz5
 have B8:=B7.grown G6 (by simp only[ne_eq,Option.some.injEq];omega)
 have C8:=C7.grown G6 (by simp only[ne_eq,Option.some.injEq];omega)
 clear D7 B7 C7 G6 BN
 refine Z00 (.bool true) rfl (by kernel_rfl) ?_
 refine Z03 ?_
 simp only[Act.put,List.setIfInBounds_toArray,List.set_cons_zero,List.set_cons_succ]
 go_upto_region 10 with(fail)
 refine wp_region_lit ?_
 refine Z00 (.bool true) rfl (by kernel_rfl) ?_
 refine Z00 (.bool false) rfl (by kernel_rfl) ?_
 refine Z03 ?_
 simp only[Act.put,List.setIfInBounds_toArray,List.set_cons_zero,List.set_cons_succ]
 go_upto_region 12 with(fail)
 refine wp_region_lit ?_
 refine Z00 (.bool true) rfl (by kernel_rfl) ?_
 refine Z03 ?_
 simp only[Act.put,List.setIfInBounds_toArray,List.set_cons_zero,List.set_cons_succ]
 go_upto_region 13 with(fail)
 refine wp_region_lit ?_
 refine Z0p q7 0 5 26 (K.v (kof 0)) X6 (K.v (kof 0)) 26 (.tmp 7) rfl rfl (by kernel_rfl) (by kernel_rfl) (by kernel_rfl) Tryz.underlying26 rfl Z0b ?_
 refine Z06 45 #[.agg (K.v (kof 0))] rfl (by kernel_rfl) ((cneg (kof 0) _).mono ?_)
 rintro e W7 ⟨rfl,E7⟩
 refine⟨_,rfl,?_⟩
 have D9:=Z07 D8 (Nat.le_refl _) E7
 have B9:=B8.below' E7
 have C9:=C8.below' E7
 have X9:=X6.below' E7
 clear D8 B8 C8 X6 E7
 refine Z0m q7 26 (K.v (kof 0)) (K.v (kneg (kof 0))) X9 26 (.tmp 7) (.tmp 43) rfl rfl (by kernel_rfl) (by kernel_rfl) (K.sz _ _) Z0b (K.ones _) fun W8 X10 G8=>?_
 have D10:=Z01 (g:=q7) D9 G8 hz5
 have B10:=B9.grown G8 (by simp only[ne_eq,Option.some.injEq];omega)
 have C10:=C9.grown G8 (by simp only[ne_eq,Option.some.injEq];omega)
 clear D9 B9 C9 X9 G8
 refine Z03 ?_
 simp only[Act.put,List.setIfInBounds_toArray,List.set_cons_zero,List.set_cons_succ]
 have OB:decide (fv (K.f (kneg (kof 0)))%2=1)=false:=(by rw[decide_eq_false_iff_not,Zc4,Z21,←Zd2,Za8,Z1e];decide)
 have OC:=codd (kneg (kof 0))
 rw[OB] at OC
 replace OC:=Lib.hid OC
 clear OB
 go_upto_region 14 with(fail)
 refine wp_region_lit ?_
 refine Z0p q7 0 5 26 (K.v (kneg (kof 0))) X10 (K.v (kneg (kof 0))) 26 (.tmp 7) rfl rfl (by kernel_rfl) (by kernel_rfl) (by kernel_rfl) Tryz.underlying26 rfl Z0b ?_
 refine Z06 46 #[.agg (K.v (kneg (kof 0)))] rfl (by kernel_rfl) ((OC.out _).mono ?_)
 rintro e W11 ⟨rfl,E11⟩
 refine⟨_,rfl,?_⟩
 have D11:=Z07 D10 (Nat.le_refl _) E11
 have B11:=Bl.below' B10 E11
 have C11:=Bl.below' C10 E11
 have X11:=Bl.below' X10 E11
 refine Z00 (.bool true) rfl (by kernel_rfl) ?_
 refine Z00 (.bool true) rfl (by kernel_rfl) ?_
 refine Z03 ?_
 simp only[Act.put,List.setIfInBounds_toArray,List.set_cons_zero,List.set_cons_succ]
 go_upto_region 15 with(fail)
 refine wp_region_lit ?_
 refine Z00 (.agg z20) rfl (by kernel_rfl) ?_
 refine Z0m w.heap.size 28 z20 z20 B11 28 (.tmp 2) (.tmp 48) rfl rfl (by kernel_rfl) (by kernel_rfl) rfl Z0e Z5r fun W9 C9 G9=>?_
 refine Z00 (.int .i64 40) rfl (by kernel_rfl) ?_
 refine Z03 ?_
 simp only[Act.put,List.setIfInBounds_toArray,List.set_cons_zero,List.set_cons_succ]
 have HF:=Lib.hid C9
 have hz:=Z01 (g:=w.heap.size) D11 G9 (Nat.le_refl _)
 go_wp2_with fail
 refine bodyPost_ret (v:=.tuple #[.agg z20,.int .i64 40]) (Gn.results_cell_tmp 2 28 3 (.int .i64 40) w.heap.size 28 z20 Tryz.results12 (by kernel_rfl) (by kernel_rfl) HF.out Tryz.underlying28 rfl Z0e) rfl ⟨rfl,hz⟩
theorem Zmx(A:Option Addr)(c:Nat)(l:List Nat)(w:World)(tab:TabE w)(hc:32≤c)(hl:∀x∈l,x < 256)(hs:Sl w A 32 (bl l))(r:Nat)(h0:r≠0)(ho:decide (128≤l.getD 31 0)=true)(hm:le (low l) < pp)(hr:acr (kof (le (low l)))=some r) :
  Calls Tryz.prog 12 #[.slice A 32 c] w fun e w'=>e=.returned (.tuple #[.agg (Z2i (sx 1 r) (kof (le (low l)))).v,.int .i64 0])∧Below w.heap.size w w':=by
 have hln:l.length=32:=by simpa[bl] using hs.1
 have hlow:∀x∈low l,x < 256:=by
  intro x hx
  rcases List.mem_or_eq_of_mem_set hx with h1|h1
  ·exact hl x h1
  ·omega
 obtain⟨x,hx⟩:∃x,l.getD 31 0=x:=⟨_,rfl⟩
 have hx256:x < 256:=by rw[←hx,List.getD_eq_getElem?_getD,List.getElem?_eq_getElem (by omega)];exact hl _ (List.getElem_mem _)
 have hxl:(bl l)[31]?=some (.int .u8 (x:Int)):=by rw[Z1f,←hx,List.getD_eq_getElem?_getD,List.getElem?_eq_getElem (by omega)];rfl
 have elow:low l=l.set 31 (x%128):=by unfold low;rw[hx]
 have HLO:=Lib.hid hlow
 obtain⟨m,hmm⟩:∃m,le (low l)=m:=⟨_,rfl⟩
 rw[hmm] at hm ⊢
 rw[hmm] at hr
 have HR:=Lib.hid hr
 clear hr
 have HM:=Lib.hid hm
 have HMM:=Lib.hid hmm
 have HEL:=Lib.hid elow
 rw[hx] at ho
 have HO:=Lib.hid ho
 have TB:=Lib.hid tab
 obtain⟨ad,hA,hcell⟩:=hs.at_ (show 31 < 32 by decide)
 subst hA
 rw[hxl] at hcell
 have HXL:=Lib.hid hxl
 have HS:=Lib.hid hs
 have HCE:=Lib.hid hcell
 clear hm hmm elow ho tab hlow hx hl hxl hs hcell
 go_enter Tryz.func12,Tryz.ntmps12
 go_upto_region 1 with(fail)
 refine Z1q _ _ _ ?_
 intro W0 B0 D0 hs0
 refine wp_region_lit ?_
 refine Z00 (.slice (some ad) 32 c) rfl (by kernel_rfl) ?_
 refine Z00 (.int .i64 32) rfl (by kernel_rfl) ?_
 refine Z00 (.bool false) rfl (by kernel_rfl) ?_
 refine Z03 ?_
 simp only[Act.put,List.setIfInBounds_toArray,List.set_cons_zero,List.set_cons_succ]
 go_upto_region 3 with(fail)
 refine wp_region_lit ?_
 refine Z00 (.slice (some ad) 32 c) rfl (by kernel_rfl) ?_
 refine Z00 (.pointer (some (ad.add 31))) rfl (by kernel_rfl) ?_
 refine Z1s (ad.add 31) (.int .u8 (x:Int)) (Z05 D0 HCE.out) 5 (.tmp 14) rfl rfl (by kernel_rfl) Tryz.underlying5 rfl ?_
 refine Z00 (.int .u8 ((x / 128*128:Nat):Int)) rfl (Z0a .and 5 (.tmp 15) (.const (.int .u8 128)) _ rfl (.int .u8 (x:Int)) (.int .u8 128) (.int .u8 ((x / 128*128:Nat):Int)) (by kernel_rfl) (by kernel_rfl) (by kernel_rfl) (Z4p _ x hx256)) ?_
 refine Z00 (.bool true) rfl (Z0a .neq 5 (.tmp 16) (.const (.int .u8 0)) _ rfl (.int .u8 ((x / 128*128:Nat):Int)) (.int .u8 0) (.bool true) (by kernel_rfl) (by kernel_rfl) (by kernel_rfl) (Z9b _ x true HO.out hx256)) ?_
 refine Z00 (.bool true) rfl (by kernel_rfl) ?_
 refine Z03 ?_
 simp only[Act.put,List.setIfInBounds_toArray,List.set_cons_zero,List.set_cons_succ]
 go_upto_region 4 with(fail)
 refine wp_region_lit ?_
 refine Z00 (.slice (some ad) 32 c) rfl (by kernel_rfl) ?_
 refine Z06 42 #[.slice (some ad) 32 c] rfl (by kernel_rfl) ((Z3i (some ad) 32 c l _ (by decide) (by decide) hc (HS.out.below D0)).mono ?_)
 rintro e W1 ⟨g,cap,cur,rfl,C1,hcap,hcur,htake,hg,E1⟩
 refine⟨_,rfl,?_⟩
 rw[hln] at hcap hcur htake ⊢
 refine Z00 (.slice (some ⟨g,0,none⟩) 32 cap) rfl (by kernel_rfl) ?_
 refine Z03 ?_
 simp only[Act.put,List.setIfInBounds_toArray,List.set_cons_zero,List.set_cons_succ]
 have D1:=Z07 D0 (Nat.le_refl _) E1
 have B1:=B0.below' E1
 have GG:=Lib.hid (show w.heap.size+1≤g by omega)
 have hcx:cur[31]?=some (.int .u8 (x:Int)):=by
  have:=congrArg (fun z=>z[31]?) htake
  simp only[List.getElem?_take,HXL.out] at this
  simpa using this
 have HT:=Lib.hid htake
 have HLN:=Lib.hid hln
 clear D0 B0 E1 hg htake hln hs0
 go_upto_region 5 with(fail)
 refine wp_region_lit ?_
 refine Z00 (.slice (some ⟨g,0,none⟩) 32 cap) rfl (by kernel_rfl) ?_
 refine Z00 (.pointer (some ⟨g,31,none⟩)) rfl (by kernel_rfl) ?_
 refine Z1s ⟨g,31,none⟩ (.int .u8 (x:Int)) (C1.cell_ hcx) 5 (.tmp 21) rfl rfl (by kernel_rfl) Tryz.underlying5 rfl ?_
 refine Z00 (.int .u8 ((x%128:Nat):Int)) rfl (Z0a .andNot 5 (.tmp 22) (.const (.int .u8 128)) _ rfl (.int .u8 (x:Int)) (.int .u8 128) (.int .u8 ((x%128:Nat):Int)) (by kernel_rfl) (by kernel_rfl) (by kernel_rfl) (Z2t _ x hx256)) ?_
 refine Z00 (.pointer (some ⟨g,31,none⟩)) rfl (by kernel_rfl) ?_
 refine Z5g g 31 _ _ C1 (.int .u8 ((x%128:Nat):Int)) 5 (.tmp 24) (.tmp 23) rfl rfl (by kernel_rfl) (by kernel_rfl) rfl (by omega) Z99 rfl fun W2 C2 G2=>?_
 refine Z03 ?_
 simp only[Act.put,List.setIfInBounds_toArray,List.set_cons_zero,List.set_cons_succ]
 have D2:=Z01 (g:=g) D1 G2 (by have:=GG.out;omega)
 have B2:=B1.grown G2 (by simp only[ne_eq,Option.some.injEq];have:=GG.out;omega)
 have SL:=Sl.of_bl C2 0 32 (bl (low l)) (by rw[HEL.out];simp[bl,HLN.out]) (fun k v hv=>Z4q HT.out HLN.out (x%128) k v (by rw[←HEL.out];exact hv))
 clear C1 C2 D1 B1 G2 hcx
 go_upto_region 6 with(fail)
 refine wp_region_lit ?_
 refine Z00 (.slice (some ⟨g,0,none⟩) 32 cap) rfl (by kernel_rfl) ?_
 refine Z06 43 #[.slice (some ⟨g,0,none⟩) 32 cap] rfl (by kernel_rfl) ((Z2r (some ⟨g,0,none⟩) cap (low l) _ HLO.out SL).mono ?_)
 rintro e W3 ⟨he,E3⟩
 rw[HMM.out] at he
 unfold DecP at he
 rw[if_pos HM.out] at he
 obtain rfl:e=.returned (.tuple #[.agg (K.v (kof m)),.int .i64 0]):=(by rw[Z3g,Nat.mod_eq_of_lt HM.out];exact he)
 refine⟨_,rfl,?_⟩
 have D3:=Z07 D2 (Nat.le_refl _) E3
 have B3:=B2.below' E3
 clear D2 B2 E3 SL
 refine Z00 (.tuple #[.agg (K.v (kof m)),.int .i64 0]) rfl (by kernel_rfl) ?_
 refine Z00 (.agg (K.v (kof m))) rfl (by kernel_rfl) ?_
 refine Z00 (.int .i64 0) rfl (by kernel_rfl) ?_
 refine Z1o (W3.alloc (.cells z5 26)) (.pointer (some ⟨W3.heap.size,0,none⟩)) rfl (by kernel_rfl) ?_
 have D4:=D3.alloc D3.size (.cells z5 26)
 have B4:=B3.alloc (.cells z5 26)
 have hz3:=D3.size
 obtain⟨q5,hq5⟩:∃q,W3.heap.size=q:=⟨_,rfl⟩
 have BN:=Bl.new_ W3 26 z5
 have B3l:=B3.lt
 rw[hq5] at BN hz3 B3l ⊢
 clear D3 B3 hq5
 refine Z0m q5 26 z5 (K.v (kof m)) BN 26 (.tmp 5) (.tmp 28) rfl rfl (by kernel_rfl) (by kernel_rfl) (K.sz ke _) Z0b (K.ones _) fun W4 C4 G4=>?_
 have D5:=Z01 (g:=q5) D4 G4 hz3
 have B5:=B4.grown G4 (by simp only[ne_eq,Option.some.injEq];omega)
 clear D4 B4 G4 BN
 refine Z00 (.int .i64 0) rfl (by kernel_rfl) ?_
 refine Z03 ?_
 simp only[Act.put,List.setIfInBounds_toArray,List.set_cons_zero,List.set_cons_succ]
 go_upto_region 7 with(fail)
 refine wp_region_lit ?_
 refine Z00 (.int .i64 0) rfl (by kernel_rfl) ?_
 refine Z00 (.bool false) rfl (by kernel_rfl) ?_
 refine Z03 ?_
 simp only[Act.put,List.setIfInBounds_toArray,List.set_cons_zero,List.set_cons_succ]
 go_upto_region 9 with(fail)
 refine wp_region_lit ?_
 refine Z0p q5 0 5 26 (K.v (kof m)) C4 (K.v (kof m)) 26 (.tmp 5) rfl rfl (by kernel_rfl) (by kernel_rfl) (by kernel_rfl) Tryz.underlying26 rfl Z0b ?_
 refine Z06 44 #[.agg (K.v (kof m))] rfl (by kernel_rfl) ((Zat _ (TB.out.below D5) HR.out).mono ?_)
 rintro e W5 ⟨rfl,E5⟩
 refine⟨_,rfl,?_⟩
 have D6:=Z07 D5 (Nat.le_refl _) E5
 have B6:=B5.below' E5
 have C6:=C4.below' E5
 clear D5 B5 C4 E5
 refine Z00 (.tuple #[.agg (K.v (kof r)),.bool true]) rfl (by kernel_rfl) ?_
 refine Z00 (.agg (K.v (kof r))) rfl (by kernel_rfl) ?_
 refine Z00 (.bool true) rfl (by kernel_rfl) ?_
 refine Z1o (W5.alloc (.cells z5 26)) (.pointer (some ⟨W5.heap.size,0,none⟩)) rfl (by kernel_rfl) ?_
 have D7:=D6.alloc D6.size (.cells z5 26)
 have B7:=B6.alloc (.cells z5 26)
 have C7:=C6.alloc (.cells z5 26)
 have hz5:=D6.size
 have C6l:=C6.lt
 have B6l:=B6.lt
 obtain⟨q7,hq7⟩:∃q,W5.heap.size=q:=⟨_,rfl⟩
 have BN:=Bl.new_ W5 26 z5
 rw[hq7] at BN hz5 C6l B6l ⊢
 clear D6 B6 C6 hq7
 refine Z0m q7 26 z5 (K.v (kof r)) BN 26 (.tmp 7) (.tmp 36) rfl rfl (by kernel_rfl) (by kernel_rfl) (K.sz ke _) Z0b (K.ones _) fun W6 X6 G6=>?_
 have D8:=Z01 (g:=q7) D7 G6 hz5
 have B8:=B7.grown G6 (by simp only[ne_eq,Option.some.injEq];omega)
 have C8:=C7.grown G6 (by simp only[ne_eq,Option.some.injEq];omega)
 clear D7 B7 C7 G6 BN
 refine Z00 (.bool true) rfl (by kernel_rfl) ?_
 refine Z03 ?_
 simp only[Act.put,List.setIfInBounds_toArray,List.set_cons_zero,List.set_cons_succ]
 go_upto_region 10 with(fail)
 refine wp_region_lit ?_
 refine Z00 (.bool true) rfl (by kernel_rfl) ?_
 refine Z00 (.bool false) rfl (by kernel_rfl) ?_
 refine Z03 ?_
 simp only[Act.put,List.setIfInBounds_toArray,List.set_cons_zero,List.set_cons_succ]
 go_upto_region 12 with(fail)
 refine wp_region_lit ?_
 refine Z00 (.bool true) rfl (by kernel_rfl) ?_
 refine Z03 ?_
 simp only[Act.put,List.setIfInBounds_toArray,List.set_cons_zero,List.set_cons_succ]
 go_upto_region 13 with(fail)
 refine wp_region_lit ?_
 refine Z0p q7 0 5 26 (K.v (kof r)) X6 (K.v (kof r)) 26 (.tmp 7) rfl rfl (by kernel_rfl) (by kernel_rfl) (by kernel_rfl) Tryz.underlying26 rfl Z0b ?_
 refine Z06 45 #[.agg (K.v (kof r))] rfl (by kernel_rfl) ((cneg (kof r) _).mono ?_)
 rintro e W7 ⟨rfl,E7⟩
 refine⟨_,rfl,?_⟩
 have D9:=Z07 D8 (Nat.le_refl _) E7
 have B9:=B8.below' E7
 have C9:=C8.below' E7
 have X9:=X6.below' E7
 clear D8 B8 C8 X6 E7
 refine Z0m q7 26 (K.v (kof r)) (K.v (kneg (kof r))) X9 26 (.tmp 7) (.tmp 43) rfl rfl (by kernel_rfl) (by kernel_rfl) (K.sz _ _) Z0b (K.ones _) fun W8 X10 G8=>?_
 have D10:=Z01 (g:=q7) D9 G8 hz5
 have B10:=B9.grown G8 (by simp only[ne_eq,Option.some.injEq];omega)
 have C10:=C9.grown G8 (by simp only[ne_eq,Option.some.injEq];omega)
 clear D9 B9 C9 X9 G8
 refine Z03 ?_
 simp only[Act.put,List.setIfInBounds_toArray,List.set_cons_zero,List.set_cons_succ]
 have OB:decide (fv (K.f (kneg (kof r)))%2=1)=true:=(by rw[decide_eq_true_eq,Zc4,Z21,←Zd2,Z2e (Z7v _),Zhs (Z7b HR.out).1 h0];have:=(Z7b HR.out);have:=Zed;omega)
 have OC:=codd (kneg (kof r))
 rw[OB] at OC
 replace OC:=Lib.hid OC
 clear OB
 go_upto_region 14 with(fail)
 refine wp_region_lit ?_
 refine Z0p q7 0 5 26 (K.v (kneg (kof r))) X10 (K.v (kneg (kof r))) 26 (.tmp 7) rfl rfl (by kernel_rfl) (by kernel_rfl) (by kernel_rfl) Tryz.underlying26 rfl Z0b ?_
 refine Z06 46 #[.agg (K.v (kneg (kof r)))] rfl (by kernel_rfl) ((OC.out _).mono ?_)
 rintro e W11 ⟨rfl,E11⟩
 refine⟨_,rfl,?_⟩
 have D11:=Z07 D10 (Nat.le_refl _) E11
 have B11:=Bl.below' B10 E11
 have C11:=Bl.below' C10 E11
 have X11:=Bl.below' X10 E11
 refine Z00 (.bool true) rfl (by kernel_rfl) ?_
 refine Z00 (.bool false) rfl (by kernel_rfl) ?_
 refine Z03 ?_
 simp only[Act.put,List.setIfInBounds_toArray,List.set_cons_zero,List.set_cons_succ]
 go_upto_region 16 with(fail)
 refine wp_region_lit ?_
 refine Z0p q7 0 5 26 (K.v (kneg (kof r))) X11 (K.v (kneg (kof r))) 26 (.tmp 7) rfl rfl (by kernel_rfl) (by kernel_rfl) (by kernel_rfl) Tryz.underlying26 rfl Z0b ?_
 refine Z0p q5 0 5 26 (K.v (kof m)) C11 (K.v (kof m)) 26 (.tmp 5) rfl rfl (by kernel_rfl) (by kernel_rfl) (by kernel_rfl) Tryz.underlying26 rfl Z0b ?_
 refine Z06 47 #[.agg (K.v (kneg (kof r))),.agg (K.v (kof m))] rfl (by kernel_rfl) ((Z5p (kneg (kof r)) (kof m) _).mono ?_)
 rintro e W12 ⟨rfl,E12⟩
 refine⟨_,rfl,?_⟩
 have D12:=Z07 D11 (Nat.le_refl _) E12
 have B12:=B11.below' E12
 obtain⟨res,hres⟩:∃res,Z2i (kneg (kof r)) (kof m)=res:=⟨_,rfl⟩
 have HRS:=Lib.hid hres
 rw[hres]
 clear hres
 refine Z0m w.heap.size 28 z20 res.v B12 28 (.tmp 2) (.tmp 51) rfl rfl (by kernel_rfl) (by kernel_rfl) (KP.sz kz4 _) Z0e (KP.ones _) fun W13 C13 G13=>?_
 refine Z00 (.int .i64 0) rfl (by kernel_rfl) ?_
 refine Z03 ?_
 simp only[Act.put,List.setIfInBounds_toArray,List.set_cons_zero,List.set_cons_succ]
 have HF:=Lib.hid C13
 have hz:=Z01 (g:=w.heap.size) D12 G13 (Nat.le_refl _)
 have hsx:Z2i (sx 1 r) (kof m)=res:=by rw[←HRS.out];rfl
 go_wp2_with fail
 refine bodyPost_ret (v:=.tuple #[.agg res.v,.int .i64 0]) (Gn.results_cell_tmp 2 28 3 (.int .i64 0) w.heap.size 28 res.v Tryz.results12 (by kernel_rfl) (by kernel_rfl) HF.out Tryz.underlying28 rfl Z0e) rfl ⟨by rw[hsx],hz⟩
end Go.Proofs.YtjimhjfjfpeojaaGreatDoor.Ed
