/- Joined texts. -/
import Derived.Deep.RegionWith
import Derived.Laws.BytesArg
import Derived.Test.YtmfpckbahgpojaaDoorQmMkW
import Derived.Test.YtmfpckbahgpojaaDoorQmMkRc
set_option linter.unusedVariables false
namespace Go.Proofs.YtmfpckbahgpojaaDoor.Mk
open Go.RowKit Go.Proofs.YtmfpckbahgpojaaDoor.Gn Go.Proofs.YtmfpckbahgpojaaDoor.Fd Go.Deep
theorem pc_bl{w:World}{A:Option Addr}{n c:Nat}{l:List Nat}(h:BL w A n c l):Pc w (A,n,c,l):=by
 obtain⟨h1,h2,h3,h4,h5⟩:=h
 have hl:l.length=n:=by have:=h1.1;rwa [bl_length] at this
 subst hl
 exact⟨rfl,h1,h3,h5,h4⟩
theorem cnt_no{n:Int}(h:n < 0∨4096 < n):cnt n=false:=by
 unfold cnt
 by_cases h0:0≤n
 ·rw[decide_eq_false (show ¬n≤4096 by omega)];simp
 ·rw[decide_eq_false h0];rfl
set_option maxRecDepth 100000 in
theorem Right_arg(n:Int)(hn:n < 0∨4096 < n)(A:Option Addr)(m c:Nat)(w:World) :
  Calls Tryd.prog 18 #[.slice A m c,.int .i64 n] w fun e w'=>e=.returned (.bool false)∧w=w':=by
 have CA:=fun w=>counted_any n w
 rw[cnt_no hn] at CA
 have CA:=Lib.hid CA
 clear hn
 go_enter Tryd.func18,Tryd.ntmps18
 go_wp2_with (go_at_call 31;(with_reducible refine(CA.out _).mono ?_);rintro e w1 ⟨rfl,rfl⟩)
 go_ret
 exact⟨rfl,rfl⟩
set_option maxRecDepth 100000 in
theorem holds_arg(n:Int)(hn:n < 0∨4096 < n)(A:Option Addr)(m c:Nat)(p:Int)(w:World) :
  Calls Tryd.prog 29 #[.slice A m c,.int .i64 n,.int .i64 p] w fun e w'=>e=.returned (.bool false)∧w=w':=by
 have CA:=Lib.hid (fun w=>Right_arg n hn A m c w)
 clear hn
 go_enter Tryd.func29,Tryd.ntmps29
 go_wp2_with (go_at_call 18;(with_reducible refine(CA.out _).mono ?_);rintro e w1 ⟨rfl,rfl⟩)
 go_ret
 exact⟨rfl,rfl⟩
set_option maxRecDepth 100000 in
theorem Has_arg(n:Int)(hn:n < 0∨4096 < n)(A:Option Addr)(m c:Nat)(p:Int)(w:World) :
  Calls Tryd.prog 20 #[.slice A m c,.int .i64 n,.int .i64 p] w fun e w'=>e=.returned (.bool false)∧w=w':=by
 have CA:=Lib.hid (fun w=>holds_arg n hn A m c p w)
 clear hn
 go_enter Tryd.func20,Tryd.ntmps20
 go_wp2_with (go_at_call 29;(with_reducible refine(CA.out _).mono ?_);rintro e w1 ⟨rfl,rfl⟩)
 go_ret
 exact⟨rfl,rfl⟩
set_option maxRecDepth 100000 in
theorem Put_arg(n:Int)(hn:n < 0∨4096 < n)(A:Option Addr)(m c:Nat)(p:Int)(w:World) :
  Calls Tryd.prog 13 #[.slice A m c,.int .i64 n,.int .i64 p] w fun e w'=>e=.returned (.tuple #[.slice none 0 0,.int .i64 1])∧w=w':=by
 have CA:=Lib.hid (fun w=>holds_arg n hn A m c p w)
 clear hn
 go_enter Tryd.func13,Tryd.ntmps13
 go_wp2_with (go_at_call 29;(with_reducible refine(CA.out _).mono ?_);rintro e w1 ⟨rfl,rfl⟩)
 go_ret2
 exact⟨rfl,rfl⟩
set_option maxRecDepth 100000 in
theorem Missing_arg(n:Int)(hn:n < 0∨4096 < n)(A:Option Addr)(m c:Nat)(w:World) :
  Calls Tryd.prog 22 #[.slice A m c,.int .i64 n] w fun e w'=>e=.returned (.int .i64 (-1))∧w=w':=by
 have CA:=Lib.hid (fun w=>Right_arg n hn A m c w)
 clear hn
 go_enter Tryd.func22,Tryd.ntmps22
 go_wp2_with (go_at_call 18;(with_reducible refine(CA.out _).mono ?_);rintro e w1 ⟨rfl,rfl⟩)
 go_ret
 exact⟨rfl,rfl⟩
set_option maxRecDepth 100000 in
theorem Empty_arg(n:Int)(hn:n < 0∨4096 < n)(w:World) :
  Calls Tryd.prog 15 #[.int .i64 n] w fun e w'=>e=.returned (.tuple #[.slice none 0 0,.int .i64 1])∧w=w':=by
 have CA:=fun w=>counted_any n w
 rw[cnt_no hn] at CA
 have CA:=Lib.hid CA
 clear hn
 go_enter Tryd.func15,Tryd.ntmps15
 go_wp2_with (go_at_call 31;(with_reducible refine(CA.out _).mono ?_);rintro e w1 ⟨rfl,rfl⟩)
 go_ret2
 exact⟨rfl,rfl⟩
theorem samebytes_any(A B:Option Addr)(n m c d:Nat)(l k:List Nat)(w:World)(hl:∀x∈l,x < 256)(hk:∀x∈k,x < 256)(h1:Sl w A n (bl l))(h2:Sl w B m (bl k)) :
  Calls Tryd.prog 19 #[.slice A n c,.slice B m d] w fun e w'=>e=.returned (.bool (decide (l=k)))∧w=w':=by
 have r1:=run_txt (P:=Tryd.prog) w 22 9 5 Tryd.underlying22 Tryd.underlying5 Tryd.underlying9 A n c l h1
 have r2:=run_txt (P:=Tryd.prog) w 22 9 5 Tryd.underlying22 Tryd.underlying5 Tryd.underlying9 B m d k h2
 have HE:=Lib.hid (fun h=>txt_inj (l:=l) (k:=k) hl hk h)
 clear h1 h2 hl hk
 obtain⟨s,hs⟩:∃s,s=txt l:=⟨_,rfl⟩
 obtain⟨t,ht⟩:∃t,t=txt k:=⟨_,rfl⟩
 rw[←hs] at r1
 rw[←ht] at r2
 have HS:=Lib.hid hs
 have HT:=Lib.hid ht
 clear hs ht
 go_enter Tryd.func19,Tryd.ntmps19
 go_wp2
 go_ret
 refine⟨ret_bool ?_,rfl⟩
 rw[HS.out,HT.out,ByteArray.toList_eq,ByteArray.toList_eq,Bool.eq_iff_iff,beq_iff_eq,decide_eq_true_iff]
 constructor
 ·intro h
  exact HE.out (Go.WideShapes.bytes_inj h)
 ·intro h;rw[h]
theorem same_pc{A B:Option Addr}{n m c d:Nat}{l k:List Nat}{w:World}(h1:Pc w (A,n,c,l))(h2:Pc w (B,m,d,k)) :
  Calls Tryd.prog 19 #[.slice A n c,.slice B m d] w fun e w'=>e=.returned (.bool (decide (l=k)))∧w=w':=by
 have e1:l.length=n:=h1.len.symm
 have e2:k.length=m:=h2.len.symm
 exact samebytes_any A B n m c d l k w h1.lt h2.lt (by have:=h1.row;rwa [show((A,n,c,l):Rw).2.2.2.length=n from e1] at this) (by have:=h2.row;rwa [show((B,m,d,k):Rw).2.2.2.length=m from e2] at this)
theorem nil_pc(w:World):Pc w (none,0,0,[]):=⟨rfl,⟨rfl,fun k v h=>by simp[bl] at h⟩,(fun x hx=>by cases hx),Nat.le_refl _,fun _=>rfl⟩
theorem miss_one{l:List Nat}{n a b:Nat}(h:MissAt l n a)(k:MissAt l n b):a=b:=by
 obtain⟨h1,h2,h3⟩:=h
 obtain⟨k1,k2,k3⟩:=k
 rcases Nat.lt_trichotomy a b with h|h|h
 ·exact absurd (k2 a h) (by rw[h3 (by omega)];decide)
 ·exact h
 ·exact absurd (h2 b h) (by rw[k3 (by omega)];decide)
theorem dig_zero(k i:Nat):dig (List.replicate k 0) i=false:=by
 unfold dig
 have e:(List.replicate k 0).getD (i / 8) 0=0:=by
  rw[List.getD_eq_getElem?_getD,List.getElem?_replicate]
  split <;> rfl
 rw[e,Nat.zero_div];rfl
theorem clr_zero(k n m:Nat):clr (List.replicate k 0) n m=true:=by
 induction m with
 |zero=>rfl
 |succ m ih=>unfold clr;rw[ih,dig_zero];rfl
theorem right_zero{n k:Nat}(h:k=(n+7) / 8):rightB (List.replicate k 0) n=true:=by
 unfold rightB
 rw[clr_zero,List.length_replicate,decide_eq_true h];rfl
theorem miss_zero{k n m:Nat}(h:MissAt (List.replicate k 0) n m):m=0:=by
 rcases Nat.eq_zero_or_pos m with h0|h0
 ·exact h0
 ·have:=h.2.1 0 h0
  rw[dig_zero] at this;cases this
end Go.Proofs.YtmfpckbahgpojaaDoor.Mk
