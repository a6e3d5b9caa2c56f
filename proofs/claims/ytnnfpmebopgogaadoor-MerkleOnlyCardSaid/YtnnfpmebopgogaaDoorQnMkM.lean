/- Joined texts. -/
import Derived.Test.YtnnfpmebopgogaaDoorQnMkC
import Derived.Test.YtnnfpmebopgogaaDoorQnMkA
import Derived.Lib.BitFns
set_option linter.unusedVariables false
namespace Go.Proofs.YtnnfpmebopgogaaDoor.Mk
open Go.RowKit Go.Proofs.YtnnfpmebopgogaaDoor.Gn Go.Proofs.YtnnfpmebopgogaaDoor.Fd Go.Deep
def rootOf(n:Nat)(x:List Nat):List Nat:=Sh.dg false (2 :: (eight n ++ x))
set_option maxRecDepth 100000 in
set_option maxHeartbeats 2000000 in
theorem compared_any{R A:Option Addr}{r c m d:Nat}{lr x:List Nat}(n:Nat)(hn:n≤9223372036854775807){w:World}(hr:Pc w (R,r,c,lr))(h:Pc w (A,m,d,x))(hx:x.length < 1000000)(ts:Sh.Tab w) :
  Calls Tryd.prog 48 #[.slice R r c,.int .i64 (n:Int),.slice A m d] w fun e w'=>e=.returned (.int .i64 (if lr=rootOf n x then 0 else 50))∧Below w.heap.size w w':=by
 have C1:=Lib.hid (show Calls Tryd.prog 39 #[.int .i64 (n:Int),.slice A m d] w (Ret32 (rootOf n x) w) from sealed_any n hn h hx ts)
 have hl:lr.length=r:=hr.len.symm
 have C2:=Lib.hid (fun(g:Nat) (w1:World) (hp:Pc w1 (some ⟨g,0,none⟩,32,32,rootOf n x)) (hb:Below w.heap.size w w1) =>
  Equal_any (c:=c) (d:=32) (show Sl w1 R r (bl lr) from by have:=(hr.below hb).row;rwa [show(R,r,c,lr).2.2.2=lr from rfl,hl] at this) (show Sl w1 (some ⟨g,0,none⟩) 32 (bl (rootOf n x)) from by have:=hp.row;rwa [show((some ⟨g,0,none⟩:Option Addr),32,32,rootOf n x).2.2.2=rootOf n x from rfl,show(rootOf n x).length=32 from dg32_len _] at this) hr.lt hp.lt)
 clear hr h hx ts hl
 generalize rootOf n x=Z at C1 C2 ⊢
 by_cases hz:lr=Z
 ·rw[if_pos hz]
  rw[decide_eq_true hz] at C2
  clear hz
  go_enter Tryd.func48,Tryd.ntmps48
  go_wp2_with (go_at_call 39;(with_reducible refine C1.out.mono ?_);rintro e w1 ⟨g,rfl,p1,g1,b1⟩;have C3:=Lib.hid (C2.out g w1 p1 b1);have D1:=Lib.hid b1;clear p1 g1 b1 C2)
  go_wp2_with (go_at_call 72;(with_reducible refine C3.out.mono ?_);rintro e w2 ⟨rfl,rfl⟩)
  go_ret
  exact⟨rfl,D1.out⟩
 ·rw[if_neg hz]
  rw[decide_eq_false hz] at C2
  clear hz
  go_enter Tryd.func48,Tryd.ntmps48
  go_wp2_with (go_at_call 39;(with_reducible refine C1.out.mono ?_);rintro e w1 ⟨g,rfl,p1,g1,b1⟩;have C3:=Lib.hid (C2.out g w1 p1 b1);have D1:=Lib.hid b1;clear p1 g1 b1 C2)
  go_wp2_with (go_at_call 72;(with_reducible refine C3.out.mono ?_);rintro e w2 ⟨rfl,rfl⟩)
  go_ret
  exact⟨rfl,D1.out⟩
end Go.Proofs.YtnnfpmebopgogaaDoor.Mk
namespace Go.Proofs.YtnnfpmebopgogaaDoor.Mk
theorem bitLen_log:∀(x:Nat),0 < x→x < 18446744073709551616→Lib.bitLen x=Nat.log2 x+1:=by
 intro x
 induction x using Nat.strongRecOn with
 |_ x ih =>
  intro h0 h1
  rw[Lib.bitLen_half x (by omega) (by omega),Nat.log2_def]
  by_cases h:2≤x
  ·rw[if_pos h,ih (x / 2) (by omega) (by omega) (by omega)];omega
  ·obtain rfl:x=1:=by omega
   rfl
def half(n:Nat):Nat:=2 ^ Nat.log2 (n - 1)
theorem half_spec{n:Nat}(h:2≤n):1≤half n∧half n < n∧n≤2*half n:=by
 have h1:=Nat.log2_self_le (n:=n - 1) (by omega)
 have h2:=Nat.lt_log2_self (n:=n - 1)
 have h3:1≤2 ^ Nat.log2 (n - 1):=Nat.one_le_two_pow
 unfold half
 rw[Nat.pow_succ] at h2
 omega
theorem half_unique{n j:Nat}(h1:2 ^ j < n)(h2:n≤2*2 ^ j):2 ^ j=half n:=by
 have h:2≤n:=by have:1≤2 ^ j:=Nat.one_le_two_pow;omega
 obtain⟨-, h3,h4⟩:=half_spec h
 unfold half at *
 have e:j=Nat.log2 (n - 1):=by
  rcases Nat.lt_trichotomy j (Nat.log2 (n - 1)) with c|c|c
  ·have:2 ^ (j+1)≤2 ^ Nat.log2 (n - 1):=Nat.pow_le_pow_right (by omega) c
   rw[Nat.pow_succ] at this
   omega
  ·exact c
  ·have:2 ^ (Nat.log2 (n - 1)+1)≤2 ^ j:=Nat.pow_le_pow_right (by omega) c
   rw[Nat.pow_succ] at this
   omega
 rw[e]
def way(n p:Nat):List Bool :=
 if h:2≤n then if half n≤p then true :: way (n - half n) (p - half n) else false :: way (half n) p else[]
termination_by n
decreasing_by
 ·have:=half_spec h;omega
 ·have:=half_spec h;omega
theorem way_one{n:Nat}(h:n < 2)(p:Nat):way n p=[]:=by rw[way,dif_neg (by omega)]
theorem way_second{n p:Nat}(h:2≤n)(hp:half n≤p):way n p=true :: way (n - half n) (p - half n):=by rw[way,dif_pos h,if_pos hp]
theorem way_first{n p:Nat}(h:2≤n)(hp:¬half n≤p):way n p=false :: way (half n) p:=by rw[way,dif_pos h,if_neg hp]
theorem way_len:∀(n p:Nat),(way n p).length < n+1:=by
 intro n
 induction n using Nat.strongRecOn with
 |_ n ih =>
  intro p
  by_cases h:2≤n
  ·have s:=half_spec h
   by_cases hp:half n≤p
   ·rw[way_second h hp,List.length_cons];have:=ih (n - half n) (by omega) (p - half n);omega
   ·rw[way_first h hp,List.length_cons];have:=ih (half n) (by omega) p;omega
  ·rw[way_one (by omega)];simp
def node(s:Bool)(x l:List Nat):List Nat:=1 :: (if s then l ++ x else x ++ l)
def tops:List Bool→List Nat→List (List Nat)→List Nat
 | [],x,_=>x
 |s :: ws,x,ps=>Sh.dg false (node s (tops ws x ps.dropLast) (ps.getLastD []))
def texts:List Bool→List Nat→List (List Nat)→List (List Nat)
 | [],_,_=>[]
 |s :: ws,x,ps=>texts ws x ps.dropLast ++ [node s (tops ws x ps.dropLast) (ps.getLastD [])]
theorem tops_step{ws:List Bool}{x l:List Nat}{ps:List (List Nat)}{s:Bool}:tops (s :: ws) x (ps ++ [l])=Sh.dg false (node s (tops ws x ps) l):=by
 rw[tops]
 simp
theorem texts_step{ws:List Bool}{x l:List Nat}{ps:List (List Nat)}{s:Bool}:texts (s :: ws) x (ps ++ [l])=texts ws x ps ++ [node s (tops ws x ps) l]:=by
 rw[texts]
 simp
theorem tops_len{ws:List Bool}{x:List Nat}{ps:List (List Nat)}(h:x.length=32):(tops ws x ps).length=32:=by
 cases ws with
 |nil=>exact h
 |cons s ws=>exact dg32_len _
theorem tops_round{ws:List Bool}{x l:List Nat}{ps:List (List Nat)}{i:Nat}{s:Bool}(hi:i < ws.length)(hs:ws[ws.length - 1 - i]?=some s)(hl:ps[i]?=some l) :
  tops (ws.drop (ws.length - (i+1))) x (ps.take (i+1))=Sh.dg false (node s (tops (ws.drop (ws.length - i)) x (ps.take i)) l):=by
 have e1:ws.drop (ws.length - (i+1))=s :: ws.drop (ws.length - i):=by
  have h:=(List.drop_eq_getElem_cons (l:=ws) (i:=ws.length - (i+1)) (by omega)).symm
  rw[←h]
  have h2:ws[ws.length - (i+1)]'(by omega)=s:=by
   have h3:=hs
   rw[show ws.length - 1 - i=ws.length - (i+1) by omega,List.getElem?_eq_getElem (by omega)] at h3
   exact Option.some.inj h3
  rw[h2,show ws.length - (i+1)+1=ws.length - i by omega]
 have e2:ps.take (i+1)=ps.take i ++ [l]:=by rw[List.take_add_one,hl];rfl
 rw[e1,e2,tops_step]
def checkE(n p:Nat)(lr x:List Nat)(ps:List (List Nat)):Int:=if ps.length≠(way n p).length then 50 else if lr=rootOf n (tops (way n p) x ps) then 0 else 50
end Go.Proofs.YtnnfpmebopgogaaDoor.Mk
