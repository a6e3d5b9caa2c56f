/- Joined texts. -/
import Derived.BigQuiet
import Derived.Test.YtjimhjfjfpeojaaGreatDoorQsEdT
import Derived.Test.YtjimhjfjfpeojaaGreatDoorQsFaC
import Derived.Outline
import Derived.Test.YtjimhjfjfpeojaaGreatDoorQsSaB
set_option linter.unusedVariables false
namespace Go.Proofs.YtjimhjfjfpeojaaGreatDoor.Ed
open Go.RowKit Go.Proofs.YtjimhjfjfpeojaaGreatDoor.Gn Go.Proofs.YtjimhjfjfpeojaaGreatDoor.Fd Go.Deep
theorem first_p{S:Option Addr}{cs:Nat}{sl:List Nat}{w:World}(h:Pc w (S,64,cs,sl)):∃ad,S=some ad∧64≤cs∧Pc w (some ad,32,cs,sl.take 32)∧Pc w (some ⟨ad.block,ad.off+32,none⟩,32,cs - 32,sl.drop 32):=by
 have hl:sl.length=64:=h.len.symm
 have hc:sl.length≤cs:=h.cap
 have hr:Sl w S 64 (bl sl):=by have:Sl w S sl.length (bl sl):=h.row;rwa [hl] at this
 obtain⟨ad,rfl,-⟩:=hr.at_ (k:=0) (by decide)
 have ha:ad.add 32=⟨ad.block,ad.off+32,none⟩:=by unfold Addr.add;rw[if_neg (by decide)]
 refine⟨ad,rfl,by omega,⟨by simp[hl],?_,fun x hx=>h.lt x (List.mem_of_mem_take hx),by simp[hl];omega,fun h=>by cases h⟩,⟨by simp[hl],?_,fun x hx=>h.lt x (List.mem_of_mem_drop hx),by simp[hl];omega,fun h=>by cases h⟩⟩
 ·have:=hr.take_ 32 (by decide)
  rw[bl_take] at this
  show Sl w (some ad) (sl.take 32).length _
  rw[List.length_take,hl];exact this
 ·have:=hr.drop_ 32 (by decide) (by omega:64≤cs)
  rw[bl_drop,if_neg (by omega)] at this
  show Sl w (some ⟨ad.block,ad.off+32,none⟩) (sl.drop 32).length _
  rw[List.length_drop,hl,←ha];exact this
end Go.Proofs.YtjimhjfjfpeojaaGreatDoor.Ed
namespace Go.Proofs.YtjimhjfjfpeojaaGreatDoor.Ed
open Go.RowKit Go.Proofs.YtjimhjfjfpeojaaGreatDoor.Gn Go.Proofs.YtjimhjfjfpeojaaGreatDoor.Fd Go.Deep
theorem sfst_length(l m:List Nat)(b:G):(sfst l m b).length=32:=by_length _ _
theorem ssnd_length(l m:List Nat)(b:G):(ssnd l m b).length=32:=by_length _ _
theorem keyb_length(l:List Nat)(b:G):(keyb l b).length=32:=by_length _ _
theorem own_pc{w:World}{base:Nat}{v:Value}{n:Nat}{s:List Nat}(h:w.ownsRow base 5 1 v n (bl s))(h0:0 < n)(hn:s.length=n)(hs:∀x∈s,x < 256):∃g cap,v=.slice (some ⟨g,0,none⟩) n cap∧Pc w (some ⟨g,0,none⟩,n,cap,s)∧base≤g:=by
 obtain⟨g,cap,cur,rfl,hb,h1,h2,h3,h4⟩:=own_cur h h0
 refine⟨g,cap,rfl,⟨hn.symm,?_,hs,by show s.length≤cap;omega,fun h=>by cases h⟩,h4⟩
 refine Sl.of_bl hb 0 _ _ (by rw[bl_length]) (fun k v hv=>?_)
 change(bl s)[k]?=some v at hv
 rw[←h3,List.getElem?_take] at hv
 split at hv
 ·rw[Nat.zero_add];simpa using hv
 ·cases hv
theorem sign_p{A:Option Addr}{c:Nat}{l:List Nat}{M:Option Addr}{n cm:Nat}{m:List Nat}{b:G}{w:World}(tab:TabE w)(ts:Sh.Tab w)(tl:TabL w)(ha:Pc w (A,32,c,l))(hm:Pc w (M,n,cm,m))(hn:n≤65536)(hb:Hp kbase b) :
  Calls Tryz.prog 33 #[.slice A 32 c,.slice M n cm] w fun e w'=>∃g cap,e=.returned (.tuple #[.slice (some ⟨g,0,none⟩) 64 cap,.int .i64 0])∧Pc w' (some ⟨g,0,none⟩,64,cap,sfst l m b ++ ssnd l m b)∧w.heap.size≤g∧Below w.heap.size w w':=by
 refine(Sign_any tab ts tl ha hm hn hb).mono ?_
 rintro e w' ⟨v,rfl,ho,hw⟩
 have hl:(sfst l m b ++ ssnd l m b).length=64:=by rw[List.length_append,sfst_length,ssnd_length]
 rw[hl] at ho
 obtain⟨g,cap,rfl,hp,hg⟩:=own_pc ho (by decide) hl (by intro x hx;rcases List.mem_append.1 hx with h|h;exact by_lt _ _ x h;exact by_lt _ _ x h)
 exact⟨g,cap,rfl,hp,hg,hw⟩
end Go.Proofs.YtjimhjfjfpeojaaGreatDoor.Ed
namespace Go.Proofs.YtjimhjfjfpeojaaGreatDoor.Sh
open Go.RowKit Go.Proofs.YtjimhjfjfpeojaaGreatDoor.Gn Go.Deep
attribute [local go_sem ↓] Go.wp_at_zero Go.wp_at_succ
def rv64:Array Value:=#[.int .u64 0,.int .u64 64]
theorem cut64(X:Int)(h0:0≤X)(h1:Hid (X < 18446744073709551616))(w:World) :
  Calls Tryz.prog 137 #[.agg rv64,.int .u64 X] w fun e w'=>e=.returned (.int .u64 (X%18446744073709551616))∧Below w.heap.size w w':=by
 unfold rv64
 go_enter Tryz.func137,Tryz.ntmps137
 go_wp2
 go_ret
 exact⟨ret_int (by first|rfl|(rw[Int.emod_eq_of_lt h0 h1.out])),(Below.refl _ _).alloc (Nat.le_refl _) _⟩
theorem turnI64(x n:Nat)(hx:x < 18446744073709551616):bits .or .u64 ((x:Int) / 2 ^ n) (IntKind.u64.wrap ((x:Int)*2 ^ (64 - n)))=((x / 2 ^ n ||| x*2 ^ (64 - n)%18446744073709551616:Nat):Int):=by
 have e1:IntKind.u64.wrap ((x:Int)*2 ^ (64 - n))=((x*2 ^ (64 - n)%18446744073709551616:Nat):Int):=by rw[IntKind.wrap_u64];simp
 have h1:x / 2 ^ n≤x:=Nat.div_le_self _ _
 rw[e1,div_cast,u64_or_nat _ _ (by omega) (Nat.mod_lt _ (by decide))]
theorem turnM64(x n:Nat)(hx:x < 18446744073709551616):(x / 2 ^ n ||| x*2 ^ (64 - n)%18446744073709551616)%18446744073709551616=tr 64 x n:=by
 have h1:x / 2 ^ n≤x:=Nat.div_le_self _ _
 have e:=Nat.or_mod_two_pow (a:=x / 2 ^ n) (b:=x*2 ^ (64 - n)%18446744073709551616) (n:=64)
 have e2:x*2 ^ (64 - n)%18446744073709551616%2 ^ 64=x*2 ^ (64 - n)%2 ^ 64:=Nat.mod_mod_of_dvd _ (by decide)
 have e3:x / 2 ^ n%2 ^ 64=x / 2 ^ n:=Nat.mod_eq_of_lt (Nat.lt_of_le_of_lt h1 hx)
 rw[e2,e3] at e
 exact e
theorem turn64(x n:Nat)(hx:Hid (x < 18446744073709551616))(h1:1≤n)(h2:n < 64)(w:World) :
  Calls Tryz.prog 153 #[.agg rv64,.int .u64 (x:Int),.int .u64 (n:Int)] w fun e w'=>e=.returned (.int .u64 ((tr 64 x n:Nat):Int))∧Below w.heap.size w w':=by
 have HC:=Lib.hid (show ∀w,Calls Tryz.prog 137 #[.agg rv64,.int .u64 (bits .or .u64 ((x:Int) / 2 ^ n) (IntKind.u64.wrap ((x:Int)*2 ^ (64 - n))))] w fun e w'=>e=.returned (.int .u64 ((tr 64 x n:Nat):Int))∧Below w.heap.size w w' from fun w=>by
  have hlt:x / 2 ^ n ||| x*2 ^ (64 - n)%18446744073709551616 < 2 ^ 64:=Nat.or_lt_two_pow (Nat.lt_of_le_of_lt (Nat.div_le_self _ _) (Nat.lt_of_lt_of_le hx.out (by decide))) (Nat.mod_lt _ (by decide))
  rw[turnI64 x n hx.out,←turnM64 x n hx.out]
  refine(cut64 _ (by omega) (Lib.hid (by omega)) w).mono fun e w' ⟨he,hb⟩=>⟨?_,hb⟩
  rw[he]
  exact ret_int (by simp))
 unfold rv64 at HC ⊢
 go_enter Tryz.func153,Tryz.ntmps153
 go_wp2_with (go_at_call 137;(with_reducible refine(HC.out _).mono ?_);rintro e w1 ⟨rfl,hb1⟩)
 go_ret
 exact⟨rfl,((Below.refl _ _).alloc (Nat.le_refl _) _).trans (hb1.mono (by simp))⟩
set_option maxRecDepth 100000 in
theorem rsmall64(x a b c:Nat)(w:World)(hx:Hid (x < 18446744073709551616))(ha:1≤a)(ha':a < 64)(hb:1≤b)(hb':b < 64)(hc:c < 64) :
  Calls Tryz.prog 147 #[.agg rv64,.int .u64 (x:Int),.int .u64 (a:Int),.int .u64 (b:Int),.int .u64 (c:Int)] w
   fun e w'=>e=.returned (.int .u64 ((sm 64 x a b c:Nat):Int))∧Below w.heap.size w w':=by
 have HA:=Lib.hid (fun w=>turn64 x a hx ha ha' w)
 have HB:=Lib.hid (fun w=>turn64 x b hx hb hb' w)
 unfold rv64 at HA HB ⊢
 go_enter Tryz.func147,Tryz.ntmps147
 go_wp2_with fail
 have c0:(w.alloc (.cells #[.int .u64 0,.int .u64 64] 145)).cell? ⟨w.heap.size,0,none⟩=some (.int .u64 0):=(Bl.new_ w 145 #[.int .u64 0,.int .u64 64]).cell_ rfl
 have c1:(w.alloc (.cells #[.int .u64 0,.int .u64 64] 145)).cell? ⟨w.heap.size,1,none⟩=some (.int .u64 64):=(Bl.new_ w 145 #[.int .u64 0,.int .u64 64]).cell_ rfl
 have b0:Below w.heap.size w (w.alloc (.cells #[.int .u64 0,.int .u64 64] 145)):=(Below.refl _ _).alloc (Nat.le_refl _) _
 generalize hw0:w.alloc _=w0 at c0 c1 b0 ⊢
 clear hw0
 have B0:=Lib.hid b0
 clear b0
 go_region_held3 (fun x'=>x'.cell? ⟨w.heap.size,0,none⟩=some (.int .u64 0)∧x'.cell? ⟨w.heap.size,1,none⟩=some (.int .u64 64))
  (first|exact⟨c0,c1⟩|exact⟨keepc K2 c0,keepc K2 c1⟩|exact⟨keepc K1 c0,keepc K1 c1⟩)
  (first|(go_at_call 153;(with_reducible refine(HA.out _).mono ?_);rintro e w1 ⟨rfl,hb1⟩;have K1:=k_drew hb1)|(go_at_call 153;(with_reducible refine(HB.out _).mono ?_);rintro e w2 ⟨rfl,hb2⟩;have K2:=K1.trans (hb2.mono K1.size)))
 rename_i hHeld
 clear hHeld
 go_wp2_with fail
 go_ret
 refine⟨ret_int ?_,B0.out.trans (K2.mono B0.out.size)⟩
 have hx6:x < 18446744073709551616:=Nat.lt_of_lt_of_le hx.out (by decide)
 have t1:tr 64 x a < 2 ^ 64:=Nat.lt_of_lt_of_le (tr_lt 64 x a hx.out) (by decide)
 have t2:tr 64 x b < 2 ^ 64:=Nat.lt_of_lt_of_le (tr_lt 64 x b hx.out) (by decide)
 rw[div_cast,u64_xor_nat _ _ t1 t2,u64_xor_nat _ _ (Nat.xor_lt_two_pow t1 t2) (Nat.lt_of_le_of_lt (Nat.div_le_self _ _) hx6)]
 rfl
set_option maxRecDepth 100000 in
theorem rbig64(x a b c:Nat)(w:World)(hx:Hid (x < 18446744073709551616))(ha:1≤a)(ha':a < 64)(hb:1≤b)(hb':b < 64)(hc:1≤c)(hc':c < 64) :
  Calls Tryz.prog 148 #[.agg rv64,.int .u64 (x:Int),.int .u64 (a:Int),.int .u64 (b:Int),.int .u64 (c:Int)] w
   fun e w'=>e=.returned (.int .u64 ((gr 64 x a b c:Nat):Int))∧Below w.heap.size w w':=by
 have HA:=Lib.hid (fun w=>turn64 x a hx ha ha' w)
 have HB:=Lib.hid (fun w=>turn64 x b hx hb hb' w)
 have HD:=Lib.hid (fun w=>turn64 x c hx hc hc' w)
 unfold rv64 at HA HB HD ⊢
 go_enter Tryz.func148,Tryz.ntmps148
 go_wp2_with fail
 have c0:(w.alloc (.cells #[.int .u64 0,.int .u64 64] 145)).cell? ⟨w.heap.size,0,none⟩=some (.int .u64 0):=(Bl.new_ w 145 #[.int .u64 0,.int .u64 64]).cell_ rfl
 have c1:(w.alloc (.cells #[.int .u64 0,.int .u64 64] 145)).cell? ⟨w.heap.size,1,none⟩=some (.int .u64 64):=(Bl.new_ w 145 #[.int .u64 0,.int .u64 64]).cell_ rfl
 have b0:Below w.heap.size w (w.alloc (.cells #[.int .u64 0,.int .u64 64] 145)):=(Below.refl _ _).alloc (Nat.le_refl _) _
 generalize hw0:w.alloc _=w0 at c0 c1 b0 ⊢
 clear hw0
 have B0:=Lib.hid b0
 clear b0
 go_region_held3 (fun x'=>x'.cell? ⟨w.heap.size,0,none⟩=some (.int .u64 0)∧x'.cell? ⟨w.heap.size,1,none⟩=some (.int .u64 64))
  (first|exact⟨c0,c1⟩|exact⟨keepc K3 c0,keepc K3 c1⟩|exact⟨keepc K2 c0,keepc K2 c1⟩|exact⟨keepc K1 c0,keepc K1 c1⟩)
  (first|(go_at_call 153;(with_reducible refine(HA.out _).mono ?_);rintro e w1 ⟨rfl,hb1⟩;have K1:=k_drew hb1)|(go_at_call 153;(with_reducible refine(HB.out _).mono ?_);rintro e w2 ⟨rfl,hb2⟩;have K2:=K1.trans (hb2.mono K1.size))|(go_at_call 153;(with_reducible refine(HD.out _).mono ?_);rintro e w3 ⟨rfl,hb3⟩;have K3:=K2.trans (hb3.mono K2.size)))
 rename_i hHeld
 clear hHeld
 go_wp2_with fail
 go_ret
 refine⟨ret_int ?_,B0.out.trans (K3.mono B0.out.size)⟩
 have t1:tr 64 x a < 2 ^ 64:=Nat.lt_of_lt_of_le (tr_lt 64 x a hx.out) (by decide)
 have t2:tr 64 x b < 2 ^ 64:=Nat.lt_of_lt_of_le (tr_lt 64 x b hx.out) (by decide)
 have t3:tr 64 x c < 2 ^ 64:=Nat.lt_of_lt_of_le (tr_lt 64 x c hx.out) (by decide)
 rw[u64_xor_nat _ _ t1 t2,u64_xor_nat _ _ (Nat.xor_lt_two_pow t1 t2) t3]
 rfl
end Go.Proofs.YtjimhjfjfpeojaaGreatDoor.Sh
