/- Joined texts. -/
import Derived.Deep.RegionWith
import Derived.Test.YtkahelhoaihajaaQfScPlain
set_option linter.unusedVariables false
namespace Go.Proofs.Ytkahelhoaihajaa.Sc
open Go.RowKit
def bl(l:List Nat):List Value:=l.map fun(x:Nat)=>Value.int .u8 (x:Int)
def rd(l:List Nat):Nat:=l.foldl (fun n x=>n*256+x) 0
theorem rd_snoc(l:List Nat)(x:Nat):rd (l ++ [x])=rd l*256+x:=by simp[rd,List.foldl_append]
theorem rd_lt(l:List Nat)(h:∀x∈l,x < 256):rd l < 256 ^ l.length:=by
 suffices ∀(m:List Nat) (n k:Nat),n < 256 ^ k→(∀x∈m,x < 256)→m.foldl (fun n x=>n*256+x) n < 256 ^ (k+m.length) by
  have:=this l 0 0 (by decide) h
  simpa[rd] using this
 intro m
 induction m with
 |nil=>intro n k h _;simpa using h
 |cons a m ih =>
  intro n k h hm
  rw[List.foldl_cons,List.length_cons,show k+(m.length+1)=(k+1)+m.length by omega]
  have ha:=hm a List.mem_cons_self
  refine ih _ _ ?_ fun x hx=>hm x (List.mem_cons_of_mem _ hx)
  rw[Nat.pow_succ]
  omega
def rdE(l:List Nat):Int:=if l.length=8 then(if valid (rd l) then 0 else 10) else 1
def rdX(l:List Nat):Nat:=if l.length=8 then(if valid (rd l) then rd l else 0) else 0
def RdRel(l:List Nat)(n:Nat)(t i:Value):Prop:=∃k:Nat,k≤n∧i=.int .i64 (k:Int)∧t=.int .u64 ((rd (l.take k):Nat):Int)
theorem or_byte(s x:Nat)(h:s < 72057594037927936)(hx:x < 256):bits .or .u64 (IntKind.u64.wrap ((s:Int)*256)) (IntKind.u64.wrap (x:Int))=((s*256+x:Nat):Int):=by
 have e1:IntKind.u64.wrap ((s:Int)*256)=((s*256:Nat):Int):=by rw[IntKind.wrap_u64];omega
 have e2:IntKind.u64.wrap (x:Int)=(x:Int):=by rw[IntKind.wrap_u64];omega
 rw[e1,e2,u64_or_nat _ _ (by omega) (by omega),nat_join 8 _ _ (by omega) (by simpa using hx)]
theorem add_byte(s x:Nat)(h:s < 72057594037927936)(hx:x < 256):IntKind.u64.wrap (IntKind.u64.wrap ((s:Int)*256)+(IntKind.u64.wrap (x:Int)))=((s*256+x:Nat):Int):=by
 simp only[IntKind.wrap_u64];omega
theorem rd_take_lt(l:List Nat)(k:Nat)(h:∀x∈l,x < 256)(hk:k < 8):rd (l.take k) < 72057594037927936:=by
 have h1:=rd_lt (l.take k) fun x hx=>h x (List.mem_of_mem_take hx)
 have h2:(l.take k).length≤7:=by have:=List.length_take_le k l;omega
 have h3:256 ^ (l.take k).length≤256 ^ 7:=Nat.pow_le_pow_right (by decide) h2
 have h4:256 ^ 7=72057594037927936:=by decide
 omega
theorem rd_8_lt(l:List Nat)(h:∀x∈l,x < 256)(h8:l.length=8):rd l < 18446744073709551616:=by
 have h1:=rd_lt l h
 rw[h8] at h1
 have h4:256 ^ 8=18446744073709551616:=by decide
 omega
theorem rd_next(l:List Nat)(k x s:Nat)(hx:l[k]?=some x)(hs:s=rd (l.take k)):rd (l.take (k+1))=s*256+x:=by
 rw[take_snoc l k x hx,rd_snoc,hs]
theorem rd_good{l:List Nat}(h8:l.length=8)(hv:valid (rd (l.take 8))=true):rdX l=rd (l.take 8)∧rdE l=0:=by
 rw[List.take_of_length_le (by omega)] at *
 unfold rdX rdE;rw[if_pos h8,if_pos h8,if_pos hv,if_pos hv];exact⟨rfl,rfl⟩
theorem rd_bad{l:List Nat}(h8:l.length=8)(hv:valid (rd (l.take 8))=false):rdX l=0∧rdE l=10:=by
 rw[List.take_of_length_le (by omega)] at *
 unfold rdX rdE;rw[if_pos h8,if_pos h8,hv];exact⟨rfl,rfl⟩
set_option maxHeartbeats 800000 in
theorem read_any(A:Option Addr)(n c:Nat)(l:List Nat)(w:World)(hn:n≤9223372036854775807)(hl:∀x∈l,x < 256)(hs:Sl w A n (bl l)) :
  Calls Try.prog 74 #[.slice A n c] w fun e w'=>e=.returned (.tuple #[.float .f64 (rdX l),.int .i64 (rdE l)])∧w=w':=by
 have HL:=Lib.hid hl
 have HS:=Lib.hid hs
 have hln:=Lib.hid (show l.length=n by simpa[bl] using hs.1)
 clear hl hs
 have hfb:=run_f64from
 cases h8:(n:Int) != 8
 ·have e8:n=8:=by have:=bne_eq_false_iff_eq.1 h8;omega
  subst e8
  clear h8 hn
  go_enter Try.func74,Try.ntmps74
  go_wp2
  go_loop [4,13] (fun t i=>RdRel l 8 t i) (fun _ i=>8 - (intOf i).toNat)
  case atStart=>exact⟨0,Nat.zero_le _,rfl,rfl⟩
  case round =>
   obtain⟨k,hk,rfl,rfl⟩:=hrel
   by_cases hlt:k < 8
   ·obtain⟨ad,rfl,hcell⟩:=HS.out.at_ hlt
    obtain⟨x,hx⟩:∃x,l[k]?=some x:=⟨l[k]'(by have:=hln.out;omega),List.getElem?_eq_getElem _⟩
    have hc:w.cell? (ad.add k)=some (.int .u8 (x:Int)):=by rw[hcell];simp[bl,hx]
    have HX:=Lib.hid hx
    have hxl:=Lib.hid (HL.out x (List.mem_of_getElem? hx))
    clear hcell hx
    obtain⟨s,hs⟩:∃s,s=rd (l.take k):=⟨_,rfl⟩
    rw[←hs]
    have HSS:=Lib.hid hs
    clear hs
    go_wp2
    go_round
    case rel =>
     refine⟨k+1,by omega,by go_num,?_⟩
     rw[rd_next l k x s HX.out HSS.out]
     exact congrArg _ (or_byte s x (by rw[HSS.out];exact rd_take_lt l k HL.out hlt) hxl.out)
    case measure=>simp[intOf];omega
   ·obtain rfl:k=8:=by omega
    have hb:=Lib.hid (show rd (l.take 8) < 18446744073709551616 by rw[List.take_of_length_le (by have:=hln.out;omega)];exact rd_8_lt l HL.out hln.out)
    clear hlt hk
    cases hv:valid (rd (l.take 8))
    ·go_wp2_with (first|(go_at_call 82;refine(valid_any _ _ hb.out).mono ?_;rintro e w' ⟨rfl,rfl⟩))
     go_ret2
     obtain⟨e1,e2⟩:=rd_bad hln.out hv
     exact⟨ret_back e1.symm e2.symm,rfl⟩
    ·go_wp2_with (first|(go_at_call 82;refine(valid_any _ _ hb.out).mono ?_;rintro e w' ⟨rfl,rfl⟩))
     go_ret2
     obtain⟨e1,e2⟩:=rd_good hln.out hv
     exact⟨ret_back e1.symm e2.symm,rfl⟩
 ·go_enter Try.func74,Try.ntmps74
  go_wp2
  go_ret2
  have:¬l.length=8:=by have:=bne_iff_ne.1 h8;have:=hln.out;omega
  exact⟨ret_back (by unfold rdX;rw[if_neg this]) (by unfold rdE;rw[if_neg this]),rfl⟩
set_option maxHeartbeats 800000 in
theorem rread_any(A:Option Addr)(n c:Nat)(l:List Nat)(w:World)(hn:n≤9223372036854775807)(hl:∀x∈l,x < 256)(hs:Sl w A n (bl l)) :
  Calls Try.prog 71 #[.slice A n c] w fun e w'=>e=.returned (.tuple #[.float .f64 (rdX l),.int .i64 (rdE l)])∧w=w':=by
 have HL:=Lib.hid hl
 have HS:=Lib.hid hs
 have hln:=Lib.hid (show l.length=n by simpa[bl] using hs.1)
 clear hl hs
 have hfb:=run_f64from
 cases h8:(n:Int) != 8
 ·have e8:n=8:=by have:=bne_eq_false_iff_eq.1 h8;omega
  subst e8
  clear h8 hn
  go_enter Try.func71,Try.ntmps71
  go_wp2
  go_loop [4,5] (fun t i=>RdRel l 8 t i) (fun _ i=>8 - (intOf i).toNat)
  case atStart=>exact⟨0,Nat.zero_le _,rfl,rfl⟩
  case round =>
   obtain⟨k,hk,rfl,rfl⟩:=hrel
   by_cases hlt:k < 8
   ·obtain⟨ad,rfl,hcell⟩:=HS.out.at_ hlt
    obtain⟨x,hx⟩:∃x,l[k]?=some x:=⟨l[k]'(by have:=hln.out;omega),List.getElem?_eq_getElem _⟩
    have hc:w.cell? (ad.add k)=some (.int .u8 (x:Int)):=by rw[hcell];simp[bl,hx]
    have HX:=Lib.hid hx
    have hxl:=Lib.hid (HL.out x (List.mem_of_getElem? hx))
    clear hcell hx
    obtain⟨s,hs⟩:∃s,s=rd (l.take k):=⟨_,rfl⟩
    rw[←hs]
    have HSS:=Lib.hid hs
    clear hs
    go_wp2
    go_round
    case rel =>
     refine⟨k+1,by omega,by go_num,?_⟩
     rw[rd_next l k x s HX.out HSS.out]
     exact congrArg _ (add_byte s x (by rw[HSS.out];exact rd_take_lt l k HL.out hlt) hxl.out)
    case measure=>simp[intOf];omega
   ·obtain rfl:k=8:=by omega
    have hb:=Lib.hid (show rd (l.take 8) < 18446744073709551616 by rw[List.take_of_length_le (by have:=hln.out;omega)];exact rd_8_lt l HL.out hln.out)
    clear hlt hk
    cases hv:valid (rd (l.take 8))
    ·go_wp2_with (first|(go_at_call 83;refine(rvalid_any _ _ hb.out).mono ?_;rintro e w' ⟨rfl,rfl⟩))
     go_ret2
     obtain⟨e1,e2⟩:=rd_bad hln.out hv
     exact⟨ret_back e1.symm e2.symm,rfl⟩
    ·go_wp2_with (first|(go_at_call 83;refine(rvalid_any _ _ hb.out).mono ?_;rintro e w' ⟨rfl,rfl⟩))
     go_ret2
     obtain⟨e1,e2⟩:=rd_good hln.out hv
     exact⟨ret_back e1.symm e2.symm,rfl⟩
 ·go_enter Try.func71,Try.ntmps71
  go_wp2
  go_ret2
  have:¬l.length=8:=by have:=bne_iff_ne.1 h8;have:=hln.out;omega
  exact⟨ret_back (by unfold rdX;rw[if_neg this]) (by unfold rdE;rw[if_neg this]),rfl⟩
end Go.Proofs.Ytkahelhoaihajaa.Sc
