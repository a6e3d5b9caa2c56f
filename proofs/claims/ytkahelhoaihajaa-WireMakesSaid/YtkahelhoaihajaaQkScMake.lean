/- Joined texts. -/
import Derived.Laws.BytesArg
import Derived.Test.YtkahelhoaihajaaQkScTotal
import Derived.Test.YtkahelhoaihajaaQkScOwn
set_option linter.unusedVariables false
namespace Go.Proofs.Ytkahelhoaihajaa.Sc
open Go.RowKit
set_option maxRecDepth 100000
def beb(x:Nat):Nat→List Nat
 |0=>[]
 |k+1=>(x / 256 ^ k%256) :: beb x k
theorem beb_length(x k:Nat):(beb x k).length=k:=by induction k with|zero=>rfl|succ k ih=>simp[beb,ih]
def zs(n:Nat)(l:List Nat):Array Value:=(List.replicate n (Value.int .u8 0) ++ bl l).toArray
theorem zs_size(n:Nat)(l:List Nat):(zs n l).size=n+l.length:=by simp[zs,bl]
theorem zs_set(n:Nat)(l:List Nat)(v:Nat):(zs (n+1) l).setIfInBounds n (.int .u8 (v:Int))=zs n (v :: l):=by
 unfold zs bl
 rw[List.setIfInBounds_toArray]
 congr 1
 rw[List.replicate_succ',List.append_assoc]
 simp
def BytesRel(x:Nat)(w:World)(t i:Value)(wr:World):Prop :=
 ∃k:Nat,k≤8∧i=.int .i64 (k:Int)∧t=.int .u64 ((x / 256 ^ k:Nat):Int)∧wr=w.alloc (.cells (zs (8 - k) (beb x k)) 5)
set_option maxHeartbeats 800000 in
theorem bytes_ok(x:Nat)(w:World)(hx:x < 18446744073709551616)(hv:valid x=true) :
  Calls Try.prog 59 #[.float .f64 x] w fun e w'=>e=.returned (.tuple #[.slice (some ⟨w.heap.size,0,none⟩) 8 8,.int .i64 0])∧w'=w.alloc (.cells (bl (beb x 8)).toArray 5):=by
 have HX:=Lib.hid hx
 clear hx
 have hfb:=run_f64bits
 have hmk:∀w,(Instr.makeSlice 23 (.int .i64 8) (.int .i64 8)).run Try.prog w=.ok (.slice (some ⟨w.heap.size,0,none⟩) 8 8) (w.alloc (.cells (zs 8 (beb x 0)) 5)):=fun _=>by kernel_rfl
 go_enter Try.func59,Try.ntmps59
 go_wp2_with (first|(go_at_call 82;refine(valid_any _ _ HX.out).mono ?_;rintro e w' ⟨rfl,rfl⟩))
 go_loopw [5,15] (fun t i wr=>BytesRel x w t i wr) (fun _ i _=>8 - (intOf i).toNat)
 case atStart=>exact⟨0,Nat.zero_le _,rfl,by simp,rfl⟩
 case round =>
  obtain⟨k,hk,rfl,rfl,rfl⟩:=hrel
  by_cases hlt:k < 8
  ·obtain⟨b,hb⟩:∃b,b=x / 256 ^ k:=⟨_,rfl⟩
   rw[←hb]
   have HB:=Lib.hid hb
   clear hb
   obtain⟨arr,harr⟩:∃arr,arr=zs (8 - k) (beb x k):=⟨_,rfl⟩
   rw[←harr]
   have hsz:7 - k < arr.size:=by rw[harr,zs_size,beb_length];omega
   have hc:(w.alloc (.cells arr 5)).cell? ⟨w.heap.size,7 - k,none⟩=some arr[7 - k]:=by
    rw[cell_of_row _ _ _ arr 5 (0,0) (heap_alloc_new w _)]
    exact Array.getElem?_eq_getElem hsz
   have HARR:=Lib.hid harr
   clear harr
   go_wp2
   go_roundw
   case rel =>
    refine⟨k+1,by omega,by go_num,?_,?_⟩
    ·rw[HB.out,Nat.pow_succ,←Nat.div_div_eq_div_mul];simp
    ·have e1:8 - k=(7 - k)+1:=by omega
     have e2:(b:Int)%256=((x / 256 ^ k%256:Nat):Int):=by rw[HB.out];simp
     rw[HARR.out,e1,e2,zs_set,show 8 - (k+1)=7 - k by omega];rfl
   case measure=>simp[intOf];omega
  ·go_wp2
   go_ret2
   obtain rfl:k=8:=by omega
   exact⟨rfl,rfl⟩
theorem bytes_bad(x:Nat)(w:World)(hx:x < 18446744073709551616)(hv:valid x=false) :
  Calls Try.prog 59 #[.float .f64 x] w fun e w'=>e=.returned (.tuple #[.slice none 0 0,.int .i64 10])∧w'=w:=by
 have HX:=Lib.hid hx
 clear hx
 go_enter Try.func59,Try.ntmps59
 go_wp2_with (first|(go_at_call 82;refine(valid_any _ _ HX.out).mono ?_;rintro e w' ⟨rfl,rfl⟩))
 go_ret2
 exact⟨rfl,rfl⟩
theorem rbytes_bad(x:Nat)(w:World)(hx:x < 18446744073709551616)(hv:valid x=false) :
  Calls Try.prog 60 #[.float .f64 x] w fun e w'=>e=.returned (.tuple #[.slice none 0 0,.int .i64 10])∧w'=w:=by
 have HX:=Lib.hid hx
 clear hx
 go_enter Try.func60,Try.ntmps60
 go_wp2_with (first|(go_at_call 83;refine(rvalid_any _ _ HX.out).mono ?_;rintro e w' ⟨rfl,rfl⟩))
 go_ret2
 exact⟨rfl,rfl⟩
theorem info8:(Try.prog.info? 5).map (fun i=>(i.zero,i.size,i.bytes))=some (some (.int .u8 0),1,1):=by kernel_rfl
def RBytesRel(x:Nat)(w:World)(t o i:Value)(wr:World):Prop :=
 ∃(k:Nat),k≤8∧i=.int .i64 (k:Int)∧t=.int .u64 ((x / 256 ^ k:Nat):Int)∧wr.ownsRow w.heap.size 5 1 o k (bl (beb x k))∧Below w.heap.size w wr
set_option maxHeartbeats 800000 in
theorem rbytes_ok(x:Nat)(w:World)(hx:x < 18446744073709551616)(hv:valid x=true) :
  Calls Try.prog 60 #[.float .f64 x] w fun e w'=>∃v,e=.returned (.tuple #[v,.int .i64 0])∧w'.ownsRow w.heap.size 5 1 v 8 (bl (beb x 8))∧Below w.heap.size w w':=by
 have HX:=Lib.hid hx
 clear hx
 have hfb:=run_f64bits
 obtain⟨i0,hi,hz0,hz1,hz2⟩:=info_parts info8
 go_enter Try.func60,Try.ntmps60
 go_wp2_with (first|(go_at_call 83;refine(rvalid_any _ _ HX.out).mono ?_;rintro e w' ⟨rfl,rfl⟩))
 go_loopw [4,5,6] (fun t o i wr=>RBytesRel x w t o i wr) (fun _ _ i _=>8 - (intOf i).toNat)
 case atStart=>exact⟨0,Nat.zero_le _,rfl,by simp,own_nil _ _ _,Below.refl _ _⟩
 case round =>
  obtain⟨k,hk,rfl,rfl,hown,hbel⟩:=hrel
  obtain⟨A,cap,rfl,hsl,hnil,hmax⟩:=Sl.own hown
  have HOWN:=Lib.hid hown
  have HBEL:=Lib.hid hbel
  have HSL:=Lib.hid hsl
  have HNIL:=Lib.hid hnil
  clear hown hbel hsl hnil hmax
  by_cases hlt:k < 8
  ·obtain⟨b,hb⟩:∃b,b=x / 256 ^ k:=⟨_,rfl⟩
   rw[←hb]
   have HB:=Lib.hid hb
   clear hb
   go_wp2_with (at_builtin;refine wpList_append_sl rfl _ _ 23 rfl wr.heap.size 5 i0 _ 1 Try.underlying23 hi hz0 hz1 hz2 rfl _ 1 [.int .u8 ((b:Int)%256)] rfl (own_new wr _ _ (by unfold maxLen;simp)) A k cap (bl (beb x k)) rfl HNIL.out ?c1 ?c2 ?c3 ?c4 ?c5 ?_)
   case c1=>exact HSL.out.below ((Below.refl _ _).alloc (Nat.le_refl _) _)
   case c2=>intro u hu;simp[bl] at hu;obtain⟨y,-, rfl⟩:=hu;rfl
   case c3=>unfold maxLen;omega
   case c4=>omega
   case c5=>simp
   intro v' w1 hown1 hgrow
   have hbel1:Below w.heap.size w w1:=(HBEL.out.alloc HBEL.out.size _).grown hgrow (by have:=HBEL.out.size;simp;omega) (by
    intro g hg;simp[Value.ownBlock] at hg;have:=HBEL.out.size;omega)
   have HO1:=Lib.hid (own_base hown1 HBEL.out.size)
   have HB1:=Lib.hid hbel1
   clear hown1 hgrow hbel1
   go_wp2
   go_roundw
   case rel =>
    refine⟨k+1,by omega,by go_num,?_,?_,HB1.out⟩
    ·have hbx:b≤x:=by rw[HB.out];exact Nat.div_le_self _ _
     have e3:IntKind.u64.wrap ((b:Int) / 256)=((b / 256:Nat):Int):=by rw[IntKind.wrap_u64];have:=HX.out;omega
     rw[e3,HB.out,Nat.pow_succ,←Nat.div_div_eq_div_mul]
    ·have e2:(b:Int)%256=((x / 256 ^ k%256:Nat):Int):=by rw[HB.out];simp
     have:=HO1.out
     rw[e2,Nat.add_comm] at this
     exact this
   case measure=>simp[intOf];omega
  ·go_wp2
   go_ret2
   obtain rfl:k=8:=by omega
   exact⟨_,rfl,HOWN.out,HBEL.out⟩
def txt(l:List Nat):ByteArray:=⟨(l.map fun x=>UInt8.ofNat x).toArray⟩
end Go.Proofs.Ytkahelhoaihajaa.Sc
