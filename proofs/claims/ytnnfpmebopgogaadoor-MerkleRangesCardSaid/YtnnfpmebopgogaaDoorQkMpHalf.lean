/- Joined texts. -/
import Derived.Deep.LoopGhost
import Derived.WalkMore
import Derived.Test.YtnnfpmebopgogaaDoorQkMkK
import Derived.Test.YtnnfpmebopgogaaDoorQkMkA
import Derived.Laws.AppendOwnNone
set_option linter.unusedVariables false
namespace Go.Proofs.YtnnfpmebopgogaaDoor.Mk
open Go.RowKit Go.Proofs.YtnnfpmebopgogaaDoor.Gn Go.Proofs.YtnnfpmebopgogaaDoor.Fd Go.Deep
theorem tab_size:Lib.len8tab.size=256:=by decide +kernel
theorem tab_fin:∀n:Fin 256,(Lib.len8tab[n.val]'(by rw[tab_size];exact n.isLt)).toNat=Lib.bitLen n.val:=by decide +kernel
theorem tab_get{y:Nat}(h:y < Lib.len8tab.size):(Lib.len8tab[y]'h).toNat=Lib.bitLen y:=tab_fin ⟨y,by rw[tab_size] at h;exact h⟩
theorem bit8{y:Nat}(h:y < 256):Lib.bitLen y≤8:=Lib.bitLen_le8 ⟨y,h⟩
set_option maxHeartbeats 4000000 in
set_option maxRecDepth 100000 in
theorem len64_any(x:Nat)(h:x < 65536)(w:World):Calls Tryd.prog 95 #[.int .u64 (x:Int)] w fun e w'=>e=.returned (.int .i64 (Lib.bitLen x))∧w=w':=by
 have h0:(0:Int)≤(x:Int):=by omega
 have h1:(x:Int)≤65535:=by omega
 obtain⟨X,hX⟩:∃X:Int,X=(x:Int):=⟨_,rfl⟩
 rw[←hX] at h0 h1 ⊢
 have HX:=Lib.hid hX
 clear hX
 by_cases hx:X < 256
 ·have hs:X < (Lib.len8tab.size:Int):=by rw[tab_size];exact hx
  go_enter Tryd.func95,Tryd.ntmps95
  go_wp2
  go_ret
  refine⟨congrArg Ending.returned (congrArg (Value.int IntKind.i64) ?_),rfl⟩
  rw[tab_get]
  have e:X.toNat=x:=by have:=HX.out;omega
  rw[e]
  have:=bit8 (y:=x) (by have:=HX.out;omega)
  unfold wrap64
  omega
 ·have hs:X / 256 < (Lib.len8tab.size:Int):=by rw[tab_size];omega
  go_enter Tryd.func95,Tryd.ntmps95
  go_wp2
  go_ret
  refine⟨congrArg Ending.returned (congrArg (Value.int IntKind.i64) ?_),rfl⟩
  rw[tab_get]
  have e:(X / 256).toNat=x / 256:=by have:=HX.out;omega
  rw[e,Lib.bitLen_shift8 x (by have:=HX.out;omega) (by omega)]
  have:=bit8 (y:=x / 256) (by omega)
  unfold wrap64
  omega
theorem len_any(x:Nat)(h:x < 65536)(w:World):Calls Tryd.prog 86 #[.int .u64 (x:Int)] w fun e w'=>e=.returned (.int .i64 (Lib.bitLen x))∧w=w':=by
 have C:=Lib.hid (len64_any x h w)
 have h0:(0:Int)≤(x:Int):=by omega
 have h1:(x:Int)≤65535:=by omega
 generalize(x:Int)=X at C h0 h1 ⊢
 generalize Lib.bitLen x=Y at C ⊢
 clear h
 go_enter Tryd.func86,Tryd.ntmps86
 go_wp2_with (go_at_call 95;(with_reducible refine C.out.mono ?_);rintro e w' ⟨rfl,rfl⟩)
 go_ret
 exact⟨rfl,rfl⟩
theorem half_any{n:Nat}(h2:2≤n)(hn:n≤65536)(w:World):Calls Tryd.prog 69 #[.int .i64 (n:Int)] w fun e w'=>e=.returned (.int .i64 (half n:Int))∧w=w':=by
 obtain⟨m,rfl⟩:∃m,n=m+1:=⟨n - 1,by omega⟩
 have C:=Lib.hid (len_any m (by omega) w)
 rw[bitLen_log m (by omega) (by omega)] at C
 have hh:half (m+1)=2 ^ Nat.log2 m:=rfl
 have hl:=half_spec h2
 rw[hh] at hl
 have HH:=Lib.hid hh
 have hlog:Nat.log2 m < 62:=by
  rcases Nat.lt_or_ge (Nat.log2 m) 62 with c|c
  ·exact c
  ·have:2 ^ 62≤2 ^ Nat.log2 m:=Nat.pow_le_pow_right (by omega) c
   omega
 generalize Nat.log2 m=k at *
 have e1:((m+1:Nat):Int) - 1=(m:Int):=by omega
 have hm:(m:Int) < 65536:=by omega
 have e2:((k+1:Nat):Int) - 1=(k:Int):=by omega
 have HL:=Lib.hid hl
 clear hh hl
 go_enter Tryd.func69,Tryd.ntmps69
 go_wp2_with (go_at_call 86;(with_reducible refine C.out.mono ?_);rintro e w' ⟨rfl,rfl⟩)
 go_ret
 refine⟨congrArg Ending.returned (congrArg (Value.int IntKind.i64) ?_),rfl⟩
 rw[HH.out]
 have hp:(2:Int) ^ k=((2 ^ k:Nat):Int):=by simp
 rw[hp]
 have:=HL.out
 generalize 2 ^ k=q at *
 unfold wrap64
 omega
set_option maxHeartbeats 1000000 in
theorem rhalf_any{n:Nat}(h2:2≤n)(hn:n≤65536)(w:World):Calls Tryd.prog 55 #[.int .i64 (n:Int)] w fun e w'=>e=.returned (.int .i64 (half n:Int))∧w=w':=by
 go_enter Tryd.func55,Tryd.ntmps55
 go_wp2_with fail
 go_loopg [3] n (fun g1 vk wr=>∃k:Nat,vk=.int .i64 k∧1≤k∧k < n∧n - k≤g1∧Hid (∃j,k=2 ^ j)∧w=wr)
 case atStart=>exact⟨1,rfl,Nat.le_refl _,by omega,by omega,Lib.hid ⟨0,rfl⟩,rfl⟩
 case round =>
  obtain⟨k,rfl,hk1,hkn,hg,HJ,rfl⟩:=hrel
  obtain⟨d,hd⟩:∃d,d=k*2:=⟨_,rfl⟩
  have e1:(k:Int)*2=(d:Int):=by omega
  by_cases hlt:d < n
  ·have q:(d:Int) < (n:Int):=by omega
   have HD:=Lib.hid hd
   clear hd
   go_wp2_with fail
   go_roundg (n - d)
   case measure=>have:=HD.out;omega
   case rel=>exact⟨d,rfl,by have:=HD.out;omega,hlt,Nat.le_refl _,Lib.hid (by obtain⟨j,hj⟩:=HJ.out;exact⟨j+1,by rw[Nat.pow_succ,←hj];exact HD.out⟩),rfl⟩
  ·have q:¬(d:Int) < (n:Int):=by omega
   have HD:=Lib.hid hd
   clear hd
   go_wp2_with fail
   go_ret
   refine⟨congrArg Ending.returned (congrArg (Value.int IntKind.i64) ?_),rfl⟩
   obtain⟨j,hj⟩:=HJ.out
   rw[hj,half_unique (n:=n) (by omega) (by have:=HD.out;omega)]
end Go.Proofs.YtnnfpmebopgogaaDoor.Mk
namespace Go.Proofs.YtnnfpmebopgogaaDoor.Mk
open Go.RowKit Go.Proofs.YtnnfpmebopgogaaDoor.Gn Go.Proofs.YtnnfpmebopgogaaDoor.Fd Go.Deep
theorem own_alloc{w:World}{base:Nat}{e:TypeId}{v:Value}{n:Nat}{xs:List Value}(h:w.ownsRow base e 1 v n xs)(o:Obj):(w.alloc o).ownsRow base e 1 v n xs:=own_below h ((Below.refl _ _).alloc (Nat.le_refl _) o)
theorem own_rows{w:World}{base:Nat}{e:TypeId}{v:Value}{n:Nat}{xs:List Value}(h:w.ownsRow base e 1 v n xs):∀k,v.ownBlock=some k→base≤k:=by
 obtain⟨hl,h2⟩:=h
 rcases h2 with⟨rfl,-⟩|⟨g,cap,cur,rfl,hg,-⟩
 ·intro k hk;cases hk
 ·intro k hk;simp[Value.ownBlock] at hk;omega
end Go.Proofs.YtnnfpmebopgogaaDoor.Mk
