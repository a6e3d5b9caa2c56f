/- Joined texts. -/
import Derived.Deep.LoopGhost
import Derived.WalkMore
import Derived.Test.YtnnfpmebopgogaaDoorQnMkM
import Derived.Test.YtnnfpmebopgogaaDoorQnMkA
import Derived.Laws.AppendOwnNone
set_option linter.unusedVariables false
namespace Go.Proofs.YtnnfpmebopgogaaDoor.Mk
open Go.RowKit Go.Proofs.YtnnfpmebopgogaaDoor.Gn Go.Proofs.YtnnfpmebopgogaaDoor.Fd Go.Deep
theorem tab_size:Lib.len8tab.size=256:=by decide +kernel
theorem tab_fin:∀n:Fin 256,(Lib.len8tab[n.val]'(by rw[tab_size];exact n.isLt)).toNat=Lib.bitLen n.val:=by decide +kernel
theorem tab_get{y:Nat}(h:y < Lib.len8tab.size):(Lib.len8tab[y]'h).toNat=Lib.bitLen y:=tab_fin ⟨y,by rw[tab_size] at h;exact h⟩
theorem bit8{y:Nat}(h:y < 256):Lib.bitLen y≤8:=Lib.bitLen_le8 ⟨y,h⟩
set_option maxHeartbeats 4000000 in
set_option maxRecDepth 100000 in
theorem len64_any(x:Nat)(h:x < 65536)(w:World):Calls Tryd.prog 95 #[.int .u64 (x:Int)] w fun e w'=>e=.returned (.int .i64 (Lib.bitLen x))∧w=w':=by
 have h0:(0:Int)≤(x:Int):=by omega
 have h1:(x:Int)≤65535:=by omega
 obtain⟨X,hX⟩:∃X:Int,X=(x:Int):=⟨_,rfl⟩
 rw[←hX] at h0 h1 ⊢
 have HX:=Lib.hid hX
 clear hX
 by_cases hx:X < 256
 ·have hs:X < (Lib.len8tab.size:Int):=by rw[tab_size];exact hx
  go_enter Tryd.func95,Tryd.ntmps95
  go_wp2
  go_ret
  refine⟨congrArg Ending.returned (congrArg (Value.int IntKind.i64) ?_),rfl⟩
  rw[tab_get]
  have e:X.toNat=x:=by have:=HX.out;omega
  rw[e]
  have:=bit8 (y:=x) (by have:=HX.out;omega)
  unfold wrap64
  omega
 ·have hs:X / 256 < (Lib.len8tab.size:Int):=by rw[tab_size];omega
  go_enter Tryd.func95,Tryd.ntmps95
  go_wp2
  go_ret
  refine⟨congrArg Ending.returned (congrArg (Value.int IntKind.i64) ?_),rfl⟩
  rw[tab_get]
  have e:(X / 256).toNat=x / 256:=by have:=HX.out;omega
  rw[e,Lib.bitLen_shift8 x (by have:=HX.out;omega) (by omega)]
  have:=bit8 (y:=x / 256) (by omega)
  unfold wrap64
  omega
theorem len_any(x:Nat)(h:x < 65536)(w:World):Calls Tryd.prog 86 #[.int .u64 (x:Int)] w fun e w'=>e=.returned (.int .i64 (Lib.bitLen x))∧w=w':=by
 have C:=Lib.hid (len64_any x h w)
 have h0:(0:Int)≤(x:Int):=by omega
 have h1:(x:Int)≤65535:=by omega
 generalize(x:Int)=X at C h0 h1 ⊢
 generalize Lib.bitLen x=Y at C ⊢
 clear h
 go_enter Tryd.func86,Tryd.ntmps86
 go_wp2_with (go_at_call 95;(with_reducible refine C.out.mono ?_);rintro e w' ⟨rfl,rfl⟩)
 go_ret
 exact⟨rfl,rfl⟩
theorem half_any{n:Nat}(h2:2≤n)(hn:n≤65536)(w:World):Calls Tryd.prog 69 #[.int .i64 (n:Int)] w fun e w'=>e=.returned (.int .i64 (half n:Int))∧w=w':=by
 obtain⟨m,rfl⟩:∃m,n=m+1:=⟨n - 1,by omega⟩
 have C:=Lib.hid (len_any m (by omega) w)
 rw[bitLen_log m (by omega) (by omega)] at C
 have hh:half (m+1)=2 ^ Nat.log2 m:=rfl
 have hl:=half_spec h2
 rw[hh] at hl
 have HH:=Lib.hid hh
 have hlog:Nat.log2 m < 62:=by
  rcases Nat.lt_or_ge (Nat.log2 m) 62 with c|c
  ·exact c
  ·have:2 ^ 62≤2 ^ Nat.log2 m:=Nat.pow_le_pow_right (by omega) c
   omega
 generalize Nat.log2 m=k at *
 have e1:((m+1:Nat):Int) - 1=(m:Int):=by omega
 have hm:(m:Int) < 65536:=by omega
 have e2:((k+1:Nat):Int) - 1=(k:Int):=by omega
 have HL:=Lib.hid hl
 clear hh hl
 go_enter Tryd.func69,Tryd.ntmps69
 go_wp2_with (go_at_call 86;(with_reducible refine C.out.mono ?_);rintro e w' ⟨rfl,rfl⟩)
 go_ret
 refine⟨congrArg Ending.returned (congrArg (Value.int IntKind.i64) ?_),rfl⟩
 rw[HH.out]
 have hp:(2:Int) ^ k=((2 ^ k:Nat):Int):=by simp
 rw[hp]
 have:=HL.out
 generalize 2 ^ k=q at *
 unfold wrap64
 omega
set_option maxHeartbeats 1000000 in
theorem rhalf_any{n:Nat}(h2:2≤n)(hn:n≤65536)(w:World):Calls Tryd.prog 55 #[.int .i64 (n:Int)] w fun e w'=>e=.returned (.int .i64 (half n:Int))∧w=w':=by
 go_enter Tryd.func55,Tryd.ntmps55
 go_wp2_with fail
 go_loopg [3] n (fun g1 vk wr=>∃k:Nat,vk=.int .i64 k∧1≤k∧k < n∧n - k≤g1∧Hid (∃j,k=2 ^ j)∧w=wr)
 case atStart=>exact⟨1,rfl,Nat.le_refl _,by omega,by omega,Lib.hid ⟨0,rfl⟩,rfl⟩
 case round =>
  obtain⟨k,rfl,hk1,hkn,hg,HJ,rfl⟩:=hrel
  obtain⟨d,hd⟩:∃d,d=k*2:=⟨_,rfl⟩
  have e1:(k:Int)*2=(d:Int):=by omega
  by_cases hlt:d < n
  ·have q:(d:Int) < (n:Int):=by omega
   have HD:=Lib.hid hd
   clear hd
   go_wp2_with fail
   go_roundg (n - d)
   case measure=>have:=HD.out;omega
   case rel=>exact⟨d,rfl,by have:=HD.out;omega,hlt,Nat.le_refl _,Lib.hid (by obtain⟨j,hj⟩:=HJ.out;exact⟨j+1,by rw[Nat.pow_succ,←hj];exact HD.out⟩),rfl⟩
  ·have q:¬(d:Int) < (n:Int):=by omega
   have HD:=Lib.hid hd
   clear hd
   go_wp2_with fail
   go_ret
   refine⟨congrArg Ending.returned (congrArg (Value.int IntKind.i64) ?_),rfl⟩
   obtain⟨j,hj⟩:=HJ.out
   rw[hj,half_unique (n:=n) (by omega) (by have:=HD.out;omega)]
end Go.Proofs.YtnnfpmebopgogaaDoor.Mk
namespace Go.Proofs.YtnnfpmebopgogaaDoor.Mk
open Go.RowKit Go.Proofs.YtnnfpmebopgogaaDoor.Gn Go.Proofs.YtnnfpmebopgogaaDoor.Fd Go.Deep
def bvs(l:List Bool):List Value:=l.map Value.bool
theorem infobo:(Tryd.prog.info? 4).map (fun i=>(i.zero,i.size,i.bytes))=some (some (.bool false),1,1):=by kernel_rfl
theorem own_alloc{w:World}{base:Nat}{e:TypeId}{v:Value}{n:Nat}{xs:List Value}(h:w.ownsRow base e 1 v n xs)(o:Obj):(w.alloc o).ownsRow base e 1 v n xs:=own_below h ((Below.refl _ _).alloc (Nat.le_refl _) o)
theorem own_rows{w:World}{base:Nat}{e:TypeId}{v:Value}{n:Nat}{xs:List Value}(h:w.ownsRow base e 1 v n xs):∀k,v.ownBlock=some k→base≤k:=by
 obtain⟨hl,h2⟩:=h
 rcases h2 with⟨rfl,-⟩|⟨g,cap,cur,rfl,hg,-⟩
 ·intro k hk;cases hk
 ·intro k hk;simp[Value.ownBlock] at hk;omega
set_option maxHeartbeats 2000000 in
set_option maxRecDepth 100000 in
theorem wayTo_any{n p:Nat}(h1:1≤n)(hn:n≤4096)(hp:p < n)(w:World) :
  Calls Tryd.prog 46 #[.int .i64 (n:Int),.int .i64 (p:Int)] w fun e w'=>∃v,e=.returned v∧w'.ownsRow w.heap.size 4 1 v (way n p).length (bvs (way n p))∧Below w.heap.size w w':=by
 obtain⟨i0,hi,hz0,hz1,hz2⟩:=info_parts infobo
 go_enter Tryd.func46,Tryd.ntmps46
 go_wp2_with fail
 go_loopg [0,1,5,6,7] n (fun g1 vn vp vo _ _ wr=>∃(n' p' k:Nat) (done:List Bool),vn=.int .i64 n'∧vp=.int .i64 p'∧1≤n'∧n'≤n∧p' < n'∧n'≤g1∧k+n'≤n∧Hid (done.length=k)∧Hid (way n p=done ++ way n' p')∧Hid (wr.ownsRow w.heap.size 4 1 vo k (bvs done))∧Hid (Below w.heap.size w wr))
 case atStart=>exact⟨n,p,0,[],rfl,rfl,h1,Nat.le_refl _,hp,Nat.le_refl _,by omega,Lib.hid rfl,Lib.hid rfl,Lib.hid (own_nil _ _ _),Lib.hid (Below.refl _ _)⟩
 case round =>
  obtain⟨n',p',k,done,rfl,rfl,hn1,hn2,hp1,hg,hkn,HL,HW,HO,HB⟩:=hrel
  obtain⟨A,cap,rfl,-, -, -, -, -⟩:=Sl.own HO.out
  by_cases h2:2≤n'
  ·have q0:(1:Int) < (n':Int):=by omega
   have hs:=half_spec h2
   obtain⟨H,hH⟩:∃H,H=half n':=⟨_,rfl⟩
   rw[←hH] at hs
   obtain⟨s1,s2,s3⟩:=hs
   have C:=Lib.hid (fun w=>half_any h2 (by omega) w)
   rw[←hH] at C
   have HHH:=Lib.hid hH
   clear hH
   by_cases hc:H≤p'
   ·have q1:decide ((p':Int) ≥ (H:Int))=true:=decide_eq_true (by omega)
    have q2:(H:Int)≤(p':Int):=by omega
    obtain⟨n2,hn2'⟩:∃x,x+H=n':=⟨n' - H,by omega⟩
    obtain⟨p2,hp2'⟩:∃x,x+H=p':=⟨p' - H,by omega⟩
    have e1:(n':Int) - (H:Int)=(n2:Int):=by omega
    have e2:(p':Int) - (H:Int)=(p2:Int):=by omega
    have HW2:=Lib.hid (show way n p=(done ++ [true]) ++ way n2 p2 by rw[HW.out,way_second h2 (by rw[←HHH.out];exact hc),←HHH.out,show n' - H=n2 by omega,show p' - H=p2 by omega];simp)
    have N2:=Lib.hid hn2'
    have P2:=Lib.hid hp2'
    clear hn2' hp2'
    go_wp2_with (first|(go_at_call 69;(with_reducible refine(C.out _).mono ?_);rintro e w' ⟨rfl,rfl⟩)|(at_builtin;refine wpList_append_sl rfl _ _ 65 rfl w.heap.size 4 i0 _ 1 Tryd.underlying65 hi hz0 hz1 hz2 rfl (.slice A k cap) k _ rfl (own_alloc HO.out _) (some ⟨wr.heap.size,0,none⟩) 1 1 [.bool true] rfl (fun h=>by cases h) (Sl.new_ wr 4 [.bool true]) (fun u hu=>by simp at hu;subst hu;rfl) (by unfold maxLen;omega) (by omega) (by have:=HB.out.size;simp;omega) ?_;intro v2 w2 hown2 hgrow2;have B2:=Lib.hid ((HB.out.alloc HB.out.size (.cells #[.bool true] 4)).grown hgrow2 (by have:=HB.out.size;simp;omega) (own_rows HO.out));have O2:=Lib.hid hown2;clear hown2 hgrow2))
    go_roundg n2
    case measure=>have:=N2.out;omega
    case rel=>exact⟨n2,p2,k+1,done ++ [true],rfl,rfl,by have:=N2.out;omega,by have:=N2.out;omega,by have:=N2.out;have:=P2.out;omega,Nat.le_refl _,by have:=N2.out;omega,Lib.hid (by rw[List.length_append,HL.out];rfl),HW2,Lib.hid (by have h:=O2.out;simpa[bvs] using h),B2⟩
   ·have q1:decide ((p':Int) ≥ (H:Int))=false:=decide_eq_false (by omega)
    have q2:¬(H:Int)≤(p':Int):=by omega
    have HW2:=Lib.hid (show way n p=(done ++ [false]) ++ way H p' by rw[HW.out,way_first h2 (by rw[←HHH.out];exact hc),←HHH.out];simp)
    go_wp2_with (first|(go_at_call 69;(with_reducible refine(C.out _).mono ?_);rintro e w' ⟨rfl,rfl⟩)|(at_builtin;refine wpList_append_sl rfl _ _ 65 rfl w.heap.size 4 i0 _ 1 Tryd.underlying65 hi hz0 hz1 hz2 rfl (.slice A k cap) k _ rfl (own_alloc HO.out _) (some ⟨wr.heap.size,0,none⟩) 1 1 [.bool false] rfl (fun h=>by cases h) (Sl.new_ wr 4 [.bool false]) (fun u hu=>by simp at hu;subst hu;rfl) (by unfold maxLen;omega) (by omega) (by have:=HB.out.size;simp;omega) ?_;intro v2 w2 hown2 hgrow2;have B2:=Lib.hid ((HB.out.alloc HB.out.size (.cells #[.bool false] 4)).grown hgrow2 (by have:=HB.out.size;simp;omega) (own_rows HO.out));have O2:=Lib.hid hown2;clear hown2 hgrow2))
    go_roundg H
    case measure=>omega
    case rel=>exact⟨H,p',k+1,done ++ [false],rfl,rfl,by omega,by omega,by omega,Nat.le_refl _,by omega,Lib.hid (by rw[List.length_append,HL.out];rfl),HW2,Lib.hid (by have h:=O2.out;simpa[bvs] using h),B2⟩
  ·have q0:¬(1:Int) < (n':Int):=by omega
   go_wp2_with fail
   go_ret
   have e:way n p=done:=by rw[HW.out,way_one (by omega)];simp
   rw[e,HL.out]
   exact⟨_,rfl,HO.out,HB.out⟩
end Go.Proofs.YtnnfpmebopgogaaDoor.Mk
