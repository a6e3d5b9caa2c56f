/- Joined texts. -/
import Derived.Laws.AppendOwnNone
import Derived.Test.YtcnlmekjcffohaaDoorQoMpHalf
set_option linter.unusedVariables false
namespace Go.Proofs.YtcnlmekjcffohaaDoor.Mk
open Go.RowKit Go.Proofs.YtcnlmekjcffohaaDoor.Gn Go.Proofs.YtcnlmekjcffohaaDoor.Fd Go.Deep
def bvs(l:List Bool):List Value:=l.map Value.bool
theorem infobo:(Tryd.prog.info? 4).map (fun i=>(i.zero,i.size,i.bytes))=some (some (.bool false),1,1):=by kernel_rfl
theorem own_alloc{w:World}{base:Nat}{e:TypeId}{v:Value}{n:Nat}{xs:List Value}(h:w.ownsRow base e 1 v n xs)(o:Obj):(w.alloc o).ownsRow base e 1 v n xs:=own_below h ((Below.refl _ _).alloc (Nat.le_refl _) o)
theorem own_rows{w:World}{base:Nat}{e:TypeId}{v:Value}{n:Nat}{xs:List Value}(h:w.ownsRow base e 1 v n xs):∀k,v.ownBlock=some k→base≤k:=by
 obtain⟨hl,h2⟩:=h
 rcases h2 with⟨rfl,-⟩|⟨g,cap,cur,rfl,hg,-⟩
 ·intro k hk;cases hk
 ·intro k hk;simp[Value.ownBlock] at hk;omega
set_option maxHeartbeats 2000000 in
set_option maxRecDepth 100000 in
theorem wayTo_any{n p:Nat}(h1:1≤n)(hn:n≤4096)(hp:p < n)(w:World) :
  Calls Tryd.prog 47 #[.int .i64 (n:Int),.int .i64 (p:Int)] w fun e w'=>∃v,e=.returned v∧w'.ownsRow w.heap.size 4 1 v (way n p).length (bvs (way n p))∧Below w.heap.size w w':=by
 obtain⟨i0,hi,hz0,hz1,hz2⟩:=info_parts infobo
 go_enter Tryd.func47,Tryd.ntmps47
 go_wp2_with fail
 go_loopg [0,1,5,6,7] n (fun g1 vn vp vo _ _ wr=>∃(n' p' k:Nat) (done:List Bool),vn=.int .i64 n'∧vp=.int .i64 p'∧1≤n'∧n'≤n∧p' < n'∧n'≤g1∧k+n'≤n∧Hid (done.length=k)∧Hid (way n p=done ++ way n' p')∧Hid (wr.ownsRow w.heap.size 4 1 vo k (bvs done))∧Hid (Below w.heap.size w wr))
 case atStart=>exact⟨n,p,0,[],rfl,rfl,h1,Nat.le_refl _,hp,Nat.le_refl _,by omega,Lib.hid rfl,Lib.hid rfl,Lib.hid (own_nil _ _ _),Lib.hid (Below.refl _ _)⟩
 case round =>
  obtain⟨n',p',k,done,rfl,rfl,hn1,hn2,hp1,hg,hkn,HL,HW,HO,HB⟩:=hrel
  obtain⟨A,cap,rfl,-, -, -, -, -⟩:=Sl.own HO.out
  by_cases h2:2≤n'
  ·have q0:(1:Int) < (n':Int):=by omega
   have hs:=half_spec h2
   obtain⟨H,hH⟩:∃H,H=half n':=⟨_,rfl⟩
   rw[←hH] at hs
   obtain⟨s1,s2,s3⟩:=hs
   have C:=Lib.hid (fun w=>half_any h2 (by omega) w)
   rw[←hH] at C
   have HHH:=Lib.hid hH
   clear hH
   by_cases hc:H≤p'
   ·have q1:decide ((p':Int) ≥ (H:Int))=true:=decide_eq_true (by omega)
    have q2:(H:Int)≤(p':Int):=by omega
    obtain⟨n2,hn2'⟩:∃x,x+H=n':=⟨n' - H,by omega⟩
    obtain⟨p2,hp2'⟩:∃x,x+H=p':=⟨p' - H,by omega⟩
    have e1:(n':Int) - (H:Int)=(n2:Int):=by omega
    have e2:(p':Int) - (H:Int)=(p2:Int):=by omega
    have HW2:=Lib.hid (show way n p=(done ++ [true]) ++ way n2 p2 by rw[HW.out,way_second h2 (by rw[←HHH.out];exact hc),←HHH.out,show n' - H=n2 by omega,show p' - H=p2 by omega];simp)
    have N2:=Lib.hid hn2'
    have P2:=Lib.hid hp2'
    clear hn2' hp2'
    go_wp2_with (first|(go_at_call 44;(with_reducible refine(C.out _).mono ?_);rintro e w' ⟨rfl,rfl⟩)|(at_builtin;refine wpList_append_sl rfl _ _ 64 rfl w.heap.size 4 i0 _ 1 Tryd.underlying64 hi hz0 hz1 hz2 rfl (.slice A k cap) k _ rfl (own_alloc HO.out _) (some ⟨wr.heap.size,0,none⟩) 1 1 [.bool true] rfl (fun h=>by cases h) (Sl.new_ wr 4 [.bool true]) (fun u hu=>by simp at hu;subst hu;rfl) (by unfold maxLen;omega) (by omega) (by have:=HB.out.size;simp;omega) ?_;intro v2 w2 hown2 hgrow2;have B2:=Lib.hid ((HB.out.alloc HB.out.size (.cells #[.bool true] 4)).grown hgrow2 (by have:=HB.out.size;simp;omega) (own_rows HO.out));have O2:=Lib.hid hown2;clear hown2 hgrow2))
    go_roundg n2
    case measure=>have:=N2.out;omega
    case rel=>exact⟨n2,p2,k+1,done ++ [true],rfl,rfl,by have:=N2.out;omega,by have:=N2.out;omega,by have:=N2.out;have:=P2.out;omega,Nat.le_refl _,by have:=N2.out;omega,Lib.hid (by rw[List.length_append,HL.out];rfl),HW2,Lib.hid (by have h:=O2.out;simpa[bvs] using h),B2⟩
   ·have q1:decide ((p':Int) ≥ (H:Int))=false:=decide_eq_false (by omega)
    have q2:¬(H:Int)≤(p':Int):=by omega
    have HW2:=Lib.hid (show way n p=(done ++ [false]) ++ way H p' by rw[HW.out,way_first h2 (by rw[←HHH.out];exact hc),←HHH.out];simp)
    go_wp2_with (first|(go_at_call 44;(with_reducible refine(C.out _).mono ?_);rintro e w' ⟨rfl,rfl⟩)|(at_builtin;refine wpList_append_sl rfl _ _ 64 rfl w.heap.size 4 i0 _ 1 Tryd.underlying64 hi hz0 hz1 hz2 rfl (.slice A k cap) k _ rfl (own_alloc HO.out _) (some ⟨wr.heap.size,0,none⟩) 1 1 [.bool false] rfl (fun h=>by cases h) (Sl.new_ wr 4 [.bool false]) (fun u hu=>by simp at hu;subst hu;rfl) (by unfold maxLen;omega) (by omega) (by have:=HB.out.size;simp;omega) ?_;intro v2 w2 hown2 hgrow2;have B2:=Lib.hid ((HB.out.alloc HB.out.size (.cells #[.bool false] 4)).grown hgrow2 (by have:=HB.out.size;simp;omega) (own_rows HO.out));have O2:=Lib.hid hown2;clear hown2 hgrow2))
    go_roundg H
    case measure=>omega
    case rel=>exact⟨H,p',k+1,done ++ [false],rfl,rfl,by omega,by omega,by omega,Nat.le_refl _,by omega,Lib.hid (by rw[List.length_append,HL.out];rfl),HW2,Lib.hid (by have h:=O2.out;simpa[bvs] using h),B2⟩
  ·have q0:¬(1:Int) < (n':Int):=by omega
   go_wp2_with fail
   go_ret
   have e:way n p=done:=by rw[HW.out,way_one (by omega)];simp
   rw[e,HL.out]
   exact⟨_,rfl,HO.out,HB.out⟩
end Go.Proofs.YtcnlmekjcffohaaDoor.Mk
