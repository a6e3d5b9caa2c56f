/- Joined texts. -/
import Derived.Test.YtmfpckbahgpojaaDoorQmMkF
set_option linter.unusedVariables false
namespace Go.Proofs.YtmfpckbahgpojaaDoor.Mk
open Go.RowKit Go.Proofs.YtmfpckbahgpojaaDoor.Gn Go.Proofs.YtmfpckbahgpojaaDoor.Fd Go.Deep
def holdsB(l:List Nat)(n:Nat)(p:Int):Bool:=rightB l n && (decide (0≤p) && decide (p < (n:Int)))
theorem right_len{l:List Nat}{n:Nat}(h:rightB l n=true):l.length=(n+7) / 8:=by
 unfold rightB at h
 exact of_decide_eq_true (Bool.and_eq_true_iff.1 h).1
set_option maxRecDepth 100000 in
set_option maxHeartbeats 2000000 in
theorem holds_any{A:Option Addr}{n c:Nat}{l:List Nat}{w:World}(h:Pc w (A,l.length,c,l))(hn:n≤4096)(hl:l.length≤100000)(p:Int) :
  Calls Tryd.prog 29 #[.slice A l.length c,.int .i64 (n:Int),.int .i64 p] w fun e w'=>e=.returned (.bool (holdsB l n p))∧Below w.heap.size w w':=by
 have C:=Right_any h hn hl
 unfold holdsB
 clear h
 obtain⟨L,hL⟩:∃L,l.length=L:=⟨_,rfl⟩
 rw[hL] at C ⊢
 rcases hr:rightB l n with _|_
 ·rw[hr] at C
  have C:=Lib.hid C
  clear hL hr hl
  go_enter Tryd.func29,Tryd.ntmps29
  go_wp2_with (go_at_call 18;(with_reducible refine C.out.mono ?_);rintro e w1 ⟨rfl,b1⟩;have D1:=Lib.hid b1;clear b1)
  go_ret
  exact⟨rfl,D1.out⟩
 ·rw[hr] at C
  have C:=Lib.hid C
  clear hL hr hl
  by_cases h0:0≤p
  ·rw[show decide (0≤p)=true from decide_eq_true h0]
   go_enter Tryd.func29,Tryd.ntmps29
   go_wp2_with (go_at_call 18;(with_reducible refine C.out.mono ?_);rintro e w1 ⟨rfl,b1⟩;have D1:=Lib.hid b1;clear b1)
   go_ret
   exact⟨by first|rfl|simp,D1.out⟩
  ·rw[show decide (0≤p)=false from decide_eq_false h0]
   go_enter Tryd.func29,Tryd.ntmps29
   go_wp2_with (go_at_call 18;(with_reducible refine C.out.mono ?_);rintro e w1 ⟨rfl,b1⟩;have D1:=Lib.hid b1;clear b1)
   go_ret
   exact⟨by first|rfl|simp,D1.out⟩
def hasB(l:List Nat)(n:Nat)(p:Int):Bool:=holdsB l n p && dig l p.toNat
set_option maxRecDepth 100000 in
set_option maxHeartbeats 2000000 in
theorem Has_any{A:Option Addr}{n c:Nat}{l:List Nat}{w:World}(h:Pc w (A,l.length,c,l))(hn:n≤4096)(hl:l.length≤100000)(p:Int) :
  Calls Tryd.prog 20 #[.slice A l.length c,.int .i64 (n:Int),.int .i64 p] w fun e w'=>e=.returned (.bool (hasB l n p))∧Below w.heap.size w w':=by
 have C:=holds_any h hn hl p
 unfold hasB
 rcases hr:holdsB l n p with _|_
 ·rw[hr] at C
  have C:=Lib.hid C
  obtain⟨L,hL⟩:∃L,l.length=L:=⟨_,rfl⟩
  rw[hL] at C ⊢
  clear hL hr hl h
  go_enter Tryd.func20,Tryd.ntmps20
  go_wp2_with (go_at_call 29;(with_reducible refine C.out.mono ?_);rintro e w1 ⟨rfl,b1⟩;have D1:=Lib.hid b1;clear b1)
  go_ret
  exact⟨rfl,D1.out⟩
 ·rw[hr] at C
  unfold holdsB at hr
  obtain⟨h1,h2⟩:=Bool.and_eq_true_iff.1 hr
  obtain⟨h3,h4⟩:=Bool.and_eq_true_iff.1 h2
  have h3:=of_decide_eq_true h3
  have h4:=of_decide_eq_true h4
  have hlen:=right_len h1
  obtain⟨q,rfl⟩:∃q:Nat,p=(q:Int):=⟨p.toNat,by omega⟩
  rw[Int.toNat_natCast]
  have MK:=Lib.hid (fun(wr:World) (hb:Below w.heap.size w wr)=>marked_any (h.below hb) q (by omega) hl)
  have C:=Lib.hid C
  obtain⟨L,hL⟩:∃L,l.length=L:=⟨_,rfl⟩
  rw[hL] at C MK ⊢
  clear hL hr hl h h1 h2 h3 h4 hlen
  go_enter Tryd.func20,Tryd.ntmps20
  go_wp2_with (first|(go_at_call 29;(with_reducible refine C.out.mono ?_);rintro e w1 ⟨rfl,b1⟩;have D1:=Lib.hid b1;have M1:=Lib.hid (MK.out _ b1);clear b1)|(go_at_call 33;(with_reducible refine M1.out.mono ?_);rintro e w2 ⟨rfl,b2⟩;have D2:=Lib.hid (D1.out.trans (b2.mono D1.out.size));clear b2))
  go_ret
  exact⟨by first|rfl|simp,D2.out⟩
end Go.Proofs.YtmfpckbahgpojaaDoor.Mk
