/- Joined texts. -/
import Derived.Test.YtnnfpmebopgogaaDoorQkMpUp0
import Derived.Test.YtnnfpmebopgogaaDoorQkMkK
import Derived.Test.YtnnfpmebopgogaaDoorQkMkG
import Derived.WalkMore
set_option linter.unusedVariables false
namespace Go.Proofs.YtnnfpmebopgogaaDoor.Mk
open Go.RowKit Go.Proofs.YtnnfpmebopgogaaDoor.Gn Go.Proofs.YtnnfpmebopgogaaDoor.Fd Go.Deep
theorem one_l(w:World)(r:Lw):Sl (w.alloc (.cells #[lwv r] 23)) (some ⟨w.heap.size,0,none⟩) 1 ([r].map lwv):=Sl.new_ w 23 [lwv r]
theorem digests_one{A:Option Addr}{n c:Nat}{r:List Rw}{w:World}(h:Lc w (A,n,c,r))(hq:∀x∈r,x.2.1≤1099511627776) :
  Calls Tryd.prog 45 #[.slice (some ⟨w.heap.size,0,none⟩) 1 1] (w.alloc (.cells #[.slice A n c] 23)) fun e w'=>e=.returned (.bool (all32 r))∧Below w.heap.size w w':=by
 have BB:=(Below.refl w.heap.size w).alloc (Nat.le_refl _) (.cells #[.slice A n c] 23)
 have:=digests_any [(A,n,c,r)] _ 1 1 _ (one_l w (A,n,c,r)) (by intro l hl;simp at hl;subst hl;exact⟨h.len,h.row.below BB,h.few⟩) (by intro l hl;simp at hl;subst hl;exact hq) (by decide)
 rw[show allAll [(A,n,c,r)]=all32 r by simp[allAll]] at this
 refine this.mono fun e w' h=>?_
 obtain⟨h1,rfl⟩:=h
 exact⟨h1,BB⟩
set_option maxRecDepth 100000 in
set_option maxHeartbeats 2000000 in
theorem refused_ok{A:Option Addr}{n c:Nat}{r:List Rw}{w:World}(h:Lc w (A,n,c,r))(hq:∀x∈r,x.2.1≤1099511627776)(hn:n≤4096) :
  Calls Tryd.prog 38 #[.slice A n c] w fun e w'=>e=.returned (.int .i64 (if all32 r=true then 0 else 1))∧Below w.heap.size w w':=by
 have C:=digests_one h hq
 clear h hq
 rcases ha:all32 r with _|_
 ·rw[ha] at C
  have C:=Lib.hid C
  clear ha
  go_enter Tryd.func38,Tryd.ntmps38
  go_wp2_with (go_at_call 45;(with_reducible refine C.out.mono ?_);rintro e w1 ⟨rfl,b1⟩;have D1:=Lib.hid b1;clear b1)
  go_ret
  exact⟨rfl,D1.out⟩
 ·rw[ha] at C
  have C:=Lib.hid C
  clear ha
  go_enter Tryd.func38,Tryd.ntmps38
  go_wp2_with (go_at_call 45;(with_reducible refine C.out.mono ?_);rintro e w1 ⟨rfl,b1⟩;have D1:=Lib.hid b1;clear b1)
  go_ret
  exact⟨rfl,D1.out⟩
end Go.Proofs.YtnnfpmebopgogaaDoor.Mk
namespace Go.Proofs.YtnnfpmebopgogaaDoor.Mk
open Go.RowKit Go.Proofs.YtnnfpmebopgogaaDoor.Gn Go.Proofs.YtnnfpmebopgogaaDoor.Fd Go.Deep
structure L1 (w:World) (A:Option Addr) (r:Rw):Prop where
 row:Sl w A 1 [rwv r]
 pc:Pc w r
 len:r.2.2.2.length=32
theorem L1.below{w w':World}{A:Option Addr}{r:Rw}(h:L1 w A r)(hb:Below w.heap.size w w'):L1 w' A r:=⟨h.row.below hb,h.pc.below hb,h.len⟩
set_option maxRecDepth 100000 in
set_option maxHeartbeats 2000000 in
theorem top_one{A:Option Addr}{c:Nat}{r:Rw}{w:World}(h:L1 w A r) :
  Calls Tryd.prog 40 #[.slice A 1 c] w fun e w'=>∃g cap,e=.returned (.slice (some ⟨g,0,none⟩) 32 cap)∧Pc w' (some ⟨g,0,none⟩,32,cap,r.2.2.2)∧w.heap.size≤g∧Below w.heap.size w w':=by
 obtain⟨B,n,d,l⟩:=r
 have hl:l.length=32:=h.len
 have hn:n=32:=h.pc.len.trans hl
 subst hn
 have C:=Clone_p (A:=B) (c:=d) (l:=l) (by have:=h.pc;rwa [show((B,32,d,l):Rw)=(B,l.length,d,l) by rw[hl]] at this) (by omega) (by omega)
 rw[hl] at C
 have C:=Lib.hid C
 obtain⟨ad,rfl,hc⟩:=h.row.at_ (by decide:0 < 1)
 have hc:w.cell? ad=some (.slice B 32 d):=hc
 clear h
 go_enter Tryd.func40,Tryd.ntmps40
 go_wp2_with (go_at_call 62;(with_reducible refine C.out.mono ?_);rintro e w1 ⟨g,cap,rfl,p1,g1,b1⟩;have P1:=Lib.hid p1;have G1:=Lib.hid g1;have D1:=Lib.hid b1;clear p1 g1 b1)
 go_ret
 exact⟨g,cap,rfl,P1.out,G1.out,D1.out⟩
set_option maxRecDepth 100000 in
set_option maxHeartbeats 2000000 in
theorem Root_one{A:Option Addr}{c:Nat}{r:Rw}{w:World}(h:L1 w A r)(ts:Sh.Tab w) :
  Calls Tryd.prog 11 #[.slice A 1 c] w fun e w'=>∃g,e=.returned (.tuple #[.slice (some ⟨g,0,none⟩) 32 32,.int .i64 0])∧Pc w' (some ⟨g,0,none⟩,32,32,rootOf 1 r.2.2.2)∧w.heap.size≤g∧Below w.heap.size w w':=by
 have hn:r.2.1=32:=h.pc.len.trans h.len
 have C1:=refused_ok (c:=c) (r:=[r]) (n:=1) (A:=A) (w:=w) ⟨rfl,h.row,show 1≤1000000 by decide⟩ (by intro x hx;simp at hx;subst hx;omega) (by decide)
 rw[show all32 [r]=true by simp[all32,hn],if_pos rfl] at C1
 have C1:=Lib.hid C1
 have C2:=Lib.hid (fun(w1:World) (hb:Below w.heap.size w w1)=>top_one (c:=c) (h.below hb))
 have C3:=Lib.hid (fun(w1 w2:World) (g cap:Nat) (hb:Below w.heap.size w w2) (hp:Pc w2 (some ⟨g,0,none⟩,32,cap,r.2.2.2)) =>
  show Calls Tryd.prog 39 #[.int .i64 1,.slice (some ⟨g,0,none⟩) 32 cap] w2 (Ret32 (rootOf 1 r.2.2.2) w2) from sealed_any 1 (by decide) hp (by rw[h.len];decide) (ts.below hb))
 clear h ts hn
 go_enter Tryd.func11,Tryd.ntmps11
 go_wp2_with (go_at_call 38;(with_reducible refine C1.out.mono ?_);rintro e w1 ⟨rfl,b1⟩;have D1:=Lib.hid b1;have C4:=Lib.hid (C2.out w1 b1);clear b1 C2)
 go_wp2_with (go_at_call 40;(with_reducible refine C4.out.mono ?_);rintro e w2 ⟨g,cap,rfl,p1,g1,b1⟩;have D2:=Lib.hid (D1.out.trans (b1.mono D1.out.size));have C5:=Lib.hid (C3.out w1 w2 g cap D2.out p1);clear p1 g1 b1 C3)
 go_wp2_with (go_at_call 39;(with_reducible refine C5.out.mono ?_);rintro e w3 ⟨g3,rfl,p1,g1,b1⟩;have P3:=Lib.hid p1;have G3:=Lib.hid (Nat.le_trans D2.out.size g1);have D3:=Lib.hid (D2.out.trans (b1.mono D2.out.size));clear p1 g1 b1)
 go_ret2
 exact⟨g3,rfl,P3.out,G3.out,D3.out⟩
end Go.Proofs.YtnnfpmebopgogaaDoor.Mk
