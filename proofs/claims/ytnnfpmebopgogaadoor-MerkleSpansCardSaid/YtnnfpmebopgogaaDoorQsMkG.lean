/- Joined texts. -/
import Derived.Test.YtnnfpmebopgogaaDoorQsMpCheck
import Derived.OrdersHeld
import Derived.Test.YtnnfpmebopgogaaDoorQsGnA
import Derived.Test.YtnnfpmebopgogaaDoorQsPuA
import Derived.IntWalk
import Derived.Deep.Cut
import Derived.Test.YtnnfpmebopgogaaDoorQsMpUp0
import Derived.Test.YtnnfpmebopgogaaDoorQsMkK
import Derived.WalkMore
set_option linter.unusedVariables false
namespace Go.Proofs.YtnnfpmebopgogaaDoor.Mk
open Go.RowKit Go.Proofs.YtnnfpmebopgogaaDoor.Gn Go.Proofs.YtnnfpmebopgogaaDoor.Fd Go.Deep
def holdsB(l:List Nat)(n:Nat)(p:Int):Bool:=rightB l n && (decide (0≤p) && decide (p < (n:Int)))
theorem right_len{l:List Nat}{n:Nat}(h:rightB l n=true):l.length=(n+7) / 8:=by
 unfold rightB at h
 exact of_decide_eq_true (Bool.and_eq_true_iff.1 h).1
set_option maxRecDepth 100000 in
set_option maxHeartbeats 2000000 in
theorem holds_any{A:Option Addr}{n c:Nat}{l:List Nat}{w:World}(h:Pc w (A,l.length,c,l))(hn:n≤4096)(hl:l.length≤100000)(p:Int) :
  Calls Tryd.prog 61 #[.slice A l.length c,.int .i64 (n:Int),.int .i64 p] w fun e w'=>e=.returned (.bool (holdsB l n p))∧Below w.heap.size w w':=by
 have C:=Right_any h hn hl
 unfold holdsB
 clear h
 obtain⟨L,hL⟩:∃L,l.length=L:=⟨_,rfl⟩
 rw[hL] at C ⊢
 rcases hr:rightB l n with _|_
 ·rw[hr] at C
  have C:=Lib.hid C
  clear hL hr hl
  go_enter Tryd.func61,Tryd.ntmps61
  go_wp2_with (go_at_call 64;(with_reducible refine C.out.mono ?_);rintro e w1 ⟨rfl,b1⟩;have D1:=Lib.hid b1;clear b1)
  go_ret
  exact⟨rfl,D1.out⟩
 ·rw[hr] at C
  have C:=Lib.hid C
  clear hL hr hl
  by_cases h0:0≤p
  ·rw[show decide (0≤p)=true from decide_eq_true h0]
   go_enter Tryd.func61,Tryd.ntmps61
   go_wp2_with (go_at_call 64;(with_reducible refine C.out.mono ?_);rintro e w1 ⟨rfl,b1⟩;have D1:=Lib.hid b1;clear b1)
   go_ret
   exact⟨by first|rfl|simp,D1.out⟩
  ·rw[show decide (0≤p)=false from decide_eq_false h0]
   go_enter Tryd.func61,Tryd.ntmps61
   go_wp2_with (go_at_call 64;(with_reducible refine C.out.mono ?_);rintro e w1 ⟨rfl,b1⟩;have D1:=Lib.hid b1;clear b1)
   go_ret
   exact⟨by first|rfl|simp,D1.out⟩
end Go.Proofs.YtnnfpmebopgogaaDoor.Mk
namespace Go.Proofs.YtnnfpmebopgogaaDoor.Gn
open Go.RowKit Go.Deep
section
variable {P:Program} {ops:Array Oper} {Q:Exit→Act→World→Prop}
theorem wp_val{o:Oper}{a:Act}{w w':World}{K:Act→World→Prop}{v:Value}(h:(execOp a.eval o).run P w=.ok (.value v) w')(hK:K (a.put o.dst v) w'):o.wp P a w K Q:=by
 unfold Oper.wp;rw[h];exact hK
end
end Go.Proofs.YtnnfpmebopgogaaDoor.Gn
namespace Go.Proofs.YtnnfpmebopgogaaDoor.Gn
open Go.RowKit Go.Deep
section
variable {P:Program} {ops:Array Oper} {Q:Exit→Act→World→Prop} {rest:List Oper} {o:Oper} {a:Act} {w w':World}
theorem sq_new(w':World)(v:Value)(hgd:o.guard=none)(h:(execOp a.eval o).run P w=.ok (.value v) w')(hk:wpList P ops Q rest (a.put o.dst v) w'):wpList P ops Q (o :: rest) a w :=
 wpList_plain hgd fun K hK=>wp_val h (hK _ _ hk)
theorem sq_run(v:Value)(hgd:o.guard=none)(h:(execOp a.eval o).run P w=.ok (.value v) w)(hk:wpList P ops Q rest (a.put o.dst v) w):wpList P ops Q (o :: rest) a w:=sq_new w v hgd h hk
theorem sq_done(h:Q .normal a w):wpList P ops Q [] a w:=h
end
end Go.Proofs.YtnnfpmebopgogaaDoor.Gn
namespace Go.Proofs.YtnnfpmebopgogaaDoor.Mk
open Go.RowKit Go.Proofs.YtnnfpmebopgogaaDoor.Gn Go.Proofs.YtnnfpmebopgogaaDoor.Fd Go.Deep
def CloneQ(l:List Nat)(w:World)(e:Ending)(w':World):Prop :=
 ∃(g cap:Nat) (cur:Array Value),e=.returned (.slice (some ⟨g,0,none⟩) l.length cap)∧Bl w' g 5 cur∧l.length≤cap∧l.length≤cur.size∧cur.toList.take l.length=bl l∧w.heap.size≤g∧Below w.heap.size w w'
theorem own_cur{w:World}{base:Nat}{e:TypeId}{v:Value}{n:Nat}{xs:List Value}(h:w.ownsRow base e 1 v n xs)(hn:0 < n) :
  ∃g cap cur,v=.slice (some ⟨g,0,none⟩) n cap∧Bl w g e cur∧n≤cap∧n≤cur.size∧cur.toList.take n=xs∧base≤g:=by
 obtain⟨hl,h2⟩:=h
 rcases h2 with⟨rfl,rfl⟩|⟨g,cap,cur,rfl,hb,hh,hn2,hm,hc,hx⟩
 ·simp at hl;omega
 ·exact⟨g,cap,cur,rfl,hh,by omega,by omega,(by rw[Nat.mul_one] at hx;exact hx),hb⟩
set_option maxRecDepth 100000 in
set_option maxHeartbeats 4000000 in
theorem Clone_any(A:Option Addr)(n c:Nat)(l:List Nat)(w:World)(h0:0 < n)(hn:n≤100000)(hc:n≤c)(hs:Sl w A n (bl l)) :
  Calls Tryd.prog 62 #[.slice A n c] w (CloneQ l w):=by
 have hln:l.length=n:=by simpa[bl] using hs.1
 obtain⟨ad,hA,-⟩:=hs.at_ h0
 subst hA
 obtain⟨i0,hi,hz0,hz1,hz2⟩:=info_parts infob
 go_enter Tryd.func62,Tryd.ntmps62
 go_upto_region 1 with(fail)
 refine wp_region_lit ?_
 refine sq_run (.slice (some ad) n c) rfl (by kernel_rfl) ?_
 refine sq_run (.bool false) rfl (by kernel_rfl) ?_
 refine sq_done ?_
 simp only[Act.put,List.setIfInBounds_toArray,List.set_cons_zero,List.set_cons_succ]
 go_upto_region 3 with(fail)
 refine wp_region_lit ?_
 refine sq_new (w.alloc (.cells #[] 5)) (.slice (some ⟨w.heap.size,0,none⟩) 0 0) rfl (by kernel_rfl) ?_
 refine sq_run (.slice (some ad) n c) rfl (by kernel_rfl) ?_
 refine wpList_append_sl rfl (.tmp 5) (.tmp 6) 22 rfl w.heap.size 5 i0 _ (8 / 8) Tryd.underlying22 hi hz0 hz1 hz2 rfl (.slice (some ⟨w.heap.size,0,none⟩) 0 0) 0 [] rfl (own_new w 5 [] (by decide)) (some ad) n c (bl l) rfl (by simp) (hs.below ((Below.refl _ _).alloc (Nat.le_refl _) _)) (bl_one _) (by unfold maxLen;omega) (by omega) (by simp) ?_
 intro v' w1 hown hgrow
 rw[Nat.zero_add,List.nil_append] at hown
 obtain⟨g,cap,cur,rfl,hb,h1,h2,h3,h4⟩:=own_cur hown h0
 have hB:Below w.heap.size w w1:=((Below.refl w.heap.size w).alloc (Nat.le_refl _) (.cells #[] 5)).grown hgrow (by simp) (by intro k e;simp[Value.ownBlock] at e;omega)
 refine sq_run (.slice (some ⟨g,0,none⟩) n cap) rfl (by kernel_rfl) ?_
 refine sq_done ?_
 simp only[Act.put,List.setIfInBounds_toArray,List.set_cons_zero,List.set_cons_succ]
 go_wp2_with fail
 go_ret
 exact⟨g,cap,cur,by rw[hln];rfl,hb,by omega,by omega,by rw[hln];exact h3,h4,hB⟩
theorem Clone_p{A:Option Addr}{c:Nat}{l:List Nat}{w:World}(h:Pc w (A,l.length,c,l))(h0:0 < l.length)(hn:l.length≤100000) :
  Calls Tryd.prog 62 #[.slice A l.length c] w fun e w'=>∃g cap,e=.returned (.slice (some ⟨g,0,none⟩) l.length cap)∧Pc w' (some ⟨g,0,none⟩,l.length,cap,l)∧w.heap.size≤g∧Below w.heap.size w w':=by
 refine(Clone_any A l.length c l w h0 hn h.cap h.row).mono ?_
 rintro e w' ⟨g,cap,cur,rfl,hb,h1,h2,h3,h4,h5⟩
 refine⟨g,cap,rfl,⟨rfl,?_,h.lt,h1,fun e=>by cases e⟩,h4,h5⟩
 refine Sl.of_bl hb 0 _ _ (by rw[bl_length]) fun k v hk=>?_
 rw[Nat.zero_add]
 have hkl:k < l.length:=by have:=(List.getElem?_eq_some_iff.1 hk).1;rwa [bl_length] at this
 rw[←h3,List.getElem?_take,if_pos hkl] at hk
 rwa [Array.getElem?_toList] at hk
end Go.Proofs.YtnnfpmebopgogaaDoor.Mk
namespace Go.Proofs.YtnnfpmebopgogaaDoor.Mk
open Go.RowKit Go.Proofs.YtnnfpmebopgogaaDoor.Gn Go.Proofs.YtnnfpmebopgogaaDoor.Fd Go.Deep
theorem one_l(w:World)(r:Lw):Sl (w.alloc (.cells #[lwv r] 23)) (some ⟨w.heap.size,0,none⟩) 1 ([r].map lwv):=Sl.new_ w 23 [lwv r]
theorem digests_one{A:Option Addr}{n c:Nat}{r:List Rw}{w:World}(h:Lc w (A,n,c,r))(hq:∀x∈r,x.2.1≤1099511627776) :
  Calls Tryd.prog 45 #[.slice (some ⟨w.heap.size,0,none⟩) 1 1] (w.alloc (.cells #[.slice A n c] 23)) fun e w'=>e=.returned (.bool (all32 r))∧Below w.heap.size w w':=by
 have BB:=(Below.refl w.heap.size w).alloc (Nat.le_refl _) (.cells #[.slice A n c] 23)
 have:=digests_any [(A,n,c,r)] _ 1 1 _ (one_l w (A,n,c,r)) (by intro l hl;simp at hl;subst hl;exact⟨h.len,h.row.below BB,h.few⟩) (by intro l hl;simp at hl;subst hl;exact hq) (by decide)
 rw[show allAll [(A,n,c,r)]=all32 r by simp[allAll]] at this
 refine this.mono fun e w' h=>?_
 obtain⟨h1,rfl⟩:=h
 exact⟨h1,BB⟩
set_option maxRecDepth 100000 in
set_option maxHeartbeats 2000000 in
theorem refused_ok{A:Option Addr}{n c:Nat}{r:List Rw}{w:World}(h:Lc w (A,n,c,r))(hq:∀x∈r,x.2.1≤1099511627776)(hn:n≤4096) :
  Calls Tryd.prog 38 #[.slice A n c] w fun e w'=>e=.returned (.int .i64 (if all32 r=true then 0 else 1))∧Below w.heap.size w w':=by
 have C:=digests_one h hq
 clear h hq
 rcases ha:all32 r with _|_
 ·rw[ha] at C
  have C:=Lib.hid C
  clear ha
  go_enter Tryd.func38,Tryd.ntmps38
  go_wp2_with (go_at_call 45;(with_reducible refine C.out.mono ?_);rintro e w1 ⟨rfl,b1⟩;have D1:=Lib.hid b1;clear b1)
  go_ret
  exact⟨rfl,D1.out⟩
 ·rw[ha] at C
  have C:=Lib.hid C
  clear ha
  go_enter Tryd.func38,Tryd.ntmps38
  go_wp2_with (go_at_call 45;(with_reducible refine C.out.mono ?_);rintro e w1 ⟨rfl,b1⟩;have D1:=Lib.hid b1;clear b1)
  go_ret
  exact⟨rfl,D1.out⟩
end Go.Proofs.YtnnfpmebopgogaaDoor.Mk
namespace Go.Proofs.YtnnfpmebopgogaaDoor.Mk
open Go.RowKit Go.Proofs.YtnnfpmebopgogaaDoor.Gn Go.Proofs.YtnnfpmebopgogaaDoor.Fd Go.Deep
structure L1 (w:World) (A:Option Addr) (r:Rw):Prop where
 row:Sl w A 1 [rwv r]
 pc:Pc w r
 len:r.2.2.2.length=32
theorem L1.below{w w':World}{A:Option Addr}{r:Rw}(h:L1 w A r)(hb:Below w.heap.size w w'):L1 w' A r:=⟨h.row.below hb,h.pc.below hb,h.len⟩
set_option maxRecDepth 100000 in
set_option maxHeartbeats 2000000 in
theorem top_one{A:Option Addr}{c:Nat}{r:Rw}{w:World}(h:L1 w A r) :
  Calls Tryd.prog 40 #[.slice A 1 c] w fun e w'=>∃g cap,e=.returned (.slice (some ⟨g,0,none⟩) 32 cap)∧Pc w' (some ⟨g,0,none⟩,32,cap,r.2.2.2)∧w.heap.size≤g∧Below w.heap.size w w':=by
 obtain⟨B,n,d,l⟩:=r
 have hl:l.length=32:=h.len
 have hn:n=32:=h.pc.len.trans hl
 subst hn
 have C:=Clone_p (A:=B) (c:=d) (l:=l) (by have:=h.pc;rwa [show((B,32,d,l):Rw)=(B,l.length,d,l) by rw[hl]] at this) (by omega) (by omega)
 rw[hl] at C
 have C:=Lib.hid C
 obtain⟨ad,rfl,hc⟩:=h.row.at_ (by decide:0 < 1)
 have hc:w.cell? ad=some (.slice B 32 d):=hc
 clear h
 go_enter Tryd.func40,Tryd.ntmps40
 go_wp2_with (go_at_call 62;(with_reducible refine C.out.mono ?_);rintro e w1 ⟨g,cap,rfl,p1,g1,b1⟩;have P1:=Lib.hid p1;have G1:=Lib.hid g1;have D1:=Lib.hid b1;clear p1 g1 b1)
 go_ret
 exact⟨g,cap,rfl,P1.out,G1.out,D1.out⟩
set_option maxRecDepth 100000 in
set_option maxHeartbeats 2000000 in
theorem Root_one{A:Option Addr}{c:Nat}{r:Rw}{w:World}(h:L1 w A r)(ts:Sh.Tab w) :
  Calls Tryd.prog 11 #[.slice A 1 c] w fun e w'=>∃g,e=.returned (.tuple #[.slice (some ⟨g,0,none⟩) 32 32,.int .i64 0])∧Pc w' (some ⟨g,0,none⟩,32,32,rootOf 1 r.2.2.2)∧w.heap.size≤g∧Below w.heap.size w w':=by
 have hn:r.2.1=32:=h.pc.len.trans h.len
 have C1:=refused_ok (c:=c) (r:=[r]) (n:=1) (A:=A) (w:=w) ⟨rfl,h.row,show 1≤1000000 by decide⟩ (by intro x hx;simp at hx;subst hx;omega) (by decide)
 rw[show all32 [r]=true by simp[all32,hn],if_pos rfl] at C1
 have C1:=Lib.hid C1
 have C2:=Lib.hid (fun(w1:World) (hb:Below w.heap.size w w1)=>top_one (c:=c) (h.below hb))
 have C3:=Lib.hid (fun(w1 w2:World) (g cap:Nat) (hb:Below w.heap.size w w2) (hp:Pc w2 (some ⟨g,0,none⟩,32,cap,r.2.2.2)) =>
  show Calls Tryd.prog 39 #[.int .i64 1,.slice (some ⟨g,0,none⟩) 32 cap] w2 (Ret32 (rootOf 1 r.2.2.2) w2) from sealed_any 1 (by decide) hp (by rw[h.len];decide) (ts.below hb))
 clear h ts hn
 go_enter Tryd.func11,Tryd.ntmps11
 go_wp2_with (go_at_call 38;(with_reducible refine C1.out.mono ?_);rintro e w1 ⟨rfl,b1⟩;have D1:=Lib.hid b1;have C4:=Lib.hid (C2.out w1 b1);clear b1 C2)
 go_wp2_with (go_at_call 40;(with_reducible refine C4.out.mono ?_);rintro e w2 ⟨g,cap,rfl,p1,g1,b1⟩;have D2:=Lib.hid (D1.out.trans (b1.mono D1.out.size));have C5:=Lib.hid (C3.out w1 w2 g cap D2.out p1);clear p1 g1 b1 C3)
 go_wp2_with (go_at_call 39;(with_reducible refine C5.out.mono ?_);rintro e w3 ⟨g3,rfl,p1,g1,b1⟩;have P3:=Lib.hid p1;have G3:=Lib.hid (Nat.le_trans D2.out.size g1);have D3:=Lib.hid (D2.out.trans (b1.mono D2.out.size));clear p1 g1 b1)
 go_ret2
 exact⟨g3,rfl,P3.out,G3.out,D3.out⟩
end Go.Proofs.YtnnfpmebopgogaaDoor.Mk
