/- Joined texts. -/
import Derived.Test.YtnnfpmebopgogaaDoorQrMpRCheck
import Derived.Test.YtnnfpmebopgogaaDoorQrMpDoc
set_option linter.unusedVariables false
namespace Go.Proofs.YtnnfpmebopgogaaDoor.Mk
open Go.RowKit Go.Proofs.YtnnfpmebopgogaaDoor.Gn Go.Proofs.YtnnfpmebopgogaaDoor.Fd Go.Deep
set_option maxHeartbeats 2000000 in
set_option maxRecDepth 100000 in
theorem rleaft_any(n:Nat)(hn:n≤9223372036854775807){A:Option Addr}{m c:Nat}{x:List Nat}{w:World}(h:Pc w (A,m,c,x))(hm:m≤900000) :
  Calls Tryd.prog 37 #[.int .i64 (n:Int),.slice A m c] w (OwnB (0 :: (eight n ++ x)) w):=by
 have BB:=(Below.refl w.heap.size w).alloc (Nat.le_refl _) (.cells #[.int .u8 0] 5)
 have PB:Pc (w.alloc (.cells #[.int .u8 0] 5)) (some ⟨w.heap.size,0,none⟩,1,1,[0]):=⟨rfl,Sl.new_ w 5 (bl [0]),fun x hx=>by simp at hx;omega,Nat.le_refl _,fun h=>by cases h⟩
 have C1:=Lib.hid (fun w=>reight_any n hn w)
 have HB:=Lib.hid BB
 have C2:=Lib.hid (fun(w1:World) (B:Option Addr) (d:Nat) (hb:Below (w.alloc (.cells #[.int .u8 0] 5)).heap.size (w.alloc (.cells #[.int .u8 0] 5)) w1) (hp:Pc w1 (B,8,d,eight n))=>rjoin_any (PB.below hb) hp (h.below (BB.trans (hb.mono BB.size))) (by omega))
 clear h PB BB
 go_enter Tryd.func37,Tryd.ntmps37
 go_wp2_with (go_at_call 58;(with_reducible refine(C1.out _).mono ?_);rintro e w1 ⟨v,rfl,ho,hb⟩;rw[eight_len] at ho;obtain⟨B,d,rfl,hp⟩:=own_any ho (eight_len n) (eight_lt n);have C3:=Lib.hid (C2.out w1 B d hb hp);have B1:=Lib.hid hb;clear ho hb hp C2)
 go_wp2_with (go_at_call 57;(with_reducible refine C3.out.mono ?_);rintro e w2 ⟨v,rfl,ho,hb⟩;have O2:=Lib.hid ho;have B2:=Lib.hid hb;clear ho hb)
 go_ret
 have b1:=HB.out.trans (B1.out.mono HB.out.size)
 exact⟨v,rfl,own_base O2.out b1.size,b1.trans (B2.out.mono b1.size)⟩
set_option maxHeartbeats 2000000 in
set_option maxRecDepth 100000 in
theorem RLeaf_any(n:Nat)(hn:n≤9223372036854775807){A:Option Addr}{m c:Nat}{x:List Nat}{w:World}(h:Pc w (A,m,c,x))(hx:m≤1024) :
  Calls Tryd.prog 10 #[.int .i64 (n:Int),.slice A m c] w fun e w'=>∃B d,e=.returned (.tuple #[.slice B 32 d,.int .i64 0])∧Po w' (B,32,d,Sh.dg false (0 :: (eight n ++ x)))∧Below w.heap.size w w':=by
 have hxl:x.length≤1024:=by rw[←h.len];exact hx
 have C1:=Lib.hid ((rleaft_any n hn h (by omega)).mono fun e w' h2=>OwnB.p h2 fun z hz=>by
  rcases List.mem_cons.1 hz with rfl|hz
  ·decide
  ·rcases List.mem_append.1 hz with h3|h3
   ·exact eight_lt n z h3
   ·exact h.lt z h3)
 have LT:=Lib.hid (show(0 :: (eight n ++ x)).length≤1048576 from by rw[List.length_cons,List.length_append,eight_len];omega)
 have hn0:¬(n:Int) < 0:=by omega
 clear h hxl
 generalize(0 :: (eight n ++ x))=tx at C1 LT ⊢
 go_enter Tryd.func10,Tryd.ntmps10
 go_wp2_with (go_at_call 37;(with_reducible refine C1.out.mono ?_);rintro e w1 ⟨TA,tl,tc,rfl,hp,hb⟩;have HS:=Lib.hid (rhash_p hp.1 (by have h:=hp.1.len;change tl=_ at h;rw[h];exact LT.out));have B1:=Lib.hid hb;clear hp hb C1)
 go_wp2_with (go_at_call 36;(with_reducible refine HS.out.mono ?_);rintro e w2 ⟨DA,dl,dc,rfl,hp,hb⟩;have P2:=Lib.hid hp;have B2:=Lib.hid (B1.out.trans (hb.mono B1.out.size));clear hp hb HS)
 go_ret2
 have hdl:dl=32:=by have h:=P2.out.1.len;change dl=(Sh.dg false _).length at h;rw[dg32_len] at h;exact h
 subst hdl
 exact⟨DA,dc,rfl,P2.out,B2.out⟩
set_option maxRecDepth 100000 in
theorem RLeaf_below(n:Int)(hn:n < 0)(A:Option Addr)(m c:Nat)(w:World) :
  Calls Tryd.prog 10 #[.int .i64 n,.slice A m c] w fun e w'=>e=.returned (.tuple #[.slice none 0 0,.int .i64 1])∧w=w':=by
 go_enter Tryd.func10,Tryd.ntmps10
 go_wp2_with fail
 go_ret2
 exact⟨rfl,rfl⟩
set_option maxRecDepth 100000 in
theorem RLeaf_long(n:Int)(hn:0≤n)(A:Option Addr)(m c:Nat)(hm:1024 < m)(w:World) :
  Calls Tryd.prog 10 #[.int .i64 n,.slice A m c] w fun e w'=>e=.returned (.tuple #[.slice none 0 0,.int .i64 2])∧w=w':=by
 go_enter Tryd.func10,Tryd.ntmps10
 go_wp2_with fail
 go_ret2
 exact⟨rfl,rfl⟩
set_option maxHeartbeats 2000000 in
set_option maxRecDepth 100000 in
theorem RRoot_good{w:World}{B:Option Addr}{m c:Nat}{P:List Rw}(h:PAny w B m c P)(h32:all32 P=true)(h1:1≤m) :
  Calls Tryd.prog 12 #[.slice B m c] w fun e w'=>∃A d,e=.returned (.tuple #[.slice A 32 d,.int .i64 0])∧Po w' (A,32,d,rootOf m (topL (con P)))∧Below w.heap.size w w':=by
 have OK:=Lib.hid (rok_any h 0 (by rw[h32];rfl))
 have hf:=h.few
 have TP:=Lib.hid (rtop_any m m (Nat.le_refl _) h1 (by omega) w P B c (h.p32 h32))
 have L:=Lib.hid (topL_len (ps:=con P) (by rw[con_len,h.len];exact h1) (h.p32 h32).con32)
 unfold rootOf
 generalize topL (con P)=t at TP L ⊢
 generalize txtL (con P)=xs at TP
 clear h h32
 go_enter Tryd.func12,Tryd.ntmps12
 go_wp2_with (go_at_call 41;(with_reducible refine OK.out.mono ?_);rintro e w1 ⟨rfl,rfl⟩)
 refine TP.out.mono ?_
 rintro e w1 ⟨A,ca,T,us,rfl,⟨hp,-⟩,ho,-, hb⟩
 have RT:=Lib.hid ((rroot_any m (by omega) hp (by decide)).mono fun e w' h2=>OwnB.p h2 fun z hz=>by
  rcases List.mem_cons.1 hz with rfl|hz
  ·decide
  ·rcases List.mem_append.1 hz with h3|h3
   ·exact eight_lt m z h3
   ·exact hp.lt z h3)
 have B1:=Lib.hid hb
 obtain⟨TA,tc,rfl,-, -, -, -, -⟩:=Sl.own ho.own
 have LT:=Lib.hid (show(2 :: (eight m ++ t)).length≤1048576 from by rw[List.length_cons,List.length_append,eight_len,L.out];decide)
 clear hp ho hb TP
 obtain⟨tx,htx⟩:∃z,z=2 :: (eight m ++ t):=⟨_,rfl⟩
 rw[←htx] at RT LT
 have HTX:=Lib.hid htx
 clear htx
 go_wp2_with (first
  |(go_at_call 29;(with_reducible refine RT.out.mono ?_);rintro e w2 ⟨XA,tl,xc,rfl,hp,hb⟩;have HS:=Lib.hid (rhash_p hp.1 (by have h:=hp.1.len;change tl=_ at h;rw[h];exact LT.out));have B2:=Lib.hid (B1.out.trans (hb.mono B1.out.size));clear hp hb RT)
  |(go_at_call 36;(with_reducible refine HS.out.mono ?_);rintro e w3 ⟨DA,dl,dc,rfl,hp,hb⟩;have P3:=Lib.hid hp;have B3:=Lib.hid (B2.out.trans (hb.mono B2.out.size));clear hp hb HS))
 go_ret2
 have hdl:dl=32:=by have h:=P3.out.1.len;change dl=(Sh.dg false _).length at h;rw[dg32_len] at h;exact h
 subst hdl
 exact⟨DA,dc,rfl,by rw[←HTX.out];exact P3.out,B3.out⟩
set_option maxHeartbeats 2000000 in
set_option maxRecDepth 100000 in
theorem RRoot_bad{w:World}{B:Option Addr}{m c:Nat}{P:List Rw}(h:PAny w B m c P)(h32:all32 P=false) :
  Calls Tryd.prog 12 #[.slice B m c] w (Ref1Q w):=by
 have OK:=Lib.hid (rok_any h 1 (by rw[h32];rfl))
 clear h h32
 go_enter Tryd.func12,Tryd.ntmps12
 go_wp2_with (go_at_call 41;(with_reducible refine OK.out.mono ?_);rintro e w1 ⟨rfl,rfl⟩)
 go_ret2
 exact⟨rfl,Below.refl _ _⟩
end Go.Proofs.YtnnfpmebopgogaaDoor.Mk
namespace Go.Proofs.YtnnfpmebopgogaaDoor.Mk
open Go.RowKit Go.Proofs.YtnnfpmebopgogaaDoor.Gn Go.Proofs.YtnnfpmebopgogaaDoor.Fd Go.Deep
set_option maxRecDepth 100000 in
theorem top_none(A:Option Addr)(c:Nat)(w:World):Calls Tryd.prog 40 #[.slice A 0 c] w fun e w'=>e=.returned (.slice none 0 0)∧w=w':=by
 go_enter Tryd.func40,Tryd.ntmps40
 go_wp2_with fail
 go_ret
 exact⟨rfl,rfl⟩
set_option maxRecDepth 100000 in
theorem rtop_none(A:Option Addr)(c:Nat)(w:World):Calls Tryd.prog 42 #[.slice A 0 c] w fun e w'=>e=.returned (.tuple #[.slice none 0 0,.slice none 0 0])∧w=w':=by
 go_enter Tryd.func42,Tryd.ntmps42
 go_wp2_with fail
 go_ret2
 exact⟨rfl,rfl⟩
theorem PAny.none32{w:World}{B:Option Addr}{c:Nat}{P:List Rw}(h:PAny w B 0 c P):all32 P=true:=by
 have:=h.len
 rw[List.length_eq_zero_iff.1 this]
 rfl
set_option maxHeartbeats 2000000 in
set_option maxRecDepth 100000 in
theorem Root_none{w:World}{B:Option Addr}{c:Nat}{P:List Rw}(h:PAny w B 0 c P)(ts:Sh.Tab w) :
  Calls Tryd.prog 11 #[.slice B 0 c] w (RootQ 0 [] w):=by
 have C1:=refused_ok (c:=c) (n:=0) h.lc (fun x hx=>by have:=(h.pcs x hx).2;omega) (by omega)
 rw[h.none32,if_pos rfl] at C1
 have C1:=Lib.hid C1
 have C3:=Lib.hid (fun(w2:World) (hb:Below w.heap.size w w2)=>show Calls Tryd.prog 39 #[.int .i64 0,.slice none 0 0] w2 (Ret32 (rootOf 0 []) w2) from sealed_any 0 (by omega) (nil_pc' w2) (by decide) (ts.below hb))
 clear h ts
 go_enter Tryd.func11,Tryd.ntmps11
 go_wp2_with (go_at_call 38;(with_reducible refine C1.out.mono ?_);rintro e w1 ⟨rfl,b1⟩;have D1:=Lib.hid b1;have C4:=Lib.hid (C3.out w1 b1);clear b1 C3)
 go_wp2_with (go_at_call 40;(with_reducible refine(top_none _ _ _).mono ?_);rintro e w2 ⟨rfl,rfl⟩)
 go_wp2_with (go_at_call 39;(with_reducible refine C4.out.mono ?_);rintro e w3 ⟨g3,rfl,p1,g1,b1⟩;have P3:=Lib.hid p1;have G3:=Lib.hid (Nat.le_trans D1.out.size g1);have D3:=Lib.hid (D1.out.trans (b1.mono D1.out.size));clear p1 g1 b1)
 go_ret2
 exact⟨g3,rfl,P3.out,G3.out,D3.out⟩
set_option maxHeartbeats 2000000 in
set_option maxRecDepth 100000 in
theorem RRoot_none{w:World}{B:Option Addr}{c:Nat}{P:List Rw}(h:PAny w B 0 c P) :
  Calls Tryd.prog 12 #[.slice B 0 c] w fun e w'=>∃A d,e=.returned (.tuple #[.slice A 32 d,.int .i64 0])∧Po w' (A,32,d,rootOf 0 [])∧Below w.heap.size w w':=by
 have OK:=Lib.hid (rok_any h 0 (by rw[h.none32];rfl))
 have RT:=Lib.hid ((show Calls Tryd.prog 29 #[.int .i64 0,.slice none 0 0] w (OwnB (2 :: (eight 0 ++ [])) w) from rroot_any 0 (by omega) (nil_pc' w) (by decide)).mono fun e w' h2=>OwnB.p h2 fun z hz=>by
  rcases List.mem_cons.1 hz with rfl|hz
  ·decide
  ·rcases List.mem_append.1 hz with h3|h3
   ·exact eight_lt 0 z h3
   ·simp at h3)
 have LT:=Lib.hid (show(2 :: (eight 0 ++ [])).length≤1048576 from by rw[List.length_cons,List.length_append,eight_len];decide)
 clear h
 unfold rootOf
 obtain⟨tx,htx⟩:∃z,z=2 :: (eight 0 ++ []):=⟨_,rfl⟩
 rw[←htx] at RT LT
 have HTX:=Lib.hid htx
 clear htx
 go_enter Tryd.func12,Tryd.ntmps12
 go_wp2_with (go_at_call 41;(with_reducible refine OK.out.mono ?_);rintro e w1 ⟨rfl,rfl⟩)
 refine(rtop_none _ _ _).mono ?_
 rintro e w1 ⟨rfl,rfl⟩
 go_wp2_with (first
  |(go_at_call 29;(with_reducible refine RT.out.mono ?_);rintro e w2 ⟨XA,tl,xc,rfl,hp,hb⟩;have HS:=Lib.hid (rhash_p hp.1 (by have h:=hp.1.len;change tl=_ at h;rw[h];exact LT.out));have B2:=Lib.hid hb;clear hp hb RT)
  |(go_at_call 36;(with_reducible refine HS.out.mono ?_);rintro e w3 ⟨DA,dl,dc,rfl,hp,hb⟩;have P3:=Lib.hid hp;have B3:=Lib.hid (B2.out.trans (hb.mono B2.out.size));clear hp hb HS))
 go_ret2
 have hdl:dl=32:=by have h:=P3.out.1.len;change dl=(Sh.dg false _).length at h;rw[dg32_len] at h;exact h
 subst hdl
 exact⟨DA,dc,rfl,by rw[←HTX.out];exact P3.out,B3.out⟩
end Go.Proofs.YtnnfpmebopgogaaDoor.Mk
