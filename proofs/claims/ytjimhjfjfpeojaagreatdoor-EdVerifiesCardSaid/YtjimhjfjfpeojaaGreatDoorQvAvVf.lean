/- Joined texts. -/
import Derived.Test.YtjimhjfjfpeojaaGreatDoorQvAvSg
set_option maxRecDepth 100000
set_option maxHeartbeats 8000000
set_option linter.unusedVariables false
namespace Go.Proofs.YtjimhjfjfpeojaaGreatDoor.Av
open Go.RowKit Go.Proofs.YtjimhjfjfpeojaaGreatDoor.Gn Go.Proofs.YtjimhjfjfpeojaaGreatDoor.Fd Go.Proofs.YtjimhjfjfpeojaaGreatDoor.Ed Go.Deep
theorem Zdm{A:Option Addr}{n c:Nat}{M:Option Addr}{k d:Nat}{S:Option Addr}{m cs:Nat}{w:World}(h:n≠32∨(n=32∧m≠64)):Calls Tryz.prog 36 #[.slice A n c,.slice M k d,.slice S m cs] w fun e w'=>e=.returned (.int .i64 1)∧w=w':=by
 rcases h with h|⟨rfl,h⟩
 ·have t1:((n:Int) != 32)=true:=by simp;omega
  clear h
  go_enter Tryz.func36,Tryz.ntmps36
  go_wp2_with fail
  go_ret
  exact⟨rfl,rfl⟩
 ·have t1:((m:Int) != 64)=true:=by simp;omega
  clear h
  go_enter Tryz.func36,Tryz.ntmps36
  go_wp2_with fail
  go_ret
  exact⟨rfl,rfl⟩
theorem Zhb{A:Option Addr}{c:Nat}{kl:List Nat}{M:Option Addr}{n cm:Nat}{S:Option Addr}{cs:Nat}{w:World}(tab:TabE w)(hk:Pc w (A,32,c,kl))(hn:n≤65536)(hd:dpt (le (low kl)) (kl.getD 31 0 / 128)=none) :
  Calls Tryz.prog 36 #[.slice A 32 c,.slice M n cm,.slice S 64 cs] w fun e w'=>e=.returned (.int .i64 41)∧Below w.heap.size w w':=by
 have hkl:kl.length=32:=hk.len.symm
 have t1:decide ((65536:Int) < (n:Int))=false:=decide_eq_false (by omega)
 have DC:=Z6p A c kl w tab (by have:kl.length≤c:=hk.cap;omega) hk.lt (by have:Sl w A kl.length (bl kl):=hk.row;rwa [hkl] at this)
 rw[hd] at DC
 replace DC:=Lib.hid (show Calls Tryz.prog 12 #[.slice A 32 c] w fun e w'=>e=.returned (.tuple #[.agg z20,.int .i64 40])∧Below w.heap.size w w' from DC)
 clear hkl hk hn hd tab
 go_enter Tryz.func36,Tryz.ntmps36
 go_upto_region 5 with(fail)
 refine wp_region_lit ?_
 refine Z00 (.slice A 32 c) rfl (by kernel_rfl) ?_
 refine Z06 12 #[.slice A 32 c] rfl (by kernel_rfl) (DC.out.mono ?_)
 rintro e W1 ⟨rfl,D1⟩
 refine⟨_,rfl,?_⟩
 refine Z00 (.tuple #[.agg z20,.int .i64 40]) rfl (by kernel_rfl) ?_
 refine Z00 (.agg z20) rfl (by kernel_rfl) ?_
 refine Z00 (.int .i64 40) rfl (by kernel_rfl) ?_
 refine Z1o (W1.alloc (.cells z20 28)) (.pointer (some ⟨W1.heap.size,0,none⟩)) rfl (by kernel_rfl) ?_
 have D3:=D1.alloc D1.size (.cells z20 28)
 have BN:=Bl.new_ W1 28 z20
 have hz:=D1.size
 obtain⟨q,hq⟩:∃q,W1.heap.size=q:=⟨_,rfl⟩
 rw[hq] at BN hz ⊢
 clear D1 hq
 refine Z0m q 28 z20 z20 BN 28 (.tmp 7) (.tmp 28) rfl rfl (by kernel_rfl) (by kernel_rfl) (KP.sz kz4 kz4) Z0e Z5r fun W4 C4 G4=>?_
 have D4:=Lib.hid (Z01 (g:=q) D3 G4 hz)
 clear D3 BN G4 C4
 refine Z00 (.int .i64 40) rfl (by kernel_rfl) ?_
 refine Z03 ?_
 simp only[Act.put,List.setIfInBounds_toArray,List.set_cons_zero,List.set_cons_succ]
 go_wp2_with fail
 go_ret
 exact⟨rfl,D4.out⟩
theorem Zhc{kl ml sl:List Nat}(h:kl.length≠32∨(kl.length=32∧sl.length≠64))(hk:∀x∈kl,x < 256)(hm:∀x∈ml,x < 256)(hs:∀x∈sl,x < 256)(w:World):FnAt Tryz.prog [] w 36 [byt true kl,byt true ml,byt true sl] (.lit (.int .i64 1)) :=
 ⟨fun _ _=>by kernel_rfl,fun O vs hO hkk hln hr=>by
  obtain⟨u,v,t,rfl,h1,h2,h3⟩:=Z55 hln hr
  obtain⟨A,n,c,rfl,hn1,hp,-⟩:=Z5k h1 hk
  obtain⟨M,k,d,rfl,hn2,hq,-⟩:=Z5k h2 hm
  obtain⟨S,m,cs,rfl,hn3,hr3,-⟩:=Z5k h3 hs
  exact(Zdm (by omega)).mono fun e w' ⟨h4,h5⟩=>⟨_,h4,rfl,by rw[h5];exact Below.refl _ _⟩⟩
theorem Zrp{kl ml sl:List Nat}(h32:kl.length=32)(h64:sl.length=64)(hn:ml.length≤65536)(hk:∀x∈kl,x < 256)(hm:∀x∈ml,x < 256)(hs:∀x∈sl,x < 256)(hd:dpt (le (low kl)) (kl.getD 31 0 / 128)=none)(w:World)(tab:TabE w):FnAt Tryz.prog [] w 36 [byt true kl,byt true ml,byt true sl] (.lit (.int .i64 41)) :=
 ⟨fun _ _=>by kernel_rfl,fun O vs hO hkk hln hr=>by
  obtain⟨u,v,t,rfl,h1,h2,h3⟩:=Z55 hln hr
  obtain⟨A,n,c,rfl,hn1,hp,-⟩:=Z5k h1 hk
  obtain⟨M,k,d,rfl,hn2,hq,-⟩:=Z5k h2 hm
  obtain⟨S,m,cs,rfl,hn3,hr3,-⟩:=Z5k h3 hs
  rw[h32] at hn1;rw[h64] at hn3;subst hn1 hn3
  exact(Zhb tab hp (by omega) hd).mono fun e w' ⟨h4,h5⟩=>⟨_,h4,rfl,h5⟩⟩
theorem Zrq{kl ml sl:List Nat}{p:KP}{g b:G}(h32:kl.length=32)(h64:sl.length=64)(hn:ml.length≤65536)(hk:∀x∈kl,x < 256)(hm:∀x∈ml,x < 256)(hs:∀x∈sl,x < 256)(hb:Hp Z40 b)(hd:dpt (le (low kl)) (kl.getD 31 0 / 128)=some p)(hg:Hp p g)(w:World)(tab:TabE w)(ts:Sh.Tab w)(tl:TabL w):FnAt Tryz.prog [] w 36 [byt true kl,byt true ml,byt true sl] (.lit (.int .i64 (vend kl ml sl g b))) :=
 ⟨fun _ _=>by kernel_rfl,fun O vs hO hkk hln hr=>by
  obtain⟨u,v,t,rfl,h1,h2,h3⟩:=Z55 hln hr
  obtain⟨A,n,c,rfl,hn1,hp,-⟩:=Z5k h1 hk
  obtain⟨M,k,d,rfl,hn2,hq,-⟩:=Z5k h2 hm
  obtain⟨S,m,cs,rfl,hn3,hr3,-⟩:=Z5k h3 hs
  rw[h32] at hn1;rw[h64] at hn3;subst hn1 hn3
  exact(Zh1 tab ts tl hp hq hr3 (by omega) hb hd hg).mono fun e w' ⟨h4,h5⟩=>⟨_,h4,rfl,h5⟩⟩
theorem Zkt{a b:Int}(h:a=b):DV.le (.lit (.int .i64 a)) (.lit (.int .i64 b)):=h▸le_refl _
theorem Zo0{kl ml sl:List Nat}(hk:∀x∈kl,x < 256)(hm:∀x∈ml,x < 256)(hs:∀x∈sl,x < 256)(h:kl.length≠32)(w:World):FnAt Tryz.prog [.u64] w 37 [byt true kl,byt true ml,byt true sl] (.lit (.int .i64 1)):=by
 refine FnAt.of Tryz.f37 _ _ Tryz.func37 Tryz.ntmps37 rfl (by kernel_rfl) (fun _ _=>by kernel_rfl) fun O=>?_
 show PW _ _ _ ⟨[(0,.c (.dv _)),(1,.c (.dv _)),(2,.c (.dv _))],[]⟩
 refine(PW.seq ?_:PW _ _ _ _)
 refine(PW.region ?_:PW _ _ _ _)
 refine PL.mu rfl rfl rfl rfl rfl ?_
 refine PL.nil ?_
 refine(PW.seq ?_:PW _ _ _ _)
 refine(PW.seq ?_:PW _ _ _ _)
 refine(PW.region ?_:PW _ _ _ _)
 refine PL.mv rfl rfl rfl rfl rfl ?_
 refine PL.step rfl rfl rfl (PS.len (n:=kl.length) rfl rfl Tryz.underlying22 (by decide) (by simp[bl])) ?_
 refine PL.step rfl rfl rfl (PS.eq (y:=Bo true) (PS.neq rfl rfl rfl) (congrArg Bo (by simp;omega))) ?_
 refine PL.mv rfl rfl rfl rfl rfl ?_
 refine PL.stepP rfl rfl rfl (by decide) rfl rfl ?_
 refine PL.stepP rfl rfl rfl (by decide) rfl rfl ?_
 refine PL.stepP rfl rfl rfl (by decide) rfl rfl ?_
 refine PL.pT rfl rfl rfl rfl rfl rfl ?_
 refine PL.nil ?_
 show PW _ _ _ _
 refine PW.cond (b:=true) (by rfl) (fun _=>?_) (fun h=>nomatch h)
 refine(PW.seq ?_:PW _ _ _ _)
 refine(PW.region ?_:PW _ _ _ _)
 refine PL.mu rfl rfl rfl rfl rfl ?_
 refine PL.nil ?_
 refine(PW.ret ?_:PW _ _ _ _)
 exact Rt.as (Rt.one Tryz.results37 rfl) (le_refl _)
theorem Zhd{kl ml sl:List Nat}(hk:∀x∈kl,x < 256)(hm:∀x∈ml,x < 256)(hs:∀x∈sl,x < 256)(h:kl.length=32)(h2:sl.length≠64)(w:World):FnAt Tryz.prog [.u64] w 37 [byt true kl,byt true ml,byt true sl] (.lit (.int .i64 1)):=by
 refine FnAt.of Tryz.f37 _ _ Tryz.func37 Tryz.ntmps37 rfl (by kernel_rfl) (fun _ _=>by kernel_rfl) fun O=>?_
 show PW _ _ _ ⟨[(0,.c (.dv _)),(1,.c (.dv _)),(2,.c (.dv _))],[]⟩
 refine(PW.seq ?_:PW _ _ _ _)
 refine(PW.region ?_:PW _ _ _ _)
 refine PL.mu rfl rfl rfl rfl rfl ?_
 refine PL.nil ?_
 refine(PW.seq ?_:PW _ _ _ _)
 refine(PW.seq ?_:PW _ _ _ _)
 refine(PW.region ?_:PW _ _ _ _)
 refine PL.mv rfl rfl rfl rfl rfl ?_
 refine PL.step rfl rfl rfl (PS.len (n:=kl.length) rfl rfl Tryz.underlying22 (by decide) (by simp[bl])) ?_
 refine PL.step rfl rfl rfl (PS.eq (y:=Bo false) (PS.neq rfl rfl rfl) (congrArg Bo (by simp;omega))) ?_
 refine PL.mv rfl rfl rfl rfl rfl ?_
 refine PL.stepW rfl rfl rfl rfl rfl (PS.moved (r:=.c _) rfl rfl) ?_
 refine PL.stepW rfl rfl rfl rfl rfl (PS.len (n:=sl.length) rfl rfl Tryz.underlying22 (by decide) (by simp[bl])) ?_
 refine PL.stepW rfl rfl rfl rfl rfl (PS.eq (y:=Bo true) (PS.neq rfl rfl rfl) (congrArg Bo (by simp;omega))) ?_
 refine PL.pF rfl rfl rfl rfl rfl rfl ?_
 refine PL.nil ?_
 show PW _ _ _ _
 refine PW.cond (b:=true) (by rfl) (fun _=>?_) (fun h=>nomatch h)
 refine(PW.seq ?_:PW _ _ _ _)
 refine(PW.region ?_:PW _ _ _ _)
 refine PL.mu rfl rfl rfl rfl rfl ?_
 refine PL.nil ?_
 refine(PW.ret ?_:PW _ _ _ _)
 exact Rt.as (Rt.one Tryz.results37 rfl) (le_refl _)
theorem Zrr{kl ml sl:List Nat}(hk:∀x∈kl,x < 256)(hm:∀x∈ml,x < 256)(hs:∀x∈sl,x < 256)(h:kl.length=32)(h2:sl.length=64)(hn:ml.length≤65536)(hd:decO kl=none)(w:World):FnAt Tryz.prog [.u64] w 37 [byt true kl,byt true ml,byt true sl] (.lit (.int .i64 41)):=by
 refine FnAt.of Tryz.f37 _ _ Tryz.func37 Tryz.ntmps37 rfl (by kernel_rfl) (fun _ _=>by kernel_rfl) fun O=>?_
 show PW _ _ _ ⟨[(0,.c (.dv _)),(1,.c (.dv _)),(2,.c (.dv _))],[]⟩
 refine(PW.seq ?_:PW _ _ _ _)
 refine(PW.region ?_:PW _ _ _ _)
 refine PL.mu rfl rfl rfl rfl rfl ?_
 refine PL.nil ?_
 refine(PW.seq ?_:PW _ _ _ _)
 refine(PW.seq ?_:PW _ _ _ _)
 refine(PW.region ?_:PW _ _ _ _)
 refine PL.mv rfl rfl rfl rfl rfl ?_
 refine PL.step rfl rfl rfl (PS.len (n:=kl.length) rfl rfl Tryz.underlying22 (by decide) (by simp[bl])) ?_
 refine PL.step rfl rfl rfl (PS.eq (y:=Bo false) (PS.neq rfl rfl rfl) (congrArg Bo (by simp;omega))) ?_
 refine PL.mv rfl rfl rfl rfl rfl ?_
 refine PL.stepW rfl rfl rfl rfl rfl (PS.moved (r:=.c _) rfl rfl) ?_
 refine PL.stepW rfl rfl rfl rfl rfl (PS.len (n:=sl.length) rfl rfl Tryz.underlying22 (by decide) (by simp[bl])) ?_
 refine PL.stepW rfl rfl rfl rfl rfl (PS.eq (y:=Bo false) (PS.neq rfl rfl rfl) (congrArg Bo (by simp;omega))) ?_
 refine PL.pF rfl rfl rfl rfl rfl rfl ?_
 refine PL.nil ?_
 show PW _ _ _ _
 refine PW.cond (b:=false) (by rfl) (fun h=>nomatch h) (fun _=>?_)
 refine(PW.skip ?_:PW _ _ _ _)
 refine(PW.seq ?_:PW _ _ _ _)
 refine(PW.seq ?_:PW _ _ _ _)
 refine(PW.region ?_:PW _ _ _ _)
 refine PL.mv rfl rfl rfl rfl rfl ?_
 refine PL.step rfl rfl rfl (PS.len (n:=ml.length) rfl rfl Tryz.underlying22 (by decide) (by simp[bl])) ?_
 refine PL.step rfl rfl rfl (PS.decF (PS.gtr rfl rfl rfl) (by omega)) ?_
 refine PL.nil ?_
 show PW _ _ _ _
 refine PW.cond (b:=false) (by rfl) (fun h=>nomatch h) (fun _=>?_)
 refine(PW.skip ?_:PW _ _ _ _)
 refine(PW.seq ?_:PW _ _ _ _)
 refine(PW.region ?_:PW _ _ _ _)
 refine PL.mv rfl rfl rfl rfl rfl ?_
 refine PL.call (xs:=[_]) rfl rfl rfl rfl rfl rfl rfl (fun w hw=>FnAt.to (Z8g hk w) (Z6q (show ofT (decO kl)=.tup [pt 0 0 0,.lit (.bool false)] by rw[hd];rfl))) ?_
 refine PL.mv rfl rfl rfl rfl rfl ?_
 refine PL.step rfl rfl rfl (PS.ext rfl rfl rfl) ?_
 refine PL.step rfl rfl rfl (PS.ext rfl rfl rfl) ?_
 refine PL.full rfl (Fa.alloc 1 (z:=(.agg #[.slice none 0 0,.slice none 0 0,.slice none 0 0])) rfl (by kernel_rfl) (by kernel_rfl) rfl rfl ?_)
 refine PL.full rfl (Fa.storeR rfl rfl rfl rfl rfl rfl (by kernel_rfl) rfl ?_)
 refine PL.mu rfl rfl rfl rfl rfl ?_
 refine PL.nil ?_
 refine(PW.seq ?_:PW _ _ _ _)
 refine(PW.seq ?_:PW _ _ _ _)
 refine(PW.region ?_:PW _ _ _ _)
 refine PL.mv rfl rfl rfl rfl rfl ?_
 refine PL.step rfl rfl rfl (PS.eq (y:=Bo true) (PS.not rfl rfl) rfl) ?_
 refine PL.nil ?_
 show PW _ _ _ _
 refine PW.cond (b:=true) (by rfl) (fun _=>?_) (fun h=>nomatch h)
 refine(PW.seq ?_:PW _ _ _ _)
 refine(PW.region ?_:PW _ _ _ _)
 refine PL.mu rfl rfl rfl rfl rfl ?_
 refine PL.nil ?_
 refine(PW.ret ?_:PW _ _ _ _)
 exact Rt.as (Rt.one Tryz.results37 rfl) (le_refl _)
theorem Zb8{l:List Nat}(h:∀x∈l,x < 256)(n:Nat):∀x∈l.drop n,x < 256:=fun x hx=>h x (List.mem_of_mem_drop hx)
theorem Zhe{l:List Nat}(h:∀x∈l,x < 256)(n:Nat):∀x∈l.take n,x < 256:=fun x hx=>h x (List.mem_of_mem_take hx)
theorem Zo1{kl ml sl:List Nat}(hk:∀x∈kl,x < 256)(hm:∀x∈ml,x < 256)(hs:∀x∈sl,x < 256)(h:kl.length=32)(h2:sl.length=64)(hn:ml.length≤65536){t:T3}(hd:decO kl=some t)(hok:t.ok)(hz:Z2j (sl.drop 32)≠0)(w:World):FnAt Tryz.prog [.u64] w 37 [byt true kl,byt true ml,byt true sl] (.lit (.int .i64 42)):=by
 refine FnAt.of Tryz.f37 _ _ Tryz.func37 Tryz.ntmps37 rfl (by kernel_rfl) (fun _ _=>by kernel_rfl) fun O=>?_
 show PW _ _ _ ⟨[(0,.c (.dv _)),(1,.c (.dv _)),(2,.c (.dv _))],[]⟩
 refine(PW.seq ?_:PW _ _ _ _)
 refine(PW.region ?_:PW _ _ _ _)
 refine PL.mu rfl rfl rfl rfl rfl ?_
 refine PL.nil ?_
 refine(PW.seq ?_:PW _ _ _ _)
 refine(PW.seq ?_:PW _ _ _ _)
 refine(PW.region ?_:PW _ _ _ _)
 refine PL.mv rfl rfl rfl rfl rfl ?_
 refine PL.step rfl rfl rfl (PS.len (n:=kl.length) rfl rfl Tryz.underlying22 (by decide) (by simp[bl])) ?_
 refine PL.step rfl rfl rfl (PS.eq (y:=Bo false) (PS.neq rfl rfl rfl) (congrArg Bo (by simp;omega))) ?_
 refine PL.mv rfl rfl rfl rfl rfl ?_
 refine PL.stepW rfl rfl rfl rfl rfl (PS.moved (r:=.c _) rfl rfl) ?_
 refine PL.stepW rfl rfl rfl rfl rfl (PS.len (n:=sl.length) rfl rfl Tryz.underlying22 (by decide) (by simp[bl])) ?_
 refine PL.stepW rfl rfl rfl rfl rfl (PS.eq (y:=Bo false) (PS.neq rfl rfl rfl) (congrArg Bo (by simp;omega))) ?_
 refine PL.pF rfl rfl rfl rfl rfl rfl ?_
 refine PL.nil ?_
 show PW _ _ _ _
 refine PW.cond (b:=false) (by rfl) (fun h=>nomatch h) (fun _=>?_)
 refine(PW.skip ?_:PW _ _ _ _)
 refine(PW.seq ?_:PW _ _ _ _)
 refine(PW.seq ?_:PW _ _ _ _)
 refine(PW.region ?_:PW _ _ _ _)
 refine PL.mv rfl rfl rfl rfl rfl ?_
 refine PL.step rfl rfl rfl (PS.len (n:=ml.length) rfl rfl Tryz.underlying22 (by decide) (by simp[bl])) ?_
 refine PL.step rfl rfl rfl (PS.decF (PS.gtr rfl rfl rfl) (by omega)) ?_
 refine PL.nil ?_
 show PW _ _ _ _
 refine PW.cond (b:=false) (by rfl) (fun h=>nomatch h) (fun _=>?_)
 refine(PW.skip ?_:PW _ _ _ _)
 refine(PW.seq ?_:PW _ _ _ _)
 refine(PW.region ?_:PW _ _ _ _)
 refine PL.mv rfl rfl rfl rfl rfl ?_
 refine PL.call (xs:=[_]) rfl rfl rfl rfl rfl rfl rfl (fun w hw=>FnAt.to (Z8g hk w) (Z6q (show ofT (decO kl)=.tup [pt t.x t.y t.z,.lit (.bool true)] by rw[hd];rfl))) ?_
 refine PL.mv rfl rfl rfl rfl rfl ?_
 refine PL.step rfl rfl rfl (PS.ext rfl rfl rfl) ?_
 refine PL.step rfl rfl rfl (PS.ext rfl rfl rfl) ?_
 refine PL.full rfl (Fa.alloc 1 (z:=(.agg #[.slice none 0 0,.slice none 0 0,.slice none 0 0])) rfl (by kernel_rfl) (by kernel_rfl) rfl rfl ?_)
 refine PL.full rfl (Fa.storeR rfl rfl rfl rfl rfl rfl (by kernel_rfl) rfl ?_)
 refine PL.mu rfl rfl rfl rfl rfl ?_
 refine PL.nil ?_
 refine(PW.seq ?_:PW _ _ _ _)
 refine(PW.seq ?_:PW _ _ _ _)
 refine(PW.region ?_:PW _ _ _ _)
 refine PL.mv rfl rfl rfl rfl rfl ?_
 refine PL.step rfl rfl rfl (PS.eq (y:=Bo false) (PS.not rfl rfl) rfl) ?_
 refine PL.nil ?_
 show PW _ _ _ _
 refine PW.cond (b:=false) (by rfl) (fun h=>nomatch h) (fun _=>?_)
 refine(PW.skip ?_:PW _ _ _ _)
 refine(PW.seq ?_:PW _ _ _ _)
 refine(PW.seq ?_:PW _ _ _ _)
 refine(PW.region ?_:PW _ _ _ _)
 refine PL.mv rfl rfl rfl rfl rfl ?_
 refine PL.step rfl rfl rfl (PS.slice (lo:=32) (hi:=64) (kl:=.i64) (kh:=.i64) ((bl (sl.drop 32)).map .lit) rfl rfl (.inr ⟨_,rfl,rfl⟩) (.inl ⟨rfl,by simp[bl,h2]⟩) Tryz.underlying22 (by kernel_rfl) (by decide) (by decide) (by simp[bl,h2]) (by rw[List.take_of_length_le (by simp[bl,h2]),Nat.mul_one,Z0z])) ?_
 refine PL.call (xs:=[_]) rfl rfl rfl rfl rfl rfl rfl (fun w hw=>Zh9 (l:=sl.drop 32) (Zb8 hs 32) (by simp;omega) w) ?_
 refine PL.step rfl rfl rfl (PS.eq (y:=Bo true) (PS.neq rfl rfl rfl) (congrArg Bo (by simp[hz]))) ?_
 refine PL.nil ?_
 show PW _ _ _ _
 refine PW.cond (b:=true) (by rfl) (fun _=>?_) (fun h=>nomatch h)
 refine(PW.seq ?_:PW _ _ _ _)
 refine(PW.region ?_:PW _ _ _ _)
 refine PL.mu rfl rfl rfl rfl rfl ?_
 refine PL.nil ?_
 refine(PW.ret ?_:PW _ _ _ _)
 exact Rt.as (Rt.one Tryz.results37 rfl) (le_refl _)
theorem Zo2{kl ml sl:List Nat}(hk:∀x∈kl,x < 256)(hm:∀x∈ml,x < 256)(hs:∀x∈sl,x < 256)(h:kl.length=32)(h2:sl.length=64)(hn:ml.length≤65536){t:T3}(hd:decO kl=some t)(hok:t.ok)(hz:Z2j (sl.drop 32)=0){Q:G}{X:T3}(hX:X.ok)(hT:∀w,FnAt Tryz.prog [.u64] w 30 [byt true (scb (sl.take 32 ++ (kl ++ ml))),T3.dv ⟨(0+(pp - t.x))%pp,t.y,t.z⟩,byt true (sl.drop 32),Zgn.dv] X.dv)(hE:encL X=by_ (gb Q) 32)(w:World):FnAt Tryz.prog [.u64] w 37 [byt true kl,byt true ml,byt true sl] (.lit (.int .i64 (if by_ (gb Q) 32=sl.take 32 then 0 else 42))):=by
 refine FnAt.of Tryz.f37 _ _ Tryz.func37 Tryz.ntmps37 rfl (by kernel_rfl) (fun _ _=>by kernel_rfl) fun O=>?_
 show PW _ _ _ ⟨[(0,.c (.dv _)),(1,.c (.dv _)),(2,.c (.dv _))],[]⟩
 refine(PW.seq ?_:PW _ _ _ _)
 refine(PW.region ?_:PW _ _ _ _)
 refine PL.mu rfl rfl rfl rfl rfl ?_
 refine PL.nil ?_
 refine(PW.seq ?_:PW _ _ _ _)
 refine(PW.seq ?_:PW _ _ _ _)
 refine(PW.region ?_:PW _ _ _ _)
 refine PL.mv rfl rfl rfl rfl rfl ?_
 refine PL.step rfl rfl rfl (PS.len (n:=kl.length) rfl rfl Tryz.underlying22 (by decide) (by simp[bl])) ?_
 refine PL.step rfl rfl rfl (PS.eq (y:=Bo false) (PS.neq rfl rfl rfl) (congrArg Bo (by simp;omega))) ?_
 refine PL.mv rfl rfl rfl rfl rfl ?_
 refine PL.stepW rfl rfl rfl rfl rfl (PS.moved (r:=.c _) rfl rfl) ?_
 refine PL.stepW rfl rfl rfl rfl rfl (PS.len (n:=sl.length) rfl rfl Tryz.underlying22 (by decide) (by simp[bl])) ?_
 refine PL.stepW rfl rfl rfl rfl rfl (PS.eq (y:=Bo false) (PS.neq rfl rfl rfl) (congrArg Bo (by simp;omega))) ?_
 refine PL.pF rfl rfl rfl rfl rfl rfl ?_
 refine PL.nil ?_
 show PW _ _ _ _
 refine PW.cond (b:=false) (by rfl) (fun h=>nomatch h) (fun _=>?_)
 refine(PW.skip ?_:PW _ _ _ _)
 refine(PW.seq ?_:PW _ _ _ _)
 refine(PW.seq ?_:PW _ _ _ _)
 refine(PW.region ?_:PW _ _ _ _)
 refine PL.mv rfl rfl rfl rfl rfl ?_
 refine PL.step rfl rfl rfl (PS.len (n:=ml.length) rfl rfl Tryz.underlying22 (by decide) (by simp[bl])) ?_
 refine PL.step rfl rfl rfl (PS.decF (PS.gtr rfl rfl rfl) (by omega)) ?_
 refine PL.nil ?_
 show PW _ _ _ _
 refine PW.cond (b:=false) (by rfl) (fun h=>nomatch h) (fun _=>?_)
 refine(PW.skip ?_:PW _ _ _ _)
 refine(PW.seq ?_:PW _ _ _ _)
 refine(PW.region ?_:PW _ _ _ _)
 refine PL.mv rfl rfl rfl rfl rfl ?_
 refine PL.call (xs:=[_]) rfl rfl rfl rfl rfl rfl rfl (fun w hw=>FnAt.to (Z8g hk w) (Z6q (show ofT (decO kl)=.tup [pt t.x t.y t.z,.lit (.bool true)] by rw[hd];rfl))) ?_
 refine PL.mv rfl rfl rfl rfl rfl ?_
 refine PL.step rfl rfl rfl (PS.ext rfl rfl rfl) ?_
 refine PL.step rfl rfl rfl (PS.ext rfl rfl rfl) ?_
 refine PL.full rfl (Fa.alloc 1 (z:=(.agg #[.slice none 0 0,.slice none 0 0,.slice none 0 0])) rfl (by kernel_rfl) (by kernel_rfl) rfl rfl ?_)
 refine PL.full rfl (Fa.storeR rfl rfl rfl rfl rfl rfl (by kernel_rfl) rfl ?_)
 refine PL.mu rfl rfl rfl rfl rfl ?_
 refine PL.nil ?_
 refine(PW.seq ?_:PW _ _ _ _)
 refine(PW.seq ?_:PW _ _ _ _)
 refine(PW.region ?_:PW _ _ _ _)
 refine PL.mv rfl rfl rfl rfl rfl ?_
 refine PL.step rfl rfl rfl (PS.eq (y:=Bo false) (PS.not rfl rfl) rfl) ?_
 refine PL.nil ?_
 show PW _ _ _ _
 refine PW.cond (b:=false) (by rfl) (fun h=>nomatch h) (fun _=>?_)
 refine(PW.skip ?_:PW _ _ _ _)
 refine(PW.seq ?_:PW _ _ _ _)
 refine(PW.seq ?_:PW _ _ _ _)
 refine(PW.region ?_:PW _ _ _ _)
 refine PL.mv rfl rfl rfl rfl rfl ?_
 refine PL.step rfl rfl rfl (PS.slice (lo:=32) (hi:=64) (kl:=.i64) (kh:=.i64) ((bl (sl.drop 32)).map .lit) rfl rfl (.inr ⟨_,rfl,rfl⟩) (.inl ⟨rfl,by simp[bl,h2]⟩) Tryz.underlying22 (by kernel_rfl) (by decide) (by decide) (by simp[bl,h2]) (by rw[List.take_of_length_le (by simp[bl,h2]),Nat.mul_one,Z0z])) ?_
 refine PL.call (xs:=[_]) rfl rfl rfl rfl rfl rfl rfl (fun w hw=>Zh9 (l:=sl.drop 32) (Zb8 hs 32) (by simp;omega) w) ?_
 refine PL.step rfl rfl rfl (PS.eq (y:=Bo false) (PS.neq rfl rfl rfl) (congrArg Bo (by simp[hz]))) ?_
 refine PL.nil ?_
 show PW _ _ _ _
 refine PW.cond (b:=false) (by rfl) (fun h=>nomatch h) (fun _=>?_)
 refine(PW.skip ?_:PW _ _ _ _)
 refine(PW.seq ?_:PW _ _ _ _)
 refine(PW.region ?_:PW _ _ _ _)
 refine PL.mv rfl rfl rfl rfl rfl ?_
 refine PL.step rfl rfl rfl (PS.slice (lo:=0) (hi:=32) (kl:=.i64) (kh:=.i64) ((bl (sl.take 32)).map .lit) rfl rfl (.inl ⟨rfl,rfl⟩) (.inr ⟨_,rfl,rfl⟩) Tryz.underlying22 (by kernel_rfl) (by decide) (by decide) (by simp[bl,h2]) (by rw[Nat.mul_one,List.drop_zero,Zbg])) ?_
 refine PL.mv rfl rfl rfl rfl rfl ?_
 refine PL.mv rfl rfl rfl rfl rfl ?_
 refine PL.call (xs:=[_,_,_]) rfl rfl rfl rfl rfl rfl rfl (fun w hw=>(FnAt.to (Zro (a:=sl.take 32) (b:=kl) (c:=ml) (by simp;omega) (by omega) (by omega) w) (Z6q (show byt true (sl.take 32 ++ kl ++ ml)=byt true (sl.take 32 ++ (kl ++ ml)) by rw[List.append_assoc])))) ?_
 refine PL.call (xs:=[_]) rfl rfl rfl rfl rfl rfl rfl (fun w hw=>Zjl (Zks (Zhe hs 32) (Zks hk hm)) (by simp;omega) w) ?_
 refine PL.mu rfl rfl rfl rfl rfl ?_
 refine PL.nil ?_
 refine(PW.cut (fun σm=>σm=⟨[(10,.c (.ptr 21 0)),(2,.c (.dv (byt true sl)))],[(21,.var 34 [.dv (num X.x),.dv (num X.y),.dv (num X.z)])]⟩) ?_ ?_:PW _ _ _ _)
 ·skip
  refine(PW.orders (by kernel_rfl) ?_:PW _ _ _ _)
  refine PO.take 0 rfl (by kernel_rfl) (by kernel_rfl) (by kernel_rfl) rfl rfl rfl (PU.moved (r:=.c _) rfl rfl) ?_
  refine PO.take 3 rfl (by kernel_rfl) (by kernel_rfl) (by kernel_rfl) rfl rfl rfl (PU.moved (r:=.c _) rfl rfl) ?_
  refine PO.at_ 1 [4,7] (by kernel_rfl) ?_
  refine allO.cons _ rfl rfl ?_ ?_
  ·refine GF.step rfl rfl rfl (PS.loadR (xs:=[_,_,_]) rfl rfl rfl rfl Tryz.underlying34 rfl (by kernel_rfl)) ?_
   refine PO.at_ 2 [4,7] (by kernel_rfl) ?_
   refine allO.cons _ rfl rfl ?_ ?_
   ·refine GF.step rfl rfl rfl (PS.call (xs:=[_]) rfl rfl rfl rfl (fun w hw=>Z6r (x:=t.x) (y:=t.y) (z:=t.z) hok.x w)) ?_
    refine PO.at_ 4 [5,7] (by kernel_rfl) ?_
    refine allO.cons _ rfl rfl ?_ ?_
    ·refine GF.step rfl rfl rfl (PS.slice (lo:=32) (hi:=64) (kl:=.i64) (kh:=.i64) ((bl (sl.drop 32)).map .lit) rfl rfl (.inr ⟨_,rfl,rfl⟩) (.inl ⟨rfl,by simp[bl,h2]⟩) Tryz.underlying22 (by kernel_rfl) (by decide) (by decide) (by simp[bl,h2]) (by rw[List.take_of_length_le (by simp[bl,h2]),Nat.mul_one,Z0z])) ?_
     refine PO.at_ 5 [7] (by kernel_rfl) ?_
     refine allO.cons _ rfl rfl ?_ ?_
     ·refine GF.step rfl rfl rfl (PS.call (xs:=[]) rfl rfl rfl rfl (fun w hw=>Z1m w)) ?_
      refine PO.at_ 6 [7] (by kernel_rfl) ?_
      refine allO.cons _ rfl rfl ?_ ?_
      ·refine GF.step rfl rfl rfl (PS.call (xs:=[_,_,_,_]) rfl rfl rfl rfl (fun w hw=>hT w)) ?_
       refine PO.at_ 7 [] (by kernel_rfl) ?_
       refine allO.cons _ rfl rfl ?_ ?_
       ·refine GF.full rfl (Fa.alloc 21 (z:=(.agg #[.slice none 0 0,.slice none 0 0,.slice none 0 0])) rfl (by kernel_rfl) (by kernel_rfl) rfl rfl ?_)
        refine PO.at_ 8 [] (by kernel_rfl) ?_
        refine allO.cons _ rfl rfl ?_ ?_
        ·refine GF.full rfl (Fa.storeR rfl rfl rfl rfl rfl rfl (by kernel_rfl) rfl ?_)
         refine PO.end_ (by kernel_rfl) ?_
         exact⟨id,_,rfl,⟨by refine⟨.inr rfl,.inr rfl,trivial⟩,by refine⟨.inr rfl,trivial⟩,by kernel_rfl⟩⟩
        exact trivial
       exact trivial
      refine allO.cons _ rfl rfl ?_ ?_
      ·refine GF.full rfl (Fa.alloc 21 (z:=(.agg #[.slice none 0 0,.slice none 0 0,.slice none 0 0])) rfl (by kernel_rfl) (by kernel_rfl) rfl rfl ?_)
       refine PO.at_ 6 [] (by kernel_rfl) ?_
       refine allO.cons _ rfl rfl ?_ ?_
       ·refine GF.step rfl rfl rfl (PS.call (xs:=[_,_,_,_]) rfl rfl rfl rfl (fun w hw=>hT w)) ?_
        refine PO.at_ 8 [] (by kernel_rfl) ?_
        refine allO.cons _ rfl rfl ?_ ?_
        ·refine GF.full rfl (Fa.storeR rfl rfl rfl rfl rfl rfl (by kernel_rfl) rfl ?_)
         refine PO.end_ (by kernel_rfl) ?_
         exact⟨id,_,rfl,⟨by refine⟨.inr rfl,.inr rfl,trivial⟩,by refine⟨.inr rfl,trivial⟩,by kernel_rfl⟩⟩
        exact trivial
       exact trivial
      exact trivial
     refine allO.cons _ rfl rfl ?_ ?_
     ·refine GF.full rfl (Fa.alloc 21 (z:=(.agg #[.slice none 0 0,.slice none 0 0,.slice none 0 0])) rfl (by kernel_rfl) (by kernel_rfl) rfl rfl ?_)
      refine PO.at_ 5 [] (by kernel_rfl) ?_
      refine allO.cons _ rfl rfl ?_ ?_
      ·refine GF.step rfl rfl rfl (PS.call (xs:=[]) rfl rfl rfl rfl (fun w hw=>Z1m w)) ?_
       refine PO.at_ 6 [] (by kernel_rfl) ?_
       refine allO.cons _ rfl rfl ?_ ?_
       ·refine GF.step rfl rfl rfl (PS.call (xs:=[_,_,_,_]) rfl rfl rfl rfl (fun w hw=>hT w)) ?_
        refine PO.at_ 8 [] (by kernel_rfl) ?_
        refine allO.cons _ rfl rfl ?_ ?_
        ·refine GF.full rfl (Fa.storeR rfl rfl rfl rfl rfl rfl (by kernel_rfl) rfl ?_)
         refine PO.end_ (by kernel_rfl) ?_
         exact⟨id,_,rfl,⟨by refine⟨.inr rfl,.inr rfl,trivial⟩,by refine⟨.inr rfl,trivial⟩,by kernel_rfl⟩⟩
        exact trivial
       exact trivial
      exact trivial
     exact trivial
    refine allO.cons _ rfl rfl ?_ ?_
    ·refine GF.step rfl rfl rfl (PS.call (xs:=[]) rfl rfl rfl rfl (fun w hw=>Z1m w)) ?_
     refine PO.at_ 4 [7] (by kernel_rfl) ?_
     refine allO.cons _ rfl rfl ?_ ?_
     ·refine GF.step rfl rfl rfl (PS.slice (lo:=32) (hi:=64) (kl:=.i64) (kh:=.i64) ((bl (sl.drop 32)).map .lit) rfl rfl (.inr ⟨_,rfl,rfl⟩) (.inl ⟨rfl,by simp[bl,h2]⟩) Tryz.underlying22 (by kernel_rfl) (by decide) (by decide) (by simp[bl,h2]) (by rw[List.take_of_length_le (by simp[bl,h2]),Nat.mul_one,Z0z])) ?_
      refine PO.at_ 6 [7] (by kernel_rfl) ?_
      refine allO.cons _ rfl rfl ?_ ?_
      ·refine GF.step rfl rfl rfl (PS.call (xs:=[_,_,_,_]) rfl rfl rfl rfl (fun w hw=>hT w)) ?_
       refine PO.at_ 7 [] (by kernel_rfl) ?_
       refine allO.cons _ rfl rfl ?_ ?_
       ·refine GF.full rfl (Fa.alloc 21 (z:=(.agg #[.slice none 0 0,.slice none 0 0,.slice none 0 0])) rfl (by kernel_rfl) (by kernel_rfl) rfl rfl ?_)
        refine PO.at_ 8 [] (by kernel_rfl) ?_
        refine allO.cons _ rfl rfl ?_ ?_
        ·refine GF.full rfl (Fa.storeR rfl rfl rfl rfl rfl rfl (by kernel_rfl) rfl ?_)
         refine PO.end_ (by kernel_rfl) ?_
         exact⟨id,_,rfl,⟨by refine⟨.inr rfl,.inr rfl,trivial⟩,by refine⟨.inr rfl,trivial⟩,by kernel_rfl⟩⟩
        exact trivial
       exact trivial
      refine allO.cons _ rfl rfl ?_ ?_
      ·refine GF.full rfl (Fa.alloc 21 (z:=(.agg #[.slice none 0 0,.slice none 0 0,.slice none 0 0])) rfl (by kernel_rfl) (by kernel_rfl) rfl rfl ?_)
       refine PO.at_ 6 [] (by kernel_rfl) ?_
       refine allO.cons _ rfl rfl ?_ ?_
       ·refine GF.step rfl rfl rfl (PS.call (xs:=[_,_,_,_]) rfl rfl rfl rfl (fun w hw=>hT w)) ?_
        refine PO.at_ 8 [] (by kernel_rfl) ?_
        refine allO.cons _ rfl rfl ?_ ?_
        ·refine GF.full rfl (Fa.storeR rfl rfl rfl rfl rfl rfl (by kernel_rfl) rfl ?_)
         refine PO.end_ (by kernel_rfl) ?_
         exact⟨id,_,rfl,⟨by refine⟨.inr rfl,.inr rfl,trivial⟩,by refine⟨.inr rfl,trivial⟩,by kernel_rfl⟩⟩
        exact trivial
       exact trivial
      exact trivial
     refine allO.cons _ rfl rfl ?_ ?_
     ·refine GF.full rfl (Fa.alloc 21 (z:=(.agg #[.slice none 0 0,.slice none 0 0,.slice none 0 0])) rfl (by kernel_rfl) (by kernel_rfl) rfl rfl ?_)
      refine PO.at_ 4 [] (by kernel_rfl) ?_
      refine allO.cons _ rfl rfl ?_ ?_
      ·refine GF.step rfl rfl rfl (PS.slice (lo:=32) (hi:=64) (kl:=.i64) (kh:=.i64) ((bl (sl.drop 32)).map .lit) rfl rfl (.inr ⟨_,rfl,rfl⟩) (.inl ⟨rfl,by simp[bl,h2]⟩) Tryz.underlying22 (by kernel_rfl) (by decide) (by decide) (by simp[bl,h2]) (by rw[List.take_of_length_le (by simp[bl,h2]),Nat.mul_one,Z0z])) ?_
       refine PO.at_ 6 [] (by kernel_rfl) ?_
       refine allO.cons _ rfl rfl ?_ ?_
       ·refine GF.step rfl rfl rfl (PS.call (xs:=[_,_,_,_]) rfl rfl rfl rfl (fun w hw=>hT w)) ?_
        refine PO.at_ 8 [] (by kernel_rfl) ?_
        refine allO.cons _ rfl rfl ?_ ?_
        ·refine GF.full rfl (Fa.storeR rfl rfl rfl rfl rfl rfl (by kernel_rfl) rfl ?_)
         refine PO.end_ (by kernel_rfl) ?_
         exact⟨id,_,rfl,⟨by refine⟨.inr rfl,.inr rfl,trivial⟩,by refine⟨.inr rfl,trivial⟩,by kernel_rfl⟩⟩
        exact trivial
       exact trivial
      exact trivial
     exact trivial
    refine allO.cons _ rfl rfl ?_ ?_
    ·refine GF.full rfl (Fa.alloc 21 (z:=(.agg #[.slice none 0 0,.slice none 0 0,.slice none 0 0])) rfl (by kernel_rfl) (by kernel_rfl) rfl rfl ?_)
     refine PO.at_ 4 [5] (by kernel_rfl) ?_
     refine allO.cons _ rfl rfl ?_ ?_
     ·refine GF.step rfl rfl rfl (PS.slice (lo:=32) (hi:=64) (kl:=.i64) (kh:=.i64) ((bl (sl.drop 32)).map .lit) rfl rfl (.inr ⟨_,rfl,rfl⟩) (.inl ⟨rfl,by simp[bl,h2]⟩) Tryz.underlying22 (by kernel_rfl) (by decide) (by decide) (by simp[bl,h2]) (by rw[List.take_of_length_le (by simp[bl,h2]),Nat.mul_one,Z0z])) ?_
      refine PO.at_ 5 [] (by kernel_rfl) ?_
      refine allO.cons _ rfl rfl ?_ ?_
      ·refine GF.step rfl rfl rfl (PS.call (xs:=[]) rfl rfl rfl rfl (fun w hw=>Z1m w)) ?_
       refine PO.at_ 6 [] (by kernel_rfl) ?_
       refine allO.cons _ rfl rfl ?_ ?_
       ·refine GF.step rfl rfl rfl (PS.call (xs:=[_,_,_,_]) rfl rfl rfl rfl (fun w hw=>hT w)) ?_
        refine PO.at_ 8 [] (by kernel_rfl) ?_
        refine allO.cons _ rfl rfl ?_ ?_
        ·refine GF.full rfl (Fa.storeR rfl rfl rfl rfl rfl rfl (by kernel_rfl) rfl ?_)
         refine PO.end_ (by kernel_rfl) ?_
         exact⟨id,_,rfl,⟨by refine⟨.inr rfl,.inr rfl,trivial⟩,by refine⟨.inr rfl,trivial⟩,by kernel_rfl⟩⟩
        exact trivial
       exact trivial
      exact trivial
     refine allO.cons _ rfl rfl ?_ ?_
     ·refine GF.step rfl rfl rfl (PS.call (xs:=[]) rfl rfl rfl rfl (fun w hw=>Z1m w)) ?_
      refine PO.at_ 4 [] (by kernel_rfl) ?_
      refine allO.cons _ rfl rfl ?_ ?_
      ·refine GF.step rfl rfl rfl (PS.slice (lo:=32) (hi:=64) (kl:=.i64) (kh:=.i64) ((bl (sl.drop 32)).map .lit) rfl rfl (.inr ⟨_,rfl,rfl⟩) (.inl ⟨rfl,by simp[bl,h2]⟩) Tryz.underlying22 (by kernel_rfl) (by decide) (by decide) (by simp[bl,h2]) (by rw[List.take_of_length_le (by simp[bl,h2]),Nat.mul_one,Z0z])) ?_
       refine PO.at_ 6 [] (by kernel_rfl) ?_
       refine allO.cons _ rfl rfl ?_ ?_
       ·refine GF.step rfl rfl rfl (PS.call (xs:=[_,_,_,_]) rfl rfl rfl rfl (fun w hw=>hT w)) ?_
        refine PO.at_ 8 [] (by kernel_rfl) ?_
        refine allO.cons _ rfl rfl ?_ ?_
        ·refine GF.full rfl (Fa.storeR rfl rfl rfl rfl rfl rfl (by kernel_rfl) rfl ?_)
         refine PO.end_ (by kernel_rfl) ?_
         exact⟨id,_,rfl,⟨by refine⟨.inr rfl,.inr rfl,trivial⟩,by refine⟨.inr rfl,trivial⟩,by kernel_rfl⟩⟩
        exact trivial
       exact trivial
      exact trivial
     exact trivial
    exact trivial
   refine allO.cons _ rfl rfl ?_ ?_
   ·refine GF.step rfl rfl rfl (PS.slice (lo:=32) (hi:=64) (kl:=.i64) (kh:=.i64) ((bl (sl.drop 32)).map .lit) rfl rfl (.inr ⟨_,rfl,rfl⟩) (.inl ⟨rfl,by simp[bl,h2]⟩) Tryz.underlying22 (by kernel_rfl) (by decide) (by decide) (by simp[bl,h2]) (by rw[List.take_of_length_le (by simp[bl,h2]),Nat.mul_one,Z0z])) ?_
    refine PO.at_ 2 [7] (by kernel_rfl) ?_
    refine allO.cons _ rfl rfl ?_ ?_
    ·refine GF.step rfl rfl rfl (PS.call (xs:=[_]) rfl rfl rfl rfl (fun w hw=>Z6r (x:=t.x) (y:=t.y) (z:=t.z) hok.x w)) ?_
     refine PO.at_ 5 [7] (by kernel_rfl) ?_
     refine allO.cons _ rfl rfl ?_ ?_
     ·refine GF.step rfl rfl rfl (PS.call (xs:=[]) rfl rfl rfl rfl (fun w hw=>Z1m w)) ?_
      refine PO.at_ 6 [7] (by kernel_rfl) ?_
      refine allO.cons _ rfl rfl ?_ ?_
      ·refine GF.step rfl rfl rfl (PS.call (xs:=[_,_,_,_]) rfl rfl rfl rfl (fun w hw=>hT w)) ?_
       refine PO.at_ 7 [] (by kernel_rfl) ?_
       refine allO.cons _ rfl rfl ?_ ?_
       ·refine GF.full rfl (Fa.alloc 21 (z:=(.agg #[.slice none 0 0,.slice none 0 0,.slice none 0 0])) rfl (by kernel_rfl) (by kernel_rfl) rfl rfl ?_)
        refine PO.at_ 8 [] (by kernel_rfl) ?_
        refine allO.cons _ rfl rfl ?_ ?_
        ·refine GF.full rfl (Fa.storeR rfl rfl rfl rfl rfl rfl (by kernel_rfl) rfl ?_)
         refine PO.end_ (by kernel_rfl) ?_
         exact⟨id,_,rfl,⟨by refine⟨.inr rfl,.inr rfl,trivial⟩,by refine⟨.inr rfl,trivial⟩,by kernel_rfl⟩⟩
        exact trivial
       exact trivial
      refine allO.cons _ rfl rfl ?_ ?_
      ·refine GF.full rfl (Fa.alloc 21 (z:=(.agg #[.slice none 0 0,.slice none 0 0,.slice none 0 0])) rfl (by kernel_rfl) (by kernel_rfl) rfl rfl ?_)
       refine PO.at_ 6 [] (by kernel_rfl) ?_
       refine allO.cons _ rfl rfl ?_ ?_
       ·refine GF.step rfl rfl rfl (PS.call (xs:=[_,_,_,_]) rfl rfl rfl rfl (fun w hw=>hT w)) ?_
        refine PO.at_ 8 [] (by kernel_rfl) ?_
        refine allO.cons _ rfl rfl ?_ ?_
        ·refine GF.full rfl (Fa.storeR rfl rfl rfl rfl rfl rfl (by kernel_rfl) rfl ?_)
         refine PO.end_ (by kernel_rfl) ?_
         exact⟨id,_,rfl,⟨by refine⟨.inr rfl,.inr rfl,trivial⟩,by refine⟨.inr rfl,trivial⟩,by kernel_rfl⟩⟩
        exact trivial
       exact trivial
      exact trivial
     refine allO.cons _ rfl rfl ?_ ?_
     ·refine GF.full rfl (Fa.alloc 21 (z:=(.agg #[.slice none 0 0,.slice none 0 0,.slice none 0 0])) rfl (by kernel_rfl) (by kernel_rfl) rfl rfl ?_)
      refine PO.at_ 5 [] (by kernel_rfl) ?_
      refine allO.cons _ rfl rfl ?_ ?_
      ·refine GF.step rfl rfl rfl (PS.call (xs:=[]) rfl rfl rfl rfl (fun w hw=>Z1m w)) ?_
       refine PO.at_ 6 [] (by kernel_rfl) ?_
       refine allO.cons _ rfl rfl ?_ ?_
       ·refine GF.step rfl rfl rfl (PS.call (xs:=[_,_,_,_]) rfl rfl rfl rfl (fun w hw=>hT w)) ?_
        refine PO.at_ 8 [] (by kernel_rfl) ?_
        refine allO.cons _ rfl rfl ?_ ?_
        ·refine GF.full rfl (Fa.storeR rfl rfl rfl rfl rfl rfl (by kernel_rfl) rfl ?_)
         refine PO.end_ (by kernel_rfl) ?_
         exact⟨id,_,rfl,⟨by refine⟨.inr rfl,.inr rfl,trivial⟩,by refine⟨.inr rfl,trivial⟩,by kernel_rfl⟩⟩
        exact trivial
       exact trivial
      exact trivial
     exact trivial
    refine allO.cons _ rfl rfl ?_ ?_
    ·refine GF.full rfl (Fa.alloc 21 (z:=(.agg #[.slice none 0 0,.slice none 0 0,.slice none 0 0])) rfl (by kernel_rfl) (by kernel_rfl) rfl rfl ?_)
     refine PO.at_ 2 [] (by kernel_rfl) ?_
     refine allO.cons _ rfl rfl ?_ ?_
     ·refine GF.step rfl rfl rfl (PS.call (xs:=[_]) rfl rfl rfl rfl (fun w hw=>Z6r (x:=t.x) (y:=t.y) (z:=t.z) hok.x w)) ?_
      refine PO.at_ 5 [] (by kernel_rfl) ?_
      refine allO.cons _ rfl rfl ?_ ?_
      ·refine GF.step rfl rfl rfl (PS.call (xs:=[]) rfl rfl rfl rfl (fun w hw=>Z1m w)) ?_
       refine PO.at_ 6 [] (by kernel_rfl) ?_
       refine allO.cons _ rfl rfl ?_ ?_
       ·refine GF.step rfl rfl rfl (PS.call (xs:=[_,_,_,_]) rfl rfl rfl rfl (fun w hw=>hT w)) ?_
        refine PO.at_ 8 [] (by kernel_rfl) ?_
        refine allO.cons _ rfl rfl ?_ ?_
        ·refine GF.full rfl (Fa.storeR rfl rfl rfl rfl rfl rfl (by kernel_rfl) rfl ?_)
         refine PO.end_ (by kernel_rfl) ?_
         exact⟨id,_,rfl,⟨by refine⟨.inr rfl,.inr rfl,trivial⟩,by refine⟨.inr rfl,trivial⟩,by kernel_rfl⟩⟩
        exact trivial
       exact trivial
      exact trivial
     exact trivial
    exact trivial
   refine allO.cons _ rfl rfl ?_ ?_
   ·refine GF.full rfl (Fa.alloc 21 (z:=(.agg #[.slice none 0 0,.slice none 0 0,.slice none 0 0])) rfl (by kernel_rfl) (by kernel_rfl) rfl rfl ?_)
    refine PO.at_ 2 [4] (by kernel_rfl) ?_
    refine allO.cons _ rfl rfl ?_ ?_
    ·refine GF.step rfl rfl rfl (PS.call (xs:=[_]) rfl rfl rfl rfl (fun w hw=>Z6r (x:=t.x) (y:=t.y) (z:=t.z) hok.x w)) ?_
     refine PO.at_ 4 [5] (by kernel_rfl) ?_
     refine allO.cons _ rfl rfl ?_ ?_
     ·refine GF.step rfl rfl rfl (PS.slice (lo:=32) (hi:=64) (kl:=.i64) (kh:=.i64) ((bl (sl.drop 32)).map .lit) rfl rfl (.inr ⟨_,rfl,rfl⟩) (.inl ⟨rfl,by simp[bl,h2]⟩) Tryz.underlying22 (by kernel_rfl) (by decide) (by decide) (by simp[bl,h2]) (by rw[List.take_of_length_le (by simp[bl,h2]),Nat.mul_one,Z0z])) ?_
      refine PO.at_ 5 [] (by kernel_rfl) ?_
      refine allO.cons _ rfl rfl ?_ ?_
      ·refine GF.step rfl rfl rfl (PS.call (xs:=[]) rfl rfl rfl rfl (fun w hw=>Z1m w)) ?_
       refine PO.at_ 6 [] (by kernel_rfl) ?_
       refine allO.cons _ rfl rfl ?_ ?_
       ·refine GF.step rfl rfl rfl (PS.call (xs:=[_,_,_,_]) rfl rfl rfl rfl (fun w hw=>hT w)) ?_
        refine PO.at_ 8 [] (by kernel_rfl) ?_
        refine allO.cons _ rfl rfl ?_ ?_
        ·refine GF.full rfl (Fa.storeR rfl rfl rfl rfl rfl rfl (by kernel_rfl) rfl ?_)
         refine PO.end_ (by kernel_rfl) ?_
         exact⟨id,_,rfl,⟨by refine⟨.inr rfl,.inr rfl,trivial⟩,by refine⟨.inr rfl,trivial⟩,by kernel_rfl⟩⟩
        exact trivial
       exact trivial
      exact trivial
     refine allO.cons _ rfl rfl ?_ ?_
     ·refine GF.step rfl rfl rfl (PS.call (xs:=[]) rfl rfl rfl rfl (fun w hw=>Z1m w)) ?_
      refine PO.at_ 4 [] (by kernel_rfl) ?_
      refine allO.cons _ rfl rfl ?_ ?_
      ·refine GF.step rfl rfl rfl (PS.slice (lo:=32) (hi:=64) (kl:=.i64) (kh:=.i64) ((bl (sl.drop 32)).map .lit) rfl rfl (.inr ⟨_,rfl,rfl⟩) (.inl ⟨rfl,by simp[bl,h2]⟩) Tryz.underlying22 (by kernel_rfl) (by decide) (by decide) (by simp[bl,h2]) (by rw[List.take_of_length_le (by simp[bl,h2]),Nat.mul_one,Z0z])) ?_
       refine PO.at_ 6 [] (by kernel_rfl) ?_
       refine allO.cons _ rfl rfl ?_ ?_
       ·refine GF.step rfl rfl rfl (PS.call (xs:=[_,_,_,_]) rfl rfl rfl rfl (fun w hw=>hT w)) ?_
        refine PO.at_ 8 [] (by kernel_rfl) ?_
        refine allO.cons _ rfl rfl ?_ ?_
        ·refine GF.full rfl (Fa.storeR rfl rfl rfl rfl rfl rfl (by kernel_rfl) rfl ?_)
         refine PO.end_ (by kernel_rfl) ?_
         exact⟨id,_,rfl,⟨by refine⟨.inr rfl,.inr rfl,trivial⟩,by refine⟨.inr rfl,trivial⟩,by kernel_rfl⟩⟩
        exact trivial
       exact trivial
      exact trivial
     exact trivial
    refine allO.cons _ rfl rfl ?_ ?_
    ·refine GF.step rfl rfl rfl (PS.slice (lo:=32) (hi:=64) (kl:=.i64) (kh:=.i64) ((bl (sl.drop 32)).map .lit) rfl rfl (.inr ⟨_,rfl,rfl⟩) (.inl ⟨rfl,by simp[bl,h2]⟩) Tryz.underlying22 (by kernel_rfl) (by decide) (by decide) (by simp[bl,h2]) (by rw[List.take_of_length_le (by simp[bl,h2]),Nat.mul_one,Z0z])) ?_
     refine PO.at_ 2 [] (by kernel_rfl) ?_
     refine allO.cons _ rfl rfl ?_ ?_
     ·refine GF.step rfl rfl rfl (PS.call (xs:=[_]) rfl rfl rfl rfl (fun w hw=>Z6r (x:=t.x) (y:=t.y) (z:=t.z) hok.x w)) ?_
      refine PO.at_ 5 [] (by kernel_rfl) ?_
      refine allO.cons _ rfl rfl ?_ ?_
      ·refine GF.step rfl rfl rfl (PS.call (xs:=[]) rfl rfl rfl rfl (fun w hw=>Z1m w)) ?_
       refine PO.at_ 6 [] (by kernel_rfl) ?_
       refine allO.cons _ rfl rfl ?_ ?_
       ·refine GF.step rfl rfl rfl (PS.call (xs:=[_,_,_,_]) rfl rfl rfl rfl (fun w hw=>hT w)) ?_
        refine PO.at_ 8 [] (by kernel_rfl) ?_
        refine allO.cons _ rfl rfl ?_ ?_
        ·refine GF.full rfl (Fa.storeR rfl rfl rfl rfl rfl rfl (by kernel_rfl) rfl ?_)
         refine PO.end_ (by kernel_rfl) ?_
         exact⟨id,_,rfl,⟨by refine⟨.inr rfl,.inr rfl,trivial⟩,by refine⟨.inr rfl,trivial⟩,by kernel_rfl⟩⟩
        exact trivial
       exact trivial
      exact trivial
     exact trivial
    exact trivial
   exact trivial
  refine allO.cons _ rfl rfl ?_ ?_
  ·refine GF.step rfl rfl rfl (PS.slice (lo:=32) (hi:=64) (kl:=.i64) (kh:=.i64) ((bl (sl.drop 32)).map .lit) rfl rfl (.inr ⟨_,rfl,rfl⟩) (.inl ⟨rfl,by simp[bl,h2]⟩) Tryz.underlying22 (by kernel_rfl) (by decide) (by decide) (by simp[bl,h2]) (by rw[List.take_of_length_le (by simp[bl,h2]),Nat.mul_one,Z0z])) ?_
   refine PO.at_ 1 [7] (by kernel_rfl) ?_
   refine allO.cons _ rfl rfl ?_ ?_
   ·refine GF.step rfl rfl rfl (PS.loadR (xs:=[_,_,_]) rfl rfl rfl rfl Tryz.underlying34 rfl (by kernel_rfl)) ?_
    refine PO.at_ 2 [7] (by kernel_rfl) ?_
    refine allO.cons _ rfl rfl ?_ ?_
    ·refine GF.step rfl rfl rfl (PS.call (xs:=[_]) rfl rfl rfl rfl (fun w hw=>Z6r (x:=t.x) (y:=t.y) (z:=t.z) hok.x w)) ?_
     refine PO.at_ 5 [7] (by kernel_rfl) ?_
     refine allO.cons _ rfl rfl ?_ ?_
     ·refine GF.step rfl rfl rfl (PS.call (xs:=[]) rfl rfl rfl rfl (fun w hw=>Z1m w)) ?_
      refine PO.at_ 6 [7] (by kernel_rfl) ?_
      refine allO.cons _ rfl rfl ?_ ?_
      ·refine GF.step rfl rfl rfl (PS.call (xs:=[_,_,_,_]) rfl rfl rfl rfl (fun w hw=>hT w)) ?_
       refine PO.at_ 7 [] (by kernel_rfl) ?_
       refine allO.cons _ rfl rfl ?_ ?_
       ·refine GF.full rfl (Fa.alloc 21 (z:=(.agg #[.slice none 0 0,.slice none 0 0,.slice none 0 0])) rfl (by kernel_rfl) (by kernel_rfl) rfl rfl ?_)
        refine PO.at_ 8 [] (by kernel_rfl) ?_
        refine allO.cons _ rfl rfl ?_ ?_
        ·refine GF.full rfl (Fa.storeR rfl rfl rfl rfl rfl rfl (by kernel_rfl) rfl ?_)
         refine PO.end_ (by kernel_rfl) ?_
         exact⟨id,_,rfl,⟨by refine⟨.inr rfl,.inr rfl,trivial⟩,by refine⟨.inr rfl,trivial⟩,by kernel_rfl⟩⟩
        exact trivial
       exact trivial
      refine allO.cons _ rfl rfl ?_ ?_
      ·refine GF.full rfl (Fa.alloc 21 (z:=(.agg #[.slice none 0 0,.slice none 0 0,.slice none 0 0])) rfl (by kernel_rfl) (by kernel_rfl) rfl rfl ?_)
       refine PO.at_ 6 [] (by kernel_rfl) ?_
       refine allO.cons _ rfl rfl ?_ ?_
       ·refine GF.step rfl rfl rfl (PS.call (xs:=[_,_,_,_]) rfl rfl rfl rfl (fun w hw=>hT w)) ?_
        refine PO.at_ 8 [] (by kernel_rfl) ?_
        refine allO.cons _ rfl rfl ?_ ?_
        ·refine GF.full rfl (Fa.storeR rfl rfl rfl rfl rfl rfl (by kernel_rfl) rfl ?_)
         refine PO.end_ (by kernel_rfl) ?_
         exact⟨id,_,rfl,⟨by refine⟨.inr rfl,.inr rfl,trivial⟩,by refine⟨.inr rfl,trivial⟩,by kernel_rfl⟩⟩
        exact trivial
       exact trivial
      exact trivial
     refine allO.cons _ rfl rfl ?_ ?_
     ·refine GF.full rfl (Fa.alloc 21 (z:=(.agg #[.slice none 0 0,.slice none 0 0,.slice none 0 0])) rfl (by kernel_rfl) (by kernel_rfl) rfl rfl ?_)
      refine PO.at_ 5 [] (by kernel_rfl) ?_
      refine allO.cons _ rfl rfl ?_ ?_
      ·refine GF.step rfl rfl rfl (PS.call (xs:=[]) rfl rfl rfl rfl (fun w hw=>Z1m w)) ?_
       refine PO.at_ 6 [] (by kernel_rfl) ?_
       refine allO.cons _ rfl rfl ?_ ?_
       ·refine GF.step rfl rfl rfl (PS.call (xs:=[_,_,_,_]) rfl rfl rfl rfl (fun w hw=>hT w)) ?_
        refine PO.at_ 8 [] (by kernel_rfl) ?_
        refine allO.cons _ rfl rfl ?_ ?_
        ·refine GF.full rfl (Fa.storeR rfl rfl rfl rfl rfl rfl (by kernel_rfl) rfl ?_)
         refine PO.end_ (by kernel_rfl) ?_
         exact⟨id,_,rfl,⟨by refine⟨.inr rfl,.inr rfl,trivial⟩,by refine⟨.inr rfl,trivial⟩,by kernel_rfl⟩⟩
        exact trivial
       exact trivial
      exact trivial
     exact trivial
    refine allO.cons _ rfl rfl ?_ ?_
    ·refine GF.full rfl (Fa.alloc 21 (z:=(.agg #[.slice none 0 0,.slice none 0 0,.slice none 0 0])) rfl (by kernel_rfl) (by kernel_rfl) rfl rfl ?_)
     refine PO.at_ 2 [] (by kernel_rfl) ?_
     refine allO.cons _ rfl rfl ?_ ?_
     ·refine GF.step rfl rfl rfl (PS.call (xs:=[_]) rfl rfl rfl rfl (fun w hw=>Z6r (x:=t.x) (y:=t.y) (z:=t.z) hok.x w)) ?_
      refine PO.at_ 5 [] (by kernel_rfl) ?_
      refine allO.cons _ rfl rfl ?_ ?_
      ·refine GF.step rfl rfl rfl (PS.call (xs:=[]) rfl rfl rfl rfl (fun w hw=>Z1m w)) ?_
       refine PO.at_ 6 [] (by kernel_rfl) ?_
       refine allO.cons _ rfl rfl ?_ ?_
       ·refine GF.step rfl rfl rfl (PS.call (xs:=[_,_,_,_]) rfl rfl rfl rfl (fun w hw=>hT w)) ?_
        refine PO.at_ 8 [] (by kernel_rfl) ?_
        refine allO.cons _ rfl rfl ?_ ?_
        ·refine GF.full rfl (Fa.storeR rfl rfl rfl rfl rfl rfl (by kernel_rfl) rfl ?_)
         refine PO.end_ (by kernel_rfl) ?_
         exact⟨id,_,rfl,⟨by refine⟨.inr rfl,.inr rfl,trivial⟩,by refine⟨.inr rfl,trivial⟩,by kernel_rfl⟩⟩
        exact trivial
       exact trivial
      exact trivial
     exact trivial
    exact trivial
   refine allO.cons _ rfl rfl ?_ ?_
   ·refine GF.full rfl (Fa.alloc 21 (z:=(.agg #[.slice none 0 0,.slice none 0 0,.slice none 0 0])) rfl (by kernel_rfl) (by kernel_rfl) rfl rfl ?_)
    refine PO.at_ 1 [] (by kernel_rfl) ?_
    refine allO.cons _ rfl rfl ?_ ?_
    ·refine GF.step rfl rfl rfl (PS.loadR (xs:=[_,_,_]) rfl rfl rfl rfl Tryz.underlying34 rfl (by kernel_rfl)) ?_
     refine PO.at_ 2 [] (by kernel_rfl) ?_
     refine allO.cons _ rfl rfl ?_ ?_
     ·refine GF.step rfl rfl rfl (PS.call (xs:=[_]) rfl rfl rfl rfl (fun w hw=>Z6r (x:=t.x) (y:=t.y) (z:=t.z) hok.x w)) ?_
      refine PO.at_ 5 [] (by kernel_rfl) ?_
      refine allO.cons _ rfl rfl ?_ ?_
      ·refine GF.step rfl rfl rfl (PS.call (xs:=[]) rfl rfl rfl rfl (fun w hw=>Z1m w)) ?_
       refine PO.at_ 6 [] (by kernel_rfl) ?_
       refine allO.cons _ rfl rfl ?_ ?_
       ·refine GF.step rfl rfl rfl (PS.call (xs:=[_,_,_,_]) rfl rfl rfl rfl (fun w hw=>hT w)) ?_
        refine PO.at_ 8 [] (by kernel_rfl) ?_
        refine allO.cons _ rfl rfl ?_ ?_
        ·refine GF.full rfl (Fa.storeR rfl rfl rfl rfl rfl rfl (by kernel_rfl) rfl ?_)
         refine PO.end_ (by kernel_rfl) ?_
         exact⟨id,_,rfl,⟨by refine⟨.inr rfl,.inr rfl,trivial⟩,by refine⟨.inr rfl,trivial⟩,by kernel_rfl⟩⟩
        exact trivial
       exact trivial
      exact trivial
     exact trivial
    exact trivial
   exact trivial
  refine allO.cons _ rfl rfl ?_ ?_
  ·refine GF.full rfl (Fa.alloc 21 (z:=(.agg #[.slice none 0 0,.slice none 0 0,.slice none 0 0])) rfl (by kernel_rfl) (by kernel_rfl) rfl rfl ?_)
   refine PO.at_ 1 [4] (by kernel_rfl) ?_
   refine allO.cons _ rfl rfl ?_ ?_
   ·refine GF.step rfl rfl rfl (PS.loadR (xs:=[_,_,_]) rfl rfl rfl rfl Tryz.underlying34 rfl (by kernel_rfl)) ?_
    refine PO.at_ 2 [4] (by kernel_rfl) ?_
    refine allO.cons _ rfl rfl ?_ ?_
    ·refine GF.step rfl rfl rfl (PS.call (xs:=[_]) rfl rfl rfl rfl (fun w hw=>Z6r (x:=t.x) (y:=t.y) (z:=t.z) hok.x w)) ?_
     refine PO.at_ 4 [5] (by kernel_rfl) ?_
     refine allO.cons _ rfl rfl ?_ ?_
     ·refine GF.step rfl rfl rfl (PS.slice (lo:=32) (hi:=64) (kl:=.i64) (kh:=.i64) ((bl (sl.drop 32)).map .lit) rfl rfl (.inr ⟨_,rfl,rfl⟩) (.inl ⟨rfl,by simp[bl,h2]⟩) Tryz.underlying22 (by kernel_rfl) (by decide) (by decide) (by simp[bl,h2]) (by rw[List.take_of_length_le (by simp[bl,h2]),Nat.mul_one,Z0z])) ?_
      refine PO.at_ 5 [] (by kernel_rfl) ?_
      refine allO.cons _ rfl rfl ?_ ?_
      ·refine GF.step rfl rfl rfl (PS.call (xs:=[]) rfl rfl rfl rfl (fun w hw=>Z1m w)) ?_
       refine PO.at_ 6 [] (by kernel_rfl) ?_
       refine allO.cons _ rfl rfl ?_ ?_
       ·refine GF.step rfl rfl rfl (PS.call (xs:=[_,_,_,_]) rfl rfl rfl rfl (fun w hw=>hT w)) ?_
        refine PO.at_ 8 [] (by kernel_rfl) ?_
        refine allO.cons _ rfl rfl ?_ ?_
        ·refine GF.full rfl (Fa.storeR rfl rfl rfl rfl rfl rfl (by kernel_rfl) rfl ?_)
         refine PO.end_ (by kernel_rfl) ?_
         exact⟨id,_,rfl,⟨by refine⟨.inr rfl,.inr rfl,trivial⟩,by refine⟨.inr rfl,trivial⟩,by kernel_rfl⟩⟩
        exact trivial
       exact trivial
      exact trivial
     refine allO.cons _ rfl rfl ?_ ?_
     ·refine GF.step rfl rfl rfl (PS.call (xs:=[]) rfl rfl rfl rfl (fun w hw=>Z1m w)) ?_
      refine PO.at_ 4 [] (by kernel_rfl) ?_
      refine allO.cons _ rfl rfl ?_ ?_
      ·refine GF.step rfl rfl rfl (PS.slice (lo:=32) (hi:=64) (kl:=.i64) (kh:=.i64) ((bl (sl.drop 32)).map .lit) rfl rfl (.inr ⟨_,rfl,rfl⟩) (.inl ⟨rfl,by simp[bl,h2]⟩) Tryz.underlying22 (by kernel_rfl) (by decide) (by decide) (by simp[bl,h2]) (by rw[List.take_of_length_le (by simp[bl,h2]),Nat.mul_one,Z0z])) ?_
       refine PO.at_ 6 [] (by kernel_rfl) ?_
       refine allO.cons _ rfl rfl ?_ ?_
       ·refine GF.step rfl rfl rfl (PS.call (xs:=[_,_,_,_]) rfl rfl rfl rfl (fun w hw=>hT w)) ?_
        refine PO.at_ 8 [] (by kernel_rfl) ?_
        refine allO.cons _ rfl rfl ?_ ?_
        ·refine GF.full rfl (Fa.storeR rfl rfl rfl rfl rfl rfl (by kernel_rfl) rfl ?_)
         refine PO.end_ (by kernel_rfl) ?_
         exact⟨id,_,rfl,⟨by refine⟨.inr rfl,.inr rfl,trivial⟩,by refine⟨.inr rfl,trivial⟩,by kernel_rfl⟩⟩
        exact trivial
       exact trivial
      exact trivial
     exact trivial
    refine allO.cons _ rfl rfl ?_ ?_
    ·refine GF.step rfl rfl rfl (PS.slice (lo:=32) (hi:=64) (kl:=.i64) (kh:=.i64) ((bl (sl.drop 32)).map .lit) rfl rfl (.inr ⟨_,rfl,rfl⟩) (.inl ⟨rfl,by simp[bl,h2]⟩) Tryz.underlying22 (by kernel_rfl) (by decide) (by decide) (by simp[bl,h2]) (by rw[List.take_of_length_le (by simp[bl,h2]),Nat.mul_one,Z0z])) ?_
     refine PO.at_ 2 [] (by kernel_rfl) ?_
     refine allO.cons _ rfl rfl ?_ ?_
     ·refine GF.step rfl rfl rfl (PS.call (xs:=[_]) rfl rfl rfl rfl (fun w hw=>Z6r (x:=t.x) (y:=t.y) (z:=t.z) hok.x w)) ?_
      refine PO.at_ 5 [] (by kernel_rfl) ?_
      refine allO.cons _ rfl rfl ?_ ?_
      ·refine GF.step rfl rfl rfl (PS.call (xs:=[]) rfl rfl rfl rfl (fun w hw=>Z1m w)) ?_
       refine PO.at_ 6 [] (by kernel_rfl) ?_
       refine allO.cons _ rfl rfl ?_ ?_
       ·refine GF.step rfl rfl rfl (PS.call (xs:=[_,_,_,_]) rfl rfl rfl rfl (fun w hw=>hT w)) ?_
        refine PO.at_ 8 [] (by kernel_rfl) ?_
        refine allO.cons _ rfl rfl ?_ ?_
        ·refine GF.full rfl (Fa.storeR rfl rfl rfl rfl rfl rfl (by kernel_rfl) rfl ?_)
         refine PO.end_ (by kernel_rfl) ?_
         exact⟨id,_,rfl,⟨by refine⟨.inr rfl,.inr rfl,trivial⟩,by refine⟨.inr rfl,trivial⟩,by kernel_rfl⟩⟩
        exact trivial
       exact trivial
      exact trivial
     exact trivial
    exact trivial
   refine allO.cons _ rfl rfl ?_ ?_
   ·refine GF.step rfl rfl rfl (PS.slice (lo:=32) (hi:=64) (kl:=.i64) (kh:=.i64) ((bl (sl.drop 32)).map .lit) rfl rfl (.inr ⟨_,rfl,rfl⟩) (.inl ⟨rfl,by simp[bl,h2]⟩) Tryz.underlying22 (by kernel_rfl) (by decide) (by decide) (by simp[bl,h2]) (by rw[List.take_of_length_le (by simp[bl,h2]),Nat.mul_one,Z0z])) ?_
    refine PO.at_ 1 [] (by kernel_rfl) ?_
    refine allO.cons _ rfl rfl ?_ ?_
    ·refine GF.step rfl rfl rfl (PS.loadR (xs:=[_,_,_]) rfl rfl rfl rfl Tryz.underlying34 rfl (by kernel_rfl)) ?_
     refine PO.at_ 2 [] (by kernel_rfl) ?_
     refine allO.cons _ rfl rfl ?_ ?_
     ·refine GF.step rfl rfl rfl (PS.call (xs:=[_]) rfl rfl rfl rfl (fun w hw=>Z6r (x:=t.x) (y:=t.y) (z:=t.z) hok.x w)) ?_
      refine PO.at_ 5 [] (by kernel_rfl) ?_
      refine allO.cons _ rfl rfl ?_ ?_
      ·refine GF.step rfl rfl rfl (PS.call (xs:=[]) rfl rfl rfl rfl (fun w hw=>Z1m w)) ?_
       refine PO.at_ 6 [] (by kernel_rfl) ?_
       refine allO.cons _ rfl rfl ?_ ?_
       ·refine GF.step rfl rfl rfl (PS.call (xs:=[_,_,_,_]) rfl rfl rfl rfl (fun w hw=>hT w)) ?_
        refine PO.at_ 8 [] (by kernel_rfl) ?_
        refine allO.cons _ rfl rfl ?_ ?_
        ·refine GF.full rfl (Fa.storeR rfl rfl rfl rfl rfl rfl (by kernel_rfl) rfl ?_)
         refine PO.end_ (by kernel_rfl) ?_
         exact⟨id,_,rfl,⟨by refine⟨.inr rfl,.inr rfl,trivial⟩,by refine⟨.inr rfl,trivial⟩,by kernel_rfl⟩⟩
        exact trivial
       exact trivial
      exact trivial
     exact trivial
    exact trivial
   exact trivial
  exact trivial
 ·skip
  rintro σm rfl
  refine(PW.seq ?_:PW _ _ _ _)
  refine(PW.seq ?_:PW _ _ _ _)
  refine(PW.drawn 7 (by kernel_rfl) (by kernel_rfl) (by kernel_rfl) (by kernel_rfl) (by kernel_rfl) ?_:PW _ _ _ _)
  refine PD.step rfl rfl rfl (PS.loadR (xs:=[_,_,_]) rfl rfl rfl rfl Tryz.underlying34 rfl (by kernel_rfl)) ?_
  refine PD.call (xs:=[_]) rfl rfl rfl rfl rfl rfl rfl (fun w hw=>FnAt.to (Zj2 (t:=X) hX w) (Z6q (by rw[hE]))) ?_
  refine PD.step rfl rfl rfl (PS.str (l:=by_ (gb Q) 32) rfl rfl Tryz.underlying22 Tryz.underlying5 Tryz.underlying9) ?_
  refine PD.mv rfl rfl rfl rfl rfl ?_
  refine PD.step rfl rfl rfl (PS.slice (lo:=0) (hi:=32) (kl:=.i64) (kh:=.i64) ((bl (sl.take 32)).map .lit) rfl rfl (.inl ⟨rfl,rfl⟩) (.inr ⟨_,rfl,rfl⟩) Tryz.underlying22 (by kernel_rfl) (by decide) (by decide) (by simp[bl,h2]) (by rw[Nat.mul_one,List.drop_zero,Zbg])) ?_
  refine PD.step rfl rfl rfl (PS.str (l:=sl.take 32) rfl rfl Tryz.underlying22 Tryz.underlying5 Tryz.underlying9) ?_
  refine PD.step rfl rfl rfl (PS.sne rfl rfl rfl) ?_
  refine PD.nil ?_
  show PW _ _ _ _
  refine PW.cond (by rfl) (fun hc551=>?_) (fun hc551=>?_)
  ·have ho:=hc551
   refine(PW.seq ?_:PW _ _ _ _)
   refine(PW.region ?_:PW _ _ _ _)
   refine PL.mu rfl rfl rfl rfl rfl ?_
   refine PL.nil ?_
   refine(PW.ret ?_:PW _ _ _ _)
   exact Rt.as (Rt.one Tryz.results37 rfl) (Zkt (by rw[if_neg (fun h=>by rw[h] at ho;simp at ho)]))
  have ho:=hc551
  refine(PW.skip ?_:PW _ _ _ _)
  refine(PW.seq ?_:PW _ _ _ _)
  refine(PW.region ?_:PW _ _ _ _)
  refine PL.mu rfl rfl rfl rfl rfl ?_
  refine PL.nil ?_
  refine(PW.ret ?_:PW _ _ _ _)
  exact Rt.as (Rt.one Tryz.results37 rfl) (Zkt (by rw[if_pos (Zdp (Z60 _ _) (Zhe hs 32) (by simpa using ho))]))
end Go.Proofs.YtjimhjfjfpeojaaGreatDoor.Av
