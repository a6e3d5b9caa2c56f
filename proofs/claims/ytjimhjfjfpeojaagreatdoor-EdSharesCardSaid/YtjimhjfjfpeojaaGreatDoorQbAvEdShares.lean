/- Joined texts. -/
import Derived.Test.YtjimhjfjfpeojaaGreatDoorQbAvLw
import Derived.Test.YtjimhjfjfpeojaaGreatDoorQbRfRest
set_option linter.unusedVariables false
namespace Go.Proofs.YtjimhjfjfpeojaaGreatDoor.Av
open Go.RowKit Go.Proofs.YtjimhjfjfpeojaaGreatDoor.Gn Go.Proofs.YtjimhjfjfpeojaaGreatDoor.Fd Go.Proofs.YtjimhjfjfpeojaaGreatDoor.Ed Go.Deep
theorem c_L(w:World):FnAt Tryz.prog [.u64] w 40 [] (num Lq) :=
 ⟨fun _ _=>by kernel_rfl,fun O vs hO hk hl hr=>by
  obtain rfl:=no_args hl
  exact(L_any w).mono fun e w' hr=>retN_rep hO hk hr⟩
theorem c_bytesL{r:Bool}{la:List Nat}{m:Nat}(hla:Dg la)(hn:la.length≤1000)(hm:m≤1000)(w:World):FnAt Tryz.prog [] w 39 [row r (nl la),.lit (.int .i64 (m:Int))] (byt true (by_ (vl la) m)) :=
 ⟨fun _ _=>by kernel_rfl,fun O vs hO hk hl hr=>by
  obtain⟨x,y,rfl,h1,h2⟩:=two_args hl hr
  obtain⟨A,n,c,rfl,s1,-⟩:=row_sl h1
  cases h2
  exact(Bytes_any A n c m la w (by have:=s1.1;simp[nl] at this;omega) hm hla s1).mono fun e w' hr=>retY_rep hO (by_le _ m hm) hr⟩
theorem two_dg{n:Nat}(h:n < 4294967296):Dg [n%65536,n / 65536]:=by
 intro x hx
 simp at hx
 rcases hx with rfl|rfl <;> omega
theorem three_dg{n:Nat}(h:n < 281474976710656):Dg [n%65536,n / 65536%65536,n / 4294967296]:=by
 intro x hx
 simp at hx
 rcases hx with rfl|rfl|rfl <;> omega
theorem two_vl(n:Nat):vl [n%65536,n / 65536]=n:=by
 show n%65536+65536*(n / 65536+65536*0)=n
 omega
theorem three_vl(n:Nat):vl [n%65536,n / 65536%65536,n / 4294967296]=n:=by
 show n%65536+65536*(n / 65536%65536+65536*(n / 4294967296+65536*0))=n
 omega
theorem b4{X:Nat}(h:X < 4294967296)(w:World):FnAt Tryz.prog [] w 39 [.sq true 1 [.lit (.int .u64 ((X%65536:Nat):Int)),.lit (.int .u64 ((X / 65536:Nat):Int))],.lit (.int .i64 4)] (byt true (by_ X 4)):=by
 have:=c_bytesL (r:=true) (la:=[X%65536,X / 65536]) (m:=4) (two_dg h) (by simp) (by decide) w
 rwa [two_vl] at this
theorem b6{X:Nat}(h:X < 281474976710656)(w:World):FnAt Tryz.prog [] w 39 [.sq true 1 [.lit (.int .u64 ((X%65536:Nat):Int)),.lit (.int .u64 ((X / 65536%65536:Nat):Int)),.lit (.int .u64 ((X / 4294967296:Nat):Int))],.lit (.int .i64 6)] (byt true (by_ X 6)):=by
 have:=c_bytesL (r:=true) (la:=[X%65536,X / 65536%65536,X / 4294967296]) (m:=6) (three_dg h) (by simp) (by decide) w
 rwa [three_vl] at this
theorem mul_by{n k:Nat}{g:G}(hn:n < 256 ^ k)(hk:k≤32)(w:World)(tab:TabE w):FnAt Tryz.prog [] w 27 [byt true (by_ n k),pnt g] (.tup [pnt (ti n g),.lit (.int .i64 0)]):=by
 have:=p_mul (r:=true) (l:=by_ n k) (g:=g) (by rw[by_length];exact hk) (by_lt _ _) w tab
 rwa [le_by,Nat.mod_eq_of_lt hn] at this
theorem Lq_lt:Lq < pp:=by rw[Lq_eq,pp_eq];decide
theorem Lq_32:Lq < 256 ^ 32:=by rw[Lq_eq];decide
set_option maxHeartbeats 4000000 in
set_option maxRecDepth 100000 in
theorem l_EdShares{l0:List Nat}(hl0:∀x∈l0,x < 256){g0:G}(hg0:R3 (ptT l0) g0)(hk0:(ptT l0).ok){N M:Nat}(hN:N < 4294967296)(hM:M < 4294967296){b:G}(hb:Hp kbase b)(hz:ti Lq b=gz)(w:World)(tab:TabE w)(ts:Sh.Tab w):FnAt Tryz.prog [.u64] w 10 [byt true l0,.lit (.int .u32 (N:Int)),.lit (.int .u32 (M:Int))] (.lit (.bool true)):=by
 refine FnAt.of Tryz.f10 _ _ Tryz.func10 Tryz.ntmps10 rfl (by kernel_rfl) (fun _ _=>by kernel_rfl) fun O=>?_
 have hS:N+M < 281474976710656:=by omega
 have m4:∀ {X:Nat} (h:X < 4294967296) (w':World),Kp (fun _=>False) w w'→FnAt Tryz.prog [] w' 27 [byt true (by_ X 4),pnt g0] (.tup [pnt (ti X g0),.lit (.int .i64 0)]):=fun h w' hw=>mul_by (by omega) (by decide) w' (tab.below hw.to_below)
 have m6:∀ {X:Nat} (h:X < 281474976710656) (w':World),Kp (fun _=>False) w w'→FnAt Tryz.prog [] w' 27 [byt true (by_ X 6),pnt g0] (.tup [pnt (ti X g0),.lit (.int .i64 0)]):=fun h w' hw=>mul_by (by omega) (by decide) w' (tab.below hw.to_below)
 show PW _ _ _ ⟨[(0,.c (.dv _)),(1,.c (.dv _)),(2,.c (.dv _))],[]⟩
 refine(PW.seq ?_:PW _ _ _ _)
 refine(PW.region ?_:PW _ _ _ _)
 refine PL.mu rfl rfl rfl rfl rfl ?_
 refine PL.nil ?_
 refine(PW.seq ?_:PW _ _ _ _)
 refine(PW.seq ?_:PW _ _ _ _)
 refine(PW.region ?_:PW _ _ _ _)
 refine PL.mv rfl rfl rfl rfl rfl ?_
 refine PL.step rfl rfl rfl (PS.len (n:=l0.length) rfl rfl Tryz.underlying22 (by decide) (by simp[bl])) ?_
 refine PL.step rfl rfl rfl (PS.gtr rfl rfl rfl) ?_
 refine PL.nil ?_
 show PW _ _ _ _
 refine PW.cond (by rfl) (fun hc12=>?_) (fun hc12=>?_)
 ·skip
  refine(PW.seq ?_:PW _ _ _ _)
  refine(PW.region ?_:PW _ _ _ _)
  refine PL.call (xs:=[]) rfl rfl rfl rfl rfl rfl rfl (fun w hw=>p_known w (tab.below hw.to_below) (ts.below hw.to_below)) ?_
  refine PL.mu rfl rfl rfl rfl rfl ?_
  refine PL.nil ?_
  refine(PW.ret ?_:PW _ _ _ _)
  exact Rt.as (Rt.one Tryz.results10 rfl) (le_refl _)
 have hle:l0.length≤100:=by have:=of_decide_eq_false hc12;omega
 refine(PW.skip ?_:PW _ _ _ _)
 refine(PW.seq ?_:PW _ _ _ _)
 refine(PW.region ?_:PW _ _ _ _)
 refine PL.mv rfl rfl rfl rfl rfl ?_
 refine PL.call (xs:=[_]) rfl rfl rfl rfl rfl rfl rfl (fun w hw=>c_point hl0 hg0 hk0 w (tab.below hw.to_below)) ?_
 refine PL.mv rfl rfl rfl rfl rfl ?_
 refine PL.step rfl rfl rfl (PS.ext rfl rfl rfl) ?_
 refine PL.step rfl rfl rfl (PS.ext rfl rfl rfl) ?_
 refine PL.full rfl (Fa.alloc 1 (z:=(.agg #[.int .u64 0,.int .u64 0,.int .u64 0,.int .u64 0,.int .u64 0,.int .u64 0,.int .u64 0,.int .u64 0,.int .u64 0,.int .u64 0,.int .u64 0,.int .u64 0,.int .u64 0,.int .u64 0,.int .u64 0,.int .u64 0,.int .u64 0,.int .u64 0,.int .u64 0,.int .u64 0])) rfl (by kernel_rfl) (by kernel_rfl) rfl rfl ?_)
 refine PL.full rfl (Fa.alloc 2 (z:=(.agg #[.slice none 0 0,.slice none 0 0,.slice none 0 0])) rfl (by kernel_rfl) (by kernel_rfl) rfl rfl ?_)
 refine PL.full rfl (Fa.storeH 20 rfl rfl rfl rfl rfl (pnt_row g0) (by kernel_rfl) rfl ?_)
 refine PL.full rfl (Fa.storeR rfl rfl rfl rfl rfl rfl (by kernel_rfl) rfl ?_)
 refine PL.nil ?_
 refine(PW.cut (fun σm=>σm=⟨[(10,L (.int .i64 0)),(9,.c (.ptr 31 0)),(7,.c (.ptr 1 0)),(2,L (.int .u32 (M:Int))),(1,L (.int .u32 (N:Int)))],[(31,.whole false 28 (pnt (ti N g0))),(1,.whole false 28 (pnt g0))]⟩) ?_ ?_:PW _ _ _ _)
 ·skip
  refine(PW.orders (by kernel_rfl) ?_:PW _ _ _ _)
  refine PO.take 0 rfl (by kernel_rfl) (by kernel_rfl) (by kernel_rfl) rfl rfl rfl (PU.moved (r:=.c _) rfl rfl) ?_
  refine PO.take 1 rfl (by kernel_rfl) (by kernel_rfl) (by kernel_rfl) rfl rfl rfl (PU.convI ((N:Nat):Int) rfl rfl Tryz.underlying64 Tryz.underlying24 (wu64 (by omega))) ?_
  refine PO.take 2 rfl (by kernel_rfl) (by kernel_rfl) (by kernel_rfl) rfl rfl rfl (PU.remN (a:=N) (b:=65536) rfl rfl rfl (by decide)) ?_
  refine PO.take 3 rfl (by kernel_rfl) (by kernel_rfl) (by kernel_rfl) rfl rfl rfl (PU.moved (r:=.c _) rfl rfl) ?_
  refine PO.take 4 rfl (by kernel_rfl) (by kernel_rfl) (by kernel_rfl) rfl rfl rfl (PU.convI ((N:Nat):Int) rfl rfl Tryz.underlying64 Tryz.underlying24 (wu64 (by omega))) ?_
  refine PO.take 5 rfl (by kernel_rfl) (by kernel_rfl) (by kernel_rfl) rfl rfl rfl (PU.quoN (a:=N) (b:=65536) rfl rfl rfl (by decide) (wu64 (by omega))) ?_
  refine PO.at_ 6 [8,13] (by kernel_rfl) ?_
  refine allO.cons _ rfl rfl ?_ ?_
  ·refine GF.step rfl rfl rfl (PS.buildSlice (parts:=[(0,_),(1,_)]) (xs:=[_,_]) (z:=(.int .u64 0)) (bytes:=8) rfl rfl rfl Tryz.underlying32 (by kernel_rfl) rfl (by kernel_rfl) (by kernel_rfl)) ?_
   refine PO.at_ 7 [8,13] (by kernel_rfl) ?_
   refine allO.cons _ rfl rfl ?_ ?_
   ·refine GF.step rfl rfl rfl (PS.call (xs:=[_,_]) rfl rfl rfl rfl (fun w hw=>b4 hN w)) ?_
    refine PO.at_ 8 [13] (by kernel_rfl) ?_
    refine allO.cons _ rfl rfl ?_ ?_
    ·refine GF.step rfl rfl rfl (PS.loadH (k:=20) rfl rfl rfl (row_sz (pnt_row g0)) Tryz.underlying28 rfl (by kernel_rfl)) ?_
     refine PO.at_ 9 [13] (by kernel_rfl) ?_
     refine allO.cons _ rfl rfl ?_ ?_
     ·refine GF.step rfl rfl rfl (PS.call (xs:=[_,_]) rfl rfl rfl rfl (fun w hw=>m4 hN w hw)) ?_
      refine PO.take 10 rfl (by kernel_rfl) (by kernel_rfl) (by kernel_rfl) rfl rfl rfl (PU.moved (r:=.c _) rfl rfl) ?_
      refine PO.take 11 rfl (by kernel_rfl) (by kernel_rfl) (by kernel_rfl) rfl rfl rfl (PU.ext rfl rfl rfl) ?_
      refine PO.take 12 rfl (by kernel_rfl) (by kernel_rfl) (by kernel_rfl) rfl rfl rfl (PU.ext rfl rfl rfl) ?_
      refine PO.at_ 13 [] (by kernel_rfl) ?_
      refine allO.cons _ rfl rfl ?_ ?_
      ·refine GF.full rfl (Fa.alloc 31 (z:=.agg z20) rfl (by kernel_rfl) (by kernel_rfl) rfl rfl ?_)
       refine PO.at_ 14 [] (by kernel_rfl) ?_
       refine allO.cons _ rfl rfl ?_ ?_
       ·refine GF.full rfl (Fa.storeH 20 rfl rfl rfl rfl rfl (pnt_row (ti N g0)) (by kernel_rfl) rfl ?_)
        refine PO.take 15 rfl (by kernel_rfl) (by kernel_rfl) (by kernel_rfl) rfl rfl rfl (PU.assigned (r:=.c _) rfl rfl) ?_
        refine PO.end_ (by kernel_rfl) ?_
        exact⟨id,_,rfl,⟨by refine⟨.inr rfl,.inr rfl,.inr rfl,.inr rfl,.inr rfl,trivial⟩,by refine⟨.inr rfl,.inr rfl,trivial⟩,by kernel_rfl⟩⟩
       exact trivial
      exact trivial
     refine allO.cons _ rfl rfl ?_ ?_
     ·refine GF.full rfl (Fa.alloc 31 (z:=.agg z20) rfl (by kernel_rfl) (by kernel_rfl) rfl rfl ?_)
      refine PO.at_ 9 [] (by kernel_rfl) ?_
      refine allO.cons _ rfl rfl ?_ ?_
      ·refine GF.step rfl rfl rfl (PS.call (xs:=[_,_]) rfl rfl rfl rfl (fun w hw=>m4 hN w hw)) ?_
       refine PO.take 10 rfl (by kernel_rfl) (by kernel_rfl) (by kernel_rfl) rfl rfl rfl (PU.moved (r:=.c _) rfl rfl) ?_
       refine PO.take 11 rfl (by kernel_rfl) (by kernel_rfl) (by kernel_rfl) rfl rfl rfl (PU.ext rfl rfl rfl) ?_
       refine PO.take 12 rfl (by kernel_rfl) (by kernel_rfl) (by kernel_rfl) rfl rfl rfl (PU.ext rfl rfl rfl) ?_
       refine PO.at_ 14 [] (by kernel_rfl) ?_
       refine allO.cons _ rfl rfl ?_ ?_
       ·refine GF.full rfl (Fa.storeH 20 rfl rfl rfl rfl rfl (pnt_row (ti N g0)) (by kernel_rfl) rfl ?_)
        refine PO.take 15 rfl (by kernel_rfl) (by kernel_rfl) (by kernel_rfl) rfl rfl rfl (PU.assigned (r:=.c _) rfl rfl) ?_
        refine PO.end_ (by kernel_rfl) ?_
        exact⟨id,_,rfl,⟨by refine⟨.inr rfl,.inr rfl,.inr rfl,.inr rfl,.inr rfl,trivial⟩,by refine⟨.inr rfl,.inr rfl,trivial⟩,by kernel_rfl⟩⟩
       exact trivial
      exact trivial
     exact trivial
    refine allO.cons _ rfl rfl ?_ ?_
    ·refine GF.full rfl (Fa.alloc 31 (z:=.agg z20) rfl (by kernel_rfl) (by kernel_rfl) rfl rfl ?_)
     refine PO.at_ 8 [] (by kernel_rfl) ?_
     refine allO.cons _ rfl rfl ?_ ?_
     ·refine GF.step rfl rfl rfl (PS.loadH (k:=20) rfl rfl rfl (row_sz (pnt_row g0)) Tryz.underlying28 rfl (by kernel_rfl)) ?_
      refine PO.at_ 9 [] (by kernel_rfl) ?_
      refine allO.cons _ rfl rfl ?_ ?_
      ·refine GF.step rfl rfl rfl (PS.call (xs:=[_,_]) rfl rfl rfl rfl (fun w hw=>m4 hN w hw)) ?_
       refine PO.take 10 rfl (by kernel_rfl) (by kernel_rfl) (by kernel_rfl) rfl rfl rfl (PU.moved (r:=.c _) rfl rfl) ?_
       refine PO.take 11 rfl (by kernel_rfl) (by kernel_rfl) (by kernel_rfl) rfl rfl rfl (PU.ext rfl rfl rfl) ?_
       refine PO.take 12 rfl (by kernel_rfl) (by kernel_rfl) (by kernel_rfl) rfl rfl rfl (PU.ext rfl rfl rfl) ?_
       refine PO.at_ 14 [] (by kernel_rfl) ?_
       refine allO.cons _ rfl rfl ?_ ?_
       ·refine GF.full rfl (Fa.storeH 20 rfl rfl rfl rfl rfl (pnt_row (ti N g0)) (by kernel_rfl) rfl ?_)
        refine PO.take 15 rfl (by kernel_rfl) (by kernel_rfl) (by kernel_rfl) rfl rfl rfl (PU.assigned (r:=.c _) rfl rfl) ?_
        refine PO.end_ (by kernel_rfl) ?_
        exact⟨id,_,rfl,⟨by refine⟨.inr rfl,.inr rfl,.inr rfl,.inr rfl,.inr rfl,trivial⟩,by refine⟨.inr rfl,.inr rfl,trivial⟩,by kernel_rfl⟩⟩
       exact trivial
      exact trivial
     exact trivial
    exact trivial
   refine allO.cons _ rfl rfl ?_ ?_
   ·refine GF.step rfl rfl rfl (PS.loadH (k:=20) rfl rfl rfl (row_sz (pnt_row g0)) Tryz.underlying28 rfl (by kernel_rfl)) ?_
    refine PO.at_ 7 [13] (by kernel_rfl) ?_
    refine allO.cons _ rfl rfl ?_ ?_
    ·refine GF.step rfl rfl rfl (PS.call (xs:=[_,_]) rfl rfl rfl rfl (fun w hw=>b4 hN w)) ?_
     refine PO.at_ 9 [13] (by kernel_rfl) ?_
     refine allO.cons _ rfl rfl ?_ ?_
     ·refine GF.step rfl rfl rfl (PS.call (xs:=[_,_]) rfl rfl rfl rfl (fun w hw=>m4 hN w hw)) ?_
      refine PO.take 10 rfl (by kernel_rfl) (by kernel_rfl) (by kernel_rfl) rfl rfl rfl (PU.moved (r:=.c _) rfl rfl) ?_
      refine PO.take 11 rfl (by kernel_rfl) (by kernel_rfl) (by kernel_rfl) rfl rfl rfl (PU.ext rfl rfl rfl) ?_
      refine PO.take 12 rfl (by kernel_rfl) (by kernel_rfl) (by kernel_rfl) rfl rfl rfl (PU.ext rfl rfl rfl) ?_
      refine PO.at_ 13 [] (by kernel_rfl) ?_
      refine allO.cons _ rfl rfl ?_ ?_
      ·refine GF.full rfl (Fa.alloc 31 (z:=.agg z20) rfl (by kernel_rfl) (by kernel_rfl) rfl rfl ?_)
       refine PO.at_ 14 [] (by kernel_rfl) ?_
       refine allO.cons _ rfl rfl ?_ ?_
       ·refine GF.full rfl (Fa.storeH 20 rfl rfl rfl rfl rfl (pnt_row (ti N g0)) (by kernel_rfl) rfl ?_)
        refine PO.take 15 rfl (by kernel_rfl) (by kernel_rfl) (by kernel_rfl) rfl rfl rfl (PU.assigned (r:=.c _) rfl rfl) ?_
        refine PO.end_ (by kernel_rfl) ?_
        exact⟨id,_,rfl,⟨by refine⟨.inr rfl,.inr rfl,.inr rfl,.inr rfl,.inr rfl,trivial⟩,by refine⟨.inr rfl,.inr rfl,trivial⟩,by kernel_rfl⟩⟩
       exact trivial
      exact trivial
     refine allO.cons _ rfl rfl ?_ ?_
     ·refine GF.full rfl (Fa.alloc 31 (z:=.agg z20) rfl (by kernel_rfl) (by kernel_rfl) rfl rfl ?_)
      refine PO.at_ 9 [] (by kernel_rfl) ?_
      refine allO.cons _ rfl rfl ?_ ?_
      ·refine GF.step rfl rfl rfl (PS.call (xs:=[_,_]) rfl rfl rfl rfl (fun w hw=>m4 hN w hw)) ?_
       refine PO.take 10 rfl (by kernel_rfl) (by kernel_rfl) (by kernel_rfl) rfl rfl rfl (PU.moved (r:=.c _) rfl rfl) ?_
       refine PO.take 11 rfl (by kernel_rfl) (by kernel_rfl) (by kernel_rfl) rfl rfl rfl (PU.ext rfl rfl rfl) ?_
       refine PO.take 12 rfl (by kernel_rfl) (by kernel_rfl) (by kernel_rfl) rfl rfl rfl (PU.ext rfl rfl rfl) ?_
       refine PO.at_ 14 [] (by kernel_rfl) ?_
       refine allO.cons _ rfl rfl ?_ ?_
       ·refine GF.full rfl (Fa.storeH 20 rfl rfl rfl rfl rfl (pnt_row (ti N g0)) (by kernel_rfl) rfl ?_)
        refine PO.take 15 rfl (by kernel_rfl) (by kernel_rfl) (by kernel_rfl) rfl rfl rfl (PU.assigned (r:=.c _) rfl rfl) ?_
        refine PO.end_ (by kernel_rfl) ?_
        exact⟨id,_,rfl,⟨by refine⟨.inr rfl,.inr rfl,.inr rfl,.inr rfl,.inr rfl,trivial⟩,by refine⟨.inr rfl,.inr rfl,trivial⟩,by kernel_rfl⟩⟩
       exact trivial
      exact trivial
     exact trivial
    refine allO.cons _ rfl rfl ?_ ?_
    ·refine GF.full rfl (Fa.alloc 31 (z:=.agg z20) rfl (by kernel_rfl) (by kernel_rfl) rfl rfl ?_)
     refine PO.at_ 7 [] (by kernel_rfl) ?_
     refine allO.cons _ rfl rfl ?_ ?_
     ·refine GF.step rfl rfl rfl (PS.call (xs:=[_,_]) rfl rfl rfl rfl (fun w hw=>b4 hN w)) ?_
      refine PO.at_ 9 [] (by kernel_rfl) ?_
      refine allO.cons _ rfl rfl ?_ ?_
      ·refine GF.step rfl rfl rfl (PS.call (xs:=[_,_]) rfl rfl rfl rfl (fun w hw=>m4 hN w hw)) ?_
       refine PO.take 10 rfl (by kernel_rfl) (by kernel_rfl) (by kernel_rfl) rfl rfl rfl (PU.moved (r:=.c _) rfl rfl) ?_
       refine PO.take 11 rfl (by kernel_rfl) (by kernel_rfl) (by kernel_rfl) rfl rfl rfl (PU.ext rfl rfl rfl) ?_
       refine PO.take 12 rfl (by kernel_rfl) (by kernel_rfl) (by kernel_rfl) rfl rfl rfl (PU.ext rfl rfl rfl) ?_
       refine PO.at_ 14 [] (by kernel_rfl) ?_
       refine allO.cons _ rfl rfl ?_ ?_
       ·refine GF.full rfl (Fa.storeH 20 rfl rfl rfl rfl rfl (pnt_row (ti N g0)) (by kernel_rfl) rfl ?_)
        refine PO.take 15 rfl (by kernel_rfl) (by kernel_rfl) (by kernel_rfl) rfl rfl rfl (PU.assigned (r:=.c _) rfl rfl) ?_
        refine PO.end_ (by kernel_rfl) ?_
        exact⟨id,_,rfl,⟨by refine⟨.inr rfl,.inr rfl,.inr rfl,.inr rfl,.inr rfl,trivial⟩,by refine⟨.inr rfl,.inr rfl,trivial⟩,by kernel_rfl⟩⟩
       exact trivial
      exact trivial
     exact trivial
    exact trivial
   refine allO.cons _ rfl rfl ?_ ?_
   ·refine GF.full rfl (Fa.alloc 31 (z:=.agg z20) rfl (by kernel_rfl) (by kernel_rfl) rfl rfl ?_)
    refine PO.at_ 7 [8] (by kernel_rfl) ?_
    refine allO.cons _ rfl rfl ?_ ?_
    ·refine GF.step rfl rfl rfl (PS.call (xs:=[_,_]) rfl rfl rfl rfl (fun w hw=>b4 hN w)) ?_
     refine PO.at_ 8 [] (by kernel_rfl) ?_
     refine allO.cons _ rfl rfl ?_ ?_
     ·refine GF.step rfl rfl rfl (PS.loadH (k:=20) rfl rfl rfl (row_sz (pnt_row g0)) Tryz.underlying28 rfl (by kernel_rfl)) ?_
      refine PO.at_ 9 [] (by kernel_rfl) ?_
      refine allO.cons _ rfl rfl ?_ ?_
      ·refine GF.step rfl rfl rfl (PS.call (xs:=[_,_]) rfl rfl rfl rfl (fun w hw=>m4 hN w hw)) ?_
       refine PO.take 10 rfl (by kernel_rfl) (by kernel_rfl) (by kernel_rfl) rfl rfl rfl (PU.moved (r:=.c _) rfl rfl) ?_
       refine PO.take 11 rfl (by kernel_rfl) (by kernel_rfl) (by kernel_rfl) rfl rfl rfl (PU.ext rfl rfl rfl) ?_
       refine PO.take 12 rfl (by kernel_rfl) (by kernel_rfl) (by kernel_rfl) rfl rfl rfl (PU.ext rfl rfl rfl) ?_
       refine PO.at_ 14 [] (by kernel_rfl) ?_
       refine allO.cons _ rfl rfl ?_ ?_
       ·refine GF.full rfl (Fa.storeH 20 rfl rfl rfl rfl rfl (pnt_row (ti N g0)) (by kernel_rfl) rfl ?_)
        refine PO.take 15 rfl (by kernel_rfl) (by kernel_rfl) (by kernel_rfl) rfl rfl rfl (PU.assigned (r:=.c _) rfl rfl) ?_
        refine PO.end_ (by kernel_rfl) ?_
        exact⟨id,_,rfl,⟨by refine⟨.inr rfl,.inr rfl,.inr rfl,.inr rfl,.inr rfl,trivial⟩,by refine⟨.inr rfl,.inr rfl,trivial⟩,by kernel_rfl⟩⟩
       exact trivial
      exact trivial
     exact trivial
    refine allO.cons _ rfl rfl ?_ ?_
    ·refine GF.step rfl rfl rfl (PS.loadH (k:=20) rfl rfl rfl (row_sz (pnt_row g0)) Tryz.underlying28 rfl (by kernel_rfl)) ?_
     refine PO.at_ 7 [] (by kernel_rfl) ?_
     refine allO.cons _ rfl rfl ?_ ?_
     ·refine GF.step rfl rfl rfl (PS.call (xs:=[_,_]) rfl rfl rfl rfl (fun w hw=>b4 hN w)) ?_
      refine PO.at_ 9 [] (by kernel_rfl) ?_
      refine allO.cons _ rfl rfl ?_ ?_
      ·refine GF.step rfl rfl rfl (PS.call (xs:=[_,_]) rfl rfl rfl rfl (fun w hw=>m4 hN w hw)) ?_
       refine PO.take 10 rfl (by kernel_rfl) (by kernel_rfl) (by kernel_rfl) rfl rfl rfl (PU.moved (r:=.c _) rfl rfl) ?_
       refine PO.take 11 rfl (by kernel_rfl) (by kernel_rfl) (by kernel_rfl) rfl rfl rfl (PU.ext rfl rfl rfl) ?_
       refine PO.take 12 rfl (by kernel_rfl) (by kernel_rfl) (by kernel_rfl) rfl rfl rfl (PU.ext rfl rfl rfl) ?_
       refine PO.at_ 14 [] (by kernel_rfl) ?_
       refine allO.cons _ rfl rfl ?_ ?_
       ·refine GF.full rfl (Fa.storeH 20 rfl rfl rfl rfl rfl (pnt_row (ti N g0)) (by kernel_rfl) rfl ?_)
        refine PO.take 15 rfl (by kernel_rfl) (by kernel_rfl) (by kernel_rfl) rfl rfl rfl (PU.assigned (r:=.c _) rfl rfl) ?_
        refine PO.end_ (by kernel_rfl) ?_
        exact⟨id,_,rfl,⟨by refine⟨.inr rfl,.inr rfl,.inr rfl,.inr rfl,.inr rfl,trivial⟩,by refine⟨.inr rfl,.inr rfl,trivial⟩,by kernel_rfl⟩⟩
       exact trivial
      exact trivial
     exact trivial
    exact trivial
   exact trivial
  refine allO.cons _ rfl rfl ?_ ?_
  ·refine GF.step rfl rfl rfl (PS.loadH (k:=20) rfl rfl rfl (row_sz (pnt_row g0)) Tryz.underlying28 rfl (by kernel_rfl)) ?_
   refine PO.at_ 6 [13] (by kernel_rfl) ?_
   refine allO.cons _ rfl rfl ?_ ?_
   ·refine GF.step rfl rfl rfl (PS.buildSlice (parts:=[(0,_),(1,_)]) (xs:=[_,_]) (z:=(.int .u64 0)) (bytes:=8) rfl rfl rfl Tryz.underlying32 (by kernel_rfl) rfl (by kernel_rfl) (by kernel_rfl)) ?_
    refine PO.at_ 7 [13] (by kernel_rfl) ?_
    refine allO.cons _ rfl rfl ?_ ?_
    ·refine GF.step rfl rfl rfl (PS.call (xs:=[_,_]) rfl rfl rfl rfl (fun w hw=>b4 hN w)) ?_
     refine PO.at_ 9 [13] (by kernel_rfl) ?_
     refine allO.cons _ rfl rfl ?_ ?_
     ·refine GF.step rfl rfl rfl (PS.call (xs:=[_,_]) rfl rfl rfl rfl (fun w hw=>m4 hN w hw)) ?_
      refine PO.take 10 rfl (by kernel_rfl) (by kernel_rfl) (by kernel_rfl) rfl rfl rfl (PU.moved (r:=.c _) rfl rfl) ?_
      refine PO.take 11 rfl (by kernel_rfl) (by kernel_rfl) (by kernel_rfl) rfl rfl rfl (PU.ext rfl rfl rfl) ?_
      refine PO.take 12 rfl (by kernel_rfl) (by kernel_rfl) (by kernel_rfl) rfl rfl rfl (PU.ext rfl rfl rfl) ?_
      refine PO.at_ 13 [] (by kernel_rfl) ?_
      refine allO.cons _ rfl rfl ?_ ?_
      ·refine GF.full rfl (Fa.alloc 31 (z:=.agg z20) rfl (by kernel_rfl) (by kernel_rfl) rfl rfl ?_)
       refine PO.at_ 14 [] (by kernel_rfl) ?_
       refine allO.cons _ rfl rfl ?_ ?_
       ·refine GF.full rfl (Fa.storeH 20 rfl rfl rfl rfl rfl (pnt_row (ti N g0)) (by kernel_rfl) rfl ?_)
        refine PO.take 15 rfl (by kernel_rfl) (by kernel_rfl) (by kernel_rfl) rfl rfl rfl (PU.assigned (r:=.c _) rfl rfl) ?_
        refine PO.end_ (by kernel_rfl) ?_
        exact⟨id,_,rfl,⟨by refine⟨.inr rfl,.inr rfl,.inr rfl,.inr rfl,.inr rfl,trivial⟩,by refine⟨.inr rfl,.inr rfl,trivial⟩,by kernel_rfl⟩⟩
       exact trivial
      exact trivial
     refine allO.cons _ rfl rfl ?_ ?_
     ·refine GF.full rfl (Fa.alloc 31 (z:=.agg z20) rfl (by kernel_rfl) (by kernel_rfl) rfl rfl ?_)
      refine PO.at_ 9 [] (by kernel_rfl) ?_
      refine allO.cons _ rfl rfl ?_ ?_
      ·refine GF.step rfl rfl rfl (PS.call (xs:=[_,_]) rfl rfl rfl rfl (fun w hw=>m4 hN w hw)) ?_
       refine PO.take 10 rfl (by kernel_rfl) (by kernel_rfl) (by kernel_rfl) rfl rfl rfl (PU.moved (r:=.c _) rfl rfl) ?_
       refine PO.take 11 rfl (by kernel_rfl) (by kernel_rfl) (by kernel_rfl) rfl rfl rfl (PU.ext rfl rfl rfl) ?_
       refine PO.take 12 rfl (by kernel_rfl) (by kernel_rfl) (by kernel_rfl) rfl rfl rfl (PU.ext rfl rfl rfl) ?_
       refine PO.at_ 14 [] (by kernel_rfl) ?_
       refine allO.cons _ rfl rfl ?_ ?_
       ·refine GF.full rfl (Fa.storeH 20 rfl rfl rfl rfl rfl (pnt_row (ti N g0)) (by kernel_rfl) rfl ?_)
        refine PO.take 15 rfl (by kernel_rfl) (by kernel_rfl) (by kernel_rfl) rfl rfl rfl (PU.assigned (r:=.c _) rfl rfl) ?_
        refine PO.end_ (by kernel_rfl) ?_
        exact⟨id,_,rfl,⟨by refine⟨.inr rfl,.inr rfl,.inr rfl,.inr rfl,.inr rfl,trivial⟩,by refine⟨.inr rfl,.inr rfl,trivial⟩,by kernel_rfl⟩⟩
       exact trivial
      exact trivial
     exact trivial
    refine allO.cons _ rfl rfl ?_ ?_
    ·refine GF.full rfl (Fa.alloc 31 (z:=.agg z20) rfl (by kernel_rfl) (by kernel_rfl) rfl rfl ?_)
     refine PO.at_ 7 [] (by kernel_rfl) ?_
     refine allO.cons _ rfl rfl ?_ ?_
     ·refine GF.step rfl rfl rfl (PS.call (xs:=[_,_]) rfl rfl rfl rfl (fun w hw=>b4 hN w)) ?_
      refine PO.at_ 9 [] (by kernel_rfl) ?_
      refine allO.cons _ rfl rfl ?_ ?_
      ·refine GF.step rfl rfl rfl (PS.call (xs:=[_,_]) rfl rfl rfl rfl (fun w hw=>m4 hN w hw)) ?_
       refine PO.take 10 rfl (by kernel_rfl) (by kernel_rfl) (by kernel_rfl) rfl rfl rfl (PU.moved (r:=.c _) rfl rfl) ?_
       refine PO.take 11 rfl (by kernel_rfl) (by kernel_rfl) (by kernel_rfl) rfl rfl rfl (PU.ext rfl rfl rfl) ?_
       refine PO.take 12 rfl (by kernel_rfl) (by kernel_rfl) (by kernel_rfl) rfl rfl rfl (PU.ext rfl rfl rfl) ?_
       refine PO.at_ 14 [] (by kernel_rfl) ?_
       refine allO.cons _ rfl rfl ?_ ?_
       ·refine GF.full rfl (Fa.storeH 20 rfl rfl rfl rfl rfl (pnt_row (ti N g0)) (by kernel_rfl) rfl ?_)
        refine PO.take 15 rfl (by kernel_rfl) (by kernel_rfl) (by kernel_rfl) rfl rfl rfl (PU.assigned (r:=.c _) rfl rfl) ?_
        refine PO.end_ (by kernel_rfl) ?_
        exact⟨id,_,rfl,⟨by refine⟨.inr rfl,.inr rfl,.inr rfl,.inr rfl,.inr rfl,trivial⟩,by refine⟨.inr rfl,.inr rfl,trivial⟩,by kernel_rfl⟩⟩
       exact trivial
      exact trivial
     exact trivial
    exact trivial
   refine allO.cons _ rfl rfl ?_ ?_
   ·refine GF.full rfl (Fa.alloc 31 (z:=.agg z20) rfl (by kernel_rfl) (by kernel_rfl) rfl rfl ?_)
    refine PO.at_ 6 [] (by kernel_rfl) ?_
    refine allO.cons _ rfl rfl ?_ ?_
    ·refine GF.step rfl rfl rfl (PS.buildSlice (parts:=[(0,_),(1,_)]) (xs:=[_,_]) (z:=(.int .u64 0)) (bytes:=8) rfl rfl rfl Tryz.underlying32 (by kernel_rfl) rfl (by kernel_rfl) (by kernel_rfl)) ?_
     refine PO.at_ 7 [] (by kernel_rfl) ?_
     refine allO.cons _ rfl rfl ?_ ?_
     ·refine GF.step rfl rfl rfl (PS.call (xs:=[_,_]) rfl rfl rfl rfl (fun w hw=>b4 hN w)) ?_
      refine PO.at_ 9 [] (by kernel_rfl) ?_
      refine allO.cons _ rfl rfl ?_ ?_
      ·refine GF.step rfl rfl rfl (PS.call (xs:=[_,_]) rfl rfl rfl rfl (fun w hw=>m4 hN w hw)) ?_
       refine PO.take 10 rfl (by kernel_rfl) (by kernel_rfl) (by kernel_rfl) rfl rfl rfl (PU.moved (r:=.c _) rfl rfl) ?_
       refine PO.take 11 rfl (by kernel_rfl) (by kernel_rfl) (by kernel_rfl) rfl rfl rfl (PU.ext rfl rfl rfl) ?_
       refine PO.take 12 rfl (by kernel_rfl) (by kernel_rfl) (by kernel_rfl) rfl rfl rfl (PU.ext rfl rfl rfl) ?_
       refine PO.at_ 14 [] (by kernel_rfl) ?_
       refine allO.cons _ rfl rfl ?_ ?_
       ·refine GF.full rfl (Fa.storeH 20 rfl rfl rfl rfl rfl (pnt_row (ti N g0)) (by kernel_rfl) rfl ?_)
        refine PO.take 15 rfl (by kernel_rfl) (by kernel_rfl) (by kernel_rfl) rfl rfl rfl (PU.assigned (r:=.c _) rfl rfl) ?_
        refine PO.end_ (by kernel_rfl) ?_
        exact⟨id,_,rfl,⟨by refine⟨.inr rfl,.inr rfl,.inr rfl,.inr rfl,.inr rfl,trivial⟩,by refine⟨.inr rfl,.inr rfl,trivial⟩,by kernel_rfl⟩⟩
       exact trivial
      exact trivial
     exact trivial
    exact trivial
   exact trivial
  refine allO.cons _ rfl rfl ?_ ?_
  ·refine GF.full rfl (Fa.alloc 31 (z:=.agg z20) rfl (by kernel_rfl) (by kernel_rfl) rfl rfl ?_)
   refine PO.at_ 6 [8] (by kernel_rfl) ?_
   refine allO.cons _ rfl rfl ?_ ?_
   ·refine GF.step rfl rfl rfl (PS.buildSlice (parts:=[(0,_),(1,_)]) (xs:=[_,_]) (z:=(.int .u64 0)) (bytes:=8) rfl rfl rfl Tryz.underlying32 (by kernel_rfl) rfl (by kernel_rfl) (by kernel_rfl)) ?_
    refine PO.at_ 7 [8] (by kernel_rfl) ?_
    refine allO.cons _ rfl rfl ?_ ?_
    ·refine GF.step rfl rfl rfl (PS.call (xs:=[_,_]) rfl rfl rfl rfl (fun w hw=>b4 hN w)) ?_
     refine PO.at_ 8 [] (by kernel_rfl) ?_
     refine allO.cons _ rfl rfl ?_ ?_
     ·refine GF.step rfl rfl rfl (PS.loadH (k:=20) rfl rfl rfl (row_sz (pnt_row g0)) Tryz.underlying28 rfl (by kernel_rfl)) ?_
      refine PO.at_ 9 [] (by kernel_rfl) ?_
      refine allO.cons _ rfl rfl ?_ ?_
      ·refine GF.step rfl rfl rfl (PS.call (xs:=[_,_]) rfl rfl rfl rfl (fun w hw=>m4 hN w hw)) ?_
       refine PO.take 10 rfl (by kernel_rfl) (by kernel_rfl) (by kernel_rfl) rfl rfl rfl (PU.moved (r:=.c _) rfl rfl) ?_
       refine PO.take 11 rfl (by kernel_rfl) (by kernel_rfl) (by kernel_rfl) rfl rfl rfl (PU.ext rfl rfl rfl) ?_
       refine PO.take 12 rfl (by kernel_rfl) (by kernel_rfl) (by kernel_rfl) rfl rfl rfl (PU.ext rfl rfl rfl) ?_
       refine PO.at_ 14 [] (by kernel_rfl) ?_
       refine allO.cons _ rfl rfl ?_ ?_
       ·refine GF.full rfl (Fa.storeH 20 rfl rfl rfl rfl rfl (pnt_row (ti N g0)) (by kernel_rfl) rfl ?_)
        refine PO.take 15 rfl (by kernel_rfl) (by kernel_rfl) (by kernel_rfl) rfl rfl rfl (PU.assigned (r:=.c _) rfl rfl) ?_
        refine PO.end_ (by kernel_rfl) ?_
        exact⟨id,_,rfl,⟨by refine⟨.inr rfl,.inr rfl,.inr rfl,.inr rfl,.inr rfl,trivial⟩,by refine⟨.inr rfl,.inr rfl,trivial⟩,by kernel_rfl⟩⟩
       exact trivial
      exact trivial
     exact trivial
    refine allO.cons _ rfl rfl ?_ ?_
    ·refine GF.step rfl rfl rfl (PS.loadH (k:=20) rfl rfl rfl (row_sz (pnt_row g0)) Tryz.underlying28 rfl (by kernel_rfl)) ?_
     refine PO.at_ 7 [] (by kernel_rfl) ?_
     refine allO.cons _ rfl rfl ?_ ?_
     ·refine GF.step rfl rfl rfl (PS.call (xs:=[_,_]) rfl rfl rfl rfl (fun w hw=>b4 hN w)) ?_
      refine PO.at_ 9 [] (by kernel_rfl) ?_
      refine allO.cons _ rfl rfl ?_ ?_
      ·refine GF.step rfl rfl rfl (PS.call (xs:=[_,_]) rfl rfl rfl rfl (fun w hw=>m4 hN w hw)) ?_
       refine PO.take 10 rfl (by kernel_rfl) (by kernel_rfl) (by kernel_rfl) rfl rfl rfl (PU.moved (r:=.c _) rfl rfl) ?_
       refine PO.take 11 rfl (by kernel_rfl) (by kernel_rfl) (by kernel_rfl) rfl rfl rfl (PU.ext rfl rfl rfl) ?_
       refine PO.take 12 rfl (by kernel_rfl) (by kernel_rfl) (by kernel_rfl) rfl rfl rfl (PU.ext rfl rfl rfl) ?_
       refine PO.at_ 14 [] (by kernel_rfl) ?_
       refine allO.cons _ rfl rfl ?_ ?_
       ·refine GF.full rfl (Fa.storeH 20 rfl rfl rfl rfl rfl (pnt_row (ti N g0)) (by kernel_rfl) rfl ?_)
        refine PO.take 15 rfl (by kernel_rfl) (by kernel_rfl) (by kernel_rfl) rfl rfl rfl (PU.assigned (r:=.c _) rfl rfl) ?_
        refine PO.end_ (by kernel_rfl) ?_
        exact⟨id,_,rfl,⟨by refine⟨.inr rfl,.inr rfl,.inr rfl,.inr rfl,.inr rfl,trivial⟩,by refine⟨.inr rfl,.inr rfl,trivial⟩,by kernel_rfl⟩⟩
       exact trivial
      exact trivial
     exact trivial
    exact trivial
   refine allO.cons _ rfl rfl ?_ ?_
   ·refine GF.step rfl rfl rfl (PS.loadH (k:=20) rfl rfl rfl (row_sz (pnt_row g0)) Tryz.underlying28 rfl (by kernel_rfl)) ?_
    refine PO.at_ 6 [] (by kernel_rfl) ?_
    refine allO.cons _ rfl rfl ?_ ?_
    ·refine GF.step rfl rfl rfl (PS.buildSlice (parts:=[(0,_),(1,_)]) (xs:=[_,_]) (z:=(.int .u64 0)) (bytes:=8) rfl rfl rfl Tryz.underlying32 (by kernel_rfl) rfl (by kernel_rfl) (by kernel_rfl)) ?_
     refine PO.at_ 7 [] (by kernel_rfl) ?_
     refine allO.cons _ rfl rfl ?_ ?_
     ·refine GF.step rfl rfl rfl (PS.call (xs:=[_,_]) rfl rfl rfl rfl (fun w hw=>b4 hN w)) ?_
      refine PO.at_ 9 [] (by kernel_rfl) ?_
      refine allO.cons _ rfl rfl ?_ ?_
      ·refine GF.step rfl rfl rfl (PS.call (xs:=[_,_]) rfl rfl rfl rfl (fun w hw=>m4 hN w hw)) ?_
       refine PO.take 10 rfl (by kernel_rfl) (by kernel_rfl) (by kernel_rfl) rfl rfl rfl (PU.moved (r:=.c _) rfl rfl) ?_
       refine PO.take 11 rfl (by kernel_rfl) (by kernel_rfl) (by kernel_rfl) rfl rfl rfl (PU.ext rfl rfl rfl) ?_
       refine PO.take 12 rfl (by kernel_rfl) (by kernel_rfl) (by kernel_rfl) rfl rfl rfl (PU.ext rfl rfl rfl) ?_
       refine PO.at_ 14 [] (by kernel_rfl) ?_
       refine allO.cons _ rfl rfl ?_ ?_
       ·refine GF.full rfl (Fa.storeH 20 rfl rfl rfl rfl rfl (pnt_row (ti N g0)) (by kernel_rfl) rfl ?_)
        refine PO.take 15 rfl (by kernel_rfl) (by kernel_rfl) (by kernel_rfl) rfl rfl rfl (PU.assigned (r:=.c _) rfl rfl) ?_
        refine PO.end_ (by kernel_rfl) ?_
        exact⟨id,_,rfl,⟨by refine⟨.inr rfl,.inr rfl,.inr rfl,.inr rfl,.inr rfl,trivial⟩,by refine⟨.inr rfl,.inr rfl,trivial⟩,by kernel_rfl⟩⟩
       exact trivial
      exact trivial
     exact trivial
    exact trivial
   exact trivial
  exact trivial
 ·skip
  rintro σm rfl
  refine(PW.cut (fun σm=>σm=⟨[(12,L (.int .i64 0)),(11,.c (.ptr 32 0)),(10,L (.int .i64 0)),(9,.c (.ptr 31 0)),(7,.c (.ptr 1 0)),(2,L (.int .u32 (M:Int))),(1,L (.int .u32 (N:Int)))],[(32,.whole false 28 (pnt (ti M g0))),(31,.whole false 28 (pnt (ti N g0))),(1,.whole false 28 (pnt g0))]⟩) ?_ ?_:PW _ _ _ _)
  ·skip
   refine(PW.orders (by kernel_rfl) ?_:PW _ _ _ _)
   refine PO.take 0 rfl (by kernel_rfl) (by kernel_rfl) (by kernel_rfl) rfl rfl rfl (PU.moved (r:=.c _) rfl rfl) ?_
   refine PO.take 1 rfl (by kernel_rfl) (by kernel_rfl) (by kernel_rfl) rfl rfl rfl (PU.convI ((M:Nat):Int) rfl rfl Tryz.underlying64 Tryz.underlying24 (wu64 (by omega))) ?_
   refine PO.take 2 rfl (by kernel_rfl) (by kernel_rfl) (by kernel_rfl) rfl rfl rfl (PU.remN (a:=M) (b:=65536) rfl rfl rfl (by decide)) ?_
   refine PO.take 3 rfl (by kernel_rfl) (by kernel_rfl) (by kernel_rfl) rfl rfl rfl (PU.moved (r:=.c _) rfl rfl) ?_
   refine PO.take 4 rfl (by kernel_rfl) (by kernel_rfl) (by kernel_rfl) rfl rfl rfl (PU.convI ((M:Nat):Int) rfl rfl Tryz.underlying64 Tryz.underlying24 (wu64 (by omega))) ?_
   refine PO.take 5 rfl (by kernel_rfl) (by kernel_rfl) (by kernel_rfl) rfl rfl rfl (PU.quoN (a:=M) (b:=65536) rfl rfl rfl (by decide) (wu64 (by omega))) ?_
   refine PO.at_ 6 [8,13] (by kernel_rfl) ?_
   refine allO.cons _ rfl rfl ?_ ?_
   ·refine GF.step rfl rfl rfl (PS.buildSlice (parts:=[(0,_),(1,_)]) (xs:=[_,_]) (z:=(.int .u64 0)) (bytes:=8) rfl rfl rfl Tryz.underlying32 (by kernel_rfl) rfl (by kernel_rfl) (by kernel_rfl)) ?_
    refine PO.at_ 7 [8,13] (by kernel_rfl) ?_
    refine allO.cons _ rfl rfl ?_ ?_
    ·refine GF.step rfl rfl rfl (PS.call (xs:=[_,_]) rfl rfl rfl rfl (fun w hw=>b4 hM w)) ?_
     refine PO.at_ 8 [13] (by kernel_rfl) ?_
     refine allO.cons _ rfl rfl ?_ ?_
     ·refine GF.step rfl rfl rfl (PS.loadH (k:=20) rfl rfl rfl (row_sz (pnt_row g0)) Tryz.underlying28 rfl (by kernel_rfl)) ?_
      refine PO.at_ 9 [13] (by kernel_rfl) ?_
      refine allO.cons _ rfl rfl ?_ ?_
      ·refine GF.step rfl rfl rfl (PS.call (xs:=[_,_]) rfl rfl rfl rfl (fun w hw=>m4 hM w hw)) ?_
       refine PO.take 10 rfl (by kernel_rfl) (by kernel_rfl) (by kernel_rfl) rfl rfl rfl (PU.moved (r:=.c _) rfl rfl) ?_
       refine PO.take 11 rfl (by kernel_rfl) (by kernel_rfl) (by kernel_rfl) rfl rfl rfl (PU.ext rfl rfl rfl) ?_
       refine PO.take 12 rfl (by kernel_rfl) (by kernel_rfl) (by kernel_rfl) rfl rfl rfl (PU.ext rfl rfl rfl) ?_
       refine PO.at_ 13 [] (by kernel_rfl) ?_
       refine allO.cons _ rfl rfl ?_ ?_
       ·refine GF.full rfl (Fa.alloc 32 (z:=.agg z20) rfl (by kernel_rfl) (by kernel_rfl) rfl rfl ?_)
        refine PO.at_ 14 [] (by kernel_rfl) ?_
        refine allO.cons _ rfl rfl ?_ ?_
        ·refine GF.full rfl (Fa.storeH 20 rfl rfl rfl rfl rfl (pnt_row (ti M g0)) (by kernel_rfl) rfl ?_)
         refine PO.take 15 rfl (by kernel_rfl) (by kernel_rfl) (by kernel_rfl) rfl rfl rfl (PU.assigned (r:=.c _) rfl rfl) ?_
         refine PO.end_ (by kernel_rfl) ?_
         exact⟨id,_,rfl,⟨by refine⟨.inr rfl,.inr rfl,.inr rfl,.inr rfl,.inr rfl,.inr rfl,.inr rfl,trivial⟩,by refine⟨.inr rfl,.inr rfl,.inr rfl,trivial⟩,by kernel_rfl⟩⟩
        exact trivial
       exact trivial
      refine allO.cons _ rfl rfl ?_ ?_
      ·refine GF.full rfl (Fa.alloc 32 (z:=.agg z20) rfl (by kernel_rfl) (by kernel_rfl) rfl rfl ?_)
       refine PO.at_ 9 [] (by kernel_rfl) ?_
       refine allO.cons _ rfl rfl ?_ ?_
       ·refine GF.step rfl rfl rfl (PS.call (xs:=[_,_]) rfl rfl rfl rfl (fun w hw=>m4 hM w hw)) ?_
        refine PO.take 10 rfl (by kernel_rfl) (by kernel_rfl) (by kernel_rfl) rfl rfl rfl (PU.moved (r:=.c _) rfl rfl) ?_
        refine PO.take 11 rfl (by kernel_rfl) (by kernel_rfl) (by kernel_rfl) rfl rfl rfl (PU.ext rfl rfl rfl) ?_
        refine PO.take 12 rfl (by kernel_rfl) (by kernel_rfl) (by kernel_rfl) rfl rfl rfl (PU.ext rfl rfl rfl) ?_
        refine PO.at_ 14 [] (by kernel_rfl) ?_
        refine allO.cons _ rfl rfl ?_ ?_
        ·refine GF.full rfl (Fa.storeH 20 rfl rfl rfl rfl rfl (pnt_row (ti M g0)) (by kernel_rfl) rfl ?_)
         refine PO.take 15 rfl (by kernel_rfl) (by kernel_rfl) (by kernel_rfl) rfl rfl rfl (PU.assigned (r:=.c _) rfl rfl) ?_
         refine PO.end_ (by kernel_rfl) ?_
         exact⟨id,_,rfl,⟨by refine⟨.inr rfl,.inr rfl,.inr rfl,.inr rfl,.inr rfl,.inr rfl,.inr rfl,trivial⟩,by refine⟨.inr rfl,.inr rfl,.inr rfl,trivial⟩,by kernel_rfl⟩⟩
        exact trivial
       exact trivial
      exact trivial
     refine allO.cons _ rfl rfl ?_ ?_
     ·refine GF.full rfl (Fa.alloc 32 (z:=.agg z20) rfl (by kernel_rfl) (by kernel_rfl) rfl rfl ?_)
      refine PO.at_ 8 [] (by kernel_rfl) ?_
      refine allO.cons _ rfl rfl ?_ ?_
      ·refine GF.step rfl rfl rfl (PS.loadH (k:=20) rfl rfl rfl (row_sz (pnt_row g0)) Tryz.underlying28 rfl (by kernel_rfl)) ?_
       refine PO.at_ 9 [] (by kernel_rfl) ?_
       refine allO.cons _ rfl rfl ?_ ?_
       ·refine GF.step rfl rfl rfl (PS.call (xs:=[_,_]) rfl rfl rfl rfl (fun w hw=>m4 hM w hw)) ?_
        refine PO.take 10 rfl (by kernel_rfl) (by kernel_rfl) (by kernel_rfl) rfl rfl rfl (PU.moved (r:=.c _) rfl rfl) ?_
        refine PO.take 11 rfl (by kernel_rfl) (by kernel_rfl) (by kernel_rfl) rfl rfl rfl (PU.ext rfl rfl rfl) ?_
        refine PO.take 12 rfl (by kernel_rfl) (by kernel_rfl) (by kernel_rfl) rfl rfl rfl (PU.ext rfl rfl rfl) ?_
        refine PO.at_ 14 [] (by kernel_rfl) ?_
        refine allO.cons _ rfl rfl ?_ ?_
        ·refine GF.full rfl (Fa.storeH 20 rfl rfl rfl rfl rfl (pnt_row (ti M g0)) (by kernel_rfl) rfl ?_)
         refine PO.take 15 rfl (by kernel_rfl) (by kernel_rfl) (by kernel_rfl) rfl rfl rfl (PU.assigned (r:=.c _) rfl rfl) ?_
         refine PO.end_ (by kernel_rfl) ?_
         exact⟨id,_,rfl,⟨by refine⟨.inr rfl,.inr rfl,.inr rfl,.inr rfl,.inr rfl,.inr rfl,.inr rfl,trivial⟩,by refine⟨.inr rfl,.inr rfl,.inr rfl,trivial⟩,by kernel_rfl⟩⟩
        exact trivial
       exact trivial
      exact trivial
     exact trivial
    refine allO.cons _ rfl rfl ?_ ?_
    ·refine GF.step rfl rfl rfl (PS.loadH (k:=20) rfl rfl rfl (row_sz (pnt_row g0)) Tryz.underlying28 rfl (by kernel_rfl)) ?_
     refine PO.at_ 7 [13] (by kernel_rfl) ?_
     refine allO.cons _ rfl rfl ?_ ?_
     ·refine GF.step rfl rfl rfl (PS.call (xs:=[_,_]) rfl rfl rfl rfl (fun w hw=>b4 hM w)) ?_
      refine PO.at_ 9 [13] (by kernel_rfl) ?_
      refine allO.cons _ rfl rfl ?_ ?_
      ·refine GF.step rfl rfl rfl (PS.call (xs:=[_,_]) rfl rfl rfl rfl (fun w hw=>m4 hM w hw)) ?_
       refine PO.take 10 rfl (by kernel_rfl) (by kernel_rfl) (by kernel_rfl) rfl rfl rfl (PU.moved (r:=.c _) rfl rfl) ?_
       refine PO.take 11 rfl (by kernel_rfl) (by kernel_rfl) (by kernel_rfl) rfl rfl rfl (PU.ext rfl rfl rfl) ?_
       refine PO.take 12 rfl (by kernel_rfl) (by kernel_rfl) (by kernel_rfl) rfl rfl rfl (PU.ext rfl rfl rfl) ?_
       refine PO.at_ 13 [] (by kernel_rfl) ?_
       refine allO.cons _ rfl rfl ?_ ?_
       ·refine GF.full rfl (Fa.alloc 32 (z:=.agg z20) rfl (by kernel_rfl) (by kernel_rfl) rfl rfl ?_)
        refine PO.at_ 14 [] (by kernel_rfl) ?_
        refine allO.cons _ rfl rfl ?_ ?_
        ·refine GF.full rfl (Fa.storeH 20 rfl rfl rfl rfl rfl (pnt_row (ti M g0)) (by kernel_rfl) rfl ?_)
         refine PO.take 15 rfl (by kernel_rfl) (by kernel_rfl) (by kernel_rfl) rfl rfl rfl (PU.assigned (r:=.c _) rfl rfl) ?_
         refine PO.end_ (by kernel_rfl) ?_
         exact⟨id,_,rfl,⟨by refine⟨.inr rfl,.inr rfl,.inr rfl,.inr rfl,.inr rfl,.inr rfl,.inr rfl,trivial⟩,by refine⟨.inr rfl,.inr rfl,.inr rfl,trivial⟩,by kernel_rfl⟩⟩
        exact trivial
       exact trivial
      refine allO.cons _ rfl rfl ?_ ?_
      ·refine GF.full rfl (Fa.alloc 32 (z:=.agg z20) rfl (by kernel_rfl) (by kernel_rfl) rfl rfl ?_)
       refine PO.at_ 9 [] (by kernel_rfl) ?_
       refine allO.cons _ rfl rfl ?_ ?_
       ·refine GF.step rfl rfl rfl (PS.call (xs:=[_,_]) rfl rfl rfl rfl (fun w hw=>m4 hM w hw)) ?_
        refine PO.take 10 rfl (by kernel_rfl) (by kernel_rfl) (by kernel_rfl) rfl rfl rfl (PU.moved (r:=.c _) rfl rfl) ?_
        refine PO.take 11 rfl (by kernel_rfl) (by kernel_rfl) (by kernel_rfl) rfl rfl rfl (PU.ext rfl rfl rfl) ?_
        refine PO.take 12 rfl (by kernel_rfl) (by kernel_rfl) (by kernel_rfl) rfl rfl rfl (PU.ext rfl rfl rfl) ?_
        refine PO.at_ 14 [] (by kernel_rfl) ?_
        refine allO.cons _ rfl rfl ?_ ?_
        ·refine GF.full rfl (Fa.storeH 20 rfl rfl rfl rfl rfl (pnt_row (ti M g0)) (by kernel_rfl) rfl ?_)
         refine PO.take 15 rfl (by kernel_rfl) (by kernel_rfl) (by kernel_rfl) rfl rfl rfl (PU.assigned (r:=.c _) rfl rfl) ?_
         refine PO.end_ (by kernel_rfl) ?_
         exact⟨id,_,rfl,⟨by refine⟨.inr rfl,.inr rfl,.inr rfl,.inr rfl,.inr rfl,.inr rfl,.inr rfl,trivial⟩,by refine⟨.inr rfl,.inr rfl,.inr rfl,trivial⟩,by kernel_rfl⟩⟩
        exact trivial
       exact trivial
      exact trivial
     refine allO.cons _ rfl rfl ?_ ?_
     ·refine GF.full rfl (Fa.alloc 32 (z:=.agg z20) rfl (by kernel_rfl) (by kernel_rfl) rfl rfl ?_)
      refine PO.at_ 7 [] (by kernel_rfl) ?_
      refine allO.cons _ rfl rfl ?_ ?_
      ·refine GF.step rfl rfl rfl (PS.call (xs:=[_,_]) rfl rfl rfl rfl (fun w hw=>b4 hM w)) ?_
       refine PO.at_ 9 [] (by kernel_rfl) ?_
       refine allO.cons _ rfl rfl ?_ ?_
       ·refine GF.step rfl rfl rfl (PS.call (xs:=[_,_]) rfl rfl rfl rfl (fun w hw=>m4 hM w hw)) ?_
        refine PO.take 10 rfl (by kernel_rfl) (by kernel_rfl) (by kernel_rfl) rfl rfl rfl (PU.moved (r:=.c _) rfl rfl) ?_
        refine PO.take 11 rfl (by kernel_rfl) (by kernel_rfl) (by kernel_rfl) rfl rfl rfl (PU.ext rfl rfl rfl) ?_
        refine PO.take 12 rfl (by kernel_rfl) (by kernel_rfl) (by kernel_rfl) rfl rfl rfl (PU.ext rfl rfl rfl) ?_
        refine PO.at_ 14 [] (by kernel_rfl) ?_
        refine allO.cons _ rfl rfl ?_ ?_
        ·refine GF.full rfl (Fa.storeH 20 rfl rfl rfl rfl rfl (pnt_row (ti M g0)) (by kernel_rfl) rfl ?_)
         refine PO.take 15 rfl (by kernel_rfl) (by kernel_rfl) (by kernel_rfl) rfl rfl rfl (PU.assigned (r:=.c _) rfl rfl) ?_
         refine PO.end_ (by kernel_rfl) ?_
         exact⟨id,_,rfl,⟨by refine⟨.inr rfl,.inr rfl,.inr rfl,.inr rfl,.inr rfl,.inr rfl,.inr rfl,trivial⟩,by refine⟨.inr rfl,.inr rfl,.inr rfl,trivial⟩,by kernel_rfl⟩⟩
        exact trivial
       exact trivial
      exact trivial
     exact trivial
    refine allO.cons _ rfl rfl ?_ ?_
    ·refine GF.full rfl (Fa.alloc 32 (z:=.agg z20) rfl (by kernel_rfl) (by kernel_rfl) rfl rfl ?_)
     refine PO.at_ 7 [8] (by kernel_rfl) ?_
     refine allO.cons _ rfl rfl ?_ ?_
     ·refine GF.step rfl rfl rfl (PS.call (xs:=[_,_]) rfl rfl rfl rfl (fun w hw=>b4 hM w)) ?_
      refine PO.at_ 8 [] (by kernel_rfl) ?_
      refine allO.cons _ rfl rfl ?_ ?_
      ·refine GF.step rfl rfl rfl (PS.loadH (k:=20) rfl rfl rfl (row_sz (pnt_row g0)) Tryz.underlying28 rfl (by kernel_rfl)) ?_
       refine PO.at_ 9 [] (by kernel_rfl) ?_
       refine allO.cons _ rfl rfl ?_ ?_
       ·refine GF.step rfl rfl rfl (PS.call (xs:=[_,_]) rfl rfl rfl rfl (fun w hw=>m4 hM w hw)) ?_
        refine PO.take 10 rfl (by kernel_rfl) (by kernel_rfl) (by kernel_rfl) rfl rfl rfl (PU.moved (r:=.c _) rfl rfl) ?_
        refine PO.take 11 rfl (by kernel_rfl) (by kernel_rfl) (by kernel_rfl) rfl rfl rfl (PU.ext rfl rfl rfl) ?_
        refine PO.take 12 rfl (by kernel_rfl) (by kernel_rfl) (by kernel_rfl) rfl rfl rfl (PU.ext rfl rfl rfl) ?_
        refine PO.at_ 14 [] (by kernel_rfl) ?_
        refine allO.cons _ rfl rfl ?_ ?_
        ·refine GF.full rfl (Fa.storeH 20 rfl rfl rfl rfl rfl (pnt_row (ti M g0)) (by kernel_rfl) rfl ?_)
         refine PO.take 15 rfl (by kernel_rfl) (by kernel_rfl) (by kernel_rfl) rfl rfl rfl (PU.assigned (r:=.c _) rfl rfl) ?_
         refine PO.end_ (by kernel_rfl) ?_
         exact⟨id,_,rfl,⟨by refine⟨.inr rfl,.inr rfl,.inr rfl,.inr rfl,.inr rfl,.inr rfl,.inr rfl,trivial⟩,by refine⟨.inr rfl,.inr rfl,.inr rfl,trivial⟩,by kernel_rfl⟩⟩
        exact trivial
       exact trivial
      exact trivial
     refine allO.cons _ rfl rfl ?_ ?_
     ·refine GF.step rfl rfl rfl (PS.loadH (k:=20) rfl rfl rfl (row_sz (pnt_row g0)) Tryz.underlying28 rfl (by kernel_rfl)) ?_
      refine PO.at_ 7 [] (by kernel_rfl) ?_
      refine allO.cons _ rfl rfl ?_ ?_
      ·refine GF.step rfl rfl rfl (PS.call (xs:=[_,_]) rfl rfl rfl rfl (fun w hw=>b4 hM w)) ?_
       refine PO.at_ 9 [] (by kernel_rfl) ?_
       refine allO.cons _ rfl rfl ?_ ?_
       ·refine GF.step rfl rfl rfl (PS.call (xs:=[_,_]) rfl rfl rfl rfl (fun w hw=>m4 hM w hw)) ?_
        refine PO.take 10 rfl (by kernel_rfl) (by kernel_rfl) (by kernel_rfl) rfl rfl rfl (PU.moved (r:=.c _) rfl rfl) ?_
        refine PO.take 11 rfl (by kernel_rfl) (by kernel_rfl) (by kernel_rfl) rfl rfl rfl (PU.ext rfl rfl rfl) ?_
        refine PO.take 12 rfl (by kernel_rfl) (by kernel_rfl) (by kernel_rfl) rfl rfl rfl (PU.ext rfl rfl rfl) ?_
        refine PO.at_ 14 [] (by kernel_rfl) ?_
        refine allO.cons _ rfl rfl ?_ ?_
        ·refine GF.full rfl (Fa.storeH 20 rfl rfl rfl rfl rfl (pnt_row (ti M g0)) (by kernel_rfl) rfl ?_)
         refine PO.take 15 rfl (by kernel_rfl) (by kernel_rfl) (by kernel_rfl) rfl rfl rfl (PU.assigned (r:=.c _) rfl rfl) ?_
         refine PO.end_ (by kernel_rfl) ?_
         exact⟨id,_,rfl,⟨by refine⟨.inr rfl,.inr rfl,.inr rfl,.inr rfl,.inr rfl,.inr rfl,.inr rfl,trivial⟩,by refine⟨.inr rfl,.inr rfl,.inr rfl,trivial⟩,by kernel_rfl⟩⟩
        exact trivial
       exact trivial
      exact trivial
     exact trivial
    exact trivial
   refine allO.cons _ rfl rfl ?_ ?_
   ·refine GF.step rfl rfl rfl (PS.loadH (k:=20) rfl rfl rfl (row_sz (pnt_row g0)) Tryz.underlying28 rfl (by kernel_rfl)) ?_
    refine PO.at_ 6 [13] (by kernel_rfl) ?_
    refine allO.cons _ rfl rfl ?_ ?_
    ·refine GF.step rfl rfl rfl (PS.buildSlice (parts:=[(0,_),(1,_)]) (xs:=[_,_]) (z:=(.int .u64 0)) (bytes:=8) rfl rfl rfl Tryz.underlying32 (by kernel_rfl) rfl (by kernel_rfl) (by kernel_rfl)) ?_
     refine PO.at_ 7 [13] (by kernel_rfl) ?_
     refine allO.cons _ rfl rfl ?_ ?_
     ·refine GF.step rfl rfl rfl (PS.call (xs:=[_,_]) rfl rfl rfl rfl (fun w hw=>b4 hM w)) ?_
      refine PO.at_ 9 [13] (by kernel_rfl) ?_
      refine allO.cons _ rfl rfl ?_ ?_
      ·refine GF.step rfl rfl rfl (PS.call (xs:=[_,_]) rfl rfl rfl rfl (fun w hw=>m4 hM w hw)) ?_
       refine PO.take 10 rfl (by kernel_rfl) (by kernel_rfl) (by kernel_rfl) rfl rfl rfl (PU.moved (r:=.c _) rfl rfl) ?_
       refine PO.take 11 rfl (by kernel_rfl) (by kernel_rfl) (by kernel_rfl) rfl rfl rfl (PU.ext rfl rfl rfl) ?_
       refine PO.take 12 rfl (by kernel_rfl) (by kernel_rfl) (by kernel_rfl) rfl rfl rfl (PU.ext rfl rfl rfl) ?_
       refine PO.at_ 13 [] (by kernel_rfl) ?_
       refine allO.cons _ rfl rfl ?_ ?_
       ·refine GF.full rfl (Fa.alloc 32 (z:=.agg z20) rfl (by kernel_rfl) (by kernel_rfl) rfl rfl ?_)
        refine PO.at_ 14 [] (by kernel_rfl) ?_
        refine allO.cons _ rfl rfl ?_ ?_
        ·refine GF.full rfl (Fa.storeH 20 rfl rfl rfl rfl rfl (pnt_row (ti M g0)) (by kernel_rfl) rfl ?_)
         refine PO.take 15 rfl (by kernel_rfl) (by kernel_rfl) (by kernel_rfl) rfl rfl rfl (PU.assigned (r:=.c _) rfl rfl) ?_
         refine PO.end_ (by kernel_rfl) ?_
         exact⟨id,_,rfl,⟨by refine⟨.inr rfl,.inr rfl,.inr rfl,.inr rfl,.inr rfl,.inr rfl,.inr rfl,trivial⟩,by refine⟨.inr rfl,.inr rfl,.inr rfl,trivial⟩,by kernel_rfl⟩⟩
        exact trivial
       exact trivial
      refine allO.cons _ rfl rfl ?_ ?_
      ·refine GF.full rfl (Fa.alloc 32 (z:=.agg z20) rfl (by kernel_rfl) (by kernel_rfl) rfl rfl ?_)
       refine PO.at_ 9 [] (by kernel_rfl) ?_
       refine allO.cons _ rfl rfl ?_ ?_
       ·refine GF.step rfl rfl rfl (PS.call (xs:=[_,_]) rfl rfl rfl rfl (fun w hw=>m4 hM w hw)) ?_
        refine PO.take 10 rfl (by kernel_rfl) (by kernel_rfl) (by kernel_rfl) rfl rfl rfl (PU.moved (r:=.c _) rfl rfl) ?_
        refine PO.take 11 rfl (by kernel_rfl) (by kernel_rfl) (by kernel_rfl) rfl rfl rfl (PU.ext rfl rfl rfl) ?_
        refine PO.take 12 rfl (by kernel_rfl) (by kernel_rfl) (by kernel_rfl) rfl rfl rfl (PU.ext rfl rfl rfl) ?_
        refine PO.at_ 14 [] (by kernel_rfl) ?_
        refine allO.cons _ rfl rfl ?_ ?_
        ·refine GF.full rfl (Fa.storeH 20 rfl rfl rfl rfl rfl (pnt_row (ti M g0)) (by kernel_rfl) rfl ?_)
         refine PO.take 15 rfl (by kernel_rfl) (by kernel_rfl) (by kernel_rfl) rfl rfl rfl (PU.assigned (r:=.c _) rfl rfl) ?_
         refine PO.end_ (by kernel_rfl) ?_
         exact⟨id,_,rfl,⟨by refine⟨.inr rfl,.inr rfl,.inr rfl,.inr rfl,.inr rfl,.inr rfl,.inr rfl,trivial⟩,by refine⟨.inr rfl,.inr rfl,.inr rfl,trivial⟩,by kernel_rfl⟩⟩
        exact trivial
       exact trivial
      exact trivial
     refine allO.cons _ rfl rfl ?_ ?_
     ·refine GF.full rfl (Fa.alloc 32 (z:=.agg z20) rfl (by kernel_rfl) (by kernel_rfl) rfl rfl ?_)
      refine PO.at_ 7 [] (by kernel_rfl) ?_
      refine allO.cons _ rfl rfl ?_ ?_
      ·refine GF.step rfl rfl rfl (PS.call (xs:=[_,_]) rfl rfl rfl rfl (fun w hw=>b4 hM w)) ?_
       refine PO.at_ 9 [] (by kernel_rfl) ?_
       refine allO.cons _ rfl rfl ?_ ?_
       ·refine GF.step rfl rfl rfl (PS.call (xs:=[_,_]) rfl rfl rfl rfl (fun w hw=>m4 hM w hw)) ?_
        refine PO.take 10 rfl (by kernel_rfl) (by kernel_rfl) (by kernel_rfl) rfl rfl rfl (PU.moved (r:=.c _) rfl rfl) ?_
        refine PO.take 11 rfl (by kernel_rfl) (by kernel_rfl) (by kernel_rfl) rfl rfl rfl (PU.ext rfl rfl rfl) ?_
        refine PO.take 12 rfl (by kernel_rfl) (by kernel_rfl) (by kernel_rfl) rfl rfl rfl (PU.ext rfl rfl rfl) ?_
        refine PO.at_ 14 [] (by kernel_rfl) ?_
        refine allO.cons _ rfl rfl ?_ ?_
        ·refine GF.full rfl (Fa.storeH 20 rfl rfl rfl rfl rfl (pnt_row (ti M g0)) (by kernel_rfl) rfl ?_)
         refine PO.take 15 rfl (by kernel_rfl) (by kernel_rfl) (by kernel_rfl) rfl rfl rfl (PU.assigned (r:=.c _) rfl rfl) ?_
         refine PO.end_ (by kernel_rfl) ?_
         exact⟨id,_,rfl,⟨by refine⟨.inr rfl,.inr rfl,.inr rfl,.inr rfl,.inr rfl,.inr rfl,.inr rfl,trivial⟩,by refine⟨.inr rfl,.inr rfl,.inr rfl,trivial⟩,by kernel_rfl⟩⟩
        exact trivial
       exact trivial
      exact trivial
     exact trivial
    refine allO.cons _ rfl rfl ?_ ?_
    ·refine GF.full rfl (Fa.alloc 32 (z:=.agg z20) rfl (by kernel_rfl) (by kernel_rfl) rfl rfl ?_)
     refine PO.at_ 6 [] (by kernel_rfl) ?_
     refine allO.cons _ rfl rfl ?_ ?_
     ·refine GF.step rfl rfl rfl (PS.buildSlice (parts:=[(0,_),(1,_)]) (xs:=[_,_]) (z:=(.int .u64 0)) (bytes:=8) rfl rfl rfl Tryz.underlying32 (by kernel_rfl) rfl (by kernel_rfl) (by kernel_rfl)) ?_
      refine PO.at_ 7 [] (by kernel_rfl) ?_
      refine allO.cons _ rfl rfl ?_ ?_
      ·refine GF.step rfl rfl rfl (PS.call (xs:=[_,_]) rfl rfl rfl rfl (fun w hw=>b4 hM w)) ?_
       refine PO.at_ 9 [] (by kernel_rfl) ?_
       refine allO.cons _ rfl rfl ?_ ?_
       ·refine GF.step rfl rfl rfl (PS.call (xs:=[_,_]) rfl rfl rfl rfl (fun w hw=>m4 hM w hw)) ?_
        refine PO.take 10 rfl (by kernel_rfl) (by kernel_rfl) (by kernel_rfl) rfl rfl rfl (PU.moved (r:=.c _) rfl rfl) ?_
        refine PO.take 11 rfl (by kernel_rfl) (by kernel_rfl) (by kernel_rfl) rfl rfl rfl (PU.ext rfl rfl rfl) ?_
        refine PO.take 12 rfl (by kernel_rfl) (by kernel_rfl) (by kernel_rfl) rfl rfl rfl (PU.ext rfl rfl rfl) ?_
        refine PO.at_ 14 [] (by kernel_rfl) ?_
        refine allO.cons _ rfl rfl ?_ ?_
        ·refine GF.full rfl (Fa.storeH 20 rfl rfl rfl rfl rfl (pnt_row (ti M g0)) (by kernel_rfl) rfl ?_)
         refine PO.take 15 rfl (by kernel_rfl) (by kernel_rfl) (by kernel_rfl) rfl rfl rfl (PU.assigned (r:=.c _) rfl rfl) ?_
         refine PO.end_ (by kernel_rfl) ?_
         exact⟨id,_,rfl,⟨by refine⟨.inr rfl,.inr rfl,.inr rfl,.inr rfl,.inr rfl,.inr rfl,.inr rfl,trivial⟩,by refine⟨.inr rfl,.inr rfl,.inr rfl,trivial⟩,by kernel_rfl⟩⟩
        exact trivial
       exact trivial
      exact trivial
     exact trivial
    exact trivial
   refine allO.cons _ rfl rfl ?_ ?_
   ·refine GF.full rfl (Fa.alloc 32 (z:=.agg z20) rfl (by kernel_rfl) (by kernel_rfl) rfl rfl ?_)
    refine PO.at_ 6 [8] (by kernel_rfl) ?_
    refine allO.cons _ rfl rfl ?_ ?_
    ·refine GF.step rfl rfl rfl (PS.buildSlice (parts:=[(0,_),(1,_)]) (xs:=[_,_]) (z:=(.int .u64 0)) (bytes:=8) rfl rfl rfl Tryz.underlying32 (by kernel_rfl) rfl (by kernel_rfl) (by kernel_rfl)) ?_
     refine PO.at_ 7 [8] (by kernel_rfl) ?_
     refine allO.cons _ rfl rfl ?_ ?_
     ·refine GF.step rfl rfl rfl (PS.call (xs:=[_,_]) rfl rfl rfl rfl (fun w hw=>b4 hM w)) ?_
      refine PO.at_ 8 [] (by kernel_rfl) ?_
      refine allO.cons _ rfl rfl ?_ ?_
      ·refine GF.step rfl rfl rfl (PS.loadH (k:=20) rfl rfl rfl (row_sz (pnt_row g0)) Tryz.underlying28 rfl (by kernel_rfl)) ?_
       refine PO.at_ 9 [] (by kernel_rfl) ?_
       refine allO.cons _ rfl rfl ?_ ?_
       ·refine GF.step rfl rfl rfl (PS.call (xs:=[_,_]) rfl rfl rfl rfl (fun w hw=>m4 hM w hw)) ?_
        refine PO.take 10 rfl (by kernel_rfl) (by kernel_rfl) (by kernel_rfl) rfl rfl rfl (PU.moved (r:=.c _) rfl rfl) ?_
        refine PO.take 11 rfl (by kernel_rfl) (by kernel_rfl) (by kernel_rfl) rfl rfl rfl (PU.ext rfl rfl rfl) ?_
        refine PO.take 12 rfl (by kernel_rfl) (by kernel_rfl) (by kernel_rfl) rfl rfl rfl (PU.ext rfl rfl rfl) ?_
        refine PO.at_ 14 [] (by kernel_rfl) ?_
        refine allO.cons _ rfl rfl ?_ ?_
        ·refine GF.full rfl (Fa.storeH 20 rfl rfl rfl rfl rfl (pnt_row (ti M g0)) (by kernel_rfl) rfl ?_)
         refine PO.take 15 rfl (by kernel_rfl) (by kernel_rfl) (by kernel_rfl) rfl rfl rfl (PU.assigned (r:=.c _) rfl rfl) ?_
         refine PO.end_ (by kernel_rfl) ?_
         exact⟨id,_,rfl,⟨by refine⟨.inr rfl,.inr rfl,.inr rfl,.inr rfl,.inr rfl,.inr rfl,.inr rfl,trivial⟩,by refine⟨.inr rfl,.inr rfl,.inr rfl,trivial⟩,by kernel_rfl⟩⟩
        exact trivial
       exact trivial
      exact trivial
     refine allO.cons _ rfl rfl ?_ ?_
     ·refine GF.step rfl rfl rfl (PS.loadH (k:=20) rfl rfl rfl (row_sz (pnt_row g0)) Tryz.underlying28 rfl (by kernel_rfl)) ?_
      refine PO.at_ 7 [] (by kernel_rfl) ?_
      refine allO.cons _ rfl rfl ?_ ?_
      ·refine GF.step rfl rfl rfl (PS.call (xs:=[_,_]) rfl rfl rfl rfl (fun w hw=>b4 hM w)) ?_
       refine PO.at_ 9 [] (by kernel_rfl) ?_
       refine allO.cons _ rfl rfl ?_ ?_
       ·refine GF.step rfl rfl rfl (PS.call (xs:=[_,_]) rfl rfl rfl rfl (fun w hw=>m4 hM w hw)) ?_
        refine PO.take 10 rfl (by kernel_rfl) (by kernel_rfl) (by kernel_rfl) rfl rfl rfl (PU.moved (r:=.c _) rfl rfl) ?_
        refine PO.take 11 rfl (by kernel_rfl) (by kernel_rfl) (by kernel_rfl) rfl rfl rfl (PU.ext rfl rfl rfl) ?_
        refine PO.take 12 rfl (by kernel_rfl) (by kernel_rfl) (by kernel_rfl) rfl rfl rfl (PU.ext rfl rfl rfl) ?_
        refine PO.at_ 14 [] (by kernel_rfl) ?_
        refine allO.cons _ rfl rfl ?_ ?_
        ·refine GF.full rfl (Fa.storeH 20 rfl rfl rfl rfl rfl (pnt_row (ti M g0)) (by kernel_rfl) rfl ?_)
         refine PO.take 15 rfl (by kernel_rfl) (by kernel_rfl) (by kernel_rfl) rfl rfl rfl (PU.assigned (r:=.c _) rfl rfl) ?_
         refine PO.end_ (by kernel_rfl) ?_
         exact⟨id,_,rfl,⟨by refine⟨.inr rfl,.inr rfl,.inr rfl,.inr rfl,.inr rfl,.inr rfl,.inr rfl,trivial⟩,by refine⟨.inr rfl,.inr rfl,.inr rfl,trivial⟩,by kernel_rfl⟩⟩
        exact trivial
       exact trivial
      exact trivial
     exact trivial
    refine allO.cons _ rfl rfl ?_ ?_
    ·refine GF.step rfl rfl rfl (PS.loadH (k:=20) rfl rfl rfl (row_sz (pnt_row g0)) Tryz.underlying28 rfl (by kernel_rfl)) ?_
     refine PO.at_ 6 [] (by kernel_rfl) ?_
     refine allO.cons _ rfl rfl ?_ ?_
     ·refine GF.step rfl rfl rfl (PS.buildSlice (parts:=[(0,_),(1,_)]) (xs:=[_,_]) (z:=(.int .u64 0)) (bytes:=8) rfl rfl rfl Tryz.underlying32 (by kernel_rfl) rfl (by kernel_rfl) (by kernel_rfl)) ?_
      refine PO.at_ 7 [] (by kernel_rfl) ?_
      refine allO.cons _ rfl rfl ?_ ?_
      ·refine GF.step rfl rfl rfl (PS.call (xs:=[_,_]) rfl rfl rfl rfl (fun w hw=>b4 hM w)) ?_
       refine PO.at_ 9 [] (by kernel_rfl) ?_
       refine allO.cons _ rfl rfl ?_ ?_
       ·refine GF.step rfl rfl rfl (PS.call (xs:=[_,_]) rfl rfl rfl rfl (fun w hw=>m4 hM w hw)) ?_
        refine PO.take 10 rfl (by kernel_rfl) (by kernel_rfl) (by kernel_rfl) rfl rfl rfl (PU.moved (r:=.c _) rfl rfl) ?_
        refine PO.take 11 rfl (by kernel_rfl) (by kernel_rfl) (by kernel_rfl) rfl rfl rfl (PU.ext rfl rfl rfl) ?_
        refine PO.take 12 rfl (by kernel_rfl) (by kernel_rfl) (by kernel_rfl) rfl rfl rfl (PU.ext rfl rfl rfl) ?_
        refine PO.at_ 14 [] (by kernel_rfl) ?_
        refine allO.cons _ rfl rfl ?_ ?_
        ·refine GF.full rfl (Fa.storeH 20 rfl rfl rfl rfl rfl (pnt_row (ti M g0)) (by kernel_rfl) rfl ?_)
         refine PO.take 15 rfl (by kernel_rfl) (by kernel_rfl) (by kernel_rfl) rfl rfl rfl (PU.assigned (r:=.c _) rfl rfl) ?_
         refine PO.end_ (by kernel_rfl) ?_
         exact⟨id,_,rfl,⟨by refine⟨.inr rfl,.inr rfl,.inr rfl,.inr rfl,.inr rfl,.inr rfl,.inr rfl,trivial⟩,by refine⟨.inr rfl,.inr rfl,.inr rfl,trivial⟩,by kernel_rfl⟩⟩
        exact trivial
       exact trivial
      exact trivial
     exact trivial
    exact trivial
   exact trivial
  ·skip
   rintro σm rfl
   refine(PW.seq ?_:PW _ _ _ _)
   refine(PW.region ?_:PW _ _ _ _)
   refine PL.mv rfl rfl rfl rfl rfl ?_
   refine PL.step rfl rfl rfl (PS.convI ((N:Nat):Int) rfl rfl Tryz.underlying64 Tryz.underlying24 (wu64 (by omega))) ?_
   refine PL.mv rfl rfl rfl rfl rfl ?_
   refine PL.step rfl rfl rfl (PS.convI ((M:Nat):Int) rfl rfl Tryz.underlying64 Tryz.underlying24 (wu64 (by omega))) ?_
   refine PL.step rfl rfl rfl (PS.add ((N+M:Nat):Int) rfl rfl rfl (by rw[wu64 (by omega)];omega)) ?_
   refine PL.mu rfl rfl rfl rfl rfl ?_
   refine PL.nil ?_
   refine(PW.cut (fun σm=>σm=⟨[(15,L (.int .i64 0)),(14,.c (.ptr 33 0)),(12,L (.int .i64 0)),(11,.c (.ptr 32 0)),(10,L (.int .i64 0)),(9,.c (.ptr 31 0)),(7,.c (.ptr 1 0))],[(33,.whole false 28 (pnt (ti (N+M) g0))),(32,.whole false 28 (pnt (ti M g0))),(31,.whole false 28 (pnt (ti N g0))),(1,.whole false 28 (pnt g0))]⟩) ?_ ?_:PW _ _ _ _)
   ·skip
    refine(PW.orders (by kernel_rfl) ?_:PW _ _ _ _)
    refine PO.take 0 rfl (by kernel_rfl) (by kernel_rfl) (by kernel_rfl) rfl rfl rfl (PU.moved (r:=.c _) rfl rfl) ?_
    refine PO.take 1 rfl (by kernel_rfl) (by kernel_rfl) (by kernel_rfl) rfl rfl rfl (PU.remN (a:=N+M) (b:=65536) rfl rfl rfl (by decide)) ?_
    refine PO.take 2 rfl (by kernel_rfl) (by kernel_rfl) (by kernel_rfl) rfl rfl rfl (PU.moved (r:=.c _) rfl rfl) ?_
    refine PO.take 3 rfl (by kernel_rfl) (by kernel_rfl) (by kernel_rfl) rfl rfl rfl (PU.quoN (a:=N+M) (b:=65536) rfl rfl rfl (by decide) (wu64 (by omega))) ?_
    refine PO.take 4 rfl (by kernel_rfl) (by kernel_rfl) (by kernel_rfl) rfl rfl rfl (PU.remN (a:=(N+M) / 65536) (b:=65536) rfl rfl rfl (by decide)) ?_
    refine PO.take 5 rfl (by kernel_rfl) (by kernel_rfl) (by kernel_rfl) rfl rfl rfl (PU.moved (r:=.c _) rfl rfl) ?_
    refine PO.take 6 rfl (by kernel_rfl) (by kernel_rfl) (by kernel_rfl) rfl rfl rfl (PU.quoN (a:=N+M) (b:=4294967296) rfl rfl rfl (by decide) (wu64 (by omega))) ?_
    refine PO.at_ 7 [9,14] (by kernel_rfl) ?_
    refine allO.cons _ rfl rfl ?_ ?_
    ·refine GF.step rfl rfl rfl (PS.buildSlice (parts:=[(0,_),(1,_),(2,_)]) (xs:=[_,_,_]) (z:=(.int .u64 0)) (bytes:=8) rfl rfl rfl Tryz.underlying32 (by kernel_rfl) rfl (by kernel_rfl) (by kernel_rfl)) ?_
     refine PO.at_ 8 [9,14] (by kernel_rfl) ?_
     refine allO.cons _ rfl rfl ?_ ?_
     ·refine GF.step rfl rfl rfl (PS.call (xs:=[_,_]) rfl rfl rfl rfl (fun w hw=>b6 hS w)) ?_
      refine PO.at_ 9 [14] (by kernel_rfl) ?_
      refine allO.cons _ rfl rfl ?_ ?_
      ·refine GF.step rfl rfl rfl (PS.loadH (k:=20) rfl rfl rfl (row_sz (pnt_row g0)) Tryz.underlying28 rfl (by kernel_rfl)) ?_
       refine PO.at_ 10 [14] (by kernel_rfl) ?_
       refine allO.cons _ rfl rfl ?_ ?_
       ·refine GF.step rfl rfl rfl (PS.call (xs:=[_,_]) rfl rfl rfl rfl (fun w hw=>m6 hS w hw)) ?_
        refine PO.take 11 rfl (by kernel_rfl) (by kernel_rfl) (by kernel_rfl) rfl rfl rfl (PU.moved (r:=.c _) rfl rfl) ?_
        refine PO.take 12 rfl (by kernel_rfl) (by kernel_rfl) (by kernel_rfl) rfl rfl rfl (PU.ext rfl rfl rfl) ?_
        refine PO.take 13 rfl (by kernel_rfl) (by kernel_rfl) (by kernel_rfl) rfl rfl rfl (PU.ext rfl rfl rfl) ?_
        refine PO.at_ 14 [] (by kernel_rfl) ?_
        refine allO.cons _ rfl rfl ?_ ?_
        ·refine GF.full rfl (Fa.alloc 33 (z:=.agg z20) rfl (by kernel_rfl) (by kernel_rfl) rfl rfl ?_)
         refine PO.at_ 15 [] (by kernel_rfl) ?_
         refine allO.cons _ rfl rfl ?_ ?_
         ·refine GF.full rfl (Fa.storeH 20 rfl rfl rfl rfl rfl (pnt_row (ti (N+M) g0)) (by kernel_rfl) rfl ?_)
          refine PO.take 16 rfl (by kernel_rfl) (by kernel_rfl) (by kernel_rfl) rfl rfl rfl (PU.assigned (r:=.c _) rfl rfl) ?_
          refine PO.end_ (by kernel_rfl) ?_
          exact⟨id,_,rfl,⟨by refine⟨.inr rfl,.inr rfl,.inr rfl,.inr rfl,.inr rfl,.inr rfl,.inr rfl,trivial⟩,by refine⟨.inr rfl,.inr rfl,.inr rfl,.inr rfl,trivial⟩,by kernel_rfl⟩⟩
         exact trivial
        exact trivial
       refine allO.cons _ rfl rfl ?_ ?_
       ·refine GF.full rfl (Fa.alloc 33 (z:=.agg z20) rfl (by kernel_rfl) (by kernel_rfl) rfl rfl ?_)
        refine PO.at_ 10 [] (by kernel_rfl) ?_
        refine allO.cons _ rfl rfl ?_ ?_
        ·refine GF.step rfl rfl rfl (PS.call (xs:=[_,_]) rfl rfl rfl rfl (fun w hw=>m6 hS w hw)) ?_
         refine PO.take 11 rfl (by kernel_rfl) (by kernel_rfl) (by kernel_rfl) rfl rfl rfl (PU.moved (r:=.c _) rfl rfl) ?_
         refine PO.take 12 rfl (by kernel_rfl) (by kernel_rfl) (by kernel_rfl) rfl rfl rfl (PU.ext rfl rfl rfl) ?_
         refine PO.take 13 rfl (by kernel_rfl) (by kernel_rfl) (by kernel_rfl) rfl rfl rfl (PU.ext rfl rfl rfl) ?_
         refine PO.at_ 15 [] (by kernel_rfl) ?_
         refine allO.cons _ rfl rfl ?_ ?_
         ·refine GF.full rfl (Fa.storeH 20 rfl rfl rfl rfl rfl (pnt_row (ti (N+M) g0)) (by kernel_rfl) rfl ?_)
          refine PO.take 16 rfl (by kernel_rfl) (by kernel_rfl) (by kernel_rfl) rfl rfl rfl (PU.assigned (r:=.c _) rfl rfl) ?_
          refine PO.end_ (by kernel_rfl) ?_
          exact⟨id,_,rfl,⟨by refine⟨.inr rfl,.inr rfl,.inr rfl,.inr rfl,.inr rfl,.inr rfl,.inr rfl,trivial⟩,by refine⟨.inr rfl,.inr rfl,.inr rfl,.inr rfl,trivial⟩,by kernel_rfl⟩⟩
         exact trivial
        exact trivial
       exact trivial
      refine allO.cons _ rfl rfl ?_ ?_
      ·refine GF.full rfl (Fa.alloc 33 (z:=.agg z20) rfl (by kernel_rfl) (by kernel_rfl) rfl rfl ?_)
       refine PO.at_ 9 [] (by kernel_rfl) ?_
       refine allO.cons _ rfl rfl ?_ ?_
       ·refine GF.step rfl rfl rfl (PS.loadH (k:=20) rfl rfl rfl (row_sz (pnt_row g0)) Tryz.underlying28 rfl (by kernel_rfl)) ?_
        refine PO.at_ 10 [] (by kernel_rfl) ?_
        refine allO.cons _ rfl rfl ?_ ?_
        ·refine GF.step rfl rfl rfl (PS.call (xs:=[_,_]) rfl rfl rfl rfl (fun w hw=>m6 hS w hw)) ?_
         refine PO.take 11 rfl (by kernel_rfl) (by kernel_rfl) (by kernel_rfl) rfl rfl rfl (PU.moved (r:=.c _) rfl rfl) ?_
         refine PO.take 12 rfl (by kernel_rfl) (by kernel_rfl) (by kernel_rfl) rfl rfl rfl (PU.ext rfl rfl rfl) ?_
         refine PO.take 13 rfl (by kernel_rfl) (by kernel_rfl) (by kernel_rfl) rfl rfl rfl (PU.ext rfl rfl rfl) ?_
         refine PO.at_ 15 [] (by kernel_rfl) ?_
         refine allO.cons _ rfl rfl ?_ ?_
         ·refine GF.full rfl (Fa.storeH 20 rfl rfl rfl rfl rfl (pnt_row (ti (N+M) g0)) (by kernel_rfl) rfl ?_)
          refine PO.take 16 rfl (by kernel_rfl) (by kernel_rfl) (by kernel_rfl) rfl rfl rfl (PU.assigned (r:=.c _) rfl rfl) ?_
          refine PO.end_ (by kernel_rfl) ?_
          exact⟨id,_,rfl,⟨by refine⟨.inr rfl,.inr rfl,.inr rfl,.inr rfl,.inr rfl,.inr rfl,.inr rfl,trivial⟩,by refine⟨.inr rfl,.inr rfl,.inr rfl,.inr rfl,trivial⟩,by kernel_rfl⟩⟩
         exact trivial
        exact trivial
       exact trivial
      exact trivial
     refine allO.cons _ rfl rfl ?_ ?_
     ·refine GF.step rfl rfl rfl (PS.loadH (k:=20) rfl rfl rfl (row_sz (pnt_row g0)) Tryz.underlying28 rfl (by kernel_rfl)) ?_
      refine PO.at_ 8 [14] (by kernel_rfl) ?_
      refine allO.cons _ rfl rfl ?_ ?_
      ·refine GF.step rfl rfl rfl (PS.call (xs:=[_,_]) rfl rfl rfl rfl (fun w hw=>b6 hS w)) ?_
       refine PO.at_ 10 [14] (by kernel_rfl) ?_
       refine allO.cons _ rfl rfl ?_ ?_
       ·refine GF.step rfl rfl rfl (PS.call (xs:=[_,_]) rfl rfl rfl rfl (fun w hw=>m6 hS w hw)) ?_
        refine PO.take 11 rfl (by kernel_rfl) (by kernel_rfl) (by kernel_rfl) rfl rfl rfl (PU.moved (r:=.c _) rfl rfl) ?_
        refine PO.take 12 rfl (by kernel_rfl) (by kernel_rfl) (by kernel_rfl) rfl rfl rfl (PU.ext rfl rfl rfl) ?_
        refine PO.take 13 rfl (by kernel_rfl) (by kernel_rfl) (by kernel_rfl) rfl rfl rfl (PU.ext rfl rfl rfl) ?_
        refine PO.at_ 14 [] (by kernel_rfl) ?_
        refine allO.cons _ rfl rfl ?_ ?_
        ·refine GF.full rfl (Fa.alloc 33 (z:=.agg z20) rfl (by kernel_rfl) (by kernel_rfl) rfl rfl ?_)
         refine PO.at_ 15 [] (by kernel_rfl) ?_
         refine allO.cons _ rfl rfl ?_ ?_
         ·refine GF.full rfl (Fa.storeH 20 rfl rfl rfl rfl rfl (pnt_row (ti (N+M) g0)) (by kernel_rfl) rfl ?_)
          refine PO.take 16 rfl (by kernel_rfl) (by kernel_rfl) (by kernel_rfl) rfl rfl rfl (PU.assigned (r:=.c _) rfl rfl) ?_
          refine PO.end_ (by kernel_rfl) ?_
          exact⟨id,_,rfl,⟨by refine⟨.inr rfl,.inr rfl,.inr rfl,.inr rfl,.inr rfl,.inr rfl,.inr rfl,trivial⟩,by refine⟨.inr rfl,.inr rfl,.inr rfl,.inr rfl,trivial⟩,by kernel_rfl⟩⟩
         exact trivial
        exact trivial
       refine allO.cons _ rfl rfl ?_ ?_
       ·refine GF.full rfl (Fa.alloc 33 (z:=.agg z20) rfl (by kernel_rfl) (by kernel_rfl) rfl rfl ?_)
        refine PO.at_ 10 [] (by kernel_rfl) ?_
        refine allO.cons _ rfl rfl ?_ ?_
        ·refine GF.step rfl rfl rfl (PS.call (xs:=[_,_]) rfl rfl rfl rfl (fun w hw=>m6 hS w hw)) ?_
         refine PO.take 11 rfl (by kernel_rfl) (by kernel_rfl) (by kernel_rfl) rfl rfl rfl (PU.moved (r:=.c _) rfl rfl) ?_
         refine PO.take 12 rfl (by kernel_rfl) (by kernel_rfl) (by kernel_rfl) rfl rfl rfl (PU.ext rfl rfl rfl) ?_
         refine PO.take 13 rfl (by kernel_rfl) (by kernel_rfl) (by kernel_rfl) rfl rfl rfl (PU.ext rfl rfl rfl) ?_
         refine PO.at_ 15 [] (by kernel_rfl) ?_
         refine allO.cons _ rfl rfl ?_ ?_
         ·refine GF.full rfl (Fa.storeH 20 rfl rfl rfl rfl rfl (pnt_row (ti (N+M) g0)) (by kernel_rfl) rfl ?_)
          refine PO.take 16 rfl (by kernel_rfl) (by kernel_rfl) (by kernel_rfl) rfl rfl rfl (PU.assigned (r:=.c _) rfl rfl) ?_
          refine PO.end_ (by kernel_rfl) ?_
          exact⟨id,_,rfl,⟨by refine⟨.inr rfl,.inr rfl,.inr rfl,.inr rfl,.inr rfl,.inr rfl,.inr rfl,trivial⟩,by refine⟨.inr rfl,.inr rfl,.inr rfl,.inr rfl,trivial⟩,by kernel_rfl⟩⟩
         exact trivial
        exact trivial
       exact trivial
      refine allO.cons _ rfl rfl ?_ ?_
      ·refine GF.full rfl (Fa.alloc 33 (z:=.agg z20) rfl (by kernel_rfl) (by kernel_rfl) rfl rfl ?_)
       refine PO.at_ 8 [] (by kernel_rfl) ?_
       refine allO.cons _ rfl rfl ?_ ?_
       ·refine GF.step rfl rfl rfl (PS.call (xs:=[_,_]) rfl rfl rfl rfl (fun w hw=>b6 hS w)) ?_
        refine PO.at_ 10 [] (by kernel_rfl) ?_
        refine allO.cons _ rfl rfl ?_ ?_
        ·refine GF.step rfl rfl rfl (PS.call (xs:=[_,_]) rfl rfl rfl rfl (fun w hw=>m6 hS w hw)) ?_
         refine PO.take 11 rfl (by kernel_rfl) (by kernel_rfl) (by kernel_rfl) rfl rfl rfl (PU.moved (r:=.c _) rfl rfl) ?_
         refine PO.take 12 rfl (by kernel_rfl) (by kernel_rfl) (by kernel_rfl) rfl rfl rfl (PU.ext rfl rfl rfl) ?_
         refine PO.take 13 rfl (by kernel_rfl) (by kernel_rfl) (by kernel_rfl) rfl rfl rfl (PU.ext rfl rfl rfl) ?_
         refine PO.at_ 15 [] (by kernel_rfl) ?_
         refine allO.cons _ rfl rfl ?_ ?_
         ·refine GF.full rfl (Fa.storeH 20 rfl rfl rfl rfl rfl (pnt_row (ti (N+M) g0)) (by kernel_rfl) rfl ?_)
          refine PO.take 16 rfl (by kernel_rfl) (by kernel_rfl) (by kernel_rfl) rfl rfl rfl (PU.assigned (r:=.c _) rfl rfl) ?_
          refine PO.end_ (by kernel_rfl) ?_
          exact⟨id,_,rfl,⟨by refine⟨.inr rfl,.inr rfl,.inr rfl,.inr rfl,.inr rfl,.inr rfl,.inr rfl,trivial⟩,by refine⟨.inr rfl,.inr rfl,.inr rfl,.inr rfl,trivial⟩,by kernel_rfl⟩⟩
         exact trivial
        exact trivial
       exact trivial
      exact trivial
     refine allO.cons _ rfl rfl ?_ ?_
     ·refine GF.full rfl (Fa.alloc 33 (z:=.agg z20) rfl (by kernel_rfl) (by kernel_rfl) rfl rfl ?_)
      refine PO.at_ 8 [9] (by kernel_rfl) ?_
      refine allO.cons _ rfl rfl ?_ ?_
      ·refine GF.step rfl rfl rfl (PS.call (xs:=[_,_]) rfl rfl rfl rfl (fun w hw=>b6 hS w)) ?_
       refine PO.at_ 9 [] (by kernel_rfl) ?_
       refine allO.cons _ rfl rfl ?_ ?_
       ·refine GF.step rfl rfl rfl (PS.loadH (k:=20) rfl rfl rfl (row_sz (pnt_row g0)) Tryz.underlying28 rfl (by kernel_rfl)) ?_
        refine PO.at_ 10 [] (by kernel_rfl) ?_
        refine allO.cons _ rfl rfl ?_ ?_
        ·refine GF.step rfl rfl rfl (PS.call (xs:=[_,_]) rfl rfl rfl rfl (fun w hw=>m6 hS w hw)) ?_
         refine PO.take 11 rfl (by kernel_rfl) (by kernel_rfl) (by kernel_rfl) rfl rfl rfl (PU.moved (r:=.c _) rfl rfl) ?_
         refine PO.take 12 rfl (by kernel_rfl) (by kernel_rfl) (by kernel_rfl) rfl rfl rfl (PU.ext rfl rfl rfl) ?_
         refine PO.take 13 rfl (by kernel_rfl) (by kernel_rfl) (by kernel_rfl) rfl rfl rfl (PU.ext rfl rfl rfl) ?_
         refine PO.at_ 15 [] (by kernel_rfl) ?_
         refine allO.cons _ rfl rfl ?_ ?_
         ·refine GF.full rfl (Fa.storeH 20 rfl rfl rfl rfl rfl (pnt_row (ti (N+M) g0)) (by kernel_rfl) rfl ?_)
          refine PO.take 16 rfl (by kernel_rfl) (by kernel_rfl) (by kernel_rfl) rfl rfl rfl (PU.assigned (r:=.c _) rfl rfl) ?_
          refine PO.end_ (by kernel_rfl) ?_
          exact⟨id,_,rfl,⟨by refine⟨.inr rfl,.inr rfl,.inr rfl,.inr rfl,.inr rfl,.inr rfl,.inr rfl,trivial⟩,by refine⟨.inr rfl,.inr rfl,.inr rfl,.inr rfl,trivial⟩,by kernel_rfl⟩⟩
         exact trivial
        exact trivial
       exact trivial
      refine allO.cons _ rfl rfl ?_ ?_
      ·refine GF.step rfl rfl rfl (PS.loadH (k:=20) rfl rfl rfl (row_sz (pnt_row g0)) Tryz.underlying28 rfl (by kernel_rfl)) ?_
       refine PO.at_ 8 [] (by kernel_rfl) ?_
       refine allO.cons _ rfl rfl ?_ ?_
       ·refine GF.step rfl rfl rfl (PS.call (xs:=[_,_]) rfl rfl rfl rfl (fun w hw=>b6 hS w)) ?_
        refine PO.at_ 10 [] (by kernel_rfl) ?_
        refine allO.cons _ rfl rfl ?_ ?_
        ·refine GF.step rfl rfl rfl (PS.call (xs:=[_,_]) rfl rfl rfl rfl (fun w hw=>m6 hS w hw)) ?_
         refine PO.take 11 rfl (by kernel_rfl) (by kernel_rfl) (by kernel_rfl) rfl rfl rfl (PU.moved (r:=.c _) rfl rfl) ?_
         refine PO.take 12 rfl (by kernel_rfl) (by kernel_rfl) (by kernel_rfl) rfl rfl rfl (PU.ext rfl rfl rfl) ?_
         refine PO.take 13 rfl (by kernel_rfl) (by kernel_rfl) (by kernel_rfl) rfl rfl rfl (PU.ext rfl rfl rfl) ?_
         refine PO.at_ 15 [] (by kernel_rfl) ?_
         refine allO.cons _ rfl rfl ?_ ?_
         ·refine GF.full rfl (Fa.storeH 20 rfl rfl rfl rfl rfl (pnt_row (ti (N+M) g0)) (by kernel_rfl) rfl ?_)
          refine PO.take 16 rfl (by kernel_rfl) (by kernel_rfl) (by kernel_rfl) rfl rfl rfl (PU.assigned (r:=.c _) rfl rfl) ?_
          refine PO.end_ (by kernel_rfl) ?_
          exact⟨id,_,rfl,⟨by refine⟨.inr rfl,.inr rfl,.inr rfl,.inr rfl,.inr rfl,.inr rfl,.inr rfl,trivial⟩,by refine⟨.inr rfl,.inr rfl,.inr rfl,.inr rfl,trivial⟩,by kernel_rfl⟩⟩
         exact trivial
        exact trivial
       exact trivial
      exact trivial
     exact trivial
    refine allO.cons _ rfl rfl ?_ ?_
    ·refine GF.step rfl rfl rfl (PS.loadH (k:=20) rfl rfl rfl (row_sz (pnt_row g0)) Tryz.underlying28 rfl (by kernel_rfl)) ?_
     refine PO.at_ 7 [14] (by kernel_rfl) ?_
     refine allO.cons _ rfl rfl ?_ ?_
     ·refine GF.step rfl rfl rfl (PS.buildSlice (parts:=[(0,_),(1,_),(2,_)]) (xs:=[_,_,_]) (z:=(.int .u64 0)) (bytes:=8) rfl rfl rfl Tryz.underlying32 (by kernel_rfl) rfl (by kernel_rfl) (by kernel_rfl)) ?_
      refine PO.at_ 8 [14] (by kernel_rfl) ?_
      refine allO.cons _ rfl rfl ?_ ?_
      ·refine GF.step rfl rfl rfl (PS.call (xs:=[_,_]) rfl rfl rfl rfl (fun w hw=>b6 hS w)) ?_
       refine PO.at_ 10 [14] (by kernel_rfl) ?_
       refine allO.cons _ rfl rfl ?_ ?_
       ·refine GF.step rfl rfl rfl (PS.call (xs:=[_,_]) rfl rfl rfl rfl (fun w hw=>m6 hS w hw)) ?_
        refine PO.take 11 rfl (by kernel_rfl) (by kernel_rfl) (by kernel_rfl) rfl rfl rfl (PU.moved (r:=.c _) rfl rfl) ?_
        refine PO.take 12 rfl (by kernel_rfl) (by kernel_rfl) (by kernel_rfl) rfl rfl rfl (PU.ext rfl rfl rfl) ?_
        refine PO.take 13 rfl (by kernel_rfl) (by kernel_rfl) (by kernel_rfl) rfl rfl rfl (PU.ext rfl rfl rfl) ?_
        refine PO.at_ 14 [] (by kernel_rfl) ?_
        refine allO.cons _ rfl rfl ?_ ?_
        ·refine GF.full rfl (Fa.alloc 33 (z:=.agg z20) rfl (by kernel_rfl) (by kernel_rfl) rfl rfl ?_)
         refine PO.at_ 15 [] (by kernel_rfl) ?_
         refine allO.cons _ rfl rfl ?_ ?_
         ·refine GF.full rfl (Fa.storeH 20 rfl rfl rfl rfl rfl (pnt_row (ti (N+M) g0)) (by kernel_rfl) rfl ?_)
          refine PO.take 16 rfl (by kernel_rfl) (by kernel_rfl) (by kernel_rfl) rfl rfl rfl (PU.assigned (r:=.c _) rfl rfl) ?_
          refine PO.end_ (by kernel_rfl) ?_
          exact⟨id,_,rfl,⟨by refine⟨.inr rfl,.inr rfl,.inr rfl,.inr rfl,.inr rfl,.inr rfl,.inr rfl,trivial⟩,by refine⟨.inr rfl,.inr rfl,.inr rfl,.inr rfl,trivial⟩,by kernel_rfl⟩⟩
         exact trivial
        exact trivial
       refine allO.cons _ rfl rfl ?_ ?_
       ·refine GF.full rfl (Fa.alloc 33 (z:=.agg z20) rfl (by kernel_rfl) (by kernel_rfl) rfl rfl ?_)
        refine PO.at_ 10 [] (by kernel_rfl) ?_
        refine allO.cons _ rfl rfl ?_ ?_
        ·refine GF.step rfl rfl rfl (PS.call (xs:=[_,_]) rfl rfl rfl rfl (fun w hw=>m6 hS w hw)) ?_
         refine PO.take 11 rfl (by kernel_rfl) (by kernel_rfl) (by kernel_rfl) rfl rfl rfl (PU.moved (r:=.c _) rfl rfl) ?_
         refine PO.take 12 rfl (by kernel_rfl) (by kernel_rfl) (by kernel_rfl) rfl rfl rfl (PU.ext rfl rfl rfl) ?_
         refine PO.take 13 rfl (by kernel_rfl) (by kernel_rfl) (by kernel_rfl) rfl rfl rfl (PU.ext rfl rfl rfl) ?_
         refine PO.at_ 15 [] (by kernel_rfl) ?_
         refine allO.cons _ rfl rfl ?_ ?_
         ·refine GF.full rfl (Fa.storeH 20 rfl rfl rfl rfl rfl (pnt_row (ti (N+M) g0)) (by kernel_rfl) rfl ?_)
          refine PO.take 16 rfl (by kernel_rfl) (by kernel_rfl) (by kernel_rfl) rfl rfl rfl (PU.assigned (r:=.c _) rfl rfl) ?_
          refine PO.end_ (by kernel_rfl) ?_
          exact⟨id,_,rfl,⟨by refine⟨.inr rfl,.inr rfl,.inr rfl,.inr rfl,.inr rfl,.inr rfl,.inr rfl,trivial⟩,by refine⟨.inr rfl,.inr rfl,.inr rfl,.inr rfl,trivial⟩,by kernel_rfl⟩⟩
         exact trivial
        exact trivial
       exact trivial
      refine allO.cons _ rfl rfl ?_ ?_
      ·refine GF.full rfl (Fa.alloc 33 (z:=.agg z20) rfl (by kernel_rfl) (by kernel_rfl) rfl rfl ?_)
       refine PO.at_ 8 [] (by kernel_rfl) ?_
       refine allO.cons _ rfl rfl ?_ ?_
       ·refine GF.step rfl rfl rfl (PS.call (xs:=[_,_]) rfl rfl rfl rfl (fun w hw=>b6 hS w)) ?_
        refine PO.at_ 10 [] (by kernel_rfl) ?_
        refine allO.cons _ rfl rfl ?_ ?_
        ·refine GF.step rfl rfl rfl (PS.call (xs:=[_,_]) rfl rfl rfl rfl (fun w hw=>m6 hS w hw)) ?_
         refine PO.take 11 rfl (by kernel_rfl) (by kernel_rfl) (by kernel_rfl) rfl rfl rfl (PU.moved (r:=.c _) rfl rfl) ?_
         refine PO.take 12 rfl (by kernel_rfl) (by kernel_rfl) (by kernel_rfl) rfl rfl rfl (PU.ext rfl rfl rfl) ?_
         refine PO.take 13 rfl (by kernel_rfl) (by kernel_rfl) (by kernel_rfl) rfl rfl rfl (PU.ext rfl rfl rfl) ?_
         refine PO.at_ 15 [] (by kernel_rfl) ?_
         refine allO.cons _ rfl rfl ?_ ?_
         ·refine GF.full rfl (Fa.storeH 20 rfl rfl rfl rfl rfl (pnt_row (ti (N+M) g0)) (by kernel_rfl) rfl ?_)
          refine PO.take 16 rfl (by kernel_rfl) (by kernel_rfl) (by kernel_rfl) rfl rfl rfl (PU.assigned (r:=.c _) rfl rfl) ?_
          refine PO.end_ (by kernel_rfl) ?_
          exact⟨id,_,rfl,⟨by refine⟨.inr rfl,.inr rfl,.inr rfl,.inr rfl,.inr rfl,.inr rfl,.inr rfl,trivial⟩,by refine⟨.inr rfl,.inr rfl,.inr rfl,.inr rfl,trivial⟩,by kernel_rfl⟩⟩
         exact trivial
        exact trivial
       exact trivial
      exact trivial
     refine allO.cons _ rfl rfl ?_ ?_
     ·refine GF.full rfl (Fa.alloc 33 (z:=.agg z20) rfl (by kernel_rfl) (by kernel_rfl) rfl rfl ?_)
      refine PO.at_ 7 [] (by kernel_rfl) ?_
      refine allO.cons _ rfl rfl ?_ ?_
      ·refine GF.step rfl rfl rfl (PS.buildSlice (parts:=[(0,_),(1,_),(2,_)]) (xs:=[_,_,_]) (z:=(.int .u64 0)) (bytes:=8) rfl rfl rfl Tryz.underlying32 (by kernel_rfl) rfl (by kernel_rfl) (by kernel_rfl)) ?_
       refine PO.at_ 8 [] (by kernel_rfl) ?_
       refine allO.cons _ rfl rfl ?_ ?_
       ·refine GF.step rfl rfl rfl (PS.call (xs:=[_,_]) rfl rfl rfl rfl (fun w hw=>b6 hS w)) ?_
        refine PO.at_ 10 [] (by kernel_rfl) ?_
        refine allO.cons _ rfl rfl ?_ ?_
        ·refine GF.step rfl rfl rfl (PS.call (xs:=[_,_]) rfl rfl rfl rfl (fun w hw=>m6 hS w hw)) ?_
         refine PO.take 11 rfl (by kernel_rfl) (by kernel_rfl) (by kernel_rfl) rfl rfl rfl (PU.moved (r:=.c _) rfl rfl) ?_
         refine PO.take 12 rfl (by kernel_rfl) (by kernel_rfl) (by kernel_rfl) rfl rfl rfl (PU.ext rfl rfl rfl) ?_
         refine PO.take 13 rfl (by kernel_rfl) (by kernel_rfl) (by kernel_rfl) rfl rfl rfl (PU.ext rfl rfl rfl) ?_
         refine PO.at_ 15 [] (by kernel_rfl) ?_
         refine allO.cons _ rfl rfl ?_ ?_
         ·refine GF.full rfl (Fa.storeH 20 rfl rfl rfl rfl rfl (pnt_row (ti (N+M) g0)) (by kernel_rfl) rfl ?_)
          refine PO.take 16 rfl (by kernel_rfl) (by kernel_rfl) (by kernel_rfl) rfl rfl rfl (PU.assigned (r:=.c _) rfl rfl) ?_
          refine PO.end_ (by kernel_rfl) ?_
          exact⟨id,_,rfl,⟨by refine⟨.inr rfl,.inr rfl,.inr rfl,.inr rfl,.inr rfl,.inr rfl,.inr rfl,trivial⟩,by refine⟨.inr rfl,.inr rfl,.inr rfl,.inr rfl,trivial⟩,by kernel_rfl⟩⟩
         exact trivial
        exact trivial
       exact trivial
      exact trivial
     exact trivial
    refine allO.cons _ rfl rfl ?_ ?_
    ·refine GF.full rfl (Fa.alloc 33 (z:=.agg z20) rfl (by kernel_rfl) (by kernel_rfl) rfl rfl ?_)
     refine PO.at_ 7 [9] (by kernel_rfl) ?_
     refine allO.cons _ rfl rfl ?_ ?_
     ·refine GF.step rfl rfl rfl (PS.buildSlice (parts:=[(0,_),(1,_),(2,_)]) (xs:=[_,_,_]) (z:=(.int .u64 0)) (bytes:=8) rfl rfl rfl Tryz.underlying32 (by kernel_rfl) rfl (by kernel_rfl) (by kernel_rfl)) ?_
      refine PO.at_ 8 [9] (by kernel_rfl) ?_
      refine allO.cons _ rfl rfl ?_ ?_
      ·refine GF.step rfl rfl rfl (PS.call (xs:=[_,_]) rfl rfl rfl rfl (fun w hw=>b6 hS w)) ?_
       refine PO.at_ 9 [] (by kernel_rfl) ?_
       refine allO.cons _ rfl rfl ?_ ?_
       ·refine GF.step rfl rfl rfl (PS.loadH (k:=20) rfl rfl rfl (row_sz (pnt_row g0)) Tryz.underlying28 rfl (by kernel_rfl)) ?_
        refine PO.at_ 10 [] (by kernel_rfl) ?_
        refine allO.cons _ rfl rfl ?_ ?_
        ·refine GF.step rfl rfl rfl (PS.call (xs:=[_,_]) rfl rfl rfl rfl (fun w hw=>m6 hS w hw)) ?_
         refine PO.take 11 rfl (by kernel_rfl) (by kernel_rfl) (by kernel_rfl) rfl rfl rfl (PU.moved (r:=.c _) rfl rfl) ?_
         refine PO.take 12 rfl (by kernel_rfl) (by kernel_rfl) (by kernel_rfl) rfl rfl rfl (PU.ext rfl rfl rfl) ?_
         refine PO.take 13 rfl (by kernel_rfl) (by kernel_rfl) (by kernel_rfl) rfl rfl rfl (PU.ext rfl rfl rfl) ?_
         refine PO.at_ 15 [] (by kernel_rfl) ?_
         refine allO.cons _ rfl rfl ?_ ?_
         ·refine GF.full rfl (Fa.storeH 20 rfl rfl rfl rfl rfl (pnt_row (ti (N+M) g0)) (by kernel_rfl) rfl ?_)
          refine PO.take 16 rfl (by kernel_rfl) (by kernel_rfl) (by kernel_rfl) rfl rfl rfl (PU.assigned (r:=.c _) rfl rfl) ?_
          refine PO.end_ (by kernel_rfl) ?_
          exact⟨id,_,rfl,⟨by refine⟨.inr rfl,.inr rfl,.inr rfl,.inr rfl,.inr rfl,.inr rfl,.inr rfl,trivial⟩,by refine⟨.inr rfl,.inr rfl,.inr rfl,.inr rfl,trivial⟩,by kernel_rfl⟩⟩
         exact trivial
        exact trivial
       exact trivial
      refine allO.cons _ rfl rfl ?_ ?_
      ·refine GF.step rfl rfl rfl (PS.loadH (k:=20) rfl rfl rfl (row_sz (pnt_row g0)) Tryz.underlying28 rfl (by kernel_rfl)) ?_
       refine PO.at_ 8 [] (by kernel_rfl) ?_
       refine allO.cons _ rfl rfl ?_ ?_
       ·refine GF.step rfl rfl rfl (PS.call (xs:=[_,_]) rfl rfl rfl rfl (fun w hw=>b6 hS w)) ?_
        refine PO.at_ 10 [] (by kernel_rfl) ?_
        refine allO.cons _ rfl rfl ?_ ?_
        ·refine GF.step rfl rfl rfl (PS.call (xs:=[_,_]) rfl rfl rfl rfl (fun w hw=>m6 hS w hw)) ?_
         refine PO.take 11 rfl (by kernel_rfl) (by kernel_rfl) (by kernel_rfl) rfl rfl rfl (PU.moved (r:=.c _) rfl rfl) ?_
         refine PO.take 12 rfl (by kernel_rfl) (by kernel_rfl) (by kernel_rfl) rfl rfl rfl (PU.ext rfl rfl rfl) ?_
         refine PO.take 13 rfl (by kernel_rfl) (by kernel_rfl) (by kernel_rfl) rfl rfl rfl (PU.ext rfl rfl rfl) ?_
         refine PO.at_ 15 [] (by kernel_rfl) ?_
         refine allO.cons _ rfl rfl ?_ ?_
         ·refine GF.full rfl (Fa.storeH 20 rfl rfl rfl rfl rfl (pnt_row (ti (N+M) g0)) (by kernel_rfl) rfl ?_)
          refine PO.take 16 rfl (by kernel_rfl) (by kernel_rfl) (by kernel_rfl) rfl rfl rfl (PU.assigned (r:=.c _) rfl rfl) ?_
          refine PO.end_ (by kernel_rfl) ?_
          exact⟨id,_,rfl,⟨by refine⟨.inr rfl,.inr rfl,.inr rfl,.inr rfl,.inr rfl,.inr rfl,.inr rfl,trivial⟩,by refine⟨.inr rfl,.inr rfl,.inr rfl,.inr rfl,trivial⟩,by kernel_rfl⟩⟩
         exact trivial
        exact trivial
       exact trivial
      exact trivial
     refine allO.cons _ rfl rfl ?_ ?_
     ·refine GF.step rfl rfl rfl (PS.loadH (k:=20) rfl rfl rfl (row_sz (pnt_row g0)) Tryz.underlying28 rfl (by kernel_rfl)) ?_
      refine PO.at_ 7 [] (by kernel_rfl) ?_
      refine allO.cons _ rfl rfl ?_ ?_
      ·refine GF.step rfl rfl rfl (PS.buildSlice (parts:=[(0,_),(1,_),(2,_)]) (xs:=[_,_,_]) (z:=(.int .u64 0)) (bytes:=8) rfl rfl rfl Tryz.underlying32 (by kernel_rfl) rfl (by kernel_rfl) (by kernel_rfl)) ?_
       refine PO.at_ 8 [] (by kernel_rfl) ?_
       refine allO.cons _ rfl rfl ?_ ?_
       ·refine GF.step rfl rfl rfl (PS.call (xs:=[_,_]) rfl rfl rfl rfl (fun w hw=>b6 hS w)) ?_
        refine PO.at_ 10 [] (by kernel_rfl) ?_
        refine allO.cons _ rfl rfl ?_ ?_
        ·refine GF.step rfl rfl rfl (PS.call (xs:=[_,_]) rfl rfl rfl rfl (fun w hw=>m6 hS w hw)) ?_
         refine PO.take 11 rfl (by kernel_rfl) (by kernel_rfl) (by kernel_rfl) rfl rfl rfl (PU.moved (r:=.c _) rfl rfl) ?_
         refine PO.take 12 rfl (by kernel_rfl) (by kernel_rfl) (by kernel_rfl) rfl rfl rfl (PU.ext rfl rfl rfl) ?_
         refine PO.take 13 rfl (by kernel_rfl) (by kernel_rfl) (by kernel_rfl) rfl rfl rfl (PU.ext rfl rfl rfl) ?_
         refine PO.at_ 15 [] (by kernel_rfl) ?_
         refine allO.cons _ rfl rfl ?_ ?_
         ·refine GF.full rfl (Fa.storeH 20 rfl rfl rfl rfl rfl (pnt_row (ti (N+M) g0)) (by kernel_rfl) rfl ?_)
          refine PO.take 16 rfl (by kernel_rfl) (by kernel_rfl) (by kernel_rfl) rfl rfl rfl (PU.assigned (r:=.c _) rfl rfl) ?_
          refine PO.end_ (by kernel_rfl) ?_
          exact⟨id,_,rfl,⟨by refine⟨.inr rfl,.inr rfl,.inr rfl,.inr rfl,.inr rfl,.inr rfl,.inr rfl,trivial⟩,by refine⟨.inr rfl,.inr rfl,.inr rfl,.inr rfl,trivial⟩,by kernel_rfl⟩⟩
         exact trivial
        exact trivial
       exact trivial
      exact trivial
     exact trivial
    exact trivial
   ·skip
    rintro σm rfl
    refine(PW.seq ?_:PW _ _ _ _)
    refine(PW.region ?_:PW _ _ _ _)
    refine PL.call (xs:=[]) rfl rfl rfl rfl rfl rfl rfl (fun w hw=>c_L w) ?_
    refine PL.call (xs:=[_,_]) rfl rfl rfl rfl rfl rfl rfl (fun w hw=>c_bytesD (v:=Lq) (m:=32) Lq_lt (by decide) w) ?_
    refine PL.call (xs:=[]) rfl rfl rfl rfl rfl rfl rfl (fun w hw=>p_base hb w (tab.below hw.to_below)) ?_
    refine PL.call (xs:=[_,_]) rfl rfl rfl rfl rfl rfl rfl (fun w hw=>FnAt.to (mul_by (n:=Lq) (k:=32) (g:=b) Lq_32 (by decide) w (tab.below hw.to_below)) (le_tup2 (le_eq (by rw[hz])) (le_refl _))) ?_
    refine PL.mv rfl rfl rfl rfl rfl ?_
    refine PL.step rfl rfl rfl (PS.ext rfl rfl rfl) ?_
    refine PL.step rfl rfl rfl (PS.ext rfl rfl rfl) ?_
    refine PL.full rfl (Fa.alloc 3 (z:=(.agg #[.int .u64 0,.int .u64 0,.int .u64 0,.int .u64 0,.int .u64 0,.int .u64 0,.int .u64 0,.int .u64 0,.int .u64 0,.int .u64 0,.int .u64 0,.int .u64 0,.int .u64 0,.int .u64 0,.int .u64 0,.int .u64 0,.int .u64 0,.int .u64 0,.int .u64 0,.int .u64 0])) rfl (by kernel_rfl) (by kernel_rfl) rfl rfl ?_)
    refine PL.full rfl (Fa.storeH 20 rfl rfl rfl rfl rfl (pnt_row gz) (by kernel_rfl) rfl ?_)
    refine PL.mu rfl rfl rfl rfl rfl ?_
    refine PL.nil ?_
    refine(PW.seq ?_:PW _ _ _ _)
    refine(PW.drawn 30 (by kernel_rfl) (by kernel_rfl) (by kernel_rfl) (by kernel_rfl) (by kernel_rfl) ?_:PW _ _ _ _)
    refine PD.mv rfl rfl rfl rfl rfl ?_
    refine PD.step rfl rfl rfl (PS.eql rfl rfl rfl) ?_
    refine PD.mv rfl rfl rfl rfl rfl ?_
    refine PD.stepW rfl rfl rfl (by kernel_rfl) rfl rfl (PS.moved (r:=.c _) rfl rfl) ?_
    refine PD.stepW rfl rfl rfl (by kernel_rfl) rfl rfl (PS.eql rfl rfl rfl) ?_
    refine PD.pT rfl rfl rfl rfl rfl rfl ?_
    refine PD.mv rfl rfl rfl rfl rfl ?_
    refine PD.stepW rfl rfl rfl (by kernel_rfl) rfl rfl (PS.moved (r:=.c _) rfl rfl) ?_
    refine PD.stepW rfl rfl rfl (by kernel_rfl) rfl rfl (PS.eql rfl rfl rfl) ?_
    refine PD.pT rfl rfl rfl rfl rfl rfl ?_
    refine PD.mv rfl rfl rfl rfl rfl ?_
    refine PD.stepW rfl rfl rfl (by kernel_rfl) rfl rfl (PS.moved (r:=.c _) rfl rfl) ?_
    refine PD.stepW rfl rfl rfl (by kernel_rfl) rfl rfl (PS.eql rfl rfl rfl) ?_
    refine PD.pT rfl rfl rfl rfl rfl rfl ?_
    refine PD.mv rfl rfl rfl rfl rfl ?_
    refine PD.stepW rfl rfl rfl (by kernel_rfl) rfl rfl (PS.loadH (k:=20) rfl rfl rfl (row_sz (pnt_row (ti N g0))) Tryz.underlying28 rfl (by kernel_rfl)) ?_
    refine PD.stepW rfl rfl rfl (by kernel_rfl) rfl rfl (PS.loadH (k:=20) rfl rfl rfl (row_sz (pnt_row (ti M g0))) Tryz.underlying28 rfl (by kernel_rfl)) ?_
    refine PD.stepW rfl rfl rfl (by kernel_rfl) rfl rfl (PS.call (xs:=[_,_]) rfl rfl rfl rfl (fun w hw=>p_add w (tab.below hw.to_below))) ?_
    refine PD.stepW rfl rfl rfl (by kernel_rfl) rfl rfl (PS.loadH (k:=20) rfl rfl rfl (row_sz (pnt_row (ti (N+M) g0))) Tryz.underlying28 rfl (by kernel_rfl)) ?_
    refine PD.stepW rfl rfl rfl (by kernel_rfl) rfl rfl (PS.call (xs:=[_,_]) rfl rfl rfl rfl (fun w hw=>p_same w (tab.below hw.to_below) true ⟨fun _=>(ti_add N M g0).symm,fun _=>rfl⟩)) ?_
    refine PD.pT rfl rfl rfl rfl rfl rfl ?_
    refine PD.mv rfl rfl rfl rfl rfl ?_
    refine PD.stepW rfl rfl rfl (by kernel_rfl) rfl rfl (PS.loadH (k:=20) rfl rfl rfl (row_sz (pnt_row gz)) Tryz.underlying28 rfl (by kernel_rfl)) ?_
    refine PD.stepW rfl rfl rfl (by kernel_rfl) rfl rfl (PS.call (xs:=[]) rfl rfl rfl rfl (fun w hw=>p_zero w)) ?_
    refine PD.stepW rfl rfl rfl (by kernel_rfl) rfl rfl (PS.call (xs:=[_,_]) rfl rfl rfl rfl (fun w hw=>p_same w (tab.below hw.to_below) true (by simp))) ?_
    refine PD.pT rfl rfl rfl rfl rfl rfl ?_
    refine PD.mv rfl rfl rfl rfl rfl ?_
    refine PD.stepW rfl rfl rfl (by kernel_rfl) rfl rfl (PS.call (xs:=[]) rfl rfl rfl rfl (fun w hw=>p_known w (tab.below hw.to_below) (ts.below hw.to_below))) ?_
    refine PD.pT rfl rfl rfl rfl rfl rfl ?_
    refine PD.mu rfl rfl rfl rfl rfl ?_
    refine PD.nil ?_
    refine(PW.ret ?_:PW _ _ _ _)
    exact Rt.as (Rt.one Tryz.results10 rfl) (le_refl _)
theorem walk_edShares{w:World}(tab:TabE w∧Sh.Tab w)(A0:Option Addr)(n0 c0:Nat)(l0:List Nat)(hb0:BL w A0 n0 c0 l0)(N:Int)(wN:(Lit.int .u32 N).wf=true)(M:Int)(wM:(Lit.int .u32 M).wf=true):Calls Tryz.prog 10 #[.slice A0 n0 c0,.int .u32 N,.int .u32 M] w fun e w'=>e=.returned (.bool true)∧Below w.heap.size w w':=by
 obtain⟨b,hb⟩:=base_some
 obtain⟨g0,hg0,hk0⟩:=ptT_some hb0.2.2.1 hb
 have h1:0≤N∧N≤4294967295:=by simpa[Lit.wf,IntKind.min,IntKind.max,IntKind.signed,IntKind.bits] using wN
 have h2:0≤M∧M≤4294967295:=by simpa[Lit.wf,IntKind.min,IntKind.max,IntKind.signed,IntKind.bits] using wM
 obtain⟨N,rfl⟩:=Int.eq_ofNat_of_zero_le h1.1
 obtain⟨M,rfl⟩:=Int.eq_ofNat_of_zero_le h2.1
 exact(l_EdShares hb0.2.2.1 hg0 hk0 (N:=N) (M:=M) (by omega) (by omega) hb (by rw[Lq_eq];exact lq_base (hp_qb hb)) w tab.1 tab.2).run (vs:=[.slice A0 n0 c0,.int .u32 N,.int .u32 M]) rfl ⟨⟨_,rfl,bl_byt hb0⟩,⟨_,rfl,rfl⟩,⟨_,rfl,rfl⟩,trivial⟩
end Go.Proofs.YtjimhjfjfpeojaaGreatDoor.Av
