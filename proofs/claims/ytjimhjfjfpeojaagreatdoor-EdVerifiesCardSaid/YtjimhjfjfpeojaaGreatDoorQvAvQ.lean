/- Joined texts. -/
import Derived.Test.YtjimhjfjfpeojaaGreatDoorQvAvPg
set_option maxRecDepth 100000
set_option maxHeartbeats 8000000
set_option linter.unusedVariables false
namespace Go.Proofs.YtjimhjfjfpeojaaGreatDoor.Av
open Go.RowKit Go.Proofs.YtjimhjfjfpeojaaGreatDoor.Gn Go.Proofs.YtjimhjfjfpeojaaGreatDoor.Fd Go.Proofs.YtjimhjfjfpeojaaGreatDoor.Ed Go.Deep
theorem Z6r{x y z:Nat}(hx:x < pp)(w:World):FnAt Tryz.prog [.u64] w 25 [pt x y z] (pt ((0+(pp - x))%pp) y z):=by
 refine FnAt.of Tryz.f25 _ _ Tryz.func25 Tryz.ntmps25 rfl (by kernel_rfl) (fun _ _=>by kernel_rfl) fun O=>?_
 show PW _ _ _ ⟨[(0,.c (.dv _))],[]⟩
 refine(PW.seq ?_:PW _ _ _ _)
 refine(PW.region ?_:PW _ _ _ _)
 refine PL.full rfl (Fa.boxR 1 rfl rfl (by kernel_rfl) rfl rfl ?_)
 refine PL.full rfl (Fa.alloc 2 (z:=(.agg #[.slice none 0 0,.slice none 0 0,.slice none 0 0])) rfl (by kernel_rfl) (by kernel_rfl) rfl rfl ?_)
 refine PL.nil ?_
 refine(PW.seq ?_:PW _ _ _ _)
 refine(PW.region ?_:PW _ _ _ _)
 refine PL.step rfl rfl rfl (PS.fieldAddr 0 rfl rfl (fun _ _=>by kernel_rfl)) ?_
 refine PL.step rfl rfl rfl (PS.load rfl rfl rfl rfl Tryz.underlying32 rfl) ?_
 refine PL.call (xs:=[_,_]) rfl rfl rfl rfl rfl rfl rfl (fun w hw=>FnAt.le2 (Z4l Z1y hx w) le_zero (le_refl _)) ?_
 refine PL.step rfl rfl rfl (PS.fieldAddr 0 rfl rfl (fun _ _=>by kernel_rfl)) ?_
 refine PL.full rfl (Fa.store rfl rfl rfl rfl rfl rfl (by kernel_rfl) rfl ?_)
 refine PL.nil ?_
 refine(PW.seq ?_:PW _ _ _ _)
 refine(PW.region ?_:PW _ _ _ _)
 refine PL.step rfl rfl rfl (PS.loadR (xs:=[_,_,_]) rfl rfl rfl rfl Tryz.underlying34 rfl (by kernel_rfl)) ?_
 refine PL.full rfl (Fa.storeR rfl rfl rfl rfl rfl rfl (by kernel_rfl) rfl ?_)
 refine PL.nil ?_
 refine(PW.ret ?_:PW _ _ _ _)
 exact Rt.as (Rt.cell Tryz.results25 rfl rfl Tryz.underlying34 rfl (by kernel_rfl)) (le_refl _)
theorem Z2a{l:List Nat}{i:Nat}(hi:i < 1152921504606846976)(w:World):FnAt Tryz.prog [] w 69 [byt true l,.lit (.int .i64 (i:Int))] (.lit (.bool (dg1 l i))):=by
 refine FnAt.of Tryz.f69 _ _ Tryz.func69 Tryz.ntmps69 rfl (by kernel_rfl) (fun _ _=>by kernel_rfl) fun O=>?_
 show PW _ _ _ ⟨[(0,.c (.dv _)),(1,.c (.dv _))],[]⟩
 refine(PW.seq ?_:PW _ _ _ _)
 refine(PW.region ?_:PW _ _ _ _)
 refine PL.mu rfl rfl rfl rfl rfl ?_
 refine PL.nil ?_
 refine(PW.seq ?_:PW _ _ _ _)
 refine(PW.region ?_:PW _ _ _ _)
 refine PL.mv rfl rfl rfl rfl rfl ?_
 refine PL.step rfl rfl rfl (PS.quoN (a:=i) (b:=8) rfl rfl rfl (by decide) (wi64 (by omega))) ?_
 refine PL.mv rfl rfl rfl rfl rfl ?_
 refine PL.step rfl rfl rfl (PS.len (n:=l.length) rfl rfl Tryz.underlying22 (by decide) (by simp[bl])) ?_
 refine PL.split rfl rfl rfl (PS.lss rfl rfl rfl) (fun hs11=>?_) (fun hs11=>?_)
 ·have hlt:i / 8 < l.length:=by have:=of_decide_eq_true hs11;omega
  refine PL.mv rfl rfl rfl rfl rfl ?_
  refine PL.stepW rfl rfl rfl rfl rfl (PS.moved (r:=.c _) rfl rfl) ?_
  refine PL.stepW rfl rfl rfl rfl rfl (PS.moved (r:=.c _) rfl rfl) ?_
  refine PL.stepW rfl rfl rfl rfl rfl (PS.quoN (a:=i) (b:=8) rfl rfl rfl (by decide) (wi64 (by omega))) ?_
  refine PL.stepW rfl rfl rfl rfl rfl (PS.index1 (i:=i / 8) (.lit (.int .u8 ((l.getD (i / 8) 0:Nat):Int))) rfl rfl rfl Tryz.underlying22 (by kernel_rfl) (Z7s hlt)) ?_
  refine PL.stepW rfl rfl rfl rfl rfl (PS.loadA rfl rfl Tryz.underlying5 rfl) ?_
  refine PL.stepW rfl rfl rfl rfl rfl (PS.moved (r:=.c _) rfl rfl) ?_
  refine PL.stepW rfl rfl rfl rfl rfl (PS.remN (a:=i) (b:=8) rfl rfl rfl (by decide)) ?_
  refine PL.stepW rfl rfl rfl rfl rfl (PS.convI ((i%8:Nat):Int) rfl rfl Tryz.underlying3 Tryz.underlying99 (wu64 (by omega))) ?_
  refine PL.stepW rfl rfl rfl rfl rfl (PS.shrN (a:=l.getD (i / 8) 0) (b:=i%8) rfl rfl rfl (by show _≤8;omega)) ?_
  refine PL.stepW rfl rfl rfl rfl rfl (PS.remN (b:=2) rfl rfl rfl (by decide)) ?_
  refine PL.stepW rfl rfl rfl rfl rfl (PS.eql rfl rfl rfl) ?_
  refine PL.pT rfl rfl rfl rfl rfl rfl ?_
  refine PL.mu rfl rfl rfl rfl rfl ?_
  refine PL.nil ?_
  refine(PW.ret ?_:PW _ _ _ _)
  exact Rt.as (Rt.one Tryz.results69 rfl) (Zgi (by unfold dg1 bt;exact decide_eq_decide.2 (by omega)))
 have hlt:¬i / 8 < l.length:=by have:=of_decide_eq_false hs11;omega
 refine PL.mv rfl rfl rfl rfl rfl ?_
 refine PL.stepP rfl rfl rfl (by decide) rfl rfl ?_
 refine PL.stepP rfl rfl rfl (by decide) rfl rfl ?_
 refine PL.stepP rfl rfl rfl (by decide) rfl rfl ?_
 refine PL.stepP rfl rfl rfl (by decide) rfl rfl ?_
 refine PL.stepP rfl rfl rfl (by decide) rfl rfl ?_
 refine PL.stepP rfl rfl rfl (by decide) rfl rfl ?_
 refine PL.stepP rfl rfl rfl (by decide) rfl rfl ?_
 refine PL.stepP rfl rfl rfl (by decide) rfl rfl ?_
 refine PL.stepP rfl rfl rfl (by decide) rfl rfl ?_
 refine PL.stepP rfl rfl rfl (by decide) rfl rfl ?_
 refine PL.stepP rfl rfl rfl (by decide) rfl rfl ?_
 refine PL.pF rfl rfl rfl rfl rfl rfl ?_
 refine PL.mu rfl rfl rfl rfl rfl ?_
 refine PL.nil ?_
 refine(PW.ret ?_:PW _ _ _ _)
 exact Rt.as (Rt.one Tryz.results69 rfl) (Zgi (by unfold dg1 bt;rw[List.getD_eq_getElem?_getD,List.getElem?_eq_none (by omega)];simp))
theorem Z5s{n m:List Nat}{p q b o o2:T3}{j:Nat}(h:st3 n m p q b o j=o2):go3 n m p q b j o2=go3 n m p q b (j+1) o:=by subst h;rfl
theorem Ztl{n m:List Nat}{p q:T3}(hn:n.length≤1099511627776)(hm:m.length≤1099511627776)(hp:p.ok)(hq:q.ok)(w:World):FnAt Tryz.prog [.u64] w 30 [byt true n,p.dv,byt true m,q.dv] (two3 n m p q).dv:=by
 refine FnAt.of Tryz.f30 _ _ Tryz.func30 Tryz.ntmps30 rfl (by kernel_rfl) (fun _ _=>by kernel_rfl) fun O=>?_
 show PW _ _ _ ⟨[(0,.c (.dv _)),(1,.c (.dv _)),(2,.c (.dv _)),(3,.c (.dv _))],[]⟩
 refine(PW.seq ?_:PW _ _ _ _)
 refine(PW.region ?_:PW _ _ _ _)
 refine PL.full rfl (Fa.boxR 1 rfl rfl (by kernel_rfl) rfl rfl ?_)
 refine PL.full rfl (Fa.boxR 2 rfl rfl (by kernel_rfl) rfl rfl ?_)
 refine PL.full rfl (Fa.alloc 3 (z:=(.agg #[.slice none 0 0,.slice none 0 0,.slice none 0 0])) rfl (by kernel_rfl) (by kernel_rfl) rfl rfl ?_)
 refine PL.nil ?_
 refine(PW.seq ?_:PW _ _ _ _)
 refine(PW.region ?_:PW _ _ _ _)
 refine PL.call (xs:=[]) rfl rfl rfl rfl rfl rfl rfl (fun w hw=>c_D w) ?_
 refine PL.mu rfl rfl rfl rfl rfl ?_
 refine PL.nil ?_
 refine(PW.seq ?_:PW _ _ _ _)
 refine(PW.region ?_:PW _ _ _ _)
 refine PL.step rfl rfl rfl (PS.loadR (xs:=[_,_,_]) rfl rfl rfl rfl Tryz.underlying34 rfl (by kernel_rfl)) ?_
 refine PL.step rfl rfl rfl (PS.loadR (xs:=[_,_,_]) rfl rfl rfl rfl Tryz.underlying34 rfl (by kernel_rfl)) ?_
 refine PL.mv rfl rfl rfl rfl rfl ?_
 refine PL.call (xs:=[_,_,_]) rfl rfl rfl rfl rfl rfl rfl (fun w hw=>Zgl (p:=p) (q:=q) hp hq w) ?_
 refine PL.full rfl (Fa.alloc 4 (z:=(.agg #[.slice none 0 0,.slice none 0 0,.slice none 0 0])) rfl (by kernel_rfl) (by kernel_rfl) rfl rfl ?_)
 refine PL.full rfl (Fa.storeR rfl rfl rfl rfl rfl rfl (by kernel_rfl) rfl ?_)
 refine PL.nil ?_
 refine(PW.seq ?_:PW _ _ _ _)
 refine(PW.region ?_:PW _ _ _ _)
 refine PL.call (xs:=[]) rfl rfl rfl rfl rfl rfl rfl (fun w hw=>Zqo w) ?_
 refine PL.full rfl (Fa.alloc 5 (z:=(.agg #[.slice none 0 0,.slice none 0 0,.slice none 0 0])) rfl (by kernel_rfl) (by kernel_rfl) rfl rfl ?_)
 refine PL.full rfl (Fa.storeR rfl rfl rfl rfl rfl rfl (by kernel_rfl) rfl ?_)
 refine PL.nil ?_
 refine(PW.seq ?_:PW _ _ _ _)
 refine(PW.region ?_:PW _ _ _ _)
 refine PL.mv rfl rfl rfl rfl rfl ?_
 refine PL.step rfl rfl rfl (PS.len (n:=n.length) rfl rfl Tryz.underlying22 (by decide) (by simp[bl])) ?_
 refine PL.mu rfl rfl rfl rfl rfl ?_
 refine PL.nil ?_
 refine(PW.cut (fun σm=>∃most:Nat,(n.length≤most∧m.length≤most∧(most=n.length∨most=m.length))∧σm=⟨[(12,In (most:Int)),(11,.c (.ptr 5 0)),(10,.c (.ptr 4 0)),(9,D (num dn)),(8,.c (.ptr 3 0)),(7,.c (.ptr 2 0)),(5,.c (.ptr 1 0)),(2,D (byt true m)),(0,D (byt true n))],[(5,.var 34 [.dv (num (Z9l).x),.dv (num (Z9l).y),.dv (num (Z9l).z)]),(4,.var 34 [.dv (num (ad3 p q).x),.dv (num (ad3 p q).y),.dv (num (ad3 p q).z)]),(3,.var 34 [.dv (.lit (.slice none 0 0)),.dv (.lit (.slice none 0 0)),.dv (.lit (.slice none 0 0))]),(2,.var 34 [.dv (num (q).x),.dv (num (q).y),.dv (num (q).z)]),(1,.var 34 [.dv (num (p).x),.dv (num (p).y),.dv (num (p).z)])]⟩) ?_ ?_:PW _ _ _ _)
 ·skip
  refine(PW.seq ?_:PW _ _ _ _)
  refine(PW.region ?_:PW _ _ _ _)
  refine PL.mv rfl rfl rfl rfl rfl ?_
  refine PL.step rfl rfl rfl (PS.len (n:=m.length) rfl rfl Tryz.underlying22 (by decide) (by simp[bl])) ?_
  refine PL.mv rfl rfl rfl rfl rfl ?_
  refine PL.step rfl rfl rfl (PS.gtr rfl rfl rfl) ?_
  refine PL.nil ?_
  show PW _ _ _ _
  refine PW.cond (by rfl) (fun hc42=>?_) (fun hc42=>?_)
  ·have hcm:n.length < m.length:=by have:=of_decide_eq_true hc42;omega
   refine(PW.region ?_:PW _ _ _ _)
   refine PL.mv rfl rfl rfl rfl rfl ?_
   refine PL.step rfl rfl rfl (PS.len (n:=m.length) rfl rfl Tryz.underlying22 (by decide) (by simp[bl])) ?_
   refine PL.mu rfl rfl rfl rfl rfl ?_
   refine PL.nil ?_
   first|exact⟨id,_,⟨m.length,by have:=hcm;omega,rfl⟩,⟨by refine⟨.inr rfl,.inr rfl,.inr rfl,.inr rfl,.inr rfl,.inr rfl,.inr rfl,.inr rfl,.inr rfl,trivial⟩,by refine⟨.inr rfl,.inr rfl,.inr rfl,.inr rfl,.inr rfl,trivial⟩,by kernel_rfl⟩⟩|exact⟨id,_,⟨n.length,by have:=hcm;omega,rfl⟩,⟨by refine⟨.inr rfl,.inr rfl,.inr rfl,.inr rfl,.inr rfl,.inr rfl,.inr rfl,.inr rfl,.inr rfl,trivial⟩,by refine⟨.inr rfl,.inr rfl,.inr rfl,.inr rfl,.inr rfl,trivial⟩,by kernel_rfl⟩⟩
  have hcm:¬n.length < m.length:=by have:=of_decide_eq_false hc42;omega
  refine(PW.skip ?_:PW _ _ _ _)
  first|exact⟨id,_,⟨m.length,by have:=hcm;omega,rfl⟩,⟨by refine⟨.inr rfl,.inr rfl,.inr rfl,.inr rfl,.inr rfl,.inr rfl,.inr rfl,.inr rfl,.inr rfl,trivial⟩,by refine⟨.inr rfl,.inr rfl,.inr rfl,.inr rfl,.inr rfl,trivial⟩,by kernel_rfl⟩⟩|exact⟨id,_,⟨n.length,by have:=hcm;omega,rfl⟩,⟨by refine⟨.inr rfl,.inr rfl,.inr rfl,.inr rfl,.inr rfl,.inr rfl,.inr rfl,.inr rfl,.inr rfl,trivial⟩,by refine⟨.inr rfl,.inr rfl,.inr rfl,.inr rfl,.inr rfl,trivial⟩,by kernel_rfl⟩⟩
 ·skip
  rintro σm ⟨most,hmost,rfl⟩
  have hmx:8*max n.length m.length=8*most:=by rcases hmost with⟨h1,h2,h3|h3⟩ <;> simp[Nat.max_def] <;> split <;> omega
  have hm40:most≤1099511627776:=by omega
  refine(PW.seq ?_:PW _ _ _ _)
  refine(PW.seq ?_:PW _ _ _ _)
  refine(PW.region ?_:PW _ _ _ _)
  refine PL.mv rfl rfl rfl rfl rfl ?_
  refine PL.step rfl rfl rfl (PS.mul ((8*most:Nat):Int) rfl rfl rfl (by rw[wi64 (by omega)];omega)) ?_
  refine PL.step rfl rfl rfl (PS.sub ((8*most:Nat) - 1:Int) rfl rfl rfl (wi64 (by omega))) ?_
  refine PL.mu rfl rfl rfl rfl rfl ?_
  refine PL.nil ?_
  refine(PW.block ?_:PW _ _ _ _)
  refine PW.loopW (fun k σ=>∃o:T3,o.ok∧k≤8*most∧go3 n m p q (ad3 p q) k o=two3 n m p q∧σ=⟨[(13,In ((k:Int) - 1)),(11,.c (.ptr 5 0)),(10,.c (.ptr 4 0)),(9,D (num dn)),(8,.c (.ptr 3 0)),(7,.c (.ptr 2 0)),(5,.c (.ptr 1 0)),(2,D (byt true m)),(0,D (byt true n))],[(5,.var 34 [.dv (num (o).x),.dv (num (o).y),.dv (num (o).z)]),(4,.var 34 [.dv (num (ad3 p q).x),.dv (num (ad3 p q).y),.dv (num (ad3 p q).z)]),(3,.var 34 [.dv (.lit (.slice none 0 0)),.dv (.lit (.slice none 0 0)),.dv (.lit (.slice none 0 0))]),(2,.var 34 [.dv (num (q).x),.dv (num (q).y),.dv (num (q).z)]),(1,.var 34 [.dv (num (p).x),.dv (num (p).y),.dv (num (p).z)])]⟩) (8*most) ⟨id,_,⟨Z9l,Zcd,Nat.le_refl _,by unfold two3;rw[hmx],rfl⟩,⟨by refine⟨.inr rfl,.inr rfl,.inr rfl,.inr rfl,.inr rfl,.inr rfl,.inr rfl,.inr rfl,.inr rfl,trivial⟩,by refine⟨.inr rfl,.inr rfl,.inr rfl,.inr rfl,.inr rfl,trivial⟩,by kernel_rfl⟩⟩ ?_
  rintro k σ' ⟨o,ho,hk,hgo,rfl⟩
  refine(PW.seq ?_:PW _ _ _ _)
  refine(PW.seq ?_:PW _ _ _ _)
  refine(PW.region ?_:PW _ _ _ _)
  refine PL.mv rfl rfl rfl rfl rfl ?_
  refine PL.step rfl rfl rfl (PS.geq rfl rfl rfl) ?_
  refine PL.nil ?_
  show PW _ _ _ _
  refine PW.cond (by rfl) (fun hc75=>?_) (fun hc75=>?_)
  ·obtain⟨j,rfl⟩:∃j,k=j+1:=⟨k - 1,by have:=of_decide_eq_true hc75;omega⟩
   rw[show((j+1:Nat):Int) - 1=(j:Int) by omega]
   refine(PW.skip ?_:PW _ _ _ _)
   refine(PW.seq ?_:PW _ _ _ _)
   refine(PW.block ?_:PW _ _ _ _)
   refine(PW.seq ?_:PW _ _ _ _)
   refine(PW.region ?_:PW _ _ _ _)
   refine PL.step rfl rfl rfl (PS.loadR (xs:=[_,_,_]) rfl rfl rfl rfl Tryz.underlying34 rfl (by kernel_rfl)) ?_
   refine PL.step rfl rfl rfl (PS.loadR (xs:=[_,_,_]) rfl rfl rfl rfl Tryz.underlying34 rfl (by kernel_rfl)) ?_
   refine PL.mv rfl rfl rfl rfl rfl ?_
   refine PL.call (xs:=[_,_,_]) rfl rfl rfl rfl rfl rfl rfl (fun w hw=>Zgl (p:=o) (q:=o) ho ho w) ?_
   refine PL.full rfl (Fa.storeR rfl rfl rfl rfl rfl rfl (by kernel_rfl) rfl ?_)
   refine PL.nil ?_
   refine(PW.block ?_:PW _ _ _ _)
   refine(PW.seq ?_:PW _ _ _ _)
   rcases hn1:dg1 n j with _|_ <;> rcases hm1:dg1 m j with _|_
   ·skip
    refine(PW.region ?_:PW _ _ _ _)
    refine PL.mv rfl rfl rfl rfl rfl ?_
    refine PL.mv rfl rfl rfl rfl rfl ?_
    refine PL.call (xs:=[_,_]) rfl rfl rfl rfl rfl rfl rfl (fun w hw=>hn1▸Z2a (l:=n) (i:=j) (by omega) w) ?_
    refine PL.mv rfl rfl rfl rfl rfl ?_
    refine PL.stepP rfl rfl rfl (by decide) rfl rfl ?_
    refine PL.stepP rfl rfl rfl (by decide) rfl rfl ?_
    refine PL.stepP rfl rfl rfl (by decide) rfl rfl ?_
    refine PL.pF rfl rfl rfl rfl rfl rfl ?_
    refine PL.mu rfl rfl rfl rfl rfl ?_
    refine PL.nil ?_
    show PW _ _ _ _
    refine PW.cond (b:=false) (by rfl) (fun h=>nomatch h) (fun _=>?_)
    refine(PW.seq ?_:PW _ _ _ _)
    refine(PW.region ?_:PW _ _ _ _)
    refine PL.mv rfl rfl rfl rfl rfl ?_
    refine PL.mv rfl rfl rfl rfl rfl ?_
    refine PL.call (xs:=[_,_]) rfl rfl rfl rfl rfl rfl rfl (fun w hw=>hn1▸Z2a (l:=n) (i:=j) (by omega) w) ?_
    refine PL.mu rfl rfl rfl rfl rfl ?_
    refine PL.nil ?_
    show PW _ _ _ _
    refine PW.cond (b:=false) (by rfl) (fun h=>nomatch h) (fun _=>?_)
    refine(PW.seq ?_:PW _ _ _ _)
    refine(PW.region ?_:PW _ _ _ _)
    refine PL.mv rfl rfl rfl rfl rfl ?_
    refine PL.mv rfl rfl rfl rfl rfl ?_
    refine PL.call (xs:=[_,_]) rfl rfl rfl rfl rfl rfl rfl (fun w hw=>hm1▸Z2a (l:=m) (i:=j) (by omega) w) ?_
    refine PL.mu rfl rfl rfl rfl rfl ?_
    refine PL.nil ?_
    show PW _ _ _ _
    refine PW.cond (b:=false) (by rfl) (fun h=>nomatch h) (fun _=>?_)
    refine(PW.skip ?_:PW _ _ _ _)
    refine(PW.region ?_:PW _ _ _ _)
    refine PL.mv rfl rfl rfl rfl rfl ?_
    refine PL.step rfl rfl rfl (PS.sub ((j:Int) - 1) rfl rfl rfl (wi64 (by omega))) ?_
    refine PL.mu rfl rfl rfl rfl rfl ?_
    refine PL.nil ?_
    exact⟨j,_,id,by omega,⟨ad3 o o,Z4u _ _,by omega,(Z5s (by unfold st3;rw[hn1,hm1])).trans hgo,rfl⟩,⟨by refine⟨.inr rfl,.inr rfl,.inr rfl,.inr rfl,.inr rfl,.inr rfl,.inr rfl,.inr rfl,.inr rfl,trivial⟩,by refine⟨.inr rfl,.inr rfl,.inr rfl,.inr rfl,.inr rfl,trivial⟩,by kernel_rfl⟩⟩
   ·skip
    refine(PW.region ?_:PW _ _ _ _)
    refine PL.mv rfl rfl rfl rfl rfl ?_
    refine PL.mv rfl rfl rfl rfl rfl ?_
    refine PL.call (xs:=[_,_]) rfl rfl rfl rfl rfl rfl rfl (fun w hw=>hn1▸Z2a (l:=n) (i:=j) (by omega) w) ?_
    refine PL.mv rfl rfl rfl rfl rfl ?_
    refine PL.stepP rfl rfl rfl (by decide) rfl rfl ?_
    refine PL.stepP rfl rfl rfl (by decide) rfl rfl ?_
    refine PL.stepP rfl rfl rfl (by decide) rfl rfl ?_
    refine PL.pF rfl rfl rfl rfl rfl rfl ?_
    refine PL.mu rfl rfl rfl rfl rfl ?_
    refine PL.nil ?_
    show PW _ _ _ _
    refine PW.cond (b:=false) (by rfl) (fun h=>nomatch h) (fun _=>?_)
    refine(PW.seq ?_:PW _ _ _ _)
    refine(PW.region ?_:PW _ _ _ _)
    refine PL.mv rfl rfl rfl rfl rfl ?_
    refine PL.mv rfl rfl rfl rfl rfl ?_
    refine PL.call (xs:=[_,_]) rfl rfl rfl rfl rfl rfl rfl (fun w hw=>hn1▸Z2a (l:=n) (i:=j) (by omega) w) ?_
    refine PL.mu rfl rfl rfl rfl rfl ?_
    refine PL.nil ?_
    show PW _ _ _ _
    refine PW.cond (b:=false) (by rfl) (fun h=>nomatch h) (fun _=>?_)
    refine(PW.seq ?_:PW _ _ _ _)
    refine(PW.region ?_:PW _ _ _ _)
    refine PL.mv rfl rfl rfl rfl rfl ?_
    refine PL.mv rfl rfl rfl rfl rfl ?_
    refine PL.call (xs:=[_,_]) rfl rfl rfl rfl rfl rfl rfl (fun w hw=>hm1▸Z2a (l:=m) (i:=j) (by omega) w) ?_
    refine PL.mu rfl rfl rfl rfl rfl ?_
    refine PL.nil ?_
    show PW _ _ _ _
    refine PW.cond (b:=true) (by rfl) (fun _=>?_) (fun h=>nomatch h)
    refine(PW.region ?_:PW _ _ _ _)
    refine PL.step rfl rfl rfl (PS.loadR (xs:=[_,_,_]) rfl rfl rfl rfl Tryz.underlying34 rfl (by kernel_rfl)) ?_
    refine PL.step rfl rfl rfl (PS.loadR (xs:=[_,_,_]) rfl rfl rfl rfl Tryz.underlying34 rfl (by kernel_rfl)) ?_
    refine PL.mv rfl rfl rfl rfl rfl ?_
    refine PL.call (xs:=[_,_,_]) rfl rfl rfl rfl rfl rfl rfl (fun w hw=>Zgl (p:=ad3 o o) (q:=q) (Z4u _ _) hq w) ?_
    refine PL.full rfl (Fa.storeR rfl rfl rfl rfl rfl rfl (by kernel_rfl) rfl ?_)
    refine PL.nil ?_
    refine(PW.region ?_:PW _ _ _ _)
    refine PL.mv rfl rfl rfl rfl rfl ?_
    refine PL.step rfl rfl rfl (PS.sub ((j:Int) - 1) rfl rfl rfl (wi64 (by omega))) ?_
    refine PL.mu rfl rfl rfl rfl rfl ?_
    refine PL.nil ?_
    exact⟨j,_,id,by omega,⟨ad3 (ad3 o o) q,Z4u _ _,by omega,(Z5s (by unfold st3;rw[hn1,hm1])).trans hgo,rfl⟩,⟨by refine⟨.inr rfl,.inr rfl,.inr rfl,.inr rfl,.inr rfl,.inr rfl,.inr rfl,.inr rfl,.inr rfl,trivial⟩,by refine⟨.inr rfl,.inr rfl,.inr rfl,.inr rfl,.inr rfl,trivial⟩,by kernel_rfl⟩⟩
   ·skip
    refine(PW.region ?_:PW _ _ _ _)
    refine PL.mv rfl rfl rfl rfl rfl ?_
    refine PL.mv rfl rfl rfl rfl rfl ?_
    refine PL.call (xs:=[_,_]) rfl rfl rfl rfl rfl rfl rfl (fun w hw=>hn1▸Z2a (l:=n) (i:=j) (by omega) w) ?_
    refine PL.mv rfl rfl rfl rfl rfl ?_
    refine PL.stepW rfl rfl rfl rfl rfl (PS.moved (r:=.c _) rfl rfl) ?_
    refine PL.stepW rfl rfl rfl rfl rfl (PS.moved (r:=.c _) rfl rfl) ?_
    refine PL.stepW rfl rfl rfl rfl rfl (PS.call (xs:=[_,_]) rfl rfl rfl rfl (fun w hw=>hm1▸Z2a (l:=m) (i:=j) (by omega) w)) ?_
    refine PL.pT rfl rfl rfl rfl rfl rfl ?_
    refine PL.mu rfl rfl rfl rfl rfl ?_
    refine PL.nil ?_
    show PW _ _ _ _
    refine PW.cond (b:=false) (by rfl) (fun h=>nomatch h) (fun _=>?_)
    refine(PW.seq ?_:PW _ _ _ _)
    refine(PW.region ?_:PW _ _ _ _)
    refine PL.mv rfl rfl rfl rfl rfl ?_
    refine PL.mv rfl rfl rfl rfl rfl ?_
    refine PL.call (xs:=[_,_]) rfl rfl rfl rfl rfl rfl rfl (fun w hw=>hn1▸Z2a (l:=n) (i:=j) (by omega) w) ?_
    refine PL.mu rfl rfl rfl rfl rfl ?_
    refine PL.nil ?_
    show PW _ _ _ _
    refine PW.cond (b:=true) (by rfl) (fun _=>?_) (fun h=>nomatch h)
    refine(PW.region ?_:PW _ _ _ _)
    refine PL.step rfl rfl rfl (PS.loadR (xs:=[_,_,_]) rfl rfl rfl rfl Tryz.underlying34 rfl (by kernel_rfl)) ?_
    refine PL.step rfl rfl rfl (PS.loadR (xs:=[_,_,_]) rfl rfl rfl rfl Tryz.underlying34 rfl (by kernel_rfl)) ?_
    refine PL.mv rfl rfl rfl rfl rfl ?_
    refine PL.call (xs:=[_,_,_]) rfl rfl rfl rfl rfl rfl rfl (fun w hw=>Zgl (p:=ad3 o o) (q:=p) (Z4u _ _) hp w) ?_
    refine PL.full rfl (Fa.storeR rfl rfl rfl rfl rfl rfl (by kernel_rfl) rfl ?_)
    refine PL.nil ?_
    refine(PW.region ?_:PW _ _ _ _)
    refine PL.mv rfl rfl rfl rfl rfl ?_
    refine PL.step rfl rfl rfl (PS.sub ((j:Int) - 1) rfl rfl rfl (wi64 (by omega))) ?_
    refine PL.mu rfl rfl rfl rfl rfl ?_
    refine PL.nil ?_
    exact⟨j,_,id,by omega,⟨ad3 (ad3 o o) p,Z4u _ _,by omega,(Z5s (by unfold st3;rw[hn1,hm1])).trans hgo,rfl⟩,⟨by refine⟨.inr rfl,.inr rfl,.inr rfl,.inr rfl,.inr rfl,.inr rfl,.inr rfl,.inr rfl,.inr rfl,trivial⟩,by refine⟨.inr rfl,.inr rfl,.inr rfl,.inr rfl,.inr rfl,trivial⟩,by kernel_rfl⟩⟩
   ·skip
    refine(PW.region ?_:PW _ _ _ _)
    refine PL.mv rfl rfl rfl rfl rfl ?_
    refine PL.mv rfl rfl rfl rfl rfl ?_
    refine PL.call (xs:=[_,_]) rfl rfl rfl rfl rfl rfl rfl (fun w hw=>hn1▸Z2a (l:=n) (i:=j) (by omega) w) ?_
    refine PL.mv rfl rfl rfl rfl rfl ?_
    refine PL.stepW rfl rfl rfl rfl rfl (PS.moved (r:=.c _) rfl rfl) ?_
    refine PL.stepW rfl rfl rfl rfl rfl (PS.moved (r:=.c _) rfl rfl) ?_
    refine PL.stepW rfl rfl rfl rfl rfl (PS.call (xs:=[_,_]) rfl rfl rfl rfl (fun w hw=>hm1▸Z2a (l:=m) (i:=j) (by omega) w)) ?_
    refine PL.pT rfl rfl rfl rfl rfl rfl ?_
    refine PL.mu rfl rfl rfl rfl rfl ?_
    refine PL.nil ?_
    show PW _ _ _ _
    refine PW.cond (b:=true) (by rfl) (fun _=>?_) (fun h=>nomatch h)
    refine(PW.region ?_:PW _ _ _ _)
    refine PL.step rfl rfl rfl (PS.loadR (xs:=[_,_,_]) rfl rfl rfl rfl Tryz.underlying34 rfl (by kernel_rfl)) ?_
    refine PL.step rfl rfl rfl (PS.loadR (xs:=[_,_,_]) rfl rfl rfl rfl Tryz.underlying34 rfl (by kernel_rfl)) ?_
    refine PL.mv rfl rfl rfl rfl rfl ?_
    refine PL.call (xs:=[_,_,_]) rfl rfl rfl rfl rfl rfl rfl (fun w hw=>Zgl (p:=ad3 o o) (q:=ad3 p q) (Z4u _ _) (Z4u _ _) w) ?_
    refine PL.full rfl (Fa.storeR rfl rfl rfl rfl rfl rfl (by kernel_rfl) rfl ?_)
    refine PL.nil ?_
    refine(PW.region ?_:PW _ _ _ _)
    refine PL.mv rfl rfl rfl rfl rfl ?_
    refine PL.step rfl rfl rfl (PS.sub ((j:Int) - 1) rfl rfl rfl (wi64 (by omega))) ?_
    refine PL.mu rfl rfl rfl rfl rfl ?_
    refine PL.nil ?_
    exact⟨j,_,id,by omega,⟨ad3 (ad3 o o) (ad3 p q),Z4u _ _,by omega,(Z5s (by unfold st3;rw[hn1,hm1])).trans hgo,rfl⟩,⟨by refine⟨.inr rfl,.inr rfl,.inr rfl,.inr rfl,.inr rfl,.inr rfl,.inr rfl,.inr rfl,.inr rfl,trivial⟩,by refine⟨.inr rfl,.inr rfl,.inr rfl,.inr rfl,.inr rfl,trivial⟩,by kernel_rfl⟩⟩
  obtain rfl:k=0:=by have:=of_decide_eq_false hc75;omega
  refine(PW.exit ?_:PW _ _ _ _)
  refine(PW.seq ?_:PW _ _ _ _)
  refine(PW.region ?_:PW _ _ _ _)
  refine PL.step rfl rfl rfl (PS.loadR (xs:=[_,_,_]) rfl rfl rfl rfl Tryz.underlying34 rfl (by kernel_rfl)) ?_
  refine PL.full rfl (Fa.storeR rfl rfl rfl rfl rfl rfl (by kernel_rfl) rfl ?_)
  refine PL.nil ?_
  refine(PW.ret ?_:PW _ _ _ _)
  exact Rt.as (Rt.cell Tryz.results30 rfl rfl Tryz.underlying34 rfl (by kernel_rfl)) (Z6q (by rw[←hgo];rfl))
end Go.Proofs.YtjimhjfjfpeojaaGreatDoor.Av
