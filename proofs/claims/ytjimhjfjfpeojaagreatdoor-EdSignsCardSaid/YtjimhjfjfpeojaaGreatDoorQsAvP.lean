/- Joined texts. -/
import Derived.Test.YtjimhjfjfpeojaaGreatDoorQsRaF
set_option linter.unusedVariables false
namespace Go.Proofs.YtjimhjfjfpeojaaGreatDoor.Av
open Go.RowKit Go.Proofs.YtjimhjfjfpeojaaGreatDoor.Gn Go.Proofs.YtjimhjfjfpeojaaGreatDoor.Fd Go.Deep
def pt(x y z:Nat):DV:=.agg [num x,num y,num z]
theorem num_zero:num 0=.sq false 1 []:=by unfold num row;rw[dg_zero];rfl
theorem num_one:num 1=.sq false 1 [.lit (.int .u64 1)]:=by unfold num row;rw[show dg 1=[1] by decide +kernel];rfl
theorem le_pt{a b c:DV}{x y z:Nat}(h1:DV.le a (num x))(h2:DV.le b (num y))(h3:DV.le c (num z)):DV.le (.agg [a,b,c]) (pt x y z):=le_agg rfl fun j u v hu hv=>by
 match j with
 |0=>simp at hu hv;subst hu hv;exact h1
 |1=>simp at hu hv;subst hu hv;exact h2
 |2=>simp at hu hv;subst hu hv;exact h3
 |j+3=>simp at hu
theorem lt_mod(n:Nat):n%pp < pp:=Nat.mod_lt _ pp_pos
set_option maxRecDepth 100000 in
theorem c_zero(w:World):FnAt Tryz.prog [] w 68 [] (pt 0 1 1):=by
 refine FnAt.of Tryz.f68 _ _ Tryz.func68 Tryz.ntmps68 rfl (by kernel_rfl) (fun _ _=>by kernel_rfl) fun O=>?_
 show PW _ _ _ ⟨[],[]⟩
 refine(PW.seq ?_:PW _ _ _ _)
 refine(PW.region ?_:PW _ _ _ _)
 refine PL.full rfl (Fa.alloc 1 (z:=(.agg #[.slice none 0 0,.slice none 0 0,.slice none 0 0])) rfl (by kernel_rfl) (by kernel_rfl) rfl rfl ?_)
 refine PL.nil ?_
 refine(PW.seq ?_:PW _ _ _ _)
 refine(PW.region ?_:PW _ _ _ _)
 refine PL.step rfl rfl rfl (PS.buildSlice (parts:=[(0,_)]) (xs:=[_]) (z:=(.int .u64 0)) (bytes:=8) rfl rfl rfl Tryz.underlying32 (by kernel_rfl) rfl (by kernel_rfl) (by kernel_rfl)) ?_
 refine PL.step rfl rfl rfl (PS.buildSlice (parts:=[(0,_)]) (xs:=[_]) (z:=(.int .u64 0)) (bytes:=8) rfl rfl rfl Tryz.underlying32 (by kernel_rfl) rfl (by kernel_rfl) (by kernel_rfl)) ?_
 refine PL.step rfl rfl rfl (PS.build (xs:=[_,_]) (zs:=[.slice none 0 0,.slice none 0 0,.slice none 0 0]) [1,2] _ rfl rfl Tryz.underlying34 (by kernel_rfl) (by kernel_rfl) (by kernel_rfl) rfl (by kernel_rfl) rfl) ?_
 refine PL.full rfl (Fa.storeR rfl rfl rfl rfl rfl rfl (by kernel_rfl) rfl ?_)
 refine PL.nil ?_
 refine(PW.ret ?_:PW _ _ _ _)
 exact Rt.as (Rt.cell Tryz.results68 rfl rfl Tryz.underlying34 rfl (by kernel_rfl)) (le_pt (num_zero▸le_nil _ _) (num_one▸le_room _) (num_one▸le_room _))
def aG(z t:Nat):Nat:=z*t%pp
def aF(d x u y v:Nat):Nat:=d*((x*u%pp)*(y*v%pp)%pp)%pp
def aCr(x y u v:Nat):Nat:=((((x+y)%pp)*((u+v)%pp)%pp+(pp - x*u%pp))%pp+(pp - y*v%pp))%pp
def aB(z t:Nat):Nat:=aG z t*aG z t%pp
def aLo(z t d x u y v:Nat):Nat:=(aB z t+(pp - aF d x u y v))%pp
def aHi(z t d x u y v:Nat):Nat:=(aB z t+aF d x u y v)%pp
def adX(x y z u v t d:Nat):Nat:=aG z t*aLo z t d x u y v%pp*aCr x y u v%pp
def adY(x y z u v t d:Nat):Nat:=aG z t*aHi z t d x u y v%pp*((y*v%pp+x*u%pp)%pp)%pp
def adZ(x y z u v t d:Nat):Nat:=aLo z t d x u y v*aHi z t d x u y v%pp
set_option maxRecDepth 100000 in
theorem c_add{x y z u v t d:Nat}(hx:x < pp)(hy:y < pp)(hz:z < pp)(hu:u < pp)(hv:v < pp)(ht:t < pp)(hd:d < pp)(w:World):FnAt Tryz.prog [.u64] w 22 [pt x y z,pt u v t,num d] (pt (adX x y z u v t d) (adY x y z u v t d) (adZ x y z u v t d)):=by
 refine FnAt.of Tryz.f22 _ _ Tryz.func22 Tryz.ntmps22 rfl (by kernel_rfl) (fun _ _=>by kernel_rfl) fun O=>?_
 show PW _ _ _ ⟨[(0,.c (.dv _)),(1,.c (.dv _)),(2,.c (.dv _))],[]⟩
 refine(PW.seq ?_:PW _ _ _ _)
 refine(PW.region ?_:PW _ _ _ _)
 refine PL.full rfl (Fa.boxR 1 rfl rfl (by kernel_rfl) rfl rfl ?_)
 refine PL.full rfl (Fa.boxR 2 rfl rfl (by kernel_rfl) rfl rfl ?_)
 refine PL.full rfl (Fa.alloc 3 (z:=(.agg #[.slice none 0 0,.slice none 0 0,.slice none 0 0])) rfl (by kernel_rfl) (by kernel_rfl) rfl rfl ?_)
 refine PL.nil ?_
 refine(PW.seq ?_:PW _ _ _ _)
 refine(PW.region ?_:PW _ _ _ _)
 refine PL.step rfl rfl rfl (PS.fieldAddr 2 rfl rfl (fun _ _=>by kernel_rfl)) ?_
 refine PL.step rfl rfl rfl (PS.load rfl rfl rfl rfl Tryz.underlying32 rfl) ?_
 refine PL.step rfl rfl rfl (PS.fieldAddr 2 rfl rfl (fun _ _=>by kernel_rfl)) ?_
 refine PL.step rfl rfl rfl (PS.load rfl rfl rfl rfl Tryz.underlying32 rfl) ?_
 refine PL.call (xs:=[_,_]) rfl rfl rfl rfl rfl rfl rfl (fun w hw=>c_mul (by first|assumption|exact lt_mod _) (by first|assumption|exact lt_mod _) w) ?_
 refine PL.mu rfl rfl rfl rfl rfl ?_
 refine PL.nil ?_
 refine(PW.seq ?_:PW _ _ _ _)
 refine(PW.region ?_:PW _ _ _ _)
 refine PL.mv rfl rfl rfl rfl rfl ?_
 refine PL.mv rfl rfl rfl rfl rfl ?_
 refine PL.call (xs:=[_,_]) rfl rfl rfl rfl rfl rfl rfl (fun w hw=>c_mul (by first|assumption|exact lt_mod _) (by first|assumption|exact lt_mod _) w) ?_
 refine PL.mu rfl rfl rfl rfl rfl ?_
 refine PL.nil ?_
 refine(PW.seq ?_:PW _ _ _ _)
 refine(PW.region ?_:PW _ _ _ _)
 refine PL.step rfl rfl rfl (PS.fieldAddr 0 rfl rfl (fun _ _=>by kernel_rfl)) ?_
 refine PL.step rfl rfl rfl (PS.load rfl rfl rfl rfl Tryz.underlying32 rfl) ?_
 refine PL.step rfl rfl rfl (PS.fieldAddr 0 rfl rfl (fun _ _=>by kernel_rfl)) ?_
 refine PL.step rfl rfl rfl (PS.load rfl rfl rfl rfl Tryz.underlying32 rfl) ?_
 refine PL.call (xs:=[_,_]) rfl rfl rfl rfl rfl rfl rfl (fun w hw=>c_mul (by first|assumption|exact lt_mod _) (by first|assumption|exact lt_mod _) w) ?_
 refine PL.mu rfl rfl rfl rfl rfl ?_
 refine PL.nil ?_
 refine(PW.seq ?_:PW _ _ _ _)
 refine(PW.region ?_:PW _ _ _ _)
 refine PL.step rfl rfl rfl (PS.fieldAddr 1 rfl rfl (fun _ _=>by kernel_rfl)) ?_
 refine PL.step rfl rfl rfl (PS.load rfl rfl rfl rfl Tryz.underlying32 rfl) ?_
 refine PL.step rfl rfl rfl (PS.fieldAddr 1 rfl rfl (fun _ _=>by kernel_rfl)) ?_
 refine PL.step rfl rfl rfl (PS.load rfl rfl rfl rfl Tryz.underlying32 rfl) ?_
 refine PL.call (xs:=[_,_]) rfl rfl rfl rfl rfl rfl rfl (fun w hw=>c_mul (by first|assumption|exact lt_mod _) (by first|assumption|exact lt_mod _) w) ?_
 refine PL.mu rfl rfl rfl rfl rfl ?_
 refine PL.nil ?_
 refine(PW.seq ?_:PW _ _ _ _)
 refine(PW.region ?_:PW _ _ _ _)
 refine PL.mv rfl rfl rfl rfl rfl ?_
 refine PL.mv rfl rfl rfl rfl rfl ?_
 refine PL.mv rfl rfl rfl rfl rfl ?_
 refine PL.call (xs:=[_,_]) rfl rfl rfl rfl rfl rfl rfl (fun w hw=>c_mul (by first|assumption|exact lt_mod _) (by first|assumption|exact lt_mod _) w) ?_
 refine PL.call (xs:=[_,_]) rfl rfl rfl rfl rfl rfl rfl (fun w hw=>c_mul (by first|assumption|exact lt_mod _) (by first|assumption|exact lt_mod _) w) ?_
 refine PL.mu rfl rfl rfl rfl rfl ?_
 refine PL.nil ?_
 refine(PW.seq ?_:PW _ _ _ _)
 refine(PW.region ?_:PW _ _ _ _)
 refine PL.mv rfl rfl rfl rfl rfl ?_
 refine PL.mv rfl rfl rfl rfl rfl ?_
 refine PL.call (xs:=[_,_]) rfl rfl rfl rfl rfl rfl rfl (fun w hw=>c_less (by first|assumption|exact lt_mod _) (by first|assumption|exact lt_mod _) w) ?_
 refine PL.mu rfl rfl rfl rfl rfl ?_
 refine PL.nil ?_
 refine(PW.seq ?_:PW _ _ _ _)
 refine(PW.region ?_:PW _ _ _ _)
 refine PL.mv rfl rfl rfl rfl rfl ?_
 refine PL.mv rfl rfl rfl rfl rfl ?_
 refine PL.call (xs:=[_,_]) rfl rfl rfl rfl rfl rfl rfl (fun w hw=>c_plus (by first|assumption|exact lt_mod _) (by first|assumption|exact lt_mod _) w) ?_
 refine PL.mu rfl rfl rfl rfl rfl ?_
 refine PL.nil ?_
 refine(PW.seq ?_:PW _ _ _ _)
 refine(PW.drawn 16 (by kernel_rfl) (by kernel_rfl) (by kernel_rfl) (by kernel_rfl) (by kernel_rfl) ?_:PW _ _ _ _)
 refine PD.step rfl rfl rfl (PS.fieldAddr 0 rfl rfl (fun _ _=>by kernel_rfl)) ?_
 refine PD.step rfl rfl rfl (PS.load rfl rfl rfl rfl Tryz.underlying32 rfl) ?_
 refine PD.step rfl rfl rfl (PS.fieldAddr 1 rfl rfl (fun _ _=>by kernel_rfl)) ?_
 refine PD.step rfl rfl rfl (PS.load rfl rfl rfl rfl Tryz.underlying32 rfl) ?_
 refine PD.call (xs:=[_,_]) rfl rfl rfl rfl rfl rfl rfl (fun w hw=>c_plus (by first|assumption|exact lt_mod _) (by first|assumption|exact lt_mod _) w) ?_
 refine PD.step rfl rfl rfl (PS.fieldAddr 0 rfl rfl (fun _ _=>by kernel_rfl)) ?_
 refine PD.step rfl rfl rfl (PS.load rfl rfl rfl rfl Tryz.underlying32 rfl) ?_
 refine PD.step rfl rfl rfl (PS.fieldAddr 1 rfl rfl (fun _ _=>by kernel_rfl)) ?_
 refine PD.step rfl rfl rfl (PS.load rfl rfl rfl rfl Tryz.underlying32 rfl) ?_
 refine PD.call (xs:=[_,_]) rfl rfl rfl rfl rfl rfl rfl (fun w hw=>c_plus (by first|assumption|exact lt_mod _) (by first|assumption|exact lt_mod _) w) ?_
 refine PD.call (xs:=[_,_]) rfl rfl rfl rfl rfl rfl rfl (fun w hw=>c_mul (by first|assumption|exact lt_mod _) (by first|assumption|exact lt_mod _) w) ?_
 refine PD.mv rfl rfl rfl rfl rfl ?_
 refine PD.call (xs:=[_,_]) rfl rfl rfl rfl rfl rfl rfl (fun w hw=>c_less (by first|assumption|exact lt_mod _) (by first|assumption|exact lt_mod _) w) ?_
 refine PD.mv rfl rfl rfl rfl rfl ?_
 refine PD.call (xs:=[_,_]) rfl rfl rfl rfl rfl rfl rfl (fun w hw=>c_less (by first|assumption|exact lt_mod _) (by first|assumption|exact lt_mod _) w) ?_
 refine PD.mu rfl rfl rfl rfl rfl ?_
 refine PD.nil ?_
 refine(PW.seq ?_:PW _ _ _ _)
 refine(PW.region ?_:PW _ _ _ _)
 refine PL.mv rfl rfl rfl rfl rfl ?_
 refine PL.mv rfl rfl rfl rfl rfl ?_
 refine PL.call (xs:=[_,_]) rfl rfl rfl rfl rfl rfl rfl (fun w hw=>c_mul (by first|assumption|exact lt_mod _) (by first|assumption|exact lt_mod _) w) ?_
 refine PL.mv rfl rfl rfl rfl rfl ?_
 refine PL.call (xs:=[_,_]) rfl rfl rfl rfl rfl rfl rfl (fun w hw=>c_mul (by first|assumption|exact lt_mod _) (by first|assumption|exact lt_mod _) w) ?_
 refine PL.mv rfl rfl rfl rfl rfl ?_
 refine PL.mv rfl rfl rfl rfl rfl ?_
 refine PL.call (xs:=[_,_]) rfl rfl rfl rfl rfl rfl rfl (fun w hw=>c_mul (by first|assumption|exact lt_mod _) (by first|assumption|exact lt_mod _) w) ?_
 refine PL.mv rfl rfl rfl rfl rfl ?_
 refine PL.mv rfl rfl rfl rfl rfl ?_
 refine PL.call (xs:=[_,_]) rfl rfl rfl rfl rfl rfl rfl (fun w hw=>c_plus (by first|assumption|exact lt_mod _) (by first|assumption|exact lt_mod _) w) ?_
 refine PL.call (xs:=[_,_]) rfl rfl rfl rfl rfl rfl rfl (fun w hw=>c_mul (by first|assumption|exact lt_mod _) (by first|assumption|exact lt_mod _) w) ?_
 refine PL.mv rfl rfl rfl rfl rfl ?_
 refine PL.mv rfl rfl rfl rfl rfl ?_
 refine PL.call (xs:=[_,_]) rfl rfl rfl rfl rfl rfl rfl (fun w hw=>c_mul (by first|assumption|exact lt_mod _) (by first|assumption|exact lt_mod _) w) ?_
 refine PL.step rfl rfl rfl (PS.build (xs:=[_,_,_]) (zs:=[.slice none 0 0,.slice none 0 0,.slice none 0 0]) [0,1,2] _ rfl rfl Tryz.underlying34 (by kernel_rfl) (by kernel_rfl) (by kernel_rfl) rfl (by kernel_rfl) rfl) ?_
 refine PL.full rfl (Fa.storeR rfl rfl rfl rfl rfl rfl (by kernel_rfl) rfl ?_)
 refine PL.nil ?_
 refine(PW.ret ?_:PW _ _ _ _)
 exact Rt.as (Rt.cell Tryz.results22 rfl rfl Tryz.underlying34 rfl (by kernel_rfl)) (le_refl _)
end Go.Proofs.YtjimhjfjfpeojaaGreatDoor.Av
