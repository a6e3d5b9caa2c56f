/- Joined texts. -/
import Derived.OpenShut
import Derived.WideShapes
import Derived.ChangeArms
import Derived.Test.YtjimhjfjfpeojaaGreatDoorQbFaE
import Derived.Test.YtjimhjfjfpeojaaGreatDoorQbEdA
set_option linter.unusedVariables false
namespace Go.Proofs.YtjimhjfjfpeojaaGreatDoor.Ed
open Go.RowKit Go.Proofs.YtjimhjfjfpeojaaGreatDoor.Gn Go.Proofs.YtjimhjfjfpeojaaGreatDoor.Fd Go.Deep Go.ChangeShapes Go.WideShapes
section
variable {H:Type} {enc:TypeId × Value→H} {w:World} {base:Nat} {spare:Nat→Bool} {held:Bool}
theorem trod_e5{fuel:Nat}{p0 p1 p2 p3 p4:Value}{x:DataW H × List MemPlace}(h:DataW.trod enc Tryz.prog w base spare held fuel 26 [p0,p1,p2,p3,p4]=some x) :
  ∃e:K,p0=.int .u64 (e.1.a:Int)∧p1=.int .u64 (e.1.b:Int)∧p2=.int .u64 (e.1.c:Int)∧p3=.int .u64 (e.1.d:Int)∧p4=.int .u64 (e.1.e:Int):=by
 obtain⟨xs,m,-, -, -, hx,hg⟩:=DataW.trod_array Tryz.underlying26 h
 rw[c64] at hg
 match xs,hx with
 | [y0,y1,y2,y3,y4],_ =>
  have key:∀(p:Value) (y:DataW H × List MemPlace),DataW.trod enc Tryz.prog w base spare held m 24 [p]=some y→∃n:Nat,p=.int .u64 (n:Int)∧n < 18446744073709551616:=by
   intro p y hp
   obtain⟨n,hn,-, hw⟩:=DataW.trod_int Tryz.underlying24 hp
   have hw':0≤n∧n≤18446744073709551615:=by simpa[Lit.wf,IntKind.min,IntKind.max,IntKind.signed,IntKind.bits] using hw
   refine⟨n.toNat,?_,by omega⟩
   have:p=.int .u64 n:=by simpa using hn
   rw[this,Int.toNat_of_nonneg hw'.1]
  obtain⟨a,ha,la⟩:=key p0 y0 (by simpa using hg 0 (by decide))
  obtain⟨b,hb,lb⟩:=key p1 y1 (by simpa using hg 1 (by decide))
  obtain⟨c,hc,lc⟩:=key p2 y2 (by simpa using hg 2 (by decide))
  obtain⟨d,hd,ld⟩:=key p3 y3 (by simpa using hg 3 (by decide))
  obtain⟨e,he,le⟩:=key p4 y4 (by simpa using hg 4 (by decide))
  exact⟨⟨⟨a,b,c,d,e⟩,la,lb,lc,ld,le⟩,ha,hb,hc,hd,he⟩
theorem c20:Tryz.prog.cellsOf 28=20:=by kernel_rfl
set_option maxRecDepth 100000 in
theorem open_p20{r:Reach}{b0:Nat}{v:Value}{d:DataW H}{ps:List MemPlace}
  (hv:Value.okWide Tryz.prog w r b0 28 v) (h:DataW.Trod enc Tryz.prog w base spare held 28 v d ps):∃p:KP,v=.agg p.v:=by
 obtain⟨cs,rfl,hsz⟩:=okWide_struct Tryz.underlying28 hv
 obtain⟨l⟩:=cs
 have hl:l.length=20:=hsz.trans c20
 match l,hl with
 | [p0,p1,p2,p3,p4,p5,p6,p7,p8,p9,p10,p11,p12,p13,p14,p15,p16,p17,p18,p19],_ =>
  obtain⟨fuel,hf⟩:=h
  obtain⟨xs,m,-, -, -, hx,hg⟩:=DataW.trod_struct Tryz.underlying28 hf
  match xs,hx with
  | [y0,y1,y2,y3],_ =>
   have g0:=hg 0 _ rfl
   have g1:=hg 1 _ rfl
   have g2:=hg 2 _ rfl
   have g3:=hg 3 _ rfl
   have hc:Tryz.prog.cellsOf 26=5:=c5
   have e0:([p0,p1,p2,p3,p4,p5,p6,p7,p8,p9,p10,p11,p12,p13,p14,p15,p16,p17,p18,p19].drop 0).take 5=[p0,p1,p2,p3,p4]:=rfl
   have e1:([p0,p1,p2,p3,p4,p5,p6,p7,p8,p9,p10,p11,p12,p13,p14,p15,p16,p17,p18,p19].drop 5).take 5=[p5,p6,p7,p8,p9]:=rfl
   have e2:([p0,p1,p2,p3,p4,p5,p6,p7,p8,p9,p10,p11,p12,p13,p14,p15,p16,p17,p18,p19].drop 10).take 5=[p10,p11,p12,p13,p14]:=rfl
   have e3:([p0,p1,p2,p3,p4,p5,p6,p7,p8,p9,p10,p11,p12,p13,p14,p15,p16,p17,p18,p19].drop 15).take 5=[p15,p16,p17,p18,p19]:=rfl
   have f0:DataW.trod enc Tryz.prog w base spare held m 26 (([p0,p1,p2,p3,p4,p5,p6,p7,p8,p9,p10,p11,p12,p13,p14,p15,p16,p17,p18,p19].drop 0).take (Tryz.prog.cellsOf 26))=some y0:=g0
   have f1:DataW.trod enc Tryz.prog w base spare held m 26 (([p0,p1,p2,p3,p4,p5,p6,p7,p8,p9,p10,p11,p12,p13,p14,p15,p16,p17,p18,p19].drop 5).take (Tryz.prog.cellsOf 26))=some y1:=g1
   have f2:DataW.trod enc Tryz.prog w base spare held m 26 (([p0,p1,p2,p3,p4,p5,p6,p7,p8,p9,p10,p11,p12,p13,p14,p15,p16,p17,p18,p19].drop 10).take (Tryz.prog.cellsOf 26))=some y2:=g2
   have f3:DataW.trod enc Tryz.prog w base spare held m 26 (([p0,p1,p2,p3,p4,p5,p6,p7,p8,p9,p10,p11,p12,p13,p14,p15,p16,p17,p18,p19].drop 15).take (Tryz.prog.cellsOf 26))=some y3:=g3
   rw[hc,e0] at f0
   rw[hc,e1] at f1
   rw[hc,e2] at f2
   rw[hc,e3] at f3
   obtain⟨a,a0,a1,a2,a3,a4⟩:=trod_e5 f0
   obtain⟨b,b0,b1,b2,b3,b4⟩:=trod_e5 f1
   obtain⟨c,c0,c1,c2,c3,c4⟩:=trod_e5 f2
   obtain⟨d,d0,d1,d2,d3,d4⟩:=trod_e5 f3
   refine⟨⟨a,b,c,d⟩,?_⟩
   rw[a0,a1,a2,a3,a4,b0,b1,b2,b3,b4,c0,c1,c2,c3,c4,d0,d1,d2,d3,d4]
   rfl
end
end Go.Proofs.YtjimhjfjfpeojaaGreatDoor.Ed
