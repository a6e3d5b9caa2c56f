/- Joined texts. -/
import Derived.Test.YtoibhnpmemnlfaaGreatDoorQtAvLw
set_option linter.unusedVariables false
namespace Go.Proofs.YtoibhnpmemnlfaaGreatDoor.Av
open Go.RowKit Go.Proofs.YtoibhnpmemnlfaaGreatDoor.Gn Go.Proofs.YtoibhnpmemnlfaaGreatDoor.Fd Go.Proofs.YtoibhnpmemnlfaaGreatDoor.Ed Go.Deep
theorem app_lt{a b:List Nat}(ha:∀x∈a,x < 256)(hb:∀x∈b,x < 256):∀x∈a ++ b,x < 256:=fun x hx=>(List.mem_append.1 hx).elim (ha x) (hb x)
theorem zer_byt(n:Nat):(List.replicate n (.lit (.int .u8 0)):List DV)=(bl (List.replicate n 0)).map .lit:=by simp[bl]
theorem secd_cells{D:List Nat}:(((bl D).map DV.lit).set 0 (.lit (.int .u8 ((D.getD 0 0 / 8*8:Nat):Int)))).set 31 (.lit (.int .u8 ((D.getD 31 0%64+64:Nat):Int)))=(bl (secd D)).map .lit:=by
 rw[byt_set,byt_set];rfl
set_option maxRecDepth 100000 in
theorem t_join{a b c:List Nat}(ha:a.length≤1048576)(hb:b.length≤1048576)(hc:c.length≤1048576)(w:World):FnAt Tryz.prog [] w 4 [byt true a,byt true b,byt true c] (byt true (a ++ b ++ c)):=by
 refine FnAt.of Tryz.f4 _ _ Tryz.func4 Tryz.ntmps4 rfl (by kernel_rfl) (fun _ _=>by kernel_rfl) fun O=>?_
 show PW _ _ _ ⟨[(0,.c (.dv _)),(1,.c (.dv _)),(2,.c (.dv _))],[]⟩
 refine(PW.seq ?_:PW _ _ _ _)
 refine(PW.region ?_:PW _ _ _ _)
 refine PL.mu rfl rfl rfl rfl rfl ?_
 refine PL.nil ?_
 refine(PW.seq ?_:PW _ _ _ _)
 refine(PW.region ?_:PW _ _ _ _)
 refine PL.mu rfl rfl rfl rfl rfl ?_
 refine PL.nil ?_
 refine(PW.seq ?_:PW _ _ _ _)
 refine(PW.region ?_:PW _ _ _ _)
 refine PL.mv rfl rfl rfl rfl rfl ?_
 refine PL.mv rfl rfl rfl rfl rfl ?_
 refine PL.full rfl (Fa.app0 12 false (z:=.int .u8 0) (e:=5) (bytes:=1) (k:=1) rfl rfl rfl Tryz.underlying22 (by kernel_rfl) rfl (by decide) (fun h=>by cases h) (byt_one a) (fun h=>by cases h) (by decide) (by simp[bl];omega) (by kernel_rfl) rfl rfl ?_)
 refine PL.mv rfl rfl rfl rfl rfl ?_
 refine PL.full rfl (Fa.app 13 (z:=.int .u8 0) (e:=5) (bytes:=1) (k:=1) rfl rfl rfl rfl Tryz.underlying22 (by kernel_rfl) rfl (by decide) (fun h=>by cases h) (byt_one b) (fun h=>by cases h) (by decide) (by simp[bl];omega) (by kernel_rfl) rfl rfl ?_)
 refine PL.mv rfl rfl rfl rfl rfl ?_
 refine PL.full rfl (Fa.app 14 (z:=.int .u8 0) (e:=5) (bytes:=1) (k:=1) rfl rfl rfl rfl Tryz.underlying22 (by kernel_rfl) rfl (by decide) (fun h=>by cases h) (byt_one c) (fun h=>by cases h) (by decide) (by simp[bl];omega) (by kernel_rfl) rfl rfl ?_)
 refine PL.mu rfl rfl rfl rfl rfl ?_
 refine PL.nil ?_
 refine PW.give 14 rfl ?_
 refine(PW.ret ?_:PW _ _ _ _)
 exact Rt.as (Rt.one Tryz.results4 rfl) (le_eq (by unfold byt;simp[bl]))
set_option maxRecDepth 100000 in
theorem t_few{l:List Nat}(n:Nat)(w:World):FnAt Tryz.prog [] w 5 [byt true l,.lit (.int .i64 (n:Int))] (byt true (l.take n)):=by
 refine FnAt.of Tryz.f5 _ _ Tryz.func5 Tryz.ntmps5 rfl (by kernel_rfl) (fun _ _=>by kernel_rfl) fun O=>?_
 show PW _ _ _ ⟨[(0,.c (.dv _)),(1,.c (.dv _))],[]⟩
 refine(PW.seq ?_:PW _ _ _ _)
 refine(PW.region ?_:PW _ _ _ _)
 refine PL.mu rfl rfl rfl rfl rfl ?_
 refine PL.nil ?_
 refine(PW.seq ?_:PW _ _ _ _)
 refine(PW.seq ?_:PW _ _ _ _)
 refine(PW.region ?_:PW _ _ _ _)
 refine PL.mv rfl rfl rfl rfl rfl ?_
 refine PL.step rfl rfl rfl (PS.len (n:=l.length) rfl rfl Tryz.underlying22 (by decide) (by simp[bl])) ?_
 refine PL.mv rfl rfl rfl rfl rfl ?_
 refine PL.step rfl rfl rfl (PS.gtr rfl rfl rfl) ?_
 refine PL.nil ?_
 show PW _ _ _ _
 refine PW.cond (by rfl) (fun hc13=>?_) (fun hc13=>?_)
 ·have hgt:n < l.length:=by have:=of_decide_eq_true hc13;omega
  refine(PW.seq ?_:PW _ _ _ _)
  refine(PW.region ?_:PW _ _ _ _)
  refine PL.mv rfl rfl rfl rfl rfl ?_
  refine PL.mv rfl rfl rfl rfl rfl ?_
  refine PL.step rfl rfl rfl (PS.slice (lo:=0) (hi:=n) (kl:=.i64) (kh:=.i64) ((bl (l.take n)).map .lit) rfl rfl (.inl ⟨rfl,rfl⟩) (.inr ⟨_,rfl,rfl⟩) Tryz.underlying22 (by kernel_rfl) (by decide) (by omega) (by simp[bl];omega) (by simp[bl,List.map_take])) ?_
  refine PL.mu rfl rfl rfl rfl rfl ?_
  refine PL.nil ?_
  refine(PW.ret ?_:PW _ _ _ _)
  exact Rt.as (Rt.one Tryz.results5 rfl) (le_refl _)
 have hgt:¬n < l.length:=by have:=of_decide_eq_false hc13;omega
 refine(PW.skip ?_:PW _ _ _ _)
 refine(PW.seq ?_:PW _ _ _ _)
 refine(PW.region ?_:PW _ _ _ _)
 refine PL.mv rfl rfl rfl rfl rfl ?_
 refine PL.mu rfl rfl rfl rfl rfl ?_
 refine PL.nil ?_
 refine(PW.ret ?_:PW _ _ _ _)
 exact Rt.as (Rt.one Tryz.results5 rfl) (le_eq (by rw[List.take_of_length_le (by omega)]))
set_option maxRecDepth 100000 in
theorem t_seed(w:World):FnAt Tryz.prog [] w 49 [.lit (.int .u8 0)] (byt true (List.replicate 32 0)):=by
 refine FnAt.of Tryz.f49 _ _ Tryz.func49 Tryz.ntmps49 rfl (by kernel_rfl) (fun _ _=>by kernel_rfl) fun O=>?_
 show PW _ _ _ ⟨[(0,.c (.dv _))],[]⟩
 refine(PW.seq ?_:PW _ _ _ _)
 refine(PW.region ?_:PW _ _ _ _)
 refine PL.mu rfl rfl rfl rfl rfl ?_
 refine PL.nil ?_
 refine(PW.seq ?_:PW _ _ _ _)
 refine(PW.region ?_:PW _ _ _ _)
 refine PL.full rfl (Fa.make 11 false (z:=.int .u8 0) (e:=5) (bytes:=1) (n:=32) (c:=32) rfl rfl rfl (by decide) Tryz.underlying22 (by kernel_rfl) rfl (fun h=>by cases h) (by decide) (by decide) (by decide) (by kernel_rfl) rfl rfl ?_)
 refine PL.mu rfl rfl rfl rfl rfl ?_
 refine PL.nil ?_
 refine(PW.seq ?_:PW _ _ _ _)
 refine(PW.region ?_:PW _ _ _ _)
 refine PL.mv rfl rfl rfl rfl rfl ?_
 refine PL.mv rfl rfl rfl rfl rfl ?_
 refine PL.step rfl rfl rfl (PS.indexOwn (i:=0) (k:=1) rfl rfl rfl rfl Tryz.underlying22 (by kernel_rfl) (by decide) (by simp)) ?_
 refine PL.full rfl (Fa.storeB rfl rfl rfl rfl (by simp) rfl (fun h=>by cases h) (by kernel_rfl) rfl ?_)
 refine PL.nil ?_
 refine(PW.seq ?_:PW _ _ _ _)
 refine PW.give 11 rfl ?_
 refine(PW.region ?_:PW _ _ _ _)
 refine PL.mv rfl rfl rfl rfl rfl ?_
 refine PL.mu rfl rfl rfl rfl rfl ?_
 refine PL.nil ?_
 refine(PW.ret ?_:PW _ _ _ _)
 exact Rt.as (Rt.one Tryz.results49 rfl) (le_eq (by unfold byt;rw[zer_byt,show(0:Int)=((0:Nat):Int) from rfl,byt_set];rfl))
set_option maxRecDepth 100000 in
theorem t_awake{D Y:List Nat}(hD:D.length=32)(hD0:D.getD 0 0=227)(hY:Y.length=32)(hY0:Y.getD 0 0=59)(w:World)(hS:∀w2,Below w.heap.size w w2→FnAt Tryz.prog [] w2 48 [.lit (.slice none 0 0)] (.tup [byt true D,.lit (.int .i64 0)]))(hK:∀w2,Below w.heap.size w w2→FnAt Tryz.prog [] w2 6 [byt true (List.replicate 32 0)] (.tup [byt true Y,.lit (.int .i64 0)])):FnAt Tryz.prog [] w 18 [] (.lit (.bool true)):=by
 refine FnAt.of Tryz.f18 _ _ Tryz.func18 Tryz.ntmps18 rfl (by kernel_rfl) (fun _ _=>by kernel_rfl) fun O=>?_
 show PW _ _ _ ⟨[],[]⟩
 refine(PW.seq ?_:PW _ _ _ _)
 refine(PW.region ?_:PW _ _ _ _)
 refine PL.mu rfl rfl rfl rfl rfl ?_
 refine PL.nil ?_
 refine(PW.seq ?_:PW _ _ _ _)
 refine(PW.region ?_:PW _ _ _ _)
 refine PL.call (xs:=[_]) rfl rfl rfl rfl rfl rfl rfl (fun w hw=>hS w hw.to_below) ?_
 refine PL.mv rfl rfl rfl rfl rfl ?_
 refine PL.step rfl rfl rfl (PS.ext rfl rfl rfl) ?_
 refine PL.step rfl rfl rfl (PS.ext rfl rfl rfl) ?_
 refine PL.mu rfl rfl rfl rfl rfl ?_
 refine PL.mu rfl rfl rfl rfl rfl ?_
 refine PL.nil ?_
 refine(PW.seq ?_:PW _ _ _ _)
 refine(PW.region ?_:PW _ _ _ _)
 refine PL.call (xs:=[_]) rfl rfl rfl rfl rfl rfl rfl (fun w hw=>t_seed w) ?_
 refine PL.call (xs:=[_]) rfl rfl rfl rfl rfl rfl rfl (fun w hw=>hK w hw.to_below) ?_
 refine PL.mv rfl rfl rfl rfl rfl ?_
 refine PL.step rfl rfl rfl (PS.ext rfl rfl rfl) ?_
 refine PL.step rfl rfl rfl (PS.ext rfl rfl rfl) ?_
 refine PL.mu rfl rfl rfl rfl rfl ?_
 refine PL.mu rfl rfl rfl rfl rfl ?_
 refine PL.nil ?_
 refine(PW.seq ?_:PW _ _ _ _)
 refine(PW.region ?_:PW _ _ _ _)
 refine PL.mv rfl rfl rfl rfl rfl ?_
 refine PL.step rfl rfl rfl (PS.decT (PS.eql rfl rfl rfl) (by first|rfl|omega)) ?_
 refine PL.mv rfl rfl rfl rfl rfl ?_
 refine PL.stepW rfl rfl rfl rfl rfl (PS.moved (r:=.c _) rfl rfl) ?_
 refine PL.stepW rfl rfl rfl rfl rfl (PS.len (n:=32) rfl rfl Tryz.underlying22 (by decide) (by simp[bl,hD])) ?_
 refine PL.stepW rfl rfl rfl rfl rfl (PS.decT (PS.eql rfl rfl rfl) (by first|rfl|omega)) ?_
 refine PL.pT rfl rfl rfl rfl rfl rfl ?_
 refine PL.mv rfl rfl rfl rfl rfl ?_
 refine PL.stepW rfl rfl rfl rfl rfl (PS.moved (r:=.c _) rfl rfl) ?_
 refine PL.stepW rfl rfl rfl rfl rfl (PS.index1 (i:=0) (.lit (.int .u8 ((D.getD 0 0:Nat):Int))) rfl rfl rfl Tryz.underlying22 (by kernel_rfl) (byt_get (by omega))) ?_
 refine PL.stepW rfl rfl rfl rfl rfl (PS.loadA rfl rfl Tryz.underlying5 rfl) ?_
 refine PL.stepW rfl rfl rfl rfl rfl (PS.decT (PS.eql rfl rfl rfl) (by first|rfl|omega)) ?_
 refine PL.pT rfl rfl rfl rfl rfl rfl ?_
 refine PL.mv rfl rfl rfl rfl rfl ?_
 refine PL.stepW rfl rfl rfl rfl rfl (PS.moved (r:=.c _) rfl rfl) ?_
 refine PL.stepW rfl rfl rfl rfl rfl (PS.decT (PS.eql rfl rfl rfl) (by first|rfl|omega)) ?_
 refine PL.pT rfl rfl rfl rfl rfl rfl ?_
 refine PL.mv rfl rfl rfl rfl rfl ?_
 refine PL.stepW rfl rfl rfl rfl rfl (PS.moved (r:=.c _) rfl rfl) ?_
 refine PL.stepW rfl rfl rfl rfl rfl (PS.len (n:=32) rfl rfl Tryz.underlying22 (by decide) (by simp[bl,hY])) ?_
 refine PL.stepW rfl rfl rfl rfl rfl (PS.decT (PS.eql rfl rfl rfl) (by first|rfl|omega)) ?_
 refine PL.pT rfl rfl rfl rfl rfl rfl ?_
 refine PL.mv rfl rfl rfl rfl rfl ?_
 refine PL.stepW rfl rfl rfl rfl rfl (PS.moved (r:=.c _) rfl rfl) ?_
 refine PL.stepW rfl rfl rfl rfl rfl (PS.index1 (i:=0) (.lit (.int .u8 ((Y.getD 0 0:Nat):Int))) rfl rfl rfl Tryz.underlying22 (by kernel_rfl) (byt_get (by omega))) ?_
 refine PL.stepW rfl rfl rfl rfl rfl (PS.loadA rfl rfl Tryz.underlying5 rfl) ?_
 refine PL.stepW rfl rfl rfl rfl rfl (PS.decT (PS.eql rfl rfl rfl) (by first|rfl|omega)) ?_
 refine PL.pT rfl rfl rfl rfl rfl rfl ?_
 refine PL.mu rfl rfl rfl rfl rfl ?_
 refine PL.nil ?_
 refine(PW.ret ?_:PW _ _ _ _)
 exact Rt.as (Rt.one Tryz.results18 rfl) (le_refl _)
set_option maxHeartbeats 4000000 in
set_option maxRecDepth 100000 in
theorem l_TopProves{s m0 l m D:List Nat}(hsl:(s.take 32 ++ List.replicate 32 0 ++ []).take 32=l)(hm2:m0.take 200=m)(h32:l.length=32)(hl:∀x∈l,x < 256)(hm:∀x∈m,x < 256)(hn:m.length≤65536){b:G}(hb:Hp kbase b)(hD:D.length=64)(b0:D.getD 0 0 < 256)(b31:D.getD 31 0 < 256)(hsec:(secd D).take 32=sec l)(h512:∀w,Sh.Tab w→OwnTAt Tryz.prog [] w 8 [byt true l] 5 1 false ((bl D).map .lit) (.int .i64 0))(w:World)(tab:TabE w)(ts:Sh.Tab w)(tl:TabL w)(hA:∀w2,Below w.heap.size w w2→FnAt Tryz.prog [] w2 18 [] (.lit (.bool true))):FnAt Tryz.prog [] w 3 [byt true s,byt true m0] (.lit (.bool true)):=by
 have q1:=salt_length l
 have q2:=sec_length l
 have q5:=sfst_length l m b
 have q6:=ssnd_length l m b
 have q7:=keyb_length l b
 have e1:(sfst l m b ++ ssnd l m b).take 32=sfst l m b:=by rw[List.take_append_of_le_length (by omega),List.take_of_length_le (by omega)]
 have e2:(sfst l m b ++ ssnd l m b).drop 32=ssnd l m b:=by rw[List.drop_append_of_le_length (by omega),List.drop_of_length_le (by omega),List.nil_append]
 have q0:(s.take 32 ++ List.replicate 32 0 ++ []).length=min 32 s.length+32:=by simp
 refine FnAt.of Tryz.f3 _ _ Tryz.func3 Tryz.ntmps3 rfl (by kernel_rfl) (fun _ _=>by kernel_rfl) fun O=>?_
 show PW _ _ _ ⟨[(0,.c (.dv _)),(1,.c (.dv _))],[]⟩
 refine(PW.seq ?_:PW _ _ _ _)
 refine(PW.region ?_:PW _ _ _ _)
 refine PL.mu rfl rfl rfl rfl rfl ?_
 refine PL.nil ?_
 refine(PW.seq ?_:PW _ _ _ _)
 refine(PW.drawn 9 (by kernel_rfl) (by kernel_rfl) (by kernel_rfl) (by kernel_rfl) (by kernel_rfl) ?_:PW _ _ _ _)
 refine PD.mv rfl rfl rfl rfl rfl ?_
 refine PD.call (xs:=[_,_]) rfl rfl rfl rfl rfl rfl rfl (fun w hw=>t_few (l:=s) 32 w) ?_
 refine PD.step rfl rfl rfl (PS.makeD (z:=.int .u8 0) (e:=5) (bytes:=1) (l:=32) (c:=32) rfl rfl rfl (by decide) Tryz.underlying22 (by kernel_rfl) rfl (by decide) (by decide) (by decide)) ?_
 refine PD.call (xs:=[_,_,_]) rfl rfl rfl rfl rfl rfl rfl (fun w hw=>FnAt.les (t_join (a:=s.take 32) (b:=List.replicate 32 0) (c:=[]) (by simp;omega) (by decide) (by decide) w) ⟨le_refl _,le_eq (by unfold byt;rw[zer_byt]),le_bnil,trivial⟩) ?_
 refine PD.step rfl rfl rfl (PS.slice (lo:=0) (hi:=32) (kl:=.i64) (kh:=.i64) ((bl l).map .lit) rfl rfl (.inl ⟨rfl,rfl⟩) (.inr ⟨_,rfl,rfl⟩) Tryz.underlying22 (by kernel_rfl) (by decide) (by decide) (by simp[bl,q0]) (by rw[Nat.mul_one,List.drop_zero,byt_take,hsl])) ?_
 refine PD.mv rfl rfl rfl rfl rfl ?_
 refine PD.call (xs:=[_,_]) rfl rfl rfl rfl rfl rfl rfl (fun w hw=>(show FnAt Tryz.prog [] w 5 [byt true m0,.lit (.int .i64 200)] (byt true m) from hm2▸t_few (l:=m0) 200 w)) ?_
 refine PD.mu rfl rfl rfl rfl rfl ?_
 refine PD.mu rfl rfl rfl rfl rfl ?_
 refine PD.nil ?_
 refine(PW.seq ?_:PW _ _ _ _)
 refine(PW.region ?_:PW _ _ _ _)
 refine PL.mv rfl rfl rfl rfl rfl ?_
 refine PL.call (xs:=[_]) rfl rfl rfl rfl rfl rfl rfl (fun w hw=>g_key h32 hl hb w (tab.below hw.to_below) (ts.below hw.to_below)) ?_
 refine PL.mv rfl rfl rfl rfl rfl ?_
 refine PL.step rfl rfl rfl (PS.ext rfl rfl rfl) ?_
 refine PL.step rfl rfl rfl (PS.ext rfl rfl rfl) ?_
 refine PL.mu rfl rfl rfl rfl rfl ?_
 refine PL.mu rfl rfl rfl rfl rfl ?_
 refine PL.nil ?_
 refine(PW.seq ?_:PW _ _ _ _)
 refine(PW.region ?_:PW _ _ _ _)
 refine PL.mv rfl rfl rfl rfl rfl ?_
 refine PL.mv rfl rfl rfl rfl rfl ?_
 refine PL.call (xs:=[_,_]) rfl rfl rfl rfl rfl rfl rfl (fun w hw=>g_sign h32 hl hm hn hb w (tab.below hw.to_below) (ts.below hw.to_below) (tl.below hw.to_below)) ?_
 refine PL.mv rfl rfl rfl rfl rfl ?_
 refine PL.step rfl rfl rfl (PS.ext rfl rfl rfl) ?_
 refine PL.step rfl rfl rfl (PS.ext rfl rfl rfl) ?_
 refine PL.mu rfl rfl rfl rfl rfl ?_
 refine PL.mu rfl rfl rfl rfl rfl ?_
 refine PL.nil ?_
 refine(PW.seq ?_:PW _ _ _ _)
 refine(PW.seq ?_:PW _ _ _ _)
 refine(PW.region ?_:PW _ _ _ _)
 refine PL.mv rfl rfl rfl rfl rfl ?_
 refine PL.step rfl rfl rfl (PS.eq (y:=Bo false) (PS.neq rfl rfl rfl) rfl) ?_
 refine PL.mv rfl rfl rfl rfl rfl ?_
 refine PL.stepW rfl rfl rfl rfl rfl (PS.moved (r:=.c _) rfl rfl) ?_
 refine PL.stepW rfl rfl rfl rfl rfl (PS.eq (y:=Bo false) (PS.neq rfl rfl rfl) rfl) ?_
 refine PL.pF rfl rfl rfl rfl rfl rfl ?_
 refine PL.mv rfl rfl rfl rfl rfl ?_
 refine PL.stepW rfl rfl rfl rfl rfl (PS.moved (r:=.c _) rfl rfl) ?_
 refine PL.stepW rfl rfl rfl rfl rfl (PS.len (n:=64) rfl rfl Tryz.underlying22 (by decide) (by simp[bl,q5,q6])) ?_
 refine PL.stepW rfl rfl rfl rfl rfl (PS.eq (y:=Bo false) (PS.neq rfl rfl rfl) rfl) ?_
 refine PL.pF rfl rfl rfl rfl rfl rfl ?_
 refine PL.mv rfl rfl rfl rfl rfl ?_
 refine PL.stepW rfl rfl rfl rfl rfl (PS.moved (r:=.c _) rfl rfl) ?_
 refine PL.stepW rfl rfl rfl rfl rfl (PS.len (n:=32) rfl rfl Tryz.underlying22 (by decide) (by simp[bl,q7])) ?_
 refine PL.stepW rfl rfl rfl rfl rfl (PS.eq (y:=Bo false) (PS.neq rfl rfl rfl) rfl) ?_
 refine PL.pF rfl rfl rfl rfl rfl rfl ?_
 refine PL.nil ?_
 show PW _ _ _ _
 refine PW.cond (b:=false) (by rfl) (fun h=>nomatch h) (fun _=>?_)
 refine(PW.skip ?_:PW _ _ _ _)
 refine(PW.seq ?_:PW _ _ _ _)
 refine(PW.region ?_:PW _ _ _ _)
 refine PL.mv rfl rfl rfl rfl rfl ?_
 refine PL.step rfl rfl rfl (PS.slice (lo:=0) (hi:=32) (kl:=.i64) (kh:=.i64) ((bl (sfst l m b)).map .lit) rfl rfl (.inl ⟨rfl,rfl⟩) (.inr ⟨_,rfl,rfl⟩) Tryz.underlying22 (by kernel_rfl) (by decide) (by decide) (by simp[bl,q5,q6]) (by rw[Nat.mul_one,List.drop_zero,byt_take,e1])) ?_
 refine PL.mv rfl rfl rfl rfl rfl ?_
 refine PL.mv rfl rfl rfl rfl rfl ?_
 refine PL.call (xs:=[_,_,_]) rfl rfl rfl rfl rfl rfl rfl (fun w hw=>(FnAt.to (t_join (a:=sfst l m b) (b:=keyb l b) (c:=m) (by omega) (by omega) (by omega) w) (le_eq (show byt true (sfst l m b ++ keyb l b ++ m)=byt true (sfst l m b ++ (keyb l b ++ m)) by rw[List.append_assoc])))) ?_
 refine PL.call (xs:=[_]) rfl rfl rfl rfl rfl rfl rfl (fun w hw=>g_sum512 (l:=sfst l m b ++ (keyb l b ++ m)) (app_lt (by_lt _ _) (app_lt (by_lt _ _) hm)) (by rw[List.length_append,List.length_append];omega) (by rw[List.length_append];omega) w (ts.below hw.to_below)) ?_
 refine PL.mv rfl rfl rfl rfl rfl ?_
 refine PL.step rfl rfl rfl (PS.ext rfl rfl rfl) ?_
 refine PL.step rfl rfl rfl (PS.ext rfl rfl rfl) ?_
 refine PL.mu rfl rfl rfl rfl rfl ?_
 refine PL.mu rfl rfl rfl rfl rfl ?_
 refine PL.nil ?_
 refine(PW.seq ?_:PW _ _ _ _)
 refine(PW.region ?_:PW _ _ _ _)
 refine PL.mv rfl rfl rfl rfl rfl ?_
 refine PL.call (xs:=[_]) rfl rfl rfl rfl rfl rfl rfl (fun w hw=>(show FnAt Tryz.prog [] w 9 [byt true (Sh.dg true (sfst l m b ++ (keyb l b ++ m)))] (.tup [byt true (sk l m b),.lit (.int .i64 0)]) from g_foldP (dg_lt _) (by rw[Ed.dg_len];exact Nat.le_refl _) w (tl.below hw.to_below))) ?_
 refine PL.mv rfl rfl rfl rfl rfl ?_
 refine PL.step rfl rfl rfl (PS.ext rfl rfl rfl) ?_
 refine PL.step rfl rfl rfl (PS.ext rfl rfl rfl) ?_
 refine PL.mu rfl rfl rfl rfl rfl ?_
 refine PL.mu rfl rfl rfl rfl rfl ?_
 refine PL.nil ?_
 refine(PW.seq ?_:PW _ _ _ _)
 refine(PW.region ?_:PW _ _ _ _)
 refine PL.mv rfl rfl rfl rfl rfl ?_
 refine PL.call (xs:=[_]) rfl rfl rfl rfl rfl rfl rfl (fun w hw=>(show FnAt Tryz.prog [] w 10 [byt true (keyb l b)] (.tup [pnt (ti (le (sec l)) b),.lit (.int .i64 0)]) from p_decG w (tab.below hw.to_below))) ?_
 refine PL.mv rfl rfl rfl rfl rfl ?_
 refine PL.step rfl rfl rfl (PS.ext rfl rfl rfl) ?_
 refine PL.step rfl rfl rfl (PS.ext rfl rfl rfl) ?_
 refine PL.full rfl (Fa.alloc 8 (z:=.agg z20) rfl (by kernel_rfl) (by kernel_rfl) rfl rfl ?_)
 refine PL.full rfl (Fa.storeH 20 rfl rfl rfl rfl rfl (pnt_row (ti (le (sec l)) b)) (by kernel_rfl) rfl ?_)
 refine PL.mu rfl rfl rfl rfl rfl ?_
 refine PL.nil ?_
 refine(PW.seq ?_:PW _ _ _ _)
 refine(PW.region ?_:PW _ _ _ _)
 refine PL.mv rfl rfl rfl rfl rfl ?_
 refine PL.step rfl rfl rfl (PS.slice (lo:=0) (hi:=32) (kl:=.i64) (kh:=.i64) ((bl (sfst l m b)).map .lit) rfl rfl (.inl ⟨rfl,rfl⟩) (.inr ⟨_,rfl,rfl⟩) Tryz.underlying22 (by kernel_rfl) (by decide) (by decide) (by simp[bl,q5,q6]) (by rw[Nat.mul_one,List.drop_zero,byt_take,e1])) ?_
 refine PL.call (xs:=[_]) rfl rfl rfl rfl rfl rfl rfl (fun w hw=>(show FnAt Tryz.prog [] w 10 [byt true (sfst l m b)] (.tup [pnt (ti (le (sr l m)) b),.lit (.int .i64 0)]) from p_decG w (tab.below hw.to_below))) ?_
 refine PL.mv rfl rfl rfl rfl rfl ?_
 refine PL.step rfl rfl rfl (PS.ext rfl rfl rfl) ?_
 refine PL.step rfl rfl rfl (PS.ext rfl rfl rfl) ?_
 refine PL.full rfl (Fa.alloc 9 (z:=.agg z20) rfl (by kernel_rfl) (by kernel_rfl) rfl rfl ?_)
 refine PL.full rfl (Fa.storeH 20 rfl rfl rfl rfl rfl (pnt_row (ti (le (sr l m)) b)) (by kernel_rfl) rfl ?_)
 refine PL.mu rfl rfl rfl rfl rfl ?_
 refine PL.nil ?_
 refine(PW.cut (fun σm=>σm=⟨[(18,L (.int .i64 0)),(17,.c (.ptr 10 0)),(16,L (.int .i64 0)),(15,.c (.ptr 9 0)),(14,L (.int .i64 0)),(13,.c (.ptr 8 0)),(12,L (.int .i64 0)),(11,.c (.dv (byt true (sk l m b)))),(7,.c (.dv (byt true (sfst l m b ++ ssnd l m b)))),(5,.c (.dv (byt true (keyb l b)))),(1,.c (.dv (byt true m))),(0,.c (.dv (byt true l)))],[(10,.whole false 33 (pnt (ti (le (ssnd l m b)) b))),(9,.whole false 33 (pnt (ti (le (sr l m)) b))),(8,.whole false 33 (pnt (ti (le (sec l)) b)))]⟩) ?_ ?_:PW _ _ _ _)
 ·skip
  refine(PW.orders (by kernel_rfl) ?_:PW _ _ _ _)
  refine PO.take 0 rfl (by kernel_rfl) (by kernel_rfl) (by kernel_rfl) rfl rfl rfl (PU.moved (r:=.c _) rfl rfl) ?_
  refine PO.at_ 1 [2,7] (by kernel_rfl) ?_
  refine allO.cons _ rfl rfl ?_ ?_
  ·refine GF.step rfl rfl rfl (PS.slice (lo:=32) (hi:=64) (kl:=.i64) (kh:=.i64) ((bl (ssnd l m b)).map .lit) rfl rfl (.inr ⟨_,rfl,rfl⟩) (.inl ⟨rfl,by simp[bl,q5,q6]⟩) Tryz.underlying22 (by kernel_rfl) (by decide) (by decide) (by simp[bl,q5,q6]) (by rw[List.take_of_length_le (by simp[bl,q5,q6]),Nat.mul_one,byt_drop,e2])) ?_
   refine PO.at_ 2 [7] (by kernel_rfl) ?_
   refine allO.cons _ rfl rfl ?_ ?_
   ·refine GF.step rfl rfl rfl (PS.call (xs:=[]) rfl rfl rfl rfl (fun w hw=>p_base hb w (tab.below hw.to_below))) ?_
    refine PO.at_ 3 [7] (by kernel_rfl) ?_
    refine allO.cons _ rfl rfl ?_ ?_
    ·refine GF.step rfl rfl rfl (PS.call (xs:=[_,_]) rfl rfl rfl rfl (fun w hw=>p_mul (r:=true) (l:=ssnd l m b) (g:=b) (by omega) (by_lt _ _) w (tab.below hw.to_below))) ?_
     refine PO.take 4 rfl (by kernel_rfl) (by kernel_rfl) (by kernel_rfl) rfl rfl rfl (PU.moved (r:=.c _) rfl rfl) ?_
     refine PO.take 5 rfl (by kernel_rfl) (by kernel_rfl) (by kernel_rfl) rfl rfl rfl (PU.ext rfl rfl rfl) ?_
     refine PO.take 6 rfl (by kernel_rfl) (by kernel_rfl) (by kernel_rfl) rfl rfl rfl (PU.ext rfl rfl rfl) ?_
     refine PO.at_ 7 [] (by kernel_rfl) ?_
     refine allO.cons _ rfl rfl ?_ ?_
     ·refine GF.full rfl (Fa.alloc 10 (z:=.agg z20) rfl (by kernel_rfl) (by kernel_rfl) rfl rfl ?_)
      refine PO.at_ 8 [] (by kernel_rfl) ?_
      refine allO.cons _ rfl rfl ?_ ?_
      ·refine GF.full rfl (Fa.storeH 20 rfl rfl rfl rfl rfl (pnt_row (ti (le (ssnd l m b)) b)) (by kernel_rfl) rfl ?_)
       refine PO.take 9 rfl (by kernel_rfl) (by kernel_rfl) (by kernel_rfl) rfl rfl rfl (PU.assigned (r:=.c _) rfl rfl) ?_
       refine PO.end_ (by kernel_rfl) ?_
       exact⟨id,_,rfl,⟨by refine⟨.inr rfl,.inr rfl,.inr rfl,.inr rfl,.inr rfl,.inr rfl,.inr rfl,.inr rfl,.inr rfl,.inr rfl,.inr rfl,.inr rfl,trivial⟩,by refine⟨.inr rfl,.inr rfl,.inr rfl,trivial⟩,by kernel_rfl⟩⟩
      exact trivial
     exact trivial
    refine allO.cons _ rfl rfl ?_ ?_
    ·refine GF.full rfl (Fa.alloc 10 (z:=.agg z20) rfl (by kernel_rfl) (by kernel_rfl) rfl rfl ?_)
     refine PO.at_ 3 [] (by kernel_rfl) ?_
     refine allO.cons _ rfl rfl ?_ ?_
     ·refine GF.step rfl rfl rfl (PS.call (xs:=[_,_]) rfl rfl rfl rfl (fun w hw=>p_mul (r:=true) (l:=ssnd l m b) (g:=b) (by omega) (by_lt _ _) w (tab.below hw.to_below))) ?_
      refine PO.take 4 rfl (by kernel_rfl) (by kernel_rfl) (by kernel_rfl) rfl rfl rfl (PU.moved (r:=.c _) rfl rfl) ?_
      refine PO.take 5 rfl (by kernel_rfl) (by kernel_rfl) (by kernel_rfl) rfl rfl rfl (PU.ext rfl rfl rfl) ?_
      refine PO.take 6 rfl (by kernel_rfl) (by kernel_rfl) (by kernel_rfl) rfl rfl rfl (PU.ext rfl rfl rfl) ?_
      refine PO.at_ 8 [] (by kernel_rfl) ?_
      refine allO.cons _ rfl rfl ?_ ?_
      ·refine GF.full rfl (Fa.storeH 20 rfl rfl rfl rfl rfl (pnt_row (ti (le (ssnd l m b)) b)) (by kernel_rfl) rfl ?_)
       refine PO.take 9 rfl (by kernel_rfl) (by kernel_rfl) (by kernel_rfl) rfl rfl rfl (PU.assigned (r:=.c _) rfl rfl) ?_
       refine PO.end_ (by kernel_rfl) ?_
       exact⟨id,_,rfl,⟨by refine⟨.inr rfl,.inr rfl,.inr rfl,.inr rfl,.inr rfl,.inr rfl,.inr rfl,.inr rfl,.inr rfl,.inr rfl,.inr rfl,.inr rfl,trivial⟩,by refine⟨.inr rfl,.inr rfl,.inr rfl,trivial⟩,by kernel_rfl⟩⟩
      exact trivial
     exact trivial
    exact trivial
   refine allO.cons _ rfl rfl ?_ ?_
   ·refine GF.full rfl (Fa.alloc 10 (z:=.agg z20) rfl (by kernel_rfl) (by kernel_rfl) rfl rfl ?_)
    refine PO.at_ 2 [] (by kernel_rfl) ?_
    refine allO.cons _ rfl rfl ?_ ?_
    ·refine GF.step rfl rfl rfl (PS.call (xs:=[]) rfl rfl rfl rfl (fun w hw=>p_base hb w (tab.below hw.to_below))) ?_
     refine PO.at_ 3 [] (by kernel_rfl) ?_
     refine allO.cons _ rfl rfl ?_ ?_
     ·refine GF.step rfl rfl rfl (PS.call (xs:=[_,_]) rfl rfl rfl rfl (fun w hw=>p_mul (r:=true) (l:=ssnd l m b) (g:=b) (by omega) (by_lt _ _) w (tab.below hw.to_below))) ?_
      refine PO.take 4 rfl (by kernel_rfl) (by kernel_rfl) (by kernel_rfl) rfl rfl rfl (PU.moved (r:=.c _) rfl rfl) ?_
      refine PO.take 5 rfl (by kernel_rfl) (by kernel_rfl) (by kernel_rfl) rfl rfl rfl (PU.ext rfl rfl rfl) ?_
      refine PO.take 6 rfl (by kernel_rfl) (by kernel_rfl) (by kernel_rfl) rfl rfl rfl (PU.ext rfl rfl rfl) ?_
      refine PO.at_ 8 [] (by kernel_rfl) ?_
      refine allO.cons _ rfl rfl ?_ ?_
      ·refine GF.full rfl (Fa.storeH 20 rfl rfl rfl rfl rfl (pnt_row (ti (le (ssnd l m b)) b)) (by kernel_rfl) rfl ?_)
       refine PO.take 9 rfl (by kernel_rfl) (by kernel_rfl) (by kernel_rfl) rfl rfl rfl (PU.assigned (r:=.c _) rfl rfl) ?_
       refine PO.end_ (by kernel_rfl) ?_
       exact⟨id,_,rfl,⟨by refine⟨.inr rfl,.inr rfl,.inr rfl,.inr rfl,.inr rfl,.inr rfl,.inr rfl,.inr rfl,.inr rfl,.inr rfl,.inr rfl,.inr rfl,trivial⟩,by refine⟨.inr rfl,.inr rfl,.inr rfl,trivial⟩,by kernel_rfl⟩⟩
      exact trivial
     exact trivial
    exact trivial
   exact trivial
  refine allO.cons _ rfl rfl ?_ ?_
  ·refine GF.step rfl rfl rfl (PS.call (xs:=[]) rfl rfl rfl rfl (fun w hw=>p_base hb w (tab.below hw.to_below))) ?_
   refine PO.at_ 1 [7] (by kernel_rfl) ?_
   refine allO.cons _ rfl rfl ?_ ?_
   ·refine GF.step rfl rfl rfl (PS.slice (lo:=32) (hi:=64) (kl:=.i64) (kh:=.i64) ((bl (ssnd l m b)).map .lit) rfl rfl (.inr ⟨_,rfl,rfl⟩) (.inl ⟨rfl,by simp[bl,q5,q6]⟩) Tryz.underlying22 (by kernel_rfl) (by decide) (by decide) (by simp[bl,q5,q6]) (by rw[List.take_of_length_le (by simp[bl,q5,q6]),Nat.mul_one,byt_drop,e2])) ?_
    refine PO.at_ 3 [7] (by kernel_rfl) ?_
    refine allO.cons _ rfl rfl ?_ ?_
    ·refine GF.step rfl rfl rfl (PS.call (xs:=[_,_]) rfl rfl rfl rfl (fun w hw=>p_mul (r:=true) (l:=ssnd l m b) (g:=b) (by omega) (by_lt _ _) w (tab.below hw.to_below))) ?_
     refine PO.take 4 rfl (by kernel_rfl) (by kernel_rfl) (by kernel_rfl) rfl rfl rfl (PU.moved (r:=.c _) rfl rfl) ?_
     refine PO.take 5 rfl (by kernel_rfl) (by kernel_rfl) (by kernel_rfl) rfl rfl rfl (PU.ext rfl rfl rfl) ?_
     refine PO.take 6 rfl (by kernel_rfl) (by kernel_rfl) (by kernel_rfl) rfl rfl rfl (PU.ext rfl rfl rfl) ?_
     refine PO.at_ 7 [] (by kernel_rfl) ?_
     refine allO.cons _ rfl rfl ?_ ?_
     ·refine GF.full rfl (Fa.alloc 10 (z:=.agg z20) rfl (by kernel_rfl) (by kernel_rfl) rfl rfl ?_)
      refine PO.at_ 8 [] (by kernel_rfl) ?_
      refine allO.cons _ rfl rfl ?_ ?_
      ·refine GF.full rfl (Fa.storeH 20 rfl rfl rfl rfl rfl (pnt_row (ti (le (ssnd l m b)) b)) (by kernel_rfl) rfl ?_)
       refine PO.take 9 rfl (by kernel_rfl) (by kernel_rfl) (by kernel_rfl) rfl rfl rfl (PU.assigned (r:=.c _) rfl rfl) ?_
       refine PO.end_ (by kernel_rfl) ?_
       exact⟨id,_,rfl,⟨by refine⟨.inr rfl,.inr rfl,.inr rfl,.inr rfl,.inr rfl,.inr rfl,.inr rfl,.inr rfl,.inr rfl,.inr rfl,.inr rfl,.inr rfl,trivial⟩,by refine⟨.inr rfl,.inr rfl,.inr rfl,trivial⟩,by kernel_rfl⟩⟩
      exact trivial
     exact trivial
    refine allO.cons _ rfl rfl ?_ ?_
    ·refine GF.full rfl (Fa.alloc 10 (z:=.agg z20) rfl (by kernel_rfl) (by kernel_rfl) rfl rfl ?_)
     refine PO.at_ 3 [] (by kernel_rfl) ?_
     refine allO.cons _ rfl rfl ?_ ?_
     ·refine GF.step rfl rfl rfl (PS.call (xs:=[_,_]) rfl rfl rfl rfl (fun w hw=>p_mul (r:=true) (l:=ssnd l m b) (g:=b) (by omega) (by_lt _ _) w (tab.below hw.to_below))) ?_
      refine PO.take 4 rfl (by kernel_rfl) (by kernel_rfl) (by kernel_rfl) rfl rfl rfl (PU.moved (r:=.c _) rfl rfl) ?_
      refine PO.take 5 rfl (by kernel_rfl) (by kernel_rfl) (by kernel_rfl) rfl rfl rfl (PU.ext rfl rfl rfl) ?_
      refine PO.take 6 rfl (by kernel_rfl) (by kernel_rfl) (by kernel_rfl) rfl rfl rfl (PU.ext rfl rfl rfl) ?_
      refine PO.at_ 8 [] (by kernel_rfl) ?_
      refine allO.cons _ rfl rfl ?_ ?_
      ·refine GF.full rfl (Fa.storeH 20 rfl rfl rfl rfl rfl (pnt_row (ti (le (ssnd l m b)) b)) (by kernel_rfl) rfl ?_)
       refine PO.take 9 rfl (by kernel_rfl) (by kernel_rfl) (by kernel_rfl) rfl rfl rfl (PU.assigned (r:=.c _) rfl rfl) ?_
       refine PO.end_ (by kernel_rfl) ?_
       exact⟨id,_,rfl,⟨by refine⟨.inr rfl,.inr rfl,.inr rfl,.inr rfl,.inr rfl,.inr rfl,.inr rfl,.inr rfl,.inr rfl,.inr rfl,.inr rfl,.inr rfl,trivial⟩,by refine⟨.inr rfl,.inr rfl,.inr rfl,trivial⟩,by kernel_rfl⟩⟩
      exact trivial
     exact trivial
    exact trivial
   refine allO.cons _ rfl rfl ?_ ?_
   ·refine GF.full rfl (Fa.alloc 10 (z:=.agg z20) rfl (by kernel_rfl) (by kernel_rfl) rfl rfl ?_)
    refine PO.at_ 1 [] (by kernel_rfl) ?_
    refine allO.cons _ rfl rfl ?_ ?_
    ·refine GF.step rfl rfl rfl (PS.slice (lo:=32) (hi:=64) (kl:=.i64) (kh:=.i64) ((bl (ssnd l m b)).map .lit) rfl rfl (.inr ⟨_,rfl,rfl⟩) (.inl ⟨rfl,by simp[bl,q5,q6]⟩) Tryz.underlying22 (by kernel_rfl) (by decide) (by decide) (by simp[bl,q5,q6]) (by rw[List.take_of_length_le (by simp[bl,q5,q6]),Nat.mul_one,byt_drop,e2])) ?_
     refine PO.at_ 3 [] (by kernel_rfl) ?_
     refine allO.cons _ rfl rfl ?_ ?_
     ·refine GF.step rfl rfl rfl (PS.call (xs:=[_,_]) rfl rfl rfl rfl (fun w hw=>p_mul (r:=true) (l:=ssnd l m b) (g:=b) (by omega) (by_lt _ _) w (tab.below hw.to_below))) ?_
      refine PO.take 4 rfl (by kernel_rfl) (by kernel_rfl) (by kernel_rfl) rfl rfl rfl (PU.moved (r:=.c _) rfl rfl) ?_
      refine PO.take 5 rfl (by kernel_rfl) (by kernel_rfl) (by kernel_rfl) rfl rfl rfl (PU.ext rfl rfl rfl) ?_
      refine PO.take 6 rfl (by kernel_rfl) (by kernel_rfl) (by kernel_rfl) rfl rfl rfl (PU.ext rfl rfl rfl) ?_
      refine PO.at_ 8 [] (by kernel_rfl) ?_
      refine allO.cons _ rfl rfl ?_ ?_
      ·refine GF.full rfl (Fa.storeH 20 rfl rfl rfl rfl rfl (pnt_row (ti (le (ssnd l m b)) b)) (by kernel_rfl) rfl ?_)
       refine PO.take 9 rfl (by kernel_rfl) (by kernel_rfl) (by kernel_rfl) rfl rfl rfl (PU.assigned (r:=.c _) rfl rfl) ?_
       refine PO.end_ (by kernel_rfl) ?_
       exact⟨id,_,rfl,⟨by refine⟨.inr rfl,.inr rfl,.inr rfl,.inr rfl,.inr rfl,.inr rfl,.inr rfl,.inr rfl,.inr rfl,.inr rfl,.inr rfl,.inr rfl,trivial⟩,by refine⟨.inr rfl,.inr rfl,.inr rfl,trivial⟩,by kernel_rfl⟩⟩
      exact trivial
     exact trivial
    exact trivial
   exact trivial
  refine allO.cons _ rfl rfl ?_ ?_
  ·refine GF.full rfl (Fa.alloc 10 (z:=.agg z20) rfl (by kernel_rfl) (by kernel_rfl) rfl rfl ?_)
   refine PO.at_ 1 [2] (by kernel_rfl) ?_
   refine allO.cons _ rfl rfl ?_ ?_
   ·refine GF.step rfl rfl rfl (PS.slice (lo:=32) (hi:=64) (kl:=.i64) (kh:=.i64) ((bl (ssnd l m b)).map .lit) rfl rfl (.inr ⟨_,rfl,rfl⟩) (.inl ⟨rfl,by simp[bl,q5,q6]⟩) Tryz.underlying22 (by kernel_rfl) (by decide) (by decide) (by simp[bl,q5,q6]) (by rw[List.take_of_length_le (by simp[bl,q5,q6]),Nat.mul_one,byt_drop,e2])) ?_
    refine PO.at_ 2 [] (by kernel_rfl) ?_
    refine allO.cons _ rfl rfl ?_ ?_
    ·refine GF.step rfl rfl rfl (PS.call (xs:=[]) rfl rfl rfl rfl (fun w hw=>p_base hb w (tab.below hw.to_below))) ?_
     refine PO.at_ 3 [] (by kernel_rfl) ?_
     refine allO.cons _ rfl rfl ?_ ?_
     ·refine GF.step rfl rfl rfl (PS.call (xs:=[_,_]) rfl rfl rfl rfl (fun w hw=>p_mul (r:=true) (l:=ssnd l m b) (g:=b) (by omega) (by_lt _ _) w (tab.below hw.to_below))) ?_
      refine PO.take 4 rfl (by kernel_rfl) (by kernel_rfl) (by kernel_rfl) rfl rfl rfl (PU.moved (r:=.c _) rfl rfl) ?_
      refine PO.take 5 rfl (by kernel_rfl) (by kernel_rfl) (by kernel_rfl) rfl rfl rfl (PU.ext rfl rfl rfl) ?_
      refine PO.take 6 rfl (by kernel_rfl) (by kernel_rfl) (by kernel_rfl) rfl rfl rfl (PU.ext rfl rfl rfl) ?_
      refine PO.at_ 8 [] (by kernel_rfl) ?_
      refine allO.cons _ rfl rfl ?_ ?_
      ·refine GF.full rfl (Fa.storeH 20 rfl rfl rfl rfl rfl (pnt_row (ti (le (ssnd l m b)) b)) (by kernel_rfl) rfl ?_)
       refine PO.take 9 rfl (by kernel_rfl) (by kernel_rfl) (by kernel_rfl) rfl rfl rfl (PU.assigned (r:=.c _) rfl rfl) ?_
       refine PO.end_ (by kernel_rfl) ?_
       exact⟨id,_,rfl,⟨by refine⟨.inr rfl,.inr rfl,.inr rfl,.inr rfl,.inr rfl,.inr rfl,.inr rfl,.inr rfl,.inr rfl,.inr rfl,.inr rfl,.inr rfl,trivial⟩,by refine⟨.inr rfl,.inr rfl,.inr rfl,trivial⟩,by kernel_rfl⟩⟩
      exact trivial
     exact trivial
    exact trivial
   refine allO.cons _ rfl rfl ?_ ?_
   ·refine GF.step rfl rfl rfl (PS.call (xs:=[]) rfl rfl rfl rfl (fun w hw=>p_base hb w (tab.below hw.to_below))) ?_
    refine PO.at_ 1 [] (by kernel_rfl) ?_
    refine allO.cons _ rfl rfl ?_ ?_
    ·refine GF.step rfl rfl rfl (PS.slice (lo:=32) (hi:=64) (kl:=.i64) (kh:=.i64) ((bl (ssnd l m b)).map .lit) rfl rfl (.inr ⟨_,rfl,rfl⟩) (.inl ⟨rfl,by simp[bl,q5,q6]⟩) Tryz.underlying22 (by kernel_rfl) (by decide) (by decide) (by simp[bl,q5,q6]) (by rw[List.take_of_length_le (by simp[bl,q5,q6]),Nat.mul_one,byt_drop,e2])) ?_
     refine PO.at_ 3 [] (by kernel_rfl) ?_
     refine allO.cons _ rfl rfl ?_ ?_
     ·refine GF.step rfl rfl rfl (PS.call (xs:=[_,_]) rfl rfl rfl rfl (fun w hw=>p_mul (r:=true) (l:=ssnd l m b) (g:=b) (by omega) (by_lt _ _) w (tab.below hw.to_below))) ?_
      refine PO.take 4 rfl (by kernel_rfl) (by kernel_rfl) (by kernel_rfl) rfl rfl rfl (PU.moved (r:=.c _) rfl rfl) ?_
      refine PO.take 5 rfl (by kernel_rfl) (by kernel_rfl) (by kernel_rfl) rfl rfl rfl (PU.ext rfl rfl rfl) ?_
      refine PO.take 6 rfl (by kernel_rfl) (by kernel_rfl) (by kernel_rfl) rfl rfl rfl (PU.ext rfl rfl rfl) ?_
      refine PO.at_ 8 [] (by kernel_rfl) ?_
      refine allO.cons _ rfl rfl ?_ ?_
      ·refine GF.full rfl (Fa.storeH 20 rfl rfl rfl rfl rfl (pnt_row (ti (le (ssnd l m b)) b)) (by kernel_rfl) rfl ?_)
       refine PO.take 9 rfl (by kernel_rfl) (by kernel_rfl) (by kernel_rfl) rfl rfl rfl (PU.assigned (r:=.c _) rfl rfl) ?_
       refine PO.end_ (by kernel_rfl) ?_
       exact⟨id,_,rfl,⟨by refine⟨.inr rfl,.inr rfl,.inr rfl,.inr rfl,.inr rfl,.inr rfl,.inr rfl,.inr rfl,.inr rfl,.inr rfl,.inr rfl,.inr rfl,trivial⟩,by refine⟨.inr rfl,.inr rfl,.inr rfl,trivial⟩,by kernel_rfl⟩⟩
      exact trivial
     exact trivial
    exact trivial
   exact trivial
  exact trivial
 ·skip
  rintro σm rfl
  refine(PW.seq ?_:PW _ _ _ _)
  refine(PW.region ?_:PW _ _ _ _)
  refine PL.mv rfl rfl rfl rfl rfl ?_
  refine PL.step rfl rfl rfl (PS.loadH (k:=20) rfl rfl rfl (row_sz (pnt_row (ti (le (sec l)) b))) Tryz.underlying33 rfl (by kernel_rfl)) ?_
  refine PL.call (xs:=[_,_]) rfl rfl rfl rfl rfl rfl rfl (fun w hw=>p_mul (r:=true) (l:=sk l m b) (g:=(ti (le (sec l)) b)) (by rw[show(sk l m b).length=32 from by_length _ _];exact Nat.le_refl _) (by_lt _ _) w (tab.below hw.to_below)) ?_
  refine PL.mv rfl rfl rfl rfl rfl ?_
  refine PL.step rfl rfl rfl (PS.ext rfl rfl rfl) ?_
  refine PL.step rfl rfl rfl (PS.ext rfl rfl rfl) ?_
  refine PL.full rfl (Fa.alloc 11 (z:=.agg z20) rfl (by kernel_rfl) (by kernel_rfl) rfl rfl ?_)
  refine PL.full rfl (Fa.storeH 20 rfl rfl rfl rfl rfl (pnt_row (ti (le (sk l m b)) (ti (le (sec l)) b))) (by kernel_rfl) rfl ?_)
  refine PL.mu rfl rfl rfl rfl rfl ?_
  refine PL.nil ?_
  refine(PW.seq ?_:PW _ _ _ _)
  refine(PW.seq ?_:PW _ _ _ _)
  refine(PW.drawn 26 (by kernel_rfl) (by kernel_rfl) (by kernel_rfl) (by kernel_rfl) (by kernel_rfl) ?_:PW _ _ _ _)
  refine PD.mv rfl rfl rfl rfl rfl ?_
  refine PD.step rfl rfl rfl (PS.eq (y:=Bo false) (PS.neq rfl rfl rfl) rfl) ?_
  refine PD.mv rfl rfl rfl rfl rfl ?_
  refine PD.stepW rfl rfl rfl (by kernel_rfl) rfl rfl (PS.moved (r:=.c _) rfl rfl) ?_
  refine PD.stepW rfl rfl rfl (by kernel_rfl) rfl rfl (PS.eq (y:=Bo false) (PS.neq rfl rfl rfl) rfl) ?_
  refine PD.pF rfl rfl rfl rfl rfl rfl ?_
  refine PD.mv rfl rfl rfl rfl rfl ?_
  refine PD.stepW rfl rfl rfl (by kernel_rfl) rfl rfl (PS.moved (r:=.c _) rfl rfl) ?_
  refine PD.stepW rfl rfl rfl (by kernel_rfl) rfl rfl (PS.eq (y:=Bo false) (PS.neq rfl rfl rfl) rfl) ?_
  refine PD.pF rfl rfl rfl rfl rfl rfl ?_
  refine PD.mv rfl rfl rfl rfl rfl ?_
  refine PD.stepW rfl rfl rfl (by kernel_rfl) rfl rfl (PS.moved (r:=.c _) rfl rfl) ?_
  refine PD.stepW rfl rfl rfl (by kernel_rfl) rfl rfl (PS.eq (y:=Bo false) (PS.neq rfl rfl rfl) rfl) ?_
  refine PD.pF rfl rfl rfl rfl rfl rfl ?_
  refine PD.mv rfl rfl rfl rfl rfl ?_
  refine PD.stepW rfl rfl rfl (by kernel_rfl) rfl rfl (PS.moved (r:=.c _) rfl rfl) ?_
  refine PD.stepW rfl rfl rfl (by kernel_rfl) rfl rfl (PS.eq (y:=Bo false) (PS.neq rfl rfl rfl) rfl) ?_
  refine PD.pF rfl rfl rfl rfl rfl rfl ?_
  refine PD.mv rfl rfl rfl rfl rfl ?_
  refine PD.stepW rfl rfl rfl (by kernel_rfl) rfl rfl (PS.loadH (k:=20) rfl rfl rfl (row_sz (pnt_row (ti (le (ssnd l m b)) b))) Tryz.underlying33 rfl (by kernel_rfl)) ?_
  refine PD.stepW rfl rfl rfl (by kernel_rfl) rfl rfl (PS.loadH (k:=20) rfl rfl rfl (row_sz (pnt_row (ti (le (sr l m)) b))) Tryz.underlying33 rfl (by kernel_rfl)) ?_
  refine PD.stepW rfl rfl rfl (by kernel_rfl) rfl rfl (PS.loadH (k:=20) rfl rfl rfl (row_sz (pnt_row (ti (le (sk l m b)) (ti (le (sec l)) b)))) Tryz.underlying33 rfl (by kernel_rfl)) ?_
  refine PD.stepW rfl rfl rfl (by kernel_rfl) rfl rfl (PS.call (xs:=[_,_]) rfl rfl rfl rfl (fun w hw=>p_add w (tab.below hw.to_below))) ?_
  refine PD.stepW rfl rfl rfl (by kernel_rfl) rfl rfl (PS.call (xs:=[_,_]) rfl rfl rfl rfl (fun w hw=>p_same w (tab.below hw.to_below) true ⟨fun _=>sign_pts hb,fun _=>rfl⟩)) ?_
  refine PD.stepW rfl rfl rfl (by kernel_rfl) rfl rfl (PS.eq (y:=Bo false) (PS.not rfl rfl) rfl) ?_
  refine PD.pF rfl rfl rfl rfl rfl rfl ?_
  refine PD.nil ?_
  show PW _ _ _ _
  refine PW.cond (b:=false) (by rfl) (fun h=>nomatch h) (fun _=>?_)
  refine(PW.skip ?_:PW _ _ _ _)
  refine(PW.seq ?_:PW _ _ _ _)
  refine(PW.region ?_:PW _ _ _ _)
  refine PL.mv rfl rfl rfl rfl rfl ?_
  refine PL.full rfl (Fa.callOwnT 14 (xs:=[_]) rfl rfl rfl (by kernel_rfl) (fun w hw=>h512 w (ts.below hw.to_below)) (by kernel_rfl) rfl rfl ?_)
  refine PL.step rfl rfl rfl (PS.moved (r:=.tp _) rfl rfl) ?_
  refine PL.step rfl rfl rfl (PS.extT rfl rfl rfl) ?_
  refine PL.step rfl rfl rfl (PS.extT rfl rfl rfl) ?_
  refine PL.mu rfl rfl rfl rfl rfl ?_
  refine PL.mu rfl rfl rfl rfl rfl ?_
  refine PL.nil ?_
  refine(PW.seq ?_:PW _ _ _ _)
  refine(PW.seq ?_:PW _ _ _ _)
  refine(PW.region ?_:PW _ _ _ _)
  refine PL.mv rfl rfl rfl rfl rfl ?_
  refine PL.step rfl rfl rfl (PS.lenOwn (n:=64) rfl rfl rfl Tryz.underlying22 (by decide) (by simp[bl,hD])) ?_
  refine PL.step rfl rfl rfl (PS.eq (y:=Bo false) (PS.neq rfl rfl rfl) rfl) ?_
  refine PL.nil ?_
  show PW _ _ _ _
  refine PW.cond (b:=false) (by rfl) (fun h=>nomatch h) (fun _=>?_)
  refine(PW.skip ?_:PW _ _ _ _)
  refine(PW.seq ?_:PW _ _ _ _)
  refine(PW.region ?_:PW _ _ _ _)
  refine PL.mv rfl rfl rfl rfl rfl ?_
  refine PL.mv rfl rfl rfl rfl rfl ?_
  refine PL.step rfl rfl rfl (PS.indexOwn (i:=0) (k:=1) rfl rfl rfl rfl Tryz.underlying22 (by kernel_rfl) (by decide) (by simp[bl,hD])) ?_
  refine PL.step rfl rfl rfl (PS.loadB (c:=.lit (.int .u8 ((D.getD 0 0:Nat):Int))) rfl rfl rfl (byt_get (by omega)) Tryz.underlying5 rfl) ?_
  refine PL.step rfl rfl rfl (PS.bin (.int .u8 ((D.getD 0 0 / 8:Nat):Int)) rfl rfl rfl guard_int (fun w=>o_quo8 w _ b0)) ?_
  refine PL.step rfl rfl rfl (PS.bin (.int .u8 ((D.getD 0 0 / 8*8:Nat):Int)) rfl rfl rfl guard_int (fun w=>o_mul8 w _ b0)) ?_
  refine PL.step rfl rfl rfl (PS.indexOwn (i:=0) (k:=1) rfl rfl rfl rfl Tryz.underlying22 (by kernel_rfl) (by decide) (by simp[bl,hD])) ?_
  refine PL.full rfl (Fa.storeB rfl rfl rfl rfl (by simp[bl,hD]) rfl (fun h=>by cases h) (by kernel_rfl) rfl ?_)
  refine PL.nil ?_
  refine(PW.seq ?_:PW _ _ _ _)
  refine(PW.region ?_:PW _ _ _ _)
  refine PL.mv rfl rfl rfl rfl rfl ?_
  refine PL.mv rfl rfl rfl rfl rfl ?_
  refine PL.step rfl rfl rfl (PS.indexOwn (i:=31) (k:=1) rfl rfl rfl rfl Tryz.underlying22 (by kernel_rfl) (by decide) (by simp[bl,hD])) ?_
  refine PL.step rfl rfl rfl (PS.loadB (c:=.lit (.int .u8 ((D.getD 31 0:Nat):Int))) rfl rfl rfl (by rw[List.getElem?_set_ne (by decide)];exact byt_get (by omega)) Tryz.underlying5 rfl) ?_
  refine PL.step rfl rfl rfl (PS.bin (.int .u8 ((D.getD 31 0%64:Nat):Int)) rfl rfl rfl guard_int (fun w=>o_rem64 w _ b31)) ?_
  refine PL.step rfl rfl rfl (PS.bin (.int .u8 ((D.getD 31 0%64+64:Nat):Int)) rfl rfl rfl guard_int (fun w=>o_add64 w _ b31)) ?_
  refine PL.step rfl rfl rfl (PS.indexOwn (i:=31) (k:=1) rfl rfl rfl rfl Tryz.underlying22 (by kernel_rfl) (by decide) (by simp[bl,hD])) ?_
  refine PL.full rfl (Fa.storeB rfl rfl rfl rfl (by simp[bl,hD]) rfl (fun h=>by cases h) (by kernel_rfl) rfl ?_)
  refine PL.nil ?_
  refine PW.give 14 rfl ?_
  refine(PW.cut (fun σm=>σm=⟨[(24,L (.int .i64 0)),(23,.c (.ptr 19 0)),(7,.c (.dv (byt true (sfst l m b ++ ssnd l m b)))),(5,.c (.dv (byt true (keyb l b)))),(1,.c (.dv (byt true m)))],[(19,.whole false 33 (pnt (ti (le (sec l)) b)))]⟩) ?_ ?_:PW _ _ _ _)
  ·skip
   refine(PW.orders (by kernel_rfl) ?_:PW _ _ _ _)
   refine PO.take 0 rfl (by kernel_rfl) (by kernel_rfl) (by kernel_rfl) rfl rfl rfl (PU.moved (r:=.c _) rfl rfl) ?_
   refine PO.at_ 1 [2,7] (by kernel_rfl) ?_
   refine allO.cons _ rfl rfl ?_ ?_
   ·refine GF.step rfl rfl rfl (PS.slice (lo:=0) (hi:=32) (kl:=.i64) (kh:=.i64) ((bl (sec l)).map .lit) rfl rfl (.inl ⟨rfl,rfl⟩) (.inr ⟨_,rfl,rfl⟩) Tryz.underlying22 (by kernel_rfl) (by decide) (by decide) (by simp[bl,hD]) (by rw[secd_cells,Nat.mul_one,List.drop_zero,byt_take,hsec])) ?_
    refine PO.at_ 2 [7] (by kernel_rfl) ?_
    refine allO.cons _ rfl rfl ?_ ?_
    ·refine GF.step rfl rfl rfl (PS.call (xs:=[]) rfl rfl rfl rfl (fun w hw=>p_base hb w (tab.below hw.to_below))) ?_
     refine PO.at_ 3 [7] (by kernel_rfl) ?_
     refine allO.cons _ rfl rfl ?_ ?_
     ·refine GF.step rfl rfl rfl (PS.call (xs:=[_,_]) rfl rfl rfl rfl (fun w hw=>p_mul (r:=true) (l:=sec l) (g:=b) (by omega) (sec_lt l) w (tab.below hw.to_below))) ?_
      refine PO.take 4 rfl (by kernel_rfl) (by kernel_rfl) (by kernel_rfl) rfl rfl rfl (PU.moved (r:=.c _) rfl rfl) ?_
      refine PO.take 5 rfl (by kernel_rfl) (by kernel_rfl) (by kernel_rfl) rfl rfl rfl (PU.ext rfl rfl rfl) ?_
      refine PO.take 6 rfl (by kernel_rfl) (by kernel_rfl) (by kernel_rfl) rfl rfl rfl (PU.ext rfl rfl rfl) ?_
      refine PO.at_ 7 [] (by kernel_rfl) ?_
      refine allO.cons _ rfl rfl ?_ ?_
      ·refine GF.full rfl (Fa.alloc 19 (z:=.agg z20) rfl (by kernel_rfl) (by kernel_rfl) rfl rfl ?_)
       refine PO.at_ 8 [] (by kernel_rfl) ?_
       refine allO.cons _ rfl rfl ?_ ?_
       ·refine GF.full rfl (Fa.storeH 20 rfl rfl rfl rfl rfl (pnt_row (ti (le (sec l)) b)) (by kernel_rfl) rfl ?_)
        refine PO.take 9 rfl (by kernel_rfl) (by kernel_rfl) (by kernel_rfl) rfl rfl rfl (PU.assigned (r:=.c _) rfl rfl) ?_
        refine PO.end_ (by kernel_rfl) ?_
        exact⟨id,_,rfl,⟨by refine⟨.inr rfl,.inr rfl,.inr rfl,.inr rfl,.inr rfl,trivial⟩,by refine⟨.inr rfl,trivial⟩,by kernel_rfl⟩⟩
       exact trivial
      exact trivial
     refine allO.cons _ rfl rfl ?_ ?_
     ·refine GF.full rfl (Fa.alloc 19 (z:=.agg z20) rfl (by kernel_rfl) (by kernel_rfl) rfl rfl ?_)
      refine PO.at_ 3 [] (by kernel_rfl) ?_
      refine allO.cons _ rfl rfl ?_ ?_
      ·refine GF.step rfl rfl rfl (PS.call (xs:=[_,_]) rfl rfl rfl rfl (fun w hw=>p_mul (r:=true) (l:=sec l) (g:=b) (by omega) (sec_lt l) w (tab.below hw.to_below))) ?_
       refine PO.take 4 rfl (by kernel_rfl) (by kernel_rfl) (by kernel_rfl) rfl rfl rfl (PU.moved (r:=.c _) rfl rfl) ?_
       refine PO.take 5 rfl (by kernel_rfl) (by kernel_rfl) (by kernel_rfl) rfl rfl rfl (PU.ext rfl rfl rfl) ?_
       refine PO.take 6 rfl (by kernel_rfl) (by kernel_rfl) (by kernel_rfl) rfl rfl rfl (PU.ext rfl rfl rfl) ?_
       refine PO.at_ 8 [] (by kernel_rfl) ?_
       refine allO.cons _ rfl rfl ?_ ?_
       ·refine GF.full rfl (Fa.storeH 20 rfl rfl rfl rfl rfl (pnt_row (ti (le (sec l)) b)) (by kernel_rfl) rfl ?_)
        refine PO.take 9 rfl (by kernel_rfl) (by kernel_rfl) (by kernel_rfl) rfl rfl rfl (PU.assigned (r:=.c _) rfl rfl) ?_
        refine PO.end_ (by kernel_rfl) ?_
        exact⟨id,_,rfl,⟨by refine⟨.inr rfl,.inr rfl,.inr rfl,.inr rfl,.inr rfl,trivial⟩,by refine⟨.inr rfl,trivial⟩,by kernel_rfl⟩⟩
       exact trivial
      exact trivial
     exact trivial
    refine allO.cons _ rfl rfl ?_ ?_
    ·refine GF.full rfl (Fa.alloc 19 (z:=.agg z20) rfl (by kernel_rfl) (by kernel_rfl) rfl rfl ?_)
     refine PO.at_ 2 [] (by kernel_rfl) ?_
     refine allO.cons _ rfl rfl ?_ ?_
     ·refine GF.step rfl rfl rfl (PS.call (xs:=[]) rfl rfl rfl rfl (fun w hw=>p_base hb w (tab.below hw.to_below))) ?_
      refine PO.at_ 3 [] (by kernel_rfl) ?_
      refine allO.cons _ rfl rfl ?_ ?_
      ·refine GF.step rfl rfl rfl (PS.call (xs:=[_,_]) rfl rfl rfl rfl (fun w hw=>p_mul (r:=true) (l:=sec l) (g:=b) (by omega) (sec_lt l) w (tab.below hw.to_below))) ?_
       refine PO.take 4 rfl (by kernel_rfl) (by kernel_rfl) (by kernel_rfl) rfl rfl rfl (PU.moved (r:=.c _) rfl rfl) ?_
       refine PO.take 5 rfl (by kernel_rfl) (by kernel_rfl) (by kernel_rfl) rfl rfl rfl (PU.ext rfl rfl rfl) ?_
       refine PO.take 6 rfl (by kernel_rfl) (by kernel_rfl) (by kernel_rfl) rfl rfl rfl (PU.ext rfl rfl rfl) ?_
       refine PO.at_ 8 [] (by kernel_rfl) ?_
       refine allO.cons _ rfl rfl ?_ ?_
       ·refine GF.full rfl (Fa.storeH 20 rfl rfl rfl rfl rfl (pnt_row (ti (le (sec l)) b)) (by kernel_rfl) rfl ?_)
        refine PO.take 9 rfl (by kernel_rfl) (by kernel_rfl) (by kernel_rfl) rfl rfl rfl (PU.assigned (r:=.c _) rfl rfl) ?_
        refine PO.end_ (by kernel_rfl) ?_
        exact⟨id,_,rfl,⟨by refine⟨.inr rfl,.inr rfl,.inr rfl,.inr rfl,.inr rfl,trivial⟩,by refine⟨.inr rfl,trivial⟩,by kernel_rfl⟩⟩
       exact trivial
      exact trivial
     exact trivial
    exact trivial
   refine allO.cons _ rfl rfl ?_ ?_
   ·refine GF.step rfl rfl rfl (PS.call (xs:=[]) rfl rfl rfl rfl (fun w hw=>p_base hb w (tab.below hw.to_below))) ?_
    refine PO.at_ 1 [7] (by kernel_rfl) ?_
    refine allO.cons _ rfl rfl ?_ ?_
    ·refine GF.step rfl rfl rfl (PS.slice (lo:=0) (hi:=32) (kl:=.i64) (kh:=.i64) ((bl (sec l)).map .lit) rfl rfl (.inl ⟨rfl,rfl⟩) (.inr ⟨_,rfl,rfl⟩) Tryz.underlying22 (by kernel_rfl) (by decide) (by decide) (by simp[bl,hD]) (by rw[secd_cells,Nat.mul_one,List.drop_zero,byt_take,hsec])) ?_
     refine PO.at_ 3 [7] (by kernel_rfl) ?_
     refine allO.cons _ rfl rfl ?_ ?_
     ·refine GF.step rfl rfl rfl (PS.call (xs:=[_,_]) rfl rfl rfl rfl (fun w hw=>p_mul (r:=true) (l:=sec l) (g:=b) (by omega) (sec_lt l) w (tab.below hw.to_below))) ?_
      refine PO.take 4 rfl (by kernel_rfl) (by kernel_rfl) (by kernel_rfl) rfl rfl rfl (PU.moved (r:=.c _) rfl rfl) ?_
      refine PO.take 5 rfl (by kernel_rfl) (by kernel_rfl) (by kernel_rfl) rfl rfl rfl (PU.ext rfl rfl rfl) ?_
      refine PO.take 6 rfl (by kernel_rfl) (by kernel_rfl) (by kernel_rfl) rfl rfl rfl (PU.ext rfl rfl rfl) ?_
      refine PO.at_ 7 [] (by kernel_rfl) ?_
      refine allO.cons _ rfl rfl ?_ ?_
      ·refine GF.full rfl (Fa.alloc 19 (z:=.agg z20) rfl (by kernel_rfl) (by kernel_rfl) rfl rfl ?_)
       refine PO.at_ 8 [] (by kernel_rfl) ?_
       refine allO.cons _ rfl rfl ?_ ?_
       ·refine GF.full rfl (Fa.storeH 20 rfl rfl rfl rfl rfl (pnt_row (ti (le (sec l)) b)) (by kernel_rfl) rfl ?_)
        refine PO.take 9 rfl (by kernel_rfl) (by kernel_rfl) (by kernel_rfl) rfl rfl rfl (PU.assigned (r:=.c _) rfl rfl) ?_
        refine PO.end_ (by kernel_rfl) ?_
        exact⟨id,_,rfl,⟨by refine⟨.inr rfl,.inr rfl,.inr rfl,.inr rfl,.inr rfl,trivial⟩,by refine⟨.inr rfl,trivial⟩,by kernel_rfl⟩⟩
       exact trivial
      exact trivial
     refine allO.cons _ rfl rfl ?_ ?_
     ·refine GF.full rfl (Fa.alloc 19 (z:=.agg z20) rfl (by kernel_rfl) (by kernel_rfl) rfl rfl ?_)
      refine PO.at_ 3 [] (by kernel_rfl) ?_
      refine allO.cons _ rfl rfl ?_ ?_
      ·refine GF.step rfl rfl rfl (PS.call (xs:=[_,_]) rfl rfl rfl rfl (fun w hw=>p_mul (r:=true) (l:=sec l) (g:=b) (by omega) (sec_lt l) w (tab.below hw.to_below))) ?_
       refine PO.take 4 rfl (by kernel_rfl) (by kernel_rfl) (by kernel_rfl) rfl rfl rfl (PU.moved (r:=.c _) rfl rfl) ?_
       refine PO.take 5 rfl (by kernel_rfl) (by kernel_rfl) (by kernel_rfl) rfl rfl rfl (PU.ext rfl rfl rfl) ?_
       refine PO.take 6 rfl (by kernel_rfl) (by kernel_rfl) (by kernel_rfl) rfl rfl rfl (PU.ext rfl rfl rfl) ?_
       refine PO.at_ 8 [] (by kernel_rfl) ?_
       refine allO.cons _ rfl rfl ?_ ?_
       ·refine GF.full rfl (Fa.storeH 20 rfl rfl rfl rfl rfl (pnt_row (ti (le (sec l)) b)) (by kernel_rfl) rfl ?_)
        refine PO.take 9 rfl (by kernel_rfl) (by kernel_rfl) (by kernel_rfl) rfl rfl rfl (PU.assigned (r:=.c _) rfl rfl) ?_
        refine PO.end_ (by kernel_rfl) ?_
        exact⟨id,_,rfl,⟨by refine⟨.inr rfl,.inr rfl,.inr rfl,.inr rfl,.inr rfl,trivial⟩,by refine⟨.inr rfl,trivial⟩,by kernel_rfl⟩⟩
       exact trivial
      exact trivial
     exact trivial
    refine allO.cons _ rfl rfl ?_ ?_
    ·refine GF.full rfl (Fa.alloc 19 (z:=.agg z20) rfl (by kernel_rfl) (by kernel_rfl) rfl rfl ?_)
     refine PO.at_ 1 [] (by kernel_rfl) ?_
     refine allO.cons _ rfl rfl ?_ ?_
     ·refine GF.step rfl rfl rfl (PS.slice (lo:=0) (hi:=32) (kl:=.i64) (kh:=.i64) ((bl (sec l)).map .lit) rfl rfl (.inl ⟨rfl,rfl⟩) (.inr ⟨_,rfl,rfl⟩) Tryz.underlying22 (by kernel_rfl) (by decide) (by decide) (by simp[bl,hD]) (by rw[secd_cells,Nat.mul_one,List.drop_zero,byt_take,hsec])) ?_
      refine PO.at_ 3 [] (by kernel_rfl) ?_
      refine allO.cons _ rfl rfl ?_ ?_
      ·refine GF.step rfl rfl rfl (PS.call (xs:=[_,_]) rfl rfl rfl rfl (fun w hw=>p_mul (r:=true) (l:=sec l) (g:=b) (by omega) (sec_lt l) w (tab.below hw.to_below))) ?_
       refine PO.take 4 rfl (by kernel_rfl) (by kernel_rfl) (by kernel_rfl) rfl rfl rfl (PU.moved (r:=.c _) rfl rfl) ?_
       refine PO.take 5 rfl (by kernel_rfl) (by kernel_rfl) (by kernel_rfl) rfl rfl rfl (PU.ext rfl rfl rfl) ?_
       refine PO.take 6 rfl (by kernel_rfl) (by kernel_rfl) (by kernel_rfl) rfl rfl rfl (PU.ext rfl rfl rfl) ?_
       refine PO.at_ 8 [] (by kernel_rfl) ?_
       refine allO.cons _ rfl rfl ?_ ?_
       ·refine GF.full rfl (Fa.storeH 20 rfl rfl rfl rfl rfl (pnt_row (ti (le (sec l)) b)) (by kernel_rfl) rfl ?_)
        refine PO.take 9 rfl (by kernel_rfl) (by kernel_rfl) (by kernel_rfl) rfl rfl rfl (PU.assigned (r:=.c _) rfl rfl) ?_
        refine PO.end_ (by kernel_rfl) ?_
        exact⟨id,_,rfl,⟨by refine⟨.inr rfl,.inr rfl,.inr rfl,.inr rfl,.inr rfl,trivial⟩,by refine⟨.inr rfl,trivial⟩,by kernel_rfl⟩⟩
       exact trivial
      exact trivial
     exact trivial
    exact trivial
   refine allO.cons _ rfl rfl ?_ ?_
   ·refine GF.full rfl (Fa.alloc 19 (z:=.agg z20) rfl (by kernel_rfl) (by kernel_rfl) rfl rfl ?_)
    refine PO.at_ 1 [2] (by kernel_rfl) ?_
    refine allO.cons _ rfl rfl ?_ ?_
    ·refine GF.step rfl rfl rfl (PS.slice (lo:=0) (hi:=32) (kl:=.i64) (kh:=.i64) ((bl (sec l)).map .lit) rfl rfl (.inl ⟨rfl,rfl⟩) (.inr ⟨_,rfl,rfl⟩) Tryz.underlying22 (by kernel_rfl) (by decide) (by decide) (by simp[bl,hD]) (by rw[secd_cells,Nat.mul_one,List.drop_zero,byt_take,hsec])) ?_
     refine PO.at_ 2 [] (by kernel_rfl) ?_
     refine allO.cons _ rfl rfl ?_ ?_
     ·refine GF.step rfl rfl rfl (PS.call (xs:=[]) rfl rfl rfl rfl (fun w hw=>p_base hb w (tab.below hw.to_below))) ?_
      refine PO.at_ 3 [] (by kernel_rfl) ?_
      refine allO.cons _ rfl rfl ?_ ?_
      ·refine GF.step rfl rfl rfl (PS.call (xs:=[_,_]) rfl rfl rfl rfl (fun w hw=>p_mul (r:=true) (l:=sec l) (g:=b) (by omega) (sec_lt l) w (tab.below hw.to_below))) ?_
       refine PO.take 4 rfl (by kernel_rfl) (by kernel_rfl) (by kernel_rfl) rfl rfl rfl (PU.moved (r:=.c _) rfl rfl) ?_
       refine PO.take 5 rfl (by kernel_rfl) (by kernel_rfl) (by kernel_rfl) rfl rfl rfl (PU.ext rfl rfl rfl) ?_
       refine PO.take 6 rfl (by kernel_rfl) (by kernel_rfl) (by kernel_rfl) rfl rfl rfl (PU.ext rfl rfl rfl) ?_
       refine PO.at_ 8 [] (by kernel_rfl) ?_
       refine allO.cons _ rfl rfl ?_ ?_
       ·refine GF.full rfl (Fa.storeH 20 rfl rfl rfl rfl rfl (pnt_row (ti (le (sec l)) b)) (by kernel_rfl) rfl ?_)
        refine PO.take 9 rfl (by kernel_rfl) (by kernel_rfl) (by kernel_rfl) rfl rfl rfl (PU.assigned (r:=.c _) rfl rfl) ?_
        refine PO.end_ (by kernel_rfl) ?_
        exact⟨id,_,rfl,⟨by refine⟨.inr rfl,.inr rfl,.inr rfl,.inr rfl,.inr rfl,trivial⟩,by refine⟨.inr rfl,trivial⟩,by kernel_rfl⟩⟩
       exact trivial
      exact trivial
     exact trivial
    refine allO.cons _ rfl rfl ?_ ?_
    ·refine GF.step rfl rfl rfl (PS.call (xs:=[]) rfl rfl rfl rfl (fun w hw=>p_base hb w (tab.below hw.to_below))) ?_
     refine PO.at_ 1 [] (by kernel_rfl) ?_
     refine allO.cons _ rfl rfl ?_ ?_
     ·refine GF.step rfl rfl rfl (PS.slice (lo:=0) (hi:=32) (kl:=.i64) (kh:=.i64) ((bl (sec l)).map .lit) rfl rfl (.inl ⟨rfl,rfl⟩) (.inr ⟨_,rfl,rfl⟩) Tryz.underlying22 (by kernel_rfl) (by decide) (by decide) (by simp[bl,hD]) (by rw[secd_cells,Nat.mul_one,List.drop_zero,byt_take,hsec])) ?_
      refine PO.at_ 3 [] (by kernel_rfl) ?_
      refine allO.cons _ rfl rfl ?_ ?_
      ·refine GF.step rfl rfl rfl (PS.call (xs:=[_,_]) rfl rfl rfl rfl (fun w hw=>p_mul (r:=true) (l:=sec l) (g:=b) (by omega) (sec_lt l) w (tab.below hw.to_below))) ?_
       refine PO.take 4 rfl (by kernel_rfl) (by kernel_rfl) (by kernel_rfl) rfl rfl rfl (PU.moved (r:=.c _) rfl rfl) ?_
       refine PO.take 5 rfl (by kernel_rfl) (by kernel_rfl) (by kernel_rfl) rfl rfl rfl (PU.ext rfl rfl rfl) ?_
       refine PO.take 6 rfl (by kernel_rfl) (by kernel_rfl) (by kernel_rfl) rfl rfl rfl (PU.ext rfl rfl rfl) ?_
       refine PO.at_ 8 [] (by kernel_rfl) ?_
       refine allO.cons _ rfl rfl ?_ ?_
       ·refine GF.full rfl (Fa.storeH 20 rfl rfl rfl rfl rfl (pnt_row (ti (le (sec l)) b)) (by kernel_rfl) rfl ?_)
        refine PO.take 9 rfl (by kernel_rfl) (by kernel_rfl) (by kernel_rfl) rfl rfl rfl (PU.assigned (r:=.c _) rfl rfl) ?_
        refine PO.end_ (by kernel_rfl) ?_
        exact⟨id,_,rfl,⟨by refine⟨.inr rfl,.inr rfl,.inr rfl,.inr rfl,.inr rfl,trivial⟩,by refine⟨.inr rfl,trivial⟩,by kernel_rfl⟩⟩
       exact trivial
      exact trivial
     exact trivial
    exact trivial
   exact trivial
  ·skip
   rintro σm rfl
   refine(PW.seq ?_:PW _ _ _ _)
   refine(PW.region ?_:PW _ _ _ _)
   refine PL.mv rfl rfl rfl rfl rfl ?_
   refine PL.step rfl rfl rfl (PS.decT (PS.eql rfl rfl rfl) rfl) ?_
   refine PL.mv rfl rfl rfl rfl rfl ?_
   refine PL.stepW rfl rfl rfl rfl rfl (PS.loadH (k:=20) rfl rfl rfl (row_sz (pnt_row (ti (le (sec l)) b))) Tryz.underlying33 rfl (by kernel_rfl)) ?_
   refine PL.stepW rfl rfl rfl rfl rfl (PS.call (xs:=[_]) rfl rfl rfl rfl (fun w hw=>(show FnAt Tryz.prog [] w 16 [pnt (ti (le (sec l)) b)] (byt true (keyb l b)) from p_enc w))) ?_
   refine PL.stepW rfl rfl rfl rfl rfl (PS.moved (r:=.c _) rfl rfl) ?_
   refine PL.stepW rfl rfl rfl rfl rfl (PS.call (xs:=[_,_]) rfl rfl rfl rfl (fun w hw=>FnAt.to (c_samebytes (r:=true) (s:=true) (l:=keyb l b) (k:=keyb l b) (by_lt _ _) (by_lt _ _) w) (bool_le (b:=true) (by simp)))) ?_
   refine PL.pT rfl rfl rfl rfl rfl rfl ?_
   refine PL.mv rfl rfl rfl rfl rfl ?_
   refine PL.stepW rfl rfl rfl rfl rfl (PS.moved (r:=.c _) rfl rfl) ?_
   refine PL.stepW rfl rfl rfl rfl rfl (PS.moved (r:=.c _) rfl rfl) ?_
   refine PL.stepW rfl rfl rfl rfl rfl (PS.moved (r:=.c _) rfl rfl) ?_
   refine PL.stepW rfl rfl rfl rfl rfl (PS.call (xs:=[_,_,_]) rfl rfl rfl rfl (fun w hw=>g_verOwn hm hn hb w (tab.below hw.to_below) (ts.below hw.to_below) (tl.below hw.to_below))) ?_
   refine PL.stepW rfl rfl rfl rfl rfl (PS.decT (PS.eql rfl rfl rfl) rfl) ?_
   refine PL.pT rfl rfl rfl rfl rfl rfl ?_
   refine PL.mv rfl rfl rfl rfl rfl ?_
   refine PL.stepW rfl rfl rfl rfl rfl (PS.call (xs:=[]) rfl rfl rfl rfl (fun w hw=>hA w hw.to_below)) ?_
   refine PL.pT rfl rfl rfl rfl rfl rfl ?_
   refine PL.mu rfl rfl rfl rfl rfl ?_
   refine PL.nil ?_
   refine(PW.ret ?_:PW _ _ _ _)
   exact Rt.as (Rt.one Tryz.results3 rfl) (le_refl _)
theorem walk_topProves{w:World}(tab:TabE w∧Sh.Tab w∧TabL w)(A0:Option Addr)(n0 c0:Nat)(l0:List Nat)(hb0:BL w A0 n0 c0 l0)(A1:Option Addr)(n1 c1:Nat)(l1:List Nat)(hb1:BL w A1 n1 c1 l1):Calls Tryz.prog 3 #[.slice A0 n0 c0,.slice A1 n1 c1] w fun e w'=>e=.returned (.bool true)∧Below w.heap.size w w':=by
 obtain⟨b,hb⟩:=base_some
 have h32:((l0.take 32 ++ List.replicate 32 0 ++ []).take 32).length=32:=by simp
 have hl:∀x∈(l0.take 32 ++ List.replicate 32 0 ++ []).take 32,x < 256:=fun x hx=>by
  have h1:=List.mem_of_mem_take hx
  rw[List.append_nil] at h1
  rcases List.mem_append.1 h1 with h|h
  ·exact hb0.2.2.1 x (List.mem_of_mem_take h)
  ·have:=List.eq_of_mem_replicate h;omega
 have g:∀i,i < 64→(Sh.dg true ((l0.take 32 ++ List.replicate 32 0 ++ []).take 32)).getD i 0 < 256:=fun i hi=>by
  rw[List.getD_eq_getElem?_getD,List.getElem?_eq_getElem (by rw[Ed.dg_len];exact hi)]
  exact dg_lt _ _ (List.getElem_mem _)
 exact(l_TopProves rfl rfl h32 hl (fun x hx=>hb1.2.2.1 x (List.mem_of_mem_take hx)) (by simp;omega) hb (Ed.dg_len _) (g 0 (by decide)) (g 31 (by decide)) rfl (fun w ts=>g_own512 hl (by omega) (by omega) w ts) w tab.1 tab.2.1 tab.2.2 (fun w2 h=>t_awake dg_nil.1 dg_nil.2.1 (keyb_length _ _) (key_zero hb) w2 (fun w3 h3=>g_sum256 w3 (tab.2.1.below (h.trans (h3.mono h.size)))) (fun w3 h3=>g_key (by simp) (fun x hx=>by have:=List.eq_of_mem_replicate hx;omega) hb w3 (tab.1.below (h.trans (h3.mono h.size))) (tab.2.1.below (h.trans (h3.mono h.size)))))).run (vs:=[.slice A0 n0 c0,.slice A1 n1 c1]) rfl ⟨⟨_,rfl,bl_byt hb0⟩,⟨_,rfl,bl_byt hb1⟩,trivial⟩
end Go.Proofs.YtoibhnpmemnlfaaGreatDoor.Av
