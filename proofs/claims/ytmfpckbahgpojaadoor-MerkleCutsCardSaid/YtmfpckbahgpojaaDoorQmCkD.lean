/- Joined texts. -/
import Derived.Test.YtmfpckbahgpojaaDoorQmCkC
import Derived.Test.YtmfpckbahgpojaaDoorQmMkT
set_option linter.unusedVariables false
namespace Go.Proofs.YtmfpckbahgpojaaDoor.Mk
open Go.RowKit Go.Proofs.YtmfpckbahgpojaaDoor.Gn Go.Proofs.YtmfpckbahgpojaaDoor.Fd Go.Deep
set_option maxRecDepth 100000 in
theorem Cut_no(A:Option Addr)(L c:Nat)(q k:Int)(hk:k=1∨k=2)(w:World)(h:∀w,Calls Tryd.prog 8 #[.int .i64 (L:Int),.int .i64 q] w fun e w'=>e=.returned (.tuple #[.int .i64 0,.int .i64 k])∧w=w') :
  Calls Tryd.prog 10 #[.slice A L c,.int .i64 q] w fun e w'=>e=.returned (.tuple #[.slice none 0 0,.int .i64 k])∧w=w':=by
 have CC:=Lib.hid h
 clear h
 rcases hk with rfl|rfl
 all_goals
  go_enter Tryd.func10,Tryd.ntmps10
  go_wp2_with (go_at_call 8;(with_reducible refine(CC.out _).mono ?_);rintro e w1 ⟨rfl,rfl⟩)
  go_ret2
  exact⟨rfl,rfl⟩
set_option maxRecDepth 100000 in
theorem RCut_no(A:Option Addr)(L c:Nat)(q k:Int)(hk:k=1∨k=2)(w:World)(h:∀w,Calls Tryd.prog 9 #[.int .i64 (L:Int),.int .i64 q] w fun e w'=>e=.returned (.tuple #[.int .i64 0,.int .i64 k])∧w=w') :
  Calls Tryd.prog 11 #[.slice A L c,.int .i64 q] w fun e w'=>e=.returned (.tuple #[.slice none 0 0,.int .i64 k])∧w=w':=by
 have CC:=Lib.hid h
 clear h
 rcases hk with rfl|rfl
 all_goals
  go_enter Tryd.func11,Tryd.ntmps11
  go_wp2_with (go_at_call 9;(with_reducible refine(CC.out _).mono ?_);rintro e w1 ⟨rfl,rfl⟩)
  go_ret2
  exact⟨rfl,rfl⟩
set_option maxRecDepth 100000 in
theorem RCount_arg(s c:Int)(h:s < 0∨c < 64∨1024 < c)(w:World) :
  Calls Tryd.prog 9 #[.int .i64 s,.int .i64 c] w fun e w'=>e=.returned (.tuple #[.int .i64 0,.int .i64 1])∧w=w':=by
 by_cases h1:s < 0
 ·have t1:decide (s < 0)=true:=decide_eq_true h1
  clear h
  go_enter Tryd.func9,Tryd.ntmps9
  go_wp2_with fail
  go_ret2
  exact⟨rfl,rfl⟩
 ·have t1:decide (s < 0)=false:=decide_eq_false h1
  by_cases h2:c < 64
  ·have t2:decide (c < 64)=true:=decide_eq_true h2
   clear h
   go_enter Tryd.func9,Tryd.ntmps9
   go_wp2_with fail
   go_ret2
   exact⟨rfl,rfl⟩
  ·have t2:decide (c < 64)=false:=decide_eq_false h2
   have h3:1024 < c:=by omega
   have t3:decide (1024 < c)=true:=decide_eq_true h3
   clear h
   go_enter Tryd.func9,Tryd.ntmps9
   go_wp2_with fail
   go_ret2
   exact⟨rfl,rfl⟩
set_option maxRecDepth 100000 in
theorem RCount_long(s c:Int)(hc:64≤c∧c≤1024)(hs:131072 < s)(w:World) :
  Calls Tryd.prog 9 #[.int .i64 s,.int .i64 c] w fun e w'=>e=.returned (.tuple #[.int .i64 0,.int .i64 2])∧w=w':=by
 obtain⟨h1,h2⟩:=hc
 have t1:decide (s < 0)=false:=decide_eq_false (by omega)
 have t2:decide (c < 64)=false:=decide_eq_false (by omega)
 have t3:decide (1024 < c)=false:=decide_eq_false (by omega)
 go_enter Tryd.func9,Tryd.ntmps9
 go_wp2_with fail
 go_ret2
 exact⟨rfl,rfl⟩
def RcnRel(s c:Nat)(w:World)(x n:Value)(wr:World):Prop :=
 ∃k:Nat,(k=0∨k*c < s+c)∧k≤s∧x=.int .i64 ((s:Int) - (k*c:Nat))∧n=.int .i64 (k:Int)∧wr=w
theorem div_up{s c k:Nat}(hc:0 < c)(h1:k=0∨k*c < s+c)(h2:s≤k*c):(s+c - 1) / c=k:=by
 apply Nat.div_eq_of_lt_le
 ·rcases h1 with rfl|h1
  ·omega
  ·omega
 ·rw[Nat.succ_mul];omega
set_option maxRecDepth 100000 in
set_option maxHeartbeats 2000000 in
theorem RCount_ok(s c:Nat)(hc:64≤c∧c≤1024)(hs:s≤131072)(m:Nat)(hm:m=(s+c - 1) / c)(w:World) :
  Calls Tryd.prog 9 #[.int .i64 (s:Int),.int .i64 (c:Int)] w fun e w'=>e=.returned (.tuple #[.int .i64 (m:Int),.int .i64 0])∧w=w':=by
 obtain⟨h1,h2⟩:=hc
 have t1:decide ((s:Int) < 0)=false:=decide_eq_false (by omega)
 have t2:decide ((c:Int) < 64)=false:=decide_eq_false (by omega)
 have t3:decide ((1024:Int) < (c:Int))=false:=decide_eq_false (by omega)
 have HM:=Lib.hid hm
 clear hm
 go_enter Tryd.func9,Tryd.ntmps9
 go_wp2_with fail
 clear t1 t2 t3
 go_loopw [0,6] (fun x n wr=>RcnRel s c w x n wr) (fun x _ _=>(intOf x).toNat)
 case atStart=>exact⟨0,.inl rfl,Nat.zero_le _,by simp,rfl,rfl⟩
 case round =>
  obtain⟨k,hk,hks,rfl,rfl,rfl⟩:=hrel
  obtain⟨p,hp⟩:∃p,k*c=p:=⟨_,rfl⟩
  rw[hp]
  rw[hp] at hk
  by_cases hlt:p < s
  ·have HS:=Lib.hid (show(k+1)*c=p+c by rw[Nat.succ_mul,hp])
   have hkp:k≤p:=by rw[←hp];exact Nat.le_mul_of_pos_right _ (by omega)
   clear hp hk
   go_wp2_with fail
   refine⟨⟨k+1,.inr (by rw[HS.out];omega),by omega,by rw[HS.out];congr 1;omega,by go_num,rfl⟩,by simp[intOf];omega⟩
  ·have HE:=Lib.hid (show m=k by rw[HM.out];exact div_up (by omega) (by rw[hp];exact hk) (by rw[hp];omega))
   have hge:s≤p:=by omega
   have t9:decide ((0:Int) < (s:Int) - (p:Int))=false:=decide_eq_false (by omega)
   clear hp hk hlt
   go_wp2_with fail
   go_ret2
   exact⟨by rw[HE.out];rfl,rfl⟩
structure Ck (w:World) (A:Option Addr) (m:Nat) (rows:List Rw) (l:List Nat) (q:Nat):Prop where
 row:Sl w A m (rows.map rwv)
 cont:rows.map (·.2.2.2)=(List.range m).map (ck l q)
 pcs:∀r∈rows,Pc w r
theorem ck_fin(l:List Nat)(q m:Nat):(List.finRange m).map (fun i=>ck l q i.1)=(List.range m).map (ck l q):=by
 apply List.ext_getElem
 ·simp
 ·intro i h1 h2;simp
def RcuRel(ad:Addr)(L c q:Nat)(l:List Nat)(w:World)(b o:Value)(wr:World):Prop :=
 ∃(k:Nat) (rows:List Rw),k*q < L∧b=.slice (some (ad.add (k*q))) (L - k*q) (c - k*q)∧wr.ownsRow w.heap.size 22 1 o k (rows.map rwv)∧rows.map (·.2.2.2)=(List.range k).map (ck l q)∧(∀r∈rows,Pc w r)∧Below w.heap.size w wr
set_option maxRecDepth 100000 in
set_option maxHeartbeats 4000000 in
theorem RCut_ok{A:Option Addr}{L c:Nat}{l:List Nat}{w:World}(h:Pc w (A,L,c,l))(q:Nat)(h64:64≤q)(hq:q≤1024)(hL:L≤131072)(m:Nat)(hm:m=(L+q - 1) / q) :
  Calls Tryd.prog 11 #[.slice A L c,.int .i64 (q:Int)] w fun e w'=>∃A' c' rows,e=.returned (.tuple #[.slice A' m c',.int .i64 0])∧Ck w' A' m rows l q∧Below w.heap.size w w':=by
 obtain⟨i0,hi,hz0,hz1,hz2⟩:=info_parts info22
 have CC:=Lib.hid (fun w=>RCount_ok L q ⟨h64,hq⟩ hL m hm w)
 have HM:=Lib.hid hm
 have hLc:=Pc.cap' h
 rcases Nat.eq_zero_or_pos L with h0|h0
 ·subst h0
  have hm0:m=0:=by rw[hm,Nat.zero_add];exact Nat.div_eq_of_lt (by omega)
  subst hm0
  have C0:=Lib.hid (fun w=>show Calls Tryd.prog 9 #[.int .i64 0,.int .i64 (q:Int)] w fun e w'=>e=.returned (.tuple #[.int .i64 0,.int .i64 0])∧w=w' from CC.out w)
  clear hm h CC
  go_enter Tryd.func11,Tryd.ntmps11
  go_wp2_with (go_at_call 9;(with_reducible refine(C0.out _).mono ?_);rintro e w1 ⟨rfl,rfl⟩)
  go_loopw [0,8] (fun b o wr=>b=.slice A 0 c∧o=.slice none 0 0∧wr=w) (fun _ _ _=>0)
  case atStart=>exact⟨rfl,rfl,rfl⟩
  case round =>
   obtain⟨rfl,rfl,rfl⟩:=hrel
   go_wp2_with fail
   go_ret2
   exact⟨none,0,[],rfl,⟨Sl.nil_ _ _,rfl,(fun r hr=>by cases hr)⟩,Below.refl _ _⟩
 ·obtain⟨ad,rfl⟩:=Option.isSome_iff_exists.1 (Pc.some' h h0)
  have HP:=Lib.hid h
  have hm9:m≤131072:=by rw[hm];exact Nat.le_trans (Nat.div_le_div_left h64 (by decide)) (by omega)
  have R0:=Lib.hid (show RcuRel ad L c q l w (.slice (some ad) L c) (.slice none 0 0) w from⟨0,[],by omega,by rw[Nat.zero_mul,show ad.add 0=ad by unfold Addr.add;rw[if_pos rfl]];rfl,own_nil _ _ _,rfl,(fun r hr=>by cases hr),Below.refl _ _⟩)
  clear hm h
  go_enter Tryd.func11,Tryd.ntmps11
  go_wp2_with (go_at_call 9;(with_reducible refine(CC.out _).mono ?_);rintro e w1 ⟨rfl,rfl⟩)
  go_loopw [0,8] (fun b o wr=>RcuRel ad L c q l w b o wr) (fun b _ _=>match b with | .slice _ n _=>n|_=>0)
  case atStart=>exact R0.out
  case round =>
   obtain⟨k,rows,hk,rfl,hown,hct,hpc,hb⟩:=hrel
   have PI:=ck_pc HP.out hk
   have HKL:=Lib.hid (ck_len l q k)
   obtain⟨p,hp⟩:∃p,k*q=p:=⟨_,rfl⟩
   have hkp:k≤p:=by rw[←hp];exact Nat.le_mul_of_pos_right _ (by omega)
   have HP1:=Lib.hid hp
   have HS:=Lib.hid (show(k+1)*q=p+q by rw[Nat.succ_mul,hp])
   rw[hp] at hk PI ⊢
   have O1:=Lib.hid hown
   have C1:=Lib.hid hct
   have P1:=Lib.hid hpc
   have B1:=Lib.hid hb
   have PI:=Lib.hid PI
   have hbs:=hb.size
   by_cases hlt:q < L - p
   ·clear hown hct hpc hb hp
    go_wp2_with (at_builtin;refine wpList_append_sl rfl (.tmp 23) (.tmp 27) 27 rfl w.heap.size 22 i0 _ 24 Tryd.underlying27 hi hz0 hz1 hz2 rfl _ k (rows.map rwv) rfl (O1.out.alloc _) (some ⟨wr.heap.size,0,none⟩) 1 1 [.slice (some (ad.add p)) q (c - p)] rfl (fun e=>by cases e) (Sl.new_ wr 22 [.slice (some (ad.add p)) q (c - p)]) (by intro u hu;simp at hu;subst hu;rfl) (by unfold maxLen;omega) (by omega) (by simp;omega) ?_;intro v2 w2 hown2 hgr2;have O2:=Lib.hid hown2;have D2:=Lib.hid ((B1.out.alloc hbs _).grown hgr2 (by simp;omega) (fun x e=>(World.ownsRow.lt O1.out x e).1));clear hown2 hgr2)
    have hel:ckl L q k=q:=by unfold ckl;rw[HP1.out];omega
    have hq2:=PI.out
    rw[hel] at hq2
    refine⟨⟨k+1,rows ++ [(some (ad.add p),q,c - p,ck l q k)],by rw[HS.out];omega,?_,?_,?_,?_,D2.out⟩,by dsimp only;omega⟩
    ·rw[HS.out,Addr.add_add,Nat.sub_sub,Nat.sub_sub]
    ·rw[List.map_append];exact O2.out
    ·rw[List.map_append,C1.out,List.range_succ,List.map_append];rfl
    ·intro r hr
     rcases List.mem_append.1 hr with h|h
     ·exact P1.out r h
     ·rw[show r=_ by simpa using h]
      exact⟨hq2.len,hq2.row,hq2.lt,by show(ck l q k).length≤c - p;have:q=(ck l q k).length:=hq2.len;omega,fun e=>by cases e⟩
   ·have hel:ckl L q k=L - p:=by unfold ckl;rw[HP1.out];omega
    have hmk:m=k+1:=by
     rw[HM.out]
     exact div_up (by omega) (.inr (by rw[HS.out];omega)) (by rw[HS.out];omega)
    have HMK:=Lib.hid hmk
    have hge:L - p≤q:=by omega
    have hpos:0 < L - p:=by omega
    clear hown hct hpc hb hp hlt hmk
    go_wp2_with (at_builtin;refine wpList_append_sl rfl (.tmp 35) (.tmp 37) 27 rfl w.heap.size 22 i0 _ 24 Tryd.underlying27 hi hz0 hz1 hz2 rfl _ k (rows.map rwv) rfl (O1.out.alloc _) (some ⟨wr.heap.size,0,none⟩) 1 1 [.slice (some (ad.add p)) (L - p) (c - p)] rfl (fun e=>by cases e) (Sl.new_ wr 22 [.slice (some (ad.add p)) (L - p) (c - p)]) (by intro u hu;simp at hu;subst hu;rfl) (by unfold maxLen;omega) (by omega) (by simp;omega) ?_;intro v2 w2 hown2 hgr2;have O2:=Lib.hid hown2;have D2:=Lib.hid ((B1.out.alloc hbs _).grown hgr2 (by simp;omega) (fun x e=>(World.ownsRow.lt O1.out x e).1));clear hown2 hgr2)
    go_ret2
    have hq2:=PI.out
    rw[hel] at hq2
    obtain⟨A',c',rfl,h1,-⟩:=Sl.own O2.out
    refine⟨A',c',rows ++ [(some (ad.add p),L - p,c - p,ck l q k)],by rw[HMK.out];rfl,⟨?_,?_,?_⟩,D2.out⟩
    ·rw[HMK.out,List.map_append];exact h1
    ·rw[HMK.out,List.map_append,C1.out,List.range_succ,List.map_append];rfl
    ·intro r hr
     rcases List.mem_append.1 hr with h|h
     ·exact(P1.out r h).below D2.out
     ·rw[show r=_ by simpa using h]
      refine Pc.below ⟨hq2.len,hq2.row,hq2.lt,?_,fun e=>by cases e⟩ D2.out
      show(ck l q k).length≤c - p
      have:L - p=(ck l q k).length:=hq2.len
      omega
def SaRel(m:Nat)(w:World)(i:Value)(wr:World):Prop:=∃k,k≤m∧i=.int .i64 (k:Int)∧Qt w wr
set_option maxRecDepth 100000 in
set_option maxHeartbeats 4000000 in
theorem Same_any{A B:Option Addr}{m c d:Nat}{xs ys:List Rw}{w:World}(hm:m≤1000000)(hx:Sl w A m (xs.map rwv))(hy:Sl w B m (ys.map rwv))(hxp:∀r∈xs,Pc w r)(hyp:∀r∈ys,Pc w r)(he:xs.map (·.2.2.2)=ys.map (·.2.2.2)) :
  Calls Tryd.prog 12 #[.slice A m c,.slice B m d] w fun e w'=>e=.returned (.bool true)∧Qt w w':=by
 have hxl:xs.length=m:=by have:=hx.1;rwa [List.length_map] at this
 have hyl:ys.length=m:=by have:=hy.1;rwa [List.length_map] at this
 have SX:=Lib.hid hx
 have SY:=Lib.hid hy
 have PX:=Lib.hid hxp
 have PY:=Lib.hid hyp
 have LX:=Lib.hid hxl
 have LY:=Lib.hid hyl
 have HE:=Lib.hid he
 clear hx hy hxp hyp hxl hyl he
 go_enter Tryd.func12,Tryd.ntmps12
 go_wp2_with fail
 go_loopw [5] (fun i wr=>SaRel m w i wr) (fun i _=>m - (intOf i).toNat)
 case atStart=>exact⟨0,Nat.zero_le _,rfl,Qt.refl _⟩
 case round =>
  obtain⟨k,hk,rfl,hq⟩:=hrel
  by_cases hlt:k < m
  ·obtain⟨ax,rfl,hcx⟩:=SX.out.at_ hlt
   obtain⟨ay,rfl,hcy⟩:=SY.out.at_ hlt
   obtain⟨x,hx⟩:∃x,xs[k]?=some x:=⟨xs[k]'(by have:=LX.out;omega),List.getElem?_eq_getElem _⟩
   obtain⟨y,hy⟩:∃y,ys[k]?=some y:=⟨ys[k]'(by have:=LY.out;omega),List.getElem?_eq_getElem _⟩
   have hpx:=(PX.out x (List.mem_of_getElem? hx)).below hq.below
   have hpy:=(PY.out y (List.mem_of_getElem? hy)).below hq.below
   have hxy:x.2.2.2=y.2.2.2:=by
    have:=congrArg (fun z=>z[k]?) HE.out
    simpa[hx,hy] using this
   obtain⟨A1,n1,c1,l1⟩:=x
   obtain⟨A2,n2,c2,l2⟩:=y
   have hxy:l1=l2:=hxy
   subst hxy
   have hc1:wr.cell? (ax.add k)=some (.slice A1 n1 c1):=(hq.below.cell (cell_lt (by rw[hcx,List.getElem?_map,hx];rfl))).trans (by rw[hcx,List.getElem?_map,hx];rfl)
   have hc2:wr.cell? (ay.add k)=some (.slice A2 n2 c2):=(hq.below.cell (cell_lt (by rw[hcy,List.getElem?_map,hy];rfl))).trans (by rw[hcy,List.getElem?_map,hy];rfl)
   have e1:l1.length=n1:=hpx.len.symm
   have e2:l1.length=n2:=hpy.len.symm
   have r1:=fun n=>run_txt (P:=Tryd.prog) (wr.drewN n) 22 9 5 Tryd.underlying22 Tryd.underlying5 Tryd.underlying9 A1 n1 c1 l1 (by have:=hpx.row;rw[show((A1,n1,c1,l1):Rw).2.2.2.length=n1 from e1] at this;exact this.drewN n)
   have r2:=fun n=>run_txt (P:=Tryd.prog) (wr.drewN n) 22 9 5 Tryd.underlying22 Tryd.underlying5 Tryd.underlying9 A2 n2 c2 l1 (by have:=hpy.row;rw[show((A2,n2,c2,l1):Rw).2.2.2.length=n2 from e2] at this;exact this.drewN n)
   obtain⟨s,hs⟩:∃s,txt l1=s:=⟨_,rfl⟩
   rw[hs] at r1 r2
   have HQ:=Lib.hid hq
   clear hcx hcy hx hy hpx hpy e1 e2 hs hq
   go_wp2_with fail
   go_quiet (fail)
   go_wp2_with fail
   exact⟨⟨k+1,by omega,by go_num,HQ.out.more nq⟩,by simp[intOf];omega⟩
  ·have HQ:=Lib.hid hq
   obtain rfl:k=m:=by omega
   clear hq
   go_wp2_with fail
   go_ret
   exact⟨rfl,HQ.out⟩
end Go.Proofs.YtmfpckbahgpojaaDoor.Mk
