/- Joined texts. -/
import Derived.WalkMore
import Derived.Test.YtnnfpmebopgogaaDoorQnPuA
set_option linter.unusedVariables false
namespace Go.Proofs.YtnnfpmebopgogaaDoor.Mk
open Go.RowKit Go.Proofs.YtnnfpmebopgogaaDoor.Gn Go.Proofs.YtnnfpmebopgogaaDoor.Fd Go.Deep
abbrev Lw:=Option Addr × Nat × Nat × List Rw
def lwv(r:Lw):Value:=.slice r.1 r.2.1 r.2.2.1
def all32(r:List Rw):Bool:=r.all fun x=>decide (x.2.1=32)
def allAll(L:List Lw):Bool:=L.all fun x=>all32 x.2.2.2
theorem all32_no{r:List Rw}{x:Rw}(hx:x∈r)(h:x.2.1≠32):all32 r=false:=by
 unfold all32
 rw[List.all_eq_false]
 exact⟨x,hx,by simpa using h⟩
theorem allAll_no{L:List Lw}{x:Lw}(hx:x∈L)(h:all32 x.2.2.2=false):allAll L=false:=by
 unfold allAll
 rw[List.all_eq_false]
 exact⟨x,hx,by rw[h];decide⟩
theorem take_all{α:Type}{l:List α}{p:α→Prop}{k:Nat}{x:α}(h:∀y∈l.take k,p y)(hx:l[k]?=some x)(hp:p x):∀y∈l.take (k+1),p y:=by
 intro y hy
 rw[List.take_add_one,hx] at hy
 rcases List.mem_append.1 hy with h1|h1
 ·exact h y h1
 ·have:y=x:=by simpa using h1
  rw[this];exact hp
def DoRel(L:List Lw)(n:Nat)(w:World)(a i:Value)(wr:World):Prop :=
 a=.bool true∧∃k,k≤n∧i=.int .i64 (k:Int)∧(∀y∈L.take k,all32 y.2.2.2=true)∧wr=w
def DiRel(r:List Rw)(n:Nat)(w:World)(a i:Value)(wr:World):Prop :=
 a=.bool true∧∃k,k≤n∧i=.int .i64 (k:Int)∧(∀y∈r.take k,y.2.1=32)∧wr=w
structure Lc (w:World) (r:Lw):Prop where
 len:r.2.1=r.2.2.2.length
 row:Sl w r.1 r.2.1 (r.2.2.2.map rwv)
 few:r.2.1≤1000000
set_option maxRecDepth 100000 in
set_option maxHeartbeats 2000000 in
theorem digests_any(L:List Lw)(A:Option Addr)(len c:Nat)(w:World)(hs:Sl w A len (L.map lwv))(hp:∀l∈L,Lc w l)(hq:∀l∈L,∀r∈l.2.2.2,r.2.1≤1099511627776)(hlen:len≤1000000) :
  Calls Tryd.prog 45 #[.slice A len c] w fun e w'=>e=.returned (.bool (allAll L))∧w=w':=by
 have hll:L.length=len:=by have:=hs.1;rwa [List.length_map] at this
 have RL:=Lib.hid hll
 have HP:=Lib.hid hp
 have HQ:=Lib.hid hq
 have S0:=Lib.hid hs
 clear hs hp hq hll
 go_enter Tryd.func45,Tryd.ntmps45
 go_wp2_with fail
 go_step3
 go_wp2_with fail
 go_step3
 go_wp2_with fail
 go_loopw [3,10] (fun a i wr=>DoRel L len w a i wr) (fun _ i _=>len - (intOf i).toNat)
 case atStart=>exact⟨rfl,0,Nat.zero_le _,rfl,fun y hy=>by simp at hy,rfl⟩
 case round =>
  obtain⟨rfl,k,hk,rfl,hall,rfl⟩:=hrel
  have HA:=Lib.hid hall
  clear hall
  by_cases hlt:k < len
  ·obtain⟨ad,rfl,hcell⟩:=S0.out.at_ hlt
   obtain⟨l,hl⟩:∃l,L[k]?=some l:=⟨L[k]'(by have:=RL.out;omega),List.getElem?_eq_getElem _⟩
   have hm:=List.mem_of_getElem? hl
   have P1:=HP.out l hm
   have Q1:=Lib.hid (HQ.out l hm)
   have HL:=Lib.hid hl
   have HM:=Lib.hid hm
   obtain⟨B,n,d,rows⟩:=l
   have hc:wr.cell? (ad.add k)=some (.slice B n d):=by rw[hcell,List.getElem?_map,hl];rfl
   have hn:n≤1000000:=P1.few
   have P2:=Lib.hid (show Sl wr B n (rows.map rwv) from P1.row)
   have PL:=Lib.hid (show rows.length=n from P1.len.symm)
   clear hcell hl hm P1
   go_wp2_with fail
   go_loopw [3,16] (fun a i w2=>DiRel rows n wr a i w2) (fun _ i _=>n - (intOf i).toNat)
   case atStart=>exact⟨rfl,0,Nat.zero_le _,rfl,fun y hy=>by simp at hy,rfl⟩
   case round =>
    obtain⟨rfl,j,hj,rfl,hin,rfl⟩:=hrel
    have HI:=Lib.hid hin
    clear hin
    by_cases hlt2:j < n
    ·obtain⟨ae,rfl,hcell⟩:=P2.out.at_ hlt2
     obtain⟨r,hr⟩:∃r,rows[j]?=some r:=⟨rows[j]'(by have:=PL.out;omega),List.getElem?_eq_getElem _⟩
     have hm2:=List.mem_of_getElem? hr
     have hmax:=Q1.out r hm2
     have HR:=Lib.hid hr
     have HM2:=Lib.hid hm2
     obtain⟨C,m,f,s⟩:=r
     have hc2:wr.cell? (ae.add j)=some (.slice C m f):=by rw[hcell,List.getElem?_map,hr];rfl
     clear hcell hr hm2
     change m≤1099511627776 at hmax
     by_cases h32:m=32
     ·have HT:=Lib.hid (take_all (p:=fun y=>y.2.1=32) HI.out HR.out h32)
      go_wp2_with fail
      exact⟨⟨rfl,j+1,by omega,by go_num,HT.out,rfl⟩,by simp[intOf];omega⟩
     ·have HN:=Lib.hid (show allAll L=false from allAll_no HM.out (all32_no HM2.out h32))
      go_wp2_with fail
      try rw[Exit.noGoto_ret]
      go_ret
      exact⟨by rw[HN.out];rfl,rfl⟩
    ·obtain rfl:j=n:=by omega
     have HT:=Lib.hid (take_all (p:=fun y=>all32 y.2.2.2=true) HA.out HL.out (by
      have h1:=HI.out
      rw[List.take_of_length_le (by rw[PL.out];exact Nat.le_refl _)] at h1
      unfold all32
      rw[List.all_eq_true]
      intro x hx
      exact decide_eq_true (h1 x hx)))
     go_wp2_with fail
     exact⟨⟨rfl,k+1,by omega,by go_num,HT.out,rfl⟩,by simp[intOf];omega⟩
  ·obtain rfl:k=len:=by omega
   have HN:=Lib.hid (show allAll L=true by
    have h1:=HA.out
    rw[List.take_of_length_le (by rw[RL.out];exact Nat.le_refl _)] at h1
    unfold allAll
    rw[List.all_eq_true]
    exact h1)
   go_wp2_with fail
   try rw[Exit.noGoto_ret]
   go_ret
   exact⟨by rw[HN.out];rfl,rfl⟩
end Go.Proofs.YtnnfpmebopgogaaDoor.Mk
