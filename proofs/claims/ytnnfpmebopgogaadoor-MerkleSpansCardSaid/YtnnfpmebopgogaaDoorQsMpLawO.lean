/- Joined texts. -/
import Derived.Test.YtnnfpmebopgogaaDoorQsMpProveB
import Derived.Test.YtnnfpmebopgogaaDoorQsMpSame
import Derived.Test.YtnnfpmebopgogaaDoorQsMkJ
import Derived.Test.YtnnfpmebopgogaaDoorQsMrProgC
set_option linter.unusedVariables false
namespace Go.Proofs.YtnnfpmebopgogaaDoor.Mk
open Go.RowKit Go.Proofs.YtnnfpmebopgogaaDoor.Gn Go.Proofs.YtnnfpmebopgogaaDoor.Fd Go.Deep
theorem bl_pc2{w:World}{A:Option Addr}{n c:Nat}{l:List Nat}(h:BL w A n c l):Pc w (A,n,c,l):=by
 obtain⟨h1,h2,h3,h4,h5⟩:=h
 have e:l.length=n:=by have:=h1.1;rwa [bl_length] at this
 exact⟨e.symm,by rw[show((A,n,c,l):Rw).2.2.2.length=n from e];exact h1,h3,by rw[show((A,n,c,l):Rw).2.2.2.length=n from e];exact h5,h4⟩
theorem At0.any{w:World}{us:List Rw}(h:∀r∈us,At0 w r):(∀r∈us,Pc w r∧r.2.1≤1500)∧all32 us=true:=by
 have e:∀r∈us,r.2.1=32:=fun r hr=>by
  obtain⟨hp,hl,-⟩:=h r hr
  rw[hp.len,hl]
 refine⟨fun r hr=>⟨(h r hr).1,by rw[e r hr];decide⟩,?_⟩
 unfold all32
 rw[List.all_eq_true]
 intro r hr
 exact decide_eq_true (e r hr)
end Go.Proofs.YtnnfpmebopgogaaDoor.Mk
namespace Go.Proofs.YtnnfpmebopgogaaDoor.Mk
open Go.RowKit Go.Proofs.YtnnfpmebopgogaaDoor.Gn Go.Proofs.YtnnfpmebopgogaaDoor.Fd Go.Deep
def LE(l:List (List Nat))(k:Int)(w:World)(e:Ending)(w':World):Prop:=∃A n cap us,e=.returned (.tuple #[.slice A n cap,.int .i64 k])∧Sl w' A n (us.map rwv)∧(∀r∈us,Pc w' r)∧con us=l∧Below w.heap.size w w'
theorem le_nil(k:Int){w w':World}(hb:Below w.heap.size w w'):LE [] k w (.returned (.tuple #[.slice none 0 0,.int .i64 k])) w':=⟨none,0,0,[],rfl,Sl.nil_ _ _,(fun r hr=>by cases hr),rfl,hb⟩
theorem badR_or(n f:Int)(nr ml:Nat)(Lv Q:List Rw):badR n f nr ml Lv Q∨(nr=32∧all32 Lv=true∧all32 Q=true∧1≤ml∧∃a b:Nat,n=a∧f=b∧a≤4096∧b+ml≤a):=by
 unfold badR
 by_cases h1:n < 1
 ·exact Or.inl (Or.inl h1)
 by_cases h2:(4096:Int) < n
 ·exact Or.inl (Or.inr (Or.inl h2))
 by_cases h3:ml=0
 ·exact Or.inl (Or.inr (Or.inr (Or.inl h3)))
 by_cases h4:f < 0
 ·exact Or.inl (Or.inr (Or.inr (Or.inr (Or.inl h4))))
 by_cases h5:n - (ml:Int) < f
 ·exact Or.inl (Or.inr (Or.inr (Or.inr (Or.inr (Or.inl h5)))))
 by_cases h6:nr=32
 ·cases h7:all32 Lv with
  |false=>exact Or.inl (Or.inr (Or.inr (Or.inr (Or.inr (Or.inr (Or.inr (Or.inl rfl)))))))
  |true =>
   cases h8:all32 Q with
   |false=>exact Or.inl (Or.inr (Or.inr (Or.inr (Or.inr (Or.inr (Or.inr (Or.inr rfl)))))))
   |true=>exact Or.inr ⟨h6,rfl,rfl,by omega,n.toNat,f.toNat,by omega,by omega,by omega,by omega⟩
 ·exact Or.inl (Or.inr (Or.inr (Or.inr (Or.inr (Or.inr (Or.inl h6))))))
end Go.Proofs.YtnnfpmebopgogaaDoor.Mk
namespace Go.Proofs.YtnnfpmebopgogaaDoor.Mk
open Go.RowKit Go.Proofs.YtnnfpmebopgogaaDoor.Gn Go.Proofs.YtnnfpmebopgogaaDoor.Fd Go.Deep
theorem txt_ne{l k:List Nat}(hl:∀x∈l,x < 256)(hk:∀x∈k,x < 256)(h:l≠k):(txt l).toList≠(txt k).toList:=fun e=>h (txt_inj hl hk (by rw[ByteArray.toList_eq,ByteArray.toList_eq] at e;exact Go.WideShapes.bytes_inj e))
def SdRel(m:Nat)(w:World)(xs ys:List (List Nat))(i:Value)(wr:World):Prop:=∃k,k≤m∧i=.int .i64 (k:Int)∧xs.take k=ys.take k∧Qt w wr
theorem take_next{α:Type}{xs ys:List α}{k:Nat}{a b:α}(h:xs.take k=ys.take k)(hx:xs[k]?=some a)(hy:ys[k]?=some b):xs.take (k+1)=ys.take (k+1)↔a=b:=by
 rw[List.take_add_one,List.take_add_one,h,hx,hy]
 simp
set_option maxRecDepth 100000 in
set_option maxHeartbeats 4000000 in
theorem Same_dec{A B:Option Addr}{m n c d:Nat}{xs ys:List Rw}{w:World}(hm:m≤1000000)(hx:Sl w A m (xs.map rwv))(hy:Sl w B n (ys.map rwv))(hxp:∀r∈xs,Pc w r)(hyp:∀r∈ys,Pc w r) :
  Calls Tryd.prog 18 #[.slice A m c,.slice B n d] w fun e w'=>e=.returned (.bool (decide (con xs=con ys)))∧Qt w w':=by
 have hxl:xs.length=m:=by have:=hx.1;rwa [List.length_map] at this
 have hyl:ys.length=n:=by have:=hy.1;rwa [List.length_map] at this
 obtain⟨b,hb⟩:∃b,b=decide (con xs=con ys):=⟨_,rfl⟩
 rw[←hb]
 have HBB:=Lib.hid hb
 clear hb
 by_cases hmn:m=n
 ·subst hmn
  have SX:=Lib.hid hx
  have SY:=Lib.hid hy
  have PX:=Lib.hid hxp
  have PY:=Lib.hid hyp
  have LX:=Lib.hid hxl
  have LY:=Lib.hid hyl
  clear hx hy hxp hyp hxl hyl
  go_enter Tryd.func18,Tryd.ntmps18
  go_wp2_with fail
  go_loopw [5] (fun i wr=>SdRel m w (con xs) (con ys) i wr) (fun i _=>m - (intOf i).toNat)
  case atStart=>exact⟨0,Nat.zero_le _,rfl,rfl,Qt.refl _⟩
  case round =>
   obtain⟨k,hk,rfl,htk,hq⟩:=hrel
   by_cases hlt:k < m
   ·obtain⟨ax,rfl,hcx⟩:=SX.out.at_ hlt
    obtain⟨ay,rfl,hcy⟩:=SY.out.at_ hlt
    obtain⟨x,hx⟩:∃x,xs[k]?=some x:=⟨xs[k]'(by have:=LX.out;omega),List.getElem?_eq_getElem _⟩
    obtain⟨y,hy⟩:∃y,ys[k]?=some y:=⟨ys[k]'(by have:=LY.out;omega),List.getElem?_eq_getElem _⟩
    have hpx:=(PX.out x (List.mem_of_getElem? hx)).below hq.below
    have hpy:=(PY.out y (List.mem_of_getElem? hy)).below hq.below
    have hn:=take_next htk (show(con xs)[k]?=some x.2.2.2 by simp[con,hx]) (show(con ys)[k]?=some y.2.2.2 by simp[con,hy])
    obtain⟨A1,n1,c1,l1⟩:=x
    obtain⟨A2,n2,c2,l2⟩:=y
    have hn:(con xs).take (k+1)=(con ys).take (k+1)↔l1=l2:=hn
    have hc1:wr.cell? (ax.add k)=some (.slice A1 n1 c1):=(hq.below.cell (cell_lt (by rw[hcx,List.getElem?_map,hx];rfl))).trans (by rw[hcx,List.getElem?_map,hx];rfl)
    have hc2:wr.cell? (ay.add k)=some (.slice A2 n2 c2):=(hq.below.cell (cell_lt (by rw[hcy,List.getElem?_map,hy];rfl))).trans (by rw[hcy,List.getElem?_map,hy];rfl)
    have e1:l1.length=n1:=hpx.len.symm
    have e2:l2.length=n2:=hpy.len.symm
    have r1:=fun n=>run_txt (P:=Tryd.prog) (wr.drewN n) 22 9 5 Tryd.underlying22 Tryd.underlying5 Tryd.underlying9 A1 n1 c1 l1 (by have:=hpx.row;rw[show((A1,n1,c1,l1):Rw).2.2.2.length=n1 from e1] at this;exact this.drewN n)
    have r2:=fun n=>run_txt (P:=Tryd.prog) (wr.drewN n) 22 9 5 Tryd.underlying22 Tryd.underlying5 Tryd.underlying9 A2 n2 c2 l2 (by have:=hpy.row;rw[show((A2,n2,c2,l2):Rw).2.2.2.length=n2 from e2] at this;exact this.drewN n)
    have hne:=txt_ne (l:=l1) (k:=l2) hpx.lt hpy.lt
    have HQ:=Lib.hid hq
    by_cases hll:l1=l2
    ·subst hll
     have HN:=Lib.hid (hn.2 rfl)
     obtain⟨s,hs⟩:∃s,txt l1=s:=⟨_,rfl⟩
     rw[hs] at r1 r2
     clear hcx hcy hx hy hpx hpy e1 e2 hs hq hne hn htk
     go_wp2_with fail
     go_quiet (fail)
     go_wp2_with fail
     exact⟨⟨k+1,by omega,by go_num,HN.out,HQ.out.more nq⟩,by simp[intOf];omega⟩
    ·have HF:=Lib.hid (show con xs≠con ys from fun e=>hll (hn.1 (by rw[e])))
     have hne:=hne hll
     obtain⟨s,hs⟩:∃s,txt l1=s:=⟨_,rfl⟩
     obtain⟨t,ht⟩:∃t,txt l2=t:=⟨_,rfl⟩
     rw[hs] at r1 hne
     rw[ht] at r2 hne
     have t1:(s.toList != t.toList)=true:=by rw[bne_iff_ne];exact hne
     have t2:(s.toList == t.toList)=false:=by rw[beq_eq_false_iff_ne];exact hne
     clear hcx hcy hx hy hpx hpy e1 e2 hs ht hq hne hn htk hll
     go_wp2_with fail
     go_quiet (fail)
     go_wp2_with fail
     go_ret
     exact⟨by rw[HBB.out,decide_eq_false HF.out];rfl,HQ.out.more nq⟩
   ·have HQ:=Lib.hid hq
    obtain rfl:k=m:=by omega
    have HT:=Lib.hid (show con xs=con ys from by
     have h1:=htk
     rwa [List.take_of_length_le (by rw[con_len,LX.out];exact Nat.le_refl _),List.take_of_length_le (by rw[con_len,LY.out];exact Nat.le_refl _)] at h1)
    clear hq htk
    go_wp2_with fail
    go_ret
    exact⟨by rw[HBB.out,decide_eq_true HT.out];rfl,HQ.out⟩
 ·have HF:=Lib.hid (show con xs≠con ys from fun e=>hmn (by rw[←hxl,←hyl,←con_len,←con_len,e]))
  have t1:((m:Int) != (n:Int))=true:=by rw[bne_iff_ne];omega
  clear hx hy hxp hyp hxl hyl
  go_enter Tryd.func18,Tryd.ntmps18
  go_wp2_with fail
  go_ret
  exact⟨by rw[HBB.out,decide_eq_false HF.out];rfl,Qt.refl _⟩
end Go.Proofs.YtnnfpmebopgogaaDoor.Mk
