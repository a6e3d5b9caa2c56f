/- Joined texts. -/
import Derived.Test.YtbgkdbjineennaaQcDkI
set_option linter.unusedVariables false
namespace Go.Proofs.Ytbgkdbjineennaa.Dk
open Go.IntWalk Go.RowKit Go.Proofs.Ytbgkdbjineennaa.Gn Go.Proofs.Ytbgkdbjineennaa.Fd Go.Deep
section
variable {g gb:Nat} {up:Bool} {st:Int} {cs:Bool} {cw:Int} {ch:Value} {w:World}
theorem sv_sl{sb:Nat}(h:Bl w sb 5 sv.toArray):Sl w (some ⟨sb,0,none⟩) 64 sv:=Sl.of_bl h 0 _ _ (by kernel_rfl) fun k v hk=>by rw[Nat.zero_add];simpa using hk
theorem write_first{sb:Nat}(h:DB w g gb 128 128 (.slice none 0 0) true st false cw ch)(hst:0≤st∧st < 1000)(hs:Bl w sb 5 sv.toArray) :
  Calls Try.prog 18 #[.pointer (some ⟨g,0,none⟩),.int .i64 0,.slice (some ⟨sb,0,none⟩) 64 64] w fun e w'=>e=.returned (.int .i64 0)∧∃gh cap cur,DB w' g gb 128 128 (.slice (some ⟨gh,0,none⟩) 1 cap) true (st+1) false cw ch∧w.heap.size≤gh∧Bl w' gh 67 cur∧1≤cap∧cap≤maxLen∧cur.size=cap*65∧cur.toList.take 65=(vw 0).toList∧Gx [g] w w':=by
 have hg:g < w.heap.size:=(Array.getElem?_eq_some_iff.1 h).1
 refine(Write_any h 0 (by decide) ⟨sb,0,none⟩ (sv_sl hs) w.heap.size (Nat.le_refl _) (World.ownsRow_nil _ _ _ _) (by simp[Value.ownBlock]) (fun k w'=>k=0∧∃gh cap cur,DB w' g gb 128 128 (.slice (some ⟨gh,0,none⟩) 1 cap) true (st+1) false cw ch∧w.heap.size≤gh∧Bl w' gh 67 cur∧1≤cap∧cap≤maxLen∧cur.size=cap*65∧cur.toList.take 65=(vw 0).toList∧Gx [g] w w') ?_).mono ?_
 ·intro w1 H' h1 h2 h3 h4
  obtain⟨gh,cap,cur,rfl,hb,hh,k1,k2,k3,k4⟩:=own_held h2
  refine(stroke_free h1 hst).mono ?_
  rintro e w' ⟨rfl,rfl⟩
  refine⟨0,rfl,rfl,gh,cap,cur,h1.set3 _,hb,hh.other (by show gh≠g;omega) _,k1,k2,k3,k4,?_⟩
  exact(h4.mono (by simp[Value.ownBlock])).set (by simp) _
 ·rintro e w' ⟨k,rfl,rfl,h1⟩
  exact⟨rfl,h1⟩
theorem write_second{sb gh cap q qc:Nat}{CS cur:Array Value}(h:DB w g gb 128 128 (.slice (some ⟨gh,0,none⟩) 0 cap) true st true 0 (.slice (some ⟨q,0,none⟩) 1 qc))(hst:0≤st∧st < 1000)(hs:Bl w sb 5 sv.toArray)(hr:Bl w gb 5 CS)(hCS:CS.size=128)(hh:Bl w gh 67 cur)(hcap:cap≤maxLen)(hcur:cur.size=cap*65)(hg1:g≠gb)(hg2:g≠gh)(hg3:gb≠gh)(hq:w.cell? ⟨q,0,none⟩=some (.bool true))(hqg:q≠g)(hqh:q≠gh)(hqc:1≤qc) :
  Calls Try.prog 18 #[.pointer (some ⟨g,0,none⟩),.int .i64 1,.slice (some ⟨sb,0,none⟩) 64 64] w fun e w'=>e=.returned (.int .i64 60)∧∃gh' cap',DB w' g gb 128 128 (.slice (some ⟨gh',0,none⟩) 0 cap') false (st+1) true 0 (.slice (some ⟨q,0,none⟩) 1 qc)∧Bl w' gb 5 (spl CS 64 sv)∧Gx [g,gb,gh] w w':=by
 have hg:g < w.heap.size:=(Array.getElem?_eq_some_iff.1 h).1
 have hgb:gb < w.heap.size:=(Array.getElem?_eq_some_iff.1 hr).1
 have hql:q < w.heap.size:=World.block_lt_of_cell? w _ hq
 refine(Write_any h 1 (by decide) ⟨sb,0,none⟩ (sv_sl hs) 0 (Nat.zero_le _) (own_empty (Nat.zero_le _) hh hcap hcur) (by simp[Value.ownBlock];exact Ne.symm hg2) (fun k w'=>k=60∧∃gh' cap',DB w' g gb 128 128 (.slice (some ⟨gh',0,none⟩) 0 cap') false (st+1) true 0 (.slice (some ⟨q,0,none⟩) 1 qc)∧Bl w' gb 5 (spl CS 64 sv)∧Gx [g,gb,gh] w w') ?_).mono ?_
 ·intro w1 H' h1 h2 h3 h4
  obtain⟨gh',cap',cur',rfl,hb,hh',k1,k2,k3,k4⟩:=own_held h2
  have e3:gh'=gh∨w.heap.size≤gh':=by
   rcases h3 with e|⟨r,e,hr2⟩
   ·left;simpa[Value.ownBlock] using e
   ·right;have:gh'=r:=by simpa[Value.ownBlock] using e
    omega
  have hx:g≠gh'∧gb≠gh':=by rcases e3 with rfl|e <;> constructor <;> first|assumption|omega
  have h4':Gx [g,gh] w w1:=h4.mono (by simp[Value.ownBlock])
  have hq1:w1.cell? ⟨q,0,none⟩=some (.bool true):=(World.cell?_of_block (w:=w) (h4'.block q hql (by simp[hqg,hqh]))).trans hq
  refine(stroke_cut gh' cap' 1 q qc CS cur' h1 hst (h4'.bl (by simp[Ne.symm hg1,hg3]) hr) hCS (by decide) hh' k1 k3 k4 hg1 hx.1 hx.2 hq1 hqg hqc).mono ?_
  rintro e w' ⟨rfl,c2,r1,r2,r3,r4,r5⟩
  refine⟨60,rfl,rfl,gh',cap',r1,r2,?_⟩
  refine⟨r5.os.trans h4'.os,r5.tape.trans h4'.tape,r5.output.trans h4'.output,Nat.le_trans h4'.size r5.size,fun k hk hn=>?_⟩
  simp only[List.mem_cons,List.mem_nil_iff,or_false,not_or] at hn
  have hkg:k≠gh':=by rcases e3 with rfl|e <;> omega
  exact(r5.block k (Nat.lt_of_lt_of_le hk h4'.size) (by simp[hn,hkg])).trans (h4'.block k hk (by simp[hn]))
 ·rintro e w' ⟨k,rfl,rfl,h1⟩
  exact⟨rfl,h1⟩
end
end Go.Proofs.Ytbgkdbjineennaa.Dk
