/- Joined texts. -/
import Derived.Test.YteblmphohhbgcaaQaMtA
import Derived.Test.YteblmphohhbgcaaQaWrBackP
set_option linter.unusedVariables false
namespace Go.Proofs.Yteblmphohhbgcaa.Mt
open Go.RowKit Go.Proofs.Yteblmphohhbgcaa.Gn Go.Proofs.Yteblmphohhbgcaa.Fd Go.Proofs.Yteblmphohhbgcaa.Wr Go.Deep
structure Pr (w:World) (g q:Nat) (wr wh:Bool) (ks:List Tv):Prop where
 bl:Bl w g 94 #[.pointer (some ⟨q,0,none⟩),.slice none 0 0,.bool wr]
 fl:Fl w q wh ks
 ne:g≠q
theorem parts_pl{q:Nat}{wr:Bool}:∀(i:Nat) v,(#[.pointer (some ⟨q,0,none⟩),.slice none 0 0,.bool wr]:Array Value)[i]?=some v→pl v=true:=by
 intro i v h
 rcases i with _|_|_|i
 ·cases h;rfl
 ·cases h;rfl
 ·cases h;rfl
 ·simp at h
theorem fields_pl{A:Option Addr}{n c:Nat}{wh:Bool}:∀(i:Nat) v,(#[.bool wh,.slice A n c]:Array Value)[i]?=some v→pl v=true:=by
 intro i v h
 rcases i with _|_|i
 ·cases h;rfl
 ·cases h;rfl
 ·simp at h
theorem Pr.png{w:World}{g q:Nat}{wr wh:Bool}{ks:List Tv}(h:Pr w g q wr wh ks):Pn w g:=Pn.of h.bl parts_pl
theorem fl_pn{w:World}{q:Nat}{wh:Bool}{ks:List Tv}(h:Fl w q wh ks):Pn w q:=by
 obtain⟨⟨A,c,h1,-⟩,-, -⟩:=h
 exact Pn.of h1 fields_pl
theorem Pr.touch{S:Nat→Prop}{w w':World}{g q:Nat}{wr wh:Bool}{ks:List Tv}(h:Pr w g q wr wh ks)(hc:Tc S w w')(hS:∀k,S k→Pn w k)(hg:¬S g)(hq:¬S q):Pr w' g q wr wh ks :=
 ⟨hc.bl h.bl hg,fl_touch h.fl hc hS hq,h.ne⟩
set_option maxHeartbeats 4000000 in
theorem right_r{w:World}{g q:Nat}{wr wh:Bool}{ks:List Tv}(h:Pr w g q wr wh ks):Calls Try.prog 42 #[.pointer (some ⟨g,0,none⟩)] w fun e w'=>e=.returned (.bool (!wr && (wh && decide (ks.length=0))))∧w=w':=by
 have CR:=Lib.hid (reads_yes h.bl)
 have CD:=Lib.hid (Done_any_ h.fl)
 have r0:w.cell? ⟨g,0,none⟩=some (.pointer (some ⟨q,0,none⟩)):=h.bl.cell_ rfl
 have r2:w.cell? ⟨g,2,none⟩=some (.bool wr):=h.bl.cell_ rfl
 obtain⟨D,hD⟩:∃D,(wh && decide (ks.length=0))=D:=⟨_,rfl⟩
 rw[hD] at CD ⊢
 clear hD h
 cases wr <;> cases D <;>
 ·go_enter Try.func42,Try.ntmps42
  go_wp2_with (first
   |(go_at_call 65;(refine CR.out.mono ?_);rintro e w1 ⟨rfl,rfl⟩)
   |(go_at_call 66;(refine CD.out.mono ?_);rintro e w1 ⟨rfl,rfl⟩))
  go_ret
  exact⟨rfl,rfl⟩
set_option maxHeartbeats 4000000 in
theorem end_r{w:World}{g q g2 q2:Nat}{wr wh wr2 wh2:Bool}{ks us:List Tv}(h:Pr w g q wr wh ks)(h2:Pr w g2 q2 wr2 wh2 us):Calls Try.prog 70 #[.pointer (some ⟨g,0,none⟩),.pointer (some ⟨g2,0,none⟩)] w fun e w'=>e=.returned (.tuple #[])∧Pr w' g q (wr || !(!wr2 && (wh2 && decide (us.length=0)))) wh ks∧w.grownBy w' (some g):=by
 have CR:=Lib.hid (right_r h2)
 obtain⟨D,hD⟩:∃D,(!wr2 && (wh2 && decide (us.length=0)))=D:=⟨_,rfl⟩
 rw[hD] at CR ⊢
 clear hD h2
 have CM:=Lib.hid (must_any h.bl D)
 have H:=Lib.hid h
 clear h
 go_enter Try.func70,Try.ntmps70
 go_wp2_with (first
  |(go_at_call 42;(refine CR.out.mono ?_);rintro e w1 ⟨rfl,rfl⟩)
  |(go_at_call 69;(refine CM.out.mono ?_);rintro e w1 ⟨rfl,h1,h2⟩;have B1:=Lib.hid h1;have G1:=Lib.hid h2;have CS:=Lib.hid (reads_yes h1);clear h1 h2)
  |(go_at_call 65;(refine CS.out.mono ?_);rintro e w2 ⟨rfl,rfl⟩))
 first|go_end0|refine bodyPost_ret (results_none rfl _ _ _) rfl ?_
 exact⟨rfl,⟨B1.out,fl_touch H.out.fl (Tc.grown G1.out) (fun k e=>e▸H.out.png) (fun e=>H.out.ne e.symm),H.out.ne⟩,G1.out⟩
theorem kids_sz(t:Tv):szs (kids t)≤sz t:=by obtain⟨k,n,r,A,c,ks⟩:=t;rw[sz];show szs ks≤1+r.2.1+szs ks;omega
theorem sz_list(A:Option Addr)(c:Nat)(us:List Tv):sz (.mk 3 0 (none,0,0,[]) A c us)=1+szs us:=by simp[sz]
theorem kids_ok{w:World}{t:Tv}(h:Ok w t):∀u∈kids t,Ok w u:=by
 cases h with
 |mk hn hr hs hm hc h0 hk=>exact hk
theorem us_sz{w w':World}{us vs:List Tv}(h:∀t∈us,Ok w t)(h':∀t∈vs,Ok w' t)(hn:nds us=nds vs)(hz:szs vs≤900000):szs us≤900000:=by
 have h1:=(nds_all us h).2.2.2
 have h2:=(nds_all vs h').2.2.2
 rw[hn] at h1
 omega
theorem us_sz2{w w':World}{A:Option Addr}{c:Nat}{us vs:List Tv}(h:Ok w (.mk 3 0 (none,0,0,[]) A c us))(h':∀t∈vs,Ok w' t)(hn:nds us=nds vs)(hz:szs vs≤900000):sz (.mk 3 0 (none,0,0,[]) A c us)≤1000000:=by
 have h1:=us_sz (kids_ok h) h' hn hz
 rw[sz_list]
 simp only[kids] at h1
 omega
theorem len_nds{a b:List Tv}(h:nds a=nds b):a.length=b.length:=by
 rw[nds_map,nds_map] at h
 have h:=congrArg List.length h
 rwa [List.length_map,List.length_map] at h
theorem nxt_kids{F:Tv→Bool}{k:Int}{wh:Bool}{ks:List Tv}{w:World}(h:∀t∈ks,Ok w t)(hz:∀t∈ks,sz t≤900000):(∀u∈kids (nxt F k wh ks).1,Ok w u)∧szs (kids (nxt F k wh ks).1)≤900000:=by
 rcases nxt_is F k wh ks with⟨h1,-⟩|⟨t,ts,rfl,-, -, h1⟩
 ·rw[h1];exact⟨fun u hu=>(List.not_mem_nil hu).elim,by decide⟩
 ·rw[h1];exact⟨kids_ok (h t List.mem_cons_self),Nat.le_trans (kids_sz t) (hz t List.mem_cons_self)⟩
set_option maxHeartbeats 4000000 in
theorem open_r{w:World}{g q:Nat}{wr wh:Bool}{ks:List Tv}(h:Pr w g q wr wh ks)(hz:∀t∈ks,sz t≤900000):Calls Try.prog 68 #[.pointer (some ⟨g,0,none⟩)] w fun e w'=>∃g2 q2 us,e=.returned (.tuple #[.pointer (some ⟨g2,0,none⟩),.int .i64 (us.length:Int)])∧nds us=nds (kids (nxt (FL 0 9223372036854775807) 3 wh ks).1)∧Pr w' g2 q2 false true us∧Pr w' g q wr (nxt (FL 0 9223372036854775807) 3 wh ks).2.1 (nxt (FL 0 9223372036854775807) 3 wh ks).2.2∧w.heap.size≤g2∧w.heap.size≤q2∧w.grownBy w' (some q):=by
 have CR:=Lib.hid (reads_yes h.bl)
 have CL:=Lib.hid (List_any_ h.fl (fun t ht=>Nat.le_trans (hz t ht) (by decide)) 0 9223372036854775807)
 have r0:w.cell? ⟨g,0,none⟩=some (.pointer (some ⟨q,0,none⟩)):=h.bl.cell_ rfl
 have KZ:=Lib.hid (nxt_kids (F:=FL 0 9223372036854775807) (k:=3) (wh:=wh) h.fl.ok hz)
 have H:=Lib.hid h
 obtain⟨X,hX⟩:∃X,nxt (FL 0 9223372036854775807) 3 wh ks=X:=⟨_,rfl⟩
 rw[hX] at CL KZ ⊢
 clear hX h hz
 go_enter Try.func68,Try.ntmps68
 go_wp2_with (first
  |(go_at_call 65;(refine CR.out.mono ?_);rintro e w1 ⟨rfl,rfl⟩)
  |(go_at_call 82;(refine CL.out.mono ?_);rintro e w1 ⟨⟨us,A,c,rfl,hn,hs,h0,hc,hk⟩,hl⟩;have L1:=Lib.hid hl;have N1:=Lib.hid hn;have hsz:=us_sz hk KZ.out.1 hn KZ.out.2;have C2:=Lib.hid (List_any hs hc h0 hk hsz w1 (Below.refl _ _));have Z1:=Lib.hid (And.intro hk hsz);clear hl hn hs h0 hc hk hsz)
  |(go_at_call 34;(refine C2.out.mono ?_);rintro e w2 ⟨us2,A2,c2,⟨rfl,hok,hb⟩,hn2,-⟩;have B2:=Lib.hid hb;have N2:=Lib.hid hn2;have hsz:=us_sz2 hok Z1.out.1 hn2 Z1.out.2;have C3:=Lib.hid (Open_list hok hsz w2 (Below.refl _ _));simp only[Tv.val,Tv.row];clear hok hb hn2 hsz)
  |(go_at_call 50;(refine C3.out.mono ?_);rintro e w3 ⟨q2,us3,rfl,hn3,hf3,h1,h2,h3⟩;have N3:=Lib.hid hn3;have F3:=Lib.hid hf3;have Q3:=Lib.hid (And.intro h1 h2);have B3:=Lib.hid h3;clear hn3 hf3 h1 h2 h3))
 go_ret2
 have hb1:=below_one w3 (.cells #[.pointer (some ⟨q2,0,none⟩),.slice none 0 0,.bool false] 94)
 have hb:=B2.out.trans ((B3.out.trans (hb1.mono B3.out.size)).mono B2.out.size)
 have s1:=L1.out.grown.size
 have s2:=B2.out.size
 have s3:=B3.out.size
 obtain⟨q3,q4⟩:=Q3.out
 exact⟨w3.heap.size,q2,us3,by rw[len_nds (N3.out.trans N2.out)];rfl,N3.out.trans (N2.out.trans N1.out),⟨Bl.new_ w3 _ _,F3.out.below hb1,by omega⟩,⟨((H.out.bl.grown L1.out.grown (fun e=>H.out.ne (Option.some.inj e).symm)).below' hb),L1.out.fl.below hb,H.out.ne⟩,by omega,by omega,grown_more L1.out.grown hb⟩
end Go.Proofs.Yteblmphohhbgcaa.Mt
