/- Joined texts. -/
import Derived.Test.YteblmphohhbgcaaGreatQmMtA
import Derived.Test.YteblmphohhbgcaaGreatQmWrDeepB
set_option linter.unusedVariables false
namespace Go.Proofs.YteblmphohhbgcaaGreat.Mt
open Go.RowKit Go.Proofs.YteblmphohhbgcaaGreat.Gn Go.Proofs.YteblmphohhbgcaaGreat.Fd Go.Proofs.YteblmphohhbgcaaGreat.Wr Go.Deep
structure Pr (w:World) (g q:Nat) (wr wh:Bool) (ks:List Tv):Prop where
 bl:Bl w g 116 #[.pointer (some ⟨q,0,none⟩),.slice none 0 0,.bool wr]
 fl:Fl w q wh ks
 ne:g≠q
theorem parts_pl{q:Nat}{wr:Bool}:∀(i:Nat) v,(#[.pointer (some ⟨q,0,none⟩),.slice none 0 0,.bool wr]:Array Value)[i]?=some v→pl v=true:=by
 intro i v h
 rcases i with _|_|_|i
 ·cases h;rfl
 ·cases h;rfl
 ·cases h;rfl
 ·simp at h
theorem fields_pl{A:Option Addr}{n c:Nat}{wh:Bool}:∀(i:Nat) v,(#[.bool wh,.slice A n c]:Array Value)[i]?=some v→pl v=true:=by
 intro i v h
 rcases i with _|_|i
 ·cases h;rfl
 ·cases h;rfl
 ·simp at h
theorem Pr.png{w:World}{g q:Nat}{wr wh:Bool}{ks:List Tv}(h:Pr w g q wr wh ks):Pn w g:=Pn.of h.bl parts_pl
theorem fl_pn{w:World}{q:Nat}{wh:Bool}{ks:List Tv}(h:Fl w q wh ks):Pn w q:=by
 obtain⟨⟨A,c,h1,-⟩,-, -⟩:=h
 exact Pn.of h1 fields_pl
theorem Pr.touch{S:Nat→Prop}{w w':World}{g q:Nat}{wr wh:Bool}{ks:List Tv}(h:Pr w g q wr wh ks)(hc:Tc S w w')(hS:∀k,S k→Pn w k)(hg:¬S g)(hq:¬S q):Pr w' g q wr wh ks :=
 ⟨hc.bl h.bl hg,fl_touch h.fl hc hS hq,h.ne⟩
set_option maxHeartbeats 4000000 in
theorem right_r{w:World}{g q:Nat}{wr wh:Bool}{ks:List Tv}(h:Pr w g q wr wh ks):Calls Tryz.prog 65 #[.pointer (some ⟨g,0,none⟩)] w fun e w'=>e=.returned (.bool (!wr && (wh && decide (ks.length=0))))∧w=w':=by
 have CR:=Lib.hid (reads_yes h.bl)
 have CD:=Lib.hid (Done_any_ h.fl)
 have r0:w.cell? ⟨g,0,none⟩=some (.pointer (some ⟨q,0,none⟩)):=h.bl.cell_ rfl
 have r2:w.cell? ⟨g,2,none⟩=some (.bool wr):=h.bl.cell_ rfl
 obtain⟨D,hD⟩:∃D,(wh && decide (ks.length=0))=D:=⟨_,rfl⟩
 rw[hD] at CD ⊢
 clear hD h
 cases wr <;> cases D <;>
 ·go_enter Tryz.func65,Tryz.ntmps65
  go_wp2_with (first
   |(go_at_call 91;(refine CR.out.mono ?_);rintro e w1 ⟨rfl,rfl⟩)
   |(go_at_call 92;(refine CD.out.mono ?_);rintro e w1 ⟨rfl,rfl⟩))
  go_ret
  exact⟨rfl,rfl⟩
set_option maxHeartbeats 4000000 in
theorem end_r{w:World}{g q g2 q2:Nat}{wr wh wr2 wh2:Bool}{ks us:List Tv}(h:Pr w g q wr wh ks)(h2:Pr w g2 q2 wr2 wh2 us):Calls Tryz.prog 101 #[.pointer (some ⟨g,0,none⟩),.pointer (some ⟨g2,0,none⟩)] w fun e w'=>e=.returned (.tuple #[])∧Pr w' g q (wr || !(!wr2 && (wh2 && decide (us.length=0)))) wh ks∧w.grownBy w' (some g):=by
 have CR:=Lib.hid (right_r h2)
 obtain⟨D,hD⟩:∃D,(!wr2 && (wh2 && decide (us.length=0)))=D:=⟨_,rfl⟩
 rw[hD] at CR ⊢
 clear hD h2
 have CM:=Lib.hid (must_any h.bl D)
 have H:=Lib.hid h
 clear h
 go_enter Tryz.func101,Tryz.ntmps101
 go_wp2_with (first
  |(go_at_call 65;(refine CR.out.mono ?_);rintro e w1 ⟨rfl,rfl⟩)
  |(go_at_call 100;(refine CM.out.mono ?_);rintro e w1 ⟨rfl,h1,h2⟩;have B1:=Lib.hid h1;have G1:=Lib.hid h2;have CS:=Lib.hid (reads_yes h1);clear h1 h2)
  |(go_at_call 91;(refine CS.out.mono ?_);rintro e w2 ⟨rfl,rfl⟩))
 first|go_end0|refine bodyPost_ret (results_none rfl _ _ _) rfl ?_
 exact⟨rfl,⟨B1.out,fl_touch H.out.fl (Tc.grown G1.out) (fun k e=>e▸H.out.png) (fun e=>H.out.ne e.symm),H.out.ne⟩,G1.out⟩
theorem kids_sz(t:Tv):szs (kids t)≤sz t:=by obtain⟨k,n,r,A,c,ks⟩:=t;rw[sz];show szs ks≤1+r.2.1+szs ks;omega
theorem sz_list(A:Option Addr)(c:Nat)(us:List Tv):sz (.mk 3 0 (none,0,0,[]) A c us)=1+szs us:=by simp[sz]
theorem kids_ok{w:World}{t:Tv}(h:Ok w t):∀u∈kids t,Ok w u:=by
 cases h with
 |mk hn hr hs hm hc h0 hk=>exact hk
theorem us_sz{w w':World}{us vs:List Tv}(h:∀t∈us,Ok w t)(h':∀t∈vs,Ok w' t)(hn:nds us=nds vs)(hz:szs vs≤900000):szs us≤900000:=by
 have h1:=(nds_all us h).2.2.2
 have h2:=(nds_all vs h').2.2.2
 rw[hn] at h1
 omega
theorem us_sz2{w w':World}{A:Option Addr}{c:Nat}{us vs:List Tv}(h:Ok w (.mk 3 0 (none,0,0,[]) A c us))(h':∀t∈vs,Ok w' t)(hn:nds us=nds vs)(hz:szs vs≤900000):sz (.mk 3 0 (none,0,0,[]) A c us)≤1000000:=by
 have h1:=us_sz (kids_ok h) h' hn hz
 rw[sz_list]
 simp only[kids] at h1
 omega
theorem len_nds{a b:List Tv}(h:nds a=nds b):a.length=b.length:=by
 rw[nds_map,nds_map] at h
 have h:=congrArg List.length h
 rwa [List.length_map,List.length_map] at h
theorem nxt_kids{F:Tv→Bool}{k:Int}{wh:Bool}{ks:List Tv}{w:World}(h:∀t∈ks,Ok w t)(hz:∀t∈ks,sz t≤900000):(∀u∈kids (nxt F k wh ks).1,Ok w u)∧szs (kids (nxt F k wh ks).1)≤900000:=by
 rcases nxt_is F k wh ks with⟨h1,-⟩|⟨t,ts,rfl,-, -, h1⟩
 ·rw[h1];exact⟨fun u hu=>(List.not_mem_nil hu).elim,by decide⟩
 ·rw[h1];exact⟨kids_ok (h t List.mem_cons_self),Nat.le_trans (kids_sz t) (hz t List.mem_cons_self)⟩
set_option maxHeartbeats 4000000 in
theorem open_r{w:World}{g q:Nat}{wr wh:Bool}{ks:List Tv}(h:Pr w g q wr wh ks)(hz:∀t∈ks,sz t≤900000):Calls Tryz.prog 99 #[.pointer (some ⟨g,0,none⟩)] w fun e w'=>∃g2 q2 us,e=.returned (.tuple #[.pointer (some ⟨g2,0,none⟩),.int .i64 (us.length:Int)])∧nds us=nds (kids (nxt (FL 0 9223372036854775807) 3 wh ks).1)∧Pr w' g2 q2 false true us∧Pr w' g q wr (nxt (FL 0 9223372036854775807) 3 wh ks).2.1 (nxt (FL 0 9223372036854775807) 3 wh ks).2.2∧w.heap.size≤g2∧w.heap.size≤q2∧w.grownBy w' (some q):=by
 have CR:=Lib.hid (reads_yes h.bl)
 have CL:=Lib.hid (List_any_ h.fl (fun t ht=>Nat.le_trans (hz t ht) (by decide)) 0 9223372036854775807)
 have r0:w.cell? ⟨g,0,none⟩=some (.pointer (some ⟨q,0,none⟩)):=h.bl.cell_ rfl
 have KZ:=Lib.hid (nxt_kids (F:=FL 0 9223372036854775807) (k:=3) (wh:=wh) h.fl.ok hz)
 have H:=Lib.hid h
 obtain⟨X,hX⟩:∃X,nxt (FL 0 9223372036854775807) 3 wh ks=X:=⟨_,rfl⟩
 rw[hX] at CL KZ ⊢
 clear hX h hz
 go_enter Tryz.func99,Tryz.ntmps99
 go_wp2_with (first
  |(go_at_call 91;(refine CR.out.mono ?_);rintro e w1 ⟨rfl,rfl⟩)
  |(go_at_call 122;(refine CL.out.mono ?_);rintro e w1 ⟨⟨us,A,c,rfl,hn,hs,h0,hc,hk⟩,hl⟩;have L1:=Lib.hid hl;have N1:=Lib.hid hn;have hsz:=us_sz hk KZ.out.1 hn KZ.out.2;have C2:=Lib.hid (List_any hs hc h0 hk hsz w1 (Below.refl _ _));have Z1:=Lib.hid (And.intro hk hsz);clear hl hn hs h0 hc hk hsz)
  |(go_at_call 67;(refine C2.out.mono ?_);rintro e w2 ⟨us2,A2,c2,⟨rfl,hok,hb⟩,hn2,-⟩;have B2:=Lib.hid hb;have N2:=Lib.hid hn2;have hsz:=us_sz2 hok Z1.out.1 hn2 Z1.out.2;have C3:=Lib.hid (Open_list hok hsz w2 (Below.refl _ _));simp only[Tv.val,Tv.row];clear hok hb hn2 hsz)
  |(go_at_call 80;(refine C3.out.mono ?_);rintro e w3 ⟨q2,us3,rfl,hn3,hf3,h1,h2,h3⟩;have N3:=Lib.hid hn3;have F3:=Lib.hid hf3;have Q3:=Lib.hid (And.intro h1 h2);have B3:=Lib.hid h3;clear hn3 hf3 h1 h2 h3))
 go_ret2
 have hb1:=below_one w3 (.cells #[.pointer (some ⟨q2,0,none⟩),.slice none 0 0,.bool false] 116)
 have hb:=B2.out.trans ((B3.out.trans (hb1.mono B3.out.size)).mono B2.out.size)
 have s1:=L1.out.grown.size
 have s2:=B2.out.size
 have s3:=B3.out.size
 obtain⟨q3,q4⟩:=Q3.out
 exact⟨w3.heap.size,q2,us3,by rw[len_nds (N3.out.trans N2.out)];rfl,N3.out.trans (N2.out.trans N1.out),⟨Bl.new_ w3 _ _,F3.out.below hb1,by omega⟩,⟨((H.out.bl.grown L1.out.grown (fun e=>H.out.ne (Option.some.inj e).symm)).below' hb),L1.out.fl.below hb,H.out.ne⟩,by omega,by omega,grown_more L1.out.grown hb⟩
end Go.Proofs.YteblmphohhbgcaaGreat.Mt
namespace Go.Proofs.YteblmphohhbgcaaGreat.Mt
open Go.RowKit Go.Proofs.YteblmphohhbgcaaGreat.Gn Go.Proofs.YteblmphohhbgcaaGreat.Fd Go.Proofs.YteblmphohhbgcaaGreat.Wr Go.Deep
theorem nxt_rest{F:Tv→Bool}{k:Int}{wh:Bool}{ks:List Tv}(hz:∀t∈ks,sz t≤900000):∀t∈(nxt F k wh ks).2.2,sz t≤900000:=by
 rcases nxt_is F k wh ks with⟨-, h1⟩|⟨t,ts,rfl,-, -, h1⟩
 ·rw[h1];exact fun u hu=>(List.not_mem_nil hu).elim
 ·rw[h1];exact fun u hu=>hz u (List.mem_cons_of_mem _ hu)
structure Ps (w:World) (g q:Nat) (wr wh:Bool) (ks:List Tv) (bb:Nat) (t:TypeId) (cs:Array Value):Prop where
 pr:Pr w g q wr wh ks
 bx:Bx w bb t cs
 sz:∀t∈ks,sz t≤900000
 nq:bb≠q
 ng:bb≠g
theorem ps_gt{w w':World}{g q:Nat}{wr wh wh':Bool}{ks us:List Tv}{bb o:Nat}{t:TypeId}{cs:Array Value}{v:Value}(h:Ps w g q wr wh ks bb t cs)(hs:∀t∈us,Wr.sz t≤900000)(hg:Gt w q bb o t cs v wh' us w'):Ps w' g q wr wh' us bb t (cs.setIfInBounds o v) :=
 ⟨⟨hg.tc.bl h.pr.bl (fun e=>by
  rcases e with e|e
  ·exact h.pr.ne e
  ·exact h.ng e.symm),hg.fl,h.pr.ne⟩,hg.bx,hs,h.nq,h.ng⟩
abbrev Tq(q bb:Nat)(w w':World):Prop:=Tc (fun k=>k=q∨k=bb) w w'
theorem number_p{w:World}{g q:Nat}{wr wh:Bool}{ks:List Tv}{bb o:Nat}{t:TypeId}{cs:Array Value}{v0:Value}(h:Ps w g q wr wh ks bb t cs)(ho:cs[o]?=some v0)(x y:Int):Calls Tryz.prog 84 #[.pointer (some ⟨g,0,none⟩),.pointer (some ⟨bb,o,none⟩),.int .i64 x,.int .i64 y] w fun e w'=>e=.returned (.tuple #[])∧Ps w' g q wr (nxt (FI x y) 1 wh ks).2.1 (nxt (FI x y) 1 wh ks).2.2 bb t (cs.setIfInBounds o (.int .i64 (nm (nxt (FI x y) 1 wh ks).1:Int)))∧Tq q bb w w':=by
 refine(number_r h.pr.bl h.pr.fl (fun t ht=>Nat.le_trans (h.sz t ht) (by decide)) h.bx ho h.nq x y).mono ?_
 rintro e w' ⟨rfl,hg⟩
 exact⟨rfl,ps_gt h (nxt_rest h.sz) hg,hg.tc⟩
theorem bytes_p{w:World}{g q:Nat}{wr wh:Bool}{ks:List Tv}{bb o:Nat}{t:TypeId}{cs:Array Value}{v0:Value}(h:Ps w g q wr wh ks bb t cs)(ho:cs[o]?=some v0)(x y:Int):Calls Tryz.prog 85 #[.pointer (some ⟨g,0,none⟩),.pointer (some ⟨bb,o,none⟩),.int .i64 x,.int .i64 y] w fun e w'=>e=.returned (.tuple #[])∧∃A c,Ps w' g q wr (nxt (FB x y) 2 wh ks).2.1 (nxt (FB x y) 2 wh ks).2.2 bb t (cs.setIfInBounds o (.slice A (rw_ (nxt (FB x y) 2 wh ks).1).2.1 c))∧Pc w' (A,(rw_ (nxt (FB x y) 2 wh ks).1).2.1,c,(rw_ (nxt (FB x y) 2 wh ks).1).2.2.2)∧Tq q bb w w':=by
 refine(bytes_r h.pr.bl h.pr.fl (fun t ht=>Nat.le_trans (h.sz t ht) (by decide)) h.bx ho h.nq x y).mono ?_
 rintro e w' ⟨rfl,A,c,hg,hp⟩
 exact⟨rfl,A,c,ps_gt h (nxt_rest h.sz) hg,hp,hg.tc⟩
set_option maxHeartbeats 4000000 in
theorem version_p{w:World}{g q:Nat}{wr wh:Bool}{ks:List Tv}{bb o:Nat}{t:TypeId}{cs:Array Value}{v0:Value}(h:Ps w g q wr wh ks bb t cs)(ho:cs[o]?=some v0):Calls Tryz.prog 98 #[.pointer (some ⟨g,0,none⟩),.pointer (some ⟨bb,o,none⟩)] w fun e w'=>e=.returned (.tuple #[])∧Ps w' g q wr (nxt (FI 1 4611686018427387904) 1 wh ks).2.1 (nxt (FI 1 4611686018427387904) 1 wh ks).2.2 bb t (cs.setIfInBounds o (.int .i64 (nm (nxt (FI 1 4611686018427387904) 1 wh ks).1:Int)))∧Tq q bb w w':=by
 have CN:=Lib.hid (number_p h ho 1 4611686018427387904)
 obtain⟨X,hX⟩:∃X,nxt (FI 1 4611686018427387904) 1 wh ks=X:=⟨_,rfl⟩
 rw[hX] at CN ⊢
 clear hX h ho
 go_enter Tryz.func98,Tryz.ntmps98
 go_wp2_with (go_at_call 84;(refine CN.out.mono ?_);rintro e w1 ⟨rfl,hp⟩;have P1:=Lib.hid hp;clear hp)
 first|go_end0|refine bodyPost_ret (results_none rfl _ _ _) rfl ?_
 exact⟨rfl,P1.out⟩
theorem set_at{cs:Array Value}{o p:Nat}{v v0:Value}(hp:cs[p]?=some v0):∃u,(cs.setIfInBounds o v)[p]?=some u:=by
 have h:=(Array.getElem?_eq_some_iff.1 hp).1
 exact⟨_,Array.getElem?_eq_getElem (by rw[Array.size_setIfInBounds];exact h)⟩
set_option maxHeartbeats 4000000 in
theorem head_p{w:World}{g q:Nat}{wr wh:Bool}{ks:List Tv}{bb o p:Nat}{t:TypeId}{cs:Array Value}{v0 v1:Value}(h:Ps w g q wr wh ks bb t cs)(ho:cs[o]?=some v0)(hp:cs[p]?=some v1){X Y:Tv × Bool × List Tv}(hX:nxt (FI 1 4611686018427387904) 1 wh ks=X)(hY:nxt (FI 0 4611686018427387904) 1 X.2.1 X.2.2=Y):Calls Tryz.prog 69 #[.pointer (some ⟨g,0,none⟩),.pointer (some ⟨bb,o,none⟩),.pointer (some ⟨bb,p,none⟩)] w fun e w'=>e=.returned (.tuple #[])∧Ps w' g q wr Y.2.1 Y.2.2 bb t ((cs.setIfInBounds o (.int .i64 (nm X.1:Int))).setIfInBounds p (.int .i64 (nm Y.1:Int)))∧Tq q bb w w':=by
 have CV:=Lib.hid (version_p h ho)
 rw[hX] at CV
 have HP:=Lib.hid (set_at (o:=o) (v:=.int .i64 (nm X.1:Int)) hp)
 clear hX h ho hp
 go_enter Tryz.func69,Tryz.ntmps69
 go_wp2_with (first
  |(go_at_call 98;(refine CV.out.mono ?_);rintro e w1 ⟨rfl,hp,ht⟩;have P1:=Lib.hid hp;have T1:=Lib.hid ht;obtain⟨u,hu⟩:=HP.out;have CN:=Lib.hid (number_p hp hu 0 4611686018427387904);rw[hY] at CN;clear hp ht hu)
  |(go_at_call 84;(refine CN.out.mono ?_);rintro e w2 ⟨rfl,hp,ht⟩;have P2:=Lib.hid hp;have T2:=Lib.hid ht;clear hp ht))
 first|go_end0|refine bodyPost_ret (results_none rfl _ _ _) rfl ?_
 exact⟨rfl,P2.out,T1.out.trans T2.out⟩
end Go.Proofs.YteblmphohhbgcaaGreat.Mt
namespace Go.Proofs.YteblmphohhbgcaaGreat.Mt
open Go.RowKit Go.Proofs.YteblmphohhbgcaaGreat.Gn Go.Proofs.YteblmphohhbgcaaGreat.Fd Go.Proofs.YteblmphohhbgcaaGreat.Wr Go.Deep
abbrev rc(cs:Array Value)(X Y Z:Tv × Bool × List Tv)(A:Option Addr)(c:Nat):Array Value:=(((cs.setIfInBounds 2 (.int .i64 (nm X.1:Int))).setIfInBounds 3 (.int .i64 (nm Y.1:Int))).setIfInBounds 4 (.slice A (rw_ Z.1).2.1 c))
theorem sz1{cs:Array Value}{o n:Nat}{v:Value}{m:Nat}(h:m≤cs.size)(hn:n < m):n < (cs.setIfInBounds o v).size:=by rw[Array.size_setIfInBounds];omega
theorem sz2{cs:Array Value}{o p n:Nat}{v u:Value}{m:Nat}(h:m≤cs.size)(hn:n < m):n < ((cs.setIfInBounds o v).setIfInBounds p u).size:=by rw[Array.size_setIfInBounds,Array.size_setIfInBounds];omega
set_option maxHeartbeats 4000000 in
theorem ref_p{w:World}{g q:Nat}{wr wh:Bool}{ks:List Tv}{bb:Nat}{t:TypeId}{cs:Array Value}(h:Ps w g q wr wh ks bb t cs)(hs:5≤cs.size){X Y Z:Tv × Bool × List Tv}(hX:nxt (FI 1 4611686018427387904) 1 wh ks=X)(hY:nxt (FI 0 4611686018427387904) 1 X.2.1 X.2.2=Y)(hZ:nxt (FB 32 32) 2 Y.2.1 Y.2.2=Z):Calls Tryz.prog 82 #[.pointer (some ⟨g,0,none⟩),.pointer (some ⟨bb,2,none⟩)] w fun e w'=>e=.returned (.tuple #[])∧∃A c,Ps w' g q wr Z.2.1 Z.2.2 bb t (rc cs X Y Z A c)∧Pc w' (A,(rw_ Z.1).2.1,c,(rw_ Z.1).2.2.2)∧Tq q bb w w':=by
 have CV:=Lib.hid (version_p h (Array.getElem?_eq_getElem (show 2 < cs.size by omega)))
 rw[hX] at CV
 have HS:=Lib.hid hs
 clear hX h hs
 go_enter Tryz.func82,Tryz.ntmps82
 go_wp2_with (first
  |(go_at_call 98;(refine CV.out.mono ?_);rintro e w1 ⟨rfl,hp,ht⟩;have P1:=Lib.hid hp;have T1:=Lib.hid ht;have CN:=Lib.hid (number_p hp (Array.getElem?_eq_getElem (show 3 < (cs.setIfInBounds 2 (.int .i64 (nm X.1:Int))).size from sz1 HS.out (by decide))) 0 4611686018427387904);rw[hY] at CN;clear hp ht)
  |(go_at_call 84;(refine CN.out.mono ?_);rintro e w2 ⟨rfl,hp,ht⟩;have P2:=Lib.hid hp;have T2:=Lib.hid ht;have CB:=Lib.hid (bytes_p hp (Array.getElem?_eq_getElem (show 4 < ((cs.setIfInBounds 2 (.int .i64 (nm X.1:Int))).setIfInBounds 3 (.int .i64 (nm Y.1:Int))).size from sz2 HS.out (by decide))) 32 32);rw[hZ] at CB;clear hp ht)
  |(go_at_call 85;(refine CB.out.mono ?_);rintro e w3 ⟨rfl,A,c,hp,hc,ht⟩;have P3:=Lib.hid hp;have C3:=Lib.hid hc;have T3:=Lib.hid ht;clear hp hc ht))
 first|go_end0|refine bodyPost_ret (results_none rfl _ _ _) rfl ?_
 exact⟨rfl,A,c,P3.out,C3.out,(T1.out.trans T2.out).trans T3.out⟩
end Go.Proofs.YteblmphohhbgcaaGreat.Mt
namespace Go.Proofs.YteblmphohhbgcaaGreat.Mt
open Go.RowKit Go.Proofs.YteblmphohhbgcaaGreat.Gn Go.Proofs.YteblmphohhbgcaaGreat.Fd Go.Proofs.YteblmphohhbgcaaGreat.Wr Go.Deep
theorem pn_two{w:World}{a b:Nat}(h:Pn w a)(k:Pn w b):∀j,(j=a∨j=b)→Pn w j:=fun j e=>by
 rcases e with e|e
 ·exact e▸h
 ·exact e▸k
theorem tc_join{S T:Nat→Prop}{a b c:World}(h:Tc S a b)(k:Tc T b c)(hT:∀j,T j→S j∨a.heap.size≤j):Tc S a c :=
 ⟨k.os.trans h.os,k.tape.trans h.tape,k.output.trans h.output,Nat.le_trans h.size k.size,fun i hi hn=>(k.block i (Nat.lt_of_lt_of_le hi h.size) (fun e=>by
  rcases hT i e with e|e
  ·exact hn e
  ·omega)).trans (h.block i hi hn)⟩
theorem mem_szs:∀ {ks:List Tv} {n:Nat},szs ks≤n→∀t∈ks,sz t≤n
 | [],n,h,t,ht=>(List.not_mem_nil ht).elim
 |x :: xs,n,h,t,ht=>by
  rw[szs] at h
  rcases List.mem_cons.1 ht with rfl|ht
  ·omega
  ·exact mem_szs (n:=n) (by omega) t ht
set_option maxHeartbeats 4000000 in
theorem open_p{w:World}{g q:Nat}{wr wh:Bool}{ks:List Tv}{bb:Nat}{t:TypeId}{cs:Array Value}(h:Ps w g q wr wh ks bb t cs){X:Tv × Bool × List Tv}(hX:nxt (FL 0 9223372036854775807) 3 wh ks=X):Calls Tryz.prog 99 #[.pointer (some ⟨g,0,none⟩)] w fun e w'=>∃g2 q2 us,e=.returned (.tuple #[.pointer (some ⟨g2,0,none⟩),.int .i64 (us.length:Int)])∧nds us=nds (kids X.1)∧Ps w' g2 q2 false true us bb t cs∧Pr w' g q wr X.2.1 X.2.2∧w.heap.size≤g2∧w.heap.size≤q2∧w.grownBy w' (some q):=by
 refine(open_r h.pr h.sz).mono ?_
 rintro e w' ⟨g2,q2,us,rfl,hn,h2,h1,hg,hq,hw⟩
 have hb:=h.bx.bl.lt
 have hk:=nxt_kids (F:=FL 0 9223372036854775807) (k:=3) (wh:=wh) h.pr.fl.ok h.sz
 rw[hX] at hn h1 hk
 exact⟨g2,q2,us,rfl,hn,⟨h2,h.bx.tc (Tc.grown hw) (fun e=>h.nq e),mem_szs (us_sz h2.fl.ok hk.1 hn hk.2),by omega,by omega⟩,h1,hg,hq,hw⟩
set_option maxHeartbeats 4000000 in
theorem inner_p{w:World}{g q:Nat}{wr wh:Bool}{ks:List Tv}{bb:Nat}{t:TypeId}{cs:Array Value}(h:Ps w g q wr wh ks bb t cs)(hs:5≤cs.size){L:Tv × Bool × List Tv}(hL:nxt (FL 0 9223372036854775807) 3 wh ks=L):Calls Tryz.prog 81 #[.pointer (some ⟨g,0,none⟩),.pointer (some ⟨bb,2,none⟩),.func (.func 82) #[] #[]] w fun e w'=>e=.returned (.tuple #[])∧∃us X Y Z A c,(nds us=nds (kids L.1)∧∃u,∀t∈us,Ok u t)∧nxt (FI 1 4611686018427387904) 1 true us=X∧nxt (FI 0 4611686018427387904) 1 X.2.1 X.2.2=Y∧nxt (FB 32 32) 2 Y.2.1 Y.2.2=Z∧Ps w' g q (wr || !(Z.2.1 && decide (Z.2.2.length=0))) L.2.1 L.2.2 bb t (rc cs X Y Z A c)∧Pc w' (A,(rw_ Z.1).2.1,c,(rw_ Z.1).2.2.2)∧Tc (fun k=>k=q∨k=bb∨k=g) w w':=by
 have CO:=Lib.hid (open_p h hL)
 have H:=Lib.hid h
 have HS:=Lib.hid hs
 have HL:=Lib.hid (show ∀t∈L.2.2,sz t≤900000 from by rw[←hL];exact nxt_rest h.sz)
 clear h hs hL
 go_enter Tryz.func81,Tryz.ntmps81
 go_wp2_with (first
  |(go_at_call 99;(refine CO.out.mono ?_);rintro e w1 ⟨g2,q2,us,rfl,hn,hp,hr,hg,hq,hw⟩;obtain⟨X,hX⟩:∃X,nxt (FI 1 4611686018427387904) 1 true us=X:=⟨_,rfl⟩;obtain⟨Y,hY⟩:∃Y,nxt (FI 0 4611686018427387904) 1 X.2.1 X.2.2=Y:=⟨_,rfl⟩;obtain⟨Z,hZ⟩:∃Z,nxt (FB 32 32) 2 Y.2.1 Y.2.2=Z:=⟨_,rfl⟩;have CF:=Lib.hid (ref_p hp HS.out hX hY hZ);have N1:=Lib.hid (And.intro hn (And.intro hX (And.intro hY hZ)));have P1:=Lib.hid hp;have R1:=Lib.hid hr;have Q1:=Lib.hid (And.intro hg (And.intro hq hw));clear hn hp hr hg hq hw hX hY hZ)
  |(go_at_call 82;(refine CF.out.mono ?_);rintro e w2 ⟨rfl,A,c,hp,hc,ht⟩;have P2:=Lib.hid hp;have C2:=Lib.hid hc;have T2:=Lib.hid ht;have R2:=Lib.hid (R1.out.touch ht (pn_two (fl_pn P1.out.pr.fl) P1.out.bx.pnk) (fun e=>by(have h1:=H.out.pr.bl.lt;have h2:=Q1.out.2.1;have h3:=H.out.ng;rcases e with e|e <;> omega)) (fun e=>by(have h1:=H.out.pr.fl.row;have h2:=Q1.out.2.1;have h3:=H.out.nq;obtain⟨_,_,h4,-⟩:=h1;have h5:=h4.lt;rcases e with e|e <;> omega)));have CE:=Lib.hid (end_r R2.out hp.pr);clear hp hc ht)
  |(go_at_call 101;(refine CE.out.mono ?_);rintro e w3 ⟨rfl,hr,hw⟩;have R3:=Lib.hid hr;have G3:=Lib.hid hw;clear hr hw))
 first|go_end0|refine bodyPost_ret (results_none rfl _ _ _) rfl ?_
 have t3:=Tc.grown G3.out
 obtain⟨n1,n2,n3,n4⟩:=N1.out
 obtain⟨q1,q2',q3⟩:=Q1.out
 refine⟨rfl,us,X,Y,Z,A,c,⟨n1,w1,P1.out.pr.fl.ok⟩,n2,n3,n4,⟨R3.out,P2.out.bx.tc t3 (fun e=>H.out.ng e),HL.out,H.out.nq,H.out.ng⟩,t3.pc (fun k e=>e▸R2.out.png) C2.out,?_⟩
 exact tc_join (tc_join ((Tc.grown q3).mono (fun k _ e=>.inl e)) T2.out (fun k e=>by
  rcases e with e|e
  ·exact .inr (e▸q2')
  ·exact .inl (.inr (.inl e)))) t3 (fun k e=>.inl (.inr (.inr e)))
end Go.Proofs.YteblmphohhbgcaaGreat.Mt
namespace Go.Proofs.YteblmphohhbgcaaGreat.Mt
open Go.RowKit Go.Proofs.YteblmphohhbgcaaGreat.Gn Go.Proofs.YteblmphohhbgcaaGreat.Fd Go.Proofs.YteblmphohhbgcaaGreat.Wr Go.Deep
theorem Ps.below{w u:World}{g q:Nat}{wr wh:Bool}{ks:List Tv}{bb:Nat}{t:TypeId}{cs:Array Value}(h:Ps w g q wr wh ks bb t cs)(hb:Below w.heap.size w u):Ps u g q wr wh ks bb t cs :=
 ⟨⟨h.pr.bl.below' hb,h.pr.fl.below hb,h.pr.ne⟩,⟨h.bx.bl.below' hb,h.bx.pn⟩,h.sz,h.nq,h.ng⟩
abbrev tcs(cs:Array Value)(P Q X Y Z:Tv × Bool × List Tv)(A:Option Addr)(c:Nat):Array Value:=rc ((cs.setIfInBounds 0 (.int .i64 (nm P.1:Int))).setIfInBounds 1 (.int .i64 (nm Q.1:Int))) X Y Z A c
set_option maxHeartbeats 4000000 in
theorem timestamp_p{w:World}{g q:Nat}{wr wh:Bool}{ks:List Tv}{bb:Nat}{t:TypeId}{cs:Array Value}(h:Ps w g q wr wh ks bb t cs)(hs:5≤cs.size){P Q L:Tv × Bool × List Tv}(hP:nxt (FI 1 4611686018427387904) 1 wh ks=P)(hQ:nxt (FI 0 4611686018427387904) 1 P.2.1 P.2.2=Q)(hL:nxt (FL 0 9223372036854775807) 3 Q.2.1 Q.2.2=L):Calls Tryz.prog 46 #[.pointer (some ⟨g,0,none⟩),.pointer (some ⟨bb,0,none⟩)] w fun e w'=>e=.returned (.tuple #[])∧∃us X Y Z A c,(nds us=nds (kids L.1)∧∃u,∀t∈us,Ok u t)∧nxt (FI 1 4611686018427387904) 1 true us=X∧nxt (FI 0 4611686018427387904) 1 X.2.1 X.2.2=Y∧nxt (FB 32 32) 2 Y.2.1 Y.2.2=Z∧Ps w' g q (wr || !(Z.2.1 && decide (Z.2.2.length=0))) L.2.1 L.2.2 bb t (tcs cs P Q X Y Z A c)∧Pc w' (A,(rw_ Z.1).2.1,c,(rw_ Z.1).2.2.2)∧Tc (fun k=>k=q∨k=bb∨k=g) w w':=by
 have BW:∀n,Below w.heap.size w (w.drewN n):=fun n=>below_drewN (Below.refl _ w) n
 have CH:=Lib.hid (fun n=>head_p (h.below (BW n)) (Array.getElem?_eq_getElem (show 0 < cs.size by omega)) (Array.getElem?_eq_getElem (show 1 < cs.size by omega)) hP hQ)
 have HS:=Lib.hid hs
 have HW:=Lib.hid BW
 clear h hs hP hQ BW
 go_enter Tryz.func46,Tryz.ntmps46
 go_wp2_with fail
 go_region_with (go_at_call 69;(refine(CH.out _).mono ?_);rintro e w1 ⟨rfl,hp,ht⟩;have T1:=Lib.hid ((Tc.below (S:=fun k=>k=q∨k=bb) (HW.out _)).trans ht);have CI:=Lib.hid (inner_p hp (show 5≤((cs.setIfInBounds 0 (.int .i64 (nm P.1:Int))).setIfInBounds 1 (.int .i64 (nm Q.1:Int))).size from sz2 (n:=4) HS.out (by decide)) hL);clear hp ht)
 all_goals go_wp2_with (go_at_call 81;(refine CI.out.mono ?_);rintro e w2 ⟨rfl,us,X,Y,Z,A,c,h1,h2,h3,h4,h5,h6,h7⟩;have I2:=Lib.hid (And.intro h1 (And.intro h2 (And.intro h3 (And.intro h4 (And.intro h5 (And.intro h6 h7))))));clear h1 h2 h3 h4 h5 h6 h7)
 all_goals(
  first|go_end0|refine bodyPost_ret (results_none rfl _ _ _) rfl ?_
  obtain⟨h1,h2,h3,h4,h5,h6,h7⟩:=I2.out
  exact⟨rfl,us,X,Y,Z,A,c,h1,h2,h3,h4,h5,h6,(T1.out.mono (fun k _ e=>by
   rcases e with e|e
   ·exact .inl e
   ·exact .inr (.inl e))).trans h7⟩)
end Go.Proofs.YteblmphohhbgcaaGreat.Mt
namespace Go.Proofs.YteblmphohhbgcaaGreat.Mt
open Go.RowKit Go.Proofs.YteblmphohhbgcaaGreat.Gn Go.Proofs.YteblmphohhbgcaaGreat.Fd Go.Proofs.YteblmphohhbgcaaGreat.Wr Go.Deep
set_option maxRecDepth 100000
theorem limits_any(w:World):Calls Tryz.prog 68 #[] w fun e w'=>e=.returned (lim 8192 8 1024 8192)∧Below w.heap.size w w':=by
 have HL:=Lib.hid (Bl.new_ w 121 #[.int .i64 8192,.int .i64 8,.int .i64 1024,.int .i64 8192])
 have HB:=Lib.hid ((Below.refl w.heap.size w).alloc (Nat.le_refl _) (.cells #[.int .i64 8192,.int .i64 8,.int .i64 1024,.int .i64 8192] 121))
 go_enter Tryz.func68,Tryz.ntmps68
 go_wp2_with fail
 exact⟨rfl,_,results_c rfl _ _ _ ⟨w.heap.size,0,none⟩ _ (by kernel_rfl) (run_loadVar_row _ w.heap.size 121 121 _ (0,0) _ HL.out Tryz.underlying121 rfl size40),rfl,HB.out⟩
theorem size102:(Tryz.prog.info? 132).map (·.size)=some 4:=by kernel_rfl
theorem rlimits_any(w:World):Calls Tryz.prog 76 #[] w fun e w'=>e=.returned (lim 8192 8 1024 8192)∧Below w.heap.size w w':=by
 have HL:=Lib.hid (Bl.new_ w 132 #[.int .i64 8192,.int .i64 8,.int .i64 1024,.int .i64 8192])
 have HB:=Lib.hid ((Below.refl w.heap.size w).alloc (Nat.le_refl _) (.cells #[.int .i64 8192,.int .i64 8,.int .i64 1024,.int .i64 8192] 132))
 go_enter Tryz.func76,Tryz.ntmps76
 go_wp2_with fail
 exact⟨rfl,_,results_c rfl _ _ _ ⟨w.heap.size,0,none⟩ _ (by kernel_rfl) (run_loadVar_row _ w.heap.size 132 132 _ (0,0) _ HL.out Tryz.underlying132 rfl size102),rfl,HB.out⟩
end Go.Proofs.YteblmphohhbgcaaGreat.Mt
