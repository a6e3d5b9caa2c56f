/- Joined texts. -/
import Derived.Test.YtcnlmekjcffohaaDoorQoMpProveB
import Derived.Test.YtcnlmekjcffohaaDoorQoMkW
import Derived.Test.YtcnlmekjcffohaaDoorQoGnRowsC
set_option linter.unusedVariables false
namespace Go.Proofs.YtcnlmekjcffohaaDoor.Mk
open Go.RowKit Go.Proofs.YtcnlmekjcffohaaDoor.Gn Go.Proofs.YtcnlmekjcffohaaDoor.Fd Go.Deep
theorem bl_pc2{w:World}{A:Option Addr}{n c:Nat}{l:List Nat}(h:BL w A n c l):Pc w (A,n,c,l):=by
 obtain⟨h1,h2,h3,h4,h5⟩:=h
 have e:l.length=n:=by have:=h1.1;rwa [bl_length] at this
 exact⟨e.symm,by rw[show((A,n,c,l):Rw).2.2.2.length=n from e];exact h1,h3,by rw[show((A,n,c,l):Rw).2.2.2.length=n from e];exact h5,h4⟩
theorem check_path{ps:List (List Nat)}{k:Nat}(hk:k < ps.length):checkE ps.length k (rootOf ps.length (topL ps)) (ps.getD k []) (pathL ps k)=0:=by
 have h:=path_tops ps.length ps k (Nat.le_refl _) hk
 unfold checkE
 rw[if_neg (by rw[h.2];simp),if_pos (by rw[h.1])]
theorem At0.any{w:World}{us:List Rw}(h:∀r∈us,At0 w r):(∀r∈us,Pc w r∧r.2.1≤1500)∧all32 us=true:=by
 have e:∀r∈us,r.2.1=32:=fun r hr=>by
  obtain⟨hp,hl,-⟩:=h r hr
  rw[hp.len,hl]
 refine⟨fun r hr=>⟨(h r hr).1,by rw[e r hr];decide⟩,?_⟩
 unfold all32
 rw[List.all_eq_true]
 intro r hr
 exact decide_eq_true (e r hr)
set_option maxHeartbeats 4000000 in
set_option maxRecDepth 100000 in
theorem walk_merkleOwn{w:World}(ts:Sh.Tab w)(B:Option Addr)(m c:Nat)(P:List Rw)(hP:LL w B m P∧m≤9223372036854775807∧m≤c)(p:Int)(wp:(Lit.int .i64 p).wf) :
  Calls Tryd.prog 6 #[.slice B m c,.int .i64 p] w fun e w'=>e=.returned (.bool true)∧Below w.heap.size w w':=by
 have KN:=Lib.hid (fun(w1:World) (hb:Below w.heap.size w w1)=>known_any w1 (ts.below hb))
 have SZ:=Lib.hid (rsize_any (c:=c) hP.1.1 (fun r hr=>(hP.1.2 r hr).2) hP.2.1 1500 (Nat.le_refl _))
 have TS:=Lib.hid ts
 have PP:=Lib.hid (show ∀S,S≤1500→(m≤S∧∀r∈P,r.2.1≤S)→PAny w B m c P from fun S h h2=>⟨hP.1.1,fun r hr=>⟨bl_pc2 (hP.1.2 r hr).1,by have:=h2.2 r hr;omega⟩,by omega,hP.2.2⟩)
 have wp1 : -9223372036854775808≤p∧p≤9223372036854775807:=wf_i64 wp
 clear hP ts wp
 go_enter Tryd.func6,Tryd.ntmps6
 go_wp2_with fail
 refine SZ.out.mono ?_
 rintro e w1 ⟨S,rfl,hS,hSm,rfl⟩
 by_cases hbig:1500 < S
 ·have q3:(1500:Int) < (S:Int):=by omega
  clear hS
  go_wp2_with fail
  refine(KN.out _ (Below.refl _ _)).mono ?_
  rintro e w1 ⟨rfl,b1⟩
  have B1:=Lib.hid b1
  clear b1
  go_wp2_with fail
  go_ret
  exact⟨rfl,B1.out⟩
 have q3:¬(1500:Int) < (S:Int):=by omega
 have HP:=Lib.hid (PP.out S (by omega) (hS (by omega)))
 clear hS hSm PP
 have hm:=HP.out.few
 by_cases h0:m=0
 ·subst h0
  go_wp2_with fail
  refine(KN.out _ (Below.refl _ _)).mono ?_
  rintro e w1 ⟨rfl,b1⟩
  have B1:=Lib.hid b1
  clear b1
  go_wp2_with fail
  go_ret
  exact⟨rfl,B1.out⟩
 have q4:((m:Int) == 0)=false:=beq_eq_false_iff_ne.2 (by omega)
 cases ha:all32 P with
 |false =>
  have RB:=Lib.hid (Root_bad HP.out ha)
  clear ha
  go_wp2_with fail
  refine RB.out.mono ?_
  rintro e w1 ⟨rfl,b1⟩
  have B1:=Lib.hid b1
  clear b1
  go_wp2_with fail
  refine(KN.out _ B1.out).mono ?_
  rintro e w2 ⟨rfl,b2⟩
  have B2:=Lib.hid (B1.out.trans (b2.mono B1.out.size))
  clear b2
  go_wp2_with fail
  go_ret
  exact⟨rfl,B2.out⟩
 |true =>
  have RG:=Lib.hid (Root_good HP.out ha (by omega) TS.out)
  obtain⟨k,hk,hkm⟩:∃k:Nat,p%(m:Int)=(k:Int)∧k < m:=⟨(p%(m:Int)).toNat,by have:=Int.emod_nonneg p (show(m:Int)≠0 by omega);omega,by have:=Int.emod_nonneg p (show(m:Int)≠0 by omega);have:=Int.emod_lt_of_pos p (show(0:Int) < m by omega);omega⟩
  have AM:=Lib.hid (fun w=>among_any p (m:Int) w (by omega) (by omega) wp1.1 wp1.2)
  rw[hk] at AM
  have PG:=Lib.hid (fun(wq:World) (hb:Below w.heap.size w wq)=>Prove_good (HP.out.below hb) ha hkm (TS.out.below hb))
  have hl:=HP.out.len
  obtain⟨l,hl2⟩:∃l,P[k]?=some l:=⟨P[k],List.getElem?_eq_getElem (by omega)⟩
  have hcp:=check_path (ps:=con P) (k:=k) (by rw[con_len];omega)
  rw[con_len,hl] at hcp
  have hx0:=(HP.out.p32 ha).pcs l (List.mem_of_getElem? hl2)
  have hgd:(con P).getD k []=l.2.2.2:=by
   rw[List.getD_eq_getElem?_getD,con,List.getElem?_map,hl2];rfl
  rw[hgd] at hcp
  obtain⟨ad,hB,hcell⟩:=HP.out.row.at_ hkm
  rw[List.getElem?_map,hl2] at hcell
  obtain⟨L,nl,cl,y⟩:=l
  have hnl:nl=32:=by have:=hx0.1.len;rw[hx0.2] at this;exact this
  subst hnl
  change checkE m k _ y _=0 at hcp
  have HX:=Lib.hid (show Pc w (L,32,cl,y) from hx0.1)
  have hcell':w.cell? (ad.add k)=some (.slice L 32 cl):=hcell
  have KEEP:=Lib.hid (fun(wq:World) (hb:Below w.heap.size w wq)=>(keepc hb hcell':wq.cell? (ad.add k)=some (.slice L 32 cl)))
  have hPL:=pathL_len (con P).length (con P) k (Nat.le_refl _) (by rw[con_len];omega)
  rw[con_len,hl] at hPL
  have q5:(0:Int)≤(k:Int):=by omega
  have q6:(k:Int) < (m:Int):=by omega
  have q7:k < m:=hkm
  generalize topL (con P)=tp at RG hcp
  generalize pathL (con P) k=pa at PG hcp hPL
  obtain⟨R0,hR0⟩:∃z,z=rootOf m tp:=⟨_,rfl⟩
  have CK:=Lib.hid (fun(wq:World) (g n cap:Nat) (A:Option Addr) (us:List Rw) (hb:Below w.heap.size w wq) (hr:Pc wq (some ⟨g,0,none⟩,32,32,R0)) (hPr:PAny wq A n cap us) (h32:all32 us=true) (hc:con us=pa) =>
   show Calls Tryd.prog 20 #[.slice (some ⟨g,0,none⟩) 32 32,.int .i64 (m:Int),.int .i64 (k:Int),.slice L 32 cl,.slice A n cap] wq (ErrQ 0 wq) from by
    have h:=check_ok hr (HX.out.below hb) hPr h32 (show 1≤m by omega) (by omega) hkm (TS.out.below hb)
    rw[hc,hR0,hcp] at h
    exact h)
  have HR0:=Lib.hid hR0
  have HPL:=Lib.hid hPL
  subst hB
  clear ha hk hkm hl hl2 hcp hx0 hgd hcell hcell' hPL hR0
  go_wp2_with fail
  refine RG.out.mono ?_
  rintro e w1 ⟨g,rfl,p1,g1,b1⟩
  rw[←HR0.out] at p1
  have P1:=Lib.hid p1
  have B1:=Lib.hid b1
  clear p1 g1 b1
  go_wp2_with fail
  refine(AM.out _).mono ?_
  rintro e w1' ⟨rfl,rfl⟩
  go_wp2_with fail
  refine(PG.out _ B1.out).mono ?_
  rintro e w2 ⟨A,n,cap,us,rfl,o2,hn,hc,b2⟩
  have B2:=Lib.hid (B1.out.trans (b2.mono B1.out.size))
  have P2:=Lib.hid (P1.out.below b2)
  have O2:=Lib.hid o2
  have PA:=Lib.hid (show PAny w2 A n cap us from by
   obtain⟨A',c',e1,h1,-, h2,-, -⟩:=Sl.own o2.own
   injection e1 with e1 e2 e3
   subst e1;subst e2;subst e3
   have h3:=congrArg List.length hc
   rw[con_len] at h3
   exact⟨h1,(At0.any o2.pcs).1,by have:=HPL.out;omega,h2⟩)
  have C3:=Lib.hid (CK.out w2 g n cap A us B2.out P2.out PA.out (At0.any o2.pcs).2 hc)
  have kc:=KEEP.out w2 B2.out
  clear o2 hn hc b2 CK PG RG AM
  go_wp2_with fail
  refine C3.out.mono ?_
  rintro e w3 ⟨rfl,b3⟩
  have B3:=Lib.hid (B2.out.trans (b3.mono B2.out.size))
  clear b3
  go_wp2_with fail
  refine(KN.out _ B3.out).mono ?_
  rintro e w4 ⟨rfl,b4⟩
  have B4:=Lib.hid (B3.out.trans (b4.mono B3.out.size))
  clear b4
  go_wp2_with fail
  go_ret
  exact⟨rfl,B4.out⟩
end Go.Proofs.YtcnlmekjcffohaaDoor.Mk
