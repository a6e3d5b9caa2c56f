/- Joined texts. -/
import Derived.Test.YtnnfpmebopgogaaDoorQnMpDoc
set_option linter.unusedVariables false
namespace Go.Proofs.YtnnfpmebopgogaaDoor.Mk
open Go.RowKit Go.Proofs.YtnnfpmebopgogaaDoor.Gn Go.Proofs.YtnnfpmebopgogaaDoor.Fd Go.Deep
def OwnP(l:List Nat)(w:World)(e:Ending)(w':World):Prop:=∃A n c,e=.returned (.slice A n c)∧Po w' (A,n,c,l)∧Below w.heap.size w w'
theorem OwnB.p{l:List Nat}{w:World}{e:Ending}{w':World}(h:OwnB l w e w')(hl:∀x∈l,x < 256):OwnP l w e w':=by
 obtain⟨v,rfl,ho,hb⟩:=h
 obtain⟨A,c,rfl,hp⟩:=own_any ho rfl hl
 exact⟨A,_,c,rfl,⟨hp,own_base ho (Nat.zero_le _)⟩,hb⟩
theorem rnode_p{A B:Option Addr}{n m c d:Nat}{x y:List Nat}{w:World}(h1:Pc w (A,n,c,x))(h2:Pc w (B,m,d,y))(hmax:n+m≤900000) :
  Calls Tryd.prog 56 #[.slice A n c,.slice B m d] w (OwnP (1 :: (x ++ y)) w) :=
 (rnode_any h1 h2 hmax).mono fun e w' h=>OwnB.p h fun z hz=>by
  rcases List.mem_cons.1 hz with rfl|hz
  ·decide
  ·rcases List.mem_append.1 hz with h|h
   ·exact h1.lt z h
   ·exact h2.lt z h
theorem rhash_p{A:Option Addr}{n c:Nat}{l:List Nat}{w:World}(h:Pc w (A,n,c,l))(hn:n≤1048576) :
  Calls Tryd.prog 36 #[.slice A n c] w (OwnP (Sh.dg false l) w):=(rhash_any h hn).mono fun e w' h=>OwnB.p h (dg32_lt l)
theorem nil_pc'(w:World):Pc w (none,0,0,[]):=⟨rfl,Sl.nil_ _ _,fun x hx=>by simp at hx,Nat.zero_le _,fun _=>rfl⟩
set_option maxHeartbeats 4000000 in
set_option maxRecDepth 100000 in
theorem rup_any:∀(n:Nat),1≤n→n≤4096→∀(p:Nat),p < n→∀(w:World) (P:List Rw) (B:Option Addr) (m c:Nat) (A:Option Addr) (ca:Nat) (x:List Nat),P32 w B m c P→Pc w (A,32,ca,x) →
  Calls Tryd.prog 50 #[.int .i64 (n:Int),.int .i64 (p:Int),.slice A 32 ca,.slice B m c] w (UpQ (way n p) x (con P) w):=by
 obtain⟨i0,hi,hz0,hz1,hz2⟩:=info_parts infobb
 intro n
 induction n using Nat.strongRecOn with
 |_ n ih =>
  intro h1 hn p hp w P B m c A ca x hP hx
  have PL:=Lib.hid hP.len
  by_cases h2:2≤n
  ·have t0:((n:Int) == 1)=false:=beq_eq_false_iff_ne.2 (by omega)
   by_cases hm:m=0
   ·have t1:((m:Int) == 0)=true:=beq_iff_eq.2 (by omega)
    have hw:(way n p).length≠0:=by
     by_cases hp':half n≤p
     ·rw[way_second h2 hp'];simp
     ·rw[way_first h2 hp'];simp
    have HWW:=Lib.hid hw
    clear ih hP hx hw hm
    go_enter Tryd.func50,Tryd.ntmps50
    go_wp2_with fail
    go_ret3
    have e:decide ((con P).length=(way n p).length)=false:=by
     have h:=PL.out
     rw[con_len]
     refine decide_eq_false ?_
     have:=HWW.out
     simp at t1
     omega
    refine⟨(none,0,0,[]),.slice none 0 0,[],false,rfl,e.symm,nil_pc' _,by simp,⟨own_nil _ _ _,fun r hr=>by simp at hr⟩,by simp,fun h=>?_,Below.refl _ _⟩
    rw[h] at e
    simp at e
   ·obtain⟨m',hm'⟩:∃q,m=q+1:=⟨m - 1,by omega⟩
    have t1:((m:Int) == 0)=false:=beq_eq_false_iff_ne.2 (by omega)
    have em:(m:Int) - 1=(m':Int):=by omega
    have hm'':(m':Int) < (m:Int):=by omega
    have hcap:=hP.cap
    have hfew:=hP.few
    have k3:(m':Int)≤(c:Int):=by omega
    have k4:m'≤c:=by omega
    have k5:(m':Int)≤(m:Int):=by omega
    have hl0:m' < P.length:=by have:=PL.out;omega
    obtain⟨l,hl⟩:∃l,P[m']?=some l:=⟨P[m'],List.getElem?_eq_getElem hl0⟩
    obtain⟨hl1,hl2⟩:=hP.pcs l (List.mem_of_getElem? hl)
    obtain⟨ad,hB,c1⟩:=hP.row.at_ (show m' < m by omega)
    rw[List.getElem?_map,hl] at c1
    have HPE:=Lib.hid (show P=P.take m' ++ [l] from by
     have h:=List.take_add_one (l:=P) (i:=m')
     rw[hl,List.take_of_length_le (by have:=PL.out;omega)] at h
     exact h)
    obtain⟨L,nl,cl,y⟩:=l
    have hnl:nl=32:=hl1.len.trans hl2
    subst hnl
    have c1':w.cell? (ad.add m')=some (.slice L 32 cl):=c1
    have HLA:=Lib.hid hl1
    have hly:y.length=32:=hl2
    have HLY:=Lib.hid hly
    have HF:=Lib.hid (fun w=>rhalf_any h2 (by omega) w)
    have hs:=half_spec h2
    obtain⟨H,hH⟩:∃H,H=half n:=⟨_,rfl⟩
    rw[←hH] at hs HF
    obtain⟨s1,s2,s3⟩:=hs
    have HH:=Lib.hid hH
    have HM:=Lib.hid hm'
    clear hH hl1 hl2 c1 hl hl0 hly hm hm'
    subst hB
    by_cases hc:H≤p
    ·have hcz:decide ((p:Int) < (H:Int))=false:=decide_eq_false (by omega)
     have hcz':¬(p:Int) < (H:Int):=by omega
     obtain⟨n2,hn2⟩:∃z,z+H=n:=⟨n - H,by omega⟩
     obtain⟨p2,hp2⟩:∃z,z+H=p:=⟨p - H,by omega⟩
     have e1:(n:Int) - (H:Int)=(n2:Int):=by omega
     have e2:(p:Int) - (H:Int)=(p2:Int):=by omega
     have HW:=Lib.hid (show way n p=true :: way n2 p2 from by rw[way_second h2 (by rw[←HH.out];omega),←HH.out,show n - H=n2 by omega,show p - H=p2 by omega])
     have IH:=Lib.hid (ih n2 (by omega) (by omega) (by omega) p2 (by omega) w (P.take m') (some ad) m' c A ca x (hP.take (k:=m') (by have:=HM.out;omega)) hx)
     have hwl:=way_len n2 p2
     rw[HW.out]
     have HCON:=Lib.hid (show con P=con (P.take m' ++ [(L,32,cl,y)]) from congrArg con HPE.out)
     obtain⟨PS,hPS⟩:∃z,z=con P:=⟨_,rfl⟩
     rw[←hPS] at HCON ⊢
     obtain⟨Q,hQ⟩:∃z,z=P.take m':=⟨_,rfl⟩
     rw[←hQ] at HCON IH
     generalize way n2 p2=ws at IH hwl ⊢
     have hwl2:ws.length≤4096:=by omega
     clear ih hP hx hc HW hPS hQ hwl HPE PL
     go_enter Tryd.func50,Tryd.ntmps50
     go_wp2_with (go_at_call 55;(with_reducible refine(HF.out _).mono ?_);rintro e w' ⟨rfl,rfl⟩)
     refine IH.out.mono ?_
     rintro e w1 ⟨⟨RA,rn,rc,rx⟩,T,us,fb,rfl,hfb,p1,l1,o1,k1,s1,b1⟩
     have hrn:rn=rx.length:=p1.len
     have hrn2:rn≤32:=by rw[hrn];exact l1
     have ND:=Lib.hid (rnode_p (HLA.out.below b1) p1 (by omega))
     have HQ:=Lib.hid (show Pc w1 (RA,rn,rc,rx)∧((RA,rn,rc,rx):Rw).2.2.2.length≤32∧OwnT w.heap.size w1 T us∧us.length≤ws.length∧((con Q).length=ws.length→((RA,rn,rc,rx):Rw).2.2.2=tops ws x (con Q)∧con us=texts ws x (con Q)) from⟨p1,l1,o1,k1,s1⟩)
     have D1:=Lib.hid b1
     have HFB:=Lib.hid hfb
     obtain⟨TA,tc,rfl,-, -, -, -, -⟩:=Sl.own o1.own
     rw[show rwv ((RA,rn,rc,rx):Rw)=Value.slice RA rn rc from rfl]
     obtain⟨K,hK⟩:∃K,K=us.length:=⟨_,rfl⟩
     have O1:=Lib.hid o1
     have hK2:K≤4096:=by rw[hK];omega
     have OW1:=Lib.hid (show w1.ownsRow w.heap.size 22 1 (.slice TA K tc) K (us.map rwv) from by rw[hK];exact o1.own)
     rw[←hK]
     have HK:=Lib.hid hK
     clear hfb p1 l1 o1 k1 s1 b1 hrn hK
     have HLL:=Lib.hid (show(1 :: (y ++ rx)).length≤1000 from by rw[List.length_cons,List.length_append];have:=HLY.out;have:=HQ.out.2.1;change rx.length≤32 at this;omega)
     go_wp2_with fail
     refine ND.out.mono ?_
     rintro e w2 ⟨TB,tl,tb,rfl,p2,b2⟩
     have D2:=Lib.hid b2
     have P2:=Lib.hid p2
     have htl:tl≤1000:=by rw[show tl=_ from p2.1.len];exact HLL.out
     have HS:=Lib.hid (rhash_p p2.1 (by omega))
     clear p2 b2 ND
     go_wp2_with (first|(go_at_call 36;(with_reducible refine HS.out.mono ?_);rintro e w3 ⟨DB,dl,db,rfl,p3,b3⟩;have D3:=Lib.hid b3;have P3:=Lib.hid p3;have P23:=Lib.hid (P2.out.below b3);have OW3:=Lib.hid (own_below (own_below OW1.out D2.out) b3);have B3:=Lib.hid (D1.out.trans ((D2.out.trans (b3.mono D2.out.size)).mono D1.out.size));clear p3 b3 HS)|(at_builtin;refine wpList_append_sl rfl _ _ 23 rfl w.heap.size 22 i0 _ 24 Tryd.underlying23 hi hz0 hz1 hz2 rfl (.slice TA K tc) K _ rfl (own_alloc OW3.out _) (some ⟨w3.heap.size,0,none⟩) 1 1 [.slice TB tl tb] rfl (fun h=>by cases h) (Sl.new_ w3 22 [.slice TB tl tb]) (fun u hu=>by simp at hu;subst hu;rfl) (by unfold maxLen;omega) (by omega) (by have:=B3.out.size;simp;omega) ?_;intro v4 w4 hown4 hgrow4;have B34:=Lib.hid (((Below.refl w.heap.size w3).alloc B3.out.size (.cells #[.slice TB tl tb] 22)).grown hgrow4 (by have:=B3.out.size;simp;omega) (own_rows OW3.out));have O4:=Lib.hid hown4;have G4:=Lib.hid hgrow4;clear hown4 hgrow4))
     go_ret3
     have hP4:=(P23.out.alloc (.cells #[.slice TB tl tb] 22)).grown (own_alloc OW3.out _) G4.out
     have hD4:=(P3.out.alloc (.cells #[.slice TB tl tb] 22)).grown (own_alloc OW3.out _) G4.out
     refine up_last (s:=true) (P:=Q) (last:=(L,32,cl,y)) (r:=(RA,rn,rc,rx)) (ts:=us) (x:=x) (ws:=ws) HQ.out (t:=(TB,tl,tb,1 :: (y ++ rx))) (d:=(DB,dl,db,Sh.dg false (1 :: (y ++ rx)))) hP4 rfl HLY.out hD4.1 rfl ?_ (fun z hz=>?_) (B3.out.trans B34.out) HFB.out HCON.out
     ·have h:=O4.out
      rw[←HK.out]
      exact h
     ·have hz2:=((((HQ.out.2.2.1.pcs z hz).1.below D2.out).below (show Below w2.heap.size w2 w3 from D3.out)).alloc (.cells #[.slice TB tl tb] 22)).grown (own_alloc OW3.out _) G4.out
      exact hz2
    ·have hcz:decide ((p:Int) < (H:Int))=true:=decide_eq_true (by omega)
     have hcz':(p:Int) < (H:Int):=by omega
     have HW:=Lib.hid (show way n p=false :: way H p from by rw[way_first h2 (by rw[←HH.out];omega),←HH.out])
     have IH:=Lib.hid (ih H (by omega) (by omega) (by omega) p (by omega) w (P.take m') (some ad) m' c A ca x (hP.take (k:=m') (by have:=HM.out;omega)) hx)
     have hwl:=way_len H p
     rw[HW.out]
     have HCON:=Lib.hid (show con P=con (P.take m' ++ [(L,32,cl,y)]) from congrArg con HPE.out)
     obtain⟨PS,hPS⟩:∃z,z=con P:=⟨_,rfl⟩
     rw[←hPS] at HCON ⊢
     obtain⟨Q,hQ⟩:∃z,z=P.take m':=⟨_,rfl⟩
     rw[←hQ] at HCON IH
     generalize way H p=ws at IH hwl ⊢
     have hwl2:ws.length≤4096:=by omega
     clear ih hP hx hc HW hPS hQ hwl HPE PL
     go_enter Tryd.func50,Tryd.ntmps50
     go_wp2_with (go_at_call 55;(with_reducible refine(HF.out _).mono ?_);rintro e w' ⟨rfl,rfl⟩)
     refine IH.out.mono ?_
     rintro e w1 ⟨⟨RA,rn,rc,rx⟩,T,us,fb,rfl,hfb,p1,l1,o1,k1,s1,b1⟩
     have hrn:rn=rx.length:=p1.len
     have hrn2:rn≤32:=by rw[hrn];exact l1
     have ND:=Lib.hid (rnode_p p1 (HLA.out.below b1) (by omega))
     have HQ:=Lib.hid (show Pc w1 (RA,rn,rc,rx)∧((RA,rn,rc,rx):Rw).2.2.2.length≤32∧OwnT w.heap.size w1 T us∧us.length≤ws.length∧((con Q).length=ws.length→((RA,rn,rc,rx):Rw).2.2.2=tops ws x (con Q)∧con us=texts ws x (con Q)) from⟨p1,l1,o1,k1,s1⟩)
     have D1:=Lib.hid b1
     have HFB:=Lib.hid hfb
     obtain⟨TA,tc,rfl,-, -, -, -, -⟩:=Sl.own o1.own
     rw[show rwv ((RA,rn,rc,rx):Rw)=Value.slice RA rn rc from rfl]
     obtain⟨K,hK⟩:∃K,K=us.length:=⟨_,rfl⟩
     have O1:=Lib.hid o1
     have hK2:K≤4096:=by rw[hK];omega
     have OW1:=Lib.hid (show w1.ownsRow w.heap.size 22 1 (.slice TA K tc) K (us.map rwv) from by rw[hK];exact o1.own)
     rw[←hK]
     have HK:=Lib.hid hK
     clear hfb p1 l1 o1 k1 s1 b1 hrn hK
     have HLL:=Lib.hid (show(1 :: (rx ++ y)).length≤1000 from by rw[List.length_cons,List.length_append];have:=HLY.out;have:=HQ.out.2.1;change rx.length≤32 at this;omega)
     go_wp2_with fail
     refine ND.out.mono ?_
     rintro e w2 ⟨TB,tl,tb,rfl,p2,b2⟩
     have D2:=Lib.hid b2
     have P2:=Lib.hid p2
     have htl:tl≤1000:=by rw[show tl=_ from p2.1.len];exact HLL.out
     have HS:=Lib.hid (rhash_p p2.1 (by omega))
     clear p2 b2 ND
     go_wp2_with (first|(go_at_call 36;(with_reducible refine HS.out.mono ?_);rintro e w3 ⟨DB,dl,db,rfl,p3,b3⟩;have D3:=Lib.hid b3;have P3:=Lib.hid p3;have P23:=Lib.hid (P2.out.below b3);have OW3:=Lib.hid (own_below (own_below OW1.out D2.out) b3);have B3:=Lib.hid (D1.out.trans ((D2.out.trans (b3.mono D2.out.size)).mono D1.out.size));clear p3 b3 HS)|(at_builtin;refine wpList_append_sl rfl _ _ 23 rfl w.heap.size 22 i0 _ 24 Tryd.underlying23 hi hz0 hz1 hz2 rfl (.slice TA K tc) K _ rfl (own_alloc OW3.out _) (some ⟨w3.heap.size,0,none⟩) 1 1 [.slice TB tl tb] rfl (fun h=>by cases h) (Sl.new_ w3 22 [.slice TB tl tb]) (fun u hu=>by simp at hu;subst hu;rfl) (by unfold maxLen;omega) (by omega) (by have:=B3.out.size;simp;omega) ?_;intro v4 w4 hown4 hgrow4;have B34:=Lib.hid (((Below.refl w.heap.size w3).alloc B3.out.size (.cells #[.slice TB tl tb] 22)).grown hgrow4 (by have:=B3.out.size;simp;omega) (own_rows OW3.out));have O4:=Lib.hid hown4;have G4:=Lib.hid hgrow4;clear hown4 hgrow4))
     go_ret3
     have hP4:=(P23.out.alloc (.cells #[.slice TB tl tb] 22)).grown (own_alloc OW3.out _) G4.out
     have hD4:=(P3.out.alloc (.cells #[.slice TB tl tb] 22)).grown (own_alloc OW3.out _) G4.out
     refine up_last (s:=false) (P:=Q) (last:=(L,32,cl,y)) (r:=(RA,rn,rc,rx)) (ts:=us) (x:=x) (ws:=ws) HQ.out (t:=(TB,tl,tb,1 :: (rx ++ y))) (d:=(DB,dl,db,Sh.dg false (1 :: (rx ++ y)))) hP4 rfl HLY.out hD4.1 rfl ?_ (fun z hz=>?_) (B3.out.trans B34.out) HFB.out HCON.out
     ·have h:=O4.out
      rw[←HK.out]
      exact h
     ·have hz2:=((((HQ.out.2.2.1.pcs z hz).1.below D2.out).below (show Below w2.heap.size w2 w3 from D3.out)).alloc (.cells #[.slice TB tl tb] 22)).grown (own_alloc OW3.out _) G4.out
      exact hz2
  ·have t0:((n:Int) == 1)=true:=beq_iff_eq.2 (by omega)
   have hw:way n p=[]:=way_one (by omega) p
   rw[hw]
   have HX:=Lib.hid hx
   have hlx:x.length=32:=hx.len.symm
   have HLX:=Lib.hid hlx
   clear ih hP hx hlx hw
   by_cases hm:m=0
   ·have t1:((m:Int) == 0)=true:=beq_iff_eq.2 (by omega)
    have e:decide ((con P).length=([]:List Bool).length)=true:=by rw[con_len,PL.out];exact decide_eq_true hm
    have E:=Lib.hid e
    clear hm e
    go_enter Tryd.func50,Tryd.ntmps50
    go_wp2_with fail
    go_ret3
    exact⟨(A,32,ca,x),.slice none 0 0,[],_,rfl,E.out.symm,HX.out,by show x.length≤32;rw[HLX.out];exact Nat.le_refl _,⟨own_nil _ _ _,fun r hr=>by simp at hr⟩,by simp,fun _=>⟨rfl,rfl⟩,Below.refl _ _⟩
   ·have t1:((m:Int) == 0)=false:=beq_eq_false_iff_ne.2 (by omega)
    have e:decide ((con P).length=([]:List Bool).length)=false:=by rw[con_len,PL.out];exact decide_eq_false hm
    have E:=Lib.hid e
    clear hm e
    go_enter Tryd.func50,Tryd.ntmps50
    go_wp2_with fail
    go_ret3
    exact⟨(A,32,ca,x),.slice none 0 0,[],_,rfl,E.out.symm,HX.out,by show x.length≤32;rw[HLX.out];exact Nat.le_refl _,⟨own_nil _ _ _,fun r hr=>by simp at hr⟩,by simp,fun _=>⟨rfl,rfl⟩,Below.refl _ _⟩
end Go.Proofs.YtnnfpmebopgogaaDoor.Mk
