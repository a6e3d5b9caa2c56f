/- Joined texts. -/
import Derived.Test.YtnnfpmebopgogaaDoorQsMpPath
import Derived.Test.YtnnfpmebopgogaaDoorQsMpProveB
import Derived.Test.YtnnfpmebopgogaaDoorQsMrClimb
set_option linter.unusedVariables false
namespace Go.Proofs.YtnnfpmebopgogaaDoor.Mk
open Go.RowKit Go.Proofs.YtnnfpmebopgogaaDoor.Gn Go.Proofs.YtnnfpmebopgogaaDoor.Fd Go.Deep
theorem topL_le{ps:List (List Nat)}(h32:∀x∈ps,x.length=32):(topL ps).length≤32:=by
 cases ps with
 |nil=>rw[topL_nil];exact Nat.zero_le _
 |cons a l=>rw[topL_len (by simp) h32];exact Nat.le_refl _
theorem rtop_uni{w:World}{B:Option Addr}{m c:Nat}{P:List Rw}(h:PAny w B m c P)(h32:all32 P=true) :
  Calls Tryd.prog 42 #[.slice B m c] w fun e w'=>∃A t ca T us,e=.returned (.tuple #[.slice A t ca,T])∧Pc w' (A,t,ca,topL (con P))∧OwnT w.heap.size w' T us∧con us=txtL (con P)∧Below w.heap.size w w':=by
 rcases Nat.eq_zero_or_pos m with rfl|h1
 ·have hP:P=[]:=List.length_eq_zero_iff.1 h.len
  refine(rtop_none B c w).mono ?_
  rintro e w' ⟨rfl,rfl⟩
  rw[hP,show con []=[] from rfl,topL_nil,txtL_one (by simp)]
  exact⟨none,0,0,.slice none 0 0,[],rfl,nil_pc' w,⟨own_nil _ _ _,fun r hr=>by cases hr⟩,rfl,Below.refl _ _⟩
 ·have hf:=h.few
  refine(rtop_any m m (Nat.le_refl _) h1 (by omega) w P B c (h.p32 h32)).mono ?_
  rintro e w' ⟨A,ca,T,us,rfl,⟨hp,-⟩,ho,hx,hb⟩
  exact⟨A,32,ca,T,us,rfl,hp,ho,hx,hb⟩
def OwnTQ(ts:List (List Nat))(w:World)(e:Ending)(w':World):Prop:=∃A c us,e=.returned (.slice A us.length c)∧OwnT w.heap.size w' (.slice A us.length c) us∧con us=ts∧Below w.heap.size w w'
theorem ownB_p{l:List Nat}{w:World}{e:Ending}{w':World}(hl:∀x∈l,x < 256)(h:OwnB l w e w'):∃A n c,e=.returned (.slice A n c)∧Po w' (A,n,c,l)∧Below w.heap.size w w':=OwnB.p h hl
set_option maxHeartbeats 4000000 in
set_option maxRecDepth 100000 in
theorem RTexts_any{w:World}{B:Option Addr}{m c:Nat}{P:List Rw}(h:PAny w B m c P)(h32:all32 P=true) :
  Calls Tryd.prog 20 #[.slice B m c] w (OwnTQ (txtL (con P) ++ [2 :: (eight m ++ topL (con P))]) w):=by
 obtain⟨i0,hi,hz0,hz1,hz2⟩:=info_parts infobb
 have U:=Lib.hid (rtop_uni h h32)
 have hf:=h.few
 have LT:=Lib.hid (topL_le (h.p32 h32).con32)
 have NL:=Lib.hid (show(txtL (con P)).length≤m from by
  rcases Nat.eq_zero_or_pos m with h0|h1
  ·have hP:P=[]:=List.length_eq_zero_iff.1 (by rw[h.len,h0])
   rw[hP,txtL_one (by simp)]
   exact Nat.zero_le _
  ·have h2:=txtL_len _ (con P) (Nat.le_refl _) (by rw[con_len,h.len];exact h1)
   rw[con_len,h.len] at h2
   omega)
 generalize topL (con P)=tp at U LT ⊢
 generalize txtL (con P)=xs at U NL ⊢
 clear h h32
 go_enter Tryd.func20,Tryd.ntmps20
 go_wp2_with fail
 refine U.out.mono ?_
 rintro e w1 ⟨RA,rn,rc,T,us,rfl,p1,o1,x1,b1⟩
 have hrn:rn≤32:=by rw[show rn=tp.length from p1.len];exact LT.out
 have ND:=Lib.hid ((rroot_any m (by omega) p1 (by omega)).mono fun e w' h=>ownB_p (fun z hz=>by
  rcases List.mem_cons.1 hz with rfl|hz
  ·decide
  ·rcases List.mem_append.1 hz with h|h
   ·exact eight_lt m z h
   ·exact p1.lt z h) h)
 have D1:=Lib.hid b1
 obtain⟨TA,tc,rfl,-, -, -, -, -⟩:=Sl.own o1.own
 obtain⟨K,hK⟩:∃K,K=us.length:=⟨_,rfl⟩
 have O1:=Lib.hid o1
 have X1:=Lib.hid x1
 have hK2:K≤m:=by rw[hK,←con_len,x1];exact NL.out
 have OW1:=Lib.hid (show w1.ownsRow w.heap.size 22 1 (.slice TA K tc) K (us.map rwv) from by rw[hK];exact o1.own)
 rw[←hK]
 have HK:=Lib.hid hK
 clear p1 o1 x1 b1 hK U
 go_wp2_with (first|(go_at_call 29;(with_reducible refine ND.out.mono ?_);rintro e w2 ⟨TB,tl,tb,rfl,p2,b2⟩;have D2:=Lib.hid b2;have P2:=Lib.hid p2;have OW2:=Lib.hid (own_below OW1.out b2);have B2:=Lib.hid (D1.out.trans (b2.mono D1.out.size));clear p2 b2 ND)|(at_builtin;refine wpList_append_sl rfl _ _ 23 rfl w.heap.size 22 i0 _ 24 Tryd.underlying23 hi hz0 hz1 hz2 rfl (.slice TA K tc) K _ rfl (own_alloc OW2.out _) (some ⟨w2.heap.size,0,none⟩) 1 1 [.slice TB tl tb] rfl (fun h=>by cases h) (Sl.new_ w2 22 [.slice TB tl tb]) (fun u hu=>by simp at hu;subst hu;rfl) (by unfold maxLen;omega) (by omega) (by have:=B2.out.size;simp;omega) ?_;intro v4 w4 hown4 hgrow4;have B34:=Lib.hid (((Below.refl w.heap.size w2).alloc B2.out.size (.cells #[.slice TB tl tb] 22)).grown hgrow4 (by have:=B2.out.size;simp;omega) (own_rows OW2.out));have O4:=Lib.hid hown4;have G4:=Lib.hid hgrow4;clear hown4 hgrow4))
 go_ret
 have hP4:=(P2.out.alloc (.cells #[.slice TB tl tb] 22)).grown (own_alloc OW2.out _) G4.out
 obtain⟨A4,c4,rfl,-, -, -, -, -⟩:=Sl.own O4.out
 have e:(us ++ [((TB,tl,tb,2 :: (eight m ++ tp)):Rw)]).length=K+1:=by rw[List.length_append,←HK.out];rfl
 refine⟨A4,c4,us ++ [(TB,tl,tb,2 :: (eight m ++ tp))],by rw[e];rfl,⟨?_,fun z hz=>?_⟩,?_,B2.out.trans B34.out⟩
 ·rw[e,List.map_append]
  exact O4.out
 ·rcases List.mem_append.1 hz with h|h
  ·exact⟨((((O1.out.pcs z h).1.below D2.out)).alloc (.cells #[.slice TB tl tb] 22)).grown (own_alloc OW2.out _) G4.out,(O1.out.pcs z h).2⟩
  ·have:z=(TB,tl,tb,2 :: (eight m ++ tp)):=by simpa using h
   subst this
   refine⟨hP4,?_⟩
   have:=LT.out
   show(2 :: (eight m ++ tp)).length≤100
   rw[List.length_cons,List.length_append,eight_len]
   omega
 ·show(us ++ [_]).map _=_
  rw[List.map_append,show us.map _=con us from rfl,X1.out]
  rfl
set_option maxHeartbeats 4000000 in
set_option maxRecDepth 100000 in
theorem Fixed_any (w : World) :
    Calls Tryd.prog 21 #[] w fun e w' => ∃ (A : Addr) (us : List Rw), e = .returned (.slice (some A) 2 2) ∧ Sl w' (some A) 2 (us.map rwv) ∧ (∀ r ∈ us, Po w' r ∧ r.2.2.2.length ≤ 100) ∧ Below w.heap.size w w' := by
  have BB := (Below.refl w.heap.size w).alloc (Nat.le_refl _) (.cells #[.int .u8 5] 5)
  have PB : Pc (w.alloc (.cells #[.int .u8 5] 5)) (some ⟨w.heap.size, 0, none⟩, 1, 1, [5]) := ⟨rfl, Sl.new_ w 5 (bl [5]), fun x hx => by simp at hx; omega, Nat.le_refl _, fun h => by cases h⟩
  have C1 := Lib.hid ((show Calls Tryd.prog 37 #[.int .i64 0, .slice (some ⟨w.heap.size, 0, none⟩) 1 1] (w.alloc (.cells #[.int .u8 5] 5)) (OwnB (0 :: (eight 0 ++ [5])) (w.alloc (.cells #[.int .u8 5] 5))) from rleaft_any 0 (by decide) PB (by decide)).mono fun e w' h => ownB_p (fun z hz => by
    rcases List.mem_cons.1 hz with rfl | hz
    · decide
    · rcases List.mem_append.1 hz with h | h
      · exact eight_lt 0 z h
      · have : z = 5 := by simpa using h
        omega) h)
  have HB := Lib.hid BB
  have L1 := Lib.hid (show (0 :: (eight 0 ++ [5])).length = 10 from by rw [List.length_cons, List.length_append, eight_len]; rfl)
  generalize 0 :: (eight 0 ++ [5]) = t1 at C1 L1
  clear BB PB
  go_enter Tryd.func21, Tryd.ntmps21
  go_wp2_with (first
    | (go_at_call 37; (with_reducible refine C1.out.mono ?_); rintro e w1 ⟨A1, n1, c1, rfl, p1, b1⟩; have P1 := Lib.hid p1; have B1 := Lib.hid (HB.out.trans (b1.mono HB.out.size)); obtain rfl : n1 = 10 := p1.1.len.trans L1.out; have HS := Lib.hid (rhash_p p1.1 (by decide)); clear p1 b1)
    | (go_at_call 36; (with_reducible refine HS.out.mono ?_); rintro e w2 ⟨A2, n2, c2, rfl, p2, b2⟩; have B2 := Lib.hid (B1.out.trans (b2.mono B1.out.size)); have P12 := Lib.hid (P1.out.below b2); obtain rfl : n2 = 32 := p2.1.len.trans (dg32_len _); have L2 := Lib.hid (show (2 :: (eight 1 ++ Sh.dg false t1)).length = 41 from by rw [List.length_cons, List.length_append, eight_len, dg32_len]); have RT := Lib.hid ((show Calls Tryd.prog 29 #[.int .i64 1, .slice A2 32 c2] w2 (OwnB (2 :: (eight 1 ++ Sh.dg false t1)) w2) from rroot_any 1 (by decide) p2.1 (by omega)).mono fun e w' h => ownB_p (fun z hz => by
        rcases List.mem_cons.1 hz with rfl | hz
        · decide
        · rcases List.mem_append.1 hz with h | h
          · exact eight_lt 1 z h
          · exact p2.1.lt z h) h); clear p2 b2)
    | (go_at_call 29; (with_reducible refine RT.out.mono ?_); rintro e w3 ⟨A3, n3, c3, rfl, p3, b3⟩; have B3 := Lib.hid (B2.out.trans (b3.mono B2.out.size)); have P13 := Lib.hid (P12.out.below b3); have P3 := Lib.hid p3; clear p3 b3))
  go_ret
  refine ⟨_, [(A1, 10, c1, t1), (A3, n3, c3, 2 :: (eight 1 ++ Sh.dg false t1))], rfl, Sl.new_ w3 22 [.slice A1 10 c1, .slice A3 n3 c3], fun r hr => ?_, B3.out.alloc B3.out.size _⟩
  rcases List.mem_cons.1 hr with rfl | hr
  · exact ⟨P13.out.alloc _, by show t1.length ≤ 100; rw [L1.out]; decide⟩
  · have : r = (A3, n3, c3, 2 :: (eight 1 ++ Sh.dg false t1)) := by simpa using hr
    subst this
    exact ⟨P3.out.alloc _, by show (2 :: (eight 1 ++ Sh.dg false t1)).length ≤ 100; rw [L2.out]; decide⟩
end Go.Proofs.YtnnfpmebopgogaaDoor.Mk
namespace Go.Proofs.YtnnfpmebopgogaaDoor.Mk
open Go.RowKit Go.Proofs.YtnnfpmebopgogaaDoor.Gn Go.Proofs.YtnnfpmebopgogaaDoor.Fd Go.Deep
set_option maxHeartbeats 2000000 in
set_option maxRecDepth 100000 in
theorem RProveRange_good{B:Option Addr}{m c:Nat}{P:List Rw}{w:World}(hP:PAny w B m c P)(h32:all32 P=true){f t:Nat}(hft:f < t)(htm:t≤m) :
  Calls Tryd.prog 24 #[.slice B m c,.int .i64 (f:Int),.int .i64 (t:Int)] w fun e w'=>∃A n cap us,e=.returned (.tuple #[.slice A n cap,.int .i64 0])∧w'.ownsRow w.heap.size 22 1 (.slice A n cap) n (us.map rwv)∧(∀r∈us,Po w' r∨r∈P)∧con us=outs (con P) f t 0 m∧Below w.heap.size w w':=by
 have OK:=Lib.hid (rok_any hP 0 (by rw[h32];rfl))
 have hf:=hP.few
 have OU:=Lib.hid (show Calls Tryd.prog 52 #[.slice B m c,.int .i64 0,.int .i64 (f:Int),.int .i64 (t:Int)] w (OutQ P (outs (con P) f t 0 m) w) from router_any (con P) f t (by omega) (by omega) m m (Nat.le_refl _) (by omega) (by omega) 0 (by omega) w P B c (hP.p32 h32) (by unfold sub;rw[List.drop_zero,List.take_of_length_le (by rw[con_len,hP.len];omega)]))
 have q1:¬(f:Int) < 0:=by omega
 have q2:¬(t:Int)≤(f:Int):=by omega
 have q3:¬(m:Int) < (t:Int):=by omega
 generalize outs (con P) f t 0 m=pa at OU ⊢
 clear hP h32
 go_enter Tryd.func24,Tryd.ntmps24
 go_wp2_with (first|(go_at_call 41;(with_reducible refine OK.out.mono ?_);rintro e w1 ⟨rfl,rfl⟩)|(go_at_call 52;(with_reducible refine OU.out.mono ?_);rintro e w1 ⟨A,n,cap,us,rfl,ho,hps,hx,hb⟩;have O1:=Lib.hid ho;have PS:=Lib.hid hps;have X1:=Lib.hid hx;have B1:=Lib.hid hb;clear ho hps hx hb OU))
 go_ret2
 exact⟨A,n,cap,us,rfl,O1.out,PS.out,X1.out,B1.out⟩
def badR(n f:Int)(nr ml:Nat)(Lv Q:List Rw):Prop:=n < 1∨4096 < n∨ml=0∨f < 0∨n - ml < f∨nr≠32∨all32 Lv=false∨all32 Q=false
def checkRE(n f:Nat)(lr:List Nat)(lv pr:List (List Nat)):Int:=if pr.length≠(bes f (f+lv.length) 0 n).length then 50 else if lr=rootOf n (upv lv pr f (f+lv.length) 0 n 0) then 0 else 50
end Go.Proofs.YtnnfpmebopgogaaDoor.Mk
