/- Joined texts. -/
import Derived.Test.YtnnfpmebopgogaaDoorQrMpCutD
import Derived.Test.YtnnfpmebopgogaaDoorQrMpRLeaf
set_option linter.unusedVariables false
namespace Go.Proofs.YtnnfpmebopgogaaDoor.Mk
open Go.RowKit Go.Proofs.YtnnfpmebopgogaaDoor.Gn Go.Proofs.YtnnfpmebopgogaaDoor.Fd Go.Deep
def lfs(l:List Nat)(q k:Nat):List (List Nat):=(List.range k).map fun i=>Sh.dg false (0 :: (eight i ++ ck l q i))
theorem lfs_succ(l:List Nat)(q k:Nat):lfs l q (k+1)=lfs l q k ++ [Sh.dg false (0 :: (eight k ++ ck l q k))]:=by unfold lfs;rw[List.range_succ,List.map_append];rfl
theorem lfs_32(l:List Nat)(q k:Nat):∀x∈lfs l q k,x.length=32:=fun x hx=>by
 obtain⟨i,-, rfl⟩:=List.mem_map.1 hx
 exact dg32_len _
def BE(x:List Nat)(k:Int)(w:World)(e:Ending)(w':World):Prop:=∃A n c,e=.returned (.tuple #[.slice A n c,.int .i64 k])∧Pc w' (A,n,c,x)∧Below w.heap.size w w'
theorem topL_nil:topL []=[]:=by rw[topL];simp
theorem RRoot_be{w:World}{B:Option Addr}{m c:Nat}{P:List Rw}(h:PAny w B m c P)(h32:all32 P=true) :
  Calls Tryd.prog 12 #[.slice B m c] w (BE (rootOf m (topL (con P))) 0 w):=by
 rcases Nat.eq_zero_or_pos m with rfl|h1
 ·have hP:P=[]:=List.length_eq_zero_iff.1 h.len
  refine(RRoot_none h).mono ?_
  rintro e w' ⟨A,d,rfl,hp,hb⟩
  rw[hP,show con []=[] from rfl,topL_nil]
  exact⟨A,32,d,rfl,hp.1,hb⟩
 ·refine(RRoot_good h h32 h1).mono ?_
  rintro e w' ⟨A,d,rfl,hp,hb⟩
  exact⟨A,32,d,rfl,hp.1,hb⟩
theorem Root_be{w:World}{B:Option Addr}{m c:Nat}{P:List Rw}(h:PAny w B m c P)(h32:all32 P=true)(ts:Sh.Tab w) :
  Calls Tryd.prog 11 #[.slice B m c] w (BE (rootOf m (topL (con P))) 0 w):=by
 rcases Nat.eq_zero_or_pos m with rfl|h1
 ·have hP:P=[]:=List.length_eq_zero_iff.1 h.len
  refine(Root_none h ts).mono ?_
  rintro e w' ⟨g,rfl,hp,-, hb⟩
  rw[hP,show con []=[] from rfl,topL_nil]
  exact⟨_,32,32,rfl,hp,hb⟩
 ·refine(Root_good h h32 h1 ts).mono ?_
  rintro e w' ⟨g,rfl,hp,-, hb⟩
  exact⟨_,32,32,rfl,hp,hb⟩
theorem pany_lfs{w:World}{A:Option Addr}{m c:Nat}{us:List Rw}{l:List Nat}{q:Nat}(hs:Sl w A m (us.map rwv))(hc:con us=lfs l q m)(hp:∀r∈us,Pc w r)(hm:m≤1500)(hmc:m≤c):PAny w A m c us∧all32 us=true:=by
 have e:∀r∈us,r.2.1=32:=fun r hr=>by
  rw[(hp r hr).len]
  exact lfs_32 l q m _ (by rw[←hc];exact List.mem_map.2 ⟨r,hr,rfl⟩)
 refine⟨⟨hs,fun r hr=>⟨hp r hr,by rw[e r hr];decide⟩,hm,hmc⟩,?_⟩
 unfold all32
 rw[List.all_eq_true]
 exact fun r hr=>decide_eq_true (e r hr)
def LvRel(l:List Nat)(q m:Nat)(w:World)(v i:Value)(wr:World):Prop :=
 ∃(k:Nat) (us:List Rw),k≤m∧i=.int .i64 (k:Int)∧wr.ownsRow w.heap.size 22 1 v k (us.map rwv)∧con us=lfs l q k∧(∀r∈us,Po wr r)∧Below w.heap.size w wr
set_option maxRecDepth 100000 in
set_option maxHeartbeats 4000000 in
theorem RLeaves_ok {A : Option Addr} {L c : Nat} {l : List Nat} {w : World} (h : Pc w (A, L, c, l)) (q : Nat) (h64 : 64 ≤ q) (hq : q ≤ 1024) (hL : L ≤ 131072) (m : Nat) (hm : m = (L + q - 1) / q) :
    Calls Tryd.prog 44 #[.slice A L c, .int .i64 (q : Int)] w fun e w' => ∃ A' c' us, e = .returned (.tuple #[.slice A' m c', .int .i64 0]) ∧ w'.ownsRow w.heap.size 22 1 (.slice A' m c') m (us.map rwv) ∧ con us = lfs l q m ∧ (∀ r ∈ us, Po w' r) ∧ Below w.heap.size w w' := by
  obtain ⟨i0, hi, hz0, hz1, hz2⟩ := info_parts infobb
  have CC := Lib.hid (RCut_ok h q h64 hq hL m hm)
  have hm9 : m ≤ 131072 := by rw [hm]; exact Nat.le_trans (Nat.div_le_div_left h64 (by decide)) (by omega)
  have HLq := Lib.hid (fun i => show (ck l q i).length ≤ 1024 from by rw [ck_len]; unfold ckl; exact Nat.le_trans (Nat.min_le_left _ _) hq)
  clear h hm hL h64 hq
  go_enter Tryd.func44, Tryd.ntmps44
  go_wp2_with (go_at_call 71; (with_reducible refine CC.out.mono ?_); rintro e w1 ⟨A1, c1, rows, rfl, k1, b1⟩; have K1 := Lib.hid k1; have B1 := Lib.hid b1; clear k1 b1)
  have RL := Lib.hid (show rows.length = m by have := K1.out.row.1; rwa [List.length_map] at this)
  have R0 := Lib.hid (show LvRel l q m w1 (.slice none 0 0) (.int .i64 0) w1 from ⟨0, [], Nat.zero_le _, rfl, own_nil _ _ _, rfl, (fun r hr => by cases hr), Below.refl _ _⟩)
  clear CC
  go_loopw [8, 9] (fun v i wr => LvRel l q m w1 v i wr) (fun _ i _ => m - (intOf i).toNat)
  case atStart => exact R0.out
  case round =>
    obtain ⟨k, us, hk, rfl, hown, hcon, hpo, hb⟩ := hrel
    have O1 := Lib.hid hown
    have CN := Lib.hid hcon
    have PO := Lib.hid hpo
    have HB := Lib.hid hb
    have hbs := hb.size
    by_cases hlt : k < m
    · obtain ⟨r, hr⟩ : ∃ r, rows[k]? = some r := ⟨rows[k]'(by have := RL.out; omega), List.getElem?_eq_getElem _⟩
      obtain ⟨ad, hA, hcell⟩ := K1.out.row.2 k (rwv r) (by rw [List.getElem?_map, hr]; rfl)
      cases hA
      have hpr := (K1.out.pcs r (List.mem_of_getElem? hr)).below hb
      have hxc : r.2.2.2 = ck l q k := by
        have := congrArg (fun z => z[k]?) K1.out.cont
        simpa [hr, hlt] using this
      obtain ⟨A2, n2, c2, x⟩ := r
      have hxc : x = ck l q k := hxc
      subst hxc
      have hcl : wr.cell? (ad.add k) = some (.slice A2 n2 c2) := (hb.cell (cell_lt hcell)).trans hcell
      have LF := Lib.hid (RLeaf_any k (by omega) hpr (by rw [show n2 = _ from hpr.len]; exact HLq.out k))
      clear hr hcell hpr hown hcon hpo hb
      go_wp2_with (first
        | (go_at_call 10; (with_reducible refine LF.out.mono ?_); rintro e w2 ⟨B, d, rfl, hp, hb2⟩; have P2 := Lib.hid hp; have B2 := Lib.hid (HB.out.trans (hb2.mono HB.out.size)); have O2 := Lib.hid (own_below O1.out hb2); have PO2 := Lib.hid (fun r hr => (PO.out r hr).below hb2); clear hp hb2)
        | (at_builtin; refine wpList_append_sl rfl (.tmp 33) (.tmp 35) 23 rfl w1.heap.size 22 i0 _ 24 Tryd.underlying23 hi hz0 hz1 hz2 rfl _ k (us.map rwv) rfl (own_alloc O2.out _) (some ⟨w2.heap.size, 0, none⟩) 1 1 [.slice B 32 d] rfl (fun e => by cases e) (Sl.new_ w2 22 [.slice B 32 d]) (by intro u hu; simp at hu; subst hu; rfl) (by unfold maxLen; omega) (by omega) (by have := B2.out.size; simp; omega) ?_; intro v3 w3 hown3 hgr3; have O3 := Lib.hid hown3; have B3 := Lib.hid ((B2.out.alloc B2.out.size (.cells #[.slice B 32 d] 22)).grown hgr3 (by have := B2.out.size; simp; omega) (own_rows O2.out)); have PO3 := Lib.hid (show ∀ z ∈ us ++ [((B, 32, d, Sh.dg false (0 :: (eight k ++ ck l q k))) : Rw)], Po w3 z from fun z hz => by
            rcases List.mem_append.1 hz with h | h
            · exact ((PO2.out z h).alloc (.cells #[.slice B 32 d] 22)).grown (own_alloc O2.out _) hgr3
            · rw [show z = _ by simpa using h]; exact (P2.out.alloc (.cells #[.slice B 32 d] 22)).grown (own_alloc O2.out _) hgr3); clear hown3 hgr3))
      refine ⟨⟨k + 1, us ++ [(B, 32, d, Sh.dg false (0 :: (eight k ++ ck l q k)))], by omega, by go_num, ?_, ?_, PO3.out, B3.out⟩, by simp [intOf]; omega⟩
      · rw [List.map_append]; exact O3.out
      · rw [show con (us ++ [(B, 32, d, Sh.dg false (0 :: (eight k ++ ck l q k)))]) = con us ++ [Sh.dg false (0 :: (eight k ++ ck l q k))] by simp [con], CN.out, lfs_succ]
    · obtain rfl : k = m := by omega
      obtain ⟨A2, c2, rfl, -⟩ := Sl.own O1.out
      clear hown hcon hpo hb
      go_wp2_with fail
      go_ret2
      exact ⟨A2, c2, us, rfl, own_base O1.out B1.out.size, CN.out, PO.out, B1.out.trans (HB.out.mono B1.out.size)⟩
set_option maxRecDepth 100000 in
set_option maxHeartbeats 2000000 in
theorem ROf_ok{A:Option Addr}{L c:Nat}{l:List Nat}{w:World}(h:Pc w (A,L,c,l))(q:Nat)(h64:64≤q)(hq:q≤1024)(hL:L≤2000)(m:Nat)(hm:m=(L+q - 1) / q) :
  Calls Tryd.prog 14 #[.slice A L c,.int .i64 (q:Int)] w (BE (rootOf m (topL (lfs l q m))) 0 w):=by
 have CC:=Lib.hid (RLeaves_ok h q h64 hq (by omega) m hm)
 have hm9:m≤1500:=by rw[hm];exact Nat.le_trans (Nat.div_le_div_left h64 (by decide)) (by omega)
 clear h hm hL h64 hq
 go_enter Tryd.func14,Tryd.ntmps14
 go_wp2_with (first
  |(go_at_call 44;(with_reducible refine CC.out.mono ?_);rintro e w1 ⟨A1,c1,us,rfl,o1,k1,p1,b1⟩;obtain⟨A',c',e1,s1,-, mc1,-, -⟩:=Sl.own o1;cases e1;have PL:=pany_lfs s1 k1 (fun r hr=>(p1 r hr).1) hm9 mc1;have RR:=Lib.hid (RRoot_be PL.1 PL.2);rw[k1] at RR;have B1:=Lib.hid b1;clear o1 s1 mc1 k1 p1 b1 PL CC)
  |(go_at_call 12;(with_reducible refine RR.out.mono ?_);rintro e w2 ⟨A2,n2,c2,rfl,hp,hb⟩;have P2:=Lib.hid hp;have B2:=Lib.hid (B1.out.trans (hb.mono B1.out.size));clear hp hb))
 go_ret2
 exact⟨A2,n2,c2,rfl,P2.out,B2.out⟩
theorem pc_set{w:World}{r:Rw}(h:Pc w r){g:Nat}(hg:∀ad,r.1=some ad→ad.block≠g)(k:Nat)(v:Value):Pc (w.setCell ⟨g,k,none⟩ v) r :=
 ⟨h.len,h.row.only (only_set (World.grownBy.refl w (some g)) (p:=⟨g,k,none⟩) (Or.inl rfl) v) (fun ad e h2=>hg ad e (by injection h2 with h3;exact h3.symm)),h.lt,h.cap,h.nil⟩
def OfRel(l:List Nat)(q m:Nat)(w:World)(g:Nat)(rows:List Rw)(i:Value)(wr:World):Prop :=
 ∃(k:Nat) (us:List Rw),k≤m∧i=.int .i64 (k:Int)∧us.length=k∧Bl wr g 22 ((us ++ rows.drop k).map rwv).toArray∧con us=lfs l q k∧(∀r∈us,Pc wr r∧∃g2,r.1=some ⟨g2,0,none⟩∧g < g2)∧(∀r∈rows,Cb wr w.heap.size r)∧Below w.heap.size w wr
set_option maxRecDepth 100000 in
set_option maxHeartbeats 4000000 in
theorem Of_ok{A:Option Addr}{L c:Nat}{l:List Nat}{w:World}(h:Pc w (A,L,c,l))(q:Nat)(h64:64≤q)(hq:q≤1024)(hL:L≤2000)(m:Nat)(hm:m=(L+q - 1) / q)(ts:Sh.Tab w) :
  Calls Tryd.prog 13 #[.slice A L c,.int .i64 (q:Int)] w (BE (rootOf m (topL (lfs l q m))) 0 w):=by
 have CC:=Lib.hid (Cut_own h q h64 hq (by omega) m hm)
 have hm9:m≤1500:=by rw[hm];exact Nat.le_trans (Nat.div_le_div_left h64 (by decide)) (by omega)
 have HLq:=Lib.hid (fun i=>show(ck l q i).length≤1024 from by rw[ck_len];unfold ckl;exact Nat.le_trans (Nat.min_le_left _ _) hq)
 have TS:=Lib.hid ts
 clear h hm hL h64 hq ts
 go_enter Tryd.func13,Tryd.ntmps13
 go_wp2_with (go_at_call 43;(with_reducible refine CC.out.mono ?_);rintro e w1 ⟨rows,rfl,o1,k1,p1,b1⟩;have O1:=Lib.hid o1;have K1:=Lib.hid k1;have P1:=Lib.hid p1;have B1:=Lib.hid b1;clear o1 k1 p1 b1 CC)
 have RL:=Lib.hid (show rows.length=m by have:=O1.out.1;rwa [List.length_map,Nat.mul_one] at this)
 have BL0:=Lib.hid (show Bl w1 w.heap.size 22 (rows.map rwv).toArray from by
  obtain⟨-, h2⟩:=O1.out
  rcases h2 with⟨h3,-⟩|⟨g,cap,cur,hv,hb,hh,hn,hm2,hc,hx⟩
  ·cases h3
  ·cases hv
   rw[List.take_of_length_le (by rw[Array.length_toList,hc];exact Nat.le_refl _)] at hx
   rw[←hx]
   exact hh)
 obtain⟨g,hg⟩:∃g,g=w.heap.size:=⟨_,rfl⟩
 rw[←hg] at BL0 ⊢
 have HG:=Lib.hid (show w.heap.size≤g by omega)
 have GL:=Lib.hid BL0.out.lt
 have R0:=Lib.hid (show OfRel l q m w g rows (.int .i64 0) w1 from⟨0,[],Nat.zero_le _,rfl,rfl,by simpa using BL0.out,rfl,(fun r hr=>by cases hr),P1.out,B1.out⟩)
 clear O1 P1 hg
 go_loopw [21] (fun i wr=>OfRel l q m w g rows i wr) (fun i _=>m - (intOf i).toNat)
 case atStart=>exact R0.out
 case round =>
  obtain⟨k,us,hk,rfl,hul,hbl,hcon,hpo,hcb,hb⟩:=hrel
  have BL:=Lib.hid hbl
  have CN:=Lib.hid hcon
  have PO:=Lib.hid hpo
  have CB:=Lib.hid hcb
  have HB:=Lib.hid hb
  have UL:=Lib.hid hul
  by_cases hlt:k < m
  ·obtain⟨r,hr⟩:∃r,rows[k]?=some r:=⟨rows[k]'(by have:=RL.out;omega),List.getElem?_eq_getElem _⟩
   have hxc:r.2.2.2=ck l q k:=by
    have:=congrArg (fun z=>z[k]?) K1.out
    rw[ck_fin] at this
    simpa[hr,hlt] using this
   have hpr:=(hcb r (List.mem_of_getElem? hr)).pc
   have hcur:((us ++ rows.drop k).map rwv).toArray[k]?=some (rwv r):=by
    rw[List.getElem?_toArray,List.getElem?_map,List.getElem?_append_right (by omega),List.getElem?_drop,show k+(k - us.length)=k by omega,hr];rfl
   have hcl0:=hbl.cell_ hcur
   have hfz:=hbl.frozen k
   obtain⟨A2,n2,c2,x⟩:=r
   have hxc:x=ck l q k:=hxc
   subst hxc
   have hcl:wr.cell? ⟨g,k,none⟩=some (.slice A2 n2 c2):=hcl0
   have LF:=Lib.hid (Leaf_any k (by omega) hpr (by rw[show n2=_ from hpr.len];exact HLq.out k) (TS.out.below hb))
   have HR:=Lib.hid hr
   clear hr hpr hbl hcon hpo hcb hb hcur hul hcl0
   go_wp2_with (go_at_call 9;(with_reducible refine LF.out.mono ?_);rintro e w2 ⟨g3,rfl,hp,hg3,hb2⟩;have P2:=Lib.hid hp;have G3:=Lib.hid hg3;have B2:=Lib.hid hb2;have BL2:=Lib.hid (BL.out.below' hb2);have c3:=(BL.out.below' hb2).cell_ (i:=k) (v:=.slice A2 n2 c2) (by rw[List.getElem?_toArray,List.getElem?_map,List.getElem?_append_right (by have:=UL.out;omega),List.getElem?_drop,show k+(k - us.length)=k by have:=UL.out;omega,HR.out];rfl);have f3:=(BL.out.below' hb2).frozen k;clear hp hg3 hb2)
   have hgl:=BL.out.lt
   have hg3:g < g3:=Nat.lt_of_lt_of_le hgl G3.out
   refine⟨⟨k+1,us ++ [(some ⟨g3,0,none⟩,32,32,Sh.dg false (0 :: (eight k ++ ck l q k)))],by omega,by go_num,by rw[List.length_append,UL.out];rfl,?_,?_,?_,?_,?_⟩,by simp[intOf];omega⟩
   ·have h:=BL2.out.set_ k (.slice (some ⟨g3,0,none⟩) 32 32)
    have e:((us ++ rows.drop k).map rwv).toArray.setIfInBounds k (.slice (some ⟨g3,0,none⟩) 32 32)=((us ++ [((some ⟨g3,0,none⟩,32,32,Sh.dg false (0 :: (eight k ++ ck l q k))):Rw)] ++ rows.drop (k+1)).map rwv).toArray:=by
     rw[List.setIfInBounds_toArray]
     congr 1
     have hd:rows.drop k=(A2,n2,c2,ck l q k) :: rows.drop (k+1):=by
      have hkr:k < rows.length:=by have:=RL.out;omega
      rw[List.drop_eq_getElem_cons hkr]
      have:rows[k]?=some rows[k]:=List.getElem?_eq_getElem hkr
      rw[HR.out] at this
      rw[←Option.some.inj this]
     rw[hd,List.map_append,List.set_append_right _ _ (by rw[List.length_map];have:=UL.out;omega),List.length_map,UL.out,Nat.sub_self]
     simp[rwv]
    rw[←e]
    exact h
   ·rw[show con (us ++ [((some ⟨g3,0,none⟩,32,32,Sh.dg false (0 :: (eight k ++ ck l q k))):Rw)])=con us ++ [Sh.dg false (0 :: (eight k ++ ck l q k))] by simp[con],CN.out,lfs_succ]
   ·intro z hz
    rcases List.mem_append.1 hz with h|h
    ·obtain⟨h1,g2,h2,h3⟩:=PO.out z h
     exact⟨pc_set (h1.below B2.out) (fun ad e=>by rw[h2] at e;injection e with e;rw[←e];exact(show g2≠g by omega)) _ _,g2,h2,h3⟩
    ·have:z=(some ⟨g3,0,none⟩,32,32,Sh.dg false (0 :: (eight k ++ ck l q k))):=by simpa using h
     subst this
     exact⟨pc_set P2.out (fun ad e=>by injection e with e;rw[←e];exact(show g3≠g by omega)) _ _,g3,rfl,hg3⟩
   ·intro z hz
    refine((CB.out z hz).keep (row:=none) (grown_of_below B2.out) (fun j cs e=>by cases e)).keep (only_set (World.grownBy.refl w2 (some g)) (p:=⟨g,k,none⟩) (Or.inl rfl) _) ?_
    rintro j cs e hj
    cases e
    have h:=BL2.out
    unfold Bl at h
    rw[h] at hj
    exact absurd hj (by simp)
   ·exact(HB.out.trans (B2.out.mono HB.out.size)).setCell (p:=⟨g,k,none⟩) HG.out _
  ·obtain rfl:k=m:=by omega
   have hd:rows.drop k=[]:=List.drop_eq_nil_of_le (by rw[RL.out];exact Nat.le_refl _)
   rw[hd,List.append_nil] at hbl
   have PL:=pany_lfs (w:=wr) (A:=some ⟨g,0,none⟩) (m:=k) (c:=k) (us:=us) (l:=l) (q:=q) (Sl.of_bl hbl 0 _ _ (by rw[List.length_map];exact hul) (fun j v hv=>by rw[Nat.zero_add,List.getElem?_toArray];exact hv)) hcon (fun r hr=>(hpo r hr).1) hm9 (Nat.le_refl _)
   have RR:=Root_be PL.1 PL.2 (TS.out.below hb)
   rw[hcon] at RR
   have RR:=Lib.hid RR
   clear hbl hcon hpo hcb hb hul hd PL
   go_wp2_with (go_at_call 11;(with_reducible refine RR.out.mono ?_);rintro e w2 ⟨A2,n2,c2,rfl,hp,hb2⟩;have P2:=Lib.hid hp;have B2:=Lib.hid (HB.out.trans (hb2.mono HB.out.size));clear hp hb2)
   go_ret2
   exact⟨A2,n2,c2,rfl,P2.out,B2.out⟩
end Go.Proofs.YtnnfpmebopgogaaDoor.Mk
