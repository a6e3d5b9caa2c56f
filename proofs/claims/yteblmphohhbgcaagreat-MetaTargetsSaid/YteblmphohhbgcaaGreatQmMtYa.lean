/- Joined texts. -/
import Derived.Test.YteblmphohhbgcaaGreatQmMtY
import Derived.Test.YteblmphohhbgcaaGreatQmWrDany
import Derived.Test.YteblmphohhbgcaaGreatQmGnA
import Derived.Deep.LoopGhost
import Derived.Test.YteblmphohhbgcaaGreatQmWrDeepB
import Derived.Test.YteblmphohhbgcaaGreatQmWrBytes
set_option linter.unusedVariables false
namespace Go.Proofs.YteblmphohhbgcaaGreat.Mt
open Go.RowKit Go.Proofs.YteblmphohhbgcaaGreat.Gn Go.Proofs.YteblmphohhbgcaaGreat.Fd Go.Proofs.YteblmphohhbgcaaGreat.Wr Go.Deep
set_option maxRecDepth 100000
abbrev nbB(x:Int):Bool:=bd 0 4611686018427387904 x
theorem nb_no{x:Int}(h:¬x < 0)(h2:¬(4611686018427387904:Int) < x):nbB x=true:=by
 unfold nbB bd;rw[Bool.and_eq_true,decide_eq_true_eq,decide_eq_true_eq];omega
theorem nb_low{x:Int}(h:x < 0):nbB x=false:=by unfold nbB bd;rw[decide_eq_false (by omega),Bool.false_and]
theorem nb_high{x:Int}(h:(4611686018427387904:Int) < x):nbB x=false:=by unfold nbB bd;rw[decide_eq_false (p:=x≤4611686018427387904) (by omega),Bool.and_false]
set_option maxHeartbeats 4000000 in
theorem numbers_d{w:World}{q:Nat}{T:TypeId}{a b:Int}(h:Bl w q T #[.int .i64 a,.int .i64 b]):Calls Tryz.prog 77 #[.slice (some ⟨q,0,none⟩) 2 2] w fun e w'=>e=.returned (.bool (nbB a && nbB b))∧w=w':=by
 have c0:w.cell? ⟨q,0,none⟩=some (.int .i64 a):=h.cell_ rfl
 have c1:w.cell? ⟨q,1,none⟩=some (.int .i64 b):=h.cell_ rfl
 clear h
 obtain⟨NA,hA⟩:∃x,nbB a=x:=⟨_,rfl⟩
 obtain⟨NB,hB⟩:∃x,nbB b=x:=⟨_,rfl⟩
 rw[hA,hB]
 have HA:=Lib.hid hA
 have HB:=Lib.hid hB
 clear hA hB
 go_enter Tryz.func77,Tryz.ntmps77
 go_wp2_with fail
 go_loopw [3] (fun i wr=>∃k:Nat,k≤2∧i=.int .i64 (k:Int)∧wr=w∧(0 < k→NA=true)∧(1 < k→NB=true)) (fun i _=>2 - (intOf i).toNat)
 case atStart=>exact⟨0,by decide,rfl,rfl,(fun e=>absurd e (by decide)),(fun e=>absurd e (by decide))⟩
 case round =>
  obtain⟨k,hk,rfl,rfl,h1,h2⟩:=hrel
  obtain rfl|rfl|rfl:k=0∨k=1∨k=2:=by omega
  ·clear h1 h2
   rw[show((0:Nat):Int)=0 from rfl]
   by_cases g1:a < 0
   ·have E:=Lib.hid (show NA=false from HA.out.symm.trans (nb_low g1))
    go_wp2_with fail
    go_ret
    exact⟨by rw[E.out];rfl,rfl⟩
   by_cases g2:(4611686018427387904:Int) < a
   ·have E:=Lib.hid (show NA=false from HA.out.symm.trans (nb_high g2))
    go_wp2_with fail
    go_ret
    exact⟨by rw[E.out];rfl,rfl⟩
   have E:=Lib.hid (show NA=true from HA.out.symm.trans (nb_no g1 g2))
   go_wp2_with fail
   exact⟨⟨1,by decide,by first|rfl|trivial,by first|rfl|trivial,fun _=>E.out,(fun e=>absurd e (by decide))⟩,by simp[intOf]⟩
  ·have E1:=Lib.hid (h1 (by decide))
   clear h1 h2
   rw[show((1:Nat):Int)=1 from rfl]
   by_cases g1:b < 0
   ·have E:=Lib.hid (show NB=false from HB.out.symm.trans (nb_low g1))
    go_wp2_with fail
    go_ret
    exact⟨by rw[E.out,Bool.and_false];rfl,rfl⟩
   by_cases g2:(4611686018427387904:Int) < b
   ·have E:=Lib.hid (show NB=false from HB.out.symm.trans (nb_high g2))
    go_wp2_with fail
    go_ret
    exact⟨by rw[E.out,Bool.and_false];rfl,rfl⟩
   have E:=Lib.hid (show NB=true from HB.out.symm.trans (nb_no g1 g2))
   go_wp2_with fail
   exact⟨⟨2,by decide,by first|rfl|trivial,by first|rfl|trivial,fun _=>E1.out,fun _=>E.out⟩,by simp[intOf]⟩
  ·have E1:=Lib.hid (h1 (by decide))
   have E2:=Lib.hid (h2 (by decide))
   clear h1 h2
   rw[show((2:Nat):Int)=2 from rfl]
   go_wp2_with fail
   go_ret
   exact⟨by rw[E1.out,E2.out];rfl,rfl⟩
end Go.Proofs.YteblmphohhbgcaaGreat.Mt
namespace Go.Proofs.YteblmphohhbgcaaGreat.Mt
open Go.RowKit Go.Proofs.YteblmphohhbgcaaGreat.Gn Go.Proofs.YteblmphohhbgcaaGreat.Fd Go.Proofs.YteblmphohhbgcaaGreat.Wr Go.Deep
set_option maxRecDepth 100000
theorem bd_pos(v:Int):bd 1 4611686018427387904 v=(nbB v && decide (0 < v)):=by
 unfold nbB bd
 by_cases h:0 < v
 ·rw[decide_eq_true h,decide_eq_true (show(1:Int)≤v by omega),decide_eq_true (show(0:Int)≤v by omega),Bool.and_true]
 ·rw[decide_eq_false h,decide_eq_false (show ¬(1:Int)≤v by omega),Bool.and_false,Bool.false_and]
theorem bd_32(n:Nat):bd 32 32 (n:Int)=decide (n=32):=by
 unfold bd
 by_cases h:n=32
 ·subst h;decide
 ·rw[decide_eq_false h]
  by_cases h1:(32:Int)≤(n:Int)
  ·rw[decide_eq_false (show ¬(n:Int)≤32 by omega),Bool.and_false]
  ·rw[decide_eq_false h1,Bool.false_and]
theorem hd_eq(v e:Int):hdB v e=((nbB v && nbB e) && decide (0 < v)):=by
 unfold hdB;rw[bd_pos];show(nbB v && decide (0 < v) && nbB e)=_;cases nbB v <;> cases nbB e <;> cases decide (0 < v) <;> rfl
theorem rf_eq(v s:Int)(n:Nat):rfB v s n=(((nbB v && nbB s) && decide (0 < v)) && decide (n=32)):=by
 unfold rfB;rw[bd_pos,bd_32];show(nbB v && decide (0 < v) && (nbB s && decide (n=32)))=_;cases nbB v <;> cases nbB s <;> cases decide (0 < v) <;> cases decide (n=32) <;> rfl
set_option maxHeartbeats 4000000 in
theorem RefOK_d (v s : Int) (A : Option Addr) (n c : Nat) (w : World) : Calls Tryz.prog 83 #[.agg #[.int .i64 v, .int .i64 s, .slice A n c]] w fun e w' => e = .returned (.bool (rfB v s n)) ∧ Below w.heap.size w w' := by
  rw [rf_eq]
  have NB := Lib.hid (show Bl ((w.alloc (.cells #[.int .i64 v, .int .i64 s, .slice A n c] 38)).alloc (.cells #[.int .i64 v, .int .i64 s] 2)) (w.heap.size + 1) 2 #[.int .i64 v, .int .i64 s] from Bl.new' _ _ (by simp))
  have BB := Lib.hid (show Below w.heap.size w ((w.alloc (.cells #[.int .i64 v, .int .i64 s, .slice A n c] 38)).alloc (.cells #[.int .i64 v, .int .i64 s] 2)) from ((Below.refl _ w).alloc (Nat.le_refl _) _).alloc (by simp) _)
  have XB := Lib.hid (show Bl ((w.alloc (.cells #[.int .i64 v, .int .i64 s, .slice A n c] 38)).alloc (.cells #[.int .i64 v, .int .i64 s] 2)) w.heap.size 38 #[.int .i64 v, .int .i64 s, .slice A n c] from (Bl.new_ w _ _).alloc _)
  have CN := Lib.hid (numbers_d NB.out)
  obtain ⟨NV, hNV⟩ : ∃ b, (nbB v && nbB s) = b := ⟨_, rfl⟩
  rw [hNV] at CN ⊢
  clear hNV NB
  cases NV with
  | false =>
    rw [Bool.false_and, Bool.false_and]
    go_enter Tryz.func83, Tryz.ntmps83
    go_wp2_with (first
        | (go_at_call 77; (refine CN.out.mono ?_); rintro e1 w1 ⟨rfl, rfl⟩))
    go_ret
    exact ⟨rfl, BB.out⟩
  | true =>
    rw [Bool.true_and]
    by_cases g1 : 0 < v
    · rw [decide_eq_true g1, Bool.true_and]
      by_cases g2 : n = 32
      · subst g2
        go_enter Tryz.func83, Tryz.ntmps83
        go_wp2_with (first
            | (go_at_call 77; (refine CN.out.mono ?_); rintro e1 w1 ⟨rfl, rfl⟩))
        go_ret
        exact ⟨rfl, BB.out⟩
      · have g3 : ¬ (n : Int) = 32 := by omega
        rw [decide_eq_false g2]
        clear g2
        go_enter Tryz.func83, Tryz.ntmps83
        go_wp2_with (first
            | (go_at_call 77; (refine CN.out.mono ?_); rintro e1 w1 ⟨rfl, rfl⟩))
        go_ret
        exact ⟨by simp [g3], BB.out⟩
    · rw [decide_eq_false g1, Bool.false_and]
      go_enter Tryz.func83, Tryz.ntmps83
      go_wp2_with (first
          | (go_at_call 77; (refine CN.out.mono ?_); rintro e1 w1 ⟨rfl, rfl⟩))
      go_ret
      exact ⟨rfl, BB.out⟩
set_option maxHeartbeats 4000000 in
theorem TimeOK_d (v e rv rs : Int) (A : Option Addr) (n c : Nat) (w : World) : Calls Tryz.prog 49 #[.agg #[.int .i64 v, .int .i64 e, .int .i64 rv, .int .i64 rs, .slice A n c]] w fun e' w' => e' = .returned (.bool (tmB v e rv rs n)) ∧ Below w.heap.size w w' := by
  unfold tmB
  rw [hd_eq]
  have NB := Lib.hid (show Bl ((w.alloc (.cells #[.int .i64 v, .int .i64 e, .int .i64 rv, .int .i64 rs, .slice A n c] 40)).alloc (.cells #[.int .i64 v, .int .i64 e] 2)) (w.heap.size + 1) 2 #[.int .i64 v, .int .i64 e] from Bl.new' _ _ (by simp))
  have BB := Lib.hid (show Below w.heap.size w ((w.alloc (.cells #[.int .i64 v, .int .i64 e, .int .i64 rv, .int .i64 rs, .slice A n c] 40)).alloc (.cells #[.int .i64 v, .int .i64 e] 2)) from ((Below.refl _ w).alloc (Nat.le_refl _) _).alloc (by simp) _)
  have XB := Lib.hid (show Bl ((w.alloc (.cells #[.int .i64 v, .int .i64 e, .int .i64 rv, .int .i64 rs, .slice A n c] 40)).alloc (.cells #[.int .i64 v, .int .i64 e] 2)) w.heap.size 40 #[.int .i64 v, .int .i64 e, .int .i64 rv, .int .i64 rs, .slice A n c] from (Bl.new_ w _ _).alloc _)
  have CN := Lib.hid (numbers_d NB.out)
  obtain ⟨NV, hNV⟩ : ∃ b, (nbB v && nbB e) = b := ⟨_, rfl⟩
  rw [hNV] at CN ⊢
  clear hNV NB
  cases NV with
  | false =>
    rw [Bool.false_and, Bool.false_and]
    go_enter Tryz.func49, Tryz.ntmps49
    go_wp2_with (first
        | (go_at_call 77; (refine CN.out.mono ?_); rintro e1 w1 ⟨rfl, rfl⟩))
    go_ret
    exact ⟨rfl, BB.out⟩
  | true =>
    rw [Bool.true_and]
    by_cases g1 : 0 < v
    · rw [decide_eq_true g1, Bool.true_and]
      go_enter Tryz.func49, Tryz.ntmps49
      go_wp2_with (first
          | (go_at_call 77; (refine CN.out.mono ?_); rintro e1 w1 ⟨rfl, rfl⟩)
          | (go_at_call 83; (refine (RefOK_d rv rs A n c _).mono ?_); rintro e2 w2 ⟨rfl, h2⟩; have B2 := Lib.hid (BB.out.trans (h2.mono BB.out.size)); clear h2))
      go_ret
      exact ⟨rfl, B2.out⟩
    · rw [decide_eq_false g1, Bool.false_and]
      go_enter Tryz.func49, Tryz.ntmps49
      go_wp2_with (first
          | (go_at_call 77; (refine CN.out.mono ?_); rintro e1 w1 ⟨rfl, rfl⟩))
      go_ret
      exact ⟨rfl, BB.out⟩
theorem tg_eq(v e s k:Int)(n:Nat):tgB v e s k n=((((((nbB v && nbB e) && decide (0 < v)) && decide (0 < s)) && decide (s≤131072)) && decide (63 < k)) && decide (k < 1025) && decide (n=32)):=by
 unfold tgB
 rw[hd_eq,bd_32]
 unfold bd
 rw[show decide ((1:Int)≤s)=decide (0 < s) from decide_eq_decide.2 (by omega),show decide ((64:Int)≤k)=decide (63 < k) from decide_eq_decide.2 (by omega),show decide (k≤(1024:Int))=decide (k < 1025) from decide_eq_decide.2 (by omega)]
 simp only[Bool.and_assoc]
set_option maxHeartbeats 4000000 in
theorem TargetsOK_d (v e s k : Int) (A : Option Addr) (n c : Nat) (w : World) : Calls Tryz.prog 58 #[.agg #[.int .i64 v, .int .i64 e, .int .i64 s, .int .i64 k, .slice A n c]] w fun e' w' => e' = .returned (.bool (tgB v e s k n)) ∧ Below w.heap.size w w' := by
  rw [tg_eq]
  have NB := Lib.hid (show Bl ((w.alloc (.cells #[.int .i64 v, .int .i64 e, .int .i64 s, .int .i64 k, .slice A n c] 52)).alloc (.cells #[.int .i64 v, .int .i64 e] 2)) (w.heap.size + 1) 2 #[.int .i64 v, .int .i64 e] from Bl.new' _ _ (by simp))
  have BB := Lib.hid (show Below w.heap.size w ((w.alloc (.cells #[.int .i64 v, .int .i64 e, .int .i64 s, .int .i64 k, .slice A n c] 52)).alloc (.cells #[.int .i64 v, .int .i64 e] 2)) from ((Below.refl _ w).alloc (Nat.le_refl _) _).alloc (by simp) _)
  have XB := Lib.hid (show Bl ((w.alloc (.cells #[.int .i64 v, .int .i64 e, .int .i64 s, .int .i64 k, .slice A n c] 52)).alloc (.cells #[.int .i64 v, .int .i64 e] 2)) w.heap.size 52 #[.int .i64 v, .int .i64 e, .int .i64 s, .int .i64 k, .slice A n c] from (Bl.new_ w _ _).alloc _)
  have CN := Lib.hid (numbers_d NB.out)
  obtain ⟨NV, hNV⟩ : ∃ b, (nbB v && nbB e) = b := ⟨_, rfl⟩
  rw [hNV] at CN ⊢
  clear hNV NB
  cases NV with
  | false =>
    go_enter Tryz.func58, Tryz.ntmps58
    go_wp2_with (first
        | (go_at_call 77; (refine CN.out.mono ?_); rintro e1 w1 ⟨rfl, rfl⟩))
    go_ret
    exact ⟨by simp, BB.out⟩
  | true =>
    by_cases g0 : 0 < v
    · by_cases g1 : 0 < s
      · by_cases g2 : s ≤ 131072
        · by_cases g3 : 63 < k
          · by_cases g4 : k < 1025
            · by_cases g5 : n = 32
              · subst g5
                go_enter Tryz.func58, Tryz.ntmps58
                go_wp2_with (first
                    | (go_at_call 77; (refine CN.out.mono ?_); rintro e1 w1 ⟨rfl, rfl⟩))
                go_ret
                exact ⟨by simp [g0, g1, g2, g3, g4], BB.out⟩
              · have g6 : ¬ (n : Int) = 32 := by omega
                go_enter Tryz.func58, Tryz.ntmps58
                go_wp2_with (first
                    | (go_at_call 77; (refine CN.out.mono ?_); rintro e1 w1 ⟨rfl, rfl⟩))
                go_ret
                exact ⟨by simp [g5]; try omega, BB.out⟩
            · go_enter Tryz.func58, Tryz.ntmps58
              go_wp2_with (first
                  | (go_at_call 77; (refine CN.out.mono ?_); rintro e1 w1 ⟨rfl, rfl⟩))
              go_ret
              exact ⟨by simp; try omega, BB.out⟩
          · go_enter Tryz.func58, Tryz.ntmps58
            go_wp2_with (first
                | (go_at_call 77; (refine CN.out.mono ?_); rintro e1 w1 ⟨rfl, rfl⟩))
            go_ret
            exact ⟨by simp; try omega, BB.out⟩
        · go_enter Tryz.func58, Tryz.ntmps58
          go_wp2_with (first
              | (go_at_call 77; (refine CN.out.mono ?_); rintro e1 w1 ⟨rfl, rfl⟩))
          go_ret
          exact ⟨by simp; try omega, BB.out⟩
      · go_enter Tryz.func58, Tryz.ntmps58
        go_wp2_with (first
            | (go_at_call 77; (refine CN.out.mono ?_); rintro e1 w1 ⟨rfl, rfl⟩))
        go_ret
        exact ⟨by simp; try omega, BB.out⟩
    · go_enter Tryz.func58, Tryz.ntmps58
      go_wp2_with (first
          | (go_at_call 77; (refine CN.out.mono ?_); rintro e1 w1 ⟨rfl, rfl⟩))
      go_ret
      exact ⟨by simp; try omega, BB.out⟩
end Go.Proofs.YteblmphohhbgcaaGreat.Mt
namespace Go.Proofs.YteblmphohhbgcaaGreat.Gn
open Go.ChangeShapes Go.WideShapes Go.ChangeAt Go.RowKit Go.Deep
section
variable {H:Type} {enc:TypeId × Value→H} {P:Program} {w:World} {base:Nat} {spare:Nat→Bool} {held:Bool}
def il(l:List Int):List Value:=l.map fun x=>Value.int .i64 x
theorem il_get(l:List Int)(k:Nat):(il l)[k]?=l[k]?.map fun x=>Value.int .i64 x:=by simp[il]
end
end Go.Proofs.YteblmphohhbgcaaGreat.Gn
namespace Go.Proofs.YteblmphohhbgcaaGreat.Wr
open Go.RowKit Go.Proofs.YteblmphohhbgcaaGreat.Gn Go.Proofs.YteblmphohhbgcaaGreat.Fd Go.Deep
mutual
def pre:Tv→List Tv
 |.mk k n r A c ks=>.mk k n r A c ks :: pres ks
def pres:List Tv→List Tv
 | []=>[]
 |t :: ts=>pre t ++ pres ts
end
mutual
def dps(d:Int):Tv→List Int
 |.mk _ _ _ _ _ ks=>d :: dpss (d+1) ks
def dpss(d:Int):List Tv→List Int
 | []=>[]
 |t :: ts=>dps d t ++ dpss d ts
end
theorem pres_append(a b:List Tv):pres (a ++ b)=pres a ++ pres b:=by
 induction a with
 |nil=>simp[pres]
 |cons t a ih=>rw[List.cons_append,pres,pres,ih,List.append_assoc]
theorem dpss_append(d:Int)(a b:List Tv):dpss d (a ++ b)=dpss d a ++ dpss d b:=by
 induction a with
 |nil=>simp[dpss]
 |cons t a ih=>rw[List.cons_append,dpss,dpss,ih,List.append_assoc]
theorem pres_snoc{ks:List Tv}{k:Nat}{t:Tv}(h:ks[k]?=some t):pres (ks.take (k+1))=pres (ks.take k) ++ pre t:=by
 rw[List.take_add_one,h,pres_append];simp[pres]
theorem dpss_snoc{d:Int}{ks:List Tv}{k:Nat}{t:Tv}(h:ks[k]?=some t):dpss d (ks.take (k+1))=dpss d (ks.take k) ++ dps d t:=by
 rw[List.take_add_one,h,dpss_append];simp[dpss]
mutual
theorem pre_len:∀(v:Tv) (d:Int),(dps d v).length=(pre v).length∧(pre v).length≤sz v
 |.mk K n r A c ks,d=>by
  obtain⟨h1,h2⟩:=pres_len ks (d+1)
  rw[dps,pre,sz,List.length_cons,List.length_cons]
  omega
theorem pres_len:∀(ks:List Tv) (d:Int),(dpss d ks).length=(pres ks).length∧(pres ks).length≤szs ks
 | [],d=>by rw[dpss,pres,szs];exact⟨rfl,Nat.le_refl _⟩
 |t :: ts,d=>by
  obtain⟨h1,h2⟩:=pre_len t d
  obtain⟨h3,h4⟩:=pres_len ts d
  rw[dpss,pres,szs,List.length_append,List.length_append]
  omega
end
mutual
theorem pre_ok{w:World}:∀(v:Tv),Ok w v→∀t∈pre v,Ok w t
 |.mk K n r A c ks=>fun h t ht=>by
  rw[pre,List.mem_cons] at ht
  rcases ht with rfl|ht
  ·exact h
  ·cases h with
   |mk hn hr hs hm hc h0 hk=>exact pres_ok ks hk t ht
theorem pres_ok{w:World}:∀(ks:List Tv),(∀t∈ks,Ok w t)→∀t∈pres ks,Ok w t
 | []=>fun _ t ht=>by rw[pres] at ht;cases ht
 |x :: xs=>fun h t ht=>by
  rw[pres] at ht
  rcases List.mem_append.1 ht with h1|h1
  ·exact pre_ok x (h x List.mem_cons_self) t h1
  ·exact pres_ok xs (fun y hy=>h y (List.mem_cons_of_mem _ hy)) t h1
end
theorem szs_mem{ks:List Tv}{k:Nat}{t:Tv}(h:ks[k]?=some t):sz t+szs (ks.take k)≤szs ks:=by
 have h1:=szs_snoc h
 have h2:=szs_take ks (k+1)
 omega
theorem infoI:(Tryz.prog.info? 3).map (fun i=>(i.zero,i.size,i.bytes))=some (some (.int .i64 0),1,8):=by kernel_rfl
theorem il_one(l:List Int):∀v∈il l,v.oneCell'=true:=by
 intro v hv
 obtain⟨x,-, rfl⟩:=List.mem_map.1 hv
 rfl
theorem il_append(a b:List Int):il (a ++ b)=il a ++ il b:=by simp[il]
theorem flat_append(a b:List Tv):flat (a ++ b)=flat a ++ flat b:=by simp[flat]
theorem own_unlike{w:World}{b1 b2 s1 s2:Nat}{e1 e2:TypeId}{v1 v2:Value}{n1 n2:Nat}{x1 x2:List Value}(h1:w.ownsRow b1 e1 s1 v1 n1 x1)(h2:w.ownsRow b2 e2 s2 v2 n2 x2)(he:e1≠e2):∀k,v1.ownBlock=some k→v2.ownBlock≠some k:=by
 intro k hk hk2
 obtain⟨-, h1⟩:=h1
 obtain⟨-, h2⟩:=h2
 rcases h1 with⟨rfl,-⟩|⟨g,cap,cur,rfl,-, hh,-⟩
 ·cases hk
 rcases h2 with⟨rfl,-⟩|⟨g2,cap2,cur2,rfl,-, hh2,-⟩
 ·cases hk2
 have e:g=k:=by simpa[Value.ownBlock] using hk
 have e2:g2=k:=by simpa[Value.ownBlock] using hk2
 subst e;subst e2
 rw[hh] at hh2
 injection hh2 with hh2
 injection hh2 with _ hh2
 exact he hh2
theorem own_stays{w w':World}{b1 b2 s1 s2:Nat}{e1 e2:TypeId}{v1 v2:Value}{n1 n2:Nat}{x1 x2:List Value}(h1:w.ownsRow b1 e1 s1 v1 n1 x1)(h2:w.ownsRow b2 e2 s2 v2 n2 x2)(he:e1≠e2)(hg:w.grownBy w' v2.ownBlock):w'.ownsRow b1 e1 s1 v1 n1 x1 :=
 h1.kept hg (by
  cases hb:v1.ownBlock with
  |none=>exact Or.inl rfl
  |some k=>exact Or.inr (fun e=>own_unlike h1 h2 he k hb e.symm))
theorem own_lower{w:World}{b b' s:Nat}{e:TypeId}{v:Value}{n:Nat}{xs:List Value}(h:w.ownsRow b e s v n xs)(hb:b'≤b):w.ownsRow b' e s v n xs:=by
 obtain⟨hl,h2⟩:=h
 refine⟨hl,?_⟩
 rcases h2 with h2|⟨g,cap,cur,hv,hg,hh⟩
 ·exact .inl h2
 ·exact .inr ⟨g,cap,cur,hv,Nat.le_trans hb hg,hh⟩
def AllQ(v:Tv)(deep:Int)(u:World)(e:Ending)(w':World):Prop :=
 ∃x y,e=.returned (.tuple #[x,y])∧w'.ownsRow u.heap.size 75 4 x (pre v).length (flat (pre v))∧w'.ownsRow u.heap.size 3 1 y (pre v).length (il (dps deep v))∧Below u.heap.size u w'
set_option maxHeartbeats 4000000 in
set_option maxRecDepth 100000 in
theorem all_any{w0:World}{v:Tv}(hv:Ok w0 v):∀(deep:Int),0≤deep→deep+(sz v:Int)≤100000→∀u,Below w0.heap.size w0 u→Calls Tryz.prog 106 #[v.val,.int .i64 deep] u (AllQ v deep u):=by
 induction hv with
 | @mk K n r A c ks hn hr hs hm hc h0 hk ih =>
 intro deep d0 d1 u hu
 obtain⟨i0,hi,hz0,hz1,hz2⟩:=info_parts infoN
 obtain⟨j0,ji,jz0,jz1,jz2⟩:=info_parts infoI
 obtain⟨m,hm'⟩:∃m,ks.length=m:=⟨_,rfl⟩
 have HM:=Lib.hid hm'
 have IH:=Lib.hid ih
 have HS:=Lib.hid hs
 have HU:=Lib.hid hu
 have ES:sz (.mk K n r A c ks)=1+r.2.1+szs ks:=by rw[sz]
 have HE:=Lib.hid (show deep+1+(szs ks:Int)≤100000 from by omega)
 have m9:m≤100000:=by have:=szs_len ks;omega
 have ED:IntKind.i64.wrap (deep+1)=deep+1:=_root_.Go.IntWalk.i64_in _ (by omega)
 have hd9:deep≤100000:=by omega
 have NB:Tv.row (.mk K n r A c ks)=[.int .i64 K,.int .u64 (n:Int),.slice r.1 r.2.1 r.2.2.1,.slice A m c]:=by rw[Tv.row,hm']
 have HNB:=Lib.hid NB
 show Calls _ _ #[.agg #[.int .i64 K,.int .u64 (n:Int),.slice r.1 r.2.1 r.2.2.1,.slice A ks.length c],_] u _
 rw[hm']
 have N0:=Lib.hid (Bl.new_ u 75 #[.int .i64 K,.int .u64 (n:Int),.slice r.1 r.2.1 r.2.2.1,.slice A m c])
 have B0:=Lib.hid (below_one u (.cells #[.int .i64 K,.int .u64 (n:Int),.slice r.1 r.2.1 r.2.2.1,.slice A m c] 75))
 obtain⟨U1,hU1⟩:∃U1,(u.alloc (.cells #[.int .i64 K,.int .u64 (n:Int),.slice r.1 r.2.1 r.2.2.1,.slice A m c] 75))=U1:=⟨_,rfl⟩
 have SU:=Lib.hid (show U1.heap.size=u.heap.size+1 from by rw[←hU1];simp)
 obtain⟨U3,hU3⟩:∃U3,((U1.alloc (.cells #[.int .i64 K,.int .u64 (n:Int),.slice r.1 r.2.1 r.2.2.1,.slice A m c] 75)).alloc (.cells #[.int .i64 deep] 3))=U3:=⟨_,rfl⟩
 have BU3:=Lib.hid (show Below (u.heap.size+1) U1 U3 from by rw[←hU3];exact((Below.refl _ U1).alloc (by have:=SU.out;omega) _).alloc (by simp;have:=SU.out;omega) _)
 have OA:=Lib.hid (show U3.ownsRow (u.heap.size+1) 75 4 (.slice (some ⟨U1.heap.size,0,none⟩) 1 1) 1 [.int .i64 K,.int .u64 (n:Int),.slice r.1 r.2.1 r.2.2.1,.slice A m c] from by
  have h:=own_new4 U1 75 1 [.int .i64 K,.int .u64 (n:Int),.slice r.1 r.2.1 r.2.2.1,.slice A m c] rfl (by unfold maxLen;omega)
  rw[SU.out] at h
  rw[SU.out,←hU3]
  exact own_belowg h (below_one _ _))
 have OB:=Lib.hid (show U3.ownsRow (u.heap.size+1) 3 1 (.slice (some ⟨U1.heap.size+1,0,none⟩) 1 1) 1 [.int .i64 deep] from by
  have h:=own_new (U1.alloc (.cells #[.int .i64 K,.int .u64 (n:Int),.slice r.1 r.2.1 r.2.2.1,.slice A m c] 75)) 3 [.int .i64 deep] (by unfold maxLen;simp)
  rw[hU3] at h
  have e:(U1.alloc (.cells #[.int .i64 K,.int .u64 (n:Int),.slice r.1 r.2.1 r.2.2.1,.slice A m c] 75)).heap.size=U1.heap.size+1:=by simp
  rw[e] at h
  have h2:=SU.out
  obtain⟨ha,hb⟩:=h
  refine⟨ha,?_⟩
  rcases hb with hb|⟨g,cap,cur,hv,hg,hh⟩
  ·exact .inl hb
  ·exact .inr ⟨g,cap,cur,hv,by omega,hh⟩)
 rw[hU1] at N0 B0
 have CX:=Lib.hid (show ∀(k:Nat) (t:Tv),ks[k]?=some t→∀u',Below w0.heap.size w0 u'→Calls Tryz.prog 106 #[t.val,.int .i64 (deep+1)] u' (AllQ t (deep+1) u') from fun k t ht u' hu'=>IH.out t (List.mem_of_getElem? ht) (deep+1) (by omega) (by have h1:=szs_mem ht;have h2:=HE.out;omega) u' hu')
 have y0:U1.cell? ⟨u.heap.size,0,none⟩=some (.int .i64 K):=N0.out.cell_ rfl
 have y1:U1.cell? ⟨u.heap.size,1,none⟩=some (.int .u64 (n:Int)):=N0.out.cell_ rfl
 have y2:U1.cell? ⟨u.heap.size,2,none⟩=some (.slice r.1 r.2.1 r.2.2.1):=N0.out.cell_ rfl
 have y3:U1.cell? ⟨u.heap.size,3,none⟩=some (.slice A m c):=N0.out.cell_ rfl
 clear hn hr hs hm hc h0 hk ih hu hm' ES NB
 go_enter Tryz.func106,Tryz.ntmps106
 go_wp2_with fail
 go_loopg [8,6,7] m (fun g1 vi vl vd wr=>∃(k:Nat),vi=.int .i64 (k:Int)∧k≤m∧m - k≤g1∧Hid (wr.ownsRow (u.heap.size+1) 75 4 vl (1+(pres (ks.take k)).length) (flat (.mk K n r A c ks :: pres (ks.take k))))∧Hid (wr.ownsRow (u.heap.size+1) 3 1 vd (1+(pres (ks.take k)).length) (il (deep :: dpss (deep+1) (ks.take k))))∧Hid (Below (u.heap.size+1) U1 wr))
 case atStart =>
  refine⟨0,rfl,Nat.zero_le _,Nat.le_refl _,Lib.hid ?_,Lib.hid ?_,BU3⟩
  ·have h:=OA.out
   simpa[flat,pres,HNB.out] using h
  ·have h:=OB.out
   simpa[il,dpss,pres] using h
 case round =>
  obtain⟨k,rfl,hk,hg,HL,HD,HB⟩:=hrel
  obtain⟨E,ecap,rfl,-, -, -, -⟩:=own_form HL.out
  obtain⟨D,dcap,rfl,-, -, -, -⟩:=own_form HD.out
  have DD:=Lib.hid (show Bl wr u.heap.size 75 _ from(HB.out.block _ (by omega)).trans N0.out)
  have z3:wr.cell? ⟨u.heap.size,3,none⟩=some (.slice A m c):=DD.out.cell_ rfl
  by_cases hlt:k < m
  ·obtain⟨t,ht⟩:∃t,ks[k]?=some t:=⟨_,List.getElem?_eq_getElem (by have:=HM.out;omega)⟩
   have q0:(k:Int) < (m:Int):=by omega
   have WB:=HU.out.trans ((B0.out.trans (HB.out.mono (Nat.le_succ _))).mono HU.out.size)
   have CK:=Lib.hid (CX.out k t ht wr WB)
   have SP:=Lib.hid (pres_snoc ht)
   have SD:=Lib.hid (dpss_snoc (d:=deep+1) ht)
   have PL:=pre_len t (deep+1)
   have PT:=(pres_len (ks.take (k+1)) 0).2
   have ST:=szs_take ks (k+1)
   rw[SP.out,List.length_append] at PT
   have jw:IntKind.i64.wrap ((k:Int)+1)=((k+1:Nat):Int):=by simp only[IntKind.wrap_i64];omega
   obtain⟨P,hP⟩:∃P,(pres (ks.take k)).length=P:=⟨_,rfl⟩
   obtain⟨T,hT⟩:∃T,(pre t).length=T:=⟨_,rfl⟩
   have HT:=Lib.hid hT
   have HP:=Lib.hid hP
   have TM:P+T≤100000:=by have:=HE.out;omega
   rw[hP] at HL HD ⊢
   obtain⟨pt,hpt⟩:∃pt,pre t=pt:=⟨_,rfl⟩
   obtain⟨dt,hdt⟩:∃dt,dps (deep+1) t=dt:=⟨_,rfl⟩
   have CK:=Lib.hid (show Calls Tryz.prog 106 #[t.val,.int .i64 (deep+1)] wr (fun e w'=>∃x y,e=.returned (.tuple #[x,y])∧w'.ownsRow wr.heap.size 75 4 x T (flat pt)∧w'.ownsRow wr.heap.size 3 1 y T (il dt)∧Below wr.heap.size wr w') from by
    have h:=CK.out
    unfold AllQ at h
    rw[hT,hpt,hdt] at h
    exact h)
   have HPT:=Lib.hid hpt
   have HDT:=Lib.hid hdt
   obtain⟨K2,N2',r2,B2,cc2,us2⟩:=t
   obtain⟨ad,rfl,ae,hae,c0,c1,c2,c3,l1⟩:=kid_cells HS.out ht WB
   clear ht WB PL PT ST hP hT hpt hdt
   go_wp2_with (first
    |(go_at_call 106;(refine CK.out.mono ?_);rintro e w1 ⟨x,y,rfl,ox,oy,hb⟩;obtain⟨X,xc,rfl,xs,xn,-, -⟩:=own_form ox;obtain⟨Y,yc,rfl,ys,yn,-, -⟩:=own_form oy;have XS:=Lib.hid xs;have XN:=Lib.hid xn;have YN:=Lib.hid yn;have OY:=Lib.hid oy;have HL1:=Lib.hid (own_belowg HL.out hb);have HD1:=Lib.hid (own_belowg HD.out hb);have B1:=Lib.hid (HB.out.trans (hb.mono (by have h1:=HB.out.size;have h2:=SU.out;omega)));clear ox oy hb xs xn ys yn)
    |(at_builtin;refine wpList_append_at _ rfl _ _ 72 rfl (u.heap.size+1) 75 i0 _ 4 64 Tryz.underlying72 hi hz0 hz1 hz2 (by kernel_rfl) (by decide) (.slice E (1+P) ecap) (1+P) _ rfl HL1.out X T xc (flat pt) rfl XN.out XS.out (flat_one pt) (by unfold maxLen;omega) (by omega) (by have h1:=B1.out.size;have h2:=SU.out;omega) ?_))
   rintro v4 w4 hown4 hgrow4 -
   have OL4:=Lib.hid hown4
   have HD4:=Lib.hid (own_stays HD1.out HL1.out (by decide) hgrow4)
   have OY4:=Lib.hid (own_stays OY.out HL1.out (by decide) hgrow4)
   have B4:=Lib.hid (B1.out.grown hgrow4 (by have h1:=B1.out.size;have h2:=SU.out;omega) (fun k hk=>(own_ltg HL1.out k hk).1))
   have YS:=Lib.hid (show Sl w4 Y (T*1) (il dt) from by
    obtain⟨Y2,yc2,e2,h2,-, -, -⟩:=own_form OY4.out
    cases e2
    exact h2)
   clear hown4 hgrow4 OY XS
   obtain⟨E4,ecap4,rfl,-, -, -, -⟩:=own_form OL4.out
   go_wp2_with (at_builtin;refine wpList_append_at _ rfl _ _ 178 rfl (u.heap.size+1) 3 j0 _ 1 8 Tryz.underlying178 ji jz0 jz1 jz2 rfl (by decide) (.slice D (1+P) dcap) (1+P) _ rfl HD4.out Y T yc (il dt) rfl YN.out YS.out (il_one dt) (by unfold maxLen;omega) (by omega) (by have h1:=B4.out.size;have h2:=SU.out;omega) ?_)
   rintro v5 w5 hown5 hgrow5 -
   have OD5:=Lib.hid hown5
   have OL5:=Lib.hid (own_stays OL4.out HD4.out (by decide) hgrow5)
   have B5:=Lib.hid (B4.out.grown hgrow5 (by have h1:=B4.out.size;have h2:=SU.out;omega) (fun k hk=>(own_ltg HD4.out k hk).1))
   clear hown5 hgrow5
   obtain⟨D5,dcap5,rfl,-, -, -, -⟩:=own_form OD5.out
   go_wp2_with fail
   go_roundg (m - (k+1))
   case measure=>omega
   case rel =>
    have e1:=SP.out
    have e2:=SD.out
    rw[HPT.out] at e1
    rw[HDT.out] at e2
    have e3:(pres (ks.take (k+1))).length=P+T:=by rw[e1,List.length_append,HP.out,←HPT.out,HT.out]
    refine⟨k+1,by first|rfl|exact congrArg _ jw,by omega,Nat.le_refl _,Lib.hid ?_,Lib.hid ?_,B5⟩
    ·rw[e3,e1,←List.cons_append,flat_append]
     have h:=OL5.out
     rw[show 1+(P+T)=1+P+T by omega]
     exact h
    ·rw[e3,e2,←List.cons_append,il_append]
     have h:=OD5.out
     rw[show 1+(P+T)=1+P+T by omega]
     exact h
  ·obtain rfl:k=m:=by omega
   have q0:¬(k:Int) < (k:Int):=by omega
   have e:ks.take k=ks:=List.take_of_length_le (by have:=HM.out;omega)
   rw[e] at HL HD
   go_wp2_with fail
   go_ret2
   refine⟨_,_,rfl,?_,?_,B0.out.trans (HB.out.mono (Nat.le_succ _))⟩
   ·have h:=own_lower HL.out (Nat.le_succ _)
    rw[pre,List.length_cons,show(pres ks).length+1=1+(pres ks).length from Nat.add_comm _ _]
    exact h
   ·have h:=own_lower HD.out (Nat.le_succ _)
    rw[pre,List.length_cons,dps,show(pres ks).length+1=1+(pres ks).length from Nat.add_comm _ _]
    exact h
end Go.Proofs.YteblmphohhbgcaaGreat.Wr
