/- Joined texts. -/
import Derived.Deep.RegionWith
import Derived.Laws.BytesArg
import Derived.Test.YtnnfpmebopgogaaDoorQrCkC
set_option linter.unusedVariables false
namespace Go.Proofs.YtnnfpmebopgogaaDoor.Mk
open Go.RowKit Go.Proofs.YtnnfpmebopgogaaDoor.Gn Go.Proofs.YtnnfpmebopgogaaDoor.Fd Go.Deep
set_option maxRecDepth 100000 in
theorem Cut_no(A:Option Addr)(L c:Nat)(q k:Int)(hk:k=1∨k=2)(w:World)(h:∀w,Calls Tryd.prog 30 #[.int .i64 (L:Int),.int .i64 q] w fun e w'=>e=.returned (.tuple #[.int .i64 0,.int .i64 k])∧w=w') :
  Calls Tryd.prog 43 #[.slice A L c,.int .i64 q] w fun e w'=>e=.returned (.tuple #[.slice none 0 0,.int .i64 k])∧w=w':=by
 have CC:=Lib.hid h
 clear h
 rcases hk with rfl|rfl
 all_goals
  go_enter Tryd.func43,Tryd.ntmps43
  go_wp2_with (go_at_call 30;(with_reducible refine(CC.out _).mono ?_);rintro e w1 ⟨rfl,rfl⟩)
  go_ret2
  exact⟨rfl,rfl⟩
set_option maxRecDepth 100000 in
theorem RCut_no(A:Option Addr)(L c:Nat)(q k:Int)(hk:k=1∨k=2)(w:World)(h:∀w,Calls Tryd.prog 88 #[.int .i64 (L:Int),.int .i64 q] w fun e w'=>e=.returned (.tuple #[.int .i64 0,.int .i64 k])∧w=w') :
  Calls Tryd.prog 71 #[.slice A L c,.int .i64 q] w fun e w'=>e=.returned (.tuple #[.slice none 0 0,.int .i64 k])∧w=w':=by
 have CC:=Lib.hid h
 clear h
 rcases hk with rfl|rfl
 all_goals
  go_enter Tryd.func71,Tryd.ntmps71
  go_wp2_with (go_at_call 88;(with_reducible refine(CC.out _).mono ?_);rintro e w1 ⟨rfl,rfl⟩)
  go_ret2
  exact⟨rfl,rfl⟩
set_option maxRecDepth 100000 in
theorem RCount_arg(s c:Int)(h:s < 0∨c < 64∨1024 < c)(w:World) :
  Calls Tryd.prog 88 #[.int .i64 s,.int .i64 c] w fun e w'=>e=.returned (.tuple #[.int .i64 0,.int .i64 1])∧w=w':=by
 by_cases h1:s < 0
 ·have t1:decide (s < 0)=true:=decide_eq_true h1
  clear h
  go_enter Tryd.func88,Tryd.ntmps88
  go_wp2_with fail
  go_ret2
  exact⟨rfl,rfl⟩
 ·have t1:decide (s < 0)=false:=decide_eq_false h1
  by_cases h2:c < 64
  ·have t2:decide (c < 64)=true:=decide_eq_true h2
   clear h
   go_enter Tryd.func88,Tryd.ntmps88
   go_wp2_with fail
   go_ret2
   exact⟨rfl,rfl⟩
  ·have t2:decide (c < 64)=false:=decide_eq_false h2
   have h3:1024 < c:=by omega
   have t3:decide (1024 < c)=true:=decide_eq_true h3
   clear h
   go_enter Tryd.func88,Tryd.ntmps88
   go_wp2_with fail
   go_ret2
   exact⟨rfl,rfl⟩
def RcnRel(s c:Nat)(w:World)(x n:Value)(wr:World):Prop :=
 ∃k:Nat,(k=0∨k*c < s+c)∧k≤s∧x=.int .i64 ((s:Int) - (k*c:Nat))∧n=.int .i64 (k:Int)∧wr=w
theorem div_up{s c k:Nat}(hc:0 < c)(h1:k=0∨k*c < s+c)(h2:s≤k*c):(s+c - 1) / c=k:=by
 apply Nat.div_eq_of_lt_le
 ·rcases h1 with rfl|h1
  ·omega
  ·omega
 ·rw[Nat.succ_mul];omega
set_option maxRecDepth 100000 in
set_option maxHeartbeats 2000000 in
theorem RCount_ok(s c:Nat)(hc:64≤c∧c≤1024)(hs:s≤131072)(m:Nat)(hm:m=(s+c - 1) / c)(w:World) :
  Calls Tryd.prog 88 #[.int .i64 (s:Int),.int .i64 (c:Int)] w fun e w'=>e=.returned (.tuple #[.int .i64 (m:Int),.int .i64 0])∧w=w':=by
 obtain⟨h1,h2⟩:=hc
 have t1:decide ((s:Int) < 0)=false:=decide_eq_false (by omega)
 have t2:decide ((c:Int) < 64)=false:=decide_eq_false (by omega)
 have t3:decide ((1024:Int) < (c:Int))=false:=decide_eq_false (by omega)
 have HM:=Lib.hid hm
 clear hm
 go_enter Tryd.func88,Tryd.ntmps88
 go_wp2_with fail
 clear t1 t2 t3
 go_loopw [0,6] (fun x n wr=>RcnRel s c w x n wr) (fun x _ _=>(intOf x).toNat)
 case atStart=>exact⟨0,.inl rfl,Nat.zero_le _,by simp,rfl,rfl⟩
 case round =>
  obtain⟨k,hk,hks,rfl,rfl,rfl⟩:=hrel
  obtain⟨p,hp⟩:∃p,k*c=p:=⟨_,rfl⟩
  rw[hp]
  rw[hp] at hk
  by_cases hlt:p < s
  ·have HS:=Lib.hid (show(k+1)*c=p+c by rw[Nat.succ_mul,hp])
   have hkp:k≤p:=by rw[←hp];exact Nat.le_mul_of_pos_right _ (by omega)
   clear hp hk
   go_wp2_with fail
   refine⟨⟨k+1,.inr (by rw[HS.out];omega),by omega,by rw[HS.out];congr 1;omega,by go_num,rfl⟩,by simp[intOf];omega⟩
  ·have HE:=Lib.hid (show m=k by rw[HM.out];exact div_up (by omega) (by rw[hp];exact hk) (by rw[hp];omega))
   have hge:s≤p:=by omega
   have t9:decide ((0:Int) < (s:Int) - (p:Int))=false:=decide_eq_false (by omega)
   clear hp hk hlt
   go_wp2_with fail
   go_ret2
   exact⟨by rw[HE.out];rfl,rfl⟩
structure Ck (w:World) (A:Option Addr) (m:Nat) (rows:List Rw) (l:List Nat) (q:Nat):Prop where
 row:Sl w A m (rows.map rwv)
 cont:rows.map (·.2.2.2)=(List.range m).map (ck l q)
 pcs:∀r∈rows,Pc w r
theorem ck_fin(l:List Nat)(q m:Nat):(List.finRange m).map (fun i=>ck l q i.1)=(List.range m).map (ck l q):=by
 apply List.ext_getElem
 ·simp
 ·intro i h1 h2;simp
def RcuRel(ad:Addr)(L c q:Nat)(l:List Nat)(w:World)(b o:Value)(wr:World):Prop :=
 ∃(k:Nat) (rows:List Rw),k*q < L∧b=.slice (some (ad.add (k*q))) (L - k*q) (c - k*q)∧wr.ownsRow w.heap.size 22 1 o k (rows.map rwv)∧rows.map (·.2.2.2)=(List.range k).map (ck l q)∧(∀r∈rows,Pc w r)∧Below w.heap.size w wr
set_option maxRecDepth 100000 in
set_option maxHeartbeats 4000000 in
theorem RCut_ok{A:Option Addr}{L c:Nat}{l:List Nat}{w:World}(h:Pc w (A,L,c,l))(q:Nat)(h64:64≤q)(hq:q≤1024)(hL:L≤131072)(m:Nat)(hm:m=(L+q - 1) / q) :
  Calls Tryd.prog 71 #[.slice A L c,.int .i64 (q:Int)] w fun e w'=>∃A' c' rows,e=.returned (.tuple #[.slice A' m c',.int .i64 0])∧Ck w' A' m rows l q∧Below w.heap.size w w':=by
 obtain⟨i0,hi,hz0,hz1,hz2⟩:=info_parts info22
 have CC:=Lib.hid (fun w=>RCount_ok L q ⟨h64,hq⟩ hL m hm w)
 have HM:=Lib.hid hm
 have hLc:=Pc.cap' h
 rcases Nat.eq_zero_or_pos L with h0|h0
 ·subst h0
  have hm0:m=0:=by rw[hm,Nat.zero_add];exact Nat.div_eq_of_lt (by omega)
  subst hm0
  have C0:=Lib.hid (fun w=>show Calls Tryd.prog 88 #[.int .i64 0,.int .i64 (q:Int)] w fun e w'=>e=.returned (.tuple #[.int .i64 0,.int .i64 0])∧w=w' from CC.out w)
  clear hm h CC
  go_enter Tryd.func71,Tryd.ntmps71
  go_wp2_with (go_at_call 88;(with_reducible refine(C0.out _).mono ?_);rintro e w1 ⟨rfl,rfl⟩)
  go_loopw [0,8] (fun b o wr=>b=.slice A 0 c∧o=.slice none 0 0∧wr=w) (fun _ _ _=>0)
  case atStart=>exact⟨rfl,rfl,rfl⟩
  case round =>
   obtain⟨rfl,rfl,rfl⟩:=hrel
   go_wp2_with fail
   go_ret2
   exact⟨none,0,[],rfl,⟨Sl.nil_ _ _,rfl,(fun r hr=>by cases hr)⟩,Below.refl _ _⟩
 ·obtain⟨ad,rfl⟩:=Option.isSome_iff_exists.1 (Pc.some' h h0)
  have HP:=Lib.hid h
  have hm9:m≤131072:=by rw[hm];exact Nat.le_trans (Nat.div_le_div_left h64 (by decide)) (by omega)
  have R0:=Lib.hid (show RcuRel ad L c q l w (.slice (some ad) L c) (.slice none 0 0) w from⟨0,[],by omega,by rw[Nat.zero_mul,show ad.add 0=ad by unfold Addr.add;rw[if_pos rfl]];rfl,own_nil _ _ _,rfl,(fun r hr=>by cases hr),Below.refl _ _⟩)
  clear hm h
  go_enter Tryd.func71,Tryd.ntmps71
  go_wp2_with (go_at_call 88;(with_reducible refine(CC.out _).mono ?_);rintro e w1 ⟨rfl,rfl⟩)
  go_loopw [0,8] (fun b o wr=>RcuRel ad L c q l w b o wr) (fun b _ _=>match b with | .slice _ n _=>n|_=>0)
  case atStart=>exact R0.out
  case round =>
   obtain⟨k,rows,hk,rfl,hown,hct,hpc,hb⟩:=hrel
   have PI:=ck_pc HP.out hk
   have HKL:=Lib.hid (ck_len l q k)
   obtain⟨p,hp⟩:∃p,k*q=p:=⟨_,rfl⟩
   have hkp:k≤p:=by rw[←hp];exact Nat.le_mul_of_pos_right _ (by omega)
   have HP1:=Lib.hid hp
   have HS:=Lib.hid (show(k+1)*q=p+q by rw[Nat.succ_mul,hp])
   rw[hp] at hk PI ⊢
   have O1:=Lib.hid hown
   have C1:=Lib.hid hct
   have P1:=Lib.hid hpc
   have B1:=Lib.hid hb
   have PI:=Lib.hid PI
   have hbs:=hb.size
   by_cases hlt:q < L - p
   ·clear hown hct hpc hb hp
    go_wp2_with (at_builtin;refine wpList_append_sl rfl (.tmp 23) (.tmp 27) 23 rfl w.heap.size 22 i0 _ 24 Tryd.underlying23 hi hz0 hz1 hz2 rfl _ k (rows.map rwv) rfl (O1.out.alloc _) (some ⟨wr.heap.size,0,none⟩) 1 1 [.slice (some (ad.add p)) q (c - p)] rfl (fun e=>by cases e) (Sl.new_ wr 22 [.slice (some (ad.add p)) q (c - p)]) (by intro u hu;simp at hu;subst hu;rfl) (by unfold maxLen;omega) (by omega) (by simp;omega) ?_;intro v2 w2 hown2 hgr2;have O2:=Lib.hid hown2;have D2:=Lib.hid ((B1.out.alloc hbs _).grown hgr2 (by simp;omega) (fun x e=>(World.ownsRow.lt O1.out x e).1));clear hown2 hgr2)
    have hel:ckl L q k=q:=by unfold ckl;rw[HP1.out];omega
    have hq2:=PI.out
    rw[hel] at hq2
    refine⟨⟨k+1,rows ++ [(some (ad.add p),q,c - p,ck l q k)],by rw[HS.out];omega,?_,?_,?_,?_,D2.out⟩,by dsimp only;omega⟩
    ·rw[HS.out,Addr.add_add,Nat.sub_sub,Nat.sub_sub]
    ·rw[List.map_append];exact O2.out
    ·rw[List.map_append,C1.out,List.range_succ,List.map_append];rfl
    ·intro r hr
     rcases List.mem_append.1 hr with h|h
     ·exact P1.out r h
     ·rw[show r=_ by simpa using h]
      exact⟨hq2.len,hq2.row,hq2.lt,by show(ck l q k).length≤c - p;have:q=(ck l q k).length:=hq2.len;omega,fun e=>by cases e⟩
   ·have hel:ckl L q k=L - p:=by unfold ckl;rw[HP1.out];omega
    have hmk:m=k+1:=by
     rw[HM.out]
     exact div_up (by omega) (.inr (by rw[HS.out];omega)) (by rw[HS.out];omega)
    have HMK:=Lib.hid hmk
    have hge:L - p≤q:=by omega
    have hpos:0 < L - p:=by omega
    clear hown hct hpc hb hp hlt hmk
    go_wp2_with (at_builtin;refine wpList_append_sl rfl (.tmp 35) (.tmp 37) 23 rfl w.heap.size 22 i0 _ 24 Tryd.underlying23 hi hz0 hz1 hz2 rfl _ k (rows.map rwv) rfl (O1.out.alloc _) (some ⟨wr.heap.size,0,none⟩) 1 1 [.slice (some (ad.add p)) (L - p) (c - p)] rfl (fun e=>by cases e) (Sl.new_ wr 22 [.slice (some (ad.add p)) (L - p) (c - p)]) (by intro u hu;simp at hu;subst hu;rfl) (by unfold maxLen;omega) (by omega) (by simp;omega) ?_;intro v2 w2 hown2 hgr2;have O2:=Lib.hid hown2;have D2:=Lib.hid ((B1.out.alloc hbs _).grown hgr2 (by simp;omega) (fun x e=>(World.ownsRow.lt O1.out x e).1));clear hown2 hgr2)
    go_ret2
    have hq2:=PI.out
    rw[hel] at hq2
    obtain⟨A',c',rfl,h1,-⟩:=Sl.own O2.out
    refine⟨A',c',rows ++ [(some (ad.add p),L - p,c - p,ck l q k)],by rw[HMK.out];rfl,⟨?_,?_,?_⟩,D2.out⟩
    ·rw[HMK.out,List.map_append];exact h1
    ·rw[HMK.out,List.map_append,C1.out,List.range_succ,List.map_append];rfl
    ·intro r hr
     rcases List.mem_append.1 hr with h|h
     ·exact(P1.out r h).below D2.out
     ·rw[show r=_ by simpa using h]
      refine Pc.below ⟨hq2.len,hq2.row,hq2.lt,?_,fun e=>by cases e⟩ D2.out
      show(ck l q k).length≤c - p
      have:L - p=(ck l q k).length:=hq2.len
      omega
theorem samebytes_any(A B:Option Addr)(n m c d:Nat)(l k:List Nat)(w:World)(hl:∀x∈l,x < 256)(hk:∀x∈k,x < 256)(h1:Sl w A n (bl l))(h2:Sl w B m (bl k)) :
  Calls Tryd.prog 15 #[.slice A n c,.slice B m d] w fun e w'=>e=.returned (.bool (decide (l=k)))∧w=w':=by
 have r1:=run_txt (P:=Tryd.prog) w 22 9 5 Tryd.underlying22 Tryd.underlying5 Tryd.underlying9 A n c l h1
 have r2:=run_txt (P:=Tryd.prog) w 22 9 5 Tryd.underlying22 Tryd.underlying5 Tryd.underlying9 B m d k h2
 have HE:=Lib.hid (fun h=>txt_inj (l:=l) (k:=k) hl hk h)
 clear h1 h2 hl hk
 obtain⟨s,hs⟩:∃s,s=txt l:=⟨_,rfl⟩
 obtain⟨t,ht⟩:∃t,t=txt k:=⟨_,rfl⟩
 rw[←hs] at r1
 rw[←ht] at r2
 have HS:=Lib.hid hs
 have HT:=Lib.hid ht
 clear hs ht
 go_enter Tryd.func15,Tryd.ntmps15
 go_wp2
 go_ret
 refine⟨ret_bool ?_,rfl⟩
 rw[HS.out,HT.out,ByteArray.toList_eq,ByteArray.toList_eq,Bool.eq_iff_iff,beq_iff_eq,decide_eq_true_iff]
 constructor
 ·intro h
  exact HE.out (Go.WideShapes.bytes_inj h)
 ·intro h;rw[h]
theorem same_pc{A B:Option Addr}{n m c d:Nat}{l k:List Nat}{w:World}(h1:Pc w (A,n,c,l))(h2:Pc w (B,m,d,k)) :
  Calls Tryd.prog 15 #[.slice A n c,.slice B m d] w fun e w'=>e=.returned (.bool (decide (l=k)))∧w=w':=by
 have e1:l.length=n:=h1.len.symm
 have e2:k.length=m:=h2.len.symm
 exact samebytes_any A B n m c d l k w h1.lt h2.lt (by have:=h1.row;rwa [show((A,n,c,l):Rw).2.2.2.length=n from e1] at this) (by have:=h2.row;rwa [show((B,m,d,k):Rw).2.2.2.length=m from e2] at this)
end Go.Proofs.YtnnfpmebopgogaaDoor.Mk
