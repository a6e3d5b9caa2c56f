/- Joined texts. -/
import Derived.Test.YtjimhjfjfpeojaaDoorQbEdOwn
import Derived.Test.YtjimhjfjfpeojaaDoorQbRaE
import Derived.Test.YtjimhjfjfpeojaaDoorQbRfRest
set_option linter.unusedVariables false
namespace Go.Proofs.YtjimhjfjfpeojaaDoor.Ed
open Go.RowKit Go.Proofs.YtjimhjfjfpeojaaDoor.Gn Go.Proofs.YtjimhjfjfpeojaaDoor.Fd Go.Deep
theorem samebytes_any(A B:Option Addr)(n m c d:Nat)(l k:List Nat)(w:World)(hl:∀x∈l,x < 256)(hk:∀x∈k,x < 256)(h1:Sl w A n (bl l))(h2:Sl w B m (bl k)) :
  Calls Tryd.prog 12 #[.slice A n c,.slice B m d] w fun e w'=>e=.returned (.bool (l == k))∧w=w':=by
 have r1:=run_txt (P:=Tryd.prog) w 22 9 5 Tryd.underlying22 Tryd.underlying5 Tryd.underlying9 A n c l h1
 have r2:=run_txt (P:=Tryd.prog) w 22 9 5 Tryd.underlying22 Tryd.underlying5 Tryd.underlying9 B m d k h2
 have HE:=Lib.hid (fun h=>txt_inj (l:=l) (k:=k) hl hk h)
 clear h1 h2 hl hk
 obtain⟨s,hs⟩:∃s,s=txt l:=⟨_,rfl⟩
 obtain⟨t,ht⟩:∃t,t=txt k:=⟨_,rfl⟩
 rw[←hs] at r1
 rw[←ht] at r2
 have HS:=Lib.hid hs
 have HT:=Lib.hid ht
 clear hs ht
 go_enter Tryd.func12,Tryd.ntmps12
 go_wp2
 go_ret
 refine⟨ret_bool ?_,rfl⟩
 rw[HS.out,HT.out,ByteArray.toList_eq,ByteArray.toList_eq,Bool.eq_iff_iff,beq_iff_eq,beq_iff_eq]
 constructor
 ·intro h
  exact HE.out (Go.WideShapes.bytes_inj h)
 ·intro h;rw[h]
def oca(S L:List Nat):Nat→Nat
 |0=>0
 |k+1=>(S.getD k 0+L.getD k 0+oca S L k) / 256
def obt(S L:List Nat):Nat→List Nat
 |0=>[]
 |k+1=>obt S L k ++ [(S.getD k 0+L.getD k 0+oca S L k)%256]
theorem obt_length(S L:List Nat):∀k,(obt S L k).length=k
 |0=>rfl
 |k+1=>by simp[obt,obt_length S L k]
theorem obt_lt(S L:List Nat):∀k,∀x∈obt S L k,x < 256
 |0=>fun x hx=>by cases hx
 |k+1=>fun x hx=>by
  rcases List.mem_append.1 (show x∈obt S L k ++ [_] from hx) with h|h
  ·exact obt_lt S L k x h
  ·simp at h;omega
theorem oca_lt{S L:List Nat}(hS:∀x∈S,x < 256)(hL:∀x∈L,x < 256):∀k,oca S L k≤1
 |0=>Nat.zero_le _
 |k+1=>by
  have g:∀ {l:List Nat},(∀x∈l,x < 256)→l.getD k 0 < 256:=fun{l} h=>by
   rw[List.getD_eq_getElem?_getD]
   rcases Nat.lt_or_ge k l.length with hi|hi
   ·rw[List.getElem?_eq_getElem hi];exact h _ (List.getElem_mem _)
   ·rw[List.getElem?_eq_none hi];decide
  have h1:=g hS
  have h2:=g hL
  have h3:=oca_lt hS hL k
  show(S.getD k 0+L.getD k 0+oca S L k) / 256≤1
  omega
theorem le_take(l:List Nat)(k:Nat):le (l.take (k+1))=le (l.take k)+256 ^ k*l.getD k 0:=by
 rw[List.take_add_one,List.getD_eq_getElem?_getD]
 rcases Nat.lt_or_ge k l.length with h|h
 ·rw[List.getElem?_eq_getElem h,le_append,List.length_take,Nat.min_eq_left (Nat.le_of_lt h)]
  simp[le_cons,le_nil]
 ·rw[List.getElem?_eq_none h];simp
theorem obt_le(S L:List Nat):∀k,le (obt S L k)+256 ^ k*oca S L k=le (S.take k)+le (L.take k)
 |0=>rfl
 |k+1=>by
  have ih:=obt_le S L k
  have h1:=le_take S k
  have h2:=le_take L k
  show le (obt S L k ++ [(S.getD k 0+L.getD k 0+oca S L k)%256])+256 ^ (k+1)*((S.getD k 0+L.getD k 0+oca S L k) / 256)=_
  rw[le_append,obt_length,h1,h2,le_cons,le_nil,Nat.mul_zero,Nat.add_zero,Nat.pow_succ]
  generalize S.getD k 0=s at *
  generalize L.getD k 0=y at *
  generalize oca S L k=c at *
  generalize le (obt S L k)=o at *
  generalize le (S.take k)=a at *
  generalize le (L.take k)=b at *
  generalize 256 ^ k=p at *
  have h4:p*((s+y+c)%256)+p*256*((s+y+c) / 256)=p*(s+y+c):=by
   rw[Nat.mul_assoc,←Nat.mul_add,Nat.mod_add_div]
  have h5:p*(s+y+c)=p*s+p*y+p*c:=by rw[Nat.mul_add,Nat.mul_add]
  omega
theorem obt_big{S:List Nat}(hS:S.length=32)(h:le S < Lq):¬le (obt S (by_ Lq 32) 32) < Lq:=by
 have e:=obt_le S (by_ Lq 32) 32
 rw[List.take_of_length_le (by omega),List.take_of_length_le (by rw[by_length];exact Nat.le_refl _),le_by,Nat.mod_eq_of_lt (by rw[Lq_eq];decide)] at e
 have hb:(256:Nat) ^ 32=115792089237316195423570985008687907853269984665640564039457584007913129639936:=by decide
 rw[hb] at e
 rw[Lq_eq] at e h ⊢
 omega
theorem vend_big{l m z:List Nat}{b:G}(hz:z.length=32)(hl:¬le z < Lq):vend (keyb l b) m (sfst l m b ++ z) (ti (le (sec l)) b) b=42:=by
 have e2:(sfst l m b ++ z).drop 32=z:=by rw[List.drop_append_of_le_length (by rw[sfst_length];exact Nat.le_refl _),List.drop_of_length_le (by rw[sfst_length];exact Nat.le_refl _),List.nil_append]
 unfold vend
 rw[e2,if_neg fun h=>hl ((sc_zero hz).1 h)]
theorem gb_lt(g:G):gb g < 256 ^ 32:=by
 have a:=fv_lt g.y
 have b:fv g.x%2 < 2:=Nat.mod_lt _ (by decide)
 have hb:(256:Nat) ^ 32=115792089237316195423570985008687907853269984665640564039457584007913129639936:=by decide
 rw[hb]
 unfold gb
 rw[pp_eq] at a
 omega
theorem vend_other{l m z:List Nat}{b:G}(hb:Hp kbase b)(hz:z.length=32)(hzl:∀x∈z,x < 256)(hne:z≠ssnd l m b):vend (keyb l b) m (sfst l m b ++ z) (ti (le (sec l)) b) b=42:=by
 by_cases hl:le z < Lq
 ·rw[vend_of hz hl,if_neg]
  intro h
  have hs:le (ssnd l m b) < Lq:=by rw[ssnd_le];exact Nat.mod_lt _ Lq_pos
  have o:ga (ti (le (sk l m b)) (gn (ti (le (sec l)) b))) (ti (le (ssnd l m b)) b)=ti (le (sr l m)) b:=by
   rw[ssnd_le,Lq_is,sign_own (lq_base (hp_qb hb))]
  have h2:gb (ga (ti (le (sk l m b)) (gn (ti (le (sec l)) b))) (ti (le z) b))=gb (ti (le (sr l m)) b):=by
   have:=congrArg le h
   unfold sfst at this
   rw[le_by,le_by,Nat.mod_eq_of_lt (gb_lt _),Nat.mod_eq_of_lt (gb_lt _)] at this
   exact this
  have h3:=(gb_inj h2).trans o.symm
  rw[Lq_is] at hl hs
  have h4:=sign_other (hp_qb hb) hl hs h3
  exact hne (le_inj hzl (by_lt _ _) (by rw[hz,ssnd_length]) h4)
 ·exact vend_big hz hl
theorem verify_at{A:Option Addr}{c:Nat}{l:List Nat}{M:Option Addr}{n cm:Nat}{m:List Nat}{S:Option Addr}{cs:Nat}{s:List Nat}{b:G}{w:World}(v:Int)(tab:TabE w)(ts:Sh.Tab w)(tl:TabL w)(ha:Pc w (A,32,c,keyb l b))(hm:Pc w (M,n,cm,m))(hs:Pc w (S,64,cs,s))(hn:n≤65536)(hb:Hp kbase b)(hv:vend (keyb l b) m s (ti (le (sec l)) b) b=v) :
  Calls Tryd.prog 9 #[.slice A 32 c,.slice M n cm,.slice S 64 cs] w fun e w'=>e=.returned (.int .i64 v)∧Below w.heap.size w w':=by
 obtain⟨p,hp,hg⟩:=dec_of (ti (le (sec l)) b)
 have:=Verify_go tab ts tl ha hm hs hn hb hp hg
 rw[hv] at this
 exact this
theorem bytes_L(w:World):∀(A:Option Addr) (k c:Nat),Sl w A k (nl (dg Lq))→Calls Tryd.prog 10 #[.slice A k c,.int .i64 32] w fun e w'=>∃g,e=.returned (.slice (some ⟨g,0,none⟩) 32 32)∧w.heap.size≤g∧Bl w' g 5 (bl (by_ Lq 32)).toArray∧Below w.heap.size w w':=by
 intro A k c h
 have hk:k≤1000:=by
  have h1:=h.1
  have h2:(dg Lq).length=lql.length:=by rw[dg_Lq]
  simp[nl] at h1
  rw[←h1,h2];decide
 have:=Bytes_any A k c 32 (dg Lq) w hk (by decide) (dg_dg _) h
 rw[vl_dg] at this
 refine this.mono ?_
 rintro e w' ⟨g,rfl,h1,h2,h3⟩
 exact⟨g,by rw[by_length],h1,h2,h3⟩
def OtRel(w4:World)(F S L:List Nat)(g:Nat)(u c i:Value)(wr:World):Prop :=
 ∃k:Nat,k≤32∧i=.int .i64 (k:Int)∧c=.int .i64 ((oca S L k:Nat):Int)∧wr.ownsRow w4.heap.size 5 1 u (32+k) (bl (F ++ obt S L k))∧u.ownBlock≠some g∧Bl wr g 5 (bl L).toArray∧Below w4.heap.size w4 wr
theorem own_apart{w:World}{base n g:Nat}{v:Value}{xs:List Value}{L:List Nat}(h:w.ownsRow base 5 1 v n xs)(hb:Bl w g 5 (bl L).toArray)(hn:L.length < n):v.ownBlock≠some g:=by
 intro e
 obtain⟨-, h2⟩:=h
 rcases h2 with⟨rfl,h0⟩|⟨q,cap,cur,rfl,hq,hc,h3,-, h5,-⟩
 ·cases e
 ·have eq:some q=some g:=e
  injection eq with eq
  rw[eq] at hc
  have h6:w.heap[g]?=_:=hb
  rw[h6] at hc
  injection hc with hc
  injection hc with hc
  rw[←hc] at h5
  simp[bl] at h5
  omega
set_option maxRecDepth 100000 in
set_option maxHeartbeats 8000000 in
theorem other_walk {w : World} (tab : TabE w ∧ Sh.Tab w ∧ TabL w) (A : Option Addr) (c : Nat) (l : List Nat) (ha : Pc w (A, 32, c, l)) (M : Option Addr) (k d : Nat) (m : List Nat) (hm : Pc w (M, k, d, m)) (hk : k ≤ 200) (O : Option Addr) (f : Nat) (o : List Nat) (ho : Pc w (O, 32, f, o)) :
    Calls Tryd.prog 4 #[.slice A 32 c, .slice M k d, .slice O 32 f] w fun e w' => e = .returned (.bool true) ∧ Below w.heap.size w w' := by
  obtain ⟨te, ts, tl⟩ := tab
  obtain ⟨b, hb⟩ := base_some
  obtain ⟨i0, hi, hz0, hz1, hz2⟩ := info_parts infob
  have t1 : decide ((200 : Int) < (k : Int)) = false := decide_eq_false (by omega)
  have PA := Lib.hid ha
  have PM := Lib.hid hm
  have PO := Lib.hid ho
  have TE := Lib.hid te
  have TS := Lib.hid ts
  have TL := Lib.hid tl
  have HB := Lib.hid hb
  have H3 := Lib.hid (show k ≤ 65536 by omega)
  have K1 := Lib.hid (key_p te ts ha hb)
  have LF := Lib.hid (sfst_length l m b)
  have LS := Lib.hid (ssnd_length l m b)
  have XF := Lib.hid (show ∀ x ∈ sfst l m b, x < 256 from by_lt _ _)
  have XS := Lib.hid (show ∀ x ∈ ssnd l m b, x < 256 from by_lt _ _)
  have VB := Lib.hid (show ∀ z : List Nat, z.length = 32 → ¬ le z < Lq → vend (keyb l b) m (sfst l m b ++ z) (ti (le (sec l)) b) b = 42 from fun z h1 h2 => vend_big h1 h2)
  have VO := Lib.hid (show ∀ z : List Nat, z.length = 32 → (∀ x ∈ z, x < 256) → z ≠ ssnd l m b → vend (keyb l b) m (sfst l m b ++ z) (ti (le (sec l)) b) b = 42 from fun z h1 h2 h3 => vend_other hb h1 h2 h3)
  have SL := Lib.hid (show le (ssnd l m b) < Lq by rw [ssnd_le]; exact Nat.mod_lt _ Lq_pos)
  have SG := Lib.hid (show ∀ w' : World, Below w.heap.size w w' → Calls Tryd.prog 8 #[.slice A 32 c, .slice M k d] w' fun e w2 => ∃ g cap, e = .returned (.tuple #[.slice (some ⟨g, 0, none⟩) 64 cap, .int .i64 0]) ∧ Pc w2 (some ⟨g, 0, none⟩, 64, cap, sfst l m b ++ ssnd l m b) ∧ w'.heap.size ≤ g ∧ Below w'.heap.size w' w2 from fun w' h => sign_p (te.below h) (ts.below h) (tl.below h) (ha.below h) (hm.below h) (by omega) hb)
  have VG := Lib.hid (show ∀ (w' : World) (q : Nat) (S : Option Addr) (cs : Nat) (s : List Nat), Below w.heap.size w w' → Pc w' (some ⟨q, 0, none⟩, 32, 32, keyb l b) → Pc w' (S, 64, cs, s) → vend (keyb l b) m s (ti (le (sec l)) b) b = 42 → Calls Tryd.prog 9 #[.slice (some ⟨q, 0, none⟩) 32 32, .slice M k d, .slice S 64 cs] w' fun e w2 => e = .returned (.int .i64 42) ∧ Below w'.heap.size w' w2 from fun w' q S cs s h h1 h2 h4 => verify_at 42 (te.below h) (ts.below h) (tl.below h) h1 (hm.below h) h2 (by omega) hb h4)
  generalize sfst l m b = F at *
  generalize ssnd l m b = Z at *
  clear te ts tl hb ha hm ho hk
  go_enter Tryd.func4, Tryd.ntmps4
  go_upto_region 8 with (first | (go_at_call 7; (with_reducible refine K1.out.mono ?_); rintro e w1 ⟨q, rfl, p1, b1⟩; have B1 := Lib.hid b1; have P1 := Lib.hid p1; have S1 := Lib.hid (SG.out _ b1); clear p1 b1) | (go_at_call 8; (with_reducible refine S1.out.mono ?_); rintro e w2 ⟨q2, cap, rfl, p2, hq2, b2⟩; have B2 := Lib.hid (B1.out.trans (b2.mono B1.out.size)); have P2 := Lib.hid p2; have P3 := Lib.hid (P1.out.below b2); clear p2 b2 hq2))
  obtain ⟨ad0, had, h64, f1, f2⟩ := first_p P2.out
  cases had
  have e1 : (F ++ Z).take 32 = F := by rw [List.take_append_of_le_length (by rw [LF.out]; exact Nat.le_refl _), List.take_of_length_le (by rw [LF.out]; exact Nat.le_refl _)]
  have e2 : (F ++ Z).drop 32 = Z := by rw [List.drop_append_of_le_length (by rw [LF.out]; exact Nat.le_refl _), List.drop_of_length_le (by rw [LF.out]; exact Nat.le_refl _), List.nil_append]
  rw [e1] at f1
  rw [e2] at f2
  have F1 := Lib.hid f1
  have F2 := Lib.hid f2
  have C64 := Lib.hid h64
  clear f1 f2 e1 e2
  have XO := Lib.hid PO.out.lt
  have LO := Lib.hid (show 32 = o.length from PO.out.len)
  go_upto_region 11 with (first
    | (at_builtin; refine wpList_append_sl rfl (.tmp 45) (.tmp 47) 22 rfl w2.heap.size 5 i0 _ (8 / 8) Tryd.underlying22 hi hz0 hz1 hz2 rfl (.slice none 0 0) 0 [] rfl (own_nil _ _ _) (some ⟨q2, 0, none⟩) 32 cap (bl F) rfl (fun h => by cases h) (by have : Sl w2 (some ⟨q2, 0, none⟩) F.length (bl F) := F1.out.row; rwa [LF.out] at this) (bl_one _) (by decide) (by decide) (Nat.le_refl _) ?_; intro v3 w3 ho3 hg3; have O3 := Lib.hid ho3; have D3 := Lib.hid ((Below.refl w2.heap.size w2).grown hg3 (Nat.le_refl _) (fun x e => by cases e)); clear ho3 hg3)
    | (at_builtin; refine wpList_append_sl rfl (.tmp 48) (.tmp 49) 22 rfl w2.heap.size 5 i0 _ (8 / 8) Tryd.underlying22 hi hz0 hz1 hz2 rfl v3 32 (bl F) rfl (by have := O3.out; simpa using this) O 32 f (bl o) rfl PO.out.nil (by have h1 := PO.out.below (B2.out.trans (D3.out.mono B2.out.size)); have : Sl w3 O o.length (bl o) := h1.row; rwa [← LO.out] at this) (bl_one _) (by decide) (by decide) D3.out.size ?_; intro v4 w4 ho4 hg4; have O4 := Lib.hid ho4; have D4 := Lib.hid (D3.out.grown hg4 D3.out.size (fun x e => ((by have := O3.out; simpa using this : w3.ownsRow w2.heap.size 5 1 v3 32 (bl F)).lt x e).1)); clear ho4 hg4)
    | (at_builtin; refine wpList_append_sl rfl (.tmp 51) (.tmp 53) 22 rfl w4.heap.size 5 i0 _ (8 / 8) Tryd.underlying22 hi hz0 hz1 hz2 rfl (.slice none 0 0) 0 [] rfl (own_nil _ _ _) (some ⟨q2, 0, none⟩) 32 cap (bl F) rfl (fun h => by cases h) (by have h1 := F1.out.below D4.out; have : Sl w4 (some ⟨q2, 0, none⟩) F.length (bl F) := h1.row; rwa [LF.out] at this) (bl_one _) (by decide) (by decide) (Nat.le_refl _) ?_; intro v5 w5 ho5 hg5; have O5 := Lib.hid ho5; have D5 := Lib.hid ((Below.refl w4.heap.size w4).grown hg5 (Nat.le_refl _) (fun x e => by cases e)); clear ho5 hg5))
  have HO4 := Lib.hid (show w4.ownsRow w2.heap.size 5 1 v4 64 (bl (F ++ o)) by have := O4.out; rw [bl_append]; simpa using this)
  have HO5 := Lib.hid (show w5.ownsRow w4.heap.size 5 1 v5 32 (bl F) by have := O5.out; simpa using this)
  clear O4 O5 O3
  obtain ⟨g4, c4, rfl, p4, -⟩ := own_pc HO4.out (by decide) (by rw [List.length_append, LF.out, ← LO.out]) (by intro x hx; rcases List.mem_append.1 hx with h | h; exact XF.out x h; exact XO.out x h)
  have P4 := Lib.hid p4
  clear p4 HO4
  obtain ⟨L, hL⟩ : ∃ L, by_ Lq 32 = L := ⟨_, rfl⟩
  have LL := Lib.hid (show L.length = 32 by rw [← hL]; exact by_length _ _)
  have XL := Lib.hid (show ∀ x ∈ L, x < 256 by rw [← hL]; exact by_lt _ _)
  have BG := Lib.hid (show ∀ Z : List Nat, Z.length = 32 → le Z < Lq → ¬ le (obt Z L 32) < Lq by intro Z h1 h2; rw [← hL]; exact obt_big h1 h2)
  have BL := Lib.hid bytes_L
  rw [hL] at BL
  clear hL
  go_wp2_with (first | (go_at_call 11; (with_reducible refine (L_any _).mono ?_); rintro e w6 ⟨A6, n6, c6, rfl, s6, -, b6⟩; have D6 := Lib.hid (D5.out.trans (b6.mono D5.out.size)); have HO6 := Lib.hid (own_below HO5.out b6); have BB := Lib.hid (BL.out w6 A6 n6 c6 s6); clear s6 b6) | (go_at_call 10; (with_reducible refine BB.out.mono ?_); rintro e w7 ⟨g, rfl, hg, hbl, b7⟩; have D7 := Lib.hid (D6.out.trans (b7.mono D6.out.size)); have HO7 := Lib.hid (own_below HO6.out b7); have HG := Lib.hid hg; have LB := Lib.hid hbl; clear hg hbl b7))
  have R0 := Lib.hid (show OtRel w4 F Z L g v5 (.int .i64 0) (.int .i64 0) w7 from ⟨0, Nat.zero_le _, rfl, rfl, by show w7.ownsRow _ _ _ _ 32 (bl (F ++ [])); rw [List.append_nil]; exact HO7.out, fun e => by have h1 := (HO6.out.lt g e).2; have h2 := HG.out; omega, LB.out, D7.out⟩)
  go_loopw [12, 13, 15] (fun u c i wr => OtRel w4 F Z L g u c i wr) (fun _ _ i _ => 32 - (intOf i).toNat)
  case atStart => exact R0.out
  case round =>
    obtain ⟨k1, hk1, rfl, rfl, hown, hne, hlb, hbw⟩ := hrel
    have OW := Lib.hid hown
    have NE := Lib.hid hne
    have LB1 := Lib.hid hlb
    have BW := Lib.hid hbw
    have PP := Lib.hid ((P2.out.below D4.out).below hbw)
    have OC := Lib.hid (oca_lt XS.out XL.out k1)
    clear hown hne hlb hbw
    by_cases hlt : k1 < 32
    · obtain ⟨s, hs⟩ : ∃ s, Z.getD k1 0 = s := ⟨_, rfl⟩
      obtain ⟨y, hy⟩ : ∃ y, L.getD k1 0 = y := ⟨_, rfl⟩
      obtain ⟨cc, hcc⟩ : ∃ cc, oca Z L k1 = cc := ⟨_, rfl⟩
      obtain ⟨j, hj⟩ : ∃ j, j = 32 + k1 := ⟨_, rfl⟩
      have gz : Z[k1]? = some s := by rw [← hs, List.getD_eq_getElem?_getD, List.getElem?_eq_getElem (by rw [LS.out]; exact hlt)]; rfl
      have gy : L[k1]? = some y := by rw [← hy, List.getD_eq_getElem?_getD, List.getElem?_eq_getElem (by rw [LL.out]; exact hlt)]; rfl
      have hs256 : s < 256 := XS.out s (List.mem_of_getElem? gz)
      have hy256 : y < 256 := XL.out y (List.mem_of_getElem? gy)
      have hc1 : cc ≤ 1 := by rw [← hcc]; exact OC.out
      have hcell1 : wr.cell? ⟨q2, j, none⟩ = some (.int .u8 (s : Int)) := by
        have hr : Sl wr (some ⟨q2, 0, none⟩) (F ++ Z).length (bl (F ++ Z)) := PP.out.row
        obtain ⟨ad, ha, hc⟩ := hr.at_ (k := j) (by rw [List.length_append, LF.out, LS.out]; omega)
        cases ha
        rw [add_at, bl_get, List.getElem?_append_right (by rw [LF.out]; omega), LF.out, show j - 32 = k1 by omega, gz] at hc
        exact hc
      have hcell2 : wr.cell? ⟨g, k1, none⟩ = some (.int .u8 (y : Int)) := LB1.out.cell_ (by rw [List.getElem?_toArray, bl_get, gy]; rfl)
      have ej : (32 : Int) + (k1 : Int) = (j : Int) := by omega
      obtain ⟨a1, ha1⟩ : ∃ a1, a1 = s + y := ⟨_, rfl⟩
      obtain ⟨X, hX⟩ : ∃ X, X = a1 + cc := ⟨_, rfl⟩
      have e1 : (s : Int) + (y : Int) = (a1 : Int) := by omega
      have e2 : (a1 : Int) + (cc : Int) = (X : Int) := by omega
      have hX8 : X ≤ 511 := by omega
      have hj64 : j < 64 := by omega
      have HX := Lib.hid (show X = s + y + cc by omega)
      rw [hcc]
      have HC := Lib.hid hcc
      have HZs := Lib.hid hs
      have HLy := Lib.hid hy
      clear hj ha1 hX hcc hs hy gz gy
      go_wp2_with fail
      go_quiet (fail)
      obtain ⟨wd, hwd⟩ : ∃ wd, wr.drewN nq = wd := ⟨_, rfl⟩
      have RD := Lib.hid (show Below wr.heap.size wr wd by rw [← hwd]; exact Gn.below_drewN (Below.refl _ _) nq)
      rw [hwd]
      clear hwd hcell1 hcell2 e1 e2
      have BWd := Lib.hid (BW.out.trans (RD.out.mono BW.out.size))
      have OWd := Lib.hid (own_below OW.out RD.out)
      have LBd := Lib.hid (LB1.out.below' RD.out)
      obtain ⟨B, hB⟩ : ∃ B, X % 256 = B := ⟨_, rfl⟩
      obtain ⟨C, hC⟩ : ∃ C, X / 256 = C := ⟨_, rfl⟩
      have eB : (X : Int) % 256 = (B : Int) := by omega
      have eC : (X : Int) / 256 = (C : Int) := by omega
      have eB2 : Int.tmod (X : Int) 256 = (B : Int) := by rw [Int.tmod_eq_emod_of_nonneg (by omega)]; exact eB
      have eC2 : Int.tdiv (X : Int) 256 = (C : Int) := by rw [Int.tdiv_eq_ediv_of_nonneg (by omega)]; exact eC
      have hB8 : B < 256 := by omega
      have HB8 := Lib.hid hB
      have HC8 := Lib.hid hC
      clear hB hC
      go_wp2_with (at_builtin; refine wpList_append_sl rfl _ _ 22 rfl w4.heap.size 5 i0 _ (8 / 8) Tryd.underlying22 hi hz0 hz1 hz2 rfl _ (32 + k1) _ rfl (own_below OWd.out ((Below.refl _ _).alloc (Nat.le_refl _) _)) (some ⟨wd.heap.size, 0, none⟩) 1 1 (bl [B]) rfl (fun h => by cases h) (Sl.new_ wd _ (bl [B])) (bl_one _) (by unfold maxLen; omega) (by omega) (by have := BWd.out.size; simp; omega) ?_; intro v8 w8 ho8 hg8; have O8 := Lib.hid ho8; have LB8 := Lib.hid ((LBd.out.alloc _).grown hg8 NE.out); have B8 := Lib.hid ((BWd.out.alloc BWd.out.size _).grown hg8 (by have := BWd.out.size; simp; omega) (fun x e => (OW.out.lt x e).1)); clear ho8 hg8)
      have O9 := Lib.hid (show w8.ownsRow w4.heap.size 5 1 v8 (32 + (k1 + 1)) (bl (F ++ obt Z L (k1 + 1))) by
        have h := O8.out
        have e : obt Z L (k1 + 1) = obt Z L k1 ++ [B] := by show obt Z L k1 ++ [(Z.getD k1 0 + L.getD k1 0 + oca Z L k1) % 256] = _; rw [HZs.out, HLy.out, HC.out, ← HX.out, HB8.out]
        rw [e, ← List.append_assoc, bl_append _ [B]]
        exact h)
      go_roundw
      case rel => exact ⟨k1 + 1, by omega, by go_num, by show Value.int .i64 _ = .int .i64 (((Z.getD k1 0 + L.getD k1 0 + oca Z L k1) / 256 : Nat) : Int); rw [HZs.out, HLy.out, HC.out, ← HX.out, HC8.out], O9.out, own_apart O9.out LB8.out (by rw [LL.out]; omega), LB8.out, B8.out⟩
      case measure => simp [intOf]; omega
    · obtain rfl : k1 = 32 := by omega
      obtain ⟨gu, cu, rfl, pu, -⟩ := own_pc OW.out (by decide) (by rw [List.length_append, LF.out, obt_length]) (by intro x hx; rcases List.mem_append.1 hx with h | h; exact XF.out x h; exact obt_lt _ _ _ x h)
      have BWW := Lib.hid (B2.out.trans ((D4.out.trans (BW.out.mono D4.out.size)).mono B2.out.size))
      have V1 := Lib.hid (VG.out wr q (some ⟨gu, 0, none⟩) cu (F ++ obt Z L 32) BWW.out ((P3.out.below D4.out).below BW.out) pu (VB.out _ (obt_length _ _ _) (BG.out Z LS.out SL.out)))
      have h64 := C64.out
      have F3 := Lib.hid (show Pc wr (some ⟨q2, 32, none⟩, 32, cap - 32, Z) from (F2.out.below D4.out).below BW.out)
      have PO3 := Lib.hid (PO.out.below BWW.out)
      have P43 := Lib.hid (P4.out.below BW.out)
      have P33 := Lib.hid ((P3.out.below D4.out).below BW.out)
      clear pu
      obtain ⟨t, ht⟩ : ∃ t, (o == Z) = t := ⟨_, rfl⟩
      have HT := Lib.hid ht
      clear ht
      cases t
      · go_wp2_with (first
          | (go_at_call 9; (with_reducible refine V1.out.mono ?_); rintro e w9 ⟨rfl, b9⟩; have B9 := Lib.hid (BWW.out.trans (b9.mono BWW.out.size)); have SB := Lib.hid (show Calls Tryd.prog 12 #[.slice O 32 f, .slice (some ⟨q2, 32, none⟩) 32 (cap - 32)] w9 fun e w' => e = .returned (.bool (o == Z)) ∧ w9 = w' from samebytes_any O (some ⟨q2, 32, none⟩) 32 32 f (cap - 32) o Z w9 XO.out XS.out (by have : Sl w9 O o.length (bl o) := (PO3.out.below b9).row; rwa [← LO.out] at this) (by have : Sl w9 (some ⟨q2, 32, none⟩) Z.length (bl Z) := (F3.out.below b9).row; rwa [LS.out] at this)); rw [HT.out] at SB; have V2 := Lib.hid (VG.out w9 q (some ⟨g4, 0, none⟩) c4 (F ++ o) B9.out (P33.out.below b9) (P43.out.below b9) (VO.out o LO.out.symm XO.out (by intro h; have := HT.out; rw [h] at this; simp at this))); clear b9 V1)
          | (go_at_call 12; (with_reducible refine SB.out.mono ?_); rintro e w10 ⟨rfl, rfl⟩)
          | (go_at_call 9; (with_reducible refine V2.out.mono ?_); rintro e w11 ⟨rfl, b11⟩; have B11 := Lib.hid (B9.out.trans (b11.mono B9.out.size)); have KN := Lib.hid (known_any w11 (TE.out.below B11.out) (TS.out.below B11.out)); clear b11)
          | (go_at_call 6; (with_reducible refine KN.out.mono ?_); rintro e w12 ⟨rfl, b12⟩; have B12 := Lib.hid (B11.out.trans (b12.mono B11.out.size)); clear b12))
        go_ret
        exact ⟨rfl, B12.out⟩
      · go_wp2_with (first
          | (go_at_call 9; (with_reducible refine V1.out.mono ?_); rintro e w9 ⟨rfl, b9⟩; have B9 := Lib.hid (BWW.out.trans (b9.mono BWW.out.size)); have SB := Lib.hid (show Calls Tryd.prog 12 #[.slice O 32 f, .slice (some ⟨q2, 32, none⟩) 32 (cap - 32)] w9 fun e w' => e = .returned (.bool (o == Z)) ∧ w9 = w' from samebytes_any O (some ⟨q2, 32, none⟩) 32 32 f (cap - 32) o Z w9 XO.out XS.out (by have : Sl w9 O o.length (bl o) := (PO3.out.below b9).row; rwa [← LO.out] at this) (by have : Sl w9 (some ⟨q2, 32, none⟩) Z.length (bl Z) := (F3.out.below b9).row; rwa [LS.out] at this)); rw [HT.out] at SB; clear b9 V1)
          | (go_at_call 12; (with_reducible refine SB.out.mono ?_); rintro e w10 ⟨rfl, rfl⟩; have KN := Lib.hid (known_any w9 (TE.out.below B9.out) (TS.out.below B9.out)))
          | (go_at_call 6; (with_reducible refine KN.out.mono ?_); rintro e w12 ⟨rfl, b12⟩; have B12 := Lib.hid (B9.out.trans (b12.mono B9.out.size)); clear b12))
        go_ret
        exact ⟨rfl, B12.out⟩
theorem walk_edOther{w:World}(tab:TabE w∧Sh.Tab w∧TabL w)(A:Option Addr)(n c:Nat)(l:List Nat)(hl:BL w A n c l)(M:Option Addr)(k d:Nat)(m:List Nat)(hm:BL w M k d m)(O:Option Addr)(j f:Nat)(o:List Nat)(ho:BL w O j f o) :
  Calls Tryd.prog 4 #[.slice A n c,.slice M k d,.slice O j f] w fun e w'=>e=.returned (.bool true)∧Below w.heap.size w w':=by
 by_cases h1:n=32
 ·by_cases h2:k≤200
  ·by_cases h3:j=32
   ·subst h1 h3
    exact other_walk tab A c l (bl_pc hl) M k d m (bl_pc hm) h2 O f o (bl_pc ho)
   ·have t0:((n:Int) != 32)=false:=by simp;omega
    have t1:decide ((200:Int) < (k:Int))=false:=decide_eq_false (by omega)
    have t2:((j:Int) != 32)=true:=by simp;omega
    have KN:=Lib.hid (known_any w tab.1 tab.2.1)
    clear h1 h2 h3 hl hm ho
    go_enter Tryd.func4,Tryd.ntmps4
    go_wp2_with (go_at_call 6;(with_reducible refine KN.out.mono ?_);rintro e w4 ⟨rfl,b4⟩;have B4:=Lib.hid b4;clear b4)
    go_ret
    exact⟨rfl,B4.out⟩
  ·have t0:((n:Int) != 32)=false:=by simp;omega
   have t1:decide ((200:Int) < (k:Int))=true:=decide_eq_true (by omega)
   have KN:=Lib.hid (known_any w tab.1 tab.2.1)
   clear h1 h2 hl hm ho
   go_enter Tryd.func4,Tryd.ntmps4
   go_wp2_with (go_at_call 6;(with_reducible refine KN.out.mono ?_);rintro e w4 ⟨rfl,b4⟩;have B4:=Lib.hid b4;clear b4)
   go_ret
   exact⟨rfl,B4.out⟩
 ·have t0:((n:Int) != 32)=true:=by simp;omega
  have KN:=Lib.hid (known_any w tab.1 tab.2.1)
  clear h1 hl hm ho
  go_enter Tryd.func4,Tryd.ntmps4
  go_wp2_with (go_at_call 6;(with_reducible refine KN.out.mono ?_);rintro e w4 ⟨rfl,b4⟩;have B4:=Lib.hid b4;clear b4)
  go_ret
  exact⟨rfl,B4.out⟩
end Go.Proofs.YtjimhjfjfpeojaaDoor.Ed
