/- Joined texts. -/
import Derived.Test.YtkahelhoaihajaaQkWrValues
set_option linter.unusedVariables false
namespace Go.Proofs.Ytkahelhoaihajaa.Wr
open Go.RowKit Go.Proofs.Ytkahelhoaihajaa.Gn Go.Proofs.Ytkahelhoaihajaa.Fd Go.Deep
def OwnN(ks:List Tv)(w:World)(e:Ending)(w':World):Prop:=∃v,e=.returned v∧w'.ownsRow w.heap.size 26 4 v ks.length (flat ks)∧Below w.heap.size w w'
theorem own_new4(w:World)(t:TypeId)(n:Nat)(xs:List Value)(hl:xs.length=n*4)(hm:n≤maxLen):(w.alloc (.cells xs.toArray t)).ownsRow w.heap.size t 4 (.slice (some ⟨w.heap.size,0,none⟩) n n) n xs :=
 ⟨hl,.inr ⟨w.heap.size,n,xs.toArray,rfl,Nat.le_refl _,heap_alloc_new w _,Nat.le_refl _,hm,by simpa using hl,by rw[←hl];simp⟩⟩
theorem flat_one(ks:List Tv):∀u∈flat ks,u.oneCell'=true:=by
 intro u hu
 unfold flat at hu
 obtain⟨t,-, h⟩:=List.mem_flatMap.1 hu
 exact row_one t u h
set_option maxRecDepth 100000 in
set_option maxHeartbeats 4000000 in
theorem nClone_own{ad:Addr}{c:Nat}{ks:List Tv}{w:World}(hs:Sl w (some ad) (4*ks.length) (flat ks))(hm:ks.length≤1000000) :
  Calls Try.prog 84 #[.slice (some ad) ks.length c] w (OwnN ks w):=by
 obtain⟨i0,hi,hz0,hz1,hz2⟩:=info_parts infoN
 obtain⟨n,hn⟩:∃n,ks.length=n:=⟨_,rfl⟩
 rw[hn] at hs hm ⊢
 have HN:=Lib.hid hn
 clear hn
 go_enter Try.func84,Try.ntmps84
 go_upto_region 1 with(fail)
 refine wp_region_lit ?_
 refine sq_run (.slice (some ad) n c) rfl (by kernel_rfl) ?_
 refine sq_run (.bool false) rfl (by kernel_rfl) ?_
 refine sq_done ?_
 simp only[Act.put,List.setIfInBounds_toArray,List.set_cons_zero,List.set_cons_succ]
 go_upto_region 3 with(fail)
 refine wp_region_lit ?_
 refine sq_new (w.alloc (.cells #[] 26)) (.slice (some ⟨w.heap.size,0,none⟩) 0 0) rfl (by kernel_rfl) ?_
 refine sq_run (.slice (some ad) n c) rfl (by kernel_rfl) ?_
 refine wpList_append_at _ rfl (.tmp 5) (.tmp 6) 24 rfl w.heap.size 26 i0 _ 4 64 Try.underlying24 hi hz0 hz1 hz2 (by kernel_rfl) (by decide) (.slice (some ⟨w.heap.size,0,none⟩) 0 0) 0 [] rfl (own_new4 w 26 0 [] rfl (by decide)) (some ad) n c (flat ks) rfl (fun e=>by cases e) (by rw[Nat.mul_comm];exact hs.below (below_one w _)) (flat_one ks) (by unfold maxLen;omega) (by omega) (by simp) ?_
 intro v' w1 hown hgrow hat
 rw[Nat.zero_add,List.nil_append] at hown
 have hB:Below w.heap.size w w1:=(below_one w (.cells #[] 26)).grown hgrow (by simp) (by intro k e;simp[Value.ownBlock] at e;omega)
 obtain⟨E,cap,rfl,-, -, -, -⟩:=own_form hown
 refine sq_run (.slice E n cap) rfl (by kernel_rfl) ?_
 refine sq_done ?_
 simp only[Act.put,List.setIfInBounds_toArray,List.set_cons_zero,List.set_cons_succ]
 go_wp2_with fail
 go_ret
 exact⟨_,rfl,by rw[HN.out];exact hown,hB⟩
set_option maxRecDepth 100000 in
set_option maxHeartbeats 4000000 in
theorem nClone_nil(w:World):Calls Try.prog 84 #[.slice none 0 0] w (OwnN [] w):=by
 go_enter Try.func84,Try.ntmps84
 go_upto_region 1 with(fail)
 refine wp_region_lit ?_
 refine sq_run (.slice none 0 0) rfl (by kernel_rfl) ?_
 refine sq_run (.bool true) rfl (by kernel_rfl) ?_
 refine sq_done ?_
 simp only[Act.put,List.setIfInBounds_toArray,List.set_cons_zero,List.set_cons_succ]
 go_wp2_with fail
 go_ret
 exact⟨_,rfl,⟨rfl,.inl ⟨rfl,rfl⟩⟩,Below.refl _ _⟩
set_option maxRecDepth 100000 in
set_option maxHeartbeats 4000000 in
theorem nClone_nil2(w:World):Calls Try.prog 84 #[.slice none 0 0] w fun e w'=>e=.returned (.slice none 0 0)∧w=w':=by
 go_enter Try.func84,Try.ntmps84
 go_upto_region 1 with(fail)
 refine wp_region_lit ?_
 refine sq_run (.slice none 0 0) rfl (by kernel_rfl) ?_
 refine sq_run (.bool true) rfl (by kernel_rfl) ?_
 refine sq_done ?_
 simp only[Act.put,List.setIfInBounds_toArray,List.set_cons_zero,List.set_cons_succ]
 go_wp2_with fail
 go_ret
 exact⟨rfl,rfl⟩
theorem nClone_any{A:Option Addr}{c:Nat}{ks:List Tv}{w:World}(hs:Sl w A (4*ks.length) (flat ks))(hm:ks.length≤1000000)(hc:ks.length≤c)(h0:A=none→c=0) :
  Calls Try.prog 84 #[.slice A ks.length c] w (OwnN ks w):=by
 cases A with
 |some ad=>exact nClone_own hs hm
 |none =>
  obtain rfl:=h0 rfl
  obtain rfl:ks=[]:=List.length_eq_zero_iff.1 (by omega)
  exact nClone_nil w
theorem flat_length_get(us:List Tv)(n:Nat):(flat us)[n]?=(us[n / 4]?).bind fun t=>t.row[n%4]?:=by
 induction us generalizing n with
 |nil=>simp[flat]
 |cons t ts ih =>
  have e:flat (t :: ts)=t.row ++ flat ts:=by simp[flat]
  rw[e]
  by_cases h:n < 4
  ·rw[List.getElem?_append_left (by rw[row_len];exact h),Nat.div_eq_of_lt h,Nat.mod_eq_of_lt h];rfl
  ·rw[List.getElem?_append_right (by rw[row_len];omega),row_len,ih,show n / 4=(n - 4) / 4+1 by omega,List.getElem?_cons_succ,show(n - 4)%4=n%4 by omega]
theorem flat_set{us:List Tv}{j:Nat}{t t':Tv}(h:us[j]?=some t){v2 v3:Value}(hr:t'.row=(t.row.set 2 v2).set 3 v3):flat (us.set j t')=((flat us).set (4*j+2) v2).set (4*j+3) v3:=by
 have hj:=(List.getElem?_eq_some_iff.1 h).1
 apply List.ext_getElem?
 intro n
 rw[flat_length_get,List.getElem?_set,List.getElem?_set,List.getElem?_set]
 have hfl:=flat_len us
 by_cases h3:4*j+3=n
 ·subst h3
  rw[if_pos (by omega),if_pos (by omega),if_pos rfl,if_pos (by simp[hfl];omega)]
  show(some t').bind _=_
  rw[show(4*j+3)%4=3 by omega]
  show t'.row[3]?=_
  rw[hr,List.getElem?_set_self (by rw[List.length_set,row_len];decide)]
 ·rw[if_neg h3]
  by_cases h2:4*j+2=n
  ·subst h2
   rw[if_pos (by omega),if_pos (by omega),if_pos rfl,if_pos (by rw[hfl];omega)]
   rw[show(4*j+2)%4=2 by omega]
   show t'.row[2]?=_
   rw[hr,List.getElem?_set_ne (by decide),List.getElem?_set_self (by rw[row_len];decide)]
  ·rw[if_neg h2,flat_length_get]
   by_cases hq:j=n / 4
   ·rw[if_pos hq,if_pos (by omega),←hq,h]
    show t'.row[n%4]?=t.row[n%4]?
    rw[hr,List.getElem?_set_ne (by omega),List.getElem?_set_ne (by omega)]
   ·rw[if_neg hq]
end Go.Proofs.Ytkahelhoaihajaa.Wr
