/- Joined texts. -/
import Derived.Test.YtkahelhoaihajaaQwWrBytes
set_option linter.unusedVariables false
namespace Go.Proofs.Ytkahelhoaihajaa.Wr
open Go.RowKit Go.Proofs.Ytkahelhoaihajaa.Gn Go.Proofs.Ytkahelhoaihajaa.Fd Go.Deep
theorem wbs_append(a b:List Tv):wbs (a ++ b)=wbs a ++ wbs b:=by
 induction a with
 |nil=>simp[wbs]
 |cons t a ih=>rw[List.cons_append,wbs,wbs,ih,List.append_assoc]
theorem wbs_snoc{ks:List Tv}{k:Nat}{t:Tv}(h:ks[k]?=some t):wbs (ks.take (k+1))=wbs (ks.take k) ++ wb t:=by
 rw[List.take_add_one,h,wbs_append];simp[wbs]
theorem wbs_take(ks:List Tv)(k:Nat):(wbs (ks.take k)).length≤(wbs ks).length:=by
 have h:=wbs_append (ks.take k) (ks.drop k)
 rw[List.take_append_drop] at h
 rw[h,List.length_append];omega
set_option maxHeartbeats 4000000 in
set_option maxRecDepth 100000 in
theorem rbytes_list{ks:List Tv}{A:Option Addr}{c:Nat}{w u:World}(hs:Sl w A (4*ks.length) (flat ks))(hbu:Below w.heap.size w u)(hm:ks.length≤1000000)(hmax:(wbs ks).length≤900000)(ih:∀t∈ks,∀u',Below w.heap.size w u'→Calls Try.prog 57 #[t.val] u' (OwnB (wb t) u'))(n:Nat)(rA:Option Addr)(L rc:Nat) :
  Calls Try.prog 57 #[.agg #[.int .i64 3,.int .u64 (n:Int),.slice rA L rc,.slice A ks.length c]] u (OwnB (3 :: (cb ks.length ++ wbs ks)) u):=by
 obtain⟨m,hm'⟩:∃m,ks.length=m:=⟨_,rfl⟩
 have HM:=Lib.hid hm'
 have IH:=Lib.hid ih
 have HS:=Lib.hid hs
 have HX:=Lib.hid hmax
 rw[hm'] at hm ⊢
 clear ih hs hm' hmax
 obtain⟨i0,hi,hz0,hz1,hz2⟩:=info_parts infob8
 have CC:=Lib.hid (rcount_any m (by omega))
 have CL:=cb_len (n:=m) (by omega)
 obtain⟨N,hN⟩:∃N,(cb m).length=N:=⟨_,rfl⟩
 have HN:=Lib.hid hN
 have O0:=Lib.hid (own_two u 26 #[.int .i64 3,.int .u64 (n:Int),.slice rA L rc,.slice A m c] 3)
 have B0:=Lib.hid (below_two u 26 #[.int .i64 3,.int .u64 (n:Int),.slice rA L rc,.slice A m c] (.cells #[.int .u8 3] 5))
 have A0:=Lib.hid (below_one u (.cells #[.int .i64 3,.int .u64 (n:Int),.slice rA L rc,.slice A m c] 26))
 have D0:=Lib.hid (Bl.new_ u 26 #[.int .i64 3,.int .u64 (n:Int),.slice rA L rc,.slice A m c])
 have HU:=Lib.hid hbu
 rw[hN] at CL
 clear hN hbu
 go_enter Try.func57,Try.ntmps57
 go_wp2_with (first|(go_at_call 81;(with_reducible refine(CC.out _).mono ?_);rintro e w1 ⟨v,rfl,ho,hb⟩;obtain⟨C,f,rfl,s1,s2,-, -, -⟩:=Sl.own ho;rw[HN.out] at s1 ⊢;have S1:=Lib.hid s1;have S2:=Lib.hid s2;have O1:=Lib.hid (own_below O0.out hb);have B1:=Lib.hid (B0.out.trans (hb.mono (by simp)));clear ho hb s1 s2)|(at_builtin;refine wpList_append_sl rfl _ _ 23 rfl (u.heap.size+1) 5 i0 _ 1 Try.underlying23 hi hz0 hz1 hz2 rfl (.slice (some ⟨u.heap.size+1,0,none⟩) 1 1) 1 _ rfl O1.out C N f _ rfl S2.out S1.out (bl_one _) (by unfold maxLen;omega) (by omega) (by have:=B1.out.size;simpa using this) ?_))
 intro v2 w2 hown2 hgrow2
 have B2:=Lib.hid (B1.out.grown hgrow2 (by have:=B1.out.size;simpa using this) (own_rows O1.out))
 have O2:=Lib.hid hown2
 clear hown2 hgrow2
 go_wp2_with fail
 go_loopg [4,3] m (fun g1 vi vo wr=>∃k:Nat,vi=.int .i64 (k:Int)∧k≤m∧m - k≤g1∧Hid (wr.ownsRow (u.heap.size+1) 5 1 vo (1+N+(wbs (ks.take k)).length) (bl (3 :: (cb m ++ wbs (ks.take k)))))∧Hid (Below (u.heap.size+1) (u.alloc (.cells #[.int .i64 3,.int .u64 (n:Int),.slice rA L rc,.slice A m c] 26)) wr))
 case atStart =>
  refine⟨0,rfl,Nat.zero_le _,Nat.le_refl _,Lib.hid ?_,B2⟩
  have h:=O2.out
  simpa[bl,wbs] using h
 case round =>
  obtain⟨k,rfl,hk,hg,HO,HB⟩:=hrel
  obtain⟨E,cap,rfl,-, -, -, -, -⟩:=Sl.own HO.out
  have DD:=Lib.hid (show Bl wr u.heap.size 26 _ from(HB.out.block _ (by omega)).trans D0.out)
  have z3:wr.cell? ⟨u.heap.size,3,none⟩=some (.slice A m c):=DD.out.cell_ rfl
  by_cases hlt:k < m
  ·obtain⟨t,ht⟩:∃t,ks[k]?=some t:=⟨_,List.getElem?_eq_getElem (by have:=HM.out;omega)⟩
   have q0:(k:Int) < (m:Int):=by omega
   have WB:=HU.out.trans ((A0.out.trans (HB.out.mono (Nat.le_succ _))).mono HU.out.size)
   obtain⟨ad,rfl,hcl⟩:∃ad,A=some ad∧∀j v,t.row[j]?=some v→wr.cell? ((ad.add (4*k)).add j)=some v:=by
    have h0:t.row[0]?=some t.row[0]!:=by cases t;rfl
    obtain⟨ad,e,-⟩:=HS.out.2 _ _ (flat_get ks k 0 t _ ht h0)
    refine⟨ad,e,fun j v hv=>?_⟩
    obtain⟨ad',e',hc⟩:=HS.out.2 _ _ (flat_get ks k j t v ht hv)
    obtain rfl:ad=ad':=by rw[e] at e';injection e'
    rw[ad_add]
    exact(WB.cell (cell_lt hc)).trans hc
   obtain⟨ae,hae⟩:∃ae,ad.add (k*4)=ae:=⟨_,rfl⟩
   rw[Nat.mul_comm,hae] at hcl
   have CK:=Lib.hid (IH.out _ (List.mem_of_getElem? ht) _ WB)
   have SN:=Lib.hid (wbs_snoc ht)
   have TK:=wbs_take ks (k+1)
   rw[SN.out,List.length_append] at TK
   cases t with
   |mk K2 N2 r2 B2' d2 us =>
   have c0:wr.cell? ae=some (.int .i64 K2):=by have:=hcl 0 _ rfl;rwa [ad_zero] at this
   have c1:wr.cell? ⟨ae.block,ae.off+1,none⟩=some (.int .u64 N2):=by have:=hcl 1 _ rfl;rwa [ad_pos _ (by decide)] at this
   have c2:wr.cell? ⟨ae.block,ae.off+2,none⟩=some (.slice r2.1 r2.2.1 r2.2.2.1):=by have:=hcl 2 _ rfl;rwa [ad_pos _ (by decide)] at this
   have c3:wr.cell? ⟨ae.block,ae.off+3,none⟩=some (.slice B2' us.length d2):=by have:=hcl 3 _ rfl;rwa [ad_pos _ (by decide)] at this
   obtain⟨P,hP⟩:∃P,(wbs (ks.take k)).length=P:=⟨_,rfl⟩
   obtain⟨T,hT⟩:∃T,(wb (.mk K2 N2 r2 B2' d2 us)).length=T:=⟨_,rfl⟩
   rw[hP] at HO ⊢
   rw[hP,hT] at TK
   have HT:=Lib.hid hT
   have HP:=Lib.hid hP
   have TM:P+T≤900000:=Nat.le_trans TK HX.out
   clear hcl ht WB TK hT hP
   go_wp2_with (first|(go_at_call 57;(refine CK.out.mono ?_);rintro e w3 ⟨v3,rfl,ho,hb⟩;obtain⟨C3,f3,rfl,s1,s2,-, -, -⟩:=Sl.own ho;rw[HT.out] at s1 ⊢;have S3:=Lib.hid s1;have S4:=Lib.hid s2;have O3:=Lib.hid (own_below HO.out hb);have B3:=Lib.hid (HB.out.trans (hb.mono (by have:=HB.out.size;simpa using this)));clear ho hb s1 s2)|(at_builtin;refine wpList_append_sl rfl _ _ 23 rfl (u.heap.size+1) 5 i0 _ 1 Try.underlying23 hi hz0 hz1 hz2 rfl (.slice E (1+N+P) cap) (1+N+P) _ rfl O3.out C3 T f3 _ rfl S4.out S3.out (bl_one _) (by unfold maxLen;omega) (by omega) (by have:=B3.out.size;simpa using this) ?_))
   intro v4 w4 hown4 hgrow4
   have B4:=Lib.hid (B3.out.grown hgrow4 (by have:=B3.out.size;simpa using this) (own_rows O3.out))
   have O4:=Lib.hid hown4
   clear hown4 hgrow4
   go_wp2_with fail
   go_roundg (m - (k+1))
   case measure=>omega
   case rel =>
    refine⟨k+1,by go_num,by omega,Nat.le_refl _,Lib.hid ?_,B4⟩
    have h:=O4.out
    rw[SN.out,List.length_append,HP.out,HT.out,←Nat.add_assoc]
    simpa[bl] using h
  ·obtain rfl:k=m:=by omega
   have q0:¬(k:Int) < (k:Int):=by omega
   have e:ks.take k=ks:=List.take_of_length_le (by have:=HM.out;omega)
   rw[e] at HO ⊢
   go_wp2_with fail
   go_ret
   refine⟨_,rfl,?_,A0.out.trans (HB.out.mono (Nat.le_succ _))⟩
   have h:=own_base HO.out (Nat.le_succ _)
   rw[List.length_cons,List.length_append,HN.out,show N+(wbs ks).length+1=1+N+(wbs ks).length by omega]
   exact h
theorem rights_mem:∀ {ks:List Tv},rights ks=true→∀t∈ks,right t=true:=by
 intro ks
 induction ks with
 |nil=>intro _ t h;cases h
 |cons a ks ih =>
  intro h t ht
  rw[rights,Bool.and_eq_true] at h
  rcases List.mem_cons.1 ht with rfl|ht
  ·exact h.1
  ·exact ih h.2 t ht
theorem wb_mem:∀ {ks:List Tv} {t:Tv},t∈ks→(wb t).length≤(wbs ks).length:=by
 intro ks
 induction ks with
 |nil=>intro t h;cases h
 |cons a ks ih =>
  intro t ht
  rw[wbs,List.length_append]
  rcases List.mem_cons.1 ht with rfl|ht
  ·omega
  ·have:=ih ht;omega
theorem rbytes_any{w:World}{v:Tv}(h:Ok w v):right v=true→(wb v).length≤900000→∀u,Below w.heap.size w u→Calls Try.prog 57 #[v.val] u (OwnB (wb v) u):=by
 induction h with
 | @mk K n r A c ks hn hr hs hm hc h0 hk ih =>
 intro hv hl u hb
 rw[right] at hv
 rw[wb] at hl ⊢
 show Calls _ _ #[.agg #[.int .i64 K,.int .u64 (n:Int),.slice r.1 r.2.1 r.2.2.1,.slice A ks.length c]] u _
 by_cases k1:K=1
 ·subst k1
  rw[if_pos rfl]
  exact rbytes_num hn _ _ _ _ _ _ u
 by_cases k2:K=2
 ·subst k2
  rw[if_neg (by decide),if_pos rfl] at hl ⊢
  refine rbytes_bytes (hr.below hb) ?_ n _ _ _
  simp at hl;omega
 by_cases k3:K=3
 ·subst k3
  rw[if_neg (by decide),if_neg (by decide),if_pos rfl,Bool.and_eq_true] at hv
  rw[if_neg (by decide),if_neg (by decide)] at hl ⊢
  have hw:(wbs ks).length≤900000:=by simp at hl;omega
  exact rbytes_list hs hb hm hw (fun t ht u' hu=>ih t ht (rights_mem hv.2 t ht) (Nat.le_trans (wb_mem ht) hw) u' hu) n _ _ _
 ·rw[if_neg k1,if_neg k2,if_neg k3] at hv;cases hv
end Go.Proofs.Ytkahelhoaihajaa.Wr
