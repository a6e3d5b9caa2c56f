/- Joined texts. -/
import Derived.Test.YteblmphohhbgcaaGreatQmWrReader
import Derived.Test.YteblmphohhbgcaaGreatQmWrCount
set_option linter.unusedVariables false
namespace Go.Proofs.YteblmphohhbgcaaGreat.Wr
open Go.RowKit Go.Proofs.YteblmphohhbgcaaGreat.Gn Go.Proofs.YteblmphohhbgcaaGreat.Fd Go.Deep
mutual
def wb:Tv→List Nat
 |.mk k n r _ _ ks=>k.toNat :: (if k=1 then cb n else if k=2 then cb r.2.1 ++ r.2.2.2 else cb ks.length ++ wbs ks)
def wbs:List Tv→List Nat
 | []=>[]
 |t :: ts=>wb t ++ wbs ts
end
theorem own_two(u:World)(T:TypeId)(cs:Array Value)(x:Nat):((u.alloc (.cells cs T)).alloc (.cells #[.int .u8 (x:Int)] 5)).ownsRow (u.heap.size+1) 5 1 (.slice (some ⟨u.heap.size+1,0,none⟩) 1 1) 1 (bl [x]):=by
 have h:=own_new (u.alloc (.cells cs T)) 5 [.int .u8 (x:Int)] (by unfold maxLen;simp)
 simpa[bl] using h
theorem below_two(u:World)(T:TypeId)(cs:Array Value)(o:Obj):Below (u.heap.size+1) (u.alloc (.cells cs T)) ((u.alloc (.cells cs T)).alloc o):=by
 have h:=(Below.refl (u.alloc (.cells cs T)).heap.size (u.alloc (.cells cs T))).alloc (Nat.le_refl _) o
 simpa using h
theorem below_one(u:World)(o:Obj):Below u.heap.size u (u.alloc o):=(Below.refl u.heap.size u).alloc (Nat.le_refl _) o
set_option maxHeartbeats 4000000 in
set_option maxRecDepth 100000 in
theorem rbytes_num{n:Nat}(hn:n < 18446744073709551616)(A B:Option Addr)(L M c d:Nat)(u:World) :
  Calls Tryz.prog 108 #[.agg #[.int .i64 1,.int .u64 (n:Int),.slice A L c,.slice B M d]] u (OwnB (1 :: cb n) u):=by
 obtain⟨i0,hi,hz0,hz1,hz2⟩:=info_parts infob8
 have CC:=Lib.hid (rcount_any n hn)
 have CL:=cb_len hn
 obtain⟨N,hN⟩:∃N,(cb n).length=N:=⟨_,rfl⟩
 have HN:=Lib.hid hN
 have O0:=Lib.hid (own_two u 75 #[.int .i64 1,.int .u64 (n:Int),.slice A L c,.slice B M d] 1)
 have B0:=Lib.hid (below_two u 75 #[.int .i64 1,.int .u64 (n:Int),.slice A L c,.slice B M d] (.cells #[.int .u8 1] 5))
 have A0:=Lib.hid (below_one u (.cells #[.int .i64 1,.int .u64 (n:Int),.slice A L c,.slice B M d] 75))
 rw[hN] at CL
 clear hN
 go_enter Tryz.func108,Tryz.ntmps108
 go_wp2_with (first|(go_at_call 124;(with_reducible refine(CC.out _).mono ?_);rintro e w1 ⟨v,rfl,ho,hb⟩;obtain⟨C,f,rfl,s1,s2,-, -, -⟩:=Sl.own ho;rw[HN.out] at s1 ⊢;have S1:=Lib.hid s1;have S2:=Lib.hid s2;have O1:=Lib.hid (own_below O0.out hb);have B1:=Lib.hid (B0.out.trans (hb.mono (by simp)));clear ho hb s1 s2)|(at_builtin;refine wpList_append_sl rfl _ _ 25 rfl (u.heap.size+1) 5 i0 _ 1 Tryz.underlying25 hi hz0 hz1 hz2 rfl (.slice (some ⟨u.heap.size+1,0,none⟩) 1 1) 1 _ rfl O1.out C N f _ rfl S2.out S1.out (bl_one _) (by unfold maxLen;omega) (by omega) (by have:=B1.out.size;simpa using this) ?_))
 intro v2 w2 hown2 hgrow2
 have B2:=Lib.hid (B1.out.grown hgrow2 (by have:=B1.out.size;simpa using this) (own_rows O1.out))
 have O2:=Lib.hid hown2
 clear hown2 hgrow2
 go_wp2_with fail
 go_ret
 refine⟨_,rfl,?_,A0.out.trans (B2.out.mono (Nat.le_succ _))⟩
 have h:=own_base O2.out (Nat.le_succ _)
 rw[List.length_cons,HN.out,Nat.add_comm N 1]
 simpa[bl] using h
set_option maxHeartbeats 4000000 in
set_option maxRecDepth 100000 in
theorem rbytes_bytes{r:Rw}{u:World}(hr:Pc u r)(hm:r.2.2.2.length≤900000)(n:Nat)(B:Option Addr)(M d:Nat) :
  Calls Tryz.prog 108 #[.agg #[.int .i64 2,.int .u64 (n:Int),.slice r.1 r.2.1 r.2.2.1,.slice B M d]] u (OwnB (2 :: (cb r.2.1 ++ r.2.2.2)) u):=by
 obtain⟨A,L,c,l⟩:=r
 have hL:L=l.length:=hr.len
 obtain⟨i0,hi,hz0,hz1,hz2⟩:=info_parts infob8
 have hm:l.length≤900000:=hm
 have CC:=Lib.hid (rcount_any L (by omega))
 have CL:=cb_len (n:=L) (by omega)
 obtain⟨N,hN⟩:∃N,(cb L).length=N:=⟨_,rfl⟩
 have HN:=Lib.hid hN
 have HL:=Lib.hid hL
 have SR:=Lib.hid (show Sl u A L (bl l) from by have:=hr.row;rw[hL];exact this)
 have NR:=Lib.hid (show A=none→c=0 from hr.nil)
 have O0:=Lib.hid (own_two u 75 #[.int .i64 2,.int .u64 (n:Int),.slice A L c,.slice B M d] 2)
 have B0:=Lib.hid (below_two u 75 #[.int .i64 2,.int .u64 (n:Int),.slice A L c,.slice B M d] (.cells #[.int .u8 2] 5))
 have A0:=Lib.hid (below_one u (.cells #[.int .i64 2,.int .u64 (n:Int),.slice A L c,.slice B M d] 75))
 have D0:=Lib.hid (Bl.new_ u 75 #[.int .i64 2,.int .u64 (n:Int),.slice A L c,.slice B M d])
 have l63:L≤900000:=by omega
 rw[hN] at CL
 clear hN hr hL hm
 show Calls _ _ #[.agg #[.int .i64 2,.int .u64 (n:Int),.slice A L c,.slice B M d]] u _
 go_enter Tryz.func108,Tryz.ntmps108
 go_wp2_with (first|(go_at_call 124;(with_reducible refine(CC.out _).mono ?_);rintro e w1 ⟨v,rfl,ho,hb⟩;obtain⟨C,f,rfl,s1,s2,-, -, -⟩:=Sl.own ho;rw[HN.out] at s1 ⊢;have S1:=Lib.hid s1;have S2:=Lib.hid s2;have O1:=Lib.hid (own_below O0.out hb);have B1:=Lib.hid (B0.out.trans (hb.mono (by simp)));clear ho hb s1 s2)|(at_builtin;refine wpList_append_sl rfl _ _ 25 rfl (u.heap.size+1) 5 i0 _ 1 Tryz.underlying25 hi hz0 hz1 hz2 rfl (.slice (some ⟨u.heap.size+1,0,none⟩) 1 1) 1 _ rfl O1.out C N f _ rfl S2.out S1.out (bl_one _) (by unfold maxLen;omega) (by omega) (by have:=B1.out.size;simpa using this) ?_))
 intro v2 w2 hown2 hgrow2
 have B2:=Lib.hid (B1.out.grown hgrow2 (by have:=B1.out.size;simpa using this) (own_rows O1.out))
 obtain⟨E,f2,rfl,-, -, -, -, -⟩:=Sl.own hown2
 have O2:=Lib.hid hown2
 clear hown2 hgrow2
 have D2:=Lib.hid (show Bl w2 u.heap.size 75 _ from(B2.out.block _ (by omega)).trans D0.out)
 have c2:w2.cell? ⟨u.heap.size,2,none⟩=some (.slice A L c):=D2.out.cell_ rfl
 have W2:=Lib.hid (A0.out.trans (B2.out.mono (Nat.le_succ _)))
 go_wp2_with (at_builtin;refine wpList_append_sl rfl _ _ 25 rfl (u.heap.size+1) 5 i0 _ 1 Tryz.underlying25 hi hz0 hz1 hz2 rfl (.slice E (1+N) f2) (1+N) _ rfl O2.out A L c (bl l) rfl NR.out (SR.out.below W2.out) (bl_one _) (by unfold maxLen;omega) (by omega) (by have:=B2.out.size;simpa using this) ?_)
 intro v3 w3 hown3 hgrow3
 have B3:=Lib.hid (B2.out.grown hgrow3 (by have:=B2.out.size;simpa using this) (own_rows O2.out))
 have O3:=Lib.hid hown3
 clear hown3 hgrow3
 go_wp2_with fail
 go_ret
 refine⟨_,rfl,?_,A0.out.trans (B3.out.mono (Nat.le_succ _))⟩
 have h:=own_base O3.out (Nat.le_succ _)
 rw[List.length_cons,List.length_append,HN.out,←HL.out,show N+L+1=1+N+L by omega]
 simpa[bl] using h
end Go.Proofs.YteblmphohhbgcaaGreat.Wr
namespace Go.Proofs.YteblmphohhbgcaaGreat.Wr
open Go.RowKit Go.Proofs.YteblmphohhbgcaaGreat.Gn Go.Proofs.YteblmphohhbgcaaGreat.Fd Go.Deep
theorem wbs_append(a b:List Tv):wbs (a ++ b)=wbs a ++ wbs b:=by
 induction a with
 |nil=>simp[wbs]
 |cons t a ih=>rw[List.cons_append,wbs,wbs,ih,List.append_assoc]
theorem wbs_snoc{ks:List Tv}{k:Nat}{t:Tv}(h:ks[k]?=some t):wbs (ks.take (k+1))=wbs (ks.take k) ++ wb t:=by
 rw[List.take_add_one,h,wbs_append];simp[wbs]
theorem wbs_take(ks:List Tv)(k:Nat):(wbs (ks.take k)).length≤(wbs ks).length:=by
 have h:=wbs_append (ks.take k) (ks.drop k)
 rw[List.take_append_drop] at h
 rw[h,List.length_append];omega
set_option maxHeartbeats 4000000 in
set_option maxRecDepth 100000 in
theorem rbytes_list{ks:List Tv}{A:Option Addr}{c:Nat}{w u:World}(hs:Sl w A (4*ks.length) (flat ks))(hbu:Below w.heap.size w u)(hm:ks.length≤1000000)(hmax:(wbs ks).length≤900000)(ih:∀t∈ks,∀u',Below w.heap.size w u'→Calls Tryz.prog 108 #[t.val] u' (OwnB (wb t) u'))(n:Nat)(rA:Option Addr)(L rc:Nat) :
  Calls Tryz.prog 108 #[.agg #[.int .i64 3,.int .u64 (n:Int),.slice rA L rc,.slice A ks.length c]] u (OwnB (3 :: (cb ks.length ++ wbs ks)) u):=by
 obtain⟨m,hm'⟩:∃m,ks.length=m:=⟨_,rfl⟩
 have HM:=Lib.hid hm'
 have IH:=Lib.hid ih
 have HS:=Lib.hid hs
 have HX:=Lib.hid hmax
 rw[hm'] at hm ⊢
 clear ih hs hm' hmax
 obtain⟨i0,hi,hz0,hz1,hz2⟩:=info_parts infob8
 have CC:=Lib.hid (rcount_any m (by omega))
 have CL:=cb_len (n:=m) (by omega)
 obtain⟨N,hN⟩:∃N,(cb m).length=N:=⟨_,rfl⟩
 have HN:=Lib.hid hN
 have O0:=Lib.hid (own_two u 75 #[.int .i64 3,.int .u64 (n:Int),.slice rA L rc,.slice A m c] 3)
 have B0:=Lib.hid (below_two u 75 #[.int .i64 3,.int .u64 (n:Int),.slice rA L rc,.slice A m c] (.cells #[.int .u8 3] 5))
 have A0:=Lib.hid (below_one u (.cells #[.int .i64 3,.int .u64 (n:Int),.slice rA L rc,.slice A m c] 75))
 have D0:=Lib.hid (Bl.new_ u 75 #[.int .i64 3,.int .u64 (n:Int),.slice rA L rc,.slice A m c])
 have HU:=Lib.hid hbu
 rw[hN] at CL
 clear hN hbu
 go_enter Tryz.func108,Tryz.ntmps108
 go_wp2_with (first|(go_at_call 124;(with_reducible refine(CC.out _).mono ?_);rintro e w1 ⟨v,rfl,ho,hb⟩;obtain⟨C,f,rfl,s1,s2,-, -, -⟩:=Sl.own ho;rw[HN.out] at s1 ⊢;have S1:=Lib.hid s1;have S2:=Lib.hid s2;have O1:=Lib.hid (own_below O0.out hb);have B1:=Lib.hid (B0.out.trans (hb.mono (by simp)));clear ho hb s1 s2)|(at_builtin;refine wpList_append_sl rfl _ _ 25 rfl (u.heap.size+1) 5 i0 _ 1 Tryz.underlying25 hi hz0 hz1 hz2 rfl (.slice (some ⟨u.heap.size+1,0,none⟩) 1 1) 1 _ rfl O1.out C N f _ rfl S2.out S1.out (bl_one _) (by unfold maxLen;omega) (by omega) (by have:=B1.out.size;simpa using this) ?_))
 intro v2 w2 hown2 hgrow2
 have B2:=Lib.hid (B1.out.grown hgrow2 (by have:=B1.out.size;simpa using this) (own_rows O1.out))
 have O2:=Lib.hid hown2
 clear hown2 hgrow2
 go_wp2_with fail
 go_loopg [4,3] m (fun g1 vi vo wr=>∃k:Nat,vi=.int .i64 (k:Int)∧k≤m∧m - k≤g1∧Hid (wr.ownsRow (u.heap.size+1) 5 1 vo (1+N+(wbs (ks.take k)).length) (bl (3 :: (cb m ++ wbs (ks.take k)))))∧Hid (Below (u.heap.size+1) (u.alloc (.cells #[.int .i64 3,.int .u64 (n:Int),.slice rA L rc,.slice A m c] 75)) wr))
 case atStart =>
  refine⟨0,rfl,Nat.zero_le _,Nat.le_refl _,Lib.hid ?_,B2⟩
  have h:=O2.out
  simpa[bl,wbs] using h
 case round =>
  obtain⟨k,rfl,hk,hg,HO,HB⟩:=hrel
  obtain⟨E,cap,rfl,-, -, -, -, -⟩:=Sl.own HO.out
  have DD:=Lib.hid (show Bl wr u.heap.size 75 _ from(HB.out.block _ (by omega)).trans D0.out)
  have z3:wr.cell? ⟨u.heap.size,3,none⟩=some (.slice A m c):=DD.out.cell_ rfl
  by_cases hlt:k < m
  ·obtain⟨t,ht⟩:∃t,ks[k]?=some t:=⟨_,List.getElem?_eq_getElem (by have:=HM.out;omega)⟩
   have q0:(k:Int) < (m:Int):=by omega
   have WB:=HU.out.trans ((A0.out.trans (HB.out.mono (Nat.le_succ _))).mono HU.out.size)
   obtain⟨ad,rfl,hcl⟩:∃ad,A=some ad∧∀j v,t.row[j]?=some v→wr.cell? ((ad.add (4*k)).add j)=some v:=by
    have h0:t.row[0]?=some t.row[0]!:=by cases t;rfl
    obtain⟨ad,e,-⟩:=HS.out.2 _ _ (flat_get ks k 0 t _ ht h0)
    refine⟨ad,e,fun j v hv=>?_⟩
    obtain⟨ad',e',hc⟩:=HS.out.2 _ _ (flat_get ks k j t v ht hv)
    obtain rfl:ad=ad':=by rw[e] at e';injection e'
    rw[ad_add]
    exact(WB.cell (cell_lt hc)).trans hc
   obtain⟨ae,hae⟩:∃ae,ad.add (k*4)=ae:=⟨_,rfl⟩
   rw[Nat.mul_comm,hae] at hcl
   have CK:=Lib.hid (IH.out _ (List.mem_of_getElem? ht) _ WB)
   have SN:=Lib.hid (wbs_snoc ht)
   have TK:=wbs_take ks (k+1)
   rw[SN.out,List.length_append] at TK
   cases t with
   |mk K2 N2 r2 B2' d2 us =>
   have c0:wr.cell? ae=some (.int .i64 K2):=by have:=hcl 0 _ rfl;rwa [ad_zero] at this
   have c1:wr.cell? ⟨ae.block,ae.off+1,none⟩=some (.int .u64 N2):=by have:=hcl 1 _ rfl;rwa [ad_pos _ (by decide)] at this
   have c2:wr.cell? ⟨ae.block,ae.off+2,none⟩=some (.slice r2.1 r2.2.1 r2.2.2.1):=by have:=hcl 2 _ rfl;rwa [ad_pos _ (by decide)] at this
   have c3:wr.cell? ⟨ae.block,ae.off+3,none⟩=some (.slice B2' us.length d2):=by have:=hcl 3 _ rfl;rwa [ad_pos _ (by decide)] at this
   obtain⟨P,hP⟩:∃P,(wbs (ks.take k)).length=P:=⟨_,rfl⟩
   obtain⟨T,hT⟩:∃T,(wb (.mk K2 N2 r2 B2' d2 us)).length=T:=⟨_,rfl⟩
   rw[hP] at HO ⊢
   rw[hP,hT] at TK
   have HT:=Lib.hid hT
   have HP:=Lib.hid hP
   have TM:P+T≤900000:=Nat.le_trans TK HX.out
   clear hcl ht WB TK hT hP
   go_wp2_with (first|(go_at_call 108;(refine CK.out.mono ?_);rintro e w3 ⟨v3,rfl,ho,hb⟩;obtain⟨C3,f3,rfl,s1,s2,-, -, -⟩:=Sl.own ho;rw[HT.out] at s1 ⊢;have S3:=Lib.hid s1;have S4:=Lib.hid s2;have O3:=Lib.hid (own_below HO.out hb);have B3:=Lib.hid (HB.out.trans (hb.mono (by have:=HB.out.size;simpa using this)));clear ho hb s1 s2)|(at_builtin;refine wpList_append_sl rfl _ _ 25 rfl (u.heap.size+1) 5 i0 _ 1 Tryz.underlying25 hi hz0 hz1 hz2 rfl (.slice E (1+N+P) cap) (1+N+P) _ rfl O3.out C3 T f3 _ rfl S4.out S3.out (bl_one _) (by unfold maxLen;omega) (by omega) (by have:=B3.out.size;simpa using this) ?_))
   intro v4 w4 hown4 hgrow4
   have B4:=Lib.hid (B3.out.grown hgrow4 (by have:=B3.out.size;simpa using this) (own_rows O3.out))
   have O4:=Lib.hid hown4
   clear hown4 hgrow4
   go_wp2_with fail
   go_roundg (m - (k+1))
   case measure=>omega
   case rel =>
    refine⟨k+1,by go_num,by omega,Nat.le_refl _,Lib.hid ?_,B4⟩
    have h:=O4.out
    rw[SN.out,List.length_append,HP.out,HT.out,←Nat.add_assoc]
    simpa[bl] using h
  ·obtain rfl:k=m:=by omega
   have q0:¬(k:Int) < (k:Int):=by omega
   have e:ks.take k=ks:=List.take_of_length_le (by have:=HM.out;omega)
   rw[e] at HO ⊢
   go_wp2_with fail
   go_ret
   refine⟨_,rfl,?_,A0.out.trans (HB.out.mono (Nat.le_succ _))⟩
   have h:=own_base HO.out (Nat.le_succ _)
   rw[List.length_cons,List.length_append,HN.out,show N+(wbs ks).length+1=1+N+(wbs ks).length by omega]
   exact h
theorem rights_mem:∀ {ks:List Tv},rights ks=true→∀t∈ks,right t=true:=by
 intro ks
 induction ks with
 |nil=>intro _ t h;cases h
 |cons a ks ih =>
  intro h t ht
  rw[rights,Bool.and_eq_true] at h
  rcases List.mem_cons.1 ht with rfl|ht
  ·exact h.1
  ·exact ih h.2 t ht
theorem wb_mem:∀ {ks:List Tv} {t:Tv},t∈ks→(wb t).length≤(wbs ks).length:=by
 intro ks
 induction ks with
 |nil=>intro t h;cases h
 |cons a ks ih =>
  intro t ht
  rw[wbs,List.length_append]
  rcases List.mem_cons.1 ht with rfl|ht
  ·omega
  ·have:=ih ht;omega
theorem rbytes_any{w:World}{v:Tv}(h:Ok w v):right v=true→(wb v).length≤900000→∀u,Below w.heap.size w u→Calls Tryz.prog 108 #[v.val] u (OwnB (wb v) u):=by
 induction h with
 | @mk K n r A c ks hn hr hs hm hc h0 hk ih =>
 intro hv hl u hb
 rw[right] at hv
 rw[wb] at hl ⊢
 show Calls _ _ #[.agg #[.int .i64 K,.int .u64 (n:Int),.slice r.1 r.2.1 r.2.2.1,.slice A ks.length c]] u _
 by_cases k1:K=1
 ·subst k1
  rw[if_pos rfl]
  exact rbytes_num hn _ _ _ _ _ _ u
 by_cases k2:K=2
 ·subst k2
  rw[if_neg (by decide),if_pos rfl] at hl ⊢
  refine rbytes_bytes (hr.below hb) ?_ n _ _ _
  simp at hl;omega
 by_cases k3:K=3
 ·subst k3
  rw[if_neg (by decide),if_neg (by decide),if_pos rfl,Bool.and_eq_true] at hv
  rw[if_neg (by decide),if_neg (by decide)] at hl ⊢
  have hw:(wbs ks).length≤900000:=by simp at hl;omega
  exact rbytes_list hs hb hm hw (fun t ht u' hu=>ih t ht (rights_mem hv.2 t ht) (Nat.le_trans (wb_mem ht) hw) u' hu) n _ _ _
 ·rw[if_neg k1,if_neg k2,if_neg k3] at hv;cases hv
end Go.Proofs.YteblmphohhbgcaaGreat.Wr
namespace Go.Proofs.YteblmphohhbgcaaGreat.Wr
open Go.RowKit Go.Proofs.YteblmphohhbgcaaGreat.Gn Go.Proofs.YteblmphohhbgcaaGreat.Fd Go.Deep
theorem rights_drop{ks:List Tv}{k:Nat}{t:Tv}(ht:ks[k]?=some t):rights (ks.drop k)=(right t && rights (ks.drop (k+1))):=by
 obtain⟨h,e⟩:=List.getElem?_eq_some_iff.1 ht
 rw[List.drop_eq_getElem_cons h,e];rfl
theorem kid_at{ks:List Tv}{A:Option Addr}{w wr:World}{k:Nat}{t:Tv}(hs:Sl w A (4*ks.length) (flat ks))(ht:ks[k]?=some t)(hb:Below w.heap.size w wr):∃ad,A=some ad∧∀j v,t.row[j]?=some v→wr.cell? ((ad.add (4*k)).add j)=some v:=by
 have h0:t.row[0]?=some t.row[0]!:=by cases t;rfl
 obtain⟨ad,e,-⟩:=hs.2 _ _ (flat_get ks k 0 t _ ht h0)
 refine⟨ad,e,fun j v hv=>?_⟩
 obtain⟨ad',e',hc⟩:=hs.2 _ _ (flat_get ks k j t v ht hv)
 obtain rfl:ad=ad':=by rw[e] at e';injection e'
 rw[ad_add]
 exact(hb.cell (cell_lt hc)).trans hc
set_option maxHeartbeats 8000000 in
set_option maxRecDepth 100000 in
theorem RRight_any{w:World}{v:Tv}(h:Ok w v):∀u,Below w.heap.size w u→Calls Tryz.prog 105 #[v.val] u (RiQ (right v) u):=by
 induction h with
 | @mk K N r A c ks hn hr hs hm hc h0 hk ih =>
 intro u hb
 obtain⟨rA,L,rc,rl⟩:=r
 obtain⟨M,hM⟩:∃M,ks.length=M:=⟨_,rfl⟩
 have HM:=Lib.hid hM
 have R1:right (.mk K N (rA,L,rc,rl) A c ks)=if K=1 then decide (L=0) && decide (M=0) else if K=2 then decide (N=0) && decide (M=0) else if K=3 then decide (N=0) && decide (L=0) && rights ks else false:=by rw[right,hM]
 have HB:=Lib.hid (below_one u (.cells #[.int .i64 K,.int .u64 (N:Int),.slice rA L rc,.slice A M c] 75))
 have D0:=Lib.hid (Bl.new_ u 75 #[.int .i64 K,.int .u64 (N:Int),.slice rA L rc,.slice A M c])
 show Calls _ _ #[.agg #[.int .i64 K,.int .u64 (N:Int),.slice rA L rc,.slice A ks.length c]] u _
 rw[hM] at hm ⊢
 have IH:=Lib.hid ih
 have HS:=Lib.hid hs
 have HU:=Lib.hid hb
 clear ih hk hr h0 hs hM hb hc hn
 by_cases l1:K < 1
 ·rw[R1,if_neg (by omega),if_neg (by omega),if_neg (by omega)]
  clear R1 IH HS
  go_enter Tryz.func105,Tryz.ntmps105
  go_wp2_with fail
  go_ret
  exact⟨rfl,HB.out⟩
 by_cases l3:3 < K
 ·rw[R1,if_neg (by omega),if_neg (by omega),if_neg (by omega)]
  clear R1 IH HS
  go_enter Tryz.func105,Tryz.ntmps105
  go_wp2_with fail
  go_ret
  exact⟨rfl,HB.out⟩
 by_cases k1:K=1
 ·subst k1
  rw[R1,if_pos rfl]
  clear R1 l1 l3
  by_cases b0:L=0
  ·subst b0
   by_cases m0:M=0
   ·subst m0
    show Calls _ _ _ u (RiQ true u)
    clear IH HS
    go_enter Tryz.func105,Tryz.ntmps105
    go_wp2_with fail
    go_loopw [3] (fun i wr=>∃k:Nat,k≤0∧i=.int .i64 (k:Int)∧Hid (rights ks=rights (ks.drop k))∧Hid (Below (u.heap.size+1) (u.alloc (.cells #[.int .i64 1,.int .u64 (N:Int),.slice rA 0 rc,.slice A 0 c] 75)) wr)) (fun i _=>0 - (intOf i).toNat)
    case atStart=>exact⟨0,Nat.zero_le _,rfl,Lib.hid rfl,Lib.hid (by have h:=Below.refl (u.alloc (.cells #[.int .i64 1,.int .u64 (N:Int),.slice rA 0 rc,.slice A 0 c] 75)).heap.size (u.alloc (.cells #[.int .i64 1,.int .u64 (N:Int),.slice rA 0 rc,.slice A 0 c] 75));simpa using h)⟩
    case round =>
     obtain⟨k,hk,rfl,HD,HW⟩:=hrel
     have DD:=Lib.hid (show Bl wr u.heap.size 75 _ from(HW.out.block _ (by omega)).trans D0.out)
     have z3:wr.cell? ⟨u.heap.size,3,none⟩=some (.slice A 0 c):=DD.out.cell_ rfl
     obtain rfl:k=0:=by omega
     have q0:¬((0:Nat):Int) < ((0:Nat):Int):=by omega
     go_wp2_with fail
     go_ret
     exact⟨rfl,HB.out.trans (HW.out.mono (Nat.le_succ _))⟩
   ·rw[decide_eq_false m0,Bool.and_false]
    have m1:0 < (M:Int):=by omega
    clear m0 IH HS
    go_enter Tryz.func105,Tryz.ntmps105
    go_wp2_with fail
    go_ret
    exact⟨rfl,HB.out⟩
  ·rw[decide_eq_false b0,Bool.false_and]
   have b1:0 < (L:Int):=by omega
   clear b0 IH HS
   go_enter Tryz.func105,Tryz.ntmps105
   go_wp2_with fail
   go_ret
   exact⟨rfl,HB.out⟩
 by_cases k2:K=2
 ·subst k2
  rw[R1,if_neg (by decide),if_pos rfl]
  clear R1 l1 l3 k1
  by_cases b0:N=0
  ·subst b0
   by_cases m0:M=0
   ·subst m0
    show Calls _ _ _ u (RiQ true u)
    clear IH HS
    go_enter Tryz.func105,Tryz.ntmps105
    go_wp2_with fail
    go_loopw [3] (fun i wr=>∃k:Nat,k≤0∧i=.int .i64 (k:Int)∧Hid (rights ks=rights (ks.drop k))∧Hid (Below (u.heap.size+1) (u.alloc (.cells #[.int .i64 2,.int .u64 ((0:Nat):Int),.slice rA L rc,.slice A 0 c] 75)) wr)) (fun i _=>0 - (intOf i).toNat)
    case atStart=>exact⟨0,Nat.zero_le _,rfl,Lib.hid rfl,Lib.hid (by have h:=Below.refl (u.alloc (.cells #[.int .i64 2,.int .u64 ((0:Nat):Int),.slice rA L rc,.slice A 0 c] 75)).heap.size (u.alloc (.cells #[.int .i64 2,.int .u64 ((0:Nat):Int),.slice rA L rc,.slice A 0 c] 75));simpa using h)⟩
    case round =>
     obtain⟨k,hk,rfl,HD,HW⟩:=hrel
     have DD:=Lib.hid (show Bl wr u.heap.size 75 _ from(HW.out.block _ (by omega)).trans D0.out)
     have z3:wr.cell? ⟨u.heap.size,3,none⟩=some (.slice A 0 c):=DD.out.cell_ rfl
     obtain rfl:k=0:=by omega
     have q0:¬((0:Nat):Int) < ((0:Nat):Int):=by omega
     go_wp2_with fail
     go_ret
     exact⟨rfl,HB.out.trans (HW.out.mono (Nat.le_succ _))⟩
   ·rw[decide_eq_false m0,Bool.and_false]
    have m1:0 < (M:Int):=by omega
    clear m0 IH HS
    go_enter Tryz.func105,Tryz.ntmps105
    go_wp2_with fail
    go_ret
    exact⟨rfl,HB.out⟩
  ·rw[decide_eq_false b0,Bool.false_and]
   have b1:¬(N:Int)=0:=by omega
   clear b0 IH HS
   go_enter Tryz.func105,Tryz.ntmps105
   go_wp2_with fail
   go_ret
   exact⟨rfl,HB.out⟩
 obtain rfl:K=3:=by omega
 rw[R1,if_neg (by decide),if_neg (by decide),if_pos rfl]
 clear R1 l1 l3 k1 k2
 by_cases b0:N=0
 ·subst b0
  by_cases b2:L=0
  ·subst b2
   have e00:((0:Nat):Int)=0:=rfl
   rw[e00] at D0 HB ⊢
   show Calls _ _ _ u (RiQ (true && true && rights ks) u)
   rw[Bool.true_and,Bool.true_and]
   go_enter Tryz.func105,Tryz.ntmps105
   go_wp2_with fail
   go_loopw [3] (fun i wr=>∃k:Nat,k≤M∧i=.int .i64 (k:Int)∧Hid (rights ks=rights (ks.drop k))∧Hid (Below (u.heap.size+1) (u.alloc (.cells #[.int .i64 3,.int .u64 0,.slice rA 0 rc,.slice A M c] 75)) wr)) (fun i _=>M - (intOf i).toNat)
   case atStart=>exact⟨0,Nat.zero_le _,rfl,Lib.hid rfl,Lib.hid (by have h:=Below.refl (u.alloc (.cells #[.int .i64 3,.int .u64 0,.slice rA 0 rc,.slice A M c] 75)).heap.size (u.alloc (.cells #[.int .i64 3,.int .u64 0,.slice rA 0 rc,.slice A M c] 75));simpa using h)⟩
   case round =>
    obtain⟨k,hk,rfl,HD,HW⟩:=hrel
    have DD:=Lib.hid (show Bl wr u.heap.size 75 _ from(HW.out.block _ (by omega)).trans D0.out)
    have z3:wr.cell? ⟨u.heap.size,3,none⟩=some (.slice A M c):=DD.out.cell_ rfl
    by_cases hlt:k < M
    ·obtain⟨t,ht⟩:∃t,ks[k]?=some t:=⟨_,List.getElem?_eq_getElem (by have:=HM.out;omega)⟩
     have q0:(k:Int) < (M:Int):=by omega
     have WB:=HU.out.trans ((HB.out.trans (HW.out.mono (Nat.le_succ _))).mono HU.out.size)
     obtain⟨ad,rfl,hcl⟩:=kid_at HS.out ht WB
     obtain⟨ae,hae⟩:∃ae,ad.add (k*4)=ae:=⟨_,rfl⟩
     rw[Nat.mul_comm,hae] at hcl
     have CR:=Lib.hid (IH.out _ (List.mem_of_getElem? ht) _ WB)
     have SP:=Lib.hid (show rights (ks.drop k)=(right t && rights (ks.drop (k+1))) from rights_drop ht)
     cases t with
     |mk K2 N2 r2 B2' d2 us =>
     have c0:wr.cell? ae=some (.int .i64 K2):=by have:=hcl 0 _ rfl;rwa [ad_zero] at this
     have c1:wr.cell? ⟨ae.block,ae.off+1,none⟩=some (.int .u64 N2):=by have:=hcl 1 _ rfl;rwa [ad_pos _ (by decide)] at this
     have c2:wr.cell? ⟨ae.block,ae.off+2,none⟩=some (.slice r2.1 r2.2.1 r2.2.2.1):=by have:=hcl 2 _ rfl;rwa [ad_pos _ (by decide)] at this
     have c3:wr.cell? ⟨ae.block,ae.off+3,none⟩=some (.slice B2' us.length d2):=by have:=hcl 3 _ rfl;rwa [ad_pos _ (by decide)] at this
     clear hcl ht WB
     cases hrt:right (.mk K2 N2 r2 B2' d2 us) with
     |true =>
      rw[hrt] at CR SP
      go_wp2_with (go_at_call 105;(refine CR.out.mono ?_);rintro e w1 ⟨rfl,hb1⟩;have B2:=Lib.hid (HW.out.trans (hb1.mono (by have:=HW.out.size;simpa using this)));clear hb1)
      exact⟨⟨k+1,by omega,by go_num,Lib.hid (by rw[HD.out,SP.out,Bool.true_and]),B2⟩,by simp[intOf];omega⟩
     |false =>
      rw[hrt] at CR SP
      go_wp2_with (go_at_call 105;(refine CR.out.mono ?_);rintro e w1 ⟨rfl,hb1⟩;have B2:=Lib.hid (HW.out.trans (hb1.mono (by have:=HW.out.size;simpa using this)));clear hb1)
      go_ret
      exact⟨by rw[HD.out,SP.out,Bool.false_and];rfl,HB.out.trans (B2.out.mono (Nat.le_succ _))⟩
    ·obtain rfl:k=M:=by omega
     have q0:¬(k:Int) < (k:Int):=by omega
     have e:rights ks=true:=by rw[HD.out,List.drop_eq_nil_of_le (by have:=HM.out;omega)];rfl
     have HE:=Lib.hid e
     clear e
     go_wp2_with fail
     go_ret
     exact⟨by rw[HE.out];rfl,HB.out.trans (HW.out.mono (Nat.le_succ _))⟩
  ·rw[decide_eq_false b2,Bool.and_false,Bool.false_and]
   have b1:0 < (L:Int):=by omega
   clear b2 IH HS
   go_enter Tryz.func105,Tryz.ntmps105
   go_wp2_with fail
   go_ret
   exact⟨rfl,HB.out⟩
 ·rw[decide_eq_false b0,Bool.false_and,Bool.false_and]
  have b1:¬(N:Int)=0:=by omega
  clear b0 IH HS
  go_enter Tryz.func105,Tryz.ntmps105
  go_wp2_with fail
  go_ret
  exact⟨rfl,HB.out⟩
end Go.Proofs.YteblmphohhbgcaaGreat.Wr
