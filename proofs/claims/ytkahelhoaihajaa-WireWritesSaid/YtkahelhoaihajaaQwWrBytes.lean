/- Joined texts. -/
import Derived.Test.YtkahelhoaihajaaQwWrTree
import Derived.Test.YtkahelhoaihajaaQwWrCount
set_option linter.unusedVariables false
namespace Go.Proofs.Ytkahelhoaihajaa.Wr
open Go.RowKit Go.Proofs.Ytkahelhoaihajaa.Gn Go.Proofs.Ytkahelhoaihajaa.Fd Go.Deep
mutual
def wb:Tv→List Nat
 |.mk k n r _ _ ks=>k.toNat :: (if k=1 then cb n else if k=2 then cb r.2.1 ++ r.2.2.2 else cb ks.length ++ wbs ks)
def wbs:List Tv→List Nat
 | []=>[]
 |t :: ts=>wb t ++ wbs ts
end
theorem own_two(u:World)(T:TypeId)(cs:Array Value)(x:Nat):((u.alloc (.cells cs T)).alloc (.cells #[.int .u8 (x:Int)] 5)).ownsRow (u.heap.size+1) 5 1 (.slice (some ⟨u.heap.size+1,0,none⟩) 1 1) 1 (bl [x]):=by
 have h:=own_new (u.alloc (.cells cs T)) 5 [.int .u8 (x:Int)] (by unfold maxLen;simp)
 simpa[bl] using h
theorem below_two(u:World)(T:TypeId)(cs:Array Value)(o:Obj):Below (u.heap.size+1) (u.alloc (.cells cs T)) ((u.alloc (.cells cs T)).alloc o):=by
 have h:=(Below.refl (u.alloc (.cells cs T)).heap.size (u.alloc (.cells cs T))).alloc (Nat.le_refl _) o
 simpa using h
theorem below_one(u:World)(o:Obj):Below u.heap.size u (u.alloc o):=(Below.refl u.heap.size u).alloc (Nat.le_refl _) o
set_option maxHeartbeats 4000000 in
set_option maxRecDepth 100000 in
theorem rbytes_num{n:Nat}(hn:n < 18446744073709551616)(A B:Option Addr)(L M c d:Nat)(u:World) :
  Calls Try.prog 57 #[.agg #[.int .i64 1,.int .u64 (n:Int),.slice A L c,.slice B M d]] u (OwnB (1 :: cb n) u):=by
 obtain⟨i0,hi,hz0,hz1,hz2⟩:=info_parts infob8
 have CC:=Lib.hid (rcount_any n hn)
 have CL:=cb_len hn
 obtain⟨N,hN⟩:∃N,(cb n).length=N:=⟨_,rfl⟩
 have HN:=Lib.hid hN
 have O0:=Lib.hid (own_two u 26 #[.int .i64 1,.int .u64 (n:Int),.slice A L c,.slice B M d] 1)
 have B0:=Lib.hid (below_two u 26 #[.int .i64 1,.int .u64 (n:Int),.slice A L c,.slice B M d] (.cells #[.int .u8 1] 5))
 have A0:=Lib.hid (below_one u (.cells #[.int .i64 1,.int .u64 (n:Int),.slice A L c,.slice B M d] 26))
 rw[hN] at CL
 clear hN
 go_enter Try.func57,Try.ntmps57
 go_wp2_with (first|(go_at_call 81;(with_reducible refine(CC.out _).mono ?_);rintro e w1 ⟨v,rfl,ho,hb⟩;obtain⟨C,f,rfl,s1,s2,-, -, -⟩:=Sl.own ho;rw[HN.out] at s1 ⊢;have S1:=Lib.hid s1;have S2:=Lib.hid s2;have O1:=Lib.hid (own_below O0.out hb);have B1:=Lib.hid (B0.out.trans (hb.mono (by simp)));clear ho hb s1 s2)|(at_builtin;refine wpList_append_sl rfl _ _ 23 rfl (u.heap.size+1) 5 i0 _ 1 Try.underlying23 hi hz0 hz1 hz2 rfl (.slice (some ⟨u.heap.size+1,0,none⟩) 1 1) 1 _ rfl O1.out C N f _ rfl S2.out S1.out (bl_one _) (by unfold maxLen;omega) (by omega) (by have:=B1.out.size;simpa using this) ?_))
 intro v2 w2 hown2 hgrow2
 have B2:=Lib.hid (B1.out.grown hgrow2 (by have:=B1.out.size;simpa using this) (own_rows O1.out))
 have O2:=Lib.hid hown2
 clear hown2 hgrow2
 go_wp2_with fail
 go_ret
 refine⟨_,rfl,?_,A0.out.trans (B2.out.mono (Nat.le_succ _))⟩
 have h:=own_base O2.out (Nat.le_succ _)
 rw[List.length_cons,HN.out,Nat.add_comm N 1]
 simpa[bl] using h
set_option maxHeartbeats 4000000 in
set_option maxRecDepth 100000 in
theorem rbytes_bytes{r:Rw}{u:World}(hr:Pc u r)(hm:r.2.2.2.length≤900000)(n:Nat)(B:Option Addr)(M d:Nat) :
  Calls Try.prog 57 #[.agg #[.int .i64 2,.int .u64 (n:Int),.slice r.1 r.2.1 r.2.2.1,.slice B M d]] u (OwnB (2 :: (cb r.2.1 ++ r.2.2.2)) u):=by
 obtain⟨A,L,c,l⟩:=r
 have hL:L=l.length:=hr.len
 obtain⟨i0,hi,hz0,hz1,hz2⟩:=info_parts infob8
 have hm:l.length≤900000:=hm
 have CC:=Lib.hid (rcount_any L (by omega))
 have CL:=cb_len (n:=L) (by omega)
 obtain⟨N,hN⟩:∃N,(cb L).length=N:=⟨_,rfl⟩
 have HN:=Lib.hid hN
 have HL:=Lib.hid hL
 have SR:=Lib.hid (show Sl u A L (bl l) from by have:=hr.row;rw[hL];exact this)
 have NR:=Lib.hid (show A=none→c=0 from hr.nil)
 have O0:=Lib.hid (own_two u 26 #[.int .i64 2,.int .u64 (n:Int),.slice A L c,.slice B M d] 2)
 have B0:=Lib.hid (below_two u 26 #[.int .i64 2,.int .u64 (n:Int),.slice A L c,.slice B M d] (.cells #[.int .u8 2] 5))
 have A0:=Lib.hid (below_one u (.cells #[.int .i64 2,.int .u64 (n:Int),.slice A L c,.slice B M d] 26))
 have D0:=Lib.hid (Bl.new_ u 26 #[.int .i64 2,.int .u64 (n:Int),.slice A L c,.slice B M d])
 have l63:L≤900000:=by omega
 rw[hN] at CL
 clear hN hr hL hm
 show Calls _ _ #[.agg #[.int .i64 2,.int .u64 (n:Int),.slice A L c,.slice B M d]] u _
 go_enter Try.func57,Try.ntmps57
 go_wp2_with (first|(go_at_call 81;(with_reducible refine(CC.out _).mono ?_);rintro e w1 ⟨v,rfl,ho,hb⟩;obtain⟨C,f,rfl,s1,s2,-, -, -⟩:=Sl.own ho;rw[HN.out] at s1 ⊢;have S1:=Lib.hid s1;have S2:=Lib.hid s2;have O1:=Lib.hid (own_below O0.out hb);have B1:=Lib.hid (B0.out.trans (hb.mono (by simp)));clear ho hb s1 s2)|(at_builtin;refine wpList_append_sl rfl _ _ 23 rfl (u.heap.size+1) 5 i0 _ 1 Try.underlying23 hi hz0 hz1 hz2 rfl (.slice (some ⟨u.heap.size+1,0,none⟩) 1 1) 1 _ rfl O1.out C N f _ rfl S2.out S1.out (bl_one _) (by unfold maxLen;omega) (by omega) (by have:=B1.out.size;simpa using this) ?_))
 intro v2 w2 hown2 hgrow2
 have B2:=Lib.hid (B1.out.grown hgrow2 (by have:=B1.out.size;simpa using this) (own_rows O1.out))
 obtain⟨E,f2,rfl,-, -, -, -, -⟩:=Sl.own hown2
 have O2:=Lib.hid hown2
 clear hown2 hgrow2
 have D2:=Lib.hid (show Bl w2 u.heap.size 26 _ from(B2.out.block _ (by omega)).trans D0.out)
 have c2:w2.cell? ⟨u.heap.size,2,none⟩=some (.slice A L c):=D2.out.cell_ rfl
 have W2:=Lib.hid (A0.out.trans (B2.out.mono (Nat.le_succ _)))
 go_wp2_with (at_builtin;refine wpList_append_sl rfl _ _ 23 rfl (u.heap.size+1) 5 i0 _ 1 Try.underlying23 hi hz0 hz1 hz2 rfl (.slice E (1+N) f2) (1+N) _ rfl O2.out A L c (bl l) rfl NR.out (SR.out.below W2.out) (bl_one _) (by unfold maxLen;omega) (by omega) (by have:=B2.out.size;simpa using this) ?_)
 intro v3 w3 hown3 hgrow3
 have B3:=Lib.hid (B2.out.grown hgrow3 (by have:=B2.out.size;simpa using this) (own_rows O2.out))
 have O3:=Lib.hid hown3
 clear hown3 hgrow3
 go_wp2_with fail
 go_ret
 refine⟨_,rfl,?_,A0.out.trans (B3.out.mono (Nat.le_succ _))⟩
 have h:=own_base O3.out (Nat.le_succ _)
 rw[List.length_cons,List.length_append,HN.out,←HL.out,show N+L+1=1+N+L by omega]
 simpa[bl] using h
end Go.Proofs.Ytkahelhoaihajaa.Wr
