/- Joined texts. -/
import Derived.Test.YtnnfpmebopgogaaDoorQsMpHalf
import Derived.Test.YtnnfpmebopgogaaDoorQsShRS
set_option linter.unusedVariables false
namespace Go.Proofs.YtnnfpmebopgogaaDoor.Mk
open Go.RowKit Go.Proofs.YtnnfpmebopgogaaDoor.Gn Go.Proofs.YtnnfpmebopgogaaDoor.Fd Go.Deep
theorem infob8:(Tryd.prog.info? 5).map (fun i=>(i.zero,i.size,i.bytes))=some (some (.int .u8 0),1,1):=by kernel_rfl
def OwnB(l:List Nat)(w:World)(e:Ending)(w':World):Prop:=∃v,e=.returned v∧w'.ownsRow w.heap.size 5 1 v l.length (bl l)∧Below w.heap.size w w'
set_option maxHeartbeats 2000000 in
set_option maxRecDepth 100000 in
theorem rjoin_any{A B C:Option Addr}{n m k c d f:Nat}{x y z:List Nat}{w:World}(h1:Pc w (A,n,c,x))(h2:Pc w (B,m,d,y))(h3:Pc w (C,k,f,z))(hmax:n+m+k≤1000000) :
  Calls Tryd.prog 57 #[.slice A n c,.slice B m d,.slice C k f] w (OwnB (x ++ (y ++ z)) w):=by
 obtain⟨i0,hi,hz0,hz1,hz2⟩:=info_parts infob8
 have ln:x.length=n:=h1.len.symm
 have lm:y.length=m:=h2.len.symm
 have lk:z.length=k:=h3.len.symm
 have S1:=Lib.hid (show Sl w A n (bl x) from by have:=h1.row;rwa [show((A,n,c,x):Rw).2.2.2=x from rfl,ln] at this)
 have S2:=Lib.hid (show Sl w B m (bl y) from by have:=h2.row;rwa [show((B,m,d,y):Rw).2.2.2=y from rfl,lm] at this)
 have S3:=Lib.hid (show Sl w C k (bl z) from by have:=h3.row;rwa [show((C,k,f,z):Rw).2.2.2=z from rfl,lk] at this)
 have N1:=Lib.hid h1.nil
 have N2:=Lib.hid h2.nil
 have N3:=Lib.hid h3.nil
 have L:=Lib.hid (show(x ++ (y ++ z)).length=n+m+k by simp;omega)
 clear h1 h2 h3 ln lm lk
 go_enter Tryd.func57,Tryd.ntmps57
 go_wp2_with (at_builtin;refine wpList_append_sl rfl _ _ 22 rfl w.heap.size 5 i0 _ 1 Tryd.underlying22 hi hz0 hz1 hz2 rfl (.slice none 0 0) 0 [] rfl (own_nil _ _ _) A n c (bl x) rfl N1.out S1.out (bl_one _) (by unfold maxLen;omega) (by omega) (Nat.le_refl _) ?_)
 intro v2 w2 hown2 hgrow2
 have B2:=Lib.hid ((Below.refl w.heap.size w).grown hgrow2 (Nat.le_refl _) (own_rows (own_nil w w.heap.size 5)))
 obtain⟨A2,c2,rfl,-, -, -, -, -⟩:=Sl.own hown2
 have O2:=Lib.hid hown2
 clear hown2 hgrow2
 go_wp2_with (at_builtin;refine wpList_append_sl rfl _ _ 22 rfl w.heap.size 5 i0 _ 1 Tryd.underlying22 hi hz0 hz1 hz2 rfl (.slice A2 n c2) n _ rfl O2.out B m d (bl y) rfl N2.out (S2.out.below B2.out) (bl_one _) (by unfold maxLen;omega) (by omega) B2.out.size ?_)
 intro v3 w3 hown3 hgrow3
 have B3:=Lib.hid (B2.out.grown hgrow3 B2.out.size (own_rows O2.out))
 obtain⟨A3,c3,rfl,-, -, -, -, -⟩:=Sl.own hown3
 have O3:=Lib.hid hown3
 clear hown3 hgrow3
 go_wp2_with (at_builtin;refine wpList_append_sl rfl _ _ 22 rfl w.heap.size 5 i0 _ 1 Tryd.underlying22 hi hz0 hz1 hz2 rfl (.slice A3 (n+m) c3) (n+m) _ rfl O3.out C k f (bl z) rfl N3.out (S3.out.below B3.out) (bl_one _) (by unfold maxLen;omega) (by omega) B3.out.size ?_)
 intro v4 w4 hown4 hgrow4
 have B4:=Lib.hid (B3.out.grown hgrow4 B3.out.size (own_rows O3.out))
 have O4:=Lib.hid hown4
 clear hown4 hgrow4
 go_wp2_with fail
 go_ret
 refine⟨_,rfl,?_,B4.out⟩
 rw[L.out]
 have h:=O4.out
 simpa[bl,List.append_assoc] using h
theorem rhash_any{A:Option Addr}{n c:Nat}{l:List Nat}{w:World}(h:Pc w (A,n,c,l))(hn:n≤1048576) :
  Calls Tryd.prog 36 #[.slice A n c] w (OwnB (Sh.dg false l) w):=by
 have hl:l.length=n:=h.len.symm
 have C:=Lib.hid (Sh.rsum32_any l A n c w h.lt (by have:=h.row;rwa [show((A,n,c,l):Rw).2.2.2=l from rfl,hl] at this) h.nil hn)
 clear h hl
 go_enter Tryd.func36,Tryd.ntmps36
 go_wp2_with (go_at_call 68;(with_reducible refine C.out.mono ?_);rintro e w1 ⟨v,rfl,ho,hb⟩;have O1:=Lib.hid ho;have B1:=Lib.hid hb;clear ho hb)
 go_ret
 exact⟨v,rfl,by rw[dg32_len];exact O1.out,B1.out⟩
theorem rnode_any{A B:Option Addr}{n m c d:Nat}{x y:List Nat}{w:World}(h1:Pc w (A,n,c,x))(h2:Pc w (B,m,d,y))(hmax:n+m≤900000) :
  Calls Tryd.prog 56 #[.slice A n c,.slice B m d] w (OwnB (1 :: (x ++ y)) w):=by
 have BB:=(Below.refl w.heap.size w).alloc (Nat.le_refl _) (.cells #[.int .u8 1] 5)
 have PB:Pc (w.alloc (.cells #[.int .u8 1] 5)) (some ⟨w.heap.size,0,none⟩,1,1,[1]):=⟨rfl,Sl.new_ w 5 (bl [1]),fun x hx=>by simp at hx;omega,Nat.le_refl _,fun h=>by cases h⟩
 have C:=Lib.hid (rjoin_any PB (h1.below BB) (h2.below BB) (by omega))
 clear h1 h2 PB
 have HB:=Lib.hid BB
 clear BB
 go_enter Tryd.func56,Tryd.ntmps56
 go_wp2_with (go_at_call 57;(with_reducible refine C.out.mono ?_);rintro e w1 ⟨v,rfl,ho,hb⟩;have O1:=Lib.hid ho;have B1:=Lib.hid hb;clear ho hb)
 go_ret
 exact⟨v,rfl,own_base O1.out HB.out.size,HB.out.trans (B1.out.mono HB.out.size)⟩
set_option maxHeartbeats 2000000 in
set_option maxRecDepth 100000 in
theorem reight_any(n:Nat)(hn:n≤9223372036854775807)(w:World):Calls Tryd.prog 58 #[.int .i64 (n:Int)] w (OwnB (eight n) w):=by
 obtain⟨i0,hi,hz0,hz1,hz2⟩:=info_parts infob8
 go_enter Tryd.func58,Tryd.ntmps58
 go_wp2_with fail
 go_loopg [4,5,3] 8 (fun g1 vl vi vo wr=>∃(i L:Nat),vl=.int .u64 (L:Int)∧vi=.int .i64 i∧i≤8∧8 - i≤g1∧L≤9223372036854775807∧Hid (L=n / 256 ^ i)∧Hid (wr.ownsRow w.heap.size 5 1 vo i (bl (by_ n i).reverse))∧Hid (Below w.heap.size w wr))
 case atStart=>exact⟨0,n,rfl,rfl,by omega,by omega,hn,Lib.hid (by simp),Lib.hid (own_nil _ _ _),Lib.hid (Below.refl _ _)⟩
 case round =>
  obtain⟨i,L,rfl,rfl,hi8,hg,hL,HL,HO,HB⟩:=hrel
  obtain⟨A,cap,rfl,s1,s2,-, -, -⟩:=Sl.own HO.out
  have S1:=Lib.hid s1
  have S2:=Lib.hid s2
  clear s1 s2
  by_cases hlt:i < 8
  ·have q0:(i:Int) < 8:=by omega
   obtain⟨r,hr⟩:∃r,r=L%256:=⟨_,rfl⟩
   obtain⟨q,hq⟩:∃q,q=L / 256:=⟨_,rfl⟩
   have e1:(L:Int)%256=(r:Int):=by omega
   have e2:(L:Int) / 256=(q:Int):=by omega
   have hr2:(r:Int) < 256:=by omega
   have HR:=Lib.hid hr
   have HQ:=Lib.hid hq
   have hq2:q≤9223372036854775807:=by omega
   clear hr hq
   go_wp2_with (at_builtin;refine wpList_append_sl rfl _ _ 22 rfl wr.heap.size 5 i0 _ 1 Tryd.underlying22 hi hz0 hz1 hz2 rfl (.slice (some ⟨wr.heap.size,0,none⟩) 1 1) 1 _ rfl (own_new wr 5 [.int .u8 (r:Int)] (by unfold maxLen;simp)) A i cap _ rfl S2.out (S1.out.below ((Below.refl _ _).alloc (Nat.le_refl _) _)) (bl_one _) (by unfold maxLen;omega) (by omega) (by simp) ?_)
   intro v2 w2 hown2 hgrow2
   have B2:=Lib.hid (HB.out.trans ((((Below.refl wr.heap.size wr).alloc (Nat.le_refl _) (.cells #[.int .u8 (r:Int)] 5)).grown hgrow2 (by simp) (own_rows (own_new wr 5 [.int .u8 (r:Int)] (by unfold maxLen;simp)))).mono HB.out.size))
   have O2:=Lib.hid (own_base hown2 HB.out.size)
   clear hown2 hgrow2
   go_wp2_with fail
   go_roundg (8 - (i+1))
   case measure=>omega
   case rel =>
    refine⟨i+1,q,rfl,by go_num,by omega,Nat.le_refl _,hq2,Lib.hid ?_,Lib.hid ?_,B2⟩
    ·rw[HQ.out,HL.out,Nat.pow_succ,Nat.div_div_eq_div_mul]
    ·have h:=O2.out
     rw[by_snoc,List.reverse_append,←HL.out,←HR.out,show i+1=1+i by omega]
     simpa[bl] using h
  ·have q0:¬(i:Int) < 8:=by omega
   obtain rfl:i=8:=by omega
   go_wp2_with fail
   go_ret
   have e:(eight n).length=8:=eight_len n
   exact⟨_,rfl,by rw[e];exact HO.out,HB.out⟩
theorem rroot_any(n:Nat)(hn:n≤9223372036854775807){A:Option Addr}{m c:Nat}{x:List Nat}{w:World}(h:Pc w (A,m,c,x))(hm:m≤900000) :
  Calls Tryd.prog 29 #[.int .i64 (n:Int),.slice A m c] w (OwnB (2 :: (eight n ++ x)) w):=by
 have BB:=(Below.refl w.heap.size w).alloc (Nat.le_refl _) (.cells #[.int .u8 2] 5)
 have PB:Pc (w.alloc (.cells #[.int .u8 2] 5)) (some ⟨w.heap.size,0,none⟩,1,1,[2]):=⟨rfl,Sl.new_ w 5 (bl [2]),fun x hx=>by simp at hx;omega,Nat.le_refl _,fun h=>by cases h⟩
 have C1:=Lib.hid (fun w=>reight_any n hn w)
 have HB:=Lib.hid BB
 have C2:=Lib.hid (fun(w1:World) (B:Option Addr) (d:Nat) (hb:Below (w.alloc (.cells #[.int .u8 2] 5)).heap.size (w.alloc (.cells #[.int .u8 2] 5)) w1) (hp:Pc w1 (B,8,d,eight n))=>rjoin_any (PB.below hb) hp (h.below (BB.trans (hb.mono BB.size))) (by omega))
 clear h PB BB
 go_enter Tryd.func29,Tryd.ntmps29
 go_wp2_with (go_at_call 58;(with_reducible refine(C1.out _).mono ?_);rintro e w1 ⟨v,rfl,ho,hb⟩;rw[eight_len] at ho;obtain⟨B,d,rfl,hp⟩:=own_any ho (eight_len n) (eight_lt n);have C3:=Lib.hid (C2.out w1 B d hb hp);have B1:=Lib.hid hb;clear ho hb hp C2)
 go_wp2_with (go_at_call 57;(with_reducible refine C3.out.mono ?_);rintro e w2 ⟨v,rfl,ho,hb⟩;have O2:=Lib.hid ho;have B2:=Lib.hid hb;clear ho hb)
 go_ret
 have b1:=HB.out.trans (B1.out.mono HB.out.size)
 exact⟨v,rfl,own_base O2.out b1.size,b1.trans (B2.out.mono b1.size)⟩
end Go.Proofs.YtnnfpmebopgogaaDoor.Mk
