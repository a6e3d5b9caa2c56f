/- Joined texts. -/
import Derived.Test.YtcnlmekjcffohaaDoorQpMpHalf
import Derived.Test.YtcnlmekjcffohaaDoorQpShRS
set_option linter.unusedVariables false
namespace Go.Proofs.YtcnlmekjcffohaaDoor.Mk
open Go.RowKit Go.Proofs.YtcnlmekjcffohaaDoor.Gn Go.Proofs.YtcnlmekjcffohaaDoor.Fd Go.Deep
theorem infob8:(Tryd.prog.info? 5).map (fun i=>(i.zero,i.size,i.bytes))=some (some (.int .u8 0),1,1):=by kernel_rfl
def OwnB(l:List Nat)(w:World)(e:Ending)(w':World):Prop:=∃v,e=.returned v∧w'.ownsRow w.heap.size 5 1 v l.length (bl l)∧Below w.heap.size w w'
set_option maxHeartbeats 2000000 in
set_option maxRecDepth 100000 in
theorem rjoin_any{A B C:Option Addr}{n m k c d f:Nat}{x y z:List Nat}{w:World}(h1:Pc w (A,n,c,x))(h2:Pc w (B,m,d,y))(h3:Pc w (C,k,f,z))(hmax:n+m+k≤1000000) :
  Calls Tryd.prog 61 #[.slice A n c,.slice B m d,.slice C k f] w (OwnB (x ++ (y ++ z)) w):=by
 obtain⟨i0,hi,hz0,hz1,hz2⟩:=info_parts infob8
 have ln:x.length=n:=h1.len.symm
 have lm:y.length=m:=h2.len.symm
 have lk:z.length=k:=h3.len.symm
 have S1:=Lib.hid (show Sl w A n (bl x) from by have:=h1.row;rwa [show((A,n,c,x):Rw).2.2.2=x from rfl,ln] at this)
 have S2:=Lib.hid (show Sl w B m (bl y) from by have:=h2.row;rwa [show((B,m,d,y):Rw).2.2.2=y from rfl,lm] at this)
 have S3:=Lib.hid (show Sl w C k (bl z) from by have:=h3.row;rwa [show((C,k,f,z):Rw).2.2.2=z from rfl,lk] at this)
 have N1:=Lib.hid h1.nil
 have N2:=Lib.hid h2.nil
 have N3:=Lib.hid h3.nil
 have L:=Lib.hid (show(x ++ (y ++ z)).length=n+m+k by simp;omega)
 clear h1 h2 h3 ln lm lk
 go_enter Tryd.func61,Tryd.ntmps61
 go_wp2_with (at_builtin;refine wpList_append_sl rfl _ _ 22 rfl w.heap.size 5 i0 _ 1 Tryd.underlying22 hi hz0 hz1 hz2 rfl (.slice none 0 0) 0 [] rfl (own_nil _ _ _) A n c (bl x) rfl N1.out S1.out (bl_one _) (by unfold maxLen;omega) (by omega) (Nat.le_refl _) ?_)
 intro v2 w2 hown2 hgrow2
 have B2:=Lib.hid ((Below.refl w.heap.size w).grown hgrow2 (Nat.le_refl _) (own_rows (own_nil w w.heap.size 5)))
 obtain⟨A2,c2,rfl,-, -, -, -, -⟩:=Sl.own hown2
 have O2:=Lib.hid hown2
 clear hown2 hgrow2
 go_wp2_with (at_builtin;refine wpList_append_sl rfl _ _ 22 rfl w.heap.size 5 i0 _ 1 Tryd.underlying22 hi hz0 hz1 hz2 rfl (.slice A2 n c2) n _ rfl O2.out B m d (bl y) rfl N2.out (S2.out.below B2.out) (bl_one _) (by unfold maxLen;omega) (by omega) B2.out.size ?_)
 intro v3 w3 hown3 hgrow3
 have B3:=Lib.hid (B2.out.grown hgrow3 B2.out.size (own_rows O2.out))
 obtain⟨A3,c3,rfl,-, -, -, -, -⟩:=Sl.own hown3
 have O3:=Lib.hid hown3
 clear hown3 hgrow3
 go_wp2_with (at_builtin;refine wpList_append_sl rfl _ _ 22 rfl w.heap.size 5 i0 _ 1 Tryd.underlying22 hi hz0 hz1 hz2 rfl (.slice A3 (n+m) c3) (n+m) _ rfl O3.out C k f (bl z) rfl N3.out (S3.out.below B3.out) (bl_one _) (by unfold maxLen;omega) (by omega) B3.out.size ?_)
 intro v4 w4 hown4 hgrow4
 have B4:=Lib.hid (B3.out.grown hgrow4 B3.out.size (own_rows O3.out))
 have O4:=Lib.hid hown4
 clear hown4 hgrow4
 go_wp2_with fail
 go_ret
 refine⟨_,rfl,?_,B4.out⟩
 rw[L.out]
 have h:=O4.out
 simpa[bl,List.append_assoc] using h
theorem rhash_any{A:Option Addr}{n c:Nat}{l:List Nat}{w:World}(h:Pc w (A,n,c,l))(hn:n≤1048576) :
  Calls Tryd.prog 33 #[.slice A n c] w (OwnB (Sh.dg false l) w):=by
 have hl:l.length=n:=h.len.symm
 have C:=Lib.hid (Sh.rsum32_any l A n c w h.lt (by have:=h.row;rwa [show((A,n,c,l):Rw).2.2.2=l from rfl,hl] at this) h.nil hn)
 clear h hl
 go_enter Tryd.func33,Tryd.ntmps33
 go_wp2_with (go_at_call 60;(with_reducible refine C.out.mono ?_);rintro e w1 ⟨v,rfl,ho,hb⟩;have O1:=Lib.hid ho;have B1:=Lib.hid hb;clear ho hb)
 go_ret
 exact⟨v,rfl,by rw[dg32_len];exact O1.out,B1.out⟩
theorem rnode_any{A B:Option Addr}{n m c d:Nat}{x y:List Nat}{w:World}(h1:Pc w (A,n,c,x))(h2:Pc w (B,m,d,y))(hmax:n+m≤900000) :
  Calls Tryd.prog 64 #[.slice A n c,.slice B m d] w (OwnB (1 :: (x ++ y)) w):=by
 have BB:=(Below.refl w.heap.size w).alloc (Nat.le_refl _) (.cells #[.int .u8 1] 5)
 have PB:Pc (w.alloc (.cells #[.int .u8 1] 5)) (some ⟨w.heap.size,0,none⟩,1,1,[1]):=⟨rfl,Sl.new_ w 5 (bl [1]),fun x hx=>by simp at hx;omega,Nat.le_refl _,fun h=>by cases h⟩
 have C:=Lib.hid (rjoin_any PB (h1.below BB) (h2.below BB) (by omega))
 clear h1 h2 PB
 have HB:=Lib.hid BB
 clear BB
 go_enter Tryd.func64,Tryd.ntmps64
 go_wp2_with (go_at_call 61;(with_reducible refine C.out.mono ?_);rintro e w1 ⟨v,rfl,ho,hb⟩;have O1:=Lib.hid ho;have B1:=Lib.hid hb;clear ho hb)
 go_ret
 exact⟨v,rfl,own_base O1.out HB.out.size,HB.out.trans (B1.out.mono HB.out.size)⟩
end Go.Proofs.YtcnlmekjcffohaaDoor.Mk
