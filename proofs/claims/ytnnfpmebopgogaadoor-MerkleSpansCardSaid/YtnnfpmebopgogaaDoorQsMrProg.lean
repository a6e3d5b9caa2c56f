/- Joined texts. -/
import Derived.Test.YtnnfpmebopgogaaDoorQsMrUp
import Derived.Test.YtnnfpmebopgogaaDoorQsMoTexts
set_option linter.unusedVariables false
namespace Go.Proofs.YtnnfpmebopgogaaDoor.Mk
open Go.RowKit Go.Proofs.YtnnfpmebopgogaaDoor.Gn Go.Proofs.YtnnfpmebopgogaaDoor.Fd Go.Deep
def BsdQ(l:List (Nat × Nat))(w:World)(e:Ending)(w':World):Prop :=
 ∃A m cap,e=.returned (.slice A m cap)∧m=l.length∧w'.ownsRow w.heap.size 75 2 (.slice A m cap) m (spl l)∧Below w.heap.size w w'
theorem own_form{w:World}{base:Nat}{e:TypeId}{s:Nat}{v:Value}{n:Nat}{xs:List Value}(h:w.ownsRow base e s v n xs):∃A cap,v=.slice A n cap:=by
 obtain⟨-, h2⟩:=h
 rcases h2 with⟨rfl,rfl⟩|⟨g,cap,cur,rfl,-⟩
 ·exact⟨none,0,rfl⟩
 ·exact⟨_,cap,rfl⟩
theorem own_base2{w:World}{base base' s:Nat}{e:TypeId}{v:Value}{n:Nat}{xs:List Value}(h:w.ownsRow base e s v n xs)(hb:base'≤base):w.ownsRow base' e s v n xs:=by
 obtain⟨hl,h2⟩:=h
 refine⟨hl,?_⟩
 rcases h2 with h2|⟨g,cap,cur,hv,hg,r⟩
 ·exact .inl h2
 ·exact .inr ⟨g,cap,cur,hv,by omega,r⟩
set_option maxHeartbeats 4000000 in
set_option maxRecDepth 100000 in
theorem beside_any(n f t:Nat)(h1:1≤n)(hn:n≤4096)(hf:f≤5000)(ht:t≤5000)(w:World) :
  Calls Tryd.prog 51 #[.int .i64 (n:Int),spv (f:Int) (t:Int)] w (BsdQ (bes f t 0 n) w):=by
 have B3:=Lib.hid ((((Below.refl w.heap.size w).alloc (Nat.le_refl _) (.cells #[.int .i64 (f:Int),.int .i64 (t:Int)] 75)).alloc (by rw[asize];omega) (.cells #[.slice none 0 0] 72)).alloc (by rw[asize,asize];omega) (.cells #[Fbs w.heap.size (w.heap.size+1) (w.heap.size+1+1)] 92))
 have ST:=Lib.hid (show BsS (w.heap.size+3) (((w.alloc (.cells #[.int .i64 (f:Int),.int .i64 (t:Int)] 75)).alloc (.cells #[.slice none 0 0] 72)).alloc (.cells #[Fbs w.heap.size (w.heap.size+1) (w.heap.size+1+1)] 92)) w.heap.size (w.heap.size+1) (w.heap.size+1+1) f t [] (.slice none 0 0) from
  ⟨((Bl.new' (w:=w) 75 #[.int .i64 (f:Int),.int .i64 (t:Int)] rfl).alloc _).alloc _,(Bl.new' (w:=w.alloc (.cells #[.int .i64 (f:Int),.int .i64 (t:Int)] 75)) 72 #[.slice none 0 0] (asize _ _)).alloc _,Bl.new' (w:=(w.alloc (.cells #[.int .i64 (f:Int),.int .i64 (t:Int)] 75)).alloc (.cells #[.slice none 0 0] 72)) 92 #[Fbs w.heap.size (w.heap.size+1) (w.heap.size+1+1)] (by rw[asize,asize]),⟨rfl,.inl ⟨rfl,rfl⟩⟩,by omega,by omega,by omega,by omega,by omega,by rw[asize,asize,asize];omega⟩)
 have C:=bes_any (w0:=w) (b1:=w.heap.size+3) (S:=w.heap.size) (Q:=w.heap.size+1) (D:=w.heap.size+1+1) (by omega) (by omega) (by omega) hf ht n n (Nat.le_refl _) h1 hn 0 (by omega) _ [] (.slice none 0 0) (by simp;omega) ST.out B3.out
 rw[Nat.zero_add,List.nil_append] at C
 have C:=Lib.hid (show Calls Tryd.prog 73 #[spv 0 (n:Int),.pointer (some ⟨w.heap.size,0,none⟩),.pointer (some ⟨w.heap.size+1,0,none⟩),.pointer (some ⟨w.heap.size+1+1,0,none⟩)] _ _ from C)
 have HL:=Lib.hid (bes_len n n (Nat.le_refl _) h1 f t 0)
 generalize bes f t 0 n=l at C HL ⊢
 clear h1 hn hf ht
 go_enter Tryd.func51,Tryd.ntmps51
 go_wp2_with (go_at_call 73;(with_reducible refine C.out.mono ?_);rintro e w5 ⟨rfl,T,s5,-, b5⟩;have S5:=Lib.hid s5;have B5:=Lib.hid b5;have c5:=(one_cell s5.qc).1;clear s5 b5 C)
 go_ret
 obtain⟨A,cap,rfl⟩:=own_form S5.out.row
 exact⟨A,l.length,cap,rfl,rfl,own_base2 S5.out.row (by omega),B5.out⟩
set_option maxHeartbeats 4000000 in
set_option maxRecDepth 100000 in
theorem topWith_any{w:World}(ts:Sh.Tab w){f t n:Nat}{BL B:Option Addr}{ml cl m c:Nat}{Lv P:List Rw}(hL:P32 w BL ml cl Lv)(hml:f+ml=t)(ht:t≤5000)(h1l:1≤ml)(hP:P32 w B m c P)(hm:m≤5000)(h1:1≤n)(hn:n≤4096)(hfit:(bes f t 0 n).length=m) :
  Calls Tryd.prog 53 #[.int .i64 (n:Int),spv (f:Int) (t:Int),.slice BL ml cl,.slice B m c] w fun e w'=>∃A ca,e=.returned (.slice A 32 ca)∧Pc w' (A,32,ca,upv (con Lv) (con P) f t 0 n 0)∧Below w.heap.size w w':=by
 have B3:=Lib.hid (((((Below.refl w.heap.size w).alloc (Nat.le_refl _) (.cells #[.int .i64 (f:Int),.int .i64 (t:Int)] 75)).alloc (by rw[asize];omega) (.cells #[.slice BL ml cl] 23)).alloc (by rw[asize,asize];omega) (.cells #[.slice B m c] 23)).alloc (by rw[asize,asize,asize];omega) (.cells #[Fus w.heap.size (w.heap.size+1+1) (w.heap.size+1) (w.heap.size+1+1+1)] 96))
 have ST:=Lib.hid (show UpS (w.heap.size+4) ((((w.alloc (.cells #[.int .i64 (f:Int),.int .i64 (t:Int)] 75)).alloc (.cells #[.slice BL ml cl] 23)).alloc (.cells #[.slice B m c] 23)).alloc (.cells #[Fus w.heap.size (w.heap.size+1+1) (w.heap.size+1) (w.heap.size+1+1+1)] 96)) w.heap.size (w.heap.size+1+1) (w.heap.size+1) (w.heap.size+1+1+1) f t BL ml cl B m c from
  ⟨(((Bl.new' (w:=w) 75 #[.int .i64 (f:Int),.int .i64 (t:Int)] rfl).alloc _).alloc _).alloc _,(Bl.new' (w:=(w.alloc (.cells #[.int .i64 (f:Int),.int .i64 (t:Int)] 75)).alloc (.cells #[.slice BL ml cl] 23)) 23 #[.slice B m c] (by rw[asize,asize])).alloc _,((Bl.new' (w:=w.alloc (.cells #[.int .i64 (f:Int),.int .i64 (t:Int)] 75)) 23 #[.slice BL ml cl] (asize _ _)).alloc _).alloc _,Bl.new' (w:=((w.alloc (.cells #[.int .i64 (f:Int),.int .i64 (t:Int)] 75)).alloc (.cells #[.slice BL ml cl] 23)).alloc (.cells #[.slice B m c] 23)) 96 #[Fus w.heap.size (w.heap.size+1+1) (w.heap.size+1) (w.heap.size+1+1+1)] (by rw[asize,asize,asize]),by omega,by omega,by omega,by omega,by omega,by omega,by omega,by rw[asize,asize,asize,asize];omega⟩)
 have C:=up_any ts (b1:=w.heap.size+4) (S:=w.heap.size) (Q:=w.heap.size+1+1) (L:=w.heap.size+1) (D:=w.heap.size+1+1+1) (P:=P) (m:=m) (by omega) hL hml ht h1l hP.pcs hP.len hm n n (Nat.le_refl _) h1 hn 0 (by omega) 0 _ B m c (by omega) ST.out ⟨by rw[List.drop_zero];exact hP.row,rfl,hP.cap⟩ B3.out
 rw[Nat.zero_add n] at C
 have C:=Lib.hid (show Calls Tryd.prog 77 #[spv 0 (n:Int),.pointer (some ⟨w.heap.size,0,none⟩),.pointer (some ⟨w.heap.size+1+1,0,none⟩),.pointer (some ⟨w.heap.size+1,0,none⟩),.pointer (some ⟨w.heap.size+1+1+1,0,none⟩)] _ _ from C)
 generalize upv (con Lv) (con P) f t 0 n 0=x at C ⊢
 clear h1 hn ht hL hP hfit hm h1l hml ts
 go_enter Tryd.func53,Tryd.ntmps53
 go_wp2_with (go_at_call 77;(with_reducible refine C.out.mono ?_);rintro e w6 ⟨⟨A1,n1,c1,y1⟩,R6,k6,c6,rfl,p6,q6,l6,x6,s6,r6,f6,b6⟩;have P6:=Lib.hid p6;have Q6:=Lib.hid q6;have L6:=Lib.hid l6;have B6:=Lib.hid b6;clear p6 q6 l6 x6 s6 r6 f6 b6 C)
 go_ret
 have hq:y1=x:=Q6.out
 have hn1:n1=32:=P6.out.len.trans (by show y1.length=32;rw[hq];exact L6.out)
 subst hn1
 subst hq
 exact⟨A1,c1,rfl,P6.out,B6.out⟩
end Go.Proofs.YtnnfpmebopgogaaDoor.Mk
