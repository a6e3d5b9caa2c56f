/- Joined texts. -/
import Derived.Test.YtnnfpmebopgogaaDoorQnMpHalf
import Derived.Test.YtnnfpmebopgogaaDoorQnShRS
set_option linter.unusedVariables false
namespace Go.Proofs.YtnnfpmebopgogaaDoor.Mk
open Go.RowKit Go.Proofs.YtnnfpmebopgogaaDoor.Gn Go.Proofs.YtnnfpmebopgogaaDoor.Fd Go.Deep
theorem infob8:(Tryd.prog.info? 5).map (fun i=>(i.zero,i.size,i.bytes))=some (some (.int .u8 0),1,1):=by kernel_rfl
def OwnB(l:List Nat)(w:World)(e:Ending)(w':World):Prop:=∃v,e=.returned v∧w'.ownsRow w.heap.size 5 1 v l.length (bl l)∧Below w.heap.size w w'
set_option maxHeartbeats 2000000 in
set_option maxRecDepth 100000 in
theorem rjoin_any{A B C:Option Addr}{n m k c d f:Nat}{x y z:List Nat}{w:World}(h1:Pc w (A,n,c,x))(h2:Pc w (B,m,d,y))(h3:Pc w (C,k,f,z))(hmax:n+m+k≤1000000) :
  Calls Tryd.prog 57 #[.slice A n c,.slice B m d,.slice C k f] w (OwnB (x ++ (y ++ z)) w):=by
 obtain⟨i0,hi,hz0,hz1,hz2⟩:=info_parts infob8
 have ln:x.length=n:=h1.len.symm
 have lm:y.length=m:=h2.len.symm
 have lk:z.length=k:=h3.len.symm
 have S1:=Lib.hid (show Sl w A n (bl x) from by have:=h1.row;rwa [show((A,n,c,x):Rw).2.2.2=x from rfl,ln] at this)
 have S2:=Lib.hid (show Sl w B m (bl y) from by have:=h2.row;rwa [show((B,m,d,y):Rw).2.2.2=y from rfl,lm] at this)
 have S3:=Lib.hid (show Sl w C k (bl z) from by have:=h3.row;rwa [show((C,k,f,z):Rw).2.2.2=z from rfl,lk] at this)
 have N1:=Lib.hid h1.nil
 have N2:=Lib.hid h2.nil
 have N3:=Lib.hid h3.nil
 have L:=Lib.hid (show(x ++ (y ++ z)).length=n+m+k by simp;omega)
 clear h1 h2 h3 ln lm lk
 go_enter Tryd.func57,Tryd.ntmps57
 go_wp2_with (at_builtin;refine wpList_append_sl rfl _ _ 22 rfl w.heap.size 5 i0 _ 1 Tryd.underlying22 hi hz0 hz1 hz2 rfl (.slice none 0 0) 0 [] rfl (own_nil _ _ _) A n c (bl x) rfl N1.out S1.out (bl_one _) (by unfold maxLen;omega) (by omega) (Nat.le_refl _) ?_)
 intro v2 w2 hown2 hgrow2
 have B2:=Lib.hid ((Below.refl w.heap.size w).grown hgrow2 (Nat.le_refl _) (own_rows (own_nil w w.heap.size 5)))
 obtain⟨A2,c2,rfl,-, -, -, -, -⟩:=Sl.own hown2
 have O2:=Lib.hid hown2
 clear hown2 hgrow2
 go_wp2_with (at_builtin;refine wpList_append_sl rfl _ _ 22 rfl w.heap.size 5 i0 _ 1 Tryd.underlying22 hi hz0 hz1 hz2 rfl (.slice A2 n c2) n _ rfl O2.out B m d (bl y) rfl N2.out (S2.out.below B2.out) (bl_one _) (by unfold maxLen;omega) (by omega) B2.out.size ?_)
 intro v3 w3 hown3 hgrow3
 have B3:=Lib.hid (B2.out.grown hgrow3 B2.out.size (own_rows O2.out))
 obtain⟨A3,c3,rfl,-, -, -, -, -⟩:=Sl.own hown3
 have O3:=Lib.hid hown3
 clear hown3 hgrow3
 go_wp2_with (at_builtin;refine wpList_append_sl rfl _ _ 22 rfl w.heap.size 5 i0 _ 1 Tryd.underlying22 hi hz0 hz1 hz2 rfl (.slice A3 (n+m) c3) (n+m) _ rfl O3.out C k f (bl z) rfl N3.out (S3.out.below B3.out) (bl_one _) (by unfold maxLen;omega) (by omega) B3.out.size ?_)
 intro v4 w4 hown4 hgrow4
 have B4:=Lib.hid (B3.out.grown hgrow4 B3.out.size (own_rows O3.out))
 have O4:=Lib.hid hown4
 clear hown4 hgrow4
 go_wp2_with fail
 go_ret
 refine⟨_,rfl,?_,B4.out⟩
 rw[L.out]
 have h:=O4.out
 simpa[bl,List.append_assoc] using h
theorem rhash_any{A:Option Addr}{n c:Nat}{l:List Nat}{w:World}(h:Pc w (A,n,c,l))(hn:n≤1048576) :
  Calls Tryd.prog 36 #[.slice A n c] w (OwnB (Sh.dg false l) w):=by
 have hl:l.length=n:=h.len.symm
 have C:=Lib.hid (Sh.rsum32_any l A n c w h.lt (by have:=h.row;rwa [show((A,n,c,l):Rw).2.2.2=l from rfl,hl] at this) h.nil hn)
 clear h hl
 go_enter Tryd.func36,Tryd.ntmps36
 go_wp2_with (go_at_call 68;(with_reducible refine C.out.mono ?_);rintro e w1 ⟨v,rfl,ho,hb⟩;have O1:=Lib.hid ho;have B1:=Lib.hid hb;clear ho hb)
 go_ret
 exact⟨v,rfl,by rw[dg32_len];exact O1.out,B1.out⟩
theorem rnode_any{A B:Option Addr}{n m c d:Nat}{x y:List Nat}{w:World}(h1:Pc w (A,n,c,x))(h2:Pc w (B,m,d,y))(hmax:n+m≤900000) :
  Calls Tryd.prog 56 #[.slice A n c,.slice B m d] w (OwnB (1 :: (x ++ y)) w):=by
 have BB:=(Below.refl w.heap.size w).alloc (Nat.le_refl _) (.cells #[.int .u8 1] 5)
 have PB:Pc (w.alloc (.cells #[.int .u8 1] 5)) (some ⟨w.heap.size,0,none⟩,1,1,[1]):=⟨rfl,Sl.new_ w 5 (bl [1]),fun x hx=>by simp at hx;omega,Nat.le_refl _,fun h=>by cases h⟩
 have C:=Lib.hid (rjoin_any PB (h1.below BB) (h2.below BB) (by omega))
 clear h1 h2 PB
 have HB:=Lib.hid BB
 clear BB
 go_enter Tryd.func56,Tryd.ntmps56
 go_wp2_with (go_at_call 57;(with_reducible refine C.out.mono ?_);rintro e w1 ⟨v,rfl,ho,hb⟩;have O1:=Lib.hid ho;have B1:=Lib.hid hb;clear ho hb)
 go_ret
 exact⟨v,rfl,own_base O1.out HB.out.size,HB.out.trans (B1.out.mono HB.out.size)⟩
set_option maxHeartbeats 2000000 in
set_option maxRecDepth 100000 in
theorem reight_any(n:Nat)(hn:n≤9223372036854775807)(w:World):Calls Tryd.prog 58 #[.int .i64 (n:Int)] w (OwnB (eight n) w):=by
 obtain⟨i0,hi,hz0,hz1,hz2⟩:=info_parts infob8
 go_enter Tryd.func58,Tryd.ntmps58
 go_wp2_with fail
 go_loopg [4,5,3] 8 (fun g1 vl vi vo wr=>∃(i L:Nat),vl=.int .u64 (L:Int)∧vi=.int .i64 i∧i≤8∧8 - i≤g1∧L≤9223372036854775807∧Hid (L=n / 256 ^ i)∧Hid (wr.ownsRow w.heap.size 5 1 vo i (bl (by_ n i).reverse))∧Hid (Below w.heap.size w wr))
 case atStart=>exact⟨0,n,rfl,rfl,by omega,by omega,hn,Lib.hid (by simp),Lib.hid (own_nil _ _ _),Lib.hid (Below.refl _ _)⟩
 case round =>
  obtain⟨i,L,rfl,rfl,hi8,hg,hL,HL,HO,HB⟩:=hrel
  obtain⟨A,cap,rfl,s1,s2,-, -, -⟩:=Sl.own HO.out
  have S1:=Lib.hid s1
  have S2:=Lib.hid s2
  clear s1 s2
  by_cases hlt:i < 8
  ·have q0:(i:Int) < 8:=by omega
   obtain⟨r,hr⟩:∃r,r=L%256:=⟨_,rfl⟩
   obtain⟨q,hq⟩:∃q,q=L / 256:=⟨_,rfl⟩
   have e1:(L:Int)%256=(r:Int):=by omega
   have e2:(L:Int) / 256=(q:Int):=by omega
   have hr2:(r:Int) < 256:=by omega
   have HR:=Lib.hid hr
   have HQ:=Lib.hid hq
   have hq2:q≤9223372036854775807:=by omega
   clear hr hq
   go_wp2_with (at_builtin;refine wpList_append_sl rfl _ _ 22 rfl wr.heap.size 5 i0 _ 1 Tryd.underlying22 hi hz0 hz1 hz2 rfl (.slice (some ⟨wr.heap.size,0,none⟩) 1 1) 1 _ rfl (own_new wr 5 [.int .u8 (r:Int)] (by unfold maxLen;simp)) A i cap _ rfl S2.out (S1.out.below ((Below.refl _ _).alloc (Nat.le_refl _) _)) (bl_one _) (by unfold maxLen;omega) (by omega) (by simp) ?_)
   intro v2 w2 hown2 hgrow2
   have B2:=Lib.hid (HB.out.trans ((((Below.refl wr.heap.size wr).alloc (Nat.le_refl _) (.cells #[.int .u8 (r:Int)] 5)).grown hgrow2 (by simp) (own_rows (own_new wr 5 [.int .u8 (r:Int)] (by unfold maxLen;simp)))).mono HB.out.size))
   have O2:=Lib.hid (own_base hown2 HB.out.size)
   clear hown2 hgrow2
   go_wp2_with fail
   go_roundg (8 - (i+1))
   case measure=>omega
   case rel =>
    refine⟨i+1,q,rfl,by go_num,by omega,Nat.le_refl _,hq2,Lib.hid ?_,Lib.hid ?_,B2⟩
    ·rw[HQ.out,HL.out,Nat.pow_succ,Nat.div_div_eq_div_mul]
    ·have h:=O2.out
     rw[by_snoc,List.reverse_append,←HL.out,←HR.out,show i+1=1+i by omega]
     simpa[bl] using h
  ·have q0:¬(i:Int) < 8:=by omega
   obtain rfl:i=8:=by omega
   go_wp2_with fail
   go_ret
   have e:(eight n).length=8:=eight_len n
   exact⟨_,rfl,by rw[e];exact HO.out,HB.out⟩
theorem rroot_any(n:Nat)(hn:n≤9223372036854775807){A:Option Addr}{m c:Nat}{x:List Nat}{w:World}(h:Pc w (A,m,c,x))(hm:m≤900000) :
  Calls Tryd.prog 29 #[.int .i64 (n:Int),.slice A m c] w (OwnB (2 :: (eight n ++ x)) w):=by
 have BB:=(Below.refl w.heap.size w).alloc (Nat.le_refl _) (.cells #[.int .u8 2] 5)
 have PB:Pc (w.alloc (.cells #[.int .u8 2] 5)) (some ⟨w.heap.size,0,none⟩,1,1,[2]):=⟨rfl,Sl.new_ w 5 (bl [2]),fun x hx=>by simp at hx;omega,Nat.le_refl _,fun h=>by cases h⟩
 have C1:=Lib.hid (fun w=>reight_any n hn w)
 have HB:=Lib.hid BB
 have C2:=Lib.hid (fun(w1:World) (B:Option Addr) (d:Nat) (hb:Below (w.alloc (.cells #[.int .u8 2] 5)).heap.size (w.alloc (.cells #[.int .u8 2] 5)) w1) (hp:Pc w1 (B,8,d,eight n))=>rjoin_any (PB.below hb) hp (h.below (BB.trans (hb.mono BB.size))) (by omega))
 clear h PB BB
 go_enter Tryd.func29,Tryd.ntmps29
 go_wp2_with (go_at_call 58;(with_reducible refine(C1.out _).mono ?_);rintro e w1 ⟨v,rfl,ho,hb⟩;rw[eight_len] at ho;obtain⟨B,d,rfl,hp⟩:=own_any ho (eight_len n) (eight_lt n);have C3:=Lib.hid (C2.out w1 B d hb hp);have B1:=Lib.hid hb;clear ho hb hp C2)
 go_wp2_with (go_at_call 57;(with_reducible refine C3.out.mono ?_);rintro e w2 ⟨v,rfl,ho,hb⟩;have O2:=Lib.hid ho;have B2:=Lib.hid hb;clear ho hb)
 go_ret
 have b1:=HB.out.trans (B1.out.mono HB.out.size)
 exact⟨v,rfl,own_base O2.out b1.size,b1.trans (B2.out.mono b1.size)⟩
end Go.Proofs.YtnnfpmebopgogaaDoor.Mk
namespace Go.Proofs.YtnnfpmebopgogaaDoor.Mk
open Go.RowKit Go.Proofs.YtnnfpmebopgogaaDoor.Gn Go.Proofs.YtnnfpmebopgogaaDoor.Fd Go.Deep
theorem infobb:(Tryd.prog.info? 22).map (fun i=>(i.zero,i.size,i.bytes))=some (some (.slice none 0 0),1,24):=by kernel_rfl
structure P32 (w:World) (B:Option Addr) (m c:Nat) (P:List Rw):Prop where
 row:Sl w B m (P.map rwv)
 pcs:∀r∈P,Pc w r∧r.2.2.2.length=32
 cap:m≤c
 few:m≤1000000
theorem P32.below{w w':World}{B:Option Addr}{m c:Nat}{P:List Rw}(h:P32 w B m c P)(hb:Below w.heap.size w w'):P32 w' B m c P:=⟨h.row.below hb,fun r hr=>⟨(h.pcs r hr).1.below hb,(h.pcs r hr).2⟩,h.cap,h.few⟩
theorem P32.len{w:World}{B:Option Addr}{m c:Nat}{P:List Rw}(h:P32 w B m c P):P.length=m:=by have:=h.row.1;rwa [List.length_map] at this
theorem P32.take{w:World}{B:Option Addr}{m c:Nat}{P:List Rw}(h:P32 w B m c P){k:Nat}(hk:k≤m):P32 w B k c (P.take k) :=
 ⟨by have:=h.row.take_ k hk;rwa [←List.map_take] at this,fun r hr=>h.pcs r (List.mem_of_mem_take hr),by have:=h.cap;omega,by have:=h.few;omega⟩
def Po(w:World)(r:Rw):Prop:=Pc w r∧w.ownsRow 0 5 1 (rwv r) r.2.2.2.length (bl r.2.2.2)
theorem Po.below{w w':World}{r:Rw}(h:Po w r)(hb:Below w.heap.size w w'):Po w' r:=⟨h.1.below hb,own_below h.2 hb⟩
theorem Po.alloc{w:World}{r:Rw}(h:Po w r)(o:Obj):Po (w.alloc o) r:=h.below ((Below.refl _ _).alloc (Nat.le_refl _) o)
theorem own_other{w w':World}{base base2:Nat}{E1 E2:TypeId}{v v2:Value}{n n2:Nat}{xs xs2:List Value}(h:w.ownsRow base E1 1 v n xs)(h2:w.ownsRow base2 E2 1 v2 n2 xs2)(hE:E1≠E2)(hg:w.grownBy w' v2.ownBlock):w'.ownsRow base E1 1 v n xs:=by
 obtain⟨hl,h3⟩:=h
 refine⟨hl,?_⟩
 rcases h3 with h3|⟨g,cap,cur,hv,hb,hh,r⟩
 ·exact .inl h3
 ·refine .inr ⟨g,cap,cur,hv,hb,(hg.block g ?_ ?_).trans hh,r⟩
  ·rcases Nat.lt_or_ge g w.heap.size with h|h
   ·exact h
   ·rw[Array.getElem?_eq_none h] at hh;cases hh
  ·intro e
   obtain⟨-, h4⟩:=h2
   rcases h4 with⟨rfl,-⟩|⟨g2,cap2,cur2,rfl,-, hh2,-⟩
   ·simp[Value.ownBlock] at e
   ·simp[Value.ownBlock] at e
    subst e
    rw[hh] at hh2
    injection hh2 with h5
    injection h5 with h6 h7 h8
    exact hE h7
theorem Po.grown{w w':World}{r:Rw}{base:Nat}{v2:Value}{n2:Nat}{xs2:List Value}(h:Po w r)(h2:w.ownsRow base 22 1 v2 n2 xs2)(hg:w.grownBy w' v2.ownBlock):Po w' r:=by
 have h3:=own_other h.2 h2 (by decide) hg
 obtain⟨A,c,e,hp⟩:=own_any h3 rfl h.1.lt
 have he:rwv r=.slice r.1 r.2.1 r.2.2.1:=rfl
 rw[he] at e
 injection e with e1 e2 e3
 refine⟨?_,h3⟩
 have:r=(A,r.2.2.2.length,c,r.2.2.2):=by rw[←e1,←e2,←e3]
 rw[this]
 exact hp
structure OwnT (base:Nat) (w:World) (T:Value) (ts:List Rw):Prop where
 own:w.ownsRow base 22 1 T ts.length (ts.map rwv)
 pcs:∀r∈ts,Po w r∧r.2.2.2.length≤100
theorem OwnT.below{base:Nat}{w w':World}{T:Value}{ts:List Rw}(h:OwnT base w T ts)(hb:Below w.heap.size w w'):OwnT base w' T ts:=⟨own_below h.own hb,fun r hr=>⟨(h.pcs r hr).1.below hb,(h.pcs r hr).2⟩⟩
abbrev con(P:List Rw):List (List Nat):=P.map (·.2.2.2)
def UpQ(ws:List Bool)(x:List Nat)(ps:List (List Nat))(w:World)(e:Ending)(w':World):Prop :=
 ∃(r:Rw) (T:Value) (ts:List Rw) (fb:Bool),e=.returned (.tuple #[rwv r,T,.bool fb])∧fb=decide (ps.length=ws.length)∧Pc w' r∧r.2.2.2.length≤32∧OwnT w.heap.size w' T ts∧ts.length≤ws.length∧(ps.length=ws.length→r.2.2.2=tops ws x ps∧con ts=texts ws x ps)∧Below w.heap.size w w'
theorem con_len(P:List Rw):(con P).length=P.length:=by simp[con]
theorem up_last{ws:List Bool}{x:List Nat}{s:Bool}{P:List Rw}{last:Rw}{w w1:World}{r:Rw}{T:Value}{ts:List Rw}
  (hq:Pc w1 r∧r.2.2.2.length≤32∧OwnT w.heap.size w1 T ts∧ts.length≤ws.length∧((con P).length=ws.length→r.2.2.2=tops ws x (con P)∧con ts=texts ws x (con P)))
  {w3:World} {t d:Rw} {T':Value} (ht:Po w3 t) (htc:t.2.2.2=node s r.2.2.2 last.2.2.2) (hlast:last.2.2.2.length=32) (hd:Pc w3 d) (hdc:d.2.2.2=Sh.dg false t.2.2.2)
  (hown:w3.ownsRow w.heap.size 22 1 T' (ts.length+1) (ts.map rwv ++ [rwv t])) (hts:∀y∈ts,Po w3 y) (hb:Below w.heap.size w w3) {fb:Bool} (hfb:fb=decide ((con P).length=ws.length)) {ps:List (List Nat)} (hps:ps=con (P ++ [last])) :
  UpQ (s :: ws) x ps w (.returned (.tuple #[rwv d,T',.bool fb])) w3:=by
 subst hps
 obtain⟨h1,h2,h3,h4,h5⟩:=hq
 have e1:decide ((con (P ++ [last])).length=(s :: ws).length)=decide ((con P).length=ws.length):=by
  rw[con_len,con_len,List.length_append,List.length_cons]
  simp
 have e2:con (P ++ [last])=con P ++ [last.2.2.2]:=by simp[con]
 refine⟨d,T',ts ++ [t],fb,rfl,by rw[e1];exact hfb,hd,by rw[hdc,dg32_len];exact Nat.le_refl _,⟨?_,?_⟩,?_,?_,hb⟩
 ·rw[List.length_append,List.map_append];exact hown
 ·intro y hy
  rcases List.mem_append.1 hy with h|h
  ·exact⟨hts y h,(h3.pcs y h).2⟩
  ·have:y=t:=by simpa using h
   subst this
   refine⟨ht,?_⟩
   rw[htc]
   unfold node
   cases s <;> simp <;> omega
 ·rw[List.length_append,List.length_cons];simp;exact h4
 ·intro hl
  have hl':(con P).length=ws.length:=by
   rw[con_len,List.length_append,List.length_cons] at hl
   rw[con_len]
   simpa using hl
  obtain⟨g1,g2⟩:=h5 hl'
  rw[e2,tops_step,texts_step,hdc,htc,g1]
  refine⟨rfl,?_⟩
  show(ts ++ [t]).map (·.2.2.2)=_
  rw[List.map_append,show ts.map (·.2.2.2)=con ts from rfl,g2,List.map_cons,htc,g1]
  rfl
end Go.Proofs.YtnnfpmebopgogaaDoor.Mk
