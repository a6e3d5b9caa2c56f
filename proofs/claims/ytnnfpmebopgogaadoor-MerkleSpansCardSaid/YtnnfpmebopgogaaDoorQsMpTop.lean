/- Joined texts. -/
import Derived.Deep.RegionHeld3
import Derived.Test.YtnnfpmebopgogaaDoorQsMpCheck
import Derived.Test.YtnnfpmebopgogaaDoorQsMkG
set_option linter.unusedVariables false
namespace Go.Proofs.YtnnfpmebopgogaaDoor.Mk
open Go.RowKit Go.Proofs.YtnnfpmebopgogaaDoor.Gn Go.Proofs.YtnnfpmebopgogaaDoor.Fd Go.Deep
def topL(ps:List (List Nat)):List Nat :=
 if h:2≤ps.length then Sh.dg false (1 :: (topL (ps.take (half ps.length)) ++ topL (ps.drop (half ps.length)))) else ps.headD []
termination_by ps.length
decreasing_by
 ·have:=half_spec h;rw[List.length_take];omega
 ·have:=half_spec h;rw[List.length_drop];omega
theorem topL_one(x:List Nat):topL [x]=x:=by rw[topL];simp
theorem topL_step{ps:List (List Nat)}(h:2≤ps.length):topL ps=Sh.dg false (1 :: (topL (ps.take (half ps.length)) ++ topL (ps.drop (half ps.length)))):=by rw[topL,dif_pos h]
theorem topL_len{ps:List (List Nat)}(h:1≤ps.length)(h32:∀x∈ps,x.length=32):(topL ps).length=32:=by
 by_cases h2:2≤ps.length
 ·rw[topL_step h2];exact dg32_len _
 ·rw[topL,dif_neg h2]
  cases ps with
  |nil=>simp at h
  |cons x l=>exact h32 x (by simp)
theorem P32.drop{w:World}{ad:Addr}{m c:Nat}{P:List Rw}(h:P32 w (some ad) m c P){k:Nat}(hk:k < m):P32 w (some (ad.add k)) (m - k) (c - k) (P.drop k) :=
 ⟨by
  have h1:=h.cap
  have h2:=h.row.drop_ (c:=c) k (by omega) h.cap
  rw[if_neg (by omega),←List.map_drop] at h2
  exact h2,fun r hr=>h.pcs r (List.mem_of_mem_drop hr),by have:=h.cap;omega,by have:=h.few;omega⟩
theorem P32.con32{w:World}{B:Option Addr}{m c:Nat}{P:List Rw}(h:P32 w B m c P):∀x∈con P,x.length=32:=fun x hx=>by
 obtain⟨r,hr,rfl⟩:=List.mem_map.1 hx
 exact(h.pcs r hr).2
def TopQ(l:List Nat)(w:World)(e:Ending)(w':World):Prop:=∃g cap,e=.returned (.slice (some ⟨g,0,none⟩) 32 cap)∧Pc w' (some ⟨g,0,none⟩,32,cap,l)∧w.heap.size≤g∧Below w.heap.size w w'
set_option maxHeartbeats 4000000 in
set_option maxRecDepth 100000 in
theorem top_any:∀(N m:Nat),m≤N→1≤m→m≤4096→∀(w:World) (P:List Rw) (B:Option Addr) (c:Nat),P32 w B m c P→Sh.Tab w→Calls Tryd.prog 40 #[.slice B m c] w (TopQ (topL (con P)) w):=by
 intro N
 induction N with
 |zero=>intro m h1 h2;omega
 |succ N ih =>
  intro m hN h1 hm w P B c hP ts
  have hl:=hP.len
  by_cases h2:2≤m
  ·obtain⟨ad,hB,-⟩:=hP.row.at_ (show 0 < m by omega)
   subst hB
   have hs:=half_spec h2
   have HF:=Lib.hid (fun w=>half_any h2 (by omega) w)
   obtain⟨H,hH⟩:∃H,H=half m:=⟨_,rfl⟩
   rw[←hH] at hs HF
   obtain⟨s1,s2,s3⟩:=hs
   have T1:=Lib.hid (fun(wq:World) (hb:Below w.heap.size w wq)=>ih H (by omega) s1 (by omega) wq (P.take H) (some ad) c ((hP.below hb).take (by omega)) (ts.below hb))
   have T2:=Lib.hid (fun(wq:World) (hb:Below w.heap.size w wq)=>ih (m - H) (by omega) (by omega) (by omega) wq (P.drop H) (some (ad.add H)) (c - H) ((hP.below hb).drop (by omega)) (ts.below hb))
   have E:=Lib.hid (show topL (con P)=Sh.dg false (1 :: (topL (con (P.take H)) ++ topL (con (P.drop H)))) from by
    rw[topL_step (by rw[con_len,hl];exact h2),con_len,hl,←hH]
    simp only[con,List.map_take,List.map_drop])
   rw[E.out]
   have L1:=Lib.hid (topL_len (ps:=con (P.take H)) (by rw[con_len,List.length_take];omega) ((hP.take (k:=H) (by omega)).con32))
   have L2:=Lib.hid (topL_len (ps:=con (P.drop H)) (by rw[con_len,List.length_drop];omega) ((hP.drop (k:=H) (by omega)).con32))
   generalize topL (con (P.take H))=t1 at T1 L1 ⊢
   generalize topL (con (P.drop H))=t2 at T2 L2 ⊢
   have J:=Lib.hid (fun(wq:World) (hb:Below w.heap.size w wq) (g1 c1 g2 c2:Nat) (p1:Pc wq (some ⟨g1,0,none⟩,32,c1,t1)) (p2:Pc wq (some ⟨g2,0,none⟩,32,c2,t2))=>joined_any p1 p2 (by rw[List.length_append,L1.out,L2.out];decide) (ts.below hb))
   have hcap:=hP.cap
   have t0:((m:Int) == 0)=false:=beq_eq_false_iff_ne.2 (by omega)
   have t1':((m:Int) == 1)=false:=beq_eq_false_iff_ne.2 (by omega)
   have k1:(H:Int)≤(c:Int):=by omega
   have k2:H≤c:=by omega
   have k3:(H:Int)≤(m:Int):=by omega
   have k4:¬c=H:=by omega
   have k5:¬H=c:=by omega
   clear ih hP ts hH E
   go_enter Tryd.func40,Tryd.ntmps40
   go_wp2_with (go_at_call 69;(with_reducible refine(HF.out _).mono ?_);rintro e w' ⟨rfl,rfl⟩)
   have X0:Below w.heap.size w w:=Below.refl _ _
   go_region_held3 (fun x=>Below w.heap.size w x)
    (first|exact X3|exact X2|exact X1|exact X0|exact X0.drew)
    ((first|(go_at_call_of 40 (Value.slice (some ad) H c);(with_reducible refine(T1.out _ (by first|exact X0|exact X0.drew)).mono ?_);rintro e w1 ⟨g1,c1,rfl,p1,-, b1⟩;have Y1:=Lib.hid p1;have X1:=X0.drew.trans (b1.mono X0.drew.size);clear p1 b1)|(go_at_call_of 40 (Value.slice (some (ad.add H)) (m - H) (c - H));(with_reducible refine(T2.out _ X1).mono ?_);rintro e w2 ⟨g2,c2,rfl,p2,-, b2⟩;have Y12:=Lib.hid (Y1.out.below b2);have Y2:=Lib.hid p2;have X2:=X1.trans (b2.mono X1.size);clear p2 b2)|(go_at_call 47;(with_reducible refine(J.out _ X2 _ _ _ _ Y12.out Y2.out).mono ?_);rintro e w3 ⟨g3,rfl,p3,z3,b3⟩;have Y3:=Lib.hid p3;have Z3:=Lib.hid z3;have X3:=X2.trans (b3.mono X2.size);have Z4:=Lib.hid (Nat.le_trans X2.size z3);clear p3 b3 z3)))
   go_wp2_with fail
   go_ret
   exact⟨g3,32,rfl,Y3.out,Z4.out,X3⟩
  ·obtain rfl:m=1:=by omega
   obtain⟨r,rfl⟩:∃r,P=[r]:=by
    cases P with
    |nil=>simp at hl
    |cons r t=>exact⟨r,by simp at hl;simp[hl]⟩
   refine(top_one (c:=c) ⟨hP.row,(hP.pcs r (by simp)).1,(hP.pcs r (by simp)).2⟩).mono fun e w' h=>?_
   rw[show con [r]=[r.2.2.2] from rfl,topL_one]
   exact h
def RootQ(k:Nat)(l:List Nat)(w:World)(e:Ending)(w':World):Prop:=∃g,e=.returned (.tuple #[.slice (some ⟨g,0,none⟩) 32 32,.int .i64 0])∧Pc w' (some ⟨g,0,none⟩,32,32,rootOf k l)∧w.heap.size≤g∧Below w.heap.size w w'
theorem PAny.lc{w:World}{B:Option Addr}{m c:Nat}{P:List Rw}(h:PAny w B m c P):Lc w (B,m,c,P):=⟨h.len.symm,h.row,show m≤1000000 by have:=h.few;omega⟩
set_option maxHeartbeats 2000000 in
set_option maxRecDepth 100000 in
theorem Root_good{w:World}{B:Option Addr}{m c:Nat}{P:List Rw}(h:PAny w B m c P)(h32:all32 P=true)(h1:1≤m)(ts:Sh.Tab w) :
  Calls Tryd.prog 11 #[.slice B m c] w (RootQ m (topL (con P)) w):=by
 have hf:=h.few
 have C1:=refused_ok (c:=c) (n:=m) h.lc (fun x hx=>by have:=(h.pcs x hx).2;omega) (by omega)
 rw[h32,if_pos rfl] at C1
 have C1:=Lib.hid C1
 have C2:=Lib.hid (fun(w1:World) (hb:Below w.heap.size w w1)=>top_any m m (Nat.le_refl _) h1 (by omega) w1 P B c ((h.p32 h32).below hb) (ts.below hb))
 have L:=Lib.hid (topL_len (ps:=con P) (by rw[con_len,h.len];exact h1) (h.p32 h32).con32)
 generalize topL (con P)=t at C2 L ⊢
 have C3:=Lib.hid (fun(w2:World) (g cap:Nat) (hb:Below w.heap.size w w2) (hp:Pc w2 (some ⟨g,0,none⟩,32,cap,t)) =>
  show Calls Tryd.prog 39 #[.int .i64 (m:Int),.slice (some ⟨g,0,none⟩) 32 cap] w2 (Ret32 (rootOf m t) w2) from sealed_any m (by omega) hp (by rw[L.out];decide) (ts.below hb))
 clear h ts h32
 go_enter Tryd.func11,Tryd.ntmps11
 go_wp2_with (go_at_call 38;(with_reducible refine C1.out.mono ?_);rintro e w1 ⟨rfl,b1⟩;have D1:=Lib.hid b1;have C4:=Lib.hid (C2.out w1 b1);clear b1 C2)
 go_wp2_with (go_at_call 40;(with_reducible refine C4.out.mono ?_);rintro e w2 ⟨g,cap,rfl,p1,g1,b1⟩;have D2:=Lib.hid (D1.out.trans (b1.mono D1.out.size));have C5:=Lib.hid (C3.out w2 g cap D2.out p1);clear p1 g1 b1 C3)
 go_wp2_with (go_at_call 39;(with_reducible refine C5.out.mono ?_);rintro e w3 ⟨g3,rfl,p1,g1,b1⟩;have P3:=Lib.hid p1;have G3:=Lib.hid (Nat.le_trans D2.out.size g1);have D3:=Lib.hid (D2.out.trans (b1.mono D2.out.size));clear p1 g1 b1)
 go_ret2
 exact⟨g3,rfl,P3.out,G3.out,D3.out⟩
def Ref1Q(w:World)(e:Ending)(w':World):Prop:=e=.returned (.tuple #[.slice none 0 0,.int .i64 1])∧Below w.heap.size w w'
set_option maxHeartbeats 2000000 in
set_option maxRecDepth 100000 in
theorem Root_bad{w:World}{B:Option Addr}{m c:Nat}{P:List Rw}(h:PAny w B m c P)(h32:all32 P=false) :
  Calls Tryd.prog 11 #[.slice B m c] w (Ref1Q w):=by
 have hf:=h.few
 have C1:=refused_ok (c:=c) (n:=m) h.lc (fun x hx=>by have:=(h.pcs x hx).2;omega) (by omega)
 rw[h32,if_neg (by decide)] at C1
 have C1:=Lib.hid C1
 clear h h32
 go_enter Tryd.func11,Tryd.ntmps11
 go_wp2_with (go_at_call 38;(with_reducible refine C1.out.mono ?_);rintro e w1 ⟨rfl,b1⟩;have D1:=Lib.hid b1;clear b1)
 go_ret2
 exact⟨rfl,D1.out⟩
end Go.Proofs.YtnnfpmebopgogaaDoor.Mk
