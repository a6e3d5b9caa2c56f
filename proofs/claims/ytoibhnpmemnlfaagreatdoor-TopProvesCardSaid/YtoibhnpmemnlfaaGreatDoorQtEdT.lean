/- Joined texts. -/
import Derived.Test.YtoibhnpmemnlfaaGreatDoorQtEdS
import Derived.Test.YtoibhnpmemnlfaaGreatDoorQtEdN
set_option linter.unusedVariables false
namespace Go.Proofs.YtoibhnpmemnlfaaGreatDoor.Ed
open Go.RowKit Go.Proofs.YtoibhnpmemnlfaaGreatDoor.Gn Go.Proofs.YtoibhnpmemnlfaaGreatDoor.Fd Go.Deep
def Ret32(l:List Nat)(w:World)(e:Ending)(w':World):Prop:=∃g,e=.returned (.slice (some ⟨g,0,none⟩) 32 32)∧Pc w' (some ⟨g,0,none⟩,32,32,l)∧Below w.heap.size w w'
theorem pc_bl{w:World}{g:Nat}{l:List Nat}(hl:l.length=32)(hx:∀x∈l,x < 256)(h:Bl w g 5 (bl l).toArray):Pc w (some ⟨g,0,none⟩,32,32,l) :=
 ⟨hl.symm,Sl.of_bl h 0 _ _ (by rw[bl_length]) (fun k v hk=>by rw[Nat.zero_add];simpa using hk),hx,by show l.length≤32;omega,fun h=>by cases h⟩
theorem RetB.p{l:List Nat}{w w':World}{e:Ending}(h:RetB l w e w')(hl:l.length=32)(hx:∀x∈l,x < 256):Ret32 l w e w':=by
 obtain⟨g,rfl,hg,hb,hw⟩:=h
 exact⟨g,by rw[hl],pc_bl hl hx hb,hw⟩
def salt(l:List Nat):List Nat:=(secd (Sh.dg true l)).drop 32
theorem salt_length(l:List Nat):(salt l).length=32:=by unfold salt;rw[List.length_drop,secd_length,dg_len]
theorem salt_lt(l:List Nat):∀x∈salt l,x < 256:=fun x hx=>secd_lt (dg_lt l) x (List.mem_of_mem_drop hx)
theorem sec_length(l:List Nat):(sec l).length=32:=by unfold sec;rw[List.length_take,secd_length,dg_len];rfl
theorem sec_lt(l:List Nat):∀x∈sec l,x < 256:=fun x hx=>secd_lt (dg_lt l) x (List.mem_of_mem_take hx)
theorem halves_p{A:Option Addr}{c:Nat}{l:List Nat}{w:World}(h:Pc w (A,32,c,l))(ts:Sh.Tab w) :
  Calls Tryz.prog 19 #[.slice A 32 c] w fun e w'=>∃q,e=.returned (.tuple #[.slice (some ⟨q,0,none⟩) 32 64,.slice (some ⟨q,32,none⟩) 32 32])∧Pc w' (some ⟨q,0,none⟩,32,64,sec l)∧Pc w' (some ⟨q,32,none⟩,32,32,salt l)∧Below w.heap.size w w':=by
 have h32:l.length=32:=h.len.symm
 have HV:=halves_any A c l w h.lt h.row (Sh.Sl_block h.row (by show 0 < l.length;omega)) h.cap (by omega) ts
 rw[h32] at HV
 refine HV.mono ?_
 rintro e w' ⟨q,rfl,hq,hb,hw⟩
 have hlen:(secd (Sh.dg true l)).length=64:=by rw[secd_length,dg_len]
 refine⟨q,rfl,⟨(sec_length l).symm,?_,sec_lt l,by show(sec l).length≤64;rw[sec_length];decide,fun h=>by cases h⟩,⟨(salt_length l).symm,?_,salt_lt l,by show(salt l).length≤32;rw[salt_length];decide,fun h=>by cases h⟩,hw⟩
 ·refine Sl.of_bl hb 0 _ _ (by rw[bl_length]) (fun k v hv=>?_)
  have hk:k < 32:=by
   have:=(List.getElem?_eq_some_iff.1 hv).1
   rwa [bl_length,sec_length] at this
  change(bl (sec l))[k]?=some v at hv
  unfold sec at hv
  rw[←bl_take,List.getElem?_take,if_pos hk] at hv
  rw[Nat.zero_add]
  simpa using hv
 ·refine Sl.of_bl hb 32 _ _ (by rw[bl_length]) (fun k v hv=>?_)
  change(bl (salt l))[k]?=some v at hv
  unfold salt at hv
  rw[bl_get,List.getElem?_drop,←bl_get] at hv
  simpa using hv
theorem base_p{A:Option Addr}{c:Nat}{l:List Nat}{b:G}{w:World}(h:Pc w (A,32,c,l))(tab:TabE w)(hb:Hp kbase b):Calls Tryz.prog 20 #[.slice A 32 c] w (Ret32 (by_ (gb (ti (le l) b)) 32) w):=by
 have h32:l.length=32:=h.len.symm
 have hr:Sl w A 32 (bl l):=by have:Sl w A l.length (bl l):=h.row;rwa [h32] at this
 exact(baseTimes_any A 32 c l b w tab (Nat.le_refl _) h.lt hr hb).mono fun e w' h=>RetB.p h (by_length _ _) (by_lt _ _)
def scb(T:List Nat):List Nat:=by_ (le (Sh.dg true T)%Lq) 32
theorem scb_length(T:List Nat):(scb T).length=32:=by_length _ _
theorem scb_lt(T:List Nat):∀x∈scb T,x < 256:=by_lt _ _
theorem two_sl(w:World)(r s:Rw):Sl (w.alloc (.cells #[rwv r,rwv s] 22)) (some ⟨w.heap.size,0,none⟩) 2 ([r,s].map rwv):=Sl.new_ w 22 [rwv r,rwv s]
theorem three_sl(w:World)(r s t:Rw):Sl (w.alloc (.cells #[rwv r,rwv s,rwv t] 22)) (some ⟨w.heap.size,0,none⟩) 3 ([r,s,t].map rwv):=Sl.new_ w 22 [rwv r,rwv s,rwv t]
theorem scal2{A B:Option Addr}{n m c d:Nat}{x y:List Nat}{w:World}(h:Pc w (A,n,c,x))(k:Pc w (B,m,d,y))(hmax:(x ++ y).length≤1048576)(ts:Sh.Tab w)(tl:TabL w) :
  Calls Tryz.prog 21 #[.slice (some ⟨w.heap.size,0,none⟩) 2 2] (w.alloc (.cells #[.slice A n c,.slice B m d] 22)) (Ret32 (scb (x ++ y)) w):=by
 have BB:=(Below.refl w.heap.size w).alloc (Nat.le_refl _) (.cells #[.slice A n c,.slice B m d] 22)
 have e:cat [(A,n,c,x),(B,m,d,y)]=x ++ y:=by simp[cat]
 have:=scalarOf_any [(A,n,c,x),(B,m,d,y)] _ 2 2 _ (two_sl w _ _) (by intro r hx;simp at hx;rcases hx with rfl|rfl <;> first|exact h.below BB|exact k.below BB) (by decide) (by rw[e];exact hmax) (ts.below BB) (tl.below BB)
 rw[e] at this
 refine this.mono fun e w' h=>?_
 obtain⟨q,h1,h2,h3⟩:=RetB.p h (scb_length _) (scb_lt _)
 exact⟨q,h1,h2,BB.trans (h3.mono BB.size)⟩
theorem scal3{A B C:Option Addr}{n m o c d f:Nat}{x y z:List Nat}{w:World}(h:Pc w (A,n,c,x))(k:Pc w (B,m,d,y))(j:Pc w (C,o,f,z))(hmax:(x ++ (y ++ z)).length≤1048576)(ts:Sh.Tab w)(tl:TabL w) :
  Calls Tryz.prog 21 #[.slice (some ⟨w.heap.size,0,none⟩) 3 3] (w.alloc (.cells #[.slice A n c,.slice B m d,.slice C o f] 22)) (Ret32 (scb (x ++ (y ++ z))) w):=by
 have BB:=(Below.refl w.heap.size w).alloc (Nat.le_refl _) (.cells #[.slice A n c,.slice B m d,.slice C o f] 22)
 have e:cat [(A,n,c,x),(B,m,d,y),(C,o,f,z)]=x ++ (y ++ z):=by simp[cat]
 have:=scalarOf_any [(A,n,c,x),(B,m,d,y),(C,o,f,z)] _ 3 3 _ (three_sl w _ _ _) (by intro r hx;simp at hx;rcases hx with rfl|rfl|rfl <;> first|exact h.below BB|exact k.below BB|exact j.below BB) (by decide) (by rw[e];exact hmax) (ts.below BB) (tl.below BB)
 rw[e] at this
 refine this.mono fun e w' h=>?_
 obtain⟨q,h1,h2,h3⟩:=RetB.p h (scb_length _) (scb_lt _)
 exact⟨q,h1,h2,BB.trans (h3.mono BB.size)⟩
theorem join2{A B:Option Addr}{n m c d:Nat}{x y:List Nat}{w:World}(h:Pc w (A,n,c,x))(k:Pc w (B,m,d,y))(hmax:(x ++ y).length≤1048576) :
  Calls Tryz.prog 23 #[.slice (some ⟨w.heap.size,0,none⟩) 2 2] (w.alloc (.cells #[.slice A n c,.slice B m d] 22)) (ConcatQ (x ++ y) w):=by
 have BB:=(Below.refl w.heap.size w).alloc (Nat.le_refl _) (.cells #[.slice A n c,.slice B m d] 22)
 have e:cat [(A,n,c,x),(B,m,d,y)]=x ++ y:=by simp[cat]
 have:=Concat_any [(A,n,c,x),(B,m,d,y)] _ 2 2 _ (two_sl w _ _) (by intro r hx;simp at hx;rcases hx with rfl|rfl <;> first|exact h.below BB|exact k.below BB) (by decide) (by rw[e];omega)
 rw[e] at this
 refine this.mono fun e w' h=>?_
 obtain⟨v,h1,h2,h3⟩:=h
 exact⟨v,h1,own_base h2 BB.size,BB.trans (h3.mono BB.size)⟩
theorem times_p{A B C:Option Addr}{ca cb cc:Nat}{a b c:List Nat}{w:World}(tl:TabL w)(ha:Pc w (A,32,ca,a))(hb:Pc w (B,32,cb,b))(hc:Pc w (C,32,cc,c)) :
  Calls Tryz.prog 22 #[.slice A 32 ca,.slice B 32 cb,.slice C 32 cc] w fun e w'=>∃g,e=.returned (.tuple #[.slice (some ⟨g,0,none⟩) 32 32,.int .i64 0])∧Pc w' (some ⟨g,0,none⟩,32,32,by_ ((le a*le b+le c)%Lq) 32)∧Below w.heap.size w w':=by
 have la:a.length=32:=ha.len.symm
 have lb:b.length=32:=hb.len.symm
 have lc:c.length=32:=hc.len.symm
 have ra:Sl w A 32 (bl a):=by have:Sl w A a.length (bl a):=ha.row;rwa [la] at this
 have rb:Sl w B 32 (bl b):=by have:Sl w B b.length (bl b):=hb.row;rwa [lb] at this
 have rc:Sl w C 32 (bl c):=by have:Sl w C c.length (bl c):=hc.row;rwa [lc] at this
 refine(Times_any A B C 32 32 32 ca cb cc a b c w tl (Nat.le_refl _) (Nat.le_refl _) (Nat.le_refl _) ha.lt hb.lt hc.lt ra rb rc).mono ?_
 rintro e w' ⟨g,rfl,hg,hb,hw⟩
 exact⟨g,by rw[by_length],pc_bl (by_length _ _) (by_lt _ _) hb,hw⟩
def keyb(l:List Nat)(b:G):List Nat:=by_ (gb (ti (le (sec l)) b)) 32
def sr(l m:List Nat):List Nat:=scb (salt l ++ m)
def sfst(l m:List Nat)(b:G):List Nat:=by_ (gb (ti (le (sr l m)) b)) 32
def sk(l m:List Nat)(b:G):List Nat:=scb (sfst l m b ++ (keyb l b ++ m))
def ssnd(l m:List Nat)(b:G):List Nat:=by_ ((le (sk l m b)*le (sec l)+le (sr l m))%Lq) 32
def SignQ(s:List Nat)(w:World)(e:Ending)(w':World):Prop:=∃v,e=.returned (.tuple #[v,.int .i64 0])∧w'.ownsRow w.heap.size 5 1 v s.length (bl s)∧Below w.heap.size w w'
set_option maxRecDepth 100000 in
set_option maxHeartbeats 4000000 in
theorem Sign_any{A:Option Addr}{c:Nat}{l:List Nat}{M:Option Addr}{n cm:Nat}{m:List Nat}{b:G}{w:World}(tab:TabE w)(ts:Sh.Tab w)(tl:TabL w)(ha:Pc w (A,32,c,l))(hm:Pc w (M,n,cm,m))(hn:n≤65536)(hb:Hp kbase b) :
  Calls Tryz.prog 7 #[.slice A 32 c,.slice M n cm] w (SignQ (sfst l m b ++ ssnd l m b) w):=by
 have hml:m.length=n:=hm.len.symm
 have t1:decide ((65536:Int) < (n:Int))=false:=decide_eq_false (by omega)
 have HV:=Lib.hid (halves_p ha ts)
 have HM:=Lib.hid hm
 have TB:=Lib.hid tab
 have TS:=Lib.hid ts
 have TL:=Lib.hid tl
 have N6:=Lib.hid (show m.length≤65536 by omega)
 have HB:=Lib.hid hb
 have e1:sfst l m b=by_ (gb (ti (le (sr l m)) b)) 32:=rfl
 have e2:ssnd l m b=by_ ((le (sk l m b)*le (sec l)+le (sr l m))%Lq) 32:=rfl
 have e3:sk l m b=scb (sfst l m b ++ (keyb l b ++ m)):=rfl
 have e4:sr l m=scb (salt l ++ m):=rfl
 have e5:keyb l b=by_ (gb (ti (le (sec l)) b)) 32:=rfl
 have lf:(sfst l m b).length=32:=by_length _ _
 have lk:(keyb l b).length=32:=by_length _ _
 have ls:(ssnd l m b).length=32:=by_length _ _
 have lt:(salt l).length=32:=salt_length l
 generalize sfst l m b=F at *
 generalize ssnd l m b=Z at *
 generalize sk l m b=K at *
 generalize sr l m=R at *
 generalize keyb l b=Y at *
 generalize sec l=S at *
 generalize salt l=T at *
 have E1:=Lib.hid e1
 have E2:=Lib.hid e2
 have E3:=Lib.hid e3
 have E4:=Lib.hid e4
 have E5:=Lib.hid e5
 have LF:=Lib.hid lf
 have LK:=Lib.hid lk
 have LS:=Lib.hid ls
 have LT:=Lib.hid lt
 clear e1 e2 e3 e4 e5 lf lk ls lt hml hn hb hm ha tab ts tl
 go_enter Tryz.func7,Tryz.ntmps7
 go_wp2_with (go_at_call 19;(with_reducible refine HV.out.mono ?_);rintro e w1 ⟨q,rfl,p1,p2,b1⟩;have P1:=Lib.hid p1;have P2:=Lib.hid p2;have B1:=Lib.hid b1;have C1:=Lib.hid (scal2 p2 (HM.out.below b1) (by show(T ++ m).length≤_;have:=LT.out;have:=N6.out;rw[List.length_append];omega) (TS.out.below b1) (TL.out.below b1));clear p1 p2 b1 HV)
 go_wp2_with (go_at_call 21;(with_reducible refine C1.out.mono ?_);rintro e w2 ⟨q2,rfl,p1,b1⟩;have B2:=Lib.hid (B1.out.trans (b1.mono B1.out.size));rw[show scb _=R from E4.out.symm] at p1;have Q1:=Lib.hid (P1.out.below b1);have P3:=Lib.hid p1;have C2:=Lib.hid (base_p p1 (TB.out.below B2.out) HB.out);clear p1 b1 C1)
 go_wp2_with (go_at_call 20;(with_reducible refine C2.out.mono ?_);rintro e w3 ⟨q3,rfl,p1,b1⟩;have B3:=Lib.hid (B2.out.trans (b1.mono B2.out.size));rw[←E1.out] at p1;have P4:=Lib.hid p1;have P5:=Lib.hid (P3.out.below b1);have Q2:=Lib.hid (Q1.out.below b1);have C3:=Lib.hid (base_p Q2.out (TB.out.below B3.out) HB.out);clear p1 b1 C2)
 go_wp2_with (go_at_call 20;(with_reducible refine C3.out.mono ?_);rintro e w4 ⟨q4,rfl,p1,b1⟩;have B4:=Lib.hid (B3.out.trans (b1.mono B3.out.size));rw[←E5.out] at p1;have P6:=Lib.hid (P5.out.below b1);have Q3:=Lib.hid (Q2.out.below b1);have P7:=Lib.hid (P4.out.below b1);have C4:=Lib.hid (scal3 P7.out p1 (HM.out.below B4.out) (by show(F ++ (Y ++ m)).length≤_;have:=LF.out;have:=LK.out;have:=N6.out;rw[List.length_append,List.length_append];omega) (TS.out.below B4.out) (TL.out.below B4.out));clear p1 b1 C3)
 go_wp2_with (go_at_call 21;(with_reducible refine C4.out.mono ?_);rintro e w5 ⟨q5,rfl,p1,b1⟩;have B5:=Lib.hid (B4.out.trans (b1.mono B4.out.size));rw[show scb _=K from E3.out.symm] at p1;have P8:=Lib.hid (P7.out.below b1);have C5:=Lib.hid (times_p (TL.out.below B5.out) p1 (Q3.out.below b1) (P6.out.below b1));clear p1 b1 C4)
 go_wp2_with (go_at_call 22;(with_reducible refine C5.out.mono ?_);rintro e w6 ⟨q6,rfl,p1,b1⟩;have B6:=Lib.hid (B5.out.trans (b1.mono B5.out.size));rw[←E2.out] at p1;have C6:=Lib.hid (join2 (P8.out.below b1) p1 (by show(F ++ Z).length≤_;have:=LF.out;have:=LS.out;rw[List.length_append];omega));clear p1 b1 C5)
 go_wp2_with (go_at_call 23;(with_reducible refine C6.out.mono ?_);rintro e w7 ⟨v,rfl,o1,b1⟩;have B7:=Lib.hid (B6.out.trans (b1.mono B6.out.size));have O1:=Lib.hid (own_base o1 B6.out.size);clear o1 b1 C6)
 go_ret2
 exact⟨v,rfl,O1.out,B7.out⟩
end Go.Proofs.YtoibhnpmemnlfaaGreatDoor.Ed
