/- Joined texts. -/
import Derived.BigQuiet
import Derived.Test.YteblmphohhbgcaaQaWrWcount
import Derived.Test.YteblmphohhbgcaaQaWrRead
set_option linter.unusedVariables false
namespace Go.Proofs.Yteblmphohhbgcaa.Wr
open Go.RowKit Go.Proofs.Yteblmphohhbgcaa.Gn Go.Proofs.Yteblmphohhbgcaa.Fd Go.Deep
structure Rt (w:World) (g:Nat) (a b c d k:Int) (r:Rw) (p:Nat):Prop where
 row:Bl w g 143 #[.int .i64 a,.int .i64 b,.int .i64 c,.int .i64 d,.int .i64 k,.slice r.1 r.2.1 r.2.2.1,.int .i64 (p:Int)]
 pc:Pc w r
 le:p≤r.2.2.2.length
 apart:∀ad,r.1=some ad→ad.block≠g
theorem rcl_le{r:List Nat}{n m e:Nat}(h:rcl r=(n,m,e)):m≤r.length:=by
 unfold rcl at h
 split at h
 ·cases h;omega
 ·split at h
  ·cases h;omega
  ·split at h
   ·rename_i h1 h2 h3;injection h with _ h;injection h with h _;omega
   ·injection h with _ h;injection h with h _;omega
set_option maxHeartbeats 4000000 in
set_option maxRecDepth 100000 in
theorem tcount_bad{w:World}{g:Nat}{a b c d k:Int}{r:Rw}{p:Nat}(h:Rt w g a b c d k r p)(hl:r.2.1≤1000000000){n m e:Nat}(hr:rcl (r.2.2.2.drop p)=(n,m,e))(he:e≠0) :
  Calls Try.prog 96 #[.pointer (some ⟨g,0,none⟩)] w fun x w'=>x=pan ((p:Int)+(m:Int)) e∧∃q,w'=w.drewN q:=by
 obtain⟨A,L,cp,l⟩:=r
 have RV:=rcv_in h.le hr
 have HP:∀q,Pc (w.drewN q) (A,L,cp,l):=fun q=>⟨h.pc.len,h.pc.row,h.pc.lt,h.pc.cap,h.pc.nil⟩
 have CR:=Lib.hid (show ∀q,Calls Try.prog 100 #[.slice A L cp,.int .i64 (p:Int)] (w.drewN q) fun x w'=>x=.returned (.tuple #[.int .u64 (n:Int),.int .i64 ((p:Int)+(m:Int)),.int .i64 (e:Int)])∧w'=w.drewN q from fun q=>by
  rw[←RV];refine(ReadCount_any (HP q) (p:Int) hl).mono ?_;rintro x w' ⟨h1,h2⟩;exact⟨h1,h2.symm⟩)
 have c5:w.cell? ⟨g,5,none⟩=some (.slice A L cp):=h.row.cell_ rfl
 have c6:w.cell? ⟨g,6,none⟩=some (.int .i64 (p:Int)):=h.row.cell_ rfl
 have e0:¬(e:Int)=0:=by omega
 clear h hr he RV HP
 go_enter Try.func96,Try.ntmps96
 go_wp2_with fail
 go_quiet ((go_at_call 100;exact Calls.quiet_of_same (CR.out _)))
 go_wp2_with fail
 exact⟨rfl,rfl,_,rfl⟩
set_option maxHeartbeats 4000000 in
set_option maxRecDepth 100000 in
theorem tcount_ok{w:World}{g:Nat}{a b c d k:Int}{r:Rw}{p:Nat}(h:Rt w g a b c d k r p)(hl:r.2.1≤1000000000){n m:Nat}(hr:rcl (r.2.2.2.drop p)=(n,m,0)) :
  Calls Try.prog 96 #[.pointer (some ⟨g,0,none⟩)] w fun x w'=>x=.returned (.int .u64 (n:Int))∧Rt w' g a b c d k r (p+m)∧∃q,w'=(w.drewN q).setCell ⟨g,6,none⟩ (.int .i64 ((p+m:Nat):Int)):=by
 obtain⟨A,L,cp,l⟩:=r
 have RV:=rcv_in h.le hr
 have HP:∀q,Pc (w.drewN q) (A,L,cp,l):=fun q=>⟨h.pc.len,h.pc.row,h.pc.lt,h.pc.cap,h.pc.nil⟩
 have CR:=Lib.hid (show ∀q,Calls Try.prog 100 #[.slice A L cp,.int .i64 (p:Int)] (w.drewN q) fun x w'=>x=.returned (.tuple #[.int .u64 (n:Int),.int .i64 ((p:Int)+(m:Int)),.int .i64 ((0:Nat):Int)])∧w'=w.drewN q from fun q=>by
  rw[←RV];refine(ReadCount_any (HP q) (p:Int) hl).mono ?_;rintro x w' ⟨h1,h2⟩;exact⟨h1,h2.symm⟩)
 have c5:w.cell? ⟨g,5,none⟩=some (.slice A L cp):=h.row.cell_ rfl
 have c6:w.cell? ⟨g,6,none⟩=some (.int .i64 (p:Int)):=h.row.cell_ rfl
 have f6:=h.row.frozen 6
 have H:=Lib.hid h
 have PM:=Lib.hid (rcl_le hr)
 clear h hr RV HP
 go_enter Try.func96,Try.ntmps96
 go_wp2_with fail
 go_quiet ((go_at_call 100;exact Calls.quiet_of_same (CR.out _)))
 go_wp2_with fail
 go_ret
 have hrow:Bl (w.drewN nq) g 143 _:=H.out.row
 have hsl:Sl (w.drewN nq) A l.length (bl l):=H.out.pc.row
 have hG:=only_set (World.grownBy.refl (w.drewN nq) (some g)) (p:=⟨g,6,none⟩) (Or.inl rfl) (.int .i64 ((p:Int)+(m:Int)))
 refine⟨rfl,⟨?_,⟨H.out.pc.len,hsl.only hG (fun ad e h2=>H.out.apart ad e (Option.some.inj h2).symm),H.out.pc.lt,H.out.pc.cap,H.out.pc.nil⟩,?_,H.out.apart⟩,_,rfl⟩
 ·exact hrow.set_ 6 _
 ·have h1:m≤(l.drop p).length:=PM.out
  have h2:p≤l.length:=H.out.le
  rw[List.length_drop] at h1
  show p+m≤l.length
  omega
theorem rt_pc{w:World}{g o:Nat}{r:Rw}(h:Pc w r)(ha:∀ad,r.1=some ad→ad.block≠g)(v:Value):Pc (w.setCell ⟨g,o,none⟩ v) r :=
 ⟨h.len,h.row.only (only_set (World.grownBy.refl w (some g)) (p:=⟨g,o,none⟩) (Or.inl rfl) v) (fun ad e h2=>ha ad e (Option.some.inj h2).symm),h.lt,h.cap,h.nil⟩
theorem tbegin_ok{w:World}{g:Nat}{a b c d k:Int}{r:Rw}{p:Nat}(h:Rt w g a b c d k r p)(at_ deep:Int)(hd:¬b < deep)(hk:¬k=c)(k0:0≤k)(k1:k≤1000000) :
  Calls Try.prog 91 #[.pointer (some ⟨g,0,none⟩),.int .i64 at_,.int .i64 deep] w fun e w'=>e=.returned (.tuple #[])∧Rt w' g a b c d (k+1) r p∧∃q,w'=(w.drewN q).setCell ⟨g,4,none⟩ (.int .i64 (k+1)):=by
 refine(begin_ok (h.row.cell_ rfl) (h.row.cell_ rfl) (h.row.cell_ rfl) (h.row.frozen 4) at_ deep hd hk k0 k1).mono ?_
 rintro e w' ⟨rfl,q,rfl⟩
 have h2:Bl (w.drewN q) g 143 _:=h.row
 have h3:Pc (w.drewN q) r:=⟨h.pc.len,h.pc.row,h.pc.lt,h.pc.cap,h.pc.nil⟩
 exact⟨rfl,⟨h2.set_ 4 _,rt_pc h3 h.apart _,h.le,h.apart⟩,_,rfl⟩
theorem tbegin_deep{w:World}{g:Nat}{a b c d k:Int}{r:Rw}{p:Nat}(h:Rt w g a b c d k r p)(at_ deep:Int)(hd:b < deep) :
  Calls Try.prog 91 #[.pointer (some ⟨g,0,none⟩),.int .i64 at_,.int .i64 deep] w fun e w'=>e=pan at_ 23∧w=w' :=
 begin_deep (h.row.cell_ rfl) at_ deep hd
theorem tbegin_many{w:World}{g:Nat}{a b c d:Int}{r:Rw}{p:Nat}(h:Rt w g a b c d c r p)(at_ deep:Int)(hd:¬b < deep) :
  Calls Try.prog 91 #[.pointer (some ⟨g,0,none⟩),.int .i64 at_,.int .i64 deep] w fun e w'=>e=pan at_ 24∧∃q,w'=w.drewN q :=
 begin_many (h.row.cell_ rfl) (h.row.cell_ rfl) (h.row.cell_ rfl) at_ deep hd
theorem thold_any{w:World}{g:Nat}{a b c d k:Int}{r:Rw}{p:Nat}(h:Rt w g a b c d k r p)(d0:0≤d)(d1:d≤9223372036854775807)(at_:Int)(n:Nat) :
  Calls Try.prog 93 #[.pointer (some ⟨g,0,none⟩),.int .i64 at_,.int .u64 (n:Int)] w fun e w'=>e=(if d < (n:Int) then pan at_ 2 else .returned (.tuple #[]))∧w=w' :=
 hold_any (h.row.cell_ rfl) d0 d1 at_ n
end Go.Proofs.Yteblmphohhbgcaa.Wr
namespace Go.Proofs.Yteblmphohhbgcaa.Wr
open Go.RowKit Go.Proofs.Yteblmphohhbgcaa.Gn Go.Proofs.Yteblmphohhbgcaa.Fd Go.Deep
theorem add_block(ad:Addr)(k:Nat):(ad.add k).block=ad.block:=by unfold Addr.add;split <;> rfl
theorem pc_take{w:World}{A:Option Addr}{n c:Nat}{l:List Nat}(h:Pc w (A,n,c,l)){k:Nat}(hk:k≤n):Pc w (A,k,c,l.take k):=by
 have hn:n=l.length:=h.len
 have hr:Sl w A l.length (bl l):=h.row
 have h1:=hr.take_ k (by omega)
 rw[bl_take] at h1
 have hcap:l.length≤c:=h.cap
 refine⟨by simp;omega,?_,fun x hx=>h.lt x (List.mem_of_mem_take hx),by simp;omega,h.nil⟩
 have e:(l.take k).length=k:=by simp;omega
 show Sl w A (l.take k).length _
 rw[e];exact h1
theorem tcount_good{w:World}{g:Nat}{a b c d k:Int}{r:Rw}{p:Nat}(h:Rt w g a b c d k r p)(hl:r.2.1≤1000000000){n m:Nat}(hr:rcl (r.2.2.2.drop p)=(n,m,0)) :
  Calls Try.prog 96 #[.pointer (some ⟨g,0,none⟩)] w fun x w'=>x=.returned (.int .u64 (n:Int))∧Rt w' g a b c d k r (p+m)∧w.grownBy w' (some g):=by
 refine(tcount_ok h hl hr).mono ?_
 rintro x w' ⟨rfl,h1,q,rfl⟩
 exact⟨rfl,h1,only_set (only_drewN (World.grownBy.refl w (some g)) q) (p:=⟨g,6,none⟩) (Or.inl rfl) _⟩
set_option maxHeartbeats 4000000 in
set_option maxRecDepth 100000 in
theorem tpiece_bad{w:World}{g:Nat}{a b c d k:Int}{r:Rw}{p:Nat}(h:Rt w g a b c d k r p)(hl:r.2.1≤1000000000){n m e:Nat}(hr:rcl (r.2.2.2.drop p)=(n,m,e))(he:e≠0) :
  Calls Try.prog 97 #[.pointer (some ⟨g,0,none⟩)] w fun x w'=>x=pan ((p:Int)+(m:Int)) e∧w.grownBy w' (some g):=by
 have CT:=Lib.hid (tcount_bad h hl hr he)
 have c6:w.cell? ⟨g,6,none⟩=some (.int .i64 (p:Int)):=h.row.cell_ rfl
 clear h hr he
 go_enter Try.func97,Try.ntmps97
 go_wp2_with (go_at_call 96;(refine CT.out.mono ?_);rintro e w1 ⟨rfl,q,rfl⟩)
 exact⟨rfl,rfl,only_drewN (World.grownBy.refl w (some g)) q⟩
set_option maxHeartbeats 4000000 in
set_option maxRecDepth 100000 in
theorem tpiece_long{w:World}{g:Nat}{a b c d k:Int}{r:Rw}{p:Nat}(h:Rt w g a b c d k r p)(hl:r.2.1≤1000000000){n m:Nat}(hr:rcl (r.2.2.2.drop p)=(n,m,0))(d0:0≤d)(d1:d≤9223372036854775807)(hn:d < (n:Int)) :
  Calls Try.prog 97 #[.pointer (some ⟨g,0,none⟩)] w fun x w'=>x=pan (p:Int) 2∧w.grownBy w' (some g):=by
 have CT:=Lib.hid (tcount_good h hl hr)
 have c6:w.cell? ⟨g,6,none⟩=some (.int .i64 (p:Int)):=h.row.cell_ rfl
 have TH:=Lib.hid (fun(u:World) (hu:Rt u g a b c d k r (p+m))=>thold_any hu d0 d1 (p:Int) n)
 have DN:=Lib.hid hn
 clear h hr hn d0 d1
 go_enter Try.func97,Try.ntmps97
 go_wp2_with (first
  |(go_at_call 96;(refine CT.out.mono ?_);rintro e w1 ⟨rfl,h1,h2⟩;have R1:=Lib.hid h1;have G1:=Lib.hid h2;clear h1 h2)
  |(go_at_call 93;(refine(TH.out _ R1.out).mono ?_);rintro e w2 ⟨h1,rfl⟩;rw[if_pos DN.out] at h1;subst h1))
 exact⟨rfl,rfl,G1.out⟩
set_option maxHeartbeats 4000000 in
set_option maxRecDepth 100000 in
theorem tpiece_short{w:World}{g:Nat}{a b c d k:Int}{r:Rw}{p:Nat}(h:Rt w g a b c d k r p)(hl:r.2.1≤1000000000){n m:Nat}(hr:rcl (r.2.2.2.drop p)=(n,m,0))(d0:0≤d)(d1:d≤9223372036854775807)(hn:¬d < (n:Int))(hs:r.2.2.2.length < p+m+n) :
  Calls Try.prog 97 #[.pointer (some ⟨g,0,none⟩)] w fun x w'=>x=pan ((p+m:Nat):Int) 20∧w.grownBy w' (some g):=by
 have CT:=Lib.hid (tcount_good h hl hr)
 have c6:w.cell? ⟨g,6,none⟩=some (.int .i64 (p:Int)):=h.row.cell_ rfl
 have TH:=Lib.hid (show ∀u,Rt u g a b c d k r (p+m)→Calls Try.prog 93 #[.pointer (some ⟨g,0,none⟩),.int .i64 (p:Int),.int .u64 (n:Int)] u fun e w'=>e=.returned (.tuple #[])∧u=w' from fun u hu=>(thold_any hu d0 d1 (p:Int) n).mono fun e w' ⟨h1,h2⟩=>⟨by rw[if_neg hn] at h1;exact h1,h2⟩)
 obtain⟨A,L,cp,l⟩:=r
 have hL:L=l.length:=h.pc.len
 have hcap:l.length≤cp:=h.pc.cap
 obtain⟨P,hP⟩:∃P,p+m=P:=⟨_,rfl⟩
 have hs:l.length < p+m+n:=hs
 have PL:P≤L:=by have h1:=rcl_le hr;have h2:p≤l.length:=h.le;have h3:m≤(l.drop p).length:=h1;rw[List.length_drop] at h3;omega
 have PC:L≤cp:=by omega
 rw[hP] at CT TH hs ⊢
 have q0:(L:Int) - (P:Int) < (n:Int):=by omega
 obtain⟨K,hK⟩:∃K,L - P=K:=⟨_,rfl⟩
 have q1:(K:Int) < (n:Int):=by omega
 clear h hr hn d0 d1 hs hL hcap hP q0
 go_enter Try.func97,Try.ntmps97
 go_wp2_with (first
  |(go_at_call 96;(refine CT.out.mono ?_);rintro e w1 ⟨rfl,h1,h2⟩;have R1:=Lib.hid h1;have G1:=Lib.hid h2;clear h1 h2)
  |(go_at_call 93;(refine(TH.out _ R1.out).mono ?_);rintro e w2 ⟨rfl,rfl⟩;have z5:w1.cell? ⟨g,5,none⟩=some (.slice A L cp):=R1.out.row.cell_ rfl;have z6:w1.cell? ⟨g,6,none⟩=some (.int .i64 (P:Int)):=R1.out.row.cell_ rfl))
 go_quiet (fail)
 go_wp2_with fail
 all_goals exact⟨rfl,rfl,only_drewN G1.out _⟩
set_option maxHeartbeats 4000000 in
set_option maxRecDepth 100000 in
theorem tpiece_ok{w:World}{g:Nat}{a b c d k:Int}{r:Rw}{p:Nat}(h:Rt w g a b c d k r p)(hl:r.2.1≤1000000000){n m:Nat}(hr:rcl (r.2.2.2.drop p)=(n,m,0))(d0:0≤d)(d1:d≤9223372036854775807)(hn:¬d < (n:Int))(hs:p+m+n≤r.2.2.2.length) :
  Calls Try.prog 97 #[.pointer (some ⟨g,0,none⟩)] w fun x w'=>∃B c',x=.returned (.slice B n c')∧Pc w' (B,n,c',(r.2.2.2.drop (p+m)).take n)∧Rt w' g a b c d k r (p+m+n)∧w.grownBy w' (some g):=by
 have CT:=Lib.hid (tcount_good h hl hr)
 have c6:w.cell? ⟨g,6,none⟩=some (.int .i64 (p:Int)):=h.row.cell_ rfl
 have TH:=Lib.hid (show ∀u,Rt u g a b c d k r (p+m)→Calls Try.prog 93 #[.pointer (some ⟨g,0,none⟩),.int .i64 (p:Int),.int .u64 (n:Int)] u fun e w'=>e=.returned (.tuple #[])∧u=w' from fun u hu=>(thold_any hu d0 d1 (p:Int) n).mono fun e w' ⟨h1,h2⟩=>⟨by rw[if_neg hn] at h1;exact h1,h2⟩)
 obtain⟨A,L,cp,l⟩:=r
 have hL:L=l.length:=h.pc.len
 have hcap:l.length≤cp:=h.pc.cap
 obtain⟨P,hP⟩:∃P,p+m=P:=⟨_,rfl⟩
 have hs:p+m+n≤l.length:=hs
 have PL:P≤L:=by have h1:=rcl_le hr;have h2:p≤l.length:=h.le;have h3:m≤(l.drop p).length:=h1;rw[List.length_drop] at h3;omega
 have PC:L≤cp:=by omega
 rw[hP] at CT TH hs ⊢
 obtain⟨K,hK⟩:∃K,L - P=K:=⟨_,rfl⟩
 have q1:¬(K:Int) < (n:Int):=by omega
 have q2:(n:Int)≤(K:Int):=by omega
 have nn:n≤K:=by omega
 obtain⟨B,hB⟩:∃B,(if cp=P then A else A.map (fun x=>x.add P))=B:=⟨_,rfl⟩
 obtain⟨D,hD⟩:∃D,cp - P=D:=⟨_,rfl⟩
 have KD:K≤D:=by omega
 have HX:=Lib.hid (show P+n≤l.length from hs)
 clear h hr hn d0 d1 hs hL hcap hP
 go_enter Try.func97,Try.ntmps97
 go_wp2_with (first
  |(go_at_call 96;(refine CT.out.mono ?_);rintro e w1 ⟨rfl,h1,h2⟩;have R1:=Lib.hid h1;have G1:=Lib.hid h2;clear h1 h2)
  |(go_at_call 93;(refine(TH.out _ R1.out).mono ?_);rintro e w2 ⟨rfl,rfl⟩;have z5:w1.cell? ⟨g,5,none⟩=some (.slice A L cp):=R1.out.row.cell_ rfl;have y6:=R1.out.row.frozen 6;have z6:w1.cell? ⟨g,6,none⟩=some (.int .i64 (P:Int)):=R1.out.row.cell_ rfl))
 go_quiet (fail)
 go_wp2_with fail
 all_goals
  go_ret
  have hrow:Bl (w1.drewN nq) g 143 _:=R1.out.row
  have hp0:=pc_take (pc_drop R1.out.pc (k:=P) PL) (k:=n) (by omega)
  rw[hB,hD] at hp0
  have hp1:Pc (w1.drewN nq) (B,n,D,(l.drop P).take n):=⟨hp0.len,hp0.row,hp0.lt,hp0.cap,hp0.nil⟩
  have hp2:Pc (w1.drewN nq) (A,L,cp,l):=⟨R1.out.pc.len,R1.out.pc.row,R1.out.pc.lt,R1.out.pc.cap,R1.out.pc.nil⟩
  have hap:∀ad,B=some ad→ad.block≠g:=by
   intro ad e
   rw[←hB] at e
   split at e
   ·exact R1.out.apart ad e
   ·obtain⟨x,hx,rfl⟩:=Option.map_eq_some_iff.1 e
    rw[add_block];exact R1.out.apart x hx
  refine⟨B,D,rfl,rt_pc hp1 hap _,⟨hrow.set_ 6 _,rt_pc hp2 R1.out.apart _,HX.out,R1.out.apart⟩,only_set (only_drewN G1.out nq) (p:=⟨g,6,none⟩) (Or.inl rfl) _⟩
end Go.Proofs.Yteblmphohhbgcaa.Wr
