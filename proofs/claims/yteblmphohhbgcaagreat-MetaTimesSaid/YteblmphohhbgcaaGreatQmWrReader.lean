/- Joined texts. -/
import Derived.BigQuiet
import Derived.Test.YteblmphohhbgcaaGreatQmWrWcount
import Derived.Test.YteblmphohhbgcaaGreatQmWrRead
import Derived.Deep.LoopGhost
import Derived.Test.YteblmphohhbgcaaGreatQmMkSeq
set_option linter.unusedVariables false
namespace Go.Proofs.YteblmphohhbgcaaGreat.Wr
open Go.RowKit Go.Proofs.YteblmphohhbgcaaGreat.Gn Go.Proofs.YteblmphohhbgcaaGreat.Fd Go.Deep
structure Rt (w:World) (g:Nat) (a b c d k:Int) (r:Rw) (p:Nat):Prop where
 row:Bl w g 185 #[.int .i64 a,.int .i64 b,.int .i64 c,.int .i64 d,.int .i64 k,.slice r.1 r.2.1 r.2.2.1,.int .i64 (p:Int)]
 pc:Pc w r
 le:p≤r.2.2.2.length
 apart:∀ad,r.1=some ad→ad.block≠g
theorem rcl_le{r:List Nat}{n m e:Nat}(h:rcl r=(n,m,e)):m≤r.length:=by
 unfold rcl at h
 split at h
 ·cases h;omega
 ·split at h
  ·cases h;omega
  ·split at h
   ·rename_i h1 h2 h3;injection h with _ h;injection h with h _;omega
   ·injection h with _ h;injection h with h _;omega
set_option maxHeartbeats 4000000 in
set_option maxRecDepth 100000 in
theorem tcount_bad{w:World}{g:Nat}{a b c d k:Int}{r:Rw}{p:Nat}(h:Rt w g a b c d k r p)(hl:r.2.1≤1000000000){n m e:Nat}(hr:rcl (r.2.2.2.drop p)=(n,m,e))(he:e≠0) :
  Calls Tryz.prog 138 #[.pointer (some ⟨g,0,none⟩)] w fun x w'=>x=pan ((p:Int)+(m:Int)) e∧∃q,w'=w.drewN q:=by
 obtain⟨A,L,cp,l⟩:=r
 have RV:=rcv_in h.le hr
 have HP:∀q,Pc (w.drewN q) (A,L,cp,l):=fun q=>⟨h.pc.len,h.pc.row,h.pc.lt,h.pc.cap,h.pc.nil⟩
 have CR:=Lib.hid (show ∀q,Calls Tryz.prog 143 #[.slice A L cp,.int .i64 (p:Int)] (w.drewN q) fun x w'=>x=.returned (.tuple #[.int .u64 (n:Int),.int .i64 ((p:Int)+(m:Int)),.int .i64 (e:Int)])∧w'=w.drewN q from fun q=>by
  rw[←RV];refine(ReadCount_any (HP q) (p:Int) hl).mono ?_;rintro x w' ⟨h1,h2⟩;exact⟨h1,h2.symm⟩)
 have c5:w.cell? ⟨g,5,none⟩=some (.slice A L cp):=h.row.cell_ rfl
 have c6:w.cell? ⟨g,6,none⟩=some (.int .i64 (p:Int)):=h.row.cell_ rfl
 have e0:¬(e:Int)=0:=by omega
 clear h hr he RV HP
 go_enter Tryz.func138,Tryz.ntmps138
 go_wp2_with fail
 go_quiet ((go_at_call 143;exact Calls.quiet_of_same (CR.out _)))
 go_wp2_with fail
 exact⟨rfl,rfl,_,rfl⟩
set_option maxHeartbeats 4000000 in
set_option maxRecDepth 100000 in
theorem tcount_ok{w:World}{g:Nat}{a b c d k:Int}{r:Rw}{p:Nat}(h:Rt w g a b c d k r p)(hl:r.2.1≤1000000000){n m:Nat}(hr:rcl (r.2.2.2.drop p)=(n,m,0)) :
  Calls Tryz.prog 138 #[.pointer (some ⟨g,0,none⟩)] w fun x w'=>x=.returned (.int .u64 (n:Int))∧Rt w' g a b c d k r (p+m)∧∃q,w'=(w.drewN q).setCell ⟨g,6,none⟩ (.int .i64 ((p+m:Nat):Int)):=by
 obtain⟨A,L,cp,l⟩:=r
 have RV:=rcv_in h.le hr
 have HP:∀q,Pc (w.drewN q) (A,L,cp,l):=fun q=>⟨h.pc.len,h.pc.row,h.pc.lt,h.pc.cap,h.pc.nil⟩
 have CR:=Lib.hid (show ∀q,Calls Tryz.prog 143 #[.slice A L cp,.int .i64 (p:Int)] (w.drewN q) fun x w'=>x=.returned (.tuple #[.int .u64 (n:Int),.int .i64 ((p:Int)+(m:Int)),.int .i64 ((0:Nat):Int)])∧w'=w.drewN q from fun q=>by
  rw[←RV];refine(ReadCount_any (HP q) (p:Int) hl).mono ?_;rintro x w' ⟨h1,h2⟩;exact⟨h1,h2.symm⟩)
 have c5:w.cell? ⟨g,5,none⟩=some (.slice A L cp):=h.row.cell_ rfl
 have c6:w.cell? ⟨g,6,none⟩=some (.int .i64 (p:Int)):=h.row.cell_ rfl
 have f6:=h.row.frozen 6
 have H:=Lib.hid h
 have PM:=Lib.hid (rcl_le hr)
 clear h hr RV HP
 go_enter Tryz.func138,Tryz.ntmps138
 go_wp2_with fail
 go_quiet ((go_at_call 143;exact Calls.quiet_of_same (CR.out _)))
 go_wp2_with fail
 go_ret
 have hrow:Bl (w.drewN nq) g 185 _:=H.out.row
 have hsl:Sl (w.drewN nq) A l.length (bl l):=H.out.pc.row
 have hG:=only_set (World.grownBy.refl (w.drewN nq) (some g)) (p:=⟨g,6,none⟩) (Or.inl rfl) (.int .i64 ((p:Int)+(m:Int)))
 refine⟨rfl,⟨?_,⟨H.out.pc.len,hsl.only hG (fun ad e h2=>H.out.apart ad e (Option.some.inj h2).symm),H.out.pc.lt,H.out.pc.cap,H.out.pc.nil⟩,?_,H.out.apart⟩,_,rfl⟩
 ·exact hrow.set_ 6 _
 ·have h1:m≤(l.drop p).length:=PM.out
  have h2:p≤l.length:=H.out.le
  rw[List.length_drop] at h1
  show p+m≤l.length
  omega
theorem rt_pc{w:World}{g o:Nat}{r:Rw}(h:Pc w r)(ha:∀ad,r.1=some ad→ad.block≠g)(v:Value):Pc (w.setCell ⟨g,o,none⟩ v) r :=
 ⟨h.len,h.row.only (only_set (World.grownBy.refl w (some g)) (p:=⟨g,o,none⟩) (Or.inl rfl) v) (fun ad e h2=>ha ad e (Option.some.inj h2).symm),h.lt,h.cap,h.nil⟩
theorem tbegin_ok{w:World}{g:Nat}{a b c d k:Int}{r:Rw}{p:Nat}(h:Rt w g a b c d k r p)(at_ deep:Int)(hd:¬b < deep)(hk:¬k=c)(k0:0≤k)(k1:k≤1000000) :
  Calls Tryz.prog 133 #[.pointer (some ⟨g,0,none⟩),.int .i64 at_,.int .i64 deep] w fun e w'=>e=.returned (.tuple #[])∧Rt w' g a b c d (k+1) r p∧∃q,w'=(w.drewN q).setCell ⟨g,4,none⟩ (.int .i64 (k+1)):=by
 refine(begin_ok (h.row.cell_ rfl) (h.row.cell_ rfl) (h.row.cell_ rfl) (h.row.frozen 4) at_ deep hd hk k0 k1).mono ?_
 rintro e w' ⟨rfl,q,rfl⟩
 have h2:Bl (w.drewN q) g 185 _:=h.row
 have h3:Pc (w.drewN q) r:=⟨h.pc.len,h.pc.row,h.pc.lt,h.pc.cap,h.pc.nil⟩
 exact⟨rfl,⟨h2.set_ 4 _,rt_pc h3 h.apart _,h.le,h.apart⟩,_,rfl⟩
theorem tbegin_deep{w:World}{g:Nat}{a b c d k:Int}{r:Rw}{p:Nat}(h:Rt w g a b c d k r p)(at_ deep:Int)(hd:b < deep) :
  Calls Tryz.prog 133 #[.pointer (some ⟨g,0,none⟩),.int .i64 at_,.int .i64 deep] w fun e w'=>e=pan at_ 23∧w=w' :=
 begin_deep (h.row.cell_ rfl) at_ deep hd
theorem tbegin_many{w:World}{g:Nat}{a b c d:Int}{r:Rw}{p:Nat}(h:Rt w g a b c d c r p)(at_ deep:Int)(hd:¬b < deep) :
  Calls Tryz.prog 133 #[.pointer (some ⟨g,0,none⟩),.int .i64 at_,.int .i64 deep] w fun e w'=>e=pan at_ 24∧∃q,w'=w.drewN q :=
 begin_many (h.row.cell_ rfl) (h.row.cell_ rfl) (h.row.cell_ rfl) at_ deep hd
theorem thold_any{w:World}{g:Nat}{a b c d k:Int}{r:Rw}{p:Nat}(h:Rt w g a b c d k r p)(d0:0≤d)(d1:d≤9223372036854775807)(at_:Int)(n:Nat) :
  Calls Tryz.prog 135 #[.pointer (some ⟨g,0,none⟩),.int .i64 at_,.int .u64 (n:Int)] w fun e w'=>e=(if d < (n:Int) then pan at_ 2 else .returned (.tuple #[]))∧w=w' :=
 hold_any (h.row.cell_ rfl) d0 d1 at_ n
end Go.Proofs.YteblmphohhbgcaaGreat.Wr
namespace Go.Proofs.YteblmphohhbgcaaGreat.Wr
open Go.RowKit Go.Proofs.YteblmphohhbgcaaGreat.Gn Go.Proofs.YteblmphohhbgcaaGreat.Fd Go.Deep
theorem add_block(ad:Addr)(k:Nat):(ad.add k).block=ad.block:=by unfold Addr.add;split <;> rfl
theorem pc_take{w:World}{A:Option Addr}{n c:Nat}{l:List Nat}(h:Pc w (A,n,c,l)){k:Nat}(hk:k≤n):Pc w (A,k,c,l.take k):=by
 have hn:n=l.length:=h.len
 have hr:Sl w A l.length (bl l):=h.row
 have h1:=hr.take_ k (by omega)
 rw[bl_take] at h1
 have hcap:l.length≤c:=h.cap
 refine⟨by simp;omega,?_,fun x hx=>h.lt x (List.mem_of_mem_take hx),by simp;omega,h.nil⟩
 have e:(l.take k).length=k:=by simp;omega
 show Sl w A (l.take k).length _
 rw[e];exact h1
theorem tcount_good{w:World}{g:Nat}{a b c d k:Int}{r:Rw}{p:Nat}(h:Rt w g a b c d k r p)(hl:r.2.1≤1000000000){n m:Nat}(hr:rcl (r.2.2.2.drop p)=(n,m,0)) :
  Calls Tryz.prog 138 #[.pointer (some ⟨g,0,none⟩)] w fun x w'=>x=.returned (.int .u64 (n:Int))∧Rt w' g a b c d k r (p+m)∧w.grownBy w' (some g):=by
 refine(tcount_ok h hl hr).mono ?_
 rintro x w' ⟨rfl,h1,q,rfl⟩
 exact⟨rfl,h1,only_set (only_drewN (World.grownBy.refl w (some g)) q) (p:=⟨g,6,none⟩) (Or.inl rfl) _⟩
set_option maxHeartbeats 4000000 in
set_option maxRecDepth 100000 in
theorem tpiece_bad{w:World}{g:Nat}{a b c d k:Int}{r:Rw}{p:Nat}(h:Rt w g a b c d k r p)(hl:r.2.1≤1000000000){n m e:Nat}(hr:rcl (r.2.2.2.drop p)=(n,m,e))(he:e≠0) :
  Calls Tryz.prog 139 #[.pointer (some ⟨g,0,none⟩)] w fun x w'=>x=pan ((p:Int)+(m:Int)) e∧w.grownBy w' (some g):=by
 have CT:=Lib.hid (tcount_bad h hl hr he)
 have c6:w.cell? ⟨g,6,none⟩=some (.int .i64 (p:Int)):=h.row.cell_ rfl
 clear h hr he
 go_enter Tryz.func139,Tryz.ntmps139
 go_wp2_with (go_at_call 138;(refine CT.out.mono ?_);rintro e w1 ⟨rfl,q,rfl⟩)
 exact⟨rfl,rfl,only_drewN (World.grownBy.refl w (some g)) q⟩
set_option maxHeartbeats 4000000 in
set_option maxRecDepth 100000 in
theorem tpiece_long{w:World}{g:Nat}{a b c d k:Int}{r:Rw}{p:Nat}(h:Rt w g a b c d k r p)(hl:r.2.1≤1000000000){n m:Nat}(hr:rcl (r.2.2.2.drop p)=(n,m,0))(d0:0≤d)(d1:d≤9223372036854775807)(hn:d < (n:Int)) :
  Calls Tryz.prog 139 #[.pointer (some ⟨g,0,none⟩)] w fun x w'=>x=pan (p:Int) 2∧w.grownBy w' (some g):=by
 have CT:=Lib.hid (tcount_good h hl hr)
 have c6:w.cell? ⟨g,6,none⟩=some (.int .i64 (p:Int)):=h.row.cell_ rfl
 have TH:=Lib.hid (fun(u:World) (hu:Rt u g a b c d k r (p+m))=>thold_any hu d0 d1 (p:Int) n)
 have DN:=Lib.hid hn
 clear h hr hn d0 d1
 go_enter Tryz.func139,Tryz.ntmps139
 go_wp2_with (first
  |(go_at_call 138;(refine CT.out.mono ?_);rintro e w1 ⟨rfl,h1,h2⟩;have R1:=Lib.hid h1;have G1:=Lib.hid h2;clear h1 h2)
  |(go_at_call 135;(refine(TH.out _ R1.out).mono ?_);rintro e w2 ⟨h1,rfl⟩;rw[if_pos DN.out] at h1;subst h1))
 exact⟨rfl,rfl,G1.out⟩
set_option maxHeartbeats 4000000 in
set_option maxRecDepth 100000 in
theorem tpiece_short{w:World}{g:Nat}{a b c d k:Int}{r:Rw}{p:Nat}(h:Rt w g a b c d k r p)(hl:r.2.1≤1000000000){n m:Nat}(hr:rcl (r.2.2.2.drop p)=(n,m,0))(d0:0≤d)(d1:d≤9223372036854775807)(hn:¬d < (n:Int))(hs:r.2.2.2.length < p+m+n) :
  Calls Tryz.prog 139 #[.pointer (some ⟨g,0,none⟩)] w fun x w'=>x=pan ((p+m:Nat):Int) 20∧w.grownBy w' (some g):=by
 have CT:=Lib.hid (tcount_good h hl hr)
 have c6:w.cell? ⟨g,6,none⟩=some (.int .i64 (p:Int)):=h.row.cell_ rfl
 have TH:=Lib.hid (show ∀u,Rt u g a b c d k r (p+m)→Calls Tryz.prog 135 #[.pointer (some ⟨g,0,none⟩),.int .i64 (p:Int),.int .u64 (n:Int)] u fun e w'=>e=.returned (.tuple #[])∧u=w' from fun u hu=>(thold_any hu d0 d1 (p:Int) n).mono fun e w' ⟨h1,h2⟩=>⟨by rw[if_neg hn] at h1;exact h1,h2⟩)
 obtain⟨A,L,cp,l⟩:=r
 have hL:L=l.length:=h.pc.len
 have hcap:l.length≤cp:=h.pc.cap
 obtain⟨P,hP⟩:∃P,p+m=P:=⟨_,rfl⟩
 have hs:l.length < p+m+n:=hs
 have PL:P≤L:=by have h1:=rcl_le hr;have h2:p≤l.length:=h.le;have h3:m≤(l.drop p).length:=h1;rw[List.length_drop] at h3;omega
 have PC:L≤cp:=by omega
 rw[hP] at CT TH hs ⊢
 have q0:(L:Int) - (P:Int) < (n:Int):=by omega
 obtain⟨K,hK⟩:∃K,L - P=K:=⟨_,rfl⟩
 have q1:(K:Int) < (n:Int):=by omega
 clear h hr hn d0 d1 hs hL hcap hP q0
 go_enter Tryz.func139,Tryz.ntmps139
 go_wp2_with (first
  |(go_at_call 138;(refine CT.out.mono ?_);rintro e w1 ⟨rfl,h1,h2⟩;have R1:=Lib.hid h1;have G1:=Lib.hid h2;clear h1 h2)
  |(go_at_call 135;(refine(TH.out _ R1.out).mono ?_);rintro e w2 ⟨rfl,rfl⟩;have z5:w1.cell? ⟨g,5,none⟩=some (.slice A L cp):=R1.out.row.cell_ rfl;have z6:w1.cell? ⟨g,6,none⟩=some (.int .i64 (P:Int)):=R1.out.row.cell_ rfl))
 go_quiet (fail)
 go_wp2_with fail
 all_goals exact⟨rfl,rfl,only_drewN G1.out _⟩
set_option maxHeartbeats 4000000 in
set_option maxRecDepth 100000 in
theorem tpiece_ok{w:World}{g:Nat}{a b c d k:Int}{r:Rw}{p:Nat}(h:Rt w g a b c d k r p)(hl:r.2.1≤1000000000){n m:Nat}(hr:rcl (r.2.2.2.drop p)=(n,m,0))(d0:0≤d)(d1:d≤9223372036854775807)(hn:¬d < (n:Int))(hs:p+m+n≤r.2.2.2.length) :
  Calls Tryz.prog 139 #[.pointer (some ⟨g,0,none⟩)] w fun x w'=>∃B c',x=.returned (.slice B n c')∧Pc w' (B,n,c',(r.2.2.2.drop (p+m)).take n)∧Rt w' g a b c d k r (p+m+n)∧w.grownBy w' (some g):=by
 have CT:=Lib.hid (tcount_good h hl hr)
 have c6:w.cell? ⟨g,6,none⟩=some (.int .i64 (p:Int)):=h.row.cell_ rfl
 have TH:=Lib.hid (show ∀u,Rt u g a b c d k r (p+m)→Calls Tryz.prog 135 #[.pointer (some ⟨g,0,none⟩),.int .i64 (p:Int),.int .u64 (n:Int)] u fun e w'=>e=.returned (.tuple #[])∧u=w' from fun u hu=>(thold_any hu d0 d1 (p:Int) n).mono fun e w' ⟨h1,h2⟩=>⟨by rw[if_neg hn] at h1;exact h1,h2⟩)
 obtain⟨A,L,cp,l⟩:=r
 have hL:L=l.length:=h.pc.len
 have hcap:l.length≤cp:=h.pc.cap
 obtain⟨P,hP⟩:∃P,p+m=P:=⟨_,rfl⟩
 have hs:p+m+n≤l.length:=hs
 have PL:P≤L:=by have h1:=rcl_le hr;have h2:p≤l.length:=h.le;have h3:m≤(l.drop p).length:=h1;rw[List.length_drop] at h3;omega
 have PC:L≤cp:=by omega
 rw[hP] at CT TH hs ⊢
 obtain⟨K,hK⟩:∃K,L - P=K:=⟨_,rfl⟩
 have q1:¬(K:Int) < (n:Int):=by omega
 have q2:(n:Int)≤(K:Int):=by omega
 have nn:n≤K:=by omega
 obtain⟨B,hB⟩:∃B,(if cp=P then A else A.map (fun x=>x.add P))=B:=⟨_,rfl⟩
 obtain⟨D,hD⟩:∃D,cp - P=D:=⟨_,rfl⟩
 have KD:K≤D:=by omega
 have HX:=Lib.hid (show P+n≤l.length from hs)
 clear h hr hn d0 d1 hs hL hcap hP
 go_enter Tryz.func139,Tryz.ntmps139
 go_wp2_with (first
  |(go_at_call 138;(refine CT.out.mono ?_);rintro e w1 ⟨rfl,h1,h2⟩;have R1:=Lib.hid h1;have G1:=Lib.hid h2;clear h1 h2)
  |(go_at_call 135;(refine(TH.out _ R1.out).mono ?_);rintro e w2 ⟨rfl,rfl⟩;have z5:w1.cell? ⟨g,5,none⟩=some (.slice A L cp):=R1.out.row.cell_ rfl;have y6:=R1.out.row.frozen 6;have z6:w1.cell? ⟨g,6,none⟩=some (.int .i64 (P:Int)):=R1.out.row.cell_ rfl))
 go_quiet (fail)
 go_wp2_with fail
 all_goals
  go_ret
  have hrow:Bl (w1.drewN nq) g 185 _:=R1.out.row
  have hp0:=pc_take (pc_drop R1.out.pc (k:=P) PL) (k:=n) (by omega)
  rw[hB,hD] at hp0
  have hp1:Pc (w1.drewN nq) (B,n,D,(l.drop P).take n):=⟨hp0.len,hp0.row,hp0.lt,hp0.cap,hp0.nil⟩
  have hp2:Pc (w1.drewN nq) (A,L,cp,l):=⟨R1.out.pc.len,R1.out.pc.row,R1.out.pc.lt,R1.out.pc.cap,R1.out.pc.nil⟩
  have hap:∀ad,B=some ad→ad.block≠g:=by
   intro ad e
   rw[←hB] at e
   split at e
   ·exact R1.out.apart ad e
   ·obtain⟨x,hx,rfl⟩:=Option.map_eq_some_iff.1 e
    rw[add_block];exact R1.out.apart x hx
  refine⟨B,D,rfl,rt_pc hp1 hap _,⟨hrow.set_ 6 _,rt_pc hp2 R1.out.apart _,HX.out,R1.out.apart⟩,only_set (only_drewN G1.out nq) (p:=⟨g,6,none⟩) (Or.inl rfl) _⟩
end Go.Proofs.YteblmphohhbgcaaGreat.Wr
namespace Go.Proofs.YteblmphohhbgcaaGreat.Wr
open Go.RowKit Go.Proofs.YteblmphohhbgcaaGreat.Gn Go.Proofs.YteblmphohhbgcaaGreat.Fd Go.Deep
inductive Tv where
 |mk (kind:Int) (num:Nat) (bytes:Rw) (A:Option Addr) (c:Nat) (kids:List Tv)
def Tv.row:Tv→List Value
 |.mk k n r A c ks=>[.int .i64 k,.int .u64 n,.slice r.1 r.2.1 r.2.2.1,.slice A ks.length c]
abbrev Tv.val(v:Tv):Value:=.agg v.row.toArray
def flat(ks:List Tv):List Value:=ks.flatMap Tv.row
theorem row_len(t:Tv):t.row.length=4:=by cases t;rfl
theorem flat_len(ks:List Tv):(flat ks).length=4*ks.length:=by
 induction ks with
 |nil=>rfl
 |cons t ks ih=>unfold flat at ih ⊢;rw[List.flatMap_cons,List.length_append,ih,row_len,List.length_cons];omega
theorem flat_get:∀(ks:List Tv) (i j:Nat) (t:Tv) (v:Value),ks[i]?=some t→t.row[j]?=some v→(flat ks)[4*i+j]?=some v:=by
 intro ks
 induction ks with
 |nil=>intro i j t v h;simp at h
 |cons a ks ih =>
  intro i j t v h hv
  have hj:j < 4:=by have:=(List.getElem?_eq_some_iff.1 hv).1;rwa [row_len] at this
  unfold flat at ih ⊢
  rw[List.flatMap_cons]
  cases i with
  |zero =>
   rw[List.getElem?_cons_zero,Option.some.injEq] at h
   subst h
   rw[List.getElem?_append_left (by rw[row_len];omega),Nat.mul_zero,Nat.zero_add];exact hv
  |succ i =>
   rw[List.getElem?_cons_succ] at h
   rw[List.getElem?_append_right (by rw[row_len];omega),row_len,show 4*(i+1)+j - 4=4*i+j by omega]
   exact ih i j t v h hv
inductive Ok (w:World):Tv→Prop
 |mk {k:Int} {n:Nat} {r:Rw} {A:Option Addr} {c:Nat} {ks:List Tv} (hn:n < 18446744073709551616) (hr:Pc w r) (hs:Sl w A (4*ks.length) (flat ks)) (hm:ks.length≤1000000) (hc:ks.length≤c) (h0:A=none→c=0) (hk:∀t∈ks,Ok w t):Ok w (.mk k n r A c ks)
theorem Ok.keep{w:World}:∀ {v:Tv},Ok w v→∀ {w':World},Below w.heap.size w w'→Ok w' v:=by
 intro v h
 induction h with
 |mk hn hr hs hm hc h0 hk ih=>intro w' hb;exact .mk hn (hr.below hb) (hs.below hb) hm hc h0 fun t ht=>ih t ht hb
mutual
def right:Tv→Bool
 |.mk k n r _ _ ks=>if k=1 then decide (r.2.1=0) && decide (ks.length=0) else if k=2 then decide (n=0) && decide (ks.length=0) else if k=3 then decide (n=0) && decide (r.2.1=0) && rights ks else false
def rights:List Tv→Bool
 | []=>true
 |t :: ts=>right t && rights ts
end
theorem ad_add(ad:Addr)(i j:Nat):(ad.add i).add j=ad.add (i+j):=by
 unfold Addr.add
 by_cases h1:i=0
 ·subst h1;simp
 ·by_cases h2:j=0
  ·subst h2;simp
  ·simp[h1,h2,Nat.add_assoc]
theorem ad_zero(ad:Addr):ad.add 0=ad:=by unfold Addr.add;simp
theorem ad_pos(ad:Addr){j:Nat}(h:j≠0):ad.add j=⟨ad.block,ad.off+j,none⟩:=by unfold Addr.add;simp[h]
theorem size34:(Tryz.prog.info? 75).map (·.size)=some 4:=by kernel_rfl
def RiQ(b:Bool)(w:World)(e:Ending)(w':World):Prop:=e=.returned (.bool b)∧Below w.heap.size w w'
set_option maxHeartbeats 4000000 in
set_option maxRecDepth 100000 in
theorem allRight_any{ks:List Tv}{A:Option Addr}{c:Nat}{w:World}(hs:Sl w A (4*ks.length) (flat ks))(hm:ks.length≤1000000)(ih:∀t∈ks,∀w',Below w.heap.size w w'→Calls Tryz.prog 118 #[t.val] w' (RiQ (right t) w')) :
  Calls Tryz.prog 132 #[.slice A ks.length c] w (RiQ (rights ks) w):=by
 obtain⟨m,hm'⟩:∃m,ks.length=m:=⟨_,rfl⟩
 have HM:=Lib.hid hm'
 have IH:=Lib.hid ih
 have HS:=Lib.hid hs
 rw[hm'] at hm ⊢
 clear ih hs hm'
 go_enter Tryz.func132,Tryz.ntmps132
 go_wp2_with fail
 go_loopw [7] (fun i wr=>∃k:Nat,k≤m∧i=.int .i64 (k:Int)∧rights ks=rights (ks.drop k)∧Below w.heap.size w wr) (fun i _=>m - (intOf i).toNat)
 case atStart=>exact⟨0,Nat.zero_le _,rfl,rfl,Below.refl _ _⟩
 case round =>
  obtain⟨k,hk,rfl,hd,hb⟩:=hrel
  by_cases hlt:k < m
  ·obtain⟨t,ht⟩:∃t,ks[k]?=some t:=⟨_,List.getElem?_eq_getElem (by have:=HM.out;omega)⟩
   have q0:(k:Int) < (m:Int):=by omega
   obtain⟨ad,rfl,hcl⟩:∃ad,A=some ad∧∀j v,t.row[j]?=some v→wr.cell? ((ad.add (4*k)).add j)=some v:=by
    have h0:t.row[0]?=some t.row[0]!:=by cases t;rfl
    obtain⟨ad,e,-⟩:=HS.out.2 _ _ (flat_get ks k 0 t _ ht h0)
    refine⟨ad,e,fun j v hv=>?_⟩
    obtain⟨ad',e',hc⟩:=HS.out.2 _ _ (flat_get ks k j t v ht hv)
    obtain rfl:ad=ad':=by rw[e] at e';injection e'
    rw[ad_add]
    exact(hb.cell (cell_lt hc)).trans hc
   obtain⟨ae,hae⟩:∃ae,ad.add (k*4)=ae:=⟨_,rfl⟩
   rw[Nat.mul_comm,hae] at hcl
   cases t with
   |mk K N r B d us =>
   have c0:wr.cell? ae=some (.int .i64 K):=by have:=hcl 0 _ rfl;rwa [ad_zero] at this
   have c1:wr.cell? ⟨ae.block,ae.off+1,none⟩=some (.int .u64 N):=by have:=hcl 1 _ rfl;rwa [ad_pos _ (by decide)] at this
   have c2:wr.cell? ⟨ae.block,ae.off+2,none⟩=some (.slice r.1 r.2.1 r.2.2.1):=by have:=hcl 2 _ rfl;rwa [ad_pos _ (by decide)] at this
   have c3:wr.cell? ⟨ae.block,ae.off+3,none⟩=some (.slice B us.length d):=by have:=hcl 3 _ rfl;rwa [ad_pos _ (by decide)] at this
   have HD:=Lib.hid hd
   clear hcl
   have B1:=Lib.hid (hb.alloc hb.size (.cells #[.int .i64 K,.int .u64 (N:Int),.slice r.1 r.2.1 r.2.2.1,.slice B us.length d] 75))
   have CR:=Lib.hid (IH.out _ (List.mem_of_getElem? ht) _ B1.out)
   have SP:=Lib.hid (show rights (ks.drop k)=(right (.mk K N r B d us) && rights (ks.drop (k+1))) from by
    rw[List.drop_eq_getElem_cons (by have:=HM.out;omega),show ks[k]'(by have:=HM.out;omega)=Tv.mk K N r B d us from by
     have:=List.getElem?_eq_getElem (l:=ks) (i:=k) (by have:=HM.out;omega)
     rw[ht] at this;injection this with this;exact this.symm]
    rfl)
   clear hd hb ht
   cases hrt:right (.mk K N r B d us) with
   |true =>
    rw[hrt] at CR SP
    go_wp2_with (go_at_call 118;(refine CR.out.mono ?_);rintro e w1 ⟨rfl,hb1⟩;have B2:=Lib.hid (B1.out.trans (hb1.mono B1.out.size));clear hb1)
    exact⟨⟨k+1,by omega,by go_num,by rw[HD.out,SP.out,Bool.true_and],B2.out⟩,by simp[intOf];omega⟩
   |false =>
    rw[hrt] at CR SP
    go_wp2_with (go_at_call 118;(refine CR.out.mono ?_);rintro e w1 ⟨rfl,hb1⟩;have B2:=Lib.hid (B1.out.trans (hb1.mono B1.out.size));clear hb1)
    go_ret
    exact⟨by rw[HD.out,SP.out,Bool.false_and];rfl,B2.out⟩
  ·obtain rfl:k=m:=by omega
   have q0:¬(k:Int) < (k:Int):=by omega
   have e:rights ks=true:=by rw[hd,List.drop_eq_nil_of_le (by have:=HM.out;omega)];rfl
   go_wp2_with fail
   go_ret
   exact⟨by rw[←hd,e];rfl,hb⟩
set_option maxHeartbeats 4000000 in
set_option maxRecDepth 100000 in
theorem Right_any{w:World}{v:Tv}(h:Ok w v):∀w',Below w.heap.size w w'→Calls Tryz.prog 118 #[v.val] w' (RiQ (right v) w'):=by
 induction h with
 | @mk K N r A c ks hn hr hs hm hc h0 hk ih =>
 intro u hb
 have HB:=Lib.hid ((Below.refl u.heap.size u).alloc (Nat.le_refl _) (.cells #[.int .i64 K,.int .u64 (N:Int),.slice r.1 r.2.1 r.2.2.1,.slice A ks.length c] 75))
 have CA:=Lib.hid (fun(u':World) (hb':Below u.heap.size u u')=>allRight_any (c:=c) (hs.below (hb.trans (hb'.mono hb.size))) hm fun t ht w3 h3=>ih t ht w3 ((hb.trans (hb'.mono hb.size)).trans (h3.mono (hb.trans (hb'.mono hb.size)).size)))
 show Calls _ _ #[.agg #[.int .i64 K,.int .u64 (N:Int),.slice r.1 r.2.1 r.2.2.1,.slice A ks.length c]] u _
 have R1:right (.mk K N r A c ks)=if K=1 then decide (r.2.1=0) && decide (ks.length=0) else if K=2 then decide (N=0) && decide (ks.length=0) else if K=3 then decide (N=0) && decide (r.2.1=0) && rights ks else false:=by rw[right]
 clear ih hk hs hr h0
 obtain⟨rA,rn,rc,rl⟩:=r
 obtain⟨L,hL⟩:∃L,rn=L:=⟨_,rfl⟩
 obtain⟨M,hM⟩:∃M,ks.length=M:=⟨_,rfl⟩
 simp only[hL,hM] at R1 HB ⊢
 rw[hM] at CA
 clear hL hM hc hm
 by_cases k1:K=1
 ·rw[R1,if_pos k1]
  subst k1
  clear R1 CA
  by_cases b0:L=0
  ·subst b0
   go_enter Tryz.func118,Tryz.ntmps118
   go_wp2_with fail
   go_quiet (fail)
   go_wp2_with fail
   go_ret
   exact⟨ret_bool (by by_cases hM:M=0 <;> simp[hM] <;> omega),below_drewN HB.out _⟩
  ·have b1:0 < (L:Int):=by omega
   rw[decide_eq_false b0,Bool.false_and]
   clear b0
   go_enter Tryz.func118,Tryz.ntmps118
   go_wp2_with fail
   go_quiet (fail)
   go_wp2_with fail
   go_ret
   exact⟨ret_bool (by rfl),below_drewN HB.out _⟩
 by_cases k2:K=2
 ·rw[R1,if_neg k1,if_pos k2]
  subst k2
  clear R1 CA
  by_cases b0:N=0
  ·subst b0
   go_enter Tryz.func118,Tryz.ntmps118
   go_wp2_with fail
   go_quiet (fail)
   go_wp2_with fail
   go_ret
   exact⟨ret_bool (by by_cases hM:M=0 <;> simp[hM] <;> omega),below_drewN HB.out _⟩
  ·have b1:¬(N:Int)=0:=by omega
   rw[decide_eq_false b0,Bool.false_and]
   clear b0
   go_enter Tryz.func118,Tryz.ntmps118
   go_wp2_with fail
   go_quiet (fail)
   go_wp2_with fail
   go_ret
   exact⟨ret_bool (by rfl),below_drewN HB.out _⟩
 by_cases k3:K=3
 ·rw[R1,if_neg k1,if_neg k2,if_pos k3]
  subst k3
  clear R1
  by_cases b0:N=0
  ·subst b0
   by_cases b2:L=0
   ·subst b2
    rw[decide_eq_true rfl,Bool.true_and,Bool.true_and]
    go_enter Tryz.func118,Tryz.ntmps118
    go_wp2_with fail
    go_quiet (fail)
    go_wp2_with (go_at_call 132;(refine(CA.out _ (below_drewN HB.out _)).mono ?_);rintro e w1 ⟨rfl,hb1⟩;have B2:=Lib.hid ((below_drewN HB.out _).trans (hb1.mono (below_drewN HB.out _).size));clear hb1)
    go_ret
    exact⟨rfl,B2.out⟩
   ·have b1:0 < (L:Int):=by omega
    rw[decide_eq_false b2,Bool.and_false,Bool.false_and]
    clear b2 CA
    go_enter Tryz.func118,Tryz.ntmps118
    go_wp2_with fail
    go_quiet (fail)
    go_wp2_with fail
    go_ret
    exact⟨ret_bool (by rfl),below_drewN HB.out _⟩
  ·have b1:¬(N:Int)=0:=by omega
   rw[decide_eq_false b0,Bool.false_and,Bool.false_and]
   clear b0 CA
   go_enter Tryz.func118,Tryz.ntmps118
   go_wp2_with fail
   go_quiet (fail)
   go_wp2_with fail
   go_ret
   exact⟨ret_bool (by rfl),below_drewN HB.out _⟩
 rw[R1,if_neg k1,if_neg k2,if_neg k3]
 clear R1 CA
 go_enter Tryz.func118,Tryz.ntmps118
 go_wp2_with fail
 go_quiet (fail)
 go_wp2_with fail
 go_ret
 exact⟨ret_bool (by rfl),below_drewN HB.out _⟩
end Go.Proofs.YteblmphohhbgcaaGreat.Wr
