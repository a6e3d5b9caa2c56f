/- Joined texts. -/
import Derived.Test.YtdbljpeadehjkaaQrWrRv
set_option linter.unusedVariables false
namespace Go.Proofs.Ytdbljpeadehjkaa.Wr
open Go.RowKit Go.Proofs.Ytdbljpeadehjkaa.Gn Go.Proofs.Ytdbljpeadehjkaa.Fd Go.Deep
structure Di (w:World) (g:Nat) (a b c d k:Int) (r:Rw) (p:Nat) (E B:Int):Prop where
 row:Bl w g 112 #[.slice r.1 r.2.1 r.2.2.1,.int .i64 (p:Int),.int .i64 k,.int .i64 a,.int .i64 b,.int .i64 c,.int .i64 d,.int .i64 E,.int .i64 B]
 pc:Pc w r
 le:p≤r.2.2.2.length
 apart:∀ad,r.1=some ad→ad.block≠g
theorem Di.below{w u:World}{g:Nat}{a b c d k:Int}{r:Rw}{p:Nat}{E B:Int}(h:Di w g a b c d k r p E B)(hb:Below w.heap.size w u):Di u g a b c d k r p E B:=⟨h.row.below' hb,h.pc.below hb,h.le,h.apart⟩
set_option maxHeartbeats 4000000 in
set_option maxRecDepth 100000 in
theorem fail_any{w:World}{g:Nat}{a b c d k:Int}{r:Rw}{p:Nat}(h:Di w g a b c d k r p 0 0)(at_ e:Int)(he:e≠0) :
  Calls Try.prog 66 #[.pointer (some ⟨g,0,none⟩),.int .i64 at_,.int .i64 e] w fun x w'=>x=.returned (.tuple #[])∧Di w' g a b c d k r p e at_∧w.grownBy w' (some g):=by
 have H:=Lib.hid h
 have c7:w.cell? ⟨g,7,none⟩=some (.int .i64 0):=h.row.cell_ rfl
 have c8:w.cell? ⟨g,8,none⟩=some (.int .i64 0):=h.row.cell_ rfl
 have f7:=h.row.frozen 7
 have f8:=h.row.frozen 8
 clear h he
 go_enter Try.func66,Try.ntmps66
 go_wp2_with fail
 first|go_end0|refine bodyPost_ret (results_none rfl _ _ _) rfl ?_
 refine⟨rfl,⟨(H.out.row.set_ 7 _).set_ 8 _,rt_pc (rt_pc H.out.pc H.out.apart _) H.out.apart _,H.out.le,H.out.apart⟩,only_set (only_set (World.grownBy.refl w (some g)) (p:=⟨g,7,none⟩) (Or.inl rfl) _) (p:=⟨g,8,none⟩) (Or.inl rfl) _⟩
set_option maxHeartbeats 4000000 in
set_option maxRecDepth 100000 in
theorem dcount_bad{w:World}{g:Nat}{a b c d k:Int}{r:Rw}{p:Nat}(h:Di w g a b c d k r p 0 0)(hl:r.2.1≤1000000000){n m e:Nat}(hr:rcl (r.2.2.2.drop p)=(n,m,e))(he:e≠0) :
  Calls Try.prog 87 #[.pointer (some ⟨g,0,none⟩)] w fun x w'=>x=.returned (.int .u64 0)∧Di w' g a b c d k r p (e:Int) (p:Int)∧w.grownBy w' (some g):=by
 obtain⟨A,L,cp,l⟩:=r
 have RV:=rcv_in h.le hr
 have HP:∀q,Pc (w.drewN q) (A,L,cp,l):=fun q=>⟨h.pc.len,h.pc.row,h.pc.lt,h.pc.cap,h.pc.nil⟩
 have CR:=Lib.hid (show ∀q,Calls Try.prog 12 #[.slice A L cp,.int .i64 (p:Int)] (w.drewN q) fun x w'=>x=.returned (.tuple #[.int .u64 (n:Int),.int .i64 ((p:Int)+(m:Int)),.int .i64 (e:Int)])∧w'=w.drewN q from fun q=>by
  rw[←RV];refine(RReadCount_any (HP q) (p:Int) hl).mono ?_;rintro x w' ⟨h1,h2⟩;exact⟨h1,h2.symm⟩)
 have CF:=Lib.hid (fun q=>fail_any (h.below (below_drewN (Below.refl _ w) q)) (p:Int) (e:Int) (by omega))
 have c0:w.cell? ⟨g,0,none⟩=some (.slice A L cp):=h.row.cell_ rfl
 have c1:w.cell? ⟨g,1,none⟩=some (.int .i64 (p:Int)):=h.row.cell_ rfl
 have e0:¬(e:Int)=0:=by omega
 clear h hr he RV HP
 go_enter Try.func87,Try.ntmps87
 go_wp2_with fail
 go_quiet ((go_at_call 12;exact Calls.quiet_of_same (CR.out _)))
 go_wp2_with (go_at_call 66;(refine(CF.out _).mono ?_);rintro x w1 ⟨rfl,h1,h2⟩;have D1:=Lib.hid h1;have G1:=Lib.hid h2;clear h1 h2)
 go_ret
 exact⟨rfl,D1.out,only_trans (only_drewN (World.grownBy.refl w (some g)) _) G1.out⟩
set_option maxHeartbeats 4000000 in
set_option maxRecDepth 100000 in
theorem dcount_ok{w:World}{g:Nat}{a b c d k:Int}{r:Rw}{p:Nat}(h:Di w g a b c d k r p 0 0)(hl:r.2.1≤1000000000){n m:Nat}(hr:rcl (r.2.2.2.drop p)=(n,m,0)) :
  Calls Try.prog 87 #[.pointer (some ⟨g,0,none⟩)] w fun x w'=>x=.returned (.int .u64 (n:Int))∧Di w' g a b c d k r (p+m) 0 0∧w.grownBy w' (some g):=by
 obtain⟨A,L,cp,l⟩:=r
 have RV:=rcv_in h.le hr
 have HP:∀q,Pc (w.drewN q) (A,L,cp,l):=fun q=>⟨h.pc.len,h.pc.row,h.pc.lt,h.pc.cap,h.pc.nil⟩
 have CR:=Lib.hid (show ∀q,Calls Try.prog 12 #[.slice A L cp,.int .i64 (p:Int)] (w.drewN q) fun x w'=>x=.returned (.tuple #[.int .u64 (n:Int),.int .i64 ((p:Int)+(m:Int)),.int .i64 ((0:Nat):Int)])∧w'=w.drewN q from fun q=>by
  rw[←RV];refine(RReadCount_any (HP q) (p:Int) hl).mono ?_;rintro x w' ⟨h1,h2⟩;exact⟨h1,h2.symm⟩)
 have c0:w.cell? ⟨g,0,none⟩=some (.slice A L cp):=h.row.cell_ rfl
 have c1:w.cell? ⟨g,1,none⟩=some (.int .i64 (p:Int)):=h.row.cell_ rfl
 have f1:=h.row.frozen 1
 have H:=Lib.hid h
 have PM:=Lib.hid (rcl_le hr)
 clear h hr RV HP
 go_enter Try.func87,Try.ntmps87
 go_wp2_with fail
 go_quiet ((go_at_call 12;exact Calls.quiet_of_same (CR.out _)))
 go_wp2_with fail
 go_ret
 have hrow:Bl (w.drewN nq) g 112 _:=H.out.row
 have hp2:Pc (w.drewN nq) (A,L,cp,l):=⟨H.out.pc.len,H.out.pc.row,H.out.pc.lt,H.out.pc.cap,H.out.pc.nil⟩
 refine⟨rfl,⟨hrow.set_ 1 _,rt_pc hp2 H.out.apart _,?_,H.out.apart⟩,only_set (only_drewN (World.grownBy.refl w (some g)) nq) (p:=⟨g,1,none⟩) (Or.inl rfl) _⟩
 have h1:m≤(l.drop p).length:=PM.out
 have h2:p≤l.length:=H.out.le
 rw[List.length_drop] at h1
 show p+m≤l.length
 omega
end Go.Proofs.Ytdbljpeadehjkaa.Wr
