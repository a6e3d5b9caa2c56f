/- Joined texts. -/
import Derived.Test.YtdbljpeadehjkabQvWrDeepB
import Derived.Test.YtdbljpeadehjkabQvWrPu
set_option linter.unusedVariables false
namespace Go.Proofs.Ytdbljpeadehjkab.Wr
open Go.RowKit Go.Proofs.Ytdbljpeadehjkab.Gn Go.Proofs.Ytdbljpeadehjkab.Fd Go.Deep
set_option maxHeartbeats 4000000 in
set_option maxRecDepth 100000 in
theorem longb_any(A:Option Addr)(n c:Nat)(w:World):Calls Try.prog 13 #[.slice A n c] w fun e w'=>e=.returned (.bool (decide (2000 < (n:Int))))∧w=w':=by
 go_enter Try.func13,Try.ntmps13
 go_wp2_with fail
 go_ret
 exact⟨rfl,rfl⟩
theorem rdw_in{a b c d:Int}{l:List Nat}(c0:0≤c)(d0:0≤d){v:Nd}{p:Nat}{k:Int}(h:rdw a b c d l=.good v p k):(dpn v:Int)≤b∧(ctn v:Int)≤c∧(ean v:Int)≤d∧(l.length:Int)≤a∧1≤dpn v∧1≤ctn v∧1≤l.length:=by
 unfold rdw at h
 split at h
 ·cases h
 ·split at h
  ·cases h
  ·rename_i v2 p2 k2 h2
   have h3:=rdv_in b c d l d0 _ 1 0 0 c0 h2
   have h4:=rdv_good b c d l _ 1 0 0 (Nat.zero_le _) h2
   split at h
   ·cases h
   ·cases h
    have h5:1≤dpn v:=by cases v;rw[dpn];omega
    have h6:1≤ctn v:=by cases v;rw[ctn];omega
    refine⟨by omega,by omega,h3.2.2.2,by omega,h5,h6,by omega⟩
theorem szns_snoc(l:List Nd)(t:Nd):szns (l ++ [t])=szns l+szn t:=by rw[szns_append];simp[szns]
mutual
theorem rdv_sz(b c d:Int)(l:List Nat):∀(f:Nat) (deep:Int) (p:Nat) (k:Int) {v:Nd} {p':Nat} {k':Int},rdv b c d l f deep p k=.good v p' k'→szn v+p≤p'
 |0,deep,p,k,v,p',k',h=>by rw[rdv] at h;cases h
 |f+1,deep,p,k,v,p',k',h=>by
  rw[rdv] at h
  split at h
  ·cases h
  split at h
  ·cases h
  split at h
  ·cases h
  split at h
  ·split at h
   ·cases h;simp only[szn,szns,List.length_nil];omega
   ·cases h
  split at h
  ·split at h
   ·split at h
    ·cases h
    split at h
    ·cases h
    ·cases h
     simp only[szn,szns,List.length_take]
     omega
   ·cases h
  split at h
  ·split at h
   ·split at h
    ·cases h
    ·rename_i vs q k2 h2
     have h3:=rds_sz b c d l f _ _ _ _ _ h2
     cases h
     simp only[szns] at h3
     simp only[szn,List.length_nil]
     omega
   ·cases h
  ·cases h
theorem rds_sz(b c d:Int)(l:List Nat):∀(f n:Nat) (deep:Int) (p:Nat) (k:Int) (acc:List Nd) {v:List Nd} {p':Nat} {k':Int},rds b c d l f n deep p k acc=.good v p' k'→szns v+p≤p'+szns acc
 |0,n,deep,p,k,acc,v,p',k',h=>by rw[rds] at h;cases h
 |f+1,n,deep,p,k,acc,v,p',k',h=>by
  rw[rds] at h
  split at h
  ·cases h;omega
  ·split at h
   ·cases h
   ·rename_i v2 q k2 h2
    have h3:=rdv_sz b c d l f _ _ _ h2
    have h4:=rds_sz b c d l f _ _ _ _ _ h
    rw[szns_snoc] at h4
    omega
end
theorem rdw_sz{a b c d:Int}{l:List Nat}{v:Nd}{p:Nat}{k:Int}(h:rdw a b c d l=.good v p k):szn v≤l.length:=by
 unfold rdw at h
 split at h
 ·cases h
 ·split at h
  ·cases h
  ·rename_i v2 p2 k2 h2
   have h3:=rdv_sz b c d l _ 1 0 0 h2
   have h4:=rdv_good b c d l _ 1 0 0 (Nat.zero_le _) h2
   split at h
   ·cases h
   ·cases h;omega
theorem rdw_bad{a b c d:Int}{l:List Nat}{p e:Nat}(h:rdw a b c d l=.bad p e):e≠0:=by
 unfold rdw at h
 split at h
 ·cases h;decide
 ·split at h
  ·rename_i q en h2;have h3:=rdv_bad b c d l _ 1 0 0 h2;cases h;exact h3
  ·split at h
   ·cases h;decide
   ·cases h
set_option maxHeartbeats 4000000 in
set_option maxRecDepth 100000 in
theorem walk_wireWithin{w:World}(A:Option Addr)(m cap:Nat)(l:List Nat)(hl:BL w A m cap l)(hin:∀ad,A=some ad→ad.block < w.heap.size)(a b c d:Int)(wd:(Lit.int .i64 d).wf) :
  Calls Try.prog 5 #[.slice A m cap,.agg #[.int .i64 a,.int .i64 b,.int .i64 c,.int .i64 d]] w fun e w'=>e=.returned (.bool true)∧Below w.heap.size w w':=by
 have hd:=(wf_i64 wd).2
 have HP:=Lib.hid (bl_pc hl)
 have KN:=Lib.hid known_any
 have LGf:=Lib.hid (fun u=>longb_any A m cap u)
 have B0:=Lib.hid (below_one w (.cells #[.int .i64 a,.int .i64 b,.int .i64 c,.int .i64 d] 39))
 have N0:=Lib.hid (Bl.new_ w 39 #[.int .i64 a,.int .i64 b,.int .i64 c,.int .i64 d])
 have HL:=Lib.hid (show m=l.length from(bl_pc hl).len)
 have OW:=Lib.hid (fun u=>own_lim a b c d u)
 clear wd hl
 by_cases h9:2000 < (m:Int)
 ·rw[decide_eq_true h9] at LGf
  clear h9 HP hd
  go_enter Try.func5,Try.ntmps5
  go_wp2_with (first|(go_at_call 13;(refine(LGf.out _).mono ?_);rintro e w1 ⟨rfl,rfl⟩)|(go_at_call 8;(refine(KN.out _).mono ?_);rintro e w1 ⟨rfl,hb⟩;have HB:=Lib.hid hb;clear hb))
  go_ret
  exact⟨rfl,B0.out.trans (HB.out.mono B0.out.size)⟩
 rw[decide_eq_false h9] at LGf
 have RD:=Lib.hid (fun u (hu:Below w.heap.size w u)=>Read_any (HP.out.below hu) a b c d hd (by show m≤900000;omega) (fun ad e=>Nat.lt_of_lt_of_le (hin ad e) hu.size))
 obtain⟨R,hR⟩:∃R,rdw (max a 0) (max b 0) (max c 0) (max d 0) l=R:=⟨_,rfl⟩
 have HR:=Lib.hid hR
 have m9:m≤2000:=by omega
 clear h9 hd hin
 cases R with
 |bad q en =>
  have e0:=rdw_bad hR
  have e1:¬(en:Int)=0:=by omega
  have CX:=Lib.hid (fun u (hu:Below w.heap.size w u)=>show Calls _ _ #[.slice A m cap,lim a b c d] u (fun e w'=>Below u.heap.size u w'∧e=.returned (.tuple #[.agg #[.int .i64 0,.int .u64 0,.slice none 0 0,.slice none 0 0],.int .i64 (q:Int),.int .i64 (en:Int)])) from by
   have h:=RD.out u hu
   rw[show((A,m,cap,l):Rw).2.2.2=l from rfl,hR] at h;exact h)
  clear RD hR e0
  go_enter Try.func5,Try.ntmps5
  go_wp2_with (first
   |(go_at_call 13;(refine(LGf.out _).mono ?_);rintro e w1 ⟨rfl,rfl⟩)
   |(go_at_call 15;(refine(OW.out _).mono ?_);rintro e w1 ⟨rfl,hb1⟩;have B1:=Lib.hid (B0.out.trans (hb1.mono B0.out.size));clear hb1)
   |(go_at_call 12;(refine(CX.out _ B1.out).mono ?_);rintro e w2 ⟨hb2,rfl⟩;have B2:=Lib.hid (B1.out.trans (hb2.mono B1.out.size));have B3:=Lib.hid (B2.out.trans ((below_one w2 nod0).mono B2.out.size));clear hb2)
   |(go_at_call 8;(refine(KN.out _).mono ?_);rintro e w4 ⟨rfl,hb4⟩;have B4:=Lib.hid (B3.out.trans (hb4.mono B3.out.size));clear hb4))
  go_ret
  exact⟨rfl,B4.out⟩
 |good v p k =>
  have IN:=rdw_in (a:=max a 0) (b:=max b 0) (c:=max c 0) (d:=max d 0) (by omega) (by omega) hR
  have SZ:=rdw_sz hR
  have CX:=Lib.hid (fun u (hu:Below w.heap.size w u)=>show Calls _ _ #[.slice A m cap,lim a b c d] u (fun e w'=>Below u.heap.size u w'∧∃t:Tv,e=.returned (.tuple #[t.val,.int .i64 0,.int .i64 0])∧nd t=v∧Ok w' t) from by
   have h:=RD.out u hu
   rw[show((A,m,cap,l):Rw).2.2.2=l from rfl,hR] at h;exact h)
  have hml:m=l.length:=HL.out
  obtain⟨D,hD⟩:∃D,dpn v=D:=⟨_,rfl⟩
  obtain⟨C,hC⟩:∃C,ctn v=C:=⟨_,rfl⟩
  obtain⟨E,hE⟩:∃E,ean v=E:=⟨_,rfl⟩
  rw[hD,hC,hE] at IN
  have q1:(D:Int)≤b:=by omega
  have q2:(C:Int)≤c:=by omega
  have q4:(m:Int)≤a:=by omega
  have HD:=Lib.hid hD
  have HC:=Lib.hid hC
  have HE:=Lib.hid hE
  have VS:=Lib.hid (show szn v≤1000000 from by omega)
  have EE:=Lib.hid (show(E:Int)≤max d 0 from IN.2.2.1)
  clear RD hR IN SZ hD hC hE hml
  by_cases q3:(E:Int)≤d
  ·clear EE
   go_enter Try.func5,Try.ntmps5
   go_wp2_with (first
    |(go_at_call 13;(refine(LGf.out _).mono ?_);rintro e w1 ⟨rfl,rfl⟩)
    |(go_at_call 15;(refine(OW.out _).mono ?_);rintro e w1 ⟨rfl,hb1⟩;have B1:=Lib.hid (B0.out.trans (hb1.mono B0.out.size));have F1:=Lib.hid hb1;clear hb1)
    |(go_at_call 12;(refine(CX.out _ B1.out).mono ?_);rintro e w2 ⟨hb2,t,rfl,hnd,hok⟩;obtain⟨K,N,rr,BB,cc,vs⟩:=t;simp only[Tv.val,Tv.row];have B2:=Lib.hid (B1.out.trans (hb2.mono B1.out.size));have F2:=Lib.hid (F1.out.trans (hb2.mono F1.out.size));have X2:=Lib.hid (below_one w2 (.cells #[.int .i64 K,.int .u64 (N:Int),.slice rr.1 rr.2.1 rr.2.2.1,.slice BB vs.length cc] 26));have CT:=Lib.hid (show Calls _ _ #[.agg #[.int .i64 K,.int .u64 (N:Int),.slice rr.1 rr.2.1 rr.2.2.1,.slice BB vs.length cc]] _ (fun e w'=>e=.returned (.tuple #[.int .i64 (D:Int),.int .i64 (C:Int),.int .i64 (E:Int)])∧Below (w2.alloc (.cells #[.int .i64 K,.int .u64 (N:Int),.slice rr.1 rr.2.1 rr.2.2.1,.slice BB vs.length cc] 26)).heap.size (w2.alloc (.cells #[.int .i64 K,.int .u64 (N:Int),.slice rr.1 rr.2.1 rr.2.2.1,.slice BB vs.length cc] 26)) w') from by have h:=deepest_any (hok.keep X2.out) (by rw[hnd];exact VS.out) _ (Below.refl _ _);rw[hnd,HD.out,HC.out,HE.out] at h;exact h);clear hb2 hnd hok)
    |(go_at_call 18;(refine CT.out.mono ?_);rintro e w3 ⟨rfl,hb3⟩;have B3:=Lib.hid (B2.out.trans ((X2.out.trans (hb3.mono X2.out.size)).mono B2.out.size));have N3:=Lib.hid (show Bl w3 w.heap.size 39 #[.int .i64 a,.int .i64 b,.int .i64 c,.int .i64 d] from N0.out.below' (F2.out.trans ((X2.out.trans (hb3.mono X2.out.size)).mono F2.out.size)));have z0:w3.cell? ⟨w.heap.size,0,none⟩=some (.int .i64 a):=N3.out.cell_ rfl;have z1:w3.cell? ⟨w.heap.size,1,none⟩=some (.int .i64 b):=N3.out.cell_ rfl;have z2:w3.cell? ⟨w.heap.size,2,none⟩=some (.int .i64 c):=N3.out.cell_ rfl;have z3:w3.cell? ⟨w.heap.size,3,none⟩=some (.int .i64 d):=N3.out.cell_ rfl;clear hb3)
    |(go_at_call 8;(refine(KN.out _).mono ?_);rintro e w4 ⟨rfl,hb4⟩;have B4:=Lib.hid (B3.out.trans (hb4.mono B3.out.size));clear hb4))
   go_ret
   exact⟨rfl,B4.out⟩
  ·have q5:(E:Int)=0:=by have:=EE.out;omega
   clear EE
   go_enter Try.func5,Try.ntmps5
   go_wp2_with (first
    |(go_at_call 13;(refine(LGf.out _).mono ?_);rintro e w1 ⟨rfl,rfl⟩)
    |(go_at_call 15;(refine(OW.out _).mono ?_);rintro e w1 ⟨rfl,hb1⟩;have B1:=Lib.hid (B0.out.trans (hb1.mono B0.out.size));have F1:=Lib.hid hb1;clear hb1)
    |(go_at_call 12;(refine(CX.out _ B1.out).mono ?_);rintro e w2 ⟨hb2,t,rfl,hnd,hok⟩;obtain⟨K,N,rr,BB,cc,vs⟩:=t;simp only[Tv.val,Tv.row];have B2:=Lib.hid (B1.out.trans (hb2.mono B1.out.size));have F2:=Lib.hid (F1.out.trans (hb2.mono F1.out.size));have X2:=Lib.hid (below_one w2 (.cells #[.int .i64 K,.int .u64 (N:Int),.slice rr.1 rr.2.1 rr.2.2.1,.slice BB vs.length cc] 26));have CT:=Lib.hid (show Calls _ _ #[.agg #[.int .i64 K,.int .u64 (N:Int),.slice rr.1 rr.2.1 rr.2.2.1,.slice BB vs.length cc]] _ (fun e w'=>e=.returned (.tuple #[.int .i64 (D:Int),.int .i64 (C:Int),.int .i64 (E:Int)])∧Below (w2.alloc (.cells #[.int .i64 K,.int .u64 (N:Int),.slice rr.1 rr.2.1 rr.2.2.1,.slice BB vs.length cc] 26)).heap.size (w2.alloc (.cells #[.int .i64 K,.int .u64 (N:Int),.slice rr.1 rr.2.1 rr.2.2.1,.slice BB vs.length cc] 26)) w') from by have h:=deepest_any (hok.keep X2.out) (by rw[hnd];exact VS.out) _ (Below.refl _ _);rw[hnd,HD.out,HC.out,HE.out] at h;exact h);clear hb2 hnd hok)
    |(go_at_call 18;(refine CT.out.mono ?_);rintro e w3 ⟨rfl,hb3⟩;have B3:=Lib.hid (B2.out.trans ((X2.out.trans (hb3.mono X2.out.size)).mono B2.out.size));have N3:=Lib.hid (show Bl w3 w.heap.size 39 #[.int .i64 a,.int .i64 b,.int .i64 c,.int .i64 d] from N0.out.below' (F2.out.trans ((X2.out.trans (hb3.mono X2.out.size)).mono F2.out.size)));have z0:w3.cell? ⟨w.heap.size,0,none⟩=some (.int .i64 a):=N3.out.cell_ rfl;have z1:w3.cell? ⟨w.heap.size,1,none⟩=some (.int .i64 b):=N3.out.cell_ rfl;have z2:w3.cell? ⟨w.heap.size,2,none⟩=some (.int .i64 c):=N3.out.cell_ rfl;have z3:w3.cell? ⟨w.heap.size,3,none⟩=some (.int .i64 d):=N3.out.cell_ rfl;clear hb3)
    |(go_at_call 8;(refine(KN.out _).mono ?_);rintro e w4 ⟨rfl,hb4⟩;have B4:=Lib.hid (B3.out.trans (hb4.mono B3.out.size));clear hb4))
   go_ret
   exact⟨rfl,B4.out⟩
end Go.Proofs.Ytdbljpeadehjkab.Wr
