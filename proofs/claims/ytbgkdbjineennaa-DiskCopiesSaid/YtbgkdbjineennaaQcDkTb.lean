/- Joined texts. -/
import Derived.Test.YtbgkdbjineennaaQcDkTa
set_option linter.unusedVariables false
namespace Go.Proofs.Ytbgkdbjineennaa.Dk
open Go.IntWalk Go.RowKit Go.Proofs.Ytbgkdbjineennaa.Gn Go.Proofs.Ytbgkdbjineennaa.Fd Go.Deep
theorem own_sl0{w:World}{base:Nat}{t:TypeId}{v:Value}{n:Nat}{xs:List Value}(h:w.ownsRow base t 1 v n xs):∃A cap,v=.slice A n cap∧n≤cap∧Sl w A n xs∧(A=none→cap=0):=by
 have h':=h
 obtain⟨hl,⟨rfl,h0⟩|⟨g,cap,cur,rfl,hb',hh,h1,h2,h3,h4⟩⟩:=h
 ·subst h0
  have hx:xs=[]:=List.length_eq_zero_iff.1 (by simpa using hl)
  subst hx
  exact⟨none,0,rfl,Nat.le_refl _,Sl.nil_ _ _,fun _=>rfl⟩
 ·exact⟨_,cap,rfl,h1,own_sl h',fun e=>by cases e⟩
section
variable {w:World} {base g gb:Nat} {H:Value} {cs:Bool} {cw:Int} {ch:Value} {m:M}
theorem Read_dd(D:Dd w base g gb H cs cw ch m)(hk:m.hd.length < 1000000)(a:Int):Calls Try.prog 24 #[.pointer (some ⟨g,0,none⟩),.int .i64 a] w (TwoQ w):=by
 by_cases h0:m.reach a=0
 ·obtain⟨hu,ha0,ha1⟩:=M.reach_ok h0
  obtain⟨p,rfl⟩:∃p:Nat,a=(p:Int):=⟨a.toNat,by omega⟩
  refine(Read_held D hk p h0).mono ?_
  rintro e w' ⟨q,cap,rfl,h1,h2,h3,h4⟩
  exact⟨_,_,_,_,_,rfl,h1,by omega,h3⟩
 ·refine(Read_bad D a h0).mono ?_
  rintro e w' ⟨rfl,rfl⟩
  exact⟨_,_,_,[],_,rfl,Sl.nil_ _ _,by omega,Below.refl _ _⟩
set_option maxRecDepth 100000 in
theorem Load_dd (D : Dd w base g gb H cs cw ch m) (hk : m.hd.length < 1000000) (h9 : m.ss.length ≤ 100) (a n : Int) (hn : n < 9223372036854775808) : Calls Try.prog 22 #[.pointer (some ⟨g, 0, none⟩), .int .i64 a, .int .i64 n] w (TwoQ w) := by
  have C := ready_dd D
  unfold M.ready at C
  by_cases hu : m.up = true
  · rw [if_pos hu] at C
    by_cases h0 : n < 0
    · have C := Lib.hid C
      clear D
      go_enter Try.func22, Try.ntmps22
      go_wp2_with (go_at_call 31; (with_reducible refine C.out.mono ?_); rintro e w9 ⟨rfl, rfl⟩)
      go_ret2
      exact ⟨_, _, _, [], _, rfl, Sl.nil_ _ _, by omega, Below.refl _ _⟩
    · obtain ⟨k, rfl⟩ : ∃ k : Nat, n = (k : Int) := ⟨n.toNat, by omega⟩
      by_cases hs : m.span a (k : Int) = 0
      · have hs' : 0 ≤ a ∧ a ≤ m.ss.length ∧ (k : Int) ≤ ((m.ss.length : Int) - a) * 64 := by
          unfold M.span at hs
          split at hs
          · cases hs
          · split at hs
            · cases hs
            · exact ⟨by omega, by omega, by omega⟩
        obtain ⟨p, rfl⟩ : ∃ p : Nat, a = (p : Int) := ⟨a.toNat, by omega⟩
        refine (Load_ok D hk hu p k (by omega)).mono ?_
        rintro e w' ⟨v, rfl, h1, h2⟩
        obtain ⟨A, cap, rfl, -, h3, -⟩ := own_sl0 h1
        exact ⟨_, _, _, _, _, rfl, h3, by omega, h2⟩
      · have C := Lib.hid C
        have C2 := span_dd D a k (by omega)
        obtain ⟨E, hE⟩ : ∃ E : Int, ((m.span a (k : Int) : Nat) : Int) = E := ⟨_, rfl⟩
        rw [hE] at C2
        have q1 : (E != 0) = true := by rw [bne_iff_ne]; omega
        have C2 := Lib.hid C2
        clear D hE hs h0 hn hk h9 hu
        go_enter Try.func22, Try.ntmps22
        go_wp2_with (first | (go_at_call 31; (with_reducible refine C.out.mono ?_); rintro e w9 ⟨rfl, rfl⟩) | (go_at_call 38; (with_reducible refine C2.out.mono ?_); rintro e w9 ⟨rfl, rfl⟩))
        go_ret2
        exact ⟨_, _, _, [], _, rfl, Sl.nil_ _ _, by omega, Below.refl _ _⟩
  · rw [if_neg hu] at C
    have C := Lib.hid C
    clear D
    go_enter Try.func22, Try.ntmps22
    go_wp2_with (go_at_call 31; (with_reducible refine C.out.mono ?_); rintro e w9 ⟨rfl, rfl⟩)
    go_ret2
    exact ⟨_, _, _, [], _, rfl, Sl.nil_ _ _, by omega, Below.refl _ _⟩
theorem Lose_dd(D:Dd w base g gb H cs cw ch m)(hk:m.hd.length < 1000000)(A:Option Addr)(n cap:Nat)(c:List Bool)(hs:Sl w A n (c.map Value.bool))(hcap:n≤cap)(hn9:cap≤maxLen)(hA:A=none→cap=0)(hab:∀ad,A=some ad→0 < n→ad.block≠gb):Calls Try.prog 14 #[.pointer (some ⟨g,0,none⟩),.slice A n cap] w (LoseQ w base g gb H cs cw ch m c):=by
 by_cases hu:m.up=true
 ·cases A with
  |none =>
   obtain rfl:=hA rfl
   obtain rfl:n=0:=by omega
   have hc:c=[]:=by
    have:=hs.1
    rw[List.length_map] at this
    exact List.length_eq_zero_iff.1 this
   subst hc
   exact Lose_nil D hu hk
  |some ad=>exact Lose_up D hu hk ad n cap c hs hcap hn9 (hab ad rfl)
 ·exact Lose_down D (by simpa using hu) A n cap c
end
theorem M.lose_hd(m:M)(c:List Bool):(m.lose c).hd.length≤m.hd.length∧(m.lose c).st=m.st:=by
 unfold M.lose
 split
 ·exact⟨Nat.zero_le _,rfl⟩
 ·exact⟨Nat.le_refl _,rfl⟩
theorem M.stroke_hs(m:M):m.stroke.2.hd.length≤m.hd.length∧m.stroke.2.st=m.st+1:=by
 unfold M.stroke
 split
 ·exact⟨Nat.le_refl _,rfl⟩
 ·exact⟨Nat.le_refl _,rfl⟩
 ·have:=M.lose_hd m.tick
  exact⟨(this _).1,(this _).2⟩
theorem M.write_hs(m:M)(a:Int)(b:List Nat):(m.write a b).2.hd.length≤m.hd.length+1∧(m.write a b).2.st≤m.st+1:=by
 unfold M.write
 split
 ·split
  ·have h:=M.stroke_hs (m.hold a.toNat b)
   have e:(m.hold a.toNat b).hd.length=m.hd.length+1:=by simp[M.hold]
   have e2:(m.hold a.toNat b).st=m.st:=rfl
   omega
  ·exact⟨Nat.le_succ _,Nat.le_succ _⟩
 ·exact⟨Nat.le_succ _,Nat.le_succ _⟩
theorem M.flush_hs(m:M):m.flush.2.hd.length≤m.hd.length∧m.flush.2.st≤m.st+1:=by
 unfold M.flush
 split
 ·split
  ·have:=M.stroke_hs m
   exact⟨Nat.zero_le _,by show m.stroke.2.st≤_;omega⟩
  ·have:=M.stroke_hs m
   omega
 ·exact⟨Nat.le_refl _,Nat.le_succ _⟩
theorem M.saves_hs(f:Nat):∀(m:M) (p:Nat) (b:List Nat),(M.saves f m p b).2.hd.length≤m.hd.length+b.length∧(M.saves f m p b).2.st≤m.st+b.length:=by
 induction f with
 |zero=>intro m p b;exact⟨Nat.le_add_right _ _,Nat.le_add_right _ _⟩
 |succ f ih =>
  intro m p b
  rw[M.saves]
  have hw:=M.write_hs m p (pad b)
  split
  ·exact⟨Nat.le_add_right _ _,Nat.le_add_right _ _⟩
  ·rename_i hb
   have hl:0 < b.length:=List.length_pos_iff.2 hb
   split
   ·have:=ih (m.write p (pad b)).2 (p+1) (b.drop 64)
    rw[List.length_drop] at this
    omega
   ·omega
theorem M.save_hs(m:M)(a:Int)(b:List Nat):(m.save a b).2.hd.length≤m.hd.length+b.length∧(m.save a b).2.st≤m.st+b.length:=by
 unfold M.save
 split
 ·split
  ·exact M.saves_hs _ _ _ _
  ·exact⟨Nat.le_add_right _ _,Nat.le_add_right _ _⟩
 ·exact⟨Nat.le_add_right _ _,Nat.le_add_right _ _⟩
theorem run_sliceAt_from{P:Program}{t e:TypeId}{n:Nat}(h:P.underlying t=some (.array n e))(hs:(P.info? e).map (·.size)=some 1)(g l:Nat)(hl:l < n)(W:World) :
  (Instr.sliceAt t (.pointer (some ⟨g,0,none⟩)) (some (.int .i64 (l:Int))) none none).run P W=.ok (.slice (some ⟨g,l,none⟩) (n - l) (n - l)) W:=by
 cases hq:P.info? e with
 |none=>simp[hq] at hs
 |some i =>
  have hi:i.size=1:=by simpa[hq] using hs
  have hne:¬n=l:=by omega
  have hadd:(⟨g,0,none⟩:Addr).add l=⟨g,l,none⟩:=by unfold Addr.add;split <;> simp_all
  simp[Instr.sliceAt,Instr.sureAddr,run_underlying h,Instr.sliceBounds,run_sliceBound,sizeOf,typeInfo,hq,hi,hne,hadd,show(l:Int)≤(n:Int) by omega]
theorem run_sliceAt_end{P:Program}{t e:TypeId}{n:Nat}(h:P.underlying t=some (.array n e))(hs:(P.info? e).map (·.size)=some 1)(g:Nat)(W:World) :
  (Instr.sliceAt t (.pointer (some ⟨g,0,none⟩)) (some (.int .i64 (n:Int))) none none).run P W=.ok (.slice (some ⟨g,0,none⟩) 0 0) W:=by
 cases hq:P.info? e with
 |none=>simp[hq] at hs
 |some i =>
  have hi:i.size=1:=by simpa[hq] using hs
  simp[Instr.sliceAt,Instr.sureAddr,run_underlying h,Instr.sliceBounds,run_sliceBound,sizeOf,typeInfo,hq,hi]
theorem run_clear_none(ty:TypeId)(A:Option Addr)(c:Nat)(W:World):(Builtin.clear_ #[22] ty #[.slice A 0 c]).run Try.prog W=.ok (.tuple #[]) W:=by
 cases A <;> simp[Builtin.clear_,run_underlying Try.underlying22]
theorem run_clear_bytes(w:World)(sb o k cap:Nat)(t:TypeId)(cur:Array Value)(h:Bl w sb t cur)(hs:o+k≤cur.size)(ty:TypeId):∃w',(Builtin.clear_ #[22] ty #[.slice (some ⟨sb,o,none⟩) k cap]).run Try.prog w=.ok (.tuple #[]) w'∧Bl w' sb t (spl cur o (List.replicate k (.int .u8 0)))∧w.grownBy w' (some sb):=by
 obtain⟨i0,hi,hz0,hz1,hz2⟩:=info_parts infob
 have hl:(Builtin.zeroCells #[Value.int .u8 0] k).toList=List.replicate k (.int .u8 0):=by
  apply List.ext_getElem
  ·simp[Builtin.zeroCells]
  ·intro i h1 h2;simp[Builtin.zeroCells,Nat.mod_one]
 obtain⟨w',h1,h2,h3⟩:=run_store_bl Try.prog h o (List.replicate k (.int .u8 0)) (by rw[List.length_replicate];omega) (by intro v hv;rw[List.eq_of_mem_replicate hv];rfl)
 cases k with
 |zero=>exact⟨w,by simp[Builtin.clear_,run_underlying Try.underlying22],h,⟨rfl,rfl,rfl,Nat.le_refl _,fun _ _ _=>rfl⟩⟩
 |succ k =>
  refine⟨w',?_,h2,h3⟩
  simp only[Builtin.clear_,zeroValue,typeInfo,Value.cells]
  simp[run_underlying Try.underlying22,hi,hz0,hl]
  rw[h1]
  rfl
end Go.Proofs.Ytbgkdbjineennaa.Dk
