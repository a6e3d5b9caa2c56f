/- Joined texts. -/
import Derived.Test.YtbgkdbjineennaaQmDkTh
set_option linter.unusedVariables false
namespace Go.Proofs.Ytbgkdbjineennaa.Dk
open Go.IntWalk Go.RowKit Go.Proofs.Ytbgkdbjineennaa.Gn Go.Proofs.Ytbgkdbjineennaa.Fd Go.Deep
theorem CloneQ.kd{l:List Nat}{w w':World}{e:Ending}(h:CloneQ l w e w'):∃q cap,e=.returned (.slice (some ⟨q,0,none⟩) l.length cap)∧Sl w' (some ⟨q,0,none⟩) l.length (bl l)∧w.heap.size≤q∧Below w.heap.size w w'∧l.length≤cap∧Kd w' q 5:=by
 obtain⟨q,cap,cur,rfl,k1,k2,k3,k4,k5,k6⟩:=h
 refine⟨q,cap,rfl,Sl.of_bl k1 0 _ _ (by rw[bl_length]) fun k v hk=>?_,k5,k6,k2,⟨_,k1⟩⟩
 rw[Nat.zero_add]
 have hkl:k < l.length:=by have:=(List.getElem?_eq_some_iff.1 hk).1;rwa [bl_length] at this
 rw[←k4,List.getElem?_take,if_pos hkl] at hk
 rwa [Array.getElem?_toList] at hk
def BytK(w:World)(l:List Nat)(e:Ending)(w':World):Prop:=∃q cap,e=.returned (.slice (some ⟨q,0,none⟩) l.length cap)∧Sl w' (some ⟨q,0,none⟩) l.length (bl l)∧w.heap.size≤q∧l.length≤cap∧Kd w' q 5∧Below w.heap.size w w'
section
variable {w:World} {base g gb:Nat} {H:Value} {cs:Bool} {cw:Int} {ch:Value} {m:M}
set_option maxRecDepth 100000 in
theorem bytes_kd(D:Dd w base g gb H cs cw ch m)(h9:m.ss.length≤1500):Calls Try.prog 13 #[.pointer (some ⟨g,0,none⟩)] w (BytK w m.ss.flatten):=by
 have hl:=flat_len _ D.ok.row
 have hn:0 < 64*m.ss.length:=by have:=D.n0;omega
 have C:=Lib.hid (none_any D.blk hn)
 have c0:=D.blk.c0
 have C2:=Clone_any (some ⟨gb,0,none⟩) (64*m.ss.length) (64*m.ss.length) m.ss.flatten w hn (by omega) (Nat.le_refl _) (by rw[←hl];exact D.byt.sl)
 have C2:=Lib.hid C2
 obtain⟨l,hll⟩:∃l,m.ss.flatten=l:=⟨_,rfl⟩
 rw[hll] at C2 hl ⊢
 clear D hll
 rw[←hl] at c0 C2
 clear hl
 go_enter Try.func13,Try.ntmps13
 go_wp2_with (first|(go_at_call 30;(with_reducible refine C.out.mono ?_);rintro e w1 ⟨rfl,rfl⟩)|(go_at_call 35;(with_reducible refine C2.out.mono ?_);intro e w2 hq;obtain⟨q,cap,rfl,k1,k2,k3,k4,k5⟩:=hq.kd;have K1:=Lib.hid k1;have K2:=Lib.hid k2;have K3:=Lib.hid k3;have K4:=Lib.hid k4;have K5:=Lib.hid k5;clear hq k1 k2 k3 k4 k5))
 go_ret
 exact⟨q,cap,rfl,K1.out,K2.out,K4.out,K5.out,K3.out⟩
end
theorem infoO:(Try.prog.info? 37).map (fun i=>(i.zero,i.size,i.bytes))=some (some (.agg #[.int .i64 0,.int .i64 0,.int .i64 0,.slice none 0 0,.slice none 0 0]),5,72):=by kernel_rfl
theorem len_tot:∀l:List Od,l.length≤tot l
 | []=>Nat.le_refl _
 |o :: t=>by have:=len_tot t;rw[tot,List.length_cons];omega
theorem M.write_no{m:M}{a:Int}{b:List Nat}(h:¬(m.reach a=0∧b.length=64)):(m.write a b).1≠0∧(m.write a b).2=m:=by
 unfold M.write
 split
 ·rename_i h0
  split
  ·rename_i h1;exact absurd ⟨h0,h1⟩ h
  ·exact⟨(by show(1:Nat)≠0;decide),rfl⟩
 ·rename_i h0;exact⟨h0,rfl⟩
theorem M.cut_held{m:M}(hu:m.up=true)(hc:m.cut=none){a:Int}{b:List Nat}(hr:m.reach a=0)(hb:b.length=64):(m.write a b).1=0∧(m.write a b).2.up=true∧(m.write a b).2.cut=none∧(m.write a b).2.ss=m.ss∧(m.write a b).2.hd=m.hd ++ [(a.toNat,b)]:=by
 rw[M.write_none hc hr hb]
 exact⟨rfl,hu,hc,rfl,rfl⟩
theorem Ol.up{w:World}{a0 a1:Nat}{L:Option Addr}{l:List Od}(h:Ol w a0 L l)(ha:a0≤a1):Ol w a1 L l :=
 ⟨h.s,fun o ho=>⟨(h.ok o ho).b,(h.ok o ho).b0,(h.ok o ho).b1,fun ad e hn=>Nat.lt_of_lt_of_le ((h.ok o ho).b2 ad e hn) ha,(h.ok o ho).b9,(h.ok o ho).c,(h.ok o ho).c0,(h.ok o ho).c1,fun ad e hn=>Nat.lt_of_lt_of_le ((h.ok o ho).c2 ad e hn) ha,(h.ok o ho).c9,(h.ok o ho).cb,(h.ok o ho).n9⟩,fun ad e=>Nat.lt_of_lt_of_le (h.la ad e) ha,h.n9⟩
theorem own_sl5{w:World}{base:Nat}{t:TypeId}{A:Option Addr}{n c:Nat}{xs:List Value}(h:w.ownsRow base t 5 (.slice A n c) n xs):Sl w A (5*n) xs∧∀ad,A=some ad→ad.block < w.heap.size:=by
 obtain⟨hl,⟨e,h0⟩|⟨g,cap,cur,e,hb',hh,h1,h2,h3,h4⟩⟩:=h
 ·cases e
  exact⟨⟨by omega,fun k v hk=>by have:=(List.getElem?_eq_some_iff.1 hk).1;omega⟩,(fun ad e=>by cases e)⟩
 ·cases e
  refine⟨Sl.of_bl hh 0 _ _ (by omega) fun k v hk=>?_,fun ad e=>by cases e;exact(Array.getElem?_eq_some_iff.1 hh).1⟩
  have hk5:k < n*5:=by have:=(List.getElem?_eq_some_iff.1 hk).1;omega
  rw[Nat.zero_add,←Array.getElem?_toList,←hk,←h4,List.getElem?_take,if_pos hk5]
theorem orow_app(a b:List Od):orow (a ++ b)=orow a ++ orow b:=by
 induction a with
 |nil=>rfl
 |cons x a ih=>simp[orow,ih]
theorem orow_one(l:List Od):∀v∈orow l,v.oneCell'=true:=by
 induction l with
 |nil=>intro v hv;cases hv
 |cons x l ih =>
  intro v hv
  rw[orow,List.mem_append] at hv
  rcases hv with hv|hv
  ·simp only[Od.row,List.mem_cons,List.not_mem_nil,or_false] at hv
   rcases hv with rfl|rfl|rfl|rfl|rfl <;> rfl
  ·exact ih v hv
theorem sl_part{w:World}{q:Nat}{ss:List (List Nat)}(h:∀s∈ss,s.length=64)(hs:Sl w (some ⟨q,0,none⟩) (64*ss.length) (bl ss.flatten)){p:Nat}(hp:p < ss.length):Sl w (some ⟨q,64*p,none⟩) 64 (bl (ss.getD p [])):=by
 have hat:=flat_at ss p h hp
 have hrow:(ss.getD p []).length=64:=by rw[←hat,List.length_take,List.length_drop,flat_len _ h];omega
 refine⟨by rw[bl_length,hrow],fun k v hk=>?_⟩
 have hk64:k < 64:=by have:=(List.getElem?_eq_some_iff.1 hk).1;rwa [bl_length,hrow] at this
 rw[←hat] at hk
 unfold bl at hk
 rw[List.getElem?_map,List.getElem?_take,if_pos hk64,List.getElem?_drop] at hk
 obtain⟨ad,e,hc⟩:=hs.2 (64*p+k) v (by unfold bl;rw[List.getElem?_map];exact hk)
 cases e
 refine⟨_,rfl,?_⟩
 rw[add_at] at hc
 unfold Addr.add
 by_cases h0:k=0
 ·subst h0;simpa using hc
 ·simpa[h0] using hc
set_option maxRecDepth 100000 in
set_option maxHeartbeats 16000000 in
theorem walk_diskMixes {w : World} (B : Option Addr) (mm cap : Nat) (bs : List Nat) (hB : Sl w B mm (bl bs)) (hB0 : B = none → cap = 0) (hcap : mm ≤ cap) (s : Int) {L : Option Addr} {l : List Od} (lc : Nat) (hl : Ol w w.heap.size L l) {L2 : Option Addr} {l2 : List Od} (lc2 : Nat) (hl2 : Ol w w.heap.size L2 l2) (A : Option Addr) (n c : Nat) (cl : List Bool) (hs : Sl w A n (cl.map Value.bool)) (hA : A = none → c = 0) (hc : n ≤ c) (hc9 : c ≤ maxLen) (hin : ∀ ad, A = some ad → ad.block < w.heap.size) :
    Calls Try.prog 4 #[.slice B mm cap, .int .i64 s, .slice L l.length lc, .slice L2 l2.length lc2, .slice A n c] w fun e w' => e = .returned (.bool true) ∧ Below w.heap.size w w' := by
  have MC := Lib.hid (made_any lc hl B mm cap bs hB hB0 hcap s)
  have KN := Lib.hid known_any
  have HS := Lib.hid hs
  have HA := Lib.hid (And.intro hA (And.intro hc (And.intro hc9 hin)))
  have HO := Lib.hid hl2
  have n29 := hl2.n9
  obtain ⟨K, hK⟩ : ∃ K, l.length = K := ⟨_, rfl⟩
  obtain ⟨K2, hK2⟩ : ∃ K2, l2.length = K2 := ⟨_, rfl⟩
  have HK2 := Lib.hid hK2
  rw [hK] at MC ⊢
  rw [hK2] at n29 ⊢
  have LC : ∀ u, Below w.heap.size w u → Calls Try.prog 17 #[.slice L2 K2 lc2] u fun e w' => e = .returned (.bool (lg 0 l2)) ∧ Below u.heap.size u w' := fun u hu => by
    have := long_any lc2 ((hl2.low hu).up hu.size)
    rwa [hK2] at this
  clear hl hB hB0 hcap hs hA hc hc9 hin hK hl2 hK2
  go_enter Try.func4, Try.ntmps4
  go_upto_region 2 with (go_at_call 8; (with_reducible refine MC.out.mono ?_); rintro e w1 ⟨p, rfl, hp, hb1⟩; have B1 := Lib.hid hb1; have HP := Lib.hid hp; clear hb1 hp)
  have hp := HP.out
  clear HP
  rcases hp with rfl | ⟨g, gb, H, cs, cw, ch, m, rfl, d1, h1, h2, h3, -, -⟩
  · go_wp2_with (go_at_call 10; (with_reducible refine (KN.out _).mono ?_); rintro e w2 ⟨rfl, hb2⟩; have B2 := Lib.hid hb2; clear hb2)
    go_ret
    exact ⟨rfl, B1.out.trans (B2.out.mono B1.out.size)⟩
  have D1 := Lib.hid d1
  clear d1
  have LC1 := LC w1 B1.out
  clear LC
  cases hlg : lg 0 l2 with
  | true =>
    rw [hlg] at LC1
    have LC1 := Lib.hid LC1
    clear hlg
    go_wp2_with (first
      | (go_at_call 17; (with_reducible refine LC1.out.mono ?_); rintro e w3 ⟨rfl, hb3⟩; have B3 := Lib.hid hb3; clear hb3)
      | (go_at_call 10; (with_reducible refine (KN.out _).mono ?_); rintro e w2 ⟨rfl, hb2⟩; have B2 := Lib.hid hb2; clear hb2))
    go_ret
    have b3 := B1.out.trans (B3.out.mono B1.out.size)
    exact ⟨rfl, b3.trans (B2.out.mono b3.size)⟩
  | false =>
    rw [hlg] at LC1
    have LC1 := Lib.hid LC1
    have K29 : K2 ≤ 3000 := by have := lg_tot l2 0 hlg; have := len_tot l2; have := HK2.out; omega
    clear hlg
    by_cases hn : (5000 : Int) < (n : Int)
    · go_wp2_with (first
        | (go_at_call 17; (with_reducible refine LC1.out.mono ?_); rintro e w3 ⟨rfl, hb3⟩; have B3 := Lib.hid hb3; clear hb3)
        | (go_at_call 10; (with_reducible refine (KN.out _).mono ?_); rintro e w2 ⟨rfl, hb2⟩; have B2 := Lib.hid hb2; clear hb2))
      go_ret
      have b3 := B1.out.trans (B3.out.mono B1.out.size)
      exact ⟨rfl, b3.trans (B2.out.mono b3.size)⟩
    have HM := Lib.hid (And.intro h1 (And.intro h2 h3))
    clear h1 h2 h3
    go_upto_region 7 with (first
      | (go_at_call 17; (with_reducible refine LC1.out.mono ?_); rintro e w10 ⟨rfl, hb3⟩; have B10 := Lib.hid hb3; have D10 := Lib.hid (D1.out.below hb3); clear hb3)
      | (go_at_call 11; (with_reducible refine (Start_dd D10.out).mono ?_); rintro e w2 ⟨⟨v2, rfl⟩, d2, g2⟩; have D2 := Lib.hid d2; have G2 := Lib.hid g2; clear d2 g2)
      | (go_at_call 12; (with_reducible refine (flush_started D2.out (by have := HM.out.2.1; omega) (by have := HM.out.2.2; omega)).mono ?_); rintro e w3 ⟨rfl, H3, cw3, d3, o3, g3⟩; have D3 := Lib.hid d3; have G3 := Lib.hid g3; clear d3 o3 g3))
    have B3 := Lib.hid ((B1.out.trans (B10.out.mono B1.out.size)).trans ((g_below D10.out G2.out).trans (ts_below D2.out G3.out)))
    obtain ⟨m3, hm3⟩ : ∃ m3, m.start.flush.2 = m3 := ⟨_, rfl⟩
    have hf3 := keep_flush m
    have E3 := Lib.hid (show m3.ss.length ≤ 100 ∧ m3.hd = [] ∧ m3.up = true ∧ m3.cut = none ∧ m3.st ≤ 3001 from by
      rw [← hm3]
      refine ⟨by rw [M.flush_size]; exact HM.out.1, by rw [hf3]; rfl, by rw [hf3]; rfl, by rw [hf3]; rfl, ?_⟩
      have h := (M.flush_hs m.start).2
      have e : m.start.st = m.st := rfl
      have := HM.out.2.2
      omega)
    rw [hm3] at D3
    clear hm3 hf3
    have X3 := flat_len _ D3.out.ok.row
    obtain ⟨N, hN⟩ : ∃ N, m3.ss.length = N := ⟨_, rfl⟩
    have N9 : N ≤ 100 := by have := E3.out.1; omega
    have HN := Lib.hid hN
    rw [hN] at X3
    have HX3 := Lib.hid X3
    have BC3 := bytes_kd D3.out (by have := E3.out.1; omega)
    have BC3 := Lib.hid (BC3.mono fun e w' (h : BytK w3 m3.ss.flatten e w') => show ∃ q cap, e = .returned (.slice (some ⟨q, 0, none⟩) (64 * N) cap) ∧ Sl w' (some ⟨q, 0, none⟩) (64 * N) (bl m3.ss.flatten) ∧ w3.heap.size ≤ q ∧ 64 * N ≤ cap ∧ Kd w' q 5 ∧ Below w3.heap.size w3 w' from by unfold BytK at h; rw [X3] at h; exact h)
    clear X3 hN
    go_upto_region 8 with (go_at_call 13; (with_reducible refine BC3.out.mono ?_); rintro e w4 ⟨q4, c4, rfl, k1, k2, k3, k4, k5⟩; have S4 := Lib.hid k1; have Q4 := Lib.hid k2; have C4 := Lib.hid k3; have K4 := Lib.hid k4; have B4 := Lib.hid k5; clear k1 k2 k3 k4 k5)
    have D4 := Lib.hid (D3.out.below B4.out)
    have BB4 := Lib.hid (B3.out.trans (B4.out.mono B3.out.size))
    have NE := Lib.hid (show q4 ≠ gb from fun e => by have := Q4.out; have := Bl.lt D3.out.byt; omega)
    obtain ⟨i0, hi, hz0, hz1, hz2⟩ := info_parts infoO
    go_wp2_with fail
    go_loopw [13, 14] (fun v a wr => ∃ (i : Nat) (hs : List Od) (mi : M) (Hi : Value) (cwi : Int), a = .int .i64 (i : Int) ∧ i ≤ K2 ∧ wr.ownsRow w.heap.size 37 5 v hs.length (orow hs) ∧ (∀ o ∈ hs, o ∈ l2 ∧ 0 ≤ o.at_) ∧ Dd wr w.heap.size g gb Hi false cwi (.slice none 0 0) mi ∧ mi.up = true ∧ mi.cut = none ∧ mi.ss = m3.ss ∧ mi.hd = hs.map (fun o => (o.at_.toNat, o.bs)) ∧ hs.length ≤ i ∧ mi.st ≤ 3001 + i ∧ Sl wr (some ⟨q4, 0, none⟩) (64 * N) (bl m3.ss.flatten) ∧ Kd wr q4 5 ∧ Below w.heap.size w wr) (fun _ a _ => K2 - (intOf a).toNat)
    case atStart => exact ⟨0, [], m3, H3, _, rfl, Nat.zero_le _, ⟨rfl, .inl ⟨rfl, rfl⟩⟩, (fun o ho => by cases ho), D4.out, E3.out.2.2.1, E3.out.2.2.2.1, rfl, by rw [E3.out.2.1]; rfl, Nat.zero_le _, E3.out.2.2.2.2, S4.out, K4.out, BB4.out⟩
    case round =>
      obtain ⟨i, hs, mi, Hi, cwi, rfl, hi2, hown, hmem, hd, hu, hct, hss, hhd, hle, hst, hsl, hkd, hbb⟩ := hrel
      obtain ⟨vA, vc, rfl⟩ := own_len hown
      have HOWN := Lib.hid hown
      have HMEM := Lib.hid hmem
      have HD := Lib.hid hd
      have HU := Lib.hid (And.intro hu (And.intro hct (And.intro hss hhd)))
      have HSL := Lib.hid hsl
      have HKD := Lib.hid hkd
      have HBB := Lib.hid hbb
      have hhl : mi.hd.length ≤ 3000 := by rw [hhd, List.length_map]; omega
      have FW := Lib.hid (show ∀ (u : World), Gx (Ts g gb Hi) wr u → u.ownsRow w.heap.size 37 5 (.slice vA hs.length vc) hs.length (orow hs) ∧ Sl u (some ⟨q4, 0, none⟩) (64 * N) (bl m3.ss.flatten) ∧ Kd u q4 5 from fun u hG => by
        obtain ⟨k1, k2, k3, k4⟩ := HD.out.kinds
        have nq : q4 ∉ Ts g gb Hi := by
          intro hm
          simp only [Ts, List.mem_cons, Option.mem_toList] at hm
          rcases hm with hm | hm | hm
          · exact hkd.unlike k1 (by decide) hm
          · exact NE.out hm
          · exact hkd.unlike (k3 _ hm).2 (by decide) rfl
        refine ⟨own_gx hG (fun b hb => HD.out.off (own_kd hown hb).2 (by decide) (by decide) (by decide)) hown, sl_gx hG (fun ad e => by cases e; exact nq) hsl, hG.kd nq hkd⟩)
      clear hown hmem hd hu hct hss hhd hsl hkd hbb
      by_cases hlt : i < K2
      · have q1 : (i : Int) < (K2 : Int) := by omega
        obtain ⟨o, ho⟩ : ∃ o, l2[i]? = some o := ⟨_, List.getElem?_eq_getElem (by have := HK2.out; omega)⟩
        have HOO := Lib.hid ho
        obtain ⟨ad, rfl, ae, hae, k0, k1, k2, k3, k4⟩ := od_cells (HO.out.low HBB.out) ho
        clear ho
        by_cases hk1 : o.kd = 1
        · rw [hk1] at k0
          have hok := (HO.out.low HBB.out).ok o (List.mem_of_getElem? HOO.out)
          have SS := Lib.hid (show wr.drew.cell? ae = some (.int .i64 1) ∧ wr.drew.cell? ⟨ae.block, ae.off + 1, none⟩ = some (.int .i64 o.at_) ∧ wr.drew.cell? ⟨ae.block, ae.off + 3, none⟩ = some (.slice o.bA o.bn o.bc) from ⟨k0, k1, k3⟩)
          have BD := Lib.hid (show Below wr.heap.size wr wr.drew from below_drewN (Below.refl _ _) 1)
          have WC0 := fun (u : World) (hu : Below wr.heap.size wr u) => Write_dd (HD.out.below hu) (by omega) (by omega) o.at_ o.bs o.bA o.bn o.bc (hok.low (hu.mono HBB.out.size)).b (by have := hok.b9; omega)
          by_cases hyes : mi.reach o.at_ = 0 ∧ o.bs.length = 64
          · obtain ⟨y1, y2, y3, y4, y5⟩ := M.cut_held HU.out.1 HU.out.2.1 hyes.1 hyes.2
            have y6 := (M.write_hs mi o.at_ o.bs).2
            have y7 := (M.reach_ok hyes.1).2.1
            obtain ⟨WR, hWR⟩ : ∃ WR, mi.write o.at_ o.bs = WR := ⟨_, rfl⟩
            rw [hWR] at WC0 y1 y2 y3 y4 y5 y6
            have WC := Lib.hid (fun u hu => (WC0 u hu).mono fun e w' (h : OpQ u w.heap.size g gb Hi false (.slice none 0 0) WR e w') => show OpK u w.heap.size g gb Hi false (.slice none 0 0) 0 WR.2 e w' from h.k (by rw [y1]; rfl) rfl)
            have YY := Lib.hid (And.intro y2 (And.intro y3 (And.intro (y4.trans HU.out.2.2.1) (And.intro y5 (And.intro y6 y7)))))
            clear WC0 hok hyes hWR y1 y2 y3 y4 y5 y6 y7 k0 k1 k2 k3 k4
            go_upto_region 12 with fail
            refine wp_region_held_drew (S := fun u => u.cell? ae = some (.int .i64 1) ∧ u.cell? ⟨ae.block, ae.off + 1, none⟩ = some (.int .i64 o.at_) ∧ u.cell? ⟨ae.block, ae.off + 3, none⟩ = some (.slice o.bA o.bn o.bc)) (by kernel_rfl) SS.out (fun _ => ?_)
            refine take_l 0 (v := ?_) rfl (by kernel_rfl) (by kernel_rfl) (by kernel_rfl) (fun _ _ _ h => h) (Or.inl ⟨by rfl, ?_⟩) SS.out ?_; rotate_left
            · intro w' hSw
              have hS0 : w'.cell? ae = some (.int .i64 1) := hSw.1
              have hS1 : w'.cell? ⟨ae.block, ae.off + 1, none⟩ = some (.int .i64 o.at_) := hSw.2.1
              have hS3 : w'.cell? ⟨ae.block, ae.off + 3, none⟩ = some (.slice o.bA o.bn o.bc) := hSw.2.2
              clear hSw
              go_simp
              all_goals with_reducible rfl
            try simp only [Act.put, List.setIfInBounds_toArray, List.set_cons_zero, List.set_cons_succ]
            refine take_l 1 (v := ?_) rfl (by kernel_rfl) (by kernel_rfl) (by kernel_rfl) (fun _ _ _ h => h) (Or.inl ⟨by rfl, ?_⟩) SS.out ?_; rotate_left
            · intro w' hSw
              have hS0 : w'.cell? ae = some (.int .i64 1) := hSw.1
              have hS1 : w'.cell? ⟨ae.block, ae.off + 1, none⟩ = some (.int .i64 o.at_) := hSw.2.1
              have hS3 : w'.cell? ⟨ae.block, ae.off + 3, none⟩ = some (.slice o.bA o.bn o.bc) := hSw.2.2
              clear hSw
              go_simp
              all_goals with_reducible rfl
            try simp only [Act.put, List.setIfInBounds_toArray, List.set_cons_zero, List.set_cons_succ]
            refine take_l 2 (v := ?_) rfl (by kernel_rfl) (by kernel_rfl) (by kernel_rfl) (fun _ _ _ h => h) (Or.inl ⟨by rfl, ?_⟩) SS.out ?_; rotate_left
            · intro w' hSw
              have hS0 : w'.cell? ae = some (.int .i64 1) := hSw.1
              have hS1 : w'.cell? ⟨ae.block, ae.off + 1, none⟩ = some (.int .i64 o.at_) := hSw.2.1
              have hS3 : w'.cell? ⟨ae.block, ae.off + 3, none⟩ = some (.slice o.bA o.bn o.bc) := hSw.2.2
              clear hSw
              go_simp
              all_goals with_reducible rfl
            try simp only [Act.put, List.setIfInBounds_toArray, List.set_cons_zero, List.set_cons_succ]
            refine take_l 3 (v := ?_) rfl (by kernel_rfl) (by kernel_rfl) (by kernel_rfl) (fun _ _ _ h => h) (Or.inl ⟨by rfl, ?_⟩) SS.out ?_; rotate_left
            · intro w' hSw
              have hS0 : w'.cell? ae = some (.int .i64 1) := hSw.1
              have hS1 : w'.cell? ⟨ae.block, ae.off + 1, none⟩ = some (.int .i64 o.at_) := hSw.2.1
              have hS3 : w'.cell? ⟨ae.block, ae.off + 3, none⟩ = some (.slice o.bA o.bn o.bc) := hSw.2.2
              clear hSw
              go_simp
              all_goals with_reducible rfl
            try simp only [Act.put, List.setIfInBounds_toArray, List.set_cons_zero, List.set_cons_succ]
            refine take_l 4 (v := ?_) rfl (by kernel_rfl) (by kernel_rfl) (by kernel_rfl) (fun _ _ _ h => h) (Or.inl ⟨by rfl, ?_⟩) SS.out ?_; rotate_left
            · intro w' hSw
              have hS0 : w'.cell? ae = some (.int .i64 1) := hSw.1
              have hS1 : w'.cell? ⟨ae.block, ae.off + 1, none⟩ = some (.int .i64 o.at_) := hSw.2.1
              have hS3 : w'.cell? ⟨ae.block, ae.off + 3, none⟩ = some (.slice o.bA o.bn o.bc) := hSw.2.2
              clear hSw
              go_simp
              all_goals with_reducible rfl
            try simp only [Act.put, List.setIfInBounds_toArray, List.set_cons_zero, List.set_cons_succ]
            refine take_l 5 (v := ?_) rfl (by kernel_rfl) (by kernel_rfl) (by kernel_rfl) (fun _ _ _ h => h) (Or.inl ⟨by rfl, ?_⟩) SS.out ?_; rotate_left
            · intro w' hSw
              have hS0 : w'.cell? ae = some (.int .i64 1) := hSw.1
              have hS1 : w'.cell? ⟨ae.block, ae.off + 1, none⟩ = some (.int .i64 o.at_) := hSw.2.1
              have hS3 : w'.cell? ⟨ae.block, ae.off + 3, none⟩ = some (.slice o.bA o.bn o.bc) := hSw.2.2
              clear hSw
              go_simp
              all_goals with_reducible rfl
            try simp only [Act.put, List.setIfInBounds_toArray, List.set_cons_zero, List.set_cons_succ]
            refine take_l 6 (v := ?_) rfl (by kernel_rfl) (by kernel_rfl) (by kernel_rfl) (fun _ _ _ h => h) (Or.inl ⟨by rfl, ?_⟩) SS.out ?_; rotate_left
            · intro w' hSw
              have hS0 : w'.cell? ae = some (.int .i64 1) := hSw.1
              have hS1 : w'.cell? ⟨ae.block, ae.off + 1, none⟩ = some (.int .i64 o.at_) := hSw.2.1
              have hS3 : w'.cell? ⟨ae.block, ae.off + 3, none⟩ = some (.slice o.bA o.bn o.bc) := hSw.2.2
              clear hSw
              go_simp
              all_goals with_reducible rfl
            try simp only [Act.put, List.setIfInBounds_toArray, List.set_cons_zero, List.set_cons_succ]
            refine take_l 7 (v := ?_) rfl (by kernel_rfl) (by kernel_rfl) (by kernel_rfl) (fun _ _ _ h => h) (Or.inl ⟨by rfl, ?_⟩) SS.out ?_; rotate_left
            · intro w' hSw
              have hS0 : w'.cell? ae = some (.int .i64 1) := hSw.1
              have hS1 : w'.cell? ⟨ae.block, ae.off + 1, none⟩ = some (.int .i64 o.at_) := hSw.2.1
              have hS3 : w'.cell? ⟨ae.block, ae.off + 3, none⟩ = some (.slice o.bA o.bn o.bc) := hSw.2.2
              clear hSw
              go_simp
              all_goals with_reducible rfl
            try simp only [Act.put, List.setIfInBounds_toArray, List.set_cons_zero, List.set_cons_succ]
            refine take_l 8 (v := ?_) rfl (by kernel_rfl) (by kernel_rfl) (by kernel_rfl) (fun _ _ _ h => h) (Or.inl ⟨by rfl, ?_⟩) SS.out ?_; rotate_left
            · intro w' hSw
              have hS0 : w'.cell? ae = some (.int .i64 1) := hSw.1
              have hS1 : w'.cell? ⟨ae.block, ae.off + 1, none⟩ = some (.int .i64 o.at_) := hSw.2.1
              have hS3 : w'.cell? ⟨ae.block, ae.off + 3, none⟩ = some (.slice o.bA o.bn o.bc) := hSw.2.2
              clear hSw
              go_simp
              all_goals with_reducible rfl
            try simp only [Act.put, List.setIfInBounds_toArray, List.set_cons_zero, List.set_cons_succ]
            refine take_l 9 (v := ?_) rfl (by kernel_rfl) (by kernel_rfl) (by kernel_rfl) (fun _ _ _ h => h) (Or.inl ⟨by rfl, ?_⟩) SS.out ?_; rotate_left
            · intro w' hSw
              have hS0 : w'.cell? ae = some (.int .i64 1) := hSw.1
              have hS1 : w'.cell? ⟨ae.block, ae.off + 1, none⟩ = some (.int .i64 o.at_) := hSw.2.1
              have hS3 : w'.cell? ⟨ae.block, ae.off + 3, none⟩ = some (.slice o.bA o.bn o.bc) := hSw.2.2
              clear hSw
              go_simp
              all_goals with_reducible rfl
            try simp only [Act.put, List.setIfInBounds_toArray, List.set_cons_zero, List.set_cons_succ]
            refine take_l 10 (v := ?_) rfl (by kernel_rfl) (by kernel_rfl) (by kernel_rfl) (fun _ _ _ h => h) (Or.inl ⟨by rfl, ?_⟩) SS.out ?_; rotate_left
            · intro w' hSw
              have hS0 : w'.cell? ae = some (.int .i64 1) := hSw.1
              have hS1 : w'.cell? ⟨ae.block, ae.off + 1, none⟩ = some (.int .i64 o.at_) := hSw.2.1
              have hS3 : w'.cell? ⟨ae.block, ae.off + 3, none⟩ = some (.slice o.bA o.bn o.bc) := hSw.2.2
              clear hSw
              go_simp
              all_goals with_reducible rfl
            try simp only [Act.put, List.setIfInBounds_toArray, List.set_cons_zero, List.set_cons_succ]
            refine take_l 11 (v := ?_) rfl (by kernel_rfl) (by kernel_rfl) (by kernel_rfl) (fun _ _ _ h => h) (Or.inl ⟨by rfl, ?_⟩) SS.out ?_; rotate_left
            · intro w' hSw
              have hS0 : w'.cell? ae = some (.int .i64 1) := hSw.1
              have hS1 : w'.cell? ⟨ae.block, ae.off + 1, none⟩ = some (.int .i64 o.at_) := hSw.2.1
              have hS3 : w'.cell? ⟨ae.block, ae.off + 3, none⟩ = some (.slice o.bA o.bn o.bc) := hSw.2.2
              clear hSw
              go_simp
              all_goals with_reducible rfl
            try simp only [Act.put, List.setIfInBounds_toArray, List.set_cons_zero, List.set_cons_succ]
            refine take_l 12 (v := ?_) rfl (by kernel_rfl) (by kernel_rfl) (by kernel_rfl) (fun _ _ _ h => h) (Or.inl ⟨by rfl, ?_⟩) SS.out ?_; rotate_left
            · intro w' hSw
              have hS0 : w'.cell? ae = some (.int .i64 1) := hSw.1
              have hS1 : w'.cell? ⟨ae.block, ae.off + 1, none⟩ = some (.int .i64 o.at_) := hSw.2.1
              have hS3 : w'.cell? ⟨ae.block, ae.off + 3, none⟩ = some (.slice o.bA o.bn o.bc) := hSw.2.2
              clear hSw
              go_simp
              all_goals with_reducible rfl
            try simp only [Act.put, List.setIfInBounds_toArray, List.set_cons_zero, List.set_cons_succ]
            refine take_l 13 (v := ?_) rfl (by kernel_rfl) (by kernel_rfl) (by kernel_rfl) (fun _ _ _ h => h) (Or.inl ⟨by rfl, ?_⟩) SS.out ?_; rotate_left
            · intro w' hSw
              have hS0 : w'.cell? ae = some (.int .i64 1) := hSw.1
              have hS1 : w'.cell? ⟨ae.block, ae.off + 1, none⟩ = some (.int .i64 o.at_) := hSw.2.1
              have hS3 : w'.cell? ⟨ae.block, ae.off + 3, none⟩ = some (.slice o.bA o.bn o.bc) := hSw.2.2
              clear hSw
              go_simp
              all_goals with_reducible rfl
            try simp only [Act.put, List.setIfInBounds_toArray, List.set_cons_zero, List.set_cons_succ]
            refine take_l 14 (v := ?_) rfl (by kernel_rfl) (by kernel_rfl) (by kernel_rfl) (fun _ _ _ h => h) (Or.inl ⟨by rfl, ?_⟩) SS.out ?_; rotate_left
            · intro w' hSw
              have hS0 : w'.cell? ae = some (.int .i64 1) := hSw.1
              have hS1 : w'.cell? ⟨ae.block, ae.off + 1, none⟩ = some (.int .i64 o.at_) := hSw.2.1
              have hS3 : w'.cell? ⟨ae.block, ae.off + 3, none⟩ = some (.slice o.bA o.bn o.bc) := hSw.2.2
              clear hSw
              go_simp
              all_goals with_reducible rfl
            try simp only [Act.put, List.setIfInBounds_toArray, List.set_cons_zero, List.set_cons_succ]
            refine take_l 15 (v := ?_) rfl (by kernel_rfl) (by kernel_rfl) (by kernel_rfl) (fun _ _ _ h => h) (Or.inl ⟨by rfl, ?_⟩) SS.out ?_; rotate_left
            · intro w' hSw
              have hS0 : w'.cell? ae = some (.int .i64 1) := hSw.1
              have hS1 : w'.cell? ⟨ae.block, ae.off + 1, none⟩ = some (.int .i64 o.at_) := hSw.2.1
              have hS3 : w'.cell? ⟨ae.block, ae.off + 3, none⟩ = some (.slice o.bA o.bn o.bc) := hSw.2.2
              clear hSw
              go_simp
              all_goals with_reducible rfl
            try simp only [Act.put, List.setIfInBounds_toArray, List.set_cons_zero, List.set_cons_succ]
            refine take_l 16 (v := ?_) rfl (by kernel_rfl) (by kernel_rfl) (by kernel_rfl) (fun _ _ _ h => h) (Or.inl ⟨by rfl, ?_⟩) SS.out ?_; rotate_left
            · intro w' hSw
              have hS0 : w'.cell? ae = some (.int .i64 1) := hSw.1
              have hS1 : w'.cell? ⟨ae.block, ae.off + 1, none⟩ = some (.int .i64 o.at_) := hSw.2.1
              have hS3 : w'.cell? ⟨ae.block, ae.off + 3, none⟩ = some (.slice o.bA o.bn o.bc) := hSw.2.2
              clear hSw
              go_simp
              all_goals with_reducible rfl
            try simp only [Act.put, List.setIfInBounds_toArray, List.set_cons_zero, List.set_cons_succ]
            refine take_l 17 (v := ?_) rfl (by kernel_rfl) (by kernel_rfl) (by kernel_rfl) (fun _ _ _ h => h) (Or.inl ⟨by rfl, ?_⟩) SS.out ?_; rotate_left
            · intro w' hSw
              have hS0 : w'.cell? ae = some (.int .i64 1) := hSw.1
              have hS1 : w'.cell? ⟨ae.block, ae.off + 1, none⟩ = some (.int .i64 o.at_) := hSw.2.1
              have hS3 : w'.cell? ⟨ae.block, ae.off + 3, none⟩ = some (.slice o.bA o.bn o.bc) := hSw.2.2
              clear hSw
              go_simp
              all_goals with_reducible rfl
            try simp only [Act.put, List.setIfInBounds_toArray, List.set_cons_zero, List.set_cons_succ]
            refine wpAnyH_ready (rs := [18]) (by kernel_rfl) (by simp) ?_
            refine cons_l rfl (fun K0 hK => ?_) (AllReadyH.nil)
            go_simp
            (go_at_call 18; (with_reducible refine (WC.out _ BD.out).mono ?_); rintro e w5 ⟨rfl, H5, cw5, d5, -, g5⟩)
            have D5 := Lib.hid d5
            have G5 := Lib.hid (show Gx (Ts g gb Hi) wr w5 from (Gx.of_below BD.out).trans g5)
            have B5 := Lib.hid (HBB.out.trans (ts_below HD.out G5.out))
            have S2 := Lib.hid (show w5.cell? ae = some (.int .i64 1) ∧ w5.cell? ⟨ae.block, ae.off + 1, none⟩ = some (.int .i64 o.at_) ∧ w5.cell? ⟨ae.block, ae.off + 3, none⟩ = some (.slice o.bA o.bn o.bc) from by
              obtain ⟨ad', e1, ae', e2, z0, z1, z2, z3, z4⟩ := od_cells (HO.out.low B5.out) HOO.out
              cases e1
              rw [hae] at e2
              subst e2
              rw [hk1] at z0
              exact ⟨z0, z1, z3⟩)
            clear d5 g5
            refine hK.out _ _ S2.out (fun _ => ?_)
            clear hK K0
            try simp only [Act.put, List.setIfInBounds_toArray, List.set_cons_zero, List.set_cons_succ]
            refine take_l 19 (v := ?_) rfl (by kernel_rfl) (by kernel_rfl) (by kernel_rfl) (fun _ _ _ h => h) (Or.inl ⟨by rfl, ?_⟩) S2.out ?_; rotate_left
            · intro w' hSw
              have hS0 : w'.cell? ae = some (.int .i64 1) := hSw.1
              have hS1 : w'.cell? ⟨ae.block, ae.off + 1, none⟩ = some (.int .i64 o.at_) := hSw.2.1
              have hS3 : w'.cell? ⟨ae.block, ae.off + 3, none⟩ = some (.slice o.bA o.bn o.bc) := hSw.2.2
              clear hSw
              go_simp
              all_goals with_reducible rfl
            try simp only [Act.put, List.setIfInBounds_toArray, List.set_cons_zero, List.set_cons_succ]
            refine take_l 20 (v := ?_) rfl (by kernel_rfl) (by kernel_rfl) (by kernel_rfl) (fun _ _ _ h => h) (Or.inl ⟨by rfl, ?_⟩) S2.out ?_; rotate_left
            · intro w' hSw
              have hS0 : w'.cell? ae = some (.int .i64 1) := hSw.1
              have hS1 : w'.cell? ⟨ae.block, ae.off + 1, none⟩ = some (.int .i64 o.at_) := hSw.2.1
              have hS3 : w'.cell? ⟨ae.block, ae.off + 3, none⟩ = some (.slice o.bA o.bn o.bc) := hSw.2.2
              clear hSw
              go_simp
              all_goals with_reducible rfl
            try simp only [Act.put, List.setIfInBounds_toArray, List.set_cons_zero, List.set_cons_succ]
            refine wpAnyH_done (by kernel_rfl) ?_ _
            have F5 := FW.out w5 G5.out
            obtain ⟨ad', e1, ae', e2, z0, z1, z2, z3, z4⟩ := od_cells (HO.out.low B5.out) HOO.out
            cases e1
            rw [hae] at e2
            subst e2
            rw [hk1] at z0
            have HF5 := Lib.hid F5
            have OA := Lib.hid (own_gx (Gx.of_below (S := []) ((Below.refl w5.heap.size w5).alloc (Nat.le_refl _) (.cells #[.int .i64 1, .int .i64 o.at_, .int .i64 o.nn, .slice o.bA o.bn o.bc, .slice o.cA o.cn o.cc] 37))) (fun b hb e => by cases e) F5.1)
            have NB := Lib.hid (Bl.new_ w5 37 #[.int .i64 1, .int .i64 o.at_, .int .i64 o.nn, .slice o.bA o.bn o.bc, .slice o.cA o.cn o.cc])
            clear F5
            go_wp2_with (at_builtin; refine wpList_append_own _ rfl (.tmp 70) (.tmp 75) 23 rfl w.heap.size 37 i0 _ 5 72 Try.underlying23 hi hz0 hz1 hz2 rfl (by decide) (.slice vA hs.length vc) hs.length (orow hs) rfl OA.out ⟨w5.heap.size, 0, none⟩ 1 1 o.row rfl rfl (fun j u hj => by rw [add_at]; exact NB.out.cell_ (by simpa [Od.row, hk1] using hj)) (by intro u hu'; exact orow_one [o] u (by rw [orow]; exact List.mem_append_left _ hu')) (by unfold maxLen; omega) (by omega) (by have := B5.out.size; simp; omega) ?_; intro v6 w6 hown6 hgrow6 hnil6; have O6 := Lib.hid hown6; have G6 := Lib.hid hgrow6; clear hown6 hgrow6 hnil6)
            have GG6 : Gx (Value.slice vA hs.length vc).ownBlock.toList w5 w6 := ((Gx.refl _ _).alloc _).trans (Gx.of_grown G6.out (fun b e => by simpa using e))
            have hkO : ∀ b ∈ (Value.slice vA hs.length vc).ownBlock.toList, w.heap.size ≤ b ∧ Kd w5 b 37 := fun b hb => own_kd HF5.out.1 (by simpa using hb)
            have nq5 : q4 ∉ (Value.slice vA hs.length vc).ownBlock.toList := fun e => HF5.out.2.2.unlike (hkO q4 e).2 (by decide) rfl
            obtain ⟨y2, y3, y4, y5, y6, y7⟩ := YY.out
            refine ⟨⟨i + 1, hs ++ [o], WR.2, H5, cw5, by go_num, by omega, ?_, ?_, ?_, y2, y3, y4, ?_, by rw [List.length_append, List.length_singleton]; omega, by omega, sl_gx GG6 (fun ad e => by cases e; exact nq5) HF5.out.2.1, GG6.kd nq5 HF5.out.2.2, ?_⟩, by simp [intOf]; omega⟩
            · rw [List.length_append, List.length_singleton, orow_app]
              have := O6.out
              rw [orow, orow, List.append_nil]
              exact this
            · intro x hx
              rcases List.mem_append.1 hx with hx | hx
              · exact HMEM.out x hx
              · rw [List.mem_singleton.1 hx]; exact ⟨List.mem_of_getElem? HOO.out, y7⟩
            · obtain ⟨j1, j2, j3, j4⟩ := D5.out.kinds
              refine D5.out.kept GG6 fun b hb => ?_
              have hb := (hkO b hb).2
              exact ⟨hb.unlike j1 (by decide), hb.unlike j2 (by decide), fun e => hb.unlike (j3 _ e).2 (by decide) rfl, fun e => by cases e⟩
            · rw [y5, HU.out.2.2.2, List.map_append]; rfl
            · exact B5.out.trans (GG6.below B5.out.size (fun b hb => (hkO b hb).1))
          · obtain ⟨y1, y2⟩ := M.write_no hyes
            obtain ⟨E, hE⟩ : ∃ E : Int, (((mi.write o.at_ o.bs).1 : Nat) : Int) = E := ⟨_, rfl⟩
            have q9 : (E == 0) = false := by rw [beq_eq_false_iff_ne, ← hE]; omega
            have WC := Lib.hid (fun u hu => (WC0 u hu).mono fun e w' (h : OpQ u w.heap.size g gb Hi false (.slice none 0 0) (mi.write o.at_ o.bs) e w') => show OpK u w.heap.size g gb Hi false (.slice none 0 0) E mi e w' from h.k hE y2)
            clear WC0 hok hyes y1 y2 hE k0 k1 k2 k3 k4
            go_upto_region 12 with fail
            refine wp_region_held_drew (S := fun u => u.cell? ae = some (.int .i64 1) ∧ u.cell? ⟨ae.block, ae.off + 1, none⟩ = some (.int .i64 o.at_) ∧ u.cell? ⟨ae.block, ae.off + 3, none⟩ = some (.slice o.bA o.bn o.bc)) (by kernel_rfl) SS.out (fun _ => ?_)
            refine take_l 0 (v := ?_) rfl (by kernel_rfl) (by kernel_rfl) (by kernel_rfl) (fun _ _ _ h => h) (Or.inl ⟨by rfl, ?_⟩) SS.out ?_; rotate_left
            · intro w' hSw
              have hS0 : w'.cell? ae = some (.int .i64 1) := hSw.1
              have hS1 : w'.cell? ⟨ae.block, ae.off + 1, none⟩ = some (.int .i64 o.at_) := hSw.2.1
              have hS3 : w'.cell? ⟨ae.block, ae.off + 3, none⟩ = some (.slice o.bA o.bn o.bc) := hSw.2.2
              clear hSw
              go_simp
              all_goals with_reducible rfl
            try simp only [Act.put, List.setIfInBounds_toArray, List.set_cons_zero, List.set_cons_succ]
            refine take_l 1 (v := ?_) rfl (by kernel_rfl) (by kernel_rfl) (by kernel_rfl) (fun _ _ _ h => h) (Or.inl ⟨by rfl, ?_⟩) SS.out ?_; rotate_left
            · intro w' hSw
              have hS0 : w'.cell? ae = some (.int .i64 1) := hSw.1
              have hS1 : w'.cell? ⟨ae.block, ae.off + 1, none⟩ = some (.int .i64 o.at_) := hSw.2.1
              have hS3 : w'.cell? ⟨ae.block, ae.off + 3, none⟩ = some (.slice o.bA o.bn o.bc) := hSw.2.2
              clear hSw
              go_simp
              all_goals with_reducible rfl
            try simp only [Act.put, List.setIfInBounds_toArray, List.set_cons_zero, List.set_cons_succ]
            refine take_l 2 (v := ?_) rfl (by kernel_rfl) (by kernel_rfl) (by kernel_rfl) (fun _ _ _ h => h) (Or.inl ⟨by rfl, ?_⟩) SS.out ?_; rotate_left
            · intro w' hSw
              have hS0 : w'.cell? ae = some (.int .i64 1) := hSw.1
              have hS1 : w'.cell? ⟨ae.block, ae.off + 1, none⟩ = some (.int .i64 o.at_) := hSw.2.1
              have hS3 : w'.cell? ⟨ae.block, ae.off + 3, none⟩ = some (.slice o.bA o.bn o.bc) := hSw.2.2
              clear hSw
              go_simp
              all_goals with_reducible rfl
            try simp only [Act.put, List.setIfInBounds_toArray, List.set_cons_zero, List.set_cons_succ]
            refine take_l 3 (v := ?_) rfl (by kernel_rfl) (by kernel_rfl) (by kernel_rfl) (fun _ _ _ h => h) (Or.inl ⟨by rfl, ?_⟩) SS.out ?_; rotate_left
            · intro w' hSw
              have hS0 : w'.cell? ae = some (.int .i64 1) := hSw.1
              have hS1 : w'.cell? ⟨ae.block, ae.off + 1, none⟩ = some (.int .i64 o.at_) := hSw.2.1
              have hS3 : w'.cell? ⟨ae.block, ae.off + 3, none⟩ = some (.slice o.bA o.bn o.bc) := hSw.2.2
              clear hSw
              go_simp
              all_goals with_reducible rfl
            try simp only [Act.put, List.setIfInBounds_toArray, List.set_cons_zero, List.set_cons_succ]
            refine take_l 4 (v := ?_) rfl (by kernel_rfl) (by kernel_rfl) (by kernel_rfl) (fun _ _ _ h => h) (Or.inl ⟨by rfl, ?_⟩) SS.out ?_; rotate_left
            · intro w' hSw
              have hS0 : w'.cell? ae = some (.int .i64 1) := hSw.1
              have hS1 : w'.cell? ⟨ae.block, ae.off + 1, none⟩ = some (.int .i64 o.at_) := hSw.2.1
              have hS3 : w'.cell? ⟨ae.block, ae.off + 3, none⟩ = some (.slice o.bA o.bn o.bc) := hSw.2.2
              clear hSw
              go_simp
              all_goals with_reducible rfl
            try simp only [Act.put, List.setIfInBounds_toArray, List.set_cons_zero, List.set_cons_succ]
            refine take_l 5 (v := ?_) rfl (by kernel_rfl) (by kernel_rfl) (by kernel_rfl) (fun _ _ _ h => h) (Or.inl ⟨by rfl, ?_⟩) SS.out ?_; rotate_left
            · intro w' hSw
              have hS0 : w'.cell? ae = some (.int .i64 1) := hSw.1
              have hS1 : w'.cell? ⟨ae.block, ae.off + 1, none⟩ = some (.int .i64 o.at_) := hSw.2.1
              have hS3 : w'.cell? ⟨ae.block, ae.off + 3, none⟩ = some (.slice o.bA o.bn o.bc) := hSw.2.2
              clear hSw
              go_simp
              all_goals with_reducible rfl
            try simp only [Act.put, List.setIfInBounds_toArray, List.set_cons_zero, List.set_cons_succ]
            refine take_l 6 (v := ?_) rfl (by kernel_rfl) (by kernel_rfl) (by kernel_rfl) (fun _ _ _ h => h) (Or.inl ⟨by rfl, ?_⟩) SS.out ?_; rotate_left
            · intro w' hSw
              have hS0 : w'.cell? ae = some (.int .i64 1) := hSw.1
              have hS1 : w'.cell? ⟨ae.block, ae.off + 1, none⟩ = some (.int .i64 o.at_) := hSw.2.1
              have hS3 : w'.cell? ⟨ae.block, ae.off + 3, none⟩ = some (.slice o.bA o.bn o.bc) := hSw.2.2
              clear hSw
              go_simp
              all_goals with_reducible rfl
            try simp only [Act.put, List.setIfInBounds_toArray, List.set_cons_zero, List.set_cons_succ]
            refine take_l 7 (v := ?_) rfl (by kernel_rfl) (by kernel_rfl) (by kernel_rfl) (fun _ _ _ h => h) (Or.inl ⟨by rfl, ?_⟩) SS.out ?_; rotate_left
            · intro w' hSw
              have hS0 : w'.cell? ae = some (.int .i64 1) := hSw.1
              have hS1 : w'.cell? ⟨ae.block, ae.off + 1, none⟩ = some (.int .i64 o.at_) := hSw.2.1
              have hS3 : w'.cell? ⟨ae.block, ae.off + 3, none⟩ = some (.slice o.bA o.bn o.bc) := hSw.2.2
              clear hSw
              go_simp
              all_goals with_reducible rfl
            try simp only [Act.put, List.setIfInBounds_toArray, List.set_cons_zero, List.set_cons_succ]
            refine take_l 8 (v := ?_) rfl (by kernel_rfl) (by kernel_rfl) (by kernel_rfl) (fun _ _ _ h => h) (Or.inl ⟨by rfl, ?_⟩) SS.out ?_; rotate_left
            · intro w' hSw
              have hS0 : w'.cell? ae = some (.int .i64 1) := hSw.1
              have hS1 : w'.cell? ⟨ae.block, ae.off + 1, none⟩ = some (.int .i64 o.at_) := hSw.2.1
              have hS3 : w'.cell? ⟨ae.block, ae.off + 3, none⟩ = some (.slice o.bA o.bn o.bc) := hSw.2.2
              clear hSw
              go_simp
              all_goals with_reducible rfl
            try simp only [Act.put, List.setIfInBounds_toArray, List.set_cons_zero, List.set_cons_succ]
            refine take_l 9 (v := ?_) rfl (by kernel_rfl) (by kernel_rfl) (by kernel_rfl) (fun _ _ _ h => h) (Or.inl ⟨by rfl, ?_⟩) SS.out ?_; rotate_left
            · intro w' hSw
              have hS0 : w'.cell? ae = some (.int .i64 1) := hSw.1
              have hS1 : w'.cell? ⟨ae.block, ae.off + 1, none⟩ = some (.int .i64 o.at_) := hSw.2.1
              have hS3 : w'.cell? ⟨ae.block, ae.off + 3, none⟩ = some (.slice o.bA o.bn o.bc) := hSw.2.2
              clear hSw
              go_simp
              all_goals with_reducible rfl
            try simp only [Act.put, List.setIfInBounds_toArray, List.set_cons_zero, List.set_cons_succ]
            refine take_l 10 (v := ?_) rfl (by kernel_rfl) (by kernel_rfl) (by kernel_rfl) (fun _ _ _ h => h) (Or.inl ⟨by rfl, ?_⟩) SS.out ?_; rotate_left
            · intro w' hSw
              have hS0 : w'.cell? ae = some (.int .i64 1) := hSw.1
              have hS1 : w'.cell? ⟨ae.block, ae.off + 1, none⟩ = some (.int .i64 o.at_) := hSw.2.1
              have hS3 : w'.cell? ⟨ae.block, ae.off + 3, none⟩ = some (.slice o.bA o.bn o.bc) := hSw.2.2
              clear hSw
              go_simp
              all_goals with_reducible rfl
            try simp only [Act.put, List.setIfInBounds_toArray, List.set_cons_zero, List.set_cons_succ]
            refine take_l 11 (v := ?_) rfl (by kernel_rfl) (by kernel_rfl) (by kernel_rfl) (fun _ _ _ h => h) (Or.inl ⟨by rfl, ?_⟩) SS.out ?_; rotate_left
            · intro w' hSw
              have hS0 : w'.cell? ae = some (.int .i64 1) := hSw.1
              have hS1 : w'.cell? ⟨ae.block, ae.off + 1, none⟩ = some (.int .i64 o.at_) := hSw.2.1
              have hS3 : w'.cell? ⟨ae.block, ae.off + 3, none⟩ = some (.slice o.bA o.bn o.bc) := hSw.2.2
              clear hSw
              go_simp
              all_goals with_reducible rfl
            try simp only [Act.put, List.setIfInBounds_toArray, List.set_cons_zero, List.set_cons_succ]
            refine take_l 12 (v := ?_) rfl (by kernel_rfl) (by kernel_rfl) (by kernel_rfl) (fun _ _ _ h => h) (Or.inl ⟨by rfl, ?_⟩) SS.out ?_; rotate_left
            · intro w' hSw
              have hS0 : w'.cell? ae = some (.int .i64 1) := hSw.1
              have hS1 : w'.cell? ⟨ae.block, ae.off + 1, none⟩ = some (.int .i64 o.at_) := hSw.2.1
              have hS3 : w'.cell? ⟨ae.block, ae.off + 3, none⟩ = some (.slice o.bA o.bn o.bc) := hSw.2.2
              clear hSw
              go_simp
              all_goals with_reducible rfl
            try simp only [Act.put, List.setIfInBounds_toArray, List.set_cons_zero, List.set_cons_succ]
            refine take_l 13 (v := ?_) rfl (by kernel_rfl) (by kernel_rfl) (by kernel_rfl) (fun _ _ _ h => h) (Or.inl ⟨by rfl, ?_⟩) SS.out ?_; rotate_left
            · intro w' hSw
              have hS0 : w'.cell? ae = some (.int .i64 1) := hSw.1
              have hS1 : w'.cell? ⟨ae.block, ae.off + 1, none⟩ = some (.int .i64 o.at_) := hSw.2.1
              have hS3 : w'.cell? ⟨ae.block, ae.off + 3, none⟩ = some (.slice o.bA o.bn o.bc) := hSw.2.2
              clear hSw
              go_simp
              all_goals with_reducible rfl
            try simp only [Act.put, List.setIfInBounds_toArray, List.set_cons_zero, List.set_cons_succ]
            refine take_l 14 (v := ?_) rfl (by kernel_rfl) (by kernel_rfl) (by kernel_rfl) (fun _ _ _ h => h) (Or.inl ⟨by rfl, ?_⟩) SS.out ?_; rotate_left
            · intro w' hSw
              have hS0 : w'.cell? ae = some (.int .i64 1) := hSw.1
              have hS1 : w'.cell? ⟨ae.block, ae.off + 1, none⟩ = some (.int .i64 o.at_) := hSw.2.1
              have hS3 : w'.cell? ⟨ae.block, ae.off + 3, none⟩ = some (.slice o.bA o.bn o.bc) := hSw.2.2
              clear hSw
              go_simp
              all_goals with_reducible rfl
            try simp only [Act.put, List.setIfInBounds_toArray, List.set_cons_zero, List.set_cons_succ]
            refine take_l 15 (v := ?_) rfl (by kernel_rfl) (by kernel_rfl) (by kernel_rfl) (fun _ _ _ h => h) (Or.inl ⟨by rfl, ?_⟩) SS.out ?_; rotate_left
            · intro w' hSw
              have hS0 : w'.cell? ae = some (.int .i64 1) := hSw.1
              have hS1 : w'.cell? ⟨ae.block, ae.off + 1, none⟩ = some (.int .i64 o.at_) := hSw.2.1
              have hS3 : w'.cell? ⟨ae.block, ae.off + 3, none⟩ = some (.slice o.bA o.bn o.bc) := hSw.2.2
              clear hSw
              go_simp
              all_goals with_reducible rfl
            try simp only [Act.put, List.setIfInBounds_toArray, List.set_cons_zero, List.set_cons_succ]
            refine take_l 16 (v := ?_) rfl (by kernel_rfl) (by kernel_rfl) (by kernel_rfl) (fun _ _ _ h => h) (Or.inl ⟨by rfl, ?_⟩) SS.out ?_; rotate_left
            · intro w' hSw
              have hS0 : w'.cell? ae = some (.int .i64 1) := hSw.1
              have hS1 : w'.cell? ⟨ae.block, ae.off + 1, none⟩ = some (.int .i64 o.at_) := hSw.2.1
              have hS3 : w'.cell? ⟨ae.block, ae.off + 3, none⟩ = some (.slice o.bA o.bn o.bc) := hSw.2.2
              clear hSw
              go_simp
              all_goals with_reducible rfl
            try simp only [Act.put, List.setIfInBounds_toArray, List.set_cons_zero, List.set_cons_succ]
            refine take_l 17 (v := ?_) rfl (by kernel_rfl) (by kernel_rfl) (by kernel_rfl) (fun _ _ _ h => h) (Or.inl ⟨by rfl, ?_⟩) SS.out ?_; rotate_left
            · intro w' hSw
              have hS0 : w'.cell? ae = some (.int .i64 1) := hSw.1
              have hS1 : w'.cell? ⟨ae.block, ae.off + 1, none⟩ = some (.int .i64 o.at_) := hSw.2.1
              have hS3 : w'.cell? ⟨ae.block, ae.off + 3, none⟩ = some (.slice o.bA o.bn o.bc) := hSw.2.2
              clear hSw
              go_simp
              all_goals with_reducible rfl
            try simp only [Act.put, List.setIfInBounds_toArray, List.set_cons_zero, List.set_cons_succ]
            refine wpAnyH_ready (rs := [18]) (by kernel_rfl) (by simp) ?_
            refine cons_l rfl (fun K0 hK => ?_) (AllReadyH.nil)
            go_simp
            (go_at_call 18; (with_reducible refine (WC.out _ BD.out).mono ?_); rintro e w5 ⟨rfl, H5, cw5, d5, -, g5⟩)
            have D5 := Lib.hid d5
            have G5 := Lib.hid (show Gx (Ts g gb Hi) wr w5 from (Gx.of_below BD.out).trans g5)
            have B5 := Lib.hid (HBB.out.trans (ts_below HD.out G5.out))
            have S2 := Lib.hid (show w5.cell? ae = some (.int .i64 1) ∧ w5.cell? ⟨ae.block, ae.off + 1, none⟩ = some (.int .i64 o.at_) ∧ w5.cell? ⟨ae.block, ae.off + 3, none⟩ = some (.slice o.bA o.bn o.bc) from by
              obtain ⟨ad', e1, ae', e2, z0, z1, z2, z3, z4⟩ := od_cells (HO.out.low B5.out) HOO.out
              cases e1
              rw [hae] at e2
              subst e2
              rw [hk1] at z0
              exact ⟨z0, z1, z3⟩)
            clear d5 g5
            refine hK.out _ _ S2.out (fun _ => ?_)
            clear hK K0
            try simp only [Act.put, List.setIfInBounds_toArray, List.set_cons_zero, List.set_cons_succ]
            refine take_l 19 (v := ?_) rfl (by kernel_rfl) (by kernel_rfl) (by kernel_rfl) (fun _ _ _ h => h) (Or.inl ⟨by rfl, ?_⟩) S2.out ?_; rotate_left
            · intro w' hSw
              have hS0 : w'.cell? ae = some (.int .i64 1) := hSw.1
              have hS1 : w'.cell? ⟨ae.block, ae.off + 1, none⟩ = some (.int .i64 o.at_) := hSw.2.1
              have hS3 : w'.cell? ⟨ae.block, ae.off + 3, none⟩ = some (.slice o.bA o.bn o.bc) := hSw.2.2
              clear hSw
              go_simp
              all_goals with_reducible rfl
            try simp only [Act.put, List.setIfInBounds_toArray, List.set_cons_zero, List.set_cons_succ]
            refine take_l 20 (v := ?_) rfl (by kernel_rfl) (by kernel_rfl) (by kernel_rfl) (fun _ _ _ h => h) (Or.inl ⟨by rfl, ?_⟩) S2.out ?_; rotate_left
            · intro w' hSw
              have hS0 : w'.cell? ae = some (.int .i64 1) := hSw.1
              have hS1 : w'.cell? ⟨ae.block, ae.off + 1, none⟩ = some (.int .i64 o.at_) := hSw.2.1
              have hS3 : w'.cell? ⟨ae.block, ae.off + 3, none⟩ = some (.slice o.bA o.bn o.bc) := hSw.2.2
              clear hSw
              go_simp
              all_goals with_reducible rfl
            try simp only [Act.put, List.setIfInBounds_toArray, List.set_cons_zero, List.set_cons_succ]
            refine wpAnyH_done (by kernel_rfl) ?_ _
            have F5 := FW.out w5 G5.out
            have HF5 := Lib.hid F5
            clear F5
            go_wp2_with fail
            exact ⟨⟨i + 1, hs, mi, H5, cw5, by go_num, by omega, HF5.out.1, HMEM.out, D5.out, HU.out.1, HU.out.2.1, HU.out.2.2.1, HU.out.2.2.2, by omega, by omega, HF5.out.2.1, HF5.out.2.2, B5.out⟩, by simp [intOf]; omega⟩
        · have z1 : (o.kd == 1) = false := by rw [beq_eq_false_iff_ne]; exact hk1
          go_upto_region 12 with fail
          go_quiet (fail)
          go_wp2_with fail
          have bq := below_drewN (Below.refl wr.heap.size wr) nq
          have F5 := FW.out _ (Gx.of_below bq)
          exact ⟨⟨i + 1, hs, mi, Hi, cwi, by go_num, by omega, F5.1, HMEM.out, HD.out.below bq, HU.out.1, HU.out.2.1, HU.out.2.2.1, HU.out.2.2.2, by omega, by omega, F5.2.1, F5.2.2, HBB.out.trans (bq.mono HBB.out.size)⟩, by simp [intOf]; omega⟩
      · have q1 : ¬ (i : Int) < (K2 : Int) := by omega
        have HE := held_dd HD.out
        rw [show mi.hd.length = hs.length by rw [HU.out.2.2.2, List.length_map]] at HE
        have HE := Lib.hid HE
        have LO := Lib.hid (Lose_dd HD.out (by omega) A n c cl (HS.out.below HBB.out) HA.out.2.1 HA.out.2.2.1 HA.out.1 (fun ad e _ => by have := HA.out.2.2.2 ad e; have := HD.out.b2; omega))
        have hss5 : (mi.lose cl).ss = sett (chosen cl) 0 (hs.map (fun o => (o.at_.toNat, o.bs))) m3.ss := by
          unfold M.lose
          rw [if_pos HU.out.1]
          show sett (chosen cl) 0 mi.hd mi.ss = _
          rw [HU.out.2.2.1, HU.out.2.2.2]
        have hl5 : (mi.lose cl).ss.length = N := by rw [M.lose_size, HU.out.2.2.1]; exact HN.out
        have MIX := Lib.hid (fun (p : Nat) (hp : p < N) => sett_mix (chosen cl) (hs.map (fun o => (o.at_.toNat, o.bs))) 0 m3.ss p (by rw [HN.out]; exact hp))
        obtain ⟨m5, hm5⟩ : ∃ m5, mi.lose cl = m5 := ⟨_, rfl⟩
        rw [hm5] at hss5 hl5
        have HSS := Lib.hid hss5
        have HL5 := Lib.hid hl5
        have HM5 := Lib.hid hm5
        clear hss5 hl5 hm5 hlt
        go_upto_region 17 with (first
          | (go_at_call 16; (with_reducible refine HE.out.mono ?_); rintro e w9 ⟨rfl, rfl⟩)
          | (go_at_call 14; (with_reducible refine LO.out.mono ?_); rintro e w5 ⟨⟨v5, rfl⟩, H5, d5, o5, g5⟩; rw [HM5.out] at d5; have D5 := Lib.hid d5; have G5 := Lib.hid g5; clear d5 o5 g5))
        have F5 := Lib.hid (FW.out w5 G5.out)
        have B5 := Lib.hid (HBB.out.trans (ts_below HD.out G5.out))
        have X5 := flat_len _ D5.out.ok.row
        rw [HL5.out] at X5
        have BC5 := Lib.hid ((bytes_kd D5.out (by rw [HL5.out]; omega)).mono fun e w' (h : BytK w5 m5.ss.flatten e w') => show ∃ q cap, e = .returned (.slice (some ⟨q, 0, none⟩) (64 * N) cap) ∧ Sl w' (some ⟨q, 0, none⟩) (64 * N) (bl m5.ss.flatten) ∧ w5.heap.size ≤ q ∧ 64 * N ≤ cap ∧ Kd w' q 5 ∧ Below w5.heap.size w5 w' from by unfold BytK at h; rw [X5] at h; exact h)
        have R5 := Lib.hid D5.out.ok.row
        have R3 := Lib.hid D3.out.ok.row
        clear X5
        go_upto_region 18 with (go_at_call 13; (with_reducible refine BC5.out.mono ?_); rintro e w6 ⟨q6, c6, rfl, k1, -, k3, -, k5⟩; have S6 := Lib.hid k1; have B6 := Lib.hid k5; clear k1 k5)
        have S46 := Lib.hid (F5.out.2.1.below B6.out)
        have BB6 := Lib.hid (B5.out.trans (B6.out.mono B5.out.size))
        have OW6 := Lib.hid (own_gx (Gx.of_below (S := []) B6.out) (fun b hb e => by cases e) F5.out.1)
        have c4' := C4.out
        have OL6 := Lib.hid (show Ol w6 w6.heap.size vA hs from by
          obtain ⟨j1, j2⟩ := own_sl5 OW6.out
          exact ⟨j1, fun o ho => ((HO.out.low BB6.out).up BB6.out.size).ok o (HMEM.out o ho).1, j2, by omega⟩)
        obtain ⟨KH, hKH⟩ : ∃ KH, hs.length = KH := ⟨_, rfl⟩
        have HKH := Lib.hid hKH
        rw [hKH] at hle ⊢
        clear hKH
        have e64 : ((64 * N : Nat) : Int).tdiv 64 = (N : Int) := by rw [Int.tdiv_eq_ediv_of_nonneg (by omega)]; omega
        go_wp2_with fail
        go_loopw [16] (fun a wr2 => ∃ p : Nat, a = .int .i64 (p : Int) ∧ p ≤ N ∧ w6 = wr2) (fun a _ => N - (intOf a).toNat)
        case atStart => exact ⟨0, rfl, Nat.zero_le _, rfl⟩
        case round =>
          obtain ⟨p, rfl, hpN, rfl⟩ := hrel
          by_cases hp : p < N
          · have r1 : (p : Int) < (N : Int) := by omega
            have SX := sl_part R5.out (by rw [HL5.out]; exact S6.out) (p := p) (by rw [HL5.out]; exact hp)
            have SY := sl_part R3.out (by rw [HN.out]; exact S46.out) (p := p) (by rw [HN.out]; exact hp)
            have MX := MIX.out p hp
            rw [← HSS.out] at MX
            obtain ⟨P, hP⟩ : ∃ P, 64 * p = P := ⟨_, rfl⟩
            rw [hP] at SX SY
            have e1 : 64 * (p : Int) = (P : Int) := by omega
            have hP4 : P + 64 ≤ 64 * N := by omega
            obtain ⟨x, hx⟩ : ∃ x, m5.ss.getD p [] = x := ⟨_, rfl⟩
            obtain ⟨y, hy⟩ : ∃ y, m3.ss.getD p [] = y := ⟨_, rfl⟩
            rw [hx, hy] at MX
            rw [hx] at SX
            rw [hy] at SY
            have SB := Lib.hid (same_any (some ⟨q6, P, none⟩) (some ⟨q4, P, none⟩) 64 64 (c6 - P) (c4 - P) x y w6 SX SY)
            have HSX := Lib.hid SX
            have HMX := Lib.hid MX
            clear SX SY MX hx hy hP
            go_upto_region 25 with (go_at_call 15; (with_reducible refine SB.out.mono ?_); rintro e w7 ⟨rfl, rfl⟩)
            go_wp2_with fail
            go_loopw [18, 19] (fun ov iv wr3 => ∃ (b : Bool) (i : Nat), ov = .bool b ∧ iv = .int .i64 (i : Int) ∧ i ≤ KH ∧ w6 = wr3 ∧ (b = true ∨ ∃ j o, i ≤ j ∧ hs[j]? = some o ∧ o.at_ = (p : Int) ∧ o.bs = x)) (fun _ iv _ => KH - (intOf iv).toNat)
            case atStart =>
              refine ⟨_, 0, rfl, rfl, Nat.zero_le _, rfl, ?_⟩
              rcases HMX.out with e | ⟨z, hz, e1, e2⟩
              · exact .inl (decide_eq_true (by rw [e]))
              · obtain ⟨o, ho, rfl⟩ := List.mem_map.1 hz
                obtain ⟨j, hj⟩ := List.getElem?_of_mem ho
                have h0 := (HMEM.out o ho).2
                exact .inr ⟨j, o, Nat.zero_le _, hj, by have e1' : o.at_.toNat = p := e1; omega, e2.symm⟩
            case round =>
              obtain ⟨b, i2, rfl, rfl, hi3, rfl, hw⟩ := hrel
              by_cases h2 : i2 < KH
              · have r2 : (i2 : Int) < (KH : Int) := by omega
                obtain ⟨o, ho⟩ : ∃ o, hs[i2]? = some o := ⟨_, List.getElem?_eq_getElem (by have := HKH.out; omega)⟩
                obtain ⟨ad, rfl, ae, hae, k0, k1, k2, k3, k4⟩ := od_cells OL6.out ho
                cases b with
                | true =>
                  clear hw ho
                  go_wp2_with fail
                  exact ⟨⟨true, i2 + 1, rfl, by go_num, by omega, trivial, .inl rfl⟩, by simp [intOf]; omega⟩
                | false =>
                  have hw := hw.resolve_left (by decide)
                  by_cases hat : o.at_ = (p : Int)
                  · have hok := OL6.out.ok o (List.mem_of_getElem? ho)
                    have SB2 := same_any (some ⟨q6, P, none⟩) o.bA 64 o.bn (c6 - P) o.bc x o.bs w6 HSX.out hok.b
                    by_cases ht : txt x = txt o.bs
                    · rw [decide_eq_true ht] at SB2
                      have SB2 := Lib.hid SB2
                      clear hw ho hok ht
                      go_wp2_with (go_at_call 15; (with_reducible refine SB2.out.mono ?_); rintro e w7 ⟨rfl, rfl⟩)
                      exact ⟨⟨true, i2 + 1, rfl, by go_num, by omega, trivial, .inl rfl⟩, by simp [intOf]; omega⟩
                    · rw [decide_eq_false ht] at SB2
                      have SB2 := Lib.hid SB2
                      obtain ⟨j, o', g1, g2, g3, g4⟩ := hw
                      have HW := Lib.hid (show i2 + 1 ≤ j ∧ hs[j]? = some o' ∧ o'.at_ = (p : Int) ∧ o'.bs = x from by
                        refine ⟨?_, g2, g3, g4⟩
                        rcases Nat.eq_or_lt_of_le g1 with e | e
                        · subst e; rw [ho] at g2; cases g2; exact absurd (by rw [g4]) ht
                        · exact e)
                      clear ho hok ht g1 g2 g3 g4
                      go_wp2_with (go_at_call 15; (with_reducible refine SB2.out.mono ?_); rintro e w7 ⟨rfl, rfl⟩)
                      exact ⟨⟨false, i2 + 1, rfl, by go_num, by omega, trivial, .inr ⟨j, o', HW.out.1, HW.out.2.1, HW.out.2.2.1, HW.out.2.2.2⟩⟩, by simp [intOf]; omega⟩
                  · have z1 : (o.at_ == (p : Int)) = false := by rw [beq_eq_false_iff_ne]; exact hat
                    obtain ⟨j, o', g1, g2, g3, g4⟩ := hw
                    have HW := Lib.hid (show i2 + 1 ≤ j ∧ hs[j]? = some o' ∧ o'.at_ = (p : Int) ∧ o'.bs = x from by
                      refine ⟨?_, g2, g3, g4⟩
                      rcases Nat.eq_or_lt_of_le g1 with e | e
                      · subst e; rw [ho] at g2; cases g2; exact absurd g3 hat
                      · exact e)
                    clear ho hat g1 g2 g3 g4
                    go_wp2_with fail
                    exact ⟨⟨false, i2 + 1, rfl, by go_num, by omega, trivial, .inr ⟨j, o', HW.out.1, HW.out.2.1, HW.out.2.2.1, HW.out.2.2.2⟩⟩, by simp [intOf]; omega⟩
              · have r2 : ¬ (i2 : Int) < (KH : Int) := by omega
                obtain rfl : b = true := by
                  rcases hw with h | ⟨j, o', g1, g2, -⟩
                  · exact h
                  · have := (List.getElem?_eq_some_iff.1 g2).1; have := HKH.out; omega
                clear hw h2 hi3
                go_wp2_with fail
                exact ⟨⟨p + 1, by go_num, by omega, trivial⟩, by simp [intOf]; omega⟩
          · have r1 : ¬ (p : Int) < (N : Int) := by omega
            go_wp2_with (go_at_call 10; (with_reducible refine (KN.out _).mono ?_); rintro e w7 ⟨rfl, hb2⟩; have B7 := Lib.hid hb2; clear hb2)
            go_ret
            exact ⟨rfl, BB6.out.trans (B7.out.mono BB6.out.size)⟩
end Go.Proofs.Ytbgkdbjineennaa.Dk
