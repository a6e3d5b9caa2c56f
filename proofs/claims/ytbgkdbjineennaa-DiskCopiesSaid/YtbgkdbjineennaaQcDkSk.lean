/- Joined texts. -/
import Derived.Test.YtbgkdbjineennaaQcDkSj
set_option linter.unusedVariables false
namespace Go.Proofs.Ytbgkdbjineennaa.Dk
open Go.IntWalk Go.RowKit Go.Proofs.Ytbgkdbjineennaa.Gn Go.Proofs.Ytbgkdbjineennaa.Fd Go.Deep
theorem find_last(p:Nat):∀(hd:List (Nat × List Nat)) (j:Nat) (q:Nat × List Nat),hd[j]?=some q→q.1=p→(∀(k:Nat) (r:Nat × List Nat),j < k→hd[k]?=some r→r.1≠p)→hd.reverse.find? (fun h=>h.1 == p)=some q:=by
 intro hd
 induction hd with
 |nil=>intro j q h;simp at h
 |cons a t ih =>
  intro j q h hq hn
  rw[List.reverse_cons,List.find?_append]
  cases j with
  |zero =>
   obtain rfl:a=q:=by simpa using h
   have:t.reverse.find? (fun h=>h.1 == p)=none:=by
    rw[List.find?_eq_none]
    intro x hx
    obtain⟨k,hk⟩:=List.getElem?_of_mem (List.mem_reverse.1 hx)
    have:=hn (k+1) x (by omega) (by simpa using hk)
    simpa using this
   rw[this]
   simp[hq]
  |succ j =>
   rw[ih j q (by simpa using h) hq fun k r hk hr=>hn (k+1) r (by omega) (by simpa using hr)]
   rfl
theorem find_none(p:Nat)(hd:List (Nat × List Nat))(h:∀(k:Nat) (r:Nat × List Nat),hd[k]?=some r→r.1≠p):hd.reverse.find? (fun h=>h.1 == p)=none:=by
 rw[List.find?_eq_none]
 intro x hx
 obtain⟨k,hk⟩:=List.getElem?_of_mem (List.mem_reverse.1 hx)
 simpa using h k x hk
section
variable {w:World} {base g gb:Nat} {H:Value} {cs:Bool} {cw:Int} {ch:Value} {m:M}
def ReadQ(w:World)(l:List Nat)(e:Ending)(w':World):Prop:=∃(q cap:Nat),e=.returned (.tuple #[.slice (some ⟨q,0,none⟩) 64 cap,.int .i64 0])∧Sl w' (some ⟨q,0,none⟩) 64 (bl l)∧w.heap.size≤q∧Below w.heap.size w w'∧64≤cap
theorem CloneQ.sl{l:List Nat}{w w':World}{e:Ending}(h:CloneQ l w e w'):∃q cap,e=.returned (.slice (some ⟨q,0,none⟩) l.length cap)∧Sl w' (some ⟨q,0,none⟩) l.length (bl l)∧w.heap.size≤q∧Below w.heap.size w w'∧l.length≤cap:=by
 obtain⟨q,cap,cur,rfl,k1,k2,k3,k4,k5,k6⟩:=h
 refine⟨q,cap,rfl,Sl.of_bl k1 0 _ _ (by rw[bl_length]) fun k v hk=>?_,k5,k6,k2⟩
 rw[Nat.zero_add]
 have hkl:k < l.length:=by have:=(List.getElem?_eq_some_iff.1 hk).1;rwa [bl_length] at this
 rw[←k4,List.getElem?_take,if_pos hkl] at hk
 rwa [Array.getElem?_toList] at hk
set_option maxRecDepth 100000 in
set_option maxHeartbeats 4000000 in
theorem Read_held (D : Dd w base g gb H cs cw ch m) (hk : m.hd.length < 1000000) (p : Nat) (h0 : m.reach (p : Int) = 0) : Calls Try.prog 24 #[.pointer (some ⟨g, 0, none⟩), .int .i64 (p : Int)] w (ReadQ w (m.at_ p)) := by
  have C := reach_dd D p
  rw [h0] at C
  have C := Lib.hid C
  obtain ⟨hu, -, hp⟩ := M.reach_ok h0
  have hp : p < m.ss.length := by omega
  have SC := Lib.hid (sector_any (bs := []) D.blk m.ss.length p rfl hp D.n9 D.ok.cpn)
  have hfl := flat_len _ D.ok.row
  have hat := flat_at _ p D.ok.row hp
  have hrow : (m.ss.getD p []).length = 64 := by rw [← hat, List.length_take, List.length_drop, hfl]; omega
  have CS := Clone_any (some ⟨gb, 64 * p, none⟩) 64 (m.cp - 64 * p) (m.ss.getD p []) w (by decide) (by decide) (by have := D.ok.cpn; omega) (Sl.of_bl D.byt (64 * p) _ _ (by rw [bl_length]; exact hrow) fun k v hk => by
    rw [← hat] at hk
    have hkl : k < 64 := by have := (List.getElem?_eq_some_iff.1 hk).1; rw [bl_length, hat, hrow] at this; exact this
    unfold bl at hk ⊢
    rw [List.getElem?_map, List.getElem?_take, if_pos hkl, List.getElem?_drop] at hk
    have hkl2 : 64 * p + k < (bl m.ss.flatten).length := by rw [bl_length, hfl]; omega
    unfold bl at hkl2
    rw [List.getElem?_toArray, List.getElem?_append_left hkl2, List.getElem?_map]
    exact hk)
  have CS := Lib.hid CS
  have HR := Lib.hid hrow
  have d1 := D.blk.c1
  have hx := D.ok.long
  obtain ⟨hl, ⟨rfl, hn0⟩ | ⟨gh, cap, cur, rfl, hb, hh, h1, h2, h3, h4⟩⟩ := D.own
  · have hd0 : m.hd = [] := List.length_eq_zero_iff.1 hn0
    have E := Lib.hid (show m.at_ p = m.ss.getD p [] by unfold M.at_; rw [hd0]; rfl)
    clear D hl hn0 hd0 hx hat hfl hrow h0 hp hu
    go_enter Try.func24, Try.ntmps24
    go_wp2_with (go_at_call 37; (with_reducible refine C.out.mono ?_); rintro e w1 ⟨rfl, rfl⟩)
    go_loopw [27] (fun s wr => s = .int .i64 0 ∧ w = wr) (fun _ _ => 0)
    case atStart => exact ⟨rfl, rfl⟩
    case round =>
      obtain ⟨rfl, rfl⟩ := hrel
      go_wp2_with (first | (go_at_call 41; (with_reducible refine SC.out.mono ?_); rintro e w1 ⟨rfl, rfl⟩) | (go_at_call 35; (with_reducible refine CS.out.mono ?_); intro e w2 hq; obtain ⟨q, qc, rfl, k1, k2, k3, k4⟩ := hq.sl; rw [HR.out] at k1 k4 ⊢; have K4 := Lib.hid k4; have K1 := Lib.hid k1; have K2 := Lib.hid k2; have K3 := Lib.hid k3; clear hq k1 k2 k3 k4))
      go_ret2
      exact ⟨q, qc, rfl, by rw [E.out]; exact K1.out, K2.out, K3.out, K4.out⟩
  · have cells : ∀ (i : Nat) (q : Nat × List Nat), m.hd[i]? = some q → ∀ j, j < 65 → cur[i * 65 + j]? = (wv q.1 q.2)[j]? := by
      intro i q hq j hj
      have hi : i < m.hd.length := (List.getElem?_eq_some_iff.1 hq).1
      rw [← hrow_at m.hd i q j hx hq hj, ← h4, List.getElem?_take, if_pos (by omega), Array.getElem?_toList]
    have HAT := Lib.hid (fun (i : Nat) (q : Nat × List Nat) (hq : m.hd[i]? = some q) => show w.cell? ⟨gh, i * 65, none⟩ = some (.int .i64 (q.1 : Int)) from Bl.cell_ hh (by have := cells i q hq 0 (by omega); rw [Nat.add_zero] at this; rw [this]; rfl))
    have HSL := Lib.hid (fun (i : Nat) (q : Nat × List Nat) (hq : m.hd[i]? = some q) => show Sl w (some ⟨gh, i * 65 + 1, none⟩) 64 (bl q.2) from Sl.of_bl hh (i * 65 + 1) _ _ (by rw [bl_length]; exact hx q (List.mem_of_getElem? hq)) fun k v hk => by
      have hk64 : k < 64 := by have := (List.getElem?_eq_some_iff.1 hk).1; rwa [bl_length, hx q (List.mem_of_getElem? hq)] at this
      have := cells i q hq (1 + k) (by omega)
      rw [Nat.add_assoc, this, Nat.add_comm 1 k]
      simpa [wv] using hk)
    have HX := Lib.hid hx
    have AT := Lib.hid (fun (j : Nat) (q : Nat × List Nat) (hq : m.hd[j]? = some q) (hp : q.1 = p) (hn : ∀ (k : Nat) (r : Nat × List Nat), j < k → m.hd[k]? = some r → r.1 ≠ p) => show m.at_ p = q.2 by unfold M.at_; rw [find_last p m.hd j q hq hp hn]; rfl)
    have AN := Lib.hid (fun (hn : ∀ (k : Nat) (r : Nat × List Nat), m.hd[k]? = some r → r.1 ≠ p) => show m.at_ p = m.ss.getD p [] by unfold M.at_; rw [find_none p m.hd hn]; rfl)
    obtain ⟨hd, hhd⟩ : ∃ hd, m.hd = hd := ⟨_, rfl⟩
    rw [hhd] at HAT HSL HX AT AN d1 hk
    obtain ⟨K, hK⟩ : ∃ K, hd.length = K := ⟨_, rfl⟩
    have HKK := Lib.hid hK
    rw [hK] at d1 hk
    clear D hl hhd hK hx hat hfl hrow h0 hp hu cells hh hb h1 h2 h3 h4
    go_enter Try.func24, Try.ntmps24
    go_wp2_with (go_at_call 37; (with_reducible refine C.out.mono ?_); rintro e w1 ⟨rfl, rfl⟩)
    go_loopw [27] (fun s wr => ∃ i : Nat, i ≤ K ∧ s = .int .i64 (i : Int) ∧ w = wr ∧ ∀ (k : Nat) (r : Nat × List Nat), K - i ≤ k → hd[k]? = some r → r.1 ≠ p) (fun s _ => K - (intOf s).toNat)
    case atStart =>
      refine ⟨0, Nat.zero_le _, rfl, rfl, fun k r h1 h2 => ?_⟩
      have := (List.getElem?_eq_some_iff.1 h2).1
      have := HKK.out
      omega
    case round =>
      obtain ⟨i, hi, rfl, rfl, hn⟩ := hrel
      have HN := Lib.hid hn
      clear hn
      by_cases hlt : i < K
      · obtain ⟨j, hj⟩ : ∃ j, K = i + j + 1 := ⟨K - i - 1, by omega⟩
        have q1 : (i : Int) < (K : Int) := by omega
        obtain ⟨q, hq⟩ : ∃ q, hd[j]? = some q := ⟨_, List.getElem?_eq_getElem (by have := HKK.out; omega)⟩
        have HQ := Lib.hid hq
        have HATq := HAT.out j q hq
        have CQ := Clone_any (some ⟨gh, j * 65 + 1, none⟩) 64 64 q.2 w (by decide) (by decide) (Nat.le_refl _) (HSL.out j q hq)
        have HL := Lib.hid (HX.out q (List.mem_of_getElem? hq))
        obtain ⟨o, ho⟩ : ∃ o, j * 65 = o := ⟨_, rfl⟩
        rw [ho] at HATq CQ
        have CQ := Lib.hid CQ
        have e1 : (K : Int) - 1 - (i : Int) = (j : Int) := by omega
        have p0 : (0 : Int) ≤ (j : Int) := by omega
        have p1 : (j : Int) < (K : Int) := by omega
        have HJ := Lib.hid hj
        clear hq hj
        by_cases hp : q.1 = p
        · have t1 : ((q.1 : Int) == (p : Int)) = true := by rw [hp]; simp
          go_wp2_with (go_at_call 35; (with_reducible refine CQ.out.mono ?_); intro e w2 hq; obtain ⟨q', qc, rfl, k1, k2, k3, k4⟩ := hq.sl; rw [HL.out] at k1 k4 ⊢; have K4 := Lib.hid k4; have K1 := Lib.hid k1; have K2 := Lib.hid k2; have K3 := Lib.hid k3; clear hq k1 k2 k3 k4)
          go_ret2
          exact ⟨q', qc, rfl, by rw [AT.out j q HQ.out hp fun k r h1 h2 => HN.out k r (by have := HJ.out; omega) h2]; exact K1.out, K2.out, K3.out, K4.out⟩
        · have t1 : ((q.1 : Int) == (p : Int)) = false := by rw [beq_eq_false_iff_ne]; omega
          go_wp2_with fail
          refine ⟨⟨i + 1, by omega, by go_num, trivial, fun k r h1 h2 => ?_⟩, by simp [intOf]; omega⟩
          by_cases hkj : k = j
          · subst hkj
            have := HQ.out
            rw [h2] at this
            cases this
            exact hp
          · exact HN.out k r (by have := HJ.out; omega) h2
      · obtain rfl : i = K := by omega
        have q1 : ¬ (i : Int) < (i : Int) := by omega
        go_wp2_with (first | (go_at_call 41; (with_reducible refine SC.out.mono ?_); rintro e w1 ⟨rfl, rfl⟩) | (go_at_call 35; (with_reducible refine CS.out.mono ?_); intro e w2 hq; obtain ⟨q, qc, rfl, k1, k2, k3, k4⟩ := hq.sl; rw [HR.out] at k1 k4 ⊢; have K4 := Lib.hid k4; have K1 := Lib.hid k1; have K2 := Lib.hid k2; have K3 := Lib.hid k3; clear hq k1 k2 k3 k4))
        go_ret2
        exact ⟨q, qc, rfl, by rw [AN.out fun k r h2 => HN.out k r (by omega) h2]; exact K1.out, K2.out, K3.out, K4.out⟩
end
end Go.Proofs.Ytbgkdbjineennaa.Dk
