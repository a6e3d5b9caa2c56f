/- Joined texts. -/
import Derived.Test.YtbgkdbjineennaaQcDkPs
import Derived.Test.YtbgkdbjineennaaQcDkH
set_option linter.unusedVariables false
namespace Go.Proofs.Ytbgkdbjineennaa.Dk
open Go.IntWalk Go.RowKit Go.Proofs.Ytbgkdbjineennaa.Gn Go.Proofs.Ytbgkdbjineennaa.Fd Go.Deep
theorem zcs_one(k:Nat):∀v∈(Builtin.zeroCells z0 k).toList,v.oneCell'=true:=by
 intro v hv
 simp only[Builtin.zeroCells,Array.toList_map,Array.toList_range,List.mem_map] at hv
 obtain⟨i,-, rfl⟩:=hv
 have h0:z0.size=65:=by kernel_rfl
 have hm:i%z0.size < z0.size:=Nat.mod_lt _ (by omega)
 have e:z0[i%z0.size]! = z0[i%z0.size]'hm:=by simp[hm]
 rw[e]
 have hz:∀v∈z0.toList,v.oneCell'=true:=by
  intro v hv
  simp only[z0,List.mem_cons,List.mem_replicate] at hv
  rcases hv with rfl|⟨-, rfl⟩ <;> rfl
 exact hz _ (by simp)
theorem clear_any(w:World)(gh cap k:Nat)(cur:Array Value)(h:Bl w gh 67 cur)(hs:k*65≤cur.size)(ty:TypeId) :
  ∃w' cur',(Builtin.clear_ #[56] ty #[.slice (some ⟨gh,0,none⟩) k cap]).run Try.prog w=.ok (.tuple #[]) w'∧Bl w' gh 67 cur'∧cur'.size=cur.size∧w.grownBy w' (some gh):=by
 obtain⟨i0,hi,hz0,hz1,hz2⟩:=info_parts infoW
 have hl:(Builtin.zeroCells z0 k).toList.length=k*65:=by rw[Array.length_toList];simp[Builtin.zeroCells];rw[show z0.size=65 by kernel_rfl]
 obtain⟨w',h1,h2,h3⟩:=run_store_bl Try.prog h 0 (Builtin.zeroCells z0 k).toList (by rw[hl];omega) (zcs_one k)
 cases k with
 |zero=>exact⟨w,cur,by simp[Builtin.clear_,run_underlying Try.underlying56],h,rfl,⟨rfl,rfl,rfl,Nat.le_refl _,fun _ _ _=>rfl⟩⟩
 |succ k =>
  refine⟨w',_,?_,h2,?_,h3⟩
  ·simp[Builtin.clear_,run_underlying Try.underlying56,zeroValue,typeInfo,hi,hz0,Value.cells]
   rw[h1]
   rfl
  ·exact spl_size _ _ _
theorem fk_run{op:Oper}{a:Act}{w:World}(x:Operand)(k:Nat)(hk:k < 2)(ho:op.op=.fieldAddr 67 x k)(g o:Nat)(hx:a.eval x=.pointer (some ⟨g,o,none⟩)):(execOp a.eval op).run Try.prog w=.ok (.value (.pointer (some ⟨g,o+k,none⟩))) w:=by
 unfold execOp
 rw[ho]
 simp only[hx]
 rcases k with _|_|k
 ·kernel_rfl
 ·kernel_rfl
 ·omega
theorem sk_run{op:Oper}{a:Act}{w:World}(x:Operand)(ho:op.op=.slice 65 x none none none)(g o:Nat)(hx:a.eval x=.pointer (some ⟨g,o,none⟩)):(execOp a.eval op).run Try.prog w=.ok (.value (.slice (some ⟨g,o,none⟩) 64 64)) w:=by
 unfold execOp
 rw[ho]
 simp only[hx]
 kernel_rfl
def Sx(gb:Nat)(tl:List Value)(m:Nat)(R:List (List Nat))(f:Nat→Bool)(hd:List (Nat × List Nat))(i:Nat)(w:World):Prop:=∃ss:List (List Nat),RT w gb ss.flatten tl∧(∀s∈ss,s.length=64)∧ss.length=m∧sett f i (hd.drop i) ss=R
section
variable {g gb cp:Nat} {tl:List Value} {up:Bool} {st:Int} {cs:Bool} {cw:Int} {ch:Value} {w:World}
set_option maxRecDepth 100000 in
set_option maxHeartbeats 4000000 in
theorem settle_all (gh cap n m : Nat) (hn : n = 64 * m) (hm0 : 0 < m) (hm9 : m ≤ 100000) (hcp : n ≤ cp) (hd : List (Nat × List Nat)) (K : Nat) (hK : hd.length = K) (ss : List (List Nat)) (cur : Array Value) (h : DB w g gb n cp (.slice (some ⟨gh, 0, none⟩) K cap) up st cs cw ch) (hr : RT w gb ss.flatten tl) (hss : ∀ s ∈ ss, s.length = 64) (hsm : ss.length = m) (hp : ∀ x ∈ hd, x.1 < m) (hx : ∀ x ∈ hd, x.2.length = 64) (hh : Bl w gh 67 cur) (hcap : K ≤ cap) (hk9 : K < 1000000) (hcur : cur.size = cap * 65) (htk : cur.toList.take (K * 65) = hrow hd) (hg1 : g ≠ gb) (hg2 : g ≠ gh) (hg3 : gb ≠ gh) (f : Nat → Bool)
    (C : ∀ i : Nat, i < K → ∀ W, Gx [gb] w W → Calls Try.prog 34 #[.int .i64 (i : Int)] W fun e w' => e = .returned (.bool (f i)) ∧ W = w') :
    Calls Try.prog 33 #[.pointer (some ⟨g, 0, none⟩), .func (.func 34) #[] #[]] w fun e w' => (∃ v, e = .returned v) ∧ ∃ cur', DB w' g gb n cp (.slice (some ⟨gh, 0, none⟩) 0 cap) up st cs cw ch ∧ RT w' gb (sett f 0 hd ss).flatten tl ∧ Bl w' gh 67 cur' ∧ cur'.size = cap * 65 ∧ Gx [g, gb, gh] w w' := by
  have c1 := h.c1
  have H := Lib.hid h
  have HH := Lib.hid hh
  have HC := Lib.hid C
  have SC := Lib.hid (fun (W : World) (hW : DB W g gb n cp (.slice (some ⟨gh, 0, none⟩) K cap) up st cs cw ch) (p : Nat) (hp : p < m) => sector_any (bs := []) hW m p hn hp hm9 hcp)
  have cells : ∀ (i : Nat) (q : Nat × List Nat), hd[i]? = some q → ∀ j, j < 65 → cur[i * 65 + j]? = (wv q.1 q.2)[j]? := by
    intro i q hq j hj
    have hi : i < K := hK ▸ (List.getElem?_eq_some_iff.1 hq).1
    rw [← hrow_at hd i q j hx hq hj, ← htk, List.getElem?_take, if_pos (by omega), Array.getElem?_toList]
  have HAT := Lib.hid (fun (W : World) (hW : Bl W gh 67 cur) (i : Nat) (q : Nat × List Nat) (hq : hd[i]? = some q) => show W.cell? ⟨gh, i * 65, none⟩ = some (.int .i64 (q.1 : Int)) from hW.cell_ (by have := cells i q hq 0 (by omega); rw [Nat.add_zero] at this; rw [this]; rfl))
  have HSL := Lib.hid (fun (W : World) (hW : Bl W gh 67 cur) (i : Nat) (q : Nat × List Nat) (hq : hd[i]? = some q) => show Sl W (some ⟨gh, i * 65 + 1, none⟩) 64 (bl q.2) from Sl.of_bl hW (i * 65 + 1) _ _ (by rw [bl_length]; exact hx q (List.mem_of_getElem? hq)) fun k v hk => by
    have hk64 : k < 64 := by have := (List.getElem?_eq_some_iff.1 hk).1; rwa [bl_length, hx q (List.mem_of_getElem? hq)] at this
    have := cells i q hq (1 + k) (by omega)
    rw [Nat.add_assoc, this, Nat.add_comm 1 k]
    simpa [wv] using hk)
  have S0 := Lib.hid (show Sx gb tl m (sett f 0 hd ss) f hd 0 w from ⟨ss, hr, hss, hsm, rfl⟩)
  have HP := Lib.hid hp
  have HX := Lib.hid hx
  have HN := Lib.hid hn
  have HKK := Lib.hid hK
  obtain ⟨R, hR⟩ : ∃ R, sett f 0 hd ss = R := ⟨_, rfl⟩
  rw [hR] at S0 ⊢
  have HCUR := Lib.hid hcur
  have HCAP := Lib.hid hcap
  clear h hr hss hsm hp hx hh hcur htk cells C hn hK hR hcap
  go_enter Try.func33, Try.ntmps33
  go_wp2_with fail
  go_loopw [11] (fun s wr => ∃ i : Nat, i ≤ K ∧ s = .int .i64 (i : Int) ∧ Gx [gb] w wr ∧ Sx gb tl m R f hd i wr) (fun s _ => K - (intOf s).toNat)
  case atStart => exact ⟨0, Nat.zero_le _, rfl, Gx.refl _ _, S0.out⟩
  case round =>
    obtain ⟨i, hi, rfl, hG, hS⟩ := hrel
    have HG := Lib.hid hG
    have HS := Lib.hid hS
    have DBw := Lib.hid (DB.kept H.out hG (by simpa using hg1))
    have BHw := Lib.hid (hG.bl (by simpa using Ne.symm hg3) HH.out)
    have d1 := DBw.out.c1
    clear hG hS
    by_cases hlt : i < K
    · have q1 : (i : Int) < (K : Int) := by omega
      have q0 : (0 : Int) ≤ (i : Int) := by omega
      have HCi := Lib.hid (HC.out i hlt _ HG.out)
      cases hf : f i with
      | false =>
        rw [hf] at HCi
        go_wp2_with (go_at_call 34; (with_reducible refine HCi.out.mono ?_); rintro e w1 ⟨rfl, rfl⟩)
        refine ⟨⟨i + 1, by omega, by go_num, HG.out, ?_⟩, by simp [intOf]; omega⟩
        obtain ⟨ss, k1, k2, k3, k4⟩ := HS.out
        obtain ⟨q, hq⟩ : ∃ q, hd[i]? = some q := ⟨_, List.getElem?_eq_getElem (by have := HKK.out; omega)⟩
        exact ⟨ss, k1, k2, k3, by rw [sett_step f hd i q hq, hf, if_neg (by decide)] at k4; exact k4⟩
      | true =>
        rw [hf] at HCi
        obtain ⟨q, hq⟩ : ∃ q, hd[i]? = some q := ⟨_, List.getElem?_eq_getElem (by have := HKK.out; omega)⟩
        have HQ := Lib.hid hq
        obtain ⟨S, k1, k2, k3, k4⟩ := HS.out
        have KS := Lib.hid k2
        have KL := Lib.hid k3
        have KR := Lib.hid k4
        have HPq := Lib.hid (HP.out q (List.mem_of_getElem? hq))
        have HATq := Lib.hid (HAT.out wr BHw.out i q hq)
        have HSLq := Lib.hid (HSL.out wr BHw.out i q hq)
        have CP := Lib.hid (show ∀ W, (W = wr ∨ W = wr.drew) → ∃ w3, (Builtin.copy_ #[22, 22] 3 #[.slice (some ⟨gb, 64 * q.1, none⟩) 64 (cp - 64 * q.1), .slice (some ⟨gh, i * 65 + 1, none⟩) 64 64]).run Try.prog W = .ok (.int .i64 ((64 : Nat) : Int)) w3 ∧ Bl w3 gb 5 (bl (S.set q.1 q.2).flatten ++ tl).toArray ∧ wr.grownBy w3 (some gb) from by
          intro W hW
          have hrW : Bl W gb 5 (bl S.flatten ++ tl).toArray := by rcases hW with e | e <;> rw [e] <;> exact k1
          have hsW : Sl W (some ⟨gh, i * 65 + 1, none⟩) 64 (bl q.2) := by rcases hW with e | e <;> rw [e] <;> exact HSLq.out
          have hx64 := HX.out q (List.mem_of_getElem? hq)
          have hp1 := HPq.out
          have hfl := flat_len S k2
          obtain ⟨w3, e1, e2, e3⟩ := run_copy_bl (ty := 3) Try.prog 22 22 5 Try.underlying22 (by kernel_rfl) gb (64 * q.1) 64 (cp - 64 * q.1) ⟨gh, i * 65 + 1, none⟩ 64 64 5 _ hrW (bl q.2) hsW 64 rfl (by rw [List.size_toArray, List.length_append, bl_length, hfl]; omega) (bl_one q.2)
          rw [List.take_of_length_le (by rw [bl_length]; omega), spl_tail tl k2 (by omega) hx64] at e2
          exact ⟨w3, e1, e2, by rcases hW with rfl | rfl <;> exact ⟨e3.os, e3.tape, e3.output, e3.size, e3.block⟩⟩)
        obtain ⟨o, ho⟩ : ∃ o, i * 65 = o := ⟨_, rfl⟩
        rw [ho] at HATq HSLq CP
        clear hq k1 k2 k3 k4
        go_upto_region 5 with (go_at_call 34; (with_reducible refine HCi.out.mono ?_); rintro e w1 ⟨rfl, rfl⟩)
        have hmx : Try.prog.follows .mixedOrders = true := by kernel_rfl
        refine wp_region_free (fun i v _ => WT [some (.pointer (some ⟨g, 0, none⟩)), some (.pointer (some ⟨gh, o, none⟩)), some (.pointer (some ⟨gh, o, none⟩)), some (.pointer (some ⟨gh, o, none⟩)), some (.int .i64 (q.1 : Int)), some (.slice (some ⟨gb, 64 * q.1, none⟩) 64 (cp - 64 * q.1)), some (.pointer (some ⟨gh, o, none⟩)), some (.pointer (some ⟨gh, o, none⟩)), some (.pointer (some ⟨gh, o + 1, none⟩)), some (.slice (some ⟨gh, o + 1, none⟩) 64 64), none] i v) (fun L _ W => JC gb (bl (S.set q.1 q.2).flatten ++ tl).toArray wr L W) (fun _ _ => True) hmx (by kernel_rfl) (by kernel_rfl) (fun _ _ _ _ h _ => h) ?h0 ?each ?fin
        case h0 => exact fun γ => ⟨⟨fun _ => .inr rfl, fun e => by cases e⟩, ⟨fun _ => .inl rfl, fun e => by cases e⟩⟩
        case fin =>
          intro L γ W hL hT hJ
          obtain ⟨hb3, hg3⟩ := hJ.2 (hL 10 (by decide))
          have HB3 := Lib.hid hb3
          have HG3 := Lib.hid hg3
          clear hT hJ hL hb3 hg3
          unfold fr
          simp only [List.map_cons, List.map_nil, Gn.fill, List.setIfInBounds_toArray, List.set_cons_zero, List.set_cons_succ]
          go_wp2_with fail
          refine ⟨⟨i + 1, by omega, by go_num, HG.out.trans (Gx.of_grown HG3.out (by simp)), S.set q.1 q.2, HB3.out, ?_, by rw [List.length_set]; exact KL.out, by have := KR.out; rw [sett_step f hd i q HQ.out, hf, if_pos rfl] at this; exact this⟩, by simp [intOf]; omega⟩
          intro s hs
          rcases List.mem_or_eq_of_mem_set hs with h | rfl
          · exact KS.out s h
          · exact HX.out q (List.mem_of_getElem? HQ.out)
        case each =>
          refine each_ox ?_
          refine Each.cons ?_ <| Each.cons ?_ <| Each.cons ?_ <| Each.cons ?_ <| Each.cons ?_ <| Each.cons ?_ <| Each.cons ?_ <| Each.cons ?_ <| Each.cons ?_ <| Each.cons ?_ <| Each.cons ?_ <| Each.nil
          · exact OX.val (.pointer (some ⟨g, 0, none⟩)) rfl (fun L γ W1 hLi hcl hJ hd => by kernel_rfl) (fun _ => WT.has rfl) (fun L γ W1 hLi hJ => hJ.mark 0 (by decide)) (fun _ => trivial)
          · exact OX.val (.pointer (some ⟨gh, o, none⟩)) rfl (fun L γ W1 hLi hcl hJ hd => by kernel_rfl) (fun _ => WT.has rfl) (fun L γ W1 hLi hJ => hJ.mark 1 (by decide)) (fun _ => trivial)
          · exact OX.val (.pointer (some ⟨gh, o, none⟩)) rfl (fun L γ W1 hLi hcl hJ hd => run_nil (.tmp 24) rfl gh o (Eq.trans (b := γ 1) (by kernel_rfl) ((hd 1 (by kernel_rfl)).is (u := .pointer (some ⟨gh, o, none⟩)) rfl))) (fun _ => WT.has rfl) (fun L γ W1 hLi hJ => hJ.mark 2 (by decide)) (fun _ => trivial)
          · exact OX.val (.pointer (some ⟨gh, o, none⟩)) rfl (fun L γ W1 hLi hcl hJ hd => fk_run (.tmp 25) 0 (by decide) rfl gh o (Eq.trans (b := γ 2) (by kernel_rfl) ((hd 2 (by kernel_rfl)).is (u := .pointer (some ⟨gh, o, none⟩)) rfl))) (fun _ => WT.has rfl) (fun L γ W1 hLi hJ => hJ.mark 3 (by decide)) (fun _ => trivial)
          · exact OX.val (.int .i64 (q.1 : Int)) rfl (fun L γ W1 hLi hcl hJ hd => run_cell_op 3 (.tmp 26) rfl ⟨gh, o, none⟩ (Eq.trans (b := γ 3) (by kernel_rfl) ((hd 3 (by kernel_rfl)).is (u := .pointer (some ⟨gh, o, none⟩)) rfl)) (.int .i64 (q.1 : Int)) (by rcases (hJ.1 (off' fun e => by have h1 := hcl 10 _ rfl e 5 (by kernel_rfl); have h2 := hcl 5 _ rfl h1 4 (by kernel_rfl); rw [hLi] at h2; cases h2)) with e | e <;> rw [e] <;> exact HATq.out) _ Try.underlying3 rfl) (fun _ => WT.has rfl) (fun L γ W1 hLi hJ => hJ.mark 4 (by decide)) (fun _ => trivial)
          · exact OX.call (.slice (some ⟨gb, 64 * q.1, none⟩) 64 (cp - 64 * q.1)) rfl (fun L γ W1 hLi hcl hJ hd => ⟨41, #[γ 0, γ 4], by kernel_rfl, by rw [(hd 0 (by kernel_rfl)).is (u := .pointer (some ⟨g, 0, none⟩)) rfl, (hd 4 (by kernel_rfl)).is (u := .int .i64 (q.1 : Int)) rfl]; rcases (hJ.1 (off' fun e => by have h1 := hcl 10 _ rfl e 5 (by kernel_rfl); rw [hLi] at h1; cases h1)) with e | e <;> rw [e] <;> first | exact SC.out wr DBw.out q.1 HPq.out | exact SC.out wr.drew DBw.out q.1 HPq.out⟩) (fun _ => WT.has rfl) (fun L γ W1 hLi hJ => hJ.mark 5 (by decide)) (fun _ => trivial)
          · exact OX.val (.pointer (some ⟨gh, o, none⟩)) rfl (fun L γ W1 hLi hcl hJ hd => by kernel_rfl) (fun _ => WT.has rfl) (fun L γ W1 hLi hJ => hJ.mark 6 (by decide)) (fun _ => trivial)
          · exact OX.val (.pointer (some ⟨gh, o, none⟩)) rfl (fun L γ W1 hLi hcl hJ hd => run_nil (.tmp 29) rfl gh o (Eq.trans (b := γ 6) (by kernel_rfl) ((hd 6 (by kernel_rfl)).is (u := .pointer (some ⟨gh, o, none⟩)) rfl))) (fun _ => WT.has rfl) (fun L γ W1 hLi hJ => hJ.mark 7 (by decide)) (fun _ => trivial)
          · exact OX.val (.pointer (some ⟨gh, o + 1, none⟩)) rfl (fun L γ W1 hLi hcl hJ hd => fk_run (.tmp 30) 1 (by decide) rfl gh o (Eq.trans (b := γ 7) (by kernel_rfl) ((hd 7 (by kernel_rfl)).is (u := .pointer (some ⟨gh, o, none⟩)) rfl))) (fun _ => WT.has rfl) (fun L γ W1 hLi hJ => hJ.mark 8 (by decide)) (fun _ => trivial)
          · exact OX.val (.slice (some ⟨gh, o + 1, none⟩) 64 64) rfl (fun L γ W1 hLi hcl hJ hd => sk_run (.tmp 31) rfl gh (o + 1) (Eq.trans (b := γ 8) (by kernel_rfl) ((hd 8 (by kernel_rfl)).is (u := .pointer (some ⟨gh, o + 1, none⟩)) rfl))) (fun _ => WT.has rfl) (fun L γ W1 hLi hJ => hJ.mark 9 (by decide)) (fun _ => trivial)
          · exact OX.new rfl (fun L γ W1 hLi hdep hJ hd => by
              obtain ⟨w3, hr3, hb3, hg3⟩ := CP.out W1 (hJ.1 hLi)
              exact ⟨_, w3, run_copy_op (.tmp 28) (.tmp 32) 22 22 rfl _ _ _ w3 (Eq.trans (b := γ 5) (by kernel_rfl) ((hd 5 (by kernel_rfl)).is (u := .slice (some ⟨gb, 64 * q.1, none⟩) 64 (cp - 64 * q.1)) rfl)) (Eq.trans (b := γ 9) (by kernel_rfl) ((hd 9 (by kernel_rfl)).is (u := .slice (some ⟨gh, o + 1, none⟩) 64 64) rfl)) hr3, WT.no rfl, ⟨fun e => by simp at e, fun _ => ⟨hb3, hg3⟩⟩, trivial⟩)
    · obtain rfl : i = K := by omega
      have q1 : ¬ (i : Int) < (i : Int) := by omega
      obtain ⟨S, k1, k2, k3, k4⟩ := HS.out
      rw [List.drop_of_length_le (by rw [HKK.out]; exact Nat.le_refl _)] at k4
      obtain rfl : S = R := k4
      obtain ⟨w2, cur', hcl, hb2, hs2, hg2'⟩ := clear_any wr gh cap i cur BHw.out (by rw [HCUR.out]; exact Nat.mul_le_mul_right _ HCAP.out) 0
      have DB2 := DB.kept DBw.out (Gx.of_grown (S := [gh]) hg2' (by simp)) (by simpa using hg2)
      have HB2 := Lib.hid (show RT w2 gb S.flatten tl from k1.grown hg2' (by simp; exact Ne.symm hg3))
      have HH2 := Lib.hid hb2
      have HS2 := Lib.hid (show cur'.size = cap * 65 from hs2.trans HCUR.out)
      have HD2 := Lib.hid DB2
      have HG2 := Lib.hid (show Gx [g, gb, gh] wr w2 from Gx.of_grown hg2' (by simp))
      have HG1 := Lib.hid (show Gx [g, gb, gh] w wr from HG.out.mono (by simp))
      have c2 := DB2.c1
      have f2 := DB2.fz 1
      clear k1 k2 k3 hb2 hs2 hg2' DB2
      go_wp2_with fail
      refine bodyPost_end (results_none rfl _ _ _) rfl ?_
      exact ⟨⟨_, rfl⟩, HD2.out.set1 _, Bl.other HB2.out (by simpa using Ne.symm hg1) _, cur', Bl.other HH2.out (by simpa using Ne.symm hg2) _, HS2.out, (HG1.out.trans HG2.out).set (by simp) _⟩
set_option maxRecDepth 100000 in
set_option maxHeartbeats 4000000 in
theorem settle_some (gh cap n m : Nat) (hn : n = 64 * m) (hm0 : 0 < m) (hm9 : m ≤ 100000) (hcp : n ≤ cp) (hd : List (Nat × List Nat)) (K : Nat) (hK : hd.length = K) (ss : List (List Nat)) (cur : Array Value) (h : DB w g gb n cp (.slice (some ⟨gh, 0, none⟩) K cap) up st cs cw ch) (hr : RT w gb ss.flatten tl) (hss : ∀ s ∈ ss, s.length = 64) (hsm : ss.length = m) (hp : ∀ x ∈ hd, x.1 < m) (hx : ∀ x ∈ hd, x.2.length = 64) (hh : Bl w gh 67 cur) (hcap : K ≤ cap) (hk9 : K < 1000000) (hcur : cur.size = cap * 65) (htk : cur.toList.take (K * 65) = hrow hd) (hg1 : g ≠ gb) (hg2 : g ≠ gh) (hg3 : gb ≠ gh) (f : Nat → Bool) (B : Nat)
    (C : ∀ i : Nat, i < K → ∀ W, Gx [gb] w W → Calls Try.prog 36 #[.int .i64 (i : Int), .pointer (some ⟨B, 0, none⟩)] W fun e w' => e = .returned (.bool (f i)) ∧ W = w') :
    Calls Try.prog 33 #[.pointer (some ⟨g, 0, none⟩), .func (.func 36) #[] #[.pointer (some ⟨B, 0, none⟩)]] w fun e w' => (∃ v, e = .returned v) ∧ ∃ cur', DB w' g gb n cp (.slice (some ⟨gh, 0, none⟩) 0 cap) up st cs cw ch ∧ RT w' gb (sett f 0 hd ss).flatten tl ∧ Bl w' gh 67 cur' ∧ cur'.size = cap * 65 ∧ Gx [g, gb, gh] w w' := by
  have c1 := h.c1
  have H := Lib.hid h
  have HH := Lib.hid hh
  have HC := Lib.hid C
  have SC := Lib.hid (fun (W : World) (hW : DB W g gb n cp (.slice (some ⟨gh, 0, none⟩) K cap) up st cs cw ch) (p : Nat) (hp : p < m) => sector_any (bs := []) hW m p hn hp hm9 hcp)
  have cells : ∀ (i : Nat) (q : Nat × List Nat), hd[i]? = some q → ∀ j, j < 65 → cur[i * 65 + j]? = (wv q.1 q.2)[j]? := by
    intro i q hq j hj
    have hi : i < K := hK ▸ (List.getElem?_eq_some_iff.1 hq).1
    rw [← hrow_at hd i q j hx hq hj, ← htk, List.getElem?_take, if_pos (by omega), Array.getElem?_toList]
  have HAT := Lib.hid (fun (W : World) (hW : Bl W gh 67 cur) (i : Nat) (q : Nat × List Nat) (hq : hd[i]? = some q) => show W.cell? ⟨gh, i * 65, none⟩ = some (.int .i64 (q.1 : Int)) from hW.cell_ (by have := cells i q hq 0 (by omega); rw [Nat.add_zero] at this; rw [this]; rfl))
  have HSL := Lib.hid (fun (W : World) (hW : Bl W gh 67 cur) (i : Nat) (q : Nat × List Nat) (hq : hd[i]? = some q) => show Sl W (some ⟨gh, i * 65 + 1, none⟩) 64 (bl q.2) from Sl.of_bl hW (i * 65 + 1) _ _ (by rw [bl_length]; exact hx q (List.mem_of_getElem? hq)) fun k v hk => by
    have hk64 : k < 64 := by have := (List.getElem?_eq_some_iff.1 hk).1; rwa [bl_length, hx q (List.mem_of_getElem? hq)] at this
    have := cells i q hq (1 + k) (by omega)
    rw [Nat.add_assoc, this, Nat.add_comm 1 k]
    simpa [wv] using hk)
  have S0 := Lib.hid (show Sx gb tl m (sett f 0 hd ss) f hd 0 w from ⟨ss, hr, hss, hsm, rfl⟩)
  have HP := Lib.hid hp
  have HX := Lib.hid hx
  have HN := Lib.hid hn
  have HKK := Lib.hid hK
  obtain ⟨R, hR⟩ : ∃ R, sett f 0 hd ss = R := ⟨_, rfl⟩
  rw [hR] at S0 ⊢
  have HCUR := Lib.hid hcur
  have HCAP := Lib.hid hcap
  clear h hr hss hsm hp hx hh hcur htk cells C hn hK hR hcap
  go_enter Try.func33, Try.ntmps33
  go_wp2_with fail
  go_loopw [11] (fun s wr => ∃ i : Nat, i ≤ K ∧ s = .int .i64 (i : Int) ∧ Gx [gb] w wr ∧ Sx gb tl m R f hd i wr) (fun s _ => K - (intOf s).toNat)
  case atStart => exact ⟨0, Nat.zero_le _, rfl, Gx.refl _ _, S0.out⟩
  case round =>
    obtain ⟨i, hi, rfl, hG, hS⟩ := hrel
    have HG := Lib.hid hG
    have HS := Lib.hid hS
    have DBw := Lib.hid (DB.kept H.out hG (by simpa using hg1))
    have BHw := Lib.hid (hG.bl (by simpa using Ne.symm hg3) HH.out)
    have d1 := DBw.out.c1
    clear hG hS
    by_cases hlt : i < K
    · have q1 : (i : Int) < (K : Int) := by omega
      have q0 : (0 : Int) ≤ (i : Int) := by omega
      have HCi := Lib.hid (HC.out i hlt _ HG.out)
      cases hf : f i with
      | false =>
        rw [hf] at HCi
        go_wp2_with (go_at_call 36; (with_reducible refine HCi.out.mono ?_); rintro e w1 ⟨rfl, rfl⟩)
        refine ⟨⟨i + 1, by omega, by go_num, HG.out, ?_⟩, by simp [intOf]; omega⟩
        obtain ⟨ss, k1, k2, k3, k4⟩ := HS.out
        obtain ⟨q, hq⟩ : ∃ q, hd[i]? = some q := ⟨_, List.getElem?_eq_getElem (by have := HKK.out; omega)⟩
        exact ⟨ss, k1, k2, k3, by rw [sett_step f hd i q hq, hf, if_neg (by decide)] at k4; exact k4⟩
      | true =>
        rw [hf] at HCi
        obtain ⟨q, hq⟩ : ∃ q, hd[i]? = some q := ⟨_, List.getElem?_eq_getElem (by have := HKK.out; omega)⟩
        have HQ := Lib.hid hq
        obtain ⟨S, k1, k2, k3, k4⟩ := HS.out
        have KS := Lib.hid k2
        have KL := Lib.hid k3
        have KR := Lib.hid k4
        have HPq := Lib.hid (HP.out q (List.mem_of_getElem? hq))
        have HATq := Lib.hid (HAT.out wr BHw.out i q hq)
        have HSLq := Lib.hid (HSL.out wr BHw.out i q hq)
        have CP := Lib.hid (show ∀ W, (W = wr ∨ W = wr.drew) → ∃ w3, (Builtin.copy_ #[22, 22] 3 #[.slice (some ⟨gb, 64 * q.1, none⟩) 64 (cp - 64 * q.1), .slice (some ⟨gh, i * 65 + 1, none⟩) 64 64]).run Try.prog W = .ok (.int .i64 ((64 : Nat) : Int)) w3 ∧ Bl w3 gb 5 (bl (S.set q.1 q.2).flatten ++ tl).toArray ∧ wr.grownBy w3 (some gb) from by
          intro W hW
          have hrW : Bl W gb 5 (bl S.flatten ++ tl).toArray := by rcases hW with e | e <;> rw [e] <;> exact k1
          have hsW : Sl W (some ⟨gh, i * 65 + 1, none⟩) 64 (bl q.2) := by rcases hW with e | e <;> rw [e] <;> exact HSLq.out
          have hx64 := HX.out q (List.mem_of_getElem? hq)
          have hp1 := HPq.out
          have hfl := flat_len S k2
          obtain ⟨w3, e1, e2, e3⟩ := run_copy_bl (ty := 3) Try.prog 22 22 5 Try.underlying22 (by kernel_rfl) gb (64 * q.1) 64 (cp - 64 * q.1) ⟨gh, i * 65 + 1, none⟩ 64 64 5 _ hrW (bl q.2) hsW 64 rfl (by rw [List.size_toArray, List.length_append, bl_length, hfl]; omega) (bl_one q.2)
          rw [List.take_of_length_le (by rw [bl_length]; omega), spl_tail tl k2 (by omega) hx64] at e2
          exact ⟨w3, e1, e2, by rcases hW with rfl | rfl <;> exact ⟨e3.os, e3.tape, e3.output, e3.size, e3.block⟩⟩)
        obtain ⟨o, ho⟩ : ∃ o, i * 65 = o := ⟨_, rfl⟩
        rw [ho] at HATq HSLq CP
        clear hq k1 k2 k3 k4
        go_upto_region 5 with (go_at_call 36; (with_reducible refine HCi.out.mono ?_); rintro e w1 ⟨rfl, rfl⟩)
        have hmx : Try.prog.follows .mixedOrders = true := by kernel_rfl
        refine wp_region_free (fun i v _ => WT [some (.pointer (some ⟨g, 0, none⟩)), some (.pointer (some ⟨gh, o, none⟩)), some (.pointer (some ⟨gh, o, none⟩)), some (.pointer (some ⟨gh, o, none⟩)), some (.int .i64 (q.1 : Int)), some (.slice (some ⟨gb, 64 * q.1, none⟩) 64 (cp - 64 * q.1)), some (.pointer (some ⟨gh, o, none⟩)), some (.pointer (some ⟨gh, o, none⟩)), some (.pointer (some ⟨gh, o + 1, none⟩)), some (.slice (some ⟨gh, o + 1, none⟩) 64 64), none] i v) (fun L _ W => JC gb (bl (S.set q.1 q.2).flatten ++ tl).toArray wr L W) (fun _ _ => True) hmx (by kernel_rfl) (by kernel_rfl) (fun _ _ _ _ h _ => h) ?h0 ?each ?fin
        case h0 => exact fun γ => ⟨⟨fun _ => .inr rfl, fun e => by cases e⟩, ⟨fun _ => .inl rfl, fun e => by cases e⟩⟩
        case fin =>
          intro L γ W hL hT hJ
          obtain ⟨hb3, hg3⟩ := hJ.2 (hL 10 (by decide))
          have HB3 := Lib.hid hb3
          have HG3 := Lib.hid hg3
          clear hT hJ hL hb3 hg3
          unfold fr
          simp only [List.map_cons, List.map_nil, Gn.fill, List.setIfInBounds_toArray, List.set_cons_zero, List.set_cons_succ]
          go_wp2_with fail
          refine ⟨⟨i + 1, by omega, by go_num, HG.out.trans (Gx.of_grown HG3.out (by simp)), S.set q.1 q.2, HB3.out, ?_, by rw [List.length_set]; exact KL.out, by have := KR.out; rw [sett_step f hd i q HQ.out, hf, if_pos rfl] at this; exact this⟩, by simp [intOf]; omega⟩
          intro s hs
          rcases List.mem_or_eq_of_mem_set hs with h | rfl
          · exact KS.out s h
          · exact HX.out q (List.mem_of_getElem? HQ.out)
        case each =>
          refine each_ox ?_
          refine Each.cons ?_ <| Each.cons ?_ <| Each.cons ?_ <| Each.cons ?_ <| Each.cons ?_ <| Each.cons ?_ <| Each.cons ?_ <| Each.cons ?_ <| Each.cons ?_ <| Each.cons ?_ <| Each.cons ?_ <| Each.nil
          · exact OX.val (.pointer (some ⟨g, 0, none⟩)) rfl (fun L γ W1 hLi hcl hJ hd => by kernel_rfl) (fun _ => WT.has rfl) (fun L γ W1 hLi hJ => hJ.mark 0 (by decide)) (fun _ => trivial)
          · exact OX.val (.pointer (some ⟨gh, o, none⟩)) rfl (fun L γ W1 hLi hcl hJ hd => by kernel_rfl) (fun _ => WT.has rfl) (fun L γ W1 hLi hJ => hJ.mark 1 (by decide)) (fun _ => trivial)
          · exact OX.val (.pointer (some ⟨gh, o, none⟩)) rfl (fun L γ W1 hLi hcl hJ hd => run_nil (.tmp 24) rfl gh o (Eq.trans (b := γ 1) (by kernel_rfl) ((hd 1 (by kernel_rfl)).is (u := .pointer (some ⟨gh, o, none⟩)) rfl))) (fun _ => WT.has rfl) (fun L γ W1 hLi hJ => hJ.mark 2 (by decide)) (fun _ => trivial)
          · exact OX.val (.pointer (some ⟨gh, o, none⟩)) rfl (fun L γ W1 hLi hcl hJ hd => fk_run (.tmp 25) 0 (by decide) rfl gh o (Eq.trans (b := γ 2) (by kernel_rfl) ((hd 2 (by kernel_rfl)).is (u := .pointer (some ⟨gh, o, none⟩)) rfl))) (fun _ => WT.has rfl) (fun L γ W1 hLi hJ => hJ.mark 3 (by decide)) (fun _ => trivial)
          · exact OX.val (.int .i64 (q.1 : Int)) rfl (fun L γ W1 hLi hcl hJ hd => run_cell_op 3 (.tmp 26) rfl ⟨gh, o, none⟩ (Eq.trans (b := γ 3) (by kernel_rfl) ((hd 3 (by kernel_rfl)).is (u := .pointer (some ⟨gh, o, none⟩)) rfl)) (.int .i64 (q.1 : Int)) (by rcases (hJ.1 (off' fun e => by have h1 := hcl 10 _ rfl e 5 (by kernel_rfl); have h2 := hcl 5 _ rfl h1 4 (by kernel_rfl); rw [hLi] at h2; cases h2)) with e | e <;> rw [e] <;> exact HATq.out) _ Try.underlying3 rfl) (fun _ => WT.has rfl) (fun L γ W1 hLi hJ => hJ.mark 4 (by decide)) (fun _ => trivial)
          · exact OX.call (.slice (some ⟨gb, 64 * q.1, none⟩) 64 (cp - 64 * q.1)) rfl (fun L γ W1 hLi hcl hJ hd => ⟨41, #[γ 0, γ 4], by kernel_rfl, by rw [(hd 0 (by kernel_rfl)).is (u := .pointer (some ⟨g, 0, none⟩)) rfl, (hd 4 (by kernel_rfl)).is (u := .int .i64 (q.1 : Int)) rfl]; rcases (hJ.1 (off' fun e => by have h1 := hcl 10 _ rfl e 5 (by kernel_rfl); rw [hLi] at h1; cases h1)) with e | e <;> rw [e] <;> first | exact SC.out wr DBw.out q.1 HPq.out | exact SC.out wr.drew DBw.out q.1 HPq.out⟩) (fun _ => WT.has rfl) (fun L γ W1 hLi hJ => hJ.mark 5 (by decide)) (fun _ => trivial)
          · exact OX.val (.pointer (some ⟨gh, o, none⟩)) rfl (fun L γ W1 hLi hcl hJ hd => by kernel_rfl) (fun _ => WT.has rfl) (fun L γ W1 hLi hJ => hJ.mark 6 (by decide)) (fun _ => trivial)
          · exact OX.val (.pointer (some ⟨gh, o, none⟩)) rfl (fun L γ W1 hLi hcl hJ hd => run_nil (.tmp 29) rfl gh o (Eq.trans (b := γ 6) (by kernel_rfl) ((hd 6 (by kernel_rfl)).is (u := .pointer (some ⟨gh, o, none⟩)) rfl))) (fun _ => WT.has rfl) (fun L γ W1 hLi hJ => hJ.mark 7 (by decide)) (fun _ => trivial)
          · exact OX.val (.pointer (some ⟨gh, o + 1, none⟩)) rfl (fun L γ W1 hLi hcl hJ hd => fk_run (.tmp 30) 1 (by decide) rfl gh o (Eq.trans (b := γ 7) (by kernel_rfl) ((hd 7 (by kernel_rfl)).is (u := .pointer (some ⟨gh, o, none⟩)) rfl))) (fun _ => WT.has rfl) (fun L γ W1 hLi hJ => hJ.mark 8 (by decide)) (fun _ => trivial)
          · exact OX.val (.slice (some ⟨gh, o + 1, none⟩) 64 64) rfl (fun L γ W1 hLi hcl hJ hd => sk_run (.tmp 31) rfl gh (o + 1) (Eq.trans (b := γ 8) (by kernel_rfl) ((hd 8 (by kernel_rfl)).is (u := .pointer (some ⟨gh, o + 1, none⟩)) rfl))) (fun _ => WT.has rfl) (fun L γ W1 hLi hJ => hJ.mark 9 (by decide)) (fun _ => trivial)
          · exact OX.new rfl (fun L γ W1 hLi hdep hJ hd => by
              obtain ⟨w3, hr3, hb3, hg3⟩ := CP.out W1 (hJ.1 hLi)
              exact ⟨_, w3, run_copy_op (.tmp 28) (.tmp 32) 22 22 rfl _ _ _ w3 (Eq.trans (b := γ 5) (by kernel_rfl) ((hd 5 (by kernel_rfl)).is (u := .slice (some ⟨gb, 64 * q.1, none⟩) 64 (cp - 64 * q.1)) rfl)) (Eq.trans (b := γ 9) (by kernel_rfl) ((hd 9 (by kernel_rfl)).is (u := .slice (some ⟨gh, o + 1, none⟩) 64 64) rfl)) hr3, WT.no rfl, ⟨fun e => by simp at e, fun _ => ⟨hb3, hg3⟩⟩, trivial⟩)
    · obtain rfl : i = K := by omega
      have q1 : ¬ (i : Int) < (i : Int) := by omega
      obtain ⟨S, k1, k2, k3, k4⟩ := HS.out
      rw [List.drop_of_length_le (by rw [HKK.out]; exact Nat.le_refl _)] at k4
      obtain rfl : S = R := k4
      obtain ⟨w2, cur', hcl, hb2, hs2, hg2'⟩ := clear_any wr gh cap i cur BHw.out (by rw [HCUR.out]; exact Nat.mul_le_mul_right _ HCAP.out) 0
      have DB2 := DB.kept DBw.out (Gx.of_grown (S := [gh]) hg2' (by simp)) (by simpa using hg2)
      have HB2 := Lib.hid (show RT w2 gb S.flatten tl from k1.grown hg2' (by simp; exact Ne.symm hg3))
      have HH2 := Lib.hid hb2
      have HS2 := Lib.hid (show cur'.size = cap * 65 from hs2.trans HCUR.out)
      have HD2 := Lib.hid DB2
      have HG2 := Lib.hid (show Gx [g, gb, gh] wr w2 from Gx.of_grown hg2' (by simp))
      have HG1 := Lib.hid (show Gx [g, gb, gh] w wr from HG.out.mono (by simp))
      have c2 := DB2.c1
      have f2 := DB2.fz 1
      clear k1 k2 k3 hb2 hs2 hg2' DB2
      go_wp2_with fail
      refine bodyPost_end (results_none rfl _ _ _) rfl ?_
      exact ⟨⟨_, rfl⟩, HD2.out.set1 _, Bl.other HB2.out (by simpa using Ne.symm hg1) _, cur', Bl.other HH2.out (by simpa using Ne.symm hg2) _, HS2.out, (HG1.out.trans HG2.out).set (by simp) _⟩
end
end Go.Proofs.Ytbgkdbjineennaa.Dk
