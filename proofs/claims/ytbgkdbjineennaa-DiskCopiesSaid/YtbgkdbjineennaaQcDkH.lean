/- Joined texts. -/
import Derived.Test.YtbgkdbjineennaaQcDkG
set_option linter.unusedVariables false
namespace Go.Proofs.Ytbgkdbjineennaa.Dk
open Go.IntWalk Go.RowKit Go.Proofs.Ytbgkdbjineennaa.Gn Go.Proofs.Ytbgkdbjineennaa.Fd Go.Deep
theorem wp_loop_two{P:Program}{c:Code}{Q:Exit→Act→World→Prop}{a:Act}{w:World}(J:Act→World→Prop)(h0:c.wp P (Exit.then J Q) a w)(h1:∀a' w',J a' w'→c.wp P (Exit.then (fun _ _=>False) Q) a' w'):(Code.loop c).wp P Q a w:=by
 classical
 refine wp_loop (fun a' w'=>(a'=a∧w'=w)∨J a' w') (fun a' w'=>if J a' w' then 0 else 1) (.inl ⟨rfl,rfl⟩) ?_
 intro a' w' h
 by_cases hJ:J a' w'
 ·refine wp_mono (h1 a' w' hJ) fun e a2 w2 hq=>?_
  cases e with
  |normal=>exact(hq:False).elim
  |_=>exact hq
 ·obtain⟨rfl,rfl⟩:=h.resolve_right hJ
  refine wp_mono h0 fun e a2 w2 hq=>?_
  cases e with
  |normal=>exact⟨.inr hq,by rw[if_pos (show J a2 w2 from hq),if_neg hJ];decide⟩
  |_=>exact hq
theorem f0_run{op:Oper}{a:Act}{w:World}(x:Operand)(k:Nat)(hk:k < 2)(ho:op.op=.fieldAddr 67 x k)(g:Nat)(hx:a.eval x=.pointer (some ⟨g,0,none⟩)):(execOp a.eval op).run Try.prog w=.ok (.value (.pointer (some ⟨g,k,none⟩))) w:=by
 unfold execOp
 rw[ho]
 simp only[hx]
 rcases k with _|_|k
 ·kernel_rfl
 ·kernel_rfl
 ·omega
theorem s46_run{op:Oper}{a:Act}{w:World}(x:Operand)(ho:op.op=.slice 65 x none none none)(g:Nat)(hx:a.eval x=.pointer (some ⟨g,1,none⟩)):(execOp a.eval op).run Try.prog w=.ok (.value (.slice (some ⟨g,1,none⟩) 64 64)) w:=by
 unfold execOp
 rw[ho]
 simp only[hx]
 kernel_rfl
def JC(gb:Nat)(CS':Array Value)(w:World)(L:Nat→Bool)(W:World):Prop:=(L 10=false→W=w∨W=w.drew)∧(L 10=true→Bl W gb 5 CS'∧w.grownBy W (some gb))
theorem JC.mark{gb:Nat}{CS':Array Value}{w W:World}{L:Nat→Bool}(h:JC gb CS' w L W)(i:Nat)(hi:i≠10):JC gb CS' w (fun j=>if j=i then true else L j) W:=by
 unfold JC
 have l:(if 10=i then true else L 10)=L 10:=if_neg (Ne.symm hi)
 simp only[l]
 exact h
section
variable {g gb:Nat} {up:Bool} {st:Int} {cs:Bool} {cw:Int} {ch:Value} {w:World}
set_option maxRecDepth 100000 in
set_option maxHeartbeats 4000000 in
theorem settle_Flush (gh cap p : Nat) (CS cur : Array Value) (h : DB w g gb 128 128 (.slice (some ⟨gh, 0, none⟩) 1 cap) up st cs cw ch) (hr : Bl w gb 5 CS) (hCS : CS.size = 128) (hp : p < 2) (hh : Bl w gh 67 cur) (hcap : 1 ≤ cap) (hcur : cur.size = cap * 65) (htk : cur.toList.take 65 = (vw p).toList) (hg1 : g ≠ gb) (hg2 : g ≠ gh) (hg3 : gb ≠ gh) :
    Calls Try.prog 33 #[.pointer (some ⟨g, 0, none⟩), .func (.func 34) #[] #[]] w fun e w' => (∃ v, e = .returned v) ∧ ∃ cur', DB w' g gb 128 128 (.slice (some ⟨gh, 0, none⟩) 0 cap) up st cs cw ch ∧ Bl w' gb 5 (spl CS (64 * p) sv) ∧ Bl w' gh 67 cur' ∧ cur'.size = cap * 65 ∧ Gx [g, gb, gh] w w' := by
  have c1 := h.c1
  have H := Lib.hid h
  have HR := Lib.hid hr
  have HH := Lib.hid hh
  have HC := Lib.hid (fun (i : Int) (w : World) => all_true i w)
  have SC := Lib.hid (fun (W : World) (hW : DB W g gb 128 128 (.slice (some ⟨gh, 0, none⟩) 1 cap) up st cs cw ch) => sector_any (bs := []) hW 2 p rfl hp (by decide) (Nat.le_refl _))
  have hat : cur[0]? = some (.int .i64 (p : Int)) := by
    have := congrArg (·[0]?) htk
    rw [← Array.getElem?_toList]
    simpa [List.getElem?_take, vw] using this
  have HAT := Lib.hid (hh.cell_ hat)
  have hSl : Sl w (some ⟨gh, 1, none⟩) 64 sv := Sl.of_bl hh 1 _ _ (by kernel_rfl) fun k v hk => by
    have hk64 : k < 64 := by have := (List.getElem?_eq_some_iff.1 hk).1; rwa [show sv.length = 64 by kernel_rfl] at this
    have h2 : (cur.toList.take 65)[1 + k]? = (vw p).toList[1 + k]? := by rw [htk]
    rw [List.getElem?_take, if_pos (by omega), Array.getElem?_toList] at h2
    rw [h2, Nat.add_comm]
    simpa [vw] using hk
  have CP := Lib.hid (show ∀ W, (W = w ∨ W = w.drew) → ∃ w3, (Builtin.copy_ #[22, 22] 3 #[.slice (some ⟨gb, 64 * p, none⟩) 64 (128 - 64 * p), .slice (some ⟨gh, 1, none⟩) 64 64]).run Try.prog W = .ok (.int .i64 ((64 : Nat) : Int)) w3 ∧ Bl w3 gb 5 (spl CS (64 * p) sv) ∧ w.grownBy w3 (some gb) from by
    intro W hW
    have hrW : Bl W gb 5 CS := by rcases hW with e | e <;> rw [e] <;> exact hr
    have hsW : Sl W (some ⟨gh, 1, none⟩) 64 sv := by rcases hW with e | e <;> rw [e] <;> exact hSl
    obtain ⟨w3, k1, k2, k3⟩ := run_copy_bl (ty := 3) Try.prog 22 22 5 Try.underlying22 (by kernel_rfl) gb (64 * p) 64 (128 - 64 * p) ⟨gh, 1, none⟩ 64 64 5 CS hrW sv hsW 64 rfl (by omega) (by intro v hv; simp only [sv, List.mem_cons, List.mem_replicate] at hv; rcases hv with rfl | ⟨-, rfl⟩ <;> rfl)
    rw [show sv.take 64 = sv by kernel_rfl] at k2
    exact ⟨w3, k1, k2, by rcases hW with rfl | rfl <;> exact ⟨k3.os, k3.tape, k3.output, k3.size, k3.block⟩⟩)
  clear h hr hh hCS htk hat hSl
  go_enter Try.func33, Try.ntmps33
  go_wp2_with fail
  refine wp_loop_two (fun a' w' => ∃ u4 u5 u12 u13 u14 u15 u16 u17 u18 u19 u20 u21 u22 u23 u24 u25 u26 u27 u28 u29 u30 u31 u32 u33 u34 : Value, a' = { tmps := #[.pointer (some ⟨g, 0, none⟩), .func (.func 34) #[] #[], undef, undef, u4, u5, .pointer (some ⟨g, 0, none⟩), .pointer (some ⟨g, 0, none⟩), .pointer (some ⟨g, 1, none⟩), .slice (some ⟨gh, 0, none⟩) 1 cap, .int .i64 1, .int .i64 1, u12, u13, u14, u15, u16, u17, u18, u19, u20, u21, u22, u23, u24, u25, u26, u27, u28, u29, u30, u31, u32, u33, u34, undef, undef, undef, undef, undef, undef, undef, undef, undef, undef, undef, undef], defers := [] } ∧ Bl w' gb 5 (spl CS (64 * p) sv) ∧ w.grownBy w' (some gb)) ?_ ?_
  · go_upto_region 5 with (go_at_call 34; (with_reducible refine (HC.out _ _).mono ?_); rintro e w1 ⟨rfl, rfl⟩)
    have hmx : Try.prog.follows .mixedOrders = true := by kernel_rfl
    refine wp_region_free (fun i v _ => WT [some (.pointer (some ⟨g, 0, none⟩)), some (.pointer (some ⟨gh, 0, none⟩)), some (.pointer (some ⟨gh, 0, none⟩)), some (.pointer (some ⟨gh, 0, none⟩)), some (.int .i64 (p : Int)), some (.slice (some ⟨gb, 64 * p, none⟩) 64 (128 - 64 * p)), some (.pointer (some ⟨gh, 0, none⟩)), some (.pointer (some ⟨gh, 0, none⟩)), some (.pointer (some ⟨gh, 1, none⟩)), some (.slice (some ⟨gh, 1, none⟩) 64 64), none] i v) (fun L _ W => JC gb (spl CS (64 * p) sv) w L W) (fun _ _ => True) hmx (by kernel_rfl) (by kernel_rfl) (fun _ _ _ _ h _ => h) ?h0 ?each ?fin
    case h0 => exact fun γ => ⟨⟨fun _ => .inr rfl, fun e => by cases e⟩, ⟨fun _ => .inl rfl, fun e => by cases e⟩⟩
    case fin =>
      intro L γ W hL hT hJ
      obtain ⟨hb3, hg3⟩ := hJ.2 (hL 10 (by decide))
      have HB3 := Lib.hid hb3
      have HG3 := Lib.hid hg3
      clear hT hJ hL hb3 hg3
      unfold fr
      simp only [List.map_cons, List.map_nil, Gn.fill, List.setIfInBounds_toArray, List.set_cons_zero, List.set_cons_succ]
      go_wp2_with fail
      exact ⟨_, _, _, _, _, _, _, _, _, _, _, _, _, _, _, _, _, _, _, _, _, _, _, _, _, rfl, HB3.out, HG3.out⟩
    case each =>
      refine each_ox ?_
      refine Each.cons ?_ <| Each.cons ?_ <| Each.cons ?_ <| Each.cons ?_ <| Each.cons ?_ <| Each.cons ?_ <| Each.cons ?_ <| Each.cons ?_ <| Each.cons ?_ <| Each.cons ?_ <| Each.cons ?_ <| Each.nil
      · exact OX.val (.pointer (some ⟨g, 0, none⟩)) rfl (fun L γ W1 hLi hcl hJ hd => by kernel_rfl) (fun _ => WT.has rfl) (fun L γ W1 hLi hJ => hJ.mark 0 (by decide)) (fun _ => trivial)
      · exact OX.val (.pointer (some ⟨gh, 0, none⟩)) rfl (fun L γ W1 hLi hcl hJ hd => by kernel_rfl) (fun _ => WT.has rfl) (fun L γ W1 hLi hJ => hJ.mark 1 (by decide)) (fun _ => trivial)
      · exact OX.val (.pointer (some ⟨gh, 0, none⟩)) rfl (fun L γ W1 hLi hcl hJ hd => run_nil (.tmp 24) rfl gh 0 (Eq.trans (b := γ 1) (by kernel_rfl) ((hd 1 (by kernel_rfl)).is (u := .pointer (some ⟨gh, 0, none⟩)) rfl))) (fun _ => WT.has rfl) (fun L γ W1 hLi hJ => hJ.mark 2 (by decide)) (fun _ => trivial)
      · exact OX.val (.pointer (some ⟨gh, 0, none⟩)) rfl (fun L γ W1 hLi hcl hJ hd => f0_run (.tmp 25) 0 (by decide) rfl gh (Eq.trans (b := γ 2) (by kernel_rfl) ((hd 2 (by kernel_rfl)).is (u := .pointer (some ⟨gh, 0, none⟩)) rfl))) (fun _ => WT.has rfl) (fun L γ W1 hLi hJ => hJ.mark 3 (by decide)) (fun _ => trivial)
      · exact OX.val (.int .i64 (p : Int)) rfl (fun L γ W1 hLi hcl hJ hd => run_cell_op 3 (.tmp 26) rfl ⟨gh, 0, none⟩ (Eq.trans (b := γ 3) (by kernel_rfl) ((hd 3 (by kernel_rfl)).is (u := .pointer (some ⟨gh, 0, none⟩)) rfl)) (.int .i64 (p : Int)) (by rcases (hJ.1 (off' fun e => by have h1 := hcl 10 _ rfl e 5 (by kernel_rfl); have h2 := hcl 5 _ rfl h1 4 (by kernel_rfl); rw [hLi] at h2; cases h2)) with e | e <;> rw [e] <;> exact HAT.out) _ Try.underlying3 rfl) (fun _ => WT.has rfl) (fun L γ W1 hLi hJ => hJ.mark 4 (by decide)) (fun _ => trivial)
      · exact OX.call (.slice (some ⟨gb, 64 * p, none⟩) 64 (128 - 64 * p)) rfl (fun L γ W1 hLi hcl hJ hd => ⟨41, #[γ 0, γ 4], by kernel_rfl, by rw [(hd 0 (by kernel_rfl)).is (u := .pointer (some ⟨g, 0, none⟩)) rfl, (hd 4 (by kernel_rfl)).is (u := .int .i64 (p : Int)) rfl]; rcases (hJ.1 (off' fun e => by have h1 := hcl 10 _ rfl e 5 (by kernel_rfl); rw [hLi] at h1; cases h1)) with e | e <;> rw [e] <;> first | exact SC.out w H.out | exact SC.out w.drew H.out⟩) (fun _ => WT.has rfl) (fun L γ W1 hLi hJ => hJ.mark 5 (by decide)) (fun _ => trivial)
      · exact OX.val (.pointer (some ⟨gh, 0, none⟩)) rfl (fun L γ W1 hLi hcl hJ hd => by kernel_rfl) (fun _ => WT.has rfl) (fun L γ W1 hLi hJ => hJ.mark 6 (by decide)) (fun _ => trivial)
      · exact OX.val (.pointer (some ⟨gh, 0, none⟩)) rfl (fun L γ W1 hLi hcl hJ hd => run_nil (.tmp 29) rfl gh 0 (Eq.trans (b := γ 6) (by kernel_rfl) ((hd 6 (by kernel_rfl)).is (u := .pointer (some ⟨gh, 0, none⟩)) rfl))) (fun _ => WT.has rfl) (fun L γ W1 hLi hJ => hJ.mark 7 (by decide)) (fun _ => trivial)
      · exact OX.val (.pointer (some ⟨gh, 1, none⟩)) rfl (fun L γ W1 hLi hcl hJ hd => f0_run (.tmp 30) 1 (by decide) rfl gh (Eq.trans (b := γ 7) (by kernel_rfl) ((hd 7 (by kernel_rfl)).is (u := .pointer (some ⟨gh, 0, none⟩)) rfl))) (fun _ => WT.has rfl) (fun L γ W1 hLi hJ => hJ.mark 8 (by decide)) (fun _ => trivial)
      · exact OX.val (.slice (some ⟨gh, 1, none⟩) 64 64) rfl (fun L γ W1 hLi hcl hJ hd => s46_run (.tmp 31) rfl gh (Eq.trans (b := γ 8) (by kernel_rfl) ((hd 8 (by kernel_rfl)).is (u := .pointer (some ⟨gh, 1, none⟩)) rfl))) (fun _ => WT.has rfl) (fun L γ W1 hLi hJ => hJ.mark 9 (by decide)) (fun _ => trivial)
      · exact OX.new rfl (fun L γ W1 hLi hdep hJ hd => by
          obtain ⟨w3, hr3, hb3, hg3⟩ := CP.out W1 (hJ.1 hLi)
          exact ⟨_, w3, run_copy_op (.tmp 28) (.tmp 32) 22 22 rfl _ _ _ w3 (Eq.trans (b := γ 5) (by kernel_rfl) ((hd 5 (by kernel_rfl)).is (u := .slice (some ⟨gb, 64 * p, none⟩) 64 (128 - 64 * p)) rfl)) (Eq.trans (b := γ 9) (by kernel_rfl) ((hd 9 (by kernel_rfl)).is (u := .slice (some ⟨gh, 1, none⟩) 64 64) rfl)) hr3, WT.no rfl, ⟨fun e => by simp at e, fun _ => ⟨hb3, hg3⟩⟩, trivial⟩)
  · rintro a' w1 ⟨u4, u5, u12, u13, u14, u15, u16, u17, u18, u19, u20, u21, u22, u23, u24, u25, u26, u27, u28, u29, u30, u31, u32, u33, u34, rfl, h2, h3⟩
    have HB := Lib.hid h2
    have HG := Lib.hid h3
    have c1' : w1.cell? ⟨g, 1, none⟩ = some (.slice (some ⟨gh, 0, none⟩) 1 cap) := h3.cell c1 (by simp [hg1])
    have DB1 : DB w1 g gb 128 128 (.slice (some ⟨gh, 0, none⟩) 1 cap) up st cs cw ch := H.out.grown h3 (by simp; exact Ne.symm hg1)
    have BH1 : Bl w1 gh 67 cur := HH.out.grown h3 (by simp; exact hg3)
    obtain ⟨w2, cur', hcl, hb2, hs2, hg2'⟩ := clear_run w1 gh cap cur BH1 (by omega) 0
    have DB2 := DB.kept DB1 (Gx.of_grown (S := [gh]) hg2' (by simp)) (by simpa using hg2)
    have HB2 := Lib.hid (show Bl w2 gb 5 (spl CS (64 * p) sv) from h2.grown hg2' (by simp; exact Ne.symm hg3))
    have HH2 := Lib.hid hb2
    have HS2 := Lib.hid (show cur'.size = cap * 65 from hs2.trans hcur)
    have HD2 := Lib.hid DB2
    have G1 : Gx [g, gb, gh] w w1 := Gx.of_grown h3 (by simp)
    have G2 : Gx [g, gb, gh] w w2 := G1.trans (Gx.of_grown hg2' (by simp))
    have HG2 := Lib.hid G2
    have c2 := DB2.c1
    have f2 := DB2.fz 1
    clear h2 h3 DB1 BH1 hb2 hs2 hg2' DB2 G1 G2 hcur
    go_wp2_with fail
    refine bodyPost_end (results_none rfl _ _ _) rfl ?_
    exact ⟨⟨_, rfl⟩, cur', HD2.out.set1 _, Bl.other HB2.out (by simpa using Ne.symm hg1) _, Bl.other HH2.out (by simpa using Ne.symm hg2) _, HS2.out, HG2.out.set (by simp) _⟩
set_option maxRecDepth 100000 in
set_option maxHeartbeats 4000000 in
theorem settle_Lose (gh cap p : Nat) (CS cur : Array Value) (h : DB w g gb 128 128 (.slice (some ⟨gh, 0, none⟩) 1 cap) up st cs cw ch) (hr : Bl w gb 5 CS) (hCS : CS.size = 128) (hp : p < 2) (hh : Bl w gh 67 cur) (hcap : 1 ≤ cap) (hcur : cur.size = cap * 65) (htk : cur.toList.take 65 = (vw p).toList) (hg1 : g ≠ gb) (hg2 : g ≠ gh) (hg3 : gb ≠ gh) (B q ccap : Nat) (hB : w.cell? ⟨B, 0, none⟩ = some (.slice (some ⟨q, 0, none⟩) 1 ccap)) (hq : w.cell? ⟨q, 0, none⟩ = some (.bool true)) :
    Calls Try.prog 33 #[.pointer (some ⟨g, 0, none⟩), .func (.func 36) #[] #[.pointer (some ⟨B, 0, none⟩)]] w fun e w' => (∃ v, e = .returned v) ∧ ∃ cur', DB w' g gb 128 128 (.slice (some ⟨gh, 0, none⟩) 0 cap) up st cs cw ch ∧ Bl w' gb 5 (spl CS (64 * p) sv) ∧ Bl w' gh 67 cur' ∧ cur'.size = cap * 65 ∧ Gx [g, gb, gh] w w' := by
  have c1 := h.c1
  have H := Lib.hid h
  have HR := Lib.hid hr
  have HH := Lib.hid hh
  have HC := Lib.hid (chosen_one B q ccap w hB hq)
  have SC := Lib.hid (fun (W : World) (hW : DB W g gb 128 128 (.slice (some ⟨gh, 0, none⟩) 1 cap) up st cs cw ch) => sector_any (bs := []) hW 2 p rfl hp (by decide) (Nat.le_refl _))
  have hat : cur[0]? = some (.int .i64 (p : Int)) := by
    have := congrArg (·[0]?) htk
    rw [← Array.getElem?_toList]
    simpa [List.getElem?_take, vw] using this
  have HAT := Lib.hid (hh.cell_ hat)
  have hSl : Sl w (some ⟨gh, 1, none⟩) 64 sv := Sl.of_bl hh 1 _ _ (by kernel_rfl) fun k v hk => by
    have hk64 : k < 64 := by have := (List.getElem?_eq_some_iff.1 hk).1; rwa [show sv.length = 64 by kernel_rfl] at this
    have h2 : (cur.toList.take 65)[1 + k]? = (vw p).toList[1 + k]? := by rw [htk]
    rw [List.getElem?_take, if_pos (by omega), Array.getElem?_toList] at h2
    rw [h2, Nat.add_comm]
    simpa [vw] using hk
  have CP := Lib.hid (show ∀ W, (W = w ∨ W = w.drew) → ∃ w3, (Builtin.copy_ #[22, 22] 3 #[.slice (some ⟨gb, 64 * p, none⟩) 64 (128 - 64 * p), .slice (some ⟨gh, 1, none⟩) 64 64]).run Try.prog W = .ok (.int .i64 ((64 : Nat) : Int)) w3 ∧ Bl w3 gb 5 (spl CS (64 * p) sv) ∧ w.grownBy w3 (some gb) from by
    intro W hW
    have hrW : Bl W gb 5 CS := by rcases hW with e | e <;> rw [e] <;> exact hr
    have hsW : Sl W (some ⟨gh, 1, none⟩) 64 sv := by rcases hW with e | e <;> rw [e] <;> exact hSl
    obtain ⟨w3, k1, k2, k3⟩ := run_copy_bl (ty := 3) Try.prog 22 22 5 Try.underlying22 (by kernel_rfl) gb (64 * p) 64 (128 - 64 * p) ⟨gh, 1, none⟩ 64 64 5 CS hrW sv hsW 64 rfl (by omega) (by intro v hv; simp only [sv, List.mem_cons, List.mem_replicate] at hv; rcases hv with rfl | ⟨-, rfl⟩ <;> rfl)
    rw [show sv.take 64 = sv by kernel_rfl] at k2
    exact ⟨w3, k1, k2, by rcases hW with rfl | rfl <;> exact ⟨k3.os, k3.tape, k3.output, k3.size, k3.block⟩⟩)
  clear h hr hh hCS htk hat hSl
  go_enter Try.func33, Try.ntmps33
  go_wp2_with fail
  refine wp_loop_two (fun a' w' => ∃ u4 u5 u12 u13 u14 u15 u16 u17 u18 u19 u20 u21 u22 u23 u24 u25 u26 u27 u28 u29 u30 u31 u32 u33 u34 : Value, a' = { tmps := #[.pointer (some ⟨g, 0, none⟩), .func (.func 36) #[] #[.pointer (some ⟨B, 0, none⟩)], undef, undef, u4, u5, .pointer (some ⟨g, 0, none⟩), .pointer (some ⟨g, 0, none⟩), .pointer (some ⟨g, 1, none⟩), .slice (some ⟨gh, 0, none⟩) 1 cap, .int .i64 1, .int .i64 1, u12, u13, u14, u15, u16, u17, u18, u19, u20, u21, u22, u23, u24, u25, u26, u27, u28, u29, u30, u31, u32, u33, u34, undef, undef, undef, undef, undef, undef, undef, undef, undef, undef, undef, undef], defers := [] } ∧ Bl w' gb 5 (spl CS (64 * p) sv) ∧ w.grownBy w' (some gb)) ?_ ?_
  · go_upto_region 5 with (go_at_call 36; (with_reducible refine HC.out.mono ?_); rintro e w1 ⟨rfl, rfl⟩)
    have hmx : Try.prog.follows .mixedOrders = true := by kernel_rfl
    refine wp_region_free (fun i v _ => WT [some (.pointer (some ⟨g, 0, none⟩)), some (.pointer (some ⟨gh, 0, none⟩)), some (.pointer (some ⟨gh, 0, none⟩)), some (.pointer (some ⟨gh, 0, none⟩)), some (.int .i64 (p : Int)), some (.slice (some ⟨gb, 64 * p, none⟩) 64 (128 - 64 * p)), some (.pointer (some ⟨gh, 0, none⟩)), some (.pointer (some ⟨gh, 0, none⟩)), some (.pointer (some ⟨gh, 1, none⟩)), some (.slice (some ⟨gh, 1, none⟩) 64 64), none] i v) (fun L _ W => JC gb (spl CS (64 * p) sv) w L W) (fun _ _ => True) hmx (by kernel_rfl) (by kernel_rfl) (fun _ _ _ _ h _ => h) ?h0 ?each ?fin
    case h0 => exact fun γ => ⟨⟨fun _ => .inr rfl, fun e => by cases e⟩, ⟨fun _ => .inl rfl, fun e => by cases e⟩⟩
    case fin =>
      intro L γ W hL hT hJ
      obtain ⟨hb3, hg3⟩ := hJ.2 (hL 10 (by decide))
      have HB3 := Lib.hid hb3
      have HG3 := Lib.hid hg3
      clear hT hJ hL hb3 hg3
      unfold fr
      simp only [List.map_cons, List.map_nil, Gn.fill, List.setIfInBounds_toArray, List.set_cons_zero, List.set_cons_succ]
      go_wp2_with fail
      exact ⟨_, _, _, _, _, _, _, _, _, _, _, _, _, _, _, _, _, _, _, _, _, _, _, _, _, rfl, HB3.out, HG3.out⟩
    case each =>
      refine each_ox ?_
      refine Each.cons ?_ <| Each.cons ?_ <| Each.cons ?_ <| Each.cons ?_ <| Each.cons ?_ <| Each.cons ?_ <| Each.cons ?_ <| Each.cons ?_ <| Each.cons ?_ <| Each.cons ?_ <| Each.cons ?_ <| Each.nil
      · exact OX.val (.pointer (some ⟨g, 0, none⟩)) rfl (fun L γ W1 hLi hcl hJ hd => by kernel_rfl) (fun _ => WT.has rfl) (fun L γ W1 hLi hJ => hJ.mark 0 (by decide)) (fun _ => trivial)
      · exact OX.val (.pointer (some ⟨gh, 0, none⟩)) rfl (fun L γ W1 hLi hcl hJ hd => by kernel_rfl) (fun _ => WT.has rfl) (fun L γ W1 hLi hJ => hJ.mark 1 (by decide)) (fun _ => trivial)
      · exact OX.val (.pointer (some ⟨gh, 0, none⟩)) rfl (fun L γ W1 hLi hcl hJ hd => run_nil (.tmp 24) rfl gh 0 (Eq.trans (b := γ 1) (by kernel_rfl) ((hd 1 (by kernel_rfl)).is (u := .pointer (some ⟨gh, 0, none⟩)) rfl))) (fun _ => WT.has rfl) (fun L γ W1 hLi hJ => hJ.mark 2 (by decide)) (fun _ => trivial)
      · exact OX.val (.pointer (some ⟨gh, 0, none⟩)) rfl (fun L γ W1 hLi hcl hJ hd => f0_run (.tmp 25) 0 (by decide) rfl gh (Eq.trans (b := γ 2) (by kernel_rfl) ((hd 2 (by kernel_rfl)).is (u := .pointer (some ⟨gh, 0, none⟩)) rfl))) (fun _ => WT.has rfl) (fun L γ W1 hLi hJ => hJ.mark 3 (by decide)) (fun _ => trivial)
      · exact OX.val (.int .i64 (p : Int)) rfl (fun L γ W1 hLi hcl hJ hd => run_cell_op 3 (.tmp 26) rfl ⟨gh, 0, none⟩ (Eq.trans (b := γ 3) (by kernel_rfl) ((hd 3 (by kernel_rfl)).is (u := .pointer (some ⟨gh, 0, none⟩)) rfl)) (.int .i64 (p : Int)) (by rcases (hJ.1 (off' fun e => by have h1 := hcl 10 _ rfl e 5 (by kernel_rfl); have h2 := hcl 5 _ rfl h1 4 (by kernel_rfl); rw [hLi] at h2; cases h2)) with e | e <;> rw [e] <;> exact HAT.out) _ Try.underlying3 rfl) (fun _ => WT.has rfl) (fun L γ W1 hLi hJ => hJ.mark 4 (by decide)) (fun _ => trivial)
      · exact OX.call (.slice (some ⟨gb, 64 * p, none⟩) 64 (128 - 64 * p)) rfl (fun L γ W1 hLi hcl hJ hd => ⟨41, #[γ 0, γ 4], by kernel_rfl, by rw [(hd 0 (by kernel_rfl)).is (u := .pointer (some ⟨g, 0, none⟩)) rfl, (hd 4 (by kernel_rfl)).is (u := .int .i64 (p : Int)) rfl]; rcases (hJ.1 (off' fun e => by have h1 := hcl 10 _ rfl e 5 (by kernel_rfl); rw [hLi] at h1; cases h1)) with e | e <;> rw [e] <;> first | exact SC.out w H.out | exact SC.out w.drew H.out⟩) (fun _ => WT.has rfl) (fun L γ W1 hLi hJ => hJ.mark 5 (by decide)) (fun _ => trivial)
      · exact OX.val (.pointer (some ⟨gh, 0, none⟩)) rfl (fun L γ W1 hLi hcl hJ hd => by kernel_rfl) (fun _ => WT.has rfl) (fun L γ W1 hLi hJ => hJ.mark 6 (by decide)) (fun _ => trivial)
      · exact OX.val (.pointer (some ⟨gh, 0, none⟩)) rfl (fun L γ W1 hLi hcl hJ hd => run_nil (.tmp 29) rfl gh 0 (Eq.trans (b := γ 6) (by kernel_rfl) ((hd 6 (by kernel_rfl)).is (u := .pointer (some ⟨gh, 0, none⟩)) rfl))) (fun _ => WT.has rfl) (fun L γ W1 hLi hJ => hJ.mark 7 (by decide)) (fun _ => trivial)
      · exact OX.val (.pointer (some ⟨gh, 1, none⟩)) rfl (fun L γ W1 hLi hcl hJ hd => f0_run (.tmp 30) 1 (by decide) rfl gh (Eq.trans (b := γ 7) (by kernel_rfl) ((hd 7 (by kernel_rfl)).is (u := .pointer (some ⟨gh, 0, none⟩)) rfl))) (fun _ => WT.has rfl) (fun L γ W1 hLi hJ => hJ.mark 8 (by decide)) (fun _ => trivial)
      · exact OX.val (.slice (some ⟨gh, 1, none⟩) 64 64) rfl (fun L γ W1 hLi hcl hJ hd => s46_run (.tmp 31) rfl gh (Eq.trans (b := γ 8) (by kernel_rfl) ((hd 8 (by kernel_rfl)).is (u := .pointer (some ⟨gh, 1, none⟩)) rfl))) (fun _ => WT.has rfl) (fun L γ W1 hLi hJ => hJ.mark 9 (by decide)) (fun _ => trivial)
      · exact OX.new rfl (fun L γ W1 hLi hdep hJ hd => by
          obtain ⟨w3, hr3, hb3, hg3⟩ := CP.out W1 (hJ.1 hLi)
          exact ⟨_, w3, run_copy_op (.tmp 28) (.tmp 32) 22 22 rfl _ _ _ w3 (Eq.trans (b := γ 5) (by kernel_rfl) ((hd 5 (by kernel_rfl)).is (u := .slice (some ⟨gb, 64 * p, none⟩) 64 (128 - 64 * p)) rfl)) (Eq.trans (b := γ 9) (by kernel_rfl) ((hd 9 (by kernel_rfl)).is (u := .slice (some ⟨gh, 1, none⟩) 64 64) rfl)) hr3, WT.no rfl, ⟨fun e => by simp at e, fun _ => ⟨hb3, hg3⟩⟩, trivial⟩)
  · rintro a' w1 ⟨u4, u5, u12, u13, u14, u15, u16, u17, u18, u19, u20, u21, u22, u23, u24, u25, u26, u27, u28, u29, u30, u31, u32, u33, u34, rfl, h2, h3⟩
    have HB := Lib.hid h2
    have HG := Lib.hid h3
    have c1' : w1.cell? ⟨g, 1, none⟩ = some (.slice (some ⟨gh, 0, none⟩) 1 cap) := h3.cell c1 (by simp [hg1])
    have DB1 : DB w1 g gb 128 128 (.slice (some ⟨gh, 0, none⟩) 1 cap) up st cs cw ch := H.out.grown h3 (by simp; exact Ne.symm hg1)
    have BH1 : Bl w1 gh 67 cur := HH.out.grown h3 (by simp; exact hg3)
    obtain ⟨w2, cur', hcl, hb2, hs2, hg2'⟩ := clear_run w1 gh cap cur BH1 (by omega) 0
    have DB2 := DB.kept DB1 (Gx.of_grown (S := [gh]) hg2' (by simp)) (by simpa using hg2)
    have HB2 := Lib.hid (show Bl w2 gb 5 (spl CS (64 * p) sv) from h2.grown hg2' (by simp; exact Ne.symm hg3))
    have HH2 := Lib.hid hb2
    have HS2 := Lib.hid (show cur'.size = cap * 65 from hs2.trans hcur)
    have HD2 := Lib.hid DB2
    have G1 : Gx [g, gb, gh] w w1 := Gx.of_grown h3 (by simp)
    have G2 : Gx [g, gb, gh] w w2 := G1.trans (Gx.of_grown hg2' (by simp))
    have HG2 := Lib.hid G2
    have c2 := DB2.c1
    have f2 := DB2.fz 1
    clear h2 h3 DB1 BH1 hb2 hs2 hg2' DB2 G1 G2 hcur
    go_wp2_with fail
    refine bodyPost_end (results_none rfl _ _ _) rfl ?_
    exact ⟨⟨_, rfl⟩, cur', HD2.out.set1 _, Bl.other HB2.out (by simpa using Ne.symm hg1) _, Bl.other HH2.out (by simpa using Ne.symm hg2) _, HS2.out, HG2.out.set (by simp) _⟩
end
end Go.Proofs.Ytbgkdbjineennaa.Dk
