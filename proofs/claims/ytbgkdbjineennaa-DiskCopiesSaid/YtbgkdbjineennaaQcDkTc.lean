/- Joined texts. -/
import Derived.Test.YtbgkdbjineennaaQcDkTb
set_option linter.unusedVariables false
namespace Go.Proofs.Ytbgkdbjineennaa.Dk
open Go.IntWalk Go.RowKit Go.Proofs.Ytbgkdbjineennaa.Gn Go.Proofs.Ytbgkdbjineennaa.Fd Go.Deep
section
variable {w:World} {base g gb:Nat} {H:Value} {cs:Bool} {cw:Int} {ch:Value} {m:M}
theorem Gx.next{g gb:Nat}{H H1:Value}{w a b:World}(h:Gx (Ts g gb H) w a)(k:Gx (Ts g gb H1) a b)(hH:H1.ownBlock=H.ownBlock∨∃q,H1.ownBlock=some q∧w.heap.size≤q):Gx (Ts g gb H) w b:=by
 refine⟨k.os.trans h.os,k.tape.trans h.tape,k.output.trans h.output,Nat.le_trans h.size k.size,fun i hi hn=>(k.block i (Nat.lt_of_lt_of_le hi h.size) fun hm=>hn ?_).trans (h.block i hi hn)⟩
 simp only[Ts,List.mem_cons,Option.mem_toList] at hm ⊢
 rcases hm with h|h|h
 ·exact .inl h
 ·exact .inr (.inl h)
 ·rcases hH with e|⟨q,e,hq⟩
  ·rw[e] at h;exact .inr (.inr h)
  ·rw[e] at h;cases h;omega
theorem own_next{H H1 H2:Value}{w a:World}(hs:w.heap.size≤a.heap.size)(h1:H1.ownBlock=H.ownBlock∨∃q,H1.ownBlock=some q∧w.heap.size≤q)(h2:H2.ownBlock=H1.ownBlock∨∃q,H2.ownBlock=some q∧a.heap.size≤q):H2.ownBlock=H.ownBlock∨∃q,H2.ownBlock=some q∧w.heap.size≤q:=by
 rcases h2 with e|⟨q,e,hq⟩
 ·rw[e];exact h1
 ·exact .inr ⟨q,e,by omega⟩
theorem Dd.kinds(D:Dd w base g gb H cs cw ch m):Kd w g 60∧Kd w gb 5∧(∀b,H.ownBlock=some b→base≤b∧Kd w b 67)∧(∀b,ch.ownBlock=some b→base≤b∧Kd w b 4):=by
 refine⟨⟨_,D.blk⟩,⟨_,D.byt⟩,fun b hb=>own_kd D.own hb,fun b hb=>?_⟩
 have hc:=D.cut
 cases hm:m.cut with
 |none=>rw[hm] at hc;obtain⟨-, -, rfl⟩:=hc;cases hb
 |some x=>rw[hm] at hc;exact own_kd hc.2.2.2.2 hb
theorem Dd.args(D:Dd w base g gb H cs cw ch m){w':World}(hG:Gx (Ts g gb H) w w'){A:Option Addr}{n:Nat}{l:List Value}(hA:∀ad,A=some ad→0 < n→ad.block < base)(hs:Sl w A n l):Sl w' A n l :=
 sl_gx0 hG (fun ad e hk0 hm=>by
  have h:=hA ad e hk0
  simp only[Ts,List.mem_cons,Option.mem_toList] at hm
  rcases hm with hm|hm|hm
  ·have:=D.b1;omega
  ·have:=D.b2;omega
  ·have:=(own_kd D.own hm).1;omega) hs
theorem Dd.array(D:Dd w base g gb H cs cw ch m){w':World}{sb:Nat}{t:TypeId}(hk:Kd w sb t)(h1:t≠60)(h2:t≠5)(h3:t≠67)(h4:t≠4)(hG:Gx [sb] w w'):Dd w' base g gb H cs cw ch m:=by
 obtain⟨k1,k2,k3,k4⟩:=D.kinds
 refine D.kept hG fun b hb=>?_
 rw[List.mem_singleton.1 hb]
 exact⟨hk.unlike k1 h1,hk.unlike k2 h2,fun e=>hk.unlike (k3 _ e).2 h3 rfl,fun e=>hk.unlike (k4 _ e).2 h4 rfl⟩
theorem Dd.off(D:Dd w base g gb H cs cw ch m){sb:Nat}{t:TypeId}(hk:Kd w sb t)(h1:t≠60)(h2:t≠5)(h3:t≠67):sb∉Ts g gb H:=by
 obtain⟨k1,k2,k3,k4⟩:=D.kinds
 intro hm
 simp only[Ts,List.mem_cons,Option.mem_toList] at hm
 rcases hm with hm|hm|hm
 ·exact hk.unlike k1 h1 hm
 ·exact hk.unlike k2 h2 hm
 ·exact hk.unlike (k3 _ hm).2 h3 rfl
theorem pad_full{l:List Nat}(h:64≤l.length)(cur:Array Value)(hc:cur.size=64):spl cur 0 ((bl l).take 64)=(bl (pad l)).toArray:=by
 have e:((bl l).take 64).length=64:=by rw[List.length_take,bl_length];omega
 rw[spl_all _ _ (by rw[e];exact hc),bl_take]
 unfold pad
 rw[show 64 - l.length=0 by omega,List.replicate_zero,List.append_nil]
theorem pad_part{l:List Nat}{n:Nat}(hn:l.length=n)(h:n < 64)(cur:Array Value)(hc:cur.size=64):spl (spl cur 0 ((bl l).take n)) n (List.replicate (64 - n) (.int .u8 0))=(bl (pad l)).toArray:=by
 have e:(bl l).take n=bl l:=List.take_of_length_le (by rw[bl_length];omega)
 rw[e,spl_eq cur 0 _ (by rw[bl_length];omega),spl_eq _ _ _ (by rw[List.length_replicate,List.size_toArray];simp[bl_length];omega)]
 unfold pad
 rw[List.take_of_length_le (by omega:l.length≤64),bl_append]
 congr 1
 have e2:(bl l).length=n:=by rw[bl_length];exact hn
 simp only[List.take_zero,List.nil_append,Nat.zero_add]
 rw[List.take_append_of_le_length (by omega),List.take_of_length_le (by omega),e2]
 congr 1
 rw[List.drop_of_length_le (by simp[bl_length];omega),List.append_nil,hn]
 unfold bl
 rw[List.map_replicate]
 rfl
set_option maxRecDepth 100000 in
set_option maxHeartbeats 16000000 in
theorem Save_dd(D:Dd w base g gb H cs cw ch m)(h9:m.ss.length≤100)(a:Int)(B:Option Addr)(n cap:Nat)(l:List Nat)(hB:Sl w B n (bl l))(hB0:B=none→cap=0)(hcap:n≤cap)(hBa:∀ad,B=some ad→0 < n→ad.block < base)(hn9:n < 9223372036854775808)(hk:n≤6400→m.hd.length+n < 900000)(hst:n≤6400→m.st+n < 900000000):Calls Try.prog 21 #[.pointer (some ⟨g,0,none⟩),.int .i64 a,.slice B n cap] w (OpQ w base g gb H cs ch (m.save a l)):=by
 have hl:l.length=n:=by have:=hB.1;rwa [bl_length] at this
 have C:=ready_dd D
 unfold M.ready at C
 have DD:=Lib.hid D
 by_cases hu:m.up=true
 ·rw[if_pos hu] at C
  have C:=Lib.hid C
  have C2:=span_dd D a n hn9
  by_cases hs:m.span a (n:Int)=0
  ·rw[hs] at C2
   have C2:=Lib.hid C2
   have hs':0≤a∧a≤m.ss.length∧(n:Int)≤((m.ss.length:Int) - a)*64:=by
    unfold M.span at hs
    split at hs
    ·cases hs
    ·split at hs
     ·cases hs
     ·exact⟨by omega,by omega,by omega⟩
   obtain⟨p,rfl⟩:∃p:Nat,a=(p:Int):=⟨a.toNat,by omega⟩
   have hp:p≤100:=by omega
   have hn6:n≤6400:=by omega
   have HK:=Lib.hid (And.intro (hk hn6) (hst hn6))
   obtain⟨R,hR⟩:∃R,m.save (p:Int) l=R:=⟨_,rfl⟩
   have HR:=Lib.hid (show M.saves (l.length+1) m p l=R by
    rw[←hR];unfold M.save
    rw[if_pos hu,hl,if_pos hs,Int.toNat_natCast])
   rw[hR]
   have HB:=Lib.hid hB
   have HN0:=Lib.hid hB0
   have HBA:=Lib.hid hBa
   have HL:=Lib.hid hl
   have hi8:(Try.prog.info? 5).map (·.size)=some 1:=by kernel_rfl
   have HI8:=Lib.hid hi8
   clear D hB hB0 hBa hl hk hst hu hs hs' hR h9 hi8
   go_enter Try.func21,Try.ntmps21
   go_wp2_with (first|(go_at_call 31;(with_reducible refine C.out.mono ?_);rintro e w9 ⟨rfl,rfl⟩)|(go_at_call 38;(with_reducible refine C2.out.mono ?_);rintro e w9 ⟨rfl,rfl⟩))
   go_loopw [1,2] (fun q v wr=>∃(P n' c' f:Nat) (B':Option Addr) (l':List Nat) (mi:M) (Hi:Value) (cwi:Int) (cur:Array Value),q=.int .i64 (P:Int)∧v=.slice B' n' c'∧n'≤c'∧Sl w B' n' (bl l')∧(B'=none→c'=0)∧(∀ad,B'=some ad→0 < n'→ad.block < base)∧Dd wr base g gb Hi cs cwi ch mi∧(Hi.ownBlock=H.ownBlock∨∃q,Hi.ownBlock=some q∧w.heap.size≤q)∧Gx (Ts g gb H) w wr∧Bl wr w.heap.size 65 cur∧cur.size=64∧n' < f∧M.saves f mi P l'=R∧mi.hd.length+n' < 900000∧mi.st+n' < 900000000∧P+n'≤p+n) (fun _ v _=>(lenOf v).toNat)
   case atStart =>
    have hB1:=Bl.new_ w 65 (List.replicate 64 (Value.int .u8 0)).toArray
    exact⟨p,n,cap,n+1,B,l,m,H,cw,_,rfl,rfl,hcap,HB.out,HN0.out,HBA.out,DD.out.below ((Below.refl _ _).alloc (Nat.le_refl _) _),.inl rfl,.of_below ((Below.refl _ _).alloc (Nat.le_refl _) _),hB1,rfl,Nat.lt_succ_self _,by have:=HR.out;rwa [HL.out] at this,HK.out.1,HK.out.2,Nat.le_refl _⟩
   case round =>
    obtain⟨P,n',c',f,B',l',mi,Hi,cwi,cur,rfl,rfl,hc',hSl,hN',hA',hD,hHi,hG,hBl,hcur,hf,hM,hk',hst',hP⟩:=hrel
    have L':l'.length=n':=by have:=hSl.1;rwa [bl_length] at this
    by_cases hlt:0 < n'
    ·have q1:(0:Int) < (n':Int):=by omega
     obtain⟨f,rfl⟩:∃f',f=f'+1:=⟨f - 1,by omega⟩
     obtain⟨ad,hBa',-⟩:=hSl.at_ hlt
     have HBA':=Lib.hid hBa'
     have HN':=Lib.hid hN'
     have hP9:P≤100000:=by omega
     have hBw:w.heap.size < wr.heap.size:=hBl.lt
     have hkd:Kd wr w.heap.size 65:=⟨_,hBl⟩
     have SW:=Lib.hid (show Sl wr (some ad) n' (bl l') from by rw[←hBa'];exact DD.out.args hG hA' hSl)
     clear hBa'
     have hne:l'≠[]:=by intro e;rw[e] at L';simp at L';omega
     rw[M.saves,if_neg hne] at hM
     have WH:=Lib.hid (M.write_hs mi (P:Int) (pad l'))
     obtain⟨WR,hWR⟩:∃WR,mi.write (P:Int) (pad l')=WR:=⟨_,rfl⟩
     rw[hWR] at hM WH
     have WC:∀(u:World),Gx [w.heap.size] wr u→Bl u w.heap.size 65 (bl (pad l')).toArray→Calls Try.prog 18 #[.pointer (some ⟨g,0,none⟩),.int .i64 (P:Int),.slice (some ⟨w.heap.size,0,none⟩) 64 64] u (OpQ u base g gb Hi cs ch WR):=fun u hu hb=>by
      rw[←hWR]
      refine Write_dd (hD.array hkd (by decide) (by decide) (by decide) (by decide) hu) (by omega) (by omega) (P:Int) (pad l') _ 64 64 ?_ (by decide)
      exact Sl.of_bl hb 0 _ _ (by rw[bl_length,pad_length]) fun k v hk=>by rw[Nat.zero_add];simpa using hk
     have WC:=Lib.hid WC
     have NXT:=Lib.hid (fun(u u2:World) (H2:Value) (cw2:Int) (hu:Gx [w.heap.size] wr u) (hb:Bl u w.heap.size 65 (bl (pad l')).toArray) (d2:Dd u2 base g gb H2 cs cw2 ch WR.2) (o2:H2.ownBlock=Hi.ownBlock∨∃q,H2.ownBlock=some q∧u.heap.size≤q) (g2:Gx (Ts g gb Hi) u u2) =>
      show(H2.ownBlock=H.ownBlock∨∃q,H2.ownBlock=some q∧w.heap.size≤q)∧Gx (Ts g gb H) w u2∧Bl u2 w.heap.size 65 (bl (pad l')).toArray from by
       have du:=hD.array hkd (by decide) (by decide) (by decide) (by decide) hu
       have hku:Kd u w.heap.size 65:=⟨_,hb⟩
       have G1:Gx (Ts g gb H) w u:=⟨hu.os.trans hG.os,hu.tape.trans hG.tape,hu.output.trans hG.output,Nat.le_trans hG.size hu.size,fun i hi hn=>(hu.block i (Nat.lt_of_lt_of_le hi hG.size) (by simp;omega)).trans (hG.block i hi hn)⟩
       exact⟨own_next G1.size hHi o2,G1.next g2 hHi,g2.bl (du.off hku (by decide) (by decide) (by decide)) hb⟩)
     have HBL:=Lib.hid hBl
     have HCU:=Lib.hid hcur
     have HM:=Lib.hid hM
     have HSL:=Lib.hid hSl
     have HA:=Lib.hid hA'
     have LL:=Lib.hid L'
     clear hD hHi hG hBl hcur hM hSl hA' hN' hne hWR hkd L'
     by_cases hz:WR.1=0
     ·by_cases h6:64≤n'
      ·have hcl:=fun(A:Option Addr) (c:Nat) (W:World)=>run_clear_none 0 A c W
       have hse:=fun(W:World)=>run_sliceAt_end Try.underlying65 HI8.out w.heap.size W
       have MM:=Lib.hid (show 64=Nat.min n' 64 from(Nat.min_eq_right h6).symm)
       have PD:=Lib.hid (pad_full (l:=l') (by rw[LL.out];exact h6) cur HCU.out)
       have FIT:=Lib.hid (show 0+64≤cur.size by rw[HCU.out];omega)
       have q5:(64:Int)≤(n':Int):=by omega
       have WZ:=Lib.hid hz
       have WC:=Lib.hid (fun u h1 h2=>(WC.out u h1 h2).mono fun e w' (h:OpQ u base g gb Hi cs ch WR e w')=>show e=.returned (.int .i64 0)∧OpQ u base g gb Hi cs ch WR e w' from⟨by rw[h.1,hz];rfl,h⟩)
       clear hz
       have q6:((64:Nat):Int)≤(c':Int):=by omega
       go_wp2_with (first
        |(refine wpList_copy_bl rfl (.tmp 30) (.tmp 31) 22 22 rfl 5 Try.underlying22 HI8.out w.heap.size 0 64 64 ad n' c' rfl (Eq.trans (b:=Value.slice B' n' c') rfl (by rw[HBA'.out])) 65 cur HBL.out (bl l') SW.out 64 MM.out FIT.out (bl_one l') ?_;intro w2 h2 h3;rw[PD.out] at h2;have K2:=Lib.hid h2;have GU:=Lib.hid (Gx.of_grown (S:=[w.heap.size]) h3 (fun k e=>by cases e;simp));clear h2 h3)
        |(go_at_call 18;(with_reducible refine(WC.out _ GU.out K2.out).mono ?_);rintro e w4 ⟨rfl,-, H2,cw2,d1,d2,d3⟩;have D1:=Lib.hid d1;have D2:=Lib.hid d2;have D3:=Lib.hid d3;clear d1 d2 d3))
       obtain⟨x1,x2,x3⟩:=NXT.out _ _ _ _ GU.out K2.out D1.out D2.out D3.out
       have hM2:=HM.out
       rw[if_pos WZ.out] at hM2
       have wh:=WH.out
       refine⟨⟨P+1,n' - 64,c' - 64,f,_,l'.drop 64,WR.2,H2,cw2,_,by go_num,by first|rfl|(simp;rfl)|(simp),by omega,?_,nil_drop HN'.out,blk_drop HA.out,D1.out,x1,x2,x3,by rw[List.size_toArray,bl_length,pad_length],by omega,hM2,by omega,by omega,by omega⟩,by simp[lenOf];omega⟩
       rw[←bl_drop]
       exact HSL.out.drop_ 64 h6 hc'
      ·have h6':n' < 64:=by omega
       have hsf:=fun(W:World)=>run_sliceAt_from Try.underlying65 HI8.out w.heap.size n' h6' W
       have MM:=Lib.hid (show n'=Nat.min n' 64 from(Nat.min_eq_left (by omega)).symm)
       have PD:=Lib.hid (pad_part LL.out h6' cur HCU.out)
       have FIT:=Lib.hid (show 0+n'≤cur.size by rw[HCU.out];omega)
       have q5:¬(64:Int)≤(n':Int):=by omega
       have WZ:=Lib.hid hz
       have WC:=Lib.hid (fun u h1 h2=>(WC.out u h1 h2).mono fun e w' (h:OpQ u base g gb Hi cs ch WR e w')=>show e=.returned (.int .i64 0)∧OpQ u base g gb Hi cs ch WR e w' from⟨by rw[h.1,hz];rfl,h⟩)
       clear hz
       have q6:((n':Nat):Int)≤(c':Int):=by omega
       go_wp2_with (first
        |(refine wpList_copy_bl rfl (.tmp 30) (.tmp 31) 22 22 rfl 5 Try.underlying22 HI8.out w.heap.size 0 64 64 ad n' c' rfl (Eq.trans (b:=Value.slice B' n' c') rfl (by rw[HBA'.out])) 65 cur HBL.out (bl l') SW.out n' MM.out FIT.out (bl_one l') ?_;intro w2 h2 h3;obtain⟨w3,hcl,h4,h5⟩:=run_clear_bytes w2 w.heap.size n' (64 - n') (64 - n') _ _ h2 (by rw[spl_size,HCU.out];omega) 0;rw[PD.out] at h4;have K2:=Lib.hid h4;have GU:=Lib.hid ((Gx.of_grown (S:=[w.heap.size]) h3 (fun k e=>by cases e;simp)).trans (Gx.of_grown (S:=[w.heap.size]) h5 (fun k e=>by cases e;simp)));clear h2 h3 h4 h5)
        |(go_at_call 18;(with_reducible refine(WC.out _ GU.out K2.out).mono ?_);rintro e w4 ⟨rfl,-, H2,cw2,d1,d2,d3⟩;have D1:=Lib.hid d1;have D2:=Lib.hid d2;have D3:=Lib.hid d3;clear d1 d2 d3))
       obtain⟨x1,x2,x3⟩:=NXT.out _ _ _ _ GU.out K2.out D1.out D2.out D3.out
       have hM2:=HM.out
       rw[if_pos WZ.out] at hM2
       have wh:=WH.out
       refine⟨⟨P+1,n' - n',c' - n',f,_,l'.drop 64,WR.2,H2,cw2,_,by go_num,by first|rfl|(simp;rfl)|(simp),by omega,?_,nil_drop HN'.out,blk_drop HA.out,D1.out,x1,x2,x3,by rw[List.size_toArray,bl_length,pad_length],by omega,hM2,by omega,by omega,by omega⟩,by simp[lenOf];omega⟩
       have e0:l'.drop 64=l'.drop n':=by rw[List.drop_of_length_le (by rw[LL.out];omega),List.drop_of_length_le (by rw[LL.out];omega)]
       rw[e0,←bl_drop]
       exact HSL.out.drop_ n' (Nat.le_refl _) hc'
     ·by_cases h6:64≤n'
      ·have hcl:=fun(A:Option Addr) (c:Nat) (W:World)=>run_clear_none 0 A c W
       have hse:=fun(W:World)=>run_sliceAt_end Try.underlying65 HI8.out w.heap.size W
       have MM:=Lib.hid (show 64=Nat.min n' 64 from(Nat.min_eq_right h6).symm)
       have PD:=Lib.hid (pad_full (l:=l') (by rw[LL.out];exact h6) cur HCU.out)
       have FIT:=Lib.hid (show 0+64≤cur.size by rw[HCU.out];omega)
       have q5:(64:Int)≤(n':Int):=by omega
       have WZ:=Lib.hid hz
       obtain⟨E,hE⟩:∃E:Int,((WR.1:Nat):Int)=E:=⟨_,rfl⟩
       have HE:=Lib.hid hE
       have q9:(E != 0)=true:=by rw[←hE,bne_iff_ne];omega
       have WC:=Lib.hid (fun u h1 h2=>(WC.out u h1 h2).mono fun e w' (h:OpQ u base g gb Hi cs ch WR e w')=>show e=.returned (.int .i64 E)∧OpQ u base g gb Hi cs ch WR e w' from⟨by rw[←hE];exact h.1,h⟩)
       clear hz hE
       have q6:((64:Nat):Int)≤(c':Int):=by omega
       go_wp2_with (first
        |(refine wpList_copy_bl rfl (.tmp 30) (.tmp 31) 22 22 rfl 5 Try.underlying22 HI8.out w.heap.size 0 64 64 ad n' c' rfl (Eq.trans (b:=Value.slice B' n' c') rfl (by rw[HBA'.out])) 65 cur HBL.out (bl l') SW.out 64 MM.out FIT.out (bl_one l') ?_;intro w2 h2 h3;rw[PD.out] at h2;have K2:=Lib.hid h2;have GU:=Lib.hid (Gx.of_grown (S:=[w.heap.size]) h3 (fun k e=>by cases e;simp));clear h2 h3)
        |(go_at_call 18;(with_reducible refine(WC.out _ GU.out K2.out).mono ?_);rintro e w4 ⟨rfl,-, H2,cw2,d1,d2,d3⟩;have D1:=Lib.hid d1;have D2:=Lib.hid d2;have D3:=Lib.hid d3;clear d1 d2 d3))
       all_goals(
        go_ret
        obtain⟨x1,x2,x3⟩:=NXT.out _ _ _ _ GU.out K2.out D1.out D2.out D3.out
        have hM2:=HM.out
        rw[if_neg WZ.out] at hM2
        subst hM2
        exact⟨by rw[HE.out];rfl,H2,cw2,D1.out,x1,x2⟩)
      ·have h6':n' < 64:=by omega
       have hsf:=fun(W:World)=>run_sliceAt_from Try.underlying65 HI8.out w.heap.size n' h6' W
       have MM:=Lib.hid (show n'=Nat.min n' 64 from(Nat.min_eq_left (by omega)).symm)
       have PD:=Lib.hid (pad_part LL.out h6' cur HCU.out)
       have FIT:=Lib.hid (show 0+n'≤cur.size by rw[HCU.out];omega)
       have q5:¬(64:Int)≤(n':Int):=by omega
       have WZ:=Lib.hid hz
       obtain⟨E,hE⟩:∃E:Int,((WR.1:Nat):Int)=E:=⟨_,rfl⟩
       have HE:=Lib.hid hE
       have q9:(E != 0)=true:=by rw[←hE,bne_iff_ne];omega
       have WC:=Lib.hid (fun u h1 h2=>(WC.out u h1 h2).mono fun e w' (h:OpQ u base g gb Hi cs ch WR e w')=>show e=.returned (.int .i64 E)∧OpQ u base g gb Hi cs ch WR e w' from⟨by rw[←hE];exact h.1,h⟩)
       clear hz hE
       have q6:((n':Nat):Int)≤(c':Int):=by omega
       go_wp2_with (first
        |(refine wpList_copy_bl rfl (.tmp 30) (.tmp 31) 22 22 rfl 5 Try.underlying22 HI8.out w.heap.size 0 64 64 ad n' c' rfl (Eq.trans (b:=Value.slice B' n' c') rfl (by rw[HBA'.out])) 65 cur HBL.out (bl l') SW.out n' MM.out FIT.out (bl_one l') ?_;intro w2 h2 h3;obtain⟨w3,hcl,h4,h5⟩:=run_clear_bytes w2 w.heap.size n' (64 - n') (64 - n') _ _ h2 (by rw[spl_size,HCU.out];omega) 0;rw[PD.out] at h4;have K2:=Lib.hid h4;have GU:=Lib.hid ((Gx.of_grown (S:=[w.heap.size]) h3 (fun k e=>by cases e;simp)).trans (Gx.of_grown (S:=[w.heap.size]) h5 (fun k e=>by cases e;simp)));clear h2 h3 h4 h5)
        |(go_at_call 18;(with_reducible refine(WC.out _ GU.out K2.out).mono ?_);rintro e w4 ⟨rfl,-, H2,cw2,d1,d2,d3⟩;have D1:=Lib.hid d1;have D2:=Lib.hid d2;have D3:=Lib.hid d3;clear d1 d2 d3))
       all_goals(
        go_ret
        obtain⟨x1,x2,x3⟩:=NXT.out _ _ _ _ GU.out K2.out D1.out D2.out D3.out
        have hM2:=HM.out
        rw[if_neg WZ.out] at hM2
        subst hM2
        exact⟨by rw[HE.out];rfl,H2,cw2,D1.out,x1,x2⟩)
    ·obtain rfl:n'=0:=by omega
     have hl0:l'=[]:=List.length_eq_zero_iff.1 L'
     subst hl0
     obtain⟨f,rfl⟩:∃f',f=f'+1:=⟨f - 1,by omega⟩
     rw[M.saves,if_pos rfl] at hM
     have HM:=Lib.hid hM
     have HD:=Lib.hid hD
     have HO:=Lib.hid hHi
     have HG:=Lib.hid hG
     clear hD hHi hG hBl hcur hM hSl hA' hN'
     go_wp2_with fail
     go_ret
     have hM:=HM.out
     subst hM
     exact⟨rfl,Hi,cwi,HD.out,HO.out,HG.out⟩
  ·obtain⟨E,hE⟩:∃E,m.span a (n:Int)=E:=⟨_,rfl⟩
   have e1:m.save a l=(61,m):=by
    unfold M.save
    rw[if_pos hu,hl,if_neg hs]
   have e2:E=61:=by
    rw[←hE]
    unfold M.span at hs ⊢
    split
    ·rfl
    ·rename_i h0
     rw[if_neg h0] at hs
     split
     ·rfl
     ·rename_i h1;rw[if_neg h1] at hs;exact absurd rfl hs
   rw[hE,e2] at C2
   have C2:=Lib.hid C2
   rw[e1]
   clear D hE hs hB hl hk hst hu e1 e2 h9
   go_enter Try.func21,Try.ntmps21
   go_wp2_with (first|(go_at_call 31;(with_reducible refine C.out.mono ?_);rintro e w9 ⟨rfl,rfl⟩)|(go_at_call 38;(with_reducible refine C2.out.mono ?_);rintro e w9 ⟨rfl,rfl⟩))
   go_ret
   exact⟨rfl,H,cw,DD.out,.inl rfl,Gx.refl _ _⟩
 ·rw[if_neg hu] at C
  have C:=Lib.hid C
  have e1:m.save a l=(60,m):=by
   unfold M.save
   rw[if_neg hu]
  rw[e1]
  clear D hB hl hk hst hu e1 h9
  go_enter Try.func21,Try.ntmps21
  go_wp2_with (go_at_call 31;(with_reducible refine C.out.mono ?_);rintro e w9 ⟨rfl,rfl⟩)
  go_ret
  exact⟨rfl,H,cw,DD.out,.inl rfl,Gx.refl _ _⟩
end
end Go.Proofs.Ytbgkdbjineennaa.Dk
