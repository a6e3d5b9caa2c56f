/- Joined texts. -/
import Derived.Outline
import Derived.Test.YtnnfpmebopgogaaDoorQsSaC
import Derived.Test.YtnnfpmebopgogaaDoorQsSaD
set_option linter.unusedVariables false
namespace Go.Proofs.YtnnfpmebopgogaaDoor.Sh
open Go.RowKit Go.Proofs.YtnnfpmebopgogaaDoor.Gn Go.Deep
def Hs(b:Bool)(T:List Nat)(g:Nat)(w:World):Prop:=∃ws rs,Bl w g 121 (hc b T.length ws rs).toArray∧St b T ws rs
theorem Hs.below{b:Bool}{T:List Nat}{g:Nat}{w w':World}(h:Hs b T g w)(hb:Below w.heap.size w w'):Hs b T g w':=by
 obtain⟨ws,rs,h1,h2⟩:=h
 exact⟨ws,rs,h1.below' hb,h2⟩
theorem size_hash:(Tryd.prog.info? 121).map (·.size)=some 138:=by kernel_rfl
theorem Tab.size{w:World}(h:Tab w):(1 < w.heap.size∧0 < w.heap.size):=⟨cell_lt (h.1 0 (by decide)),cell_lt (h.2 0 (by decide))⟩
theorem hc_ones(b:Bool)(n:Nat)(ws rs:List Nat):∀v∈hc b n ws rs,v.oneCell'=true:=by
 intro v hv
 simp only[hc,bl,List.mem_cons,List.mem_append,List.mem_map] at hv
 rcases hv with rfl|rfl|⟨x,-, rfl⟩|⟨x,-, rfl⟩ <;> rfl
theorem hc_word(b:Bool)(n:Nat)(ws rs:List Nat)(k:Nat)(h:k < ws.length):(hc b n ws rs).toArray[2+k]?=some (.int .u64 ((ws.getD k 0:Nat):Int)):=by
 simp only[hc,List.getElem?_toArray]
 rw[show 2+k=k+1+1 by omega,List.getElem?_cons_succ,List.getElem?_cons_succ,List.getElem?_append_left (by simpa using h)]
 simp[h]
theorem hc_setw(b:Bool)(n:Nat)(ws rs:List Nat)(k v:Nat)(h:k < ws.length):(hc b n ws rs).toArray.setIfInBounds (2+k) (.int .u64 (v:Int))=(hc b n (ws.set k v) rs).toArray:=by
 have:∀l r:List Value,k < l.length→(l ++ r).set k (.int .u64 (v:Int))=l.set k (.int .u64 (v:Int)) ++ r:=fun l r h=>by rw[List.set_append_left _ _ h]
 rw[show 2+k=k+1+1 by omega]
 simp only[hc,List.setIfInBounds_toArray,List.set_cons_succ]
 rw[this _ _ (by simpa using h),←List.map_set]
theorem none32(g:Nat)(w:World)(hb:w.cell? ⟨g,0,none⟩=some (.int .i64 256)):Calls Tryd.prog 98 #[.pointer (some ⟨g,0,none⟩)] w fun e w'=>e=.returned (.bool false)∧w=w':=by
 go_enter Tryd.func98,Tryd.ntmps98
 go_wp2
 go_ret
 exact⟨rfl,rfl⟩
theorem zc32:Tryd.zeroCells121.toList.set 0 (.int .i64 256)=hc false 0 (List.replicate 8 0) (List.replicate 128 0):=by kernel_rfl
def RZ32(g q:Nat)(w:World)(i:Value)(wr:World):Prop :=
 ∃(k:Nat) (ws:List Nat),k≤8∧i=.int .i64 (k:Int)∧ws.length=8∧(∀j,j < k→ws.getD j 0=(st false).getD j 0)∧Bl wr g 121 (hc false 0 ws (List.replicate 128 0)).toArray∧Bl wr q 128 (kv false)∧w.grownBy wr (some g)∧Tab wr
set_option maxRecDepth 100000 in
set_option maxHeartbeats 1000000 in
theorem reset32_any(g n:Nat)(ws rs:List Nat)(hw:ws.length=8)(hr:rs.length=128)(w:World)(hg2:(1 < g∧0 < g))(hb:Bl w g 121 (hc false n ws rs).toArray)(tab:Tab w) :
  Calls Tryd.prog 97 #[.pointer (some ⟨g,0,none⟩)] w fun e w'=>e=.returned (.tuple #[])∧Bl w' g 121 (hc false 0 (st false) (List.replicate 128 0)).toArray∧w.grownBy w' (some g):=by
 have TAB:=Lib.hid tab
 have HB:=Lib.hid hb
 have b0:w.cell? ⟨g,0,none⟩=some (.int .i64 256):=hb.cell_ rfl
 clear hb tab
 go_enter Tryd.func97,Tryd.ntmps97
 go_upto_region 2 with(first|(go_at_call 98;refine(none32 g _ b0).mono ?_;rintro e w' ⟨rfl,rfl⟩)|(go_at_call 104;refine(kindOf_256 _).mono ?_;rintro e w1 ⟨rfl,hb1⟩;rw[kv_false]))
 have hq1:=Bl.new_ w1 128 (kv false)
 have hq2:Below w.heap.size w (w1.alloc (.cells (kv false) 128)):=hb1.alloc hb1.size _
 have hqs:g≠w1.heap.size:=by have:=cell_lt b0;have:=hb1.size;simp at *;omega
 rw[kv_false] at hq1 hq2
 generalize hwq:w1.alloc _=wq at hq1 hq2 ⊢
 generalize hqq:w1.heap.size=q at *
 clear hwq
 have HQ1:=Lib.hid hq1
 have HQ2:=Lib.hid hq2
 have hbq:=HB.out.below' hq2
 have HBQ:=Lib.hid hbq
 have k0:=hbq.cell_ (i:=0) (v:=.int .i64 256) rfl
 clear hq1 hq2 b0
 obtain⟨w3,hst,hb3,hg3⟩:=run_store_bl Tryd.prog HBQ.out 0 (Tryd.zeroCells121.toList.set 0 (.int .i64 256)) (by rw[zc32,hc_size _ _ _ _ hw hr];simp[hc,bl]) (by rw[zc32];exact hc_ones _ _ _ _)
 rw[zc32,spl_all _ _ (by rw[hc_size _ _ _ _ hw hr];simp[hc,bl])] at hb3
 have HB3:=Lib.hid hb3
 have HG3:=Lib.hid hg3
 clear hb3 hg3
 go_wp2_with fail
 go_loopw [18] (fun i wr=>RZ32 g q w i wr) (fun i _=>8 - (intOf i).toNat)
 case atStart =>
  refine⟨0,List.replicate 8 0,Nat.zero_le _,rfl,by simp,fun j hj=>by omega,HB3.out,HQ1.out.grown HG3.out (fun e=>by injection e;omega),only_trans (only_below HQ2.out _) HG3.out,(TAB.out.below HQ2.out).only hg2 HG3.out⟩
 case round =>
  obtain⟨k,us,hk,rfl,h1,h2,h3,h4,h5,h6⟩:=hrel
  have H2:=Lib.hid h2
  have H3:=Lib.hid h3
  have H4:=Lib.hid h4
  have H5:=Lib.hid h5
  have H6:=Lib.hid h6
  clear h2 h3 h4 h5 h6
  by_cases hlt:k < 8
  ·have hcell:=H3.out.cell (2+k)
   rw[hc_word _ _ _ _ _ (by omega)] at hcell
   have hfz:=H3.out.frozen (2+k)
   have cq:=H4.out.cell_ (i:=0) (v:=.int .u64 32) (by rw[kv_false];rfl)
   have cs:=H6.out.2 k hlt
   obtain⟨x,hx⟩:∃x,x=sc.getD k 0:=⟨_,rfl⟩
   rw[←hx] at cs
   have HX:=Lib.hid hx
   clear hx
   have bk8:(k:Int) < 8:=by omega
   go_wp2_with fail
   go_region_held3 (fun x'=>x'.cell? ⟨0,k,none⟩=some (.int .u64 (x:Int))∧x'.cell? ⟨q,0,none⟩=some (.int .u64 32))
    (first|exact⟨cs,cq⟩|exact⟨(World.cell?_setCell_other _ _ _ _ (by simp <;> omega)).trans cs,(World.cell?_setCell_other _ _ _ _ (by simp <;> omega)).trans cq⟩) (fail)
   rename_i hHeld
   clear hHeld
   go_wp2
   go_roundw
   case rel =>
    have e1:(x:Int) / 2 ^ min 32 64=((x / 2 ^ (64 - wd false):Nat):Int):=by simp[wd]
    try rw[e1]
    refine⟨k+1,us.set k (x / 2 ^ (64 - wd false)),by omega,by go_num,by rw[List.length_set];exact h1,?_,?_,?_,?_,?_⟩
    ·intro j hj
     by_cases hjk:k=j
     ·subst hjk
      simp only[List.getD_eq_getElem?_getD,List.getElem?_set,h1,hlt,if_true,HX.out,st,List.getElem?_map]
      rw[List.getElem?_eq_getElem (show k < sc.length by exact hlt)]
      rfl
     ·have:=H2.out j (by omega)
      simp only[List.getD_eq_getElem?_getD] at this ⊢
      rw[List.getElem?_set_ne hjk,this]
    ·rw[←hc_setw _ _ _ _ _ _ (by omega)];exact(H3.out.set_ _ _).drew
    ·exact(H4.out.other (show q≠g by omega) _).drew
    ·exact only_drewN (only_set H5.out (.inl rfl) _) 1
    ·exact(H6.out.only hg2 (only_set (World.grownBy.refl _ _) (.inl rfl) _)).drew
   case measure=>simp[intOf];omega
  ·obtain rfl:k=8:=by omega
   go_wp2_with fail
   go_end0
   refine⟨rfl,?_,H5.out⟩
   have e:us=st false:=by
    have hl:(st false).length=8:=rfl
    apply List.ext_getElem (by rw[h1,hl])
    intro j hj1 hj2
    have:=H2.out j (by omega)
    simpa[List.getD_eq_getElem?_getD,List.getElem?_eq_getElem hj1,List.getElem?_eq_getElem hj2] using this
   rw[←e]
   exact H3.out
theorem zca32:Tryd.zeroCells121.setIfInBounds 0 (.int .i64 256)=(hc false 0 (List.replicate 8 0) (List.replicate 128 0)).toArray:=by kernel_rfl
theorem St_nil32:St false [] (st false) (List.replicate 128 0):=by
 refine⟨rfl,rfl,?_,by simp,by simp,by simp⟩
 decide
set_option maxRecDepth 100000 in
set_option maxHeartbeats 1000000 in
theorem new32_any(w:World)(tab:Tab w) :
  Calls Tryd.prog 89 #[.int .i64 256] w fun e w'=>∃g,e=.returned (.tuple #[.pointer (some ⟨g,0,none⟩),.int .i64 0])∧w.heap.size≤g∧Hs false [] g w'∧Below w.heap.size w w'∧Tab w':=by
 have TAB:=Lib.hid tab
 have h2:=tab.size
 clear tab
 go_enter Tryd.func89,Tryd.ntmps89
 go_upto_region 4 with(go_at_call 96;refine(known32 _).mono ?_;rintro e w' ⟨rfl,rfl⟩)
 rw[zca32]
 have h3:Bl (w.alloc (.cells (hc false 0 (List.replicate 8 0) (List.replicate 128 0)).toArray 121)) w.heap.size 121 (hc false 0 (List.replicate 8 0) (List.replicate 128 0)).toArray:=Bl.new_ _ _ _
 have h4:Below w.heap.size w (w.alloc (.cells (hc false 0 (List.replicate 8 0) (List.replicate 128 0)).toArray 121)):=(Below.refl _ _).alloc (Nat.le_refl _) _
 generalize hwq:w.alloc (.cells (hc false 0 (List.replicate 8 0) (List.replicate 128 0)).toArray 121)=wq at *
 clear hwq
 have H3:=Lib.hid h3
 have H4:=Lib.hid h4
 clear h3 h4
 go_wp2_with (go_at_call 97;refine(reset32_any w.heap.size 0 _ _ rfl rfl _ h2 H3.out (TAB.out.below H4.out)).mono ?_;rintro e w' ⟨rfl,hb2,hg2⟩)
 go_ret2
 have h5:Below w.heap.size w w':=H4.out.grown hg2 H4.out.size (fun k e=>by injection e with e;omega)
 exact⟨_,rfl,Nat.le_refl _,⟨_,_,hb2,St_nil32⟩,h5,TAB.out.below h5⟩
set_option maxRecDepth 100000 in
theorem copy32_any(T:List Nat)(g:Nat)(w:World)(h:Hs false T g w) :
  Calls Tryd.prog 101 #[.pointer (some ⟨g,0,none⟩)] w fun e w'=>∃q,e=.returned (.pointer (some ⟨q,0,none⟩))∧w.heap.size≤q∧Hs false T q w'∧Below w.heap.size w w':=by
 obtain⟨ws,rs,hb,hst⟩:=h
 have HB:=Lib.hid hb
 have HST:=Lib.hid hst
 have hcs:=hc_size false T.length ws rs hst.wl hst.rl
 have b0:w.cell? ⟨g,0,none⟩=some (.int .i64 256):=hb.cell_ rfl
 clear hb hst
 have hsz0:Tryd.zeroCells121.size=138:=by kernel_rfl
 obtain⟨w3,hst,hb3,hg3⟩:=run_store_bl Tryd.prog (Bl.new_ w 121 Tryd.zeroCells121) 0 (hc false T.length ws rs) (by rw[hsz0];simp[hc,bl,HST.out.wl,HST.out.rl]) (hc_ones _ _ _ _)
 rw[spl_all _ _ (by rw[hsz0];simp[hc,bl,HST.out.wl,HST.out.rl])] at hb3
 have HB3:=Lib.hid hb3
 have HG3:=Lib.hid hg3
 clear hb3 hg3 hsz0
 go_enter Tryd.func101,Tryd.ntmps101
 go_wp2_with (first|(go_at_call 98;refine(none32 g _ b0).mono ?_;rintro e w' ⟨rfl,rfl⟩)|(refine wpList_load_bl rfl 121 (.tmp 7) rfl g 0 138 rfl _ _ HB.out _ (by omega) _ (extract_all hcs) Tryd.underlying121 rfl size_hash ?_))
 go_ret
 exact⟨_,rfl,Nat.le_refl _,⟨ws,rs,HB3.out,HST.out⟩,((Below.refl _ _).alloc (Nat.le_refl _) _).grown HG3.out (by simp) (fun k e=>by injection e with e;omega)⟩
end Go.Proofs.YtnnfpmebopgogaaDoor.Sh
namespace Go.Proofs.YtnnfpmebopgogaaDoor.Sh
open Go.RowKit Go.Proofs.YtnnfpmebopgogaaDoor.Gn Go.Deep
attribute [local go_sem ↓] Go.wp_at_zero Go.wp_at_succ
theorem pad_lt(b:Bool)(n:Nat):∀x∈pad b n,x < 256:=by
 intro x hx
 unfold pad at hx
 simp only[List.mem_cons,List.mem_append,List.mem_replicate] at hx
 rcases hx with rfl|⟨-, rfl⟩|hx
 ·decide
 ·decide
 ·exact be_lt _ _ _ hx
theorem pads_le(b:Bool)(n:Nat):pads b n≤256:=by
 have:=Nat.mod_lt n (bk_pos b)
 cases b <;> simp[pads,bk] at*<;> split <;> omega
theorem dg_of32{T ws rs:List Nat}(h:St false (T ++ pad false T.length) ws rs):(ws.flatMap fun x=>be x 4)=dg false T:=by
 rw[h.ws]
 unfold dg
 rw[List.length_append]
 rfl
theorem padl32_any(n:Nat)(w:World)(hn:n≤1048576) :
  Calls Tryd.prog 100 #[.int .i64 (n:Int),.int .i64 256] w fun e w' =>
   e=.returned (.tuple #[.slice (some ⟨w.heap.size,0,none⟩) (pad false n).length (pad false n).length,.int .i64 0])∧w'=w.alloc (.cells (bl (pad false n)).toArray 5):=by
 rw[pad_length];exact pad32_any n w hn
set_option maxRecDepth 100000 in
set_option maxHeartbeats 1000000 in
theorem hsum32_any (T : List Nat) (g : Nat) (w : World) (hT : T.length ≤ 1048576) (h : Hs false T g w) (tab : Tab w) :
    Calls Tryd.prog 91 #[.pointer (some ⟨g, 0, none⟩)] w fun e w' => ∃ q, e = .returned (.slice (some ⟨q, 0, none⟩) 32 32) ∧ w.heap.size ≤ q ∧ Bl w' q 5 (bl (dg false T)).toArray ∧ Below w.heap.size w w' := by
  have TAB := Lib.hid tab
  have HH := Lib.hid h
  have HT := Lib.hid hT
  have h2 := Lib.hid tab.size
  obtain ⟨ws, rs, hb, hst⟩ := h
  have b0 : w.cell? ⟨g, 0, none⟩ = some (.int .i64 256) := hb.cell_ rfl
  have b1 : w.cell? ⟨g, 1, none⟩ = some (.int .i64 (T.length : Int)) := hb.cell_ rfl
  clear hb hst tab hT ws rs
  obtain ⟨pd, hpd⟩ : ∃ pd, pd = pad false T.length := ⟨_, rfl⟩
  have HPC := Lib.hid (show ∀ w, Calls Tryd.prog 100 #[.int .i64 (T.length : Int), .int .i64 256] w fun e w' =>
      e = .returned (.tuple #[.slice (some ⟨w.heap.size, 0, none⟩) pd.length pd.length, .int .i64 0]) ∧ w' = w.alloc (.cells (bl pd).toArray 5) from fun w => by rw [hpd]; exact padl32_any T.length w HT.out)
  have HPL := Lib.hid (show pd.length ≤ 256 by rw [hpd, pad_length]; exact pads_le _ _)
  have HPB := Lib.hid (show ∀ x ∈ pd, x < 256 by rw [hpd]; exact pad_lt _ _)
  have HPD := Lib.hid hpd
  clear hpd
  go_enter Tryd.func91, Tryd.ntmps91
  go_wp2_with (go_at_call 98; refine (none32 g _ b0).mono ?_; rintro e w' ⟨rfl, rfl⟩)
  go_region_held3 (fun x => x.cell? ⟨g, 0, none⟩ = some (.int .i64 256) ∧ x.cell? ⟨g, 1, none⟩ = some (.int .i64 (T.length : Int))) (first | exact ⟨b0, b1⟩ | exact ⟨keepc K1 b0, keepc K1 b1⟩)
    (first | (go_at_call 100; refine (HPC.out _).mono ?_; rintro e w1 ⟨rfl, hw1⟩; have K1 : Below w.heap.size w w1 := (by rw [hw1]; exact ((Below.refl _ _).drew).alloc (Nat.le_refl _) _); have P1 := Lib.hid (show Bl w1 w.heap.size 5 (bl pd).toArray by rw [hw1]; exact Bl.new_ w.drew _ _); clear hw1))
  rename_i hHeld
  clear hHeld b0 b1
  have HK1 := Lib.hid K1
  clear K1
  have H1 := Lib.hid (HH.out.below HK1.out)
  have T1 := Lib.hid (TAB.out.below HK1.out)
  have hq0 := Lib.hid P1.out.lt
  go_wp2_with (go_at_call 101; refine (copy32_any T g _ H1.out).mono ?_; rintro e w2 ⟨q, rfl, hq, hs2, hb2⟩; have HQ := Lib.hid hq; have HS2 := Lib.hid hs2; have HB2 := Lib.hid hb2; clear hq hs2 hb2)
  obtain ⟨ws2, rs2, hb2, hst2⟩ := HS2.out
  have B2 := Lib.hid hb2
  have S2 := Lib.hid hst2
  clear hb2 hst2
  have hne : w.heap.size ≠ q := by have := hq0.out; have := HQ.out; omega
  have HNE := Lib.hid hne
  clear hne
  have HSL := Lib.hid (show Sl w2 (some ⟨w.heap.size, 0, none⟩) pd.length (bl pd) from Sl.of_bl (P1.out.below' HB2.out) 0 _ _ (by simp [bl]) (fun k v hk => by rw [Nat.zero_add]; simpa using hk))
  go_wp2_with (go_at_call 99; refine (put32_any T pd ws2 rs2 q _ _ _ (by have := h2.out; have := HK1.out.size; have := HQ.out; omega) HPB.out HSL.out (fun ad h => by injection h with h; rw [← h]; exact HNE.out) (Nat.le_refl _) B2.out S2.out (by have := HT.out; have := HPL.out; omega) (T1.out.below HB2.out)).mono ?_; rintro e w3 ⟨rfl, ⟨ws3, rs3, hb3, hst3⟩, hg3, ht3⟩; have B3 := Lib.hid hb3; have S3 := Lib.hid hst3; have G3 := Lib.hid hg3; clear hb3 hst3 hg3 ht3)
  have hwl3 : ∀ x ∈ ws3, x < 18446744073709551616 := fun x hx => Nat.lt_of_lt_of_le (S3.out.wlt x hx) (by decide)
  have WL3 := Lib.hid hwl3
  clear hwl3
  go_wp2_with (go_at_call 102; refine (digest32_any q _ ws3 rs3 S3.out.wl S3.out.rl WL3.out _ B3.out).mono ?_; rintro e w4 ⟨rfl, hw4⟩; have W4 := Lib.hid hw4; clear hw4)
  go_ret
  have hs2 := HB2.out.size
  obtain ⟨_, _, _, hs3, _⟩ := G3.out
  have hs1 := HK1.out.size
  have e : (ws3.flatMap fun x => be x 4) = dg false T := dg_of32 (by rw [← HPD.out]; exact S3.out)
  refine ⟨_, rfl, by omega, by rw [W4.out, e]; exact Bl.new_ _ _ _, ?_⟩
  rw [W4.out]
  exact ((HK1.out.trans (HB2.out.mono HK1.out.size)).grown G3.out (by omega) (fun k e => by injection e with e; have := HQ.out; omega)).alloc (by omega) _
theorem write32_any(T l:List Nat)(g:Nat)(A:Option Addr)(c:Nat)(w:World)(hg:(1 < g∧0 < g))(hl:∀x∈l,x < 256)(hsl:Sl w A l.length (bl l))(hA:∀ad,A=some ad→ad.block≠g)(hlc:l.length≤c)(h:Hs false T g w)(hmax:T.length+l.length≤1048576)(tab:Tab w) :
  Calls Tryd.prog 90 #[.pointer (some ⟨g,0,none⟩),.slice A l.length c] w
   fun e w'=>e=.returned (.int .i64 0)∧Hs false (T ++ l) g w'∧w.grownBy w' (some g)∧Tab w':=by
 obtain⟨ws,rs,hb,hst⟩:=h
 have TAB:=Lib.hid tab
 have HL:=Lib.hid hl
 have HSL:=Lib.hid hsl
 have HA:=Lib.hid hA
 have HB:=Lib.hid hb
 have HST:=Lib.hid hst
 have b0:w.cell? ⟨g,0,none⟩=some (.int .i64 256):=hb.cell_ rfl
 have b1:w.cell? ⟨g,1,none⟩=some (.int .i64 (T.length:Int)):=hb.cell_ rfl
 have t1:decide ((1048576:Int) - (T.length:Int) < (l.length:Int))=false:=decide_eq_false (by omega)
 clear tab hl hsl hA hb hst
 go_enter Tryd.func90,Tryd.ntmps90
 go_wp2_with (first|(go_at_call 98;refine(none32 g _ b0).mono ?_;rintro e w' ⟨rfl,rfl⟩)|(go_at_call 99;refine(put32_any T l ws rs g _ _ _ hg HL.out HSL.out HA.out hlc HB.out HST.out (by omega) TAB.out).mono ?_;rintro e w3 ⟨rfl,⟨ws3,rs3,hb3,hst3⟩,hg3,ht3⟩;have B3:=Lib.hid hb3;have S3:=Lib.hid hst3;have G3:=Lib.hid hg3;have T3:=Lib.hid ht3;clear hb3 hst3 hg3 ht3))
 go_ret
 exact⟨rfl,⟨ws3,rs3,by rw[List.length_append];exact B3.out,S3.out⟩,G3.out,T3.out⟩
theorem sum32_any(l:List Nat)(A:Option Addr)(c:Nat)(w:World)(hl:∀x∈l,x < 256)(hsl:Sl w A l.length (bl l))(hAw:∀ad,A=some ad→ad.block < w.heap.size)(hlc:l.length≤c)(hmax:l.length≤1048576)(tab:Tab w) :
  Calls Tryd.prog 78 #[.slice A l.length c,.int .i64 256] w
   fun e w'=>∃q,e=.returned (.tuple #[.slice (some ⟨q,0,none⟩) 32 32,.int .i64 0])∧w.heap.size≤q∧Bl w' q 5 (bl (dg false l)).toArray∧Below w.heap.size w w':=by
 have TAB:=Lib.hid tab
 have HL:=Lib.hid hl
 have HSL:=Lib.hid hsl
 have HA:=Lib.hid hAw
 have h2:=Lib.hid tab.size
 clear tab hl hsl hAw
 go_enter Tryd.func78,Tryd.ntmps78
 go_wp2_with (go_at_call 89;refine(new32_any _ TAB.out).mono ?_;rintro e w1 ⟨g,rfl,hg,hs,hb,ht⟩;have HG:=Lib.hid hg;have H1:=Lib.hid hs;have HB:=Lib.hid hb;have T1:=Lib.hid ht;clear hg hs hb ht)
 go_wp2_with (go_at_call 90;refine(write32_any [] l g A c _ (by have:=h2.out;have:=HG.out;omega) HL.out (HSL.out.below HB.out) (fun ad h=>by have:=HA.out ad h;have:=HG.out;omega) hlc H1.out (by simpa using hmax) T1.out).mono ?_;rintro e w2 ⟨rfl,hs2,hg2,ht2⟩;have H2:=Lib.hid (show Hs false l g w2 from hs2);have G2:=Lib.hid hg2;have T2:=Lib.hid ht2;clear hs2 hg2 ht2)
 go_wp2_with (go_at_call 91;refine(hsum32_any l g _ hmax H2.out T2.out).mono ?_;rintro e w3 ⟨q,rfl,hq,hbl,hb3⟩;have HQ:=Lib.hid hq;have HBL:=Lib.hid hbl;have HB3:=Lib.hid hb3;clear hq hbl hb3)
 go_ret2
 have hb2:Below w.heap.size w w2:=HB.out.grown G2.out HB.out.size (fun k e=>by injection e with e;have:=HG.out;omega)
 exact⟨q,rfl,by have:=hb2.size;have:=HQ.out;omega,HBL.out,hb2.trans (HB3.out.mono hb2.size)⟩
theorem Sum256_any(l:List Nat)(A:Option Addr)(c:Nat)(w:World)(hl:∀x∈l,x < 256)(hsl:Sl w A l.length (bl l))(hAw:∀ad,A=some ad→ad.block < w.heap.size)(hlc:l.length≤c)(hmax:l.length≤1048576)(tab:Tab w) :
  Calls Tryd.prog 66 #[.slice A l.length c] w
   fun e w'=>∃q,e=.returned (.tuple #[.slice (some ⟨q,0,none⟩) 32 32,.int .i64 0])∧w.heap.size≤q∧Bl w' q 5 (bl (dg false l)).toArray∧Below w.heap.size w w':=by
 go_enter Tryd.func66,Tryd.ntmps66
 go_wp2_with (go_at_call 78;refine(sum32_any l A c _ hl hsl hAw hlc hmax tab).mono ?_;rintro e w1 ⟨q,rfl,hq,hbl,hb⟩)
 go_ret2
 exact⟨q,rfl,hq,hbl,hb⟩
end Go.Proofs.YtnnfpmebopgogaaDoor.Sh
