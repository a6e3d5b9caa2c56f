/- Joined texts. -/
import Derived.Laws.EntriesVeiled
import Derived.Deep.AppendLies
import Derived.Test.YtnnfpmebopgogaaDoorQsMrSpan
import Derived.Test.YtnnfpmebopgogaaDoorQsMpPath
set_option linter.unusedVariables false
namespace Go.Proofs.YtnnfpmebopgogaaDoor.Mk
open Go.RowKit Go.Proofs.YtnnfpmebopgogaaDoor.Gn Go.Proofs.YtnnfpmebopgogaaDoor.Fd Go.Deep
theorem infosp:(Tryd.prog.info? 75).map (fun i=>(i.zero,i.size,i.bytes))=some (some (.agg #[.int .i64 0,.int .i64 0]),2,16):=by kernel_rfl
theorem info_parts2{P:Program}{e:TypeId}{z:Value}{s b:Nat}(h:(P.info? e).map (fun i=>(i.zero,i.size,i.bytes))=some (some z,s,b)):∃i,P.info? e=some i∧i.zero=some z∧i.size=s∧i.bytes=b:=by
 cases hq:P.info? e with
 |none=>simp[hq] at h
 |some i=>simp[hq] at h;exact⟨i,rfl,h.1,h.2.1,h.2.2⟩
theorem two_cells{w:World}{b:Nat}{x y:Value}{t:TypeId}(h:w.heap[b]?=some (.cells #[x,y] t (0,0))):w.cell? ⟨b,0,none⟩=some x∧w.cell? ⟨b,1,none⟩=some y :=
 ⟨by rw[cell_of_row _ _ _ _ _ _ h];rfl,by rw[cell_of_row _ _ _ _ _ _ h];rfl⟩
theorem own_lt{w:World}{base:Nat}{e:TypeId}{s:Nat}{v:Value}{n:Nat}{xs:List Value}(h:w.ownsRow base e s v n xs):∀k,v.ownBlock=some k→base≤k∧k < w.heap.size:=by
 obtain⟨hl,h2⟩:=h
 intro k hk
 rcases h2 with⟨rfl,-⟩|⟨g,cap,cur,rfl,hg,hh,r⟩
 ·cases hk
 ·injection hk with hk
  subst hk
  exact⟨hg,Bl.lt (t:=e) (cs:=cur) hh⟩
theorem own_boxed2{w:World}{base Q s:Nat}{E:TypeId}{v u:Value}{n:Nat}{xs:List Value}(h:w.ownsRow base E s v n xs)(hQ:Q < base):(w.setCell ⟨Q,0,none⟩ u).ownsRow base E s v n xs:=by
 obtain⟨h0,h3⟩:=h
 refine⟨h0,?_⟩
 rcases h3 with h3|⟨g2,cap,cur,e1,hb,hh,h4⟩
 ·exact .inl h3
 ·exact .inr ⟨g2,cap,cur,e1,hb,(Below.heap_setCell w ⟨Q,0,none⟩ u g2 (by show g2≠Q;omega)).trans hh,h4⟩
theorem set_size(w:World)(p:Addr)(v:Value):(w.setCell p v).heap.size=w.heap.size:=by simp[World.setCell]
abbrev Fbs(S Q D:Nat):Value:=.func (.func 73) #[] #[.pointer (some ⟨S,0,none⟩),.pointer (some ⟨Q,0,none⟩),.pointer (some ⟨D,0,none⟩)]
def spl(l:List (Nat × Nat)):List Value:=l.flatMap fun p=>[.int .i64 (p.1:Int),.int .i64 (p.2:Int)]
theorem spl_append(l k:List (Nat × Nat)):spl (l ++ k)=spl l ++ spl k:=by simp[spl]
structure BsS (b1:Nat) (w:World) (S Q D f t:Nat) (ps:List (Nat × Nat)) (T:Value):Prop where
 sc:w.heap[S]?=some (.cells #[.int .i64 (f:Int),.int .i64 (t:Int)] 75 (0,0))
 qc:w.heap[Q]?=some (.cells #[T] 72 (0,0))
 dc:w.heap[D]?=some (.cells #[Fbs S Q D] 92 (0,0))
 row:w.ownsRow b1 75 2 T ps.length (spl ps)
 s1:S < b1
 q1:Q < b1
 d1:D < b1
 n1:S≠Q
 n2:D≠Q
 le:b1≤w.heap.size
theorem own_below2{w w':World}{base:Nat}{e:TypeId}{s:Nat}{v:Value}{n:Nat}{xs:List Value}(h:w.ownsRow base e s v n xs)(hb:Below w.heap.size w w'):w'.ownsRow base e s v n xs:=by
 obtain⟨hl,h2⟩:=h
 refine⟨hl,?_⟩
 rcases h2 with h2|⟨g,cap,cur,hv,hg,hh,r⟩
 ·exact .inl h2
 ·exact .inr ⟨g,cap,cur,hv,hg,(Bl.below' (t:=e) hh hb),r⟩
theorem BsS.below{b1:Nat}{w w':World}{S Q D f t:Nat}{ps:List (Nat × Nat)}{T:Value}(h:BsS b1 w S Q D f t ps T)(hb:Below w.heap.size w w'):BsS b1 w' S Q D f t ps T :=
 ⟨(hb.block S (Nat.lt_of_lt_of_le h.s1 h.le)).trans h.sc,(hb.block Q (Nat.lt_of_lt_of_le h.q1 h.le)).trans h.qc,(hb.block D (Nat.lt_of_lt_of_le h.d1 h.le)).trans h.dc,own_below2 h.row hb,h.s1,h.q1,h.d1,h.n1,h.n2,Nat.le_trans h.le hb.size⟩
structure Fr (w w':World) (Q:Nat) (T T':Value):Prop where
 size:w.heap.size≤w'.heap.size
 keep:∀k,k < w.heap.size→k≠Q→T.ownBlock≠some k→w'.heap[k]?=w.heap[k]?
 own:∀k,T'.ownBlock=some k→T.ownBlock=some k∨w.heap.size≤k
theorem Fr.of_below{w w':World}{Q:Nat}{T:Value}(h:Below w.heap.size w w'):Fr w w' Q T T:=⟨h.size,fun k hk _ _=>h.block k hk,fun k hk=>.inl hk⟩
theorem Fr.trans{w w' w'':World}{Q:Nat}{T T' T'':Value}(h:Fr w w' Q T T')(k:Fr w' w'' Q T' T''):Fr w w'' Q T T'':=by
 refine⟨Nat.le_trans h.size k.size,fun j hj hQ hT=>?_,fun j hj=>?_⟩
 ·refine(k.keep j (Nat.lt_of_lt_of_le hj h.size) hQ fun e=>?_).trans (h.keep j hj hQ hT)
  rcases h.own j e with h1|h1
  ·exact hT h1
  ·omega
 ·rcases k.own j hj with h1|h1
  ·exact h.own j h1
  ·exact .inr (Nat.le_trans h.size h1)
def BesQ(w0:World)(b1 S Q D f t:Nat)(w:World)(T:Value)(ps:List (Nat × Nat))(e:Ending)(w':World):Prop :=
 e=.returned (.tuple #[])∧∃T',BsS b1 w' S Q D f t ps T'∧Fr w w' Q T T'∧Below w0.heap.size w0 w'
theorem BsS.put{b1:Nat}{w w4:World}{S Q D f t a b:Nat}{ps:List (Nat × Nat)}{T v4:Value}(h:BsS b1 w S Q D f t ps T)(ho:w4.ownsRow b1 75 2 v4 (ps.length+1) (spl ps ++ [.int .i64 (a:Int),.int .i64 (b:Int)]))(hg:w.grownBy w4 T.ownBlock) :
  BsS b1 (w4.setCell ⟨Q,0,none⟩ v4) S Q D f t (ps ++ [(a,b)]) v4:=by
 have hb:Below b1 w w4:=(Below.refl b1 w).grown hg h.le (fun k hk=>(own_lt h.row k hk).1)
 refine⟨(Below.heap_setCell w4 ⟨Q,0,none⟩ v4 S h.n1).trans ((hb.block S h.s1).trans h.sc),?_,(Below.heap_setCell w4 ⟨Q,0,none⟩ v4 D h.n2).trans ((hb.block D h.d1).trans h.dc),?_,h.s1,h.q1,h.d1,h.n1,h.n2,?_⟩
 ·exact Bl.set_ (show Bl w4 Q 72 #[T] from(hb.block Q h.q1).trans h.qc) 0 v4
 ·rw[List.length_append,spl_append]
  exact own_boxed2 ho h.q1
 ·rw[set_size];have:=h.le;have:=hb.size;omega
set_option maxHeartbeats 8000000 in
set_option maxRecDepth 100000 in
theorem bes_any{w0:World}{b1 S Q D f t:Nat}(hS:w0.heap.size≤S)(hQ:w0.heap.size≤Q)(hD:w0.heap.size≤D)(hf:f≤5000)(ht:t≤5000):∀(N n:Nat),n≤N→1≤n→n≤4096→∀(a:Nat),a+n≤4096→∀(w:World) (ps:List (Nat × Nat)) (T:Value),ps.length+n≤10000→BsS b1 w S Q D f t ps T→Below w0.heap.size w0 w →
  Calls Tryd.prog 73 #[spv (a:Int) ((a+n:Nat):Int),.pointer (some ⟨S,0,none⟩),.pointer (some ⟨Q,0,none⟩),.pointer (some ⟨D,0,none⟩)] w (BesQ w0 b1 S Q D f t w T (ps ++ bes f t a n)):=by
 obtain⟨i0,hi,hz0,hz1,hz2⟩:=info_parts2 infosp
 intro N
 induction N with
 |zero=>intro n h1 h2;omega
 |succ N ih =>
  intro n hN h1 hn a ha w ps T hps hB hb
  obtain⟨b,hbn⟩:∃b,b=a+n:=⟨_,rfl⟩
  have ZA:=Lib.hid (fun(z:Bool) (hz:z=decide ((b:Int)≤(f:Int)∨(t:Int)≤(a:Int))) (w:World)=>apart_any (a:Int) (b:Int) (f:Int) (t:Int) z hz w)
  have ZW:=Lib.hid (fun(z:Bool) (hz:z=decide ((f:Int)≤(a:Int)∧(b:Int)≤(t:Int))) (w:World)=>within_any (a:Int) (b:Int) (f:Int) (t:Int) z hz w)
  rw[←hbn]
  have HBN:=Lib.hid hbn
  have HB:=Lib.hid hb
  have HS:=Lib.hid hB
  have HPS:=Lib.hid hps
  have BW:=Lib.hid ((Below.refl w.heap.size w).alloc (Nat.le_refl _) (.cells #[.int .i64 (a:Int),.int .i64 (b:Int)] 75))
  have G0:=Lib.hid (Bl.new_ w 75 #[.int .i64 (a:Int),.int .i64 (b:Int)])
  have HS1:=Lib.hid (hB.below BW.out)
  obtain⟨s0,s1⟩:=two_cells HS1.out.sc
  clear hb hB hps
  by_cases hap:a+n≤f∨t≤a
  ·have AP:=Lib.hid (fun w=>ZA.out true (by symm;rw[decide_eq_true_iff];omega) w)
   have EB:=Lib.hid (bes_apart hap)
   rw[EB.out,←HBN.out]
   clear ih hap hbn ZA ZW EB
   go_enter Tryd.func73,Tryd.ntmps73
   go_wp2_with (first
    |(go_at_call 74;(with_reducible refine(AP.out _).mono ?_);rintro e w1 ⟨rfl,hb1⟩;have B1:=Lib.hid (BW.out.trans (hb1.mono BW.out.size));have S1:=Lib.hid (HS1.out.below hb1);have qc1:=(one_cell (HS1.out.below hb1).qc).1;obtain⟨g0,g1⟩:=two_cells (G0.out.below' hb1);clear hb1)
    |(at_builtin;go_loud (refine wpList_append_lies _ rfl (.tmp 11) (.tmp 13) 72 rfl b1 75 i0 (.agg #[.int .i64 0,.int .i64 0]) 2 16 Tryd.underlying72 hi hz0 hz1 hz2 rfl (by decide) T ps.length (spl ps) rfl (own_below2 S1.out.row ((Below.refl w1.heap.size w1).alloc (Nat.le_refl _) _)) ⟨w1.heap.size,0,none⟩ 1 1 [.int .i64 (a:Int),.int .i64 (b:Int)] rfl rfl (fun j u hu=>by obtain⟨ad,e,hc⟩:=(Sl.new_ w1 75 [.int .i64 (a:Int),.int .i64 (b:Int)]).2 j u hu;cases e;exact hc) (fun u hu=>by simp at hu;rcases hu with rfl|rfl <;> rfl) (by decide) (by have:=HPS.out;unfold maxLen;omega) (by have:=HPS.out;omega) (by have:=S1.out.le;rw[asize];omega) _ rfl ?_);intro g4 cap4 w4 hown4 hgrow4 hat4 hlt4;have S2:=Lib.hid (S1.out.below ((Below.refl w1.heap.size w1).alloc (Nat.le_refl _) (.cells #[.int .i64 (a:Int),.int .i64 (b:Int)] 75)));have O4:=Lib.hid hown4;have GR4:=Lib.hid hgrow4;have AT4:=Lib.hid hat4;obtain⟨qc4,qf4⟩:=one_cell (((Below.refl b1 _).grown hgrow4 S2.out.le (fun k hk=>(own_lt S2.out.row k hk).1)).block Q S2.out.q1 |>.trans S2.out.qc);clear hown4 hgrow4 hat4 qc1))
   first|go_end0|refine bodyPost_ret (results_none rfl _ _ _) rfl ?_
   have P5:=S2.out.put (a:=a) (b:=b) O4.out GR4.out
   refine⟨rfl,_,P5,?_,?_⟩
   ·refine(Fr.of_below (T:=T) (Q:=Q) (B1.out.trans (((Below.refl w1.heap.size w1).alloc (Nat.le_refl _) (.cells #[.int .i64 (a:Int),.int .i64 (b:Int)] 75)).mono B1.out.size))).trans ⟨by rw[set_size];exact GR4.out.size,fun k hk hQ hT=>(Below.heap_setCell w4 ⟨Q,0,none⟩ _ k (by show k≠Q;exact hQ)).trans (GR4.out.block k hk (fun e=>hT e.symm)),fun k hk=>?_⟩
    have hk:g4=k:=by simpa[Value.ownBlock] using hk
    subst hk
    rcases AT4.out with h|h
    ·exact .inl h
    ·exact .inr (by rw[h];exact Nat.le_refl _)
   ·refine(HB.out.trans ((B1.out.trans (((Below.refl w1.heap.size w1).alloc (Nat.le_refl _) (.cells #[.int .i64 (a:Int),.int .i64 (b:Int)] 75)).mono B1.out.size)).mono HB.out.size) |>.grown GR4.out ?_ ?_).setCell (p:=⟨Q,0,none⟩) hQ _
    ·have:=HB.out.size;have:=B1.out.size;rw[asize];omega
    ·intro k hk;have:=(own_lt S2.out.row k hk).1;have:=S2.out.q1;omega
  have AP:=Lib.hid (fun w=>ZA.out false (by symm;rw[decide_eq_false_iff_not];omega) w)
  by_cases hin:f≤a∧a+n≤t
  ·have WI:=Lib.hid (fun w=>ZW.out true (by symm;rw[decide_eq_true_iff];omega) w)
   have EB:=Lib.hid (bes_in hap hin)
   rw[EB.out,List.append_nil]
   clear ih hap hin hbn ZA ZW EB
   go_enter Tryd.func73,Tryd.ntmps73
   go_wp2_with (first
    |(go_at_call 74;(with_reducible refine(AP.out _).mono ?_);rintro e w1 ⟨rfl,hb1⟩;have B1:=Lib.hid (BW.out.trans (hb1.mono BW.out.size));have S1:=Lib.hid (HS1.out.below hb1);have G1:=Lib.hid (G0.out.below' hb1);obtain⟨g0,g1⟩:=two_cells (G0.out.below' hb1);obtain⟨s2,s3⟩:=two_cells (HS1.out.below hb1).sc;clear hb1)
    |(go_at_call 75;(with_reducible refine(WI.out _).mono ?_);rintro e w2 ⟨rfl,hb2⟩;have B2:=Lib.hid (B1.out.trans (hb2.mono B1.out.size));have S2:=Lib.hid (S1.out.below hb2);clear hb2))
   first|go_end0|refine bodyPost_ret (results_none rfl _ _ _) rfl ?_
   exact⟨rfl,T,S2.out,Fr.of_below B2.out,HB.out.trans (B2.out.mono HB.out.size)⟩
  ·have WI:=Lib.hid (fun w=>ZW.out false (by symm;rw[decide_eq_false_iff_not];omega) w)
   have h2:2≤n:=by omega
   have hs:=half_spec h2
   have EB:=Lib.hid (bes_step hap h2)
   rw[EB.out]
   have HV:=halves_any a n h2 hn (by omega)
   rw[←hbn] at HV
   have HV:=Lib.hid HV
   obtain⟨H,hH⟩:∃H,H=half n:=⟨_,rfl⟩
   rw[←hH] at HV hs ⊢
   obtain⟨d,hd⟩:∃d,d=a+H:=⟨_,rfl⟩
   rw[←hd] at HV ⊢
   have L1:=Lib.hid (show(bes f t a H).length≤H from bes_len H H (Nat.le_refl _) hs.1 f t a)
   have I1:=ih H (by omega) hs.1 (by omega) a (by omega)
   rw[←hd] at I1
   have I2:=ih (n - H) (by omega) (by omega) (by omega) d (by omega)
   rw[show d+(n - H)=b by omega] at I2
   have I1:=Lib.hid (fun(wq:World) (hq:Below w0.heap.size w0 wq) (hs':BsS b1 wq S Q D f t ps T)=>I1 wq ps T (by have:=HPS.out;omega) hs' hq)
   have I2:=Lib.hid (fun(wq:World) (T1:Value) (hq:Below w0.heap.size w0 wq) (hs':BsS b1 wq S Q D f t (ps ++ bes f t a H) T1)=>I2 wq (ps ++ bes f t a H) T1 (by rw[List.length_append];have:=L1.out;have:=HPS.out;omega) hs' hq)
   clear ih hap hin hbn ZA ZW EB hH hd hs
   go_enter Tryd.func73,Tryd.ntmps73
   go_wp2_with (first
    |(go_at_call 74;(with_reducible refine(AP.out _).mono ?_);rintro e w1 ⟨rfl,hb1⟩;have B1:=Lib.hid (BW.out.trans (hb1.mono BW.out.size));have S1:=Lib.hid (HS1.out.below hb1);have G1:=Lib.hid (G0.out.below' hb1);obtain⟨g0,g1⟩:=two_cells (G0.out.below' hb1);obtain⟨s2,s3⟩:=two_cells (HS1.out.below hb1).sc;clear hb1)
    |(go_at_call 75;(with_reducible refine(WI.out _).mono ?_);rintro e w2 ⟨rfl,hb2⟩;have B2:=Lib.hid (B1.out.trans (hb2.mono B1.out.size));have S2:=Lib.hid (S1.out.below hb2);obtain⟨g2,g3⟩:=two_cells (G1.out.below' hb2);clear hb2)
    |(go_at_call 76;(with_reducible refine(HV.out _).mono ?_);rintro e w3 ⟨rfl,hb3⟩;have B3:=Lib.hid (B2.out.trans (hb3.mono B2.out.size));have S3:=Lib.hid (S2.out.below hb3);have B5:=Lib.hid (two_allocs w3 (.cells #[.int .i64 (a:Int),.int .i64 (d:Int)] 75) (.cells #[.int .i64 (d:Int),.int .i64 (b:Int)] 75));have S5:=Lib.hid (S3.out.below B5.out);have dc5:=(one_cell (S3.out.below B5.out).dc).1;have GB5:=Lib.hid (Bl.new' (w:=w3.alloc (.cells #[.int .i64 (a:Int),.int .i64 (d:Int)] 75)) 75 #[.int .i64 (d:Int),.int .i64 (b:Int)] (asize _ _));have C5:=Lib.hid (I1.out _ (HB.out.trans ((B3.out.trans (B5.out.mono B3.out.size)).mono HB.out.size)) S5.out);clear hb3)
    |(go_at_call 73;(with_reducible refine C5.out.mono ?_);rintro e w6 ⟨rfl,T6,s6,f6,b6⟩;have S6:=Lib.hid s6;have F6:=Lib.hid f6;have B6:=Lib.hid b6;have dc6:=(one_cell s6.dc).1;have C7:=Lib.hid (I2.out w6 T6 b6 s6);obtain⟨d0,d1⟩:=two_cells ((f6.keep (w3.heap.size+1) (by rw[asize,asize];omega) (by have:=S3.out.q1;have:=S3.out.le;omega) (fun e=>by have:=(own_lt S3.out.row _ e).2;omega)).trans GB5.out);clear s6 f6 b6 dc5)
    |(go_at_call 73;(with_reducible refine C7.out.mono ?_);rintro e w7 ⟨rfl,T7,s7,f7,b7⟩;have S7:=Lib.hid s7;have F7:=Lib.hid f7;have B7:=Lib.hid b7;clear s7 f7 b7))
   first|go_end0|refine bodyPost_ret (results_none rfl _ _ _) rfl ?_
   refine⟨rfl,T7,?_,(Fr.of_below (B3.out.trans (B5.out.mono B3.out.size))).trans (F6.out.trans F7.out),B7.out⟩
   rw[←List.append_assoc]
   exact S7.out
end Go.Proofs.YtnnfpmebopgogaaDoor.Mk
