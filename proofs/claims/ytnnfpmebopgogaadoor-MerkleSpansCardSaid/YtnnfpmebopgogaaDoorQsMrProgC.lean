/- Joined texts. -/
import Derived.Test.YtnnfpmebopgogaaDoorQsMrProgB
set_option linter.unusedVariables false
namespace Go.Proofs.YtnnfpmebopgogaaDoor.Mk
open Go.RowKit Go.Proofs.YtnnfpmebopgogaaDoor.Gn Go.Proofs.YtnnfpmebopgogaaDoor.Fd Go.Deep
theorem spl_get:∀ {l:List (Nat × Nat)} {i:Nat} {p:Nat × Nat},l[i]?=some p→(spl l)[i*2]?=some (.int .i64 (p.1:Int))∧(spl l)[i*2+1]?=some (.int .i64 (p.2:Int)):=by
 intro l
 induction l with
 |nil=>intro i p h;simp at h
 |cons q l ih =>
  intro i p h
  cases i with
  |zero =>
   have:q=p:=by simpa using h
   subst this
   exact⟨rfl,rfl⟩
  |succ i =>
   have h':l[i]?=some p:=by simpa using h
   obtain⟨h1,h2⟩:=ih h'
   have e:spl (q :: l)=.int .i64 (q.1:Int) :: .int .i64 (q.2:Int) :: spl l:=rfl
   rw[e,show(i+1)*2=i*2+1+1 by omega]
   exact⟨h1,h2⟩
theorem spl_cells{w:World}{base:Nat}{A:Option Addr}{k cap:Nat}{l:List (Nat × Nat)}(h:w.ownsRow base 75 2 (.slice A k cap) k (spl l)){i x y:Nat}(hi:i < k)(hl:l[i]?=some (x,y)) :
  ∃g,A=some ⟨g,0,none⟩∧w.cell? ⟨g,i*2,none⟩=some (.int .i64 (x:Int))∧w.cell? ⟨g,i*2+1,none⟩=some (.int .i64 (y:Int)):=by
 obtain⟨hl0,h2⟩:=h
 rcases h2 with⟨h3,h4⟩|⟨g,cap',cur,hv,hb,hh,hn,hm,hc,hx⟩
 ·omega
 ·cases hv
  obtain⟨h1,h2⟩:=spl_get hl
  rw[←hx,List.getElem?_take,if_pos (by omega),Array.getElem?_toList] at h1 h2
  refine⟨g,rfl,?_,?_⟩
  ·rw[cell_of_row _ _ _ _ _ _ hh];exact h1
  ·rw[cell_of_row _ _ _ _ _ _ hh];exact h2
def PgRel(ps:List (List Nat))(l:List (Nat × Nat))(k:Nat)(w w1:World)(v i:Value)(wr:World):Prop :=
 ∃(j:Nat) (us:List Rw),j≤k∧i=.int .i64 (j:Int)∧OwnP0 w1.heap.size wr v us∧us.length=j∧con us=(l.take j).map (fun p=>topL (sub ps p.1 p.2))∧Below w1.heap.size w1 wr
set_option maxHeartbeats 8000000 in
set_option maxRecDepth 100000 in
theorem ProveRange_good{w:World}{B:Option Addr}{m c:Nat}{P:List Rw}(h:PAny w B m c P)(h32:all32 P=true){f t:Nat}(hft:f < t)(htm:t≤m)(ts:Sh.Tab w) :
  Calls Tryd.prog 23 #[.slice B m c,.int .i64 (f:Int),.int .i64 (t:Int)] w (ProveQ (outs (con P) f t 0 m) w):=by
 obtain⟨i0,hi,hz0,hz1,hz2⟩:=info_parts infobb
 have hf:=h.few
 have C1:=refused_ok (c:=c) (n:=m) h.lc (fun x hx=>by have:=(h.pcs x hx).2;omega) (by omega)
 rw[h32,if_pos rfl] at C1
 have C1:=Lib.hid C1
 have BE:=Lib.hid (fun w=>beside_any m f t (by omega) (by omega) (by omega) (by omega) w)
 have MEM:=Lib.hid (bes_mem m m (Nat.le_refl _) (by omega) f t 0)
 have LEN:=Lib.hid (bes_len m m (Nat.le_refl _) (by omega) f t 0)
 have E:=Lib.hid (show outs (con P) f t 0 m=(bes f t 0 m).map (fun p=>topL (sub (con P) p.1 p.2)) from rfl)
 rw[E.out]
 clear E
 generalize bes f t 0 m=l at BE MEM LEN ⊢
 have HP:=Lib.hid (h.p32 h32)
 have TS:=Lib.hid ts
 have q1:¬(f:Int) < 0:=by omega
 have q2:¬(t:Int)≤(f:Int):=by omega
 have q3:¬(m:Int) < (t:Int):=by omega
 obtain⟨ad,hB,-⟩:=HP.out.row.at_ (show 0 < m by omega)
 subst hB
 have hcap:=HP.out.cap
 clear h h32 ts
 go_enter Tryd.func23,Tryd.ntmps23
 go_wp2_with (first
  |(go_at_call 38;(with_reducible refine C1.out.mono ?_);rintro e w1 ⟨rfl,b1⟩;have D1:=Lib.hid b1;clear b1 C1)
  |(go_at_call 51;(with_reducible refine(BE.out _).mono ?_);rintro e w2 ⟨A2,k,c2,rfl,hk,o2,b2⟩;have HK:=Lib.hid hk;have O2:=Lib.hid o2;have D2:=Lib.hid (D1.out.trans (b2.mono D1.out.size));clear hk o2 b2))
 have KB:=Lib.hid (show k≤m by rw[HK.out];exact LEN.out)
 have R0:=Lib.hid (show PgRel (con P) l k w w2 (.slice none 0 0) (.int .i64 0) w2 from⟨0,[],Nat.zero_le _,rfl,⟨own_nil _ _ _,.inl rfl,fun r hr=>by cases hr⟩,rfl,rfl,Below.refl _ _⟩)
 go_loopw [9,37] (fun v i wr=>PgRel (con P) l k w w2 v i wr) (fun _ i _=>k - (intOf i).toNat)
 case atStart=>exact R0.out
 case round =>
  obtain⟨i,us,hik,rfl,how,hul,hcon,hb⟩:=hrel
  have OW:=Lib.hid how
  have CN:=Lib.hid hcon
  have HB:=Lib.hid hb
  have UL:=Lib.hid hul
  have DW:=Lib.hid (D2.out.trans (hb.mono D2.out.size))
  have hkb:=KB.out
  have hbs:=hb.size
  have hws:=D2.out.size
  by_cases hlt:i < k
  ·obtain⟨p,hp⟩:∃p,l[i]?=some p:=⟨l[i]'(by have:=HK.out;omega),List.getElem?_eq_getElem _⟩
   obtain⟨x,y⟩:=p
   have hm3:=MEM.out (x,y) (List.mem_of_getElem? hp)
   have hx1:x < y:=hm3.2.1
   have hx2:y≤m:=by have:=hm3.2.2;rw[Nat.zero_add] at this;exact this
   obtain⟨g,hA2,d1,d2⟩:=spl_cells (own_below2 O2.out hb) hlt hp
   subst hA2
   have HPI:=Lib.hid hp
   have e1:(x:Int)≤(y:Int):=by omega
   have e2:(y:Int)≤(c:Int):=by omega
   have e3:¬c=x:=by omega
   have e4:¬x=c:=by omega
   obtain⟨n,hn⟩:∃n,n=y - x:=⟨_,rfl⟩
   have TP:=Lib.hid (fun(wq:World) (hq:Below w.heap.size w wq)=>top_any n n (Nat.le_refl _) (by omega) (by omega) wq ((P.drop x).take n) (some (ad.add x)) (c - x) (((HP.out.below hq).drop (show x < m by omega)).take (show n≤m - x by omega)) (TS.out.below hq))
   have SB:=Lib.hid (show con ((P.drop x).take n)=sub (con P) x y from by unfold sub;rw[con,con,List.map_take,List.map_drop,hn])
   rw[SB.out] at TP
   have LP:=Lib.hid (topL_len (ps:=sub (con P) x y) (by rw[←SB.out,con_len,List.length_take,List.length_drop,HP.out.len];omega) (by rw[←SB.out];exact(((HP.out.drop (show x < m by omega)).take (show n≤m - x by omega))).con32))
   have e5:y - x=n:=hn.symm
   have BA:=Lib.hid ((Below.refl wr.heap.size wr).alloc (Nat.le_refl _) (.cells #[.int .i64 (x:Int),.int .i64 (y:Int)] 75))
   clear hp hm3 how hcon hb hul hn
   go_wp2_with (first
    |(go_at_call 40;(with_reducible refine(TP.out _ (DW.out.trans (BA.out.mono DW.out.size))).mono ?_);rintro e w3 ⟨g3,cap3,rfl,hp3,hg3,hb3⟩;have B3:=Lib.hid (BA.out.trans (hb3.mono BA.out.size));have P3:=Lib.hid (show At0 w3 (some ⟨g3,0,none⟩,32,cap3,topL (sub (con P) x y)) from⟨hp3,LP.out,g3,rfl⟩);have O3:=Lib.hid (OW.out.below (BA.out.trans (hb3.mono BA.out.size)));clear hp3 hg3 hb3)
    |(at_builtin;refine wpList_append_sl rfl (.tmp 41) (.tmp 49) 23 rfl w2.heap.size 22 i0 _ 24 Tryd.underlying23 hi hz0 hz1 hz2 rfl _ us.length (us.map rwv) rfl (own_alloc O3.out.own _) (some ⟨w3.heap.size,0,none⟩) 1 1 [.slice (some ⟨g3,0,none⟩) 32 cap3] rfl (fun e=>by cases e) (Sl.new_ w3 22 [.slice (some ⟨g3,0,none⟩) 32 cap3]) (by intro u hu;simp at hu;subst hu;rfl) (by have:=UL.out;unfold maxLen;omega) (by have:=UL.out;omega) (by have:=B3.out.size;rw[asize];omega) ?_;intro v4 w4 hown4 hgr4;have O4:=Lib.hid hown4;have B4:=Lib.hid ((B3.out.alloc B3.out.size (.cells #[.slice (some ⟨g3,0,none⟩) 32 cap3] 22)));have G4:=Lib.hid hgr4;have BG:=Lib.hid ((HB.out.trans (B4.out.mono HB.out.size)));clear hown4 hgr4))
   have AA:=(Below.refl w3.heap.size w3).alloc (Nat.le_refl _) (.cells #[.slice (some ⟨g3,0,none⟩) 32 cap3] 22)
   refine⟨⟨i+1,us ++ [(some ⟨g3,0,none⟩,32,cap3,topL (sub (con P) x y))],by omega,by go_num,⟨?_,.inr (by simp),fun z hz=>?_⟩,by rw[List.length_append,UL.out];rfl,?_,?_⟩,by simp[intOf];omega⟩
   ·rw[List.length_append,List.map_append];exact O4.out
   ·rcases List.mem_append.1 hz with h|h
    ·exact((O3.out.pcs z h).below AA).grown (own_alloc O3.out.own _) O3.out.nil G4.out
    ·have:z=(some ⟨g3,0,none⟩,32,cap3,topL (sub (con P) x y)):=by simpa using h
     subst this
     exact(P3.out.below AA).grown (own_alloc O3.out.own _) O3.out.nil G4.out
   ·rw[show con (us ++ [((some ⟨g3,0,none⟩,32,cap3,topL (sub (con P) x y)):Rw)])=con us ++ [topL (sub (con P) x y)] by simp[con],CN.out,List.take_add_one,HPI.out,List.map_append]
    rfl
   ·exact BG.out.grown G4.out (by have:=B4.out.size;omega) (own_rows O3.out.own)
  ·obtain rfl:i=k:=by omega
   obtain⟨A4,c4,rfl,-, -, -, -, -⟩:=Sl.own OW.out.own
   clear how hcon hb hul
   go_wp2_with fail
   go_ret2
   refine⟨A4,us.length,c4,us,rfl,⟨own_base OW.out.own D2.out.size,OW.out.nil,OW.out.pcs⟩,rfl,?_,DW.out⟩
   rw[CN.out,List.take_of_length_le (by rw[HK.out];exact Nat.le_refl _)]
end Go.Proofs.YtnnfpmebopgogaaDoor.Mk
