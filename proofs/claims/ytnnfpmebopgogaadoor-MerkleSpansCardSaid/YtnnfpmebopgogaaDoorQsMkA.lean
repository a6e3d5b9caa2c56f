/- Joined texts. -/
import Derived.Test.YtnnfpmebopgogaaDoorQsPuA
import Derived.Test.YtnnfpmebopgogaaDoorQsSaE
set_option linter.unusedVariables false
namespace Go.Proofs.YtnnfpmebopgogaaDoor.Mk
open Go.RowKit Go.Proofs.YtnnfpmebopgogaaDoor.Gn Go.Proofs.YtnnfpmebopgogaaDoor.Fd Go.Deep
def Ret32(l:List Nat)(w:World)(e:Ending)(w':World):Prop:=∃g,e=.returned (.slice (some ⟨g,0,none⟩) 32 32)∧Pc w' (some ⟨g,0,none⟩,32,32,l)∧w.heap.size≤g∧Below w.heap.size w w'
theorem own_any{w:World}{base:Nat}{v:Value}{n:Nat}{s:List Nat}(h:w.ownsRow base 5 1 v n (bl s))(hn:s.length=n)(hs:∀x∈s,x < 256):∃A c,v=.slice A n c∧Pc w (A,n,c,s):=by
 obtain⟨A,c,rfl,h1,h2,h3,-, -⟩:=Sl.own h
 subst hn
 exact⟨A,c,rfl,rfl,h1,hs,h3,h2⟩
theorem dg32_len(l:List Nat):(Sh.dg false l).length=32:=by
 have hr:∀m,(Sh.run false (l ++ Sh.pad false l.length) m).length=8:=by
  intro m
  induction m with
  |zero=>rfl
  |succ m ih=>rw[Sh.run];exact Sh.bh_length _ _ _ ih
 unfold Sh.dg
 have fl:∀L:List Nat,(L.flatMap fun x=>Sh.be x (Sh.wd false / 8)).length=4*L.length:=by
  intro L
  induction L with
  |nil=>rfl
  |cons x L ih=>rw[List.flatMap_cons,List.length_append,ih,Sh.be_length,List.length_cons,show Sh.wd false / 8=4 from rfl];omega
 rw[fl,hr]
theorem dg32_lt(l:List Nat):∀x∈Sh.dg false l,x < 256:=by
 intro x hx
 unfold Sh.dg at hx
 obtain⟨y,-, hy⟩:=List.mem_flatMap.1 hx
 exact Sh.be_lt _ _ x hy
theorem Sl_block{w:World}{A:Option Addr}{n:Nat}{xs:List Value}(h:Sl w A n xs)(h0:0 < n):∀ad,A=some ad→ad.block < w.heap.size:=by
 rintro ad rfl
 obtain⟨ad',e,hc⟩:=h.at_ h0
 cases e
 have h1:0 < xs.length:=by rw[h.1];exact h0
 rw[List.getElem?_eq_getElem h1] at hc
 have:=cell_lt hc
 rwa [add_block] at this
theorem sum_p{A:Option Addr}{n c:Nat}{l:List Nat}{w:World}(h:Pc w (A,n,c,l))(h0:0 < n)(hn:n≤1048576)(ts:Sh.Tab w) :
  Calls Tryd.prog 66 #[.slice A n c] w fun e w'=>∃g,e=.returned (.tuple #[.slice (some ⟨g,0,none⟩) 32 32,.int .i64 0])∧Pc w' (some ⟨g,0,none⟩,32,32,Sh.dg false l)∧w.heap.size≤g∧Below w.heap.size w w':=by
 have hl:l.length=n:=h.len.symm
 subst hl
 refine(Sh.Sum256_any l A c w h.lt h.row (Sl_block h.row h0) h.cap hn ts).mono ?_
 rintro e w' ⟨q,rfl,h1,h2,h3⟩
 exact⟨q,rfl,⟨(dg32_len l).symm,Sl.of_bl h2 0 _ _ (by rw[bl_length]) (fun k v hk=>by rw[Nat.zero_add];simpa using hk),dg32_lt l,by show(Sh.dg false l).length≤32;rw[dg32_len];exact Nat.le_refl _,fun h=>by cases h⟩,h1,h3⟩
theorem one_sl(w:World)(r:Rw):Sl (w.alloc (.cells #[rwv r] 22)) (some ⟨w.heap.size,0,none⟩) 1 ([r].map rwv):=Sl.new_ w 22 [rwv r]
theorem two_sl(w:World)(r s:Rw):Sl (w.alloc (.cells #[rwv r,rwv s] 22)) (some ⟨w.heap.size,0,none⟩) 2 ([r,s].map rwv):=Sl.new_ w 22 [rwv r,rwv s]
theorem join2{A B:Option Addr}{n m c d:Nat}{x y:List Nat}{w:World}(h:Pc w (A,n,c,x))(k:Pc w (B,m,d,y))(hmax:(x ++ y).length≤1099511627776) :
  Calls Tryd.prog 67 #[.slice (some ⟨w.heap.size,0,none⟩) 2 2] (w.alloc (.cells #[.slice A n c,.slice B m d] 22)) (ConcatQ (x ++ y) w):=by
 have BB:=(Below.refl w.heap.size w).alloc (Nat.le_refl _) (.cells #[.slice A n c,.slice B m d] 22)
 have e:cat [(A,n,c,x),(B,m,d,y)]=x ++ y:=by simp[cat]
 have:=Concat_any [(A,n,c,x),(B,m,d,y)] _ 2 2 _ (two_sl w _ _) (by intro r hx;simp at hx;rcases hx with rfl|rfl <;> first|exact h.below BB|exact k.below BB) (by decide) (by rw[e];exact hmax)
 rw[e] at this
 refine this.mono fun e w' h=>?_
 obtain⟨v,h1,h2,h3⟩:=h
 exact⟨v,h1,own_base h2 BB.size,BB.trans (h3.mono BB.size)⟩
end Go.Proofs.YtnnfpmebopgogaaDoor.Mk
namespace Go.Proofs.YtnnfpmebopgogaaDoor.Gn
open Go.RowKit Go.Proofs.YtnnfpmebopgogaaDoor.Fd Go.Deep
set_option maxHeartbeats 1000000 in
theorem Equal_any{w:World}{A B:Option Addr}{n m c d:Nat}{l k:List Nat}(ha:Sl w A n (bl l))(hb:Sl w B m (bl k))(hl:∀x∈l,x < 256)(hk:∀x∈k,x < 256) :
  Calls Tryd.prog 72 #[.slice A n c,.slice B m d] w fun e w'=>e=.returned (.bool (decide (l=k)))∧w=w':=by
 have h1:=run_txt w _ _ _ Tryd.underlying22 Tryd.underlying5 Tryd.underlying9 A n c l ha
 have h2:=run_txt w _ _ _ Tryd.underlying22 Tryd.underlying5 Tryd.underlying9 B m d k hb
 have e:((txt l).toList == (txt k).toList)=decide (l=k):=by
  rw[Bool.eq_iff_iff,beq_iff_eq,decide_eq_true_iff,ByteArray.toList_eq,ByteArray.toList_eq]
  exact⟨fun h=>txt_inj hl hk (ByteArray.ext (Array.toList_inj.1 h)),fun h=>by rw[h]⟩
 generalize decide (l=k)=r at *
 generalize txt l=s at *
 generalize txt k=t at *
 clear ha hb hl hk
 go_enter Tryd.func72,Tryd.ntmps72
 go_wp2
 go_ret
 exact⟨by simp[←e],rfl⟩
end Go.Proofs.YtnnfpmebopgogaaDoor.Gn
namespace Go.Proofs.YtnnfpmebopgogaaDoor.Mk
open Go.RowKit Go.Proofs.YtnnfpmebopgogaaDoor.Gn Go.Proofs.YtnnfpmebopgogaaDoor.Fd Go.Deep
set_option maxRecDepth 100000 in
set_option maxHeartbeats 4000000 in
theorem digest_any(b:Nat)(hb:b < 256)(rows:List Rw)(A:Option Addr)(len c:Nat)(w:World)(hs:Sl w A len (rows.map rwv))(hp:∀r∈rows,Pc w r)(hlen:len≤1000000)(htot:(cat rows).length < 1048576)(ts:Sh.Tab w) :
  Calls Tryd.prog 34 #[.int .u8 (b:Int),.slice A len c] w (Ret32 (Sh.dg false (b :: cat rows)) w):=by
 have B1:=Lib.hid ((Below.refl w.heap.size w).alloc (Nat.le_refl _) (.cells #[.int .u8 (b:Int)] 5))
 have PB:=Lib.hid (show Pc (w.alloc (.cells #[.int .u8 (b:Int)] 5)) (some ⟨w.heap.size,0,none⟩,1,1,[b]) from⟨rfl,Sl.new_ w 5 (bl [b]),fun x hx=>by simp at hx;omega,Nat.le_refl _,fun h=>by cases h⟩)
 have C1:=Lib.hid (Concat_any rows A len c (w.alloc (.cells #[.int .u8 (b:Int)] 5)) (hs.below B1.out) (fun r hr=>(hp r hr).below B1.out) hlen (by omega))
 have CL:=Lib.hid (show ∀x∈cat rows,x < 256 from cat_lt rows fun r hr=>(hp r hr).lt)
 have HT:=Lib.hid htot
 have TS:=Lib.hid ts
 obtain⟨L,hL⟩:∃L,cat rows=L:=⟨_,rfl⟩
 rw[hL] at C1 CL HT ⊢
 clear hL hs hp hlen htot ts
 go_enter Tryd.func34,Tryd.ntmps34
 go_wp2_with (go_at_call 67;(with_reducible refine C1.out.mono ?_);rintro e w1 ⟨v,rfl,ho,b1⟩;obtain⟨A1,c1,rfl,p1⟩:=own_any ho rfl CL.out;have D1:=Lib.hid (B1.out.trans (b1.mono B1.out.size));have PB1:=Lib.hid (PB.out.below b1);have C2:=Lib.hid (join2 PB1.out p1 (by have:=HT.out;simp;omega));clear ho b1 p1 C1)
 go_wp2_with (go_at_call 67;(with_reducible refine C2.out.mono ?_);rintro e w2 ⟨v,rfl,ho,b2⟩;obtain⟨A2,c2,rfl,p2⟩:=own_any ho rfl (by intro x hx;rcases List.mem_append.1 hx with h|h;exact PB.out.lt x h;exact CL.out x h);have D2:=Lib.hid (D1.out.trans (b2.mono D1.out.size));have C3:=Lib.hid (sum_p (n:=L.length+1) (show Pc w2 (A2,L.length+1,c2,b :: L) from p2) (by omega) (by have:=HT.out;omega) (TS.out.below D2.out));clear ho b2 p2 C2)
 go_wp2_with (go_at_call 66;(with_reducible refine C3.out.mono ?_);rintro e w3 ⟨g,rfl,p3,hg,b3⟩;have P3:=Lib.hid p3;have HG:=Lib.hid hg;have D3:=Lib.hid (D2.out.trans (b3.mono D2.out.size));clear p3 hg b3 C3)
 go_ret
 exact⟨g,rfl,P3.out,Nat.le_trans D2.out.size HG.out,D3.out⟩
end Go.Proofs.YtnnfpmebopgogaaDoor.Mk
namespace Go.Proofs.YtnnfpmebopgogaaDoor.Mk
open Go.RowKit Go.Proofs.YtnnfpmebopgogaaDoor.Gn Go.Proofs.YtnnfpmebopgogaaDoor.Fd Go.Deep
def eight(n:Nat):List Nat:=(by_ n 8).reverse
theorem by_snoc:∀(k n:Nat),by_ n (k+1)=by_ n k ++ [n / 256 ^ k%256]:=by
 intro k
 induction k with
 |zero=>intro n;simp[by_]
 |succ k ih =>
  intro n
  rw[by_succ,ih,by_succ n k,List.cons_append,Nat.div_div_eq_div_mul,Nat.pow_succ,Nat.mul_comm (256 ^ k)]
def lay8(n k:Nat):List Nat:=List.replicate (8 - k) 0 ++ (by_ n k).reverse
theorem lay8_len(n k:Nat)(h:k≤8):(lay8 n k).length=8:=by unfold lay8;simp[by_length];omega
theorem lay8_step(n k:Nat)(h:k < 8):(lay8 n k).set (7 - k) (n / 256 ^ k%256)=lay8 n (k+1):=by
 unfold lay8
 rw[by_snoc,List.reverse_append,show 8 - k=(7 - k)+1 by omega,List.replicate_succ',List.append_assoc,List.set_append_right _ _ (by simp)]
 simp[show 8 - (k+1)=7 - k by omega]
theorem eight_len(n:Nat):(eight n).length=8:=by simp[eight,by_length]
theorem eight_lt(n:Nat):∀x∈eight n,x < 256:=fun x hx=>by_lt n 8 x (List.mem_reverse.1 hx)
theorem lay8_end(n:Nat):lay8 n 8=eight n:=by simp[lay8,eight]
def CoRel(n g:Nat)(w0:World)(x i:Value)(wr:World):Prop :=
 ∃k:Nat,k≤8∧i=.int .i64 (k:Int)∧x=.int .i64 ((n / 256 ^ k:Nat):Int)∧Bl wr g 5 (bl (lay8 n k)).toArray∧Below g w0 wr
set_option maxRecDepth 100000 in
set_option maxHeartbeats 2000000 in
theorem count_any(n:Nat)(w:World)(hn:n≤9223372036854775807) :
  Calls Tryd.prog 35 #[.int .i64 (n:Int)] w fun e w'=>∃g,e=.returned (.slice (some ⟨g,0,none⟩) 8 8)∧Pc w' (some ⟨g,0,none⟩,8,8,eight n)∧w.heap.size≤g∧Below w.heap.size w w':=by
 have hmk:∀w,(Instr.makeSlice 22 (.int .i64 8) (.int .i64 8)).run Tryd.prog w=.ok (.slice (some ⟨w.heap.size,0,none⟩) 8 8) (w.alloc (.cells (madeCells #[.int .u8 0] 8) 5)) :=
  fun w=>run_make_row' (P:=Tryd.prog) 22 5 (.int .u8 0) 1 Tryd.underlying22 infob rfl .i64 .i64 8 (by omega) (by omega) w
 have hZ:madeCells #[Value.int .u8 0] 8=(bl (lay8 n 0)).toArray:=by
  apply Array.toList_inj.1
  rw[toList_madeCells_one];rfl
 rw[hZ] at hmk
 have HN:=Lib.hid hn
 clear hZ hn
 have R0:=Lib.hid (show CoRel n w.heap.size w (.int .i64 (n:Int)) (.int .i64 0) (w.alloc (.cells (bl (lay8 n 0)).toArray 5)) from⟨0,Nat.zero_le _,rfl,by rw[Nat.pow_zero,Nat.div_one],Bl.new_ _ _ _,(Below.refl _ _).alloc (Nat.le_refl _) _⟩)
 obtain⟨g,hg⟩:∃g,w.heap.size=g:=⟨_,rfl⟩
 have HG:=Lib.hid hg
 rw[hg] at R0
 obtain⟨Z,hZ⟩:∃Z,(bl (lay8 n 0)).toArray=Z:=⟨_,rfl⟩
 rw[hZ] at hmk R0
 have hsz:∀k,k≤8→(bl (lay8 n k)).toArray.size=8:=fun k hk=>by simp[bl,lay8_len n k hk]
 have SZ:=Lib.hid hsz
 clear hZ hsz
 go_enter Tryd.func35,Tryd.ntmps35
 go_wp2_with fail
 clear hg
 go_loopw [0,8] (fun x i wr=>CoRel n g w x i wr) (fun _ i _=>8 - (intOf i).toNat)
 case atStart=>exact R0.out
 case round =>
  obtain⟨k,hk,rfl,rfl,hbl,hbw⟩:=hrel
  have BW:=Lib.hid hbw
  by_cases hlt:k < 8
  ·obtain⟨m,hm⟩:∃m,n / 256 ^ k=m:=⟨_,rfl⟩
   obtain⟨j,hj⟩:∃j,j=7 - k:=⟨_,rfl⟩
   obtain⟨v,hv⟩:∃v,v=m%256:=⟨_,rfl⟩
   obtain⟨q,hq⟩:∃q,q=m / 256:=⟨_,rfl⟩
   have mle:m≤9223372036854775807:=by rw[←hm];exact Nat.le_trans (Nat.div_le_self _ _) HN.out
   have ej:(7:Int) - (k:Int)=(j:Int):=by omega
   have hj8:j < 8:=by omega
   have ev:(m:Int)%256=(v:Int):=by omega
   have ev2:IntKind.u8.wrap (m:Int)=(v:Int):=by rw[IntKind.wrap_u8];exact ev
   have ST:=Lib.hid (show(lay8 n k).set j v=lay8 n (k+1) by rw[hj,hv,←hm];exact lay8_step n k hlt)
   have NX:=Lib.hid (show n / 256 ^ (k+1)=q by rw[Nat.pow_succ,←Nat.div_div_eq_div_mul,hm,hq])
   have esh:(m:Int) / 256=(q:Int):=by omega
   have c2:=hbl.cell_ (i:=j) (v:=.int .u8 0) (by
    rw[List.getElem?_toArray,bl_get]
    unfold lay8
    rw[List.getElem?_append_left (by simp;omega),List.getElem?_replicate,if_pos (by omega)];rfl)
   have c3:=hbl.frozen j
   have HB:=Lib.hid hbl
   rw[hm]
   clear hm hv hq hj mle ev hbl
   go_wp2
   refine⟨⟨k+1,by omega,by go_num,by rw[NX.out],?_,BW.out.setCell (p:=⟨g,j,none⟩) (Nat.le_refl _) _⟩,by simp[intOf];omega⟩
   rw[←ST.out,←bl_set];exact HB.out.set_ j _
  ·obtain rfl:k=8:=by omega
   rw[lay8_end] at hbl
   have PC:=Lib.hid (show Pc wr (some ⟨g,0,none⟩,8,8,eight n) from⟨(eight_len n).symm,Sl.of_bl hbl 0 _ _ (by rw[bl_length]) (fun k v hk=>by rw[Nat.zero_add];simpa using hk),eight_lt n,by show(eight n).length≤8;rw[eight_len];exact Nat.le_refl _,fun h=>by cases h⟩)
   clear hbl
   go_wp2_with fail
   go_ret
   exact⟨g,rfl,PC.out,by rw[HG.out];exact Nat.le_refl _,by rw[HG.out];exact BW.out⟩
end Go.Proofs.YtnnfpmebopgogaaDoor.Mk
