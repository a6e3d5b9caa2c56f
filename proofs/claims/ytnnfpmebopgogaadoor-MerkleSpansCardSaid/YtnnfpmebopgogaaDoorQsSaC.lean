/- Joined texts. -/
import Derived.Deep.RegionLaw
import Derived.Deep.AppendLies
import Derived.Test.YtnnfpmebopgogaaDoorQsSaB
import Derived.Test.YtnnfpmebopgogaaDoorQsGnA
set_option linter.unusedVariables false
namespace Go.Proofs.YtnnfpmebopgogaaDoor.Sh
open Go.RowKit Go.Proofs.YtnnfpmebopgogaaDoor.Gn Go.Deep
def bt(b:Bool):Nat:=if b then 512 else 256
def hc(b:Bool)(n:Nat)(ws rs:List Nat):List Value :=
 .int .i64 (bt b:Int) :: .int .i64 (n:Int) :: ((ws.map fun(x:Nat)=>Value.int .u64 (x:Int)) ++ bl rs)
theorem hc_rest(b:Bool)(n:Nat)(ws rs:List Nat)(hw:ws.length=8)(j:Nat):(hc b n ws rs).toArray[10+j]?=(bl rs)[j]?:=by
 simp only[hc,List.getElem?_toArray]
 rw[show 10+j=(8+j)+1+1 by omega,List.getElem?_cons_succ,List.getElem?_cons_succ,List.getElem?_append_right (by simp;omega)]
 simp[hw]
theorem hc_set8(b:Bool)(n:Nat)(x0 x1 x2 x3 x4 x5 x6 x7 y0 y1 y2 y3 y4 y5 y6 y7:Nat)(rs:List Nat) :
  ((((((((hc b n [x0,x1,x2,x3,x4,x5,x6,x7] rs).toArray.setIfInBounds 2 (.int .u64 (y0:Int))).setIfInBounds 3 (.int .u64 (y1:Int))).setIfInBounds 4 (.int .u64 (y2:Int))).setIfInBounds 5 (.int .u64 (y3:Int))).setIfInBounds 6 (.int .u64 (y4:Int))).setIfInBounds 7 (.int .u64 (y5:Int))).setIfInBounds 8 (.int .u64 (y6:Int))).setIfInBounds 9 (.int .u64 (y7:Int))=(hc b n [y0,y1,y2,y3,y4,y5,y6,y7] rs).toArray:=by
 simp[hc,List.setIfInBounds_toArray]
theorem spl_hc(b:Bool)(n:Nat)(x0 x1 x2 x3 x4 x5 x6 x7 y0 y1 y2 y3 y4 y5 y6 y7:Nat)(rs:List Nat) :
  spl (hc b n [x0,x1,x2,x3,x4,x5,x6,x7] rs).toArray 2 (al .u64 [y0,y1,y2,y3,y4,y5,y6,y7]).toList=(hc b n [y0,y1,y2,y3,y4,y5,y6,y7] rs).toArray:=by
 have e:(al .u64 [y0,y1,y2,y3,y4,y5,y6,y7]).toList=[.int .u64 (y0:Int),.int .u64 (y1:Int),.int .u64 (y2:Int),.int .u64 (y3:Int),.int .u64 (y4:Int),.int .u64 (y5:Int),.int .u64 (y6:Int),.int .u64 (y7:Int)]:=by simp[al]
 rw[e]
 simp only[spl,Nat.reduceAdd]
 exact hc_set8 b n x0 x1 x2 x3 x4 x5 x6 x7 y0 y1 y2 y3 y4 y5 y6 y7 rs
theorem hc_size(b:Bool)(n:Nat)(ws rs:List Nat)(hw:ws.length=8)(hr:rs.length=128):(hc b n ws rs).toArray.size=138:=by
 simp[hc,bl,hw,hr]
theorem eight_of{l:List Nat}(h:l.length=8):∃a b c d e f g k,l=[a,b,c,d,e,f,g,k]:=by
 match l,h with
 | [a,b,c,d,e,f,g,k],_=>exact⟨a,b,c,d,e,f,g,k,rfl⟩
theorem bh_length(b:Bool)(h l:List Nat)(hl:h.length=8):(bh b h l).length=8:=by simp[bh,V8.l,hl]
theorem bh_lt(b:Bool)(h l:List Nat):∀x∈bh b h l,x < mo b:=by
 intro x hx
 unfold bh at hx
 rw[List.mem_iff_getElem?] at hx
 obtain⟨i,hi⟩:=hx
 rw[List.getElem?_zipWith] at hi
 split at hi
 ·injection hi with hi
  rw[←hi];exact Nat.mod_lt _ (mo_pos b)
 ·cases hi
set_option maxRecDepth 100000 in
set_option maxHeartbeats 2000000 in
theorem mix32_any(g n:Nat)(ws rs:List Nat)(hw:ws.length=8)(hr:rs.length=128)(hwl:∀x∈ws,x < mo false)(hrl:∀x∈rs,x < 256)(w:World)(hb:Bl w g 121 (hc false n ws rs).toArray)(tab:Tab w)(c:Nat)(hc0:64≤c) :
  Calls Tryd.prog 106 #[.pointer (some ⟨g,0,none⟩),.slice (some ⟨g,10,none⟩) 64 c] w fun e w'=>e=.returned (.tuple #[])∧Bl w' g 121 (hc false n (bh false ws (rs.take 64)) rs).toArray∧w.grownBy w' (some g):=by
 have HSL:=Lib.hid (show Sl w (some ⟨g,10,none⟩) 64 (bl (rs.take 64)) from Sl.of_bl hb 10 64 _ (by simp[bl,hr]) (fun k v hk=>by
  rw[hc_rest _ _ _ _ hw,←hk,←bl_take,List.getElem?_take]
  rw[if_pos (by have:=(List.getElem?_eq_some_iff.1 hk).1;simp[bl,hr] at this;omega)]))
 have HWL:=Lib.hid hwl
 have HRL:=Lib.hid (show ∀x∈rs.take 64,x < 256 from fun x hx=>hrl x (List.mem_of_mem_take hx))
 have TAB:=Lib.hid tab
 have HB:=Lib.hid hb
 obtain⟨blk,hblk⟩:∃l,l=rs.take 64:=⟨_,rfl⟩
 rw[←hblk] at HSL HRL ⊢
 clear hblk hwl hrl tab
 obtain⟨x0,x1,x2,x3,x4,x5,x6,x7,rfl⟩:=eight_of hw
 obtain⟨y0,y1,y2,y3,y4,y5,y6,y7,hy⟩:=eight_of (bh_length false [x0,x1,x2,x3,x4,x5,x6,x7] blk rfl)
 rw[hy]
 have HY:=Lib.hid hy
 clear hy hw
 have b0:w.cell? ⟨g,0,none⟩=some (.int .i64 256):=hb.cell_ rfl
 clear hb
 have hne:((256:Int) == 256) = !false:=by decide
 go_enter Tryd.func106,Tryd.ntmps106
 go_upto_region 1 with(go_at_call 104;refine(kindOf_256 _).mono ?_;rintro e w1 ⟨rfl,hb1⟩;rw[kv_false];have k0:=keepc hb1 b0)
 have hq1:=Bl.new_ w1 128 (kv false)
 have hq2:Below w.heap.size w (w1.alloc (.cells (kv false) 128)):=hb1.alloc hb1.size _
 rw[kv_false] at hq1 hq2
 generalize hwq:w1.alloc _=wq at hq1 hq2 ⊢
 clear hwq k0
 have HQ1:=Lib.hid hq1
 have HQ2:=Lib.hid hq2
 have hbq:=HB.out.below' hq2
 have HBQ:=Lib.hid hbq
 have k0:=hbq.cell_ (i:=0) (v:=.int .i64 256) rfl
 have hq1':=hq1.cell
 have hgq:g≠w1.heap.size:=by have:=hq1.lt;intro e;have h1:=(keepc hb1 (HB.out.cell_ (i:=0) rfl));have:=cell_lt h1;simp at this;omega
 clear hq1 hq2 b0
 have kc0:=hq1' 0
 have kc1:=hq1' 1
 have kc2:=hq1' 2
 have kc3:=hq1' 3
 have kc4:=hq1' 4
 have kc5:=hq1' 5
 have kc6:=hq1' 6
 have kc7:=hq1' 7
 have kc8:=hq1' 8
 have kc9:=hq1' 9
 have kc10:=hq1' 10
 have kc11:=hq1' 11
 have kc12:=hq1' 12
 have kc13:=hq1' 13
 clear hq1'
 simp only[List.getElem?_toArray,List.getElem?_cons_zero,List.getElem?_cons_succ] at kc0 kc1 kc2 kc3 kc4 kc5 kc6 kc7 kc8 kc9 kc10 kc11 kc12 kc13
 have c0:=HBQ.out.cell_ (i:=2) (v:=.int .u64 (x0:Int)) rfl
 have c1:=HBQ.out.cell_ (i:=3) (v:=.int .u64 (x1:Int)) rfl
 have c2:=HBQ.out.cell_ (i:=4) (v:=.int .u64 (x2:Int)) rfl
 have c3:=HBQ.out.cell_ (i:=5) (v:=.int .u64 (x3:Int)) rfl
 have c4:=HBQ.out.cell_ (i:=6) (v:=.int .u64 (x4:Int)) rfl
 have c5:=HBQ.out.cell_ (i:=7) (v:=.int .u64 (x5:Int)) rfl
 have c6:=HBQ.out.cell_ (i:=8) (v:=.int .u64 (x6:Int)) rfl
 have c7:=HBQ.out.cell_ (i:=9) (v:=.int .u64 (x7:Int)) rfl
 have f0:=HBQ.out.frozen 2
 have f1:=HBQ.out.frozen 3
 have f2:=HBQ.out.frozen 4
 have f3:=HBQ.out.frozen 5
 have f4:=HBQ.out.frozen 6
 have f5:=HBQ.out.frozen 7
 have f6:=HBQ.out.frozen 8
 have f7:=HBQ.out.frozen 9
 generalize hqq:w1.heap.size=q at *
 go_wp2_with fail
 go_region_law ((go_simp;go_at_call 108;refine(behind32_any [x0,x1,x2,x3,x4,x5,x6,x7] rfl HWL.out _ c blk _ HRL.out (by exact HSL.out.below HQ2.out.drew) hc0 (by exact TAB.out.below HQ2.out.drew)).mono ?_;rintro e w2 ⟨rfl,hb2⟩;rw[HY.out];have K2:=k_drew hb2;have hz8:(al .u64 [y0,y1,y2,y3,y4,y5,y6,y7]).size=8:=rfl;obtain⟨w3,hst,hb3,hg3⟩:=run_store_bl Tryd.prog (HBQ.out.below' K2) 2 (al .u64 [y0,y1,y2,y3,y4,y5,y6,y7]).toList (by rw[hc_size _ _ _ _ rfl hr];simp[al]) (al_ones _ _);have HB3:=Lib.hid hb3;have HG3:=Lib.hid hg3;clear hb3 hg3))
 all_goals go_wp2_with fail
 all_goals go_end0
 all_goals refine⟨rfl,?_,?_⟩
 ·exact spl_hc _ _ _ _ _ _ _ _ _ _ _ _ _ _ _ _ _ _ _▸HB3.out
 ·exact only_trans (only_below (HQ2.out.trans (K2.mono HQ2.out.size)) _) HG3.out
 ·exact spl_hc _ _ _ _ _ _ _ _ _ _ _ _ _ _ _ _ _ _ _▸HB3.out
 ·exact only_trans (only_below (HQ2.out.trans (K2.mono HQ2.out.size)) _) HG3.out
end Go.Proofs.YtnnfpmebopgogaaDoor.Sh
namespace Go.Proofs.YtnnfpmebopgogaaDoor.Sh
open Go.RowKit Go.Proofs.YtnnfpmebopgogaaDoor.Gn Go.Deep
structure St (b:Bool) (T w r:List Nat):Prop where
 ws:w=run b T (T.length / bk b)
 wl:w.length=8
 wlt:∀x∈w,x < mo b
 rl:r.length=128
 rlt:∀x∈r,x < 256
 tail:r.take (T.length%bk b)=T.drop (T.length / bk b*bk b)
theorem bk_pos(b:Bool):0 < bk b:=by cases b <;> decide
theorem bk_le(b:Bool):bk b≤128:=by cases b <;> decide
theorem run_append(b:Bool)(T p:List Nat)(k:Nat)(h:k*bk b≤T.length):run b (T ++ p) k=run b T k:=by
 induction k with
 |zero=>rfl
 |succ k ih =>
  have hk:k*bk b+bk b≤T.length:=by rw[Nat.succ_mul] at h;exact h
  rw[run,run,ih (by omega),List.drop_append_of_le_length (by omega),List.take_append_of_le_length (by simp;omega)]
theorem St.part{b:Bool}{T ws rs:List Nat}(h:St b T ws rs)(p:List Nat)(hp:∀x∈p,x < 256)(hl:T.length%bk b+p.length < bk b):St b (T ++ p) ws (spr rs (T.length%bk b) p):=by
 have hB:=bk_pos b
 have hm:=Nat.mod_lt T.length hB
 have hd:=Nat.div_add_mod T.length (bk b)
 have h128:=bk_le b
 have hq:(T ++ p).length / bk b=T.length / bk b:=by
  rw[List.length_append,←hd,Nat.add_assoc,Nat.mul_add_div hB,Nat.div_eq_of_lt hl]
  rw[Nat.mul_add_div hB,Nat.div_eq_of_lt hm]
 have hr:(T ++ p).length%bk b=T.length%bk b+p.length:=by
  rw[List.length_append]
  conv=>lhs;rw[←hd]
  rw[Nat.add_assoc,Nat.mul_add_mod,Nat.mod_eq_of_lt hl]
 have hqB:T.length / bk b*bk b≤T.length:=Nat.div_mul_le_self _ _
 refine⟨?_,h.wl,h.wlt,by rw[spr_length _ _ _ (by rw[h.rl];omega),h.rl],?_,?_⟩
 ·rw[hq,run_append _ _ _ _ hqB];exact h.ws
 ·intro x hx
  unfold spr at hx
  rcases List.mem_append.1 hx with hx|hx
  ·exact h.rlt x (List.mem_of_mem_take hx)
  ·rcases List.mem_append.1 hx with hx|hx
   ·exact hp x hx
   ·exact h.rlt x (List.mem_of_mem_drop hx)
 ·rw[hq,hr,spr_take _ _ _ (by rw[h.rl];omega),h.tail,List.drop_append_of_le_length hqB]
theorem St.full{b:Bool}{T ws rs:List Nat}(h:St b T ws rs)(p:List Nat)(hp:∀x∈p,x < 256)(hl:T.length%bk b+p.length=bk b) :
  St b (T ++ p) (bh b ws ((spr rs (T.length%bk b) p).take (bk b))) (spr rs (T.length%bk b) p):=by
 have hB:=bk_pos b
 have hm:=Nat.mod_lt T.length hB
 have hd:=Nat.div_add_mod T.length (bk b)
 have h128:=bk_le b
 have hlen:(T ++ p).length=bk b*(T.length / bk b+1):=by
  rw[List.length_append,Nat.mul_add,Nat.mul_one];omega
 have hq:(T ++ p).length / bk b=T.length / bk b+1:=by rw[hlen,Nat.mul_div_cancel_left _ hB]
 have hr:(T ++ p).length%bk b=0:=by rw[hlen,Nat.mul_mod_right]
 have hqB:T.length / bk b*bk b≤T.length:=Nat.div_mul_le_self _ _
 have hsp:=spr_take rs (T.length%bk b) p (by rw[h.rl];omega)
 rw[hl] at hsp
 refine⟨?_,bh_length _ _ _ h.wl,bh_lt _ _ _,by rw[spr_length _ _ _ (by rw[h.rl];omega),h.rl],?_,?_⟩
 ·rw[hq,run,run_append _ _ _ _ hqB,←h.ws,hsp,h.tail,List.drop_append_of_le_length hqB]
  rw[List.take_of_length_le]
  rw[List.length_append,List.length_drop]
  have:T.length / bk b*bk b=bk b*(T.length / bk b):=Nat.mul_comm _ _
  omega
 ·intro x hx
  unfold spr at hx
  rcases List.mem_append.1 hx with hx|hx
  ·exact h.rlt x (List.mem_of_mem_take hx)
  ·rcases List.mem_append.1 hx with hx|hx
   ·exact hp x hx
   ·exact h.rlt x (List.mem_of_mem_drop hx)
 ·rw[hr,hq,List.take_zero,List.drop_of_length_le]
  rw[hlen,Nat.mul_comm]
  exact Nat.le_refl _
theorem spl_rest(b:Bool)(n:Nat)(ws rs p:List Nat)(hw:ws.length=8)(k:Nat)(h:k+p.length≤rs.length) :
  spl (hc b n ws rs).toArray (10+k) (bl p)=(hc b n ws (spr rs k p)).toArray:=by
 rw[spl_eq _ _ _ (by simp[hc,bl,hw];omega)]
 obtain⟨P,hP⟩:∃P:List Value,P=.int .i64 (bt b:Int) :: .int .i64 (n:Int) :: ws.map fun(x:Nat)=>Value.int .u64 (x:Int):=⟨_,rfl⟩
 have hl:P.length=10:=by simp[hP,hw]
 have e:∀r,hc b n ws r=P ++ bl r:=fun r=>by rw[hP];rfl
 rw[e,e,←hl]
 congr 1
 have e2:(P ++ bl rs).toArray.toList=P ++ bl rs:=by simp
 rw[e2,List.take_length_add_append,Nat.add_assoc,List.drop_length_add_append,List.append_assoc]
 simp[spr,bl,List.map_take,List.map_drop]
theorem hc_count(b:Bool)(n m:Nat)(ws rs:List Nat):(hc b n ws rs).toArray.setIfInBounds 1 (.int .i64 (m:Int))=(hc b m ws rs).toArray:=by
 simp[hc,List.setIfInBounds_toArray]
theorem Tab.only{w w':World}(h:Tab w){g:Nat}(hg:(1 < g∧0 < g))(ho:w.grownBy w' (some g)):Tab w' :=
 ⟨fun t ht=>(only_cell ho (cell_lt (h.1 t ht)) (fun e=>by injection e with e;simp at e;omega)).trans (h.1 t ht),fun t ht=>(only_cell ho (cell_lt (h.2 t ht)) (fun e=>by injection e with e;simp at e;omega)).trans (h.2 t ht)⟩
theorem info_u8:(Tryd.prog.info? 5).map (·.size)=some 1:=by kernel_rfl
theorem block_256(w:World):Calls Tryd.prog 105 #[.int .i64 256] w fun e w'=>e=.returned (.int .i64 64)∧w=w':=by
 go_enter Tryd.func105,Tryd.ntmps105
 go_wp2
 go_ret
 exact⟨rfl,rfl⟩
def P32(T l:List Nat)(g:Nat)(w:World)(v:Value)(wr:World):Prop :=
 ∃(j:Nat) (A:Option Addr) (c:Nat) (ws rs:List Nat),j≤l.length∧v=.slice A (l.length - j) c∧Sl wr A (l.length - j) (bl (l.drop j))∧(∀ad,A=some ad→ad.block≠g)∧l.length - j≤c∧Bl wr g 121 (hc false (T.length+j) ws rs).toArray∧St false (T ++ l.take j) ws rs∧w.grownBy wr (some g)∧Tab wr
theorem P_step32{T l:List Nat}{g:Nat}{w wr w2:World}{j m p c1 c2:Nat}{ad:Addr}{A2:Option Addr}{ws1 rs1:List Nat}(hg:(1 < g∧0 < g))(hj:j≤l.length)(hS1:Sl wr (some ad) m (bl (l.drop j)))(hS2:ad.block≠g)(h3:m≤c1)(hm:m=l.length - j)(hp:p≤m)(hg2:wr.grownBy w2 (some g))
  (hA2:A2=if c1=p then some ad else some (ad.add p)) (hc2:c2=c1 - p) (hbl:Bl w2 g 121 (hc false (T.length+(j+p)) ws1 rs1).toArray) (hst:St false (T ++ l.take (j+p)) ws1 rs1) (h6:w.grownBy wr (some g)) (tab:Tab wr):P32 T l g w (.slice A2 (m - p) c2) w2:=by
 have hd:=hS1.drop_ (c:=c1) p hp h3
 rw[bl_drop,List.drop_drop] at hd
 have hA3:(if c1=p then some ad else(some ad).map fun x=>x.add p)=A2:=by rw[hA2];split <;> rfl
 rw[hA3] at hd
 have hA4:∀a,A2=some a→a.block≠g:=by
  intro a ha
  rw[hA2] at ha
  split at ha
  ·injection ha with ha;rw[←ha];exact hS2
  ·injection ha with ha;rw[←ha,add_block];exact hS2
 have hml:m - p=l.length - (j+p):=by omega
 refine⟨j+p,A2,c2,ws1,rs1,by omega,by rw[hml],?_,hA4,by omega,hbl,hst,only_trans h6 hg2,tab.only hg hg2⟩
 rw[←hml]
 exact hd.only hg2 fun a ha=>by
  intro e
  injection e with e
  exact hA4 a ha e.symm
set_option maxRecDepth 100000 in
set_option maxHeartbeats 2000000 in
theorem put32_any(T l ws0 rs0:List Nat)(g:Nat)(A:Option Addr)(c:Nat)(w:World)(hg:(1 < g∧0 < g))(hl:∀x∈l,x < 256)(hsl:Sl w A l.length (bl l))(hA:∀ad,A=some ad→ad.block≠g)(hlc:l.length≤c)(hb:Bl w g 121 (hc false T.length ws0 rs0).toArray)(hst:St false T ws0 rs0)(hmax:T.length+l.length≤2000000)(tab:Tab w) :
  Calls Tryd.prog 99 #[.pointer (some ⟨g,0,none⟩),.slice A l.length c] w
   fun e w'=>e=.returned (.tuple #[])∧(∃ws rs,Bl w' g 121 (hc false (T.length+l.length) ws rs).toArray∧St false (T ++ l) ws rs)∧w.grownBy w' (some g)∧Tab w':=by
 have H0:=Lib.hid (show P32 T l g w (.slice A l.length c) w from⟨0,A,c,ws0,rs0,Nat.zero_le _,rfl,hsl,hA,hlc,hb,by rw[List.take_zero,List.append_nil];exact hst,World.grownBy.refl _ _,tab⟩)
 have HL:=Lib.hid hl
 have b0:w.cell? ⟨g,0,none⟩=some (.int .i64 256):=hb.cell_ rfl
 clear hl hsl hA hlc hb hst tab
 go_enter Tryd.func99,Tryd.ntmps99
 go_wp2_with (go_at_call 105;refine(block_256 _).mono ?_;rintro e w' ⟨rfl,rfl⟩)
 go_loopw [1] (fun v wr=>P32 T l g w v wr) (fun v _=>slen v)
 case atStart=>exact H0.out
 case round =>
  obtain⟨j,A1,c1,ws,rs,hj,rfl,h1,h2,h3,h4,h5,h6,h7⟩:=hrel
  have S1:=Lib.hid h1
  have S2:=Lib.hid h2
  have S4:=Lib.hid h4
  have S5:=Lib.hid h5
  have S6:=Lib.hid h6
  have S7:=Lib.hid h7
  clear h1 h2 h4 h5 h6 h7 H0 b0
  obtain⟨m,hm⟩:∃m,m=l.length - j:=⟨_,rfl⟩
  rw[←hm] at S1 h3 ⊢
  have HM:=Lib.hid hm
  clear hm
  by_cases hpos:0 < m
  ·obtain⟨ad,rfl,-⟩:=S1.out.at_ hpos
   obtain⟨n,hn⟩:∃n,n=T.length+j:=⟨_,rfl⟩
   rw[←hn] at S4
   have HN:=Lib.hid hn
   clear hn
   obtain⟨a,ha⟩:∃a,a=n%64:=⟨_,rfl⟩
   have hrem:(n:Int)%64=(a:Int):=by omega
   have ha1:(a:Int) < 64:=by omega
   have k1:=S4.out.cell_ (i:=1) (v:=.int .i64 (n:Int)) rfl
   have f1:=S4.out.frozen 1
   have HA:=Lib.hid ha
   clear ha
   obtain⟨p,hp⟩:∃p,p=Nat.min m (64 - a):=⟨_,rfl⟩
   have hp1:p≤m∧a+p≤64∧0 < p:=by
    have h1:p≤m:=hp▸Nat.min_le_left m (64 - a)
    have h2:p≤64 - a:=hp▸Nat.min_le_right m (64 - a)
    have h3:0 < p:=hp▸Nat.lt_min.2 ⟨hpos,by omega⟩
    omega
   have HP:=Lib.hid hp
   have HI:=Lib.hid info_u8
   clear hp
   have hsa:=run_sliceAt_arr Tryd.underlying119 HI.out g 10 a 64 (by omega) (by decide) (by omega)
   have hsb:=run_sliceAt_to Tryd.underlying119 HI.out g 10 64 (by decide) (by decide)
   simp only[Int.reduceToNat] at hsa hsb
   obtain⟨pc,hpc⟩:∃q,q=(l.drop j).take p:=⟨_,rfl⟩
   have hpl:pc.length=p:=by rw[hpc,List.length_take,List.length_drop];have:=HM.out;omega
   have HPC:=Lib.hid hpc
   have HPL:=Lib.hid hpl
   clear hpc hpl
   have RL:=Lib.hid (show(spr rs a pc).length=128 by rw[spr_length _ _ _ (by rw[S5.out.rl,HPL.out];omega)];exact S5.out.rl)
   have PLT:=Lib.hid (show ∀x∈pc,x < 256 by rw[HPC.out];exact fun x hx=>HL.out x (List.mem_of_mem_drop (List.mem_of_mem_take hx)))
   have RLT:=Lib.hid (show ∀x∈spr rs a pc,x < 256 by
    intro x hx
    unfold spr at hx
    rcases List.mem_append.1 hx with hx|hx
    ·exact S5.out.rlt x (List.mem_of_mem_take hx)
    ·rcases List.mem_append.1 hx with hx|hx
     ·exact PLT.out x hx
     ·exact S5.out.rlt x (List.mem_of_mem_drop hx))
   obtain⟨rs1,hrs1⟩:∃r,r=spr rs a pc:=⟨_,rfl⟩
   rw[←hrs1] at RL RLT
   have HRS:=Lib.hid hrs1
   clear hrs1
   go_upto_region 3 with fail
   rw[hrem]
   clear hrem
   go_upto_region 4 with(refine wpList_copy_bl rfl (.tmp 26) (.tmp 27) 22 22 rfl 5 Tryd.underlying22 HI.out g (10+a) (64 - a) (128 - a) ad m c1 (by rfl) (by rfl) 121 _ S4.out _ S1.out p HP.out (by rw[hc_size _ _ _ _ S5.out.wl S5.out.rl];omega) (bl_one _) ?_;intro w1 hb1 hg1)
   rw[bl_take,←HPC.out,spl_rest _ _ _ _ _ S5.out.wl _ (by rw[HPL.out,S5.out.rl];omega),←HRS.out] at hb1
   have B1:=Lib.hid hb1
   have G1:=Lib.hid hg1
   have k2:=hb1.cell_ (i:=1) (v:=.int .i64 (n:Int)) rfl
   have f2:=hb1.frozen 1
   clear hb1 hg1 k1 f1
   have hnp:(n:Int)+(p:Int)≤2000000:=by have:=HN.out;have:=HM.out;omega
   have hlen:(T ++ l.take j).length=n:=by rw[List.length_append,List.length_take,Nat.min_eq_left hj,HN.out]
   have hmod:(T ++ l.take j).length%bk false=a:=by rw[hlen,HA.out];rfl
   have htk:T ++ l.take (j+p)=(T ++ l.take j) ++ pc:=by rw[List.append_assoc,HPC.out,List.take_add]
   have HMOD:=Lib.hid hmod
   have HTK:=Lib.hid htk
   clear hlen hmod htk
   by_cases hfull:a+p=64
   ·have ht:((a:Int)+(p:Int) == 64)=true:=by rw[beq_iff_eq];omega
    have ST:=Lib.hid (S5.out.full pc PLT.out (by rw[HMOD.out,HPL.out];exact hfull))
    go_wp2_with fail
    all_goals refine(mix32_any g (n+p) ws rs1 S5.out.wl RL.out S5.out.wlt RLT.out _ (by have h:=B1.out.set_ 1 (.int .i64 ((n+p:Nat):Int));rw[hc_count] at h;exact h) ((S7.out.only hg (only_set G1.out (.inl rfl) _))) 128 (by decide)).mono ?_
    all_goals rintro e w2 ⟨rfl,hb2,hg2⟩
    all_goals have B2:=Lib.hid hb2
    all_goals have G2:=Lib.hid (only_trans (only_set G1.out (.inl rfl) _) hg2)
    all_goals clear hb2 hg2
    all_goals go_wp2_with fail
    all_goals(try go_big_round)
    all_goals refine⟨P_step32 (ws1:=bh false ws (rs1.take 64)) (rs1:=rs1) hg hj S1.out (S2.out ad rfl) h3 HM.out hp1.1 G2.out ?_ ?_ (by rw[←Nat.add_assoc,←HN.out];exact B2.out) (by have h:=ST.out;rw[HMOD.out,←HRS.out] at h;rw[HTK.out];exact h) S6.out S7.out,by simp only[slen];omega⟩
    ·have hcp:c1=p:=by assumption
     rw[if_pos hcp]
    ·have hcp:c1=p:=by assumption
     omega
    ·have hcp:¬c1=p:=by assumption
     rw[if_neg hcp]
    ·rfl
   ·have ST:=Lib.hid (S5.out.part pc PLT.out (by rw[HMOD.out,HPL.out];show a+p < 64;omega))
    have ht:((a:Int)+(p:Int) == 64)=false:=by rw[beq_eq_false_iff_ne];omega
    go_wp2_with fail
    (try go_big_round)
    refine⟨P_step32 (ws1:=ws) (rs1:=rs1) hg hj S1.out (S2.out ad rfl) h3 HM.out hp1.1 (only_set G1.out (.inl rfl) _) rfl rfl ?_ (by have h:=ST.out;rw[HMOD.out,←HRS.out] at h;rw[HTK.out];exact h) S6.out S7.out,by simp only[slen];omega⟩
    have h:=B1.out.set_ 1 (.int .i64 ((n+p:Nat):Int))
    rw[hc_count] at h
    rw[←Nat.add_assoc,←HN.out]
    exact h
  ·have hm0:m=0:=by omega
   subst hm0
   go_wp2_with fail
   go_end0
   have hjl:j=l.length:=by have:=HM.out;omega
   subst hjl
   refine⟨rfl,⟨ws,rs,S4.out,?_⟩,S6.out,S7.out⟩
   have h:=S5.out
   rwa [List.take_length] at h
end Go.Proofs.YtnnfpmebopgogaaDoor.Sh
