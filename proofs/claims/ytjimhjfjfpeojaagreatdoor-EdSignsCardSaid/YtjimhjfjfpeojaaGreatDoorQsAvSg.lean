/- Joined texts. -/
import Derived.BigQuiet
import Derived.Test.YtjimhjfjfpeojaaGreatDoorQsAvS
import Derived.Test.YtjimhjfjfpeojaaGreatDoorQsEdU
import Derived.Test.YtjimhjfjfpeojaaGreatDoorQsRfScal
import Derived.Test.YtjimhjfjfpeojaaGreatDoorQsShRS
set_option linter.unusedVariables false
namespace Go.Proofs.YtjimhjfjfpeojaaGreatDoor.Av
open Go.RowKit Go.Proofs.YtjimhjfjfpeojaaGreatDoor.Gn Go.Proofs.YtjimhjfjfpeojaaGreatDoor.Fd Go.Proofs.YtjimhjfjfpeojaaGreatDoor.Ed Go.Deep
theorem pc_of{O:Nat→Prop}{w:World}{l:List Nat}{u:Value}(h:(byt true l).rep O w u)(hl:∀x∈l,x < 256):∃A n c,u=.slice A n c∧n=l.length∧Pc w (A,n,c,l)∧n≤maxLen:=by
 obtain⟨A,n,c,rfl,s1,h3⟩:=row_sl h
 obtain⟨h4,h5,h6⟩:=h3 rfl
 have hn:l.length=n:=by have:=s1.1;simpa[bl] using this
 subst hn
 exact⟨A,_,c,rfl,rfl,⟨rfl,s1,hl,h4,h6⟩,h5⟩
theorem pc_rep{O:Nat→Prop}{w:World}{A:Option Addr}{n c:Nat}{l:List Nat}(h:Pc w (A,n,c,l))(hm:l.length≤maxLen)(hO:∀ad,A=some ad→¬O ad.block):(byt true l).rep O w (.slice A n c):=by
 have hn:n=l.length:=h.len
 subst hn
 refine⟨A,_,c,rfl,by simp[bl],fun _=>⟨h.cap,hm,h.nil⟩,reps_iff.2 fun j x hj=>?_⟩
 rw[List.getElem?_map] at hj
 cases hq:(bl l)[j]? with
 |none=>rw[hq] at hj;cases hj
 |some v =>
  rw[hq] at hj;cases hj
  obtain⟨ad,e,hc⟩:=h.row.2 j v hq
  exact⟨v,⟨ad,e,hO ad e,by rw[Nat.zero_add];exact hc⟩,rfl⟩
theorem fresh{O:Nat→Prop}{n g k:Nat}(hO:∀b,O b→b < n)(hg:n≤g):∀ad,some (⟨g,k,none⟩:Addr)=some ad→¬O ad.block:=fun ad e h=>by cases e;have:=hO g h;omega
theorem max64{n:Nat}(h:n≤1000):n≤maxLen:=by unfold maxLen;omega
theorem tup2{O:Nat→Prop}{w:World}{x y:DV}{u v:Value}(h:x.rep O w u)(k:y.rep O w v):(DV.tup [x,y]).rep O w (.tuple #[u,v]):=⟨_,rfl,rfl,⟨_,rfl,h⟩,⟨_,rfl,k⟩,trivial⟩
theorem g_key{l:List Nat}{b:G}(h32:l.length=32)(hl:∀x∈l,x < 256)(hb:Hp kbase b)(w:World)(tab:TabE w)(ts:Sh.Tab w):FnAt Tryz.prog [] w 32 [byt true l] (.tup [byt true (keyb l b),.lit (.int .i64 0)]) :=
 ⟨fun _ _=>by kernel_rfl,fun O vs hO hk hln hr=>by
  obtain⟨u,rfl,h1⟩:=one_arg hln hr
  obtain⟨A,n,c,rfl,hn,hp,-⟩:=pc_of h1 hl
  rw[h32] at hn;subst hn
  have hr2:Sl w A 32 (bl l):=by have:Sl w A l.length (bl l):=hp.row;rwa [h32] at this
  exact(Key_any A c l b w tab ts hl h32 hr2 (Sh.Sl_block hr2 (by decide)) (by have:l.length≤c:=hp.cap;omega) hb).mono fun e w' ⟨g,h3,h4,h5,h6⟩=>⟨_,h3,tup2 (pc_rep (pc_bl (by_length _ _) (by_lt _ _) h5) (by rw[keyb_length];exact max64 (by decide)) (fresh hO h4)) rfl,h6⟩⟩
set_option maxRecDepth 100000 in
theorem Key_bad{A:Option Addr}{n c:Nat}{w:World}(h:n≠32):Calls Tryz.prog 32 #[.slice A n c] w fun e w'=>e=.returned (.tuple #[.slice none 0 0,.int .i64 1])∧w=w':=by
 have t1:((n:Int) != 32)=true:=by simp;omega
 clear h
 go_enter Tryz.func32,Tryz.ntmps32
 go_wp2_with fail
 go_ret2
 exact⟨rfl,rfl⟩
set_option maxRecDepth 100000 in
theorem Sign_bad{A:Option Addr}{n c:Nat}{M:Option Addr}{k d:Nat}{w:World}(h:n≠32):Calls Tryz.prog 33 #[.slice A n c,.slice M k d] w fun e w'=>e=.returned (.tuple #[.slice none 0 0,.int .i64 1])∧w=w':=by
 have t1:((n:Int) != 32)=true:=by simp;omega
 clear h
 go_enter Tryz.func33,Tryz.ntmps33
 go_wp2_with fail
 go_ret2
 exact⟨rfl,rfl⟩
theorem g_keyL{l:List Nat}(h32:l.length≠32)(hl:∀x∈l,x < 256)(w:World):FnAt Tryz.prog [] w 32 [byt true l] (.tup [byt true [],.lit (.int .i64 1)]) :=
 ⟨fun _ _=>by kernel_rfl,fun O vs hO hk hln hr=>by
  obtain⟨u,rfl,h1⟩:=one_arg hln hr
  obtain⟨A,n,c,rfl,hn,hp,-⟩:=pc_of h1 hl
  exact(Key_bad (by omega)).mono fun e w' ⟨h3,h4⟩=>⟨_,h3,tup2 (le_bnil O w' _ rfl) rfl,by rw[h4];exact Below.refl _ _⟩⟩
theorem g_sign{l m:List Nat}{b:G}(h32:l.length=32)(hl:∀x∈l,x < 256)(hm:∀x∈m,x < 256)(hn:m.length≤65536)(hb:Hp kbase b)(w:World)(tab:TabE w)(ts:Sh.Tab w)(tl:TabL w):FnAt Tryz.prog [] w 33 [byt true l,byt true m] (.tup [byt true (sfst l m b ++ ssnd l m b),.lit (.int .i64 0)]) :=
 ⟨fun _ _=>by kernel_rfl,fun O vs hO hk hln hr=>by
  obtain⟨u,v,rfl,h1,h2⟩:=two_args hln hr
  obtain⟨A,n,c,rfl,hn1,hp,-⟩:=pc_of h1 hl
  obtain⟨M,k,d,rfl,hk1,hq,-⟩:=pc_of h2 hm
  rw[h32] at hn1;subst hn1
  exact(sign_p tab ts tl hp hq (by omega) hb).mono fun e w' ⟨g,cap,h3,h4,h5,h6⟩=>⟨_,h3,tup2 (pc_rep h4 (by rw[List.length_append,sfst_length,ssnd_length];exact max64 (by decide)) (fresh hO h5)) rfl,h6⟩⟩
theorem g_signL{l m:List Nat}(h32:l.length≠32)(hl:∀x∈l,x < 256)(hm:∀x∈m,x < 256)(w:World):FnAt Tryz.prog [] w 33 [byt true l,byt true m] (.tup [byt true [],.lit (.int .i64 1)]) :=
 ⟨fun _ _=>by kernel_rfl,fun O vs hO hk hln hr=>by
  obtain⟨u,v,rfl,h1,h2⟩:=two_args hln hr
  obtain⟨A,n,c,rfl,hn1,hp,-⟩:=pc_of h1 hl
  obtain⟨M,k,d,rfl,hk1,hq,-⟩:=pc_of h2 hm
  exact(Sign_bad (by omega)).mono fun e w' ⟨h3,h4⟩=>⟨_,h3,tup2 (le_bnil O w' _ rfl) rfl,by rw[h4];exact Below.refl _ _⟩⟩
theorem c_dsum{l:List Nat}(hl:∀x∈l,x < 256)(hn:l.length≤1048576)(w:World):FnAt Tryz.prog [] w 112 [byt true l,.lit (.int .i64 512)] (.tup [byt true (Sh.dg true l),.lit (.int .i64 0)]) :=
 ⟨fun _ _=>by kernel_rfl,fun O vs hO hk hln hr=>by
  obtain⟨u,v,rfl,h1,h2⟩:=two_args hln hr
  obtain⟨A,n,c,rfl,hn1,hp,-⟩:=pc_of h1 hl
  cases h2
  subst hn1
  refine(Sh.rsum64_any l A _ c w hl hp.row hp.nil hn).mono fun e w' ⟨v,h3,h4,h5⟩=>?_
  obtain⟨g,cap,rfl,h6,h7⟩:=own_pc h4 (by decide) (Ed.dg_len l) (dg_lt l)
  exact⟨_,h3,tup2 (pc_rep h6 (by rw[Ed.dg_len];exact max64 (by decide)) (fresh hO h7)) rfl,h5⟩⟩
theorem c_fold{l:List Nat}(hl:∀x∈l,x < 256)(hn:l.length≤64)(w:World):FnAt Tryz.prog [] w 114 [byt true l] (.tup [byt true (by_ (le l%Lq) 32),.lit (.int .i64 0)]) :=
 ⟨fun _ _=>by kernel_rfl,fun O vs hO hk hln hr=>by
  obtain⟨u,rfl,h1⟩:=one_arg hln hr
  obtain⟨A,n,c,rfl,hn1,hp,-⟩:=pc_of h1 hl
  subst hn1
  exact(RFold_any A _ c l w hn hl hp.row).mono fun e w' ⟨g,h3,h4,h5,h6⟩=>⟨_,h3,tup2 (by rw[by_length];exact pc_rep (pc_bl (by_length _ _) (by_lt _ _) h5) (by rw[by_length];exact max64 (by decide)) (fresh hO h4)) rfl,h6⟩⟩
theorem c_timesS{a b c:List Nat}(ha:∀x∈a,x < 256)(hb:∀x∈b,x < 256)(hc:∀x∈c,x < 256)(la:a.length≤32)(lb:b.length≤32)(lc:c.length≤32)(w:World):FnAt Tryz.prog [] w 113 [byt true a,byt true b,byt true c] (.tup [byt true (by_ ((le a*le b+le c)%Lq) 32),.lit (.int .i64 0)]) :=
 ⟨fun _ _=>by kernel_rfl,fun O vs hO hk hln hr=>by
  obtain⟨u,v,t,rfl,h1,h2,h3⟩:=three_args hln hr
  obtain⟨A,n,ca,rfl,hn1,hp,-⟩:=pc_of h1 ha
  obtain⟨B,m,cb,rfl,hn2,hq,-⟩:=pc_of h2 hb
  obtain⟨C,k,cc,rfl,hn3,hs,-⟩:=pc_of h3 hc
  subst hn1 hn2 hn3
  exact(RTimes_any A B C _ _ _ ca cb cc a b c w la lb lc ha hb hc hp.row hq.row hs.row).mono fun e w' ⟨g,h3,h4,h5,h6⟩=>⟨_,h3,tup2 (by rw[by_length];exact pc_rep (pc_bl (by_length _ _) (by_lt _ _) h5) (by rw[by_length];exact max64 (by decide)) (fresh hO h4)) rfl,h6⟩⟩
theorem o_quo8(w:World)(b:Nat)(h:b < 256):(binOp .quo 5 (.int .u8 (b:Int)) (.int .u8 8)).run Tryz.prog w=.ok (.int .u8 ((b / 8:Nat):Int)) w:=by
 go_simp
 try simp[Int.tdiv_eq_ediv_of_nonneg]
 rw[IntKind.wrap_u8];omega
theorem o_mul8(w:World)(b:Nat)(h:b < 256):(binOp .mul 5 (.int .u8 ((b / 8:Nat):Int)) (.int .u8 8)).run Tryz.prog w=.ok (.int .u8 ((b / 8*8:Nat):Int)) w:=by
 go_simp
 rw[IntKind.wrap_u8];omega
theorem o_rem64(w:World)(b:Nat)(h:b < 256):(binOp .rem 5 (.int .u8 (b:Int)) (.int .u8 64)).run Tryz.prog w=.ok (.int .u8 ((b%64:Nat):Int)) w:=by
 go_simp
 try simp[Int.tmod_eq_emod_of_nonneg]
theorem o_add64(w:World)(b:Nat)(h:b < 256):(binOp .add 5 (.int .u8 ((b%64:Nat):Int)) (.int .u8 64)).run Tryz.prog w=.ok (.int .u8 ((b%64+64:Nat):Int)) w:=by
 go_simp
 rw[IntKind.wrap_u8];omega
def SecQ(E:List Nat)(w:World)(e:Ending)(w':World):Prop:=∃q cap,e=.returned (.tuple #[.slice (some ⟨q,0,none⟩) 32 cap,.slice (some ⟨q,32,none⟩) 32 (cap - 32)])∧w.heap.size≤q∧Pc w' (some ⟨q,0,none⟩,32,cap,E.take 32)∧Pc w' (some ⟨q,32,none⟩,32,cap - 32,E.drop 32)∧Below w.heap.size w w'
theorem cur_get{cur:Array Value}{D:List Nat}{n:Nat}(h:cur.toList.take n=bl D){i:Nat}(hi:i < n){v:Value}(hv:(bl D)[i]?=some v):cur[i]?=some v:=by
 rw[←h,List.getElem?_take,if_pos hi] at hv
 simpa using hv
theorem cur_set{cur:Array Value}{D:List Nat}{n:Nat}(h:cur.toList.take n=bl D){i x:Nat}(hi:i < n):(cur.setIfInBounds i (.int .u8 (x:Int))).toList.take n=bl (D.set i x):=by
 rw[Array.toList_setIfInBounds,List.take_set,h]
 simp[bl,List.map_set]
set_option maxRecDepth 100000 in
set_option maxHeartbeats 4000000 in
theorem secret_walk(A:Option Addr)(n c:Nat)(D:List Nat)(w:World)(hD:D.length=64)(hDl:∀x∈D,x < 256)
  (SU:Calls Tryz.prog 112 #[.slice A n c,.int .i64 512] w fun e w'=>∃v,e=.returned (.tuple #[v,.int .i64 0])∧w'.ownsRow w.heap.size 5 1 v 64 (bl D)∧Below w.heap.size w w') :
  Calls Tryz.prog 75 #[.slice A n c] w (SecQ (secd D) w):=by
 have cell:∀i,i < 64→(bl D)[i]?=some (.int .u8 ((D.getD i 0:Nat):Int))∧D.getD i 0 < 256:=by
  intro i hi
  refine⟨by rw[bl_get,List.getD_eq_getElem?_getD,List.getElem?_eq_getElem (by omega)];rfl,?_⟩
  rw[List.getD_eq_getElem?_getD,List.getElem?_eq_getElem (by omega)]
  exact hDl _ (List.getElem_mem _)
 obtain⟨c0,l0⟩:=cell 0 (by decide)
 obtain⟨c31,l31⟩:=cell 31 (by decide)
 have hse:secd D=(D.set 0 (D.getD 0 0 / 8*8)).set 31 (D.getD 31 0%64+64):=rfl
 have hsl:(secd D).length=64:=by rw[secd_length,hD]
 have hsb:∀x∈secd D,x < 256:=secd_lt hDl
 have c31':(bl (D.set 0 (D.getD 0 0 / 8*8)))[31]?=some (.int .u8 ((D.getD 31 0:Nat):Int)):=by
  rw[bl_get,List.getElem?_set_ne (by decide)]
  rw[bl_get] at c31
  exact c31
 generalize D.getD 0 0=x at *
 generalize D.getD 31 0=y at *
 generalize secd D=E at *
 have C0:=Lib.hid c0
 have C31:=Lib.hid c31'
 have HSE:=Lib.hid hse
 have HSL:=Lib.hid hsl
 have HSB:=Lib.hid hsb
 replace SU:=Lib.hid SU
 clear cell c0 c31 c31' hD hDl hse hsl hsb
 go_enter Tryz.func75,Tryz.ntmps75
 go_upto_region 2 with(go_at_call 112;(with_reducible refine SU.out.mono ?_);rintro e W1 ⟨v,rfl,ho,b1⟩;have HO:=Lib.hid ho;have D1:=Lib.hid b1;clear ho b1)
 obtain⟨q,cap,cur,rfl,B1,h1,h2,h3,h4⟩:=own_cur HO.out (by decide)
 have T1:=Lib.hid h3
 have k0:=cur_get h3 (by decide) C0.out
 have T2:=Lib.hid (cur_set h3 (i:=0) (x:=x / 8*8) (by decide))
 have k31:=cur_get T2.out (by decide) C31.out
 have T3:=Lib.hid (cur_set T2.out (i:=31) (x:=y%64+64) (by decide))
 clear h3
 refine wp_region_lit ?_
 refine sq_run (.slice (some ⟨q,0,none⟩) 64 cap) rfl (by kernel_rfl) ?_
 refine sq_run (.slice (some ⟨q,0,none⟩) 64 cap) rfl (by kernel_rfl) ?_
 refine sq_run (.pointer (some ⟨q,0,none⟩)) rfl (by kernel_rfl) ?_
 refine sq_cell ⟨q,0,none⟩ (.int .u8 (x:Int)) (B1.cell_ k0) 5 (.tmp 13) rfl rfl (by kernel_rfl) Tryz.underlying5 rfl ?_
 refine sq_run (.int .u8 ((x / 8:Nat):Int)) rfl (run_bin_op .quo 5 (.tmp 14) (.const (.int .u8 8)) _ rfl (.int .u8 (x:Int)) (.int .u8 8) (.int .u8 ((x / 8:Nat):Int)) (by kernel_rfl) (by kernel_rfl) (by kernel_rfl) (o_quo8 _ x l0)) ?_
 refine sq_run (.int .u8 ((x / 8*8:Nat):Int)) rfl (run_bin_op .mul 5 (.tmp 15) (.const (.int .u8 8)) _ rfl (.int .u8 ((x / 8:Nat):Int)) (.int .u8 8) (.int .u8 ((x / 8*8:Nat):Int)) (by kernel_rfl) (by kernel_rfl) (by kernel_rfl) (o_mul8 _ x l0)) ?_
 refine sq_run (.pointer (some ⟨q,0,none⟩)) rfl (by kernel_rfl) ?_
 refine sq_put q 0 _ _ B1 (.int .u8 ((x / 8*8:Nat):Int)) 5 (.tmp 17) (.tmp 16) rfl rfl (by kernel_rfl) (by kernel_rfl) rfl (by omega) size8 rfl fun W2 B2 G2=>?_
 refine sq_done ?_
 simp only[Act.put,List.setIfInBounds_toArray,List.set_cons_zero,List.set_cons_succ]
 have D2:=Lib.hid (below_only (g:=q) D1.out G2 h4)
 have h5:64≤(cur.setIfInBounds 0 (.int .u8 ((x / 8*8:Nat):Int))).size:=by simpa using h2
 have HB2:=Lib.hid B2
 clear G2 B1 B2
 go_upto_region 3 with(fail)
 have B2:=HB2.out
 refine wp_region_lit ?_
 refine sq_run (.slice (some ⟨q,0,none⟩) 64 cap) rfl (by kernel_rfl) ?_
 refine sq_run (.slice (some ⟨q,0,none⟩) 64 cap) rfl (by kernel_rfl) ?_
 refine sq_run (.pointer (some ⟨q,31,none⟩)) rfl (by kernel_rfl) ?_
 refine sq_cell ⟨q,31,none⟩ (.int .u8 (y:Int)) (B2.cell_ k31) 5 (.tmp 20) rfl rfl (by kernel_rfl) Tryz.underlying5 rfl ?_
 refine sq_run (.int .u8 ((y%64:Nat):Int)) rfl (run_bin_op .rem 5 (.tmp 21) (.const (.int .u8 64)) _ rfl (.int .u8 (y:Int)) (.int .u8 64) (.int .u8 ((y%64:Nat):Int)) (by kernel_rfl) (by kernel_rfl) (by kernel_rfl) (o_rem64 _ y l31)) ?_
 refine sq_run (.int .u8 ((y%64+64:Nat):Int)) rfl (run_bin_op .add 5 (.tmp 22) (.const (.int .u8 64)) _ rfl (.int .u8 ((y%64:Nat):Int)) (.int .u8 64) (.int .u8 ((y%64+64:Nat):Int)) (by kernel_rfl) (by kernel_rfl) (by kernel_rfl) (o_add64 _ y l31)) ?_
 refine sq_run (.pointer (some ⟨q,31,none⟩)) rfl (by kernel_rfl) ?_
 refine sq_put q 31 _ _ B2 (.int .u8 ((y%64+64:Nat):Int)) 5 (.tmp 24) (.tmp 23) rfl rfl (by kernel_rfl) (by kernel_rfl) rfl (by omega) size8 rfl fun W3 B3 G3=>?_
 refine sq_done ?_
 simp only[Act.put,List.setIfInBounds_toArray,List.set_cons_zero,List.set_cons_succ]
 have D3:=Lib.hid (below_only (g:=q) D2.out G3 h4)
 have PX:=Lib.hid (show Pc W3 (some ⟨q,0,none⟩,64,cap,E) from⟨HSL.out.symm,Sl.of_bl B3 0 _ _ (by rw[bl_length]) (fun k v hv=>by
  have hk:k < 64:=by
   have:=(List.getElem?_eq_some_iff.1 hv).1
   rw[bl_length] at this
   exact Nat.lt_of_lt_of_eq this HSL.out
  rw[Nat.zero_add]
  refine cur_get T3.out hk ?_
  rw[←HSE.out]
  exact hv),HSB.out,by show E.length≤cap;rw[HSL.out];exact h1,fun h=>by cases h⟩)
 clear B2 HB2 B3 G3 k0 k31 h2 h5 HO C0 C31 HSE l0 l31
 go_wp2_with fail
 go_quiet (fail)
 obtain⟨w5,hw5⟩:∃w5,W3.drewN nq=w5:=⟨_,rfl⟩
 have D5:=Lib.hid (Gn.below_drewN D3.out nq)
 have P5:=Lib.hid (PX.out.below (Gn.below_drewN (Below.refl W3.heap.size W3) nq))
 rw[hw5] at D5 P5 ⊢
 clear hw5
 obtain⟨ad,had,h64,f1,f2⟩:=first_p P5.out
 cases had
 have F1:=Lib.hid f1
 have F2:=Lib.hid (show Pc w5 (some ⟨q,32,none⟩,32,cap - 32,E.drop 32) from f2)
 clear f1 f2 h64
 go_wp2_with fail
 go_ret2
 exact⟨q,cap,rfl,h4,F1.out,F2.out,D5.out⟩
theorem c_secret{l:List Nat}(hl:∀x∈l,x < 256)(hn:l.length≤1048576)(w:World):FnAt Tryz.prog [] w 75 [byt true l] (.tup [byt true (sec l),byt true (salt l)]) :=
 ⟨fun _ _=>by kernel_rfl,fun O vs hO hk hln hr=>by
  obtain⟨u,rfl,h1⟩:=one_arg hln hr
  obtain⟨A,n,c,rfl,hn1,hp,-⟩:=pc_of h1 hl
  subst hn1
  exact(secret_walk A _ c _ w (Ed.dg_len l) (dg_lt l) (Sh.rsum64_any l A _ c w hl hp.row hp.nil hn)).mono fun e w' ⟨q,cap,h3,h4,h5,h6,h7⟩=>⟨_,h3,tup2 (pc_rep h5 (by rw[sec_length];exact max64 (by decide)) (fresh hO h4)) (pc_rep h6 (by rw[salt_length];exact max64 (by decide)) (fresh hO h4)),h7⟩⟩
set_option maxRecDepth 100000 in
theorem c_scalar{l:List Nat}(hl:∀x∈l,x < 256)(hn:l.length≤1048576)(w:World):FnAt Tryz.prog [] w 80 [byt true l] (byt true (scb l)):=by
 refine FnAt.of Tryz.f80 _ _ Tryz.func80 Tryz.ntmps80 rfl (by kernel_rfl) (fun _ _=>by kernel_rfl) fun O=>?_
 show PW _ _ _ ⟨[(0,.c (.dv _))],[]⟩
 refine(PW.seq ?_:PW _ _ _ _)
 refine(PW.region ?_:PW _ _ _ _)
 refine PL.mu rfl rfl rfl rfl rfl ?_
 refine PL.nil ?_
 refine(PW.seq ?_:PW _ _ _ _)
 refine(PW.region ?_:PW _ _ _ _)
 refine PL.mv rfl rfl rfl rfl rfl ?_
 refine PL.call (xs:=[_,_]) rfl rfl rfl rfl rfl rfl rfl (fun w hw=>c_dsum hl hn w) ?_
 refine PL.mv rfl rfl rfl rfl rfl ?_
 refine PL.step rfl rfl rfl (PS.ext rfl rfl rfl) ?_
 refine PL.step rfl rfl rfl (PS.ext rfl rfl rfl) ?_
 refine PL.mu rfl rfl rfl rfl rfl ?_
 refine PL.mu rfl rfl rfl rfl rfl ?_
 refine PL.nil ?_
 refine(PW.seq ?_:PW _ _ _ _)
 refine(PW.region ?_:PW _ _ _ _)
 refine PL.mv rfl rfl rfl rfl rfl ?_
 refine PL.call (xs:=[_]) rfl rfl rfl rfl rfl rfl rfl (fun w hw=>c_fold (dg_lt l) (by rw[Ed.dg_len];exact Nat.le_refl _) w) ?_
 refine PL.mv rfl rfl rfl rfl rfl ?_
 refine PL.step rfl rfl rfl (PS.ext rfl rfl rfl) ?_
 refine PL.step rfl rfl rfl (PS.ext rfl rfl rfl) ?_
 refine PL.mu rfl rfl rfl rfl rfl ?_
 refine PL.mu rfl rfl rfl rfl rfl ?_
 refine PL.nil ?_
 refine(PW.seq ?_:PW _ _ _ _)
 refine(PW.region ?_:PW _ _ _ _)
 refine PL.mv rfl rfl rfl rfl rfl ?_
 refine PL.mu rfl rfl rfl rfl rfl ?_
 refine PL.nil ?_
 refine(PW.ret ?_:PW _ _ _ _)
 exact Rt.as (Rt.one Tryz.results80 rfl) (le_refl _)
set_option maxRecDepth 100000 in
theorem c_join{a b c:List Nat}(ha:a.length≤1048576)(hb:b.length≤1048576)(hc:c.length≤1048576)(w:World):FnAt Tryz.prog [] w 81 [byt true a,byt true b,byt true c] (byt true (a ++ b ++ c)):=by
 refine FnAt.of Tryz.f81 _ _ Tryz.func81 Tryz.ntmps81 rfl (by kernel_rfl) (fun _ _=>by kernel_rfl) fun O=>?_
 show PW _ _ _ ⟨[(0,.c (.dv _)),(1,.c (.dv _)),(2,.c (.dv _))],[]⟩
 refine(PW.seq ?_:PW _ _ _ _)
 refine(PW.region ?_:PW _ _ _ _)
 refine PL.mu rfl rfl rfl rfl rfl ?_
 refine PL.nil ?_
 refine(PW.seq ?_:PW _ _ _ _)
 refine(PW.region ?_:PW _ _ _ _)
 refine PL.mu rfl rfl rfl rfl rfl ?_
 refine PL.nil ?_
 refine(PW.seq ?_:PW _ _ _ _)
 refine(PW.region ?_:PW _ _ _ _)
 refine PL.mv rfl rfl rfl rfl rfl ?_
 refine PL.mv rfl rfl rfl rfl rfl ?_
 refine PL.full rfl (Fa.app0 12 false (z:=.int .u8 0) (e:=5) (bytes:=1) (k:=1) rfl rfl rfl Tryz.underlying22 (by kernel_rfl) rfl (by decide) (fun h=>by cases h) (byt_one a) (fun h=>by cases h) (by decide) (by simp[bl];omega) (by kernel_rfl) rfl rfl ?_)
 refine PL.mv rfl rfl rfl rfl rfl ?_
 refine PL.full rfl (Fa.app 13 (z:=.int .u8 0) (e:=5) (bytes:=1) (k:=1) rfl rfl rfl rfl Tryz.underlying22 (by kernel_rfl) rfl (by decide) (fun h=>by cases h) (byt_one b) (fun h=>by cases h) (by decide) (by simp[bl];omega) (by kernel_rfl) rfl rfl ?_)
 refine PL.mv rfl rfl rfl rfl rfl ?_
 refine PL.full rfl (Fa.app 14 (z:=.int .u8 0) (e:=5) (bytes:=1) (k:=1) rfl rfl rfl rfl Tryz.underlying22 (by kernel_rfl) rfl (by decide) (fun h=>by cases h) (byt_one c) (fun h=>by cases h) (by decide) (by simp[bl];omega) (by kernel_rfl) rfl rfl ?_)
 refine PL.mu rfl rfl rfl rfl rfl ?_
 refine PL.nil ?_
 refine PW.give 14 rfl ?_
 refine(PW.ret ?_:PW _ _ _ _)
 exact Rt.as (Rt.one Tryz.results81 rfl) (le_eq (by unfold byt;simp[bl]))
end Go.Proofs.YtjimhjfjfpeojaaGreatDoor.Av
