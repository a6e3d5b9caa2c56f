/- Joined texts. -/
import Derived.Test.YtbgkdbjineennaaQcDkSl
set_option linter.unusedVariables false
namespace Go.Proofs.Ytbgkdbjineennaa.Dk
open Go.IntWalk Go.RowKit Go.Proofs.Ytbgkdbjineennaa.Gn Go.Proofs.Ytbgkdbjineennaa.Fd Go.Deep
theorem rows_snoc(m:M)(k:Nat):∀p,m.rows p (k+1)=m.rows p k ++ m.at_ (p+k):=by
 induction k with
 |zero=>intro p;simp[M.rows]
 |succ k ih=>intro p;rw[M.rows,ih (p+1),M.rows,List.append_assoc,show p+1+k=p+(k+1) by omega]
theorem at_len{m:M}(h:m.Ok){p:Nat}(hp:p < m.ss.length):(m.at_ p).length=64:=by
 unfold M.at_
 cases e:m.hd.reverse.find? fun h=>h.1 == p with
 |none =>
  show(m.ss.getD p []).length=64
  rw[List.getD,List.getElem?_eq_getElem hp]
  exact h.row _ (List.getElem_mem hp)
 |some x=>exact h.long x (List.mem_reverse.1 (List.mem_of_find?_eq_some e))
theorem rows_len{m:M}(h:m.Ok)(k:Nat):∀p,p+k≤m.ss.length→(m.rows p k).length=64*k:=by
 induction k with
 |zero=>intro p hp;rfl
 |succ k ih=>intro p hp;rw[M.rows,List.length_append,ih (p+1) (by omega),at_len h (by omega)];omega
theorem sl_take{w:World}{A:Option Addr}{n k:Nat}{xs:List Value}(h:Sl w A n xs)(hk:k≤n):Sl w A k (xs.take k):=by
 refine⟨by rw[List.length_take,h.1];omega,fun j v hj=>h.2 j v ?_⟩
 rw[List.getElem?_take] at hj
 split at hj
 ·exact hj
 ·cases hj
theorem own_len{w:World}{base size n:Nat}{e:TypeId}{v:Value}{xs:List Value}(ho:w.ownsRow base e size v n xs):∃A c,v=.slice A n c:=by
 obtain⟨-, ⟨rfl,rfl⟩|⟨g,cap,cur,rfl,-⟩⟩:=ho
 ·exact⟨_,_,rfl⟩
 ·exact⟨_,_,rfl⟩
section
variable {w:World} {base g gb:Nat} {H:Value} {cs:Bool} {cw:Int} {ch:Value} {m:M}
set_option maxRecDepth 100000 in
set_option maxHeartbeats 4000000 in
theorem Load_ok(D:Dd w base g gb H cs cw ch m)(hk:m.hd.length < 1000000)(hu:m.up=true)(p n:Nat)(hs:64*p+n≤64*m.ss.length):Calls Try.prog 22 #[.pointer (some ⟨g,0,none⟩),.int .i64 (p:Int),.int .i64 (n:Int)] w fun e w'=>∃v,e=.returned (.tuple #[v,.int .i64 0])∧w'.ownsRow w.heap.size 5 1 v n (bl ((m.rows p ((n+63) / 64)).take n))∧Below w.heap.size w w':=by
 have C:=ready_dd D
 unfold M.ready at C
 rw[if_pos hu] at C
 have C:=Lib.hid C
 have h9:=D.n9
 have C2:=span_dd D p n (by omega)
 rw[span_in (by omega) (by omega) (by omega)] at C2
 have C2:=Lib.hid C2
 have RC:=Lib.hid (fun(W:World) (hW:Below w.heap.size w W) (q:Nat) (hq:q < m.ss.length)=>Read_held (D.below hW) hk q (reach_in hu hq))
 have HOK:=Lib.hid D.ok
 have HS:=Lib.hid hs
 have hn9:n≤6400000:=by omega
 have hp9:p≤100000:=by omega
 obtain⟨i0,hi,hz0,hz1,hz2⟩:=info_parts infob
 obtain⟨w1,hmk,hown,hgr⟩:=run_make_own (P:=Try.prog) w w.heap.size 22 5 i0 _ 1 Try.underlying22 hi hz0 hz1 .i64 .i64 n (by rw[hz2];omega) (by unfold maxLen;omega) (Nat.le_refl _)
 have B1:Below w.heap.size w w1:=(Below.refl _ _).grown hgr (Nat.le_refl _) (by intro k e;cases e)
 have HB1:=Lib.hid B1
 have HO1:=Lib.hid hown
 clear D hs hu hown hgr B1
 go_enter Try.func22,Try.ntmps22
 go_wp2_with (first|(go_at_call 31;(with_reducible refine C.out.mono ?_);rintro e w9 ⟨rfl,rfl⟩)|(go_at_call 38;(with_reducible refine C2.out.mono ?_);rintro e w9 ⟨rfl,rfl⟩))
 go_loopw [1,10] (fun a v wr=>∃i j P:Nat,a=.int .i64 (P:Int)∧P=p+i∧j≤n∧j=min (64*i) n∧64*i < n+64∧wr.ownsRow w.heap.size 5 1 v j (bl ((m.rows p i).take n))∧Below w.heap.size w wr) (fun a _ _=>n+p+1 - (intOf a).toNat)
 case atStart=>exact⟨0,0,p,rfl,rfl,Nat.zero_le _,by simp,by omega,by rw[show(m.rows p 0).take n=[] from by simp[M.rows]];exact HO1.out,HB1.out⟩
 case round =>
  obtain⟨i,j,P,rfl,hP,hjn,hj,hi2,ho,hb⟩:=hrel
  obtain⟨vA,vc,rfl⟩:=own_len ho
  have HO:=Lib.hid ho
  have HB:=Lib.hid hb
  clear ho hb
  by_cases hlt:j < n
  ·have q1:(j:Int) < (n:Int):=by omega
   have hji:j=64*i:=by omega
   have HSS:=HS.out
   have hpi:p+i < m.ss.length:=by omega
   obtain⟨d,hd⟩:∃d,n=j+d:=⟨n - j,by omega⟩
   obtain⟨k,hk2⟩:∃k,k=min 64 d:=⟨_,rfl⟩
   have hk3:((d:Int) < 64∧k=d)∨(¬(d:Int) < 64∧k=64):=by omega
   have e1:(n:Int) - (j:Int)=(d:Int):=by omega
   have hx:=at_len HOK.out hpi
   have NX:=Lib.hid (show(m.rows p (i+1)).take n=(m.rows p i).take n ++ (m.at_ (p+i)).take k from by
    have hr:=rows_len HOK.out i p (by omega)
    rw[rows_snoc,List.take_append,hr,List.append_cancel_left_eq,show n - 64*i=d by omega]
    by_cases h:d≤64
    ·rw[show k=d by omega]
    ·rw[show k=64 by omega,List.take_of_length_le (by omega),List.take_of_length_le (by omega)])
   have RCi:=RC.out wr HB.out (p+i) hpi
   rw[←hP] at RCi NX hpi hx
   have HPP:=Lib.hid hP
   obtain⟨x,hxx⟩:∃x,m.at_ P=x:=⟨_,rfl⟩
   rw[hxx] at NX RCi hx
   have RCi:=Lib.hid RCi
   have HX:=Lib.hid hx
   have k64:k≤64:=by omega
   have hjk:j+k≤n:=by omega
   have HJ:=Lib.hid (show j+k=min (64*(i+1)) n∧64*(i+1) < n+64 by omega)
   have p0:(0:Int)≤(k:Int):=by omega
   have hPn:P < n+p+1:=by omega
   have hP9:P≤100000:=by omega
   clear hk2 hd hj hji HSS hx hxx hi2 hP hpi
   have BW:∀W,Below wr.heap.size wr W→Below w.heap.size w W:=fun W h=>⟨h.os.trans HB.out.os,h.tape.trans HB.out.tape,h.output.trans HB.out.output,Nat.le_trans HB.out.size h.size,fun k hk=>(h.block k (Nat.lt_of_lt_of_le hk HB.out.size)).trans (HB.out.block k hk)⟩
   have BW:=Lib.hid BW
   have VB:=Lib.hid (fun b (e:(Value.slice vA j vc).ownBlock=some b)=>own_ge HO.out e)
   have LEN:=Lib.hid (fun(W:World) (l:List Nat) (h:W.ownsRow w.heap.size 5 1 (.slice vA j vc) j (bl l))=>h.1)
   rcases hk3 with⟨h64,rfl⟩|⟨h64,rfl⟩
   ·go_wp2_with (first|(go_at_call 24;(with_reducible refine RCi.out.mono ?_);rintro e w2 ⟨q,qc,rfl,k1,k2,k3,k4⟩;have K1:=Lib.hid k1;have K3:=Lib.hid k3;have p1:(k:Int)≤(qc:Int):=(by omega);clear k1 k2 k3)|(at_builtin;refine wpList_append_sl rfl (.tmp 41) (.tmp 50) 22 rfl w.heap.size 5 i0 _ (8 / 8) Try.underlying22 hi hz0 hz1 hz2 rfl (.slice vA j vc) j _ rfl (own_gx (Gx.of_below (S:=[]) K3.out) (fun b hb e=>by cases e) HO.out) (some ⟨q,0,none⟩) k qc ((bl x).take k) rfl (by simp) (sl_take K1.out k64) (fun v hv=>bl_one _ v (List.mem_of_mem_take hv)) (by unfold maxLen;omega) (by omega) (Nat.le_trans HB.out.size K3.out.size) ?_;intro v' w3 hown hgrow;have HO3:=Lib.hid hown;have HG3:=Lib.hid hgrow;clear hown hgrow))
    refine⟨⟨i+1,_,P+1,by go_num,by have:=HPP.out;omega,hjk,HJ.out.1,HJ.out.2,?_,?_⟩,by simp[intOf];omega⟩
    ·rw[NX.out]
     have h:=HO3.out
     unfold bl at h ⊢
     rw[List.map_append,List.map_take (l:=x)]
     exact h
    ·exact(BW.out _ K3.out).grown HG3.out (BW.out _ K3.out).size (fun k e=>VB.out k e)
   ·go_wp2_with (first|(go_at_call 24;(with_reducible refine RCi.out.mono ?_);rintro e w2 ⟨q,qc,rfl,k1,k2,k3,k4⟩;have K1:=Lib.hid k1;have K3:=Lib.hid k3;have p1:(64:Int)≤(qc:Int):=(by omega);clear k1 k2 k3)|(at_builtin;refine wpList_append_sl rfl (.tmp 41) (.tmp 50) 22 rfl w.heap.size 5 i0 _ (8 / 8) Try.underlying22 hi hz0 hz1 hz2 rfl (.slice vA j vc) j _ rfl (own_gx (Gx.of_below (S:=[]) K3.out) (fun b hb e=>by cases e) HO.out) (some ⟨q,0,none⟩) 64 qc ((bl x).take 64) rfl (by simp) (sl_take K1.out k64) (fun v hv=>bl_one _ v (List.mem_of_mem_take hv)) (by unfold maxLen;omega) (by omega) (Nat.le_trans HB.out.size K3.out.size) ?_;intro v' w3 hown hgrow;have HO3:=Lib.hid hown;have HG3:=Lib.hid hgrow;clear hown hgrow))
    refine⟨⟨i+1,_,P+1,by go_num,by have:=HPP.out;omega,hjk,HJ.out.1,HJ.out.2,?_,?_⟩,by simp[intOf];omega⟩
    ·rw[NX.out]
     have h:=HO3.out
     unfold bl at h ⊢
     rw[List.map_append,List.map_take (l:=x)]
     exact h
    ·exact(BW.out _ K3.out).grown HG3.out (BW.out _ K3.out).size (fun k e=>VB.out k e)
  ·obtain rfl:j=n:=by omega
   have q1:¬(j:Int) < (j:Int):=by omega
   have HJ:=Lib.hid hj
   have HI:=Lib.hid hi2
   clear hj hi2 hP
   go_wp2_with fail
   go_ret2
   have hj:=HJ.out
   have hi2:=HI.out
   refine⟨_,rfl,?_,HB.out⟩
   by_cases hn0:j=0
   ·have h1:(m.rows p ((j+63) / 64)).take j=(m.rows p i).take j:=by rw[hn0];rfl
    rw[h1];exact HO.out
   ·have h1:(j+63) / 64=i:=by omega
    rw[h1];exact HO.out
end
end Go.Proofs.Ytbgkdbjineennaa.Dk
