/- Joined texts. -/
import Derived.Deep.LoopGhost
import Derived.Test.YtkahelhoaihajaaQfWrDqa
import Derived.Test.YtkahelhoaihajaaQfWrKnown
import Derived.Test.YtkahelhoaihajaaQfWrPu
import Derived.Test.YtkahelhoaihajaaQfWrTread
import Derived.Test.YtkahelhoaihajaaQfWrNd
import Derived.Test.YtkahelhoaihajaaQfWrSize
import Derived.Deep.RegionWith
import Derived.Deep.Draws
import Derived.Laws.AppendOwnNone
import Derived.Laws.BytesArg
import Derived.Test.YtkahelhoaihajaaQfScBytes
import Derived.Test.YtkahelhoaihajaaQfScPlain
import Derived.Lib.ConvBytes
import Derived.Lib.SmallJoins
import Derived.Test.YtkahelhoaihajaaQfWrBytes
import Derived.Test.YtkahelhoaihajaaQfGnA
set_option linter.unusedVariables false
namespace Go.Proofs.Ytkahelhoaihajaa.Wr
open Go.RowKit Go.Proofs.Ytkahelhoaihajaa.Gn Go.Proofs.Ytkahelhoaihajaa.Fd Go.Deep
set_option maxRecDepth 100000
abbrev dfr(A:Option Addr)(m c:Nat)(br:Bool):Array Value:=#[.slice A m c,.bool br]
structure Iv (w wr:World) (g qd:Nat) (wh br:Bool) (kp kq:List Tv) (A:Option Addr) (c:Nat):Prop where
 fl:Fl wr g wh kp
 bx:Bl wr qd 54 (dfr A kq.length c br)
 dl:Dl w A c kq
 bw:Below w.heap.size w wr
 lo:w.heap.size≤g
 gq:g < qd
 zp:∀t∈kp,sz t≤1000000
 zq:∀t∈kq,sz t≤1000000
theorem Iv.below{w wr u:World}{g qd:Nat}{wh br:Bool}{kp kq:List Tv}{A:Option Addr}{c:Nat}(h:Iv w wr g qd wh br kp kq A c)(hb:Below wr.heap.size wr u):Iv w u g qd wh br kp kq A c :=
 ⟨h.fl.below hb,h.bx.below' hb,h.dl,h.bw.trans (hb.mono h.bw.size),h.lo,h.gq,h.zp,h.zq⟩
theorem Iv.doc{w wr:World}{g qd:Nat}{wh br br':Bool}{kp kq kq':List Tv}{A A':Option Addr}{c c':Nat}(h:Iv w wr g qd wh br kp kq A c)(hd:Dl w A' c' kq')(hz:∀t∈kq',sz t≤1000000):Iv w (st2 wr qd (.slice A' kq'.length c') (.bool br')) g qd wh br' kp kq' A' c':=by
 have hq:=h.gq
 refine⟨?_,st2_bl h.bx _ _,hd,below_st2 h.bw (Nat.le_trans h.lo (Nat.le_of_lt h.gq)) _ _,h.lo,h.gq,h.zp,hz⟩
 obtain⟨P,cp,h1,h2,h3,h4,h5⟩:=h.fl.row
 exact h.fl.kept (fun t ht=>ht) (below_st2 (Below.refl g wr) (Nat.le_of_lt h.gq) _ _) (st2_other h1 (by omega) _ _) h2 h3 h4 h5
theorem Iv.prog{w wr u:World}{g qd:Nat}{wh wh' br:Bool}{kp kp' kq:List Tv}{A:Option Addr}{c:Nat}(h:Iv w wr g qd wh br kp kq A c)(hl:Lf u g wh' kp' wr)(hz:∀t∈kp',sz t≤1000000):Iv w u g qd wh' br kp' kq A c :=
 ⟨hl.fl,h.bx.grown hl.grown (by have:=h.gq;intro e;injection e with e;omega),h.dl,h.bw.trans ((grown_below hl.grown h.fl.lt).mono h.lo),h.lo,h.gq,hz,h.zq⟩
theorem dq_sz{F:Tv→Bool}{k:Int}{br:Bool}{ks:List Tv}(hz:∀t∈ks,sz t≤1000000):∀t∈(dq F k br ks).2.2,sz t≤1000000:=by
 obtain⟨t,ls,ok,e1,e2,e3,e4,e5,e6⟩:=dq_cases F k br ks
 have hl:∀x∈ls,sz x≤1000000:=by
  rw[←e2]
  unfold tk
  split
  ·exact hz
  ·split
   ·exact fun x hx=>(List.not_mem_nil hx).elim
   ·split
    ·exact fun x hx=>hz x (List.mem_cons_of_mem _ hx)
    ·exact hz
 rw[e6]
 cases ok with
 |true=>rw[if_pos rfl];split <;> exact hl
 |false=>exact hl
theorem nm_nd{s t:Tv}(h:nd s=nd t):nm s=nm t:=by cases s;cases t;rw[nd,nd] at h;injection h
theorem rb_nd{s t:Tv}(h:nd s=nd t):(rw_ s).2.2.2=(rw_ t).2.2.2:=by cases s;cases t;rw[nd,nd] at h;injection h
theorem kids_nd{s t:Tv}(h:nd s=nd t):nds (kids s)=nds (kids t):=by cases s;cases t;rw[nd,nd] at h;injection h
theorem alike_done{wh br:Bool}{kp kq:List Tv}(h:Alike wh kp br kq):(wh && decide (kp.length=0))=(!br && decide (kq.length=0)):=by
 obtain⟨h1,h2,h3⟩:=h
 subst h1
 cases br with
 |true=>rfl
 |false =>
  have h4:=congrArg List.length (h2 rfl)
  rw[nds_len,nds_len] at h4
  rw[h4]
def asks(l:List (Int × Int × Int)):List Value:=l.flatMap fun x=>[.int .i64 x.1,.int .i64 x.2.1,.int .i64 x.2.2]
theorem asks_len(l:List (Int × Int × Int)):(asks l).length=3*l.length:=by
 induction l with
 |nil=>rfl
 |cons x l ih=>rw[show asks (x :: l)=.int .i64 x.1 :: .int .i64 x.2.1 :: .int .i64 x.2.2 :: asks l from rfl,List.length_cons,List.length_cons,List.length_cons,ih,List.length_cons];omega
theorem asks_get{l:List (Int × Int × Int)}{i:Nat}{x:Int × Int × Int}(h:l[i]?=some x):(asks l)[3*i]?=some (.int .i64 x.1)∧(asks l)[3*i+1]?=some (.int .i64 x.2.1)∧(asks l)[3*i+2]?=some (.int .i64 x.2.2):=by
 induction l generalizing i with
 |nil=>cases h
 |cons y l ih =>
  cases i with
  |zero=>cases h;exact⟨rfl,rfl,rfl⟩
  |succ i =>
   obtain⟨h1,h2,h3⟩:=ih (i:=i) h
   have e:asks (y :: l)=.int .i64 y.1 :: .int .i64 y.2.1 :: .int .i64 y.2.2 :: asks l:=rfl
   rw[e,show 3*(i+1)=3*i+1+1+1 by omega,show 3*i+1+1+1+1=(3*i+1)+1+1+1 by omega,show 3*i+1+1+1+2=(3*i+2)+1+1+1 by omega]
   exact⟨h1,h2,h3⟩
theorem ask_cells{l:List (Int × Int × Int)}{L:Option Addr}{w wr:World}{i:Nat}{x:Int × Int × Int}(hs:Sl w L (3*l.length) (asks l))(hx:l[i]?=some x)(hb:Below w.heap.size w wr):∃ad,L=some ad∧∃ae,ad.add (i*3)=ae∧wr.cell? ae=some (.int .i64 x.1)∧wr.cell? ⟨ae.block,ae.off+1,none⟩=some (.int .i64 x.2.1)∧wr.cell? ⟨ae.block,ae.off+2,none⟩=some (.int .i64 x.2.2):=by
 obtain⟨h0,h1,h2⟩:=asks_get hx
 obtain⟨ad,rfl,c0⟩:=hs.2 _ _ h0
 obtain⟨ad1,e1,c1⟩:=hs.2 _ _ h1
 cases e1
 obtain⟨ad2,e2,c2⟩:=hs.2 _ _ h2
 cases e2
 refine⟨ad,rfl,_,rfl,?_,?_,?_⟩
 ·rw[Nat.mul_comm i 3];exact(hb.cell (cell_lt c0)).trans c0
 ·rw[Nat.mul_comm i 3]
  rw[←ad_pos (ad.add (3*i)) (show 1≠0 by decide),ad_add]
  exact(hb.cell (cell_lt c1)).trans c1
 ·rw[Nat.mul_comm i 3]
  rw[←ad_pos (ad.add (3*i)) (show 2≠0 by decide),ad_add]
  exact(hb.cell (cell_lt c2)).trans c2
end Go.Proofs.Ytkahelhoaihajaa.Wr
namespace Go.Proofs.Ytkahelhoaihajaa.Sc
open Go.RowKit
set_option maxRecDepth 100000
def txt(l:List Nat):ByteArray:=⟨(l.map fun x=>UInt8.ofNat x).toArray⟩
end Go.Proofs.Ytkahelhoaihajaa.Sc
namespace Go.Proofs.Ytkahelhoaihajaa.Wr
open Go.RowKit Go.Proofs.Ytkahelhoaihajaa.Gn Go.Proofs.Ytkahelhoaihajaa.Fd Go.Deep
set_option maxRecDepth 100000
set_option maxHeartbeats 4000000 in
theorem RList_any{A:Option Addr}{c:Nat}{ks:List Tv}(w:World)(hs:Sl w A (4*ks.length) (flat ks))(hc:ks.length≤c)(h0:A=none→c=0)(hk:∀t∈ks,Ok w t)(hm:ks.length≤1000000):Calls Try.prog 28 #[.slice A ks.length c] w (MkQ (.mk 3 0 (none,0,0,[]) A c ks) w):=by
 obtain⟨m,hm'⟩:∃m,ks.length=m:=⟨_,rfl⟩
 have HM:=Lib.hid hm'
 have HS:=Lib.hid hs
 have HC:=Lib.hid hc
 have H0:=Lib.hid h0
 have HK:=Lib.hid hk
 have HM9:=Lib.hid hm
 rw[hm']
 clear hs hc h0 hk hm hm'
 have B0:=Lib.hid (below_one w (.cells #[.int .i64 3,.int .u64 0,.slice none 0 0,.slice A m c] 26))
 have NW:=Lib.hid (Bl.new_ w 26 #[.int .i64 3,.int .u64 0,.slice none 0 0,.slice A m c])
 go_enter Try.func28,Try.ntmps28
 go_wp2_with fail
 exact⟨rfl,_,results_c rfl _ _ _ ⟨w.heap.size,0,none⟩ _ (by kernel_rfl) (run_loadVar_row _ w.heap.size 26 26 #[.int .i64 3,.int .u64 0,.slice none 0 0,.slice A m c] (0,0) _ (NW.out) Try.underlying26 rfl size34),by rw[Tv.val,Tv.row,HM.out];rfl,.mk (by decide) (nil_pc _) (HS.out.below B0.out) HM9.out HC.out H0.out (fun t ht=>(HK.out t ht).keep B0.out),B0.out⟩
end Go.Proofs.Ytkahelhoaihajaa.Wr
namespace Go.Proofs.Ytkahelhoaihajaa.Wr
open Go.RowKit Go.Proofs.Ytkahelhoaihajaa.Gn Go.Proofs.Ytkahelhoaihajaa.Fd Go.Deep
theorem szs_mem{ks:List Tv}{k:Nat}{t:Tv}(h:ks[k]?=some t):sz t+szs (ks.take k)≤szs ks:=by
 have h1:=szs_snoc h
 have h2:=szs_take ks (k+1)
 omega
end Go.Proofs.Ytkahelhoaihajaa.Wr
