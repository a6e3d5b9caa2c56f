/- Joined texts. -/
import Derived.Maps.AppendAt
import Derived.Laws.OwnMore
import Derived.Test.YteblmphohhbgcaaGreatQmWrWcount
import Derived.Test.YteblmphohhbgcaaGreatQmWrBytes
import Derived.Deep.LoopGhost
import Derived.Test.YteblmphohhbgcaaGreatQmWrTvalC
set_option linter.unusedVariables false
namespace Go.Proofs.YteblmphohhbgcaaGreat.Wr
open Go.RowKit Go.Proofs.YteblmphohhbgcaaGreat.Gn Go.Proofs.YteblmphohhbgcaaGreat.Fd Go.Deep
mutual
def wgo(b c d:Int):Tv→Int→Int→Int × Int
 |.mk K n r _ _ ks,deep,k =>
  if b < deep then(23,k) else if k=c then(24,k) else
  if K=2 then(if d < (r.2.1:Int) then(2,k+1) else(0,k+1)) else
  if K=3 then wgos b c d ks (deep+1) (k+1) else(0,k+1)
def wgos(b c d:Int):List Tv→Int→Int→Int × Int
 | [],_,k=>(0,k)
 |t :: ts,deep,k=>if(wgo b c d t deep k).1=0 then wgos b c d ts deep (wgo b c d t deep k).2 else wgo b c d t deep k
end
mutual
def sz:Tv→Nat
 |.mk _ _ r _ _ ks=>1+r.2.1+szs ks
def szs:List Tv→Nat
 | []=>0
 |t :: ts=>sz t+szs ts
end
theorem szs_append(a b:List Tv):szs (a ++ b)=szs a+szs b:=by
 induction a with
 |nil=>simp[szs]
 |cons t a ih=>rw[List.cons_append,szs,szs,ih];omega
theorem szs_snoc{ks:List Tv}{k:Nat}{t:Tv}(h:ks[k]?=some t):szs (ks.take (k+1))=szs (ks.take k)+sz t:=by
 rw[List.take_add_one,h,szs_append];simp[szs]
theorem szs_take(ks:List Tv)(k:Nat):szs (ks.take k)+szs (ks.drop k)=szs ks:=by
 have h:=szs_append (ks.take k) (ks.drop k)
 rw[List.take_append_drop] at h;exact h.symm
theorem sz_pos(t:Tv):1≤sz t:=by cases t;rw[sz];omega
theorem szs_len:∀(ks:List Tv),ks.length≤szs ks
 | []=>Nat.le_refl _
 |t :: ts=>by have:=szs_len ts;have:=sz_pos t;rw[szs,List.length_cons];omega
mutual
theorem wb_sz{w:World}:∀ {v:Tv},Ok w v→sz v≤1000000→(wb v).length≤10*sz v
 |.mk k n r A c ks,.mk hn hr hs hm hc h0 hk,hz=>by
  have h1:=cb_len (n:=n) hn
  rw[sz] at hz
  have h2:=cb_len (n:=r.2.1) (by omega)
  have h3:=cb_len (n:=ks.length) (by omega)
  have h4:=wbs_sz (ks:=ks) hk (by omega)
  have h5:=szs_len ks
  have hl:r.2.1=r.2.2.2.length:=hr.len
  rw[wb,sz]
  split
  ·rw[List.length_cons];omega
  ·split <;> simp only[List.length_cons,List.length_append] <;> omega
theorem wbs_sz{w:World}:∀ {ks:List Tv},(∀t∈ks,Ok w t)→szs ks≤1000000→(wbs ks).length≤10*szs ks
 | [],_,_=>by simp[wbs]
 |t :: ts,h,hz=>by
  rw[szs] at hz
  have h1:=wb_sz (v:=t) (h t List.mem_cons_self) (by omega)
  have h2:=wbs_sz (ks:=ts) (fun x hx=>h x (List.mem_cons_of_mem _ hx)) (by omega)
  rw[wbs,szs,List.length_append];omega
end
theorem Fr.refl(w:World)(Q:Nat)(T:Value):Fr w w Q T T:=⟨Nat.le_refl _,fun _ _ _ _=>rfl,fun _ h=>.inl h⟩
theorem Fr.trans{w a b:World}{Q:Nat}{T U V:Value}(h:Fr w a Q T U)(k:Fr a b Q U V):Fr w b Q T V :=
 ⟨Nat.le_trans h.size k.size,fun j hj hq hT=>(k.keep j (Nat.lt_of_lt_of_le hj h.size) hq (fun e=>by
  rcases h.own j e with e1|e1
  ·exact hT e1
  ·omega)).trans (h.keep j hj hq hT),fun j hj=>by
  rcases k.own j hj with e1|e1
  ·exact h.own j e1
  ·have:=h.size;exact .inr (by omega)⟩
theorem Fr.below{w a:World}{Q:Nat}{T U:Value}{b:World}(h:Fr w a Q T U)(k:Below w.heap.size a b)(hs:a.heap.size≤b.heap.size):Fr w b Q T U :=
 ⟨Nat.le_trans h.size hs,fun j hj hq hT=>(k.block j hj).trans (h.keep j hj hq hT),h.own⟩
theorem Fr.of{w a:World}(Q:Nat)(T:Value)(k:Below w.heap.size w a):Fr w a Q T T:=⟨k.size,fun j hj _ _=>k.block j hj,fun _ h=>.inl h⟩
theorem Fr.bl{w a:World}{Q:Nat}{T U:Value}(h:Fr w a Q T U){q:Nat}{t:TypeId}{cs:Array Value}(hb:Bl w q t cs)(hq:q≠Q)(hT:T.ownBlock≠some q):Bl a q t cs:=(h.keep q hb.lt hq hT).trans hb
theorem Wt.below{w a:World}{g:Nat}{x b c d k:Int}{l:List Nat}{T:Value}(h:Wt w g x b c d k l T)(hb:Below w.heap.size w a):Wt a g x b c d k l T :=
 ⟨h.row.below' hb,own_below h.own hb⟩
theorem own_lt{w:World}{base:Nat}{e:TypeId}{v:Value}{n:Nat}{xs:List Value}(h:w.ownsRow base e 1 v n xs){q:Nat}(hq:w.heap.size≤q):v.ownBlock≠some q:=by
 obtain⟨A,cap,rfl,-, -, -, -, ha⟩:=Sl.own h
 intro e
 cases A with
 |none=>cases e
 |some a=>have h1:=(ha a rfl).2;simp[Value.ownBlock] at e;omega
section
variable {P:Program} {Q:Exit→Act→World→Prop} {a:Act} {w:World}
theorem region_cut{c:Code}{α β:Type}(A:α→β→Act)(I:α→β→World→Prop)(h:c.wp P (Exit.then (fun a w=>∃m n,a=A m n∧I m n w) (fun _ _ _=>False)) a w)(k:∀m n w,I m n w→Q .normal (A m n) w):c.wp P Q a w :=
 Go.wp_mono h fun e a w q=>by
  cases e with
  |normal=>obtain⟨m,n,rfl,hi⟩:=q;exact k m n w hi
  |_=>exact q.elim
theorem wp_append_at(w:World){o:Oper}{a:Act}{K:Act→World→Prop}{Q:Exit→Act→World→Prop}(s x:Operand)(t:TypeId)
  (ho:o.op=.call { callee:=.builtin .append,args:=#[s,x],argTypes:=#[t,t] })
  (base:Nat) (e:TypeId) (i:TypeInfo) (z:Value) (size bytes:Nat) (ht:P.underlying t=some (.slice e)) (hi:P.info? e=some i) (hz:i.zero=some z)
  (hsize:i.size=size) (hby:i.bytes=bytes) (hzs:z.cells.size=size) (hsz:0 < size)
  (v:Value) (n:Nat) (xs:List Value) (hs:a.eval s=v) (hown:w.ownsRow base e size v n xs)
  (A:Option Addr) (m c:Nat) (news:List Value) (hx:a.eval x=.slice A m c) (hnil:A=none→c=0) (hsl:Sl w A (m*size) news) (h1:∀u∈news,u.oneCell'=true)
  (h63:n+m≤maxLen) (hbytes:(n+m)*bytes≤140737488355328) (hbase:base≤w.heap.size)
  (h:∀v' w',w'.ownsRow base e size v' (n+m) (xs ++ news)→w.grownBy w' v.ownBlock→(∀k,v'.ownBlock=some k→v.ownBlock=some k∨w.heap.size≤k)→K (a.put o.dst v') w'):Oper.wp P o a w K Q:=by
 cases A with
 |none =>
  obtain rfl:=hnil rfl
  have hm:m*size=0:=by
   rcases Nat.eq_zero_or_pos (m*size) with h0|h0
   ·exact h0
   ·obtain⟨ad,he,_⟩:=hsl.at_ h0
    cases he
  have hn:news=[]:=List.length_eq_zero_iff.1 (by rw[hsl.1,hm])
  have hm0:m=0:=by
   rcases Nat.eq_zero_or_pos m with h0|h0
   ·exact h0
   ·have:=Nat.mul_pos h0 hsz;omega
  subst hm0
  subst hn
  have hrun:=run_append_owned_none (P:=P) (w:=w) base t o.type e i size ht hi v n xs hown
  unfold Oper.wp
  simp only[execOp,ho]
  simp[resolve,invoke,builtin,hs,hx,hrun,Result.andThen]
  exact h v w (by simpa using hown) (World.grownBy.refl w _) (fun k hk=>.inl hk)
 |some ad =>
  obtain⟨v',w',hr,h2,h3,-, h5⟩:=run_append_own_at (P:=P) w base t o.type e i z size bytes ht hi hz hsize hby hzs hsz v n xs hown ad m c news hsl.1 (fun j u hu=>by obtain⟨ad',he,hc⟩:=hsl.2 j u hu;cases he;exact hc) h1 h63 hbytes hbase
  unfold Oper.wp execOp
  simp only[ho,resolve,invoke,builtin,Sem.run_bind,Sem.run_pure,Result.andThen_ok,List.map_toArray,List.map_cons,List.map_nil,hs,hx,hr]
  refine h v' w' h2 h3 fun k hk=>?_
  rcases h5 with h5|h5
  ·exact .inl (by rw[←h5];exact hk)
  ·rw[h5] at hk;injection hk with hk;exact .inr (Nat.le_of_eq hk)
theorem step_append_at(w:World){ops:Array Oper}{o:Oper}{a:Act}{K:Act→World→Prop}{Q:Exit→Act→World→Prop}{E:Prop}(hgd:o.guard=none)(s x:Operand)(t:TypeId)
  (ho:o.op=.call { callee:=.builtin .append,args:=#[s,x],argTypes:=#[t,t] })
  (base:Nat) (e:TypeId) (i:TypeInfo) (z:Value) (size bytes:Nat) (ht:P.underlying t=some (.slice e)) (hi:P.info? e=some i) (hz:i.zero=some z)
  (hsize:i.size=size) (hby:i.bytes=bytes) (hzs:z.cells.size=size) (hsz:0 < size)
  (v:Value) (n:Nat) (xs:List Value) (hs:a.eval s=v) (hown:w.ownsRow base e size v n xs)
  (A:Option Addr) (m c:Nat) (news:List Value) (hx:a.eval x=.slice A m c) (hnil:A=none→c=0) (hsl:Sl w A (m*size) news) (h1:∀u∈news,u.oneCell'=true)
  (h63:n+m≤maxLen) (hbytes:(n+m)*bytes≤140737488355328) (hbase:base≤w.heap.size)
  (h:∀v' w',w'.ownsRow base e size v' (n+m) (xs ++ news)→w.grownBy w' v.ownBlock→(∀k,v'.ownBlock=some k→v.ownBlock=some k∨w.heap.size≤k)→K (a.put o.dst v') w') :
  if Region.wanted o (yielded ops a.tmps)=true then Oper.wp P o a w K Q else E:=by
 have hw:Region.wanted o (yielded ops a.tmps)=true:=by simp[Region.wanted,hgd]
 rw[if_pos hw]
 exact wp_append_at w s x t ho base e i z size bytes ht hi hz hsize hby hzs hsz v n xs hs hown A m c news hx hnil hsl h1 h63 hbytes hbase h
theorem wpList_append_at(w:World){ops:Array Oper}{rest:List Oper}{o:Oper}{a:Act}{Q:Exit→Act→World→Prop}(hgd:o.guard=none)(s x:Operand)(t:TypeId)
  (ho:o.op=.call { callee:=.builtin .append,args:=#[s,x],argTypes:=#[t,t] })
  (base:Nat) (e:TypeId) (i:TypeInfo) (z:Value) (size bytes:Nat) (ht:P.underlying t=some (.slice e)) (hi:P.info? e=some i) (hz:i.zero=some z)
  (hsize:i.size=size) (hby:i.bytes=bytes) (hzs:z.cells.size=size) (hsz:0 < size)
  (v:Value) (n:Nat) (xs:List Value) (hs:a.eval s=v) (hown:w.ownsRow base e size v n xs)
  (A:Option Addr) (m c:Nat) (news:List Value) (hx:a.eval x=.slice A m c) (hnil:A=none→c=0) (hsl:Sl w A (m*size) news) (h1:∀u∈news,u.oneCell'=true)
  (h63:n+m≤maxLen) (hbytes:(n+m)*bytes≤140737488355328) (hbase:base≤w.heap.size)
  (h:∀v' w',w'.ownsRow base e size v' (n+m) (xs ++ news)→w.grownBy w' v.ownBlock→(∀k,v'.ownBlock=some k→v.ownBlock=some k∨w.heap.size≤k)→wpList P ops Q rest (a.put o.dst v') w'):wpList P ops Q (o :: rest) a w :=
 wpList_plain hgd fun _ hK=>wp_append_at w s x t ho base e i z size bytes ht hi hz hsize hby hzs hsz v n xs hs hown A m c news hx hnil hsl h1 h63 hbytes hbase fun v' w' h2 h3 h4=>hK _ _ (h v' w' h2 h3 h4)
end
end Go.Proofs.YteblmphohhbgcaaGreat.Wr
namespace Go.Proofs.YteblmphohhbgcaaGreat.Wr
open Go.RowKit Go.Proofs.YteblmphohhbgcaaGreat.Gn Go.Proofs.YteblmphohhbgcaaGreat.Fd Go.Deep
theorem own_form{w:World}{base:Nat}{e:TypeId}{size:Nat}{v:Value}{n:Nat}{xs:List Value}(h:w.ownsRow base e size v n xs) :
  ∃A cap,v=.slice A n cap∧Sl w A (n*size) xs∧(A=none→cap=0)∧n≤cap∧(∀a,A=some a→base≤a.block∧a.block < w.heap.size):=by
 obtain⟨hl,h2⟩:=h
 rcases h2 with⟨rfl,rfl⟩|⟨g,cap,cur,rfl,hb,hh,hn,hm,hc,hx⟩
 ·have h0:xs=[]:=List.length_eq_zero_iff.1 (by simpa using hl)
  subst h0
  exact⟨none,0,rfl,by rw[Nat.zero_mul];exact Sl.nil_ _ _,fun _=>rfl,Nat.le_refl _,fun a h=>by cases h⟩
 ·refine⟨some ⟨g,0,none⟩,cap,rfl,⟨hl,fun k v hv=>⟨_,rfl,?_⟩⟩,fun h=>by simp at h,by omega,?_⟩
  ·rw[add_at,cell_of_row _ _ _ _ _ _ hh]
   subst hx
   have hk:k < n*size:=by have:=(List.getElem?_eq_some_iff.1 hv).1;omega
   rw[List.getElem?_take_of_lt hk] at hv
   rw[←hv];simp
  ·rintro a h
   injection h with h
   subst h
   exact⟨hb,Bl.lt (t:=e) (cs:=cur) hh⟩
theorem own_ltg{w:World}{base:Nat}{e:TypeId}{size:Nat}{v:Value}{n:Nat}{xs:List Value}(h:w.ownsRow base e size v n xs):∀k,v.ownBlock=some k→base≤k∧k < w.heap.size:=by
 obtain⟨A,cap,rfl,-, -, -, ha⟩:=own_form h
 intro k e
 cases A with
 |none=>cases e
 |some a=>have h1:=ha a rfl;simp[Value.ownBlock] at e;omega
theorem only_own{w a b:World}{g:Nat}{row:Option Nat}(h:w.grownBy a (some g))(k:a.grownBy b row)(hr:∀j,row=some j→w.heap.size≤j):w.grownBy b (some g) :=
 ⟨k.os.trans h.os,k.tape.trans h.tape,k.output.trans h.output,Nat.le_trans h.size k.size,fun i hi hn=>(k.block i (Nat.lt_of_lt_of_le hi h.size) (fun e=>by have:=hr i e.symm;omega)).trans (h.block i hi hn)⟩
theorem Rt.grown{w u:World}{g:Nat}{a b c d k:Int}{r:Rw}{p:Nat}{row:Option Nat}(h:Rt w g a b c d k r p)(hg:w.grownBy u row)(h1:row≠some g)(h2:∀ad,r.1=some ad→0 < r.2.2.2.length→row≠some ad.block):Rt u g a b c d k r p :=
 ⟨h.row.grown hg h1,⟨h.pc.len,Sl.kept h.pc.row (fun ad e hn hlt=>hg.block ad.block hlt (fun e2=>h2 ad e hn e2.symm)),h.pc.lt,h.pc.cap,h.pc.nil⟩,h.le,h.apart⟩
theorem own_belowg{w w':World}{base:Nat}{e:TypeId}{size:Nat}{v:Value}{n:Nat}{xs:List Value}(h:w.ownsRow base e size v n xs)(hb:Below w.heap.size w w'):w'.ownsRow base e size v n xs :=
 h.kept (row:=none) ⟨hb.os,hb.tape,hb.output,hb.size,fun i hi _=>hb.block i hi⟩ (by cases v.ownBlock <;> simp)
theorem flat_snoc(ks:List Tv)(t:Tv):flat (ks ++ [t])=flat ks ++ t.row:=by simp[flat]
def RvQ(res:Rr Nd)(w:World)(g:Nat)(a b c d:Int)(r:Rw)(e:Ending)(w':World):Prop :=
 match res with
 |.bad q en=>e=pan (q:Int) (en:Int)∧w.grownBy w' (some g)
 |.good v p' k'=>RgQ v p' w g a b c d k' r e w'
def RsQ(res:Rr (List Nd))(w:World)(g:Nat)(a b c d:Int)(r:Rw)(e:Ending)(w':World):Prop :=
 match res with
 |.bad q en=>e=pan (q:Int) (en:Int)∧w.grownBy w' (some g)
 |.good vs p' k'=>w.grownBy w' (some g)∧∃(ks:List Tv) (A:Option Addr) (cap:Nat),e=.returned (.slice A ks.length cap)∧nds ks=vs∧Sl w' A (4*ks.length) (flat ks)∧(A=none→cap=0)∧ks.length≤cap∧ks.length≤1000000∧(∀t∈ks,Ok w' t)∧liess (fun k=>w.heap.size≤k) ks∧(∀ad,A=some ad→w.heap.size≤ad.block)∧Rt w' g a b c d k' r p'
def Vf(f:Nat):Prop:=∀(w:World) (g:Nat) (a b c d k:Int) (r:Rw) (p:Nat) (deep:Int),Rt w g a b c d k r p→0≤d→d≤9223372036854775807→0≤k→k+((r.2.2.2.length - p:Nat):Int)≤1000000→r.2.1≤1000000→0≤deep→deep+((r.2.2.2.length - p:Nat):Int)≤3000000→r.2.2.2.length - p+2≤f →
 Calls Tryz.prog 125 #[.pointer (some ⟨g,0,none⟩),.int .i64 deep] w (RvQ (rdv b c d r.2.2.2 f deep p k) w g a b c d r)
theorem infoN:(Tryz.prog.info? 75).map (fun i=>(i.zero,i.size,i.bytes))=some (some (.agg #[.int .i64 0,.int .u64 0,.slice none 0 0,.slice none 0 0]),4,64):=by kernel_rfl
theorem row_one(t:Tv):∀v∈t.row,v.oneCell'=true:=by
 cases t
 intro v hv
 simp only[Tv.row,List.mem_cons,List.not_mem_nil,or_false] at hv
 rcases hv with rfl|rfl|rfl|rfl <;> rfl
set_option maxHeartbeats 4000000 in
set_option maxRecDepth 100000 in
theorem tvalues_any(F:Nat)(hV:∀f,f < F→Vf f){w:World}{g:Nat}{a b c d k:Int}{r:Rw}{p:Nat}(h:Rt w g a b c d k r p)(d0:0≤d)(d1:d≤9223372036854775807)(k0:0≤k)(k1:k+((r.2.2.2.length - p:Nat):Int)≤1000000)(hl9:r.2.1≤1000000)(deep:Int)(dp0:0≤deep)(dp1:deep+((r.2.2.2.length - p:Nat):Int)≤3000000)(hF:r.2.2.2.length - p+3≤F)(n:Nat)(hn:n < 18446744073709551616) :
  Calls Tryz.prog 140 #[.pointer (some ⟨g,0,none⟩),.int .u64 (n:Int),.int .i64 deep] w (RsQ (rds b c d r.2.2.2 F n deep p k []) w g a b c d r):=by
 obtain⟨i0,hi,hz0,hz1,hz2⟩:=info_parts infoN
 obtain⟨R,hR⟩:∃R,rds b c d r.2.2.2 F n deep p k []=R:=⟨_,rfl⟩
 obtain⟨F',rfl⟩:∃F',F=F'+1:=⟨F - 1,by omega⟩
 have glt:g < w.heap.size:=h.row.lt
 have pl:p≤r.2.2.2.length:=h.le
 have HR:=Lib.hid hR
 have HV:=Lib.hid hV
 have H:=Lib.hid h
 have KB:=Lib.hid k1
 have KZ:=Lib.hid k0
 have DB:=Lib.hid dp1
 have D0:=Lib.hid d0
 have D1:=Lib.hid d1
 have L9:=Lib.hid hl9
 have HN:=Lib.hid hn
 have HF:=Lib.hid hF
 have PL:=Lib.hid (pc_lt h.pc)
 rw[hR]
 clear hR hV h k1 k0 dp1 d0 d1 hl9 hn hF
 go_enter Tryz.func140,Tryz.ntmps140
 go_wp2_with fail
 go_loopg [7,9] r.2.2.2.length (fun g1 vl vi wr=>∃(i f pi:Nat) (ki:Int) (ks:List Tv),vi=.int .u64 (i:Int)∧i≤n∧r.2.2.2.length - pi≤g1∧pi≤r.2.2.2.length∧p+2*i≤pi∧Hid (r.2.2.2.length - pi+3≤f+1∧f < F'+1∧0≤ki∧ki+((r.2.2.2.length - pi:Nat):Int)≤k+((r.2.2.2.length - p:Nat):Int))∧Hid (R=rds b c d r.2.2.2 (f+1) (n - i) deep pi ki (nds ks))∧Hid (ks.length=i)∧Hid (wr.ownsRow w.heap.size 75 4 vl i (flat ks))∧Hid (∀t∈ks,Ok wr t)∧Hid (liess (fun k=>w.heap.size≤k∧vl.ownBlock≠some k) ks)∧Hid (Rt wr g a b c d ki r pi)∧Hid (w.grownBy wr (some g)))
 case atStart =>
  exact⟨0,F',p,k,[],rfl,Nat.zero_le _,Nat.sub_le _ _,pl,Nat.le_refl _,Lib.hid ⟨HF.out,Nat.lt_succ_self _,KZ.out,Int.le_refl _⟩,Lib.hid (by rw[←HR.out];rfl),Lib.hid rfl,Lib.hid ⟨rfl,.inl ⟨rfl,rfl⟩⟩,Lib.hid (fun t ht=>(List.not_mem_nil ht).elim),Lib.hid (by rw[liess];trivial),H,Lib.hid (World.grownBy.refl w _)⟩
 case round =>
  obtain⟨i,f,pi,ki,ks,rfl,hin,hg1,hpi,hp2,BO,ER,HL,OW,OK,LI,RT,GW⟩:=hrel
  have LL:=H.out.pc.len
  have i9:i≤1000000:=by have:=L9.out;omega
  obtain⟨A,cap,rfl,-, -, -, -⟩:=own_form OW.out
  by_cases hlt:i < n
  ·have q0:(i:Int) < (n:Int):=by omega
   have CV:=Lib.hid (HV.out f BO.out.2.1 wr g a b c d ki r pi deep RT.out D0.out D1.out BO.out.2.2.1 (by have h1:=BO.out.2.2.2;have h2:=KB.out;omega) L9.out dp0 (by have h1:=DB.out;omega) (by have h1:=BO.out.1;omega))
   have ES:R=match rdv b c d r.2.2.2 f deep pi ki with | .bad q e=>.bad q e | .good v q k'=>rds b c d r.2.2.2 f (n - i - 1) deep q k' (nds ks ++ [v]):=ER.out.trans (by rw[rds,if_neg (by omega)];cases rdv b c d r.2.2.2 f deep pi ki <;> rfl)
   cases hres:rdv b c d r.2.2.2 f deep pi ki with
   |bad q en =>
    rw[hres] at CV ES
    have CX:=Lib.hid (show Calls _ _ _ _ (fun e w'=>e=pan (q:Int) (en:Int)∧wr.grownBy w' (some g)) from CV.out)
    have E2:=Lib.hid (show R=.bad q en from ES)
    clear CV ES hres
    go_wp2_with (go_at_call 125;(refine CX.out.mono ?_);rintro e w1 ⟨rfl,h1⟩;have G1:=Lib.hid h1;clear h1)
    exact⟨rfl,by rw[E2.out];exact⟨rfl,only_trans GW.out G1.out⟩⟩
   |good v p2 k2 =>
    rw[hres] at CV ES
    have HG:=Lib.hid (rdv_good b c d r.2.2.2 f deep pi ki hpi hres)
    have CX:=Lib.hid (show Calls _ _ _ _ (RgQ v p2 wr g a b c d k2 r) from CV.out)
    have E2:=Lib.hid (show R=rds b c d r.2.2.2 f (n - i - 1) deep p2 k2 (nds ks ++ [v]) from ES)
    clear CV ES hres
    go_wp2_with (first
     |(go_at_call 125;(refine CX.out.mono ?_);rintro e w1 ⟨h1,t,rfl,hv,ho,hl,hr⟩;obtain⟨K,N,rr,B,cc,us⟩:=t;simp only[Tv.val,Tv.row];have G1:=Lib.hid h1;have V1:=Lib.hid hv;have K1:=Lib.hid ho;have L1:=Lib.hid hl;have R1:=Lib.hid hr;have A1:=Lib.hid (below_one w1 (.cells #[.int .i64 K,.int .u64 (N:Int),.slice rr.1 rr.2.1 rr.2.2.1,.slice B us.length cc] 75));have O1:=Lib.hid (own_belowg (OW.out.kept h1 (.inr (fun e=>by have:=own_ltg OW.out _ e;omega))) A1.out);have SA:=Lib.hid (show Sl (w1.alloc (.cells #[.int .i64 K,.int .u64 (N:Int),.slice rr.1 rr.2.1 rr.2.2.1,.slice B us.length cc] 75)) (some ⟨w1.heap.size,0,none⟩) (1*4) _ from Sl.new_ w1 75 [.int .i64 K,.int .u64 (N:Int),.slice rr.1 rr.2.1 rr.2.2.1,.slice B us.length cc]);clear h1 hv ho hl hr)
     |(at_builtin;refine wpList_append_at _ rfl _ _ 72 rfl w.heap.size 75 i0 _ 4 64 Tryz.underlying72 hi hz0 hz1 hz2 (by kernel_rfl) (by decide) (.slice A i cap) i (flat ks) rfl O1.out (some ⟨w1.heap.size,0,none⟩) 1 1 [.int .i64 K,.int .u64 (N:Int),.slice rr.1 rr.2.1 rr.2.2.1,.slice B us.length cc] rfl (fun e=>by cases e) SA.out (row_one (.mk K N rr B cc us)) (by unfold maxLen;omega) (by omega) (by have h1:=GW.out.size;have h2:=G1.out.size;have h3:=A1.out.size;omega) ?_))
    intro v4 w4 hown4 hgrow4 hat4
    have O4:=Lib.hid hown4
    have G4:=Lib.hid hgrow4
    have T4:=Lib.hid hat4
    have pg:=HG.out
    clear hown4 hgrow4 hat4
    obtain⟨A4,cap4,rfl,-, -, -, -⟩:=own_form O4.out
    go_wp2_with fail
    go_roundg (r.2.2.2.length - p2)
    case measure=>omega
    case rel =>
     have wg:g < wr.heap.size:=Nat.lt_of_lt_of_le glt GW.out.size
     have sz1:=GW.out.size
     have sz2:=G1.out.size
     have sz3:=A1.out.size
     have bl:=own_ltg OW.out
     have KW:∀t∈ks,Ok w1 t:=fun t ht=>(OK.out t ht).kept (liess_mem.1 LI.out t ht) (fun k hk hlt=>G1.out.block k hlt (fun e=>by have h1:k=g:=Option.some.inj e;omega))
     have LW:=liess.lt OK.out LI.out
     have LT:=lies.lt K1.out L1.out
     have nb:∀k,(w.heap.size≤k∧(Value.slice A i cap).ownBlock≠some k)∧k < wr.heap.size→w.heap.size≤k∧(Value.slice A4 (i+1) cap4).ownBlock≠some k:=fun k hk=>⟨hk.1.1,fun e=>by
      rcases T4.out k e with e1|e1
      ·exact hk.1.2 e1
      ·omega⟩
     have nt:∀k,wr.heap.size≤k∧k < w1.heap.size→w.heap.size≤k∧(Value.slice A4 (i+1) cap4).ownBlock≠some k:=fun k hk=>⟨by omega,fun e=>by
      rcases T4.out k e with e1|e1
      ·have:=bl k e1;omega
      ·omega⟩
     have LL4:liess (fun k=>w.heap.size≤k∧(Value.slice A4 (i+1) cap4).ownBlock≠some k) (ks ++ [.mk K N rr B cc us]):=by
      rw[liess_mem]
      intro t ht
      rcases List.mem_append.1 ht with ht|ht
      ·exact lies.mono nb (liess_mem.1 LW t ht)
      ·rw[List.mem_singleton.1 ht];exact lies.mono nt LT
     have KA:∀t∈ks ++ [.mk K N rr B cc us],Ok w4 t∧True:=fun t ht=>by
      rcases List.mem_append.1 ht with ht|ht
      ·exact⟨((KW t ht).keep A1.out).kept (liess_mem.1 LI.out t ht) (fun k hk hlt=>G4.out.block k hlt (fun e=>hk.2 e.symm)),trivial⟩
      ·rw[List.mem_singleton.1 ht]
       exact⟨(K1.out.keep A1.out).kept LT (fun k hk hlt=>G4.out.block k hlt (fun e=>by have:=bl k e.symm;omega)),trivial⟩
     refine⟨i+1,f - 1,p2,k2,ks ++ [.mk K N rr B cc us],by go_num,by omega,Nat.le_refl _,pg.2.1,by omega,Lib.hid ⟨by have:=BO.out.1;omega,by have:=BO.out.2.1;omega,by have:=BO.out.2.2.1;omega,by have:=BO.out.2.2.2;omega⟩,Lib.hid ?_,Lib.hid (by rw[List.length_append,HL.out];rfl),Lib.hid (by rw[flat_snoc];exact O4.out),Lib.hid (fun t ht=>(KA t ht).1),Lib.hid LL4,Lib.hid ?_,Lib.hid ?_⟩
     ·rw[E2.out,nds_map,nds_map,List.map_append,List.map_cons,List.map_nil,V1.out,show f - 1+1=f by have:=BO.out.1;omega,show n - (i+1)=n - i - 1 by omega]
     ·exact(R1.out.below A1.out).grown G4.out (fun e=>by have:=bl g e;omega) (fun ad e hn e2=>by have h1:=bl _ e2;have h2:=PL.out ad e hn;omega)
     ·exact only_own (only_then (only_trans GW.out G1.out) (A1.out.mono (by omega))) G4.out (fun j e=>(bl j e).1)
  ·obtain rfl:i=n:=by omega
   have q0:¬(i:Int) < (i:Int):=by omega
   have E2:=Lib.hid (show R=.good (nds ks) pi ki from ER.out.trans (by rw[rds,if_pos (by omega)]))
   go_wp2_with fail
   go_ret
   obtain⟨A',cap',e',s1,s2,s3,s4⟩:=own_form OW.out
   cases e'
   rw[E2.out]
   refine⟨GW.out,ks,A,cap,by rw[HL.out];rfl,rfl,?_,s2,by have:=HL.out;omega,by have:=HL.out;omega,OK.out,liess.mono (fun k hk=>hk.1) LI.out,fun ad e=>(s4 ad e).1,RT.out⟩
   have e4:4*ks.length=i*4:=by have:=HL.out;omega
   rw[e4];exact s1
end Go.Proofs.YteblmphohhbgcaaGreat.Wr
