/- Joined texts. -/
import Derived.Maps.AppendAt
import Derived.Test.YteblmphohhbgcaaQaMtG
set_option linter.unusedVariables false
namespace Go.Proofs.Yteblmphohhbgcaa.Mt
open Go.RowKit Go.Proofs.Yteblmphohhbgcaa.Gn Go.Proofs.Yteblmphohhbgcaa.Fd Go.Proofs.Yteblmphohhbgcaa.Wr Go.Deep
theorem bl_ne{w:World}{a b:Nat}{s t:TypeId}{cs ds:Array Value}(h:Bl w a s cs)(k:Bl w b t ds)(hst:s≠t):a≠b:=fun e=>by
 subst e
 unfold Bl at h k
 rw[h] at k
 injection k with k
 injection k with k1 k2
 exact hst k2
def nz:List Value:=[.int .i64 0,.int .u64 0,.slice none 0 0,.slice none 0 0]
def rowv:Value→List Value
 |.agg cs=>cs.toList
 |_=>[]
theorem rowv_val(t:Tv):rowv t.val=t.row:=by cases t;rfl
theorem row_len(t:Tv):t.row.length=4:=by cases t;rfl
theorem one_at{w:World}{base n m:Nat}{e:TypeId}{v:Value}{xs:List Value}(h:w.ownsRow base e 4 v (n+1) xs):∃q cap cur,v=.slice (some ⟨q,0,none⟩) (n+1) cap∧base≤q∧Bl w q e cur∧n+1≤cap∧cap≤maxLen∧cur.size=cap*4∧cur.toList.take ((n+1)*4)=xs:=by
 obtain⟨h1,⟨-, h2⟩|⟨q,cap,cur,h2,h3,h4,h5,h6,h7,h8⟩⟩:=h
 ·omega
 ·exact⟨q,cap,cur,h2,h3,h4,h5,h6,h7,h8⟩
structure PJ (P:Tv→Prop) (w:World) (lo g:Nat) (wr:Bool) (K:Nat) (ks:List Tv) (T:Value) (c b a x s f:Bool) (vC vB vA vX:Value) (W:World):Prop where
 st:Pw w lo g wr K ks T
 fr:Fr w W g T (if a=true then vA else T)
 low:Below lo w W
 bl:Bl W g 94 #[.pointer none,if f=true then vA else T,.bool wr]
 ok:∀t∈ks,Ok W t
 call:c=true→∃t,P t∧vC=t.val∧Ok W t∧lies (fun k=>w.heap.size≤k∧(a=true→vA.ownBlock≠some k)) t
 zero:b=true→a=false→∃z,vB=.slice (some ⟨z,0,none⟩) 1 1∧w.heap.size≤z∧Bl W z 80 nz.toArray
 row:a=false→W.ownsRow lo 80 4 T ks.length (flat ks)
 app:a=true→W.ownsRow lo 80 4 vA (ks.length+1) (flat ks ++ if s=true then rowv vC else nz)∧(∀k,vA.ownBlock=some k→T.ownBlock=some k∨w.heap.size≤k)
 idx:x=true→∃q cap,vA=.slice (some ⟨q,0,none⟩) (ks.length+1) cap∧vX=.pointer (some ⟨q,ks.length*4,none⟩)
 ab:a=true→b=true
 xa:x=true→a=true
 sx:s=true→x=true
 sc:s=true→c=true
 fa:f=true→a=true
section
variable {P:Tv→Prop} {w:World} {lo g:Nat} {wr:Bool} {K:Nat} {ks:List Tv} {T:Value} {c b a x s f:Bool} {vC vB vA vX:Value} {W W':World}
theorem no{p q:Bool}(h:p=true→q=true)(hq:q=false):p=false:=by
 cases p with
 |false=>rfl
 |true=>rw[h rfl] at hq;cases hq
theorem PJ.start(h:Pw w lo g wr K ks T)(hb:Below w.heap.size w W):PJ P w lo g wr K ks T false false false false false false vC vB vA vX W:=by
 have h2:=h.below hb
 exact⟨h,Fr.of g T hb,hb.mono (by have:=h.low;have:=h.bl.lt;omega),h2.bl,h2.ok,(fun e=>by cases e),(fun e=>by cases e),fun _=>h2.own,(fun e=>by cases e),(fun e=>by cases e),(fun e=>by cases e),(fun e=>by cases e),(fun e=>by cases e),(fun e=>by cases e),(fun e=>by cases e)⟩
theorem PJ.keep(h:PJ P w lo g wr K ks T c b a x s f vC vB vA vX W)(hb:Below W.heap.size W W'):PJ P w lo g wr K ks T c b a x s f vC vB vA vX W':=by
 have hl:=h.st.low
 have hlt:=h.st.bl.lt
 refine⟨h.st,h.fr.below (hb.mono h.fr.size) hb.size,h.low.trans (hb.mono (by have:=h.fr.size;omega)),h.bl.below' hb,fun t ht=>(h.ok t ht).keep hb,fun e=>?_,fun e1 e2=>?_,fun e=>own_belowg (h.row e) hb,fun e=>⟨own_belowg (h.app e).1 hb,(h.app e).2⟩,h.idx,h.ab,h.xa,h.sx,h.sc,h.fa⟩
 ·obtain⟨t,h1,h2,h3,h4⟩:=h.call e
  exact⟨t,h1,h2,h3.keep hb,h4⟩
 ·obtain⟨z,h1,h2,h3⟩:=h.zero e1 e2
  exact⟨z,h1,h2,h3.below' hb⟩
theorem PJ.called(h:PJ P w lo g wr K ks T false b a x s f vC vB vA vX W)(hb:Below W.heap.size W W'){t:Tv}(hP:P t)(hok:Ok W' t)(hl:lies (fun k=>W.heap.size≤k) t):PJ P w lo g wr K ks T true b a x s f t.val vB vA vX W':=by
 have e:=no h.sc rfl
 subst e
 have k:=h.keep hb
 have hs:=h.fr.size
 refine⟨k.st,k.fr,k.low,k.bl,k.ok,fun _=>⟨t,hP,rfl,hok,lies.mono (fun j hj=>⟨by omega,fun ha e=>?_⟩) hl⟩,k.zero,k.row,k.app,k.idx,k.ab,k.xa,k.sx,fun _=>rfl,k.fa⟩
 have:=own_ltg (h.app ha).1 j e
 omega
theorem PJ.built(h:PJ P w lo g wr K ks T c false a x s f vC vB vA vX W):PJ P w lo g wr K ks T c true a x s f vC (.slice (some ⟨W.heap.size,0,none⟩) 1 1) vA vX (W.alloc nod0):=by
 have k:=h.keep (below_one W nod0)
 exact⟨k.st,k.fr,k.low,k.bl,k.ok,k.call,fun _ _=>⟨W.heap.size,rfl,h.fr.size,Bl.new_ W _ _⟩,k.row,k.app,k.idx,fun _=>rfl,k.xa,k.sx,k.sc,k.fa⟩
theorem nz_one:∀u∈nz,u.oneCell'=true:=by
 intro u hu
 simp only[nz,List.mem_cons,List.not_mem_nil,or_false] at hu
 rcases hu with rfl|rfl|rfl|rfl <;> rfl
theorem old_ok(h:Pw w lo g wr K ks T){u v:World}(hu:∀t∈ks,Ok u t)(hk:∀k,(k≠g∧T.ownBlock≠some k)∧k < w.heap.size→k < u.heap.size→v.heap[k]?=u.heap[k]?):∀t∈ks,Ok v t :=
 fun t ht=>(hu t ht).kept (liess_mem.1 (liess.lt h.ok h.aw) t ht) hk
theorem PJ.appended(h:PJ P w lo g wr K ks T c true false x s f vC vB vA vX W)(hn:ks.length≤1000000):∃z v' w',vB=.slice (some ⟨z,0,none⟩) 1 1∧(Builtin.append_ #[78,78] 78 #[T,.slice (some ⟨z,0,none⟩) 1 1]).run Try.prog W=.ok v' w'∧PJ P w lo g wr K ks T c true true x s f vC vB v' vX w':=by
 obtain⟨i0,hi,hz0,hz1,hz2⟩:=info_parts infoN
 obtain⟨z,e1,hz,bz⟩:=h.zero rfl rfl
 have ex:=no h.xa rfl
 have es:=no h.sx ex
 have ef:=no h.fa rfl
 subst ex es ef
 have hl:=h.st.low
 have hlt:=h.st.bl.lt
 have hs:=h.fr.size
 obtain⟨v',w',hr,h1,h2,-, h4⟩:=run_append_own_at (P:=Try.prog) W lo 78 78 80 i0 (.agg nz.toArray) 4 64 Try.underlying78 hi hz0 hz1 hz2 rfl (by decide) T ks.length (flat ks) (h.row rfl) ⟨z,0,none⟩ 1 1 nz rfl (fun j u hj=>by rw[add_at];exact bz.cell_ (by rwa [←Array.getElem?_toList] at *)) nz_one (by unfold maxLen;omega) (by omega) (by omega)
 have tl:=own_ltg h.st.own
 have tb:=h.st.tb
 have h2s:=h2.size
 have hat:∀k,v'.ownBlock=some k→T.ownBlock=some k∨W.heap.size≤k:=fun k e=>by
  rcases h4 with e1|e1
  ·exact .inl (e1▸e)
  ·rw[e1] at e;cases e;exact .inr (Nat.le_refl _)
 refine⟨z,v',w',e1,hr,h.st,⟨by omega,fun k hk hq hT=>(h2.block k (by omega) (fun e=>hT e.symm)).trans (h.fr.keep k hk hq hT),fun k e=>?_⟩,?_,h.bl.grown h2 (fun e=>tb e),?_,fun ec=>?_,(fun _ e=>by cases e),(fun e=>by cases e),fun _=>⟨h1,fun k e=>?_⟩,(fun e=>by cases e),fun _=>rfl,fun _=>rfl,h.sx,h.sc,fun _=>rfl⟩
 ·rcases hat k e with e1|e1
  ·exact .inl e1
  ·exact .inr (by omega)
 ·exact⟨h2.os.trans h.low.os,h2.tape.trans h.low.tape,h2.output.trans h.low.output,by have:=h.low.size;omega,fun k hk=>(h2.block k (by omega) (fun e=>by have:=tl k e.symm;omega)).trans (h.low.block k hk)⟩
 ·exact old_ok h.st h.ok (fun k hk hlt2=>h2.block k hlt2 (fun e=>hk.1.2 e.symm))
 ·obtain⟨t,k1,k2,k3,k4⟩:=h.call ec
  have k5:=lies.lt k3 k4
  refine⟨t,k1,k2,k3.kept k5 (fun k hk hlt2=>h2.block k hlt2 (fun e=>by have:=tl k e.symm;omega)),lies.mono (fun k hk=>⟨hk.1.1,fun _ e=>?_⟩) k5⟩
  rcases hat k e with e1|e1
  ·have:=tl k e1;omega
  ·omega
 ·rcases hat k e with e1|e1
  ·exact .inl e1
  ·exact .inr (by omega)
theorem PJ.indexed(h:PJ P w lo g wr K ks T c b true x s f vC vB vA vX W):∃q cap,vA=.slice (some ⟨q,0,none⟩) (ks.length+1) cap∧PJ P w lo g wr K ks T c b true true s f vC vB vA (.pointer (some ⟨q,ks.length*4,none⟩)) W:=by
 obtain⟨q,cap,cur,e,-⟩:=one_at (m:=0) (h.app rfl).1
 exact⟨q,cap,e,h.st,h.fr,h.low,h.bl,h.ok,h.call,h.zero,h.row,h.app,fun _=>⟨q,cap,e,rfl⟩,h.ab,fun _=>rfl,fun _=>rfl,h.sc,h.fa⟩
theorem take_put{cur:Array Value}{n:Nat}{l0 l:List Value}(hl:l.length=4)(h0:l0.length=n*4){m:List Value}(hm:m.length=4)(hc:cur.toList.take ((n+1)*4)=l0 ++ m)(hs:(n+1)*4≤cur.size):(spl cur (n*4) l).toList.take ((n+1)*4)=l0 ++ l:=by
 have h1:cur.toList.take (n*4)=l0:=by
  have h:=congrArg (List.take (n*4)) hc
  rw[List.take_take,show min (n*4) ((n+1)*4)=n*4 by omega,List.take_left' h0] at h
  exact h
 rw[spl_eq _ _ _ (by omega)]
 show(cur.toList.take (n*4) ++ (l ++ cur.toList.drop (n*4+l.length))).take ((n+1)*4)=l0 ++ l
 rw[h1,←List.append_assoc,List.take_left' (by rw[List.length_append];omega)]
theorem PJ.stored(h:PJ P w lo g wr K ks T c b a true false f vC vB vA vX W)(hc:c=true):∃(t:Tv) (q:Nat) (w':World),vC=t.val∧vX=.pointer (some ⟨q,ks.length*4,none⟩)∧(storeCells ⟨q,ks.length*4,none⟩ t.row).run Try.prog W=.ok () w'∧PJ P w lo g wr K ks T c b a true true f vC vB vA vX w':=by
 obtain⟨t,k1,rfl,k3,k4⟩:=h.call hc
 have ea:=h.xa rfl
 subst ea
 obtain⟨q,cap,e1,e2⟩:=h.idx rfl
 obtain⟨ha,hat⟩:=h.app rfl
 obtain⟨q',cap',cur,e3,b1,b2,b3,b4,b5,b6⟩:=one_at (m:=0) ha
 rw[e1] at e3
 obtain⟨rfl,rfl⟩:q=q'∧cap=cap':=by cases e3;exact⟨rfl,rfl⟩
 obtain⟨w',r1,r2,r3⟩:=run_store_bl Try.prog b2 (ks.length*4) t.row (by rw[row_len];omega) (row_one t)
 have hl:=h.st.low
 have hlt:=h.st.bl.lt
 have hs:=h.fr.size
 have h2s:=r3.size
 have tl:=own_ltg h.st.own
 have hqo:vA.ownBlock=some q:=by rw[e1];rfl
 have hq:=hat q hqo
 have hqg:q≠g:=bl_ne b2 h.bl (by decide)
 have LF:(flat ks).length=ks.length*4:=by have h1:=h.st.own.1;exact h1
 refine⟨t,q,w',rfl,e2,r1,h.st,?_,?_,h.bl.grown r3 (fun e=>hqg (Option.some.inj e)),?_,fun _=>⟨t,k1,rfl,k3.kept k4 (fun k hk hlt2=>r3.block k hlt2 (fun e=>hk.2 rfl (hqo.trans e.symm))),k4⟩,(fun _ e=>by cases e),(fun e=>by cases e),fun _=>⟨?_,hat⟩,fun _=>⟨q,cap,e1,e2⟩,h.ab,h.xa,fun _=>rfl,fun _=>hc,h.fa⟩
 ·refine⟨by omega,fun k hk hg2 hT=>(r3.block k (by omega) (fun e=>?_)).trans (h.fr.keep k hk hg2 hT),h.fr.own⟩
  have e:=Option.some.inj e
  rcases hq with hq|hq
  ·exact hT (e▸hq)
  ·omega
 ·refine⟨r3.os.trans h.low.os,r3.tape.trans h.low.tape,r3.output.trans h.low.output,by have:=h.low.size;omega,fun k hk=>(r3.block k (by omega) (fun e=>?_)).trans (h.low.block k hk)⟩
  have e:=Option.some.inj e
  rcases hq with hq|hq
  ·have:=tl q hq;omega
  ·omega
 ·refine old_ok h.st h.ok (fun k hk hlt2=>r3.block k hlt2 (fun e=>?_))
  have e:=Option.some.inj e
  rcases hq with hq|hq
  ·exact hk.1.2 (e▸hq)
  ·omega
 ·rw[rowv_val,if_pos rfl]
  refine⟨by rw[List.length_append,LF,row_len];omega,.inr ⟨q,cap,_,e1,b1,r2,b3,b4,by rw[spl_size];exact b5,?_⟩⟩
  exact take_put (m:=nz) (row_len t) LF rfl (by rw[b6,if_neg (by decide)]) (by omega)
theorem PJ.cell1(h:PJ P w lo g wr K ks T c b a x s false vC vB vA vX W):W.cell? ⟨g,1,none⟩=some T∧W.frozen? ⟨g,1,none⟩=false:=⟨h.bl.cell_ rfl,h.bl.frozen 1⟩
theorem PJ.field(h:PJ P w lo g wr K ks T c b true x s false vC vB vA vX W):PJ P w lo g wr K ks T c b true x s true vC vB vA vX (W.setCell ⟨g,1,none⟩ vA):=by
 have hset:W.grownBy (W.setCell ⟨g,1,none⟩ vA) (some g):=only_set (World.grownBy.refl W _) (Or.inl rfl) vA
 have hss:(W.setCell ⟨g,1,none⟩ vA).heap.size=W.heap.size:=setc_size W _ _
 have hl:=h.st.low
 have hlt:=h.st.bl.lt
 have hs:=h.fr.size
 obtain⟨ha,hat⟩:=h.app rfl
 have hne:vA.ownBlock≠some g:=own_ne ha h.bl (by decide)
 refine⟨h.st,⟨by rw[hss];omega,fun k hk hq hT=>(hset.block k (by omega) (fun e=>hq (Option.some.inj e))).trans (h.fr.keep k hk hq hT),h.fr.own⟩,?_,h.bl.set_ 1 vA,?_,fun e=>?_,(fun _ e=>by cases e),(fun e=>by cases e),fun _=>⟨ha.kept hset (.inr hne),hat⟩,h.idx,h.ab,h.xa,h.sx,h.sc,fun _=>rfl⟩
 ·exact⟨hset.os.trans h.low.os,hset.tape.trans h.low.tape,hset.output.trans h.low.output,by rw[hss];exact h.low.size,fun k hk=>(hset.block k (by omega) (fun e=>by have:=Option.some.inj e;omega)).trans (h.low.block k hk)⟩
 ·exact old_ok h.st h.ok (fun k hk hlt2=>hset.block k hlt2 (fun e=>hk.1.1 (Option.some.inj e)))
 ·obtain⟨t,k1,k2,k3,k4⟩:=h.call e
  exact⟨t,k1,k2,k3.kept k4 (fun k hk hlt2=>hset.block k hlt2 (fun e=>by have:=Option.some.inj e;omega)),k4⟩
theorem PJ.whole(h:PJ P w lo g wr K ks T true true true true true true vC vB vA vX W){J:Nat}(hJ:∀t,P t→Wr.sz t≤J):∃t,P t∧Pw W lo g wr (K+J) (ks ++ [t]) vA∧Fr w W g T vA∧Below lo w W:=by
 obtain⟨t,k1,k2,k3,k4⟩:=h.call rfl
 obtain⟨ha,hat⟩:=h.app rfl
 have hlt:=h.st.bl.lt
 have hlow:=h.st.low
 refine⟨t,k1,⟨h.bl,?_,fun y hy=>?_,?_,h.st.low,?_,?_⟩,h.fr,h.low⟩
 ·rw[if_pos rfl,k2,rowv_val] at ha
  rw[List.length_append,flat_snoc]
  exact ha
 ·rcases List.mem_append.1 hy with hy|hy
  ·exact h.ok y hy
  ·rw[List.mem_singleton.1 hy];exact k3
 ·rw[liess_mem]
  intro y hy
  rcases List.mem_append.1 hy with hy|hy
  ·refine lies.mono (fun k hk=>⟨hk.1.1,fun e=>?_⟩) (liess_mem.1 (liess.lt h.st.ok h.st.aw) y hy)
   rcases hat k e with e1|e1
   ·exact hk.1.2 e1
   ·omega
  ·rw[List.mem_singleton.1 hy]
   exact lies.mono (fun k hk=>⟨by omega,hk.2 rfl⟩) k4
 ·rw[szs_app,szs,szs];have:=h.st.sz;have:=hJ t k1;omega
 ·rw[liess_mem]
  intro y hy
  rcases List.mem_append.1 hy with hy|hy
  ·exact liess_mem.1 h.st.up y hy
  ·rw[List.mem_singleton.1 hy];exact lies.mono (fun k hk=>by omega) k4
end
end Go.Proofs.Yteblmphohhbgcaa.Mt
