/- Joined texts. -/
import Derived.Test.YtkahelhoaihajaaQfGnEq
set_option linter.unusedVariables false
namespace Go.Proofs.Ytkahelhoaihajaa.Wr
open Go.RowKit Go.Proofs.Ytkahelhoaihajaa.Gn Go.Proofs.Ytkahelhoaihajaa.Fd Go.Deep
mutual
def rn:Nd→Bool
 |.mk k n b ks=>if k=1 then decide (b.length=0) && decide (ks.length=0) else if k=2 then decide (n=0) && decide (ks.length=0) else if k=3 then decide (n=0) && decide (b.length=0) && rns ks else false
def rns:List Nd→Bool
 | []=>true
 |t :: ts=>rn t && rns ts
end
mutual
def wbn:Nd→List Nat
 |.mk k n b ks=>k.toNat :: (if k=1 then cb n else if k=2 then cb b.length ++ b else cb ks.length ++ wbns ks)
def wbns:List Nd→List Nat
 | []=>[]
 |t :: ts=>wbn t ++ wbns ts
end
mutual
def wgn(b c d:Int):Nd→Int→Int→Int × Int
 |.mk K n l ks,deep,k =>
  if b < deep then(23,k) else if k=c then(24,k) else
  if K=2 then(if d < (l.length:Int) then(2,k+1) else(0,k+1)) else
  if K=3 then wgns b c d ks (deep+1) (k+1) else(0,k+1)
def wgns(b c d:Int):List Nd→Int→Int→Int × Int
 | [],_,k=>(0,k)
 |t :: ts,deep,k=>if(wgn b c d t deep k).1=0 then wgns b c d ts deep (wgn b c d t deep k).2 else wgn b c d t deep k
end
mutual
def szn:Nd→Nat
 |.mk _ _ l ks=>1+l.length+szns ks
def szns:List Nd→Nat
 | []=>0
 |t :: ts=>szn t+szns ts
end
mutual
theorem nd_all{w:World}:∀(v:Tv),Ok w v→right v=rn (nd v)∧wb v=wbn (nd v)∧(∀b c d p k,wgo b c d v p k=wgn b c d (nd v) p k)∧sz v=szn (nd v)
 |.mk K n r A c ks=>fun h=>by
  cases h with
  |mk hn hr hs hm hc h0 hk =>
  obtain⟨h1,h2,h3,h4⟩:=nds_all ks hk
  have hl:r.2.1=r.2.2.2.length:=hr.len
  have hk':ks.length=(nds ks).length:=(nds_len ks).symm
  refine⟨?_,?_,fun b c d p k=>?_,?_⟩
  ·rw[right,nd,rn,h1,hl,hk']
  ·rw[wb,nd,wbn,h2,hl,hk']
  ·rw[wgo,nd,wgn,h3,hl]
  ·rw[sz,nd,szn,h4,hl]
theorem nds_all{w:World}:∀(ks:List Tv),(∀t∈ks,Ok w t)→rights ks=rns (nds ks)∧wbs ks=wbns (nds ks)∧(∀b c d p k,wgos b c d ks p k=wgns b c d (nds ks) p k)∧szs ks=szns (nds ks)
 | []=>fun _=>⟨rfl,rfl,fun _ _ _ _ _=>rfl,rfl⟩
 |t :: ts=>fun h=>by
  obtain⟨h1,h2,h3,h4⟩:=nd_all t (h t List.mem_cons_self)
  obtain⟨g1,g2,g3,g4⟩:=nds_all ts (fun x hx=>h x (List.mem_cons_of_mem _ hx))
  refine⟨?_,?_,fun b c d p k=>?_,?_⟩
  ·rw[rights,nds,rns,h1,g1]
  ·rw[wbs,nds,wbns,h2,g2]
  ·rw[wgos,nds,wgns,h3,g3]
  ·rw[szs,nds,szns,h4,g4]
end
def wern(a b c d:Int)(v:Nd):Int:=if rn v=true then(if(wgn b c d v 1 0).1=0 then(if a < ((wbn v).length:Int) then 2 else 0) else(wgn b c d v 1 0).1) else 21
theorem wer_nd{w:World}{v:Tv}(h:Ok w v)(a b c d:Int):wer a b c d v=wern a b c d (nd v):=by
 obtain⟨h1,h2,h3,-⟩:=nd_all v h
 rw[wer,wern,h1,h2,h3]
abbrev ndk:Nd:=.mk 3 0 [] [.mk 1 5 [] [],.mk 2 0 [] []]
theorem k1:wern 65536 16 16384 65536 ndk=0:=by decide
theorem k2:wbn ndk=[3,2,1,5,2,0]:=by decide
theorem k3:rdw 65536 16 16384 65536 [3,2,1,5,2,0]=.good ndk 6 3:=by rfl
theorem k4:rdw 65536 16 16384 65536 [3,1,4]=.bad 2 21:=by rfl
theorem k5:cb 256=[193,1,0]:=by decide
end Go.Proofs.Ytkahelhoaihajaa.Wr
