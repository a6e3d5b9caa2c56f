/- Joined texts. -/
import Derived.Test.YtcnlmekjcffohaaDoorQoGnCat
import Derived.Test.YtcnlmekjcffohaaDoorQoSaE
set_option linter.unusedVariables false
namespace Go.Proofs.YtcnlmekjcffohaaDoor.Mk
open Go.RowKit Go.Proofs.YtcnlmekjcffohaaDoor.Gn Go.Proofs.YtcnlmekjcffohaaDoor.Fd Go.Deep
def Ret32(l:List Nat)(w:World)(e:Ending)(w':World):Prop:=∃g,e=.returned (.slice (some ⟨g,0,none⟩) 32 32)∧Pc w' (some ⟨g,0,none⟩,32,32,l)∧w.heap.size≤g∧Below w.heap.size w w'
theorem own_any{w:World}{base:Nat}{v:Value}{n:Nat}{s:List Nat}(h:w.ownsRow base 5 1 v n (bl s))(hn:s.length=n)(hs:∀x∈s,x < 256):∃A c,v=.slice A n c∧Pc w (A,n,c,s):=by
 obtain⟨A,c,rfl,h1,h2,h3,-, -⟩:=Sl.own h
 subst hn
 exact⟨A,c,rfl,rfl,h1,hs,h3,h2⟩
theorem dg32_len(l:List Nat):(Sh.dg false l).length=32:=by
 have hr:∀m,(Sh.run false (l ++ Sh.pad false l.length) m).length=8:=by
  intro m
  induction m with
  |zero=>rfl
  |succ m ih=>rw[Sh.run];exact Sh.bh_length _ _ _ ih
 unfold Sh.dg
 have fl:∀L:List Nat,(L.flatMap fun x=>Sh.be x (Sh.wd false / 8)).length=4*L.length:=by
  intro L
  induction L with
  |nil=>rfl
  |cons x L ih=>rw[List.flatMap_cons,List.length_append,ih,Sh.be_length,List.length_cons,show Sh.wd false / 8=4 from rfl];omega
 rw[fl,hr]
theorem dg32_lt(l:List Nat):∀x∈Sh.dg false l,x < 256:=by
 intro x hx
 unfold Sh.dg at hx
 obtain⟨y,-, hy⟩:=List.mem_flatMap.1 hx
 exact Sh.be_lt _ _ x hy
theorem Sl_block{w:World}{A:Option Addr}{n:Nat}{xs:List Value}(h:Sl w A n xs)(h0:0 < n):∀ad,A=some ad→ad.block < w.heap.size:=by
 rintro ad rfl
 obtain⟨ad',e,hc⟩:=h.at_ h0
 cases e
 have h1:0 < xs.length:=by rw[h.1];exact h0
 rw[List.getElem?_eq_getElem h1] at hc
 have:=cell_lt hc
 rwa [add_block] at this
theorem sum_p{A:Option Addr}{n c:Nat}{l:List Nat}{w:World}(h:Pc w (A,n,c,l))(h0:0 < n)(hn:n≤1048576)(ts:Sh.Tab w) :
  Calls Tryd.prog 58 #[.slice A n c] w fun e w'=>∃g,e=.returned (.tuple #[.slice (some ⟨g,0,none⟩) 32 32,.int .i64 0])∧Pc w' (some ⟨g,0,none⟩,32,32,Sh.dg false l)∧w.heap.size≤g∧Below w.heap.size w w':=by
 have hl:l.length=n:=h.len.symm
 subst hl
 refine(Sh.Sum256_any l A c w h.lt h.row (Sl_block h.row h0) h.cap hn ts).mono ?_
 rintro e w' ⟨q,rfl,h1,h2,h3⟩
 exact⟨q,rfl,⟨(dg32_len l).symm,Sl.of_bl h2 0 _ _ (by rw[bl_length]) (fun k v hk=>by rw[Nat.zero_add];simpa using hk),dg32_lt l,by show(Sh.dg false l).length≤32;rw[dg32_len];exact Nat.le_refl _,fun h=>by cases h⟩,h1,h3⟩
theorem one_sl(w:World)(r:Rw):Sl (w.alloc (.cells #[rwv r] 22)) (some ⟨w.heap.size,0,none⟩) 1 ([r].map rwv):=Sl.new_ w 22 [rwv r]
theorem two_sl(w:World)(r s:Rw):Sl (w.alloc (.cells #[rwv r,rwv s] 22)) (some ⟨w.heap.size,0,none⟩) 2 ([r,s].map rwv):=Sl.new_ w 22 [rwv r,rwv s]
theorem join2{A B:Option Addr}{n m c d:Nat}{x y:List Nat}{w:World}(h:Pc w (A,n,c,x))(k:Pc w (B,m,d,y))(hmax:(x ++ y).length≤1099511627776) :
  Calls Tryd.prog 59 #[.slice (some ⟨w.heap.size,0,none⟩) 2 2] (w.alloc (.cells #[.slice A n c,.slice B m d] 22)) (ConcatQ (x ++ y) w):=by
 have BB:=(Below.refl w.heap.size w).alloc (Nat.le_refl _) (.cells #[.slice A n c,.slice B m d] 22)
 have e:cat [(A,n,c,x),(B,m,d,y)]=x ++ y:=by simp[cat]
 have:=Concat_any [(A,n,c,x),(B,m,d,y)] _ 2 2 _ (two_sl w _ _) (by intro r hx;simp at hx;rcases hx with rfl|rfl <;> first|exact h.below BB|exact k.below BB) (by decide) (by rw[e];exact hmax)
 rw[e] at this
 refine this.mono fun e w' h=>?_
 obtain⟨v,h1,h2,h3⟩:=h
 exact⟨v,h1,own_base h2 BB.size,BB.trans (h3.mono BB.size)⟩
end Go.Proofs.YtcnlmekjcffohaaDoor.Mk
