/- Joined texts. -/
import Derived.Orders
import Derived.IntWalk
import Derived.Test.YtoibhnpmemnlfaaGreatDoorQtAvM
set_option linter.unusedVariables false
namespace Go.Proofs.YtoibhnpmemnlfaaGreatDoor.Av
open Go.RowKit Go.Proofs.YtoibhnpmemnlfaaGreatDoor.Gn Go.Deep
def DV.one:DV→Bool
 |.lit v=>v.oneCell'
 |.sq _ _ _=>true
 |_=>false
def DV.ni:DV→Bool
 |.lit v=>noInt v
 |.sat _=>false
 |_=>true
theorem DV.one_rep{O:Nat→Prop}{w:World}{x:DV}{v:Value}(h:x.one=true)(hv:x.rep O w v):v.oneCell'=true:=by
 cases x with
 |lit u=>cases hv;exact h
 |sat φ=>cases h
 |sq r k xs=>obtain⟨A,n,c,e,-⟩:=hv;rw[e];rfl
 |agg xs=>cases h
 |tup xs=>cases h
theorem DV.ni_rep{O:Nat→Prop}{w:World}{x:DV}{v:Value}(h:x.ni=true)(hv:x.rep O w v):noInt v=true:=by
 cases x with
 |lit u=>cases hv;exact h
 |sat φ=>cases h
 |sq r k xs=>obtain⟨A,n,c,e,-⟩:=hv;rw[e];rfl
 |agg xs=>obtain⟨vs,e,-⟩:=hv;rw[e];rfl
 |tup xs=>obtain⟨vs,e,-⟩:=hv;rw[e];rfl
theorem reps_row{O:Nat→Prop}{w:World}:∀ {xs:List DV} {f:Nat→Value→Prop} {i:Nat},DV.reps O w xs i f→∃vs:List Value,vs.length=xs.length∧DV.reps O w xs 0 (fun j v=>vs[j]?=some v)∧∀j v,vs[j]?=some v→f (i+j) v:=by
 intro xs
 induction xs with
 |nil=>intro f i _;exact⟨[],rfl,trivial,fun j v h=>by simp at h⟩
 |cons x xs ih =>
  rintro f i ⟨⟨v,h1,h2⟩,h3⟩
  obtain⟨vs,h4,h5,h6⟩:=ih h3
  refine⟨v :: vs,by simp[h4],⟨⟨v,rfl,h2⟩,reps_iff.2 fun j y hj=>?_⟩,fun j u hj=>?_⟩
  ·obtain⟨u,h7,h8⟩:=reps_iff.1 h5 j y hj
   exact⟨u,by rw[show 0+1+j=j+1 by omega];simpa using h7,h8⟩
  ·cases j with
   |zero=>simp at hj;subst hj;exact h1
   |succ j=>rw[show i+(j+1)=i+1+j by omega];exact h6 j u (by simpa using hj)
theorem reps_all{O:Nat→Prop}{w:World}{xs:List DV}{vs:List Value}(h:DV.reps O w xs 0 (fun j v=>vs[j]?=some v))(hl:vs.length=xs.length){p:DV→Bool}{q:Value→Bool}(hp:∀x∈xs,p x=true)(hpq:∀x v,p x=true→x.rep O w v→q v=true):∀v∈vs,q v=true:=by
 intro v hv
 obtain⟨j,hj⟩:=List.getElem?_of_mem hv
 have hjl:j < xs.length:=by have:=(List.getElem?_eq_some_iff.1 hj).1;omega
 obtain⟨u,h1,h2⟩:=reps_iff.1 h j xs[j] (List.getElem?_eq_getElem hjl)
 rw[Nat.zero_add,hj] at h1;cases h1
 exact hpq _ _ (hp _ (List.getElem_mem hjl)) h2
theorem reps_app{O:Nat→Prop}{w:World}{xs ys:List DV}{vs us:List Value}(hl:vs.length=xs.length)(h1:DV.reps O w xs 0 (fun j v=>vs[j]?=some v))(h2:DV.reps O w ys 0 (fun j v=>us[j]?=some v)):DV.reps O w (xs ++ ys) 0 (fun j v=>(vs ++ us)[j]?=some v):=reps_iff.2 fun j x hj=>by
 rcases Nat.lt_or_ge j xs.length with h|h
 ·rw[List.getElem?_append_left h] at hj
  obtain⟨v,h3,h4⟩:=reps_iff.1 h1 j x hj
  exact⟨v,by rw[List.getElem?_append_left (by omega)];exact h3,h4⟩
 ·rw[List.getElem?_append_right h] at hj
  obtain⟨v,h3,h4⟩:=reps_iff.1 h2 _ x hj
  refine⟨v,?_,h4⟩
  rw[Nat.zero_add] at h3 ⊢
  rw[List.getElem?_append_right (by omega),hl];exact h3
theorem info_of{P:Program}{e k bytes:Nat}{z:Value}(h:(P.info? e).map (fun i=>(i.zero,i.size,i.bytes))=some (some z,k,bytes)):∃i,P.info? e=some i∧i.zero=some z∧i.size=k∧i.bytes=bytes:=by
 cases hq:P.info? e with
 |none=>rw[hq] at h;cases h
 |some i=>rw[hq] at h;simp at h;exact⟨i,rfl,h.1,h.2.1,h.2.2⟩
theorem zeroCells_ni{z:Value}{n:Nat}(h:∀u∈z.cells.toList,noInt u=true):∀u∈(Builtin.zeroCells z.cells n).toList,noInt u=true:=by
 intro u hu
 unfold Builtin.zeroCells at hu
 simp only[Array.toList_map,List.mem_map] at hu
 obtain⟨i,-, rfl⟩:=hu
 by_cases h0:z.cells.size=0
 ·have:z.cells = #[]:=Array.eq_empty_of_size_eq_zero h0
  rw[this];rfl
 ·have hlt:i%z.cells.size < z.cells.size:=Nat.mod_lt _ (by omega)
  simp only[hlt,getElem!_pos]
  exact h _ (by simp)
theorem run_app {P : Program} (w : World) (t ty e : TypeId) (z : Value) (k bytes : Nat) (ht : P.underlying t = some (.slice e)) (hinfo : (P.info? e).map (fun i => (i.zero, i.size, i.bytes)) = some (some z, k, bytes)) (hzs : z.cells.size = k) (hk : 0 < k) (ni : Bool) (hz : ni = true → ∀ u ∈ z.cells.toList, noInt u = true)
    (v : Value) (n : Nat) (vs : List Value) (hown : Row w e k v n vs ni) (A : Option Addr) (m c : Nat) (news : List Value) (hnil : A = none → c = 0) (hmc : m ≤ c) (hl : news.length = m * k) (hn : ∀ j u, news[j]? = some u → ∃ ad, A = some ad ∧ w.cell? (ad.add j) = some u) (h1 : ∀ u ∈ news, u.oneCell' = true)
    (hnn : ni = true → ∀ u ∈ news, noInt u = true) (h63 : n + m ≤ maxLen) (hbytes : (n + m) * bytes ≤ 140737488355328) :
    ∃ v' w', (Builtin.append_ #[t, t] ty #[v, .slice A m c]).run P w = .ok v' w' ∧ Row w' e k v' (n + m) (vs ++ news) ni ∧ w.grownBy w' (blk v) ∧ (∀ b, blk v' = some b → blk v = some b ∨ w.heap.size ≤ b) ∧ (∃ A n c, v' = .slice A n c) := by
  obtain ⟨i, hi, hiz, hsize, hby⟩ := info_of hinfo
  subst hsize
  subst hby
  have hsmall : n + m ≤ 9223372036854775807 := by simp only [maxLen] at h63; omega
  have hlen : (vs ++ news).length = (n + m) * i.size := by rw [List.length_append, hown.1, hl, Nat.add_mul]
  cases A with
  | none =>
    obtain rfl := hnil rfl
    have hm : m = 0 := by omega
    subst hm
    have hnw : news = [] := List.eq_nil_of_length_eq_zero (by simpa using hl)
    subst hnw
    have : w.ownsRow 0 e i.size v n vs := by
      refine ⟨hown.1, ?_⟩
      rcases hown.2 with h | ⟨g, cap, cur, e1, e2, e3, e4, e5, e6, -⟩
      · exact .inl h
      · exact .inr ⟨g, cap, cur, e1, Nat.zero_le _, e2, e3, e4, e5, e6⟩
    refine ⟨v, w, run_append_owned_none w 0 t ty e i i.size ht hi v n vs this, by simpa using hown, World.grownBy.refl w _, fun b h => .inl h, ?_⟩
    rcases hown.2 with ⟨h, -⟩ | ⟨g, cap, cur, e1, -⟩
    · exact ⟨_, _, _, h⟩
    · exact ⟨_, _, _, e1⟩
  | some a =>
    have hn' : ∀ j u, news[j]? = some u → w.cell? (a.add j) = some u := fun j u hj => by
      obtain ⟨ad, e1, e2⟩ := hn j u hj; cases e1; exact e2
    have grown : ∀ (old : Nat), old < n + m → ∀ (row : Option Nat),
        Row (w.drew.alloc (.cells (vs.toArray ++ news.toArray ++ Builtin.zeroCells z.cells (grownCap w (n + m) old e - (n + m))) e)) e i.size (.slice (some ⟨w.heap.size, 0, none⟩) (n + m) (grownCap w (n + m) old e)) (n + m) (vs ++ news) ni ∧
        w.grownBy (w.drew.alloc (.cells (vs.toArray ++ news.toArray ++ Builtin.zeroCells z.cells (grownCap w (n + m) old e - (n + m))) e)) row := by
      intro old ho row
      have hge := grownCap_ge w (n + m) old e
      refine ⟨⟨hlen, .inr ⟨w.heap.size, _, _, rfl, heap_alloc_new w.drew _, hge, grownCap_le_maxLen w (n + m) old e h63, ?_, ?_, fun hni u hu => ?_⟩⟩, ⟨rfl, rfl, rfl, by simp, fun b hb _ => heap_alloc_old w.drew _ hb⟩⟩
      · simp only [Array.size_append, List.size_toArray, size_zeroCells, hzs, hown.1, hl, ← Nat.add_mul]
        congr 1
        omega
      · simp only [Array.toList_append, List.append_assoc]
        rw [← List.append_assoc, ← hlen]
        exact List.take_left
      · simp only [Array.toList_append, List.mem_append] at hu
        rcases hu with (hu | hu) | hu
        · rcases hown.2 with ⟨-, h⟩ | ⟨g, cap, cur, -, -, -, -, -, e6, e7⟩
          · have : vs = [] := List.eq_nil_of_length_eq_zero (by rw [hown.1, h]; simp)
            rw [this] at hu; simp at hu
          · refine e7 hni u ?_
            rw [← e6] at hu
            exact List.mem_of_mem_take hu
        · exact hnn hni u hu
        · exact zeroCells_ni (hz hni) u hu
    rcases hown.2 with ⟨rfl, rfl⟩ | ⟨g, cap, cur, rfl, hg, hnc, hcm, hcs, htake, hcn⟩
    · have hx : vs = [] := List.eq_nil_of_length_eq_zero (by simpa using hown.1)
      subst hx
      by_cases hm : m = 0
      · subst hm
        have hnw : news = [] := List.eq_nil_of_length_eq_zero (by simpa using hl)
        subst hnw
        refine ⟨.slice none 0 0, w, ?_, by simpa using hown, World.grownBy.refl w _, fun b h => .inl h, _, _, _, rfl⟩
        simp [Builtin.append_, run_underlying ht, sizeOf, typeInfo, hi, Builtin.lenOf, Builtin.firstCells, loadCells, loadCellsFrom]
      · have hr := run_append_nil (P := P) w t ty e i z ht hi hiz a m c news hl hn' (by omega) (by omega) (by have hb := hbytes; simp only [Nat.zero_add] at hb; omega)
        have hgr := grown 0 (by omega) (blk (.slice none 0 0))
        simp only [Nat.zero_add, List.nil_append, Array.empty_append] at hgr ⊢
        exact ⟨_, _, hr, hgr.1, hgr.2, fun b h => by cases h; exact .inr (Nat.le_refl _), _, _, _, rfl⟩
    · by_cases hroom : n + m ≤ cap
      · have hfit : n * i.size + news.length ≤ cur.size := by rw [hl, hcs, ← Nat.add_mul]; exact Nat.mul_le_mul_right _ hroom
        have hr := run_append_room (P := P) w t ty e i ht hi g n cap cur hg a m c news hl hn' h1 hroom hfit
        refine ⟨_, _, hr, ⟨hlen, .inr ⟨g, cap, _, rfl, setRow_heap w g cur _ e _ hg, hroom, hcm, ?_, ?_, fun hni u hu => ?_⟩⟩, ⟨rfl, rfl, rfl, by simp, fun k _ hk => setRow_other w g k _ (fun e => hk (by simp [blk, e]))⟩, fun b h => .inl h, _, _, _, rfl⟩
        · simp only [List.size_toArray, List.length_append, List.length_take, List.length_drop, Array.length_toList]
          omega
        · rw [htake, ← hlen]
          exact List.take_left
        · simp only [List.mem_append] at hu
          rcases hu with (hu | hu) | hu
          · exact hcn hni u (List.mem_of_mem_take hu)
          · exact hnn hni u hu
          · exact hcn hni u (List.mem_of_mem_drop hu)
      · have holds : ∀ j u, vs[j]? = some u → w.cell? ((⟨g, 0, none⟩ : Addr).add j) = some u := fun j u hu => by
          rw [add_at, (show Bl w g e cur from hg).cell]
          rw [← htake, List.getElem?_take] at hu
          split at hu
          · simpa using hu
          · cases hu
        have hr := run_append_grow (P := P) w t ty e i z ht hi hiz ⟨g, 0, none⟩ n cap vs hown.1 holds a m c news hl hn' (by omega) (by omega) (growslice_fits (by omega) hbytes)
        have hgr := grown cap (by omega) (blk (.slice (some ⟨g, 0, none⟩) n cap))
        exact ⟨_, _, hr, hgr.1, hgr.2, fun b h => by cases h; exact .inr (Nat.le_refl _), _, _, _, rfl⟩
section
variable {Γ:Ctx} {σ:St} {o:Oper}
theorem sq_cells{O:Nat→Prop}{w:World}{k:Nat}{xs:List DV}{u:Value}(h:(DV.sq true k xs).rep O w u):∃A m c,u=.slice A m c∧m*k=xs.length∧m≤c∧m≤maxLen∧(A=none→c=0)∧∃news:List Value,news.length=xs.length∧DV.reps O w xs 0 (fun j v=>news[j]?=some v)∧∀j v,news[j]?=some v→∃ad,A=some ad∧¬O ad.block∧w.cell? (ad.add j)=some v:=by
 obtain⟨A,m,c,e,h1,h2,h3⟩:=h
 obtain⟨h4,h5,h6⟩:=h2 rfl
 obtain⟨news,h7,h8,h9⟩:=reps_row h3
 exact⟨A,m,c,e,h1,h4,h5,h6,news,h7,h8,fun j v hj=>by simpa using h9 j v hj⟩
theorem FS.app(J:Nat){s x:Operand}{t e:TypeId}{j k bytes:Nat}{ni:Bool}{cs xs:List DV}{z:Value}{R:St→Prop}(ho:o.op=.call { callee:=.builtin .append,args:=#[s,x],argTypes:=#[t,t] })(hs:σ.ev s=.c (.own j))(hx:σ.ev x=D (.sq true k xs))
  (hj:look σ.o j=some (.buf e k ni cs)) (ht:Γ.P.underlying t=some (.slice e)) (hinfo:(Γ.P.info? e).map (fun i=>(i.zero,i.size,i.bytes))=some (some z,k,bytes)) (hzs:z.cells.size=k) (hk:0 < k) (hz:ni=true→∀u∈z.cells.toList,noInt u=true)
  (hone:∀y∈xs,y.one=true) (hni:ni=true→∀y∈xs,y.ni=true) (hb1:0 < bytes) (hbytes:(cs.length+xs.length)*bytes≤140737488355328)
  (hJ:σ.nref J=true) (hd:inN Γ.n o.dst=true) (hR:R ((σ.add J (.buf e k ni (cs ++ xs)) (some j)).put o.dst (.c (.own J)))):FS Γ o σ R:=by
 rintro a w Q K ⟨ρ,h1,h2⟩ hK
 obtain⟨n,vs,e1,e2,e3⟩:=h1.os j _ hj
 obtain⟨A,m,c,f1,f2,f3,f4,f5,news,f6,f7,f8⟩:=sq_cells (h2.dv h1 hx)
 have hsv:a.eval s=ρ j:=by have:=h2.ev h1 s;rw[hs] at this;exact this.1
 have hjL:liveAt σ.o j:=⟨_,hj,rfl⟩
 have hnk:n*k=cs.length:=by rw[←e1.1,e2]
 have hle1:n≤cs.length:=by rw[←hnk];exact Nat.le_mul_of_pos_right n hk
 have hle2:m≤xs.length:=by rw[←f2];exact Nat.le_mul_of_pos_right m hk
 have hb:(n+m)*bytes≤140737488355328:=Nat.le_trans (Nat.mul_le_mul_right _ (by omega)) hbytes
 have hb2:n+m≤140737488355328:=Nat.le_trans (Nat.le_mul_of_pos_right _ hb1) hb
 obtain⟨v',w',g1,g2,g3,g4,g5⟩:=run_app (P:=Γ.P) w t o.type e z k bytes ht hinfo hzs hk ni hz (ρ j) n vs e1 A m c news f5 f3 (by rw[f6,f2]) (fun j v hj=>by obtain⟨ad,q1,-, q2⟩:=f8 j v hj;exact⟨ad,q1,q2⟩)
  (reps_all f7 f6 hone fun x v=>DV.one_rep) (fun hn=>reps_all f7 f6 (hni hn) fun x v=>DV.ni_rep) (by unfold maxLen;omega) hb
 have hrun:(execOp a.eval o).run Γ.P w=.ok (.value v') w':=by
  unfold execOp
  simp only[ho,resolve,invoke,builtin,Sem.run_bind,Sem.run_pure,Result.andThen_ok,List.map_toArray,List.map_cons,List.map_nil,hsv,f1,g1]
 obtain⟨q1,q2⟩:=h1.swap h2 J hJ v' (.buf e k ni (cs ++ xs)) (some j) (blk (ρ j)) g3 (fun b hb=>⟨j,rfl,hjL,hb⟩) rfl g4 fun O' hoff hO _=>by
  refine⟨n+m,vs ++ news,by rw[show updρ ρ J v' J=v' by simp[updρ]];exact g2,by simp[e2,f6],reps_app e2 (DV.reps_keep hoff hO _ 0 _ _ e3 fun _ _ h=>h) (DV.reps_keep hoff hO _ 0 _ _ f7 fun _ _ h=>h)⟩
 refine wp_val hrun (hK _ _ _ hR ⟨updρ ρ J v',by rw[St.put_o];exact q1,q2.put ?_ _ hd⟩)
 exact⟨by simp[updρ],g5⟩
theorem FS.app0(J:Nat)(ni:Bool){s x:Operand}{t e:TypeId}{k bytes:Nat}{xs:List DV}{z:Value}{R:St→Prop}(ho:o.op=.call { callee:=.builtin .append,args:=#[s,x],argTypes:=#[t,t] })(hs:σ.ev s=L (.slice none 0 0))(hx:σ.ev x=D (.sq true k xs))
  (ht:Γ.P.underlying t=some (.slice e)) (hinfo:(Γ.P.info? e).map (fun i=>(i.zero,i.size,i.bytes))=some (some z,k,bytes)) (hzs:z.cells.size=k) (hk:0 < k) (hz:ni=true→∀u∈z.cells.toList,noInt u=true)
  (hone:∀y∈xs,y.one=true) (hni:ni=true→∀y∈xs,y.ni=true) (hb1:0 < bytes) (hbytes:xs.length*bytes≤140737488355328)
  (hJ:σ.nref J=true) (hd:inN Γ.n o.dst=true) (hR:R ((σ.add J (.buf e k ni xs) none).put o.dst (.c (.own J)))):FS Γ o σ R:=by
 rintro a w Q K ⟨ρ,h1,h2⟩ hK
 obtain⟨A,m,c,f1,f2,f3,f4,f5,news,f6,f7,f8⟩:=sq_cells (h2.dv h1 hx)
 have hsv:a.eval s=.slice none 0 0:=h2.lit h1 hs
 have hle2:m≤xs.length:=by rw[←f2];exact Nat.le_mul_of_pos_right m hk
 have hb:(0+m)*bytes≤140737488355328:=Nat.le_trans (Nat.mul_le_mul_right _ (by omega)) hbytes
 have hb2:0+m≤140737488355328:=Nat.le_trans (Nat.le_mul_of_pos_right _ hb1) hb
 obtain⟨v',w',g1,g2,g3,g4,g5⟩:=run_app (P:=Γ.P) w t o.type e z k bytes ht hinfo hzs hk ni hz (.slice none 0 0) 0 [] ⟨by simp,.inl ⟨rfl,rfl⟩⟩ A m c news f5 f3 (by rw[f6,f2]) (fun j v hj=>by obtain⟨ad,q1,-, q2⟩:=f8 j v hj;exact⟨ad,q1,q2⟩)
  (reps_all f7 f6 hone fun x v=>DV.one_rep) (fun hn=>reps_all f7 f6 (hni hn) fun x v=>DV.ni_rep) (by unfold maxLen;omega) hb
 have hrun:(execOp a.eval o).run Γ.P w=.ok (.value v') w':=by
  unfold execOp
  simp only[ho,resolve,invoke,builtin,Sem.run_bind,Sem.run_pure,Result.andThen_ok,List.map_toArray,List.map_cons,List.map_nil,hsv,f1,g1]
 obtain⟨q1,q2⟩:=h1.swap h2 J hJ v' (.buf e k ni xs) none none g3 (fun b hb=>by cases hb) rfl (fun b hb=>by rcases g4 b hb with h|h;cases h;exact .inr h) fun O' hoff hO _=>by
  refine⟨0+m,news,by rw[show updρ ρ J v' J=v' by simp[updρ]];exact g2,f6,DV.reps_keep hoff hO _ 0 _ _ f7 fun _ _ h=>h⟩
 refine wp_val hrun (hK _ _ _ hR ⟨updρ ρ J v',by rw[St.put_o];exact q1,q2.put ?_ _ hd⟩)
 exact⟨by simp[updρ],g5⟩
theorem FS.make(J:Nat)(ni:Bool){x y:Operand}{t e:TypeId}{bytes l c:Nat}{kl kc:IntKind}{z:Value}{R:St→Prop}(ho:o.op=.makeSlice t x y)(hx:σ.ev x=L (.int kl l))(hy:σ.ev y=L (.int kc c))(hlc:l≤c)
  (ht:Γ.P.underlying t=some (.slice e)) (hinfo:(Γ.P.info? e).map (fun i=>(i.zero,i.size,i.bytes))=some (some z,1,bytes)) (hzs:z.cells = #[z]) (hz:ni=true→noInt z=true) (hb0:0 < bytes) (hb:c≤16777216) (hb1:c*bytes≤281474976710656)
  (hJ:σ.nref J=true) (hd:inN Γ.n o.dst=true) (hR:R ((σ.add J (.buf e 1 ni (List.replicate l (.lit z))) none).put o.dst (.c (.own J)))):FS Γ o σ R:=by
 rintro a w Q K ⟨ρ,h1,h2⟩ hK
 obtain⟨i,hi,hiz,hsize,hby⟩:=info_of hinfo
 have hr:=run_makeSlice (P:=Γ.P) w t e i z ht hi hiz kl kc (l:Int) (c:Int) (by omega) (by omega) (by rw[hsize,Int.toNat_natCast,Nat.mul_one];exact hb) (by rw[hby,←Int.natCast_mul,Nat.mul_comm];omega) (by omega)
 simp only[Int.toNat_natCast,hsize,Nat.mul_one] at hr
 have hrun:(execOp a.eval o).run Γ.P w=.ok (.value (.slice (some ⟨w.heap.size,0,none⟩) l c)) (w.alloc (.cells (madeCells z.cells c) e)):=by
  unfold execOp
  simp only[ho,Sem.run_bind,Sem.run_pure,Result.andThen_ok,h2.lit h1 hx,h2.lit h1 hy,hr]
 have hmc:(madeCells z.cells c).toList=List.replicate c z:=by rw[hzs];exact toList_madeCells_one z c
 obtain⟨q1,q2⟩:=h1.swap h2 J hJ (.slice (some ⟨w.heap.size,0,none⟩) l c) (.buf e 1 ni (List.replicate l (.lit z))) none none (World.grownBy_alloc w (.cells (madeCells z.cells c) e) none) (fun b hb=>by cases hb) rfl (fun b hb=>by cases hb;exact .inr (Nat.le_refl _)) fun O' hoff hO _=>by
  refine⟨l,List.replicate l z,?_,by simp,reps_iff.2 fun j x hj=>?_⟩
  ·rw[show updρ ρ J (.slice (some ⟨w.heap.size,0,none⟩) l c) J=.slice (some ⟨w.heap.size,0,none⟩) l c by simp[updρ]]
   refine⟨by simp,.inr ⟨w.heap.size,c,madeCells z.cells c,rfl,Bl.new_ w e _,hlc,by unfold maxLen;omega,by rw[size_madeCells,Nat.mul_one],?_,fun hn u hu=>?_⟩⟩
   ·rw[hmc,Nat.mul_one,List.take_replicate,Nat.min_eq_left hlc]
   ·rw[hmc] at hu;rw[List.eq_of_mem_replicate hu];exact hz hn
  rw[List.getElem?_replicate] at hj
  split at hj
  ·cases hj
   exact⟨z,by rw[Nat.zero_add,List.getElem?_replicate,if_pos (by assumption)],rfl⟩
  ·cases hj
 refine wp_val hrun (hK _ _ _ hR ⟨updρ ρ J (.slice (some ⟨w.heap.size,0,none⟩) l c),by rw[St.put_o];exact q1,q2.put ?_ _ hd⟩)
 exact⟨by simp[updρ],_,_,_,rfl⟩
end
end Go.Proofs.YtoibhnpmemnlfaaGreatDoor.Av
namespace Go.Proofs.YtoibhnpmemnlfaaGreatDoor.Av
open Go.RowKit Go.Proofs.YtoibhnpmemnlfaaGreatDoor.Gn Go.Deep
theorem cells_one{v:Value}(h:v.oneCell'=true):v.cells = #[v]:=by cases v <;> first|rfl|cases h
section
variable {P:Program}
theorem run_storeVar_one(w:World)(ty:TypeId)(g off:Nat)(t:TypeId)(cs:Array Value)(hb:Bl w g t cs)(ho:off < cs.size)(v:Value)(h1:v.oneCell'=true)(hi:(P.info? ty).map (·.size)=some 1) :
  (storeVar ty ⟨g,off,none⟩ v).run P w=.ok () (w.setCell ⟨g,off,none⟩ v):=by
 cases hq:P.info? ty with
 |none=>rw[hq] at hi;cases hi
 |some i =>
  have hs:i.size=1:=by rw[hq] at hi;simpa using hi
  have hst:(storeCells (⟨g,off,none⟩:Addr) [v]).run P w=.ok () (w.setCell ⟨g,off,none⟩ v):=by
   have hc:w.cell? ⟨g,off,none⟩=some cs[off]:=by rw[hb.cell];exact Array.getElem?_eq_getElem ho
   have hf:w.frozen? ⟨g,off,none⟩=false:=by
    unfold World.frozen?;unfold Bl at hb;simp[hb]
   have h0:(⟨g,off,none⟩:Addr).add 0=⟨g,off,none⟩:=by unfold Addr.add;rw[if_pos rfl]
   simp only[storeCells,Sem.run_bind,h0,run_store P w _ v _ h1,hc,hf]
   rfl
  unfold storeVar
  simp only[sizeOf,typeInfo,Sem.run_bind,cells_one h1]
  simp[hq,hs,hst]
end
section
variable {Γ:Ctx} {σ:St} {o:Oper}
theorem FS.storeB{x y:Operand}{T t:TypeId}{j off k:Nat}{ni:Bool}{cs:List DV}{c:DV}{R:St→Prop}(ho:o.op=.store T x y)(hx:σ.ev x=.c (.ptr j off))(hy:σ.ev y=D c)(hj:look σ.o j=some (.buf t k ni cs))(hoff:off < cs.length)(hc:c.one=true)(hn:ni=true→c.ni=true)
  (hi:(Γ.P.info? T).map (·.size)=some 1) (hd:inN Γ.n o.dst=true) (hR:R ((⟨σ.t,(j,.buf t k ni (cs.set off c)) :: σ.o⟩:St).put o.dst (.c .any))):FS Γ o σ R:=by
 rintro a w Q K ⟨ρ,h1,h2⟩ hK
 have h3:=h2.ev h1 x
 rw[hx] at h3
 obtain⟨g,hg,e2⟩:=h3
 obtain⟨n,vs,e3,e5,e6⟩:=h1.os j _ hj
 have h4:=h2.dv h1 hy
 have hv:=DV.one_rep hc h4
 obtain⟨q0,q⟩:=e3
 rcases q with⟨q,-⟩|⟨g',cap,cur,q,q3,q4,q5,q6,q7,q8⟩
 ·rw[q] at hg;cases hg
 have hg2:blk (ρ j)=some g':=by rw[q];rfl
 rw[hg] at hg2;cases hg2
 have hlt:off < cur.size:=by
  have:(cur.toList.take (n*k)).length=vs.length:=by rw[q7]
  simp at this;omega
 have hrun:(execOp a.eval o).run Γ.P w=.ok .skip (w.setCell ⟨g,off,none⟩ (a.eval y)):=by
  unfold execOp
  simp only[ho,e2,Instr.storeAt,Instr.sureAddr,Sem.run_bind,Sem.run_pure,Result.andThen_ok,run_storeVar_one (P:=Γ.P) w T g off t cur q3 hlt (a.eval y) hv hi]
 have hgr:w.grownBy (w.setCell ⟨g,off,none⟩ (a.eval y)) (some g):=only_set (World.grownBy.refl w _) (.inl rfl) _
 obtain⟨r1,r2⟩:=h1.store h2 j g (.buf t k ni (cs.set off c)) ⟨_,hj,rfl⟩ hg hgr rfl fun hoffs=>by
  refine⟨n,vs.set off (a.eval y),⟨by simpa using q0,.inr ⟨g,cap,cur.setIfInBounds off (a.eval y),q,q3.set_ off _,q4,q5,by simpa using q6,?_,fun hni u hu=>?_⟩⟩,by simpa using e5,reps_iff.2 fun i z hz=>?_⟩
  ·rw[Array.toList_setIfInBounds,←q7,List.take_set]
  ·rw[Array.toList_setIfInBounds] at hu
   rcases List.mem_or_eq_of_mem_set hu with h|h
   ·exact q8 hni u h
   ·rw[h];exact DV.ni_rep (hn hni) h4
  ·rw[List.getElem?_set] at hz
   rw[Nat.zero_add,List.getElem?_set]
   split at hz
   ·rename_i e;subst e
    ·cases hz
     exact⟨a.eval y,by rw[if_pos rfl,if_pos (by omega)],DV.rep_keep hoffs (fun _ h _=>h) c _ h4⟩
   ·rename_i e
    obtain⟨v,h5,h6⟩:=reps_iff.1 e6 i z hz
    rw[Nat.zero_add] at h5
    exact⟨v,by rw[if_neg e];exact h5,DV.rep_keep hoffs (fun _ h _=>h) z v h6⟩
 exact Gn.wp_skip hrun (hK _ _ _ hR ⟨ρ,by rw[St.put_o];exact r1,r2.put (by trivial) _ hd⟩)
theorem FS.storeR{x y:Operand}{T t:TypeId}{j:Nat}{cs:List Cl}{xs:List DV}{R:St→Prop}(ho:o.op=.store T x y)(hx:σ.ev x=.c (.ptr j 0))(hy:σ.ev y=D (.agg xs))(hj:look σ.o j=some (.var t cs))(hl:cs.length=xs.length)(hc:∀z∈xs,z.one=true)
  (hi:(Γ.P.info? T).map (·.size)=some xs.length) (hd:inN Γ.n o.dst=true) (hR:R ((⟨σ.t,(j,.var t (xs.map .dv)) :: σ.o⟩:St).put o.dst (.c .any))):FS Γ o σ R:=by
 rintro a w Q K ⟨ρ,h1,h2⟩ hK
 have h3:=h2.ev h1 x
 rw[hx] at h3
 obtain⟨g,e1,e2⟩:=h3
 obtain⟨g',vs,e3,e4,e5,e6⟩:=h1.os j _ hj
 have hg:blk (ρ j)=some g:=e1
 rw[e3] at e1;cases e1
 obtain⟨us,f1,f2,f3⟩:=h2.dv h1 hy
 have hone:∀u∈us.toList,u.oneCell'=true:=reps_all (vs:=us.toList) (reps_iff.2 fun i z hz=>by
  obtain⟨v,h5,h6⟩:=reps_iff.1 f3 i z hz;exact⟨v,by simpa using h5,h6⟩) (by simpa using f2) hc fun z v=>DV.one_rep
 refine wp_store_bl T x y ho g' 0 us e2 f1 t vs e4 (by omega) (by rw[hi,f2]) hone fun w' hb hgr=>?_
 rw[spl_all _ _ (by simp;omega)] at hb
 obtain⟨q1,q2⟩:=h1.store h2 j g' (.var t (xs.map .dv)) ⟨_,hj,rfl⟩ hg hgr rfl fun hoffs=>by
  refine⟨g',us,e3,by simpa using hb,by simpa using f2,fun i z hz=>?_⟩
  rw[List.getElem?_map] at hz
  cases hq:xs[i]? with
  |none=>rw[hq] at hz;cases hz
  |some z' =>
   rw[hq] at hz;cases hz
   obtain⟨v,h5,h6⟩:=reps_iff.1 f3 i z' hq
   rw[Nat.zero_add] at h5
   exact⟨v,h5,DV.rep_keep hoffs (fun _ h _=>h) z' v h6⟩
 exact hK _ _ _ hR ⟨ρ,by rw[St.put_o];exact q1,q2.put (by trivial) _ hd⟩
theorem FS.alloc(J:Nat){T:TypeId}{z:Value}{R:St→Prop}(ho:o.op=.alloc T)(hz:(Γ.P.info? T).map (·.zero)=some (some z))(hJ:σ.nref J=true)(hd:inN Γ.n o.dst=true)(hR:R ((σ.add J (.var T (z.cells.toList.map fun v=>.dv (.lit v))) none).put o.dst (.c (.ptr J 0)))):FS Γ o σ R:=by
 rintro a w Q K ⟨ρ,h1,h2⟩ hK
 have hrun:(execOp a.eval o).run Γ.P w=.ok (.value (.pointer (some ⟨w.heap.size,0,none⟩))) (w.alloc (.cells z.cells T)):=by
  cases hq:Γ.P.info? T with
  |none=>rw[hq] at hz;cases hz
  |some i =>
   have hiz:i.zero=some z:=by rw[hq] at hz;simpa using hz
   unfold execOp
   simp[ho,Instr.alloc,zeroValue,typeInfo,hq,hiz,newVar,newRow]
 obtain⟨q1,q2⟩:=h1.swap h2 J hJ (.pointer (some ⟨w.heap.size,0,none⟩)) (.var T (z.cells.toList.map fun v=>.dv (.lit v))) none none (World.grownBy_alloc w (.cells z.cells T) none) (fun b hb=>by cases hb) rfl (fun b hb=>by cases hb;exact .inr (Nat.le_refl _)) fun O' hoff hO _=>by
  refine⟨w.heap.size,z.cells,by simp[updρ],Bl.new_ w T _,by simp,fun i y hy=>?_⟩
  rw[List.getElem?_map,Array.getElem?_toList] at hy
  cases hq:z.cells[i]? with
  |none=>rw[hq] at hy;cases hy
  |some v=>rw[hq] at hy;cases hy;exact⟨v,hq,rfl⟩
 refine wp_val hrun (hK _ _ _ hR ⟨updρ ρ J (.pointer (some ⟨w.heap.size,0,none⟩)),by rw[St.put_o];exact q1,q2.put ?_ _ hd⟩)
 exact⟨w.heap.size,by simp[updρ,blk],rfl⟩
theorem FS.storeH{x y:Operand}{T t:TypeId}{j k:Nat}{cs:List Cl}{d:DV}{R:St→Prop}(ho:o.op=.store T x y)(hx:σ.ev x=.c (.ptr j 0))(hy:σ.ev y=D d)(hj:look σ.o j=some (.var t cs))(hl:cs.length=k)
  (hc:∀O w v,d.rep O w v→∃us:Array Value,v=.agg us∧us.size=k∧∀u∈us.toList,u.oneCell'=true) (hi:(Γ.P.info? T).map (·.size)=some k) (hd:inN Γ.n o.dst=true) (hR:R ((⟨σ.t,(j,.whole false t d) :: (j,.whole true t d) :: σ.o⟩:St).put o.dst (.c .any))):FS Γ o σ R:=by
 rintro a w Q K ⟨ρ,h1,h2⟩ hK
 have h3:=h2.ev h1 x
 rw[hx] at h3
 obtain⟨g,e1,e2⟩:=h3
 obtain⟨g',vs,e3,e4,e5,e6⟩:=h1.os j _ hj
 have hg:blk (ρ j)=some g:=e1
 rw[e3] at e1;cases e1
 have hd':=h2.dv h1 hy
 obtain⟨us,f1,f2,hone⟩:=hc _ _ _ hd'
 refine wp_store_bl T x y ho g' 0 us e2 f1 t vs e4 (by omega) (by rw[hi,f2]) hone fun w' hb hgr=>?_
 rw[spl_all _ _ (by simp;omega)] at hb
 obtain⟨q1,q2⟩:=h1.store h2 j g' (.whole true t d) ⟨_,hj,rfl⟩ hg hgr rfl fun hoffs=>by
  refine⟨g',us,e3,(fun h=>by cases h),by simpa using hb,?_⟩
  rw[←f1]
  exact DV.rep_keep hoffs (fun _ h _=>h) d _ hd'
 obtain⟨ρ',q3,q4⟩:=Mt.hold (t:=σ.t) (ob:=(j,.whole true t d) :: σ.o) (a:=a) (w:=w') ⟨ρ,q1,q2⟩ (j:=j) (ty:=t) (x:=d) (by rw[look_cons,if_pos rfl])
 exact hK _ _ _ hR ⟨ρ',by rw[St.put_o];exact q3,q4.put (by trivial) _ hd⟩
theorem PS.loadH{x:Operand}{T t:TypeId}{m:Bool}{j k:Nat}{d:DV}{ty:TypeDesc}(ho:o.op=.load T x)(hx:σ.ev x=.c (.ptr j 0))(hj:look σ.o j=some (.whole m t d))(hc:∀O w vs,d.rep O w (.agg vs)→vs.size=k)
  (hu:Γ.P.underlying T=some ty) (hd:ty.isRow=true) (hi:(Γ.P.info? T).map (·.size)=some k):PS Γ o σ (D d) :=
 PS.read _ fun ρ a w h1 h2=>by
  have h3:=h2.ev x (by simp[ho,Op.operands])
  rw[hx] at h3
  obtain⟨g,e1,e2⟩:=h3
  obtain⟨g',vs,e3,-, e4,e6⟩:=h1.os j _ hj
  rw[e3] at e1;cases e1
  have hk:=hc _ _ _ e6
  have hl:(vs.extract 0 (0+k)).toList.length=k:=by rw[Array.length_toList];simp;omega
  have hv:vs.extract 0 (0+k)=vs:=by rw[Nat.zero_add,←hk,Array.extract_size]
  have hr:w.rangeAt g' 0 (vs.extract 0 (0+k)).toList:=World.rangeAt_of_block e4 0 k
  refine⟨.agg vs,?_,e6⟩
  unfold execOp
  simp only[ho,e2,Instr.loadAt,Instr.sureAddr,Sem.run_bind,Sem.run_pure,Result.andThen_ok,run_loadVar_mid w g' 0 T (vs.extract 0 (0+k)).toList ty hr hu hd (by rw[hl];exact hi),Array.toArray_toList,hv]
theorem FS.imp{R R':St→Prop}(h:FS Γ o σ R')(k:∀σ',R' σ'→∃σ'',R σ''∧∀a w,Mt Γ σ' a w→Mt Γ σ'' a w):FS Γ o σ R:=fun a w Q K hM hK =>
 h a w Q K hM fun σ' v w' hl hM'=>by
  obtain⟨σ'',h1,h2⟩:=k σ' hl
  exact hK σ'' v w' h1 (h2 _ _ hM')
theorem FS.boxW(J:Nat){T:TypeId}{x:Operand}{d:DV}{R:St→Prop}(ho:o.op=.box T x)(hx:σ.ev x=D d)(hc:∀O w v,d.rep O w v→∃us:Array Value,v=.agg us)(hJ:σ.nref J=true)(hd:inN Γ.n o.dst=true)(hR:R ((σ.add J (.whole true T d) none).put o.dst (.c (.ptr J 0)))):FS Γ o σ R:=by
 rintro a w Q K ⟨ρ,h1,h2⟩ hK
 have f3:=h2.dv h1 hx
 obtain⟨us,f1⟩:=hc _ _ _ f3
 have hrun:(execOp a.eval o).run Γ.P w=.ok (.value (.pointer (some ⟨w.heap.size,0,none⟩))) (w.alloc (.cells us T)):=by
  unfold execOp
  simp[ho,Instr.box,newVar,newRow,f1,Value.cells]
 obtain⟨q1,q2⟩:=h1.swap h2 J hJ (.pointer (some ⟨w.heap.size,0,none⟩)) (.whole true T d) none none (World.grownBy_alloc w (.cells us T) none) (fun b hb=>by cases hb) rfl (fun b hb=>by cases hb;exact .inr (Nat.le_refl _)) fun O' hoff hO _=>by
  refine⟨w.heap.size,us,by simp[updρ],(fun h=>by cases h),Bl.new_ w T _,?_⟩
  rw[←f1]
  exact DV.rep_keep hoff hO d _ f3
 refine wp_val hrun (hK _ _ _ hR ⟨updρ ρ J (.pointer (some ⟨w.heap.size,0,none⟩)),by rw[St.put_o];exact q1,q2.put ?_ _ hd⟩)
 exact⟨w.heap.size,by simp[updρ,blk],rfl⟩
end
end Go.Proofs.YtoibhnpmemnlfaaGreatDoor.Av
namespace Go.Proofs.YtoibhnpmemnlfaaGreatDoor.Av
open Go.RowKit Go.Proofs.YtoibhnpmemnlfaaGreatDoor.Gn Go.Deep
section
variable {P:Program}
theorem fill_ones(place:Nat→Option (Nat × Nat)):∀(parts:List (Nat × Value)) (offs:List Nat) (cells:Array Value),parts.map (fun p=>place p.1)=offs.map (fun off=>some (off,1))→(∀off∈offs,off < cells.size)→(∀p∈parts,p.2.oneCell'=true) →
  Instr.fill place cells parts=some ((offs.zip (parts.map (·.2))).foldl (fun cs q=>cs.setIfInBounds q.1 q.2) cells):=by
 intro parts
 induction parts with
 |nil=>intro offs cells h1 h2 h3;cases offs <;> first|rfl|cases h1
 |cons p parts ih =>
  intro offs cells h1 h2 h3
  cases offs with
  |nil=>cases h1
  |cons off offs =>
   obtain⟨i,v⟩:=p
   simp only[List.map_cons,List.cons.injEq] at h1
   have hv:v.cells = #[v]:=cells_one (h3 (i,v) List.mem_cons_self)
   have hlt:=h2 off List.mem_cons_self
   unfold Instr.fill
   simp only[h1.1]
   rw[hv,if_neg (by simp;omega)]
   simp only[List.zip_cons_cons,List.map_cons,List.foldl_cons]
   have e:(#[v].zipIdx.foldl (fun cs (q:Value × Nat)=>cs.setIfInBounds (off+q.2) q.1) cells)=cells.setIfInBounds off v:=by simp
   rw[e]
   exact ih offs _ h1.2 (fun o ho=>by simpa using h2 o (List.mem_cons_of_mem _ ho)) (fun q hq=>h3 q (List.mem_cons_of_mem _ hq))
def setAll(cs:List DV):List (Nat × DV)→List DV
 | []=>cs
 |q :: r=>setAll (cs.set q.1 q.2) r
theorem setAll_rep{O:Nat→Prop}{w:World}:∀(offs:List Nat) (vs:List Value) (xs:List DV) (cells:Array Value) (cs:List DV),cells.size=cs.length→DV.reps O w cs 0 (fun i v=>cells[i]?=some v)→vs.length=xs.length→DV.reps O w xs 0 (fun i v=>vs[i]?=some v) →
  ((offs.zip vs).foldl (fun cs q=>cs.setIfInBounds q.1 q.2) cells).size=(setAll cs (offs.zip xs)).length∧DV.reps O w (setAll cs (offs.zip xs)) 0 (fun i v=>((offs.zip vs).foldl (fun cs q=>cs.setIfInBounds q.1 q.2) cells)[i]?=some v):=by
 intro offs
 induction offs with
 |nil=>intro vs xs cells cs h1 h2 _ _;exact⟨by simpa[setAll] using h1,by simpa[setAll] using h2⟩
 |cons off offs ih =>
  intro vs xs cells cs h1 h2 h3 h4
  cases vs with
  |nil=>cases xs with
   |nil=>exact⟨by simpa[setAll] using h1,by simpa[setAll] using h2⟩
   |cons x xs=>cases h3
  |cons v vs=>cases xs with
   |nil=>cases h3
   |cons x xs =>
    simp only[List.zip_cons_cons,List.foldl_cons,setAll]
    obtain⟨⟨v',e1,e2⟩,h5⟩:=h4
    simp only[List.getElem?_cons_zero,Option.some.injEq] at e1
    subst e1
    refine ih vs xs _ _ (by simpa using h1) (reps_iff.2 fun i z hz=>?_) (by simpa using h3) (reps_iff.2 fun i z hz=>?_)
    ·rw[List.getElem?_set] at hz
     rw[Nat.zero_add,Array.getElem?_setIfInBounds]
     split at hz
     ·rename_i e;subst e
      split at hz
      ·cases hz
       exact⟨v,by rw[if_pos rfl,if_pos (by omega)],e2⟩
      ·cases hz
     ·rename_i e
      obtain⟨u,h6,h7⟩:=reps_iff.1 h2 i z hz
      rw[Nat.zero_add] at h6
      exact⟨u,by rw[if_neg e];exact h6,h7⟩
    ·obtain⟨u,h6,h7⟩:=reps_iff.1 h5 i z hz
     exact⟨u,by rw[show 0+1+i=i+1 by omega] at h6;rw[Nat.zero_add];simpa using h6,h7⟩
end
theorem run_places{P:Program}{w:World}(fs:List Field)(hsz:(fs.all fun f=>(P.info? f.type).isSome)=true):(fs.toArray.mapM fun(f:Field)=>(do pure (f.offset,←sizeOf f.type):Sem (Nat × Nat))).run P w=.ok (fs.map fun f=>(f.offset,((P.info? f.type).map (·.size)).getD 0)).toArray w:=by
 have key:∀l:List Field,(l.all fun f=>(P.info? f.type).isSome)=true→(l.mapM fun(f:Field)=>(do pure (f.offset,←sizeOf f.type):Sem (Nat × Nat))).run P w=.ok (l.map fun f=>(f.offset,((P.info? f.type).map (·.size)).getD 0)) w:=by
  intro l
  induction l with
  |nil=>intro _;rfl
  |cons f l ih =>
   intro hl
   simp only[List.all_cons,Bool.and_eq_true] at hl
   obtain⟨i,hi⟩:=Option.isSome_iff_exists.1 hl.1
   have h1:(do pure (f.offset,←sizeOf f.type):Sem (Nat × Nat)).run P w=.ok (f.offset,i.size) w:=by simp[sizeOf,typeInfo,hi]
   rw[List.mapM_cons,Sem.run_bind,h1,Result.andThen_ok,Sem.run_bind,ih hl.2,Result.andThen_ok,Sem.run_pure]
   simp[hi]
 rw[List.mapM_toArray]
 have:(List.toArray <$> (fs.mapM fun(f:Field)=>(do pure (f.offset,←sizeOf f.type):Sem (Nat × Nat)))).run P w=.ok (fs.map fun f=>(f.offset,((P.info? f.type).map (·.size)).getD 0)).toArray w:=by
  rw[map_eq_pure_bind,Sem.run_bind,key fs hsz,Result.andThen_ok,Sem.run_pure]
 exact this
section
variable {Γ:Ctx} {σ:St} {o:Oper}
theorem evs_rep{ρ:Nat→Value}{a:Act}{w:World}(h2:Fo Γ σ ρ o a w){ps:List Operand}{xs:List DV}(hx:ps.map σ.ev=xs.map (fun x=>D x))(hm:∀x∈ps,x∈o.op.operands):DV.reps (OO Γ.O0 σ.o ρ) w xs 0 (fun i v=>(ps.map a.eval)[i]?=some v):=reps_iff.2 fun j x hj=>by
 have hl:ps.length=xs.length:=by simpa using congrArg List.length hx
 have hjl:j < ps.length:=by have:=(List.getElem?_eq_some_iff.1 hj).1;omega
 refine⟨a.eval ps[j],by simp[hjl],?_⟩
 have h3:=h2.ev ps[j] (hm _ (List.getElem_mem hjl))
 have h4:σ.ev ps[j]=D x:=by
  have:=congrArg (fun l=>l[j]?) hx
  simpa[hjl,hj] using this
 rw[h4] at h3
 exact h3
theorem PS.build {T : TypeId} {parts : List (Nat × Operand)} {fs : List Field} {zs : List Value} {xs : List DV} (offs : List Nat) (ys : List DV) (ho : o.op = .build T parts.toArray) (hx : (parts.map (·.2)).map σ.ev = xs.map (fun x => D x)) (hu : Γ.P.underlying T = some (.struct fs.toArray))
    (hz : (Γ.P.info? T).map (·.zero) = some (some (.agg zs.toArray))) (hof : parts.map (fun p => ((fs.map fun f => (f.offset, (Γ.P.info? f.type).map (·.size)))[p.1]?)) = offs.map (fun off => some (off, some 1))) (hin : offs.all (Nat.blt · zs.length) = true) (hone : xs.all DV.one = true)
    (hsz : (fs.all fun f => (Γ.P.info? f.type).isSome) = true) (hys : setAll (zs.map .lit) (offs.zip xs) = ys) : PS Γ o σ (D (.agg ys)) := by
  subst hys
  refine PS.read _ fun ρ a w h1 h2 => ?_
  have hev := evs_rep h2 hx (fun x hx => by simp [ho, Op.operands]; simpa using hx)
  have hl : parts.length = xs.length := by simpa using congrArg List.length hx
  have hvl : ((parts.map (·.2)).map a.eval).length = xs.length := by simpa using hl
  obtain ⟨q1, q2⟩ := setAll_rep (O := OO Γ.O0 σ.o ρ) (w := w) offs ((parts.map (·.2)).map a.eval) xs zs.toArray (zs.map .lit) (by simp) (reps_iff.2 fun i x hi => by
    rw [List.getElem?_map] at hi
    cases hq : zs[i]? with
    | none => rw [hq] at hi; cases hi
    | some v => rw [hq] at hi; cases hi; exact ⟨v, by simpa using hq, rfl⟩) hvl hev
  refine ⟨.agg _, ?_, _, rfl, q1, q2⟩
  have hmap := run_places (P := Γ.P) (w := w) fs hsz
  have hzr : (zeroValue T).run Γ.P w = .ok (.agg zs.toArray) w := by
    cases hq : Γ.P.info? T with
    | none => rw [hq] at hz; cases hz
    | some i => rw [hq] at hz; simp at hz; simp [zeroValue, typeInfo, hq, hz]
  have hone' : ∀ v ∈ (parts.map (·.2)).map a.eval, v.oneCell' = true := reps_all hev hvl (fun x hx => List.all_eq_true.1 hone x hx) fun x v => DV.one_rep
  have hfill := fill_ones (fun i => ((fs.map fun f => (f.offset, ((Γ.P.info? f.type).map (·.size)).getD 0)).toArray[i]?)) (parts.map fun p => (p.1, a.eval p.2)) offs zs.toArray (by
      rw [List.map_map]
      apply List.ext_getElem?
      intro i
      have h3 := congrArg (fun l => l[i]?) hof
      simp only [List.getElem?_map] at h3 ⊢
      cases hp : parts[i]? with
      | none => rw [hp] at h3; cases hof2 : offs[i]? with
        | none => rfl
        | some off => rw [hof2] at h3; cases h3
      | some p =>
        rw [hp] at h3
        cases hof2 : offs[i]? with
        | none => rw [hof2] at h3; simp at h3
        | some off =>
          rw [hof2] at h3
          simp only [Option.map_some, Option.some.injEq] at h3 ⊢
          cases hf : fs[p.1]? with
          | none => rw [hf] at h3; simp at h3
          | some f =>
            rw [hf] at h3
            simp at h3
            obtain ⟨e1, i', e2, e3⟩ := h3
            simp [hf, e1, e2, e3])
    (fun off ho => by have := Nat.le_of_ble_eq_true (List.all_eq_true.1 hin off ho); simp; omega) (fun p hp => by
      obtain ⟨q, hq, rfl⟩ := List.mem_map.1 hp
      exact hone' _ (by simp only [List.mem_map]; exact ⟨q.2, ⟨q, hq, rfl⟩, rfl⟩))
  have hpm : ((parts.map fun p => (p.1, a.eval p.2)).map (·.2)) = (parts.map (·.2)).map a.eval := by simp [Function.comp_def]
  rw [hpm] at hfill
  unfold execOp
  simp only [ho, Instr.build, Sem.run_bind, Sem.run_pure, Result.andThen_ok, hzr, Value.cells, run_underlying hu, hmap, List.map_toArray, hfill]
end
end Go.Proofs.YtoibhnpmemnlfaaGreatDoor.Av
namespace Go.Proofs.YtoibhnpmemnlfaaGreatDoor.Av
open Go.RowKit Go.Proofs.YtoibhnpmemnlfaaGreatDoor.Gn Go.Deep
section
variable {Γ:Ctx} {σ:St} {o:Oper}
theorem PS.len{x:Operand}{T e:TypeId}{r:Bool}{k n:Nat}{xs:List DV}(ho:o.op=.call { callee:=.builtin .len,args:=#[x],argTypes:=#[T] })(hx:σ.ev x=D (.sq r k xs))(ht:Γ.P.underlying T=some (.slice e))(hk:0 < k)(hn:n*k=xs.length):PS Γ o σ (In n):=by
 refine PS.mk _ fun ρ a w h1 h2=>?_
 obtain⟨A,m,c,e1,e2,-⟩:=h2.dv hx (by simp[ho,Op.operands,Call.operands])
 have:m=n:=Nat.eq_of_mul_eq_mul_right hk (by omega)
 subst this
 unfold execOp
 simp[ho,resolve,invoke,builtin,Builtin.len_,e1,run_underlying ht,goInt]
theorem PS.lenOwn{x:Operand}{T e t:TypeId}{j k n:Nat}{ni:Bool}{cs:List DV}(ho:o.op=.call { callee:=.builtin .len,args:=#[x],argTypes:=#[T] })(hx:σ.ev x=.c (.own j))(hj:look σ.o j=some (.buf t k ni cs))(ht:Γ.P.underlying T=some (.slice e))(hk:0 < k)(hn:n*k=cs.length):PS Γ o σ (In n):=by
 refine PS.mk _ fun ρ a w h1 h2=>?_
 have h3:=h2.ev x (by simp[ho,Op.operands,Call.operands])
 rw[hx] at h3
 obtain⟨m,vs,e1,e2,e3⟩:=h1.os j _ hj
 have e4:a.eval x=ρ j:=h3.1
 have hm:m=n:=Nat.eq_of_mul_eq_mul_right hk (by rw[←e1.1];omega)
 have:∃A c,ρ j=.slice A m c:=by
  rcases e1.2 with⟨q,q2⟩|⟨g,cap,cur,q,-⟩
  ·exact⟨none,0,by rw[q,q2]⟩
  ·exact⟨_,_,q⟩
 obtain⟨A,c,e5⟩:=this
 subst hm
 unfold execOp
 simp[ho,resolve,invoke,builtin,Builtin.len_,e4,e5,run_underlying ht,goInt]
theorem run_sliceAt{P:Program}(w:World)(T e:TypeId)(ht:P.underlying T=some (.slice e)){k:Nat}(hk:(P.info? e).map (·.size)=some k)(A:Option Addr)(n c lo hi:Nat)(kl kh:IntKind)(l h:Option Value)(hl:l=none∧lo=0∨l=some (.int kl lo))(hh:h=none∧hi=n∨h=some (.int kh hi))(h1:lo≤hi)(h2:hi≤c) :
  (Instr.sliceAt T (.slice A n c) l h none).run P w=.ok (.slice (if c=lo then A else A.map (·.add (lo*k))) (hi - lo) (c - lo)) w:=by
 cases hq:P.info? e with
 |none=>rw[hq] at hk;cases hk
 |some i =>
  have hs:i.size=k:=by rw[hq] at hk;simpa using hk
  have hb1:(0:Int)≤(hi:Int)∧(hi:Int)≤(c:Int):=by omega
  have hb2:(0:Int)≤(lo:Int)∧(lo:Int)≤(hi:Int):=by omega
  unfold Instr.sliceAt
  rcases hl with⟨rfl,rfl⟩|rfl <;> rcases hh with⟨rfl,rfl⟩|rfl <;>
   simp[run_underlying ht,Instr.slice,Instr.sliceBounds,Instr.sliceBound,asIntOf,sizeOf,typeInfo,hq,hs,h1,h2,hb1,hb2]
theorem PS.slice {x : Operand} {l h : Option Operand} {T e : TypeId} {k lo hi : Nat} {kl kh : IntKind} {xs : List DV} (ys : List DV) (ho : o.op = .slice T x l h none) (hx : σ.ev x = D (.sq true k xs)) (hl : l = none ∧ lo = 0 ∨ ∃ y, l = some y ∧ σ.ev y = L (.int kl lo)) (hh : h = none ∧ hi * k = xs.length ∨ ∃ y, h = some y ∧ σ.ev y = L (.int kh hi))
    (ht : Γ.P.underlying T = some (.slice e)) (hk : (Γ.P.info? e).map (·.size) = some k) (hk0 : 0 < k) (h1 : lo ≤ hi) (h2 : hi * k ≤ xs.length) (hys : (xs.take (hi * k)).drop (lo * k) = ys) : PS Γ o σ (D (.sq true k ys)) := by
  subst hys
  refine PS.read _ fun ρ a w w1 w2 => ?_
  obtain ⟨A, n, c, e1, e2, e3, e4, e5, news, e6, e7, e8⟩ := sq_cells (w2.dv hx (by simp [ho, Op.operands]))
  have hin : hi ≤ n := Nat.le_of_mul_le_mul_right (by omega) hk0
  have hr := run_sliceAt (P := Γ.P) w T e ht hk A n c lo hi kl kh (l.map a.eval) (h.map a.eval) (by
      rcases hl with ⟨rfl, rfl⟩ | ⟨y, rfl, hy⟩
      · exact .inl ⟨rfl, rfl⟩
      · exact .inr (by rw [Option.map_some, w2.lit hy (by simp [ho, Op.operands])])) (by
      rcases hh with ⟨rfl, q⟩ | ⟨y, rfl, hy⟩
      · exact .inl ⟨rfl, Nat.eq_of_mul_eq_mul_right hk0 (by omega)⟩
      · exact .inr (by rw [Option.map_some, w2.lit hy (by simp [ho, Op.operands])])) h1 (by omega)
  refine ⟨_, by unfold execOp; simp only [ho, e1, Option.map_none, hr, Sem.run_bind, Result.andThen_ok, Sem.run_pure]; rfl, _, _, _, rfl, ?_, fun _ => ⟨by omega, by omega, fun hA => ?_⟩, reps_iff.2 fun i y hy => ?_⟩
  · rw [List.length_drop, List.length_take, Nat.min_eq_left h2, Nat.sub_mul]
  · split at hA
    · rename_i q; omega
    · cases A with
      | none => have := e5 rfl; omega
      | some ad => cases hA
  · rw [List.getElem?_drop, List.getElem?_take] at hy
    split at hy
    · rename_i hlt
      obtain ⟨v, f1, f2⟩ := reps_iff.1 e7 _ y hy
      rw [Nat.zero_add] at f1
      obtain ⟨ad, g1, g2, g3⟩ := e8 _ v f1
      subst g1
      refine ⟨v, ?_, f2⟩
      split
      · rename_i q
        have : lo * k + i < lo * k := by
          have : hi * k ≤ lo * k := Nat.mul_le_mul_right _ (by omega)
          omega
        omega
      · exact ⟨ad.add (lo * k), rfl, by rw [add_block]; exact g2, by rw [Gn.add_add, Nat.zero_add]; exact g3⟩
    · cases hy
theorem run_indexAt{P:Program}(w:World)(T e:TypeId)(ht:P.underlying T=some (.slice e)){k:Nat}(hk:(P.info? e).map (·.size)=some k)(ad:Addr)(n c i:Nat)(ki:IntKind)(h1:i < n) :
  (Instr.indexAt T (.slice (some ad) n c) (.int ki i)).run P w=.ok (.pointer (some (ad.add (i*k)))) w:=by
 cases hq:P.info? e with
 |none=>rw[hq] at hk;cases hk
 |some i' =>
  have hs:i'.size=k:=by rw[hq] at hk;simpa using hk
  have hb1:(0:Int)≤(i:Int)∧(i:Int) < (n:Int):=by omega
  unfold Instr.indexAt
  simp[run_underlying ht,asIntOf,sizeOf,typeInfo,hq,hs,h1,hb1]
theorem PS.index{x y:Operand}{T e:TypeId}{r:Bool}{k i:Nat}{ki:IntKind}{xs:List DV}(z:DV)(zs:List DV)(ho:o.op=.indexAddr T x y)(hx:σ.ev x=D (.sq r k xs))(hy:σ.ev y=L (.int ki i))(ht:Γ.P.underlying T=some (.slice e))(hk:(Γ.P.info? e).map (·.size)=some k)(hk0:0 < k)
  (hz:(xs.drop (i*k)).take k=z :: zs):PS Γ o σ (.c (.at_ z zs)):=by
 refine PS.read _ fun ρ a w w1 w2=>?_
 obtain⟨A,n,c,e1,e2,e3,e4⟩:=w2.dv hx (by simp[ho,Op.operands])
 have hlt:i*k < xs.length:=by
  rcases Nat.lt_or_ge (i*k) xs.length with h|h
  ·exact h
  ·rw[List.drop_eq_nil_of_le h] at hz;simp at hz
 have hin:i < n:=by
  rcases Nat.lt_or_ge i n with h|h
  ·exact h
  ·have:=Nat.mul_le_mul_right k h;omega
 obtain⟨v0,⟨ad,f1,f2,f3⟩,-⟩:=reps_iff.1 e4 (i*k) xs[i*k] (List.getElem?_eq_getElem hlt)
 subst f1
 refine⟨.pointer (some (ad.add (i*k))),by unfold execOp;simp only[ho,e1,w2.lit hy (by simp[ho,Op.operands]),run_indexAt w T e ht hk ad n c i ki hin,Sem.run_bind,Result.andThen_ok,Sem.run_pure],_,rfl,by rw[add_block];exact f2,?_⟩
 rw[←hz]
 refine reps_iff.2 fun m u hu=>?_
 rw[List.getElem?_take] at hu
 split at hu
 ·rw[List.getElem?_drop] at hu
  obtain⟨v,⟨ad',g1,g2,g3⟩,g4⟩:=reps_iff.1 e4 _ u hu
  cases g1
  exact⟨v,by rw[Gn.add_add,Nat.zero_add];rw[Nat.zero_add] at g3;exact g3,g4⟩
 ·cases hu
theorem PS.index1{x y:Operand}{T e:TypeId}{r:Bool}{i:Nat}{ki:IntKind}{xs:List DV}(z:DV)(ho:o.op=.indexAddr T x y)(hx:σ.ev x=D (.sq r 1 xs))(hy:σ.ev y=L (.int ki i))(ht:Γ.P.underlying T=some (.slice e))(hk:(Γ.P.info? e).map (·.size)=some 1)(hz:xs[i]?=some z):PS Γ o σ (.c (.at_ z [])) :=
 PS.index z [] ho hx hy ht hk (by decide) (by
  have hlt:=(List.getElem?_eq_some_iff.1 hz).1
  rw[Nat.mul_one,List.drop_eq_getElem_cons hlt,List.take_succ_cons,List.take_zero]
  rw[List.getElem?_eq_getElem hlt] at hz
  cases hz;rfl)
theorem PS.indexOwn{x y:Operand}{T e t:TypeId}{j k i:Nat}{ki:IntKind}{ni:Bool}{cs:List DV}(ho:o.op=.indexAddr T x y)(hx:σ.ev x=.c (.own j))(hj:look σ.o j=some (.buf t k ni cs))(hy:σ.ev y=L (.int ki i))(ht:Γ.P.underlying T=some (.slice e))(hk:(Γ.P.info? e).map (·.size)=some k)(hk0:0 < k)
  (hi:(i+1)*k≤cs.length):PS Γ o σ (.c (.ptr j (i*k))):=by
 refine PS.read _ fun ρ a w w1 w2=>?_
 have h3:=w2.ev x (by simp[ho,Op.operands])
 rw[hx] at h3
 obtain⟨m,vs,e1,e2,e3⟩:=w1.os j _ hj
 have e4:a.eval x=ρ j:=h3.1
 have him:i+1≤m:=Nat.le_of_mul_le_mul_right (by rw[←e1.1];omega) hk0
 rcases e1.2 with⟨q,q2⟩|⟨g,cap,cur,q,-⟩
 ·omega
 ·refine⟨.pointer (some ⟨g,i*k,none⟩),?_,g,by rw[q];rfl,rfl⟩
  have:=run_indexAt (P:=Γ.P) w T e ht hk ⟨g,0,none⟩ m cap i ki him
  rw[add_at] at this
  unfold execOp
  simp only[ho,e4,q,w2.lit hy (by simp[ho,Op.operands]),this,Sem.run_bind,Result.andThen_ok,Sem.run_pure]
end
end Go.Proofs.YtoibhnpmemnlfaaGreatDoor.Av
namespace Go.Proofs.YtoibhnpmemnlfaaGreatDoor.Av
open Go.RowKit Go.Proofs.YtoibhnpmemnlfaaGreatDoor.Gn Go.Deep
def names(o:Oper):List Nat:=o.op.operands.toList.filterMap fun | .tmp t=>some t|_=>none
def rdOk(l:List Oper):Bool:=(l.zipIdx).all fun(o,i)=>(names o).all fun t=>(l.zipIdx).all fun(o',j)=>o'.dst != some t || i == j || (if j < i then dep o j else dep o' i)
def befs:List Oper→List Nat→List Nat
 | [],acc=>acc
 |o :: l,acc=>befs l (acc ++ [o.after.toList.foldl (fun s e=>if Region.binds .any e then s ||| 2 ^ e.on ||| acc.getD e.on 0 else s) 0])
def tailOk(l:List Oper)(m:Nat):Bool:=(List.range l.length).all fun i=>Nat.blt i m || (List.range i).all fun j=>((befs l []).getD i 0).testBit j
def Clo(l:List Oper)(L:Nat→Bool):Prop:=∀j o',l[j]?=some o'→L j=true→∀d,dep o' d=true→L d=true
def Bef(l:List Oper)(i b:Nat):Prop:=∀L o,Clo l L→l[i]?=some o→(∀d,dep o d=true→L d=true)→∀j,b.testBit j=true→L j=true
theorem dep_of{o:Oper}{e:Edge}(he:e∈o.after.toList)(hb:Region.binds .any e=true):dep o e.on=true:=by
 unfold dep
 rw[Array.any_eq_true']
 exact⟨e,by simpa using he,by simp[hb]⟩
theorem befs_ok(l:List Oper)(hl:lates l 0=true):∀(r:List Oper) (k:Nat) (acc:List Nat),acc.length=k→l=l.take k ++ r→k≤l.length→(∀i,i < k→Bef l i (acc.getD i 0))→∀i,i < l.length→Bef l i ((befs r acc).getD i 0):=by
 intro r
 induction r with
 |nil =>
  intro k acc h1 h2 h3 h4 i hi
  have:k=l.length:=by
   have:=congrArg List.length h2;simp at this;omega
  exact h4 i (by omega)
 |cons o r ih =>
  intro k acc h1 h2 h3 h4
  have hk:l[k]?=some o:=by
   have h5:(l.take k).length=k:=by rw[List.length_take,Nat.min_eq_left h3]
   rw[h2,List.getElem?_append_right (by omega),h5,Nat.sub_self]
   rfl
  have hkl:k < l.length:=(List.getElem?_eq_some_iff.1 hk).1
  refine ih (k+1) _ (by simp[h1]) ?_ (by omega) fun i hi=>?_
  ·rw[List.take_add_one,hk]
   simpa using h2
  ·by_cases e:i=k
   ·subst e
    rw[List.getD_eq_getElem?_getD,List.getElem?_append_right (by omega),h1,Nat.sub_self]
    simp only[List.getElem?_cons_zero,Option.getD_some]
    intro L o' hL ho hd j hj
    rw[hk] at ho;cases ho
    have key:∀(es:List Edge) (s:Nat),(∀e∈es,e∈o.after.toList)→(∀j,s.testBit j=true→L j=true)→∀j,(es.foldl (fun s e=>if Region.binds .any e then s ||| 2 ^ e.on ||| acc.getD e.on 0 else s) s).testBit j=true→L j=true:=by
     intro es
     induction es with
     |nil=>intro s _ hs;exact hs
     |cons e es ihe =>
      intro s hm hs
      rw[List.foldl_cons]
      refine ihe _ (fun x hx=>hm x (List.mem_cons_of_mem _ hx)) fun j hj=>?_
      split at hj
      ·rename_i hb
       have hdep:=dep_of (hm e List.mem_cons_self) hb
       have hlt:e.on < i:=by
        have:=lates_at _ _ _ _ hl hk
        rw[Nat.zero_add] at this
        have:=Array.all_eq_true_iff_forall_mem.1 this e (by simpa using hm e List.mem_cons_self)
        simpa[hb] using this
       rw[Nat.testBit_or,Nat.testBit_or,Bool.or_eq_true,Bool.or_eq_true] at hj
       rcases hj with(hj|hj)|hj
       ·exact hs j hj
       ·rw[Nat.testBit_two_pow] at hj
        have:e.on=j:=by simpa using hj
        subst this
        exact hd _ hdep
       ·have ho2:l[e.on]?=some l[e.on]:=List.getElem?_eq_getElem (by omega)
        exact h4 e.on hlt L _ hL ho2 (fun d hd2=>hL e.on _ ho2 (hd _ hdep) d hd2) j hj
      ·exact hs j hj
    exact key o.after.toList 0 (fun _ h=>h) (fun j hj=>by simp at hj) j hj
   ·rw[List.getD_eq_getElem?_getD,List.getElem?_append_left (by omega),←List.getD_eq_getElem?_getD]
    exact h4 i (by omega)
theorem tail_all{l:List Oper}{m i:Nat}{o:Oper}(hl:lates l 0=true)(ht:tailOk l m=true)(hi:m≤i)(ho:l[i]?=some o){L:Nat→Bool}(hL:Clo l L)(hd:∀d,dep o d=true→L d=true):∀j,j < i→L j=true:=by
 intro j hj
 have hil:i < l.length:=(List.getElem?_eq_some_iff.1 ho).1
 have h1:=List.all_eq_true.1 ht i (List.mem_range.2 hil)
 rw[Bool.or_eq_true] at h1
 rcases h1 with h1|h1
 ·have:=Nat.le_of_ble_eq_true h1;omega
 ·exact befs_ok l hl l 0 [] rfl (by simp) (by omega) (fun i hi=>by omega) i hil L o hL ho hd j (List.all_eq_true.1 h1 j (List.mem_range.2 hj))
theorem fill_out:∀(r:List (Option Tmp)) (γ:Nat→Value) (k:Nat) (t:Array Value) (s:Nat),(∀j:Nat,r[j]?≠some (some s))→(fill r γ k t).getD s undef=t.getD s undef:=by
 intro r
 induction r with
 |nil=>intros;rfl
 |cons d r ih =>
  intro γ k t s h
  have h':∀j:Nat,r[j]?≠some (some s):=fun j=>by have:=h (j+1);simpa using this
  cases d with
  |none=>exact ih _ _ _ _ h'
  |some d =>
   have hne:d≠s:=by rintro rfl;exact h 0 rfl
   rw[fill,ih _ _ _ _ h']
   simp[Array.getD_eq_getD_getElem?,hne]
theorem fill_in:∀(r:List (Option Tmp)) (γ:Nat→Value) (k:Nat) (t:Array Value) (s j:Nat),apart_ r=true→r[j]?=some (some s)→s < t.size→(fill r γ k t).getD s undef=γ (k+j):=by
 intro r
 induction r with
 |nil=>intro γ k t s j _ h;simp at h
 |cons d r ih =>
  intro γ k t s j ha h hs
  cases j with
  |zero =>
   simp at h;subst h
   have hno:∀j:Nat,r[j]?≠some (some s):=fun j hj=>by
    simp[apart_] at ha
    exact ha.1 (List.mem_of_getElem? hj)
   rw[fill,fill_out _ _ _ _ _ hno]
   simp[Array.getD_eq_getD_getElem?,hs]
  |succ j =>
   have h':r[j]?=some (some s):=by simpa using h
   rw[show k+(j+1)=k+1+j by omega]
   cases d with
   |none=>exact ih _ _ _ _ _ ha h' hs
   |some d=>exact ih _ _ _ _ _ (by simp[apart_] at ha;exact ha.2) h' (by simpa using hs)
theorem fill_size:∀(r:List (Option Tmp)) (γ:Nat→Value) (k:Nat) (t:Array Value),(fill r γ k t).size=t.size:=by
 intro r
 induction r with
 |nil=>intros;rfl
 |cons d r ih=>intro γ k t;cases d <;> simp[fill,ih]
def PR(Γ:Ctx)(ops:Array Oper)(o:Oper)(σ:St)(r:Sv):Prop:=inN Γ.n o.dst=true∧(
 (o.guard=none∧PS Γ o σ r)∨∃j d b c,o.guard=some (j,b)∧(ops[j]?).bind (·.dst)=some d∧dep o j=true∧σ.at_ d=Bo c∧(b=c∧PS Γ o σ r∨b≠c∧r=.c .any))
def GF(Γ:Ctx)(ops:Array Oper)(o:Oper)(σ:St)(K:St→Prop):Prop :=
 (o.guard=none∧FS Γ o σ K)∨∃j d b c,o.guard=some (j,b)∧(ops[j]?).bind (·.dst)=some d∧σ.at_ d=Bo c∧(b=c∧FS Γ o σ K∨b≠c∧inN Γ.n o.dst=true∧K (σ.put o.dst (.c .any)))
def PD(Γ:Ctx)(ops:Array Oper)(R:St→Prop):Nat→List Oper→St→Prop
 |_,[],σ=>R σ
 |0,o :: l,σ=>GF Γ ops o σ (PD Γ ops R 0 l)
 |m+1,o :: l,σ=>∃r,PR Γ ops o σ r∧PD Γ ops R m l (σ.put o.dst r)
section
variable {Γ:Ctx} {ops:Array Oper} {R:St→Prop} {m:Nat} {o:Oper} {l:List Oper} {σ:St}
theorem PD.nil(h:R σ):PD Γ ops R m [] σ:=by cases m <;> exact h
theorem PD.cons{r:Sv}(hg:o.guard=none)(hn:inN Γ.n o.dst=true)(h:PS Γ o σ r)(k:PD Γ ops R m l (σ.put o.dst r)):PD Γ ops R (m+1) (o :: l) σ:=⟨r,⟨hn,.inl ⟨hg,h⟩⟩,k⟩
theorem PD.when{r:Sv}{j d:Nat}{b:Bool}(hg:o.guard=some (j,b))(hj:(ops[j]?).bind (·.dst)=some d)(hd:σ.at_ d=Bo b)(hdep:dep o j=true)(hn:inN Γ.n o.dst=true)(h:PS Γ o σ r)(k:PD Γ ops R m l (σ.put o.dst r)):PD Γ ops R (m+1) (o :: l) σ:=⟨r,⟨hn,.inr ⟨j,d,b,b,hg,hj,hdep,hd,.inl ⟨rfl,h⟩⟩⟩,k⟩
theorem PD.pass{j d:Nat}{b c:Bool}(hg:o.guard=some (j,b))(hj:(ops[j]?).bind (·.dst)=some d)(hd:σ.at_ d=Bo c)(hdep:dep o j=true)(hbc:b≠c)(hn:inN Γ.n o.dst=true)(k:PD Γ ops R m l (σ.put o.dst (.c .any))):PD Γ ops R (m+1) (o :: l) σ:=⟨.c .any,⟨hn,.inr ⟨j,d,b,c,hg,hj,hdep,hd,.inr ⟨hbc,rfl⟩⟩⟩,k⟩
def pres(Γ:Ctx)(ops:Array Oper):List Oper→List Sv→St→St→Prop
 |o :: l,r :: rs,σ,τ=>PR Γ ops o σ r∧pres Γ ops l rs (σ.put o.dst r) τ
 |_,[],σ,τ=>σ=τ
 | [],_ :: _,_,_=>False
theorem PD.nil_iff:PD Γ ops R m [] σ↔R σ:=by cases m <;> exact Iff.rfl
theorem PD.plan:∀ {m:Nat} {l:List Oper} {σ:St},PD Γ ops R m l σ→∃rs τ,pres Γ ops l rs σ τ∧PD Γ ops R 0 (l.drop m) τ∧rs.length=min m l.length:=by
 intro m
 induction m with
 |zero=>intro l σ h;exact⟨[],σ,by cases l <;> rfl,by simpa using h,by simp⟩
 |succ m ih =>
  intro l σ h
  cases l with
  |nil=>exact⟨[],σ,rfl,PD.nil_iff.2 (PD.nil_iff.1 h),by simp⟩
  |cons o l =>
   obtain⟨r,h1,h2⟩:=h
   obtain⟨rs,τ,h3,h4,h5⟩:=ih h2
   exact⟨r :: rs,τ,⟨h1,h3⟩,by simpa using h4,by simp only[List.length_cons,h5];omega⟩
def stAt(l:List Oper)(rs:List Sv):Nat→St→St
 |0,σ=>σ
 |i+1,σ=>match l,rs with
  |o :: l,r :: rs=>stAt l rs i (σ.put o.dst r)
  |_,_=>σ
theorem pres_at:∀ {rs:List Sv} {l:List Oper} {σ τ:St},pres Γ ops l rs σ τ→∀ {i:Nat} {o:Oper},i < rs.length→l[i]?=some o→PR Γ ops o (stAt l rs i σ) (rs.getD i (.c .any)):=by
 intro rs
 induction rs with
 |nil=>intro l σ τ h i o hi;simp at hi
 |cons r rs ih =>
  intro l σ τ h i o hi ho
  cases l with
  |nil=>simp at ho
  |cons o' l =>
   cases i with
   |zero=>simp at ho;subst ho;exact h.1
   |succ i=>simpa[stAt] using ih h.2 (by simpa using hi) (by simpa using ho)
theorem pres_end:∀ {rs:List Sv} {l:List Oper} {σ τ:St},pres Γ ops l rs σ τ→τ=stAt l rs rs.length σ:=by
 intro rs
 induction rs with
 |nil=>intro l σ τ h;cases l <;> exact(show σ=τ from h).symm
 |cons r rs ih =>
  intro l σ τ h
  cases l with
  |nil=>exact h.elim
  |cons o' l=>simpa[stAt] using ih h.2
theorem stAt_o:∀(l:List Oper) (rs:List Sv) (i:Nat) (σ:St),(stAt l rs i σ).o=σ.o:=by
 intro l
 induction l with
 |nil=>intro rs i σ;cases i <;> rfl
 |cons o l ih =>
  intro rs i σ
  cases i with
  |zero=>rfl
  |succ i=>cases rs with
   |nil=>rfl
   |cons r rs=>rw[stAt,ih,St.put_o]
theorem stAt_slot:∀(l:List Oper) (rs:List Sv) (i:Nat) (σ:St) (s:Nat) (x:Sv),rs.length≤l.length→apart_ (l.map (·.dst))=true→look (stAt l rs i σ).t s=some x →
  (∃j,j < i∧j < rs.length∧(l.map (·.dst))[j]?=some (some s)∧x=rs.getD j (.c .any))∨((∀j,j < i→j < rs.length→(l.map (·.dst))[j]?≠some (some s))∧look σ.t s=some x):=by
 intro l
 induction l with
 |nil=>intro rs i σ s x hr _ h;exact .inr ⟨fun j _ hj=>by simp at hr;subst hr;simp at hj,by cases i <;> exact h⟩
 |cons o l ih =>
  intro rs i σ s x hr ha h
  cases i with
  |zero=>exact .inr ⟨fun j hj=>by omega,h⟩
  |succ i =>
   cases rs with
   |nil=>exact .inr ⟨fun j _ hj=>by simp at hj,h⟩
   |cons r rs =>
    have ha':apart_ (l.map (·.dst))=true:=by
     cases hd:o.dst with
     |none=>simpa[hd,apart_] using ha
     |some d=>simp[hd,apart_] at ha;exact ha.2
    rw[stAt] at h
    rcases ih rs i _ s x (by simpa using hr) ha' h with⟨j,h1,h2,h3,h4⟩|⟨h1,h2⟩
    ·exact .inl ⟨j+1,by omega,by simpa using h2,by simpa using h3,by simpa using h4⟩
    ·by_cases e:o.dst=some s
     ·refine .inl ⟨0,by omega,by simp,by simp[e],?_⟩
      simp[St.put,e,look_cons] at h2
      simp[h2]
     ·refine .inr ⟨fun j hj hj2=>?_,?_⟩
      ·cases j with
       |zero=>simpa using e
       |succ j=>simpa using h1 j (by omega) (by simpa using hj2)
      ·cases hd:o.dst with
       |none=>simpa[St.put,hd] using h2
       |some d =>
        have hne:s≠d:=fun q=>e (by rw[hd,q])
        simpa[St.put,hd,look_cons,hne] using h2
theorem dst_at{l:List Oper}{j s:Nat}:(l.map (·.dst))[j]?=some (some s)↔∃o,l[j]?=some o∧o.dst=some s:=by
 rw[List.getElem?_map]
 cases h:l[j]? with
 |none=>simp
 |some o=>simp
theorem rd_at{l:List Oper}(h:rdOk l=true){i j t:Nat}{o o':Oper}(hi:l[i]?=some o)(hj:l[j]?=some o')(hn:t∈names o)(hd:o'.dst=some t)(hne:i≠j):if j < i then dep o j=true else dep o' i=true:=by
 have h1:=List.all_eq_true.1 h (o,i) (by rw[List.mem_iff_getElem?];exact⟨i,by simp[List.getElem?_zipIdx,hi]⟩)
 have h2:=List.all_eq_true.1 h1 t hn
 have h3:=List.all_eq_true.1 h2 (o',j) (by rw[List.mem_iff_getElem?];exact⟨j,by simp[List.getElem?_zipIdx,hj]⟩)
 simp only[hd,bne_self_eq_false,Bool.false_or,Bool.or_eq_true,beq_iff_eq,hne,false_or] at h3
 split <;> simp_all
theorem each_of{p:Nat→Oper→Prop}:∀(l:List Oper) (k:Nat),(∀(i:Nat) (o:Oper),l[i]?=some o→p (k+i) o)→Each l k p:=by
 intro l
 induction l with
 |nil=>intro k _;trivial
 |cons o l ih=>exact fun k h=>⟨h 0 o rfl,ih (k+1) fun i o' ho=>by rw[show k+1+i=k+(i+1) by omega];exact h (i+1) o' (by simpa using ho)⟩
theorem yield_at{σ':St}{tm:Array Value}{d j:Nat}{c:Bool}(hj:(ops[j]?).bind (·.dst)=some d)(hlt:d < tm.size)(h:tm.getD d undef=.bool c):yielded ops tm j=some c:=by
 unfold yielded
 rw[hj,Option.bind_some,Array.getElem?_eq_getElem hlt]
 rw[Array.getD_eq_getD_getElem?,Array.getElem?_eq_getElem hlt] at h
 simp only[Option.getD_some] at h
 rw[h]
theorem PW.drawn {id : Nat} {b : Bool} {l : List Oper} {R : Exit → St → Prop} (m : Nat) (hm : Γ.P.follows .mixedOrders = true) (ha : apart_ (l.map (·.dst)) = true) (hl : lates l 0 = true) (hrd : rdOk l = true) (ht : tailOk l m = true) (h : PD Γ l.toArray (R .normal) m l σ) : PW Γ (.region id l.toArray b) R σ := by
  rintro a w ⟨ρ, hW, hF⟩
  obtain ⟨rs, τ, hp, htl, hrs⟩ := PD.plan h
  have hrl : rs.length ≤ l.length := by omega
  have hend := pres_end hp
  have frdef : ∀ γ, fr l.toArray a γ = ⟨fill (l.map (·.dst)) γ 0 a.tmps, a.defers⟩ := fun γ => by simp [fr]
  have hin : ∀ j, j < rs.length → ∀ s, (l.map (·.dst))[j]? = some (some s) → s < a.tmps.size := fun j hj s hs => by
    obtain ⟨o, ho, hd⟩ := dst_at.1 hs
    have := (pres_at hp hj ho).1
    rw [hd] at this
    rw [hF.sz]
    exact Nat.le_of_ble_eq_true this
  -- what a slot holds in the course of it
  have slot : ∀ (γ : Nat → Value) (L : Nat → Bool) (w' : World) (i : Nat), Below w.heap.size w w' → (∀ j, j < rs.length → L j = true → (rs.getD j (.c .any)).rep ρ (OO Γ.O0 σ.o ρ) w' (γ j)) →
      (∀ j d, L j = false → (l.map (·.dst))[j]? = some (some d) → γ j = a.tmps.getD d undef) → ∀ (s : Nat) (x : Sv), look (stAt l rs i σ).t s = some x →
      (∀ j, (l.map (·.dst))[j]? = some (some s) → (j < i ∧ j < rs.length ∧ L j = true) ∨ (¬ (j < i ∧ j < rs.length) ∧ L j = false)) → x.rep ρ (OO Γ.O0 σ.o ρ) w' ((fr l.toArray a γ).tmps.getD s undef) := by
    intro γ L w' i hB h1 h2 s x hx hs
    rw [frdef]
    have old : ∀ y, look σ.t s = some y → y.rep ρ (OO Γ.O0 σ.o ρ) w' (a.tmps.getD s undef) := fun y hy => Sv.rep_keep (Off.below hB) (fun _ h _ => h) (hF.ts s y hy)
    by_cases hex : ∃ j : Nat, (l.map (·.dst))[j]? = some (some s)
    · obtain ⟨j, hj⟩ := hex
      show x.rep _ _ _ ((fill (l.map (·.dst)) γ 0 a.tmps).getD s undef)
      by_cases hsz : s < a.tmps.size
      · rw [fill_in _ _ _ _ _ _ ha hj hsz, Nat.zero_add]
        rcases stAt_slot l rs i σ s x hrl ha hx with ⟨k, k1, k2, k3, k4⟩ | ⟨k1, k2⟩
        · have hkj : k = j := by
            have e1 := fill_in _ (fun n => .int .i64 n) 0 a.tmps s k ha k3 hsz
            have e2 := fill_in _ (fun n => .int .i64 n) 0 a.tmps s j ha hj hsz
            rw [e1] at e2
            simp at e2; omega
          subst hkj
          rcases hs k hj with ⟨-, -, h3⟩ | ⟨h3, -⟩
          · rw [k4]; exact h1 k k2 h3
          · exact absurd ⟨k1, k2⟩ h3
        · rcases hs j hj with ⟨h3, h4, -⟩ | ⟨-, h3⟩
          · exact absurd hj (k1 j h3 h4)
          · rw [h2 j s h3 hj]
            exact old x k2
      · rcases stAt_slot l rs i σ s x hrl ha hx with ⟨k, k1, k2, k3, k4⟩ | ⟨k1, k2⟩
        · exact absurd (hin k k2 s k3) hsz
        · have e1 : (fill (l.map (·.dst)) γ 0 a.tmps).getD s undef = undef := by
            rw [Array.getD_eq_getD_getElem?, Array.getElem?_eq_none (by rw [fill_size]; omega)]; rfl
          have e2 : a.tmps.getD s undef = undef := by
            rw [Array.getD_eq_getD_getElem?, Array.getElem?_eq_none (by omega)]; rfl
          rw [e1, ← e2]
          exact old x k2
    · show x.rep _ _ _ ((fill (l.map (·.dst)) γ 0 a.tmps).getD s undef)
      rw [fill_out _ _ _ _ _ (fun j hj => hex ⟨j, hj⟩)]
      rcases stAt_slot l rs i σ s x hrl ha hx with ⟨k, k1, k2, k3, k4⟩ | ⟨k1, k2⟩
      · exact absurd ⟨k, k3⟩ hex
      · exact old x k2
  have uniq : ∀ (j k s : Nat), (l.map (·.dst))[j]? = some (some s) → (l.map (·.dst))[k]? = some (some s) → j = k := fun j k s h1 h2 => by
    have e1 := fill_in _ (fun n => .int .i64 n) 0 (Array.replicate (s + 1) undef) s j ha h1 (by simp)
    have e2 := fill_in _ (fun n => .int .i64 n) 0 (Array.replicate (s + 1) undef) s k ha h2 (by simp)
    rw [e1] at e2
    simp at e2; omega
  have pre : ∀ (γ : Nat → Value) (L : Nat → Bool) (w' : World), Below w.heap.size w w' → (∀ j, j < rs.length → L j = true → (rs.getD j (.c .any)).rep ρ (OO Γ.O0 σ.o ρ) w' (γ j)) → (∀ j d, L j = false → (l.map (·.dst))[j]? = some (some d) → γ j = a.tmps.getD d undef) →
      (∀ j, j < rs.length → L j = true) → (∀ j, rs.length ≤ j → L j = false) → Mt Γ τ (fr l.toArray a γ) w' := fun γ L w' hB h1 h2 h3 h4 => by
    rw [hend]
    refine ⟨ρ, by rw [stAt_o]; exact hW.below hB, ⟨hF.df, fun s x hx => ?_, ?_⟩⟩
    · rw [stAt_o]
      refine slot γ L w' rs.length hB h1 h2 s x hx fun j hj => ?_
      rcases Nat.lt_or_ge j rs.length with h5 | h5
      · exact .inl ⟨h5, h5, h3 j h5⟩
      · exact .inr ⟨by omega, h4 j h5⟩
    · rw [frdef]
      simpa [fill_size] using hF.sz
  have tailStep : ∀ (i : Nat) (o : Oper) (Q : Exit → Act → World → Prop) (K : Act → World → Prop) (L : Nat → Bool) (γ : Nat → Value) (w1 : World) (τ' : St), l[i]? = some o → rs.length ≤ i → (∀ j, L j = true ↔ j < i) → Mt Γ τ' (fr l.toArray a γ) w1 → PD Γ l.toArray (R .normal) 0 (l.drop i) τ' →
      (∀ v w', True → ((∀ j, rs.length ≤ j → (if j = i then true else L j) = false) ∧ Below w.heap.size w w' ∧ (∀ j, j < rs.length → (if j = i then true else L j) = true → (rs.getD j (.c .any)).rep ρ (OO Γ.O0 σ.o ρ) w' (upd γ i v j)) ∨ ∃ i' τ', rs.length < i' ∧ (∀ j, (if j = i then true else L j) = true ↔ j < i') ∧ Mt Γ τ' (fr l.toArray a (upd γ i v)) w' ∧ PD Γ l.toArray (R .normal) 0 (l.drop i') τ') → True → K ((fr l.toArray a γ).put o.dst v) w') →
      if Region.wanted o (yielded l.toArray (fr l.toArray a γ).tmps) = true then o.wp Γ.P (fr l.toArray a γ) w1 K Q else K ((fr l.toArray a γ).put o.dst undef) w1 := by
    intro i o Q K L γ w1 τ' ho hi hL hM hPD hK
    have hd : l.drop i = o :: l.drop (i + 1) := by
      have hil := (List.getElem?_eq_some_iff.1 ho).1
      rw [List.drop_eq_getElem_cons hil]
      rw [List.getElem?_eq_getElem hil] at ho
      cases ho; rfl
    rw [hd] at hPD
    have next : ∀ (σ'' : St) (v : Value) (w' : World), PD Γ l.toArray (R .normal) 0 (l.drop (i + 1)) σ'' → Mt Γ σ'' ((fr l.toArray a γ).put o.dst v) w' → K ((fr l.toArray a γ).put o.dst v) w' := fun σ'' v w' h1 h2 => by
      refine hK v w' trivial (.inr ⟨i + 1, σ'', by omega, fun j => ?_, ?_, h1⟩) trivial
      · split
        · rename_i e; subst e; simp
        · rw [hL]; omega
      · rw [fr_put (ops := l.toArray) (i := i) (by simpa using ho) (by simpa using ha)] at h2
        exact h2
    have y : ∀ {j d : Nat} {c : Bool}, (l.toArray[j]?).bind (·.dst) = some d → τ'.at_ d = Bo c → yielded l.toArray (fr l.toArray a γ).tmps j = some c := fun {j d c} hj hd => by
      obtain ⟨ρ', hW', hF'⟩ := hM
      exact yield_of hW' hF' hj hd
    rcases hPD with ⟨hg, hfs⟩ | ⟨j, d, b, c, hg, hj, hd2, hbc⟩
    · rw [if_pos (by simp [Region.wanted, hg])]
      exact hfs _ w1 Q K hM next
    · rcases hbc with ⟨e, hfs⟩ | ⟨e, hn, hk⟩
      · subst e
        rw [if_pos (by simp [Region.wanted, hg, y hj hd2])]
        exact hfs _ w1 Q K hM next
      · rw [if_neg (by simp [Region.wanted, hg, y hj hd2]; exact fun q => e q.symm)]
        refine next _ undef w1 hk ?_
        obtain ⟨ρ', hW', hF'⟩ := hM
        exact ⟨ρ', by rw [St.put_o]; exact hW', hF'.put (by trivial) _ hn⟩
  refine wp_region_free (ops := l.toArray) (fun _ _ _ => True) (fun L γ w' => ((∀ j, rs.length ≤ j → L j = false) ∧ Below w.heap.size w w' ∧ (∀ j, j < rs.length → L j = true → (rs.getD j (.c .any)).rep ρ (OO Γ.O0 σ.o ρ) w' (γ j))) ∨ ∃ i τ', rs.length < i ∧ (∀ j, L j = true ↔ j < i) ∧ Mt Γ τ' (fr l.toArray a γ) w' ∧ PD Γ l.toArray (R .normal) 0 (l.drop i) τ') (fun _ _ => True)
    hm (by simpa using ha) (by simpa using hl) (fun _ _ _ _ _ _ => trivial) (fun γ => ⟨.inl ⟨fun _ _ => rfl, (Below.refl _ _).drew, fun _ _ h => by cases h⟩, .inl ⟨fun _ _ => rfl, Below.refl _ _, fun _ _ h => by cases h⟩⟩) (each_of _ _ fun i o ho => ?_) (fun L γ w' hall _ hJ => ?_)
  · have ho : l[i]? = some o := by simpa using ho
    rw [Nat.zero_add]
    intro Q K L γ w1 hLi hdl hcl hun hJ _ hK
    have hil : i < l.length := (List.getElem?_eq_some_iff.1 ho).1
    have hcl' : Clo l L := fun j o' hj hLj d hd => hcl j o' (by simpa using hj) hLj d hd
    have hun' : ∀ j d, L j = false → (l.map (·.dst))[j]? = some (some d) → γ j = a.tmps.getD d undef := fun j d h1 h2 => hun j d h1 (by simpa using h2)
    have below_i : rs.length ≤ i → ∀ j, j < i → L j = true := fun h => tail_all hl ht (by omega) ho hcl' hdl
    rcases hJ with ⟨hL1, hB, hrep⟩ | ⟨i', τ', h1, h2, h3, h4⟩
    · rcases Nat.lt_or_ge i rs.length with hlt | hge
      · have hPR := (pres_at hp hlt ho).2
        have hWi : Wt Γ (stAt l rs i σ).o ρ w1 := by rw [stAt_o]; exact hW.below hB
        have hslot : ∀ (s : Nat) (x : Sv), look (stAt l rs i σ).t s = some x → (∀ (j : Nat) (o' : Oper), l[j]? = some o' → o'.dst = some s → j ≠ i → if j < i then dep o j = true else dep o' i = true) → x.rep ρ (OO Γ.O0 σ.o ρ) w1 ((fr l.toArray a γ).tmps.getD s undef) := fun s x hx hj => by
          refine slot γ L w1 i hB hrep hun' s x hx fun j hjd => ?_
          obtain ⟨o', ho', hd'⟩ := dst_at.1 hjd
          by_cases e : j = i
          · subst e; exact .inr ⟨by omega, hLi⟩
          · have := hj j o' ho' hd' e
            split at this
            · rename_i hji; exact .inl ⟨hji, by omega, hdl j this⟩
            · rename_i hji
              refine .inr ⟨by omega, ?_⟩
              cases hb : L j with
              | false => rfl
              | true => rw [hcl' j o' ho' hb i this] at hLi; cases hLi
        have hFo : Fo Γ (stAt l rs i σ) ρ o (fr l.toArray a γ) w1 := ⟨fun x hx => by
          rw [stAt_o]
          cases x with
          | const v => rfl
          | global g => rfl
          | func f => rfl
          | tmp t =>
            show ((stAt l rs i σ).at_ t).rep _ _ _ _
            unfold St.at_
            cases htt : look (stAt l rs i σ).t t with
            | none => trivial
            | some y =>
              have := hslot t y htt fun j o' ho' hd' hne => rd_at hrd ho ho' (by unfold names; rw [List.mem_filterMap]; exact ⟨.tmp t, by simpa using hx, rfl⟩) hd' (Ne.symm hne)
              have h9 := res_rep hWi (x := y) (by rw [stAt_o]; exact this)
              rw [stAt_o] at h9 ⊢
              exact h9⟩
        have next : ∀ v w', (rs.getD i (.c .any)).rep ρ (OO Γ.O0 σ.o ρ) w' v → Below w1.heap.size w1 w' → K ((fr l.toArray a γ).put o.dst v) w' := fun v w' hv hb => by
          refine hK v w' trivial (.inl ⟨fun j hj => ?_, hB.trans (hb.mono hB.size), fun j hj hLj => ?_⟩) trivial
          · show (if j = i then true else L j) = false
            rw [if_neg (by omega)]; exact hL1 j hj
          · by_cases e : j = i
            · subst e; rw [show upd γ j v j = v by simp [upd]]; exact hv
            · have hLj : (if j = i then true else L j) = true := hLj
              rw [if_neg e] at hLj
              rw [show upd γ i v j = γ j by simp [upd, e]]
              exact Sv.rep_keep (Off.below hb) (fun _ h _ => h) (hrep j hj hLj)
        have y : ∀ {j d : Nat} {c : Bool}, (l.toArray[j]?).bind (·.dst) = some d → dep o j = true → (stAt l rs i σ).at_ d = Bo c → yielded l.toArray (fr l.toArray a γ).tmps j = some c := fun {j d c} hj hdj hd => by
          have hjd : (l.map (·.dst))[j]? = some (some d) := by
            cases hq : l[j]? with
            | none => simp [hq] at hj
            | some o' => simp [hq] at hj; simp [hq, hj]
          unfold St.at_ at hd
          cases htt : look (stAt l rs i σ).t d with
          | none => rw [htt] at hd; cases hd
          | some y =>
            rw [htt] at hd
            have h9 := res_rep hWi (x := y) (v := (fr l.toArray a γ).tmps.getD d undef) (by
              rw [stAt_o]
              refine hslot d y htt fun k o' ho' hd' hne => ?_
              have : k = j := uniq k j d (dst_at.2 ⟨o', ho', hd'⟩) hjd
              subst this
              have hki : k < i := by
                have h5 := lates_at _ _ _ _ hl ho
                rw [Nat.zero_add] at h5
                obtain ⟨e, he, hb⟩ := Array.any_eq_true'.1 hdj
                simp only [Bool.and_eq_true, beq_iff_eq] at hb
                have h6 := Array.all_eq_true_iff_forall_mem.1 h5 e he
                simp only [hb.1, Bool.not_true, Bool.false_or, decide_eq_true_eq] at h6
                omega
              rw [if_pos hki]; exact hdj)
            have hd2 : res (stAt l rs i σ).o y = Bo c := hd
            rw [hd2] at h9
            have hval : (fr l.toArray a γ).tmps.getD d undef = .bool c := h9
            have hds : d < (fr l.toArray a γ).tmps.size := by
              rcases Nat.lt_or_ge d (fr l.toArray a γ).tmps.size with h4 | h4
              · exact h4
              · rw [Array.getD_eq_getD_getElem?, Array.getElem?_eq_none h4] at hval; cases hval
            exact yield_at (σ' := σ) hj hds hval
        have go : PS Γ o (stAt l rs i σ) (rs.getD i (.c .any)) → o.wp Γ.P (fr l.toArray a γ) w1 K Q := fun hps => hps ρ _ w1 Q K hWi hFo fun v w' hv hb => next v w' (by rw [stAt_o] at hv; exact hv) hb
        rcases hPR with ⟨hg, hps⟩ | ⟨j, d, b, c, hg, hj, hdj, hd2, hbc⟩
        · rw [if_pos (by simp [Region.wanted, hg])]
          exact go hps
        · rcases hbc with ⟨e, hps⟩ | ⟨e, hr⟩
          · subst e
            rw [if_pos (by simp [Region.wanted, hg, y hj hdj hd2])]
            exact go hps
          · rw [if_neg (by simp [Region.wanted, hg, y hj hdj hd2]; exact fun q => e q.symm)]
            exact next undef w1 (by rw [hr]; trivial) (Below.refl _ _)
      · have hlt := below_i hge
        have hie : i = rs.length := by
          rcases Nat.lt_or_ge rs.length i with h | h
          · have := hL1 rs.length (Nat.le_refl _)
            rw [hlt _ h] at this; cases this
          · omega
        have hLs : ∀ j, L j = true ↔ j < i := fun j => ⟨(fun h => by
          rcases Nat.lt_or_ge j i with h5 | h5
          · exact h5
          · rw [hL1 j (by omega)] at h; cases h), hlt j⟩
        have hmi : m = i := by omega
        exact tailStep i o Q K L γ w1 τ ho hge hLs (pre γ L w1 hB hrep hun' (fun j hj => hlt j (by omega)) hL1) (by rw [← hmi]; exact htl) hK
    · have hii : i = i' := by
        have q1 : ¬ i < i' := fun h => by rw [(h2 i).2 h] at hLi; cases hLi
        have q2 := below_i (by omega)
        rcases Nat.lt_or_ge i' i with h | h
        · have := (h2 i').1 (q2 i' h); omega
        · omega
      subst hii
      exact tailStep i o Q K L γ w1 τ' ho (by omega) h2 h3 h4 hK
  · have hall' : ∀ i, i < l.length → L i = true := fun i hi => hall i (by simpa using hi)
    rcases hJ with ⟨hL1, hB, hrep⟩ | ⟨i', τ', h1, h2, h3, h4⟩
    · have hfull : rs.length = l.length := by
        rcases Nat.lt_or_ge rs.length l.length with h | h
        · have := hL1 rs.length (Nat.le_refl _)
          rw [hall' _ h] at this; cases this
        · omega
      have hdrop : l.drop m = [] := List.drop_eq_nil_of_le (by omega)
      rw [hdrop] at htl
      refine ⟨τ, pre γ L w' hB hrep (fun j d h5 h6 => ?_) (fun j hj => hall' j (by omega)) hL1, PD.nil_iff.1 htl⟩
      have := (List.getElem?_eq_some_iff.1 h6).1
      rw [hall' j (by simpa using this)] at h5; cases h5
    · have hdrop : l.drop i' = [] := List.drop_eq_nil_of_le (by
        rcases Nat.lt_or_ge i' l.length with h | h
        · have := (h2 i').1 (hall' i' h); omega
        · exact h)
      rw [hdrop] at h4
      exact ⟨τ', h3, PD.nil_iff.1 h4⟩
end
end Go.Proofs.YtoibhnpmemnlfaaGreatDoor.Av
namespace Go.Proofs.YtoibhnpmemnlfaaGreatDoor.Av
open Go.RowKit Go.Proofs.YtoibhnpmemnlfaaGreatDoor.Gn Go.Deep
section
variable {Γ:Ctx} {ops:Array Oper} {R:St→Prop} {m:Nat} {o:Oper} {l:List Oper} {σ:St} {t:List (Nat × Sv)} {ob:List (Nat × Ob)} {d:Nat} {r:Sv}
theorem put_eq(hd:o.dst=some d)(x:Sv):(⟨t,ob⟩:St).put o.dst x=⟨(d,x) :: t,ob⟩:=by rw[hd];rfl
theorem inN_of(hd:o.dst=some d)(hn:Nat.blt d Γ.n=true):inN Γ.n o.dst=true:=by rw[hd];exact hn
theorem PL.step(hg:o.guard=none)(hd:o.dst=some d)(hn:Nat.blt d Γ.n=true)(h:PS Γ o ⟨t,ob⟩ r)(k:PL Γ ops l R ⟨(d,r) :: t,ob⟩):PL Γ ops (o :: l) R ⟨t,ob⟩:=PL.cons hg (inN_of hd hn) h (by rw[put_eq hd];exact k)
theorem PL.stepW{j e:Nat}{b:Bool}(hg:o.guard=some (j,b))(hj:(ops[j]?).bind (·.dst)=some e)(he:St.at_ ⟨t,ob⟩ e=Bo b)(hd:o.dst=some d)(hn:Nat.blt d Γ.n=true)(h:PS Γ o ⟨t,ob⟩ r)(k:PL Γ ops l R ⟨(d,r) :: t,ob⟩):PL Γ ops (o :: l) R ⟨t,ob⟩:=PL.when hg hj he (PS.full (inN_of hd hn) h (by rw[put_eq hd];exact k))
theorem PD.step(hg:o.guard=none)(hd:o.dst=some d)(hn:Nat.blt d Γ.n=true)(h:PS Γ o ⟨t,ob⟩ r)(k:PD Γ ops R m l ⟨(d,r) :: t,ob⟩):PD Γ ops R (m+1) (o :: l) ⟨t,ob⟩:=PD.cons hg (inN_of hd hn) h (by rw[put_eq hd];exact k)
theorem PD.stepW{j e:Nat}{b:Bool}(hg:o.guard=some (j,b))(hj:(ops[j]?).bind (·.dst)=some e)(he:St.at_ ⟨t,ob⟩ e=Bo b)(hdep:dep o j=true)(hd:o.dst=some d)(hn:Nat.blt d Γ.n=true)(h:PS Γ o ⟨t,ob⟩ r)(k:PD Γ ops R m l ⟨(d,r) :: t,ob⟩):PD Γ ops R (m+1) (o :: l) ⟨t,ob⟩:=PD.when hg hj he hdep (inN_of hd hn) h (by rw[put_eq hd];exact k)
theorem PD.stepP{j e:Nat}{b c:Bool}(hg:o.guard=some (j,b))(hj:(ops[j]?).bind (·.dst)=some e)(he:St.at_ ⟨t,ob⟩ e=Bo c)(hdep:dep o j=true)(hbc:b≠c)(hd:o.dst=some d)(hn:Nat.blt d Γ.n=true)(k:PD Γ ops R m l ⟨(d,.c .any) :: t,ob⟩):PD Γ ops R (m+1) (o :: l) ⟨t,ob⟩:=PD.pass hg hj he hdep hbc (inN_of hd hn) (by rw[put_eq hd];exact k)
theorem Fa.alloc(J:Nat){T:TypeId}{z:Value}(ho:o.op=.alloc T)(hz:(Γ.P.info? T).map (·.zero)=some (some z))(hJ:St.nref ⟨t,ob⟩ J=true)(hd:o.dst=some d)(hn:Nat.blt d Γ.n=true)(hR:R ⟨(d,.c (.ptr J 0)) :: t,(J,.var T (z.cells.toList.map fun v=>.dv (.lit v))) :: ob⟩):FS Γ o ⟨t,ob⟩ R :=
 FS.alloc J ho hz hJ (inN_of hd hn) (by unfold St.add;rw[put_eq hd];exact hR)
theorem Fa.storeR{x y:Operand}{T ty:TypeId}{j:Nat}{cs:List Cl}{xs:List DV}(ho:o.op=.store T x y)(hx:St.ev ⟨t,ob⟩ x=.c (.ptr j 0))(hy:St.ev ⟨t,ob⟩ y=D (.agg xs))(hj:look ob j=some (.var ty cs))(hl:cs.length=xs.length)(hc:xs.all DV.one=true)
  (hi:(Γ.P.info? T).map (·.size)=some xs.length) (hd:o.dst=none) (hR:R ⟨t,(j,.var ty (xs.map .dv)) :: ob⟩):FS Γ o ⟨t,ob⟩ R :=
 FS.storeR ho hx hy hj hl (List.all_eq_true.1 hc) hi (by rw[hd];rfl) (by rw[hd];exact hR)
theorem Fa.storeH{x y:Operand}{T ty:TypeId}{j:Nat}(k:Nat){cs:List Cl}{c:DV}(ho:o.op=.store T x y)(hx:St.ev ⟨t,ob⟩ x=.c (.ptr j 0))(hy:St.ev ⟨t,ob⟩ y=D c)(hj:look ob j=some (.var ty cs))(hl:cs.length=k)
  (hc:∀O w v,c.rep O w v→∃us:Array Value,v=.agg us∧us.size=k∧∀u∈us.toList,u.oneCell'=true) (hi:(Γ.P.info? T).map (·.size)=some k) (hd:o.dst=none) (hR:R ⟨t,(j,.whole false ty c) :: (j,.whole true ty c) :: ob⟩):FS Γ o ⟨t,ob⟩ R :=
 FS.storeH ho hx hy hj hl hc hi (by rw[hd];rfl) (by rw[hd];exact hR)
theorem Fa.boxH(J:Nat){T:TypeId}{x:Operand}{c:DV}(ho:o.op=.box T x)(hx:St.ev ⟨t,ob⟩ x=D c)(hc:∀O w v,c.rep O w v→∃us:Array Value,v=.agg us)(hJ:St.nref ⟨t,ob⟩ J=true)(hd:o.dst=some d)(hn:Nat.blt d Γ.n=true)
  (hR:R ⟨(d,.c (.ptr J 0)) :: t,(J,.whole false T c) :: (J,.whole true T c) :: ob⟩):FS Γ o ⟨t,ob⟩ R :=
 FS.imp (FS.boxW (R:=fun σ=>σ=⟨(d,.c (.ptr J 0)) :: t,(J,.whole true T c) :: ob⟩) J ho hx hc hJ (inN_of hd hn) (by unfold St.add;rw[put_eq hd])) fun σ' e=>by
  subst e
  exact⟨_,hR,fun a w h=>h.hold (by rw[look_cons,if_pos rfl])⟩
theorem Fa.storeB{x y:Operand}{T ty:TypeId}{j off k:Nat}{ni:Bool}{cs:List DV}{c:DV}(ho:o.op=.store T x y)(hx:St.ev ⟨t,ob⟩ x=.c (.ptr j off))(hy:St.ev ⟨t,ob⟩ y=D c)(hj:look ob j=some (.buf ty k ni cs))(hoff:off < cs.length)(hc:c.one=true)(hni:ni=true→c.ni=true)
  (hi:(Γ.P.info? T).map (·.size)=some 1) (hd:o.dst=none) (hR:R ⟨t,(j,.buf ty k ni (cs.set off c)) :: ob⟩):FS Γ o ⟨t,ob⟩ R :=
 FS.storeB ho hx hy hj hoff hc hni hi (by rw[hd];rfl) (by rw[hd];exact hR)
theorem Fa.app(J:Nat){s x:Operand}{ty e:TypeId}{j k bytes:Nat}{ni:Bool}{cs xs:List DV}{z:Value}(ho:o.op=.call { callee:=.builtin .append,args:=#[s,x],argTypes:=#[ty,ty] })(hs:St.ev ⟨t,ob⟩ s=.c (.own j))(hx:St.ev ⟨t,ob⟩ x=D (.sq true k xs))
  (hj:look ob j=some (.buf e k ni cs)) (ht:Γ.P.underlying ty=some (.slice e)) (hinfo:(Γ.P.info? e).map (fun i=>(i.zero,i.size,i.bytes))=some (some z,k,bytes)) (hzs:z.cells.size=k) (hk:0 < k) (hz:ni=true→∀u∈z.cells.toList,noInt u=true)
  (hone:∀y∈xs,y.one=true) (hni:ni=true→∀y∈xs,y.ni=true) (hb1:0 < bytes) (hbytes:(cs.length+xs.length)*bytes≤140737488355328) (hJ:St.nref ⟨t,ob⟩ J=true) (hd:o.dst=some d) (hn:Nat.blt d Γ.n=true)
  (hR:R ⟨(d,.c (.own J)) :: t,(J,.buf e k ni (cs ++ xs)) :: (j,.dead) :: ob⟩):FS Γ o ⟨t,ob⟩ R :=
 FS.app J ho hs hx hj ht hinfo hzs hk hz hone hni hb1 hbytes hJ (inN_of hd hn) (by unfold St.add;rw[put_eq hd];exact hR)
theorem Fa.app0(J:Nat)(ni:Bool){s x:Operand}{ty e:TypeId}{k bytes:Nat}{xs:List DV}{z:Value}(ho:o.op=.call { callee:=.builtin .append,args:=#[s,x],argTypes:=#[ty,ty] })(hs:St.ev ⟨t,ob⟩ s=L (.slice none 0 0))(hx:St.ev ⟨t,ob⟩ x=D (.sq true k xs))
  (ht:Γ.P.underlying ty=some (.slice e)) (hinfo:(Γ.P.info? e).map (fun i=>(i.zero,i.size,i.bytes))=some (some z,k,bytes)) (hzs:z.cells.size=k) (hk:0 < k) (hz:ni=true→∀u∈z.cells.toList,noInt u=true)
  (hone:∀y∈xs,y.one=true) (hni:ni=true→∀y∈xs,y.ni=true) (hb1:0 < bytes) (hbytes:xs.length*bytes≤140737488355328) (hJ:St.nref ⟨t,ob⟩ J=true) (hd:o.dst=some d) (hn:Nat.blt d Γ.n=true)
  (hR:R ⟨(d,.c (.own J)) :: t,(J,.buf e k ni xs) :: ob⟩):FS Γ o ⟨t,ob⟩ R :=
 FS.app0 J ni ho hs hx ht hinfo hzs hk hz hone hni hb1 hbytes hJ (inN_of hd hn) (by unfold St.add;rw[put_eq hd];exact hR)
theorem Fa.make(J:Nat)(ni:Bool){x y:Operand}{ty e:TypeId}{bytes n c:Nat}{kl kc:IntKind}{z:Value}(ho:o.op=.makeSlice ty x y)(hx:St.ev ⟨t,ob⟩ x=L (.int kl n))(hy:St.ev ⟨t,ob⟩ y=L (.int kc c))(hlc:n≤c)
  (ht:Γ.P.underlying ty=some (.slice e)) (hinfo:(Γ.P.info? e).map (fun i=>(i.zero,i.size,i.bytes))=some (some z,1,bytes)) (hzs:z.cells = #[z]) (hz:ni=true→noInt z=true) (hb0:0 < bytes) (hb:c≤16777216) (hb1:c*bytes≤281474976710656) (hJ:St.nref ⟨t,ob⟩ J=true) (hd:o.dst=some d) (hn:Nat.blt d Γ.n=true)
  (hR:R ⟨(d,.c (.own J)) :: t,(J,.buf e 1 ni (List.replicate n (.lit z))) :: ob⟩):FS Γ o ⟨t,ob⟩ R :=
 FS.make J ni ho hx hy hlc ht hinfo hzs hz hb0 hb hb1 hJ (inN_of hd hn) (by unfold St.add;rw[put_eq hd];exact hR)
theorem PW.give{c:Code}{R:Exit→St→Prop}(j:Nat){ty k:Nat}{ni:Bool}{cs:List DV}(hj:look ob j=some (.buf ty k ni cs))(h:PW Γ c R ⟨t,(j,.frz (.sq true k cs)) :: ob⟩):PW Γ c R ⟨t,ob⟩:=PW.frz j hj h
theorem PW.cut{x y:Code}{R:Exit→St→Prop}(I:St→Prop)(h:PW Γ x (thn (fun σ'=>∃π σm,I σm∧Wk π σm σ') R) σ)(k:∀σm,I σm→PW Γ y R σm):PW Γ (.seq x y) R σ:=PW.seq (PW.mono h fun e σ' h1=>by
 cases e with
 |normal=>obtain⟨π,σm,h2,h3⟩:=h1;exact PW.weak h3 (k σm h2)
 |_=>exact h1)
theorem PS.pickT{c x y:Operand}{r:Sv}(ho:o.op=.pick c x y)(hc:σ.ev c=Bo true)(hx:σ.ev x=r):PS Γ o σ r:=by
 subst hx
 refine PS.read _ fun ρ a w h1 h2=>⟨a.eval x,?_,h2.ev x (by simp[ho,Op.operands])⟩
 unfold execOp
 simp[ho,h2.lit hc (by simp[ho,Op.operands]),asBool]
theorem PS.pickF{c x y:Operand}{r:Sv}(ho:o.op=.pick c x y)(hc:σ.ev c=Bo false)(hx:σ.ev y=r):PS Γ o σ r:=by
 subst hx
 refine PS.read _ fun ρ a w h1 h2=>⟨a.eval y,?_,h2.ev y (by simp[ho,Op.operands])⟩
 unfold execOp
 simp[ho,h2.lit hc (by simp[ho,Op.operands]),asBool]
theorem PL.mv{x:Operand}{c:Cl}(hg:o.guard=none)(ho:o.op=.move x)(hd:o.dst=some d)(hn:Nat.blt d Γ.n=true)(hx:St.ev ⟨t,ob⟩ x=.c c)(k:PL Γ ops l R ⟨(d,.c c) :: t,ob⟩):PL Γ ops (o :: l) R ⟨t,ob⟩:=PL.step hg hd hn (PS.moved ho hx) k
theorem PL.mu{x:Operand}{c:Cl}(hg:o.guard=none)(ho:o.op=.assign x)(hd:o.dst=some d)(hn:Nat.blt d Γ.n=true)(hx:St.ev ⟨t,ob⟩ x=.c c)(k:PL Γ ops l R ⟨(d,.c c) :: t,ob⟩):PL Γ ops (o :: l) R ⟨t,ob⟩:=PL.step hg hd hn (PS.assigned ho hx) k
theorem PD.mv{x:Operand}{c:Cl}(hg:o.guard=none)(ho:o.op=.move x)(hd:o.dst=some d)(hn:Nat.blt d Γ.n=true)(hx:St.ev ⟨t,ob⟩ x=.c c)(k:PD Γ ops R m l ⟨(d,.c c) :: t,ob⟩):PD Γ ops R (m+1) (o :: l) ⟨t,ob⟩:=PD.step hg hd hn (PS.moved ho hx) k
theorem PD.mu{x:Operand}{c:Cl}(hg:o.guard=none)(ho:o.op=.assign x)(hd:o.dst=some d)(hn:Nat.blt d Γ.n=true)(hx:St.ev ⟨t,ob⟩ x=.c c)(k:PD Γ ops R m l ⟨(d,.c c) :: t,ob⟩):PD Γ ops R (m+1) (o :: l) ⟨t,ob⟩:=PD.step hg hd hn (PS.assigned ho hx) k
theorem PD.pT{x y z:Operand}{c:Cl}(hg:o.guard=none)(ho:o.op=.pick x y z)(hd:o.dst=some d)(hn:Nat.blt d Γ.n=true)(hc:St.ev ⟨t,ob⟩ x=Bo true)(hx:St.ev ⟨t,ob⟩ y=.c c)(k:PD Γ ops R m l ⟨(d,.c c) :: t,ob⟩):PD Γ ops R (m+1) (o :: l) ⟨t,ob⟩:=PD.step hg hd hn (PS.pickT ho hc hx) k
theorem PL.pT{x y z:Operand}{c:Cl}(hg:o.guard=none)(ho:o.op=.pick x y z)(hd:o.dst=some d)(hn:Nat.blt d Γ.n=true)(hc:St.ev ⟨t,ob⟩ x=Bo true)(hx:St.ev ⟨t,ob⟩ y=.c c)(k:PL Γ ops l R ⟨(d,.c c) :: t,ob⟩):PL Γ ops (o :: l) R ⟨t,ob⟩:=PL.step hg hd hn (PS.pickT ho hc hx) k
theorem PD.pF{x y z:Operand}{c:Cl}(hg:o.guard=none)(ho:o.op=.pick x y z)(hd:o.dst=some d)(hn:Nat.blt d Γ.n=true)(hc:St.ev ⟨t,ob⟩ x=Bo false)(hx:St.ev ⟨t,ob⟩ z=.c c)(k:PD Γ ops R m l ⟨(d,.c c) :: t,ob⟩):PD Γ ops R (m+1) (o :: l) ⟨t,ob⟩:=PD.step hg hd hn (PS.pickF ho hc hx) k
theorem PL.pF{x y z:Operand}{c:Cl}(hg:o.guard=none)(ho:o.op=.pick x y z)(hd:o.dst=some d)(hn:Nat.blt d Γ.n=true)(hc:St.ev ⟨t,ob⟩ x=Bo false)(hx:St.ev ⟨t,ob⟩ z=.c c)(k:PL Γ ops l R ⟨(d,.c c) :: t,ob⟩):PL Γ ops (o :: l) R ⟨t,ob⟩:=PL.step hg hd hn (PS.pickF ho hc hx) k
theorem PL.call{f:FuncId}{args:List Operand}{ts:Array TypeId}{xs:List DV}{r:DV}{ks:List IntKind}(hg:o.guard=none)(ho:o.op=.call { callee:=.value (.func f),args:=args.toArray,argTypes:=ts })(hd:o.dst=some d)(hn:Nat.blt d Γ.n=true)(hx:args.map (St.ev ⟨t,ob⟩)=xs.map (fun x=>D x))(hk:subK ks Γ.ks=true)(hc:clnO ks ob=true)(h:∀w,Kp Γ.X Γ.w0 w→FnAt Γ.P ks w f xs r)(k:PL Γ ops l R ⟨(d,D r) :: t,ob⟩):PL Γ ops (o :: l) R ⟨t,ob⟩:=PL.step hg hd hn (PS.call ho hx hk hc h) k
theorem PD.call{f:FuncId}{args:List Operand}{ts:Array TypeId}{xs:List DV}{r:DV}{ks:List IntKind}(hg:o.guard=none)(ho:o.op=.call { callee:=.value (.func f),args:=args.toArray,argTypes:=ts })(hd:o.dst=some d)(hn:Nat.blt d Γ.n=true)(hx:args.map (St.ev ⟨t,ob⟩)=xs.map (fun x=>D x))(hk:subK ks Γ.ks=true)(hc:clnO ks ob=true)(h:∀w,Kp Γ.X Γ.w0 w→FnAt Γ.P ks w f xs r)(k:PD Γ ops R m l ⟨(d,D r) :: t,ob⟩):PD Γ ops R (m+1) (o :: l) ⟨t,ob⟩:=PD.step hg hd hn (PS.call ho hx hk hc h) k
def DV.le(x y:DV):Prop:=∀O w v,x.rep O w v→y.rep O w v
theorem PS.eq{x y:Sv}(h:PS Γ o σ x)(hxy:x=y):PS Γ o σ y:=hxy▸h
theorem PS.decT{p:Prop}[Decidable p](h:PS Γ o σ (Bo (decide p)))(hp:p):PS Γ o σ (Bo true):=by rwa [decide_eq_true hp] at h
theorem Rt.as{fn:Func}{x y:DV}(h:Rt Γ fn x σ)(hxy:DV.le x y):Rt Γ fn y σ:=fun ρ a w h1 h2=>by obtain⟨v,h3,h4⟩:=h ρ a w h1 h2;exact⟨v,h3,hxy _ _ _ h4⟩
end
theorem le_nil(r:Bool)(k:Nat):DV.le (.lit (.slice none 0 0)) (.sq r k []):=fun O w v h=>⟨none,0,0,h,by simp,fun _=>⟨Nat.le_refl _,Nat.zero_le _,fun _=>rfl⟩,trivial⟩
theorem reps_le{O:Nat→Prop}{w:World}{f:Nat→Value→Prop}:∀ {xs ys:List DV} {i:Nat},xs.length=ys.length→(∀(j:Nat) (x y:DV),xs[j]?=some x→ys[j]?=some y→DV.le x y)→DV.reps O w xs i f→DV.reps O w ys i f:=by
 intro xs ys i hl h hr
 refine reps_iff.2 fun j y hj=>?_
 have hjl:j < xs.length:=by have:=(List.getElem?_eq_some_iff.1 hj).1;omega
 obtain⟨v,h1,h2⟩:=reps_iff.1 hr j xs[j] (List.getElem?_eq_getElem hjl)
 exact⟨v,h1,h j _ _ (List.getElem?_eq_getElem hjl) hj _ _ _ h2⟩
theorem le_refl(x:DV):DV.le x x:=fun _ _ _ h=>h
def row(r:Bool)(l:List Value):DV:=.sq r 1 (l.map .lit)
theorem row_sl{O:Nat→Prop}{w:World}{r:Bool}{l:List Value}{v:Value}(h:(row r l).rep O w v):∃A n c,v=.slice A n c∧Sl w A n l∧(r=true→n≤c∧n≤maxLen∧(A=none→c=0)):=by
 obtain⟨A,n,c,h1,h2,h3,h4⟩:=h
 refine⟨A,n,c,h1,⟨by simpa using h2.symm,fun k u hk=>?_⟩,h3⟩
 obtain⟨v',⟨ad,e1,-, e2⟩,e3⟩:=reps_iff.1 h4 k (.lit u) (by simp[hk])
 cases e3
 exact⟨ad,e1,by rw[Nat.zero_add] at e2;exact e2⟩
end Go.Proofs.YtoibhnpmemnlfaaGreatDoor.Av
namespace Go.Proofs.YtoibhnpmemnlfaaGreatDoor.Av
open Go.RowKit Go.Proofs.YtoibhnpmemnlfaaGreatDoor.Gn Go.Deep
def OwnAt(P:Program)(ks:List IntKind)(w:World)(f:FuncId)(xs:List DV)(e:TypeId)(k:Nat)(ni:Bool)(cs:List DV):Prop:=En P f∧∀(O:Nat→Prop) (vs:List Value),(∀b,O b→b < w.heap.size)→(∀b cs t fz,O b→w.heap[b]?=some (.cells cs t fz)→∀v∈cs.toList,noK ks v=true) →
 vs.length=xs.length→DV.reps O w xs 0 (fun i v=>vs[i]?=some v)→Calls P f vs.toArray w fun en w'=>∃v n us,en=.returned v∧Row w' e k v n us ni∧us.length=cs.length∧DV.reps (fun b=>O b∨blk v=some b) w' cs 0 (fun i u=>us[i]?=some u)∧(∀b,blk v=some b→w.heap.size≤b)∧(∃A n c,v=.slice A n c)∧Below w.heap.size w w'
section
variable {Γ:Ctx} {σ:St} {o:Oper}
theorem FS.callOwn(J:Nat){f:FuncId}{args:List Operand}{ts:Array TypeId}{xs cs:List DV}{e:TypeId}{k:Nat}{ni:Bool}{ks:List IntKind}{R:St→Prop}(ho:o.op=.call { callee:=.value (.func f),args:=args.toArray,argTypes:=ts })(hx:args.map σ.ev=xs.map (fun x=>D x))
  (hk:subK ks Γ.ks=true) (hc:clnO ks σ.o=true) (h:∀w,Kp Γ.X Γ.w0 w→OwnAt Γ.P ks w f xs e k ni cs) (hJ:σ.nref J=true) (hd:inN Γ.n o.dst=true)
  (hR:R ((σ.add J (.buf e k ni cs) none).put o.dst (.c (.own J)))):FS Γ o σ R:=by
 rintro a w Q K ⟨ρ,h1,h2⟩ hK
 have hr:=run_call (P:=Γ.P) (a:=a) (w:=w) ho (h w h1.kp).1
 have hl:args.length=xs.length:=by simpa using congrArg List.length hx
 have:=(h w h1.kp).2 (OO Γ.O0 σ.o ρ) (args.map a.eval) (fun b hb=>OO_lt h1 hb) (OO_noK h1 hk hc) (by simp[hl]) (evs_rep (h2.opers (o:=o) h1) hx (fun x hx=>by simp[ho,Op.operands,Call.operands,hx]))
 refine wp_enter hr ?_
 rw[show args.toArray.map a.eval=(args.map a.eval).toArray by simp]
 refine this.mono ?_
 rintro en w' ⟨v,n,us,he,g1,g2,g3,g4,g5,hb⟩
 refine⟨v,he,?_⟩
 obtain⟨q1,q2⟩:=h1.swap h2 J hJ v (.buf e k ni cs) none none (only_below hb none) (fun b hb=>by cases hb) rfl (fun b hb=>.inr (g4 b hb)) fun O' hoff hO hO2=>by
  refine⟨n,us,by rw[show updρ ρ J v J=v by simp[updρ]];exact g1,g2,DV.reps_keep (Off.refl _ w') (fun b hb1 _ hb2=>hb1 (hO2 b hb2)) _ 0 _ _ g3 fun _ _ h=>h⟩
 refine hK _ _ _ hR ⟨updρ ρ J v,by rw[St.put_o];exact q1,q2.put ?_ _ hd⟩
 exact⟨by simp[updρ],g5⟩
theorem Fa.callOwn(J:Nat){f:FuncId}{args:List Operand}{ts:Array TypeId}{xs cs:List DV}{e:TypeId}{k:Nat}{ni:Bool}{ks:List IntKind}{R:St→Prop}{t:List (Nat × Sv)}{ob:List (Nat × Ob)}{d:Nat}(ho:o.op=.call { callee:=.value (.func f),args:=args.toArray,argTypes:=ts })(hx:args.map (St.ev ⟨t,ob⟩)=xs.map (fun x=>D x))
  (hk:subK ks Γ.ks=true) (hc:clnO ks ob=true) (h:∀w,Kp Γ.X Γ.w0 w→OwnAt Γ.P ks w f xs e k ni cs) (hJ:St.nref ⟨t,ob⟩ J=true) (hd:o.dst=some d) (hn:Nat.blt d Γ.n=true)
  (hR:R ⟨(d,.c (.own J)) :: t,(J,.buf e k ni cs) :: ob⟩):FS Γ o ⟨t,ob⟩ R:=FS.callOwn J ho hx hk hc h hJ (inN_of hd hn) (by unfold St.add;rw[put_eq hd];exact hR)
theorem FnAt.le{P:Program}{ks:List IntKind}{w:World}{f:FuncId}{xs ys:List DV}{r:DV}(h:FnAt P ks w f xs r)(hl:ys.length=xs.length)(hle:∀(j:Nat) (x y:DV),ys[j]?=some x→xs[j]?=some y→DV.le x y):FnAt P ks w f ys r :=
 ⟨h.1,fun O vs hO hk hv hr=>h.2 O vs hO hk (by omega) (reps_le hl hle hr)⟩
end
theorem row_bl{w:World}{g:Nat}{t:TypeId}{l:List Value}{ni:Bool}(h:Bl w g t l.toArray)(hl:l.length≤maxLen)(hn:ni=true→∀u∈l,noInt u=true):Row w t 1 (.slice (some ⟨g,0,none⟩) l.length l.length) l.length l ni :=
 ⟨by simp,.inr ⟨g,l.length,l.toArray,rfl,h,Nat.le_refl _,hl,by simp,by simp,by simpa using hn⟩⟩
end Go.Proofs.YtoibhnpmemnlfaaGreatDoor.Av
namespace Go.Proofs.YtoibhnpmemnlfaaGreatDoor.Av
open Go.RowKit Go.Proofs.YtoibhnpmemnlfaaGreatDoor.Gn Go.Deep
def PU(Γ:Ctx)(o:Oper)(σ:St)(r:Sv):Prop:=∀(ρ:Nat→Value) (a:Act) (w:World),Wt Γ σ.o ρ w→Fo Γ σ ρ o a w→∃v,(∀w',(execOp a.eval o).run Γ.P w'=.ok (.value v) w')∧r.rep ρ (OO Γ.O0 σ.o ρ) w v
section
variable {Γ:Ctx} {σ:St} {o:Oper}
theorem PU.move{x:Operand}(ho:o.op=.move x∨o.op=.assign x):PU Γ o σ (σ.ev x):=fun ρ a w h1 h2 =>
 ⟨a.eval x,fun w'=>by rcases ho with ho|ho <;> simp[execOp,ho],h2.ev x (by rcases ho with ho|ho <;> simp[ho,Op.operands])⟩
theorem PU.moved{x:Operand}{r:Sv}(ho:o.op=.move x)(hx:σ.ev x=r):PU Γ o σ r:=hx▸PU.move (.inl ho)
theorem PU.assigned{x:Operand}{r:Sv}(ho:o.op=.assign x)(hx:σ.ev x=r):PU Γ o σ r:=hx▸PU.move (.inr ho)
theorem PU.ext{x:Operand}{i:Nat}{xs:List DV}{y:DV}(ho:o.op=.extract x i)(hx:σ.ev x=D (.tup xs))(hi:xs[i]?=some y):PU Γ o σ (D y):=fun ρ a w h1 h2=>by
 obtain⟨vs,e1,e2,e3⟩:=h2.dv hx (by simp[ho,Op.operands])
 obtain⟨v,e4,e5⟩:=reps_iff.1 e3 i y hi
 rw[Nat.zero_add] at e4
 exact⟨v,fun w'=>by unfold execOp;simp[ho,e1,Instr.extract,e4],e5⟩
end
def GU(Γ:Ctx)(ops:Array Oper)(o:Oper)(σ:St)(r:Sv):Prop:=inN Γ.n o.dst=true∧(
 (o.guard=none∧PU Γ o σ r)∨∃j d b c,o.guard=some (j,b)∧(ops[j]?).bind (·.dst)=some d∧σ.at_ d=Bo c∧(b=c∧PU Γ o σ r∨b≠c∧r=.c .any))
def PO(Γ:Ctx)(ops:Array Oper)(R:St→Prop):Nat→Array Bool→St→Prop
 |0,listed,σ=>Region.ready .any ops listed=[]∧R σ
 |n+1,listed,σ=>((Region.ready .any ops listed=[]→R σ)∧∀i∈Region.ready .any ops listed,∃o,ops[i]?=some o∧GF Γ ops o σ (PO Γ ops R n (listed.setIfInBounds i true))) ∨
  ∃i o r,ops[i]?=some o∧Region.noSelect ops=true∧Region.free .any ops listed i=true∧(Region.ready .any ops listed).contains i=true∧GU Γ ops o σ r∧PO Γ ops R n (listed.setIfInBounds i true) (σ.put o.dst r)
section
variable {Γ:Ctx} {ops:Array Oper} {R:St→Prop} {σ:St}
theorem PO.sound:∀ {n:Nat} {listed:Array Bool} {σ:St} {a:Act} {w:World} {Q:Exit→Act→World→Prop},PO Γ ops R n listed σ→Mt Γ σ a w→(∀c a w,¬Q (.panic c) a w)→(∀σ' a' w',R σ'→Mt Γ σ' a' w'→Q .normal a' w')→wpAny Γ.P .any ops Q n listed a w:=by
 intro n
 induction n with
 |zero=>intro listed σ a w Q h hM hP hQ;exact⟨h.1,hQ _ _ _ h.2 hM⟩
 |succ n ih =>
  intro listed σ a w Q h hM hP hQ
  rcases h with h|⟨i,o,r,ho,hs,hf,hr,⟨hn,hg⟩,hk⟩
  case inr =>
   obtain⟨ρ,h1,h2⟩:=hM
   have key:∃v,Yields Γ.P ops o v a∧r.rep ρ (OO Γ.O0 σ.o ρ) w v:=by
    rcases hg with⟨hg,hF⟩|⟨j,d,b,c,hg,hj,hd,hF⟩
    ·obtain⟨v,h3,h4⟩:=hF ρ a w h1 (h2.opers h1)
     exact⟨v,.inl ⟨by simp[Region.wanted,hg],h3⟩,h4⟩
    ·rcases hF with⟨rfl,hF⟩|⟨hbc,rfl⟩
     ·obtain⟨v,h3,h4⟩:=hF ρ a w h1 (h2.opers h1)
      exact⟨v,.inl ⟨by simp[Region.wanted,hg,yield_of h1 h2 hj hd],h3⟩,h4⟩
     ·exact⟨undef,.inr ⟨by simp[Region.wanted,hg,yield_of h1 h2 hj hd];exact fun e=>hbc e.symm,rfl⟩,trivial⟩
   obtain⟨v,hy,hv⟩:=key
   exact wpAny_take ho hs hf hr (fun c a w h=>(hP _ _ _ h).elim) hy (ih hk ⟨ρ,by rw[St.put_o];exact h1,h2.put hv _ hn⟩ hP hQ)
  refine⟨fun hr=>hQ _ _ _ (h.1 hr) hM,fun i hi=>?_⟩
  obtain⟨o,ho,hg⟩:=h.2 i hi
  unfold wpOp
  rw[ho]
  dsimp only
  rcases hg with⟨hg,hF⟩|⟨j,d,b,c,hg,hj,hd,hF⟩
  ·rw[if_pos (by simp[Region.wanted,hg])]
   exact .inl (hF a w Q _ hM fun σ' v w' hl hM'=>ih hl hM' hP hQ)
  ·obtain⟨ρ,h1,h2⟩:=hM
   rcases hF with⟨rfl,hF⟩|⟨hbc,hn,hK⟩
   ·rw[if_pos (by simp[Region.wanted,hg,yield_of h1 h2 hj hd])]
    exact .inl (hF a w Q _ ⟨ρ,h1,h2⟩ fun σ' v w' hl hM'=>ih hl hM' hP hQ)
   ·rw[if_neg (by simp[Region.wanted,hg,yield_of h1 h2 hj hd];exact fun e=>hbc e.symm)]
    exact ih hK ⟨ρ,by rw[St.put_o];exact h1,h2.put (by trivial) _ hn⟩ hP hQ
theorem Mt.drew{a:Act}{w:World}(h:Mt Γ σ a w):Mt Γ σ a w.drew:=by
 obtain⟨ρ,h1,h2⟩:=h
 exact⟨ρ,h1.below (Below.refl _ _).drew,h2.below (Below.refl _ _).drew⟩
theorem PW.orders{id:Nat}{l:List Oper}{R:Exit→St→Prop}(hm:Γ.P.follows .mixedOrders=true)(h:PO Γ l.toArray (R .normal) l.length (Array.replicate l.length false) σ):PW Γ (.region id l.toArray true) R σ:=fun a w hM =>
 wp_mono (wp_region_any (Q:=fun e a' w'=>e=.normal∧∃σ',Mt Γ σ' a' w'∧R .normal σ') hm (by
  have:=PO.sound (Q:=fun e a' w'=>e=.normal∧∃σ',Mt Γ σ' a' w'∧R .normal σ') h hM.drew (fun c a w h=>by cases h.1) fun σ' a' w' hR hM'=>⟨rfl,σ',hM',hR⟩
  simpa using this)) fun e a' w' h=>by
   obtain⟨rfl,h⟩:=h
   exact h
def allO(Γ:Ctx)(ops:Array Oper)(R:St→Prop)(n:Nat)(listed:Array Bool)(σ:St):List Nat→Prop
 | []=>True
 |i :: l=>(∃o,ops[i]?=some o∧GF Γ ops o σ (PO Γ ops R n (listed.setIfInBounds i true)))∧allO Γ ops R n listed σ l
theorem allO_mem{n:Nat}{listed:Array Bool}:∀ {l:List Nat},allO Γ ops R n listed σ l→∀i∈l,∃o,ops[i]?=some o∧GF Γ ops o σ (PO Γ ops R n (listed.setIfInBounds i true)):=by
 intro l
 induction l with
 |nil=>intro _ i hi;cases hi
 |cons k l ih =>
  intro h i hi
  rcases List.mem_cons.1 hi with rfl|hi
  ·exact h.1
  ·exact ih h.2 i hi
theorem PO.at_{n:Nat}{listed:Array Bool}(i:Nat)(rs:List Nat)(hr:Region.ready .any ops listed=i :: rs)(h:allO Γ ops R n listed σ (i :: rs)):PO Γ ops R (n+1) listed σ :=
 .inl ⟨fun e=>(by rw[hr] at e;cases e),fun j hj=>allO_mem h j (by rw[←hr];exact hj)⟩
theorem PO.end_{listed:Array Bool}(hr:Region.ready .any ops listed=[])(h:R σ):PO Γ ops R 0 listed σ:=⟨hr,h⟩
theorem allO.cons{n:Nat}{listed listed':Array Bool}{i:Nat}{l:List Nat}(o:Oper)(ho:ops[i]?=some o)(hl:listed.setIfInBounds i true=listed')(h:GF Γ ops o σ (PO Γ ops R n listed'))(k:allO Γ ops R n listed σ l):allO Γ ops R n listed σ (i :: l):=⟨⟨o,ho,by rw[hl];exact h⟩,k⟩
variable {t:List (Nat × Sv)} {ob:List (Nat × Ob)} {o:Oper} {d:Nat} {r:Sv} {K:St→Prop}
theorem GF.step(hg:o.guard=none)(hd:o.dst=some d)(hn:Nat.blt d Γ.n=true)(h:PS Γ o ⟨t,ob⟩ r)(k:K ⟨(d,r) :: t,ob⟩):GF Γ ops o ⟨t,ob⟩ K:=.inl ⟨hg,PS.full (inN_of hd hn) h (by rw[put_eq hd];exact k)⟩
theorem GF.full(hg:o.guard=none)(h:FS Γ o σ K):GF Γ ops o σ K:=.inl ⟨hg,h⟩
theorem PO.take{n:Nat}{listed:Array Bool}(i:Nat)(ho:ops[i]?=some o)(hs:Region.noSelect ops=true)(hf:Region.free .any ops listed i=true)(hr:(Region.ready .any ops listed).contains i=true)(hg:o.guard=none)(hd:o.dst=some d)(hn:Nat.blt d Γ.n=true)(h:PU Γ o ⟨t,ob⟩ r)
  (k:PO Γ ops R n (listed.setIfInBounds i true) ⟨(d,r) :: t,ob⟩):PO Γ ops R (n+1) listed ⟨t,ob⟩:=.inr ⟨i,o,r,ho,hs,hf,hr,⟨inN_of hd hn,.inl ⟨hg,h⟩⟩,by rw[put_eq hd];exact k⟩
end
end Go.Proofs.YtoibhnpmemnlfaaGreatDoor.Av
namespace Go.Proofs.YtoibhnpmemnlfaaGreatDoor.Av
open Go.RowKit Go.Proofs.YtoibhnpmemnlfaaGreatDoor.Gn Go.Deep
section
variable {Γ:Ctx} {σ:St} {o:Oper}
end
end Go.Proofs.YtoibhnpmemnlfaaGreatDoor.Av
namespace Go.Proofs.YtoibhnpmemnlfaaGreatDoor.Av
open Go.RowKit Go.Proofs.YtoibhnpmemnlfaaGreatDoor.Gn Go.Deep
def byt(r:Bool)(l:List Nat):DV:=.sq r 1 ((bl l).map .lit)
theorem byt_one(l:List Nat):∀y∈(bl l).map DV.lit,y.one=true:=by
 intro y hy
 obtain⟨v,hv,rfl⟩:=List.mem_map.1 hy
 obtain⟨x,-, rfl⟩:=List.mem_map.1 hv
 rfl
theorem byt_take(l:List Nat)(n:Nat):((bl l).map DV.lit).take n=(bl (l.take n)).map DV.lit:=by simp[bl,List.map_take]
theorem byt_drop(l:List Nat)(n:Nat):((bl l).map DV.lit).drop n=(bl (l.drop n)).map DV.lit:=by simp[bl,List.map_drop]
theorem byt_get{l:List Nat}{i:Nat}(h:i < l.length):((bl l).map DV.lit)[i]?=some (.lit (.int .u8 ((l.getD i 0:Nat):Int))):=by
 simp[bl,List.getElem?_map,List.getElem?_eq_getElem h,List.getD_eq_getElem?_getD]
theorem byt_set(l:List Nat)(i x:Nat):((bl l).map DV.lit).set i (.lit (.int .u8 (x:Int)))=(bl (l.set i x)).map DV.lit:=by simp[bl,List.map_set]
section
variable {Γ:Ctx} {σ:St} {o:Oper}
theorem PS.str{x:Operand}{T T2 e:TypeId}{r:Bool}{l:List Nat}(ho:o.op=.convert T T2 x)(hx:σ.ev x=D (byt r l))(hs:Γ.P.underlying T=some (.slice e))(he:Γ.P.underlying e=some (.int .u8))(hd:Γ.P.underlying T2=some .string):PS Γ o σ (L (.string (txt l))) :=
 PS.read _ fun ρ a w h1 h2=>by
  obtain⟨A,n,c,e1,h3,-⟩:=row_sl (h2.dv hx (by simp[ho,Op.operands]))
  refine⟨.string (txt l),?_,rfl⟩
  unfold execOp
  simp only[ho,e1,Sem.run_bind,Result.andThen_ok,run_txt w T T2 e hs he hd A n c l h3,Sem.run_pure]
theorem guard_lit{P:Program}{op:BinOp}{T:TypeId}{x y:Operand}{s t:ByteArray}(w:World):(eqGuard op T x y (.string s) (.string t)).run P w=.ok () w:=by
 simp[go_sem]
theorem ba_eq(s t:ByteArray):(s.toList == t.toList)=decide (s=t):=by
 rw[ByteArray.toList_eq,ByteArray.toList_eq,Bool.eq_iff_iff,beq_iff_eq,decide_eq_true_eq]
 constructor
 ·intro h
  cases s;cases t
  congr 1
  exact Array.toList_inj.1 h
 ·intro h;rw[h]
theorem PS.seq{T T2:TypeId}{x y:Operand}{s t:ByteArray}(ho:o.op=.binOp .eql T x y T2)(hx:σ.ev x=L (.string s))(hy:σ.ev y=L (.string t)):PS Γ o σ (Bo (decide (s=t))) :=
 PS.bin _ ho hx hy guard_lit fun w=>by rw[←ba_eq];simp[go_sem]
end
theorem txt_dec{l k:List Nat}(hl:∀x∈l,x < 256)(hk:∀x∈k,x < 256):decide (txt l=txt k)=decide (l=k) :=
 decide_eq_decide.2 ⟨fun h=>txt_inj hl hk h,fun h=>by rw[h]⟩
end Go.Proofs.YtoibhnpmemnlfaaGreatDoor.Av
