/- Joined texts. -/
import Derived.Test.YteblmphohhbgcaaQaScBytes
import Derived.Test.YteblmphohhbgcaaQaWrNxtInt
import Derived.Test.YteblmphohhbgcaaQaWrNxtBytes
import Derived.Test.YteblmphohhbgcaaQaWrNxtList
set_option linter.unusedVariables false
namespace Go.Proofs.Yteblmphohhbgcaa.Wr
open Go.RowKit Go.Proofs.Yteblmphohhbgcaa.Gn Go.Proofs.Yteblmphohhbgcaa.Fd Go.Deep
set_option maxRecDepth 100000
def kd:Tv→Int
 |.mk K _ _ _ _ _=>K
def nm:Tv→Nat
 |.mk _ N _ _ _ _=>N
def rw_:Tv→Rw
 |.mk _ _ r _ _ _=>r
def kids:Tv→List Tv
 |.mk _ _ _ _ _ us=>us
def nxt(F:Tv→Bool)(k:Int)(wh:Bool):List Tv→Tv × Bool × List Tv
 | []=>(tv0,false,[])
 |t :: ts=>if kd t=k then(if F t=true then(t,wh,ts) else(tv0,false,[])) else(tv0,false,[])
theorem nxt_is(F:Tv→Bool)(k:Int)(wh:Bool)(ks:List Tv):((nxt F k wh ks).1=tv0∧(nxt F k wh ks).2=(false,[]))∨∃t ts,ks=t :: ts∧kd t=k∧F t=true∧nxt F k wh ks=(t,wh,ts):=by
 cases ks with
 |nil=>exact .inl ⟨rfl,rfl⟩
 |cons t ts =>
  rw[nxt]
  split
  ·split
   ·rename_i h1 h2;exact .inr ⟨t,ts,rfl,h1,h2,rfl⟩
   ·exact .inl ⟨rfl,rfl⟩
  ·exact .inl ⟨rfl,rfl⟩
abbrev fInt(pa pb:Nat):Value:=.func (.func 86) #[] #[.pointer (some ⟨pa,0,none⟩),.pointer (some ⟨pb,0,none⟩)]
abbrev fBytes(pa pb:Nat):Value:=.func (.func 88) #[] #[.pointer (some ⟨pa,0,none⟩),.pointer (some ⟨pb,0,none⟩)]
abbrev fList(pa pb:Nat):Value:=.func (.func 94) #[] #[.pointer (some ⟨pa,0,none⟩),.pointer (some ⟨pb,0,none⟩)]
def FI(a b:Int)(t:Tv):Bool:=isI (nm t) && inB (nm t:Int) a b
def FB(a b:Int)(t:Tv):Bool:=inB ((rw_ t).2.1:Int) a b
def FL(a b:Int)(t:Tv):Bool:=inB ((kids t).length:Int) a b
def N3(x:Tv × Bool × List Tv)(g:Nat)(w:World)(e:Ending)(w':World):Prop:=NxQ x.1 x.2.1 x.2.2 g w e w'
theorem n3_empty{w:World}{g:Nat}{wh:Bool}(h:Fl w g wh [])(F:Tv→Bool)(k:Int)(fv:Value):Calls Try.prog 85 #[.pointer (some ⟨g,0,none⟩),.int .i64 k,fv] w (N3 (nxt F k wh []) g w):=next_empty h k fv
theorem n3_kind{w:World}{g:Nat}{wh:Bool}{t:Tv}{ks:List Tv}(h:Fl w g wh (t :: ks))(F:Tv→Bool)(k:Int)(hk:¬kd t=k)(fv:Value):Calls Try.prog 85 #[.pointer (some ⟨g,0,none⟩),.int .i64 k,fv] w (N3 (nxt F k wh (t :: ks)) g w):=by
 obtain⟨K,N,r,B,cc,us⟩:=t
 rw[nxt,if_neg hk]
 exact next_kind h k hk fv
theorem nextI{w:World}{g:Nat}{wh:Bool}{ks:List Tv}(h:Fl w g wh ks)(k:Int)(pa pb:Nat)(a b:Int)(ha:w.cell? ⟨pa,0,none⟩=some (.int .i64 a))(hb:w.cell? ⟨pb,0,none⟩=some (.int .i64 b)):Calls Try.prog 85 #[.pointer (some ⟨g,0,none⟩),.int .i64 k,fInt pa pb] w (N3 (nxt (FI a b) k wh ks) g w):=by
 cases ks with
 |nil=>exact n3_empty h _ k _
 |cons t ts =>
  by_cases hk:kd t=k
  ·have hok:=h.ok t List.mem_cons_self
   skip
   obtain⟨K,N,r,B,cc,us⟩:=t
   subst hk
   have hpc:Pc w r:=by cases hok with|mk hn hr hs hm hc h0 hk=>exact hr
   cases hF:FI a b (.mk K N r B cc us) with
   |true =>
    rw[nxt,if_pos rfl,if_pos hF]
    exact next_Int_yes h pa pb fun u hu=>by
     have e:=cl_Int (K:=K) (N:=N) (r:=r) (B:=B) (cc:=cc) (us:=us) pa pb a b u ((hu.cell (cell_lt ha)).trans ha) ((hu.cell (cell_lt hb)).trans hb)
     rw[show(isI N && inB (N:Int) a b)=true from hF] at e
     exact e
   |false =>
    rw[nxt,if_pos rfl,if_neg (by rw[hF];decide)]
    exact next_Int_no h pa pb fun u hu=>by
     have e:=cl_Int (K:=K) (N:=N) (r:=r) (B:=B) (cc:=cc) (us:=us) pa pb a b u ((hu.cell (cell_lt ha)).trans ha) ((hu.cell (cell_lt hb)).trans hb)
     rw[show(isI N && inB (N:Int) a b)=false from hF] at e
     exact e
  ·exact n3_kind h _ k hk _
theorem nextB{w:World}{g:Nat}{wh:Bool}{ks:List Tv}(h:Fl w g wh ks)(k:Int)(pa pb:Nat)(a b:Int)(ha:w.cell? ⟨pa,0,none⟩=some (.int .i64 a))(hb:w.cell? ⟨pb,0,none⟩=some (.int .i64 b)):Calls Try.prog 85 #[.pointer (some ⟨g,0,none⟩),.int .i64 k,fBytes pa pb] w (N3 (nxt (FB a b) k wh ks) g w):=by
 cases ks with
 |nil=>exact n3_empty h _ k _
 |cons t ts =>
  by_cases hk:kd t=k
  ·have hok:=h.ok t List.mem_cons_self
   skip
   obtain⟨K,N,r,B,cc,us⟩:=t
   subst hk
   have hpc:Pc w r:=by cases hok with|mk hn hr hs hm hc h0 hk=>exact hr
   cases hF:FB a b (.mk K N r B cc us) with
   |true =>
    rw[nxt,if_pos rfl,if_pos hF]
    exact next_Bytes_yes h pa pb fun u hu=>by
     have e:=cl_Bytes (K:=K) (N:=N) (r:=r) (B:=B) (cc:=cc) (us:=us) pa pb a b u ((hu.cell (cell_lt ha)).trans ha) ((hu.cell (cell_lt hb)).trans hb)
     rw[show inB (r.2.1:Int) a b=true from hF] at e
     exact e
   |false =>
    rw[nxt,if_pos rfl,if_neg (by rw[hF];decide)]
    exact next_Bytes_no h pa pb fun u hu=>by
     have e:=cl_Bytes (K:=K) (N:=N) (r:=r) (B:=B) (cc:=cc) (us:=us) pa pb a b u ((hu.cell (cell_lt ha)).trans ha) ((hu.cell (cell_lt hb)).trans hb)
     rw[show inB (r.2.1:Int) a b=false from hF] at e
     exact e
  ·exact n3_kind h _ k hk _
theorem nextL{w:World}{g:Nat}{wh:Bool}{ks:List Tv}(h:Fl w g wh ks)(k:Int)(pa pb:Nat)(a b:Int)(ha:w.cell? ⟨pa,0,none⟩=some (.int .i64 a))(hb:w.cell? ⟨pb,0,none⟩=some (.int .i64 b)):Calls Try.prog 85 #[.pointer (some ⟨g,0,none⟩),.int .i64 k,fList pa pb] w (N3 (nxt (FL a b) k wh ks) g w):=by
 cases ks with
 |nil=>exact n3_empty h _ k _
 |cons t ts =>
  by_cases hk:kd t=k
  ·have hok:=h.ok t List.mem_cons_self
   skip
   obtain⟨K,N,r,B,cc,us⟩:=t
   subst hk
   have hpc:Pc w r:=by cases hok with|mk hn hr hs hm hc h0 hk=>exact hr
   cases hF:FL a b (.mk K N r B cc us) with
   |true =>
    rw[nxt,if_pos rfl,if_pos hF]
    exact next_List_yes h pa pb fun u hu=>by
     have e:=cl_List (K:=K) (N:=N) (r:=r) (B:=B) (cc:=cc) (us:=us) pa pb a b u ((hu.cell (cell_lt ha)).trans ha) ((hu.cell (cell_lt hb)).trans hb)
     rw[show inB (us.length:Int) a b=true from hF] at e
     exact e
   |false =>
    rw[nxt,if_pos rfl,if_neg (by rw[hF];decide)]
    exact next_List_no h pa pb fun u hu=>by
     have e:=cl_List (K:=K) (N:=N) (r:=r) (B:=B) (cc:=cc) (us:=us) pa pb a b u ((hu.cell (cell_lt ha)).trans ha) ((hu.cell (cell_lt hb)).trans hb)
     rw[show inB (us.length:Int) a b=false from hF] at e
     exact e
  ·exact n3_kind h _ k hk _
end Go.Proofs.Yteblmphohhbgcaa.Wr
