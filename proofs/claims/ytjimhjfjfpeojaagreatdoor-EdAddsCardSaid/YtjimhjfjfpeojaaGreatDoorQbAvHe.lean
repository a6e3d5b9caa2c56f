/- Joined texts. -/
import Derived.Test.YtjimhjfjfpeojaaGreatDoorQbAvPr
import Derived.Test.YtjimhjfjfpeojaaGreatDoorQbAvRd
set_option linter.unusedVariables false
namespace Go.Proofs.YtjimhjfjfpeojaaGreatDoor.Av
open Go.RowKit Go.Proofs.YtjimhjfjfpeojaaGreatDoor.Gn Go.Proofs.YtjimhjfjfpeojaaGreatDoor.Fd Go.Proofs.YtjimhjfjfpeojaaGreatDoor.Ed Go.Deep
theorem le_bnil:DV.le (.lit (.slice none 0 0)) (byt true []):=le_nil true 1
section
variable {Γ:Ctx} {σ:St} {fn:Func}
theorem whole_row{ρ:Nat→Value}{a:Act}{w:World}(h1:Wt Γ σ.o ρ w)(h2:Ft Γ σ ρ a w){s j k:Nat}{m:Bool}{T t:TypeId}{x:DV}{d:TypeDesc}(hs:σ.at_ s=.c (.ptr j 0))(hj:look σ.o j=some (.whole m t x))(hc:∀O w vs,x.rep O w (.agg vs)→vs.size=k)
  (hu:Γ.P.underlying T=some d) (hd:d.isRow=true) (hi:(Γ.P.info? T).map (·.size)=some k):∃g vs,a.tmps.getD s undef=.pointer (some ⟨g,0,none⟩)∧(loadVar T ⟨g,0,none⟩).run Γ.P w=.ok (.agg vs) w∧x.rep (OO Γ.O0 σ.o ρ) w (.agg vs):=by
 obtain⟨g,e1,e2⟩:=h2.slot h1 hs
 obtain⟨g',vs,e3,-, e4,e6⟩:=h1.os j _ hj
 rw[e3] at e1;cases e1
 exact⟨g',vs,e2,run_load_var T g' t vs e4 hu hd (by rw[hi,hc _ _ _ e6]),e6⟩
theorem Rt.wholeCell{s j s' j' k:Nat}{m:Bool}{T t T' t':TypeId}{x:DV}{xs:List DV}{d d':TypeDesc}(h:fn.results = #[.cell s T,.cell s' T'])(hs:σ.at_ s=.c (.ptr j 0))(hj:look σ.o j=some (.whole m t x))(hc:∀O w vs,x.rep O w (.agg vs)→vs.size=k)
  (hu:Γ.P.underlying T=some d) (hd:d.isRow=true) (hi:(Γ.P.info? T).map (·.size)=some k) (hs':σ.at_ s'=.c (.ptr j' 0)) (hj':look σ.o j'=some (.var t' (xs.map .dv))) (hu':Γ.P.underlying T'=some d') (hd':d'.isRow=true) (hi':(Γ.P.info? T').map (·.size)=some xs.length):Rt Γ fn (.tup [x,.agg xs]) σ:=fun ρ a w h1 h2=>by
 obtain⟨g,vs,e1,e3,e4⟩:=whole_row h1 h2 hs hj hc hu hd hi
 obtain⟨g',vs',f1,f2,f3,f4⟩:=var_row h1 h2 hs' hj' hu' hd' hi'
 exact⟨.tuple #[.agg vs,.agg vs'],by rw[Array.getD_eq_getD_getElem?] at e1 f1;simp[results,h,e1,f1,asAddr,e3,f3],_,rfl,rfl,⟨_,rfl,e4⟩,⟨_,rfl,f4⟩,trivial⟩
end
theorem low_split{l:List Nat}(h:l.length=32):low l=l.take 31 ++ [l.getD 31 0%128]:=by
 have hsp:l=l.take 31 ++ [l.getD 31 0]:=by
  have h1:=List.take_append_drop 31 l
  have h2:l.drop 31=[l.getD 31 0]:=by
   rw[List.drop_eq_getElem_cons (by omega),List.drop_of_length_le (by omega),List.getD_eq_getElem?_getD,List.getElem?_eq_getElem (by omega)]
   rfl
  rw[h2] at h1
  exact h1.symm
 have ht:(l.take 31).length=31:=by simp;omega
 unfold low
 conv=>lhs;arg 1;rw[hsp]
 rw[List.set_append_right _ _ (by omega),ht]
 rfl
theorem low_byte{l:List Nat}(h:∀x∈l,x < 256):∀x∈low l,x < 256:=by
 intro x hx
 unfold low at hx
 rcases List.mem_or_eq_of_mem_set hx with h1|h1
 ·exact h x h1
 ·omega
theorem low_len{l:List Nat}:(low l).length=l.length:=by unfold low;simp
theorem dec_i(a b:Nat):decide ((a:Int) < (b:Int))=decide (a < b):=decide_eq_decide.2 (by omega)
theorem c_rdec1{l:List Nat}(h32:l.length=32)(hl:∀x∈l,x < 256)(hm:le l < pp)(w:World):FnAt Tryz.prog [] w 48 [byt true l] (.tup [.lit (.agg (el (le l)).v),.lit (.int .i64 0)]):=by
 have:=c_rdec (r:=true) h32 hl w
 rwa [if_pos hm,if_pos hm] at this
theorem c_rdec2{l:List Nat}(h32:l.length=32)(hl:∀x∈l,x < 256)(hm:¬le l < pp)(w:World):FnAt Tryz.prog [] w 48 [byt true l] (.tup [.lit (.agg z5),.lit (.int .i64 30)]):=by
 have:=c_rdec (r:=true) h32 hl w
 rwa [if_neg hm,if_neg hm] at this
theorem z5_row:∀O w v,(DV.lit (.agg z5)).rep O w v→∃us:Array Value,v=.agg us∧us.size=5∧∀u∈us.toList,u.oneCell'=true:=agg_row rfl (by intro u hu;unfold z5 at hu;simp at hu;subst hu;rfl)
theorem el_row(n:Nat):∀O w v,(DV.lit (.agg (el n).v)).rep O w v→∃us:Array Value,v=.agg us∧us.size=5∧∀u∈us.toList,u.oneCell'=true:=agg_row rfl (by
 intro u hu
 unfold E5.v at hu
 simp at hu
 rcases hu with rfl|rfl|rfl|rfl|rfl <;> rfl)
def decO(l:List Nat):Option T3:=if l.length=32 then decT l else none
def ofT(o:Option T3):DV:=.tup [(o.getD ⟨0,0,0⟩).dv,.lit (.bool o.isSome)]
def encL(t:T3):List Nat:=if encX t%2=1 then top (by_ (encY t) 32) else by_ (encY t) 32
theorem R3.encL{t:T3}{g:G}(h:R3 t g):Av.encL t=by_ (gb g) 32:=by
 unfold Av.encL
 split
 ·rename_i ho;exact enc_odd h ho
 ·rename_i ho;exact enc_even h ho
theorem c_ad3{p q:T3}(hp:p.ok)(hq:q.ok)(w:World):FnAt Tryz.prog [.u64] w 22 [p.dv,q.dv,num dn] (ad3 p q).dv:=c_add hp.x hp.y hp.z hq.x hq.y hq.z dn_lt w
theorem p_decG{g:G}(w:World)(tab:TabE w):FnAt Tryz.prog [] w 12 [byt true (by_ (gb g) 32)] (.tup [pnt g,.lit (.int .i64 0)]):=by
 obtain⟨p,h1,h2⟩:=dec_ref g
 exact(p_decS (by_length _ _) (by_lt _ _) h1 w tab).to (le_tup2 (lit_pnt h2) (le_refl _))
theorem c_bytesD{v m:Nat}(hv:v < pp)(hm:m≤1000)(w:World):FnAt Tryz.prog [] w 39 [num v,.lit (.int .i64 (m:Int))] (byt true (by_ v m)) :=
 ⟨fun _ _=>by kernel_rfl,fun O vs hO hk hl hr=>by
  obtain⟨x,y,rfl,h1,h2⟩:=two_args hl hr
  obtain⟨A,n,c,rfl,s1,-⟩:=row_sl h1
  cases h2
  have:=Bytes_any A n c m (dg v) w (s1.1▸Nat.le_trans (dg16 hv) (by decide)) hm (dg_dg v) s1
  rw[vl_dg] at this
  exact this.mono fun e w' hr=>retY_rep hO (by_le v m hm) hr⟩
theorem dg_head(n:Nat)(h:0 < (dg n).length):(dg n).getD 0 0%2=n%2:=by
 have h1:=vl_dg n
 cases hd:dg n with
 |nil=>rw[hd] at h;exact absurd h (by decide)
 |cons a l =>
  rw[hd] at h1
  have:a+65536*vl l=n:=h1
  show a%2=n%2
  omega
theorem dg_none{n:Nat}(h:¬0 < (dg n).length):n=0:=by
 have h1:=vl_dg n
 rw[List.length_eq_zero_iff.1 (Nat.eq_zero_of_not_pos h)] at h1
 exact h1.symm
theorem num_get{n i:Nat}(h:i < (dg n).length):((nl (dg n)).map DV.lit)[i]?=some (.lit (.int .u64 (((dg n).getD i 0:Nat):Int))):=by
 simp[nl,List.getElem?_map,List.getElem?_eq_getElem h,List.getD_eq_getElem?_getD]
def base3:T3:=⟨nbx,nby,1⟩
theorem base3_ok:base3.ok:=⟨small_lt.2.2.1,small_lt.2.2.2,pp_one⟩
theorem base3_R3{b:G}(h:Hp kbase b):R3 base3 b:=kheld_R3 h (kof_f _).symm (kof_f _).symm
def ptT(l:List Nat):T3:=(decO l).getD (two3 (l.take 32) [] base3 zero3)
theorem take_byte{l:List Nat}(n:Nat)(h:∀x∈l,x < 256):∀x∈l.take n,x < 256:=fun x hx=>h x (List.mem_of_mem_take hx)
theorem ptT_some{l:List Nat}(hl:∀x∈l,x < 256){b:G}(hb:Hp kbase b):∃g,R3 (ptT l) g∧(ptT l).ok:=by
 unfold ptT decO
 have h2:∃g,R3 (two3 (l.take 32) [] base3 zero3) g∧(two3 (l.take 32) [] base3 zero3).ok:=⟨_,R3.two (take_byte 32 hl) (fun x hx=>by cases hx) (base3_R3 hb) R3.zero,go3_ok _ zero3_ok⟩
 split
 ·rename_i h32
  rcases dec_both h32 hl with⟨-, h⟩|⟨p,t,g,-, h,-, h3,h4,-⟩
  ·rw[h];exact h2
  ·rw[h];exact⟨g,h3,h4⟩
 ·exact h2
end Go.Proofs.YtjimhjfjfpeojaaGreatDoor.Av
