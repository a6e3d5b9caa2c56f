/- Joined texts. -/
import Derived.Test.YtbgkdbjineennaaQcDkF
set_option linter.unusedVariables false
namespace Go.Proofs.Ytbgkdbjineennaa.Dk
open Go.IntWalk Go.RowKit Go.Proofs.Ytbgkdbjineennaa.Gn Go.Proofs.Ytbgkdbjineennaa.Fd Go.Deep
set_option maxRecDepth 100000 in
theorem all_true(i:Int)(w:World):Calls Try.prog 34 #[.int .i64 i] w fun e w'=>e=.returned (.bool true)∧w=w':=by
 go_enter Try.func34,Try.ntmps34
 go_wp2_with fail
 go_ret
 exact⟨rfl,rfl⟩
set_option maxRecDepth 100000 in
theorem chosen_one(B p cap:Nat)(w:World)(hB:w.cell? ⟨B,0,none⟩=some (.slice (some ⟨p,0,none⟩) 1 cap))(hp:w.cell? ⟨p,0,none⟩=some (.bool true)):Calls Try.prog 36 #[.int .i64 0,.pointer (some ⟨B,0,none⟩)] w fun e w'=>e=.returned (.bool true)∧w=w':=by
 go_enter Try.func36,Try.ntmps36
 go_wp2_with fail
 go_ret
 exact⟨rfl,rfl⟩
end Go.Proofs.Ytbgkdbjineennaa.Dk
namespace Go.Proofs.Ytbgkdbjineennaa.Dk
open Go.IntWalk Go.RowKit Go.Proofs.Ytbgkdbjineennaa.Gn Go.Proofs.Ytbgkdbjineennaa.Fd Go.Deep
theorem run_copy_bl(P:Program){w:World}(dT sT ty elem:TypeId)(hu:P.underlying dT=some (.slice elem))(hsz:(P.info? elem).map (·.size)=some 1)
  (g off dLen dCap:Nat) (ad:Addr) (sLen sCap:Nat) (t:TypeId) (cs:Array Value) (hb:Bl w g t cs) (xs:List Value) (hsl:Sl w (some ad) sLen xs) (m:Nat) (hm:m=Nat.min sLen dLen) (hfit:off+m≤cs.size) (h1:∀v∈xs,v.oneCell'=true) :
  ∃w',(Builtin.copy_ #[dT,sT] ty #[.slice (some ⟨g,off,none⟩) dLen dCap,.slice (some ad) sLen sCap]).run P w=.ok (.int .i64 (m:Int)) w'∧Bl w' g t (spl cs off (xs.take m))∧w.grownBy w' (some g):=by
 have hlen:(xs.take m).length=m:=by rw[List.length_take,hsl.1,hm];exact Nat.min_eq_left (Nat.min_le_left _ _)
 have hrun:=run_copy_row (P:=P) w dT sT ty elem g off dLen dCap ad sLen sCap cs t (xs.take m) hu hsz hb (by rw[hlen,hm]) (fun j v hj=>by
  rw[List.getElem?_take] at hj
  split at hj
  ·obtain⟨ad',he,hc⟩:=hsl.2 j v hj
   cases he
   exact hc
  ·cases hj) (by rw[hlen];exact hfit) (fun v hv=>h1 v (List.mem_of_mem_take hv))
 rw[hlen] at hrun
 refine⟨_,hrun,?_,⟨rfl,rfl,rfl,by simp[World.setRow],fun i _ hn=>setRow_other w g i _ (fun e=>hn (by rw[e]))⟩⟩
 rw[spl_eq _ _ _ (by rw[hlen];exact hfit),hlen,List.append_assoc]
 exact setRow_heap w g cs _ t _ hb
theorem zc_one:∀v∈(Builtin.zeroCells z0 1).toList,v.oneCell'=true:=by
 have e:(Builtin.zeroCells z0 1).toList=z0.toList:=by kernel_rfl
 rw[e]
 intro v hv
 simp only[z0,List.mem_cons,List.mem_replicate] at hv
 rcases hv with rfl|⟨-, rfl⟩ <;> rfl
theorem zc_len:(Builtin.zeroCells z0 1).toList.length=65:=by kernel_rfl
theorem clear_run(w:World)(gh cap:Nat)(cur:Array Value)(h:Bl w gh 67 cur)(hs:65≤cur.size)(ty:TypeId) :
  ∃w' cur',(Builtin.clear_ #[56] ty #[.slice (some ⟨gh,0,none⟩) 1 cap]).run Try.prog w=.ok (.tuple #[]) w'∧Bl w' gh 67 cur'∧cur'.size=cur.size∧w.grownBy w' (some gh):=by
 obtain⟨i0,hi,hz0,hz1,hz2⟩:=info_parts infoW
 obtain⟨w',h1,h2,h3⟩:=run_store_bl Try.prog h 0 (Builtin.zeroCells z0 1).toList (by rw[zc_len];omega) zc_one
 refine⟨w',_,?_,h2,?_,h3⟩
 ·simp[Builtin.clear_,run_underlying Try.underlying56,zeroValue,typeInfo,hi,hz0,Value.cells]
  rw[h1]
  rfl
 ·exact spl_size _ _ _
section
variable {P:Program}
theorem run_copy_op{o:Oper}{a:Act}{w:World}(d s:Operand)(dT sT:TypeId)(ho:o.op=.call { callee:=.builtin .copy,args:=#[d,s],argTypes:=#[dT,sT] })(v u v':Value)(w':World)
  (hs:a.eval d=v) (hx:a.eval s=u) (hr:(Builtin.copy_ #[dT,sT] o.type #[v,u]).run P w=.ok v' w'):(execOp a.eval o).run P w=.ok (.value v') w':=by
 simp[execOp,ho,resolve,invoke,builtin,hs,hx,hr,Result.andThen]
variable {ops:Array Oper} {a:Act} {T:Nat→Value→World→Prop} {J:(Nat→Bool)→(Nat→Value)→World→Prop} {Chg:World→World→Prop} {i:Nat} {o:Oper}
theorem OX.call(v:Value)(hg:o.guard=none)(hrun:∀(L:Nat→Bool) (γ:Nat→Value) (w:World),L i=false→(∀j o',ops[j]?=some o'→L j=true→∀d,dep o' d=true→L d=true)→J L γ w→(∀j,dep o j=true→T j (γ j) w)→∃f args,(execOp (fr ops a γ).eval o).run P w=.ok (.enter f args) w∧Calls P f args w fun e w'=>e=.returned v∧w=w')
  (hT:∀w,T i v w) (hJ:∀(L:Nat→Bool) (γ:Nat→Value) (w:World),L i=false→J L γ w→J (fun j=>if j=i then true else L j) (upd γ i v) w) (hC:∀w,Chg w w):OX P ops a T J Chg i o :=
 ⟨fun Q K L γ w hLi hdep hcl hun hJ0 hd0 hK=>by
  obtain⟨f,args,h1,h2⟩:=hrun L γ w hLi hcl hJ0 hd0
  refine want hg _ (wp_enter h1 (h2.mono ?_))
  rintro e w' ⟨rfl,rfl⟩
  exact⟨_,rfl,hK v w (hT w) (hJ L γ w hLi hJ0) (hC w)⟩⟩
end
end Go.Proofs.Ytbgkdbjineennaa.Dk
