/- Joined texts. -/

set_option linter.unusedVariables false
namespace Go.Proofs.Ytkahelhoaihajaa.Fd
end Go.Proofs.Ytkahelhoaihajaa.Fd
namespace Go.Proofs.Ytkahelhoaihajaa.Fd
namespace E5
end E5
namespace E5
end E5
end Go.Proofs.Ytkahelhoaihajaa.Fd
namespace Go.Proofs.Ytkahelhoaihajaa.Fd
def le(l:List Nat):Nat:=l.foldr (fun x a=>x+256*a) 0
theorem le_nil:le []=0:=rfl
theorem le_cons(x:Nat)(l:List Nat):le (x :: l)=x+256*le l:=rfl
theorem le_append(a b:List Nat):le (a ++ b)=le a+256 ^ a.length*le b:=by
 induction a with
 |nil=>simp[le_nil]
 |cons x a ih=>rw[List.cons_append,le_cons,ih,le_cons,List.length_cons,Nat.pow_succ',Nat.mul_add,←Nat.add_assoc,←Nat.mul_assoc]
def by_(n:Nat)(k:Nat):List Nat:=(List.range k).map fun i=>n / 256 ^ i%256
theorem by_lt(n k:Nat):∀x∈by_ n k,x < 256:=by
 intro x hx
 simp only[by_,List.mem_map] at hx
 obtain⟨i,-, rfl⟩:=hx
 exact Nat.mod_lt _ (by decide)
theorem by_length(n k:Nat):(by_ n k).length=k:=by simp[by_]
theorem by_succ(n k:Nat):by_ n (k+1)=(n%256) :: by_ (n / 256) k:=by
 unfold by_
 rw[List.range_succ_eq_map,List.map_cons,List.map_map]
 congr 1
 ·rw[Nat.pow_zero,Nat.div_one]
 ·apply List.map_congr_left
  intro i _
  show n / 256 ^ (i+1)%256=n / 256 / 256 ^ i%256
  rw[Nat.div_div_eq_div_mul,Nat.pow_succ,Nat.mul_comm (256 ^ i)]
theorem le_by:∀(k n:Nat),le (by_ n k)=n%256 ^ k:=by
 intro k
 induction k with
 |zero=>intro n;simp[by_,le_nil,Nat.mod_one]
 |succ k ih =>
  intro n
  rw[by_succ,le_cons,ih,Nat.pow_succ,Nat.mul_comm (256 ^ k),Nat.mod_mul]
theorem by_le:∀(l:List Nat),(∀x∈l,x < 256)→by_ (le l) l.length=l:=by
 intro l
 induction l with
 |nil=>intro _;rfl
 |cons x l ih =>
  intro h
  have hx:=h x List.mem_cons_self
  rw[List.length_cons,by_succ,le_cons,show(x+256*le l)%256=x by omega,show(x+256*le l) / 256=le l by omega,ih fun y hy=>h y (List.mem_cons_of_mem _ hy)]
theorem le_inj{l k:List Nat}(hl:∀x∈l,x < 256)(hk:∀x∈k,x < 256)(e:l.length=k.length)(h:le l=le k):l=k:=by
 rw[←by_le l hl,←by_le k hk,h,e]
end Go.Proofs.Ytkahelhoaihajaa.Fd
namespace Go.Proofs.Ytkahelhoaihajaa.Fd
namespace cg
end cg
end Go.Proofs.Ytkahelhoaihajaa.Fd
namespace Go.Proofs.Ytkahelhoaihajaa.Fd
end Go.Proofs.Ytkahelhoaihajaa.Fd
namespace Go.Proofs.Ytkahelhoaihajaa.Fd
end Go.Proofs.Ytkahelhoaihajaa.Fd
namespace Go.Proofs.Ytkahelhoaihajaa.Fd
end Go.Proofs.Ytkahelhoaihajaa.Fd
