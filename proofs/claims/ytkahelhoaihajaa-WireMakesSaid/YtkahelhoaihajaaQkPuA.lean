/- Joined texts. -/

set_option linter.unusedVariables false
namespace Go.Proofs.Ytkahelhoaihajaa.Fd
end Go.Proofs.Ytkahelhoaihajaa.Fd
namespace Go.Proofs.Ytkahelhoaihajaa.Fd
namespace E5
end E5
namespace E5
end E5
end Go.Proofs.Ytkahelhoaihajaa.Fd
namespace Go.Proofs.Ytkahelhoaihajaa.Fd
def by_(n:Nat)(k:Nat):List Nat:=(List.range k).map fun i=>n / 256 ^ i%256
theorem by_lt(n k:Nat):∀x∈by_ n k,x < 256:=by
 intro x hx
 simp only[by_,List.mem_map] at hx
 obtain⟨i,-, rfl⟩:=hx
 exact Nat.mod_lt _ (by decide)
theorem by_length(n k:Nat):(by_ n k).length=k:=by simp[by_]
theorem by_succ(n k:Nat):by_ n (k+1)=(n%256) :: by_ (n / 256) k:=by
 unfold by_
 rw[List.range_succ_eq_map,List.map_cons,List.map_map]
 congr 1
 ·rw[Nat.pow_zero,Nat.div_one]
 ·apply List.map_congr_left
  intro i _
  show n / 256 ^ (i+1)%256=n / 256 / 256 ^ i%256
  rw[Nat.div_div_eq_div_mul,Nat.pow_succ,Nat.mul_comm (256 ^ i)]
end Go.Proofs.Ytkahelhoaihajaa.Fd
namespace Go.Proofs.Ytkahelhoaihajaa.Fd
namespace cg
end cg
end Go.Proofs.Ytkahelhoaihajaa.Fd
namespace Go.Proofs.Ytkahelhoaihajaa.Fd
end Go.Proofs.Ytkahelhoaihajaa.Fd
namespace Go.Proofs.Ytkahelhoaihajaa.Fd
end Go.Proofs.Ytkahelhoaihajaa.Fd
namespace Go.Proofs.Ytkahelhoaihajaa.Fd
end Go.Proofs.Ytkahelhoaihajaa.Fd
