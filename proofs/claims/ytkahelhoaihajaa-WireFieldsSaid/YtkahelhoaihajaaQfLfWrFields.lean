/- Joined texts. -/
import Derived.WalkKit
import Derived.WalkLawsBesides
import Derived.ProofKit
import Derived.OpenShut
import Derived.ChangeOld
import Derived.Below
import Derived.Test.YtkahelhoaihajaaRows
import Derived.Test.YtkahelhoaihajaaQfWrLawF
import Derived.Test.YtkahelhoaihajaaQfWrOpenV
set_option linter.unusedVariables false
namespace Go.Proofs.Ytkahelhoaihajaa.wireFields
open Go.ChangeShapes Go.WideShapes Go.ChangeAt Go.RowKit Go.Proofs.Ytkahelhoaihajaa.Gn Go.Proofs.Ytkahelhoaihajaa.Wr
theorem own:ownKnob Try.prog.godebug=none:=by kernel_rfl
theorem laidOut:laidOutB Try.prog=true:=by kernel_rfl
set_option maxRecDepth 100000 in
theorem lifted(os:Os)(started:os.Started)(H:Type)(enc:TypeId × Value→H) :
  ReturnsInHanded {} Try.checked os 5 .any (Rows.wireFieldsSpec.pre6 enc Try.prog Try.f5 Rows.wireFieldsRow.domain false) (Rows.wireFieldsSpec.post enc Try.prog Try.f5 false true false false):=by
 refine Wr.handed6 (returnsInHanded_of_change_and (X:=fun _ _=>True) (C:=Try.checked) (fun _ _ _ _ h=>h) own started (by kernel_rfl) Try.func5
  (Wr.witness_true (ChangeSpec.witness6 (enc:=enc) (C:=Try.checked) false ⟨#[],#[.agg #[.int .i64 0,.int .u64 0,.slice none 0 0,.slice none 0 0],.slice none 0 0],[]⟩ 8 (by kernel_rfl) (by kernel_rfl) (by kernel_rfl) (by kernel_rfl))) ?_)
 intro W base args ds gs before hval0 hW hcnd hreach _ _
 have hval:∀(j:Nat) t v,Try.f5.params[j]?=some t→args[j]?=some v→Value.okWide Try.prog W .any base t v:=hval0
 have hW':=hW
 obtain⟨p,q,hA0,hV,rfl,hfz,hnd⟩:=hW
 have hA:DataW.TrodAll enc Try.prog W 0 (fun _=>true) true Try.f5.params.toList args.toList ds p:=hA0
 rw[Try.params5] at hA hval
 obtain⟨v0,vs0,d0,ds0,p0,q0,hargs,rfl,rfl,h0,r0⟩:=trodAll_cons hA
 obtain⟨v1,vs1,d1,ds1,p1,q1,rfl,rfl,rfl,h1,r1⟩:=trodAll_cons r0
 obtain⟨rfl,rfl,rfl⟩:=trodAll_nil r1
 obtain rfl:args = #[v0,v1]:=by cases args;simp_all
 obtain⟨rfl,rfl⟩:=trodVars_none hV
 have k0:=h0
 have lt0:∀x∈p0,x.block < W.heap.size:=by obtain⟨m,hm⟩:=k0;exact DataW.trod_lt m _ _ _ hm
 have k1:=h1
 have lt1:∀x∈p1,x.block < W.heap.size:=by obtain⟨m,hm⟩:=k1;exact DataW.trod_lt m _ _ _ hm
 have hsz0:(DataW.weightsEach Try.prog [26,50] [d0,d1]).all (·≤reachBytes)=true:=hreach
 obtain⟨fu0,hfu0⟩:=id k0
 obtain⟨t0,ht0,ok0⟩:=Wr.open_node fu0 _ _ hfu0 (fun x hx=>of_decide_eq_true (List.all_eq_true.1 hsz0 x (by simp only[DataW.weightsEach];exact List.mem_append_left _ hx)))
 obtain rfl:=Wr.node_val (hval 0 26 v0 rfl rfl) ht0
 obtain⟨a1,len1,cap1,rfl⟩:=okWide_slice Try.underlying50 (hval 1 50 v1 rfl rfl)
 obtain⟨l1,w1,e1⟩:=Wr.open_asks k1
 clear hA0 hval0
 refine(walk_wireFields (w:=W) ok0 a1 len1 cap1 l1 w1 e1).mono fun e W' ⟨he,bel⟩=>?_
 subst he
 exact⟨_,rfl,_,_,_,[],_,[],hW',trodAll_mk1 (shut_bool Try.underlying4 _),(trodAll_cons_mk (Below.trod laidOut (by kernel_rfl) (of_decide_eq_true (by kernel_rfl)) k0 bel lt0) (trodAll_cons_mk (Below.trod laidOut (by kernel_rfl) (of_decide_eq_true (by kernel_rfl)) k1 bel lt1) trodAll_mk0)),rfl,bel.frame _,fun h=>by cases h⟩
theorem over:Rows.wireFieldsRow.holds Try.pinned (OpenSpec.ofChange Rows.wireFieldsSpec) :=
 OpenClaim.holds_of_wide 5 Try.f5 rfl rfl rfl rfl rfl rfl rfl ⟨rfl,rfl,rfl,rfl,rfl⟩ rfl rfl rfl rfl rfl (by kernel_rfl) Try.func5 (by kernel_rfl)
  (of_decide_eq_true (by kernel_rfl)) (by unfold Func.isWrapper;first|(rw[if_pos (by decide +kernel)];kernel_rfl)|(rw[if_neg (by decide +kernel)];exact⟨rfl,rfl⟩))
  (fun os started H enc _=>lifted os started H enc)
theorem proved:Rows.WireFieldsSaid:=over
end Go.Proofs.Ytkahelhoaihajaa.wireFields
