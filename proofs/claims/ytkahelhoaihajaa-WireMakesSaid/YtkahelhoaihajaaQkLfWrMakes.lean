/- Joined texts. -/
import Derived.WalkKit
import Derived.WalkLawsBesides
import Derived.ProofKit
import Derived.OpenShut
import Derived.ChangeOld
import Derived.Below
import Derived.Test.YtkahelhoaihajaaRows
import Derived.Test.YtkahelhoaihajaaQkWrLawK
import Derived.Test.YtkahelhoaihajaaQkWrOpenV
set_option linter.unusedVariables false
namespace Go.Proofs.Ytkahelhoaihajaa.wireMakes
open Go.ChangeShapes Go.WideShapes Go.ChangeAt Go.RowKit Go.Proofs.Ytkahelhoaihajaa.Gn Go.Proofs.Ytkahelhoaihajaa.Wr
theorem own:ownKnob Try.prog.godebug=none:=by kernel_rfl
theorem laidOut:laidOutB Try.prog=true:=by kernel_rfl
set_option maxRecDepth 100000 in
theorem lifted(os:Os)(started:os.Started)(H:Type)(enc:TypeId × Value→H) :
  ReturnsInHanded {} Try.checked os 4 .any (Rows.wireMakesSpec.pre6 enc Try.prog Try.f4 Rows.wireMakesRow.domain false) (Rows.wireMakesSpec.post enc Try.prog Try.f4 false true false false):=by
 refine Wr.handed6 (returnsInHanded_of_change_and (X:=fun _ _=>True) (C:=Try.checked) (fun _ _ _ _ h=>h) own started (by kernel_rfl) Try.func4
  (Wr.witness_true (ChangeSpec.witness6 (enc:=enc) (C:=Try.checked) false ⟨#[],#[.int .u64 0,.slice none 0 0,.string ByteArray.empty,.float .f64 0,.agg #[.int .i64 0,.int .u64 0,.slice none 0 0,.slice none 0 0],.agg #[.int .i64 0,.int .u64 0,.slice none 0 0,.slice none 0 0]],[]⟩ 8 (by kernel_rfl) (by kernel_rfl) (by kernel_rfl) (by kernel_rfl))) ?_)
 intro W base args ds gs before hval0 hW hcnd hreach _ _
 have hval:∀(j:Nat) t v,Try.f4.params[j]?=some t→args[j]?=some v→Value.okWide Try.prog W .any base t v:=hval0
 have hW':=hW
 obtain⟨p,q,hA0,hV,rfl,hfz,hnd⟩:=hW
 have hA:DataW.TrodAll enc Try.prog W 0 (fun _=>true) true Try.f4.params.toList args.toList ds p:=hA0
 rw[Try.params4] at hA hval
 obtain⟨v0,vs0,d0,ds0,p0,q0,hargs,rfl,rfl,h0,r0⟩:=trodAll_cons hA
 obtain⟨v1,vs1,d1,ds1,p1,q1,rfl,rfl,rfl,h1,r1⟩:=trodAll_cons r0
 obtain⟨v2,vs2,d2,ds2,p2,q2,rfl,rfl,rfl,h2,r2⟩:=trodAll_cons r1
 obtain⟨v3,vs3,d3,ds3,p3,q3,rfl,rfl,rfl,h3,r3⟩:=trodAll_cons r2
 obtain⟨v4,vs4,d4,ds4,p4,q4,rfl,rfl,rfl,h4,r4⟩:=trodAll_cons r3
 obtain⟨v5,vs5,d5,ds5,p5,q5,rfl,rfl,rfl,h5,r5⟩:=trodAll_cons r4
 obtain⟨rfl,rfl,rfl⟩:=trodAll_nil r5
 obtain rfl:args = #[v0,v1,v2,v3,v4,v5]:=by cases args;simp_all
 obtain⟨rfl,rfl⟩:=trodVars_none hV
 have k0:=h0
 have lt0:∀x∈p0,x.block < W.heap.size:=by obtain⟨m,hm⟩:=k0;exact DataW.trod_lt m _ _ _ hm
 have k1:=h1
 have lt1:∀x∈p1,x.block < W.heap.size:=by obtain⟨m,hm⟩:=k1;exact DataW.trod_lt m _ _ _ hm
 have k2:=h2
 have lt2:∀x∈p2,x.block < W.heap.size:=by obtain⟨m,hm⟩:=k2;exact DataW.trod_lt m _ _ _ hm
 have k3:=h3
 have lt3:∀x∈p3,x.block < W.heap.size:=by obtain⟨m,hm⟩:=k3;exact DataW.trod_lt m _ _ _ hm
 have k4:=h4
 have lt4:∀x∈p4,x.block < W.heap.size:=by obtain⟨m,hm⟩:=k4;exact DataW.trod_lt m _ _ _ hm
 have k5:=h5
 have lt5:∀x∈p5,x.block < W.heap.size:=by obtain⟨m,hm⟩:=k5;exact DataW.trod_lt m _ _ _ hm
 obtain⟨a0,rfl,-, -, w0⟩:=open_int Try.underlying22 (hval 0 22 v0 rfl rfl) h0
 obtain⟨a1,len1,cap1,rfl⟩:=okWide_slice Try.underlying23 (hval 1 23 v1 rfl rfl)
 have hin1:=Wr.slice_in Try.underlying23 (hval 1 23 _ rfl rfl)
 obtain⟨l1,w1⟩:=open_bl Try.underlying23 Try.underlying5 (by kernel_rfl) lt1 k1
 obtain⟨s2,rfl,-, -, -⟩:=Go.ChangeMaps.open_string Try.underlying9 (hval 2 9 v2 rfl rfl) h2
 obtain⟨a3,rfl,-, -, w3⟩:=open_float Try.underlying39 (hval 3 39 v3 rfl rfl) h3
 have hsz4:(DataW.weightsEach Try.prog [22,23,9,39,26,26] [d0,d1,d2,d3,d4,d5]).all (·≤reachBytes)=true:=hreach
 obtain⟨fu4,hfu4⟩:=id k4
 obtain⟨t4,ht4,ok4⟩:=Wr.open_node fu4 _ _ hfu4 (fun x hx=>of_decide_eq_true (List.all_eq_true.1 hsz4 x (by simp only[DataW.weightsEach];exact List.mem_append_right _ (List.mem_append_right _ (List.mem_append_right _ (List.mem_append_right _ (List.mem_append_left _ hx)))))))
 obtain rfl:=Wr.node_val (hval 4 26 v4 rfl rfl) ht4
 have hsz5:(DataW.weightsEach Try.prog [22,23,9,39,26,26] [d0,d1,d2,d3,d4,d5]).all (·≤reachBytes)=true:=hreach
 obtain⟨fu5,hfu5⟩:=id k5
 obtain⟨t5,ht5,ok5⟩:=Wr.open_node fu5 _ _ hfu5 (fun x hx=>of_decide_eq_true (List.all_eq_true.1 hsz5 x (by simp only[DataW.weightsEach];exact List.mem_append_right _ (List.mem_append_right _ (List.mem_append_right _ (List.mem_append_right _ (List.mem_append_right _ (List.mem_append_left _ hx))))))))
 obtain rfl:=Wr.node_val (hval 5 26 v5 rfl rfl) ht5
 clear hA0 hval0
 refine(walk_wireMakes (w:=W) a0 w0 a1 len1 cap1 l1 w1 hin1 s2 a3 w3 ok4 ok5).mono fun e W' ⟨he,bel⟩=>?_
 subst he
 exact⟨_,rfl,_,_,_,[],_,[],hW',trodAll_mk1 (shut_bool Try.underlying4 _),(trodAll_cons_mk (Below.trod laidOut (by kernel_rfl) (of_decide_eq_true (by kernel_rfl)) k0 bel lt0) (trodAll_cons_mk (Below.trod laidOut (by kernel_rfl) (of_decide_eq_true (by kernel_rfl)) k1 bel lt1) (trodAll_cons_mk (Below.trod laidOut (by kernel_rfl) (of_decide_eq_true (by kernel_rfl)) k2 bel lt2) (trodAll_cons_mk (Below.trod laidOut (by kernel_rfl) (of_decide_eq_true (by kernel_rfl)) k3 bel lt3) (trodAll_cons_mk (Below.trod laidOut (by kernel_rfl) (of_decide_eq_true (by kernel_rfl)) k4 bel lt4) (trodAll_cons_mk (Below.trod laidOut (by kernel_rfl) (of_decide_eq_true (by kernel_rfl)) k5 bel lt5) trodAll_mk0)))))),rfl,bel.frame _,fun h=>by cases h⟩
theorem over:Rows.wireMakesRow.holds Try.pinned (OpenSpec.ofChange Rows.wireMakesSpec) :=
 OpenClaim.holds_of_wide 4 Try.f4 rfl rfl rfl rfl rfl rfl rfl ⟨rfl,rfl,rfl,rfl,rfl⟩ rfl rfl rfl rfl rfl (by kernel_rfl) Try.func4 (by kernel_rfl)
  (of_decide_eq_true (by kernel_rfl)) (by unfold Func.isWrapper;first|(rw[if_pos (by decide +kernel)];kernel_rfl)|(rw[if_neg (by decide +kernel)];exact⟨rfl,rfl⟩))
  (fun os started H enc _=>lifted os started H enc)
theorem proved:Rows.WireMakesSaid:=over
end Go.Proofs.Ytkahelhoaihajaa.wireMakes
