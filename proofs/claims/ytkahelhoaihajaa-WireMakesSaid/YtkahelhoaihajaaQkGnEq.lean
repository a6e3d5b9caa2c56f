/- Joined texts. -/
import Derived.Test.YtkahelhoaihajaaQkFaA
set_option linter.unusedVariables false
namespace Go.Proofs.Ytkahelhoaihajaa.Gn
open Go.RowKit Go.Proofs.Ytkahelhoaihajaa.Fd Go.Deep
set_option maxHeartbeats 1000000 in
theorem Equal_any{w:World}{A B:Option Addr}{n m c d:Nat}{l k:List Nat}(ha:Sl w A n (bl l))(hb:Sl w B m (bl k))(hl:∀x∈l,x < 256)(hk:∀x∈k,x < 256) :
  Calls Try.prog 63 #[.slice A n c,.slice B m d] w fun e w'=>e=.returned (.bool (decide (l=k)))∧w=w':=by
 have h1:=run_txt w _ _ _ Try.underlying23 Try.underlying5 Try.underlying9 A n c l ha
 have h2:=run_txt w _ _ _ Try.underlying23 Try.underlying5 Try.underlying9 B m d k hb
 have e:((txt l).toList == (txt k).toList)=decide (l=k):=by
  rw[Bool.eq_iff_iff,beq_iff_eq,decide_eq_true_iff,ByteArray.toList_eq,ByteArray.toList_eq]
  exact⟨fun h=>txt_inj hl hk (ByteArray.ext (Array.toList_inj.1 h)),fun h=>by rw[h]⟩
 generalize decide (l=k)=r at *
 generalize txt l=s at *
 generalize txt k=t at *
 clear ha hb hl hk
 go_enter Try.func63,Try.ntmps63
 go_wp2
 go_ret
 exact⟨by simp[←e],rfl⟩
end Go.Proofs.Ytkahelhoaihajaa.Gn
