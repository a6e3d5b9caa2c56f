/- Joined texts. -/
import Derived.Test.YtbgkdbjineennaaQiDkTh
set_option linter.unusedVariables false
namespace Go.Proofs.Ytbgkdbjineennaa.Dk
open Go.IntWalk Go.RowKit Go.Proofs.Ytbgkdbjineennaa.Gn Go.Proofs.Ytbgkdbjineennaa.Fd Go.Deep
section
variable {w:World} {base g gb:Nat} {H:Value} {cs:Bool} {cw:Int} {ch:Value} {m:M}
end
theorem Ol.up{w:World}{a0 a1:Nat}{L:Option Addr}{l:List Od}(h:Ol w a0 L l)(ha:a0≤a1):Ol w a1 L l :=
 ⟨h.s,fun o ho=>⟨(h.ok o ho).b,(h.ok o ho).b0,(h.ok o ho).b1,fun ad e hn=>Nat.lt_of_lt_of_le ((h.ok o ho).b2 ad e hn) ha,(h.ok o ho).b9,(h.ok o ho).c,(h.ok o ho).c0,(h.ok o ho).c1,fun ad e hn=>Nat.lt_of_lt_of_le ((h.ok o ho).c2 ad e hn) ha,(h.ok o ho).c9,(h.ok o ho).cb,(h.ok o ho).n9⟩,fun ad e=>Nat.lt_of_lt_of_le (h.la ad e) ha,h.n9⟩
end Go.Proofs.Ytbgkdbjineennaa.Dk
