/- Joined texts. -/
import Derived.Test.YtcnlmekjcffohaaDoorQoMpWay
set_option linter.unusedVariables false
namespace Go.Proofs.YtcnlmekjcffohaaDoor.Mk
open Go.RowKit Go.Proofs.YtcnlmekjcffohaaDoor.Gn Go.Proofs.YtcnlmekjcffohaaDoor.Fd Go.Deep
structure P32 (w:World) (B:Option Addr) (m c:Nat) (P:List Rw):Prop where
 row:Sl w B m (P.map rwv)
 pcs:∀r∈P,Pc w r∧r.2.2.2.length=32
 cap:m≤c
 few:m≤1000000
theorem P32.below{w w':World}{B:Option Addr}{m c:Nat}{P:List Rw}(h:P32 w B m c P)(hb:Below w.heap.size w w'):P32 w' B m c P:=⟨h.row.below hb,fun r hr=>⟨(h.pcs r hr).1.below hb,(h.pcs r hr).2⟩,h.cap,h.few⟩
theorem P32.len{w:World}{B:Option Addr}{m c:Nat}{P:List Rw}(h:P32 w B m c P):P.length=m:=by have:=h.row.1;rwa [List.length_map] at this
theorem P32.take{w:World}{B:Option Addr}{m c:Nat}{P:List Rw}(h:P32 w B m c P){k:Nat}(hk:k≤m):P32 w B k c (P.take k) :=
 ⟨by have:=h.row.take_ k hk;rwa [←List.map_take] at this,fun r hr=>h.pcs r (List.mem_of_mem_take hr),by have:=h.cap;omega,by have:=h.few;omega⟩
abbrev con(P:List Rw):List (List Nat):=P.map (·.2.2.2)
theorem con_len(P:List Rw):(con P).length=P.length:=by simp[con]
end Go.Proofs.YtcnlmekjcffohaaDoor.Mk
