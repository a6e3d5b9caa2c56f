/- Joined texts. -/
import Derived.Test.YtbgkdbjineennaaQcDkSg
set_option linter.unusedVariables false
namespace Go.Proofs.Ytbgkdbjineennaa.Dk
open Go.IntWalk Go.RowKit Go.Proofs.Ytbgkdbjineennaa.Gn Go.Proofs.Ytbgkdbjineennaa.Fd Go.Deep
section
variable {w:World} {base g gb:Nat} {H:Value} {cs:Bool} {cw:Int} {ch:Value} {m:M}
theorem own_lt{w:World}{base size n:Nat}{e:TypeId}{v:Value}{xs:List Value}(ho:w.ownsRow base e size v n xs){b:Nat}(hb:v.ownBlock=some b):b < w.heap.size:=by
 obtain⟨hl,⟨rfl,h0⟩|⟨g,cap,cur,rfl,hb',hh,h1,h2,h3,h4⟩⟩:=ho
 ·cases hb
 ·cases hb
  exact(Array.getElem?_eq_some_iff.1 hh).1
theorem Ct.lt{o:Option (Nat × List Bool)}(h:Ct w base cs cw ch o){b:Nat}(hb:ch.ownBlock=some b):b < w.heap.size:=by
 cases o with
 |none=>obtain⟨-, -, rfl⟩:=h;cases hb
 |some k=>exact own_lt h.2.2.2.2 hb
theorem Dd.hold(D:Dd w base g gb H cs cw ch m)(p:Nat)(x:List Nat)(hp:p < m.ss.length)(hx:x.length=64){w1:World}{H':Value}(hB:DB w1 g gb (64*m.ss.length) m.cp H' m.up (m.st:Int) cs cw ch)(hO:w1.ownsRow base 67 65 H' (m.hd.length+1) (hrow m.hd ++ (wv p x).toList))(hA:H'.ownBlock=H.ownBlock∨∃q,H'.ownBlock=some q∧w.heap.size≤q)(hG:Gx (g :: H.ownBlock.toList) w w1):Dd w1 base g gb H' cs cw ch (m.hold p x):=by
 have hg:g < w.heap.size:=(Array.getElem?_eq_some_iff.1 D.blk).1
 have hgb:gb < w.heap.size:=(Array.getElem?_eq_some_iff.1 D.byt).1
 have hS:∀b∈g :: H.ownBlock.toList,b≠gb∧ch.ownBlock≠some b:=by
  intro b hb
  simp only[List.mem_cons,Option.mem_toList] at hb
  rcases hb with rfl|hb
  ·exact⟨D.g1,D.c1⟩
  ·exact⟨fun e=>D.h2 (by rw[←e];exact hb),D.hc b hb⟩
 refine⟨hB,hG.bl (fun e=>(hS gb e).1 rfl) D.byt,?_,Ct.kept hG (fun b hb e=>(hS b e).2 hb) D.cut,D.ok.hold hp hx,D.n0,D.n9,D.b1,D.b2,D.g1,?_,?_,D.c1,D.c2,?_⟩
 ·show w1.ownsRow base 67 65 H' (m.hd ++ [(p,x)]).length (hrow (m.hd ++ [(p,x)]))
  rw[List.length_append,List.length_singleton,hrow_app]
  show w1.ownsRow base 67 65 H' (m.hd.length+1) (hrow m.hd ++ ((wv p x).toList ++ []))
  rw[List.append_nil]
  exact hO
 ·rcases hA with e|⟨q,e,hq⟩
  ·rw[e];exact D.h1
  ·rw[e];intro e2;cases e2;omega
 ·rcases hA with e|⟨q,e,hq⟩
  ·rw[e];exact D.h2
  ·rw[e];intro e2;cases e2;omega
 ·intro b hb hc
  rcases hA with e|⟨q,e,hq⟩
  ·rw[e] at hb;exact D.hc b hb hc
  ·rw[e] at hb;cases hb
   have:=D.cut.lt hc
   omega
theorem reach_err(m:M)(a:Int):m.reach a=0∨m.reach a=60∨m.reach a=61:=by
 unfold M.reach
 split
 ·split
  ·exact .inr (.inr rfl)
  ·exact .inl rfl
 ·exact .inr (.inl rfl)
set_option maxRecDepth 100000 in
set_option maxHeartbeats 4000000 in
theorem Write_dd(D:Dd w base g gb H cs cw ch m)(hk:m.hd.length < 999999)(hst:m.st < 1000000000)(a:Int)(b:List Nat)(A:Option Addr)(n cap:Nat)(hs:Sl w A n (bl b))(hn:n < 4611686018427387904):Calls Try.prog 18 #[.pointer (some ⟨g,0,none⟩),.int .i64 a,.slice A n cap] w (OpQ w base g gb H cs ch (m.write a b)):=by
 have hl:b.length=n:=by have:=hs.1;rwa [bl_length] at this
 have C:=reach_dd D a
 unfold M.write
 by_cases h0:m.reach a=0
 ·rw[if_pos h0]
  obtain⟨hu,ha0,ha1⟩:=M.reach_ok h0
  by_cases h6:n=64
  ·rw[if_pos (by omega)]
   subst h6
   obtain⟨ad,rfl,-⟩:=hs.at_ (by decide:0 < 64)
   obtain⟨p,rfl⟩:∃p:Nat,a=(p:Int):=⟨a.toNat,by omega⟩
   rw[Int.toNat_natCast]
   have hB:=D.blk
   rw[hu] at hB
   have hg:g < w.heap.size:=(Array.getElem?_eq_some_iff.1 D.blk).1
   refine(Write_go hB (by have:=D.n0;omega) m.ss.length rfl D.n9 p (by omega) b hl ad cap hs base (by have:=D.b1;omega) D.own (by omega) D.h1 (fun k w'=>k=((m.hold p b).stroke.1:Int)∧∃H' cw',Dd w' base g gb H' cs cw' ch (m.hold p b).stroke.2∧(H'.ownBlock=H.ownBlock∨∃q,H'.ownBlock=some q∧w.heap.size≤q)∧Gx (Ts g gb H) w w') ?_).mono ?_
   ·intro w1 H1 j1 j2 j3 j4
    have D1:Dd w1 base g gb H1 cs cw ch (m.hold p b):=D.hold p b (by omega) hl (by rw[hu];exact j1) j2 j3 j4
    refine(stroke_go D1 hu (by show(m.hd ++ [(p,b)]).length < 1000000;rw[List.length_append,List.length_singleton];omega) hst).mono ?_
    rintro e w' ⟨rfl,H',cw',k1,k2,k3⟩
    refine⟨_,rfl,rfl,H',cw',k1,by rw[k2];exact j3,?_⟩
    refine⟨k3.os.trans j4.os,k3.tape.trans j4.tape,k3.output.trans j4.output,Nat.le_trans j4.size k3.size,fun k hkw hkn=>?_⟩
    refine(k3.block k (Nat.lt_of_lt_of_le hkw j4.size) ?_).trans (j4.block k hkw ?_)
    ·intro hm
     apply hkn
     simp only[Ts,List.mem_cons,Option.mem_toList] at hm ⊢
     rcases hm with h|h|h
     ·exact .inl h
     ·exact .inr (.inl h)
     ·rcases j3 with e|⟨q,e,hq⟩
      ·rw[e] at h;exact .inr (.inr h)
      ·rw[e] at h;cases h;omega
    ·intro hm
     apply hkn
     simp only[Ts,List.mem_cons,Option.mem_toList] at hm ⊢
     rcases hm with h|h
     ·exact .inl h
     ·exact .inr (.inr h)
   ·rintro e w' ⟨k,rfl,rfl,hr⟩
    exact⟨rfl,hr⟩
  ·rw[if_neg (by omega)]
   rw[h0] at C
   have C:=Lib.hid C
   have DD:=Lib.hid D
   have t6:((n:Int) == 64)=false:=by rw[beq_eq_false_iff_ne];omega
   clear D hs hu ha0 ha1 h0
   go_enter Try.func18,Try.ntmps18
   go_wp2_with (go_at_call 37;(with_reducible refine C.out.mono ?_);rintro e w1 ⟨rfl,rfl⟩)
   go_ret
   exact⟨rfl,H,cw,DD.out,.inl rfl,Gx.refl _ _⟩
 ·rw[if_neg h0]
  have DD:=Lib.hid D
  rcases(reach_err m a).resolve_left h0 with h|h
  ·rw[h] at C ⊢
   have C:=Lib.hid C
   clear D hs h0 h
   go_enter Try.func18,Try.ntmps18
   go_wp2_with (go_at_call 37;(with_reducible refine C.out.mono ?_);rintro e w1 ⟨rfl,rfl⟩)
   go_ret
   exact⟨rfl,H,cw,DD.out,.inl rfl,Gx.refl _ _⟩
  ·rw[h] at C ⊢
   have C:=Lib.hid C
   clear D hs h0 h
   go_enter Try.func18,Try.ntmps18
   go_wp2_with (go_at_call 37;(with_reducible refine C.out.mono ?_);rintro e w1 ⟨rfl,rfl⟩)
   go_ret
   exact⟨rfl,H,cw,DD.out,.inl rfl,Gx.refl _ _⟩
end
end Go.Proofs.Ytbgkdbjineennaa.Dk
