/- Joined texts. -/
import Derived.Test.YtbgkdbjineennaaQcDkTh
set_option linter.unusedVariables false
namespace Go.Proofs.Ytbgkdbjineennaa.Dk
def M.re(m:M)(c:Nat)(t:List Value):M:={ m with cp:=c,tl:=t }
section
variable (m:M) (c:Nat) (t:List Value)
theorem lose_re(x:List Bool):(m.re c t).lose x=(m.lose x).re c t:=by
 unfold M.lose
 by_cases h:m.up=true
 ·rw[if_pos h,if_pos (show(m.re c t).up=true from h)];rfl
 ·rw[if_neg h,if_neg (show ¬(m.re c t).up=true from h)]
theorem stroke_re:(m.re c t).stroke=(m.stroke.1,m.stroke.2.re c t):=by
 obtain⟨ss,hd,up,st,cut,cp,tl⟩:=m
 unfold M.stroke
 cases cut with
 |none=>rfl
 |some y =>
  obtain⟨k,x⟩:=y
  cases k with
  |zero =>
   show(60,(M.tick (M.re ⟨ss,hd,up,st,_,cp,tl⟩ c t)).lose x)=(60,((M.tick ⟨ss,hd,up,st,_,cp,tl⟩).lose x).re c t)
   rw[←lose_re];rfl
  |succ k=>rfl
theorem write_re(a:Int)(b:List Nat):(m.re c t).write a b=((m.write a b).1,(m.write a b).2.re c t):=by
 unfold M.write
 have hr:(m.re c t).reach a=m.reach a:=rfl
 rw[hr]
 by_cases h:m.reach a=0
 ·rw[if_pos h,if_pos h]
  by_cases h2:b.length=64
  ·rw[if_pos h2,if_pos h2]
   exact stroke_re (m.hold a.toNat b) c t
  ·rw[if_neg h2,if_neg h2]
 ·rw[if_neg h,if_neg h]
theorem flush_re:(m.re c t).flush=(m.flush.1,m.flush.2.re c t):=by
 unfold M.flush
 rw[stroke_re]
 by_cases h:m.up=true
 ·rw[if_pos h,if_pos (show(m.re c t).up=true from h)]
  by_cases h2:m.stroke.1=0
  ·rw[if_pos h2,if_pos (show(m.stroke.1,m.stroke.2.re c t).1=0 from h2)];rfl
  ·rw[if_neg h2,if_neg (show ¬(m.stroke.1,m.stroke.2.re c t).1=0 from h2)]
 ·rw[if_neg h,if_neg (show ¬(m.re c t).up=true from h)]
theorem set_re(k:Int)(x:List Bool):(m.re c t).set k x=((m.set k x).1,(m.set k x).2.re c t):=by
 unfold M.set
 by_cases h:k < 0
 ·rw[if_pos h,if_pos h]
 ·rw[if_neg h,if_neg h]
  by_cases h2:4096 < x.length
  ·rw[if_pos h2,if_pos h2]
  ·rw[if_neg h2,if_neg h2];rfl
theorem saves_re(f:Nat):∀(m:M) (p:Nat) (b:List Nat),M.saves f (m.re c t) p b=((M.saves f m p b).1,(M.saves f m p b).2.re c t):=by
 induction f with
 |zero=>intro m p b;rfl
 |succ f ih =>
  intro m p b
  rw[M.saves,M.saves]
  by_cases h:b=[]
  ·rw[if_pos h,if_pos h]
  ·rw[if_neg h,if_neg h,write_re]
   by_cases h2:(m.write (p:Int) (pad b)).1=0
   ·rw[if_pos h2,if_pos (show((m.write (p:Int) (pad b)).1,(m.write (p:Int) (pad b)).2.re c t).1=0 from h2)]
    exact ih _ _ _
   ·rw[if_neg h2,if_neg (show ¬((m.write (p:Int) (pad b)).1,(m.write (p:Int) (pad b)).2.re c t).1=0 from h2)]
theorem save_re(a:Int)(b:List Nat):(m.re c t).save a b=((m.save a b).1,(m.save a b).2.re c t):=by
 unfold M.save
 have hs:(m.re c t).span a b.length=m.span a b.length:=rfl
 rw[hs,saves_re]
 by_cases h:m.up=true
 ·rw[if_pos h,if_pos (show(m.re c t).up=true from h)]
  by_cases h2:m.span a b.length=0
  ·rw[if_pos h2,if_pos h2]
  ·rw[if_neg h2,if_neg h2]
 ·rw[if_neg h,if_neg (show ¬(m.re c t).up=true from h)]
theorem play_re(o:Od):(m.re c t).play o=(m.play o).re c t:=by
 unfold M.play
 rw[write_re,flush_re,set_re,lose_re,save_re]
 split
 ·rfl
 split
 ·rfl
 split
 ·rfl
 split
 ·rfl
 split
 ·rfl
 split
 ·rfl
 ·rfl
end
def M.playl(m:M)(l:List Od):M:=l.foldl M.play m
theorem playl_re(c:Nat)(t:List Value):∀(l:List Od) (m:M),(m.re c t).playl l=(m.playl l).re c t
 | [],m=>rfl
 |o :: l,m=>by
  show((m.re c t).play o).playl l=((m.play o).playl l).re c t
  rw[play_re,playl_re c t l]
end Go.Proofs.Ytbgkdbjineennaa.Dk
