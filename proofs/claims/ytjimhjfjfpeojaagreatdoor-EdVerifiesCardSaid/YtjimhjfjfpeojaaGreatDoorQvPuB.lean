/- Joined texts. -/
import Derived.Test.YtjimhjfjfpeojaaGreatDoorQvPuA
set_option maxRecDepth 100000
set_option maxHeartbeats 8000000
set_option linter.unusedVariables false
namespace Go.Proofs.YtjimhjfjfpeojaaGreatDoor.Ed
variable {q_:Nat} [NeZero q_]
theorem Zmc{d x1 y1 x2 y2 x3 y3:(Fin q_)}(h1:y1*y1 - x1*x1=1+d*x1*x1*y1*y1)(h2:y2*y2 - x2*x2=1+d*x2*x2*y2*y2)(h3:y3*y3 - x3*x3=1+d*x3*x3*y3*y3) :
  ((x1*y2+x2*y1)*(1 - d*x1*x2*y1*y2)*y3+x3*(y1*y2+x1*x2)*(1+d*x1*x2*y1*y2))*((1+d*x2*x3*y2*y3)*(1 - d*x2*x3*y2*y3)+d*(x2*y3+x3*y2)*(y2*y3+x2*x3)*x1*y1)=(x1*(y2*y3+x2*x3)*(1+d*x2*x3*y2*y3)+(x2*y3+x3*y2)*(1 - d*x2*x3*y2*y3)*y1)*((1+d*x1*x2*y1*y2)*(1 - d*x1*x2*y1*y2)+d*(x1*y2+x2*y1)*(y1*y2+x1*x2)*x3*y3):=by
 have e:((x1*y2+x2*y1)*(1 - d*x1*x2*y1*y2)*y3+x3*(y1*y2+x1*x2)*(1+d*x1*x2*y1*y2))*((1+d*x2*x3*y2*y3)*(1 - d*x2*x3*y2*y3)+d*(x2*y3+x3*y2)*(y2*y3+x2*x3)*x1*y1) - (x1*(y2*y3+x2*x3)*(1+d*x2*x3*y2*y3)+(x2*y3+x3*y2)*(1 - d*x2*x3*y2*y3)*y1)*((1+d*x1*x2*y1*y2)*(1 - d*x1*x2*y1*y2)+d*(x1*y2+x2*y1)*(y1*y2+x1*x2)*x3*y3)=(-d*y1*x2*y2*y2*y2*y2*x3*x3*y3 - d*y1*x2*x2*y2*y2*y2*x3 - d*y1*x2*x2*y2*y2*y2*x3*x3*x3 - d*y1*x2*x2*x2*y2*y2*y3+d*y1*x2*x2*x2*y2*y2*y3*y3*y3+d*y1*x2*x2*x2*x2*y2*x3*y3*y3+d*x1*x2*y2*y2*y2*y2*x3*y3*y3 - d*x1*x2*x2*y2*y2*y2*y3+d*x1*x2*x2*y2*y2*y2*y3*y3*y3 - d*x1*x2*x2*x2*y2*y2*x3 - d*x1*x2*x2*x2*y2*y2*x3*x3*x3 - d*x1*x2*x2*x2*x2*y2*x3*x3*y3+d*d*y1*x2*x2*x2*y2*y2*y2*y2*x3*x3*y3+d*d*y1*x2*x2*x2*x2*y2*y2*y2*x3*y3*y3 - d*d*x1*x2*x2*x2*y2*y2*y2*y2*x3*y3*y3 - d*d*x1*x2*x2*x2*x2*y2*y2*y2*x3*x3*y3)*(y1*y1 - x1*x1 - (1+d*x1*x1*y1*y1))+(-d*y1*x2*y2*y2*x3*x3*y3 - d*y1*x2*x2*y2*x3*y3*y3+d*y1*y1*y1*x2*y2*y2*x3*x3*y3+d*y1*y1*y1*x2*x2*y2*x3*y3*y3+d*x1*x2*y2*y2*x3*y3*y3+d*x1*x2*x2*y2*x3*x3*y3 - d*x1*y1*y1*x2*y2*y2*x3 - d*x1*y1*y1*x2*y2*y2*x3*x3*x3+d*x1*y1*y1*x2*x2*y2*y3 - d*x1*y1*y1*x2*x2*y2*y3*y3*y3+d*x1*x1*y1*x2*y2*y2*y3 - d*x1*x1*y1*x2*y2*y2*y3*y3*y3 - d*x1*x1*y1*x2*x2*y2*x3 - d*x1*x1*y1*x2*x2*y2*x3*x3*x3+d*x1*x1*x1*x2*y2*y2*x3*y3*y3+d*x1*x1*x1*x2*x2*y2*x3*x3*y3)*(y2*y2 - x2*x2 - (1+d*x2*x2*y2*y2))+(d*y1*x2*x2*y2*y2*y2*x3+d*y1*x2*x2*x2*y2*y2*y3 - d*y1*y1*y1*x2*x2*y2*y2*y2*x3 - d*y1*y1*y1*x2*x2*x2*y2*y2*y3+d*x1*x2*x2*y2*y2*y2*y3+d*x1*x2*x2*x2*y2*y2*x3 - d*x1*y1*y1*x2*y2*y2*y2*y2*x3 - d*x1*y1*y1*x2*x2*x2*x2*y2*y3+d*x1*x1*y1*x2*y2*y2*y2*y2*y3+d*x1*x1*y1*x2*x2*x2*x2*y2*x3+d*x1*x1*x1*x2*x2*y2*y2*y2*y3+d*x1*x1*x1*x2*x2*x2*y2*y2*x3+d*d*x1*y1*y1*x2*x2*x2*y2*y2*y2*y2*x3 - d*d*x1*y1*y1*x2*x2*x2*x2*y2*y2*y2*y3 - d*d*x1*x1*y1*x2*x2*x2*y2*y2*y2*y2*y3+d*d*x1*x1*y1*x2*x2*x2*x2*y2*y2*y2*x3)*(y3*y3 - x3*x3 - (1+d*x3*x3*y3*y3)):=by
  clear h1 h2 h3
  grind
 have a1:(y1*y1 - x1*x1 - (1+d*x1*x1*y1*y1))=0:=by clear h2 h3 e;grind
 have a2:(y2*y2 - x2*x2 - (1+d*x2*x2*y2*y2))=0:=by clear h1 h3 e;grind
 have a3:(y3*y3 - x3*x3 - (1+d*x3*x3*y3*y3))=0:=by clear h1 h2 e;grind
 rw[a1,a2,a3] at e
 clear h1 h2 h3 a1 a2 a3
 generalize((x1*y2+x2*y1)*(1 - d*x1*x2*y1*y2)*y3+x3*(y1*y2+x1*x2)*(1+d*x1*x2*y1*y2))*((1+d*x2*x3*y2*y3)*(1 - d*x2*x3*y2*y3)+d*(x2*y3+x3*y2)*(y2*y3+x2*x3)*x1*y1)=L at *
 generalize(x1*(y2*y3+x2*x3)*(1+d*x2*x3*y2*y3)+(x2*y3+x3*y2)*(1 - d*x2*x3*y2*y3)*y1)*((1+d*x1*x2*y1*y2)*(1 - d*x1*x2*y1*y2)+d*(x1*y2+x2*y1)*(y1*y2+x1*x2)*x3*y3)=R at *
 grind
theorem Zmd{d x1 y1 x2 y2 x3 y3:(Fin q_)}(h1:y1*y1 - x1*x1=1+d*x1*x1*y1*y1)(h2:y2*y2 - x2*x2=1+d*x2*x2*y2*y2)(h3:y3*y3 - x3*x3=1+d*x3*x3*y3*y3) :
  ((y1*y2+x1*x2)*(1+d*x1*x2*y1*y2)*y3+(x1*y2+x2*y1)*(1 - d*x1*x2*y1*y2)*x3)*((1+d*x2*x3*y2*y3)*(1 - d*x2*x3*y2*y3) - d*(x2*y3+x3*y2)*(y2*y3+x2*x3)*x1*y1)=(y1*(y2*y3+x2*x3)*(1+d*x2*x3*y2*y3)+x1*(x2*y3+x3*y2)*(1 - d*x2*x3*y2*y3))*((1+d*x1*x2*y1*y2)*(1 - d*x1*x2*y1*y2) - d*(x1*y2+x2*y1)*(y1*y2+x1*x2)*x3*y3):=by
 have e:((y1*y2+x1*x2)*(1+d*x1*x2*y1*y2)*y3+(x1*y2+x2*y1)*(1 - d*x1*x2*y1*y2)*x3)*((1+d*x2*x3*y2*y3)*(1 - d*x2*x3*y2*y3) - d*(x2*y3+x3*y2)*(y2*y3+x2*x3)*x1*y1) - (y1*(y2*y3+x2*x3)*(1+d*x2*x3*y2*y3)+x1*(x2*y3+x3*y2)*(1 - d*x2*x3*y2*y3))*((1+d*x1*x2*y1*y2)*(1 - d*x1*x2*y1*y2) - d*(x1*y2+x2*y1)*(y1*y2+x1*x2)*x3*y3)=(d*y1*x2*y2*y2*y2*y2*x3*y3*y3 - d*y1*x2*x2*y2*y2*y2*y3+d*y1*x2*x2*y2*y2*y2*y3*y3*y3 - d*y1*x2*x2*x2*y2*y2*x3 - d*y1*x2*x2*x2*y2*y2*x3*x3*x3 - d*y1*x2*x2*x2*x2*y2*x3*x3*y3 - d*x1*x2*y2*y2*y2*y2*x3*x3*y3 - d*x1*x2*x2*y2*y2*y2*x3 - d*x1*x2*x2*y2*y2*y2*x3*x3*x3 - d*x1*x2*x2*x2*y2*y2*y3+d*x1*x2*x2*x2*y2*y2*y3*y3*y3+d*x1*x2*x2*x2*x2*y2*x3*y3*y3 - d*d*y1*x2*x2*x2*y2*y2*y2*y2*x3*y3*y3 - d*d*y1*x2*x2*x2*x2*y2*y2*y2*x3*x3*y3+d*d*x1*x2*x2*x2*y2*y2*y2*y2*x3*x3*y3+d*d*x1*x2*x2*x2*x2*y2*y2*y2*x3*y3*y3)*(y1*y1 - x1*x1 - (1+d*x1*x1*y1*y1))+(d*y1*x2*y2*y2*x3*y3*y3+d*y1*x2*x2*y2*x3*x3*y3 - d*y1*y1*y1*x2*y2*y2*x3*y3*y3 - d*y1*y1*y1*x2*x2*y2*x3*x3*y3 - d*x1*x2*y2*y2*x3*x3*y3 - d*x1*x2*x2*y2*x3*y3*y3 - d*x1*y1*y1*x2*y2*y2*y3+d*x1*y1*y1*x2*y2*y2*y3*y3*y3+d*x1*y1*y1*x2*x2*y2*x3+d*x1*y1*y1*x2*x2*y2*x3*x3*x3+d*x1*x1*y1*x2*y2*y2*x3+d*x1*x1*y1*x2*y2*y2*x3*x3*x3 - d*x1*x1*y1*x2*x2*y2*y3+d*x1*x1*y1*x2*x2*y2*y3*y3*y3 - d*x1*x1*x1*x2*y2*y2*x3*x3*y3 - d*x1*x1*x1*x2*x2*y2*x3*y3*y3)*(y2*y2 - x2*x2 - (1+d*x2*x2*y2*y2))+(d*y1*x2*x2*y2*y2*y2*y3+d*y1*x2*x2*x2*y2*y2*x3 - d*y1*y1*y1*x2*x2*y2*y2*y2*y3 - d*y1*y1*y1*x2*x2*x2*y2*y2*x3+d*x1*x2*x2*y2*y2*y2*x3+d*x1*x2*x2*x2*y2*y2*y3 - d*x1*y1*y1*x2*y2*y2*y2*y2*y3 - d*x1*y1*y1*x2*x2*x2*x2*y2*x3+d*x1*x1*y1*x2*y2*y2*y2*y2*x3+d*x1*x1*y1*x2*x2*x2*x2*y2*y3+d*x1*x1*x1*x2*x2*y2*y2*y2*x3+d*x1*x1*x1*x2*x2*x2*y2*y2*y3+d*d*x1*y1*y1*x2*x2*x2*y2*y2*y2*y2*y3 - d*d*x1*y1*y1*x2*x2*x2*x2*y2*y2*y2*x3 - d*d*x1*x1*y1*x2*x2*x2*y2*y2*y2*y2*x3+d*d*x1*x1*y1*x2*x2*x2*x2*y2*y2*y2*y3)*(y3*y3 - x3*x3 - (1+d*x3*x3*y3*y3)):=by
  clear h1 h2 h3
  grind
 have a1:(y1*y1 - x1*x1 - (1+d*x1*x1*y1*y1))=0:=by clear h2 h3 e;grind
 have a2:(y2*y2 - x2*x2 - (1+d*x2*x2*y2*y2))=0:=by clear h1 h3 e;grind
 have a3:(y3*y3 - x3*x3 - (1+d*x3*x3*y3*y3))=0:=by clear h1 h2 e;grind
 rw[a1,a2,a3] at e
 clear h1 h2 h3 a1 a2 a3
 generalize((y1*y2+x1*x2)*(1+d*x1*x2*y1*y2)*y3+(x1*y2+x2*y1)*(1 - d*x1*x2*y1*y2)*x3)*((1+d*x2*x3*y2*y3)*(1 - d*x2*x3*y2*y3) - d*(x2*y3+x3*y2)*(y2*y3+x2*x3)*x1*y1)=L at *
 generalize(y1*(y2*y3+x2*x3)*(1+d*x2*x3*y2*y3)+x1*(x2*y3+x3*y2)*(1 - d*x2*x3*y2*y3))*((1+d*x1*x2*y1*y2)*(1 - d*x1*x2*y1*y2) - d*(x1*y2+x2*y1)*(y1*y2+x1*x2)*x3*y3)=R at *
 grind
theorem closed{d x1 y1 x2 y2 x3 y3:(Fin q_)}(h1:y1*y1 - x1*x1=1+d*x1*x1*y1*y1)(h2:y2*y2 - x2*x2=1+d*x2*x2*y2*y2)(h3:y3*y3 - x3*x3=1+d*x3*x3*y3*y3) :
  ((y1*y2+x1*x2)*(1+d*x1*x2*y1*y2)*(y1*y2+x1*x2)*(1+d*x1*x2*y1*y2) - (x1*y2+x2*y1)*(1 - d*x1*x2*y1*y2)*(x1*y2+x2*y1)*(1 - d*x1*x2*y1*y2))=((1+d*x1*x2*y1*y2)*(1 - d*x1*x2*y1*y2)*(1+d*x1*x2*y1*y2)*(1 - d*x1*x2*y1*y2)+d*(x1*y2+x2*y1)*(x1*y2+x2*y1)*(y1*y2+x1*x2)*(y1*y2+x1*x2)):=by
 have e:((y1*y2+x1*x2)*(1+d*x1*x2*y1*y2)*(y1*y2+x1*x2)*(1+d*x1*x2*y1*y2) - (x1*y2+x2*y1)*(1 - d*x1*x2*y1*y2)*(x1*y2+x2*y1)*(1 - d*x1*x2*y1*y2)) - ((1+d*x1*x2*y1*y2)*(1 - d*x1*x2*y1*y2)*(1+d*x1*x2*y1*y2)*(1 - d*x1*x2*y1*y2)+d*(x1*y2+x2*y1)*(x1*y2+x2*y1)*(y1*y2+x1*x2)*(y1*y2+x1*x2))=(y2*y2*y2*y2 - 4*x2*x2*y2*y2+2*x2*x2*y2*y2*y2*y2+x2*x2*x2*x2 - 2*x2*x2*x2*x2*y2*y2 - 2*d*x2*x2*y2*y2 - 2*d*x2*x2*x2*x2*y2*y2*y2*y2 - d*y1*y1*x2*x2*y2*y2*y2*y2+d*y1*y1*x2*x2*x2*x2*y2*y2+d*x1*x1*x2*x2*y2*y2*y2*y2 - d*x1*x1*x2*x2*x2*x2*y2*y2 - d*d*x2*x2*x2*x2*y2*y2*y2*y2+d*d*y1*y1*x2*x2*x2*x2*y2*y2*y2*y2 - d*d*x1*x1*x2*x2*x2*x2*y2*y2*y2*y2+d*d*d*x1*x1*y1*y1*x2*x2*x2*x2*y2*y2*y2*y2)*(y1*y1 - x1*x1 - (1+d*x1*x1*y1*y1))+(1+y2*y2 - x2*x2+2*x2*x2*y2*y2 - y1*y1*y2*y2+y1*y1*x2*x2 - 2*y1*y1*x2*x2*y2*y2+x1*x1*y2*y2 - x1*x1*x2*x2+2*x1*x1*x2*x2*y2*y2+d*x2*x2*y2*y2 - 2*d*y1*y1*x2*x2*y2*y2+d*y1*y1*y1*y1*x2*x2*y2*y2+2*d*x1*x1*x2*x2*y2*y2+d*x1*x1*x1*x1*x2*x2*y2*y2)*(y2*y2 - x2*x2 - (1+d*x2*x2*y2*y2))+((0:(Fin q_)))*(y3*y3 - x3*x3 - (1+d*x3*x3*y3*y3)):=by
  clear h1 h2 h3
  grind
 have a1:(y1*y1 - x1*x1 - (1+d*x1*x1*y1*y1))=0:=by clear h2 h3 e;grind
 have a2:(y2*y2 - x2*x2 - (1+d*x2*x2*y2*y2))=0:=by clear h1 h3 e;grind
 have a3:(y3*y3 - x3*x3 - (1+d*x3*x3*y3*y3))=0:=by clear h1 h2 e;grind
 rw[a1,a2,a3] at e
 clear h1 h2 h3 a1 a2 a3
 generalize((y1*y2+x1*x2)*(1+d*x1*x2*y1*y2)*(y1*y2+x1*x2)*(1+d*x1*x2*y1*y2) - (x1*y2+x2*y1)*(1 - d*x1*x2*y1*y2)*(x1*y2+x2*y1)*(1 - d*x1*x2*y1*y2))=L at *
 generalize((1+d*x1*x2*y1*y2)*(1 - d*x1*x2*y1*y2)*(1+d*x1*x2*y1*y2)*(1 - d*x1*x2*y1*y2)+d*(x1*y2+x2*y1)*(x1*y2+x2*y1)*(y1*y2+x1*x2)*(y1*y2+x1*x2))=R at *
 grind
structure Crv (q_:Nat) [NeZero q_] where
 d:(Fin q_)
 i:(Fin q_)
 inv:(Fin q_)→(Fin q_)
 hi:i*i+1=0
 hinv:∀a,a≠0→a*inv a=1
 two:(1:(Fin q_))+1≠0
 nonsq:∀u v:(Fin q_),d*v*v=u*u→v=0
namespace Crv
variable (C:Crv q_)
include C
theorem one_ne:(1:(Fin q_))≠0:=fun h=>C.two (by rw[h];grind)
theorem mul_ne{a b:(Fin q_)}(ha:a≠0)(hb:b≠0):a*b≠0:=by
 intro h
 apply hb
 have h1:=C.hinv a ha
 have:b=C.inv a*(a*b):=by grind
 rw[this,h];grind
theorem cancel{a b c:(Fin q_)}(hc:c≠0)(h:a*c=b*c):a=b:=by
 have h1:=C.hinv c hc
 have:a=(a*c)*C.inv c:=by grind
 rw[this,h];grind
def On(x y:(Fin q_)):Prop:=y*y - x*x=1+C.d*x*x*y*y
theorem never{s x1 y1 x2 y2:(Fin q_)}(h1:C.On x1 y1)(h2:C.On x2 y2)(hs:s*s=1):s*(C.d*x1*x2*y1*y2)≠1:=by
 intro ht
 have hi:=C.hi
 unfold On at h1 h2
 have e1:C.d*(x1*y1*(y2+C.i*x2))*(x1*y1*(y2+C.i*x2))=(y1+s*C.i*x1)*(y1+s*C.i*x1):=by
  generalize C.d=d at *
  generalize C.i=i at *
  grind
 have e2:C.d*(x1*y1*(y2 - C.i*x2))*(x1*y1*(y2 - C.i*x2))=(y1 - s*C.i*x1)*(y1 - s*C.i*x1):=by
  generalize C.d=d at *
  generalize C.i=i at *
  grind
 have z1:=C.nonsq _ _ e1
 have z2:=C.nonsq _ _ e2
 apply C.two
 generalize C.d=d at *
 generalize C.i=i at *
 clear e1 e2 h1 h2 hi
 grind
theorem dne{x1 y1 x2 y2:(Fin q_)}(h1:C.On x1 y1)(h2:C.On x2 y2):1+C.d*x1*x2*y1*y2≠0:=by
 intro h
 have:=C.never (s:=-1) h1 h2 (by grind)
 apply this
 generalize C.d=d at *
 clear h1 h2
 grind
theorem ene{x1 y1 x2 y2:(Fin q_)}(h1:C.On x1 y1)(h2:C.On x2 y2):1 - C.d*x1*x2*y1*y2≠0:=by
 intro h
 have:=C.never (s:=1) h1 h2 (by grind)
 apply this
 generalize C.d=d at *
 clear h1 h2
 grind
def ax(x1 y1 x2 y2:(Fin q_)):(Fin q_):=(x1*y2+x2*y1)*C.inv (1+C.d*x1*x2*y1*y2)
def ay(x1 y1 x2 y2:(Fin q_)):(Fin q_):=(y1*y2+x1*x2)*C.inv (1 - C.d*x1*x2*y1*y2)
theorem ax_mul{x1 y1 x2 y2:(Fin q_)}(h1:C.On x1 y1)(h2:C.On x2 y2):C.ax x1 y1 x2 y2*(1+C.d*x1*x2*y1*y2)=x1*y2+x2*y1:=by
 have:=C.hinv _ (C.dne h1 h2)
 unfold ax
 generalize C.inv (1+C.d*x1*x2*y1*y2)=v at *
 generalize 1+C.d*x1*x2*y1*y2=e at *
 clear h1 h2
 grind
theorem ay_mul{x1 y1 x2 y2:(Fin q_)}(h1:C.On x1 y1)(h2:C.On x2 y2):C.ay x1 y1 x2 y2*(1 - C.d*x1*x2*y1*y2)=y1*y2+x1*x2:=by
 have:=C.hinv _ (C.ene h1 h2)
 unfold ay
 generalize C.inv (1 - C.d*x1*x2*y1*y2)=v at *
 generalize 1 - C.d*x1*x2*y1*y2=e at *
 clear h1 h2
 grind
omit C in
theorem Zpv{A B D E X Y x y d R:(Fin q_)}(hA:A*D=X)(hB:B*E=Y)(hR:R*(1+d*A*x*B*y)=A*y+x*B) :
  R*(D*E+d*X*Y*x*y)=X*E*y+x*Y*D∧D*E*(1+d*A*x*B*y)=D*E+d*X*Y*x*y:=by
 subst hA hB
 constructor <;> grind
omit C in
theorem Zpw{A B D E X Y x y d R:(Fin q_)}(hA:A*D=X)(hB:B*E=Y)(hR:R*(1 - d*A*x*B*y)=B*y+A*x) :
  R*(D*E - d*X*Y*x*y)=Y*D*y+X*E*x∧D*E*(1 - d*A*x*B*y)=D*E - d*X*Y*x*y:=by
 subst hA hB
 constructor <;> grind
omit C in
theorem Zpx{A B D E X Y x y d R:(Fin q_)}(hA:A*D=X)(hB:B*E=Y)(hR:R*(1+d*x*A*y*B)=x*B+A*y) :
  R*(D*E+d*X*Y*x*y)=x*Y*D+X*E*y∧D*E*(1+d*x*A*y*B)=D*E+d*X*Y*x*y:=by
 subst hA hB
 constructor <;> grind
omit C in
theorem Zpy{A B D E X Y x y d R:(Fin q_)}(hA:A*D=X)(hB:B*E=Y)(hR:R*(1 - d*x*A*y*B)=y*B+x*A) :
  R*(D*E - d*X*Y*x*y)=y*Y*D+x*X*E∧D*E*(1 - d*x*A*y*B)=D*E - d*X*Y*x*y:=by
 subst hA hB
 constructor <;> grind
theorem fit{R1 R2 M1 M2 N1 N2:(Fin q_)}(m1:M1≠0)(m2:M2≠0)(h1:R1*M1=N1)(h2:R2*M2=N2)(h:N1*M2=N2*M1):R1=R2:=by
 refine C.cancel (C.mul_ne m1 m2) ?_
 subst h1 h2
 grind
theorem on_add{x1 y1 x2 y2:(Fin q_)}(h1:C.On x1 y1)(h2:C.On x2 y2):C.On (C.ax x1 y1 x2 y2) (C.ay x1 y1 x2 y2):=by
 have hD:=C.dne h1 h2
 have hE:=C.ene h1 h2
 have hx:=C.ax_mul h1 h2
 have hy:=C.ay_mul h1 h2
 have hc:=closed (x3:=(0:(Fin q_))) (y3:=1) h1 h2 (by generalize C.d=d;clear h1 h2 hD hE hx hy;grind)
 unfold On
 refine C.cancel (C.mul_ne (C.mul_ne hD hE) (C.mul_ne hD hE)) ?_
 generalize C.ax x1 y1 x2 y2=R at *
 generalize C.ay x1 y1 x2 y2=S at *
 generalize 1+C.d*x1*x2*y1*y2=D at *
 generalize 1 - C.d*x1*x2*y1*y2=E at *
 generalize x1*y2+x2*y1=X at *
 generalize y1*y2+x1*x2=Y at *
 generalize C.d=d at *
 clear h1 h2 hD hE
 subst hx hy
 grind
theorem ax_comm(x1 y1 x2 y2:(Fin q_)):C.ax x1 y1 x2 y2=C.ax x2 y2 x1 y1:=by
 unfold ax
 rw[show C.d*x1*x2*y1*y2=C.d*x2*x1*y2*y1 by generalize C.d=d;grind,show x1*y2+x2*y1=x2*y1+x1*y2 by grind]
theorem ay_comm(x1 y1 x2 y2:(Fin q_)):C.ay x1 y1 x2 y2=C.ay x2 y2 x1 y1:=by
 unfold ay
 rw[show C.d*x1*x2*y1*y2=C.d*x2*x1*y2*y1 by generalize C.d=d;grind,show y1*y2+x1*x2=y2*y1+x2*x1 by grind]
theorem ax_assoc{x1 y1 x2 y2 x3 y3:(Fin q_)}(h1:C.On x1 y1)(h2:C.On x2 y2)(h3:C.On x3 y3) :
  C.ax (C.ax x1 y1 x2 y2) (C.ay x1 y1 x2 y2) x3 y3=C.ax x1 y1 (C.ax x2 y2 x3 y3) (C.ay x2 y2 x3 y3):=by
 have o12:=C.on_add h1 h2
 have o23:=C.on_add h2 h3
 have a:=Zpv (C.ax_mul h1 h2) (C.ay_mul h1 h2) (C.ax_mul o12 h3)
 have b:=Zpx (C.ax_mul h2 h3) (C.ay_mul h2 h3) (C.ax_mul h1 o23)
 have m1:=C.mul_ne (C.mul_ne (C.dne h1 h2) (C.ene h1 h2)) (C.dne o12 h3)
 have m2:=C.mul_ne (C.mul_ne (C.dne h2 h3) (C.ene h2 h3)) (C.dne h1 o23)
 rw[a.2] at m1
 rw[b.2] at m2
 exact C.fit m1 m2 a.1 b.1 (Zmc h1 h2 h3)
theorem ay_assoc{x1 y1 x2 y2 x3 y3:(Fin q_)}(h1:C.On x1 y1)(h2:C.On x2 y2)(h3:C.On x3 y3) :
  C.ay (C.ax x1 y1 x2 y2) (C.ay x1 y1 x2 y2) x3 y3=C.ay x1 y1 (C.ax x2 y2 x3 y3) (C.ay x2 y2 x3 y3):=by
 have o12:=C.on_add h1 h2
 have o23:=C.on_add h2 h3
 have a:=Zpw (C.ax_mul h1 h2) (C.ay_mul h1 h2) (C.ay_mul o12 h3)
 have b:=Zpy (C.ax_mul h2 h3) (C.ay_mul h2 h3) (C.ay_mul h1 o23)
 have m1:=C.mul_ne (C.mul_ne (C.dne h1 h2) (C.ene h1 h2)) (C.ene o12 h3)
 have m2:=C.mul_ne (C.mul_ne (C.dne h2 h3) (C.ene h2 h3)) (C.ene h1 o23)
 rw[a.2] at m1
 rw[b.2] at m2
 exact C.fit m1 m2 a.1 b.1 (Zmd h1 h2 h3)
theorem on_zero:C.On 0 1:=by unfold On;generalize C.d=d;grind
theorem on_neg{x y:(Fin q_)}(h:C.On x y):C.On (-x) y:=by unfold On at *;generalize C.d=d at *;grind
theorem add_zero{x y:(Fin q_)}(h:C.On x y):C.ax x y 0 1=x∧C.ay x y 0 1=y:=by
 have hx:=C.ax_mul h C.on_zero
 have hy:=C.ay_mul h C.on_zero
 generalize C.ax x y 0 1=R at *
 generalize C.ay x y 0 1=S at *
 generalize C.d=d at *
 clear h
 constructor <;> grind
end Crv
variable {q_:Nat} [NeZero q_]
structure Pt (q_:Nat) where
 X:(Fin q_)
 Y:(Fin q_)
 Z:(Fin q_)
 T:(Fin q_)
namespace Crv
variable (C:Crv q_)
structure Rep (p:Pt q_) (x y:(Fin q_)):Prop where
 hz:p.Z≠0
 hx:p.X=x*p.Z
 hy:p.Y=y*p.Z
 ht:p.T=x*y*p.Z
 on:C.On x y
def quo(a b u v:(Fin q_)):Pt q_:=⟨a*v,u*b,b*v,a*u⟩
def add(p q:Pt q_):Pt q_ :=
 quo ((p.Y+p.X)*(q.Y+q.X) - (p.Y - p.X)*(q.Y - q.X)) ((p.Z+p.Z)*q.Z+p.T*(C.d+C.d)*q.T) ((p.Y+p.X)*(q.Y+q.X)+(p.Y - p.X)*(q.Y - q.X)) ((p.Z+p.Z)*q.Z - p.T*(C.d+C.d)*q.T)
def twice(p:Pt q_):Pt q_ :=
 quo (p.X*p.Y+p.X*p.Y) (p.Y*p.Y - p.X*p.X) (p.Y*p.Y+p.X*p.X) (p.Z*p.Z+p.Z*p.Z - (p.Y*p.Y - p.X*p.X))
def neg(p:Pt q_):Pt q_:=⟨-p.X,p.Y,p.Z,-p.T⟩
def Held(p:Pt q_):Prop:=p.Z≠0∧p.T*p.Z=p.X*p.Y∧p.Y*p.Y - p.X*p.X=p.Z*p.Z+C.d*(p.T*p.T)
variable {C}
theorem Zf9{a b u v x y k D E:(Fin q_)}(hk:k≠0)(hD:D≠0)(hE:E≠0)(ha:a=k*(x*D))(hb:b=k*D)(hu:u=k*(y*E))(hv:v=k*E)(on:C.On x y):C.Rep (quo a b u v) x y:=by
 subst ha hb hu hv
 refine⟨C.mul_ne (C.mul_ne hk hD) (C.mul_ne hk hE),?_,?_,?_,on⟩ <;> (unfold quo;dsimp only;clear on hk hD hE;grind)
theorem rep_add{p q:Pt q_}{x1 y1 x2 y2:(Fin q_)}(hp:C.Rep p x1 y1)(hq:C.Rep q x2 y2):C.Rep (C.add p q) (C.ax x1 y1 x2 y2) (C.ay x1 y1 x2 y2):=by
 obtain⟨X,Y,Z,T⟩:=p
 obtain⟨X',Y',Z',T'⟩:=q
 obtain⟨z,hx,hy,ht,on⟩:=hp
 obtain⟨z',hx',hy',ht',on'⟩:=hq
 dsimp only at *
 subst hx hy ht hx' hy' ht'
 have h2:=C.mul_ne C.two (C.mul_ne z z')
 refine Zf9 h2 (C.dne on on') (C.ene on on') ?_ ?_ ?_ ?_ (C.on_add on on')
 ·rw[C.ax_mul on on'];clear on on' z z' h2;dsimp only;grind
 ·clear on on' z z' h2;dsimp only;generalize C.d=d;grind
 ·rw[C.ay_mul on on'];clear on on' z z' h2;dsimp only;grind
 ·clear on on' z z' h2;dsimp only;generalize C.d=d;grind
theorem rep_twice{p:Pt q_}{x y:(Fin q_)}(hp:C.Rep p x y):C.Rep (twice p) (C.ax x y x y) (C.ay x y x y):=by
 obtain⟨X,Y,Z,T⟩:=p
 obtain⟨z,hx,hy,ht,on⟩:=hp
 dsimp only at *
 subst hx hy ht
 have hc:=on
 unfold On at hc
 refine Zf9 (C.mul_ne z z) (C.dne on on) (C.ene on on) ?_ ?_ ?_ ?_ (C.on_add on on)
 ·rw[C.ax_mul on on];clear on z hc;dsimp only;grind
 ·clear on z;dsimp only;generalize C.d=d at *;grind
 ·rw[C.ay_mul on on];clear on z hc;dsimp only;grind
 ·clear on z;dsimp only;generalize C.d=d at *;grind
theorem rep_neg{p:Pt q_}{x y:(Fin q_)}(hp:C.Rep p x y):C.Rep (neg p) (-x) y:=by
 obtain⟨X,Y,Z,T⟩:=p
 obtain⟨z,hx,hy,ht,on⟩:=hp
 dsimp only at *
 subst hx hy ht
 refine⟨z,?_,rfl,?_,C.on_neg on⟩ <;> (unfold neg;dsimp only;grind)
theorem held_rep{p:Pt q_}(h:C.Held p):C.Rep p (p.X*C.inv p.Z) (p.Y*C.inv p.Z):=by
 obtain⟨X,Y,Z,T⟩:=p
 obtain⟨z,h1,h2⟩:=h
 dsimp only at *
 have hv:=C.hinv Z z
 generalize C.inv Z=v at *
 have ex:X=X*v*Z:=by clear h1 h2;grind
 have ey:Y=Y*v*Z:=by clear h1 h2;grind
 have et:T=X*v*(Y*v)*Z:=by clear ex ey h2;grind
 refine⟨z,ex,ey,et,?_⟩
 unfold On
 generalize C.d=d at *
 clear z ex ey et
 grind
end Crv
variable {q_:Nat} [NeZero q_]
structure Pt3 (q_:Nat) where
 X:(Fin q_)
 Y:(Fin q_)
 Z:(Fin q_)
namespace Crv
variable (C:Crv q_)
structure Rep3 (p:Pt3 q_) (x y:(Fin q_)):Prop where
 hz:p.Z≠0
 hx:p.X=x*p.Z
 hy:p.Y=y*p.Z
 on:C.On x y
def add3(p q:Pt3 q_):Pt3 q_ :=
 let a:=p.Z*q.Z
 let b:=a*a
 let c:=p.X*q.X
 let e:=p.Y*q.Y
 let f:=C.d*(c*e)
 let g:=b - f
 let h:=b+f
 let cross:=(p.X+p.Y)*(q.X+q.Y) - c - e
 ⟨a*g*cross,a*h*(e+c),g*h⟩
def neg3(p:Pt3 q_):Pt3 q_:=⟨0 - p.X,p.Y,p.Z⟩
variable {C}
theorem rep3_add{p q:Pt3 q_}{x1 y1 x2 y2:(Fin q_)}(hp:C.Rep3 p x1 y1)(hq:C.Rep3 q x2 y2):C.Rep3 (C.add3 p q) (C.ax x1 y1 x2 y2) (C.ay x1 y1 x2 y2):=by
 obtain⟨X,Y,Z⟩:=p
 obtain⟨X',Y',Z'⟩:=q
 obtain⟨z,hx,hy,on⟩:=hp
 obtain⟨z',hx',hy',on'⟩:=hq
 dsimp only at *
 subst hx hy hx' hy'
 have hD:=C.dne on on'
 have hE:=C.ene on on'
 have ex:=C.ax_mul on on'
 have ey:=C.ay_mul on on'
 have hb:=C.mul_ne (C.mul_ne z z') (C.mul_ne z z')
 have eg:Z*Z'*(Z*Z') - C.d*(x1*Z*(x2*Z')*(y1*Z*(y2*Z')))=Z*Z'*(Z*Z')*(1 - C.d*x1*x2*y1*y2):=by
  generalize C.d=d;clear ex ey hD hE on on' z z' hb;grind
 have eh:Z*Z'*(Z*Z')+C.d*(x1*Z*(x2*Z')*(y1*Z*(y2*Z')))=Z*Z'*(Z*Z')*(1+C.d*x1*x2*y1*y2):=by
  generalize C.d=d;clear ex ey hD hE on on' z z' hb eg;grind
 have hon:=C.on_add on on'
 generalize C.ax x1 y1 x2 y2=R at *
 generalize C.ay x1 y1 x2 y2=S at *
 unfold add3
 dsimp only
 rw[eg,eh]
 generalize 1+C.d*x1*x2*y1*y2=D at *
 generalize 1 - C.d*x1*x2*y1*y2=E at *
 refine⟨C.mul_ne (C.mul_ne hb hE) (C.mul_ne hb hD),?_,?_,hon⟩
 ·dsimp only;clear eg eh hD hE on on' z z' hb hon ey;grind
 ·dsimp only;clear eg eh hD hE on on' z z' hb hon ex;grind
theorem rep3_neg{p:Pt3 q_}{x y:(Fin q_)}(hp:C.Rep3 p x y):C.Rep3 (neg3 p) (-x) y:=by
 obtain⟨X,Y,Z⟩:=p
 obtain⟨z,hx,hy,on⟩:=hp
 dsimp only at *
 subst hx hy
 refine⟨z,?_,rfl,C.on_neg on⟩
 unfold neg3;dsimp only;grind
theorem rep3_x{p:Pt3 q_}{x y:(Fin q_)}(hp:C.Rep3 p x y):p.X*C.inv p.Z=x∧p.Y*C.inv p.Z=y:=by
 have hv:=C.hinv _ hp.hz
 rw[hp.hx,hp.hy]
 generalize C.inv p.Z=v at *
 constructor <;> grind
theorem rep_x{p:Pt q_}{x y:(Fin q_)}(hp:C.Rep p x y):p.X*C.inv p.Z=x∧p.Y*C.inv p.Z=y:=by
 have hv:=C.hinv _ hp.hz
 rw[hp.hx,hp.hy]
 generalize C.inv p.Z=v at *
 constructor <;> grind
theorem rep_flat{x y:(Fin q_)}(h:C.On x y):C.Rep ⟨x,y,1,x*y⟩ x y :=
 ⟨C.one_ne,by dsimp only;grind,by dsimp only;grind,by dsimp only;grind,h⟩
theorem on_iff{x y:(Fin q_)}:C.On x y↔x*x*(C.d*(y*y)+1)=y*y - 1:=by
 unfold On
 generalize C.d=d
 constructor <;> intro h <;> grind
theorem den_ne(y:(Fin q_)):C.d*(y*y)+1≠0:=by
 intro h
 have hi:=C.hi
 have e:C.d*y*y=C.i*C.i:=by
  generalize C.d=d at *
  generalize C.i=i at *
  grind
 have hy:=C.nonsq _ _ e
 apply C.one_ne
 rw[hy] at h
 generalize C.d=d at *
 clear e hi hy
 grind
end Crv
open Go.Proofs.YtjimhjfjfpeojaaGreatDoor.Fd
section
variable {q_:Nat} [NeZero q_]
theorem Crv.add_assoc_(a b c:Fin q_):a+b+c=a+(b+c):=by grind
theorem Crv.add_comm_(a b:Fin q_):a+b=b+a:=by grind
theorem Crv.add_zero_(a:Fin q_):a+0=a:=by grind
theorem Crv.zero_mul_(a:Fin q_):0*a=0:=by grind
theorem Crv.mul_one_(a:Fin q_):a*1=a:=by grind
theorem Crv.neg_add_(a:Fin q_) : -a+a=0:=by grind
theorem Crv.sub_eq_(a b:Fin q_):a - b=a+-b:=by grind
end
instance:NeZero pp:=⟨by have:=Z1y;omega⟩
abbrev F:Type:=Fin pp
theorem Semiring.add_assoc(a b c:F):a+b+c=a+(b+c):=Crv.add_assoc_ a b c
theorem Semiring.add_comm(a b:F):a+b=b+a:=Crv.add_comm_ a b
theorem Semiring.add_zero(a:F):a+0=a:=Crv.add_zero_ a
theorem Semiring.zero_mul(a:F):0*a=0:=Crv.zero_mul_ a
theorem Semiring.mul_one(a:F):a*1=a:=Crv.mul_one_ a
theorem Ring.neg_add_cancel(a:F) : -a+a=0:=Crv.neg_add_ a
theorem Ring.sub_eq_add_neg(a b:F):a - b=a+-b:=Crv.sub_eq_ a b
def fe(n:Nat):F:=Fin.ofNat pp n
def fv(a:F):Nat:=Fin.val (n:=pp) a
theorem Zib(a:F):fv a < pp:=Fin.isLt (n:=pp) a
theorem Z85(n:Nat):fv (fe n)=n%pp:=rfl
theorem Zao(a:F):fe (fv a)=a:=Fin.eq_of_val_eq (n:=pp) (Nat.mod_eq_of_lt (Zib a))
theorem Z2s{a b:Nat}:fe a=fe b↔cg a b:=by
 constructor
 ·intro h
  have:=congrArg fv h
  rwa [Z85,Z85] at this
 ·intro h
  exact Fin.eq_of_val_eq (n:=pp) h
theorem Z37(a b:Nat):fe (a+b)=fe a+fe b:=Fin.eq_of_val_eq (n:=pp) (Nat.add_mod a b pp)
theorem Z10(a b:Nat):fe (a*b)=fe a*fe b:=Fin.eq_of_val_eq (n:=pp) (Nat.mul_mod a b pp)
theorem Z1e:fe 0=0:=Fin.eq_of_val_eq (n:=pp) rfl
theorem Z38:fe 1=1:=Fin.eq_of_val_eq (n:=pp) rfl
def dn:Nat:=37095705934669439343138083508754565189542113879843219016388785533085940283555
def hp:Nat:=28948022309329048855892746252171976963317496166410141009864396001978282409974
theorem Zss:hp+hp=pp - 1:=by rw[Z1b];decide
theorem Zic:dn ^ hp%pp=pp - 1 :=
 Z71 (s:=255) (by decide +kernel) Z19 (by rw[Z1b];decide +kernel)
theorem Zfa{p h a n m:Nat}(hpr:Pr p)(hh:h+h=p - 1)(he:a ^ h%p=p - 1)(h2:2 < p)(hc:(a*n*n)%p=(m*m)%p):n%p=0:=by
 by_cases hn:n%p=0
 ·exact hn
 ·exfalso
  have h1:(a*n*n) ^ h%p=(m*m) ^ h%p:=by rw[Nat.pow_mod,hc,←Nat.pow_mod]
  have e1:(a*n*n) ^ h=a ^ h*n ^ (p - 1):=by
   rw[Nat.mul_pow,Nat.mul_pow,Nat.mul_assoc,←Nat.pow_add,hh]
  have e2:(m*m) ^ h=m ^ (p - 1):=by rw[Nat.mul_pow,←Nat.pow_add,hh]
  rw[e1,e2,Nat.mul_mod,he,hpr.fermat n hn,Nat.mul_one,Nat.mod_eq_of_lt (show p - 1 < p by omega)] at h1
  by_cases hm:m%p=0
  ·rw[Nat.pow_mod,hm,Nat.zero_pow (by omega),Nat.zero_mod] at h1
   omega
  ·rw[hpr.fermat m hm] at h1
   omega
theorem Zid{n m:Nat}(h:cg (dn*n*n) (m*m)):n%pp=0 :=
 Zfa Z7u Zss Zic (by rw[Z1b];decide) h
theorem Zme{p n:Nat}(hpr:Pr p)(h2:2 < p)(hn:n%p≠0):(n*n ^ (p - 2))%p=1:=by
 have:=hpr.fermat n hn
 rwa [show p - 1=(p - 2)+1 by omega,Nat.pow_succ,Nat.mul_comm] at this
def cv:Crv pp where
 d:=fe dn
 i:=fe im
 inv a:=fe (fv a ^ (pp - 2))
 hi:=by
  rw[←Z10,←Z38,←Z37,←Z1e,Z2s]
  exact(cg.add Zok (cg.rfl' 1)).trans (by unfold cg m1;rw[Z1b])
 hinv:=by
  intro a ha
  have hn:fv a%pp≠0:=by
   intro h
   apply ha
   rw[←Zao a,←Z1e,Z2s]
   exact h
  have e:a*fe (fv a ^ (pp - 2))=fe (fv a*fv a ^ (pp - 2)):=by rw[Z10,Zao]
  rw[e,←Z38,Z2s]
  have:=Zme Z7u (by rw[Z1b];decide) hn
  show _=1%pp
  rw[Nat.mod_eq_of_lt Z19]
  exact this
 two:=by
  rw[←Z38,←Z37,←Z1e]
  intro h
  have:=Z2s.1 h
  unfold cg at this
  rw[Z1b] at this
  exact absurd this (by decide)
 nonsq:=by
  intro u v h
  rw[←Zao u,←Zao v,←Z10,←Z10,←Z10,Z2s] at h
  rw[←Zao v,←Z1e,Z2s]
  exact Zid h
structure G where
 x:F
 y:F
 on:cv.On x y
theorem G.same{p q:G}(hx:p.x=q.x)(hy:p.y=q.y):p=q:=by
 cases p;cases q;cases hx;cases hy;rfl
def gz:G:=⟨0,1,cv.on_zero⟩
def ga(p q:G):G:=⟨cv.ax p.x p.y q.x q.y,cv.ay p.x p.y q.x q.y,cv.on_add p.on q.on⟩
def gn(p:G):G:=⟨-p.x,p.y,cv.on_neg p.on⟩
theorem Z86(p q:G):ga p q=ga q p:=G.same (cv.ax_comm _ _ _ _) (cv.ay_comm _ _ _ _)
theorem Z1l(p q r:G):ga (ga p q) r=ga p (ga q r):=G.same (cv.ax_assoc p.on q.on r.on) (cv.ay_assoc p.on q.on r.on)
theorem ga_z(p:G):ga p gz=p:=G.same (cv.add_zero p.on).1 (cv.add_zero p.on).2
theorem z_ga(p:G):ga gz p=p:=by rw[Z86,ga_z]
def ti:Nat→G→G
 |0,_=>gz
 |n+1,p=>ga p (ti n p)
theorem Z28(p:G):ti 0 p=gz:=rfl
theorem Z2h(n:Nat)(p:G):ti (n+1) p=ga p (ti n p):=rfl
theorem Z95(p:G):ti 1 p=p:=by rw[Z2h,Z28,ga_z]
theorem Zfb(n m:Nat)(p:G):ti (n+m) p=ga (ti n p) (ti m p):=by
 induction n with
 |zero=>rw[Nat.zero_add,Z28,z_ga]
 |succ n ih=>rw[Nat.succ_add,Z2h,Z2h,ih,Z1l]
theorem Zpz(n m:Nat)(p:G):ti (n*m) p=ti n (ti m p):=by
 induction n with
 |zero=>rw[Nat.zero_mul,Z28,Z28]
 |succ n ih=>rw[Nat.succ_mul,Nat.add_comm,Zfb,Z2h,ih]
theorem Zfc(n:Nat)(p:G):ti (2*n) p=ga (ti n p) (ti n p):=by rw[show 2*n=n+n by omega,Zfb]
theorem Zmf(n:Nat)(p q:G):ti n (ga p q)=ga (ti n p) (ti n q):=by
 induction n with
 |zero=>rw[Z28,Z28,Z28,ga_z]
 |succ n ih =>
  rw[Z2h,Z2h,Z2h,ih,Z1l,Z1l]
  congr 1
  rw[←Z1l,←Z1l,Z86 q]
def Has(q:Pt pp)(g:G):Prop:=cv.Rep q g.x g.y
theorem Has.add{p q:Pt pp}{g h:G}(hp:Has p g)(hq:Has q h):Has (cv.add p q) (ga g h):=Crv.rep_add hp hq
theorem Has.twice{p:Pt pp}{g:G}(hp:Has p g):Has (Crv.twice p) (ga g g):=Crv.rep_twice hp
theorem Has.neg{p:Pt pp}{g:G}(hp:Has p g):Has (Crv.neg p) (gn g):=Crv.rep_neg hp
theorem Zie{p:Pt pp}(h:cv.Held p):∃g,Has p g:=⟨⟨_,_,(Crv.held_rep h).on⟩,Crv.held_rep h⟩
theorem Zfd:∀(j:Nat) (l:List Nat),(∀x∈l,x < 256)→le l / 256 ^ j%256=l.getD j 0:=by
 intro j
 induction j with
 |zero =>
  intro l h
  cases l with
  |nil=>rfl
  |cons x l =>
   have:=h x List.mem_cons_self
   rw[Nat.pow_zero,Nat.div_one,Z1i,List.getD_cons_zero];omega
 |succ j ih =>
  intro l h
  cases l with
  |nil=>rw[le_nil,Nat.zero_div];rfl
  |cons x l =>
   have h1:=h x List.mem_cons_self
   have h2:=ih l fun y hy=>h y (List.mem_cons_of_mem _ hy)
   rw[List.getD_cons_succ,←h2,Z1i,Nat.pow_succ',←Nat.div_div_eq_div_mul,show(x+256*le l) / 256=le l by omega]
def hf(l:List Nat)(k:Nat):Nat:=l.getD (k / 2) 0 / 16 ^ (k%2)%16
theorem Zap(l:List Nat)(k:Nat)(h:∀x∈l,x < 256):le l / 16 ^ k%16=hf l k:=by
 unfold hf
 rw[←Zfd (k / 2) l h]
 have e:(16:Nat) ^ k=256 ^ (k / 2)*16 ^ (k%2):=by
  rw[show(256:Nat)=16 ^ 2 from rfl,←Nat.pow_mul,←Nat.pow_add,Nat.div_add_mod]
 rw[e,←Nat.div_div_eq_div_mul]
 generalize le l / 256 ^ (k / 2)=v
 rcases Nat.mod_two_eq_zero_or_one k with r|r <;> rw[r] <;> simp only[Nat.pow_zero,Nat.pow_one,Nat.div_one] <;> omega
def bt(l:List Nat)(k:Nat):Nat:=l.getD (k / 8) 0 / 2 ^ (k%8)%2
theorem le_bit(l:List Nat)(k:Nat)(h:∀x∈l,x < 256):le l / 2 ^ k%2=bt l k:=by
 unfold bt
 rw[←Zfd (k / 8) l h]
 have e:(2:Nat) ^ k=256 ^ (k / 8)*2 ^ (k%8):=by
  rw[show(256:Nat)=2 ^ 8 from rfl,←Nat.pow_mul,←Nat.pow_add,Nat.div_add_mod]
 rw[e,←Nat.div_div_eq_div_mul]
 generalize le l / 256 ^ (k / 8)=v
 have hr:k%8 < 8:=Nat.mod_lt _ (by decide)
 generalize k%8=r at *
 have:r=0∨r=1∨r=2∨r=3∨r=4∨r=5∨r=6∨r=7:=by omega
 rcases this with rfl|rfl|rfl|rfl|rfl|rfl|rfl|rfl <;> simp only[Nat.reducePow] <;> omega
theorem Z87(b n k:Nat)(p:G):ti (n / b ^ k) p=ga (ti b (ti (n / b ^ (k+1)) p)) (ti (n / b ^ k%b) p):=by
 rw[←Zpz,←Zfb,Nat.pow_succ,←Nat.div_div_eq_div_mul,Nat.div_add_mod]
theorem Zif(b n k:Nat)(h:n < b ^ k)(p:G):ti (n / b ^ k) p=gz:=by
 rw[Nat.div_eq_of_lt h];rfl
theorem Zk9(b n:Nat)(p:G):ti (n / b ^ 0) p=ti n p:=by rw[Nat.pow_zero,Nat.div_one]
theorem Zfe(b n m k:Nat)(p q:G):ga (ti (n / b ^ k) p) (ti (m / b ^ k) q)=ga (ga (ti b (ga (ti (n / b ^ (k+1)) p) (ti (m / b ^ (k+1)) q))) (ti (n / b ^ k%b) p)) (ti (m / b ^ k%b) q):=by
 rw[Z87 b n k p,Z87 b m k q,Zmf]
 generalize ti b (ti (n / b ^ (k+1)) p)=A
 generalize ti b (ti (m / b ^ (k+1)) q)=B
 generalize ti (n / b ^ k%b) p=c
 generalize ti (m / b ^ k%b) q=d
 rw[Z1l A c,Z1l A B,Z1l A (ga B c)]
 congr 1
 rw[←Z1l,Z86 c B]
structure Q where
 X:Nat
 Y:Nat
 Z:Nat
 T:Nat
def Q.pt(q:Q):Pt pp:=⟨fe q.X,fe q.Y,fe q.Z,fe q.T⟩
def su(a b:Nat):Nat:=(a+(pp - b%pp))%pp
theorem fe_mod(a:Nat):fe (a%pp)=fe a:=Z2s.2 (cg.mod a)
theorem Zst:fe pp=0:=by rw[←Z1e,Z2s];exact(Nat.mod_self pp).trans (Nat.zero_mod pp).symm
theorem Zff(a b:Nat):fe (su a b)=fe a - fe b:=by
 unfold su
 rw[fe_mod,Z37]
 have h:fe (pp - b%pp)+fe b=0:=by
  rw[←fe_mod b,←Z37,Nat.sub_add_cancel (Nat.le_of_lt (mod_lt b)),Zst]
 generalize fe (pp - b%pp)=x at *
 generalize fe b=y at *
 generalize fe a=z at *
 have:x=-y:=by
  have h2:x=(x+y)+-y:=by
   rw[Semiring.add_assoc,Semiring.add_comm y,Ring.neg_add_cancel,Semiring.add_zero]
  rw[h2,h,Semiring.add_comm,Semiring.add_zero]
 rw[this,Ring.sub_eq_add_neg]
def qq(a b u v:Nat):Q:=⟨a*v%pp,u*b%pp,b*v%pp,a*u%pp⟩
theorem Zq0(a b u v:Nat):(qq a b u v).pt=Crv.quo (fe a) (fe b) (fe u) (fe v):=by
 unfold qq Q.pt Crv.quo
 simp only[fe_mod,Z10]
def qt(p:Q):Q:=qq (p.X*p.Y+p.X*p.Y) (su (p.Y*p.Y) (p.X*p.X)) (p.Y*p.Y+p.X*p.X) (su (p.Z*p.Z+p.Z*p.Z) (su (p.Y*p.Y) (p.X*p.X)))
theorem Zsu(p:Q):(qt p).pt=Crv.twice p.pt:=by
 unfold qt Crv.twice
 rw[Zq0]
 simp only[Zff,Z37,Z10]
 rfl
def qa(p q:Q):Q :=
 qq (su ((p.Y+p.X)*(q.Y+q.X)) (su p.Y p.X*su q.Y q.X)) ((p.Z+p.Z)*q.Z+p.T*(dn+dn)*q.T) ((p.Y+p.X)*(q.Y+q.X)+su p.Y p.X*su q.Y q.X) (su ((p.Z+p.Z)*q.Z) (p.T*(dn+dn)*q.T))
theorem Zsv(p q:Q):(qa p q).pt=cv.add p.pt q.pt:=by
 unfold qa Crv.add
 rw[Zq0]
 simp only[Zff,Z37,Z10]
 rfl
def lp:Nat→Q→Q→Nat→Q
 |0,a,_,_=>a
 |s+1,a,g,e=>if a.X+a.Y+a.Z+a.T+g.X+g.Y+g.Z+g.T=0 then lp s (if e%2=1 then qa a g else a) (qt g) (e / 2) else lp s (if e%2=1 then qa a g else a) (qt g) (e / 2)
theorem Zq1:∀(s:Nat) (a g:Q) (e:Nat) (A P:G),e < 2 ^ s→Has a.pt A→Has g.pt P→Has (lp s a g e).pt (ga A (ti e P)):=by
 intro s
 induction s with
 |zero =>
  intro a g e A P he ha hg
  have:e=0:=by omega
  subst this
  rw[lp,Z28,ga_z];exact ha
 |succ s ih =>
  intro a g e A P he ha hg
  rw[lp,ite_self]
  rw[Nat.pow_succ] at he
  have hg2:Has (qt g).pt (ga P P):=by rw[Zsu];exact hg.twice
  rcases Nat.mod_two_eq_zero_or_one e with h|h
  ·rw[if_neg (by omega)]
   have:=ih a (qt g) (e / 2) A (ga P P) (by omega) ha hg2
   rwa [Zmf,←Zfc,show 2*(e / 2)=e by omega] at this
  ·rw[if_pos h]
   have:=ih (qa a g) (qt g) (e / 2) (ga A P) (ga P P) (by omega) (by rw[Zsv];exact ha.add hg) hg2
   rwa [Zmf,←Zfc,Z1l,←Z2h,show 2*(e / 2)+1=e by omega] at this
def qz:Q:=⟨0,1,1,0⟩
theorem Zfg:Has qz.pt gz:=by
 have e:qz.pt=⟨0,1,1,0⟩:=by unfold qz Q.pt;simp only[Z1e,Z38]
 rw[e]
 refine⟨cv.one_ne,?_,?_,?_,cv.on_zero⟩
 ·show(0:F)=0*1
  rw[Semiring.zero_mul]
 ·show(1:F)=1*1
  rw[Semiring.mul_one]
 ·show(0:F)=0*1*1
  rw[Semiring.zero_mul,Semiring.zero_mul]
def qOn(q:Q):Bool:=q.Z%pp != 0 && (q.T*q.Z%pp == q.X*q.Y%pp && su (q.Y*q.Y) (q.X*q.X)%pp == (q.Z*q.Z+dn*(q.T*q.T))%pp)
theorem Zig{q:Q}(h:qOn q=true):cv.Held q.pt:=by
 unfold qOn at h
 simp only[Bool.and_eq_true,bne_iff_ne,beq_iff_eq] at h
 obtain⟨h1,h2,h3⟩:=h
 refine⟨?_,?_,?_⟩
 ·show fe q.Z≠0
  rw[←Z1e]
  intro e
  exact h1 (Eq.trans (show q.Z%pp=0%pp from Z2s.1 e) (Nat.zero_mod pp))
 ·show fe q.T*fe q.Z=fe q.X*fe q.Y
  rw[←Z10,←Z10]
  exact Z2s.2 h2
 ·show fe q.Y*fe q.Y - fe q.X*fe q.X=fe q.Z*fe q.Z+fe dn*(fe q.T*fe q.T)
  rw[←Z10,←Z10,←Zff,←Z10,←Z10,←Z10,←Z37]
  exact Z2s.2 h3
def qb:Q:=⟨15112221349535400772501151409588531511454012693041857206046113283949847762202,46316835694926478169428394003475163141307993866256225615783033603165251855960,1,46827403850823179245072216630277197565144205554125654976674165829533817101731⟩
theorem Zsw:qOn qb=true:=by decide +kernel
theorem Zq2:∃g,Has qb.pt g:=Zie (Zig Zsw)
def gb(g:G):Nat:=fv g.y+fv g.x%2*57896044618658097711785492504343953926634992332820282019728792003956564819968
def iz(z:Nat):Nat:=mp 255 1 z (pp - 2) pp
def en(q:Q):Nat:=q.Y*iz q.Z%pp+q.X*iz q.Z%pp%2*57896044618658097711785492504343953926634992332820282019728792003956564819968
theorem Zq3(z:Nat):cv.inv (fe z)=fe (iz z):=by
 show fe (fv (fe z) ^ (pp - 2))=fe (iz z)
 unfold iz
 rw[Zoi 255 1 z (pp - 2) pp (by decide +kernel) Z19,Nat.one_mul,fe_mod,Z85,Z2s]
 exact(Nat.pow_mod z (pp - 2) pp).symm
theorem Zfh{q:Q}{g:G}(h:Has q.pt g):en q=gb g:=by
 have hx:fe q.X*cv.inv (fe q.Z)=g.x:=(Crv.rep_x h).1
 have hy:fe q.Y*cv.inv (fe q.Z)=g.y:=(Crv.rep_x h).2
 rw[Zq3,←Z10] at hx hy
 unfold gb en
 rw[←hx,←hy,Z85,Z85]
theorem Zmg{g:G}(h:Has qb.pt g):by_ (gb g) 32=[88,102,102,102,102,102,102,102,102,102,102,102,102,102,102,102,102,102,102,102,102,102,102,102,102,102,102,102,102,102,102,102]:=by
 rw[←Zfh h];decide +kernel
theorem Zfi:by_ (gb gz) 32=[1,0,0,0,0,0,0,0,0,0,0,0,0,0,0,0,0,0,0,0,0,0,0,0,0,0,0,0,0,0,0,0]:=by
 rw[←Zfh Zfg];decide +kernel
def kz:Nat:=39325648866980652792715009169219496062012184734522019333892538943312776480336
theorem Zq4{g:G}(h:Has qb.pt g):(by_ (gb (ti kz g)) 32).take 4=[59,106,39,188]:=by
 have:=Zq1 255 qz qb kz gz g (by decide +kernel) Zfg h
 rw[z_ga] at this
 rw[←Zfh this];decide +kernel
theorem Zd2(r:Nat):fe (ng r)=- fe r:=by
 have h:ng r=su 0 r:=by unfold ng su;rw[Nat.zero_add]
 rw[h,Zff,Z1e,Ring.sub_eq_add_neg,Semiring.add_comm,Semiring.add_zero]
theorem Z2e{n:Nat}(h:n < pp):fv (fe n)=n:=by rw[Z85,Nat.mod_eq_of_lt h]
theorem Zmh{y r u v:Nat}(hv:v < pp)(hu:fe u=fe y*fe y - 1)(hV:fe v=fe dn*(fe y*fe y)+1)(h:rr u v=some r):cv.On (fe r) (fe y)∧r < pp∧r%2=0:=by
 have v0:v≠0:=by
  intro e
  rw[e,Z1e] at hV
  exact cv.den_ne (fe y) hV.symm
 obtain⟨h1,h2,h3⟩:=Za9 hv v0 h
 refine⟨Crv.on_iff.2 ?_,h1,h2⟩
 have e:=Z2s.2 h3
 rw[Z10,Z10,hu,hV] at e
 exact e
theorem Zfj{y s r u v:Nat}(hy:y < pp)(hv:v < pp)(hu:fe u=fe y*fe y - 1)(hV:fe v=fe dn*(fe y*fe y)+1)(h:rr u v=some r)(hs:s < 2)(h0:s=1→r≠0) :
  ∃g:G,g.y=fe y∧g.x=fe (if s=1 then ng r else r)∧fv g.x%2=s∧gb g=y+s*57896044618658097711785492504343953926634992332820282019728792003956564819968:=by
 obtain⟨on,hr,he⟩:=Zmh hv hu hV h
 rcases(show s=0∨s=1 by omega) with rfl|rfl
 ·refine⟨⟨fe r,fe y,on⟩,rfl,?_,?_,?_⟩
  ·rw[if_neg (by decide)]
  ·rw[Z2e hr,he]
  ·show fv (fe y)+fv (fe r)%2*_=_
   rw[Z2e hy,Z2e hr,he]
 ·have hr0:=h0 rfl
  have od:ng r%2=1:=by
   rw[Zhs hr hr0]
   have:=Zed
   omega
  refine⟨⟨fe (ng r),fe y,by rw[Zd2];exact cv.on_neg on⟩,rfl,?_,?_,?_⟩
  ·rw[if_pos rfl]
  ·rw[Z2e (Z7v r),od]
  ·show fv (fe y)+fv (fe (ng r))%2*_=_
   rw[Z2e hy,Z2e (Z7v r),od]
theorem Zih(p:G)(i:Nat):ga (ti i p) p=ti (i+1) p:=by rw[Z2h,Z86]
theorem Zmi(n k:Nat)(p:G)(l:List Nat)(hl:∀x∈l,x < 256)(hn:le l=n):ga (ti 16 (ti (n / 16 ^ (k+1)) p)) (ti (hf l k) p)=ti (n / 16 ^ k) p:=by
 rw[Z87 16 n k p,←Zap l k hl,hn]
theorem Zmj(n m k:Nat)(p q:G)(l j:List Nat)(hl:∀x∈l,x < 256)(hj:∀x∈j,x < 256)(hn:le l=n)(hm:le j=m) :
  ga (ga (ti 16 (ga (ti (n / 16 ^ (k+1)) p) (ti (m / 16 ^ (k+1)) q))) (ti (hf l k) p)) (ti (hf j k) q)=ga (ti (n / 16 ^ k) p) (ti (m / 16 ^ k) q):=by
 rw[Zfe 16 n m k p q,←Zap l k hl,←Zap j k hj,hn,hm]
theorem Zd3(l:List Nat)(k:Nat)(h:l.length≤k / 2):hf l k=0:=by
 unfold hf
 rw[List.getD_eq_getElem?_getD,List.getElem?_eq_none h]
 simp
theorem Z4a(l:List Nat)(hl:∀x∈l,x < 256)(k:Nat)(hk:2*l.length≤k)(p:G):ti (le l / 16 ^ k) p=gz:=by
 apply Zif
 refine Nat.lt_of_lt_of_le (Zco l hl) ?_
 rw[show(256:Nat)=16 ^ 2 from rfl,←Nat.pow_mul]
 exact Nat.pow_le_pow_right (by decide) hk
end Go.Proofs.YtjimhjfjfpeojaaGreatDoor.Ed
