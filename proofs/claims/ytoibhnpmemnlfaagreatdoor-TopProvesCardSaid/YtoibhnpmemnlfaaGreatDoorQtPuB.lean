/- Joined texts. -/
import Derived.Test.YtoibhnpmemnlfaaGreatDoorQtPuA
set_option linter.unusedVariables false
namespace Go.Proofs.YtoibhnpmemnlfaaGreatDoor.Ed
variable {q_:Nat} [NeZero q_]
theorem assoc_x{d x1 y1 x2 y2 x3 y3:(Fin q_)}(h1:y1*y1 - x1*x1=1+d*x1*x1*y1*y1)(h2:y2*y2 - x2*x2=1+d*x2*x2*y2*y2)(h3:y3*y3 - x3*x3=1+d*x3*x3*y3*y3) :
  ((x1*y2+x2*y1)*(1 - d*x1*x2*y1*y2)*y3+x3*(y1*y2+x1*x2)*(1+d*x1*x2*y1*y2))*((1+d*x2*x3*y2*y3)*(1 - d*x2*x3*y2*y3)+d*(x2*y3+x3*y2)*(y2*y3+x2*x3)*x1*y1)=(x1*(y2*y3+x2*x3)*(1+d*x2*x3*y2*y3)+(x2*y3+x3*y2)*(1 - d*x2*x3*y2*y3)*y1)*((1+d*x1*x2*y1*y2)*(1 - d*x1*x2*y1*y2)+d*(x1*y2+x2*y1)*(y1*y2+x1*x2)*x3*y3):=by
 have e:((x1*y2+x2*y1)*(1 - d*x1*x2*y1*y2)*y3+x3*(y1*y2+x1*x2)*(1+d*x1*x2*y1*y2))*((1+d*x2*x3*y2*y3)*(1 - d*x2*x3*y2*y3)+d*(x2*y3+x3*y2)*(y2*y3+x2*x3)*x1*y1) - (x1*(y2*y3+x2*x3)*(1+d*x2*x3*y2*y3)+(x2*y3+x3*y2)*(1 - d*x2*x3*y2*y3)*y1)*((1+d*x1*x2*y1*y2)*(1 - d*x1*x2*y1*y2)+d*(x1*y2+x2*y1)*(y1*y2+x1*x2)*x3*y3)=(-d*y1*x2*y2*y2*y2*y2*x3*x3*y3 - d*y1*x2*x2*y2*y2*y2*x3 - d*y1*x2*x2*y2*y2*y2*x3*x3*x3 - d*y1*x2*x2*x2*y2*y2*y3+d*y1*x2*x2*x2*y2*y2*y3*y3*y3+d*y1*x2*x2*x2*x2*y2*x3*y3*y3+d*x1*x2*y2*y2*y2*y2*x3*y3*y3 - d*x1*x2*x2*y2*y2*y2*y3+d*x1*x2*x2*y2*y2*y2*y3*y3*y3 - d*x1*x2*x2*x2*y2*y2*x3 - d*x1*x2*x2*x2*y2*y2*x3*x3*x3 - d*x1*x2*x2*x2*x2*y2*x3*x3*y3+d*d*y1*x2*x2*x2*y2*y2*y2*y2*x3*x3*y3+d*d*y1*x2*x2*x2*x2*y2*y2*y2*x3*y3*y3 - d*d*x1*x2*x2*x2*y2*y2*y2*y2*x3*y3*y3 - d*d*x1*x2*x2*x2*x2*y2*y2*y2*x3*x3*y3)*(y1*y1 - x1*x1 - (1+d*x1*x1*y1*y1))+(-d*y1*x2*y2*y2*x3*x3*y3 - d*y1*x2*x2*y2*x3*y3*y3+d*y1*y1*y1*x2*y2*y2*x3*x3*y3+d*y1*y1*y1*x2*x2*y2*x3*y3*y3+d*x1*x2*y2*y2*x3*y3*y3+d*x1*x2*x2*y2*x3*x3*y3 - d*x1*y1*y1*x2*y2*y2*x3 - d*x1*y1*y1*x2*y2*y2*x3*x3*x3+d*x1*y1*y1*x2*x2*y2*y3 - d*x1*y1*y1*x2*x2*y2*y3*y3*y3+d*x1*x1*y1*x2*y2*y2*y3 - d*x1*x1*y1*x2*y2*y2*y3*y3*y3 - d*x1*x1*y1*x2*x2*y2*x3 - d*x1*x1*y1*x2*x2*y2*x3*x3*x3+d*x1*x1*x1*x2*y2*y2*x3*y3*y3+d*x1*x1*x1*x2*x2*y2*x3*x3*y3)*(y2*y2 - x2*x2 - (1+d*x2*x2*y2*y2))+(d*y1*x2*x2*y2*y2*y2*x3+d*y1*x2*x2*x2*y2*y2*y3 - d*y1*y1*y1*x2*x2*y2*y2*y2*x3 - d*y1*y1*y1*x2*x2*x2*y2*y2*y3+d*x1*x2*x2*y2*y2*y2*y3+d*x1*x2*x2*x2*y2*y2*x3 - d*x1*y1*y1*x2*y2*y2*y2*y2*x3 - d*x1*y1*y1*x2*x2*x2*x2*y2*y3+d*x1*x1*y1*x2*y2*y2*y2*y2*y3+d*x1*x1*y1*x2*x2*x2*x2*y2*x3+d*x1*x1*x1*x2*x2*y2*y2*y2*y3+d*x1*x1*x1*x2*x2*x2*y2*y2*x3+d*d*x1*y1*y1*x2*x2*x2*y2*y2*y2*y2*x3 - d*d*x1*y1*y1*x2*x2*x2*x2*y2*y2*y2*y3 - d*d*x1*x1*y1*x2*x2*x2*y2*y2*y2*y2*y3+d*d*x1*x1*y1*x2*x2*x2*x2*y2*y2*y2*x3)*(y3*y3 - x3*x3 - (1+d*x3*x3*y3*y3)):=by
  clear h1 h2 h3
  grind
 have a1:(y1*y1 - x1*x1 - (1+d*x1*x1*y1*y1))=0:=by clear h2 h3 e;grind
 have a2:(y2*y2 - x2*x2 - (1+d*x2*x2*y2*y2))=0:=by clear h1 h3 e;grind
 have a3:(y3*y3 - x3*x3 - (1+d*x3*x3*y3*y3))=0:=by clear h1 h2 e;grind
 rw[a1,a2,a3] at e
 clear h1 h2 h3 a1 a2 a3
 generalize((x1*y2+x2*y1)*(1 - d*x1*x2*y1*y2)*y3+x3*(y1*y2+x1*x2)*(1+d*x1*x2*y1*y2))*((1+d*x2*x3*y2*y3)*(1 - d*x2*x3*y2*y3)+d*(x2*y3+x3*y2)*(y2*y3+x2*x3)*x1*y1)=L at *
 generalize(x1*(y2*y3+x2*x3)*(1+d*x2*x3*y2*y3)+(x2*y3+x3*y2)*(1 - d*x2*x3*y2*y3)*y1)*((1+d*x1*x2*y1*y2)*(1 - d*x1*x2*y1*y2)+d*(x1*y2+x2*y1)*(y1*y2+x1*x2)*x3*y3)=R at *
 grind
theorem assoc_y{d x1 y1 x2 y2 x3 y3:(Fin q_)}(h1:y1*y1 - x1*x1=1+d*x1*x1*y1*y1)(h2:y2*y2 - x2*x2=1+d*x2*x2*y2*y2)(h3:y3*y3 - x3*x3=1+d*x3*x3*y3*y3) :
  ((y1*y2+x1*x2)*(1+d*x1*x2*y1*y2)*y3+(x1*y2+x2*y1)*(1 - d*x1*x2*y1*y2)*x3)*((1+d*x2*x3*y2*y3)*(1 - d*x2*x3*y2*y3) - d*(x2*y3+x3*y2)*(y2*y3+x2*x3)*x1*y1)=(y1*(y2*y3+x2*x3)*(1+d*x2*x3*y2*y3)+x1*(x2*y3+x3*y2)*(1 - d*x2*x3*y2*y3))*((1+d*x1*x2*y1*y2)*(1 - d*x1*x2*y1*y2) - d*(x1*y2+x2*y1)*(y1*y2+x1*x2)*x3*y3):=by
 have e:((y1*y2+x1*x2)*(1+d*x1*x2*y1*y2)*y3+(x1*y2+x2*y1)*(1 - d*x1*x2*y1*y2)*x3)*((1+d*x2*x3*y2*y3)*(1 - d*x2*x3*y2*y3) - d*(x2*y3+x3*y2)*(y2*y3+x2*x3)*x1*y1) - (y1*(y2*y3+x2*x3)*(1+d*x2*x3*y2*y3)+x1*(x2*y3+x3*y2)*(1 - d*x2*x3*y2*y3))*((1+d*x1*x2*y1*y2)*(1 - d*x1*x2*y1*y2) - d*(x1*y2+x2*y1)*(y1*y2+x1*x2)*x3*y3)=(d*y1*x2*y2*y2*y2*y2*x3*y3*y3 - d*y1*x2*x2*y2*y2*y2*y3+d*y1*x2*x2*y2*y2*y2*y3*y3*y3 - d*y1*x2*x2*x2*y2*y2*x3 - d*y1*x2*x2*x2*y2*y2*x3*x3*x3 - d*y1*x2*x2*x2*x2*y2*x3*x3*y3 - d*x1*x2*y2*y2*y2*y2*x3*x3*y3 - d*x1*x2*x2*y2*y2*y2*x3 - d*x1*x2*x2*y2*y2*y2*x3*x3*x3 - d*x1*x2*x2*x2*y2*y2*y3+d*x1*x2*x2*x2*y2*y2*y3*y3*y3+d*x1*x2*x2*x2*x2*y2*x3*y3*y3 - d*d*y1*x2*x2*x2*y2*y2*y2*y2*x3*y3*y3 - d*d*y1*x2*x2*x2*x2*y2*y2*y2*x3*x3*y3+d*d*x1*x2*x2*x2*y2*y2*y2*y2*x3*x3*y3+d*d*x1*x2*x2*x2*x2*y2*y2*y2*x3*y3*y3)*(y1*y1 - x1*x1 - (1+d*x1*x1*y1*y1))+(d*y1*x2*y2*y2*x3*y3*y3+d*y1*x2*x2*y2*x3*x3*y3 - d*y1*y1*y1*x2*y2*y2*x3*y3*y3 - d*y1*y1*y1*x2*x2*y2*x3*x3*y3 - d*x1*x2*y2*y2*x3*x3*y3 - d*x1*x2*x2*y2*x3*y3*y3 - d*x1*y1*y1*x2*y2*y2*y3+d*x1*y1*y1*x2*y2*y2*y3*y3*y3+d*x1*y1*y1*x2*x2*y2*x3+d*x1*y1*y1*x2*x2*y2*x3*x3*x3+d*x1*x1*y1*x2*y2*y2*x3+d*x1*x1*y1*x2*y2*y2*x3*x3*x3 - d*x1*x1*y1*x2*x2*y2*y3+d*x1*x1*y1*x2*x2*y2*y3*y3*y3 - d*x1*x1*x1*x2*y2*y2*x3*x3*y3 - d*x1*x1*x1*x2*x2*y2*x3*y3*y3)*(y2*y2 - x2*x2 - (1+d*x2*x2*y2*y2))+(d*y1*x2*x2*y2*y2*y2*y3+d*y1*x2*x2*x2*y2*y2*x3 - d*y1*y1*y1*x2*x2*y2*y2*y2*y3 - d*y1*y1*y1*x2*x2*x2*y2*y2*x3+d*x1*x2*x2*y2*y2*y2*x3+d*x1*x2*x2*x2*y2*y2*y3 - d*x1*y1*y1*x2*y2*y2*y2*y2*y3 - d*x1*y1*y1*x2*x2*x2*x2*y2*x3+d*x1*x1*y1*x2*y2*y2*y2*y2*x3+d*x1*x1*y1*x2*x2*x2*x2*y2*y3+d*x1*x1*x1*x2*x2*y2*y2*y2*x3+d*x1*x1*x1*x2*x2*x2*y2*y2*y3+d*d*x1*y1*y1*x2*x2*x2*y2*y2*y2*y2*y3 - d*d*x1*y1*y1*x2*x2*x2*x2*y2*y2*y2*x3 - d*d*x1*x1*y1*x2*x2*x2*y2*y2*y2*y2*x3+d*d*x1*x1*y1*x2*x2*x2*x2*y2*y2*y2*y3)*(y3*y3 - x3*x3 - (1+d*x3*x3*y3*y3)):=by
  clear h1 h2 h3
  grind
 have a1:(y1*y1 - x1*x1 - (1+d*x1*x1*y1*y1))=0:=by clear h2 h3 e;grind
 have a2:(y2*y2 - x2*x2 - (1+d*x2*x2*y2*y2))=0:=by clear h1 h3 e;grind
 have a3:(y3*y3 - x3*x3 - (1+d*x3*x3*y3*y3))=0:=by clear h1 h2 e;grind
 rw[a1,a2,a3] at e
 clear h1 h2 h3 a1 a2 a3
 generalize((y1*y2+x1*x2)*(1+d*x1*x2*y1*y2)*y3+(x1*y2+x2*y1)*(1 - d*x1*x2*y1*y2)*x3)*((1+d*x2*x3*y2*y3)*(1 - d*x2*x3*y2*y3) - d*(x2*y3+x3*y2)*(y2*y3+x2*x3)*x1*y1)=L at *
 generalize(y1*(y2*y3+x2*x3)*(1+d*x2*x3*y2*y3)+x1*(x2*y3+x3*y2)*(1 - d*x2*x3*y2*y3))*((1+d*x1*x2*y1*y2)*(1 - d*x1*x2*y1*y2) - d*(x1*y2+x2*y1)*(y1*y2+x1*x2)*x3*y3)=R at *
 grind
theorem closed{d x1 y1 x2 y2 x3 y3:(Fin q_)}(h1:y1*y1 - x1*x1=1+d*x1*x1*y1*y1)(h2:y2*y2 - x2*x2=1+d*x2*x2*y2*y2)(h3:y3*y3 - x3*x3=1+d*x3*x3*y3*y3) :
  ((y1*y2+x1*x2)*(1+d*x1*x2*y1*y2)*(y1*y2+x1*x2)*(1+d*x1*x2*y1*y2) - (x1*y2+x2*y1)*(1 - d*x1*x2*y1*y2)*(x1*y2+x2*y1)*(1 - d*x1*x2*y1*y2))=((1+d*x1*x2*y1*y2)*(1 - d*x1*x2*y1*y2)*(1+d*x1*x2*y1*y2)*(1 - d*x1*x2*y1*y2)+d*(x1*y2+x2*y1)*(x1*y2+x2*y1)*(y1*y2+x1*x2)*(y1*y2+x1*x2)):=by
 have e:((y1*y2+x1*x2)*(1+d*x1*x2*y1*y2)*(y1*y2+x1*x2)*(1+d*x1*x2*y1*y2) - (x1*y2+x2*y1)*(1 - d*x1*x2*y1*y2)*(x1*y2+x2*y1)*(1 - d*x1*x2*y1*y2)) - ((1+d*x1*x2*y1*y2)*(1 - d*x1*x2*y1*y2)*(1+d*x1*x2*y1*y2)*(1 - d*x1*x2*y1*y2)+d*(x1*y2+x2*y1)*(x1*y2+x2*y1)*(y1*y2+x1*x2)*(y1*y2+x1*x2))=(y2*y2*y2*y2 - 4*x2*x2*y2*y2+2*x2*x2*y2*y2*y2*y2+x2*x2*x2*x2 - 2*x2*x2*x2*x2*y2*y2 - 2*d*x2*x2*y2*y2 - 2*d*x2*x2*x2*x2*y2*y2*y2*y2 - d*y1*y1*x2*x2*y2*y2*y2*y2+d*y1*y1*x2*x2*x2*x2*y2*y2+d*x1*x1*x2*x2*y2*y2*y2*y2 - d*x1*x1*x2*x2*x2*x2*y2*y2 - d*d*x2*x2*x2*x2*y2*y2*y2*y2+d*d*y1*y1*x2*x2*x2*x2*y2*y2*y2*y2 - d*d*x1*x1*x2*x2*x2*x2*y2*y2*y2*y2+d*d*d*x1*x1*y1*y1*x2*x2*x2*x2*y2*y2*y2*y2)*(y1*y1 - x1*x1 - (1+d*x1*x1*y1*y1))+(1+y2*y2 - x2*x2+2*x2*x2*y2*y2 - y1*y1*y2*y2+y1*y1*x2*x2 - 2*y1*y1*x2*x2*y2*y2+x1*x1*y2*y2 - x1*x1*x2*x2+2*x1*x1*x2*x2*y2*y2+d*x2*x2*y2*y2 - 2*d*y1*y1*x2*x2*y2*y2+d*y1*y1*y1*y1*x2*x2*y2*y2+2*d*x1*x1*x2*x2*y2*y2+d*x1*x1*x1*x1*x2*x2*y2*y2)*(y2*y2 - x2*x2 - (1+d*x2*x2*y2*y2))+((0:(Fin q_)))*(y3*y3 - x3*x3 - (1+d*x3*x3*y3*y3)):=by
  clear h1 h2 h3
  grind
 have a1:(y1*y1 - x1*x1 - (1+d*x1*x1*y1*y1))=0:=by clear h2 h3 e;grind
 have a2:(y2*y2 - x2*x2 - (1+d*x2*x2*y2*y2))=0:=by clear h1 h3 e;grind
 have a3:(y3*y3 - x3*x3 - (1+d*x3*x3*y3*y3))=0:=by clear h1 h2 e;grind
 rw[a1,a2,a3] at e
 clear h1 h2 h3 a1 a2 a3
 generalize((y1*y2+x1*x2)*(1+d*x1*x2*y1*y2)*(y1*y2+x1*x2)*(1+d*x1*x2*y1*y2) - (x1*y2+x2*y1)*(1 - d*x1*x2*y1*y2)*(x1*y2+x2*y1)*(1 - d*x1*x2*y1*y2))=L at *
 generalize((1+d*x1*x2*y1*y2)*(1 - d*x1*x2*y1*y2)*(1+d*x1*x2*y1*y2)*(1 - d*x1*x2*y1*y2)+d*(x1*y2+x2*y1)*(x1*y2+x2*y1)*(y1*y2+x1*x2)*(y1*y2+x1*x2))=R at *
 grind
structure Crv (q_:Nat) [NeZero q_] where
 d:(Fin q_)
 i:(Fin q_)
 inv:(Fin q_)→(Fin q_)
 hi:i*i+1=0
 hinv:∀a,a≠0→a*inv a=1
 two:(1:(Fin q_))+1≠0
 nonsq:∀u v:(Fin q_),d*v*v=u*u→v=0
namespace Crv
variable (C:Crv q_)
include C
theorem one_ne:(1:(Fin q_))≠0:=fun h=>C.two (by rw[h];grind)
theorem mul_ne{a b:(Fin q_)}(ha:a≠0)(hb:b≠0):a*b≠0:=by
 intro h
 apply hb
 have h1:=C.hinv a ha
 have:b=C.inv a*(a*b):=by grind
 rw[this,h];grind
theorem cancel{a b c:(Fin q_)}(hc:c≠0)(h:a*c=b*c):a=b:=by
 have h1:=C.hinv c hc
 have:a=(a*c)*C.inv c:=by grind
 rw[this,h];grind
def On(x y:(Fin q_)):Prop:=y*y - x*x=1+C.d*x*x*y*y
theorem never{s x1 y1 x2 y2:(Fin q_)}(h1:C.On x1 y1)(h2:C.On x2 y2)(hs:s*s=1):s*(C.d*x1*x2*y1*y2)≠1:=by
 intro ht
 have hi:=C.hi
 unfold On at h1 h2
 have e1:C.d*(x1*y1*(y2+C.i*x2))*(x1*y1*(y2+C.i*x2))=(y1+s*C.i*x1)*(y1+s*C.i*x1):=by
  generalize C.d=d at *
  generalize C.i=i at *
  grind
 have e2:C.d*(x1*y1*(y2 - C.i*x2))*(x1*y1*(y2 - C.i*x2))=(y1 - s*C.i*x1)*(y1 - s*C.i*x1):=by
  generalize C.d=d at *
  generalize C.i=i at *
  grind
 have z1:=C.nonsq _ _ e1
 have z2:=C.nonsq _ _ e2
 apply C.two
 generalize C.d=d at *
 generalize C.i=i at *
 clear e1 e2 h1 h2 hi
 grind
theorem dne{x1 y1 x2 y2:(Fin q_)}(h1:C.On x1 y1)(h2:C.On x2 y2):1+C.d*x1*x2*y1*y2≠0:=by
 intro h
 have:=C.never (s:=-1) h1 h2 (by grind)
 apply this
 generalize C.d=d at *
 clear h1 h2
 grind
theorem ene{x1 y1 x2 y2:(Fin q_)}(h1:C.On x1 y1)(h2:C.On x2 y2):1 - C.d*x1*x2*y1*y2≠0:=by
 intro h
 have:=C.never (s:=1) h1 h2 (by grind)
 apply this
 generalize C.d=d at *
 clear h1 h2
 grind
def ax(x1 y1 x2 y2:(Fin q_)):(Fin q_):=(x1*y2+x2*y1)*C.inv (1+C.d*x1*x2*y1*y2)
def ay(x1 y1 x2 y2:(Fin q_)):(Fin q_):=(y1*y2+x1*x2)*C.inv (1 - C.d*x1*x2*y1*y2)
theorem ax_mul{x1 y1 x2 y2:(Fin q_)}(h1:C.On x1 y1)(h2:C.On x2 y2):C.ax x1 y1 x2 y2*(1+C.d*x1*x2*y1*y2)=x1*y2+x2*y1:=by
 have:=C.hinv _ (C.dne h1 h2)
 unfold ax
 generalize C.inv (1+C.d*x1*x2*y1*y2)=v at *
 generalize 1+C.d*x1*x2*y1*y2=e at *
 clear h1 h2
 grind
theorem ay_mul{x1 y1 x2 y2:(Fin q_)}(h1:C.On x1 y1)(h2:C.On x2 y2):C.ay x1 y1 x2 y2*(1 - C.d*x1*x2*y1*y2)=y1*y2+x1*x2:=by
 have:=C.hinv _ (C.ene h1 h2)
 unfold ay
 generalize C.inv (1 - C.d*x1*x2*y1*y2)=v at *
 generalize 1 - C.d*x1*x2*y1*y2=e at *
 clear h1 h2
 grind
omit C in
theorem scale1{A B D E X Y x y d R:(Fin q_)}(hA:A*D=X)(hB:B*E=Y)(hR:R*(1+d*A*x*B*y)=A*y+x*B) :
  R*(D*E+d*X*Y*x*y)=X*E*y+x*Y*D∧D*E*(1+d*A*x*B*y)=D*E+d*X*Y*x*y:=by
 subst hA hB
 constructor <;> grind
omit C in
theorem scale2{A B D E X Y x y d R:(Fin q_)}(hA:A*D=X)(hB:B*E=Y)(hR:R*(1 - d*A*x*B*y)=B*y+A*x) :
  R*(D*E - d*X*Y*x*y)=Y*D*y+X*E*x∧D*E*(1 - d*A*x*B*y)=D*E - d*X*Y*x*y:=by
 subst hA hB
 constructor <;> grind
omit C in
theorem scale3{A B D E X Y x y d R:(Fin q_)}(hA:A*D=X)(hB:B*E=Y)(hR:R*(1+d*x*A*y*B)=x*B+A*y) :
  R*(D*E+d*X*Y*x*y)=x*Y*D+X*E*y∧D*E*(1+d*x*A*y*B)=D*E+d*X*Y*x*y:=by
 subst hA hB
 constructor <;> grind
omit C in
theorem scale4{A B D E X Y x y d R:(Fin q_)}(hA:A*D=X)(hB:B*E=Y)(hR:R*(1 - d*x*A*y*B)=y*B+x*A) :
  R*(D*E - d*X*Y*x*y)=y*Y*D+x*X*E∧D*E*(1 - d*x*A*y*B)=D*E - d*X*Y*x*y:=by
 subst hA hB
 constructor <;> grind
theorem fit{R1 R2 M1 M2 N1 N2:(Fin q_)}(m1:M1≠0)(m2:M2≠0)(h1:R1*M1=N1)(h2:R2*M2=N2)(h:N1*M2=N2*M1):R1=R2:=by
 refine C.cancel (C.mul_ne m1 m2) ?_
 subst h1 h2
 grind
theorem on_add{x1 y1 x2 y2:(Fin q_)}(h1:C.On x1 y1)(h2:C.On x2 y2):C.On (C.ax x1 y1 x2 y2) (C.ay x1 y1 x2 y2):=by
 have hD:=C.dne h1 h2
 have hE:=C.ene h1 h2
 have hx:=C.ax_mul h1 h2
 have hy:=C.ay_mul h1 h2
 have hc:=closed (x3:=(0:(Fin q_))) (y3:=1) h1 h2 (by generalize C.d=d;clear h1 h2 hD hE hx hy;grind)
 unfold On
 refine C.cancel (C.mul_ne (C.mul_ne hD hE) (C.mul_ne hD hE)) ?_
 generalize C.ax x1 y1 x2 y2=R at *
 generalize C.ay x1 y1 x2 y2=S at *
 generalize 1+C.d*x1*x2*y1*y2=D at *
 generalize 1 - C.d*x1*x2*y1*y2=E at *
 generalize x1*y2+x2*y1=X at *
 generalize y1*y2+x1*x2=Y at *
 generalize C.d=d at *
 clear h1 h2 hD hE
 subst hx hy
 grind
theorem ax_comm(x1 y1 x2 y2:(Fin q_)):C.ax x1 y1 x2 y2=C.ax x2 y2 x1 y1:=by
 unfold ax
 rw[show C.d*x1*x2*y1*y2=C.d*x2*x1*y2*y1 by generalize C.d=d;grind,show x1*y2+x2*y1=x2*y1+x1*y2 by grind]
theorem ay_comm(x1 y1 x2 y2:(Fin q_)):C.ay x1 y1 x2 y2=C.ay x2 y2 x1 y1:=by
 unfold ay
 rw[show C.d*x1*x2*y1*y2=C.d*x2*x1*y2*y1 by generalize C.d=d;grind,show y1*y2+x1*x2=y2*y1+x2*x1 by grind]
theorem ax_assoc{x1 y1 x2 y2 x3 y3:(Fin q_)}(h1:C.On x1 y1)(h2:C.On x2 y2)(h3:C.On x3 y3) :
  C.ax (C.ax x1 y1 x2 y2) (C.ay x1 y1 x2 y2) x3 y3=C.ax x1 y1 (C.ax x2 y2 x3 y3) (C.ay x2 y2 x3 y3):=by
 have o12:=C.on_add h1 h2
 have o23:=C.on_add h2 h3
 have a:=scale1 (C.ax_mul h1 h2) (C.ay_mul h1 h2) (C.ax_mul o12 h3)
 have b:=scale3 (C.ax_mul h2 h3) (C.ay_mul h2 h3) (C.ax_mul h1 o23)
 have m1:=C.mul_ne (C.mul_ne (C.dne h1 h2) (C.ene h1 h2)) (C.dne o12 h3)
 have m2:=C.mul_ne (C.mul_ne (C.dne h2 h3) (C.ene h2 h3)) (C.dne h1 o23)
 rw[a.2] at m1
 rw[b.2] at m2
 exact C.fit m1 m2 a.1 b.1 (assoc_x h1 h2 h3)
theorem ay_assoc{x1 y1 x2 y2 x3 y3:(Fin q_)}(h1:C.On x1 y1)(h2:C.On x2 y2)(h3:C.On x3 y3) :
  C.ay (C.ax x1 y1 x2 y2) (C.ay x1 y1 x2 y2) x3 y3=C.ay x1 y1 (C.ax x2 y2 x3 y3) (C.ay x2 y2 x3 y3):=by
 have o12:=C.on_add h1 h2
 have o23:=C.on_add h2 h3
 have a:=scale2 (C.ax_mul h1 h2) (C.ay_mul h1 h2) (C.ay_mul o12 h3)
 have b:=scale4 (C.ax_mul h2 h3) (C.ay_mul h2 h3) (C.ay_mul h1 o23)
 have m1:=C.mul_ne (C.mul_ne (C.dne h1 h2) (C.ene h1 h2)) (C.ene o12 h3)
 have m2:=C.mul_ne (C.mul_ne (C.dne h2 h3) (C.ene h2 h3)) (C.ene h1 o23)
 rw[a.2] at m1
 rw[b.2] at m2
 exact C.fit m1 m2 a.1 b.1 (assoc_y h1 h2 h3)
theorem on_zero:C.On 0 1:=by unfold On;generalize C.d=d;grind
theorem on_neg{x y:(Fin q_)}(h:C.On x y):C.On (-x) y:=by unfold On at *;generalize C.d=d at *;grind
theorem add_zero{x y:(Fin q_)}(h:C.On x y):C.ax x y 0 1=x∧C.ay x y 0 1=y:=by
 have hx:=C.ax_mul h C.on_zero
 have hy:=C.ay_mul h C.on_zero
 generalize C.ax x y 0 1=R at *
 generalize C.ay x y 0 1=S at *
 generalize C.d=d at *
 clear h
 constructor <;> grind
theorem add_neg{x y:(Fin q_)}(h:C.On x y):C.ax x y (-x) y=0∧C.ay x y (-x) y=1:=by
 have hx:=C.ax_mul h (C.on_neg h)
 have hy:=C.ay_mul h (C.on_neg h)
 have hD:=C.dne h (C.on_neg h)
 have hE:=C.ene h (C.on_neg h)
 constructor
 ·refine C.cancel hD ?_
  rw[hx]
  generalize 1+C.d*x*-x*y*y=D
  grind
 ·refine C.cancel hE ?_
  rw[hy]
  unfold On at h
  generalize C.d=d at *
  grind
end Crv
end Go.Proofs.YtoibhnpmemnlfaaGreatDoor.Ed
namespace Go.Proofs.YtoibhnpmemnlfaaGreatDoor.Ed
variable {q_:Nat} [NeZero q_]
structure Pt (q_:Nat) where
 X:(Fin q_)
 Y:(Fin q_)
 Z:(Fin q_)
 T:(Fin q_)
namespace Crv
variable (C:Crv q_)
structure Rep (p:Pt q_) (x y:(Fin q_)):Prop where
 hz:p.Z≠0
 hx:p.X=x*p.Z
 hy:p.Y=y*p.Z
 ht:p.T=x*y*p.Z
 on:C.On x y
def quo(a b u v:(Fin q_)):Pt q_:=⟨a*v,u*b,b*v,a*u⟩
def add(p q:Pt q_):Pt q_ :=
 quo ((p.Y+p.X)*(q.Y+q.X) - (p.Y - p.X)*(q.Y - q.X)) ((p.Z+p.Z)*q.Z+p.T*(C.d+C.d)*q.T) ((p.Y+p.X)*(q.Y+q.X)+(p.Y - p.X)*(q.Y - q.X)) ((p.Z+p.Z)*q.Z - p.T*(C.d+C.d)*q.T)
def twice(p:Pt q_):Pt q_ :=
 quo (p.X*p.Y+p.X*p.Y) (p.Y*p.Y - p.X*p.X) (p.Y*p.Y+p.X*p.X) (p.Z*p.Z+p.Z*p.Z - (p.Y*p.Y - p.X*p.X))
def neg(p:Pt q_):Pt q_:=⟨-p.X,p.Y,p.Z,-p.T⟩
def Held(p:Pt q_):Prop:=p.Z≠0∧p.T*p.Z=p.X*p.Y∧p.Y*p.Y - p.X*p.X=p.Z*p.Z+C.d*(p.T*p.T)
def Alike(p q:Pt q_):Prop:=p.X*q.Z=q.X*p.Z∧p.Y*q.Z=q.Y*p.Z
variable {C}
theorem rep_quo{a b u v x y k D E:(Fin q_)}(hk:k≠0)(hD:D≠0)(hE:E≠0)(ha:a=k*(x*D))(hb:b=k*D)(hu:u=k*(y*E))(hv:v=k*E)(on:C.On x y):C.Rep (quo a b u v) x y:=by
 subst ha hb hu hv
 refine⟨C.mul_ne (C.mul_ne hk hD) (C.mul_ne hk hE),?_,?_,?_,on⟩ <;> (unfold quo;dsimp only;clear on hk hD hE;grind)
theorem rep_add{p q:Pt q_}{x1 y1 x2 y2:(Fin q_)}(hp:C.Rep p x1 y1)(hq:C.Rep q x2 y2):C.Rep (C.add p q) (C.ax x1 y1 x2 y2) (C.ay x1 y1 x2 y2):=by
 obtain⟨X,Y,Z,T⟩:=p
 obtain⟨X',Y',Z',T'⟩:=q
 obtain⟨z,hx,hy,ht,on⟩:=hp
 obtain⟨z',hx',hy',ht',on'⟩:=hq
 dsimp only at *
 subst hx hy ht hx' hy' ht'
 have h2:=C.mul_ne C.two (C.mul_ne z z')
 refine rep_quo h2 (C.dne on on') (C.ene on on') ?_ ?_ ?_ ?_ (C.on_add on on')
 ·rw[C.ax_mul on on'];clear on on' z z' h2;dsimp only;grind
 ·clear on on' z z' h2;dsimp only;generalize C.d=d;grind
 ·rw[C.ay_mul on on'];clear on on' z z' h2;dsimp only;grind
 ·clear on on' z z' h2;dsimp only;generalize C.d=d;grind
theorem rep_twice{p:Pt q_}{x y:(Fin q_)}(hp:C.Rep p x y):C.Rep (twice p) (C.ax x y x y) (C.ay x y x y):=by
 obtain⟨X,Y,Z,T⟩:=p
 obtain⟨z,hx,hy,ht,on⟩:=hp
 dsimp only at *
 subst hx hy ht
 have hc:=on
 unfold On at hc
 refine rep_quo (C.mul_ne z z) (C.dne on on) (C.ene on on) ?_ ?_ ?_ ?_ (C.on_add on on)
 ·rw[C.ax_mul on on];clear on z hc;dsimp only;grind
 ·clear on z;dsimp only;generalize C.d=d at *;grind
 ·rw[C.ay_mul on on];clear on z hc;dsimp only;grind
 ·clear on z;dsimp only;generalize C.d=d at *;grind
theorem rep_neg{p:Pt q_}{x y:(Fin q_)}(hp:C.Rep p x y):C.Rep (neg p) (-x) y:=by
 obtain⟨X,Y,Z,T⟩:=p
 obtain⟨z,hx,hy,ht,on⟩:=hp
 dsimp only at *
 subst hx hy ht
 refine⟨z,?_,rfl,?_,C.on_neg on⟩ <;> (unfold neg;dsimp only;grind)
theorem rep_held{p:Pt q_}{x y:(Fin q_)}(hp:C.Rep p x y):C.Held p:=by
 obtain⟨X,Y,Z,T⟩:=p
 obtain⟨z,hx,hy,ht,on⟩:=hp
 dsimp only at *
 subst hx hy ht
 unfold On at on
 refine⟨z,?_,?_⟩ <;> (dsimp only;generalize C.d=d at *;clear z;grind)
theorem held_rep{p:Pt q_}(h:C.Held p):C.Rep p (p.X*C.inv p.Z) (p.Y*C.inv p.Z):=by
 obtain⟨X,Y,Z,T⟩:=p
 obtain⟨z,h1,h2⟩:=h
 dsimp only at *
 have hv:=C.hinv Z z
 generalize C.inv Z=v at *
 have ex:X=X*v*Z:=by clear h1 h2;grind
 have ey:Y=Y*v*Z:=by clear h1 h2;grind
 have et:T=X*v*(Y*v)*Z:=by clear ex ey h2;grind
 refine⟨z,ex,ey,et,?_⟩
 unfold On
 generalize C.d=d at *
 clear z ex ey et
 grind
theorem alike_of{p q:Pt q_}{x y:(Fin q_)}(hp:C.Rep p x y)(hq:C.Rep q x y):Alike p q:=by
 obtain⟨z,hx,hy,ht,on⟩:=hp
 obtain⟨z',hx',hy',ht',on'⟩:=hq
 unfold Alike
 rw[hx,hy,hx',hy']
 constructor <;> grind
theorem of_alike{p q:Pt q_}{x y x' y':(Fin q_)}(hp:C.Rep p x y)(hq:C.Rep q x' y')(h:Alike p q):x=x'∧y=y':=by
 obtain⟨z,hx,hy,ht,on⟩:=hp
 obtain⟨z',hx',hy',ht',on'⟩:=hq
 obtain⟨h1,h2⟩:=h
 rw[hx,hx'] at h1
 rw[hy,hy'] at h2
 exact⟨C.cancel (C.mul_ne z z') (by clear h2;grind),C.cancel (C.mul_ne z z') (by clear h1;grind)⟩
end Crv
end Go.Proofs.YtoibhnpmemnlfaaGreatDoor.Ed
namespace Go.Proofs.YtoibhnpmemnlfaaGreatDoor.Ed
variable {q_:Nat} [NeZero q_]
namespace Crv
variable (C:Crv q_)
variable {C}
theorem rep_x{p:Pt q_}{x y:(Fin q_)}(hp:C.Rep p x y):p.X*C.inv p.Z=x∧p.Y*C.inv p.Z=y:=by
 have hv:=C.hinv _ hp.hz
 rw[hp.hx,hp.hy]
 generalize C.inv p.Z=v at *
 constructor <;> grind
theorem rep_flat{x y:(Fin q_)}(h:C.On x y):C.Rep ⟨x,y,1,x*y⟩ x y :=
 ⟨C.one_ne,by dsimp only;grind,by dsimp only;grind,by dsimp only;grind,h⟩
theorem on_iff{x y:(Fin q_)}:C.On x y↔x*x*(C.d*(y*y)+1)=y*y - 1:=by
 unfold On
 generalize C.d=d
 constructor <;> intro h <;> grind
theorem den_ne(y:(Fin q_)):C.d*(y*y)+1≠0:=by
 intro h
 have hi:=C.hi
 have e:C.d*y*y=C.i*C.i:=by
  generalize C.d=d at *
  generalize C.i=i at *
  grind
 have hy:=C.nonsq _ _ e
 apply C.one_ne
 rw[hy] at h
 generalize C.d=d at *
 clear e hi hy
 grind
theorem same_y{x x' y:(Fin q_)}(h:C.On x y)(h':C.On x' y):x=x'∨x=-x':=by
 have a:=on_iff.1 h
 have b:=on_iff.1 h'
 have e:x*x=x'*x':=C.cancel (C.den_ne y) (a.trans b.symm)
 by_cases h0:x - x'=0
 ·left;clear a b e;grind
 ·right
  have:(x+x')*(x - x')=0:=by clear a b h0;grind
  have z:x+x'=0:=C.cancel h0 (by rw[this];clear a b e this;grind)
  clear a b e this
  grind
end Crv
end Go.Proofs.YtoibhnpmemnlfaaGreatDoor.Ed
namespace Go.Proofs.YtoibhnpmemnlfaaGreatDoor.Ed
open Go.Proofs.YtoibhnpmemnlfaaGreatDoor.Fd
section
variable {q_:Nat} [NeZero q_]
theorem Crv.add_assoc_(a b c:Fin q_):a+b+c=a+(b+c):=by grind
theorem Crv.add_comm_(a b:Fin q_):a+b=b+a:=by grind
theorem Crv.add_zero_(a:Fin q_):a+0=a:=by grind
theorem Crv.zero_mul_(a:Fin q_):0*a=0:=by grind
theorem Crv.mul_one_(a:Fin q_):a*1=a:=by grind
theorem Crv.neg_add_(a:Fin q_) : -a+a=0:=by grind
theorem Crv.sub_eq_(a b:Fin q_):a - b=a+-b:=by grind
end
instance:NeZero pp:=⟨by have:=pp_pos;omega⟩
abbrev F:Type:=Fin pp
theorem Semiring.add_assoc(a b c:F):a+b+c=a+(b+c):=Crv.add_assoc_ a b c
theorem Semiring.add_comm(a b:F):a+b=b+a:=Crv.add_comm_ a b
theorem Semiring.add_zero(a:F):a+0=a:=Crv.add_zero_ a
theorem Semiring.zero_mul(a:F):0*a=0:=Crv.zero_mul_ a
theorem Semiring.mul_one(a:F):a*1=a:=Crv.mul_one_ a
theorem Ring.neg_add_cancel(a:F) : -a+a=0:=Crv.neg_add_ a
theorem Ring.sub_eq_add_neg(a b:F):a - b=a+-b:=Crv.sub_eq_ a b
def fe(n:Nat):F:=Fin.ofNat pp n
def fv(a:F):Nat:=Fin.val (n:=pp) a
theorem fv_lt(a:F):fv a < pp:=Fin.isLt (n:=pp) a
theorem fv_fe(n:Nat):fv (fe n)=n%pp:=rfl
theorem fe_fv(a:F):fe (fv a)=a:=Fin.eq_of_val_eq (n:=pp) (Nat.mod_eq_of_lt (fv_lt a))
theorem fe_eq{a b:Nat}:fe a=fe b↔cg a b:=by
 constructor
 ·intro h
  have:=congrArg fv h
  rwa [fv_fe,fv_fe] at this
 ·intro h
  exact Fin.eq_of_val_eq (n:=pp) h
theorem fe_add(a b:Nat):fe (a+b)=fe a+fe b:=Fin.eq_of_val_eq (n:=pp) (Nat.add_mod a b pp)
theorem fe_mul(a b:Nat):fe (a*b)=fe a*fe b:=Fin.eq_of_val_eq (n:=pp) (Nat.mul_mod a b pp)
theorem fe_zero:fe 0=0:=Fin.eq_of_val_eq (n:=pp) rfl
theorem fe_one:fe 1=1:=Fin.eq_of_val_eq (n:=pp) rfl
def dn:Nat:=37095705934669439343138083508754565189542113879843219016388785533085940283555
def hp:Nat:=28948022309329048855892746252171976963317496166410141009864396001978282409974
theorem hp_eq:hp+hp=pp - 1:=by rw[pp_eq];decide
set_option maxRecDepth 10000 in
theorem dn_euler:dn ^ hp%pp=pp - 1 :=
 pow_eq (s:=255) (by decide +kernel) pp_one (by rw[pp_eq];decide +kernel)
theorem never_gen{p h a n m:Nat}(hpr:Pr p)(hh:h+h=p - 1)(he:a ^ h%p=p - 1)(h2:2 < p)(hc:(a*n*n)%p=(m*m)%p):n%p=0:=by
 by_cases hn:n%p=0
 ·exact hn
 ·exfalso
  have h1:(a*n*n) ^ h%p=(m*m) ^ h%p:=by rw[Nat.pow_mod,hc,←Nat.pow_mod]
  have e1:(a*n*n) ^ h=a ^ h*n ^ (p - 1):=by
   rw[Nat.mul_pow,Nat.mul_pow,Nat.mul_assoc,←Nat.pow_add,hh]
  have e2:(m*m) ^ h=m ^ (p - 1):=by rw[Nat.mul_pow,←Nat.pow_add,hh]
  rw[e1,e2,Nat.mul_mod,he,hpr.fermat n hn,Nat.mul_one,Nat.mod_eq_of_lt (show p - 1 < p by omega)] at h1
  by_cases hm:m%p=0
  ·rw[Nat.pow_mod,hm,Nat.zero_pow (by omega),Nat.zero_mod] at h1
   omega
  ·rw[hpr.fermat m hm] at h1
   omega
theorem dn_never{n m:Nat}(h:cg (dn*n*n) (m*m)):n%pp=0 :=
 never_gen pp_prime hp_eq dn_euler (by rw[pp_eq];decide) h
theorem inv_gen{p n:Nat}(hpr:Pr p)(h2:2 < p)(hn:n%p≠0):(n*n ^ (p - 2))%p=1:=by
 have:=hpr.fermat n hn
 rwa [show p - 1=(p - 2)+1 by omega,Nat.pow_succ,Nat.mul_comm] at this
def cv:Crv pp where
 d:=fe dn
 i:=fe im
 inv a:=fe (fv a ^ (pp - 2))
 hi:=by
  rw[←fe_mul,←fe_one,←fe_add,←fe_zero,fe_eq]
  exact(cg.add im_sq (cg.rfl' 1)).trans (by unfold cg m1;rw[pp_eq])
 hinv:=by
  intro a ha
  have hn:fv a%pp≠0:=by
   intro h
   apply ha
   rw[←fe_fv a,←fe_zero,fe_eq]
   exact h
  have e:a*fe (fv a ^ (pp - 2))=fe (fv a*fv a ^ (pp - 2)):=by rw[fe_mul,fe_fv]
  rw[e,←fe_one,fe_eq]
  have:=inv_gen pp_prime (by rw[pp_eq];decide) hn
  show _=1%pp
  rw[Nat.mod_eq_of_lt pp_one]
  exact this
 two:=by
  rw[←fe_one,←fe_add,←fe_zero]
  intro h
  have:=fe_eq.1 h
  unfold cg at this
  rw[pp_eq] at this
  exact absurd this (by decide)
 nonsq:=by
  intro u v h
  rw[←fe_fv u,←fe_fv v,←fe_mul,←fe_mul,←fe_mul,fe_eq] at h
  rw[←fe_fv v,←fe_zero,fe_eq]
  exact dn_never h
end Go.Proofs.YtoibhnpmemnlfaaGreatDoor.Ed
namespace Go.Proofs.YtoibhnpmemnlfaaGreatDoor.Ed
open Go.Proofs.YtoibhnpmemnlfaaGreatDoor.Fd
structure G where
 x:F
 y:F
 on:cv.On x y
theorem G.same{p q:G}(hx:p.x=q.x)(hy:p.y=q.y):p=q:=by
 cases p;cases q;cases hx;cases hy;rfl
def gz:G:=⟨0,1,cv.on_zero⟩
def ga(p q:G):G:=⟨cv.ax p.x p.y q.x q.y,cv.ay p.x p.y q.x q.y,cv.on_add p.on q.on⟩
def gn(p:G):G:=⟨-p.x,p.y,cv.on_neg p.on⟩
theorem ga_comm(p q:G):ga p q=ga q p:=G.same (cv.ax_comm _ _ _ _) (cv.ay_comm _ _ _ _)
theorem ga_assoc(p q r:G):ga (ga p q) r=ga p (ga q r):=G.same (cv.ax_assoc p.on q.on r.on) (cv.ay_assoc p.on q.on r.on)
theorem ga_z(p:G):ga p gz=p:=G.same (cv.add_zero p.on).1 (cv.add_zero p.on).2
theorem z_ga(p:G):ga gz p=p:=by rw[ga_comm,ga_z]
theorem ga_n(p:G):ga p (gn p)=gz:=G.same (cv.add_neg p.on).1 (cv.add_neg p.on).2
theorem ga_left{p q r:G}(h:ga p q=ga p r):q=r:=by
 have:=congrArg (ga (gn p)) h
 rwa [←ga_assoc,←ga_assoc,ga_comm (gn p) p,ga_n,z_ga,z_ga] at this
def ti:Nat→G→G
 |0,_=>gz
 |n+1,p=>ga p (ti n p)
theorem ti_zero(p:G):ti 0 p=gz:=rfl
theorem ti_succ(n:Nat)(p:G):ti (n+1) p=ga p (ti n p):=rfl
theorem ti_one(p:G):ti 1 p=p:=by rw[ti_succ,ti_zero,ga_z]
theorem ti_add(n m:Nat)(p:G):ti (n+m) p=ga (ti n p) (ti m p):=by
 induction n with
 |zero=>rw[Nat.zero_add,ti_zero,z_ga]
 |succ n ih=>rw[Nat.succ_add,ti_succ,ti_succ,ih,ga_assoc]
theorem ti_z(n:Nat):ti n gz=gz:=by
 induction n with
 |zero=>rfl
 |succ n ih=>rw[ti_succ,ih,ga_z]
theorem ti_mul(n m:Nat)(p:G):ti (n*m) p=ti n (ti m p):=by
 induction n with
 |zero=>rw[Nat.zero_mul,ti_zero,ti_zero]
 |succ n ih=>rw[Nat.succ_mul,Nat.add_comm,ti_add,ti_succ,ih]
theorem ti_two(n:Nat)(p:G):ti (2*n) p=ga (ti n p) (ti n p):=by rw[show 2*n=n+n by omega,ti_add]
theorem ti_ga(n:Nat)(p q:G):ti n (ga p q)=ga (ti n p) (ti n q):=by
 induction n with
 |zero=>rw[ti_zero,ti_zero,ti_zero,ga_z]
 |succ n ih =>
  rw[ti_succ,ti_succ,ti_succ,ih,ga_assoc,ga_assoc]
  congr 1
  rw[←ga_assoc,←ga_assoc,ga_comm q]
theorem ti_mod{l:Nat}{p:G}(h:ti l p=gz)(n:Nat):ti (n%l) p=ti n p:=by
 conv=>rhs;rw[←Nat.div_add_mod n l,ti_add,Nat.mul_comm,ti_mul,h,ti_z,z_ga]
theorem ti_gn(n:Nat)(p:G):ti n (gn p)=gn (ti n p):=by
 refine ga_left (p:=ti n p) ?_
 rw[←ti_ga,ga_n,ga_n,ti_z]
def Has(q:Pt pp)(g:G):Prop:=cv.Rep q g.x g.y
theorem Has.add{p q:Pt pp}{g h:G}(hp:Has p g)(hq:Has q h):Has (cv.add p q) (ga g h):=Crv.rep_add hp hq
theorem Has.twice{p:Pt pp}{g:G}(hp:Has p g):Has (Crv.twice p) (ga g g):=Crv.rep_twice hp
theorem Has.neg{p:Pt pp}{g:G}(hp:Has p g):Has (Crv.neg p) (gn g):=Crv.rep_neg hp
theorem Has.held{p:Pt pp}{g:G}(hp:Has p g):cv.Held p:=Crv.rep_held hp
theorem held_has{p:Pt pp}(h:cv.Held p):∃g,Has p g:=⟨⟨_,_,(Crv.held_rep h).on⟩,Crv.held_rep h⟩
theorem has_alike{p q:Pt pp}{g h:G}(hp:Has p g)(hq:Has q h):Crv.Alike p q↔g=h:=by
 constructor
 ·intro e
  have:=Crv.of_alike hp hq e
  exact G.same this.1 this.2
 ·intro e
  subst e
  exact Crv.alike_of hp hq
end Go.Proofs.YtoibhnpmemnlfaaGreatDoor.Ed
namespace Go.Proofs.YtoibhnpmemnlfaaGreatDoor.Ed
open Go.Proofs.YtoibhnpmemnlfaaGreatDoor.Fd
theorem le_byte:∀(j:Nat) (l:List Nat),(∀x∈l,x < 256)→le l / 256 ^ j%256=l.getD j 0:=by
 intro j
 induction j with
 |zero =>
  intro l h
  cases l with
  |nil=>rfl
  |cons x l =>
   have:=h x List.mem_cons_self
   rw[Nat.pow_zero,Nat.div_one,le_cons,List.getD_cons_zero];omega
 |succ j ih =>
  intro l h
  cases l with
  |nil=>rw[le_nil,Nat.zero_div];rfl
  |cons x l =>
   have h1:=h x List.mem_cons_self
   have h2:=ih l fun y hy=>h y (List.mem_cons_of_mem _ hy)
   rw[List.getD_cons_succ,←h2,le_cons,Nat.pow_succ',←Nat.div_div_eq_div_mul,show(x+256*le l) / 256=le l by omega]
def hf(l:List Nat)(k:Nat):Nat:=l.getD (k / 2) 0 / 16 ^ (k%2)%16
theorem le_half(l:List Nat)(k:Nat)(h:∀x∈l,x < 256):le l / 16 ^ k%16=hf l k:=by
 unfold hf
 rw[←le_byte (k / 2) l h]
 have e:(16:Nat) ^ k=256 ^ (k / 2)*16 ^ (k%2):=by
  rw[show(256:Nat)=16 ^ 2 from rfl,←Nat.pow_mul,←Nat.pow_add,Nat.div_add_mod]
 rw[e,←Nat.div_div_eq_div_mul]
 generalize le l / 256 ^ (k / 2)=v
 rcases Nat.mod_two_eq_zero_or_one k with r|r <;> rw[r] <;> simp only[Nat.pow_zero,Nat.pow_one,Nat.div_one] <;> omega
theorem ti_digit(b n k:Nat)(p:G):ti (n / b ^ k) p=ga (ti b (ti (n / b ^ (k+1)) p)) (ti (n / b ^ k%b) p):=by
 rw[←ti_mul,←ti_add,Nat.pow_succ,←Nat.div_div_eq_div_mul,Nat.div_add_mod]
theorem ti_above(b n k:Nat)(h:n < b ^ k)(p:G):ti (n / b ^ k) p=gz:=by
 rw[Nat.div_eq_of_lt h];rfl
theorem ti_both(b n m k:Nat)(p q:G):ga (ti (n / b ^ k) p) (ti (m / b ^ k) q)=ga (ga (ti b (ga (ti (n / b ^ (k+1)) p) (ti (m / b ^ (k+1)) q))) (ti (n / b ^ k%b) p)) (ti (m / b ^ k%b) q):=by
 rw[ti_digit b n k p,ti_digit b m k q,ti_ga]
 generalize ti b (ti (n / b ^ (k+1)) p)=A
 generalize ti b (ti (m / b ^ (k+1)) q)=B
 generalize ti (n / b ^ k%b) p=c
 generalize ti (m / b ^ k%b) q=d
 rw[ga_assoc A c,ga_assoc A B,ga_assoc A (ga B c)]
 congr 1
 rw[←ga_assoc,ga_comm c B]
end Go.Proofs.YtoibhnpmemnlfaaGreatDoor.Ed
namespace Go.Proofs.YtoibhnpmemnlfaaGreatDoor.Ed
open Go.Proofs.YtoibhnpmemnlfaaGreatDoor.Fd
structure Q where
 X:Nat
 Y:Nat
 Z:Nat
 T:Nat
def Q.pt(q:Q):Pt pp:=⟨fe q.X,fe q.Y,fe q.Z,fe q.T⟩
def su(a b:Nat):Nat:=(a+(pp - b%pp))%pp
theorem fe_mod(a:Nat):fe (a%pp)=fe a:=fe_eq.2 (cg.mod a)
theorem fe_pp:fe pp=0:=by rw[←fe_zero,fe_eq];exact(Nat.mod_self pp).trans (Nat.zero_mod pp).symm
theorem fe_su(a b:Nat):fe (su a b)=fe a - fe b:=by
 unfold su
 rw[fe_mod,fe_add]
 have h:fe (pp - b%pp)+fe b=0:=by
  rw[←fe_mod b,←fe_add,Nat.sub_add_cancel (Nat.le_of_lt (mod_lt b)),fe_pp]
 generalize fe (pp - b%pp)=x at *
 generalize fe b=y at *
 generalize fe a=z at *
 have:x=-y:=by
  have h2:x=(x+y)+-y:=by
   rw[Semiring.add_assoc,Semiring.add_comm y,Ring.neg_add_cancel,Semiring.add_zero]
  rw[h2,h,Semiring.add_comm,Semiring.add_zero]
 rw[this,Ring.sub_eq_add_neg]
def qq(a b u v:Nat):Q:=⟨a*v%pp,u*b%pp,b*v%pp,a*u%pp⟩
theorem qq_pt(a b u v:Nat):(qq a b u v).pt=Crv.quo (fe a) (fe b) (fe u) (fe v):=by
 unfold qq Q.pt Crv.quo
 simp only[fe_mod,fe_mul]
def qt(p:Q):Q:=qq (p.X*p.Y+p.X*p.Y) (su (p.Y*p.Y) (p.X*p.X)) (p.Y*p.Y+p.X*p.X) (su (p.Z*p.Z+p.Z*p.Z) (su (p.Y*p.Y) (p.X*p.X)))
theorem qt_pt(p:Q):(qt p).pt=Crv.twice p.pt:=by
 unfold qt Crv.twice
 rw[qq_pt]
 simp only[fe_su,fe_add,fe_mul]
 rfl
def qa(p q:Q):Q :=
 qq (su ((p.Y+p.X)*(q.Y+q.X)) (su p.Y p.X*su q.Y q.X)) ((p.Z+p.Z)*q.Z+p.T*(dn+dn)*q.T) ((p.Y+p.X)*(q.Y+q.X)+su p.Y p.X*su q.Y q.X) (su ((p.Z+p.Z)*q.Z) (p.T*(dn+dn)*q.T))
theorem qa_pt(p q:Q):(qa p q).pt=cv.add p.pt q.pt:=by
 unfold qa Crv.add
 rw[qq_pt]
 simp only[fe_su,fe_add,fe_mul]
 rfl
def lp:Nat→Q→Q→Nat→Q
 |0,a,_,_=>a
 |s+1,a,g,e=>if a.X+a.Y+a.Z+a.T+g.X+g.Y+g.Z+g.T=0 then lp s (if e%2=1 then qa a g else a) (qt g) (e / 2) else lp s (if e%2=1 then qa a g else a) (qt g) (e / 2)
theorem lp_has:∀(s:Nat) (a g:Q) (e:Nat) (A P:G),e < 2 ^ s→Has a.pt A→Has g.pt P→Has (lp s a g e).pt (ga A (ti e P)):=by
 intro s
 induction s with
 |zero =>
  intro a g e A P he ha hg
  have:e=0:=by omega
  subst this
  rw[lp,ti_zero,ga_z];exact ha
 |succ s ih =>
  intro a g e A P he ha hg
  rw[lp,ite_self]
  rw[Nat.pow_succ] at he
  have hg2:Has (qt g).pt (ga P P):=by rw[qt_pt];exact hg.twice
  rcases Nat.mod_two_eq_zero_or_one e with h|h
  ·rw[if_neg (by omega)]
   have:=ih a (qt g) (e / 2) A (ga P P) (by omega) ha hg2
   rwa [ti_ga,←ti_two,show 2*(e / 2)=e by omega] at this
  ·rw[if_pos h]
   have:=ih (qa a g) (qt g) (e / 2) (ga A P) (ga P P) (by omega) (by rw[qa_pt];exact ha.add hg) hg2
   rwa [ti_ga,←ti_two,ga_assoc,←ti_succ,show 2*(e / 2)+1=e by omega] at this
def qz:Q:=⟨0,1,1,0⟩
theorem qz_has:Has qz.pt gz:=by
 have e:qz.pt=⟨0,1,1,0⟩:=by unfold qz Q.pt;simp only[fe_zero,fe_one]
 rw[e]
 refine⟨cv.one_ne,?_,?_,?_,cv.on_zero⟩
 ·show(0:F)=0*1
  rw[Semiring.zero_mul]
 ·show(1:F)=1*1
  rw[Semiring.mul_one]
 ·show(0:F)=0*1*1
  rw[Semiring.zero_mul,Semiring.zero_mul]
def qOn(q:Q):Bool:=q.Z%pp != 0 && (q.T*q.Z%pp == q.X*q.Y%pp && su (q.Y*q.Y) (q.X*q.X)%pp == (q.Z*q.Z+dn*(q.T*q.T))%pp)
theorem qOn_held{q:Q}(h:qOn q=true):cv.Held q.pt:=by
 unfold qOn at h
 simp only[Bool.and_eq_true,bne_iff_ne,beq_iff_eq] at h
 obtain⟨h1,h2,h3⟩:=h
 refine⟨?_,?_,?_⟩
 ·show fe q.Z≠0
  rw[←fe_zero]
  intro e
  exact h1 (Eq.trans (show q.Z%pp=0%pp from fe_eq.1 e) (Nat.zero_mod pp))
 ·show fe q.T*fe q.Z=fe q.X*fe q.Y
  rw[←fe_mul,←fe_mul]
  exact fe_eq.2 h2
 ·show fe q.Y*fe q.Y - fe q.X*fe q.X=fe q.Z*fe q.Z+fe dn*(fe q.T*fe q.T)
  rw[←fe_mul,←fe_mul,←fe_su,←fe_mul,←fe_mul,←fe_mul,←fe_add]
  exact fe_eq.2 h3
def qb:Q:=⟨15112221349535400772501151409588531511454012693041857206046113283949847762202,46316835694926478169428394003475163141307993866256225615783033603165251855960,1,46827403850823179245072216630277197565144205554125654976674165829533817101731⟩
theorem qb_on:qOn qb=true:=by decide +kernel
theorem qb_has:∃g,Has qb.pt g:=held_has (qOn_held qb_on)
def lq:Nat:=7237005577332262213973186563042994240857116359379907606001950938285454250989
def qZero(q:Q):Bool:=q.X%pp == 0 && q.Y%pp == q.Z%pp
theorem lq_ends:qZero (lp 253 qz qb lq)=true:=by decide +kernel
theorem qZero_is{q:Q}{g:G}(h:Has q.pt g)(hz:qZero q=true):g=gz:=by
 refine(has_alike h qz_has).1 ?_
 unfold qZero at hz
 simp only[Bool.and_eq_true,beq_iff_eq] at hz
 constructor
 ·show fe q.X*fe 1=fe 0*fe q.Z
  rw[←fe_mul,←fe_mul,fe_eq]
  show q.X*1%pp=0*q.Z%pp
  rw[Nat.mul_one,Nat.zero_mul,Nat.zero_mod,hz.1]
 ·show fe q.Y*fe 1=fe 1*fe q.Z
  rw[←fe_mul,←fe_mul,fe_eq]
  show q.Y*1%pp=1*q.Z%pp
  rw[Nat.mul_one,Nat.one_mul,hz.2]
theorem lq_base{g:G}(h:Has qb.pt g):ti lq g=gz:=by
 have:=lp_has 253 qz qb lq gz g (by decide +kernel) qz_has h
 rw[z_ga] at this
 exact qZero_is this lq_ends
end Go.Proofs.YtoibhnpmemnlfaaGreatDoor.Ed
namespace Go.Proofs.YtoibhnpmemnlfaaGreatDoor.Ed
open Go.Proofs.YtoibhnpmemnlfaaGreatDoor.Fd
def gb(g:G):Nat:=fv g.y+fv g.x%2*57896044618658097711785492504343953926634992332820282019728792003956564819968
def iz(z:Nat):Nat:=mp 255 1 z (pp - 2) pp
def en(q:Q):Nat:=q.Y*iz q.Z%pp+q.X*iz q.Z%pp%2*57896044618658097711785492504343953926634992332820282019728792003956564819968
theorem inv_iz(z:Nat):cv.inv (fe z)=fe (iz z):=by
 show fe (fv (fe z) ^ (pp - 2))=fe (iz z)
 unfold iz
 rw[mp_eq 255 1 z (pp - 2) pp (by decide +kernel) pp_one,Nat.one_mul,fe_mod,fv_fe,fe_eq]
 exact(Nat.pow_mod z (pp - 2) pp).symm
theorem en_has{q:Q}{g:G}(h:Has q.pt g):en q=gb g:=by
 have hx:fe q.X*cv.inv (fe q.Z)=g.x:=(Crv.rep_x h).1
 have hy:fe q.Y*cv.inv (fe q.Z)=g.y:=(Crv.rep_x h).2
 rw[inv_iz,←fe_mul] at hx hy
 unfold gb en
 rw[←hx,←hy,fv_fe,fv_fe]
def kz:Nat:=39325648866980652792715009169219496062012184734522019333892538943312776480336
theorem gb_key{g:G}(h:Has qb.pt g):(by_ (gb (ti kz g)) 32).take 4=[59,106,39,188]:=by
 have:=lp_has 255 qz qb kz gz g (by decide +kernel) qz_has h
 rw[z_ga] at this
 rw[←en_has this];decide +kernel
end Go.Proofs.YtoibhnpmemnlfaaGreatDoor.Ed
namespace Go.Proofs.YtoibhnpmemnlfaaGreatDoor.Ed
open Go.Proofs.YtoibhnpmemnlfaaGreatDoor.Fd
theorem fe_ng(r:Nat):fe (ng r)=- fe r:=by
 have h:ng r=su 0 r:=by unfold ng su;rw[Nat.zero_add]
 rw[h,fe_su,fe_zero,Ring.sub_eq_add_neg,Semiring.add_comm,Semiring.add_zero]
theorem fv_small{n:Nat}(h:n < pp):fv (fe n)=n:=by rw[fv_fe,Nat.mod_eq_of_lt h]
theorem read_on{y r u v:Nat}(hv:v < pp)(hu:fe u=fe y*fe y - 1)(hV:fe v=fe dn*(fe y*fe y)+1)(h:rr u v=some r):cv.On (fe r) (fe y)∧r < pp∧r%2=0:=by
 have v0:v≠0:=by
  intro e
  rw[e,fe_zero] at hV
  exact cv.den_ne (fe y) hV.symm
 obtain⟨h1,h2,h3⟩:=rr_root hv v0 h
 refine⟨Crv.on_iff.2 ?_,h1,h2⟩
 have e:=fe_eq.2 h3
 rw[fe_mul,fe_mul,hu,hV] at e
 exact e
theorem read_some{y s r u v:Nat}(hy:y < pp)(hv:v < pp)(hu:fe u=fe y*fe y - 1)(hV:fe v=fe dn*(fe y*fe y)+1)(h:rr u v=some r)(hs:s < 2)(h0:s=1→r≠0) :
  ∃g:G,g.y=fe y∧g.x=fe (if s=1 then ng r else r)∧fv g.x%2=s∧gb g=y+s*57896044618658097711785492504343953926634992332820282019728792003956564819968:=by
 obtain⟨on,hr,he⟩:=read_on hv hu hV h
 rcases(show s=0∨s=1 by omega) with rfl|rfl
 ·refine⟨⟨fe r,fe y,on⟩,rfl,?_,?_,?_⟩
  ·rw[if_neg (by decide)]
  ·rw[fv_small hr,he]
  ·show fv (fe y)+fv (fe r)%2*_=_
   rw[fv_small hy,fv_small hr,he]
 ·have hr0:=h0 rfl
  have od:ng r%2=1:=by
   rw[ng_of hr hr0]
   have:=pp_odd
   omega
  refine⟨⟨fe (ng r),fe y,by rw[fe_ng];exact cv.on_neg on⟩,rfl,?_,?_,?_⟩
  ·rw[if_pos rfl]
  ·rw[fv_small (ng_lt r),od]
  ·show fv (fe y)+fv (fe (ng r))%2*_=_
   rw[fv_small hy,fv_small (ng_lt r),od]
theorem gb_inj{g h:G}(e:gb g=gb h):g=h:=by
 have a:=fv_lt g.y
 have b:=fv_lt h.y
 have hp:pp < 57896044618658097711785492504343953926634992332820282019728792003956564819968:=by rw[pp_eq];decide
 unfold gb at e
 have c:fv g.x%2 < 2:=Nat.mod_lt _ (by decide)
 have d:fv h.x%2 < 2:=Nat.mod_lt _ (by decide)
 have hy:fv g.y=fv h.y:=by omega
 have hx:fv g.x%2=fv h.x%2:=by omega
 have ey:g.y=h.y:=by rw[←fe_fv g.y,←fe_fv h.y,hy]
 refine G.same ?_ ey
 have on:=h.on
 rw[←ey] at on
 rcases Crv.same_y g.on on with q|q
 ·exact q
 ·by_cases z:fv h.x=0
  ·have e1:h.x=0:=by rw[←fe_fv h.x,z,fe_zero]
   rw[q,e1]
   show -(0:F)=0
   rw[←fe_zero,←fe_ng,ng_zero]
  ·exfalso
   have e1:fv g.x=ng (fv h.x):=by
    rw[q]
    conv=>lhs;rw[←fe_fv h.x,←fe_ng,fv_small (ng_lt _)]
   rw[e1,ng_of (fv_lt h.x) z] at hx
   have:=pp_odd
   have:=fv_lt h.x
   omega
end Go.Proofs.YtoibhnpmemnlfaaGreatDoor.Ed
namespace Go.Proofs.YtoibhnpmemnlfaaGreatDoor.Ed
open Go.Proofs.YtoibhnpmemnlfaaGreatDoor.Fd
end Go.Proofs.YtoibhnpmemnlfaaGreatDoor.Ed
namespace Go.Proofs.YtoibhnpmemnlfaaGreatDoor.Ed
open Go.Proofs.YtoibhnpmemnlfaaGreatDoor.Fd
end Go.Proofs.YtoibhnpmemnlfaaGreatDoor.Ed
namespace Go.Proofs.YtoibhnpmemnlfaaGreatDoor.Ed
open Go.Proofs.YtoibhnpmemnlfaaGreatDoor.Fd
theorem sign_own{g:G}(hl:ti lq g=gz)(k n r:Nat):ga (ti k (gn (ti n g))) (ti ((k*n+r)%lq) g)=ti r g:=by
 rw[ti_mod hl,ti_add,ti_mul,ti_gn,←ga_assoc,ga_comm (gn _),ga_n,z_ga]
theorem ti_table(p:G)(i:Nat):ga (ti i p) p=ti (i+1) p:=by rw[ti_succ,ga_comm]
theorem sum_one(n k:Nat)(p:G)(l:List Nat)(hl:∀x∈l,x < 256)(hn:le l=n):ga (ti 16 (ti (n / 16 ^ (k+1)) p)) (ti (hf l k) p)=ti (n / 16 ^ k) p:=by
 rw[ti_digit 16 n k p,←le_half l k hl,hn]
theorem sum_two(n m k:Nat)(p q:G)(l j:List Nat)(hl:∀x∈l,x < 256)(hj:∀x∈j,x < 256)(hn:le l=n)(hm:le j=m) :
  ga (ga (ti 16 (ga (ti (n / 16 ^ (k+1)) p) (ti (m / 16 ^ (k+1)) q))) (ti (hf l k) p)) (ti (hf j k) q)=ga (ti (n / 16 ^ k) p) (ti (m / 16 ^ k) q):=by
 rw[ti_both 16 n m k p q,←le_half l k hl,←le_half j k hj,hn,hm]
theorem half_above(l:List Nat)(k:Nat)(h:l.length≤k / 2):hf l k=0:=by
 unfold hf
 rw[List.getD_eq_getElem?_getD,List.getElem?_eq_none h]
 simp
theorem start_above(l:List Nat)(hl:∀x∈l,x < 256)(k:Nat)(hk:2*l.length≤k)(p:G):ti (le l / 16 ^ k) p=gz:=by
 apply ti_above
 refine Nat.lt_of_lt_of_le (le_lt l hl) ?_
 rw[show(256:Nat)=16 ^ 2 from rfl,←Nat.pow_mul]
 exact Nat.pow_le_pow_right (by decide) hk
end Go.Proofs.YtoibhnpmemnlfaaGreatDoor.Ed
