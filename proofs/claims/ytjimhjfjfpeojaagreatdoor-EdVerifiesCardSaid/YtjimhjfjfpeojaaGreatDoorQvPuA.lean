/- Joined texts. -/
set_option maxRecDepth 100000
set_option maxHeartbeats 8000000

set_option linter.unusedVariables false
namespace Go.Proofs.YtjimhjfjfpeojaaGreatDoor.Fd
def ch:Nat→Nat→Nat
 |_,0=>1
 |0,_+1=>0
 |n+1,k+1=>ch n k+ch n (k+1)
theorem Z7t(n:Nat):ch n 0=1:=by cases n <;> rfl
theorem Zbh:∀(n k:Nat),n < k→ch n k=0:=by
 intro n
 induction n with
 |zero=>intro k h;cases k with
  |zero=>omega
  |succ k=>rfl
 |succ n ih=>intro k h;cases k with
  |zero=>omega
  |succ k=>rw[ch,ih k (by omega),ih (k+1) (by omega)]
theorem Zl6(n:Nat):ch n n=1:=by
 induction n with
 |zero=>rfl
 |succ n ih=>rw[ch,ih,Zbh n (n+1) (by omega)]
theorem Zoe:∀(n k:Nat),(k+1)*ch (n+1) (k+1)=(n+1)*ch n k:=by
 intro n
 induction n with
 |zero =>
  intro k
  cases k with
  |zero=>rfl
  |succ k=>simp[ch]
 |succ n ih =>
  intro k
  cases k with
  |zero =>
   have:=ih 0
   simp only[Z7t,Nat.zero_add,Nat.one_mul,Nat.mul_one] at this ⊢
   rw[ch,Z7t,this];omega
  |succ k =>
   have h1:=ih k
   have h2:=ih (k+1)
   have e:ch (n+1) (k+1)=ch n k+ch n (k+1):=rfl
   rw[show ch (n+1+1) (k+1+1)=ch (n+1) (k+1)+ch (n+1) (k+1+1) from rfl,Nat.mul_add,h2]
   rw[show(k+1+1)*ch (n+1) (k+1)=(k+1)*ch (n+1) (k+1)+ch (n+1) (k+1) by rw[Nat.add_mul,Nat.one_mul],h1,e]
   simp only[Nat.add_mul,Nat.mul_add,Nat.one_mul]
   omega
def bs(a n:Nat):Nat→Nat
 |0=>0
 |m+1=>bs a n m+ch n m*a ^ m
theorem Zl7(a n:Nat):∀m,bs a (n+1) (m+1)=bs a n (m+1)+a*bs a n m:=by
 intro m
 induction m with
 |zero=>simp[bs,Z7t]
 |succ m ih =>
  rw[bs,ih,bs,bs,show ch (n+1) (m+1)=ch n m+ch n (m+1) from rfl]
  rw[show a*(bs a n m+ch n m*a ^ m)=a*bs a n m+ch n m*a ^ (m+1) by rw[Nat.mul_add,Nat.pow_succ,Nat.mul_left_comm,Nat.mul_comm (a ^ m) a]]
  rw[show(bs a n (m+1))=bs a n m+ch n m*a ^ m from rfl,Nat.add_mul]
  omega
theorem Zof(a:Nat):∀n,bs a n (n+1)=(a+1) ^ n:=by
 intro n
 induction n with
 |zero=>simp[bs,ch]
 |succ n ih =>
  rw[Zl7,bs,ih,Zbh n (n+1) (by omega),Nat.zero_mul,Nat.pow_succ (a+1) n,Nat.mul_add,Nat.mul_comm a]
  omega
def Pr(p:Nat):Prop:=1 < p∧∀d,d∣p→d=1∨d=p
theorem Pr.euclid{p a b:Nat}(hp:Pr p)(h:p∣a*b):p∣a∨p∣b:=by
 rcases hp.2 _ (Nat.gcd_dvd_left p a) with h1|h1
 ·exact .inr (Nat.Coprime.dvd_of_dvd_mul_left h1 h)
 ·exact .inl (by rw[←h1];exact Nat.gcd_dvd_right p a)
theorem Pr.ch{p:Nat}(hp:Pr p)(k:Nat)(h0:0 < k)(hk:k < p):p∣ch p k:=by
 obtain⟨n,rfl⟩:∃n,p=n+1:=⟨p - 1,by have:=hp.1;omega⟩
 obtain⟨j,rfl⟩:∃j,k=j+1:=⟨k - 1,by omega⟩
 rcases hp.euclid (a:=j+1) (b:=Fd.ch (n+1) (j+1)) ⟨Fd.ch n j,Zoe n j⟩ with h|h
 ·exact absurd (Nat.le_of_dvd (by omega) h) (by omega)
 ·exact h
theorem Zog{p:Nat}(hp:Pr p)(a:Nat):∀m,0 < m→m≤p→bs a p m%p=1%p:=by
 intro m
 induction m with
 |zero=>intro h;omega
 |succ m ih =>
  intro _ hm
  by_cases h0:m=0
  ·subst h0;simp[bs,Z7t]
  ·rw[bs,Nat.add_mod,ih (by omega) (by omega),Nat.mul_mod,Nat.mod_eq_zero_of_dvd (hp.ch m (by omega) (by omega))]
   simp
theorem Pr.pow_self{p:Nat}(hp:Pr p)(a:Nat):a ^ p%p=a%p:=by
 induction a with
 |zero=>rw[Nat.zero_pow (by have:=hp.1;omega)]
 |succ a ih =>
  rw[←Zof,bs,Zl6,Nat.one_mul,Nat.add_mod,ih,Zog hp a p (by have:=hp.1;omega) (Nat.le_refl _),←Nat.add_mod,Nat.add_comm]
theorem Pr.fermat {p : Nat} (hp : Pr p) (a : Nat) (ha : a % p ≠ 0) : a ^ (p - 1) % p = 1 := by
  have h := hp.pow_self a
  obtain ⟨n, rfl⟩ : ∃ n, p = n + 1 := ⟨p - 1, by have := hp.1; omega⟩
  have h1 := hp.1
  rw [Nat.add_sub_cancel]
  have hge : a ≤ a ^ (n + 1) := by
    rcases Nat.eq_zero_or_pos a with h0 | h0
    · subst h0; exact Nat.zero_le _
    · calc a = a ^ 1 := (Nat.pow_one a).symm
        _ ≤ a ^ (n + 1) := Nat.pow_le_pow_right h0 (by omega)
  have hd : (n + 1) ∣ a ^ (n + 1) - a := Nat.dvd_of_mod_eq_zero (Nat.sub_mod_eq_zero_of_mod_eq h)
  have e : a ^ (n + 1) - a = a * (a ^ n - 1) := by rw [Nat.mul_sub, Nat.mul_one, Nat.pow_succ, Nat.mul_comm]
  rw [e] at hd
  rcases hp.euclid hd with h2 | h2
  · exact absurd (Nat.mod_eq_zero_of_dvd h2) ha
  · have hpos : 1 ≤ a ^ n := by
      rcases Nat.eq_zero_or_pos a with h | h
      · subst h; exact absurd (Nat.zero_mod _) ha
      · exact Nat.pow_pos h
    obtain ⟨c, hc⟩ := h2
    rw [show a ^ n = 1 + (n + 1) * c by omega, Nat.add_mul_mod_self_left, Nat.mod_eq_of_lt h1]
theorem Z5y{d g a:Nat}(hd:1 < d)(h:g ^ a%d=1)(k:Nat):g ^ (a*k)%d=1:=by
 rw[Nat.pow_mul,Nat.pow_mod,h,Nat.one_pow,Nat.mod_eq_of_lt hd]
theorem Za5{d g a b:Nat}(hd:1 < d)(ha:g ^ a%d=1)(hb:g ^ b%d=1):g ^ (b%a)%d=1:=by
 have e:g ^ b%d=g ^ (b%a)%d:=by
  conv=>lhs;rw[←Nat.div_add_mod b a,Nat.pow_add,Nat.mul_mod,Z5y hd ha,Nat.one_mul,Nat.mod_mod]
 rw[←e,hb]
theorem Za6{d g:Nat}(hd:1 < d):∀(a b:Nat),g ^ a%d=1→g ^ b%d=1→g ^ (Nat.gcd a b)%d=1:=by
 intro a b
 induction a,b using Nat.gcd.induction with
 |H0 b=>intro _ hb;rwa [Nat.gcd_zero_left]
 |H1 a b h ih =>
  intro ha hb
  rw[Nat.gcd_rec]
  exact ih (Za5 hd ha hb) ha
theorem Zoh{n q m d g:Nat}(h1n:1 < n)(hq:Pr q)(hn:n - 1=q*m)(hd:Pr d)(hdn:d∣n)(h1:g ^ (n - 1)%n=1)(h2:Nat.gcd (g ^ m%n+(n - 1)) n=1):q∣d - 1:=by
 have hd1:=hd.1
 have e1:g ^ (n - 1)%d=1:=by
  rw[←Nat.mod_mod_of_dvd _ hdn,h1,Nat.mod_eq_of_lt hd1]
 have hg:g%d≠0:=by
  intro h0
  rw[Nat.pow_mod,h0,Nat.zero_pow (by omega),Nat.zero_mod] at e1
  cases e1
 have e2:=hd.fermat g hg
 have e3:=Za6 hd1 _ _ e1 e2
 rcases hq.2 _ (Nat.gcd_dvd_left q (Nat.gcd (n - 1) (d - 1))) with hc|hc
 ·exfalso
  have h3:Nat.gcd (n - 1) (d - 1)∣q*m:=hn▸Nat.gcd_dvd_left _ _
  have h4:Nat.gcd (n - 1) (d - 1)∣m:=Nat.Coprime.dvd_of_dvd_mul_left (by rw[Nat.Coprime,Nat.gcd_comm];exact hc) h3
  obtain⟨k,hk⟩:=h4
  have e4:g ^ m%d=1:=by rw[hk];exact Z5y hd1 e3 k
  have h5:d∣g ^ m%n+(n - 1):=by
   apply Nat.dvd_of_mod_eq_zero
   rw[Nat.add_mod,Nat.mod_mod_of_dvd _ hdn,e4]
   obtain⟨c,rfl⟩:=hdn
   have h0:(1+(d*c - 1))%d=0:=by
    rw[show 1+(d*c - 1)=d*c by omega,Nat.mul_mod_right]
   rw[←h0]
   conv=>rhs;rw[Nat.add_mod,Nat.mod_eq_of_lt hd1]
  have h6:=Nat.dvd_gcd h5 hdn
  rw[h2] at h6
  exact absurd (Nat.dvd_one.1 h6) (by omega)
 ·rw[←hc]
  exact Nat.dvd_trans (Nat.gcd_dvd_right _ _) (Nat.gcd_dvd_right _ _)
theorem Z5z : ∀ (n : Nat), 1 < n → ∃ d, Pr d ∧ d ∣ n := by
  intro n
  induction n using Nat.strongRecOn with
  | _ n ih =>
    intro h1
    by_cases hp : Pr n
    · exact ⟨n, hp, Nat.dvd_refl n⟩
    · have : ∃ d, d ∣ n ∧ d ≠ 1 ∧ d ≠ n := by
        apply Classical.byContradiction
        intro hno
        exact hp ⟨h1, fun d hd => by
          apply Classical.byContradiction
          intro hd2
          exact hno ⟨d, hd, fun h => hd2 (.inl h), fun h => hd2 (.inr h)⟩⟩
      obtain ⟨d, hd, hd1, hdn⟩ := this
      have hle := Nat.le_of_dvd (by omega) hd
      have hpos : 0 < d := Nat.pos_of_dvd_of_pos hd (by omega)
      obtain ⟨e, he, hed⟩ := ih d (by omega) (by omega)
      exact ⟨e, he, Nat.dvd_trans hed hd⟩
theorem Zbi{n:Nat}(h1:1 < n)(h:∀d,Pr d→d∣n→n < d*d):Pr n:=by
 refine⟨h1,fun e he=>?_⟩
 obtain⟨f,rfl⟩:=he
 by_cases he1:e=1
 ·exact .inl he1
 ·by_cases hf1:f=1
  ·exact .inr (by rw[hf1,Nat.mul_one])
  ·exfalso
   have he0:0 < e:=Nat.pos_of_ne_zero (by rintro rfl;omega)
   have hf0:0 < f:=Nat.pos_of_ne_zero (by rintro rfl;omega)
   obtain⟨d,hd,hde⟩:=Z5z e (by omega)
   obtain⟨d',hd',hdf⟩:=Z5z f (by omega)
   have g1:=h d hd (Nat.dvd_trans hde (Nat.dvd_mul_right _ _))
   have g2:=h d' hd' (Nat.dvd_trans hdf (Nat.dvd_mul_left _ _))
   have l1:=Nat.le_of_dvd he0 hde
   have l2:=Nat.le_of_dvd hf0 hdf
   have m:=Nat.mul_le_mul l1 l2
   rcases Nat.le_total d d' with hh|hh
   ·have:=Nat.mul_le_mul_left d hh;omega
   ·have:=Nat.mul_le_mul_right d' hh;omega
theorem Za7{n q r m k g f:Nat}(h1:1 < n)(hq:Pr q)(hr:r=1∨(Pr r∧r≠q∧n - 1=r*k∧f ^ (n - 1)%n=1∧Nat.gcd (f ^ k%n+(n - 1)) n=1))(hn:n - 1=q*m)
  (hg:g ^ (n - 1)%n=1) (hg2:Nat.gcd (g ^ m%n+(n - 1)) n=1) (hF:n≤(q*r)*(q*r)):Pr n:=by
 refine Zbi h1 fun d hd hdn=>?_
 have a1:=Zoh h1 hq hn hd hdn hg hg2
 have key:q*r∣d - 1:=by
  rcases hr with rfl|⟨hr,hne,hk,hf,hf2⟩
  ·rwa [Nat.mul_one]
  ·have a2:=Zoh h1 hr hk hd hdn hf hf2
   refine Nat.Coprime.mul_dvd_of_dvd_of_dvd ?_ a1 a2
   rcases hq.2 _ (Nat.gcd_dvd_left q r) with h|h
   ·exact h
   ·have h2:q∣r:=h▸Nat.gcd_dvd_right q r
    rcases hr.2 _ h2 with h3|h3
    ·have:=hq.1;omega
    ·exact absurd h3.symm hne
 have hd1:=hd.1
 have:=Nat.le_of_dvd (by omega) key
 have h3:q*r < d:=by omega
 exact Nat.lt_of_le_of_lt hF (Nat.mul_lt_mul'' h3 h3)
def mp:Nat→Nat→Nat→Nat→Nat→Nat
 |0,acc,_,_,_=>acc
 |s+1,acc,g,e,n=>if e=0 then acc else mp s (if e%2=1 then acc*g%n else acc) (g*g%n) (e / 2) n
theorem Zoi : ∀ (s acc g e n : Nat), e < 2 ^ s → acc < n → mp s acc g e n = acc * g ^ e % n := by
  intro s
  induction s with
  | zero => intro acc g e n he ha; have : e = 0 := by omega
            subst this; rw [mp, Nat.pow_zero, Nat.mul_one, Nat.mod_eq_of_lt ha]
  | succ s ih =>
    intro acc g e n he ha
    rw [mp]
    by_cases h0 : e = 0
    · subst h0; rw [if_pos rfl, Nat.pow_zero, Nat.mul_one, Nat.mod_eq_of_lt ha]
    · rw [if_neg h0]
      have hn : 0 < n := by omega
      rw [Nat.pow_succ] at he
      have hsq : (g * g % n) ^ (e / 2) % n = g ^ (e / 2 * 2) % n := by
        rw [← Nat.pow_mod, Nat.mul_comm (e / 2) 2, Nat.pow_mul, Nat.pow_two]
      rcases Nat.mod_two_eq_zero_or_one e with h | h
      · rw [if_neg (by omega), ih _ _ _ _ (by omega) ha, Nat.mul_mod, hsq, ← Nat.mul_mod, show e / 2 * 2 = e by omega]
      · rw [if_pos h, ih _ _ _ _ (by omega) (Nat.mod_lt _ hn), Nat.mul_mod, hsq, Nat.mod_mod, ← Nat.mul_mod, Nat.mul_assoc, ← Nat.pow_succ', show (e / 2 * 2).succ = e by omega]
theorem Z71{s g e n x:Nat}(he:e < 2 ^ s)(hn:1 < n)(h:mp s 1 g e n=x):g ^ e%n=x:=by
 rw[←h,Zoi s 1 g e n he hn,Nat.one_mul]
def nd:Nat→Nat→Nat→Bool
 |0,_,_=>true
 |s+1,i,n=>if n%i=0 then false else nd s (i+1) n
theorem Zru:∀(s i n:Nat),nd s i n=true→∀d,i≤d→d < i+s→¬d∣n:=by
 intro s
 induction s with
 |zero=>intro i n _ d h1 h2;omega
 |succ s ih =>
  intro i n h d h1 h2 hd
  rw[nd] at h
  split at h
  ·cases h
  ·rename_i hne
   by_cases e:d=i
   ·subst e;exact hne (Nat.mod_eq_zero_of_dvd hd)
   ·exact ih (i+1) n h d (by omega) (by omega) hd
theorem Z2y{n s:Nat}(h1:1 < n)(hs:n < (s+2)*(s+2))(h:nd s 2 n=true):Pr n:=by
 refine Zbi h1 fun d hd hdn=>?_
 rcases Nat.lt_or_ge d (s+2) with h2|h2
 ·exact absurd hdn (Zru s 2 n h d hd.1 (by omega))
 ·exact Nat.lt_of_lt_of_le hs (Nat.mul_le_mul h2 h2)
theorem cert{n q r m k g f s:Nat}(h1:1 < n)(hs:n < 2 ^ s)(hq:Pr q)(hn:n - 1=q*m)(hg:mp s 1 g (n - 1) n=1)(hg2:Nat.gcd (mp s 1 g m n+(n - 1)) n=1)
  (hr:r=1∨(Pr r∧r≠q∧n - 1=r*k∧mp s 1 f (n - 1) n=1∧Nat.gcd (mp s 1 f k n+(n - 1)) n=1)) (hF:n≤(q*r)*(q*r)):Pr n:=by
 have le_of:∀ {a b:Nat},Pr a→n - 1=a*b→b < 2 ^ s:=fun{a b} ha hb=>by
  have:=Nat.mul_le_mul_right b (Nat.le_of_lt ha.1)
  omega
 have e1:g ^ (n - 1)%n=1:=Z71 (by omega) h1 hg
 have e2:g ^ m%n=mp s 1 g m n:=Z71 (le_of hq hn) h1 rfl
 refine Za7 (q:=q) (r:=r) (m:=m) (k:=k) (g:=g) (f:=f) h1 hq ?_ hn e1 (by rw[e2];exact hg2) hF
 rcases hr with hr|⟨hr,hne,hk,hf,hf2⟩
 ·exact .inl hr
 ·refine .inr ⟨hr,hne,hk,Z71 (by omega) h1 hf,?_⟩
  rw[Z71 (le_of hr hk) h1 rfl]
  exact hf2
theorem Zcn:Pr 8574133:=Z2y (s:=2928) (by decide) (by decide) (by decide +kernel)
theorem pr_7:Pr 7:=Z2y (s:=2) (by decide) (by decide) (by decide +kernel)
theorem Z8n:Pr 1919519569386763 :=
 cert (q:=8574133) (r:=7) (m:=223873314) (k:=274217081340966) (g:=2) (f:=2) (s:=52) (by decide +kernel) (by decide +kernel) Zcn (by decide +kernel) (by decide +kernel) (by decide +kernel)
  (.inr ⟨pr_7,by decide,by decide +kernel,by decide +kernel,by decide +kernel⟩) (by decide +kernel)
theorem Zho:Pr 75707:=Z2y (s:=275) (by decide) (by decide) (by decide +kernel)
theorem Z8o:Pr 75445702479781427272750846543864801 :=
 cert (q:=1919519569386763) (r:=75707) (m:=39304471641247389600) (k:=996548568557483816196003626400) (g:=2) (f:=2) (s:=117) (by decide +kernel) (by decide +kernel) Z8n (by decide +kernel) (by decide +kernel) (by decide +kernel)
  (.inr ⟨Zho,by decide,by decide +kernel,by decide +kernel,by decide +kernel⟩) (by decide +kernel)
theorem Zoj:Pr 353:=Z2y (s:=18) (by decide) (by decide) (by decide +kernel)
theorem Z8p:Pr 74058212732561358302231226437062788676166966415465897661863160754340907 :=
 cert (q:=75445702479781427272750846543864801) (r:=353) (m:=981609426360740691344999861639072106) (k:=209796636636151156663544550813209033076960244803019540118592523383402) (g:=2) (f:=2) (s:=237) (by decide +kernel) (by decide +kernel) Z8o (by decide +kernel) (by decide +kernel) (by decide +kernel)
  (.inr ⟨Zoj,by decide,by decide +kernel,by decide +kernel,by decide +kernel⟩) (by decide +kernel)
theorem Z8q:Pr 57896044618658097711785492504343953926634992332820282019728792003956564819949 :=
 cert (q:=74058212732561358302231226437062788676166966415465897661863160754340907) (r:=1) (m:=781764) (k:=1) (g:=2) (f:=1) (s:=256) (by decide +kernel) (by decide +kernel) Z8p (by decide +kernel) (by decide +kernel) (by decide +kernel)
  (.inl rfl) (by decide +kernel)
def pp:Nat:=57896044618658097711785492504343953926634992332820282019728792003956564819949
theorem Z1b:pp=57896044618658097711785492504343953926634992332820282019728792003956564819949:=rfl
theorem Z7u:Pr pp:=Z8q
theorem Z1y:0 < pp:=by decide
theorem Z19:1 < pp:=by decide
attribute [irreducible] pp
structure E5 where
 a:Nat
 b:Nat
 c:Nat
 d:Nat
 e:Nat
namespace E5
def ok(x:E5):Prop:=x.a < 18446744073709551616∧x.b < 18446744073709551616∧x.c < 18446744073709551616∧x.d < 18446744073709551616∧x.e < 18446744073709551616
def val(x:E5):Nat:=x.a+2251799813685248*x.b+5070602400912917605986812821504*x.c+11417981541647679048466287755595961091061972992*x.d+25711008708143844408671393477458601640355247900524685364822016*x.e
def low(x:E5):Prop:=x.a < 2251799813685248∧x.b < 2251799813685248∧x.c < 2251799813685248∧x.d < 2251799813685248∧x.e < 2251799813685248
def light(x:E5):Prop:=x.a < 2251799813947392∧x.b < 2251799813947392∧x.c < 2251799813947392∧x.d < 2251799813947392∧x.e < 2251799813947392
def sum(x:E5):Nat:=x.a+x.b+x.c+x.d+x.e
def carry(x:E5):E5:=⟨x.a%2251799813685248+19*(x.e / 2251799813685248),x.b%2251799813685248+x.a / 2251799813685248,x.c%2251799813685248+x.b / 2251799813685248,x.d%2251799813685248+x.c / 2251799813685248,x.e%2251799813685248+x.d / 2251799813685248⟩
theorem low.light{x:E5}(h:x.low):x.light:=by unfold low at h;unfold E5.light;omega
theorem light.ok{x:E5}(h:x.light):x.ok:=by unfold light at h;unfold E5.ok;omega
theorem carry_light{x:E5}(h:x.ok):x.carry.light:=by
 unfold ok at h;unfold light carry;simp only;omega
theorem carry_val(x:E5):x.carry.val%pp=x.val%pp:=by
 have:x.val=x.carry.val+pp*(x.e / 2251799813685248):=by
  rw[Z1b];unfold carry val;simp only;omega
 rw[this,Nat.add_mul_mod_self_left]
theorem carry_sum{x:E5}(h:¬x.low):x.carry.sum < x.sum:=by
 unfold low at h;unfold carry sum;simp only;omega
end E5
def el(n:Nat):E5:=⟨n%2251799813685248,n / 2251799813685248%2251799813685248,n / 5070602400912917605986812821504%2251799813685248,n / 11417981541647679048466287755595961091061972992%2251799813685248,n / 25711008708143844408671393477458601640355247900524685364822016⟩
theorem Z11(n:Nat):(el n).val=n:=by
 unfold el E5.val;simp only;omega
theorem Z8r{n:Nat}(h:n < pp):(el n).low:=by
 rw[Z1b] at h;unfold el E5.low;simp only;omega
theorem Z20{n:Nat}(h:n < pp):(el n).ok:=(Z8r h).light.ok
theorem Zrv{x:E5}(h:x.low):x=el x.val:=by
 obtain⟨a,b,c,d,e⟩:=x
 unfold E5.low at h;unfold el E5.val;simp only at h ⊢
 simp only[E5.mk.injEq]
 omega
theorem Zjw{n m:Nat}(h:el n=el m):n=m:=by rw[←Z11 n,h,Z11]
theorem mod_lt(n:Nat):n%pp < pp:=Nat.mod_lt _ Z1y
theorem Z8s{x:E5}(h:x.low)(hn:¬(2251799813685229≤x.a∧x.b=2251799813685247∧x.c=2251799813685247∧x.d=2251799813685247∧x.e=2251799813685247)):x=el (x.val%pp):=by
 have:x.val < pp:=by rw[Z1b];unfold E5.low at h;unfold E5.val;omega
 rw[Nat.mod_eq_of_lt this];exact Zrv h
theorem Ze6{x:E5}(h:x.low)(hn:2251799813685229≤x.a∧x.b=2251799813685247∧x.c=2251799813685247∧x.d=2251799813685247∧x.e=2251799813685247):(⟨x.a - 2251799813685229,0,0,0,0⟩:E5)=el (x.val%pp):=by
 have e:x.val=(x.a - 2251799813685229)+pp:=by rw[Z1b];unfold E5.val;omega
 have l:x.a - 2251799813685229 < pp:=by rw[Z1b];unfold E5.low at h;omega
 rw[e,Nat.add_mod_right,Nat.mod_eq_of_lt l]
 unfold E5.low at h;unfold el;simp only[E5.mk.injEq];omega
namespace E5
def add(x y:E5):E5:=⟨x.a+y.a,x.b+y.b,x.c+y.c,x.d+y.d,x.e+y.e⟩
def sub(x y:E5):E5:=⟨x.a+(4503599627370458 - y.a),x.b+(4503599627370494 - y.b),x.c+(4503599627370494 - y.c),x.d+(4503599627370494 - y.d),x.e+(4503599627370494 - y.e)⟩
theorem add_val(x y:E5):(x.add y).val=x.val+y.val:=by unfold add val;simp only;omega
theorem sub_val{x y:E5}(h:y.light):(x.sub y).val+y.val=x.val+2*pp:=by rw[Z1b];unfold light at h;unfold sub val;simp only;omega
theorem add_ok{x y:E5}(hx:x.light)(hy:y.light):(x.add y).ok:=by unfold light at hx hy;unfold add ok;simp only;omega
theorem sub_ok{x y:E5}(hx:x.light)(hy:y.light):(x.sub y).ok:=by unfold light at hx hy;unfold sub ok;simp only;omega
def mul (x y : E5) : E5 :=
  ⟨x.a * y.a + x.b * (19 * y.e) + x.c * (19 * y.d) + x.d * (19 * y.c) + x.e * (19 * y.b),
   x.a * y.b + x.b * y.a + x.c * (19 * y.e) + x.d * (19 * y.d) + x.e * (19 * y.c),
   x.a * y.c + x.b * y.b + x.c * y.a + x.d * (19 * y.e) + x.e * (19 * y.d),
   x.a * y.d + x.b * y.c + x.c * y.b + x.d * y.a + x.e * (19 * y.e),
   x.a * y.e + x.b * y.d + x.c * y.c + x.d * y.b + x.e * y.a⟩
def sqr (x : E5) : E5 :=
  ⟨x.a * x.a + 2 * x.b * (19 * x.e) + 2 * x.c * (19 * x.d),
   2 * x.a * x.b + 2 * x.c * (19 * x.e) + x.d * (19 * x.d),
   2 * x.a * x.c + x.b * x.b + 2 * x.d * (19 * x.e),
   2 * x.a * x.d + 2 * x.b * x.c + x.e * (19 * x.e),
   2 * x.a * x.e + 2 * x.b * x.d + x.c * x.c⟩
theorem mul_val(x y:E5):(x.mul y).val%pp=x.val*y.val%pp:=by
 have:x.val*y.val=(x.mul y).val+pp*((x.b*y.e+x.c*y.d+x.d*y.c+x.e*y.b)+2251799813685248*(x.c*y.e+x.d*y.d+x.e*y.c)+5070602400912917605986812821504*(x.d*y.e+x.e*y.d)+11417981541647679048466287755595961091061972992*(x.e*y.e)):=by
  rw[Z1b];unfold mul val;simp only;grind
 rw[this,Nat.add_mul_mod_self_left]
theorem sqr_mul(x:E5):x.sqr=x.mul x:=by
 unfold sqr mul;simp only[E5.mk.injEq];grind
def nar(x:E5):E5:=⟨x.a%2251799813685248+19*(x.e / 2251799813685248),x.b%2251799813685248+x.a / 2251799813685248,x.c%2251799813685248+x.b / 2251799813685248,x.d%2251799813685248+x.c / 2251799813685248,x.e%2251799813685248+x.d / 2251799813685248⟩
def wide(x:E5):Prop:=x.a < 2 ^ 109∧x.b < 2 ^ 109∧x.c < 2 ^ 109∧x.d < 2 ^ 109∧x.e < 2 ^ 109
theorem nar_ok{x:E5}(h:x.wide):x.nar.ok:=by unfold wide at h;unfold nar ok;simp only;omega
end E5
theorem Zjx{a b A B:Nat}(ha:a < A)(hb:b < B):a*b≤A*B:=Nat.mul_le_mul (Nat.le_of_lt ha) (Nat.le_of_lt hb)
theorem E5.mul_wide{x y:E5}(hx:x.light)(hy:y.light):(x.mul y).wide:=by
 have k:∀ {p q:Nat},p < 2251799813947392→q < 2251799813947392→p*q≤5070602402093534910166696361361+4503599627370496*4503599627370496 / 4503599627370496*262144∧p*(19*q)≤19*2251799813947392*2251799813947392:=fun{p q} hp hq=>by
  have h:=Zjx hp hq
  refine⟨Nat.le_trans h (by decide),?_⟩
  have:=Zjx (show p < 2251799813947392 from hp) (show 19*q < 19*2251799813947392 by omega)
  exact Nat.le_trans this (by decide)
 obtain⟨h1,h2,h3,h4,h5⟩:=hx
 obtain⟨g1,g2,g3,g4,g5⟩:=hy
 have k11:=k h1 g1;have k12:=k h1 g2;have k13:=k h1 g3;have k14:=k h1 g4;have k15:=k h1 g5
 have k21:=k h2 g1;have k22:=k h2 g2;have k23:=k h2 g3;have k24:=k h2 g4;have k25:=k h2 g5
 have k31:=k h3 g1;have k32:=k h3 g2;have k33:=k h3 g3;have k34:=k h3 g4;have k35:=k h3 g5
 have k41:=k h4 g1;have k42:=k h4 g2;have k43:=k h4 g3;have k44:=k h4 g4;have k45:=k h4 g5
 have k51:=k h5 g1;have k52:=k h5 g2;have k53:=k h5 g3;have k54:=k h5 g4;have k55:=k h5 g5
 unfold mul wide;simp only
 generalize x.a*y.a=m11 at *;generalize x.a*y.b=m12 at *;generalize x.a*y.c=m13 at *;generalize x.a*y.d=m14 at *;generalize x.a*y.e=m15 at *
 generalize x.b*y.a=m21 at *;generalize x.b*y.b=m22 at *;generalize x.b*y.c=m23 at *;generalize x.b*y.d=m24 at *
 generalize x.c*y.a=m31 at *;generalize x.c*y.b=m32 at *;generalize x.c*y.c=m33 at *
 generalize x.d*y.a=m41 at *;generalize x.d*y.b=m42 at *
 generalize x.e*y.a=m51 at *
 omega
def le(l:List Nat):Nat:=l.foldr (fun x a=>x+256*a) 0
theorem le_nil:le []=0:=rfl
theorem Z1i(x:Nat)(l:List Nat):le (x :: l)=x+256*le l:=rfl
theorem Z2l(a b:List Nat):le (a ++ b)=le a+256 ^ a.length*le b:=by
 induction a with
 |nil=>simp[le_nil]
 |cons x a ih=>rw[List.cons_append,Z1i,ih,Z1i,List.length_cons,Nat.pow_succ',Nat.mul_add,←Nat.add_assoc,←Nat.mul_assoc]
theorem Zco(l:List Nat)(h:∀x∈l,x < 256):le l < 256 ^ l.length:=by
 induction l with
 |nil=>decide
 |cons x l ih =>
  have h1:=h x List.mem_cons_self
  have h2:=ih fun y hy=>h y (List.mem_cons_of_mem _ hy)
  rw[Z1i,List.length_cons,Nat.pow_succ];omega
theorem Ze7(l:List Nat)(n:Nat)(h:∀x∈l,x < 256)(hl:l.length≤n):le l < 256 ^ n:=Nat.lt_of_lt_of_le (Zco l h) (Nat.pow_le_pow_right (by decide) hl)
theorem Z3p(l:List Nat)(k:Nat):le l=le (l.take k)+256 ^ k*le (l.drop k):=by
 conv=>lhs;rw[←List.take_append_drop k l,Z2l]
 rcases Nat.lt_or_ge l.length k with h|h
 ·rw[List.drop_of_length_le (by omega)];simp[le_nil]
 ·rw[List.length_take,Nat.min_eq_left h]
def wo(l:List Nat)(j:Nat):Nat:=le ((l.drop (8*j)).take 8)
def wl(l:List Nat)(n:Nat):List Nat:=(List.range n).map (wo l)
theorem Ze8(l:List Nat)(j:Nat)(h:∀x∈l,x < 256):wo l j < 18446744073709551616 :=
 Ze7 _ 8 (fun x hx=>h x (List.mem_of_mem_drop (List.mem_of_mem_take hx))) (by rw[List.length_take];omega)
theorem wl_get?(l:List Nat)(n j:Nat)(hj:j < n):(wl l n)[j]?=some (wo l j):=by
 simp[wl,hj]
theorem Zl8(l:List Nat)(k x j:Nat)(h:l[k]?=some x):wo (l.take (k+1)) j=if j=k / 8 then wo (l.take k) j+x*256 ^ (k%8) else wo (l.take k) j:=by
 have hk:k < l.length:=(List.getElem?_eq_some_iff.1 h).1
 have e:l.take (k+1)=l.take k ++ [x]:=by rw[List.take_add_one,h];rfl
 have hl:(l.take k).length=k:=by rw[List.length_take];omega
 unfold wo
 rw[e]
 by_cases h1:j=k / 8
 ·rw[if_pos h1,List.drop_append_of_le_length (by omega)]
  have hlen:((l.take k).drop (8*j)).length=k%8:=by rw[List.length_drop,hl];omega
  generalize(l.take k).drop (8*j)=A at *
  have h8:k%8 < 8:=Nat.mod_lt _ (by decide)
  rw[List.take_of_length_le (l:=A ++ [x]) (by rw[List.length_append,hlen];simp;omega),List.take_of_length_le (l:=A) (by omega),Z2l,hlen]
  simp[Z1i,le_nil,Nat.mul_comm]
 ·rw[if_neg h1]
  rcases Nat.lt_or_ge j (k / 8) with h2|h2
  ·rw[List.drop_append_of_le_length (by omega),List.take_append_of_le_length (by rw[List.length_drop,hl];omega)]
  ·rw[List.drop_of_length_le (by rw[List.length_append,hl];simp;omega),List.drop_of_length_le (by omega)]
theorem Zl9(l:List Nat)(n k x:Nat)(h:l[k]?=some x)(hn:k / 8 < n):(wl (l.take k) n).set (k / 8) (wo (l.take k) (k / 8)+x*256 ^ (k%8))=wl (l.take (k+1)) n:=by
 apply List.ext_getElem?
 intro j
 rw[List.getElem?_set]
 by_cases hj:j < n
 ·rw[wl_get? _ _ _ hj,wl_get? _ _ _ hj,Zl8 l k x j h]
  have:(wl (l.take k) n).length=n:=by simp[wl]
  by_cases h1:k / 8=j
  ·rw[if_pos h1,if_pos (by omega),if_pos h1.symm,h1]
  ·rw[if_neg h1,if_neg (fun h=>h1 h.symm)]
 ·have e1:(wl (l.take k) n)[j]?=none:=List.getElem?_eq_none (by simp[wl];omega)
  have e2:(wl (l.take (k+1)) n)[j]?=none:=List.getElem?_eq_none (by simp[wl];omega)
  have:(wl (l.take k) n).length=n:=by simp[wl]
  rw[e1,e2,if_neg (by omega)]
theorem Zhp(l:List Nat)(k:Nat)(h:∀x∈l,x < 256):wo (l.take k) (k / 8) < 256 ^ (k%8):=by
 refine Ze7 _ _ (fun x hx=>h x (List.mem_of_mem_take (List.mem_of_mem_drop (List.mem_of_mem_take hx)))) ?_
 rw[List.length_take,List.length_drop,List.length_take];omega
theorem Ze9(l:List Nat)(h:l.length≤32):le l=wo l 0+18446744073709551616*wo l 1+340282366920938463463374607431768211456*wo l 2+6277101735386680763835789423207666416102355444464034512896*wo l 3:=by
 have e0:=Z3p l 8
 have e1:=Z3p (l.drop 8) 8
 have e2:=Z3p (l.drop 16) 8
 have e3:=Z3p (l.drop 24) 8
 rw[show(l.drop 8).drop 8=l.drop 16 by rw[List.drop_drop]] at e1
 rw[show(l.drop 16).drop 8=l.drop 24 by rw[List.drop_drop]] at e2
 rw[show(l.drop 24).drop 8=[] by rw[List.drop_drop,List.drop_of_length_le (by omega)]] at e3
 have z:le []=0:=rfl
 have w0:wo l 0=le (l.take 8):=rfl
 have w1:wo l 1=le ((l.drop 8).take 8):=rfl
 have w2:wo l 2=le ((l.drop 16).take 8):=rfl
 have w3:wo l 3=le ((l.drop 24).take 8):=rfl
 omega
def by_(n:Nat)(k:Nat):List Nat:=(List.range k).map fun i=>n / 256 ^ i%256
theorem Z60(n k:Nat):∀x∈by_ n k,x < 256:=by
 intro x hx
 simp only[by_,List.mem_map] at hx
 obtain⟨i,-, rfl⟩:=hx
 exact Nat.mod_lt _ (by decide)
theorem by_length(n k:Nat):(by_ n k).length=k:=by simp[by_]
theorem Zea(n k:Nat):by_ n (k+1)=(n%256) :: by_ (n / 256) k:=by
 unfold by_
 rw[List.range_succ_eq_map,List.map_cons,List.map_map]
 congr 1
 ·rw[Nat.pow_zero,Nat.div_one]
 ·apply List.map_congr_left
  intro i _
  show n / 256 ^ (i+1)%256=n / 256 / 256 ^ i%256
  rw[Nat.div_div_eq_div_mul,Nat.pow_succ,Nat.mul_comm (256 ^ i)]
theorem Zeb:∀(k n:Nat),le (by_ n k)=n%256 ^ k:=by
 intro k
 induction k with
 |zero=>intro n;simp[by_,le_nil,Nat.mod_one]
 |succ k ih =>
  intro n
  rw[Zea,Z1i,ih,Nat.pow_succ,Nat.mul_comm (256 ^ k),Nat.mod_mul]
theorem by_le:∀(l:List Nat),(∀x∈l,x < 256)→by_ (le l) l.length=l:=by
 intro l
 induction l with
 |nil=>intro _;rfl
 |cons x l ih =>
  intro h
  have hx:=h x List.mem_cons_self
  rw[List.length_cons,Zea,Z1i,show(x+256*le l)%256=x by omega,show(x+256*le l) / 256=le l by omega,ih fun y hy=>h y (List.mem_cons_of_mem _ hy)]
def wb(w:List Nat)(i:Nat):Nat:=w.getD (i / 8) 0 / 256 ^ (i%8)%256
def Z61(n:Nat):List Nat:=[n%18446744073709551616,n / 18446744073709551616%18446744073709551616,n / 340282366920938463463374607431768211456%18446744073709551616,n / 6277101735386680763835789423207666416102355444464034512896%18446744073709551616]
theorem Zbj(n:Nat):(List.range 32).map (wb (Z61 n))=by_ n 32:=by
 unfold by_
 apply List.map_congr_left
 intro i hi
 have hi':i < 32:=List.mem_range.1 hi
 have e:∀a m,m < 8→(a%18446744073709551616) / 256 ^ m%256=a / 256 ^ m%256:=by
  intro a m hm
  match m,hm with
  |0,_=>simp only[Nat.reducePow];omega
  |1,_=>simp only[Nat.reducePow];omega
  |2,_=>simp only[Nat.reducePow];omega
  |3,_=>simp only[Nat.reducePow];omega
  |4,_=>simp only[Nat.reducePow];omega
  |5,_=>simp only[Nat.reducePow];omega
  |6,_=>simp only[Nat.reducePow];omega
  |7,_=>simp only[Nat.reducePow];omega
 have d:∀q,q < 4→(Z61 n).getD q 0=n / 256 ^ (8*q)%18446744073709551616:=by
  intro q hq
  match q,hq with
  |0,_=>show n%_=_;simp
  |1,_=>rfl
  |2,_=>rfl
  |3,_=>rfl
 unfold wb
 rw[d _ (by omega),e _ _ (by omega),Nat.div_div_eq_div_mul,←Nat.pow_add,show 8*(i / 8)+i%8=i by omega]
def cg(a b:Nat):Prop:=a%pp=b%pp
namespace cg
theorem rfl'(a:Nat):cg a a:=rfl
theorem symm{a b:Nat}(h:cg a b):cg b a:=Eq.symm h
theorem trans{a b c:Nat}(h:cg a b)(k:cg b c):cg a c:=Eq.trans h k
theorem of_eq{a b:Nat}(h:a=b):cg a b:=by rw[h];rfl
theorem mul{a b c d:Nat}(h:cg a b)(k:cg c d):cg (a*c) (b*d):=by unfold cg at *;rw[Nat.mul_mod,h,k,←Nat.mul_mod]
theorem add{a b c d:Nat}(h:cg a b)(k:cg c d):cg (a+c) (b+d):=by unfold cg at *;rw[Nat.add_mod,h,k,←Nat.add_mod]
theorem pow{a b:Nat}(h:cg a b)(n:Nat):cg (a ^ n) (b ^ n):=by unfold cg at *;rw[Nat.pow_mod,h,←Nat.pow_mod]
theorem mod(a:Nat):cg (a%pp) a:=Nat.mod_mod _ _
end cg
theorem Zrw{a b:Nat}(h:cg a b)(ha:a < pp)(hb:b < pp):a=b:=by
 unfold cg at h;rwa [Nat.mod_eq_of_lt ha,Nat.mod_eq_of_lt hb] at h
def m1:Nat:=pp - 1
theorem Zrx:m1 < pp:=Nat.sub_lt Z1y (by decide)
theorem Zry:cg (m1*m1) 1:=by
 obtain⟨k,hk⟩:∃k,pp=k+2:=⟨pp - 2,by have:=Z19;omega⟩
 unfold cg m1
 rw[hk,show k+2 - 1=k+1 by omega,show(k+1)*(k+1)=1+(k+2)*k by grind,Nat.add_mul_mod_self_left]
theorem Zjy(x:Nat):cg (x+m1*x) 0:=by
 unfold cg m1
 rw[show x+(pp - 1)*x=pp*x by rw[Nat.sub_mul,Nat.one_mul];have:=Nat.le_mul_of_pos_left x Z1y;omega,Nat.mul_mod_right,Nat.zero_mod]
theorem Z5b{a b c:Nat}(h:cg (a+c) (b+c)):cg a b:=by
 have h1:cg (a+c+m1*c) (b+c+m1*c):=h.add (cg.rfl' _)
 have h2:∀x,cg (x+c+m1*c) x:=fun x=>by
  have:=(cg.rfl' x).add (Zjy c)
  rwa [←Nat.add_assoc,Nat.add_zero] at this
 exact((h2 a).symm.trans h1).trans (h2 b)
def ng(u:Nat):Nat:=(pp - u%pp)%pp
theorem Z7v(u:Nat):ng u < pp:=mod_lt _
theorem Zhq(u:Nat):cg (ng u) (m1*u):=by
 apply Z5b (c:=u%pp)
 have h1:cg (m1*u+u%pp) 0:=by
  have:=(cg.rfl' (m1*u)).add (cg.mod u)
  rw[Nat.add_comm (m1*u) u] at this
  exact this.trans (Zjy u)
 refine cg.trans ?_ h1.symm
 unfold ng
 refine(cg.add (cg.mod _) (cg.rfl' _)).trans ?_
 have:=mod_lt u
 unfold cg
 rw[show pp - u%pp+u%pp=pp by omega,Nat.mod_self,Nat.zero_mod]
theorem fermat{a:Nat}(h:¬cg a 0):cg (a ^ (pp - 1)) 1:=by
 unfold cg at *
 rw[Z7u.fermat a (by rwa [Nat.zero_mod] at h),Nat.mod_eq_of_lt Z19]
theorem pp_2:2≤pp:=Z19
theorem Zec{a:Nat}(h:¬cg a 0):cg (a*a ^ (pp - 2)) 1:=by
 rw[Nat.mul_comm,←Nat.pow_succ,show(pp - 2).succ=pp - 1 by have:=pp_2;omega]
 exact fermat h
theorem Z62{a b c:Nat}(hc:¬cg c 0)(h:cg (a*c) (b*c)):cg a b:=by
 have h1:=h.mul (cg.rfl' (c ^ (pp - 2)))
 have h2:∀x,cg (x*c*c ^ (pp - 2)) x:=fun x=>by
  have:=(cg.rfl' x).mul (Zec hc)
  rwa [←Nat.mul_assoc,Nat.mul_one] at this
 exact((h2 a).symm.trans h1).trans (h2 b)
theorem Zrz:¬cg m1 1:=by
 unfold cg
 rw[Nat.mod_eq_of_lt Zrx,Nat.mod_eq_of_lt Z19]
 unfold m1;rw[Z1b];decide
theorem Z63(x:Nat):cg (m1*(m1*x)) x:=by
 rw[←Nat.mul_assoc]
 have:=Zry.mul (cg.rfl' x)
 rwa [Nat.one_mul] at this
def e8:Nat:=7237005577332262213973186563042994240829374041602535252466099000494570602493
theorem Zhr:pp=8*e8+5:=by rw[Z1b];rfl
def im:Nat:=19681161376707505956807079304988542015446066515923890162744021073123829784752
theorem Zla:im < pp:=by rw[Z1b];decide
theorem Zok:cg (im*im) m1:=by unfold cg m1;rw[Z1b];decide +kernel
theorem Zlb:cg (2 ^ (2*e8+1)) im:=by
 unfold cg
 have h:mp 256 1 2 (2*e8+1) pp=im:=by rw[Z1b];decide +kernel
 rw[Z71 (s:=256) (by decide +kernel) Z19 h,Nat.mod_eq_of_lt Zla]
attribute [irreducible] e8 im m1
def ev(r:Nat):Nat:=if r%2=1 then ng r else r
theorem Zhs{r:Nat}(h:r < pp)(h0:r≠0):ng r=pp - r:=by
 unfold ng;rw[Nat.mod_eq_of_lt h,Nat.mod_eq_of_lt (by omega)]
theorem Za8:ng 0=0:=by unfold ng;rw[Nat.zero_mod,Nat.sub_zero,Nat.mod_self]
theorem Zed:pp%2=1:=by rw[Z1b]
theorem Zs0{r:Nat}(h:r < pp):ev r < pp:=by unfold ev;split;exact Z7v _;exact h
theorem Zlc{r:Nat}(h:r < pp):ev r%2=0:=by
 unfold ev
 have:=Zed
 by_cases h1:r%2=1
 ·rw[if_pos h1,Zhs h (by intro h0;subst h0;cases h1)];omega
 ·rw[if_neg h1];omega
theorem Zs1{r:Nat}(h:r < pp):cg (ev r*ev r) (r*r):=by
 unfold ev
 split
 ·have h1:=(Zhq r).mul (Zhq r)
  refine h1.trans ?_
  rw[show m1*r*(m1*r)=m1*(m1*(r*r)) by grind]
  exact Z63 _
 ·rfl
def rt(u v:Nat):Option Nat :=
 let r:=u*v ^ 3*(u*v ^ 7) ^ e8%pp
 let got:=r*r*v%pp
 if got=ng u then some (ev (r*im%pp)) else if got=u%pp then some (ev r) else none
def rr(u v:Nat):Option Nat :=
 if v=0 then(if u=0 then some 0 else none)
 else
  let q:=u*v ^ (pp - 2)%pp
  let r:=q ^ (e8+1)%pp
  let r2:=if r*r%pp=q then r else r*(2 ^ (2*e8+1)%pp)%pp
  if r2*r2%pp=q then some (ev r2) else none
theorem Z8t{a b:Nat}(h:cg a b):a%pp=b%pp:=h
theorem Zol{u v:Nat}(hv:¬cg v 0):cg (u*v ^ 3*(u*v ^ 7) ^ e8) ((u*v ^ (pp - 2)) ^ (e8+1)):=by
 have e1:u*v ^ 3*(u*v ^ 7) ^ e8=u ^ (e8+1)*v ^ (3+7*e8):=by
  have e0:v ^ (3+7*e8)=v ^ 3*v ^ (7*e8):=Nat.pow_add _ _ _
  have e1:u ^ (e8+1)=u ^ e8*u:=Nat.pow_succ u e8
  rw[Nat.mul_pow,←Nat.pow_mul,e0,e1]
  generalize u ^ e8=A
  generalize v ^ (7*e8)=B
  generalize v ^ 3=C
  grind
 have e2:(u*v ^ (pp - 2)) ^ (e8+1)=u ^ (e8+1)*(v ^ (3+7*e8)*(v ^ (pp - 1)) ^ e8):=by
  rw[Nat.mul_pow,←Nat.pow_mul,←Nat.pow_mul,←Nat.pow_add]
  congr 2
  have:=Zhr
  generalize e8=e at *
  rw[this,show 8*e+5 - 2=8*e+3 by omega,show 8*e+5 - 1=8*e+4 by omega]
  grind
 rw[e1,e2]
 refine(cg.rfl' _).mul ?_
 have:=((cg.rfl' (v ^ (3+7*e8))).mul ((fermat hv).pow e8)).symm
 rwa [Nat.one_pow,Nat.mul_one] at this
theorem q_v{u v:Nat}(hv:¬cg v 0):cg (u*v ^ (pp - 2)*v) u:=by
 have:=(cg.rfl' u).mul (Zec hv)
 rw[Nat.mul_one,Nat.mul_comm v,←Nat.mul_assoc] at this
 exact this
theorem Z8u{v:Nat}(h0:v≠0)(h:v < pp):¬cg v 0:=by
 unfold cg;rw[Nat.mod_eq_of_lt h,Nat.zero_mod];exact h0
theorem rt_eq(u v:Nat)(hu:u < pp)(hv:v < pp):rt u v=rr u v:=by
 by_cases h0:v=0
 ·subst h0
  unfold rt rr
  rw[if_pos rfl]
  have e3:(0:Nat) ^ 3=0:=rfl
  simp only[e3,Nat.mul_zero,Nat.zero_mul,Nat.zero_mod]
  by_cases hu0:u=0
  ·subst hu0;rw[Za8,if_pos rfl,if_pos rfl];rfl
  ·rw[Zhs hu hu0,if_neg (by omega),if_neg (by rw[Nat.mod_eq_of_lt hu];omega),if_neg hu0]
 ·have hv0:=Z8u h0 hv
  unfold rt rr
  rw[if_neg h0]
  dsimp only
  obtain⟨q,hq⟩:∃q,q=u*v ^ (pp - 2)%pp:=⟨_,rfl⟩
  have hqc:cg q (u*v ^ (pp - 2)):=by rw[hq];exact cg.mod _
  have hql:q < pp:=by rw[hq];exact mod_lt _
  have hqv:cg (q*v) u:=(hqc.mul (cg.rfl' v)).trans (q_v hv0)
  obtain⟨r,hr⟩:∃r,r=q ^ (e8+1)%pp:=⟨_,rfl⟩
  have hrl:r < pp:=by rw[hr];exact mod_lt _
  have e:u*v ^ 3*(u*v ^ 7) ^ e8%pp=r:=by
   rw[hr];exact(Zol hv0).trans (hqc.pow _).symm
  rw[e,←hq,←hr]
  have c1:cg (r*r) q→r*r*v%pp=u%pp:=fun h=>(h.mul (cg.rfl' v)).trans hqv
  have c2:r*r*v%pp=u%pp→cg (r*r) q:=fun h=>Z62 hv0 (show cg _ _ from Eq.trans h hqv.symm)
  have ngu:ng u%pp=ng u:=Nat.mod_eq_of_lt (Z7v u)
  have d1:cg (r*r) (m1*q)→r*r*v%pp=ng u:=fun h=>by
   have h1:cg (r*r*v) (m1*(q*v)):=by rw[←Nat.mul_assoc];exact h.mul (cg.rfl' v)
   have h2:cg (r*r*v) (ng u):=h1.trans (((cg.rfl' m1).mul hqv).trans (Zhq u).symm)
   rw[←ngu];exact h2
  have d2:r*r*v%pp=ng u→cg (r*r) (m1*q):=fun h=>by
   refine Z62 hv0 ?_
   have h2:cg (r*r*v) (ng u):=by unfold cg;rw[ngu];exact h
   refine h2.trans ((Zhq u).trans ?_)
   rw[Nat.mul_assoc]
   exact(cg.rfl' m1).mul hqv.symm
  have t:2 ^ (2*e8+1)%pp=im:=by have:=Zlb;unfold cg at this;rwa [Nat.mod_eq_of_lt Zla] at this
  have imr:cg (r*im%pp*(r*im%pp)) (m1*(r*r)):=by
   refine((cg.mod _).mul (cg.mod _)).trans ?_
   rw[show r*im*(r*im)=im*im*(r*r) by grind]
   exact Zok.mul (cg.rfl' _)
  rw[t]
  have qm:∀x,x%pp=q↔cg x q:=fun x=>by unfold cg;rw[Nat.mod_eq_of_lt hql]
  by_cases hsq:cg (r*r) q
  ·rw[if_pos ((qm _).2 hsq)]
   rw[if_pos ((qm _).2 hsq)]
   by_cases hu0:u=0
   ·-- then all is 0
    subst hu0
    have hq0:q=0:=by rw[hq,Nat.zero_mul,Nat.zero_mod]
    have hr0:r=0:=by rw[hr,hq0,Nat.zero_pow (by omega),Nat.zero_mod]
    rw[hr0,Za8]
    simp
   ·rw[if_neg,if_pos (c1 hsq)]
    intro h
    have h1:=d2 h
    have h2:cg (m1*q) q:=h1.symm.trans hsq
    have hq0:¬cg q 0:=fun h=>hu0 (by
     have h3:cg u 0:=hqv.symm.trans ((h.mul (cg.rfl' v)).trans (cg.of_eq (Nat.zero_mul _)))
     exact Zrw h3 hu Z1y)
    have h3:cg m1 1:=Z62 hq0 (h2.trans (cg.of_eq (Nat.one_mul _).symm))
    exact Zrz h3
  ·rw[if_neg (fun h=>hsq ((qm _).1 h))]
   by_cases hm:cg (r*r) (m1*q)
   ·rw[if_pos (d1 hm),if_pos]
    exact(qm _).2 (imr.trans (((cg.rfl' m1).mul hm).trans (Z63 q)))
   ·rw[if_neg (fun h=>hm (d2 h)),if_neg (fun h=>hsq (c2 h)),if_neg]
    intro h
    have h1:cg (m1*(r*r)) q:=imr.symm.trans ((qm _).1 h)
    exact hm ((Z63 _).symm.trans ((cg.rfl' m1).mul h1))
theorem Za9{u v r:Nat}(hv:v < pp)(hv0:v≠0)(h:rr u v=some r):r < pp∧r%2=0∧cg (r*r*v) u:=by
 have hvc:=Z8u hv0 hv
 unfold rr at h
 rw[if_neg hv0] at h
 dsimp only at h
 generalize hr2:(if(u*v ^ (pp - 2)%pp) ^ (e8+1)%pp*((u*v ^ (pp - 2)%pp) ^ (e8+1)%pp)%pp=u*v ^ (pp - 2)%pp then(u*v ^ (pp - 2)%pp) ^ (e8+1)%pp else(u*v ^ (pp - 2)%pp) ^ (e8+1)%pp*(2 ^ (2*e8+1)%pp)%pp)=r2 at h
 have hl:r2 < pp:=by rw[←hr2];split <;> exact mod_lt _
 split at h
 ·rename_i hs
  injection h with h
  subst h
  refine⟨Zs0 hl,Zlc hl,?_⟩
  have h1:cg (r2*r2) (u*v ^ (pp - 2)):=hs
  exact(((Zs1 hl).trans h1).mul (cg.rfl' v)).trans (q_v hvc)
 ·cases h
def vl(l:List Nat):Nat:=l.foldr (fun x a=>x+65536*a) 0
theorem Z3d:vl []=0:=rfl
theorem Z1d(x:Nat)(l:List Nat):vl (x :: l)=x+65536*vl l:=rfl
theorem Z8v(a b:List Nat):vl (a ++ b)=vl a+65536 ^ a.length*vl b:=by
 induction a with
 |nil=>simp[Z3d]
 |cons x a ih=>rw[List.cons_append,Z1d,ih,Z1d,List.length_cons,Nat.pow_succ',Nat.mul_add,←Nat.add_assoc,←Nat.mul_assoc]
def Dg(l:List Nat):Prop:=∀x∈l,x < 65536
theorem Dg.nil:Dg []:=by intro x h;cases h
theorem Dg.cons{x:Nat}{l:List Nat}(h:x < 65536)(k:Dg l):Dg (x :: l):=by
 intro y hy
 rcases List.mem_cons.1 hy with rfl|hy
 ·exact h
 ·exact k y hy
theorem Dg.take{a:List Nat}(h:Dg a)(k:Nat):Dg (a.take k):=fun x hx=>h x (List.mem_of_mem_take hx)
theorem Dg.get{a:List Nat}(h:Dg a)(k:Nat):a.getD k 0 < 65536:=by
 rw[List.getD_eq_getElem?_getD]
 cases hk:a[k]? with
 |none=>simp
 |some x=>exact h x (List.mem_of_getElem? hk)
theorem Z3z(l:List Nat)(h:Dg l):vl l < 65536 ^ l.length:=by
 induction l with
 |nil=>decide
 |cons x l ih =>
  have h1:=h x List.mem_cons_self
  have h2:=ih fun y hy=>h y (List.mem_cons_of_mem _ hy)
  rw[Z1d,List.length_cons,Nat.pow_succ];omega
theorem Z4g(l:List Nat)(k:Nat):vl l=vl (l.take k)+65536 ^ k*vl (l.drop k):=by
 conv=>lhs;rw[←List.take_append_drop k l,Z8v]
 rcases Nat.lt_or_ge l.length k with h|h
 ·rw[List.drop_of_length_le (by omega)];simp[Z3d]
 ·rw[List.length_take,Nat.min_eq_left h]
theorem Z0n(l:List Nat)(k:Nat):vl (l.take (k+1))=vl (l.take k)+65536 ^ k*l.getD k 0:=by
 rw[List.take_add_one]
 cases hk:l[k]? with
 |none=>simp[List.getD_eq_getElem?_getD,hk]
 |some x =>
  have:k < l.length:=(List.getElem?_eq_some_iff.1 hk).1
  rw[Z8v,List.length_take,Nat.min_eq_left (by omega),List.getD_eq_getElem?_getD,hk]
  simp[Z1d,Z3d]
theorem Z3e(n:Nat):vl (List.replicate n 0)=0:=by
 induction n with
 |zero=>rfl
 |succ n ih=>rw[List.replicate_succ,Z1d,ih]
theorem Dg.replicate(n:Nat):Dg (List.replicate n 0):=by
 intro x hx;rw[List.eq_of_mem_replicate hx];decide
theorem Zom(l:List Nat)(k:Nat)(h:Dg l):vl l%65536 ^ k=vl (l.take k):=by
 rw[Z4g l k,Nat.add_mul_mod_self_left]
 refine Nat.mod_eq_of_lt (Nat.lt_of_lt_of_le (Z3z _ (h.take k)) (Nat.pow_le_pow_right (by decide) ?_))
 rw[List.length_take];omega
theorem Zon(l:List Nat)(k:Nat)(h:Dg l):vl l / 65536 ^ k=vl (l.drop k):=by
 have h1:vl (l.take k) < 65536 ^ k:=Nat.lt_of_lt_of_le (Z3z _ (h.take k)) (Nat.pow_le_pow_right (by decide) (by rw[List.length_take];omega))
 rw[Z4g l k,Nat.add_mul_div_left _ _ (Nat.pow_pos (by decide)),Nat.div_eq_of_lt h1,Nat.zero_add]
theorem Z72(l:List Nat)(k:Nat)(h:Dg l):vl l / 65536 ^ k%65536=l.getD k 0:=by
 rw[Zon l k h,List.getD_eq_getElem?_getD]
 cases hk:l[k]? with
 |none=>rw[List.drop_of_length_le (by exact List.getElem?_eq_none_iff.1 hk)];rfl
 |some x =>
  obtain⟨hlt,he⟩:=List.getElem?_eq_some_iff.1 hk
  rw[List.drop_eq_getElem_cons hlt,he,Z1d]
  have:=h x (List.mem_of_getElem? hk)
  simp;omega
def dg(n:Nat):List Nat:=if h:n=0 then[] else n%65536 :: dg (n / 65536)
termination_by n
decreasing_by exact Nat.div_lt_self (by omega) (by decide)
theorem Z0r:dg 0=[]:=by rw[dg];rfl
theorem Z64{n:Nat}(h:n≠0):dg n=n%65536 :: dg (n / 65536):=by rw[dg,dif_neg h]
theorem Zee{P:Nat→Prop}(h0:P 0)(h1:∀n,n≠0→P (n / 65536)→P n)(n:Nat):P n:=by
 induction n using Nat.strongRecOn with
 |_ n ih =>
  by_cases h:n=0
  ·rw[h];exact h0
  ·exact h1 n h (ih _ (Nat.div_lt_self (by omega) (by decide)))
theorem Z0o(n:Nat):Dg (dg n):=by
 refine Zee (P:=fun n=>Dg (dg n)) (by rw[Z0r];exact .nil) (fun n h ih=>?_) n
 rw[Z64 h];exact .cons (Nat.mod_lt _ (by decide)) ih
theorem Z0l(n:Nat):vl (dg n)=n:=by
 refine Zee (P:=fun n=>vl (dg n)=n) (by rw[Z0r];rfl) (fun n h ih=>?_) n
 rw[Z64 h,Z1d,ih];omega
def Tr(l:List Nat):Prop:=l.getLast?≠some 0
theorem Zcp(l:List Nat)(h:Dg l)(ht:Tr l):dg (vl l)=l:=by
 induction l with
 |nil=>exact Z0r
 |cons x l ih =>
  have hx:=h x List.mem_cons_self
  have hl:Dg l:=fun y hy=>h y (List.mem_cons_of_mem _ hy)
  cases l with
  |nil =>
   have h0:x≠0:=by intro e;subst e;exact ht rfl
   rw[Z1d,Z3d,Nat.mul_zero,Nat.add_zero,Z64 h0,Nat.mod_eq_of_lt hx,Nat.div_eq_of_lt hx,Z0r]
  |cons y l =>
   have ht':Tr (y :: l):=by unfold Tr at *;rwa [List.getLast?_cons_cons] at ht
   have e:=ih hl ht'
   have h0:vl (y :: l)≠0:=by intro h1;rw[h1,Z0r] at e;cases e
   rw[Z1d,Z64 (by omega),show(x+65536*vl (y :: l))%65536=x by omega,show(x+65536*vl (y :: l)) / 65536=vl (y :: l) by omega,e]
theorem Zoo(n:Nat):Tr (dg n):=by
 refine Zee (P:=fun n=>Tr (dg n)) (by rw[Z0r];intro h;cases h) (fun n h ih=>?_) n
 rw[Z64 h]
 by_cases h1:n / 65536=0
 ·rw[h1,Z0r]
  intro h2
  simp at h2
  omega
 ·rw[Z64 h1] at ih ⊢
  unfold Tr at *
  rwa [List.getLast?_cons_cons]
theorem dg_len(n k:Nat):(dg n).length≤k↔n < 65536 ^ k:=by
 constructor
 ·intro h
  have:=Z3z _ (Z0o n)
  rw[Z0l] at this
  exact Nat.lt_of_lt_of_le this (Nat.pow_le_pow_right (by decide) h)
 ·revert n
  induction k with
  |zero =>
   intro n h
   obtain rfl:n=0:=by simpa using h
   rw[Z0r];exact Nat.le_refl _
  |succ k ih =>
   intro n h
   by_cases h0:n=0
   ·subst h0;rw[Z0r];exact Nat.zero_le _
   ·rw[Z64 h0,List.length_cons]
    have:=ih (n / 65536) (by rw[Nat.pow_succ] at h;exact Nat.div_lt_of_lt_mul (by rw[Nat.mul_comm];exact h))
    omega
theorem Z1c{n k:Nat}(h:n < 65536 ^ k):(dg n).length≤k:=(dg_len n k).2 h
theorem Z73(n k:Nat):(dg n).getD k 0=n / 65536 ^ k%65536:=by
 have:=Z72 (dg n) k (Z0o n)
 rw[Z0l] at this
 exact this.symm
theorem Zjz{n m:Nat}(h:dg n=dg m):n=m:=by rw[←Z0l n,h,Z0l]
theorem Zop{n:Nat}:dg n=[]↔n=0:=⟨fun h=>Zjz (h.trans Z0r.symm),fun h=>by rw[h,Z0r]⟩
theorem Z2z{n:Nat}:(dg n).length=0↔n=0:=by rw[List.length_eq_zero_iff,Zop]
theorem Zef(l:List Nat)(k:Nat)(h0:l.getD k 0=0):vl (l.take (k+1))=vl (l.take k):=by
 rw[Z0n,h0,Nat.mul_zero,Nat.add_zero]
theorem Zbk(l:List Nat)(h:Dg l)(k:Nat)(hk:k≤l.length)(hv:vl (l.take k)=vl l)(he:k=0∨l.getD (k - 1) 0≠0):l.take k=dg (vl l):=by
 rw[←hv]
 refine(Zcp _ (h.take k) ?_).symm
 rcases he with rfl|he
 ·rw[List.take_zero];intro h;cases h
 ·by_cases h0:k=0
  ·subst h0;rw[List.take_zero];intro h;cases h
  ·intro hl
   rw[List.getLast?_eq_getElem?,List.length_take,Nat.min_eq_left hk,List.getElem?_take_of_lt (by omega)] at hl
   apply he
   rw[List.getD_eq_getElem?_getD,hl];rfl
theorem Z74{l k:List Nat}(hl:Dg l)(hk:Dg k)(tk:Tr k)(h:l.length < k.length):vl l < vl k:=by
 have e:=Zcp k hk tk
 have h1:=Z3z l hl
 refine Nat.lt_of_lt_of_le h1 ?_
 rcases Nat.lt_or_ge (vl k) (65536 ^ l.length) with h2|h2
 ·have:=Z1c h2;rw[e] at this;omega
 ·exact h2
theorem Zoq(l:List Nat)(h:Dg l)(i:Nat):vl l / 256 ^ i%256=if i%2=0 then l.getD (i / 2) 0%256 else l.getD (i / 2) 0 / 256:=by
 have e:=Z72 l (i / 2) h
 have hp:(65536:Nat) ^ (i / 2)=256 ^ (2*(i / 2)):=by rw[Nat.pow_mul]
 rw[hp] at e
 have hb:=h.get (i / 2)
 split
 ·rename_i h0
  conv=>lhs;rw[show i=2*(i / 2) by omega]
  rw[←e]
  generalize vl l / 256 ^ (2*(i / 2))=q
  omega
 ·rename_i h0
  conv=>lhs;rw[show i=2*(i / 2)+1 by omega,Nat.pow_succ,←Nat.div_div_eq_div_mul]
  rw[←e]
  generalize vl l / 256 ^ (2*(i / 2))=q
  omega
theorem Z46(o:List Nat)(p y:Nat)(h:p < o.length):(o.set p y).getD p 0=y:=by
 simp[List.getD_eq_getElem?_getD,h]
theorem getD_set_ne(o:List Nat)(p q y:Nat)(h:p≠q):(o.set p y).getD q 0=o.getD q 0:=by
 simp[List.getD_eq_getElem?_getD,h]
theorem Z75(o:List Nat)(p y:Nat)(h:p < o.length):vl (o.set p y)+65536 ^ p*o.getD p 0=vl o+65536 ^ p*y:=by
 induction o generalizing p with
 |nil=>cases h
 |cons x o ih =>
  cases p with
  |zero=>simp[Z1d];omega
  |succ p =>
   have:=ih p (by simpa using h)
   rw[List.set_cons_succ,Z1d,Z1d,List.getD_cons_succ,Nat.pow_succ,Nat.mul_comm _ 65536,Nat.mul_assoc,Nat.mul_assoc]
   omega
theorem Dg.set{o:List Nat}(h:Dg o)(p y:Nat)(hy:y < 65536):Dg (o.set p y):=by
 intro x hx
 rcases List.mem_or_eq_of_mem_set hx with h1|h1
 ·exact h x h1
 ·subst h1;exact hy
theorem Z30(o:List Nat)(k y:Nat)(h:k < o.length):vl ((o.set k y).take (k+1))=vl (o.take k)+65536 ^ k*y:=by
 rw[Z0n,Z46 _ _ _ h,List.take_set_of_le (Nat.le_refl _)]
theorem Z25(l:List Nat)(k:Nat)(h:l.length≤k):vl (l.take k)=vl l:=by rw[List.take_of_length_le h]
theorem Z4h(l:List Nat)(k:Nat)(h:l.length≤k):l.getD k 0=0:=by
 rw[List.getD_eq_getElem?_getD,List.getElem?_eq_none h];rfl
theorem Zbl(la lb o:List Nat)(k cy x:Nat)(ho:k < o.length)(hv:vl (o.take k)+65536 ^ k*cy=vl (la.take k)+vl (lb.take k))(hx:x=la.getD k 0+cy+lb.getD k 0) :
  vl ((o.set k (x%65536)).take (k+1))+65536 ^ (k+1)*(x / 65536)=vl (la.take (k+1))+vl (lb.take (k+1)):=by
 rw[Z30 _ _ _ ho,Z0n,Z0n,Nat.pow_succ,Nat.mul_assoc,Nat.add_assoc,←Nat.mul_add,show x%65536+65536*(x / 65536)=x from Nat.mod_add_div x 65536,hx]
 generalize 65536 ^ k=B at *
 simp only[Nat.mul_add]
 omega
theorem Zld(la lb o:List Nat)(n cy:Nat)(hn:la.length=n)(hm:lb.length≤n)(ho:o.length=n+1)(hv:vl (o.take n)+65536 ^ n*cy=vl (la.take n)+vl (lb.take n)):vl (o.set n cy)=vl la+vl lb:=by
 have:=Z30 o n cy (by omega)
 rw[List.take_of_length_le (by rw[List.length_set];omega)] at this
 rw[this,hv,Z25 _ _ (by omega),Z25 _ _ hm]
theorem Z76(la lb o:List Nat)(k bw x:Nat)(ho:k < o.length)(hb:bw≤1)(ha:Dg la)(hlb:Dg lb)(hv:vl (o.take k)+vl (lb.take k)=vl (la.take k)+65536 ^ k*bw)(hx:x+bw+lb.getD k 0=65536+la.getD k 0) :
  vl ((o.set k (x%65536)).take (k+1))+vl (lb.take (k+1))=vl (la.take (k+1))+65536 ^ (k+1)*(1 - x / 65536)∧1 - x / 65536≤1:=by
 refine⟨?_,by omega⟩
 have h1:=ha.get k
 have h2:=hlb.get k
 obtain⟨b',hb'⟩:∃b',1 - x / 65536=b':=⟨_,rfl⟩
 have e:x%65536+bw+lb.getD k 0=la.getD k 0+65536*b':=by omega
 rw[Z30 _ _ _ ho,Z0n,Z0n,hb',Nat.pow_succ,Nat.mul_assoc]
 generalize 65536 ^ k=B at *
 have e2:B*(x%65536)+B*bw+B*lb.getD k 0=B*la.getD k 0+B*(65536*b'):=by rw[←Nat.mul_add,←Nat.mul_add,←Nat.mul_add,e]
 omega
theorem Zeg(la lb o:List Nat)(n bw:Nat)(hn:la.length=n)(hm:lb.length≤n)(ho:o.length=n)(hd:Dg o)(hle:vl lb≤vl la)(hv:vl (o.take n)+vl (lb.take n)=vl (la.take n)+65536 ^ n*bw):vl o=vl la - vl lb:=by
 rw[Z25 _ _ (by omega),Z25 _ _ hm,Z25 _ _ (by omega)] at hv
 have h1:=Z3z o hd
 rw[ho] at h1
 rcases Nat.eq_zero_or_pos bw with h0|h0
 ·subst h0;omega
 ·have:=Nat.mul_le_mul_left (65536 ^ n) (show 1≤bw from h0)
  omega
theorem Z77(o:List Nat)(p c x a b V:Nat)(ho:p < o.length)(hx:x=o.getD p 0+a*b+c)(hv:vl o+65536 ^ p*c=V) :
  vl (o.set p (x%65536))+65536 ^ (p+1)*(x / 65536)=V+65536 ^ p*(a*b):=by
 have h:=Z75 o p (x%65536) ho
 rw[Nat.pow_succ,Nat.mul_assoc]
 have e:x%65536+65536*(x / 65536)=x:=Nat.mod_add_div x 65536
 generalize 65536 ^ p=B at *
 have e2:B*(x%65536)+B*(65536*(x / 65536))=B*o.getD p 0+B*(a*b)+B*c:=by rw[←Nat.mul_add,e,hx,Nat.mul_add,Nat.mul_add]
 omega
theorem Zaa{o:List Nat}(hd:Dg o)(p a b c:Nat)(ha:a < 65536)(hb:b < 65536)(hc:c < 65536):o.getD p 0+a*b+c < 4294967296:=by
 have h1:=hd.get p
 have h2:a*b≤65535*65535:=Nat.mul_le_mul (by omega) (by omega)
 omega
theorem Zcq{la lb o:List Nat}(hd:Dg o)(ha:Dg la)(hb:Dg lb)(j p:Nat)(hv:vl o=vl (la.take j)*vl lb)(hp:j+lb.length≤p):o.getD p 0=0:=by
 have h1:vl (la.take j) < 65536 ^ j:=Nat.lt_of_lt_of_le (Z3z _ (ha.take j)) (Nat.pow_le_pow_right (by decide) (by rw[List.length_take];omega))
 have h2:=Z3z lb hb
 have h3:vl o < 65536 ^ p:=by
  rw[hv]
  refine Nat.lt_of_lt_of_le (Nat.mul_lt_mul'' h1 h2) ?_
  rw[←Nat.pow_add];exact Nat.pow_le_pow_right (by decide) hp
 rw[←Z72 o p hd,Nat.div_eq_of_lt h3]
theorem Zeh(la lb o o':List Nat)(j c:Nat)(hv:vl o=vl (la.take j)*vl lb)(ho:j+lb.length < o'.length)(hz:o'.getD (j+lb.length) 0=0)
  (hi:vl o'+65536 ^ (j+lb.length)*c=vl o+65536 ^ j*(la.getD j 0*vl lb)):vl (o'.set (j+lb.length) c)=vl (la.take (j+1))*vl lb:=by
 have h:=Z75 o' (j+lb.length) c ho
 rw[hz,Nat.mul_zero,Nat.add_zero] at h
 rw[h,hi,hv,Z0n,Nat.add_mul,Nat.mul_assoc]
theorem Zht(la lb o o':List Nat)(j k c x V:Nat)(ho:j+k < o'.length)(hx:x=o'.getD (j+k) 0+la.getD j 0*lb.getD k 0+c)
  (hi:vl o'+65536 ^ (j+k)*c=V+65536 ^ j*(la.getD j 0*vl (lb.take k))) :
  vl (o'.set (j+k) (x%65536))+65536 ^ (j+(k+1))*(x / 65536)=V+65536 ^ j*(la.getD j 0*vl (lb.take (k+1))):=by
 have:=Z77 o' (j+k) c x (la.getD j 0) (lb.getD k 0) _ ho hx hi
 rw[show j+(k+1)=j+k+1 by omega,this,Z0n,Nat.mul_add,Nat.mul_add,Nat.pow_add,←Nat.add_assoc]
 congr 1
 rw[Nat.mul_assoc,Nat.mul_left_comm (la.getD j 0)]
def byk(v n k:Nat):List Nat:=(List.range n).map fun j=>if j < k then v / 256 ^ j%256 else 0
theorem Z47(v n k:Nat):(byk v n k).length=n:=by simp[byk]
theorem Zhu(v n:Nat):byk v n 0=List.replicate n 0:=by
 apply List.ext_getElem?
 intro i
 simp only[byk,List.getElem?_map,List.getElem?_replicate]
 by_cases h:i < n <;> simp[h]
theorem Z7w(v n k j:Nat)(hj:j < n):(byk v n k)[j]?=some (if j < k then v / 256 ^ j%256 else 0):=by simp[byk,hj]
theorem Zei(v n k x:Nat)(hx:x=v / 256 ^ k%256):(byk v n k).set k x=byk v n (k+1):=by
 apply List.ext_getElem?
 intro j
 rw[List.getElem?_set,Z47]
 by_cases hj:j < n
 ·rw[Z7w _ _ _ _ hj,Z7w _ _ _ _ hj]
  by_cases e:k=j
  ·subst e;rw[if_pos rfl,if_pos hj,if_pos (Nat.lt_succ_self _),hx]
  ·rw[if_neg e]
   by_cases h1:j < k
   ·rw[if_pos h1,if_pos (by omega)]
   ·rw[if_neg h1,if_neg (by omega)]
 ·have e1:(byk v n k)[j]?=none:=List.getElem?_eq_none (by rw[Z47];omega)
  have e2:(byk v n (k+1))[j]?=none:=List.getElem?_eq_none (by rw[Z47];omega)
  rw[e1,e2]
  split
  ·rw[if_neg (by omega)]
  ·rfl
theorem Z7x(v n k:Nat)(h:n≤k):byk v n (k+1)=byk v n k:=by
 apply List.ext_getElem?
 intro j
 by_cases hj:j < n
 ·rw[Z7w _ _ _ _ hj,Z7w _ _ _ _ hj,if_pos (by omega),if_pos (by omega)]
 ·rw[List.getElem?_eq_none (by rw[Z47];omega),List.getElem?_eq_none (by rw[Z47];omega)]
theorem Zle(v n k:Nat)(h:v < 256 ^ k):byk v n k=by_ v n:=by
 unfold byk by_
 apply List.map_congr_left
 intro j _
 split
 ·rfl
 ·rw[Nat.div_eq_of_lt (Nat.lt_of_lt_of_le h (Nat.pow_le_pow_right (by decide) (by omega)))]
theorem Zlf(l:List Nat)(h:Dg l)(i:Nat):l.getD i 0%256=vl l / 256 ^ (2*i)%256:=by
 rw[Zoq l h,if_pos (by omega),show 2*i / 2=i by omega]
theorem Zor(l:List Nat)(h:Dg l)(i:Nat):l.getD i 0 / 256=vl l / 256 ^ (2*i+1)%256:=by
 rw[Zoq l h,if_neg (by omega),show(2*i+1) / 2=i by omega]
theorem Zhv(l:List Nat)(h:Dg l):vl l < 256 ^ (2*l.length):=by
 rw[Nat.pow_mul];exact Z3z l h
theorem Z5c(l:List Nat)(k:Nat):le (l.take (k+1))=le (l.take k)+256 ^ k*l.getD k 0:=by
 rw[List.take_add_one]
 cases hk:l[k]? with
 |none=>simp[List.getD_eq_getElem?_getD,hk]
 |some x =>
  have:k < l.length:=(List.getElem?_eq_some_iff.1 hk).1
  rw[Z2l,List.length_take,Nat.min_eq_left (by omega),List.getD_eq_getElem?_getD,hk]
  simp[Z1i,le_nil]
theorem Z51(l:List Nat)(k:Nat)(h:∀x∈l,x < 256):le (l.take k) < 256 ^ k :=
 Ze7 _ _ (fun x hx=>h x (List.mem_of_mem_take hx)) (by rw[List.length_take];omega)
theorem Z3q(q:Nat):(65536:Nat) ^ q=256 ^ (2*q):=by rw[Nat.pow_mul]
theorem Zab{o l:List Nat}(hd:Dg o)(hl:∀x∈l,x < 256)(k q:Nat)(hk:k=2*q)(hv:vl o=le (l.take k)):o.getD q 0=0:=by
 have:=Z51 l k hl
 rw[←Z72 o q hd,hv,Z3q,←hk,Nat.div_eq_of_lt this]
theorem Zcr{o l:List Nat}(hd:Dg o)(hl:∀x∈l,x < 256)(k q:Nat)(hk:k=2*q+1)(hv:vl o=le (l.take k)):o.getD q 0 < 256:=by
 have:=Z51 l k hl
 rw[←Z72 o q hd,hv,Z3q]
 have h2:le (l.take k) / 256 ^ (2*q) < 256:=Nat.div_lt_of_lt_mul (by rw[←Nat.pow_succ];rw[hk] at this ⊢;exact this)
 rw[Nat.mod_eq_of_lt (by omega)];exact h2
theorem Z5j{o l:List Nat}(k q x:Nat)(hk:k=2*q)(hq:q < o.length)(hx:x=l.getD k 0)(h0:o.getD q 0=0)(hv:vl o=le (l.take k)):vl (o.set q (o.getD q 0+x))=le (l.take (k+1)):=by
 have h:=Z75 o q (o.getD q 0+x) hq
 rw[Z5c,←hx,←hv]
 rw[Nat.mul_add] at h
 rw[Z3q,←hk] at h
 omega
theorem Z65{o l:List Nat}(k q x:Nat)(hk:k=2*q+1)(hq:q < o.length)(hx:x=l.getD k 0)(hv:vl o=le (l.take k)):vl (o.set q (o.getD q 0+x*256))=le (l.take (k+1)):=by
 have h:=Z75 o q (o.getD q 0+x*256) hq
 rw[Z5c,←hx,←hv]
 rw[Nat.mul_add,Z3q] at h
 have e:256 ^ (2*q)*(x*256)=256 ^ k*x:=by rw[hk,Nat.pow_succ,Nat.mul_comm x,Nat.mul_assoc]
 omega
def dgk(v n k:Nat):List Nat:=(List.range n).map fun j=>if j < k then v / 65536 ^ j%65536 else 0
theorem Z31(v n k:Nat):(dgk v n k).length=n:=by simp[dgk]
theorem Zbm(v n:Nat):dgk v n 0=List.replicate n 0:=by
 apply List.ext_getElem?
 intro i
 simp only[dgk,List.getElem?_map,List.getElem?_replicate]
 by_cases h:i < n <;> simp[h]
theorem dgk_get?(v n k j:Nat)(hj:j < n):(dgk v n k)[j]?=some (if j < k then v / 65536 ^ j%65536 else 0):=by simp[dgk,hj]
theorem Z7y(v n k x:Nat)(hx:x=v / 65536 ^ k%65536):(dgk v n k).set k x=dgk v n (k+1):=by
 apply List.ext_getElem?
 intro j
 rw[List.getElem?_set,Z31]
 by_cases hj:j < n
 ·rw[dgk_get? _ _ _ _ hj,dgk_get? _ _ _ _ hj]
  by_cases e:k=j
  ·subst e;rw[if_pos rfl,if_pos hj,if_pos (Nat.lt_succ_self _),hx]
  ·rw[if_neg e]
   by_cases h1:j < k
   ·rw[if_pos h1,if_pos (by omega)]
   ·rw[if_neg h1,if_neg (by omega)]
 ·have e1:(dgk v n k)[j]?=none:=List.getElem?_eq_none (by rw[Z31];omega)
  have e2:(dgk v n (k+1))[j]?=none:=List.getElem?_eq_none (by rw[Z31];omega)
  rw[e1,e2]
  split
  ·rw[if_neg (by omega)]
  ·rfl
theorem Zbn(v n k:Nat):Dg (dgk v n k):=by
 intro x hx
 simp only[dgk,List.mem_map] at hx
 obtain⟨j,-, rfl⟩:=hx
 split
 ·exact Nat.mod_lt _ (by decide)
 ·decide
theorem Zos:∀(n v:Nat),vl (dgk v n n)=v%65536 ^ n:=by
 intro n
 induction n with
 |zero=>intro v;simp[dgk,Z3d,Nat.mod_one]
 |succ n ih =>
  intro v
  have e:dgk v (n+1) (n+1)=v%65536 :: dgk (v / 65536) n n:=by
   unfold dgk
   rw[List.range_succ_eq_map,List.map_cons,List.map_map]
   congr 1
   ·rw[if_pos (Nat.succ_pos _),Nat.pow_zero,Nat.div_one]
   ·apply List.map_congr_left
    intro i hi
    have:=List.mem_range.1 hi
    simp only[Function.comp]
    rw[if_pos (by omega),if_pos this,Nat.div_div_eq_div_mul,Nat.pow_succ,Nat.mul_comm (65536 ^ i)]
  rw[e,Z1d,ih,Nat.pow_succ,Nat.mul_comm (65536 ^ n),Nat.mod_mul]
theorem Z66{v n:Nat}(h:v < 65536 ^ n):vl (dgk v n n)=v:=by rw[Zos,Nat.mod_eq_of_lt h]
theorem Z8w(l:List Nat)(h:Dg l)(j:Nat):vl l / 65536 ^ j=l.getD j 0+65536*(vl l / 65536 ^ (j+1)):=by
 have:=Z72 l j h
 rw[Nat.pow_succ,←Nat.div_div_eq_div_mul];omega
theorem Z67(l:List Nat)(h:Dg l)(o j s c d:Nat)(hc:c=2 ^ s)(hd:c*d=65536) :
  (vl l / (65536 ^ o*c)) / 65536 ^ j%65536=l.getD (o+j) 0 / c+l.getD (o+j+1) 0%c*d:=by
 have hc0:0 < c:=by rw[hc];exact Nat.pow_pos (by decide)
 have hd0:0 < d:=Nat.pos_of_ne_zero (by rintro rfl;omega)
 rw[Nat.div_div_eq_div_mul,Nat.mul_assoc,Nat.mul_comm c,←Nat.mul_assoc,←Nat.pow_add,←Nat.div_div_eq_div_mul,Z8w l h (o+j),Z8w l h (o+j+1)]
 have h1:=h.get (o+j)
 have h2:=h.get (o+j+1)
 generalize l.getD (o+j) 0=x at *
 generalize l.getD (o+j+1) 0=y at *
 generalize vl l / 65536 ^ (o+j+1+1)=z
 have e:x+65536*(y+65536*z)=x+c*(d*(y+65536*z)):=by rw[←Nat.mul_assoc,hd]
 rw[e,Nat.add_mul_div_left _ _ hc0]
 have hx:x / c < d:=by rw[Nat.div_lt_iff_lt_mul hc0,Nat.mul_comm,hd];exact h1
 have e2:d*(y+65536*z)=d*(y%c)+65536*(y / c+d*z):=by
  have:=Nat.mod_add_div y c
  have e3:y+65536*z=y%c+c*(y / c+d*z):=by
   rw[Nat.mul_add,←Nat.mul_assoc c d,hd,←Nat.add_assoc,this]
  rw[e3,Nat.mul_add,←Nat.mul_assoc d c,Nat.mul_comm d c,hd]
 rw[e2,←Nat.add_assoc,Nat.add_mul_mod_self_left,Nat.mul_comm d]
 have hy:y%c≤c - 1:=by have:=Nat.mod_lt y hc0;omega
 have h3:y%c*d≤(c - 1)*d:=Nat.mul_le_mul_right _ hy
 rw[Nat.sub_mul,Nat.one_mul,hd] at h3
 have h4:d≤65536:=by rw[←hd];exact Nat.le_mul_of_pos_left d hc0
 generalize y%c*d=z at *
 exact Nat.mod_eq_of_lt (by omega)
def P255:Nat:=57896044618658097711785492504343953926634992332820282019728792003956564819968
theorem Zlg:P255=57896044618658097711785492504343953926634992332820282019728792003956564819968:=rfl
theorem Z1r:P255=65536 ^ 15*32768:=rfl
theorem Z3f:P255=pp+19:=by rw[Z1b];rfl
theorem Zlh:P255*2=65536 ^ 16:=rfl
attribute [irreducible] P255
theorem Zbo(m:Nat):(m%P255+m / P255*19)%pp=m%pp:=by
 have e:=Nat.mod_add_div m P255
 have e2:P255*(m / P255)=pp*(m / P255)+19*(m / P255):=by
  generalize m / P255=q
  rw[Z3f,Nat.add_mul]
 have:m=(m%P255+m / P255*19)+pp*(m / P255):=by omega
 conv=>rhs;rw[this]
 rw[Nat.add_mul_mod_self_left]
theorem Zbp(m:Nat)(h:P255≤m):m%P255+m / P255*19 < m:=by
 have h0:0 < P255:=by rw[Z3f];omega
 have e:=Nat.mod_add_div m P255
 have h1:1≤m / P255:=(Nat.le_div_iff_mul_le h0).2 (by rw[Nat.one_mul];exact h)
 have h2:19 < P255:=by rw[Z3f];have:=Z1y;omega
 have:=Nat.mul_lt_mul_of_pos_right h2 h1
 rw[Nat.mul_comm (m / P255)]
 omega
theorem Zli(m:Nat)(h16:16≤(dg m).length):vl (((dg m).take 16).set 15 ((dg m).getD 15 0%32768))=m%P255:=by
 have hd:=Z0o m
 have hl:((dg m).take 16).length=16:=by rw[List.length_take];omega
 have h:=Z30 ((dg m).take 16) 15 ((dg m).getD 15 0%32768) (by omega)
 rw[List.take_of_length_le (by rw[List.length_set];omega),List.take_take,show min 15 16=15 from rfl] at h
 rw[h,←Zom (dg m) 15 hd,Z0l,Z73,Z1r,Nat.mod_mul]
 congr 1
 rw[Nat.mod_mod_of_dvd _ (by decide)]
theorem Zbq(m n:Nat)(hn:(dg m).length≤n+15):m / P255 < 65536 ^ n:=by
 have h:=(dg_len m (n+15)).1 hn
 rw[Z1r,←Nat.div_div_eq_div_mul]
 refine Nat.lt_of_le_of_lt (Nat.div_le_self _ _) (Nat.div_lt_of_lt_mul ?_)
 rw[←Nat.pow_add,Nat.add_comm];exact h
theorem Z8x(m j:Nat):(m / P255) / 65536 ^ j%65536=(dg m).getD (15+j) 0 / 32768+(dg m).getD (15+j+1) 0%32768*2:=by
 have:=Z67 (dg m) (Z0o m) 15 j 15 32768 2 rfl rfl
 rw[Z0l,←Z1r] at this
 exact this
theorem Zac{m:Nat}(h:32767 < (dg m).getD 15 0):P255≤m:=by
 rw[Z73] at h
 have h1:32768≤m / 65536 ^ 15:=by
  have:=Nat.mod_le (m / 65536 ^ 15) 65536
  omega
 rw[Nat.le_div_iff_mul_le (Nat.pow_pos (by decide))] at h1
 rw[Z1r,Nat.mul_comm];exact h1
theorem Zej{m:Nat}(h:(dg m).length≤16)(h2:(dg m).getD 15 0≤32767):m < P255:=by
 have h1:=(dg_len m 16).1 h
 rw[Z73,Nat.mod_eq_of_lt (Nat.div_lt_of_lt_mul (by rw[←Nat.pow_succ];exact h1))] at h2
 rw[Z1r]
 have:m / 65536 ^ 15 < 32768:=by omega
 rw[Nat.div_lt_iff_lt_mul (Nat.pow_pos (by decide))] at this
 rw[Nat.mul_comm];exact this
theorem Z4i{m:Nat}(h:(dg m).length < 16):m < pp:=by
 have h1:=(dg_len m 15).1 (by omega)
 have:P255=65536 ^ 15*32768:=Z1r
 have:=Z3f
 have:65536 ^ 15*32768 ≥ 65536 ^ 15+19:=by decide
 omega
theorem Z7z{m:Nat}(h:(dg m).length≤16)(h2:(dg m).getD 15 0 < 32767):m < pp:=by
 have h1:=(dg_len m 16).1 h
 rw[Z73,Nat.mod_eq_of_lt (Nat.div_lt_of_lt_mul (by rw[←Nat.pow_succ];exact h1))] at h2
 rw[Nat.div_lt_iff_lt_mul (Nat.pow_pos (by decide))] at h2
 have:P255=65536 ^ 15*32768:=Z1r
 have:=Z3f
 have:65536 ^ 15*32768 ≥ 32767*65536 ^ 15+19:=by decide
 omega
theorem Z68{m:Nat}(h:m < pp):m%pp=m:=Nat.mod_eq_of_lt h
theorem Zek{m:Nat}(h:¬m < pp)(k:m < P255):m%pp=m - pp:=by
 have:=Z3f
 have h19:19 < pp:=by rw[Z1b];decide
 rw[Nat.mod_eq_sub_mod (by omega),Nat.mod_eq_of_lt (by omega)]
def ppl:List Nat:=[65517,65535,65535,65535,65535,65535,65535,65535,65535,65535,65535,65535,65535,65535,65535,32767]
theorem Zk0:vl ppl=pp:=by rw[Z1b];decide +kernel
theorem Zk1:Dg ppl:=by unfold Dg ppl;decide
theorem Zot:Tr ppl:=by unfold Tr ppl;decide
theorem Z69:dg pp=ppl:=by rw[←Zk0];exact Zcp ppl Zk1 Zot
def lb(N k j:Nat):Nat:=N / 2 ^ (51*j)%2 ^ min 51 (k - 51*j)
def lbs(N k:Nat):List Nat:=[lb N k 0,lb N k 1,lb N k 2,lb N k 3,lb N k 4]
theorem Zlj(N j:Nat):lb N 0 j=0:=by unfold lb;simp[Nat.mod_one]
theorem Z6a(N k j:Nat)(h:51*j+51≤k):lb N k j=N / 2 ^ (51*j)%2251799813685248:=by
 unfold lb;rw[Nat.min_eq_left (by omega)]
theorem Zlk(N k j r:Nat)(hk:k=51*j+r)(hr:r < 51):lb N (k+1) j=lb N k j+N / 2 ^ k%2*2 ^ r∧lb N k j < 2 ^ r:=by
 unfold lb
 rw[show k+1 - 51*j=r+1 by omega,show k - 51*j=r by omega,Nat.min_eq_right (by omega),Nat.min_eq_right (by omega),Nat.pow_succ,Nat.mod_mul,Nat.div_div_eq_div_mul,←Nat.pow_add,←hk,Nat.mul_comm (2 ^ r)]
 exact⟨rfl,Nat.mod_lt _ (Nat.pow_pos (by decide))⟩
theorem Zhw(N k j q r:Nat)(hk:k=51*q+r)(hr:r < 51)(hj:j≠q):lb N (k+1) j=lb N k j:=by
 unfold lb
 congr 2
 omega
theorem Z80(N k:Nat):(lbs N k).length=5:=rfl
theorem Zad(N k j:Nat)(hj:j < 5):(lbs N k)[j]?=some (lb N k j):=by
 match j,hj with
 |0,_=>rfl
 |1,_=>rfl
 |2,_=>rfl
 |3,_=>rfl
 |4,_=>rfl
theorem Zll(N k q r x:Nat)(hk:k=51*q+r)(hr:r < 51)(hq:q < 5)(hx:x=lb N (k+1) q):(lbs N k).set q x=lbs N (k+1):=by
 apply List.ext_getElem?
 intro j
 rw[List.getElem?_set,Z80]
 by_cases hj:j < 5
 ·rw[Zad _ _ _ hj,Zad _ _ _ hj]
  by_cases e:q=j
  ·subst e;rw[if_pos rfl,if_pos hq,hx]
  ·rw[if_neg e,Zhw N k j q r hk hr (fun h=>e h.symm)]
 ·have e1:(lbs N k)[j]?=none:=List.getElem?_eq_none (by rw[Z80];omega)
  have e2:(lbs N (k+1))[j]?=none:=List.getElem?_eq_none (by rw[Z80];omega)
  rw[e1,e2,if_neg (by omega)]
theorem Zlm(N:Nat)(h:N < P255):lbs N 255=[(el N).a,(el N).b,(el N).c,(el N).d,(el N).e]:=by
 have hb:N < 57896044618658097711785492504343953926634992332820282019728792003956564819968:=by rw[←Zlg];exact h
 unfold lbs
 rw[Z6a N 255 0 (by omega),Z6a N 255 1 (by omega),Z6a N 255 2 (by omega),Z6a N 255 3 (by omega),Z6a N 255 4 (by omega)]
 show[N / 1%2251799813685248,N / 2251799813685248%2251799813685248,N / 5070602400912917605986812821504%2251799813685248,N / 11417981541647679048466287755595961091061972992%2251799813685248,N / 25711008708143844408671393477458601640355247900524685364822016%2251799813685248]=_
 rw[Nat.div_one,Nat.mod_eq_of_lt (a:=N / 25711008708143844408671393477458601640355247900524685364822016) (by omega)]
 rfl
theorem Zbr(N i:Nat):N / 256 ^ (i / 8)%256 / 2 ^ (i%8)%2=N / 2 ^ i%2:=by
 have e:(256:Nat) ^ (i / 8)=2 ^ (8*(i / 8)):=by rw[show(256:Nat)=2 ^ 8 from rfl,←Nat.pow_mul]
 rw[e]
 conv=>rhs;rw[show i=8*(i / 8)+i%8 by omega,Nat.pow_add,←Nat.div_div_eq_div_mul]
 generalize N / 2 ^ (8*(i / 8))=q
 have h8:i%8 < 8:=Nat.mod_lt _ (by decide)
 generalize i%8=r at *
 match r,h8 with
 |0,_=>simp only[Nat.reducePow];omega
 |1,_=>simp only[Nat.reducePow];omega
 |2,_=>simp only[Nat.reducePow];omega
 |3,_=>simp only[Nat.reducePow];omega
 |4,_=>simp only[Nat.reducePow];omega
 |5,_=>simp only[Nat.reducePow];omega
 |6,_=>simp only[Nat.reducePow];omega
 |7,_=>simp only[Nat.reducePow];omega
def Mx(l:List Nat)(b:Nat):Prop:=∀x∈l,x≤b
theorem Mx.get{l:List Nat}{b:Nat}(h:Mx l b)(p:Nat):l.getD p 0≤b:=by
 rw[List.getD_eq_getElem?_getD]
 cases hk:l[p]? with
 |none=>simp
 |some x=>exact h x (List.mem_of_getElem? hk)
theorem Mx.set{l:List Nat}{b:Nat}(h:Mx l b)(p y:Nat)(hy:y≤b):Mx (l.set p y) b:=by
 intro x hx
 rcases List.mem_or_eq_of_mem_set hx with h1|h1
 ·exact h x h1
 ·subst h1;exact hy
theorem Mx.le{l:List Nat}{b c:Nat}(h:Mx l b)(hc:b≤c):Mx l c:=fun x hx=>Nat.le_trans (h x hx) hc
theorem Zou(o:List Nat)(i k a b V:Nat)(lb_:List Nat)(hp:i+k < o.length)(hb:b=lb_.getD k 0)(hv:vl o=V+65536 ^ i*(a*vl (lb_.take k))) :
  vl (o.set (i+k) (o.getD (i+k) 0+a*b))=V+65536 ^ i*(a*vl (lb_.take (k+1))):=by
 have h:=Z75 o (i+k) (o.getD (i+k) 0+a*b) hp
 rw[Z0n,←hb,Nat.mul_add,Nat.mul_add,←Nat.add_assoc,←hv]
 rw[Nat.mul_add,←Nat.add_assoc] at h
 have e:65536 ^ (i+k)*(a*b)=65536 ^ i*(a*(65536 ^ k*b)):=by rw[Nat.pow_add,Nat.mul_assoc,Nat.mul_left_comm a]
 omega
theorem Zln(la lb_:List Nat)(o:List Nat)(i:Nat)(hv:vl o=vl (la.take i)*vl lb_+65536 ^ i*(la.getD i 0*vl lb_)):vl o=vl (la.take (i+1))*vl lb_:=by
 rw[hv,Z0n,Nat.add_mul,Nat.mul_assoc]
def fld(o:List Nat)(k:Nat):List Nat:=(List.range 16).map fun j=>if j < k then o.getD j 0+38*o.getD (j+16) 0 else 0
theorem Z6b(o:List Nat)(k:Nat):(fld o k).length=16:=by simp[fld]
theorem fld_get?(o:List Nat)(k j:Nat)(hj:j < 16):(fld o k)[j]?=some (if j < k then o.getD j 0+38*o.getD (j+16) 0 else 0):=by simp[fld,hj]
theorem Zhx(o:List Nat):fld o 0=List.replicate 16 0:=by
 apply List.ext_getElem?
 intro i
 simp only[fld,List.getElem?_map,List.getElem?_replicate]
 by_cases h:i < 16 <;> simp[h]
theorem Zlo(o:List Nat)(k x:Nat)(hx:x=o.getD k 0+38*o.getD (k+16) 0):(fld o k).set k x=fld o (k+1):=by
 apply List.ext_getElem?
 intro j
 rw[List.getElem?_set,Z6b]
 by_cases hj:j < 16
 ·rw[fld_get? _ _ _ hj,fld_get? _ _ _ hj]
  by_cases e:k=j
  ·subst e;rw[if_pos rfl,if_pos hj,if_pos (Nat.lt_succ_self _),hx]
  ·rw[if_neg e]
   by_cases h1:j < k
   ·rw[if_pos h1,if_pos (by omega)]
   ·rw[if_neg h1,if_neg (by omega)]
 ·have e1:(fld o k)[j]?=none:=List.getElem?_eq_none (by rw[Z6b];omega)
  have e2:(fld o (k+1))[j]?=none:=List.getElem?_eq_none (by rw[Z6b];omega)
  rw[e1,e2]
  split
  ·rw[if_neg (by omega)]
  ·rfl
theorem Zov(o:List Nat)(b k:Nat)(h:Mx o b):Mx (fld o k) (39*b):=by
 intro x hx
 simp only[fld,List.mem_map] at hx
 obtain⟨j,-, rfl⟩:=hx
 have h1:=h.get j
 have h2:=h.get (j+16)
 split <;> omega
theorem Zow(o:List Nat)(h:o.length=32):vl (fld o 16)=vl (o.take 16)+38*vl (o.drop 16):=by
 have key:∀(n:Nat) (a b:List Nat),a.length=n→b.length=n→vl ((List.range n).map fun j=>a.getD j 0+38*b.getD j 0)=vl a+38*vl b:=by
  intro n
  induction n with
  |zero =>
   intro a b ha hb
   rw[List.length_eq_zero_iff] at ha hb
   subst ha hb;rfl
  |succ n ih =>
   intro a b ha hb
   match a,b,ha,hb with
   |x :: a,y :: b,ha,hb =>
    rw[List.range_succ_eq_map,List.map_cons,List.map_map,Z1d,Z1d,Z1d]
    have:=ih a b (by simpa using ha) (by simpa using hb)
    have e:((fun j=>(x :: a).getD j 0+38*(y :: b).getD j 0) ∘ Nat.succ)=fun j=>a.getD j 0+38*b.getD j 0:=by
     funext j
     simp
    rw[e,this]
    simp only[List.getD_cons_zero]
    omega
 rw[←key 16 (o.take 16) (o.drop 16) (by rw[List.length_take,h];rfl) (by rw[List.length_drop,h])]
 unfold fld
 congr 1
 apply List.map_congr_left
 intro j hj
 have hj':=List.mem_range.1 hj
 rw[if_pos hj']
 congr 1
 ·simp only[List.getD_eq_getElem?_getD];rw[List.getElem?_take_of_lt hj']
 ·simp only[List.getD_eq_getElem?_getD];rw[List.getElem?_drop,Nat.add_comm]
theorem Zel(a b:Nat):(a+38*b)%pp=(a+65536 ^ 16*b)%pp:=by
 have:65536 ^ 16=38+pp*2:=by rw[Z1b]
 rw[this,Nat.add_mul,←Nat.add_assoc,Nat.mul_assoc,Nat.add_mul_mod_self_left]
theorem Zox(o:List Nat)(h:o.length=32):vl (fld o 16)%pp=vl o%pp:=by
 rw[Zow o h,Zel,←Z4g o 16]
theorem Zem(t:List Nat)(i c x V:Nat)(hi:i < t.length)(hx:x=t.getD i 0+c)(hv:vl t+65536 ^ i*c=V):vl (t.set i (x%65536))+65536 ^ (i+1)*(x / 65536)=V:=by
 have:=Z77 t i c x 0 0 V hi (by omega) hv
 rw[this];omega
theorem Zhy(t:List Nat)(c V:Nat)(ht:t.length=16)(hv:vl t+65536 ^ 16*c=V):vl (t.set 0 (t.getD 0 0+38*c))%pp=V%pp∧(0 < c→vl (t.set 0 (t.getD 0 0+38*c)) < V):=by
 have h:=Z75 t 0 (t.getD 0 0+38*c) (by omega)
 rw[Nat.pow_zero,Nat.one_mul,Nat.one_mul] at h
 have e:vl (t.set 0 (t.getD 0 0+38*c))=vl t+38*c:=by omega
 refine⟨by rw[e,Zel,hv],fun hc=>?_⟩
 rw[e,←hv]
 have:38*c < 65536 ^ 16*c:=Nat.mul_lt_mul_of_pos_right (by decide) hc
 omega
end Go.Proofs.YtjimhjfjfpeojaaGreatDoor.Fd
