/- Joined texts. -/

set_option linter.unusedVariables false
namespace Go.Proofs.YtoibhnpmemnlfaaGreatDoor.Fd
def ch:Nat→Nat→Nat
 |_,0=>1
 |0,_+1=>0
 |n+1,k+1=>ch n k+ch n (k+1)
theorem ch_zero(n:Nat):ch n 0=1:=by cases n <;> rfl
theorem ch_above:∀(n k:Nat),n < k→ch n k=0:=by
 intro n
 induction n with
 |zero=>intro k h;cases k with
  |zero=>omega
  |succ k=>rfl
 |succ n ih=>intro k h;cases k with
  |zero=>omega
  |succ k=>rw[ch,ih k (by omega),ih (k+1) (by omega)]
theorem ch_self(n:Nat):ch n n=1:=by
 induction n with
 |zero=>rfl
 |succ n ih=>rw[ch,ih,ch_above n (n+1) (by omega)]
theorem ch_mul:∀(n k:Nat),(k+1)*ch (n+1) (k+1)=(n+1)*ch n k:=by
 intro n
 induction n with
 |zero =>
  intro k
  cases k with
  |zero=>rfl
  |succ k=>simp[ch]
 |succ n ih =>
  intro k
  cases k with
  |zero =>
   have:=ih 0
   simp only[ch_zero,Nat.zero_add,Nat.one_mul,Nat.mul_one] at this ⊢
   rw[ch,ch_zero,this];omega
  |succ k =>
   have h1:=ih k
   have h2:=ih (k+1)
   have e:ch (n+1) (k+1)=ch n k+ch n (k+1):=rfl
   rw[show ch (n+1+1) (k+1+1)=ch (n+1) (k+1)+ch (n+1) (k+1+1) from rfl,Nat.mul_add,h2]
   rw[show(k+1+1)*ch (n+1) (k+1)=(k+1)*ch (n+1) (k+1)+ch (n+1) (k+1) by rw[Nat.add_mul,Nat.one_mul],h1,e]
   simp only[Nat.add_mul,Nat.mul_add,Nat.one_mul]
   omega
def bs(a n:Nat):Nat→Nat
 |0=>0
 |m+1=>bs a n m+ch n m*a ^ m
theorem bs_step(a n:Nat):∀m,bs a (n+1) (m+1)=bs a n (m+1)+a*bs a n m:=by
 intro m
 induction m with
 |zero=>simp[bs,ch_zero]
 |succ m ih =>
  rw[bs,ih,bs,bs,show ch (n+1) (m+1)=ch n m+ch n (m+1) from rfl]
  rw[show a*(bs a n m+ch n m*a ^ m)=a*bs a n m+ch n m*a ^ (m+1) by rw[Nat.mul_add,Nat.pow_succ,Nat.mul_left_comm,Nat.mul_comm (a ^ m) a]]
  rw[show(bs a n (m+1))=bs a n m+ch n m*a ^ m from rfl,Nat.add_mul]
  omega
theorem bs_all(a:Nat):∀n,bs a n (n+1)=(a+1) ^ n:=by
 intro n
 induction n with
 |zero=>simp[bs,ch]
 |succ n ih =>
  rw[bs_step,bs,ih,ch_above n (n+1) (by omega),Nat.zero_mul,Nat.pow_succ (a+1) n,Nat.mul_add,Nat.mul_comm a]
  omega
def Pr(p:Nat):Prop:=1 < p∧∀d,d∣p→d=1∨d=p
theorem Pr.euclid{p a b:Nat}(hp:Pr p)(h:p∣a*b):p∣a∨p∣b:=by
 rcases hp.2 _ (Nat.gcd_dvd_left p a) with h1|h1
 ·exact .inr (Nat.Coprime.dvd_of_dvd_mul_left h1 h)
 ·exact .inl (by rw[←h1];exact Nat.gcd_dvd_right p a)
theorem Pr.ch{p:Nat}(hp:Pr p)(k:Nat)(h0:0 < k)(hk:k < p):p∣ch p k:=by
 obtain⟨n,rfl⟩:∃n,p=n+1:=⟨p - 1,by have:=hp.1;omega⟩
 obtain⟨j,rfl⟩:∃j,k=j+1:=⟨k - 1,by omega⟩
 rcases hp.euclid (a:=j+1) (b:=Fd.ch (n+1) (j+1)) ⟨Fd.ch n j,ch_mul n j⟩ with h|h
 ·exact absurd (Nat.le_of_dvd (by omega) h) (by omega)
 ·exact h
theorem bs_mid{p:Nat}(hp:Pr p)(a:Nat):∀m,0 < m→m≤p→bs a p m%p=1%p:=by
 intro m
 induction m with
 |zero=>intro h;omega
 |succ m ih =>
  intro _ hm
  by_cases h0:m=0
  ·subst h0;simp[bs,ch_zero]
  ·rw[bs,Nat.add_mod,ih (by omega) (by omega),Nat.mul_mod,Nat.mod_eq_zero_of_dvd (hp.ch m (by omega) (by omega))]
   simp
theorem Pr.pow_self{p:Nat}(hp:Pr p)(a:Nat):a ^ p%p=a%p:=by
 induction a with
 |zero=>rw[Nat.zero_pow (by have:=hp.1;omega)]
 |succ a ih =>
  rw[←bs_all,bs,ch_self,Nat.one_mul,Nat.add_mod,ih,bs_mid hp a p (by have:=hp.1;omega) (Nat.le_refl _),←Nat.add_mod,Nat.add_comm]
theorem Pr.fermat {p : Nat} (hp : Pr p) (a : Nat) (ha : a % p ≠ 0) : a ^ (p - 1) % p = 1 := by
  have h := hp.pow_self a
  obtain ⟨n, rfl⟩ : ∃ n, p = n + 1 := ⟨p - 1, by have := hp.1; omega⟩
  have h1 := hp.1
  rw [Nat.add_sub_cancel]
  have hge : a ≤ a ^ (n + 1) := by
    rcases Nat.eq_zero_or_pos a with h0 | h0
    · subst h0; exact Nat.zero_le _
    · calc a = a ^ 1 := (Nat.pow_one a).symm
        _ ≤ a ^ (n + 1) := Nat.pow_le_pow_right h0 (by omega)
  have hd : (n + 1) ∣ a ^ (n + 1) - a := Nat.dvd_of_mod_eq_zero (Nat.sub_mod_eq_zero_of_mod_eq h)
  have e : a ^ (n + 1) - a = a * (a ^ n - 1) := by rw [Nat.mul_sub, Nat.mul_one, Nat.pow_succ, Nat.mul_comm]
  rw [e] at hd
  rcases hp.euclid hd with h2 | h2
  · exact absurd (Nat.mod_eq_zero_of_dvd h2) ha
  · have hpos : 1 ≤ a ^ n := by
      rcases Nat.eq_zero_or_pos a with h | h
      · subst h; exact absurd (Nat.zero_mod _) ha
      · exact Nat.pow_pos h
    obtain ⟨c, hc⟩ := h2
    rw [show a ^ n = 1 + (n + 1) * c by omega, Nat.add_mul_mod_self_left, Nat.mod_eq_of_lt h1]
theorem pow_one_mul{d g a:Nat}(hd:1 < d)(h:g ^ a%d=1)(k:Nat):g ^ (a*k)%d=1:=by
 rw[Nat.pow_mul,Nat.pow_mod,h,Nat.one_pow,Nat.mod_eq_of_lt hd]
theorem pow_one_mod{d g a b:Nat}(hd:1 < d)(ha:g ^ a%d=1)(hb:g ^ b%d=1):g ^ (b%a)%d=1:=by
 have e:g ^ b%d=g ^ (b%a)%d:=by
  conv=>lhs;rw[←Nat.div_add_mod b a,Nat.pow_add,Nat.mul_mod,pow_one_mul hd ha,Nat.one_mul,Nat.mod_mod]
 rw[←e,hb]
theorem pow_one_gcd{d g:Nat}(hd:1 < d):∀(a b:Nat),g ^ a%d=1→g ^ b%d=1→g ^ (Nat.gcd a b)%d=1:=by
 intro a b
 induction a,b using Nat.gcd.induction with
 |H0 b=>intro _ hb;rwa [Nat.gcd_zero_left]
 |H1 a b h ih =>
  intro ha hb
  rw[Nat.gcd_rec]
  exact ih (pow_one_mod hd ha hb) ha
theorem q_dvd{n q m d g:Nat}(h1n:1 < n)(hq:Pr q)(hn:n - 1=q*m)(hd:Pr d)(hdn:d∣n)(h1:g ^ (n - 1)%n=1)(h2:Nat.gcd (g ^ m%n+(n - 1)) n=1):q∣d - 1:=by
 have hd1:=hd.1
 have e1:g ^ (n - 1)%d=1:=by
  rw[←Nat.mod_mod_of_dvd _ hdn,h1,Nat.mod_eq_of_lt hd1]
 have hg:g%d≠0:=by
  intro h0
  rw[Nat.pow_mod,h0,Nat.zero_pow (by omega),Nat.zero_mod] at e1
  cases e1
 have e2:=hd.fermat g hg
 have e3:=pow_one_gcd hd1 _ _ e1 e2
 rcases hq.2 _ (Nat.gcd_dvd_left q (Nat.gcd (n - 1) (d - 1))) with hc|hc
 ·exfalso
  have h3:Nat.gcd (n - 1) (d - 1)∣q*m:=hn▸Nat.gcd_dvd_left _ _
  have h4:Nat.gcd (n - 1) (d - 1)∣m:=Nat.Coprime.dvd_of_dvd_mul_left (by rw[Nat.Coprime,Nat.gcd_comm];exact hc) h3
  obtain⟨k,hk⟩:=h4
  have e4:g ^ m%d=1:=by rw[hk];exact pow_one_mul hd1 e3 k
  have h5:d∣g ^ m%n+(n - 1):=by
   apply Nat.dvd_of_mod_eq_zero
   rw[Nat.add_mod,Nat.mod_mod_of_dvd _ hdn,e4]
   obtain⟨c,rfl⟩:=hdn
   have h0:(1+(d*c - 1))%d=0:=by
    rw[show 1+(d*c - 1)=d*c by omega,Nat.mul_mod_right]
   rw[←h0]
   conv=>rhs;rw[Nat.add_mod,Nat.mod_eq_of_lt hd1]
  have h6:=Nat.dvd_gcd h5 hdn
  rw[h2] at h6
  exact absurd (Nat.dvd_one.1 h6) (by omega)
 ·rw[←hc]
  exact Nat.dvd_trans (Nat.gcd_dvd_right _ _) (Nat.gcd_dvd_right _ _)
theorem least_prime : ∀ (n : Nat), 1 < n → ∃ d, Pr d ∧ d ∣ n := by
  intro n
  induction n using Nat.strongRecOn with
  | _ n ih =>
    intro h1
    by_cases hp : Pr n
    · exact ⟨n, hp, Nat.dvd_refl n⟩
    · have : ∃ d, d ∣ n ∧ d ≠ 1 ∧ d ≠ n := by
        apply Classical.byContradiction
        intro hno
        exact hp ⟨h1, fun d hd => by
          apply Classical.byContradiction
          intro hd2
          exact hno ⟨d, hd, fun h => hd2 (.inl h), fun h => hd2 (.inr h)⟩⟩
      obtain ⟨d, hd, hd1, hdn⟩ := this
      have hle := Nat.le_of_dvd (by omega) hd
      have hpos : 0 < d := Nat.pos_of_dvd_of_pos hd (by omega)
      obtain ⟨e, he, hed⟩ := ih d (by omega) (by omega)
      exact ⟨e, he, Nat.dvd_trans hed hd⟩
theorem prime_of{n:Nat}(h1:1 < n)(h:∀d,Pr d→d∣n→n < d*d):Pr n:=by
 refine⟨h1,fun e he=>?_⟩
 obtain⟨f,rfl⟩:=he
 by_cases he1:e=1
 ·exact .inl he1
 ·by_cases hf1:f=1
  ·exact .inr (by rw[hf1,Nat.mul_one])
  ·exfalso
   have he0:0 < e:=Nat.pos_of_ne_zero (by rintro rfl;omega)
   have hf0:0 < f:=Nat.pos_of_ne_zero (by rintro rfl;omega)
   obtain⟨d,hd,hde⟩:=least_prime e (by omega)
   obtain⟨d',hd',hdf⟩:=least_prime f (by omega)
   have g1:=h d hd (Nat.dvd_trans hde (Nat.dvd_mul_right _ _))
   have g2:=h d' hd' (Nat.dvd_trans hdf (Nat.dvd_mul_left _ _))
   have l1:=Nat.le_of_dvd he0 hde
   have l2:=Nat.le_of_dvd hf0 hdf
   have m:=Nat.mul_le_mul l1 l2
   rcases Nat.le_total d d' with hh|hh
   ·have:=Nat.mul_le_mul_left d hh;omega
   ·have:=Nat.mul_le_mul_right d' hh;omega
theorem pocklington{n q r m k g f:Nat}(h1:1 < n)(hq:Pr q)(hr:r=1∨(Pr r∧r≠q∧n - 1=r*k∧f ^ (n - 1)%n=1∧Nat.gcd (f ^ k%n+(n - 1)) n=1))(hn:n - 1=q*m)
  (hg:g ^ (n - 1)%n=1) (hg2:Nat.gcd (g ^ m%n+(n - 1)) n=1) (hF:n≤(q*r)*(q*r)):Pr n:=by
 refine prime_of h1 fun d hd hdn=>?_
 have a1:=q_dvd h1 hq hn hd hdn hg hg2
 have key:q*r∣d - 1:=by
  rcases hr with rfl|⟨hr,hne,hk,hf,hf2⟩
  ·rwa [Nat.mul_one]
  ·have a2:=q_dvd h1 hr hk hd hdn hf hf2
   refine Nat.Coprime.mul_dvd_of_dvd_of_dvd ?_ a1 a2
   rcases hq.2 _ (Nat.gcd_dvd_left q r) with h|h
   ·exact h
   ·have h2:q∣r:=h▸Nat.gcd_dvd_right q r
    rcases hr.2 _ h2 with h3|h3
    ·have:=hq.1;omega
    ·exact absurd h3.symm hne
 have hd1:=hd.1
 have:=Nat.le_of_dvd (by omega) key
 have h3:q*r < d:=by omega
 exact Nat.lt_of_le_of_lt hF (Nat.mul_lt_mul'' h3 h3)
def mp:Nat→Nat→Nat→Nat→Nat→Nat
 |0,acc,_,_,_=>acc
 |s+1,acc,g,e,n=>if e=0 then acc else mp s (if e%2=1 then acc*g%n else acc) (g*g%n) (e / 2) n
theorem mp_eq : ∀ (s acc g e n : Nat), e < 2 ^ s → acc < n → mp s acc g e n = acc * g ^ e % n := by
  intro s
  induction s with
  | zero => intro acc g e n he ha; have : e = 0 := by omega
            subst this; rw [mp, Nat.pow_zero, Nat.mul_one, Nat.mod_eq_of_lt ha]
  | succ s ih =>
    intro acc g e n he ha
    rw [mp]
    by_cases h0 : e = 0
    · subst h0; rw [if_pos rfl, Nat.pow_zero, Nat.mul_one, Nat.mod_eq_of_lt ha]
    · rw [if_neg h0]
      have hn : 0 < n := by omega
      rw [Nat.pow_succ] at he
      have hsq : (g * g % n) ^ (e / 2) % n = g ^ (e / 2 * 2) % n := by
        rw [← Nat.pow_mod, Nat.mul_comm (e / 2) 2, Nat.pow_mul, Nat.pow_two]
      rcases Nat.mod_two_eq_zero_or_one e with h | h
      · rw [if_neg (by omega), ih _ _ _ _ (by omega) ha, Nat.mul_mod, hsq, ← Nat.mul_mod, show e / 2 * 2 = e by omega]
      · rw [if_pos h, ih _ _ _ _ (by omega) (Nat.mod_lt _ hn), Nat.mul_mod, hsq, Nat.mod_mod, ← Nat.mul_mod, Nat.mul_assoc, ← Nat.pow_succ', show (e / 2 * 2).succ = e by omega]
theorem pow_eq{s g e n x:Nat}(he:e < 2 ^ s)(hn:1 < n)(h:mp s 1 g e n=x):g ^ e%n=x:=by
 rw[←h,mp_eq s 1 g e n he hn,Nat.one_mul]
def nd:Nat→Nat→Nat→Bool
 |0,_,_=>true
 |s+1,i,n=>if n%i=0 then false else nd s (i+1) n
theorem nd_eq:∀(s i n:Nat),nd s i n=true→∀d,i≤d→d < i+s→¬d∣n:=by
 intro s
 induction s with
 |zero=>intro i n _ d h1 h2;omega
 |succ s ih =>
  intro i n h d h1 h2 hd
  rw[nd] at h
  split at h
  ·cases h
  ·rename_i hne
   by_cases e:d=i
   ·subst e;exact hne (Nat.mod_eq_zero_of_dvd hd)
   ·exact ih (i+1) n h d (by omega) (by omega) hd
theorem prime_small{n s:Nat}(h1:1 < n)(hs:n < (s+2)*(s+2))(h:nd s 2 n=true):Pr n:=by
 refine prime_of h1 fun d hd hdn=>?_
 rcases Nat.lt_or_ge d (s+2) with h2|h2
 ·exact absurd hdn (nd_eq s 2 n h d hd.1 (by omega))
 ·exact Nat.lt_of_lt_of_le hs (Nat.mul_le_mul h2 h2)
theorem cert{n q r m k g f s:Nat}(h1:1 < n)(hs:n < 2 ^ s)(hq:Pr q)(hn:n - 1=q*m)(hg:mp s 1 g (n - 1) n=1)(hg2:Nat.gcd (mp s 1 g m n+(n - 1)) n=1)
  (hr:r=1∨(Pr r∧r≠q∧n - 1=r*k∧mp s 1 f (n - 1) n=1∧Nat.gcd (mp s 1 f k n+(n - 1)) n=1)) (hF:n≤(q*r)*(q*r)):Pr n:=by
 have le_of:∀ {a b:Nat},Pr a→n - 1=a*b→b < 2 ^ s:=fun{a b} ha hb=>by
  have:=Nat.mul_le_mul_right b (Nat.le_of_lt ha.1)
  omega
 have e1:g ^ (n - 1)%n=1:=pow_eq (by omega) h1 hg
 have e2:g ^ m%n=mp s 1 g m n:=pow_eq (le_of hq hn) h1 rfl
 refine pocklington (q:=q) (r:=r) (m:=m) (k:=k) (g:=g) (f:=f) h1 hq ?_ hn e1 (by rw[e2];exact hg2) hF
 rcases hr with hr|⟨hr,hne,hk,hf,hf2⟩
 ·exact .inl hr
 ·refine .inr ⟨hr,hne,hk,pow_eq (by omega) h1 hf,?_⟩
  rw[pow_eq (le_of hr hk) h1 rfl]
  exact hf2
set_option maxRecDepth 100000 in
theorem pr_8574133:Pr 8574133:=prime_small (s:=2928) (by decide) (by decide) (by decide +kernel)
theorem pr_7:Pr 7:=prime_small (s:=2) (by decide) (by decide) (by decide +kernel)
theorem pr_16d_86763:Pr 1919519569386763 :=
 cert (q:=8574133) (r:=7) (m:=223873314) (k:=274217081340966) (g:=2) (f:=2) (s:=52) (by decide +kernel) (by decide +kernel) pr_8574133 (by decide +kernel) (by decide +kernel) (by decide +kernel)
  (.inr ⟨pr_7,by decide,by decide +kernel,by decide +kernel,by decide +kernel⟩) (by decide +kernel)
theorem pr_75707:Pr 75707:=prime_small (s:=275) (by decide) (by decide) (by decide +kernel)
theorem pr_35d_64801:Pr 75445702479781427272750846543864801 :=
 cert (q:=1919519569386763) (r:=75707) (m:=39304471641247389600) (k:=996548568557483816196003626400) (g:=2) (f:=2) (s:=117) (by decide +kernel) (by decide +kernel) pr_16d_86763 (by decide +kernel) (by decide +kernel) (by decide +kernel)
  (.inr ⟨pr_75707,by decide,by decide +kernel,by decide +kernel,by decide +kernel⟩) (by decide +kernel)
theorem pr_353:Pr 353:=prime_small (s:=18) (by decide) (by decide) (by decide +kernel)
theorem pr_71d_40907:Pr 74058212732561358302231226437062788676166966415465897661863160754340907 :=
 cert (q:=75445702479781427272750846543864801) (r:=353) (m:=981609426360740691344999861639072106) (k:=209796636636151156663544550813209033076960244803019540118592523383402) (g:=2) (f:=2) (s:=237) (by decide +kernel) (by decide +kernel) pr_35d_64801 (by decide +kernel) (by decide +kernel) (by decide +kernel)
  (.inr ⟨pr_353,by decide,by decide +kernel,by decide +kernel,by decide +kernel⟩) (by decide +kernel)
theorem pr_77d_19949:Pr 57896044618658097711785492504343953926634992332820282019728792003956564819949 :=
 cert (q:=74058212732561358302231226437062788676166966415465897661863160754340907) (r:=1) (m:=781764) (k:=1) (g:=2) (f:=1) (s:=256) (by decide +kernel) (by decide +kernel) pr_71d_40907 (by decide +kernel) (by decide +kernel) (by decide +kernel)
  (.inl rfl) (by decide +kernel)
end Go.Proofs.YtoibhnpmemnlfaaGreatDoor.Fd
namespace Go.Proofs.YtoibhnpmemnlfaaGreatDoor.Fd
def pp:Nat:=57896044618658097711785492504343953926634992332820282019728792003956564819949
theorem pp_eq:pp=57896044618658097711785492504343953926634992332820282019728792003956564819949:=rfl
theorem pp_prime:Pr pp:=pr_77d_19949
theorem pp_pos:0 < pp:=by decide
theorem pp_one:1 < pp:=by decide
attribute [irreducible] pp
structure E5 where
 a:Nat
 b:Nat
 c:Nat
 d:Nat
 e:Nat
namespace E5
def ok(x:E5):Prop:=x.a < 18446744073709551616∧x.b < 18446744073709551616∧x.c < 18446744073709551616∧x.d < 18446744073709551616∧x.e < 18446744073709551616
def val(x:E5):Nat:=x.a+2251799813685248*x.b+5070602400912917605986812821504*x.c+11417981541647679048466287755595961091061972992*x.d+25711008708143844408671393477458601640355247900524685364822016*x.e
def low(x:E5):Prop:=x.a < 2251799813685248∧x.b < 2251799813685248∧x.c < 2251799813685248∧x.d < 2251799813685248∧x.e < 2251799813685248
def light(x:E5):Prop:=x.a < 2251799813947392∧x.b < 2251799813947392∧x.c < 2251799813947392∧x.d < 2251799813947392∧x.e < 2251799813947392
def sum(x:E5):Nat:=x.a+x.b+x.c+x.d+x.e
def carry(x:E5):E5:=⟨x.a%2251799813685248+19*(x.e / 2251799813685248),x.b%2251799813685248+x.a / 2251799813685248,x.c%2251799813685248+x.b / 2251799813685248,x.d%2251799813685248+x.c / 2251799813685248,x.e%2251799813685248+x.d / 2251799813685248⟩
theorem low.light{x:E5}(h:x.low):x.light:=by unfold low at h;unfold E5.light;omega
theorem light.ok{x:E5}(h:x.light):x.ok:=by unfold light at h;unfold E5.ok;omega
theorem carry_light{x:E5}(h:x.ok):x.carry.light:=by
 unfold ok at h;unfold light carry;simp only;omega
theorem carry_val(x:E5):x.carry.val%pp=x.val%pp:=by
 have:x.val=x.carry.val+pp*(x.e / 2251799813685248):=by
  rw[pp_eq];unfold carry val;simp only;omega
 rw[this,Nat.add_mul_mod_self_left]
theorem carry_sum{x:E5}(h:¬x.low):x.carry.sum < x.sum:=by
 unfold low at h;unfold carry sum;simp only;omega
end E5
def el(n:Nat):E5:=⟨n%2251799813685248,n / 2251799813685248%2251799813685248,n / 5070602400912917605986812821504%2251799813685248,n / 11417981541647679048466287755595961091061972992%2251799813685248,n / 25711008708143844408671393477458601640355247900524685364822016⟩
theorem el_val(n:Nat):(el n).val=n:=by
 unfold el E5.val;simp only;omega
theorem el_low{n:Nat}(h:n < pp):(el n).low:=by
 rw[pp_eq] at h;unfold el E5.low;simp only;omega
theorem el_ok{n:Nat}(h:n < pp):(el n).ok:=(el_low h).light.ok
theorem el_of{x:E5}(h:x.low):x=el x.val:=by
 obtain⟨a,b,c,d,e⟩:=x
 unfold E5.low at h;unfold el E5.val;simp only at h ⊢
 simp only[E5.mk.injEq]
 omega
theorem el_inj{n m:Nat}(h:el n=el m):n=m:=by rw[←el_val n,h,el_val]
theorem mod_lt(n:Nat):n%pp < pp:=Nat.mod_lt _ pp_pos
theorem red_small{x:E5}(h:x.low)(hn:¬(2251799813685229≤x.a∧x.b=2251799813685247∧x.c=2251799813685247∧x.d=2251799813685247∧x.e=2251799813685247)):x=el (x.val%pp):=by
 have:x.val < pp:=by rw[pp_eq];unfold E5.low at h;unfold E5.val;omega
 rw[Nat.mod_eq_of_lt this];exact el_of h
theorem red_great{x:E5}(h:x.low)(hn:2251799813685229≤x.a∧x.b=2251799813685247∧x.c=2251799813685247∧x.d=2251799813685247∧x.e=2251799813685247):(⟨x.a - 2251799813685229,0,0,0,0⟩:E5)=el (x.val%pp):=by
 have e:x.val=(x.a - 2251799813685229)+pp:=by rw[pp_eq];unfold E5.val;omega
 have l:x.a - 2251799813685229 < pp:=by rw[pp_eq];unfold E5.low at h;omega
 rw[e,Nat.add_mod_right,Nat.mod_eq_of_lt l]
 unfold E5.low at h;unfold el;simp only[E5.mk.injEq];omega
namespace E5
def add(x y:E5):E5:=⟨x.a+y.a,x.b+y.b,x.c+y.c,x.d+y.d,x.e+y.e⟩
def sub(x y:E5):E5:=⟨x.a+(4503599627370458 - y.a),x.b+(4503599627370494 - y.b),x.c+(4503599627370494 - y.c),x.d+(4503599627370494 - y.d),x.e+(4503599627370494 - y.e)⟩
theorem add_val(x y:E5):(x.add y).val=x.val+y.val:=by unfold add val;simp only;omega
theorem sub_val{x y:E5}(h:y.light):(x.sub y).val+y.val=x.val+2*pp:=by rw[pp_eq];unfold light at h;unfold sub val;simp only;omega
theorem add_ok{x y:E5}(hx:x.light)(hy:y.light):(x.add y).ok:=by unfold light at hx hy;unfold add ok;simp only;omega
theorem sub_ok{x y:E5}(hx:x.light)(hy:y.light):(x.sub y).ok:=by unfold light at hx hy;unfold sub ok;simp only;omega
def mul (x y : E5) : E5 :=
  ⟨x.a * y.a + x.b * (19 * y.e) + x.c * (19 * y.d) + x.d * (19 * y.c) + x.e * (19 * y.b),
   x.a * y.b + x.b * y.a + x.c * (19 * y.e) + x.d * (19 * y.d) + x.e * (19 * y.c),
   x.a * y.c + x.b * y.b + x.c * y.a + x.d * (19 * y.e) + x.e * (19 * y.d),
   x.a * y.d + x.b * y.c + x.c * y.b + x.d * y.a + x.e * (19 * y.e),
   x.a * y.e + x.b * y.d + x.c * y.c + x.d * y.b + x.e * y.a⟩
def sqr (x : E5) : E5 :=
  ⟨x.a * x.a + 2 * x.b * (19 * x.e) + 2 * x.c * (19 * x.d),
   2 * x.a * x.b + 2 * x.c * (19 * x.e) + x.d * (19 * x.d),
   2 * x.a * x.c + x.b * x.b + 2 * x.d * (19 * x.e),
   2 * x.a * x.d + 2 * x.b * x.c + x.e * (19 * x.e),
   2 * x.a * x.e + 2 * x.b * x.d + x.c * x.c⟩
theorem mul_val(x y:E5):(x.mul y).val%pp=x.val*y.val%pp:=by
 have:x.val*y.val=(x.mul y).val+pp*((x.b*y.e+x.c*y.d+x.d*y.c+x.e*y.b)+2251799813685248*(x.c*y.e+x.d*y.d+x.e*y.c)+5070602400912917605986812821504*(x.d*y.e+x.e*y.d)+11417981541647679048466287755595961091061972992*(x.e*y.e)):=by
  rw[pp_eq];unfold mul val;simp only;grind
 rw[this,Nat.add_mul_mod_self_left]
theorem sqr_mul(x:E5):x.sqr=x.mul x:=by
 unfold sqr mul;simp only[E5.mk.injEq];grind
def nar(x:E5):E5:=⟨x.a%2251799813685248+19*(x.e / 2251799813685248),x.b%2251799813685248+x.a / 2251799813685248,x.c%2251799813685248+x.b / 2251799813685248,x.d%2251799813685248+x.c / 2251799813685248,x.e%2251799813685248+x.d / 2251799813685248⟩
def wide(x:E5):Prop:=x.a < 2 ^ 109∧x.b < 2 ^ 109∧x.c < 2 ^ 109∧x.d < 2 ^ 109∧x.e < 2 ^ 109
theorem nar_ok{x:E5}(h:x.wide):x.nar.ok:=by unfold wide at h;unfold nar ok;simp only;omega
end E5
theorem mul_le{a b A B:Nat}(ha:a < A)(hb:b < B):a*b≤A*B:=Nat.mul_le_mul (Nat.le_of_lt ha) (Nat.le_of_lt hb)
theorem E5.mul_wide{x y:E5}(hx:x.light)(hy:y.light):(x.mul y).wide:=by
 have k:∀ {p q:Nat},p < 2251799813947392→q < 2251799813947392→p*q≤5070602402093534910166696361361+4503599627370496*4503599627370496 / 4503599627370496*262144∧p*(19*q)≤19*2251799813947392*2251799813947392:=fun{p q} hp hq=>by
  have h:=mul_le hp hq
  refine⟨Nat.le_trans h (by decide),?_⟩
  have:=mul_le (show p < 2251799813947392 from hp) (show 19*q < 19*2251799813947392 by omega)
  exact Nat.le_trans this (by decide)
 obtain⟨h1,h2,h3,h4,h5⟩:=hx
 obtain⟨g1,g2,g3,g4,g5⟩:=hy
 have k11:=k h1 g1;have k12:=k h1 g2;have k13:=k h1 g3;have k14:=k h1 g4;have k15:=k h1 g5
 have k21:=k h2 g1;have k22:=k h2 g2;have k23:=k h2 g3;have k24:=k h2 g4;have k25:=k h2 g5
 have k31:=k h3 g1;have k32:=k h3 g2;have k33:=k h3 g3;have k34:=k h3 g4;have k35:=k h3 g5
 have k41:=k h4 g1;have k42:=k h4 g2;have k43:=k h4 g3;have k44:=k h4 g4;have k45:=k h4 g5
 have k51:=k h5 g1;have k52:=k h5 g2;have k53:=k h5 g3;have k54:=k h5 g4;have k55:=k h5 g5
 unfold mul wide;simp only
 generalize x.a*y.a=m11 at *;generalize x.a*y.b=m12 at *;generalize x.a*y.c=m13 at *;generalize x.a*y.d=m14 at *;generalize x.a*y.e=m15 at *
 generalize x.b*y.a=m21 at *;generalize x.b*y.b=m22 at *;generalize x.b*y.c=m23 at *;generalize x.b*y.d=m24 at *
 generalize x.c*y.a=m31 at *;generalize x.c*y.b=m32 at *;generalize x.c*y.c=m33 at *
 generalize x.d*y.a=m41 at *;generalize x.d*y.b=m42 at *
 generalize x.e*y.a=m51 at *
 omega
end Go.Proofs.YtoibhnpmemnlfaaGreatDoor.Fd
namespace Go.Proofs.YtoibhnpmemnlfaaGreatDoor.Fd
def le(l:List Nat):Nat:=l.foldr (fun x a=>x+256*a) 0
theorem le_nil:le []=0:=rfl
theorem le_cons(x:Nat)(l:List Nat):le (x :: l)=x+256*le l:=rfl
theorem le_append(a b:List Nat):le (a ++ b)=le a+256 ^ a.length*le b:=by
 induction a with
 |nil=>simp[le_nil]
 |cons x a ih=>rw[List.cons_append,le_cons,ih,le_cons,List.length_cons,Nat.pow_succ',Nat.mul_add,←Nat.add_assoc,←Nat.mul_assoc]
theorem le_lt(l:List Nat)(h:∀x∈l,x < 256):le l < 256 ^ l.length:=by
 induction l with
 |nil=>decide
 |cons x l ih =>
  have h1:=h x List.mem_cons_self
  have h2:=ih fun y hy=>h y (List.mem_cons_of_mem _ hy)
  rw[le_cons,List.length_cons,Nat.pow_succ];omega
theorem le_lt'(l:List Nat)(n:Nat)(h:∀x∈l,x < 256)(hl:l.length≤n):le l < 256 ^ n:=Nat.lt_of_lt_of_le (le_lt l h) (Nat.pow_le_pow_right (by decide) hl)
theorem le_split(l:List Nat)(k:Nat):le l=le (l.take k)+256 ^ k*le (l.drop k):=by
 conv=>lhs;rw[←List.take_append_drop k l,le_append]
 rcases Nat.lt_or_ge l.length k with h|h
 ·rw[List.drop_of_length_le (by omega)];simp[le_nil]
 ·rw[List.length_take,Nat.min_eq_left h]
def wo(l:List Nat)(j:Nat):Nat:=le ((l.drop (8*j)).take 8)
def wl(l:List Nat)(n:Nat):List Nat:=(List.range n).map (wo l)
theorem wo_lt(l:List Nat)(j:Nat)(h:∀x∈l,x < 256):wo l j < 18446744073709551616 :=
 le_lt' _ 8 (fun x hx=>h x (List.mem_of_mem_drop (List.mem_of_mem_take hx))) (by rw[List.length_take];omega)
theorem wl_get(l:List Nat)(n j:Nat)(hj:j < n):(wl l n).getD j 0=wo l j:=by
 simp[wl,hj]
theorem wl_get?(l:List Nat)(n j:Nat)(hj:j < n):(wl l n)[j]?=some (wo l j):=by
 simp[wl,hj]
theorem wo_step(l:List Nat)(k x j:Nat)(h:l[k]?=some x):wo (l.take (k+1)) j=if j=k / 8 then wo (l.take k) j+x*256 ^ (k%8) else wo (l.take k) j:=by
 have hk:k < l.length:=(List.getElem?_eq_some_iff.1 h).1
 have e:l.take (k+1)=l.take k ++ [x]:=by rw[List.take_add_one,h];rfl
 have hl:(l.take k).length=k:=by rw[List.length_take];omega
 unfold wo
 rw[e]
 by_cases h1:j=k / 8
 ·rw[if_pos h1,List.drop_append_of_le_length (by omega)]
  have hlen:((l.take k).drop (8*j)).length=k%8:=by rw[List.length_drop,hl];omega
  generalize(l.take k).drop (8*j)=A at *
  have h8:k%8 < 8:=Nat.mod_lt _ (by decide)
  rw[List.take_of_length_le (l:=A ++ [x]) (by rw[List.length_append,hlen];simp;omega),List.take_of_length_le (l:=A) (by omega),le_append,hlen]
  simp[le_cons,le_nil,Nat.mul_comm]
 ·rw[if_neg h1]
  rcases Nat.lt_or_ge j (k / 8) with h2|h2
  ·rw[List.drop_append_of_le_length (by omega),List.take_append_of_le_length (by rw[List.length_drop,hl];omega)]
  ·rw[List.drop_of_length_le (by rw[List.length_append,hl];simp;omega),List.drop_of_length_le (by omega)]
theorem wl_step(l:List Nat)(n k x:Nat)(h:l[k]?=some x)(hn:k / 8 < n):(wl (l.take k) n).set (k / 8) (wo (l.take k) (k / 8)+x*256 ^ (k%8))=wl (l.take (k+1)) n:=by
 apply List.ext_getElem?
 intro j
 rw[List.getElem?_set]
 by_cases hj:j < n
 ·rw[wl_get? _ _ _ hj,wl_get? _ _ _ hj,wo_step l k x j h]
  have:(wl (l.take k) n).length=n:=by simp[wl]
  by_cases h1:k / 8=j
  ·rw[if_pos h1,if_pos (by omega),if_pos h1.symm,h1]
  ·rw[if_neg h1,if_neg (fun h=>h1 h.symm)]
 ·have e1:(wl (l.take k) n)[j]?=none:=List.getElem?_eq_none (by simp[wl];omega)
  have e2:(wl (l.take (k+1)) n)[j]?=none:=List.getElem?_eq_none (by simp[wl];omega)
  have:(wl (l.take k) n).length=n:=by simp[wl]
  rw[e1,e2,if_neg (by omega)]
theorem wo_small(l:List Nat)(k:Nat)(h:∀x∈l,x < 256):wo (l.take k) (k / 8) < 256 ^ (k%8):=by
 refine le_lt' _ _ (fun x hx=>h x (List.mem_of_mem_take (List.mem_of_mem_drop (List.mem_of_mem_take hx)))) ?_
 rw[List.length_take,List.length_drop,List.length_take];omega
theorem le_words4(l:List Nat)(h:l.length≤32):le l=wo l 0+18446744073709551616*wo l 1+340282366920938463463374607431768211456*wo l 2+6277101735386680763835789423207666416102355444464034512896*wo l 3:=by
 have e0:=le_split l 8
 have e1:=le_split (l.drop 8) 8
 have e2:=le_split (l.drop 16) 8
 have e3:=le_split (l.drop 24) 8
 rw[show(l.drop 8).drop 8=l.drop 16 by rw[List.drop_drop]] at e1
 rw[show(l.drop 16).drop 8=l.drop 24 by rw[List.drop_drop]] at e2
 rw[show(l.drop 24).drop 8=[] by rw[List.drop_drop,List.drop_of_length_le (by omega)]] at e3
 have z:le []=0:=rfl
 have w0:wo l 0=le (l.take 8):=rfl
 have w1:wo l 1=le ((l.drop 8).take 8):=rfl
 have w2:wo l 2=le ((l.drop 16).take 8):=rfl
 have w3:wo l 3=le ((l.drop 24).take 8):=rfl
 omega
def by_(n:Nat)(k:Nat):List Nat:=(List.range k).map fun i=>n / 256 ^ i%256
theorem by_lt(n k:Nat):∀x∈by_ n k,x < 256:=by
 intro x hx
 simp only[by_,List.mem_map] at hx
 obtain⟨i,-, rfl⟩:=hx
 exact Nat.mod_lt _ (by decide)
theorem by_length(n k:Nat):(by_ n k).length=k:=by simp[by_]
theorem by_succ(n k:Nat):by_ n (k+1)=(n%256) :: by_ (n / 256) k:=by
 unfold by_
 rw[List.range_succ_eq_map,List.map_cons,List.map_map]
 congr 1
 ·rw[Nat.pow_zero,Nat.div_one]
 ·apply List.map_congr_left
  intro i _
  show n / 256 ^ (i+1)%256=n / 256 / 256 ^ i%256
  rw[Nat.div_div_eq_div_mul,Nat.pow_succ,Nat.mul_comm (256 ^ i)]
theorem le_by:∀(k n:Nat),le (by_ n k)=n%256 ^ k:=by
 intro k
 induction k with
 |zero=>intro n;simp[by_,le_nil,Nat.mod_one]
 |succ k ih =>
  intro n
  rw[by_succ,le_cons,ih,Nat.pow_succ,Nat.mul_comm (256 ^ k),Nat.mod_mul]
theorem by_le:∀(l:List Nat),(∀x∈l,x < 256)→by_ (le l) l.length=l:=by
 intro l
 induction l with
 |nil=>intro _;rfl
 |cons x l ih =>
  intro h
  have hx:=h x List.mem_cons_self
  rw[List.length_cons,by_succ,le_cons,show(x+256*le l)%256=x by omega,show(x+256*le l) / 256=le l by omega,ih fun y hy=>h y (List.mem_cons_of_mem _ hy)]
def wb(w:List Nat)(i:Nat):Nat:=w.getD (i / 8) 0 / 256 ^ (i%8)%256
def words4(n:Nat):List Nat:=[n%18446744073709551616,n / 18446744073709551616%18446744073709551616,n / 340282366920938463463374607431768211456%18446744073709551616,n / 6277101735386680763835789423207666416102355444464034512896%18446744073709551616]
set_option maxRecDepth 10000 in
theorem wb_words(n:Nat):(List.range 32).map (wb (words4 n))=by_ n 32:=by
 unfold by_
 apply List.map_congr_left
 intro i hi
 have hi':i < 32:=List.mem_range.1 hi
 have e:∀a m,m < 8→(a%18446744073709551616) / 256 ^ m%256=a / 256 ^ m%256:=by
  intro a m hm
  match m,hm with
  |0,_=>simp only[Nat.reducePow];omega
  |1,_=>simp only[Nat.reducePow];omega
  |2,_=>simp only[Nat.reducePow];omega
  |3,_=>simp only[Nat.reducePow];omega
  |4,_=>simp only[Nat.reducePow];omega
  |5,_=>simp only[Nat.reducePow];omega
  |6,_=>simp only[Nat.reducePow];omega
  |7,_=>simp only[Nat.reducePow];omega
 have d:∀q,q < 4→(words4 n).getD q 0=n / 256 ^ (8*q)%18446744073709551616:=by
  intro q hq
  match q,hq with
  |0,_=>show n%_=_;simp
  |1,_=>rfl
  |2,_=>rfl
  |3,_=>rfl
 unfold wb
 rw[d _ (by omega),e _ _ (by omega),Nat.div_div_eq_div_mul,←Nat.pow_add,show 8*(i / 8)+i%8=i by omega]
end Go.Proofs.YtoibhnpmemnlfaaGreatDoor.Fd
namespace Go.Proofs.YtoibhnpmemnlfaaGreatDoor.Fd
def cg(a b:Nat):Prop:=a%pp=b%pp
namespace cg
theorem rfl'(a:Nat):cg a a:=rfl
theorem symm{a b:Nat}(h:cg a b):cg b a:=Eq.symm h
theorem trans{a b c:Nat}(h:cg a b)(k:cg b c):cg a c:=Eq.trans h k
theorem of_eq{a b:Nat}(h:a=b):cg a b:=by rw[h];rfl
theorem mul{a b c d:Nat}(h:cg a b)(k:cg c d):cg (a*c) (b*d):=by unfold cg at *;rw[Nat.mul_mod,h,k,←Nat.mul_mod]
theorem add{a b c d:Nat}(h:cg a b)(k:cg c d):cg (a+c) (b+d):=by unfold cg at *;rw[Nat.add_mod,h,k,←Nat.add_mod]
theorem pow{a b:Nat}(h:cg a b)(n:Nat):cg (a ^ n) (b ^ n):=by unfold cg at *;rw[Nat.pow_mod,h,←Nat.pow_mod]
theorem mod(a:Nat):cg (a%pp) a:=Nat.mod_mod _ _
end cg
theorem cg_eq{a b:Nat}(h:cg a b)(ha:a < pp)(hb:b < pp):a=b:=by
 unfold cg at h;rwa [Nat.mod_eq_of_lt ha,Nat.mod_eq_of_lt hb] at h
def m1:Nat:=pp - 1
theorem m1_lt:m1 < pp:=Nat.sub_lt pp_pos (by decide)
theorem m1_m1:cg (m1*m1) 1:=by
 obtain⟨k,hk⟩:∃k,pp=k+2:=⟨pp - 2,by have:=pp_one;omega⟩
 unfold cg m1
 rw[hk,show k+2 - 1=k+1 by omega,show(k+1)*(k+1)=1+(k+2)*k by grind,Nat.add_mul_mod_self_left]
theorem m1_add(x:Nat):cg (x+m1*x) 0:=by
 unfold cg m1
 rw[show x+(pp - 1)*x=pp*x by rw[Nat.sub_mul,Nat.one_mul];have:=Nat.le_mul_of_pos_left x pp_pos;omega,Nat.mul_mod_right,Nat.zero_mod]
theorem cg_of_dvd_sub{a b:Nat}(hle:b≤a)(h:pp∣a - b):cg a b:=by
 obtain⟨c,hc⟩:=h
 unfold cg
 rw[show a=b+pp*c by omega,Nat.add_mul_mod_self_left]
theorem cg_add_right{a b c:Nat}(h:cg (a+c) (b+c)):cg a b:=by
 have h1:cg (a+c+m1*c) (b+c+m1*c):=h.add (cg.rfl' _)
 have h2:∀x,cg (x+c+m1*c) x:=fun x=>by
  have:=(cg.rfl' x).add (m1_add c)
  rwa [←Nat.add_assoc,Nat.add_zero] at this
 exact((h2 a).symm.trans h1).trans (h2 b)
def ng(u:Nat):Nat:=(pp - u%pp)%pp
theorem ng_lt(u:Nat):ng u < pp:=mod_lt _
theorem ng_cg(u:Nat):cg (ng u) (m1*u):=by
 apply cg_add_right (c:=u%pp)
 have h1:cg (m1*u+u%pp) 0:=by
  have:=(cg.rfl' (m1*u)).add (cg.mod u)
  rw[Nat.add_comm (m1*u) u] at this
  exact this.trans (m1_add u)
 refine cg.trans ?_ h1.symm
 unfold ng
 refine(cg.add (cg.mod _) (cg.rfl' _)).trans ?_
 have:=mod_lt u
 unfold cg
 rw[show pp - u%pp+u%pp=pp by omega,Nat.mod_self,Nat.zero_mod]
theorem cg_zero_mul{a b:Nat}(h:cg (a*b) 0):cg a 0∨cg b 0:=by
 unfold cg at *
 rw[Nat.zero_mod] at *
 rcases pp_prime.euclid (Nat.dvd_of_mod_eq_zero h) with h|h
 ·exact .inl (Nat.mod_eq_zero_of_dvd h)
 ·exact .inr (Nat.mod_eq_zero_of_dvd h)
theorem fermat{a:Nat}(h:¬cg a 0):cg (a ^ (pp - 1)) 1:=by
 unfold cg at *
 rw[pp_prime.fermat a (by rwa [Nat.zero_mod] at h),Nat.mod_eq_of_lt pp_one]
theorem pp_2:2≤pp:=pp_one
theorem inv_mul{a:Nat}(h:¬cg a 0):cg (a*a ^ (pp - 2)) 1:=by
 rw[Nat.mul_comm,←Nat.pow_succ,show(pp - 2).succ=pp - 1 by have:=pp_2;omega]
 exact fermat h
theorem cg_cancel{a b c:Nat}(hc:¬cg c 0)(h:cg (a*c) (b*c)):cg a b:=by
 have h1:=h.mul (cg.rfl' (c ^ (pp - 2)))
 have h2:∀x,cg (x*c*c ^ (pp - 2)) x:=fun x=>by
  have:=(cg.rfl' x).mul (inv_mul hc)
  rwa [←Nat.mul_assoc,Nat.mul_one] at this
 exact((h2 a).symm.trans h1).trans (h2 b)
theorem cg_sq{x y:Nat}(h:cg (x*x) (y*y)):cg x y∨cg x (m1*y):=by
 -- a great one that is the same as x,so that the difference is a number
 have hX:cg (x+pp*y) x:=by unfold cg;rw[Nat.add_mul_mod_self_left]
 have hle:y≤x+pp*y:=by have:=Nat.le_mul_of_pos_left y pp_pos;omega
 have h2:cg ((x+pp*y)*(x+pp*y)) (y*y):=(hX.mul hX).trans h
 have h3:=Nat.dvd_of_mod_eq_zero (Nat.sub_mod_eq_zero_of_mod_eq h2)
 have e:∀a b:Nat,a*a - b*b=(a - b)*(a+b):=fun a b=>by
  rw[Nat.sub_mul,Nat.mul_add,Nat.mul_add,Nat.mul_comm b a];omega
 rw[e] at h3
 rcases pp_prime.euclid h3 with h4|h4
 ·exact .inl (hX.symm.trans (cg_of_dvd_sub hle h4))
 ·refine .inr (hX.symm.trans ?_)
  apply cg_add_right (c:=y)
  have h5:cg (x+pp*y+y) 0:=by unfold cg;rw[Nat.mod_eq_zero_of_dvd h4,Nat.zero_mod]
  have h6:=m1_add y
  rw[Nat.add_comm] at h6
  exact h5.trans h6.symm
theorem not_cg_mul{a b:Nat}(ha:¬cg a 0)(hb:¬cg b 0):¬cg (a*b) 0:=fun h=>(cg_zero_mul h).elim ha hb
theorem not_cg_one:¬cg 1 0:=by unfold cg;rw[Nat.mod_eq_of_lt pp_one,Nat.zero_mod];decide
theorem m1_ne:¬cg m1 1:=by
 unfold cg
 rw[Nat.mod_eq_of_lt m1_lt,Nat.mod_eq_of_lt pp_one]
 unfold m1;rw[pp_eq];decide
theorem m1_m1_mul(x:Nat):cg (m1*(m1*x)) x:=by
 rw[←Nat.mul_assoc]
 have:=m1_m1.mul (cg.rfl' x)
 rwa [Nat.one_mul] at this
theorem not_cg_pow{a:Nat}(ha:¬cg a 0):∀n,¬cg (a ^ n) 0:=by
 intro n
 induction n with
 |zero=>exact not_cg_one
 |succ n ih=>rw[Nat.pow_succ];exact not_cg_mul ih ha
def e8:Nat:=7237005577332262213973186563042994240829374041602535252466099000494570602493
theorem e8_eq:pp=8*e8+5:=by rw[pp_eq];rfl
def im:Nat:=19681161376707505956807079304988542015446066515923890162744021073123829784752
theorem im_lt:im < pp:=by rw[pp_eq];decide
theorem im_sq:cg (im*im) m1:=by unfold cg m1;rw[pp_eq];decide +kernel
theorem two_pow:cg (2 ^ (2*e8+1)) im:=by
 unfold cg
 have h:mp 256 1 2 (2*e8+1) pp=im:=by rw[pp_eq];decide +kernel
 rw[pow_eq (s:=256) (by decide +kernel) pp_one h,Nat.mod_eq_of_lt im_lt]
attribute [irreducible] e8 im m1
def ev(r:Nat):Nat:=if r%2=1 then ng r else r
theorem ng_of{r:Nat}(h:r < pp)(h0:r≠0):ng r=pp - r:=by
 unfold ng;rw[Nat.mod_eq_of_lt h,Nat.mod_eq_of_lt (by omega)]
theorem ng_zero:ng 0=0:=by unfold ng;rw[Nat.zero_mod,Nat.sub_zero,Nat.mod_self]
theorem pp_odd:pp%2=1:=by rw[pp_eq]
theorem ev_lt{r:Nat}(h:r < pp):ev r < pp:=by unfold ev;split;exact ng_lt _;exact h
theorem ev_even{r:Nat}(h:r < pp):ev r%2=0:=by
 unfold ev
 have:=pp_odd
 by_cases h1:r%2=1
 ·rw[if_pos h1,ng_of h (by intro h0;subst h0;cases h1)];omega
 ·rw[if_neg h1];omega
theorem ev_sq{r:Nat}(h:r < pp):cg (ev r*ev r) (r*r):=by
 unfold ev
 split
 ·have h1:=(ng_cg r).mul (ng_cg r)
  refine h1.trans ?_
  rw[show m1*r*(m1*r)=m1*(m1*(r*r)) by grind]
  exact m1_m1_mul _
 ·rfl
def rt(u v:Nat):Option Nat :=
 let r:=u*v ^ 3*(u*v ^ 7) ^ e8%pp
 let got:=r*r*v%pp
 if got=ng u then some (ev (r*im%pp)) else if got=u%pp then some (ev r) else none
def rr(u v:Nat):Option Nat :=
 if v=0 then(if u=0 then some 0 else none)
 else
  let q:=u*v ^ (pp - 2)%pp
  let r:=q ^ (e8+1)%pp
  let r2:=if r*r%pp=q then r else r*(2 ^ (2*e8+1)%pp)%pp
  if r2*r2%pp=q then some (ev r2) else none
theorem cg_mod_eq{a b:Nat}(h:cg a b):a%pp=b%pp:=h
theorem r_same{u v:Nat}(hv:¬cg v 0):cg (u*v ^ 3*(u*v ^ 7) ^ e8) ((u*v ^ (pp - 2)) ^ (e8+1)):=by
 have e1:u*v ^ 3*(u*v ^ 7) ^ e8=u ^ (e8+1)*v ^ (3+7*e8):=by
  have e0:v ^ (3+7*e8)=v ^ 3*v ^ (7*e8):=Nat.pow_add _ _ _
  have e1:u ^ (e8+1)=u ^ e8*u:=Nat.pow_succ u e8
  rw[Nat.mul_pow,←Nat.pow_mul,e0,e1]
  generalize u ^ e8=A
  generalize v ^ (7*e8)=B
  generalize v ^ 3=C
  grind
 have e2:(u*v ^ (pp - 2)) ^ (e8+1)=u ^ (e8+1)*(v ^ (3+7*e8)*(v ^ (pp - 1)) ^ e8):=by
  rw[Nat.mul_pow,←Nat.pow_mul,←Nat.pow_mul,←Nat.pow_add]
  congr 2
  have:=e8_eq
  generalize e8=e at *
  rw[this,show 8*e+5 - 2=8*e+3 by omega,show 8*e+5 - 1=8*e+4 by omega]
  grind
 rw[e1,e2]
 refine(cg.rfl' _).mul ?_
 have:=((cg.rfl' (v ^ (3+7*e8))).mul ((fermat hv).pow e8)).symm
 rwa [Nat.one_pow,Nat.mul_one] at this
theorem q_v{u v:Nat}(hv:¬cg v 0):cg (u*v ^ (pp - 2)*v) u:=by
 have:=(cg.rfl' u).mul (inv_mul hv)
 rw[Nat.mul_one,Nat.mul_comm v,←Nat.mul_assoc] at this
 exact this
theorem not_cg_lt{v:Nat}(h0:v≠0)(h:v < pp):¬cg v 0:=by
 unfold cg;rw[Nat.mod_eq_of_lt h,Nat.zero_mod];exact h0
theorem rt_eq(u v:Nat)(hu:u < pp)(hv:v < pp):rt u v=rr u v:=by
 by_cases h0:v=0
 ·subst h0
  unfold rt rr
  rw[if_pos rfl]
  have e3:(0:Nat) ^ 3=0:=rfl
  simp only[e3,Nat.mul_zero,Nat.zero_mul,Nat.zero_mod]
  by_cases hu0:u=0
  ·subst hu0;rw[ng_zero,if_pos rfl,if_pos rfl];rfl
  ·rw[ng_of hu hu0,if_neg (by omega),if_neg (by rw[Nat.mod_eq_of_lt hu];omega),if_neg hu0]
 ·have hv0:=not_cg_lt h0 hv
  unfold rt rr
  rw[if_neg h0]
  dsimp only
  obtain⟨q,hq⟩:∃q,q=u*v ^ (pp - 2)%pp:=⟨_,rfl⟩
  have hqc:cg q (u*v ^ (pp - 2)):=by rw[hq];exact cg.mod _
  have hql:q < pp:=by rw[hq];exact mod_lt _
  have hqv:cg (q*v) u:=(hqc.mul (cg.rfl' v)).trans (q_v hv0)
  obtain⟨r,hr⟩:∃r,r=q ^ (e8+1)%pp:=⟨_,rfl⟩
  have hrl:r < pp:=by rw[hr];exact mod_lt _
  have e:u*v ^ 3*(u*v ^ 7) ^ e8%pp=r:=by
   rw[hr];exact(r_same hv0).trans (hqc.pow _).symm
  rw[e,←hq,←hr]
  have c1:cg (r*r) q→r*r*v%pp=u%pp:=fun h=>(h.mul (cg.rfl' v)).trans hqv
  have c2:r*r*v%pp=u%pp→cg (r*r) q:=fun h=>cg_cancel hv0 (show cg _ _ from Eq.trans h hqv.symm)
  have ngu:ng u%pp=ng u:=Nat.mod_eq_of_lt (ng_lt u)
  have d1:cg (r*r) (m1*q)→r*r*v%pp=ng u:=fun h=>by
   have h1:cg (r*r*v) (m1*(q*v)):=by rw[←Nat.mul_assoc];exact h.mul (cg.rfl' v)
   have h2:cg (r*r*v) (ng u):=h1.trans (((cg.rfl' m1).mul hqv).trans (ng_cg u).symm)
   rw[←ngu];exact h2
  have d2:r*r*v%pp=ng u→cg (r*r) (m1*q):=fun h=>by
   refine cg_cancel hv0 ?_
   have h2:cg (r*r*v) (ng u):=by unfold cg;rw[ngu];exact h
   refine h2.trans ((ng_cg u).trans ?_)
   rw[Nat.mul_assoc]
   exact(cg.rfl' m1).mul hqv.symm
  have t:2 ^ (2*e8+1)%pp=im:=by have:=two_pow;unfold cg at this;rwa [Nat.mod_eq_of_lt im_lt] at this
  have imr:cg (r*im%pp*(r*im%pp)) (m1*(r*r)):=by
   refine((cg.mod _).mul (cg.mod _)).trans ?_
   rw[show r*im*(r*im)=im*im*(r*r) by grind]
   exact im_sq.mul (cg.rfl' _)
  rw[t]
  have qm:∀x,x%pp=q↔cg x q:=fun x=>by unfold cg;rw[Nat.mod_eq_of_lt hql]
  by_cases hsq:cg (r*r) q
  ·rw[if_pos ((qm _).2 hsq)]
   rw[if_pos ((qm _).2 hsq)]
   by_cases hu0:u=0
   ·-- then all is 0
    subst hu0
    have hq0:q=0:=by rw[hq,Nat.zero_mul,Nat.zero_mod]
    have hr0:r=0:=by rw[hr,hq0,Nat.zero_pow (by omega),Nat.zero_mod]
    rw[hr0,ng_zero]
    simp
   ·rw[if_neg,if_pos (c1 hsq)]
    intro h
    have h1:=d2 h
    have h2:cg (m1*q) q:=h1.symm.trans hsq
    have hq0:¬cg q 0:=fun h=>hu0 (by
     have h3:cg u 0:=hqv.symm.trans ((h.mul (cg.rfl' v)).trans (cg.of_eq (Nat.zero_mul _)))
     exact cg_eq h3 hu pp_pos)
    have h3:cg m1 1:=cg_cancel hq0 (h2.trans (cg.of_eq (Nat.one_mul _).symm))
    exact m1_ne h3
  ·rw[if_neg (fun h=>hsq ((qm _).1 h))]
   by_cases hm:cg (r*r) (m1*q)
   ·rw[if_pos (d1 hm),if_pos]
    exact(qm _).2 (imr.trans (((cg.rfl' m1).mul hm).trans (m1_m1_mul q)))
   ·rw[if_neg (fun h=>hm (d2 h)),if_neg (fun h=>hsq (c2 h)),if_neg]
    intro h
    have h1:cg (m1*(r*r)) q:=imr.symm.trans ((qm _).1 h)
    exact hm ((m1_m1_mul _).symm.trans ((cg.rfl' m1).mul h1))
theorem rr_some{u v:Nat}(hu:u < pp)(hu0:u≠0)(hv:v < pp)(hv0:v≠0) :
  (cg ((u*v ^ (pp - 2)) ^ (4*e8+2)) 1→∃r,rr u v=some r)∧(cg ((u*v ^ (pp - 2)) ^ (4*e8+2)) m1→rr u v=none):=by
 have hvc:=not_cg_lt hv0 hv
 have huc:=not_cg_lt hu0 hu
 obtain⟨Q,hQ⟩:∃Q,Q=u*v ^ (pp - 2):=⟨_,rfl⟩
 have hQ0:¬cg Q 0:=by rw[hQ];exact not_cg_mul huc (not_cg_pow hvc _)
 unfold rr
 rw[if_neg hv0]
 dsimp only
 rw[←hQ]
 obtain⟨r,hr⟩:∃r,r=(Q%pp) ^ (e8+1)%pp:=⟨_,rfl⟩
 rw[←hr]
 have hrc:cg r (Q ^ (e8+1)):=by rw[hr];exact(cg.mod _).trans ((cg.mod Q).pow _)
 have hr2:cg (r*r) (Q ^ (2*e8+1)*Q):=by
  refine(hrc.mul hrc).trans (cg.of_eq ?_)
  rw[←Nat.pow_add,←Nat.pow_succ];congr 1;omega
 have t:2 ^ (2*e8+1)%pp=im:=by have:=two_pow;unfold cg at this;rwa [Nat.mod_eq_of_lt im_lt] at this
 have imr:cg (r*im%pp*(r*im%pp)) (m1*(r*r)):=by
  refine((cg.mod _).mul (cg.mod _)).trans ?_
  rw[show r*im*(r*im)=im*im*(r*r) by grind]
  exact im_sq.mul (cg.rfl' _)
 rw[t]
 have qm:∀x,x%pp=Q%pp↔cg x Q:=fun x=>Iff.rfl
 have sq:Q ^ (4*e8+2)=Q ^ (2*e8+1)*Q ^ (2*e8+1):=by rw[←Nat.pow_add];congr 1;omega
 rw[sq]
 constructor
 ·intro h
  rcases cg_sq (y:=1) h with h1|h1
  ·have h2:cg (r*r) Q:=hr2.trans ((h1.mul (cg.rfl' Q)).trans (cg.of_eq (Nat.one_mul _)))
   rw[if_pos ((qm _).2 h2),if_pos ((qm _).2 h2)]
   exact⟨_,rfl⟩
  ·rw[Nat.mul_one] at h1
   have h2:cg (r*r) (m1*Q):=hr2.trans (h1.mul (cg.rfl' Q))
   have hne:¬cg (r*r) Q:=fun h3=>m1_ne (cg_cancel hQ0 ((h2.symm.trans h3).trans (cg.of_eq (Nat.one_mul _).symm)))
   rw[if_neg (fun h3=>hne ((qm _).1 h3)),if_pos ((qm _).2 (imr.trans (((cg.rfl' m1).mul h2).trans (m1_m1_mul Q))))]
   exact⟨_,rfl⟩
 ·intro h
  have n1:¬cg (Q ^ (2*e8+1)) 1:=fun h1=>m1_ne (h.symm.trans ((h1.mul h1).trans (cg.of_eq (Nat.one_mul _))))
  have n2:¬cg (Q ^ (2*e8+1)) m1:=fun h1=>m1_ne (h.symm.trans ((h1.mul h1).trans m1_m1))
  have hne:¬cg (r*r) Q:=fun h3=>n1 (cg_cancel hQ0 ((hr2.symm.trans h3).trans (cg.of_eq (Nat.one_mul _).symm)))
  rw[if_neg (fun h3=>hne ((qm _).1 h3)),if_neg]
  intro h3
  have h4:cg (m1*(r*r)) Q:=imr.symm.trans ((qm _).1 h3)
  have h5:cg (r*r) (m1*Q):=(m1_m1_mul _).symm.trans ((cg.rfl' m1).mul h4)
  exact n2 (cg_cancel hQ0 (hr2.symm.trans h5))
theorem rr_root{u v r:Nat}(hv:v < pp)(hv0:v≠0)(h:rr u v=some r):r < pp∧r%2=0∧cg (r*r*v) u:=by
 have hvc:=not_cg_lt hv0 hv
 unfold rr at h
 rw[if_neg hv0] at h
 dsimp only at h
 generalize hr2:(if(u*v ^ (pp - 2)%pp) ^ (e8+1)%pp*((u*v ^ (pp - 2)%pp) ^ (e8+1)%pp)%pp=u*v ^ (pp - 2)%pp then(u*v ^ (pp - 2)%pp) ^ (e8+1)%pp else(u*v ^ (pp - 2)%pp) ^ (e8+1)%pp*(2 ^ (2*e8+1)%pp)%pp)=r2 at h
 have hl:r2 < pp:=by rw[←hr2];split <;> exact mod_lt _
 split at h
 ·rename_i hs
  injection h with h
  subst h
  refine⟨ev_lt hl,ev_even hl,?_⟩
  have h1:cg (r2*r2) (u*v ^ (pp - 2)):=hs
  exact(((ev_sq hl).trans h1).mul (cg.rfl' v)).trans (q_v hvc)
 ·cases h
theorem rr_square {a : Nat} : ∃ r, rr (a * a % pp) 1 = some r ∧ r < pp ∧ r % 2 = 0 ∧ (cg r a ∨ cg r (m1 * a)) := by
  have h1 : rr (a * a % pp) 1 = none ∨ ∃ r, rr (a * a % pp) 1 = some r := by
    cases rr (a * a % pp) 1 with
    | none => exact .inl rfl
    | some r => exact .inr ⟨r, rfl⟩
  rcases h1 with h1 | ⟨r, hr⟩
  · exfalso
    by_cases h0 : a * a % pp = 0
    · rw [h0] at h1
      have hz : rr 0 1 = some 0 := by
        unfold rr
        rw [if_neg (by decide)]
        dsimp only
        rw [Nat.zero_mul, Nat.zero_mod, Nat.zero_pow (by omega), Nat.zero_mod, Nat.zero_mul, Nat.zero_mod, if_pos rfl, if_pos (by rw [Nat.zero_mul, Nat.zero_mod])]
        rfl
      rw [hz] at h1; cases h1
    · have hac : ¬ cg a 0 := fun h => h0 (by
        have := h.mul h
        unfold cg at this; rwa [Nat.zero_mul, Nat.zero_mod] at this)
      have hc : cg ((a * a % pp * 1 ^ (pp - 2)) ^ (4 * e8 + 2)) 1 := by
        rw [Nat.one_pow, Nat.mul_one]
        refine ((cg.mod _).pow _).trans ?_
        rw [← Nat.pow_two, ← Nat.pow_mul, show 2 * (4 * e8 + 2) = pp - 1 by have := e8_eq; omega]
        exact fermat hac
      obtain ⟨r, hr⟩ := (rr_some (mod_lt _) h0 pp_one (by decide)).1 hc
      rw [hr] at h1; cases h1
  · obtain ⟨h2, h3, h4⟩ := rr_root pp_one (by decide) hr
    refine ⟨r, hr, h2, h3, ?_⟩
    rw [Nat.mul_one] at h4
    exact cg_sq (h4.trans (cg.mod _))
end Go.Proofs.YtoibhnpmemnlfaaGreatDoor.Fd
namespace Go.Proofs.YtoibhnpmemnlfaaGreatDoor.Fd
end Go.Proofs.YtoibhnpmemnlfaaGreatDoor.Fd
namespace Go.Proofs.YtoibhnpmemnlfaaGreatDoor.Fd
theorem getD_set_eq(o:List Nat)(p y:Nat)(h:p < o.length):(o.set p y).getD p 0=y:=by
 simp[List.getD_eq_getElem?_getD,h]
theorem getD_set_ne(o:List Nat)(p q y:Nat)(h:p≠q):(o.set p y).getD q 0=o.getD q 0:=by
 simp[List.getD_eq_getElem?_getD,h]
end Go.Proofs.YtoibhnpmemnlfaaGreatDoor.Fd
namespace Go.Proofs.YtoibhnpmemnlfaaGreatDoor.Fd
end Go.Proofs.YtoibhnpmemnlfaaGreatDoor.Fd
