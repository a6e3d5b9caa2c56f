/- Joined texts. -/
import Derived.Deep.LoopGhost
import Derived.Test.YtkahelhoaihajaaQbWrKnown
set_option linter.unusedVariables false
namespace Go.Proofs.Ytkahelhoaihajaa.Wr
open Go.RowKit Go.Proofs.Ytkahelhoaihajaa.Gn Go.Proofs.Ytkahelhoaihajaa.Fd Go.Deep
mutual
def dpn:Nd→Nat
 |.mk _ _ _ ks=>dpns ks+1
def dpns:List Nd→Nat
 | []=>0
 |t :: ts=>if dpns ts < dpn t then dpn t else dpns ts
end
mutual
def ctn:Nd→Nat
 |.mk _ _ _ ks=>1+ctns ks
def ctns:List Nd→Nat
 | []=>0
 |t :: ts=>ctn t+ctns ts
end
mutual
def ean:Nd→Nat
 |.mk _ _ b ks=>if b.length < eans ks then eans ks else b.length
def eans:List Nd→Nat
 | []=>0
 |t :: ts=>if eans ts < ean t then ean t else eans ts
end
theorem ean_leaf(k:Int)(n:Nat)(b:List Nat):ean (.mk k n b [])=b.length:=by rw[ean,eans,if_neg (Nat.not_lt_zero _)]
theorem dpns_snoc(l:List Nd)(t:Nd):dpns (l ++ [t])=if dpns l < dpn t then dpn t else dpns l:=by
 induction l with
 |nil=>simp only[List.nil_append,dpns]
 |cons x l ih=>rw[List.cons_append,dpns,ih,dpns];split <;> split <;> (try split) <;> (try split) <;> omega
theorem eans_snoc(l:List Nd)(t:Nd):eans (l ++ [t])=if eans l < ean t then ean t else eans l:=by
 induction l with
 |nil=>simp only[List.nil_append,eans]
 |cons x l ih=>rw[List.cons_append,eans,ih,eans];split <;> split <;> (try split) <;> (try split) <;> omega
theorem ctns_snoc(l:List Nd)(t:Nd):ctns (l ++ [t])=ctns l+ctn t:=by
 induction l with
 |nil=>simp only[List.nil_append,ctns];omega
 |cons x l ih=>rw[List.cons_append,ctns,ih,ctns];omega
mutual
theorem rdv_in(b c d:Int)(l:List Nat)(d0:0≤d):∀(f:Nat) (deep:Int) (p:Nat) (k:Int) {v:Nd} {p':Nat} {k':Int},k≤c→rdv b c d l f deep p k=.good v p' k'→(dpn v:Int)+deep≤b+1∧k'=k+ctn v∧k'≤c∧(ean v:Int)≤d
 |0,deep,p,k,v,p',k',_,h=>by rw[rdv] at h;cases h
 |f+1,deep,p,k,v,p',k',hk,h=>by
  rw[rdv] at h
  split at h
  ·cases h
  split at h
  ·cases h
  rename_i hb
  split at h
  ·cases h
  rename_i hc
  split at h
  ·split at h
   ·cases h;simp only[dpn,dpns,ctn,ctns,ean,eans,List.length_nil];refine⟨by omega,by omega,by omega,by simpa using d0⟩
   ·cases h
  split at h
  ·split at h
   ·split at h
    ·cases h
    rename_i hd
    split at h
    ·cases h
    ·cases h
     rw[ean_leaf]
     simp only[dpn,dpns,ctn,ctns]
     refine⟨by omega,by omega,by omega,?_⟩
     rw[List.length_take]
     omega
   ·cases h
  split at h
  ·split at h
   ·split at h
    ·cases h
    ·rename_i vs q k2 h2
     have h3:=rds_in b c d l d0 f _ _ _ _ _ (by omega) h2
     cases h
     simp only[dpns,ctns,eans] at h3
     simp only[dpn,ctn,ean,List.length_nil]
     have e:(ctns []:Nat)=0:=rfl
     refine⟨by omega,by omega,h3.2.2.1,?_⟩
     split <;> omega
   ·cases h
  ·cases h
theorem rds_in(b c d:Int)(l:List Nat)(d0:0≤d):∀(f n:Nat) (deep:Int) (p:Nat) (k:Int) (acc:List Nd) {v:List Nd} {p':Nat} {k':Int},k≤c→rds b c d l f n deep p k acc=.good v p' k'→((dpns acc:Int)+deep≤b+1→deep≤b+1→(dpns v:Int)+deep≤b+1)∧k'+ctns acc=k+ctns v∧k'≤c∧((eans acc:Int)≤d→(eans v:Int)≤d)
 |0,n,deep,p,k,acc,v,p',k',_,h=>by rw[rds] at h;cases h
 |f+1,n,deep,p,k,acc,v,p',k',hk,h=>by
  rw[rds] at h
  split at h
  ·cases h;exact⟨fun h _=>h,rfl,hk,fun h=>h⟩
  ·split at h
   ·cases h
   ·rename_i v2 q k2 h2
    have h3:=rdv_in b c d l d0 f _ _ _ hk h2
    have h4:=rds_in b c d l d0 f _ _ _ _ _ h3.2.2.1 h
    rw[dpns_snoc,ctns_snoc,eans_snoc] at h4
    refine⟨fun h5 h6=>h4.1 ?_ h6,by omega,h4.2.2.1,fun h5=>h4.2.2.2 ?_⟩
    ·split <;> omega
    ·split <;> omega
end
end Go.Proofs.Ytkahelhoaihajaa.Wr
namespace Go.Proofs.Ytkahelhoaihajaa.Wr
open Go.RowKit Go.Proofs.Ytkahelhoaihajaa.Gn Go.Proofs.Ytkahelhoaihajaa.Fd Go.Deep
set_option maxHeartbeats 4000000 in
set_option maxRecDepth 100000 in
theorem own_lim(a b c d:Int)(w:World):Calls Try.prog 13 #[.agg #[.int .i64 a,.int .i64 b,.int .i64 c,.int .i64 d]] w fun e w'=>e=.returned (lim a b c d)∧Below w.heap.size w w':=by
 have HB:=Lib.hid (((below_one w (.cells #[.int .i64 a,.int .i64 b,.int .i64 c,.int .i64 d] 28)).trans ((below_one (w.alloc (.cells #[.int .i64 a,.int .i64 b,.int .i64 c,.int .i64 d] 28)) (.cells #[.int .i64 a,.int .i64 b,.int .i64 c,.int .i64 d] 34)).mono (by simp))))
 have HL:=Lib.hid (show Bl ((w.alloc (.cells #[.int .i64 a,.int .i64 b,.int .i64 c,.int .i64 d] 28)).alloc (.cells #[.int .i64 a,.int .i64 b,.int .i64 c,.int .i64 d] 34)) (w.heap.size+1) 34 #[.int .i64 a,.int .i64 b,.int .i64 c,.int .i64 d] from Bl.new' _ _ (by simp))
 go_enter Try.func13,Try.ntmps13
 go_wp2_with fail
 exact⟨rfl,_,results_c rfl _ _ _ ⟨w.heap.size+1,0,none⟩ _ (by kernel_rfl) (run_loadVar_row _ (w.heap.size+1) 34 34 _ (0,0) _ HL.out Try.underlying34 rfl size40),rfl,HB.out⟩
theorem szns_append(a b:List Nd):szns (a ++ b)=szns a+szns b:=by
 induction a with
 |nil=>simp[szns]
 |cons x a ih=>rw[List.cons_append,szns,szns,ih];omega
end Go.Proofs.Ytkahelhoaihajaa.Wr
