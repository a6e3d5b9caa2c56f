/- Joined texts. -/
import Derived.Test.YtjimhjfjfpeojaaDoorQbEdU
set_option linter.unusedVariables false
namespace Go.Proofs.YtjimhjfjfpeojaaDoor.Ed
open Go.RowKit Go.Proofs.YtjimhjfjfpeojaaDoor.Gn Go.Proofs.YtjimhjfjfpeojaaDoor.Fd Go.Deep
theorem Lq_is:Lq=lq:=by rw[Lq_eq];rfl
theorem ssnd_le(l m:List Nat)(b:G):le (ssnd l m b)=(le (sk l m b)*le (sec l)+le (sr l m))%Lq:=by
 unfold ssnd
 rw[le_by,Nat.mod_eq_of_lt]
 exact Nat.lt_trans (Nat.mod_lt _ Lq_pos) (by rw[Lq_eq];decide)
theorem sc_zero{l:List Nat}(h:l.length=32):(scErr l=0)↔le l < Lq:=by
 unfold scErr
 rw[if_pos h]
 by_cases k:le l < Lq
 ·simp[k]
 ·simp[k]
theorem sfst_length(l m:List Nat)(b:G):(sfst l m b).length=32:=by_length _ _
theorem ssnd_length(l m:List Nat)(b:G):(ssnd l m b).length=32:=by_length _ _
theorem vend_of{l m z:List Nat}{b:G}(hz:z.length=32)(hl:le z < Lq):vend (keyb l b) m (sfst l m b ++ z) (ti (le (sec l)) b) b=if by_ (gb (ga (ti (le (sk l m b)) (gn (ti (le (sec l)) b))) (ti (le z) b))) 32=sfst l m b then 0 else 42:=by
 have e1:(sfst l m b ++ z).take 32=sfst l m b:=by rw[List.take_append_of_le_length (by rw[sfst_length];exact Nat.le_refl _),List.take_of_length_le (by rw[sfst_length];exact Nat.le_refl _)]
 have e2:(sfst l m b ++ z).drop 32=z:=by rw[List.drop_append_of_le_length (by rw[sfst_length];exact Nat.le_refl _),List.drop_of_length_le (by rw[sfst_length];exact Nat.le_refl _),List.nil_append]
 unfold vend
 rw[e1,e2,if_pos ((sc_zero hz).2 hl)]
 rfl
theorem vend_own{l m:List Nat}{b:G}(hb:Hp kbase b):vend (keyb l b) m (sfst l m b ++ ssnd l m b) (ti (le (sec l)) b) b=0:=by
 rw[vend_of (ssnd_length _ _ _) (by rw[ssnd_le];exact Nat.mod_lt _ Lq_pos),if_pos]
 have hl:ti lq b=gz:=lq_base (hp_qb hb)
 rw[ssnd_le,Lq_is,sign_own hl]
 rfl
theorem key_p{A:Option Addr}{c:Nat}{l:List Nat}{b:G}{w:World}(tab:TabE w)(ts:Sh.Tab w)(h:Pc w (A,32,c,l))(hb:Hp kbase b) :
  Calls Tryd.prog 7 #[.slice A 32 c] w fun e w'=>∃g,e=.returned (.tuple #[.slice (some ⟨g,0,none⟩) 32 32,.int .i64 0])∧Pc w' (some ⟨g,0,none⟩,32,32,keyb l b)∧Below w.heap.size w w':=by
 have h32:l.length=32:=h.len.symm
 have hr:Sl w A 32 (bl l):=by have:Sl w A l.length (bl l):=h.row;rwa [h32] at this
 refine(Key_any A c l b w tab ts h.lt h32 hr (Sh.Sl_block hr (by decide)) (by have:l.length≤c:=h.cap;omega) hb).mono ?_
 rintro e w' ⟨g,rfl,hg,hbl,hw⟩
 exact⟨g,rfl,pc_bl (by_length _ _) (by_lt _ _) hbl,hw⟩
theorem own_pc{w:World}{base:Nat}{v:Value}{n:Nat}{s:List Nat}(h:w.ownsRow base 5 1 v n (bl s))(h0:0 < n)(hn:s.length=n)(hs:∀x∈s,x < 256):∃g cap,v=.slice (some ⟨g,0,none⟩) n cap∧Pc w (some ⟨g,0,none⟩,n,cap,s)∧base≤g:=by
 obtain⟨g,cap,cur,rfl,hb,h1,h2,h3,h4⟩:=own_cur h h0
 refine⟨g,cap,rfl,⟨hn.symm,?_,hs,by show s.length≤cap;omega,fun h=>by cases h⟩,h4⟩
 refine Sl.of_bl hb 0 _ _ (by rw[bl_length]) (fun k v hv=>?_)
 change(bl s)[k]?=some v at hv
 rw[←h3,List.getElem?_take] at hv
 split at hv
 ·rw[Nat.zero_add];simpa using hv
 ·cases hv
theorem sign_p{A:Option Addr}{c:Nat}{l:List Nat}{M:Option Addr}{n cm:Nat}{m:List Nat}{b:G}{w:World}(tab:TabE w)(ts:Sh.Tab w)(tl:TabL w)(ha:Pc w (A,32,c,l))(hm:Pc w (M,n,cm,m))(hn:n≤65536)(hb:Hp kbase b) :
  Calls Tryd.prog 8 #[.slice A 32 c,.slice M n cm] w fun e w'=>∃g cap,e=.returned (.tuple #[.slice (some ⟨g,0,none⟩) 64 cap,.int .i64 0])∧Pc w' (some ⟨g,0,none⟩,64,cap,sfst l m b ++ ssnd l m b)∧w.heap.size≤g∧Below w.heap.size w w':=by
 refine(Sign_any tab ts tl ha hm hn hb).mono ?_
 rintro e w' ⟨v,rfl,ho,hw⟩
 have hl:(sfst l m b ++ ssnd l m b).length=64:=by rw[List.length_append,sfst_length,ssnd_length]
 rw[hl] at ho
 obtain⟨g,cap,rfl,hp,hg⟩:=own_pc ho (by decide) hl (by intro x hx;rcases List.mem_append.1 hx with h|h;exact by_lt _ _ x h;exact by_lt _ _ x h)
 exact⟨g,cap,rfl,hp,hg,hw⟩
theorem verify_own{A:Option Addr}{c:Nat}{l:List Nat}{M:Option Addr}{n cm:Nat}{m:List Nat}{S:Option Addr}{cs:Nat}{b:G}{w:World}(tab:TabE w)(ts:Sh.Tab w)(tl:TabL w)(ha:Pc w (A,32,c,keyb l b))(hm:Pc w (M,n,cm,m))(hs:Pc w (S,64,cs,sfst l m b ++ ssnd l m b))(hn:n≤65536)(hb:Hp kbase b) :
  Calls Tryd.prog 9 #[.slice A 32 c,.slice M n cm,.slice S 64 cs] w fun e w'=>e=.returned (.int .i64 0)∧Below w.heap.size w w':=by
 obtain⟨p,hp,hg⟩:=dec_of (ti (le (sec l)) b)
 have:=Verify_go tab ts tl ha hm hs hn hb hp hg
 rw[vend_own hb] at this
 exact this
end Go.Proofs.YtjimhjfjfpeojaaDoor.Ed
