/- Joined texts. -/
import Derived.Deep.LoopGhost
import Derived.Test.YteblmphohhbgcaaQaWrTvalC
import Derived.Test.YteblmphohhbgcaaQaWrGo
set_option linter.unusedVariables false
namespace Go.Proofs.Yteblmphohhbgcaa.Wr
open Go.RowKit Go.Proofs.Yteblmphohhbgcaa.Gn Go.Proofs.Yteblmphohhbgcaa.Fd Go.Deep
theorem own_form{w:World}{base:Nat}{e:TypeId}{size:Nat}{v:Value}{n:Nat}{xs:List Value}(h:w.ownsRow base e size v n xs) :
  ∃A cap,v=.slice A n cap∧Sl w A (n*size) xs∧(A=none→cap=0)∧n≤cap∧(∀a,A=some a→base≤a.block∧a.block < w.heap.size):=by
 obtain⟨hl,h2⟩:=h
 rcases h2 with⟨rfl,rfl⟩|⟨g,cap,cur,rfl,hb,hh,hn,hm,hc,hx⟩
 ·have h0:xs=[]:=List.length_eq_zero_iff.1 (by simpa using hl)
  subst h0
  exact⟨none,0,rfl,by rw[Nat.zero_mul];exact Sl.nil_ _ _,fun _=>rfl,Nat.le_refl _,fun a h=>by cases h⟩
 ·refine⟨some ⟨g,0,none⟩,cap,rfl,⟨hl,fun k v hv=>⟨_,rfl,?_⟩⟩,fun h=>by simp at h,by omega,?_⟩
  ·rw[add_at,cell_of_row _ _ _ _ _ _ hh]
   subst hx
   have hk:k < n*size:=by have:=(List.getElem?_eq_some_iff.1 hv).1;omega
   rw[List.getElem?_take_of_lt hk] at hv
   rw[←hv];simp
  ·rintro a h
   injection h with h
   subst h
   exact⟨hb,Bl.lt (t:=e) (cs:=cur) hh⟩
theorem own_ltg{w:World}{base:Nat}{e:TypeId}{size:Nat}{v:Value}{n:Nat}{xs:List Value}(h:w.ownsRow base e size v n xs):∀k,v.ownBlock=some k→base≤k∧k < w.heap.size:=by
 obtain⟨A,cap,rfl,-, -, -, ha⟩:=own_form h
 intro k e
 cases A with
 |none=>cases e
 |some a=>have h1:=ha a rfl;simp[Value.ownBlock] at e;omega
theorem only_own{w a b:World}{g:Nat}{row:Option Nat}(h:w.grownBy a (some g))(k:a.grownBy b row)(hr:∀j,row=some j→w.heap.size≤j):w.grownBy b (some g) :=
 ⟨k.os.trans h.os,k.tape.trans h.tape,k.output.trans h.output,Nat.le_trans h.size k.size,fun i hi hn=>(k.block i (Nat.lt_of_lt_of_le hi h.size) (fun e=>by have:=hr i e.symm;omega)).trans (h.block i hi hn)⟩
theorem Rt.grown{w u:World}{g:Nat}{a b c d k:Int}{r:Rw}{p:Nat}{row:Option Nat}(h:Rt w g a b c d k r p)(hg:w.grownBy u row)(h1:row≠some g)(h2:∀ad,r.1=some ad→0 < r.2.2.2.length→row≠some ad.block):Rt u g a b c d k r p :=
 ⟨h.row.grown hg h1,⟨h.pc.len,Sl.kept h.pc.row (fun ad e hn hlt=>hg.block ad.block hlt (fun e2=>h2 ad e hn e2.symm)),h.pc.lt,h.pc.cap,h.pc.nil⟩,h.le,h.apart⟩
theorem own_belowg{w w':World}{base:Nat}{e:TypeId}{size:Nat}{v:Value}{n:Nat}{xs:List Value}(h:w.ownsRow base e size v n xs)(hb:Below w.heap.size w w'):w'.ownsRow base e size v n xs :=
 h.kept (row:=none) ⟨hb.os,hb.tape,hb.output,hb.size,fun i hi _=>hb.block i hi⟩ (by cases v.ownBlock <;> simp)
theorem flat_snoc(ks:List Tv)(t:Tv):flat (ks ++ [t])=flat ks ++ t.row:=by simp[flat]
def RvQ(res:Rr Nd)(w:World)(g:Nat)(a b c d:Int)(r:Rw)(e:Ending)(w':World):Prop :=
 match res with
 |.bad q en=>e=pan (q:Int) (en:Int)∧w.grownBy w' (some g)
 |.good v p' k'=>RgQ v p' w g a b c d k' r e w'
def RsQ(res:Rr (List Nd))(w:World)(g:Nat)(a b c d:Int)(r:Rw)(e:Ending)(w':World):Prop :=
 match res with
 |.bad q en=>e=pan (q:Int) (en:Int)∧w.grownBy w' (some g)
 |.good vs p' k'=>w.grownBy w' (some g)∧∃(ks:List Tv) (A:Option Addr) (cap:Nat),e=.returned (.slice A ks.length cap)∧nds ks=vs∧Sl w' A (4*ks.length) (flat ks)∧(A=none→cap=0)∧ks.length≤cap∧ks.length≤1000000∧(∀t∈ks,Ok w' t)∧liess (fun k=>w.heap.size≤k) ks∧(∀ad,A=some ad→w.heap.size≤ad.block)∧Rt w' g a b c d k' r p'
def Vf(f:Nat):Prop:=∀(w:World) (g:Nat) (a b c d k:Int) (r:Rw) (p:Nat) (deep:Int),Rt w g a b c d k r p→0≤d→d≤9223372036854775807→0≤k→k+((r.2.2.2.length - p:Nat):Int)≤1000000→r.2.1≤1000000→0≤deep→deep+((r.2.2.2.length - p:Nat):Int)≤3000000→r.2.2.2.length - p+2≤f →
 Calls Try.prog 84 #[.pointer (some ⟨g,0,none⟩),.int .i64 deep] w (RvQ (rdv b c d r.2.2.2 f deep p k) w g a b c d r)
theorem infoN:(Try.prog.info? 80).map (fun i=>(i.zero,i.size,i.bytes))=some (some (.agg #[.int .i64 0,.int .u64 0,.slice none 0 0,.slice none 0 0]),4,64):=by kernel_rfl
theorem row_one(t:Tv):∀v∈t.row,v.oneCell'=true:=by
 cases t
 intro v hv
 simp only[Tv.row,List.mem_cons,List.not_mem_nil,or_false] at hv
 rcases hv with rfl|rfl|rfl|rfl <;> rfl
set_option maxHeartbeats 4000000 in
set_option maxRecDepth 100000 in
theorem tvalues_any(F:Nat)(hV:∀f,f < F→Vf f){w:World}{g:Nat}{a b c d k:Int}{r:Rw}{p:Nat}(h:Rt w g a b c d k r p)(d0:0≤d)(d1:d≤9223372036854775807)(k0:0≤k)(k1:k+((r.2.2.2.length - p:Nat):Int)≤1000000)(hl9:r.2.1≤1000000)(deep:Int)(dp0:0≤deep)(dp1:deep+((r.2.2.2.length - p:Nat):Int)≤3000000)(hF:r.2.2.2.length - p+3≤F)(n:Nat)(hn:n < 18446744073709551616) :
  Calls Try.prog 98 #[.pointer (some ⟨g,0,none⟩),.int .u64 (n:Int),.int .i64 deep] w (RsQ (rds b c d r.2.2.2 F n deep p k []) w g a b c d r):=by
 obtain⟨i0,hi,hz0,hz1,hz2⟩:=info_parts infoN
 obtain⟨R,hR⟩:∃R,rds b c d r.2.2.2 F n deep p k []=R:=⟨_,rfl⟩
 obtain⟨F',rfl⟩:∃F',F=F'+1:=⟨F - 1,by omega⟩
 have glt:g < w.heap.size:=h.row.lt
 have pl:p≤r.2.2.2.length:=h.le
 have HR:=Lib.hid hR
 have HV:=Lib.hid hV
 have H:=Lib.hid h
 have KB:=Lib.hid k1
 have KZ:=Lib.hid k0
 have DB:=Lib.hid dp1
 have D0:=Lib.hid d0
 have D1:=Lib.hid d1
 have L9:=Lib.hid hl9
 have HN:=Lib.hid hn
 have HF:=Lib.hid hF
 have PL:=Lib.hid (pc_lt h.pc)
 rw[hR]
 clear hR hV h k1 k0 dp1 d0 d1 hl9 hn hF
 go_enter Try.func98,Try.ntmps98
 go_wp2_with fail
 go_loopg [7,9] r.2.2.2.length (fun g1 vl vi wr=>∃(i f pi:Nat) (ki:Int) (ks:List Tv),vi=.int .u64 (i:Int)∧i≤n∧r.2.2.2.length - pi≤g1∧pi≤r.2.2.2.length∧p+2*i≤pi∧Hid (r.2.2.2.length - pi+3≤f+1∧f < F'+1∧0≤ki∧ki+((r.2.2.2.length - pi:Nat):Int)≤k+((r.2.2.2.length - p:Nat):Int))∧Hid (R=rds b c d r.2.2.2 (f+1) (n - i) deep pi ki (nds ks))∧Hid (ks.length=i)∧Hid (wr.ownsRow w.heap.size 80 4 vl i (flat ks))∧Hid (∀t∈ks,Ok wr t)∧Hid (liess (fun k=>w.heap.size≤k∧vl.ownBlock≠some k) ks)∧Hid (Rt wr g a b c d ki r pi)∧Hid (w.grownBy wr (some g)))
 case atStart =>
  exact⟨0,F',p,k,[],rfl,Nat.zero_le _,Nat.sub_le _ _,pl,Nat.le_refl _,Lib.hid ⟨HF.out,Nat.lt_succ_self _,KZ.out,Int.le_refl _⟩,Lib.hid (by rw[←HR.out];rfl),Lib.hid rfl,Lib.hid ⟨rfl,.inl ⟨rfl,rfl⟩⟩,Lib.hid (fun t ht=>(List.not_mem_nil ht).elim),Lib.hid (by rw[liess];trivial),H,Lib.hid (World.grownBy.refl w _)⟩
 case round =>
  obtain⟨i,f,pi,ki,ks,rfl,hin,hg1,hpi,hp2,BO,ER,HL,OW,OK,LI,RT,GW⟩:=hrel
  have LL:=H.out.pc.len
  have i9:i≤1000000:=by have:=L9.out;omega
  obtain⟨A,cap,rfl,-, -, -, -⟩:=own_form OW.out
  by_cases hlt:i < n
  ·have q0:(i:Int) < (n:Int):=by omega
   have CV:=Lib.hid (HV.out f BO.out.2.1 wr g a b c d ki r pi deep RT.out D0.out D1.out BO.out.2.2.1 (by have h1:=BO.out.2.2.2;have h2:=KB.out;omega) L9.out dp0 (by have h1:=DB.out;omega) (by have h1:=BO.out.1;omega))
   have ES:R=match rdv b c d r.2.2.2 f deep pi ki with | .bad q e=>.bad q e | .good v q k'=>rds b c d r.2.2.2 f (n - i - 1) deep q k' (nds ks ++ [v]):=ER.out.trans (by rw[rds,if_neg (by omega)];cases rdv b c d r.2.2.2 f deep pi ki <;> rfl)
   cases hres:rdv b c d r.2.2.2 f deep pi ki with
   |bad q en =>
    rw[hres] at CV ES
    have CX:=Lib.hid (show Calls _ _ _ _ (fun e w'=>e=pan (q:Int) (en:Int)∧wr.grownBy w' (some g)) from CV.out)
    have E2:=Lib.hid (show R=.bad q en from ES)
    clear CV ES hres
    go_wp2_with (go_at_call 84;(refine CX.out.mono ?_);rintro e w1 ⟨rfl,h1⟩;have G1:=Lib.hid h1;clear h1)
    exact⟨rfl,by rw[E2.out];exact⟨rfl,only_trans GW.out G1.out⟩⟩
   |good v p2 k2 =>
    rw[hres] at CV ES
    have HG:=Lib.hid (rdv_good b c d r.2.2.2 f deep pi ki hpi hres)
    have CX:=Lib.hid (show Calls _ _ _ _ (RgQ v p2 wr g a b c d k2 r) from CV.out)
    have E2:=Lib.hid (show R=rds b c d r.2.2.2 f (n - i - 1) deep p2 k2 (nds ks ++ [v]) from ES)
    clear CV ES hres
    go_wp2_with (first
     |(go_at_call 84;(refine CX.out.mono ?_);rintro e w1 ⟨h1,t,rfl,hv,ho,hl,hr⟩;obtain⟨K,N,rr,B,cc,us⟩:=t;simp only[Tv.val,Tv.row];have G1:=Lib.hid h1;have V1:=Lib.hid hv;have K1:=Lib.hid ho;have L1:=Lib.hid hl;have R1:=Lib.hid hr;have A1:=Lib.hid (below_one w1 (.cells #[.int .i64 K,.int .u64 (N:Int),.slice rr.1 rr.2.1 rr.2.2.1,.slice B us.length cc] 80));have O1:=Lib.hid (own_belowg (OW.out.kept h1 (.inr (fun e=>by have:=own_ltg OW.out _ e;omega))) A1.out);have SA:=Lib.hid (show Sl (w1.alloc (.cells #[.int .i64 K,.int .u64 (N:Int),.slice rr.1 rr.2.1 rr.2.2.1,.slice B us.length cc] 80)) (some ⟨w1.heap.size,0,none⟩) (1*4) _ from Sl.new_ w1 80 [.int .i64 K,.int .u64 (N:Int),.slice rr.1 rr.2.1 rr.2.2.1,.slice B us.length cc]);clear h1 hv ho hl hr)
     |(at_builtin;refine wpList_append_at _ rfl _ _ 78 rfl w.heap.size 80 i0 _ 4 64 Try.underlying78 hi hz0 hz1 hz2 (by kernel_rfl) (by decide) (.slice A i cap) i (flat ks) rfl O1.out (some ⟨w1.heap.size,0,none⟩) 1 1 [.int .i64 K,.int .u64 (N:Int),.slice rr.1 rr.2.1 rr.2.2.1,.slice B us.length cc] rfl (fun e=>by cases e) SA.out (row_one (.mk K N rr B cc us)) (by unfold maxLen;omega) (by omega) (by have h1:=GW.out.size;have h2:=G1.out.size;have h3:=A1.out.size;omega) ?_))
    intro v4 w4 hown4 hgrow4 hat4
    have O4:=Lib.hid hown4
    have G4:=Lib.hid hgrow4
    have T4:=Lib.hid hat4
    have pg:=HG.out
    clear hown4 hgrow4 hat4
    obtain⟨A4,cap4,rfl,-, -, -, -⟩:=own_form O4.out
    go_wp2_with fail
    go_roundg (r.2.2.2.length - p2)
    case measure=>omega
    case rel =>
     have wg:g < wr.heap.size:=Nat.lt_of_lt_of_le glt GW.out.size
     have sz1:=GW.out.size
     have sz2:=G1.out.size
     have sz3:=A1.out.size
     have bl:=own_ltg OW.out
     have KW:∀t∈ks,Ok w1 t:=fun t ht=>(OK.out t ht).kept (liess_mem.1 LI.out t ht) (fun k hk hlt=>G1.out.block k hlt (fun e=>by have h1:k=g:=Option.some.inj e;omega))
     have LW:=liess.lt OK.out LI.out
     have LT:=lies.lt K1.out L1.out
     have nb:∀k,(w.heap.size≤k∧(Value.slice A i cap).ownBlock≠some k)∧k < wr.heap.size→w.heap.size≤k∧(Value.slice A4 (i+1) cap4).ownBlock≠some k:=fun k hk=>⟨hk.1.1,fun e=>by
      rcases T4.out k e with e1|e1
      ·exact hk.1.2 e1
      ·omega⟩
     have nt:∀k,wr.heap.size≤k∧k < w1.heap.size→w.heap.size≤k∧(Value.slice A4 (i+1) cap4).ownBlock≠some k:=fun k hk=>⟨by omega,fun e=>by
      rcases T4.out k e with e1|e1
      ·have:=bl k e1;omega
      ·omega⟩
     have LL4:liess (fun k=>w.heap.size≤k∧(Value.slice A4 (i+1) cap4).ownBlock≠some k) (ks ++ [.mk K N rr B cc us]):=by
      rw[liess_mem]
      intro t ht
      rcases List.mem_append.1 ht with ht|ht
      ·exact lies.mono nb (liess_mem.1 LW t ht)
      ·rw[List.mem_singleton.1 ht];exact lies.mono nt LT
     have KA:∀t∈ks ++ [.mk K N rr B cc us],Ok w4 t∧True:=fun t ht=>by
      rcases List.mem_append.1 ht with ht|ht
      ·exact⟨((KW t ht).keep A1.out).kept (liess_mem.1 LI.out t ht) (fun k hk hlt=>G4.out.block k hlt (fun e=>hk.2 e.symm)),trivial⟩
      ·rw[List.mem_singleton.1 ht]
       exact⟨(K1.out.keep A1.out).kept LT (fun k hk hlt=>G4.out.block k hlt (fun e=>by have:=bl k e.symm;omega)),trivial⟩
     refine⟨i+1,f - 1,p2,k2,ks ++ [.mk K N rr B cc us],by go_num,by omega,Nat.le_refl _,pg.2.1,by omega,Lib.hid ⟨by have:=BO.out.1;omega,by have:=BO.out.2.1;omega,by have:=BO.out.2.2.1;omega,by have:=BO.out.2.2.2;omega⟩,Lib.hid ?_,Lib.hid (by rw[List.length_append,HL.out];rfl),Lib.hid (by rw[flat_snoc];exact O4.out),Lib.hid (fun t ht=>(KA t ht).1),Lib.hid LL4,Lib.hid ?_,Lib.hid ?_⟩
     ·rw[E2.out,nds_map,nds_map,List.map_append,List.map_cons,List.map_nil,V1.out,show f - 1+1=f by have:=BO.out.1;omega,show n - (i+1)=n - i - 1 by omega]
     ·exact(R1.out.below A1.out).grown G4.out (fun e=>by have:=bl g e;omega) (fun ad e hn e2=>by have h1:=bl _ e2;have h2:=PL.out ad e hn;omega)
     ·exact only_own (only_then (only_trans GW.out G1.out) (A1.out.mono (by omega))) G4.out (fun j e=>(bl j e).1)
  ·obtain rfl:i=n:=by omega
   have q0:¬(i:Int) < (i:Int):=by omega
   have E2:=Lib.hid (show R=.good (nds ks) pi ki from ER.out.trans (by rw[rds,if_pos (by omega)]))
   go_wp2_with fail
   go_ret
   obtain⟨A',cap',e',s1,s2,s3,s4⟩:=own_form OW.out
   cases e'
   rw[E2.out]
   refine⟨GW.out,ks,A,cap,by rw[HL.out];rfl,rfl,?_,s2,by have:=HL.out;omega,by have:=HL.out;omega,OK.out,liess.mono (fun k hk=>hk.1) LI.out,fun ad e=>(s4 ad e).1,RT.out⟩
   have e4:4*ks.length=i*4:=by have:=HL.out;omega
   rw[e4];exact s1
end Go.Proofs.Yteblmphohhbgcaa.Wr
