/- Joined texts. -/
import Derived.Test.YtoibhnpmemnlfaaGreatDoorQtAvPg
set_option linter.unusedVariables false
namespace Go.Proofs.YtoibhnpmemnlfaaGreatDoor.Av
open Go.RowKit Go.Proofs.YtoibhnpmemnlfaaGreatDoor.Gn Go.Proofs.YtoibhnpmemnlfaaGreatDoor.Fd Go.Proofs.YtoibhnpmemnlfaaGreatDoor.Ed Go.Deep
section
variable {Γ:Ctx} {σ:St} {o:Oper}
theorem FS.buildE(J:Nat){T e:TypeId}{R:St→Prop}(hrun:∀(a:Act) (w:World),(execOp a.eval o).run Γ.P w=.ok (.value (.slice (some ⟨w.heap.size,0,none⟩) 0 0)) (w.alloc (.cells #[] e)))(hJ:σ.nref J=true)(hd:inN Γ.n o.dst=true)
  (hR:R ((σ.add J (.buf e 1 false []) none).put o.dst (.c (.own J)))):FS Γ o σ R:=by
 rintro a w Q K ⟨ρ,h1,h2⟩ hK
 obtain⟨q1,q2⟩:=h1.swap h2 J hJ (.slice (some ⟨w.heap.size,0,none⟩) 0 0) (.buf e 1 false []) none none (World.grownBy_alloc w (.cells #[] e) none) (fun b hb=>by cases hb) rfl (fun b hb=>by cases hb;exact .inr (Nat.le_refl _)) fun O' hoff hO _=>by
  refine⟨0,[],by simp only[updρ];exact⟨rfl,.inr ⟨w.heap.size,0,#[],rfl,Bl.new_ w e _,Nat.le_refl _,Nat.zero_le _,rfl,rfl,fun h=>by cases h⟩⟩,rfl,trivial⟩
 refine wp_val (hrun a w) (hK _ _ _ hR ⟨updρ ρ J (.slice (some ⟨w.heap.size,0,none⟩) 0 0),by rw[St.put_o];exact q1,q2.put ?_ _ hd⟩)
 exact⟨by simp[updρ],_,_,_,rfl⟩
theorem Fa.buildE(J:Nat){T e:TypeId}{R:St→Prop}{t:List (Nat × Sv)}{ob:List (Nat × Ob)}{d:Nat}(hrun:∀(a:Act) (w:World),(execOp a.eval o).run Γ.P w=.ok (.value (.slice (some ⟨w.heap.size,0,none⟩) 0 0)) (w.alloc (.cells #[] e)))(hJ:St.nref ⟨t,ob⟩ J=true)(hd:o.dst=some d)(hn:Nat.blt d Γ.n=true)
  (hR:R ⟨(d,.c (.own J)) :: t,(J,.buf e 1 false []) :: ob⟩):FS Γ o ⟨t,ob⟩ R:=FS.buildE (T:=T) J hrun hJ (inN_of hd hn) (by unfold St.add;rw[put_eq hd];exact hR)
def Ro(Γ:Ctx)(fn:Func)(e:TypeId)(k:Nat)(ni:Bool)(cs:List DV)(σ:St):Prop:=∃s j,fn.results = #[.tmp s]∧σ.at_ s=.c (.own j)∧look σ.o j=some (.buf e k ni cs)
def Rxo(Γ:Ctx)(fn:Func)(e:TypeId)(k:Nat)(ni:Bool)(cs:List DV):Exit→St→Prop
 |.normal,σ | .ret,σ=>Ro Γ fn e k ni cs σ
 |_,_=>False
theorem Rt.wholeTmp{fn:Func}{s j s' k:Nat}{m:Bool}{T t:TypeId}{x r':DV}{d:TypeDesc}(h:fn.results = #[.cell s T,.tmp s'])(hs:σ.at_ s=.c (.ptr j 0))(hj:look σ.o j=some (.whole m t x))(hs':σ.at_ s'=D r')(hc:∀O w vs,x.rep O w (.agg vs)→vs.size=k)
  (hu:Γ.P.underlying T=some d) (hd:d.isRow=true) (hi:(Γ.P.info? T).map (·.size)=some k):Rt Γ fn (.tup [x,r']) σ:=fun ρ a w h1 h2=>by
 obtain⟨g,e1,e2⟩:=h2.slot h1 hs
 obtain⟨g',vs,e3,-, e4,e6⟩:=h1.os j _ hj
 rw[e3] at e1;cases e1
 have e5:=run_load_var (P:=Γ.P) T g' t vs e4 hu hd (by rw[hi,hc _ _ _ e6])
 exact⟨.tuple #[.agg vs,a.tmps.getD s' undef],by rw[Array.getD_eq_getD_getElem?] at e2;simp[results,h,e2,asAddr,e5],_,rfl,rfl,⟨_,rfl,e6⟩,⟨_,rfl,h2.slot h1 hs'⟩,trivial⟩
theorem PS.nilF{x:Operand}{T T2:TypeId}{k:Nat}{xs:List DV}(ho:o.op=.binOp .eql T x (.const (.slice none 0 0)) T2)(hx:σ.ev x=D (.sq true k xs))(hk:0 < xs.length)(hg:∀ad n c w,(eqGuard .eql T x (.const (.slice none 0 0)) (.slice (some ad) n c) (.slice none 0 0)).run Γ.P w=.ok () w)
  (hr:∀ad n c w,(binOp .eql T (.slice (some ad) n c) (.slice none 0 0)).run Γ.P w=.ok (.bool false) w):PS Γ o σ (Bo false):=PS.read _ fun ρ a w h1 h2=>by
 obtain⟨A,n,c,e1,-, -, e4⟩:=h2.dv hx (by simp[ho,Op.operands])
 obtain⟨v,⟨ad,e5,-⟩,-⟩:=reps_iff.1 e4 0 xs[0] (List.getElem?_eq_getElem hk)
 subst e5
 refine⟨.bool false,?_,rfl⟩
 unfold execOp
 simp only[ho,e1,show a.eval (.const (.slice none 0 0))=.slice none 0 0 from rfl,Sem.run_bind,hg,Result.andThen_ok,hr,Sem.run_pure]
theorem FS.storeW{x y:Operand}{T t:TypeId}{j k:Nat}{c d:DV}{R:St→Prop}(ho:o.op=.store T x y)(hx:σ.ev x=.c (.ptr j 0))(hy:σ.ev y=D d)(hj:look σ.o j=some (.whole true t c))(hk:∀O w vs,c.rep O w (.agg vs)→vs.size=k)
  (hc:∀O w v,d.rep O w v→∃us:Array Value,v=.agg us∧us.size=k∧∀u∈us.toList,u.oneCell'=true) (hi:(Γ.P.info? T).map (·.size)=some k) (hd:inN Γ.n o.dst=true) (hR:R ((⟨σ.t,(j,.whole true t d) :: σ.o⟩:St).put o.dst (.c .any))):FS Γ o σ R:=by
 rintro a w Q K ⟨ρ,h1,h2⟩ hK
 have h3:=h2.ev h1 x
 rw[hx] at h3
 obtain⟨g,e1,e2⟩:=h3
 obtain⟨g',vs,e3,-, e4,e6⟩:=h1.os j _ hj
 have hg:blk (ρ j)=some g:=e1
 rw[e3] at e1;cases e1
 have hd':=h2.dv h1 hy
 obtain⟨us,f1,f2,hone⟩:=hc _ _ _ hd'
 have hks:=hk _ _ _ e6
 refine wp_store_bl T x y ho g' 0 us e2 f1 t vs e4 (by omega) (by rw[hi,f2]) hone fun w' hb hgr=>?_
 rw[spl_all _ _ (by simp;omega)] at hb
 obtain⟨q1,q2⟩:=h1.store h2 j g' (.whole true t d) ⟨_,hj,rfl⟩ hg hgr rfl fun hoffs=>by
  refine⟨g',us,e3,(fun h=>by cases h),by simpa using hb,?_⟩
  rw[←f1]
  exact DV.rep_keep hoffs (fun _ h _=>h) d _ hd'
 exact hK _ _ _ hR ⟨ρ,by rw[St.put_o];exact q1,q2.put (by trivial) _ hd⟩
theorem FS.storeV{x y:Operand}{T t:TypeId}{j k:Nat}{cs:List Cl}{d:DV}{R:St→Prop}(ho:o.op=.store T x y)(hx:σ.ev x=.c (.ptr j 0))(hy:σ.ev y=D d)(hj:look σ.o j=some (.var t cs))(hl:cs.length=k)
  (hc:∀O w v,d.rep O w v→∃us:Array Value,v=.agg us∧us.size=k∧∀u∈us.toList,u.oneCell'=true) (hi:(Γ.P.info? T).map (·.size)=some k) (hd:inN Γ.n o.dst=true) (hR:R ((⟨σ.t,(j,.whole true t d) :: σ.o⟩:St).put o.dst (.c .any))):FS Γ o σ R:=by
 rintro a w Q K ⟨ρ,h1,h2⟩ hK
 have h3:=h2.ev h1 x
 rw[hx] at h3
 obtain⟨g,e1,e2⟩:=h3
 obtain⟨g',vs,e3,e4,e5,e6⟩:=h1.os j _ hj
 have hg:blk (ρ j)=some g:=e1
 rw[e3] at e1;cases e1
 have hd':=h2.dv h1 hy
 obtain⟨us,f1,f2,hone⟩:=hc _ _ _ hd'
 refine wp_store_bl T x y ho g' 0 us e2 f1 t vs e4 (by omega) (by rw[hi,f2]) hone fun w' hb hgr=>?_
 rw[spl_all _ _ (by simp;omega)] at hb
 obtain⟨q1,q2⟩:=h1.store h2 j g' (.whole true t d) ⟨_,hj,rfl⟩ hg hgr rfl fun hoffs=>by
  refine⟨g',us,e3,(fun h=>by cases h),by simpa using hb,?_⟩
  rw[←f1]
  exact DV.rep_keep hoffs (fun _ h _=>h) d _ hd'
 exact hK _ _ _ hR ⟨ρ,by rw[St.put_o];exact q1,q2.put (by trivial) _ hd⟩
theorem Fa.storeV{x y:Operand}{T ty:TypeId}{j k:Nat}{cs:List Cl}{c:DV}{R:St→Prop}{t:List (Nat × Sv)}{ob:List (Nat × Ob)}(ho:o.op=.store T x y)(hx:St.ev ⟨t,ob⟩ x=.c (.ptr j 0))(hy:St.ev ⟨t,ob⟩ y=D c)(hj:look ob j=some (.var ty cs))(hl:cs.length=k)
  (hc:∀O w v,c.rep O w v→∃us:Array Value,v=.agg us∧us.size=k∧∀u∈us.toList,u.oneCell'=true) (hi:(Γ.P.info? T).map (·.size)=some k) (hd:o.dst=none) (hR:R ⟨t,(j,.whole true ty c) :: ob⟩):FS Γ o ⟨t,ob⟩ R:=FS.storeV ho hx hy hj hl hc hi (by rw[hd];rfl) (by rw[hd];exact hR)
theorem Fa.storeW{x y:Operand}{T ty:TypeId}{j k:Nat}{c d:DV}{R:St→Prop}{t:List (Nat × Sv)}{ob:List (Nat × Ob)}(ho:o.op=.store T x y)(hx:St.ev ⟨t,ob⟩ x=.c (.ptr j 0))(hy:St.ev ⟨t,ob⟩ y=D d)(hj:look ob j=some (.whole true ty c))(hk:∀O w vs,c.rep O w (.agg vs)→vs.size=k)
  (hc:∀O w v,d.rep O w v→∃us:Array Value,v=.agg us∧us.size=k∧∀u∈us.toList,u.oneCell'=true) (hi:(Γ.P.info? T).map (·.size)=some k) (hd:o.dst=none) (hR:R ⟨t,(j,.whole true ty d) :: ob⟩):FS Γ o ⟨t,ob⟩ R:=FS.storeW ho hx hy hj hk hc hi (by rw[hd];rfl) (by rw[hd];exact hR)
end
theorem OwnAt.of{P:Program}{w:World}{f:FuncId}{xs:List DV}{e:TypeId}{k:Nat}{ni:Bool}{cs:List DV}(fn:Func)(n:Nat)(c:Code)(hf:P.funcs[f]?=some fn)(hm:fn.ntmps=n)(hb:fn.body=some c)(hn:Nat.ble xs.length n=true)
  (he:En P f) (h:∀O:Nat→Prop,PW ⟨P,n,w,O,fun _=>False,[]⟩ c (Rxo ⟨P,n,w,O,fun _=>False,[]⟩ fn e k ni cs) (St.enter xs)):OwnAt P [] w f xs e k ni cs:=by
 refine⟨he,fun O vs hO hks hl hr=>?_⟩
 have hn:=Nat.le_of_ble_eq_true hn
 have:=h O { tmps:=vs.toArray ++ Array.replicate (fn.ntmps - vs.toArray.size) undef,defers:=[] } w
  ⟨fun _=>undef,⟨fun j ob hj=>by simp[St.enter,look] at hj,fun i j b _ hi=>by obtain⟨ob,h1,-⟩:=hi;simp[St.enter,look] at h1,fun j b hi=>by obtain⟨ob,h1,-⟩:=hi;simp[St.enter,look] at h1,Kp.refl _ _,fun b hb=>⟨hO b hb,fun h=>h⟩,fun b cs t fz _ _ v _=>noK_nil v⟩,
   ⟨rfl,(fun i x hi=>by
    obtain⟨j,y,hij,hy,rfl⟩:=args_at hi
    have hij:i=j:=by omega
    subst hij
    obtain⟨v,h1,h2⟩:=reps_iff.1 hr i y hy
    rw[Nat.zero_add] at h1
    have hil:i < vs.length:=(List.getElem?_eq_some_iff.1 h1).1
    have e:(vs.toArray ++ Array.replicate (fn.ntmps - vs.toArray.size) undef).getD i undef=v:=by
     rw[Array.getD_eq_getD_getElem?,Array.getElem?_append_left (by simpa using hil)]
     simp[h1]
    rw[e]
    refine DV.rep_keep (Off.refl O w) (fun b hb _ h3=>?_) y v h2
    rcases h3 with h3|⟨j,⟨ob,h3,-⟩,-⟩
    ·exact hb h3
    ·simp[St.enter,look] at h3),(by
     simp[hm];omega)⟩⟩
 refine calls_of_wp hf hb (wp_mono this fun ex a' w' ⟨σ',⟨ρ,h1,h2⟩,h3⟩=>?_)
 have fin:Ro ⟨P,n,w,O,fun _=>False,[]⟩ fn e k ni cs σ'→a'.defers=[]∧∃v,(results fn a'.tmps).run P w'=.ok v w'∧∃v' n' us,Ending.returned v=.returned v'∧Row w' e k v' n' us ni∧us.length=cs.length∧DV.reps (fun b=>O b∨blk v'=some b) w' cs 0 (fun i u=>us[i]?=some u)∧(∀b,blk v'=some b→w.heap.size≤b)∧(∃A n c,v'=.slice A n c)∧Below w.heap.size w w':=by
  rintro⟨s,j,g1,g2,g3⟩
  obtain⟨g4,g5⟩:=h2.slot h1 g2
  obtain⟨n',us,g6,g7,g8⟩:=h1.os j _ g3
  have hjL:liveAt σ'.o j:=⟨_,g3,rfl⟩
  refine⟨h2.df,a'.tmps.getD s undef,Gn.results_tmp s _ g1 rfl,_,n',us,rfl,by rw[g4];exact g6,g7,DV.reps_keep (Off.refl _ w') (fun b hb _ h9=>?_) _ 0 _ _ g8 fun _ _ h=>h,fun b hb=>?_,g5,h1.kp.to_below⟩
  ·rcases h9 with h9|h9
   ·exact hb (.inl h9)
   ·rw[g4] at h9;exact hb (.inr ⟨j,hjL,h9⟩)
  ·rw[g4] at hb
   rcases h1.ge j b hjL hb with h9|h9
   ·exact h9
   ·exact h9.elim
 cases ex with
 |normal=>exact fin h3
 |ret=>exact fin h3
 |_=>exact h3.elim
def nop':DV:=.lit (.agg z20)
def decG(o:Option KP):DV:=match o with
 |none=>.tup [nop',.lit (.int .i64 40)]
 |some p=>.tup [pv p,.lit (.int .i64 0)]
theorem z5_row':∀O w v,(DV.lit (.agg z5)).rep O w v→∃us:Array Value,v=.agg us∧us.size=5∧∀u∈us.toList,u.oneCell'=true:=agg_row rfl (by intro u hu;unfold z5 at hu;simp at hu;subst hu;rfl)
theorem p_fdec1{l:List Nat}(h32:l.length=32)(hl:∀x∈l,x < 256)(hm:le l < pp)(w:World):FnAt Tryz.prog [] w 29 [byt true l] (.tup [kv (kof (le l)),.lit (.int .i64 0)]) :=
 ⟨fun _ _=>by kernel_rfl,fun O vs hO hk hln hr=>by
  obtain⟨u,rfl,h1⟩:=one_arg hln hr
  obtain⟨A,n,c,rfl,s1,-⟩:=row_sl h1
  obtain rfl:n=32:=by have:=s1.1;simp[bl] at this;omega
  refine(decode_any A c l w hl s1).mono fun e w' ⟨h3,h4⟩=>?_
  unfold DecP at h3
  rw[if_pos hm] at h3
  refine⟨_,h3,⟨_,rfl,rfl,⟨_,rfl,?_⟩,⟨_,rfl,rfl⟩,trivial⟩,h4⟩
  show _=Value.agg (kof (le l)).v
  rw[kof_v,Nat.mod_eq_of_lt hm]
  rfl⟩
theorem p_fdec2{l:List Nat}(h32:l.length=32)(hl:∀x∈l,x < 256)(hm:¬le l < pp)(w:World):FnAt Tryz.prog [] w 29 [byt true l] (.tup [.lit (.agg z5),.lit (.int .i64 30)]) :=
 ⟨fun _ _=>by kernel_rfl,fun O vs hO hk hln hr=>by
  obtain⟨u,rfl,h1⟩:=one_arg hln hr
  obtain⟨A,n,c,rfl,s1,-⟩:=row_sl h1
  obtain rfl:n=32:=by have:=s1.1;simp[bl] at this;omega
  refine(decode_any A c l w hl s1).mono fun e w' ⟨h3,h4⟩=>?_
  unfold DecP at h3
  rw[if_neg hm] at h3
  exact⟨_,h3,⟨_,rfl,rfl,⟨_,rfl,rfl⟩,⟨_,rfl,rfl⟩,trivial⟩,h4⟩⟩
theorem p_across{y:K}{r:Nat}(h:acr y=some r)(w:World)(tab:TabE w):FnAt Tryz.prog [] w 30 [kv y] (.tup [kv (kof r),.lit (.bool true)]) :=
 (el_one (fun _ _=>by kernel_rfl) (cacross w tab h)).to fun O w v h=>by cases h;exact⟨_,rfl,rfl,⟨_,rfl,rfl⟩,⟨_,rfl,rfl⟩,trivial⟩
theorem p_acrossN{y:K}(h:acr y=none)(w:World)(tab:TabE w):FnAt Tryz.prog [] w 30 [kv y] (.tup [kv ke,.lit (.bool false)]) :=
 (el_one (fun _ _=>by kernel_rfl) (nacross w tab h)).to fun O w v h=>by cases h;exact⟨_,rfl,rfl,⟨_,rfl,rfl⟩,⟨_,rfl,rfl⟩,trivial⟩
theorem odd_neg{y:K}{r:Nat}(h:acr y=some r)(h0:r≠0):decide (fv (kneg (kof r)).f%2=1)=true:=by
 have h1:=acr_lt h
 rw[decide_eq_true_eq,kneg_f,kof_f,←fe_ng,fv_small (ng_lt _),ng_of h1.1 h0]
 have:=pp_odd
 omega
theorem odd_neg0:decide (fv (kneg (kof 0)).f%2=1)=false:=by
 rw[decide_eq_false_iff_not,kneg_f,kof_f,←fe_ng,fv_small (ng_lt _)]
 have:ng 0=0:=by unfold ng;simp
 rw[this];decide
theorem odd_pos{y:K}{r:Nat}(h:acr y=some r):decide (fv (kof r).f%2=1)=false:=by
 have h1:=acr_lt h
 rw[decide_eq_false_iff_not,kof_f,fv_small h1.1]
 omega
theorem dpt_0{m s:Nat}(hm:¬m < pp):dpt m s=none:=by unfold dpt;rw[if_neg hm]
theorem dpt_1{m s:Nat}(hm:m < pp)(ha:acr (kof m)=none):dpt m s=none:=by unfold dpt;rw[if_pos hm,ha]
theorem dpt_2{m s r:Nat}(hm:m < pp)(ha:acr (kof m)=some r)(hs:¬s=1):dpt m s=some (kheld (kof r) (kof m)):=by unfold dpt;rw[if_pos hm,ha];dsimp only;rw[if_neg (fun h=>hs h.1)];unfold sx;rw[if_neg hs]
theorem dpt_3{m s:Nat}(hm:m < pp)(ha:acr (kof m)=some 0)(hs:s=1):dpt m s=none:=by unfold dpt;rw[if_pos hm,ha];dsimp only;rw[if_pos ⟨hs,rfl⟩]
theorem dpt_4{m s r:Nat}(hm:m < pp)(ha:acr (kof m)=some r)(h0:r≠0)(hs:s=1):dpt m s=some (kheld (kneg (kof r)) (kof m)):=by unfold dpt;rw[if_pos hm,ha];dsimp only;rw[if_neg (fun h=>h0 h.2)];unfold sx;rw[if_pos hs]
set_option maxRecDepth 100000 in
theorem c_clone{l:List Nat}(h0:0 < l.length)(h1:l.length≤1000)(w:World):OwnAt Tryz.prog [] w 28 [byt true l] 5 1 false ((bl l).map .lit):=by
 refine OwnAt.of Tryz.f28 _ _ Tryz.func28 Tryz.ntmps28 rfl (by kernel_rfl) (fun _ _=>by kernel_rfl) fun O=>?_
 show PW _ _ _ ⟨[(0,.c (.dv _))],[]⟩
 refine(PW.seq ?_:PW _ _ _ _)
 refine(PW.region ?_:PW _ _ _ _)
 refine PL.mu rfl rfl rfl rfl rfl ?_
 refine PL.nil ?_
 refine(PW.seq ?_:PW _ _ _ _)
 refine(PW.seq ?_:PW _ _ _ _)
 refine(PW.region ?_:PW _ _ _ _)
 refine PL.mv rfl rfl rfl rfl rfl ?_
 refine PL.step rfl rfl rfl (PS.nilF rfl rfl (by simp[bl];omega) (fun _ _ _ _=>by kernel_rfl) (fun _ _ _ _=>by kernel_rfl)) ?_
 refine PL.nil ?_
 show PW _ _ _ _
 refine PW.cond (b:=false) (by rfl) (fun h=>nomatch h) (fun _=>?_)
 refine(PW.skip ?_:PW _ _ _ _)
 refine(PW.seq ?_:PW _ _ _ _)
 refine(PW.region ?_:PW _ _ _ _)
 refine PL.full rfl (Fa.buildE (T:=22) (e:=5) 11 (fun _ _=>by kernel_rfl) (by kernel_rfl) rfl rfl ?_)
 refine PL.mv rfl rfl rfl rfl rfl ?_
 refine PL.full rfl (Fa.app 13 (z:=.int .u8 0) (e:=5) (bytes:=1) (k:=1) rfl rfl rfl rfl Tryz.underlying22 (by kernel_rfl) rfl (by decide) (fun h=>by cases h) (byt_one l) (fun h=>by cases h) (by decide) (by simp[bl];omega) (by kernel_rfl) rfl rfl ?_)
 refine PL.mu rfl rfl rfl rfl rfl ?_
 refine PL.nil ?_
 refine(PW.ret ?_:PW _ _ _ _)
 exact⟨_,_,Tryz.results28,rfl,rfl⟩
set_option maxHeartbeats 4000000 in
set_option maxRecDepth 100000 in
theorem p_dec5{l:List Nat}(h32:l.length=32)(hl:∀x∈l,x < 256)(w:World)(tab:TabE w):FnAt Tryz.prog [] w 10 [byt true l] (decG (dpt (le (low l)) (l.getD 31 0 / 128))):=by
 refine FnAt.of Tryz.f10 _ _ Tryz.func10 Tryz.ntmps10 rfl (by kernel_rfl) (fun _ _=>by kernel_rfl) fun O=>?_
 have hx:l.getD 31 0 < 256:=by rw[List.getD_eq_getElem?_getD,List.getElem?_eq_getElem (by omega)];exact hl _ (List.getElem_mem _)
 have h32l:(low l).length=32:=by unfold low;simp;omega
 have hlow:∀x∈low l,x < 256:=by
  intro x hx2
  unfold low at hx2
  rcases List.mem_or_eq_of_mem_set hx2 with h1|h1
  ·exact hl x h1
  ·omega
 obtain⟨q,ho⟩:∃q,decide (128≤l.getD 31 0)=q:=⟨_,rfl⟩
 show PW _ _ _ ⟨[(0,.c (.dv _))],[]⟩
 refine(PW.seq ?_:PW _ _ _ _)
 refine(PW.region ?_:PW _ _ _ _)
 refine PL.full rfl (Fa.alloc 1 (z:=(.agg #[.int .u64 0,.int .u64 0,.int .u64 0,.int .u64 0,.int .u64 0,.int .u64 0,.int .u64 0,.int .u64 0,.int .u64 0,.int .u64 0,.int .u64 0,.int .u64 0,.int .u64 0,.int .u64 0,.int .u64 0,.int .u64 0,.int .u64 0,.int .u64 0,.int .u64 0,.int .u64 0])) rfl (by kernel_rfl) (by kernel_rfl) rfl rfl ?_)
 refine PL.mu rfl rfl rfl rfl rfl ?_
 refine PL.nil ?_
 refine(PW.seq ?_:PW _ _ _ _)
 refine(PW.seq ?_:PW _ _ _ _)
 refine(PW.region ?_:PW _ _ _ _)
 refine PL.mv rfl rfl rfl rfl rfl ?_
 refine PL.step rfl rfl rfl (PS.len (n:=l.length) rfl rfl Tryz.underlying22 (by decide) (by simp[bl])) ?_
 refine PL.step rfl rfl rfl (PS.eq (y:=Bo false) (PS.neq rfl rfl rfl) (by rw[decide_eq_true (by omega)];rfl)) ?_
 refine PL.nil ?_
 show PW _ _ _ _
 refine PW.cond (b:=false) (by rfl) (fun h=>nomatch h) (fun _=>?_)
 refine(PW.skip ?_:PW _ _ _ _)
 refine(PW.seq ?_:PW _ _ _ _)
 refine(PW.region ?_:PW _ _ _ _)
 refine PL.mv rfl rfl rfl rfl rfl ?_
 refine PL.step rfl rfl rfl (PS.index1 (i:=31) (.lit (.int .u8 ((l.getD 31 0:Nat):Int))) rfl rfl rfl Tryz.underlying22 (by kernel_rfl) (byt_get (by omega))) ?_
 refine PL.step rfl rfl rfl (PS.loadA rfl rfl Tryz.underlying5 rfl) ?_
 refine PL.step rfl rfl rfl (PS.bin (.int .u8 ((l.getD 31 0 / 128*128:Nat):Int)) rfl rfl rfl guard_int (fun w=>o_and128 w _ hx)) ?_
 refine PL.step rfl rfl rfl (PS.bin (.bool q) rfl rfl rfl guard_int (fun w=>o_neq8 w _ _ ho hx)) ?_
 refine PL.mu rfl rfl rfl rfl rfl ?_
 refine PL.nil ?_
 refine(PW.seq ?_:PW _ _ _ _)
 refine(PW.region ?_:PW _ _ _ _)
 refine PL.mv rfl rfl rfl rfl rfl ?_
 refine PL.full rfl (Fa.callOwn 31 (xs:=[_]) rfl rfl rfl (by kernel_rfl) (fun w hw=>c_clone (l:=l) (by omega) (by omega) w) (by kernel_rfl) rfl rfl ?_)
 refine PL.mu rfl rfl rfl rfl rfl ?_
 refine PL.nil ?_
 refine(PW.seq ?_:PW _ _ _ _)
 refine(PW.region ?_:PW _ _ _ _)
 refine PL.mv rfl rfl rfl rfl rfl ?_
 refine PL.step rfl rfl rfl (PS.indexOwn (i:=31) (k:=1) rfl rfl rfl rfl Tryz.underlying22 (by kernel_rfl) (by decide) (by simp[bl];omega)) ?_
 refine PL.step rfl rfl rfl (PS.loadB (c:=.lit (.int .u8 ((l.getD 31 0:Nat):Int))) rfl rfl rfl (byt_get (by omega)) Tryz.underlying5 rfl) ?_
 refine PL.step rfl rfl rfl (PS.bin (.int .u8 ((l.getD 31 0%128:Nat):Int)) rfl rfl rfl guard_int (fun w=>o_andn128 w _ hx)) ?_
 refine PL.step rfl rfl rfl (PS.indexOwn (i:=31) (k:=1) rfl rfl rfl rfl Tryz.underlying22 (by kernel_rfl) (by decide) (by simp[bl];omega)) ?_
 refine PL.full rfl (Fa.storeB rfl rfl rfl rfl (by simp[bl];omega) rfl (fun h=>by cases h) (by kernel_rfl) rfl ?_)
 refine PL.nil ?_
 refine(PW.seq ?_:PW _ _ _ _)
 refine PW.give 31 rfl ?_
 have hL:((bl l).map DV.lit).set (31*1) (.lit (.int .u8 ((l.getD 31 0%128:Nat):Int)))=(bl (low l)).map DV.lit:=byt_set l 31 _
 by_cases hm:le (low l) < pp
 rotate_left
 ·skip
  refine(PW.region ?_:PW _ _ _ _)
  refine PL.mv rfl rfl rfl rfl rfl ?_
  refine PL.call (xs:=[_]) rfl rfl rfl rfl rfl rfl rfl (fun w hw=>FnAt.les (p_fdec2 (l:=low l) h32l hlow hm w) ⟨le_eq (by unfold byt;rw[←hL]),trivial⟩) ?_
  refine PL.mv rfl rfl rfl rfl rfl ?_
  refine PL.step rfl rfl rfl (PS.ext rfl rfl rfl) ?_
  refine PL.step rfl rfl rfl (PS.ext rfl rfl rfl) ?_
  refine PL.full rfl (Fa.alloc 2 (z:=(.agg #[.int .u64 0,.int .u64 0,.int .u64 0,.int .u64 0,.int .u64 0])) rfl (by kernel_rfl) (by kernel_rfl) rfl rfl ?_)
  refine PL.full rfl (Fa.storeH 5 rfl rfl rfl rfl rfl z5_row' (by kernel_rfl) rfl ?_)
  refine PL.mu rfl rfl rfl rfl rfl ?_
  refine PL.nil ?_
  refine(PW.seq ?_:PW _ _ _ _)
  refine(PW.seq ?_:PW _ _ _ _)
  refine(PW.region ?_:PW _ _ _ _)
  refine PL.mv rfl rfl rfl rfl rfl ?_
  refine PL.step rfl rfl rfl (PS.neq rfl rfl rfl) ?_
  refine PL.nil ?_
  show PW _ _ _ _
  refine PW.cond (b:=true) (by rfl) (fun _=>?_) (fun h=>nomatch h)
  refine(PW.seq ?_:PW _ _ _ _)
  refine(PW.region ?_:PW _ _ _ _)
  refine PL.step rfl rfl rfl (PS.build (xs:=[]) (zs:=[.int .u64 0,.int .u64 0,.int .u64 0,.int .u64 0,.int .u64 0,.int .u64 0,.int .u64 0,.int .u64 0,.int .u64 0,.int .u64 0,.int .u64 0,.int .u64 0,.int .u64 0,.int .u64 0,.int .u64 0,.int .u64 0,.int .u64 0,.int .u64 0,.int .u64 0,.int .u64 0]) [] _ rfl rfl Tryz.underlying33 (by kernel_rfl) (by kernel_rfl) (by kernel_rfl) rfl (by kernel_rfl) rfl) ?_
  refine PL.full rfl (Fa.storeR rfl rfl rfl rfl rfl rfl (by kernel_rfl) rfl ?_)
  refine PL.mu rfl rfl rfl rfl rfl ?_
  refine PL.nil ?_
  refine(PW.ret ?_:PW _ _ _ _)
  exact Rt.as (Rt.cellTwo Tryz.results10 rfl rfl rfl Tryz.underlying33 rfl (by kernel_rfl)) (by rw[dpt_0 hm];exact le_tup2 (agg_lit (l:=z20.toList)) (le_refl _))
 ·skip
  refine(PW.region ?_:PW _ _ _ _)
  refine PL.mv rfl rfl rfl rfl rfl ?_
  refine PL.call (xs:=[_]) rfl rfl rfl rfl rfl rfl rfl (fun w hw=>FnAt.les (p_fdec1 (l:=low l) h32l hlow hm w) ⟨le_eq (by unfold byt;rw[←hL]),trivial⟩) ?_
  refine PL.mv rfl rfl rfl rfl rfl ?_
  refine PL.step rfl rfl rfl (PS.ext rfl rfl rfl) ?_
  refine PL.step rfl rfl rfl (PS.ext rfl rfl rfl) ?_
  refine PL.full rfl (Fa.alloc 3 (z:=(.agg #[.int .u64 0,.int .u64 0,.int .u64 0,.int .u64 0,.int .u64 0])) rfl (by kernel_rfl) (by kernel_rfl) rfl rfl ?_)
  refine PL.full rfl (Fa.storeH 5 rfl rfl rfl rfl rfl (kv_row _) (by kernel_rfl) rfl ?_)
  refine PL.mu rfl rfl rfl rfl rfl ?_
  refine PL.nil ?_
  refine(PW.seq ?_:PW _ _ _ _)
  refine(PW.seq ?_:PW _ _ _ _)
  refine(PW.region ?_:PW _ _ _ _)
  refine PL.mv rfl rfl rfl rfl rfl ?_
  refine PL.step rfl rfl rfl (PS.neq rfl rfl rfl) ?_
  refine PL.nil ?_
  show PW _ _ _ _
  refine PW.cond (b:=false) (by rfl) (fun h=>nomatch h) (fun _=>?_)
  refine(PW.skip ?_:PW _ _ _ _)
  refine(PW.seq ?_:PW _ _ _ _)
  rcases ha:acr (kof (le (low l))) with _|r
  ·skip
   refine(PW.region ?_:PW _ _ _ _)
   refine PL.step rfl rfl rfl (PS.loadH (k:=5) rfl rfl rfl (row_sz (kv_row _)) Tryz.underlying31 rfl (by kernel_rfl)) ?_
   refine PL.call (xs:=[_]) rfl rfl rfl rfl rfl rfl rfl (fun w hw=>p_acrossN ha w (tab.below hw.to_below)) ?_
   refine PL.mv rfl rfl rfl rfl rfl ?_
   refine PL.step rfl rfl rfl (PS.ext rfl rfl rfl) ?_
   refine PL.step rfl rfl rfl (PS.ext rfl rfl rfl) ?_
   refine PL.full rfl (Fa.alloc 4 (z:=(.agg #[.int .u64 0,.int .u64 0,.int .u64 0,.int .u64 0,.int .u64 0])) rfl (by kernel_rfl) (by kernel_rfl) rfl rfl ?_)
   refine PL.full rfl (Fa.storeV rfl rfl rfl rfl rfl (kv_row _) (by kernel_rfl) rfl ?_)
   refine PL.mu rfl rfl rfl rfl rfl ?_
   refine PL.nil ?_
   refine(PW.seq ?_:PW _ _ _ _)
   refine(PW.seq ?_:PW _ _ _ _)
   refine(PW.region ?_:PW _ _ _ _)
   refine PL.mv rfl rfl rfl rfl rfl ?_
   refine PL.step rfl rfl rfl (PS.not rfl rfl) ?_
   refine PL.nil ?_
   show PW _ _ _ _
   refine PW.cond (b:=true) (by rfl) (fun _=>?_) (fun h=>nomatch h)
   refine(PW.seq ?_:PW _ _ _ _)
   refine(PW.region ?_:PW _ _ _ _)
   refine PL.step rfl rfl rfl (PS.build (xs:=[]) (zs:=[.int .u64 0,.int .u64 0,.int .u64 0,.int .u64 0,.int .u64 0,.int .u64 0,.int .u64 0,.int .u64 0,.int .u64 0,.int .u64 0,.int .u64 0,.int .u64 0,.int .u64 0,.int .u64 0,.int .u64 0,.int .u64 0,.int .u64 0,.int .u64 0,.int .u64 0,.int .u64 0]) [] _ rfl rfl Tryz.underlying33 (by kernel_rfl) (by kernel_rfl) (by kernel_rfl) rfl (by kernel_rfl) rfl) ?_
   refine PL.full rfl (Fa.storeR rfl rfl rfl rfl rfl rfl (by kernel_rfl) rfl ?_)
   refine PL.mu rfl rfl rfl rfl rfl ?_
   refine PL.nil ?_
   refine(PW.ret ?_:PW _ _ _ _)
   exact Rt.as (Rt.cellTwo Tryz.results10 rfl rfl rfl Tryz.underlying33 rfl (by kernel_rfl)) (by rw[dpt_1 hm ha];exact le_tup2 (agg_lit (l:=z20.toList)) (le_refl _))
  ·skip
   refine(PW.region ?_:PW _ _ _ _)
   refine PL.step rfl rfl rfl (PS.loadH (k:=5) rfl rfl rfl (row_sz (kv_row _)) Tryz.underlying31 rfl (by kernel_rfl)) ?_
   refine PL.call (xs:=[_]) rfl rfl rfl rfl rfl rfl rfl (fun w hw=>p_across ha w (tab.below hw.to_below)) ?_
   refine PL.mv rfl rfl rfl rfl rfl ?_
   refine PL.step rfl rfl rfl (PS.ext rfl rfl rfl) ?_
   refine PL.step rfl rfl rfl (PS.ext rfl rfl rfl) ?_
   refine PL.full rfl (Fa.alloc 5 (z:=(.agg #[.int .u64 0,.int .u64 0,.int .u64 0,.int .u64 0,.int .u64 0])) rfl (by kernel_rfl) (by kernel_rfl) rfl rfl ?_)
   refine PL.full rfl (Fa.storeV rfl rfl rfl rfl rfl (kv_row _) (by kernel_rfl) rfl ?_)
   refine PL.mu rfl rfl rfl rfl rfl ?_
   refine PL.nil ?_
   refine(PW.seq ?_:PW _ _ _ _)
   refine(PW.seq ?_:PW _ _ _ _)
   refine(PW.region ?_:PW _ _ _ _)
   refine PL.mv rfl rfl rfl rfl rfl ?_
   refine PL.step rfl rfl rfl (PS.not rfl rfl) ?_
   refine PL.nil ?_
   show PW _ _ _ _
   refine PW.cond (b:=false) (by rfl) (fun h=>nomatch h) (fun _=>?_)
   refine(PW.skip ?_:PW _ _ _ _)
   refine(PW.seq ?_:PW _ _ _ _)
   refine(PW.seq ?_:PW _ _ _ _)
   cases q
   rotate_left
   by_cases h0:r=0
   subst h0
   ·skip
    refine(PW.region ?_:PW _ _ _ _)
    refine PL.mv rfl rfl rfl rfl rfl ?_
    refine PL.nil ?_
    show PW _ _ _ _
    refine PW.cond (b:=true) (by rfl) (fun _=>?_) (fun h=>nomatch h)
    refine(PW.region ?_:PW _ _ _ _)
    refine PL.step rfl rfl rfl (PS.loadH (k:=5) rfl rfl rfl (row_sz (kv_row _)) Tryz.underlying31 rfl (by kernel_rfl)) ?_
    refine PL.call (xs:=[_]) rfl rfl rfl rfl rfl rfl rfl (fun w hw=>f_neg _ w) ?_
    refine PL.full rfl (Fa.storeW rfl rfl rfl rfl (row_sz (kv_row _)) (kv_row _) (by kernel_rfl) rfl ?_)
    refine PL.nil ?_
    refine(PW.seq ?_:PW _ _ _ _)
    refine(PW.seq ?_:PW _ _ _ _)
    refine(PW.region ?_:PW _ _ _ _)
    refine PL.step rfl rfl rfl (PS.loadH (k:=5) rfl rfl rfl (row_sz (kv_row _)) Tryz.underlying31 rfl (by kernel_rfl)) ?_
    refine PL.call (xs:=[_]) rfl rfl rfl rfl rfl rfl rfl (fun w hw=>FnAt.to (f_odd _ w) (bool_le (odd_neg0))) ?_
    refine PL.mv rfl rfl rfl rfl rfl ?_
    refine PL.step rfl rfl rfl (PS.bin (.bool true) rfl rfl rfl (fun w=>by kernel_rfl) (fun w=>by kernel_rfl)) ?_
    refine PL.nil ?_
    show PW _ _ _ _
    refine PW.cond (b:=true) (by rfl) (fun _=>?_) (fun h=>nomatch h)
    refine(PW.seq ?_:PW _ _ _ _)
    refine(PW.region ?_:PW _ _ _ _)
    refine PL.step rfl rfl rfl (PS.build (xs:=[]) (zs:=[.int .u64 0,.int .u64 0,.int .u64 0,.int .u64 0,.int .u64 0,.int .u64 0,.int .u64 0,.int .u64 0,.int .u64 0,.int .u64 0,.int .u64 0,.int .u64 0,.int .u64 0,.int .u64 0,.int .u64 0,.int .u64 0,.int .u64 0,.int .u64 0,.int .u64 0,.int .u64 0]) [] _ rfl rfl Tryz.underlying33 (by kernel_rfl) (by kernel_rfl) (by kernel_rfl) rfl (by kernel_rfl) rfl) ?_
    refine PL.full rfl (Fa.storeR rfl rfl rfl rfl rfl rfl (by kernel_rfl) rfl ?_)
    refine PL.mu rfl rfl rfl rfl rfl ?_
    refine PL.nil ?_
    refine(PW.ret ?_:PW _ _ _ _)
    exact Rt.as (Rt.cellTwo Tryz.results10 rfl rfl rfl Tryz.underlying33 rfl (by kernel_rfl)) (by rw[dpt_3 hm ha (by have:=of_decide_eq_true ho;omega)];exact le_tup2 (agg_lit (l:=z20.toList)) (le_refl _))
   ·skip
    refine(PW.region ?_:PW _ _ _ _)
    refine PL.mv rfl rfl rfl rfl rfl ?_
    refine PL.nil ?_
    show PW _ _ _ _
    refine PW.cond (b:=true) (by rfl) (fun _=>?_) (fun h=>nomatch h)
    refine(PW.region ?_:PW _ _ _ _)
    refine PL.step rfl rfl rfl (PS.loadH (k:=5) rfl rfl rfl (row_sz (kv_row _)) Tryz.underlying31 rfl (by kernel_rfl)) ?_
    refine PL.call (xs:=[_]) rfl rfl rfl rfl rfl rfl rfl (fun w hw=>f_neg _ w) ?_
    refine PL.full rfl (Fa.storeW rfl rfl rfl rfl (row_sz (kv_row _)) (kv_row _) (by kernel_rfl) rfl ?_)
    refine PL.nil ?_
    refine(PW.seq ?_:PW _ _ _ _)
    refine(PW.seq ?_:PW _ _ _ _)
    refine(PW.region ?_:PW _ _ _ _)
    refine PL.step rfl rfl rfl (PS.loadH (k:=5) rfl rfl rfl (row_sz (kv_row _)) Tryz.underlying31 rfl (by kernel_rfl)) ?_
    refine PL.call (xs:=[_]) rfl rfl rfl rfl rfl rfl rfl (fun w hw=>FnAt.to (f_odd _ w) (bool_le (odd_neg ha h0))) ?_
    refine PL.mv rfl rfl rfl rfl rfl ?_
    refine PL.step rfl rfl rfl (PS.bin (.bool false) rfl rfl rfl (fun w=>by kernel_rfl) (fun w=>by kernel_rfl)) ?_
    refine PL.nil ?_
    show PW _ _ _ _
    refine PW.cond (b:=false) (by rfl) (fun h=>nomatch h) (fun _=>?_)
    refine(PW.skip ?_:PW _ _ _ _)
    refine(PW.seq ?_:PW _ _ _ _)
    refine(PW.region ?_:PW _ _ _ _)
    refine PL.step rfl rfl rfl (PS.loadH (k:=5) rfl rfl rfl (row_sz (kv_row _)) Tryz.underlying31 rfl (by kernel_rfl)) ?_
    refine PL.step rfl rfl rfl (PS.loadH (k:=5) rfl rfl rfl (row_sz (kv_row _)) Tryz.underlying31 rfl (by kernel_rfl)) ?_
    refine PL.call (xs:=[_,_]) rfl rfl rfl rfl rfl rfl rfl (fun w hw=>p_heldk _ _ w) ?_
    refine PL.full rfl (Fa.storeH 20 rfl rfl rfl rfl rfl (kp_row _) (by kernel_rfl) rfl ?_)
    refine PL.mu rfl rfl rfl rfl rfl ?_
    refine PL.nil ?_
    refine(PW.ret ?_:PW _ _ _ _)
    exact Rt.as (Rt.wholeTmp (k:=20) Tryz.results10 rfl rfl rfl (row_sz (kp_row _)) Tryz.underlying33 rfl (by kernel_rfl)) (by rw[dpt_4 hm ha h0 (by have:=of_decide_eq_true ho;omega)];exact le_refl _)
   ·skip
    refine(PW.region ?_:PW _ _ _ _)
    refine PL.mv rfl rfl rfl rfl rfl ?_
    refine PL.nil ?_
    show PW _ _ _ _
    refine PW.cond (b:=false) (by rfl) (fun h=>nomatch h) (fun _=>?_)
    refine(PW.skip ?_:PW _ _ _ _)
    refine(PW.seq ?_:PW _ _ _ _)
    refine(PW.seq ?_:PW _ _ _ _)
    refine(PW.region ?_:PW _ _ _ _)
    refine PL.step rfl rfl rfl (PS.loadH (k:=5) rfl rfl rfl (row_sz (kv_row _)) Tryz.underlying31 rfl (by kernel_rfl)) ?_
    refine PL.call (xs:=[_]) rfl rfl rfl rfl rfl rfl rfl (fun w hw=>FnAt.to (f_odd _ w) (bool_le (odd_pos ha))) ?_
    refine PL.mv rfl rfl rfl rfl rfl ?_
    refine PL.step rfl rfl rfl (PS.bin (.bool false) rfl rfl rfl (fun w=>by kernel_rfl) (fun w=>by kernel_rfl)) ?_
    refine PL.nil ?_
    show PW _ _ _ _
    refine PW.cond (b:=false) (by rfl) (fun h=>nomatch h) (fun _=>?_)
    refine(PW.skip ?_:PW _ _ _ _)
    refine(PW.seq ?_:PW _ _ _ _)
    refine(PW.region ?_:PW _ _ _ _)
    refine PL.step rfl rfl rfl (PS.loadH (k:=5) rfl rfl rfl (row_sz (kv_row _)) Tryz.underlying31 rfl (by kernel_rfl)) ?_
    refine PL.step rfl rfl rfl (PS.loadH (k:=5) rfl rfl rfl (row_sz (kv_row _)) Tryz.underlying31 rfl (by kernel_rfl)) ?_
    refine PL.call (xs:=[_,_]) rfl rfl rfl rfl rfl rfl rfl (fun w hw=>p_heldk _ _ w) ?_
    refine PL.full rfl (Fa.storeH 20 rfl rfl rfl rfl rfl (kp_row _) (by kernel_rfl) rfl ?_)
    refine PL.mu rfl rfl rfl rfl rfl ?_
    refine PL.nil ?_
    refine(PW.ret ?_:PW _ _ _ _)
    exact Rt.as (Rt.wholeTmp (k:=20) Tryz.results10 rfl rfl rfl (row_sz (kp_row _)) Tryz.underlying33 rfl (by kernel_rfl)) (by rw[dpt_2 hm ha (by have:=of_decide_eq_false ho;omega)];exact le_refl _)
end Go.Proofs.YtoibhnpmemnlfaaGreatDoor.Av
