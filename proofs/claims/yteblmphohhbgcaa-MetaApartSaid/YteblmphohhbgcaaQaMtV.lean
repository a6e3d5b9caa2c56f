/- Joined texts. -/
import Derived.Test.YteblmphohhbgcaaQaMtT
set_option linter.unusedVariables false
namespace Go.Proofs.Yteblmphohhbgcaa.Mt
open Go.RowKit Go.Proofs.Yteblmphohhbgcaa.Gn Go.Proofs.Yteblmphohhbgcaa.Fd Go.Proofs.Yteblmphohhbgcaa.Wr Go.Deep
def wE(ok:Bool)(V:Nd):Int:=if ok=true then(if wern 8192 8 1024 8192 V=0 then 0 else 2) else 80
def wL(ok:Bool)(V:Nd):List Nat:=if ok=true then wout 8192 8 1024 8192 V else[]
theorem wE_no(V:Nd):wE false V=80:=rfl
theorem wL_no(V:Nd):wL false V=[]:=rfl
theorem wE_ok{V:Nd}(h:wern 8192 8 1024 8192 V=0):wE true V=0:=by unfold wE;rw[if_pos rfl,if_pos h]
theorem wE_long{V:Nd}(h:¬wern 8192 8 1024 8192 V=0):wE true V=2:=by unfold wE;rw[if_pos rfl,if_neg h]
theorem wL_ok(V:Nd):wL true V=wout 8192 8 1024 8192 V:=by unfold wL;rw[if_pos rfl]
theorem wpq_nil(er:Int){w w':World}(hb:Below w.heap.size w w'):WpQ er [] w (.returned (.tuple #[.slice none 0 0,.int .i64 er])) w':=⟨hb,none,0,rfl,nil_pc _,(fun ad e=>by cases e)⟩
theorem bd_len{n:Nat}(h:bd 32 32 (n:Int)=true):n=32:=by
 unfold bd at h;rw[Bool.and_eq_true,decide_eq_true_eq,decide_eq_true_eq] at h;omega
theorem rfB_len{v s:Int}{n:Nat}(h:rfB v s n=true):n=32:=by
 unfold rfB at h;rw[Bool.and_eq_true,Bool.and_eq_true] at h;exact bd_len h.2.2
theorem tmB_len{v e rv rs:Int}{n:Nat}(h:tmB v e rv rs n=true):n=32:=by
 unfold tmB at h;rw[Bool.and_eq_true] at h;exact rfB_len h.2
theorem tm_sz(v e rv rs:Int)(l:List Nat):szn (lN (tmN v e rv rs l))=7+l.length:=by simp[szn,szns];omega
theorem made_list{w:World}{lo g:Nat}{wr:Bool}{K:Nat}{ks:List Tv}{A:Option Addr}{c:Nat}(h:Pw w lo g wr K ks (.slice A ks.length c))(hK:K≤900000)(w':World)(hb:Below w.heap.size w w'):Calls Try.prog 34 #[.slice A ks.length c] w' fun e u=>∃us A' c',MkQ (.mk 3 0 (none,0,0,[]) A' c' us) w' e u∧nds us=nds ks:=by
 obtain⟨A',c',e',s1,s2,s3,s4⟩:=own_form h.own
 cases e'
 refine(List_any (by rw[Nat.mul_comm];exact s1) s3 s2 h.ok (Nat.le_trans h.sz hK) w' hb).mono ?_
 rintro e u ⟨us,A2,c2,h1,h2,-⟩
 exact⟨us,A2,c2,h1,h2⟩
theorem wpq_up{B:World}{w':World}{A:Option Addr}{c:Nat}{L:List Nat}(hb:Below B.heap.size B w')(hp:Pc w' (A,L.length,c,L))(hl:∀ad,A=some ad→ad.block < w'.heap.size){er:Int}:WpQ er L B (.returned (.tuple #[.slice A L.length c,.int .i64 er])) w':=⟨hb,A,c,rfl,hp,hl⟩
theorem write_wpq{w:World}{v:Tv}{V:Nd}(hv:Ok w v)(hn:Wr.nd v=V)(hz:szn V≤2001):Calls Try.prog 33 #[v.val,lim 8192 8 1024 8192] w (WpQ (wern 8192 8 1024 8192 V) (wout 8192 8 1024 8192 V) w):=by
 subst hn
 have h:=Write_pc hv 8192 8 1024 8192 (by decide) hz
 rwa [show max (8192:Int) 0=8192 from rfl,show max (8:Int) 0=8 from rfl,show max (1024:Int) 0=1024 from rfl] at h
set_option maxHeartbeats 4000000 in
theorem write_timestamp{w:World}{v e rv rs:Int}{rA:Option Addr}{rn rc:Nat}{rl:List Nat}(hp:Pc w (rA,rn,rc,rl))(hr9:rn≤800000) :
  Calls Try.prog 39 #[.agg #[.int .i64 v,.int .i64 e,.int .i64 rv,.int .i64 rs,.slice rA rn rc],.func (.func 40) #[] #[]] w (WpQ (wE (tmB v e rv rs rn) (lN (tmN v e rv rs rl))) (wL (tmB v e rv rs rn) (lN (tmN v e rv rs rl))) w):=by
 have BX:=Lib.hid (below_one w (.cells #[.int .i64 v,.int .i64 e,.int .i64 rv,.int .i64 rs,.slice rA rn rc] 63))
 have NX:=Lib.hid (Bl.new_ w 63 #[.int .i64 v,.int .i64 e,.int .i64 rv,.int .i64 rs,.slice rA rn rc])
 have XX:=Lib.hid (show Px ((w.alloc (.cells #[.int .i64 v,.int .i64 e,.int .i64 rv,.int .i64 rs,.slice rA rn rc] 63)).alloc (.cells #[.pointer none,.slice none 0 0,.bool false] 94)) (w.heap.size+1) (w.heap.size+1) false 0 [] from by
  have h:=new_px (w.alloc (.cells #[.int .i64 v,.int .i64 e,.int .i64 rv,.int .i64 rs,.slice rA rn rc] 63))
  rwa [show(w.alloc (.cells #[.int .i64 v,.int .i64 e,.int .i64 rv,.int .i64 rs,.slice rA rn rc] 63)).heap.size=w.heap.size+1 from by simp] at h)
 have BP:=Lib.hid (below_one (w.alloc (.cells #[.int .i64 v,.int .i64 e,.int .i64 rv,.int .i64 rs,.slice rA rn rc] 63)) (.cells #[.pointer none,.slice none 0 0,.bool false] 94))
 have NP:=Lib.hid (NX.out.below' BP.out)
 have BU:=Lib.hid (BX.out.trans (BP.out.mono BX.out.size))
 have CF:=Lib.hid (timestamp_x XX.out (bb:=w.heap.size) (t:=63) ⟨NP.out,by decide,by decide⟩ (hp.below BU.out) (fun ad e h=>Nat.lt_succ_of_lt (pc_lt hp ad e h)) hr9 (by decide))
 have LN:=Lib.hid hp.len
 have R9:=Lib.hid hr9
 clear hp hr9 XX NX NP BP BX
 obtain⟨U,hU⟩:∃U,((w.alloc (.cells #[.int .i64 v,.int .i64 e,.int .i64 rv,.int .i64 rs,.slice rA rn rc] 63)).alloc (.cells #[.pointer none,.slice none 0 0,.bool false] 94))=U:=⟨_,rfl⟩
 rw[hU] at CF BU
 obtain⟨ok,hok⟩:∃ok,tmB v e rv rs rn=ok:=⟨_,rfl⟩
 have SZ:=Lib.hid (show ok=true→szn (lN (tmN v e rv rs rl))≤2001 from fun h=>by
  have h1:=tmB_len (hok.trans h)
  have h2:=LN.out
  rw[tm_sz];show _+rl.length≤2001;rw[show rl.length=rn from h2.symm];omega)
 rw[hok] at CF ⊢
 obtain⟨V,hV⟩:∃V,tmN v e rv rs rl=V:=⟨_,rfl⟩
 rw[List.nil_append,Nat.zero_add] at CF
 rw[hV] at CF SZ ⊢
 clear hok hV LN
 cases ok with
 |false =>
  rw[wE_no,wL_no]
  go_enter Try.func39,Try.ntmps39
  go_wp2_with (first
   |(go_at_call 40;(refine CF.out.mono ?_);rintro e1 w1 ⟨rfl,⟨ks,T,p1,n1⟩,f1⟩;have F1:=Lib.hid (f1.below (Nat.le_refl _) (Nat.le_succ _) BU.out.size);have CR:=Lib.hid (right_w p1.bl);clear f1 p1 n1)
   |(go_at_call 42;(refine CR.out.mono ?_);rintro e2 w2 ⟨rfl,rfl⟩))
  go_ret2
  exact wpq_nil _ (BU.out.trans F1.out)
 |true =>
  rw[wL_ok]
  have SY:=Lib.hid (SZ.out rfl)
  clear SZ
  obtain⟨er,hW⟩:∃er,wern 8192 8 1024 8192 (lN V)=er:=⟨_,rfl⟩
  obtain⟨Y,hY⟩:∃Y,wout 8192 8 1024 8192 (lN V)=Y:=⟨_,rfl⟩
  by_cases hw:er=0
  ·rw[wE_ok (hW.trans hw),hY]
   rw[hw] at hW
   go_enter Try.func39,Try.ntmps39
   go_wp2_with (first
    |(go_at_call 40;(refine CF.out.mono ?_);rintro e1 w1 ⟨rfl,⟨ks,T,p1,n1⟩,f1⟩;obtain⟨A1,c1,rfl,-⟩:=own_form p1.own;have F1:=Lib.hid (BU.out.trans (f1.below (Nat.le_refl _) (Nat.le_succ _) BU.out.size));have N1:=Lib.hid (n1 rfl);have CR:=Lib.hid (right_w p1.bl);have CL:=Lib.hid (made_list p1 (by have:=R9.out;omega) _ (Below.refl _ _));have m1:w1.cell? ⟨w.heap.size+1,1,none⟩=some (.slice A1 ks.length c1):=p1.bl.cell_ rfl;clear f1 p1 n1)
    |(go_at_call 42;(refine CR.out.mono ?_);rintro e2 w2 ⟨rfl,rfl⟩)
    |(go_at_call 34;(refine CL.out.mono ?_);rintro e3 w3 ⟨us,A3,c3,⟨rfl,h1,h2⟩,h3⟩;simp only[Tv.val,Tv.row];have O3:=Lib.hid h1;have B3:=Lib.hid (F1.out.trans (h2.mono F1.out.size));have N3:=Lib.hid (show Wr.nd (.mk 3 0 (none,0,0,[]) A3 c3 us)=lN V from by rw[Wr.nd,h3,N1.out]);clear h1 h2 h3)
    |(go_at_call 43;go_loud ((refine(limits_any _).mono ?_);rintro e4 w4 ⟨rfl,h1⟩;have B4:=Lib.hid (B3.out.trans (h1.mono B3.out.size));have CW:=Lib.hid (write_wpq (O3.out.keep h1) N3.out SY.out);rw[hW,hY] at CW;simp only[Tv.val,Tv.row] at CW;clear h1))
    |(go_at_call 33;(refine CW.out.mono ?_);rintro e5 w5 ⟨hb5,A5,c5,rfl,p5,l5⟩;have W4:=Lib.hid (wpq_up (B:=w) (er:=0) (B4.out.trans (hb5.mono B4.out.size)) p5 l5);clear hb5 p5 l5))
   go_ret2
   exact W4.out
  ·rw[wE_long (show ¬wern 8192 8 1024 8192 (lN V)=0 by rw[hW];exact hw),hY,show Y=[] from hY.symm.trans (if_neg (by rw[hW];exact hw))]
   go_enter Try.func39,Try.ntmps39
   go_wp2_with (first
    |(go_at_call 40;(refine CF.out.mono ?_);rintro e1 w1 ⟨rfl,⟨ks,T,p1,n1⟩,f1⟩;obtain⟨A1,c1,rfl,-⟩:=own_form p1.own;have F1:=Lib.hid (BU.out.trans (f1.below (Nat.le_refl _) (Nat.le_succ _) BU.out.size));have N1:=Lib.hid (n1 rfl);have CR:=Lib.hid (right_w p1.bl);have CL:=Lib.hid (made_list p1 (by have:=R9.out;omega) _ (Below.refl _ _));have m1:w1.cell? ⟨w.heap.size+1,1,none⟩=some (.slice A1 ks.length c1):=p1.bl.cell_ rfl;clear f1 p1 n1)
    |(go_at_call 42;(refine CR.out.mono ?_);rintro e2 w2 ⟨rfl,rfl⟩)
    |(go_at_call 34;(refine CL.out.mono ?_);rintro e3 w3 ⟨us,A3,c3,⟨rfl,h1,h2⟩,h3⟩;simp only[Tv.val,Tv.row];have O3:=Lib.hid h1;have B3:=Lib.hid (F1.out.trans (h2.mono F1.out.size));have N3:=Lib.hid (show Wr.nd (.mk 3 0 (none,0,0,[]) A3 c3 us)=lN V from by rw[Wr.nd,h3,N1.out]);clear h1 h2 h3)
    |(go_at_call 43;go_loud ((refine(limits_any _).mono ?_);rintro e4 w4 ⟨rfl,h1⟩;have B4:=Lib.hid (B3.out.trans (h1.mono B3.out.size));have CW:=Lib.hid (write_wpq (O3.out.keep h1) N3.out SY.out);rw[hW,hY] at CW;simp only[Tv.val,Tv.row] at CW;clear h1))
    |(go_at_call 33;(refine CW.out.mono ?_);rintro e5 w5 ⟨hb5,A5,c5,rfl,p5,l5⟩;have W4:=Lib.hid (wpq_up (B:=w) (er:=0) (B4.out.trans (hb5.mono B4.out.size)) p5 l5);clear hb5 p5 l5))
   go_ret2
   exact wpq_nil _ W4.out.1
end Go.Proofs.Yteblmphohhbgcaa.Mt
