/- Joined texts. -/
import Derived.Test.YtbgkdbjineennaaQcDkSh
set_option linter.unusedVariables false
namespace Go.Proofs.Ytbgkdbjineennaa.Dk
open Go.IntWalk Go.RowKit Go.Proofs.Ytbgkdbjineennaa.Gn Go.Proofs.Ytbgkdbjineennaa.Fd Go.Deep
section
variable {w:World} {base g gb:Nat} {H:Value} {cs:Bool} {cw:Int} {ch:Value} {m:M}
theorem Dd.turn(D:Dd w base g gb H cs cw ch m){w':World}{cs':Bool}{cw':Int}{ch':Value}{m':M}(h1:m'.ss=m.ss)(h2:m'.hd=m.hd)(h3:m'.cp=m.cp)(h4:m'.tl=m.tl)(hG:Gx [g] w w')(hB:DB w' g gb (64*m.ss.length) m.cp H m'.up (m'.st:Int) cs' cw' ch')(hC:Ct w' base cs' cw' ch' m'.cut)(c1:ch'.ownBlock≠some g)(c2:ch'.ownBlock≠some gb)(hc:∀b,H.ownBlock=some b→ch'.ownBlock≠some b):Dd w' base g gb H cs' cw' ch' m' :=
 ⟨by rw[h1,h3];exact hB,by rw[h1,h4];exact hG.bl (by simpa using Ne.symm D.g1) D.byt,by rw[h2];exact own_gx hG (fun b hb e=>D.h1 (by rw[List.mem_singleton.1 e] at hb;exact hb)) D.own,hC,⟨by rw[h1];exact D.ok.row,by rw[h1,h2];exact D.ok.at_,by rw[h2];exact D.ok.long,by rw[h1,h3];exact D.ok.cpn⟩,by rw[h1];exact D.n0,by rw[h1];exact D.n9,D.b1,D.b2,D.g1,D.h1,D.h2,c1,c2,hc⟩
theorem up_dd(D:Dd w base g gb H cs cw ch m):Calls Try.prog 9 #[.pointer (some ⟨g,0,none⟩)] w fun e w'=>e=.returned (.bool m.up)∧w=w':=up_any D.blk (by have:=D.n0;omega)
theorem strokes_dd(D:Dd w base g gb H cs cw ch m):Calls Try.prog 27 #[.pointer (some ⟨g,0,none⟩)] w fun e w'=>e=.returned (.int .i64 (m.st:Int))∧w=w':=strokes_any D.blk (by have:=D.n0;omega)
set_option maxRecDepth 100000 in
theorem held_dd(D:Dd w base g gb H cs cw ch m):Calls Try.prog 16 #[.pointer (some ⟨g,0,none⟩)] w fun e w'=>e=.returned (.int .i64 (m.hd.length:Int))∧w=w':=by
 have C:=Lib.hid (none_any D.blk (by have:=D.n0;omega))
 have c1:=D.blk.c1
 obtain⟨k,hk⟩:∃k,m.hd.length=k:=⟨_,rfl⟩
 obtain⟨hl,⟨rfl,h0⟩|⟨gh,cap,cur,rfl,hb,hh,h1,h2,h3,h4⟩⟩:=D.own
 ·rw[h0]
  clear D hl h0 hk
  go_enter Try.func16,Try.ntmps16
  go_wp2_with (go_at_call 30;(with_reducible refine C.out.mono ?_);rintro e w1 ⟨rfl,rfl⟩)
  go_ret
  exact⟨rfl,rfl⟩
 ·rw[hk] at c1 ⊢
  clear D hl hb hh h1 h2 h3 h4 hk
  go_enter Try.func16,Try.ntmps16
  go_wp2_with (go_at_call 30;(with_reducible refine C.out.mono ?_);rintro e w1 ⟨rfl,rfl⟩)
  go_ret
  exact⟨rfl,rfl⟩
set_option maxRecDepth 100000 in
set_option maxHeartbeats 4000000 in
theorem Start_dd(D:Dd w base g gb H cs cw ch m):Calls Try.prog 11 #[.pointer (some ⟨g,0,none⟩)] w fun e w'=>(∃v,e=.returned v)∧Dd w' base g gb H false 0 (.slice none 0 0) m.start∧Gx [g] w w':=by
 have C:=Lib.hid (none_any D.blk (by have:=D.n0;omega))
 have c2:=D.blk.c2
 have c4:=D.blk.c4
 have c5:=D.blk.c5
 have c6:=D.blk.c6
 have f2:=D.blk.fz 2
 have f4:=D.blk.fz 4
 have f5:=D.blk.fz 5
 have f6:=D.blk.fz 6
 have DD:=Lib.hid D
 clear D
 go_enter Try.func11,Try.ntmps11
 go_wp2_with (go_at_call 30;(with_reducible refine C.out.mono ?_);rintro e w1 ⟨rfl,rfl⟩)
 refine bodyPost_end (results_none rfl _ _ _) rfl ?_
 have hG:Gx [g] w ((((w.setCell ⟨g,2,none⟩ (.bool true)).setCell ⟨g,4,none⟩ (.bool false)).setCell ⟨g,5,none⟩ (.int .i64 0)).setCell ⟨g,6,none⟩ (.slice none 0 0)):=((((Gx.refl _ _).set (by simp) _).set (by simp) _).set (by simp) _).set (by simp) _
 exact⟨⟨_,rfl⟩,DD.out.turn rfl rfl rfl rfl hG (Bl.set_ (Bl.set_ (Bl.set_ (DD.out.blk.set2 true) 4 _) 5 _) 6 _) ⟨rfl,rfl,rfl⟩ (by simp[Value.ownBlock]) (by simp[Value.ownBlock]) (by simp[Value.ownBlock]),hG⟩
end
end Go.Proofs.Ytbgkdbjineennaa.Dk
