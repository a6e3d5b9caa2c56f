/- Joined texts. -/
import Derived.Test.YteblmphohhbgcaaQaMtP
set_option linter.unusedVariables false
namespace Go.Proofs.Yteblmphohhbgcaa.Mt
open Go.RowKit Go.Proofs.Yteblmphohhbgcaa.Gn Go.Proofs.Yteblmphohhbgcaa.Fd Go.Proofs.Yteblmphohhbgcaa.Wr Go.Deep
def Kn(w:World)(k:Nat):Prop:=∃cs,Bl w k 80 cs
structure Fz (lo g:Nat) (w w':World):Prop where
 os:w'.os=w.os
 tape:w'.tape=w.tape
 output:w'.output=w.output
 size:w.heap.size≤w'.heap.size
 block:∀k,k < w.heap.size→k≠g→¬(lo≤k∧Kn w k)→w'.heap[k]?=w.heap[k]?
theorem Kn.same{w w':World}{k:Nat}(h:Kn w' k)(e:w'.heap[k]?=w.heap[k]?):Kn w k:=by
 obtain⟨cs,hc⟩:=h;exact⟨cs,e.symm.trans hc⟩
theorem Fz.trans{lo g:Nat}{a b c:World}(h:Fz lo g a b)(k:Fz lo g b c):Fz lo g a c :=
 ⟨k.os.trans h.os,k.tape.trans h.tape,k.output.trans h.output,Nat.le_trans h.size k.size,fun i hi hn hd=>by
  have e:=h.block i hi hn hd
  exact(k.block i (Nat.lt_of_lt_of_le hi h.size) hn fun hx=>hd ⟨hx.1,hx.2.same e⟩).trans e⟩
theorem Fz.of_below{lo g:Nat}{w w':World}(h:Below w.heap.size w w'):Fz lo g w w':=⟨h.os,h.tape,h.output,h.size,fun k hk _ _=>h.block k hk⟩
theorem Fz.below{lo g:Nat}{w w':World}(h:Fz lo g w w')(hg:lo≤g){n:Nat}(hn:n≤lo)(hw:n≤w.heap.size):Below n w w' :=
 ⟨h.os,h.tape,h.output,h.size,fun k hk=>h.block k (by omega) (by omega) (fun e=>by omega)⟩
theorem Fz.bl{lo g:Nat}{w w':World}(h:Fz lo g w w'){b:Nat}{t:TypeId}{cs:Array Value}(hb:Bl w b t cs)(h1:t≠80)(h2:b≠g):Bl w' b t cs :=
 (h.block b hb.lt h2 (fun e=>by obtain⟨-, ds,hd⟩:=e;exact bl_ne hb hd h1 rfl)).trans hb
theorem Fz.of{lo g:Nat}{w w':World}{wr:Bool}{K:Nat}{ks:List Tv}{T T':Value}(h:Pw w lo g wr K ks T)(hf:Fr w w' g T T')(hb:Below lo w w'):Fz lo g w w' :=
 ⟨hb.os,hb.tape,hb.output,hf.size,fun k hk hn hd=>hf.keep k hk hn (fun e=>hd (by
  obtain⟨h1,⟨h2,-⟩|⟨q,cap,cur,h2,h3,h4,-⟩⟩:=h.own
  ·rw[h2] at e;cases e
  ·rw[h2] at e;cases e;exact⟨h3,cur,h4⟩))⟩
def Px(w:World)(lo g:Nat)(wr:Bool)(K:Nat)(N:List Nd):Prop:=∃ks T,Pw w lo g wr K ks T∧(wr=false→nds ks=N)
theorem Px.below{w w':World}{lo g:Nat}{wr:Bool}{K:Nat}{N:List Nd}(h:Px w lo g wr K N)(hb:Below w.heap.size w w'):Px w' lo g wr K N:=by
 obtain⟨ks,T,h1,h2⟩:=h
 exact⟨ks,T,h1.below hb,h2⟩
theorem Px.lt{w:World}{lo g:Nat}{wr:Bool}{K:Nat}{N:List Nd}(h:Px w lo g wr K N):lo≤g∧g < w.heap.size:=by
 obtain⟨ks,T,h1,h2⟩:=h
 exact⟨h1.low,h1.bl.lt⟩
theorem Px.ng{w:World}{lo g:Nat}{wr:Bool}{K:Nat}{N:List Nd}(h:Px w lo g wr K N){b:Nat}{t:TypeId}{cs:Array Value}(hb:Bl w b t cs)(h1:t≠94):b≠g:=by
 obtain⟨ks,T,h2,-⟩:=h
 exact bl_ne hb h2.bl h1
theorem nds_snoc(ks:List Tv)(t:Tv):nds (ks ++ [t])=nds ks ++ [Wr.nd t]:=by
 rw[nds_map,nds_map,List.map_append];rfl
theorem len_sz{ks:List Tv}{K:Nat}(h:szs ks≤K):ks.length≤K:=Nat.le_trans (szs_len ks) h
abbrev nN(n:Int):Nd:=.mk 1 (un n) [] []
theorem or_false{a b:Bool}(h:(a || b)=false):a=false∧b=false:=by cases a <;> cases b <;> first|exact⟨rfl,rfl⟩|cases h
theorem number_x{w:World}{lo g:Nat}{wr:Bool}{K:Nat}{N:List Nd}(h:Px w lo g wr K N){bb o:Nat}{t:TypeId}{cs:Array Value}(hb:Bl w bb t cs){n:Int}(ho:cs[o]?=some (.int .i64 n))(t1:t≠94)(t2:t≠80)(hK:K≤1000000)(x y:Int) :
  Calls Try.prog 51 #[.pointer (some ⟨g,0,none⟩),.pointer (some ⟨bb,o,none⟩),.int .i64 x,.int .i64 y] w fun e w'=>e=.returned (.tuple #[])∧Px w' lo g (wr || !(decide (x≤n) && decide (n≤y))) (K+1) (N ++ [nN n])∧Fz lo g w w':=by
 obtain⟨ks,T,h1,h2⟩:=h
 refine(number_w h1 hb ho t1 t2 (Nat.le_trans (len_sz h1.sz) hK) x y).mono ?_
 rintro e w' ⟨rfl,T',p,f,d⟩
 exact⟨rfl,⟨_,T',p,fun hw=>by rw[nds_snoc,h2 (or_false hw).1];rfl⟩,.of h1 f d⟩
theorem pc_low{lo:Nat}{w w':World}{r:Rw}(hr:Pc w r)(hin:∀ad,r.1=some ad→0 < r.2.2.2.length→ad.block < lo)(hb:Below lo w w'):Pc w' r :=
 ⟨hr.len,Sl.kept hr.row (fun ad e hn _=>hb.block _ (hin ad e hn)),hr.lt,hr.cap,hr.nil⟩
end Go.Proofs.Yteblmphohhbgcaa.Mt
