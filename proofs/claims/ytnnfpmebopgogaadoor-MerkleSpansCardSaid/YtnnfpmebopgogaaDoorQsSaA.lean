/- Joined texts. -/
import Derived.Deep.QuietTactic
import Derived.BigQuiet
import Derived.Deep.RegionHeld3
import Derived.Deep.DrawnRows
import Derived.Deep.OwnRows
import Derived.Deep.RegionWith
import Derived.Test.YtnnfpmebopgogaaDoorProg
import Derived.Test.YtnnfpmebopgogaaDoorQsGnA
set_option linter.unusedVariables false
namespace Go.Proofs.YtnnfpmebopgogaaDoor.Sh
def wd(b:Bool):Nat:=if b then 64 else 32
def bk(b:Bool):Nat:=if b then 128 else 64
def rs(b:Bool):Nat:=if b then 80 else 64
def mo(b:Bool):Nat:=if b then 18446744073709551616 else 4294967296
def tr(W x n:Nat):Nat:=x / 2 ^ n ||| x*2 ^ (W - n)%2 ^ W
def sm(W x a b c:Nat):Nat:=tr W x a ^^^ tr W x b ^^^ x / 2 ^ c
def gr(W x a b c:Nat):Nat:=tr W x a ^^^ tr W x b ^^^ tr W x c
def s0(b:Bool)(x:Nat):Nat:=if b then sm 64 x 1 8 7 else sm 32 x 7 18 3
def s1(b:Bool)(x:Nat):Nat:=if b then sm 64 x 19 61 6 else sm 32 x 17 19 10
def g0(b:Bool)(x:Nat):Nat:=if b then gr 64 x 28 34 39 else gr 32 x 2 13 22
def g1(b:Bool)(x:Nat):Nat:=if b then gr 64 x 14 18 41 else gr 32 x 6 11 25
def ch(b:Bool)(e f g:Nat):Nat:=(e &&& f) ^^^ ((mo b - 1 - e) &&& g)
def ma(x y z:Nat):Nat:=(x &&& y) ^^^ (x &&& z) ^^^ (y &&& z)
def kc:List Nat:=[4794697086780616226,8158064640168781261,13096744586834688815,16840607885511220156,4131703408338449720,6480981068601479193,10538285296894168987,12329834152419229976,15566598209576043074,1334009975649890238,2608012711638119052,6128411473006802146,8268148722764581231,9286055187155687089,11230858885718282805,13951009754708518548,16472876342353939154,17275323862435702243,1135362057144423861,2597628984639134821,3308224258029322869,5365058923640841347,6679025012923562964,8573033837759648693,10970295158949994411,12119686244451234320,12683024718118986047,13788192230050041572,14330467153632333762,15395433587784984357,489312712824947311,1452737877330783856,2861767655752347644,3322285676063803686,5560940570517711597,5996557281743188959,7280758554555802590,8532644243296465576,9350256976987008742,10552545826968843579,11727347734174303076,12113106623233404929,14000437183269869457,14369950271660146224,15101387698204529176,15463397548674623760,17586052441742319658,1182934255886127544,1847814050463011016,2177327727835720531,2830643537854262169,3796741975233480872,4115178125766777443,5681478168544905931,6601373596472566643,7507060721942968483,8399075790359081724,8693463985226723168,9568029438360202098,10144078919501101548,10430055236837252648,11840083180663258601,13761210420658862357,14299343276471374635,14566680578165727644,15097957966210449927,16922976911328602910,17689382322260857208,500013540394364858,748580250866718886,1242879168328830382,1977374033974150939,2944078676154940804,3659926193048069267,4368137639120453308,4836135668995329356,5532061633213252278,6448918945643986474,6902733635092675308,7801388544844847127]
def sc:List Nat:=[7640891576956012808,13503953896175478587,4354685564936845355,11912009170470909681,5840696475078001361,11170449401992604703,2270897969802886507,6620516959819538809]
def kt(b:Bool)(t:Nat):Nat:=kc.getD t 0 / 2 ^ (64 - wd b)
def st(b:Bool):List Nat:=sc.map fun x=>x / 2 ^ (64 - wd b)
def jn(l:List Nat):Nat:=l.foldl (fun x y=>x*256+y) 0
def fw(b:Bool)(blk:List Nat)(t:Nat):Nat:=jn ((blk.drop (t*(wd b / 8))).take (wd b / 8))
def nx(b:Bool)(w:List Nat):Nat :=
 (w.getD (w.length - 16) 0+s0 b (w.getD (w.length - 15) 0)+w.getD (w.length - 7) 0+s1 b (w.getD (w.length - 2) 0))%mo b
def ex(b:Bool)(blk:List Nat):Nat→List Nat
 |0=>(List.range 16).map (fw b blk)
 |n+1=>ex b blk n ++ [nx b (ex b blk n)]
def wds(b:Bool)(blk:List Nat):List Nat:=ex b blk (rs b - 16)
structure V8 where
 (a b c d e f g k:Nat)
def V8.l(v:V8):List Nat:=[v.a,v.b,v.c,v.d,v.e,v.f,v.g,v.k]
def V8.of(l:List Nat):V8:=⟨l.getD 0 0,l.getD 1 0,l.getD 2 0,l.getD 3 0,l.getD 4 0,l.getD 5 0,l.getD 6 0,l.getD 7 0⟩
def rx(b:Bool)(k x:Nat)(v:V8):Nat:=(v.k+g1 b v.e+ch b v.e v.f v.g+k+x)%mo b
def ry(b:Bool)(v:V8):Nat:=(g0 b v.a+ma v.a v.b v.c)%mo b
def rnd(b:Bool)(k x:Nat)(v:V8):V8:=⟨(rx b k x v+ry b v)%mo b,v.a,v.b,v.c,(v.d+rx b k x v)%mo b,v.e,v.f,v.g⟩
def mx(b:Bool)(w:List Nat)(v:V8):Nat→V8
 |0=>v
 |n+1=>rnd b (kt b n) (w.getD n 0) (mx b w v n)
def bh(b:Bool)(h blk:List Nat):List Nat:=List.zipWith (fun x y=>(x+y)%mo b) h (mx b (wds b blk) (V8.of h) (rs b)).l
def run(b:Bool)(T:List Nat):Nat→List Nat
 |0=>st b
 |n+1=>bh b (run b T n) ((T.drop (n*bk b)).take (bk b))
def be(x:Nat):Nat→List Nat
 |0=>[]
 |k+1=>(x / 256 ^ k%256) :: be x k
def padz(b:Bool)(n:Nat):Nat:=(if bk b - n%bk b < 1+bk b / 8 then bk b - n%bk b+bk b else bk b - n%bk b) - 1 - bk b / 8
def pad(b:Bool)(n:Nat):List Nat:=128 :: (List.replicate (padz b n) 0 ++ be (8*n) (bk b / 8))
def dg(b:Bool)(T:List Nat):List Nat :=
 (run b (T ++ pad b T.length) ((T.length+(pad b T.length).length) / bk b)).flatMap fun x=>be x (wd b / 8)
theorem be_length(x k:Nat):(be x k).length=k:=by induction k with|zero=>rfl|succ k ih=>simp[be,ih]
theorem be_lt(x k:Nat):∀y∈be x k,y < 256:=by
 induction k with
 |zero=>intro y hy;simp[be] at hy
 |succ k ih =>
  intro y hy
  rcases List.mem_cons.1 hy with rfl|hy
  ·omega
  ·exact ih y hy
end Go.Proofs.YtnnfpmebopgogaaDoor.Sh
namespace Go.Proofs.YtnnfpmebopgogaaDoor.Sh
open Go.RowKit Go.Proofs.YtnnfpmebopgogaaDoor.Gn
theorem tr_lt(W x n:Nat)(hx:x < 2 ^ W):tr W x n < 2 ^ W:=by
 unfold tr
 exact Nat.or_lt_two_pow (Nat.lt_of_le_of_lt (Nat.div_le_self _ _) hx) (Nat.mod_lt _ (Nat.two_pow_pos _))
theorem div_cast(x n:Nat):(x:Int) / 2 ^ n=((x / 2 ^ n:Nat):Int):=by simp
theorem turned32_any(x n:Nat)(w:World)(hx:x < 4294967296)(h1:1≤n)(h2:n < 32) :
  Calls Tryd.prog 120 #[.int .u32 (x:Int),.int .u64 (n:Int),.int .u64 32] w fun e w'=>e=.returned (.int .u32 ((tr 32 x n:Nat):Int))∧w'=w:=by
 go_enter Tryd.func120,Tryd.ntmps120
 go_wp2
 go_ret
 refine⟨ret_int ?_,rfl⟩
 have e1:(x:Int)*2 ^ (32 - n)%4294967296=((x*2 ^ (32 - n)%4294967296:Nat):Int):=by simp
 try rw[IntKind.wrap_u64]
 rw[div_cast,e1,u32_or_nat _ _ (Nat.lt_of_le_of_lt (Nat.div_le_self _ _) hx) (Nat.mod_lt _ (by decide))]
 rfl
set_option maxRecDepth 100000 in
theorem small32_any(x a b c:Nat)(w:World)(hx:x < 4294967296)(ha:1≤a)(ha':a < 32)(hb:1≤b)(hb':b < 32)(hc:c < 32) :
  Calls Tryd.prog 116 #[.int .u32 (x:Int),.agg #[.int .u64 (a:Int),.int .u64 (b:Int),.int .u64 (c:Int)],.int .u64 32] w
   fun e w'=>e=.returned (.int .u32 ((sm 32 x a b c:Nat):Int))∧Below w.heap.size w w':=by
 go_enter Tryd.func116,Tryd.ntmps116
 go_wp2
 go_quiet ((go_at_call 120;exact Calls.quiet_of_same (turned32_any _ _ _ hx (by assumption) (by assumption))))
 go_wp2
 go_ret
 refine⟨ret_int ?_,below_drewN ((Below.refl _ _).alloc (Nat.le_refl _) _) nq⟩
 have t1:=tr_lt 32 x a hx
 have t2:=tr_lt 32 x b hx
 rw[div_cast,u32_xor_nat _ _ t1 t2,u32_xor_nat _ _ (Nat.xor_lt_two_pow t1 t2) (Nat.lt_of_le_of_lt (Nat.div_le_self _ _) hx)]
 rfl
set_option maxRecDepth 100000 in
theorem great32_any(x a b c:Nat)(w:World)(hx:x < 4294967296)(ha:1≤a)(ha':a < 32)(hb:1≤b)(hb':b < 32)(hc:1≤c)(hc':c < 32) :
  Calls Tryd.prog 114 #[.int .u32 (x:Int),.agg #[.int .u64 (a:Int),.int .u64 (b:Int),.int .u64 (c:Int)],.int .u64 32] w
   fun e w'=>e=.returned (.int .u32 ((gr 32 x a b c:Nat):Int))∧Below w.heap.size w w':=by
 go_enter Tryd.func114,Tryd.ntmps114
 go_wp2
 go_quiet ((go_at_call 120;exact Calls.quiet_of_same (turned32_any _ _ _ hx (by assumption) (by assumption))))
 go_wp2
 go_ret
 refine⟨ret_int ?_,below_drewN ((Below.refl _ _).alloc (Nat.le_refl _) _) nq⟩
 have t1:=tr_lt 32 x a hx
 have t2:=tr_lt 32 x b hx
 have t3:=tr_lt 32 x c hx
 rw[u32_xor_nat _ _ t1 t2,u32_xor_nat _ _ (Nat.xor_lt_two_pow t1 t2) t3]
 rfl
theorem jn_lt(l:List Nat)(hl:∀x∈l,x < 256):jn l < 256 ^ l.length:=by
 suffices ∀(k:List Nat) (a n:Nat),a < 256 ^ n→(∀x∈k,x < 256)→k.foldl (fun x y=>x*256+y) a < 256 ^ (n+k.length) by
  have h:=this l 0 0 (by decide) hl
  rwa [Nat.zero_add] at h
 intro k
 induction k with
 |nil=>intro a n ha _;exact ha
 |cons c k ih =>
  intro a n ha hk
  have hc:=hk c List.mem_cons_self
  have:=ih (a*256+c) (n+1) (by rw[Nat.pow_succ];omega) fun x hx=>hk x (List.mem_cons_of_mem _ hx)
  rw[List.foldl_cons,List.length_cons,show n+(k.length+1)=n+1+k.length by omega]
  exact this
theorem jn_snoc(l:List Nat)(x:Nat):jn (l ++ [x])=jn l*256+x:=by simp[jn,List.foldl_append]
theorem take_snoc{α:Type}(l:List α)(k:Nat)(x:α)(h:l[k]?=some x):l.take (k+1)=l.take k ++ [x]:=by
 rw[List.take_add_one,h];rfl
theorem jn_take_lt(l:List Nat)(k n:Nat)(hl:∀x∈l,x < 256)(hk:k < n)(h0:0 < n):jn (l.take k) < 256 ^ (n - 1):=by
 have h1:=jn_lt (l.take k) fun x hx=>hl x (List.mem_of_mem_take hx)
 have h2:(l.take k).length≤n - 1:=by have:=List.length_take_le k l;omega
 exact Nat.lt_of_lt_of_le h1 (Nat.pow_le_pow_right (by decide) h2)
def JnRel(l:List Nat)(k:IntKind)(n:Nat)(t i:Value):Prop:=∃j:Nat,j≤n∧i=.int .i64 (j:Int)∧t=.int k ((jn (l.take j):Nat):Int)
theorem or_byte32(s x:Nat)(h:s < 256 ^ (4 - 1))(hx:x < 256):bits .or .u32 (IntKind.u32.wrap ((s:Int)*256)) (IntKind.u32.wrap (x:Int))=((s*256+x:Nat):Int):=by
 have h':s < 4294967296 / 256:=Nat.lt_of_lt_of_le h (by decide)
 have e1:IntKind.u32.wrap ((s:Int)*256)=((s*256:Nat):Int):=by rw[IntKind.wrap_u32];omega
 have e2:IntKind.u32.wrap (x:Int)=(x:Int):=by rw[IntKind.wrap_u32];omega
 rw[e1,e2,u32_or_nat _ _ (by omega) (by omega),nat_join 8 _ _ (by omega) (by simpa using hx)]
set_option maxHeartbeats 400000 in
theorem joined32_any(A:Option Addr)(n c:Nat)(hn:n=4)(l:List Nat)(w:World)(hl:∀x∈l,x < 256)(hs:Sl w A 4 (bl l)) :
  Calls Tryd.prog 115 #[.slice A n c] w fun e w'=>e=.returned (.int .u32 ((jn l:Nat):Int))∧w'=w:=by
 subst hn
 have HL:=Lib.hid hl
 have HS:=Lib.hid hs
 have hln:=Lib.hid (show l.length=4 by simpa[bl] using hs.1)
 clear hl hs
 go_enter Tryd.func115,Tryd.ntmps115
 go_wp2
 go_loop [3,8] (fun t i=>JnRel l .u32 4 t i) (fun _ i=>4 - (intOf i).toNat)
 case atStart=>exact⟨0,Nat.zero_le _,rfl,rfl⟩
 case round =>
  obtain⟨k,hk,rfl,rfl⟩:=hrel
  by_cases hlt:k < 4
  ·obtain⟨ad,rfl,hcell⟩:=HS.out.at_ hlt
   obtain⟨x,hx⟩:∃x,l[k]?=some x:=⟨l[k]'(by have:=hln.out;omega),List.getElem?_eq_getElem _⟩
   have hc:w.cell? (ad.add k)=some (.int .u8 (x:Int)):=by rw[hcell];simp[bl,hx]
   have HX:=Lib.hid hx
   have hxl:=Lib.hid (HL.out x (List.mem_of_getElem? hx))
   clear hcell hx
   obtain⟨s,hs⟩:∃s,s=jn (l.take k):=⟨_,rfl⟩
   rw[←hs]
   have HSS:=Lib.hid hs
   clear hs
   go_wp2
   go_round
   case rel =>
    refine⟨k+1,by omega,by go_num,?_⟩
    rw[take_snoc l k x HX.out,jn_snoc,←HSS.out]
    exact congrArg _ (or_byte32 s x (by rw[HSS.out];exact jn_take_lt l k 4 HL.out hlt (by decide)) hxl.out)
   case measure=>simp[intOf];omega
  ·obtain rfl:k=4:=by omega
   go_wp2
   go_ret
   exact⟨ret_int (by rw[List.take_of_length_le (by have:=hln.out;omega)]),rfl⟩
def kv(b:Bool):Array Value :=
 if b then #[.int .u64 64,.int .i64 80,.int .u64 1,.int .u64 8,.int .u64 7,.int .u64 19,.int .u64 61,.int .u64 6,.int .u64 28,.int .u64 34,.int .u64 39,.int .u64 14,.int .u64 18,.int .u64 41]
 else #[.int .u64 32,.int .i64 64,.int .u64 7,.int .u64 18,.int .u64 3,.int .u64 17,.int .u64 19,.int .u64 10,.int .u64 2,.int .u64 13,.int .u64 22,.int .u64 6,.int .u64 11,.int .u64 25]
theorem mo_false:mo false=4294967296:=rfl
theorem kv_false:kv false = #[.int .u64 32,.int .i64 64,.int .u64 7,.int .u64 18,.int .u64 3,.int .u64 17,.int .u64 19,.int .u64 10,.int .u64 2,.int .u64 13,.int .u64 22,.int .u64 6,.int .u64 11,.int .u64 25]:=rfl
theorem kindOf_256(w:World):Calls Tryd.prog 104 #[.int .i64 256] w fun e w'=>e=.returned (.agg (kv false))∧Below w.heap.size w w':=by
 have h:((256:Int) == 256)=true:=by decide
 go_enter Tryd.func104,Tryd.ntmps104
 go_wp2
 refine bodyPost_ret (v:=.agg (kv false)) ?_ rfl ?_
 ·simp[results,Tryd.results104,go_sem];rfl
 exact⟨rfl,(Below.refl _ _).alloc (Nat.le_refl _) _⟩
theorem small32_0(x:Nat)(w:World)(hx:x < 4294967296):Calls Tryd.prog 116 #[.int .u32 (x:Int),.agg #[.int .u64 7,.int .u64 18,.int .u64 3],.int .u64 32] w
  fun e w'=>e=.returned (.int .u32 ((s0 false x:Nat):Int))∧Below w.heap.size w w':=small32_any x 7 18 3 w hx (by decide) (by decide) (by decide) (by decide) (by decide)
theorem small32_1(x:Nat)(w:World)(hx:x < 4294967296):Calls Tryd.prog 116 #[.int .u32 (x:Int),.agg #[.int .u64 17,.int .u64 19,.int .u64 10],.int .u64 32] w
  fun e w'=>e=.returned (.int .u32 ((s1 false x:Nat):Int))∧Below w.heap.size w w':=small32_any x 17 19 10 w hx (by decide) (by decide) (by decide) (by decide) (by decide)
theorem great32_0(x:Nat)(w:World)(hx:x < 4294967296):Calls Tryd.prog 114 #[.int .u32 (x:Int),.agg #[.int .u64 2,.int .u64 13,.int .u64 22],.int .u64 32] w
  fun e w'=>e=.returned (.int .u32 ((g0 false x:Nat):Int))∧Below w.heap.size w w':=great32_any x 2 13 22 w hx (by decide) (by decide) (by decide) (by decide) (by decide) (by decide)
theorem great32_1(x:Nat)(w:World)(hx:x < 4294967296):Calls Tryd.prog 114 #[.int .u32 (x:Int),.agg #[.int .u64 6,.int .u64 11,.int .u64 25],.int .u64 32] w
  fun e w'=>e=.returned (.int .u32 ((g1 false x:Nat):Int))∧Below w.heap.size w w':=great32_any x 6 11 25 w hx (by decide) (by decide) (by decide) (by decide) (by decide) (by decide)
end Go.Proofs.YtnnfpmebopgogaaDoor.Sh
namespace Go.Proofs.YtnnfpmebopgogaaDoor.Sh
open Go.RowKit Go.Proofs.YtnnfpmebopgogaaDoor.Gn Go.Deep
attribute [local go_sem ↓] Go.wp_at_zero Go.wp_at_succ
theorem ex_length(b:Bool)(l:List Nat)(n:Nat):(ex b l n).length=16+n:=by
 induction n with
 |zero=>simp[ex]
 |succ n ih=>simp[ex,ih];omega
theorem ex_keep(b:Bool)(l:List Nat)(n j:Nat)(hj:j < 16+n):(ex b l (n+1)).getD j 0=(ex b l n).getD j 0:=by
 rw[ex,List.getD_eq_getElem?_getD,List.getD_eq_getElem?_getD,List.getElem?_append_left (by rw[ex_length];exact hj)]
theorem ex_new(b:Bool)(l:List Nat)(n:Nat):(ex b l (n+1)).getD (16+n) 0=nx b (ex b l n):=by
 rw[ex,List.getD_eq_getElem?_getD,List.getElem?_append_right (by rw[ex_length];omega),ex_length];simp
theorem ex_first(b:Bool)(l:List Nat)(j:Nat)(hj:j < 16):(ex b l 0).getD j 0=fw b l j:=by
 simp[ex,hj]
theorem nx_ex(b:Bool)(l:List Nat)(n:Nat):nx b (ex b l n)=((ex b l n).getD n 0+s0 b ((ex b l n).getD (n+1) 0)+(ex b l n).getD (n+9) 0+s1 b ((ex b l n).getD (n+14) 0))%mo b:=by
 unfold nx
 rw[ex_length,show 16+n - 16=n by omega,show 16+n - 15=n+1 by omega,show 16+n - 7=n+9 by omega,show 16+n - 2=n+14 by omega]
theorem fw_lt(b:Bool)(l:List Nat)(hl:∀x∈l,x < 256)(t:Nat):fw b l t < mo b:=by
 have h1:=jn_lt ((l.drop (t*(wd b / 8))).take (wd b / 8)) fun x hx=>hl x (List.mem_of_mem_drop (List.mem_of_mem_take hx))
 have h2:((l.drop (t*(wd b / 8))).take (wd b / 8)).length≤wd b / 8:=List.length_take_le _ _
 refine Nat.lt_of_lt_of_le h1 (Nat.le_trans (Nat.pow_le_pow_right (by decide) h2) ?_)
 cases b <;> decide
theorem ex_lt(b:Bool)(l:List Nat)(hl:∀x∈l,x < 256)(n:Nat):∀x∈ex b l n,x < mo b:=by
 induction n with
 |zero =>
  intro x hx
  simp[ex] at hx
  obtain⟨j,-, rfl⟩:=hx
  exact fw_lt b l hl j
 |succ n ih =>
  intro x hx
  unfold ex at hx
  rcases List.mem_append.1 hx with hx|hx
  ·exact ih x hx
  ·simp at hx
   subst hx
   unfold nx
   exact Nat.mod_lt _ (by cases b <;> decide)
theorem ex_get_lt(b:Bool)(l:List Nat)(hl:∀x∈l,x < 256)(n j:Nat):(ex b l n).getD j 0 < mo b:=by
 rw[List.getD_eq_getElem?_getD]
 cases h:(ex b l n)[j]? with
 |none=>cases b <;> decide
 |some x=>exact ex_lt b l hl n x (List.mem_of_getElem? h)
def MadeEnd(b:Bool)(k:IntKind)(l:List Nat)(w:World)(e:Ending)(w':World):Prop :=
 ∃arr:Array Value,e=.returned (.agg arr)∧arr.size=80∧(∀j,j < rs b→arr[j]?=some (.int k (((wds b l).getD j 0:Nat):Int)))∧(∀v∈arr.toList,v.oneCell'=true)∧Below w.heap.size w w'
theorem size32:(Tryd.prog.info? 133).map (·.size)=some 80:=by kernel_rfl
def MW32(w:World)(wr:World)(arr:Array Value):Prop :=
 Bl wr (w.heap.size+1+1) 133 arr∧Bl wr w.heap.size 128 (kv false)∧(∃z:Array Value,z.size=80∧Bl wr (w.heap.size+1) 133 z)∧Below w.heap.size w wr∧Ones arr
def M132(l:List Nat)(w:World)(i:Value)(wr:World):Prop :=
 ∃(k:Nat) (arr:Array Value),k≤16∧i=.int .i64 (k:Int)∧arr.size=80∧(∀j,j < k→arr[j]?=some (.int .u32 ((fw false l j:Nat):Int)))∧MW32 w wr arr
def M232(l:List Nat)(w:World)(i:Value)(wr:World):Prop :=
 ∃(k:Nat) (arr:Array Value),16≤k∧k≤64∧i=.int .i64 (k:Int)∧arr.size=80∧(∀j,j < k→arr[j]?=some (.int .u32 (((ex false l (k - 16)).getD j 0:Nat):Int)))∧MW32 w wr arr
set_option maxRecDepth 100000 in
set_option maxHeartbeats 1000000 in
theorem made32_any (A : Option Addr) (c : Nat) (l : List Nat) (w : World) (hl : ∀ x ∈ l, x < 256) (hs : Sl w A 64 (bl l)) (hc : 64 ≤ c) :
    Calls Tryd.prog 111 #[.agg (kv false), .slice A 64 c] w fun e w' => MadeEnd false .u32 l w e w' := by
  have HL := Lib.hid hl
  have HS := Lib.hid hs
  clear hl hs
  rw [kv_false]
  go_enter Tryd.func111, Tryd.ntmps111
  go_wp2
  go_loopw [13] (fun i wr => M132 l w i wr) (fun i _ => 16 - (intOf i).toNat)
  case atStart =>
    refine ⟨0, _, Nat.zero_le _, rfl, ?_, fun j hj => by omega, Bl.new' _ _ (by simp), ((Bl.new_ w _ _).alloc _).alloc _, ⟨_, ?_, (Bl.new' (w := w.alloc _) _ _ (by simp)).alloc _⟩, ((Below.refl _ _).alloc (Nat.le_refl _) _).alloc (by simp) _ |>.alloc (by simp; omega) _, Ones.of_all ?_⟩
    all_goals kernel_rfl
  case round =>
    obtain ⟨k, arr, hk, rfl, hsz, harr, hm⟩ := hrel
    have HARR := Lib.hid harr
    have HM := Lib.hid hm
    clear harr hm
    have hks : k < arr.size := by omega
    have hcell := HM.out.1.cell k
    rw [Array.getElem?_eq_getElem hks] at hcell
    have hfz := HM.out.1.frozen k
    by_cases hlt : k < 16
    · have k1 : (k : Int) * 4 ≤ (c : Int) := by omega
      have k2 : ((k : Int) + 1) * 4 ≤ (c : Int) := by omega
      have hsl : Sl wr (Option.map (fun x => x.add (k * 4)) A) 4 (bl ((l.drop (k * 4)).take 4)) := by
        have h := (HS.out.below HM.out.2.2.2.1).drop_ (c := c) (k * 4) (by omega) (by omega)
        rw [if_neg (by omega), bl_drop] at h
        have h := h.take_ 4 (by omega)
        rwa [bl_take] at h
      have HSL := Lib.hid hsl
      clear hsl
      go_wp2_with fail
      refine (joined32_any _ _ _ (by omega) _ _ (fun x hx => HL.out x (List.mem_of_mem_drop (List.mem_of_mem_take hx))) HSL.out).mono ?_
      rintro e w' ⟨rfl, rfl⟩
      go_wp2
      go_roundw
      case rel =>
        refine ⟨k + 1, _, by omega, by go_num, by rw [Array.size_setIfInBounds]; exact hsz, ?_, HM.out.1.set_ _ _, ?_, ?_, ?_, HM.out.2.2.2.2.set_ _ _ rfl⟩
        · intro j hj
          rw [Array.getElem?_setIfInBounds]
          by_cases hjk : k = j
          · subst hjk; rw [if_pos rfl, if_pos hks]; rfl
          · rw [if_neg hjk]; exact HARR.out j (by omega)
        · exact HM.out.2.1.other (show w.heap.size ≠ w.heap.size + 1 + 1 by omega) _
        · obtain ⟨z, hz0, hz⟩ := HM.out.2.2.1
          exact ⟨z, hz0, hz.other (by simp) _⟩
        · exact HM.out.2.2.2.1.setCell (by simp; omega) _
      case measure => simp [intOf]; omega
    · have e16 : ((k : Nat) : Int) = 16 := by omega
      rw [e16]
      clear e16
      obtain rfl : k = 16 := by omega
      have HM1 := Lib.hid (show M232 l w (.int .i64 16) wr from ⟨16, arr, Nat.le_refl _, by omega, rfl, hsz, fun j hj => by rw [Nat.sub_self, ex_first _ _ _ hj]; exact HARR.out j hj, HM.out⟩)
      clear HM HARR hcell hfz hks hsz arr
      generalize hwr : wr = wx
      rw [hwr] at HM1
      clear hwr
      go_wp2_with fail
      go_loopw [8] (fun i wr => M232 l w i wr) (fun i _ => 64 - (intOf i).toNat)
      case atStart => exact HM1.out
      case round =>
        obtain ⟨k, arr, hk0, hk, rfl, hsz, harr, hm⟩ := hrel
        have HARR := Lib.hid harr
        have HM := Lib.hid hm
        clear harr hm HM1
        have kvs := HM.out.2.1.cell
        rw [kv_false] at kvs
        have kv0 := kvs 0
        have kv1 := kvs 1
        have kv2 := kvs 2
        have kv3 := kvs 3
        have kv4 := kvs 4
        have kv5 := kvs 5
        have kv6 := kvs 6
        have kv7 := kvs 7
        clear kvs
        simp only [List.getElem?_toArray, List.getElem?_cons_zero, List.getElem?_cons_succ] at kv0 kv1 kv2 kv3 kv4 kv5 kv6 kv7
        by_cases hlt : k < 64
        · have hks : k < arr.size := by omega
          have hcell := HM.out.1.cell k
          rw [Array.getElem?_eq_getElem hks] at hcell
          have hfz := HM.out.1.frozen k
          obtain ⟨old, hold⟩ : ∃ u, u = arr[k] := ⟨_, rfl⟩
          rw [← hold] at hcell
          clear hold
          obtain ⟨a0, ha0⟩ : ∃ a, a = (ex false l (k - 16)).getD (k - 16) 0 := ⟨_, rfl⟩
          obtain ⟨a1, ha1⟩ : ∃ a, a = (ex false l (k - 16)).getD (k - 15) 0 := ⟨_, rfl⟩
          obtain ⟨a9, ha9⟩ : ∃ a, a = (ex false l (k - 16)).getD (k - 7) 0 := ⟨_, rfl⟩
          obtain ⟨a14, ha14⟩ : ∃ a, a = (ex false l (k - 16)).getD (k - 2) 0 := ⟨_, rfl⟩
          have c0 := HM.out.1.cell (k - 16)
          have c1 := HM.out.1.cell (k - 15)
          have c9 := HM.out.1.cell (k - 7)
          have c14 := HM.out.1.cell (k - 2)
          rw [HARR.out _ (by omega), ← ha0] at c0
          rw [HARR.out _ (by omega), ← ha1] at c1
          rw [HARR.out _ (by omega), ← ha9] at c9
          rw [HARR.out _ (by omega), ← ha14] at c14
          have L1 := Lib.hid (show a1 < 4294967296 by rw [ha1]; exact ex_get_lt false l HL.out _ _)
          have L14 := Lib.hid (show a14 < 4294967296 by rw [ha14]; exact ex_get_lt false l HL.out _ _)
          have HA := Lib.hid (And.intro ha0 (And.intro ha1 (And.intro ha9 ha14)))
          clear ha0 ha1 ha9 ha14
          have q0 : IntKind.i64.wrap ((k : Int) - 16) = ((k - 16 : Nat) : Int) := by rw [IntKind.wrap_i64]; omega
          have q1 : IntKind.i64.wrap ((k : Int) - 15) = ((k - 15 : Nat) : Int) := by rw [IntKind.wrap_i64]; omega
          have q9 : IntKind.i64.wrap ((k : Int) - 7) = ((k - 7 : Nat) : Int) := by rw [IntKind.wrap_i64]; omega
          have q14 : IntKind.i64.wrap ((k : Int) - 2) = ((k - 2 : Nat) : Int) := by rw [IntKind.wrap_i64]; omega
          have b0 : ((k - 16 : Nat) : Int) < 80 := by omega
          have b1 : ((k - 15 : Nat) : Int) < 80 := by omega
          have b9 : ((k - 7 : Nat) : Int) < 80 := by omega
          have b14 : ((k - 2 : Nat) : Int) < 80 := by omega
          have bk : (k : Int) < 80 := by omega
          have SK := Lib.hid (show ∀ x : World, (∀ p : Addr, p ≠ ⟨w.heap.size + 1 + 1, k, none⟩ → ∀ v, wr.cell? p = some v → x.cell? p = some v) → x.cell? ⟨w.heap.size + 1 + 1, k - 16, none⟩ = some (.int .u32 (a0 : Int)) ∧ x.cell? ⟨w.heap.size + 1 + 1, k - 15, none⟩ = some (.int .u32 (a1 : Int)) ∧ x.cell? ⟨w.heap.size + 1 + 1, k - 7, none⟩ = some (.int .u32 (a9 : Int)) ∧ x.cell? ⟨w.heap.size + 1 + 1, k - 2, none⟩ = some (.int .u32 (a14 : Int))
              ∧ x.cell? ⟨w.heap.size, 0, none⟩ = some (.int .u64 32) ∧ x.cell? ⟨w.heap.size, 2, none⟩ = some (.int .u64 7) ∧ x.cell? ⟨w.heap.size, 3, none⟩ = some (.int .u64 18) ∧ x.cell? ⟨w.heap.size, 4, none⟩ = some (.int .u64 3) ∧ x.cell? ⟨w.heap.size, 5, none⟩ = some (.int .u64 17) ∧ x.cell? ⟨w.heap.size, 6, none⟩ = some (.int .u64 19) ∧ x.cell? ⟨w.heap.size, 7, none⟩ = some (.int .u64 10) from fun x h => ⟨h _ (by simp <;> omega) _ c0, h _ (by simp <;> omega) _ c1, h _ (by simp <;> omega) _ c9, h _ (by simp <;> omega) _ c14, h _ (by simp <;> omega) _ kv0, h _ (by simp <;> omega) _ kv2, h _ (by simp <;> omega) _ kv3, h _ (by simp <;> omega) _ kv4, h _ (by simp <;> omega) _ kv5, h _ (by simp <;> omega) _ kv6, h _ (by simp <;> omega) _ kv7⟩)
          have HC := Lib.hid hcell
          have HF := Lib.hid hfz
          clear hcell hfz
          go_wp2_with fail
          go_region_held3 (fun x => x.cell? ⟨w.heap.size + 1 + 1, k - 16, none⟩ = some (.int .u32 (a0 : Int)) ∧ x.cell? ⟨w.heap.size + 1 + 1, k - 15, none⟩ = some (.int .u32 (a1 : Int)) ∧ x.cell? ⟨w.heap.size + 1 + 1, k - 7, none⟩ = some (.int .u32 (a9 : Int)) ∧ x.cell? ⟨w.heap.size + 1 + 1, k - 2, none⟩ = some (.int .u32 (a14 : Int))
              ∧ x.cell? ⟨w.heap.size, 0, none⟩ = some (.int .u64 32) ∧ x.cell? ⟨w.heap.size, 2, none⟩ = some (.int .u64 7) ∧ x.cell? ⟨w.heap.size, 3, none⟩ = some (.int .u64 18) ∧ x.cell? ⟨w.heap.size, 4, none⟩ = some (.int .u64 3) ∧ x.cell? ⟨w.heap.size, 5, none⟩ = some (.int .u64 17) ∧ x.cell? ⟨w.heap.size, 6, none⟩ = some (.int .u64 19) ∧ x.cell? ⟨w.heap.size, 7, none⟩ = some (.int .u64 10))
            (first | exact SK.out _ (fun p _ v h => h) | exact SK.out _ (fun p _ v h => keepc hb1 h) | exact SK.out _ (fun p _ v h => keepc hb2 (keepc hb1 h)) | exact SK.out _ (fun p hp v h => (World.cell?_setCell_other _ _ _ _ (Ne.symm hp)).trans (keepc hb2 (keepc hb1 h))))
            (first | (go_at_call_of 116 (Value.int .u32 (a1 : Int)); refine (small32_0 a1 _ L1.out).mono ?_; rintro e w1 ⟨rfl, hb1⟩) | (go_at_call_of 116 (Value.int .u32 (a14 : Int)); refine (small32_1 a14 _ L14.out).mono ?_; rintro e w2 ⟨rfl, hb2⟩; have hcell2 := keepc hb2 (keepc hb1 HC.out); have hfz2 := keepf hb2 (keepc hb1 HC.out) (keepf hb1 HC.out HF.out)))
          rename_i hHeld
          clear hHeld
          have HB1 := Lib.hid hb1
          have HB2 := Lib.hid hb2
          clear hb1 hb2 c0 c1 c9 c14 q0 q1 q9 q14 b0 b1 b9 b14 kv0 kv1 kv2 kv3 kv4 kv5 kv6 kv7
          have hbw : Below wr.heap.size wr w2 := (((Below.refl _ _).drew).trans HB1.out).trans (HB2.out.mono HB1.out.size)
          have hx : Value.int .u32 (IntKind.u32.wrap (IntKind.u32.wrap (IntKind.u32.wrap ((a0 : Int) + ((s0 false a1 : Nat) : Int)) + (a9 : Int)) + ((s1 false a14 : Nat) : Int))) = .int .u32 ((nx false (ex false l (k - 16)) : Nat) : Int) := by
            obtain ⟨e0, e1, e9, e14⟩ := HA.out
            rw [nx_ex, show k - 16 + 1 = k - 15 by omega, show k - 16 + 9 = k - 7 by omega, show k - 16 + 14 = k - 2 by omega, ← e0, ← e1, ← e9, ← e14]
            rw [mo_false]
            simp only [IntKind.wrap_u32]
            congr 1
            omega
          rw [hx]
          have HW := Lib.hid hbw
          clear hx hbw hcell2 hfz2
          go_wp2
          go_roundw
          case rel =>
            refine ⟨k + 1, _, by omega, by omega, by go_num, by rw [Array.size_setIfInBounds]; exact hsz, ?_, (HM.out.1.below' HW.out).set_ _ _, ?_, ?_, ?_, HM.out.2.2.2.2.set_ _ _ rfl⟩
            · intro j hj
              rw [Array.getElem?_setIfInBounds]
              by_cases hjk : k = j
              · subst hjk
                rw [if_pos rfl, if_pos hks, show k + 1 - 16 = (k - 16) + 1 by omega]
                have := ex_new false l (k - 16)
                rw [show 16 + (k - 16) = k by omega] at this
                rw [this]
              · rw [if_neg hjk, HARR.out j (by omega), show k + 1 - 16 = (k - 16) + 1 by omega, ex_keep _ _ _ _ (by omega)]
            · exact (HM.out.2.1.below' HW.out).other (show w.heap.size ≠ w.heap.size + 1 + 1 by omega) _
            · obtain ⟨z, hz0, hz⟩ := HM.out.2.2.1
              exact ⟨z, hz0, (hz.below' HW.out).other (show w.heap.size + 1 ≠ w.heap.size + 1 + 1 by omega) _⟩
            · exact (HM.out.2.2.2.1.trans (HW.out.mono HM.out.2.2.2.1.size)).setCell (by simp; omega) _
          case measure => simp [intOf]; omega
        · obtain rfl : k = 64 := by omega
          obtain ⟨z, hz0, hz⟩ := HM.out.2.2.1
          have HZ := Lib.hid hz
          clear hz
          have HI := Lib.hid size32
          obtain ⟨w3, hst, hb3, hg3⟩ := run_store_bl Tryd.prog HZ.out 0 arr.toList (by rw [hz0, Array.length_toList, hsz]; decide) HM.out.2.2.2.2
          have HB3 := Lib.hid (show Bl w3 (w.heap.size + 1) 133 arr by
            have e := spl_all z arr.toList (by rw [hz0, Array.length_toList, hsz])
            rw [e, Array.toArray_toList] at hb3
            exact hb3)
          have HG3 := Lib.hid hg3
          clear hb3 hg3
          go_wp2_with (refine wpList_load_bl rfl 133 (.tmp 5) rfl (w.heap.size + 1 + 1) 0 80 rfl _ arr HM.out.1 _ (by omega) arr (extract_all hsz) Tryd.underlying133 rfl HI.out ?_)
          refine bodyPost_ret (v := .agg arr) (results_cell_row rfl _ _ (w.heap.size + 1) 133 arr (0, 0) _ rfl HB3.out Tryd.underlying133 rfl (by rw [hsz]; exact HI.out)) rfl ⟨arr, rfl, hsz, ?_, ?_, ?_⟩
          · exact HARR.out
          · exact HM.out.2.2.2.2
          · exact HM.out.2.2.2.1.grown HG3.out HM.out.2.2.2.1.size (fun k hk => by injection hk; omega)
end Go.Proofs.YtnnfpmebopgogaaDoor.Sh
