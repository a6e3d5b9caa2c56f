/-
  The digests as numbers: the document's words, rounds, blocks and paddings, in plain lists. Nothing here speaks of a program.
-/
namespace Go.Proofs.YtfdjphinicafiabDoor.Sh

/-- Binary digits of a word; bytes of a block; rounds: of the wide digest or the other. -/
def wd (b : Bool) : Nat := if b then 64 else 32
def bk (b : Bool) : Nat := if b then 128 else 64
def rs (b : Bool) : Nat := if b then 80 else 64
def mo (b : Bool) : Nat := if b then 18446744073709551616 else 4294967296
/-- A word turned right; the three put together. -/
def tr (W x n : Nat) : Nat := x / 2 ^ n ||| x * 2 ^ (W - n) % 2 ^ W
def sm (W x a b c : Nat) : Nat := tr W x a ^^^ tr W x b ^^^ x / 2 ^ c
def gr (W x a b c : Nat) : Nat := tr W x a ^^^ tr W x b ^^^ tr W x c
def s0 (b : Bool) (x : Nat) : Nat := if b then sm 64 x 1 8 7 else sm 32 x 7 18 3
def s1 (b : Bool) (x : Nat) : Nat := if b then sm 64 x 19 61 6 else sm 32 x 17 19 10
def g0 (b : Bool) (x : Nat) : Nat := if b then gr 64 x 28 34 39 else gr 32 x 2 13 22
def g1 (b : Bool) (x : Nat) : Nat := if b then gr 64 x 14 18 41 else gr 32 x 6 11 25
def ch (b : Bool) (e f g : Nat) : Nat := (e &&& f) ^^^ ((mo b - 1 - e) &&& g)
def ma (x y z : Nat) : Nat := (x &&& y) ^^^ (x &&& z) ^^^ (y &&& z)

def kc : List Nat := [4794697086780616226, 8158064640168781261, 13096744586834688815, 16840607885511220156, 4131703408338449720, 6480981068601479193, 10538285296894168987, 12329834152419229976, 15566598209576043074, 1334009975649890238, 2608012711638119052, 6128411473006802146, 8268148722764581231, 9286055187155687089, 11230858885718282805, 13951009754708518548, 16472876342353939154, 17275323862435702243, 1135362057144423861, 2597628984639134821, 3308224258029322869, 5365058923640841347, 6679025012923562964, 8573033837759648693, 10970295158949994411, 12119686244451234320, 12683024718118986047, 13788192230050041572, 14330467153632333762, 15395433587784984357, 489312712824947311, 1452737877330783856, 2861767655752347644, 3322285676063803686, 5560940570517711597, 5996557281743188959, 7280758554555802590, 8532644243296465576, 9350256976987008742, 10552545826968843579, 11727347734174303076, 12113106623233404929, 14000437183269869457, 14369950271660146224, 15101387698204529176, 15463397548674623760, 17586052441742319658, 1182934255886127544, 1847814050463011016, 2177327727835720531, 2830643537854262169, 3796741975233480872, 4115178125766777443, 5681478168544905931, 6601373596472566643, 7507060721942968483, 8399075790359081724, 8693463985226723168, 9568029438360202098, 10144078919501101548, 10430055236837252648, 11840083180663258601, 13761210420658862357, 14299343276471374635, 14566680578165727644, 15097957966210449927, 16922976911328602910, 17689382322260857208, 500013540394364858, 748580250866718886, 1242879168328830382, 1977374033974150939, 2944078676154940804, 3659926193048069267, 4368137639120453308, 4836135668995329356, 5532061633213252278, 6448918945643986474, 6902733635092675308, 7801388544844847127]
def sc : List Nat := [7640891576956012808, 13503953896175478587, 4354685564936845355, 11912009170470909681, 5840696475078001361, 11170449401992604703, 2270897969802886507, 6620516959819538809]
/-- The constant of a round, of so many digits; the first eight words. -/
def kt (b : Bool) (t : Nat) : Nat := kc.getD t 0 / 2 ^ (64 - wd b)
def st (b : Bool) : List Nat := sc.map fun x => x / 2 ^ (64 - wd b)

/-- The word that bytes are; the words that a block makes. -/
def jn (l : List Nat) : Nat := l.foldl (fun x y => x * 256 + y) 0
def fw (b : Bool) (blk : List Nat) (t : Nat) : Nat := jn ((blk.drop (t * (wd b / 8))).take (wd b / 8))
def nx (b : Bool) (w : List Nat) : Nat :=
  (w.getD (w.length - 16) 0 + s0 b (w.getD (w.length - 15) 0) + w.getD (w.length - 7) 0 + s1 b (w.getD (w.length - 2) 0)) % mo b
def ex (b : Bool) (blk : List Nat) : Nat → List Nat
  | 0 => (List.range 16).map (fw b blk)
  | n + 1 => ex b blk n ++ [nx b (ex b blk n)]
def wds (b : Bool) (blk : List Nat) : List Nat := ex b blk (rs b - 16)

/-- The eight words of a round. -/
structure V8 where
  (a b c d e f g k : Nat)
def V8.l (v : V8) : List Nat := [v.a, v.b, v.c, v.d, v.e, v.f, v.g, v.k]
def V8.of (l : List Nat) : V8 := ⟨l.getD 0 0, l.getD 1 0, l.getD 2 0, l.getD 3 0, l.getD 4 0, l.getD 5 0, l.getD 6 0, l.getD 7 0⟩
def rx (b : Bool) (k x : Nat) (v : V8) : Nat := (v.k + g1 b v.e + ch b v.e v.f v.g + k + x) % mo b
def ry (b : Bool) (v : V8) : Nat := (g0 b v.a + ma v.a v.b v.c) % mo b
def rnd (b : Bool) (k x : Nat) (v : V8) : V8 := ⟨(rx b k x v + ry b v) % mo b, v.a, v.b, v.c, (v.d + rx b k x v) % mo b, v.e, v.f, v.g⟩
def mx (b : Bool) (w : List Nat) (v : V8) : Nat → V8
  | 0 => v
  | n + 1 => rnd b (kt b n) (w.getD n 0) (mx b w v n)
/-- The eight words behind a block. -/
def bh (b : Bool) (h blk : List Nat) : List Nat := List.zipWith (fun x y => (x + y) % mo b) h (mx b (wds b blk) (V8.of h) (rs b)).l
def run (b : Bool) (T : List Nat) : Nat → List Nat
  | 0 => st b
  | n + 1 => bh b (run b T n) ((T.drop (n * bk b)).take (bk b))

/-- The last k bytes of a number, the greatest first. -/
def be (x : Nat) : Nat → List Nat
  | 0 => []
  | k + 1 => (x / 256 ^ k % 256) :: be x k
def padz (b : Bool) (n : Nat) : Nat := (if bk b - n % bk b < 1 + bk b / 8 then bk b - n % bk b + bk b else bk b - n % bk b) - 1 - bk b / 8
def pad (b : Bool) (n : Nat) : List Nat := 128 :: (List.replicate (padz b n) 0 ++ be (8 * n) (bk b / 8))
def dg (b : Bool) (T : List Nat) : List Nat :=
  (run b (T ++ pad b T.length) ((T.length + (pad b T.length).length) / bk b)).flatMap fun x => be x (wd b / 8)

theorem be_length (x k : Nat) : (be x k).length = k := by induction k with | zero => rfl | succ k ih => simp [be, ih]
theorem be_lt (x k : Nat) : ∀ y ∈ be x k, y < 256 := by
  induction k with
  | zero => intro y hy; simp [be] at hy
  | succ k ih =>
    intro y hy
    rcases List.mem_cons.1 hy with rfl | hy
    · omega
    · exact ih y hy
set_option maxRecDepth 100000 in
theorem dg_known : (dg false []).take 4 = [227, 176, 196, 66] ∧ (dg false []).length = 32 := by decide +kernel
set_option maxRecDepth 100000 in
theorem dg_known5 : (dg true []).take 4 = [207, 131, 225, 53] ∧ (dg true []).length = 64 := by decide +kernel
end Go.Proofs.YtfdjphinicafiabDoor.Sh
