/-
  SHA-256 as plain functions on natural numbers and lists of t
-/
namespace Go.Proofs.YtidklgicmhdapaaGreatDoor.Sh

def add (x y : Nat) : Nat := (x + y) % 4294967296
def rotr (x n : Nat) : Nat := (x / 2 ^ n) ||| (x * 2 ^ (32 - n) % 4294967296)
def bS0 (x : Nat) : Nat := (rotr x 2 ^^^ rotr x 13) ^^^ rotr x 22
def bS1 (x : Nat) : Nat := (rotr x 6 ^^^ rotr x 11) ^^^ rotr x 25
def sS0 (x : Nat) : Nat := (rotr x 7 ^^^ rotr x 18) ^^^ (x / 8)
def sS1 (x : Nat) : Nat := (rotr x 17 ^^^ rotr x 19) ^^^ (x / 1024)
def ch (e f g : Nat) : Nat := (e &&& f) ^^^ ((4294967295 ^^^ e) &&& g)
def mj (a b c : Nat) : Nat := ((a &&& b) ^^^ (a &&& c)) ^^^ (b &&& c)

structure S8 where
  a : Nat
  b : Nat
  c : Nat
  d : Nat
  e : Nat
  f : Nat
  g : Nat
  h : Nat

def S8.list (s : S8) : List Nat := [s.a, s.b, s.c, s.d, s.e, s.f, s.g, s.h]
def S8.ok (s : S8) : Prop := s.a < 4294967296 ∧ s.b < 4294967296 ∧ s.c < 4294967296 ∧ s.d < 4294967296 ∧ s.e < 4294967296 ∧ s.f < 4294967296 ∧ s.g < 4294967296 ∧ s.h < 4294967296

def t1 (s : S8) (k w : Nat) : Nat := add (add (add (add s.h (bS1 s.e)) (ch s.e s.f s.g)) k) w
def t2 (s : S8) : Nat := add (bS0 s.a) (mj s.a s.b s.c)
def rnd (s : S8) (k w : Nat) : S8 := ⟨add (t1 s k w) (t2 s), s.a, s.b, s.c, add s.d (t1 s k w), s.e, s.f, s.g⟩

def ks : List Nat := [
  1116352408, 1899447441, 3049323471, 3921009573, 961987163, 1508970993, 2453635748, 2870763221,
  3624381080, 310598401, 607225278, 1426881987, 1925078388, 2162078206, 2614888103, 3248222580,
  3835390401, 4022224774, 264347078, 604807628, 770255983, 1249150122, 1555081692, 1996064986,
  2554220882, 2821834349, 2952996808, 3210313671, 3336571891, 3584528711, 113926993, 338241895,
  666307205, 773529912, 1294757372, 1396182291, 1695183700, 1986661051, 2177026350, 2456956037,
  2730485921, 2820302411, 3259730800, 3345764771, 3516065817, 3600352804, 4094571909, 275423344,
  430227734, 506948616, 659060556, 883997877, 958139571, 1322822218, 1537002063, 1747873779,
  1955562222, 2024104815, 2227730452, 2361852424, 2428436474, 2756734187, 3204031479, 3329325298]
def h0 : S8 := ⟨1779033703, 3144134277, 1013904242, 2773480762, 1359893119, 2600822924, 528734635, 1541459225⟩

def gt (l : List Nat) (i : Nat) : Nat := l.getD i 0
def be (b0 b1 b2 b3 : Nat) : Nat := ((b0 * 16777216 ||| b1 * 65536) ||| b2 * 256) ||| b3
def word (l : List Nat) (at_ j : Nat) : Nat := be (gt l (at_ + 4 * j)) (gt l (at_ + 4 * j + 1)) (gt l (at_ + 4 * j + 2)) (gt l (at_ + 4 * j + 3))
def first (l : List Nat) (at_ : Nat) : Nat → List Nat
  | 0 => []
  | n + 1 => first l at_ n ++ [word l at_ n]
def nw (l : List Nat) (i : Nat) : Nat := add (add (add (sS1 (gt l (i - 2))) (gt l (i - 7))) (sS0 (gt l (i - 15)))) (gt l (i - 16))
def sch (m : List Nat) : Nat → List Nat
  | 0 => m
  | n + 1 => sch m n ++ [nw (sch m n) (n + 16)]
def rounds (s : S8) (ws : List Nat) : Nat → S8
  | 0 => s
  | n + 1 => rnd (rounds s ws n) (gt ks n) (gt ws n)
def S8.plus (s r : S8) : S8 := ⟨add s.a r.a, add s.b r.b, add s.c r.c, add s.d r.d, add s.e r.e, add s.f r.f, add s.g r.g, add s.h r.h⟩
def cmp (s : S8) (ws : List Nat) : S8 := s.plus (rounds s ws 64)
def sched (l : List Nat) (at_ : Nat) : List Nat := sch (first l at_ 16) 48
def run (l : List Nat) : Nat → S8
  | 0 => h0
  | n + 1 => cmp (run l n) (sched l (64 * n))

def len8 (n : Nat) : List Nat := (List.range 8).map fun i => n / 2 ^ (56 - 8 * i) % 256
def zeros (n : Nat) : Nat := (119 - n % 64) % 64
def pad (l : List Nat) : List Nat := l ++ (128 :: (List.replicate (zeros l.length) 0 ++ len8 (8 * l.length)))
def nblk (n : Nat) : Nat := (n + 9 + zeros n) / 64
def bytes4 (v : Nat) : List Nat := [v / 16777216, v / 65536 % 256, v / 256 % 256, v % 256]
def out (s : S8) : List Nat := s.list.flatMap bytes4
def sum (l : List Nat) : List Nat := out (run (pad l) (nblk l.length))
def hexDigit (n : Nat) : Nat := if n < 10 then 48 + n else 87 + n
def hex (l : List Nat) : List Nat := l.flatMap fun b => [hexDigit (b / 16), hexDigit (b % 16)]

end Go.Proofs.YtidklgicmhdapaaGreatDoor.Sh
