import Derived.KernelRfl
set_option linter.unusedVariables false
set_option linter.unusedSimpArgs false
namespace Go.Proofs.YtgggdbjakcpanaaGreatDoor
namespace Sp
abbrev Wd:=BitVec 32
def rotr (x:Wd) (n:Nat):Wd:=(x >>> n) ||| (x <<< (32 - n))
def ktab:List Nat:=[1116352408,1899447441,3049323471,3921009573,961987163,1508970993,2453635748,2870763221,3624381080,310598401,607225278,1426881987,1925078388,2162078206,2614888103,3248222580,3835390401,4022224774,264347078,604807628,770255983,1249150122,1555081692,1996064986,2554220882,2821834349,2952996808,3210313671,3336571891,3584528711,113926993,338241895,666307205,773529912,1294757372,1396182291,1695183700,1986661051,2177026350,2456956037,2730485921,2820302411,3259730800,3345764771,3516065817,3600352804,4094571909,275423344,430227734,506948616,659060556,883997877,958139571,1322822218,1537002063,1747873779,1955562222,2024104815,2227730452,2361852424,2428436474,2756734187,3204031479,3329325298]
def kc (t:Nat):Wd:=BitVec.ofNat 32 (ktab.getD t 0)
def bt (l:List UInt8) (i:Nat):Nat:=(l.getD i 0).toNat
def word (l:List UInt8) (t:Nat):Wd:=BitVec.ofNat 32 (bt l (4*t)*16777216+bt l (4*t+1)*65536+bt l (4*t+2)*256+bt l (4*t+3))
def sig0 (x:Wd):Wd:=rotr x 7 ^^^ rotr x 18 ^^^ (x >>> 3)
def sig1 (x:Wd):Wd:=rotr x 17 ^^^ rotr x 19 ^^^ (x >>> 10)
def wordsTo (l:List UInt8) (k:Nat):List Wd:=(List.range k).map (word l)
def nxt (ws:List Wd):Wd:=ws.getD (ws.length - 16) 0+sig0 (ws.getD (ws.length - 15) 0)+ws.getD (ws.length - 7) 0+sig1 (ws.getD (ws.length - 2) 0)
def sched (l:List UInt8):Nat→List Wd
 | 0=>wordsTo l 16
 | k+1=>sched l k++[nxt (sched l k)]
structure S8 where
 a:Wd
 b:Wd
 c:Wd
 d:Wd
 e:Wd
 f:Wd
 g:Wd
 h:Wd
def S8.x (s:S8) (k w:Wd):Wd:=s.h+(rotr s.e 6 ^^^ rotr s.e 11 ^^^ rotr s.e 25)+((s.e &&& s.f) ^^^ (~~~s.e &&& s.g))+k+w
def S8.y (s:S8):Wd:=(rotr s.a 2 ^^^ rotr s.a 13 ^^^ rotr s.a 22)+((s.a &&& s.b) ^^^ (s.a &&& s.c) ^^^ (s.b &&& s.c))
def rnd (k w:Wd) (s:S8):S8:=⟨s.x k w+s.y,s.a,s.b,s.c,s.d+s.x k w,s.e,s.f,s.g⟩
def rnds (ws:List Wd) (s:S8):Nat→S8
 | 0=>s
 | n+1=>rnd (kc n) (ws.getD n 0) (rnds ws s n)
def S8.plus (s t:S8):S8:=⟨s.a+t.a,s.b+t.b,s.c+t.c,s.d+t.d,s.e+t.e,s.f+t.f,s.g+t.g,s.h+t.h⟩
def mix (s:S8) (l:List UInt8):S8:=s.plus (rnds (sched l 48) s 64)
def init8:S8:=⟨1779033703#32,3144134277#32,1013904242#32,2773480762#32,1359893119#32,2600822924#32,528734635#32,1541459225#32⟩
def run (l:List UInt8):Nat→S8
 | 0=>init8
 | n+1=>mix (run l n) ((l.drop (64*n)).take 64)
def zeros (n:Nat):Nat:=(119 - n%64)%64
def lenByte (n i:Nat):UInt8:=UInt8.ofNat (8*n / 2 ^ (56 - 8*i))
def pad (n:Nat):List UInt8:=128::(List.replicate (zeros n) 0++(List.range 8).map (lenByte n))
def padded (l:List UInt8):List UInt8:=l++pad l.length
def S8.word (s:S8):Nat→Wd
 | 0=>s.a | 1=>s.b | 2=>s.c | 3=>s.d | 4=>s.e | 5=>s.f | 6=>s.g | _=>s.h
def S8.byte (s:S8) (i:Nat):UInt8:=UInt8.ofNat ((s.word (i / 4)).toNat / 2 ^ (24 - 8*(i%4)))
def S8.out (s:S8):List UInt8:=(List.range 32).map s.byte
def sum (l:List UInt8):List UInt8:=(run (padded l) ((padded l).length / 64)).out
end Sp
end Go.Proofs.YtgggdbjakcpanaaGreatDoor
