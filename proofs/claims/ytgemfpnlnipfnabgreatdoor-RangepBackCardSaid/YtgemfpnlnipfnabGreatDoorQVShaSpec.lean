import Derived.KernelRfl
import Derived.WalkKit
import Derived.WalkSpells
import Derived.WalkLawsBesides
import Derived.Test.YtgemfpnlnipfnabGreatDoorRows
import Derived.Deep.QuietTactic
import Derived.BigQuiet
import Derived.Lib.Hide
import Derived.Below
import Derived.Laws.OwnMore
import Derived.Deep.Draws
import Derived.Deep.WholeRow
import Derived.Deep.OwnRows
import Derived.Laws.CopyOwn
import Derived.OwnWalk
import Derived.Deep.MidRow
import Derived.Laws.Rows
set_option linter.unusedVariables false
set_option linter.unusedSimpArgs false
namespace Go.Proofs.YtgemfpnlnipfnabGreatDoor
section
namespace Sp
abbrev Wd:=BitVec 32
def E4 (x:Wd) (n:Nat):Wd:=(x >>> n) ||| (x <<< (32 - n))
def ktab:List Nat:=[1116352408,1899447441,3049323471,3921009573,961987163,1508970993,2453635748,2870763221,3624381080,310598401,607225278,1426881987,1925078388,2162078206,2614888103,3248222580,3835390401,4022224774,264347078,604807628,770255983,1249150122,1555081692,1996064986,2554220882,2821834349,2952996808,3210313671,3336571891,3584528711,113926993,338241895,666307205,773529912,1294757372,1396182291,1695183700,1986661051,2177026350,2456956037,2730485921,2820302411,3259730800,3345764771,3516065817,3600352804,4094571909,275423344,430227734,506948616,659060556,883997877,958139571,1322822218,1537002063,1747873779,1955562222,2024104815,2227730452,2361852424,2428436474,2756734187,3204031479,3329325298]
def kc (t:Nat):Wd:=BitVec.ofNat 32 (ktab.getD t 0)
def bt (l:List UInt8) (i:Nat):Nat:=(l.getD i 0).toNat
def word (l:List UInt8) (t:Nat):Wd:=BitVec.ofNat 32 (bt l (4*t)*16777216+bt l (4*t+1)*65536+bt l (4*t+2)*256+bt l (4*t+3))
def Zg (x:Wd):Wd:=E4 x 7 ^^^ E4 x 18 ^^^ (x >>> 3)
def Zf (x:Wd):Wd:=E4 x 17 ^^^ E4 x 19 ^^^ (x >>> 10)
def Cg (l:List UInt8) (k:Nat):List Wd:=(List.range k).map (word l)
def nxt (ws:List Wd):Wd:=ws.getD (ws.length - 16) 0+Zg (ws.getD (ws.length - 15) 0)+ws.getD (ws.length - 7) 0+Zf (ws.getD (ws.length - 2) 0)
def B8 (l:List UInt8):Nat→List Wd
 | 0=>Cg l 16
 | k+1=>B8 l k++[nxt (B8 l k)]
structure S8 where
 a:Wd
 b:Wd
 c:Wd
 d:Wd
 e:Wd
 f:Wd
 g:Wd
 h:Wd
def S8.x (s:S8) (k w:Wd):Wd:=s.h+(E4 s.e 6 ^^^ E4 s.e 11 ^^^ E4 s.e 25)+((s.e &&& s.f) ^^^ (~~~s.e &&& s.g))+k+w
def S8.y (s:S8):Wd:=(E4 s.a 2 ^^^ E4 s.a 13 ^^^ E4 s.a 22)+((s.a &&& s.b) ^^^ (s.a &&& s.c) ^^^ (s.b &&& s.c))
def rnd (k w:Wd) (s:S8):S8:=⟨s.x k w+s.y,s.a,s.b,s.c,s.d+s.x k w,s.e,s.f,s.g⟩
def Vi (ws:List Wd) (s:S8):Nat→S8
 | 0=>s
 | n+1=>rnd (kc n) (ws.getD n 0) (Vi ws s n)
def S8.plus (s t:S8):S8:=⟨s.a+t.a,s.b+t.b,s.c+t.c,s.d+t.d,s.e+t.e,s.f+t.f,s.g+t.g,s.h+t.h⟩
def mix (s:S8) (l:List UInt8):S8:=s.plus (Vi (B8 l 48) s 64)
def Z0:S8:=⟨1779033703#32,3144134277#32,1013904242#32,2773480762#32,1359893119#32,2600822924#32,528734635#32,1541459225#32⟩
def run (l:List UInt8):Nat→S8
 | 0=>Z0
 | n+1=>mix (run l n) ((l.drop (64*n)).take 64)
def B7 (n:Nat):Nat:=(119 - n%64)%64
def DI (n i:Nat):UInt8:=UInt8.ofNat (8*n / 2 ^ (56 - 8*i))
def pad (n:Nat):List UInt8:=128::(List.replicate (B7 n) 0++(List.range 8).map (DI n))
def C6 (l:List UInt8):List UInt8:=l++pad l.length
def S8.word (s:S8):Nat→Wd
 | 0=>s.a | 1=>s.b | 2=>s.c | 3=>s.d | 4=>s.e | 5=>s.f | 6=>s.g | _=>s.h
def S8.byte (s:S8) (i:Nat):UInt8:=UInt8.ofNat ((s.word (i / 4)).toNat / 2 ^ (24 - 8*(i%4)))
def S8.out (s:S8):List UInt8:=(List.range 32).map s.byte
def sum (l:List UInt8):List UInt8:=(run (C6 l) ((C6 l).length / 64)).out
end Sp
end
section
section
open Go.RowKit Sp
def wv (x:Wd):Value:=.int .u32 (x.toNat:Int)
theorem NQ (x:Wd):BitVec.ofInt 32 (x.toNat:Int)=x:=by
 rw [BitVec.ofInt_natCast]; simp
theorem Lb {op:BinOp} {f:Wd→Wd→Wd} (x y:Wd) (h:bits op .u32 (x.toNat:Int) (y.toNat:Int)=IntKind.u32.wrap ((f (BitVec.ofInt 32 (x.toNat:Int)) (BitVec.ofInt 32 (y.toNat:Int))).toNat:Int)) :
  bits op .u32 (x.toNat:Int) (y.toNat:Int)=((f x y).toNat:Int):=by
 rw [h,NQ,NQ,IntKind.wrap_u32]
 have:=(f x y).isLt
 omega
theorem E1 (x y:Wd):bits .xor .u32 (x.toNat:Int) (y.toNat:Int)=((x ^^^ y).toNat:Int):=Lb (f:=fun a b=>a ^^^ b) x y rfl
theorem OT (x y:Wd):bits .and .u32 (x.toNat:Int) (y.toNat:Int)=((x &&& y).toNat:Int):=Lb (f:=fun a b=>a &&& b) x y rfl
theorem XN (x y:Wd):bits .or .u32 (x.toNat:Int) (y.toNat:Int)=((x ||| y).toNat:Int):=Lb (f:=fun a b=>a ||| b) x y rfl
theorem OU (x y:Wd):((x.toNat:Int)+(y.toNat:Int))%4294967296=((x+y).toNat:Int):=by
 rw [BitVec.toNat_add]; omega
theorem Pw (a b c d:Wd):((a.toNat:Int)+(b.toNat:Int)+(c.toNat:Int)+(d.toNat:Int))%4294967296=((a+b+c+d).toNat:Int):=by
 simp only [BitVec.toNat_add]; omega
theorem VB (a b c d e:Wd):((a.toNat:Int)+(b.toNat:Int)+(c.toNat:Int)+(d.toNat:Int)+(e.toNat:Int))%4294967296=((a+b+c+d+e).toNat:Int):=by
 simp only [BitVec.toNat_add]; omega
theorem Sj:(if IntKind.u32.signed=true then (-1:Int) else IntKind.u32.max)=4294967295:=by decide
theorem La (x:Wd) (n:Nat):(x.toNat:Int) / 2 ^ n=((x >>> n).toNat:Int):=by
 rw [BitVec.toNat_ushiftRight,Nat.shiftRight_eq_div_pow]; simp
theorem SW (x:Wd) (n:Nat):(x.toNat:Int)*2 ^ n%4294967296=((x <<< n).toNat:Int):=by
 rw [BitVec.toNat_shiftLeft,Nat.shiftLeft_eq]; simp
theorem Xo (x:Wd):bits .xor .u32 4294967295 (x.toNat:Int)=((~~~x).toNat:Int):=by
 have h:=E1 4294967295#32 x
 rw [show ((4294967295#32:Wd).toNat:Int)=4294967295 from rfl] at h
 rw [h]
 congr 2
theorem Py (x:Wd):bits .xor .u32 (x.toNat:Int) 4294967295=((~~~x).toNat:Int):=by
 have h:=E1 x 4294967295#32
 rw [show ((4294967295#32:Wd).toNat:Int)=4294967295 from rfl] at h
 rw [h,BitVec.xor_comm]
 congr 2
theorem As (x:Wd):(x.toNat:Int)<4294967296∧0≤(x.toNat:Int):=⟨by have:=x.isLt; omega,by omega⟩
theorem Xn (x:Wd) (n:Int) (h0:1≤n) (h1:n≤31) :
  bits .or .u32 ((x.toNat:Int) / 2 ^ n.toNat) ((x.toNat:Int)*2 ^ (32 - n).toNat%4294967296)=((E4 x n.toNat).toNat:Int):=by
 rw [La,SW,XN,show (32 - n).toNat=32 - n.toNat from by omega]
 rfl
theorem Px (x:Wd) (n:Int) (h0:1≤n) (h1:n≤31) :
  bits .or .u32 ((x.toNat:Int)*2 ^ (32 - n).toNat%4294967296) ((x.toNat:Int) / 2 ^ n.toNat)=((E4 x n.toNat).toNat:Int):=by
 rw [La,SW,XN,show (32 - n).toNat=32 - n.toNat from by omega,BitVec.or_comm]
 rfl
theorem Rm (n:Int) (h0:1≤n) (h1:n≤31):bits .and .u64 (IntKind.u64.wrap (-n)) 31=32 - n:=by
 have:n=1∨n=2∨n=3∨n=4∨n=5∨n=6∨n=7∨n=8∨n=9∨n=10∨n=11∨n=12∨n=13∨n=14∨n=15∨n=16∨n=17∨n=18∨n=19∨n=20∨n=21∨n=22∨n=23∨n=24∨n=25∨n=26∨n=27∨n=28∨n=29∨n=30∨n=31:=by omega
 rcases this with h | h | h | h | h | h | h | h | h | h | h | h | h | h | h | h | h | h | h | h | h | h | h | h | h | h | h | h | h | h | h <;> subst h <;> decide +kernel
end
end
section
namespace Sh
open Go.RowKit Sp
theorem QI {a b:Int} (h:a=b):Ending.returned (.int .u32 a)=.returned (.int .u32 b):=by rw [h]
set_option maxHeartbeats 400000 in
theorem TG (x:Wd) (n:Int) (w:World) (h0:1≤n) (h1:n≤31) :
  Calls Tryz.prog 243 #[.int .u32 (x.toNat:Int),.int .i64 (-n)] w fun e w'=>e=.returned (.int .u32 ((E4 x n.toNat).toNat:Int))∧w=w':=by
 have hn:=Rm n h0 h1
 have hx:=As x
 have h31:32 - (32 - n)=n:=by omega
 go_enter Tryz.func243,Tryz.ntmps243
 go_wp2
 go_ret
 exact ⟨QI (by first | exact Px x n h0 h1 | (simp only [h31]; exact Px x n h0 h1)),rfl⟩
set_option maxHeartbeats 400000 in
theorem Ix (x:Wd) (n:Int) (w:World) (h0:1≤n) (h1:n≤31) :
  Calls Tryz.prog 233 #[.int .u32 (x.toNat:Int),.int .i64 n] w fun e w'=>e=.returned (.int .u32 ((E4 x n.toNat).toNat:Int))∧w=w':=by
 go_enter Tryz.func233,Tryz.ntmps233
 go_wp2_with (go_at_call 243; refine (TG x n _ h0 h1).mono ?_; rintro e w' ⟨rfl,rfl⟩)
 go_ret
 exact ⟨rfl,rfl⟩
set_option maxHeartbeats 400000 in
theorem G3 (x:Wd) (n:Int) (w:World) (h0:1≤n) (h1:n≤31) :
  Calls Tryz.prog 135 #[.int .u32 (x.toNat:Int),.int .i64 n] w fun e w'=>e=.returned (.int .u32 ((E4 x n.toNat).toNat:Int))∧∃ m,w'=w.drewN m:=by
 go_enter Tryz.func135,Tryz.ntmps135
 go_wp2
 go_quiet (fail)
 go_wp2
 go_ret
 exact ⟨QI (Xn x n h0 h1),_,rfl⟩
end Sh
end
section
section
open Go.RowKit Sp
def Blk (w:World) (g:Nat) (t:TypeId) (cs:Array Value):Prop:=w.heap[g]? = some (.cells cs t (0,0))
section
variable {w w':World} {g:Nat} {t:TypeId} {cs:Array Value}
theorem Blk.lt (h:Blk w g t cs):g<w.heap.size:=by
 rcases Nat.lt_or_ge g w.heap.size with hlt | hge
 ·exact hlt
 ·unfold Blk at h; rw [Array.getElem?_eq_none hge] at h; cases h
theorem Blk.cell (h:Blk w g t cs) (i:Nat):w.cell? ⟨g,i,none⟩=cs[i]?:=cell_of_row w g i cs t (0,0) h
theorem Blk.frozen (h:Blk w g t cs) (i:Nat):w.frozen? ⟨g,i,none⟩=false:=by
 unfold Blk at h
 simp [World.frozen?,h]
theorem Blk.new (w:World) (t:TypeId) (cs:Array Value):Blk (w.alloc (.cells cs t)) w.heap.size t cs:=heap_alloc_new w _
theorem Blk.drew (h:Blk w g t cs):Blk w.drew g t cs:=h
theorem Blk.drewN (h:Blk w g t cs) (n:Nat):Blk (w.drewN n) g t cs:=h
theorem Blk.alloc (h:Blk w g t cs) (o:Obj):Blk (w.alloc o) g t cs:=(Below.heap_alloc w o g h.lt).trans h
theorem Blk.set_ (h:Blk w g t cs) (i:Nat) (u:Value):Blk (w.setCell ⟨g,i,none⟩ u) g t (cs.setIfInBounds i u):=by
 unfold Blk at h ⊢
 simp [World.setCell,Array.getElem?_modify,h]
theorem Blk.far (h:Blk w g t cs) {p:Addr} (hp:g≠p.block) (u:Value):Blk (w.setCell p u) g t cs:=(Below.heap_setCell w p u g hp).trans h
theorem Blk.below {B:Nat} (h:Blk w g t cs) (hb:Below B w w') (hg:g<B):Blk w' g t cs:=(hb.block g hg).trans h
theorem Blk.grown {row:Option Nat} (h:Blk w g t cs) (hb:w.grownBy w' row) (hg:some g≠row):Blk w' g t cs:=(hb.block g h.lt hg).trans h
theorem Blk.setRow (h:Blk w g t cs) (cs':Array Value):Blk (w.setRow g cs') g t cs':=by
 unfold Blk at h ⊢
 simp [World.setRow,Array.getElem?_modify,h]
theorem CW (w:World) (g k:Nat) (cs:Array Value) (h:k≠g):(w.setRow g cs).heap[k]? = w.heap[k]?:=by
 simp only [World.setRow,Array.getElem?_modify]
 rw [if_neg (by omega)]
theorem Blk.setRow_far (h:Blk w g t cs) {k:Nat} (hk:g≠k) (cs':Array Value):Blk (w.setRow k cs') g t cs:=(CW w k g cs' hk).trans h
theorem Bk {B:Nat} {a w:World} (h:Below B a w) {g:Nat} (hg:B≤g) (cs:Array Value):Below B a (w.setRow g cs) :=
 h.trans ⟨rfl,rfl,rfl,by simp,fun k hk=>CW w g k cs (by omega)⟩
theorem Bu {P:Program} {ops:Array Oper} {rest:List Oper} {o:Oper} {a:Act} {w1:World} {Q:Exit→Act→World→Prop} (hgd:o.guard=none) (ty:TypeId) (x y:Operand) (ho:o.op=.store ty x y)
  (c cells:Array Value) (t:TypeId) (hx:a.eval x=.pointer (some ⟨w1.heap.size,0,none⟩)) (hy:a.eval y=.agg cells)
  (hi:(P.info? ty).map (·.size)=some cells.size) (hold:c.size=cells.size) (h1:cells.all (·.oneCell')=true)
  (h:∀ w2,Blk w2 w1.heap.size t cells→Below w1.heap.size w1 w2→Hid (w2.heap.size=w1.heap.size+1)→wpList P ops Q rest (a.put o.dst undef) w2):wpList P ops Q (o::rest) a (w1.alloc (.cells c t)) :=
 wpList_store_row hgd ty x y ho w1.heap.size cells hx hy t c (heap_alloc_new w1 _) hi hold h1
  (h _ ((Blk.new w1 t c).setRow cells) (Bk ((Below.refl _ _).alloc (Nat.le_refl _) _) (Nat.le_refl _) _) (Lib.hid (by simp)))
theorem O9 {a w:World} {row:Option Nat} (h:a.grownBy w row) (n:Nat):a.grownBy (w.drewN n) row:=⟨h.os,h.tape,h.output,h.size,h.block⟩
theorem Cs {a w:World} {g:Nat} (h:a.grownBy w (some g)) {p:Addr} (hp:p.block=g∨a.heap.size≤p.block) (u:Value):a.grownBy (w.setCell p u) (some g) :=
 ⟨h.os,h.tape,h.output,by simpa [World.setCell] using h.size,fun i hi hne=>(Below.heap_setCell w p u i (by
  rintro rfl
  rcases hp with hp | hp
  ·exact hne (by rw [hp])
  ·omega)).trans (h.block i hi hne)⟩
theorem GX {a w:World} (h:Below a.heap.size a w) (row:Option Nat):a.grownBy w row:=⟨h.os,h.tape,h.output,h.size,fun i hi _=>h.block i hi⟩
theorem D8 {a b c:World} {row:Option Nat} (h:a.grownBy b row) (k:b.grownBy c row):a.grownBy c row :=
 ⟨k.os.trans h.os,k.tape.trans h.tape,k.output.trans h.output,Nat.le_trans h.size k.size,fun i hi hne=>(k.block i (Nat.lt_of_lt_of_le hi h.size) hne).trans (h.block i hi hne)⟩
theorem Ca {a:World} {g:Nat}:∀ (vs:List Value) (o:Nat) (w:World),a.grownBy w (some g)→a.grownBy (w.setCells g o vs) (some g)
 | [],_,_,h=>h
 | v::r,o,w,h=>by
  rw [World.setCells]
  exact Ca r (o+1) _ (Cs h (.inl rfl) v)
theorem Cb {B g:Nat} {a w:World} (h:a.grownBy w (some g)) (hB:B≤a.heap.size) (hg:B≤g):Below B a w :=
 ⟨h.os,h.tape,h.output,h.size,fun k hk=>h.block k (by omega) (fun e=>by injection e; omega)⟩
def BI (cs:Array Value) (o:Nat):List Value→Array Value
 | []=>cs
 | v::r=>BI (cs.setIfInBounds o v) (o+1) r
theorem Blk.setCells {g:Nat} {t:TypeId}:∀ (vs:List Value) (o:Nat) (w:World) (cs:Array Value),Blk w g t cs→Blk (w.setCells g o vs) g t (BI cs o vs)
 | [],_,_,_,h=>h
 | v::r,o,w,cs,h=>by
  rw [World.setCells]
  exact Blk.setCells r (o+1) _ _ (h.set_ o v)
theorem Blk.there {w:World} {g:Nat} {t:TypeId} {cs:Array Value} (h:Blk w g t cs) (o n:Nat) (hn:o+n≤cs.size):w.there g o n:=fun j hj =>
 ⟨by rw [h.cell]; simp; omega,h.frozen _⟩
theorem NO {a w:World} {g:Nat} (h:a.grownBy w (some g)) (cs:Array Value):a.grownBy (w.setRow g cs) (some g) :=
 ⟨h.os,h.tape,h.output,by simpa using h.size,fun i hi hne=>(CW w g i cs (fun e=>hne (by rw [e]))).trans (h.block i hi hne)⟩
theorem Ij {P:Program} {w:World} {ops:Array Oper} {rest:List Oper} {o:Oper} {a:Act} {Q:Exit→Act→World→Prop} (hgd:o.guard=none) (d s:Operand) (dT sT:TypeId)
  (ho:o.op=.call { callee:=.builtin .copy,args:=#[d,s],argTypes:=#[dT,sT] }) (elem:TypeId) (hu:P.underlying dT=some (.slice elem)) (hsz:(P.info? elem).map (·.size)=some 1)
  (g off dLen dCap:Nat) (ad:Addr) (sLen sCap:Nat) (hd:a.eval d=.slice (some ⟨g,off,none⟩) dLen dCap) (hs:a.eval s=.slice (some ad) sLen sCap)
  (cur:List Value) (t:TypeId) (hg:Blk w g t cur.toArray) (cs:List Value) (hn:cs.length=Nat.min sLen dLen)
  (hsrc:∀ j v,cs[j]? = some v→w.cell? (ad.add j)=some v) (hfit:off+cs.length≤cur.length) (h1:∀ v∈cs,v.oneCell'=true)
  (h:∀ w',Blk w' g t (cur.take off++(cs++cur.drop (off+cs.length))).toArray→w.grownBy w' (some g)→wpList P ops Q rest (a.put o.dst (goInt cs.length)) w'):wpList P ops Q (o::rest) a w :=
 wpList_copy_own hgd d s dT sT ho elem hu hsz g off dLen dCap ad sLen sCap hd hs cur.toArray t hg cs hn hsrc (by simpa using hfit) h1
  (h _ (hg.setRow _) (NO (World.grownBy.refl w _) _))
theorem Jt (ws:List Wd):(ws.map wv).toArray.all (·.oneCell')=true:=by simp [wv,Value.oneCell']
theorem Blk.eq_ {cs':Array Value} (h:Blk w g t cs) (e:cs=cs'):Blk w g t cs':=e ▸ h
end
theorem Jn {P:Program} {f:FuncId} {args:Array Value} {w:World} {n:Nat} {v:Value}
  (h:Calls P f args (w.drewN n) fun e w'=>e=.returned v∧w.drewN n=w'):Calls P f args (w.drewN n) fun e w''=>e=.returned v∧∃ m,w''=w.drewN m :=
 h.mono fun _ _ ⟨he,hm⟩=>⟨he,n,hm.symm⟩
theorem Jo {P:Program} {f:FuncId} {args:Array Value} {w:World} {a n:Nat} {v:Value}
  (h:Calls P f args (w.drewN (a+n)) fun e w'=>e=.returned v∧w.drewN (a+n)=w') :
  Calls P f args (w.drewN (a+n)) fun e w''=>e=.returned v∧∃ m,w''=w.drewN (a+m) :=
 h.mono fun _ _ ⟨he,hm⟩=>⟨he,n,hm.symm⟩
theorem K1 {P:Program} {f:FuncId} {args:Array Value} {w:World} {a n:Nat} {v:Value}
  (h:Calls P f args (w.drewN (a+n)) fun e w'=>e=.returned v∧∃ m,w'=(w.drewN (a+n)).drewN m) :
  Calls P f args (w.drewN (a+n)) fun e w''=>e=.returned v∧∃ m,w''=w.drewN (a+m) :=
 h.mono fun _ _ ⟨he,m,hm⟩=>⟨he,n+m,by rw [hm,World.drewN_drewN,Nat.add_assoc]⟩
theorem F_ {B:Nat} {a w:World} (h:Below B a w) (n:Nat):Below B a (w.drewN n):=⟨h.os,h.tape,h.output,h.size,h.block⟩
def bv (x:UInt8):Value:=.int .u8 (x.toNat:Int)
def EK (ws:List Wd):List Value:=ws.map wv++List.replicate (64 - ws.length) (wv 0)
theorem Mh (ws:List Wd) (h:ws.length≤64):(EK ws).length=64:=by simp [EK]; omega
theorem Kb (ws:List Wd) (h:ws.length=64):EK ws=ws.map wv:=by simp [EK,h]
theorem DB (ws:List Wd) (i:Nat) (h:i<ws.length):(EK ws).toArray[i]? = some (wv (ws.getD i 0)):=by
 simp [EK,List.getElem?_append,h]
theorem GC (ws:List Wd) (i:Nat) (h:i<64):∃ v,(EK ws).toArray[i]? = some v:=by
 by_cases hi:i<ws.length
 ·exact ⟨_,DB ws i hi⟩
 ·have hl:i - ws.length<64 - ws.length:=by omega
  exact ⟨wv 0,by simp [EK,List.getElem?_append,hi,hl]⟩
theorem Gv (ws:List Wd) (x:Wd) (h:ws.length<64):(EK ws).toArray.setIfInBounds ws.length (wv x)=(EK (ws++[x])).toArray:=by
 obtain ⟨m,hm⟩:∃ m,64 - ws.length=m+1:=⟨63 - ws.length,by omega⟩
 have h2:64 - (ws.length+1)=m:=by omega
 simp [EK,hm,h2,List.replicate_succ]
end
end
section
namespace Sp
theorem JZ (l m:List UInt8) (n:Nat) (h:64*n≤l.length):run (l++m) n=run l n:=by
 induction n with
 | zero=>rfl
 | succ n ih =>
  simp only [run]
  rw [ih (by omega)]
  congr 1
  rw [List.drop_append_of_le_length (by omega),List.take_append_of_le_length (by simp; omega)]
def LV (l blk:List UInt8):Prop:=blk.length=64∧blk.take (l.length%64)=l.drop (64*(l.length / 64))
def laid (blk:List UInt8) (r:Nat) (m:List UInt8):List UInt8:=blk.take r++(m++blk.drop (r+m.length))
theorem F0 (blk m:List UInt8) (r:Nat) (h:blk.length=64) (hm:r+m.length≤64):(laid blk r m).length=64:=by simp [laid,h]; omega
theorem OW (l blk m:List UInt8) (h:LV l blk) (hm:l.length%64+m.length<64) :
  LV (l++m) (laid blk (l.length%64) m)∧run (l++m) ((l++m).length / 64)=run l (l.length / 64):=by
 obtain ⟨h1,h2⟩:=h
 have e1:(l++m).length / 64=l.length / 64:=by rw [List.length_append]; omega
 have e2:(l++m).length%64=l.length%64+m.length:=by rw [List.length_append]; omega
 refine ⟨⟨F0 _ _ _ h1 (by omega),?_⟩,by rw [e1]; exact JZ l m _ (by omega)⟩
 rw [e1,e2,List.drop_append_of_le_length (by omega), ← h2]
 unfold laid
 have hlen:(blk.take (l.length%64)++m).length=l.length%64+m.length:=by simp; omega
 rw [← List.append_assoc, ← hlen,List.take_left]
theorem OX (l blk m:List UInt8) (h:LV l blk) (hm:l.length%64+m.length=64) :
  LV (l++m) (laid blk (l.length%64) m)∧run (l++m) ((l++m).length / 64)=mix (run l (l.length / 64)) (laid blk (l.length%64) m):=by
 obtain ⟨h1,h2⟩:=h
 have e1:(l++m).length / 64=l.length / 64+1:=by rw [List.length_append]; omega
 have e2:(l++m).length%64=0:=by rw [List.length_append]; omega
 have hl:laid blk (l.length%64) m=(l++m).drop (64*(l.length / 64)):=by
  rw [List.drop_append_of_le_length (by omega), ← h2]
  unfold laid
  rw [List.drop_of_length_le (by omega),List.append_nil]
 refine ⟨⟨F0 _ _ _ h1 (by omega),?_⟩,?_⟩
 ·rw [e2,List.take_zero,List.drop_of_length_le (by rw [e1,List.length_append]; omega)]
 ·rw [e1]
  simp only [run]
  rw [JZ l m _ (by omega),hl,List.take_of_length_le (by rw [List.length_drop,List.length_append]; omega)]
end Sp
end
end Go.Proofs.YtgemfpnlnipfnabGreatDoor
