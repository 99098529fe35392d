import Derived.Test.YtgggdbjakcpanaaGreatDoorQCRefPad
set_option linter.unusedVariables false
set_option linter.unusedSimpArgs false
namespace Go.Proofs.YtgggdbjakcpanaaGreatDoor
namespace Sh
open Go.RowKit Sp
theorem bt_block (p:List UInt8) (n i:Nat) (hi:i<64):bt ((p.drop (64*n)).take 64) i=bt p (64*n+i):=by
 unfold bt
 rw [List.getD_eq_getElem?_getD,List.getD_eq_getElem?_getD,List.getElem?_take,if_pos hi,List.getElem?_drop]
def Reads8 (w:World) (g:Nat) (p:List UInt8):Prop:=∀ j u,p[j]? = some u→w.cell? ⟨g,j,none⟩=some (bv u)
theorem Reads8.at_ {w:World} {g:Nat} {p:List UInt8} (h:Reads8 w g p) (j:Nat) (hj:j<p.length):w.cell? ⟨g,j,none⟩=some (.int .u8 (bt p j:Int)):=by
 rw [h j p[j] (List.getElem?_eq_getElem hj)]
 simp [bv,bt,List.getElem?_eq_getElem hj]
theorem Reads8.below {w w':World} {g B:Nat} {p:List UInt8} (h:Reads8 w g p) (hb:Below B w w') (hg:g<B):Reads8 w' g p:=fun j u hu=>(hb.cell (p:=⟨g,j,none⟩) hg).trans (h j u hu)
theorem sum4 (a b c d:Nat) (ha:a≤255) (hb:b≤255) (hc:c≤255) (hd:d≤255) :
  (a:Int)*16777216+(b:Int)*65536+(c:Int)*256+(d:Int)=((BitVec.ofNat 32 (a*16777216+b*65536+c*256+d)).toNat:Int):=by
 rw [BitVec.toNat_ofNat]; omega
theorem set_step {α:Type} (L M:List α) (k:Nat) (x:α) (hx:L[k]? = some x) (hl:L.length=M.length):(L.take k++M.drop k).set k x=L.take (k+1)++M.drop (k+1):=by
 have hk:k<L.length:=(List.getElem?_eq_some_iff.1 hx).1
 have he:L[k]=x:=(List.getElem?_eq_some_iff.1 hx).2
 have hm:k<M.length:=by omega
 rw [List.set_append_right _ _ (by rw [List.length_take]; omega),List.drop_eq_getElem_cons hm,List.length_take,Nat.min_eq_left (by omega),Nat.sub_self,List.set_cons_zero,List.take_succ_eq_append_getElem hk,he,List.append_assoc]
 rfl
theorem mid_get {α:Type} (L M:List α) (k:Nat) (hl:L.length=M.length) (hk:k<L.length):(L.take k++M.drop k)[k]? = M[k]?:=by
 rw [List.getElem?_append_right (by rw [List.length_take]; omega),List.length_take,Nat.min_eq_left (by omega),Nat.sub_self,List.getElem?_drop]
 rfl
theorem wd_sum15 (d a b c e f:Wd):((d.toNat:Int)+((a.toNat:Int)+(b.toNat:Int)+(c.toNat:Int)+(e.toNat:Int)+(f.toNat:Int)))%4294967296=((d+(a+b+c+e+f)).toNat:Int):=by
 simp only [BitVec.toNat_add]; omega
theorem wd_sum52 (a b c e f u v:Wd):((a.toNat:Int)+(b.toNat:Int)+(c.toNat:Int)+(e.toNat:Int)+(f.toNat:Int)+((u.toNat:Int)+(v.toNat:Int)))%4294967296=((a+b+c+e+f+(u+v)).toNat:Int):=by
 simp only [BitVec.toNat_add]; omega
theorem below8 {B A:Nat} {w0 w:World} {v0 v1 v2 v3 v4 v5 v6 v7:Value} (h:Below B w0 w) (hA:B≤A) :
  Below B w0 ((((((((w.setCell ⟨A,7,none⟩ v7).setCell ⟨A,6,none⟩ v6).setCell ⟨A,5,none⟩ v5).setCell ⟨A,4,none⟩ v4).setCell ⟨A,3,none⟩ v3).setCell ⟨A,2,none⟩ v2).setCell ⟨A,1,none⟩ v1).setCell ⟨A,0,none⟩ v0) :=
 (((((((h.setCell hA v7).setCell hA v6).setCell hA v5).setCell hA v4).setCell hA v3).setCell hA v2).setCell hA v1).setCell hA v0
theorem round8 {w:World} {A:Nat} {t:TypeId} {a b c d e f g h z0 z4:Wd} {y0 y4:Int} (hA:Blk w A t (S8.list ⟨a,b,c,d,e,f,g,h⟩).toArray) (h4:y4=(z4.toNat:Int)) (h0:y0=(z0.toNat:Int)) :
  Blk ((((((((w.setCell ⟨A,7,none⟩ (.int .u32 (g.toNat:Int))).setCell ⟨A,6,none⟩ (.int .u32 (f.toNat:Int))).setCell ⟨A,5,none⟩ (.int .u32 (e.toNat:Int))).setCell ⟨A,4,none⟩ (.int .u32 y4)).setCell ⟨A,3,none⟩ (.int .u32 (c.toNat:Int))).setCell ⟨A,2,none⟩ (.int .u32 (b.toNat:Int))).setCell ⟨A,1,none⟩ (.int .u32 (a.toNat:Int))).setCell ⟨A,0,none⟩ (.int .u32 y0))
   A t (S8.list ⟨z0,a,b,c,z4,e,f,g⟩).toArray:=by
 subst h4 h0
 exact ((((((((hA.set_ 7 _).set_ 6 _).set_ 5 _).set_ 4 _).set_ 3 _).set_ 2 _).set_ 1 _).set_ 0 _).eq_ (by simp [S8.list,wv])
theorem list_word (s:S8) (k:Nat) (hk:k<8):(S8.list s)[k]? = some (wv (s.word k)):=by
 have h:k=0∨k=1∨k=2∨k=3∨k=4∨k=5∨k=6∨k=7:=by omega
 rcases h with rfl | rfl | rfl | rfl | rfl | rfl | rfl | rfl <;> rfl
theorem plus_word (s t:S8) (k:Nat) (hk:k<8):(s.plus t).word k=s.word k+t.word k:=by
 have h:k=0∨k=1∨k=2∨k=3∨k=4∨k=5∨k=6∨k=7:=by omega
 rcases h with rfl | rfl | rfl | rfl | rfl | rfl | rfl | rfl <;> rfl
theorem byte_at (s:S8) (k:Nat):((s.word (k / 4)).toNat:Int) / 2 ^ (24 - 8*(k%4))%256=((s.byte k).toNat:Int):=by
 unfold S8.byte; simp
theorem out_get (s:S8) (k:Nat) (hk:k<32):(s.out.map bv)[k]? = some (bv (s.byte k)):=by simp [S8.out,hk]
end Sh
end Go.Proofs.YtgggdbjakcpanaaGreatDoor
