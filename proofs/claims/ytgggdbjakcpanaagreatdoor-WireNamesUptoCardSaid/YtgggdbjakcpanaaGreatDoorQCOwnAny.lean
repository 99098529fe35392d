import Derived.Test.YtgggdbjakcpanaaGreatDoorQCMem3
set_option linter.unusedVariables false
set_option linter.unusedSimpArgs false
namespace Go.Proofs.YtgggdbjakcpanaaGreatDoor
namespace Sh
open Go.RowKit Sp
theorem OwnB.mk {w:World} {base:Nat} {v:Value} {l:List UInt8} (h:OwnB w base v l):OwnB w base v l:=h
theorem OwnB.any {w:World} {base:Nat} {v:Value} {l:List UInt8} (h:OwnB w base v l):∃ A cap,v=.slice A l.length cap∧Src w A l∧l.length≤cap∧cap≤9223372036854775807:=by
 rcases Nat.eq_zero_or_pos l.length with h0 | h0
 ·have hl:l=[]:=List.eq_nil_of_length_eq_zero h0
  subst hl
  rcases h.2 with ⟨rfl,_⟩ | ⟨g,cap,cur,rfl,_,_,_,h2,_⟩
  ·exact ⟨none,0,rfl,fun hne=>absurd rfl hne,Nat.le_refl _,by omega⟩
  ·exact ⟨some ⟨g,0,none⟩,cap,rfl,fun hne=>absurd rfl hne,Nat.zero_le _,by simpa [maxLen] using h2⟩
 ·obtain ⟨g,cap,rfl,_,hg⟩:=h.form h0
  exact ⟨some ⟨g,0,none⟩,cap,rfl,h.src hg,h.cap.1,h.cap.2⟩
end Sh
end Go.Proofs.YtgggdbjakcpanaaGreatDoor
