/-
  Texts of ours, put together: WirLA, WirNA, WirO, WirX, WirY, WirZ, WirBA, WirBB, WirXB, WirCA, WirCB, WirCC, WirXC, PLift, WirDA, WirDB, WirDC, WirDD, WirDE, WirXD, WirCD, WirDF, WirDG, WirEA.
-/
import Derived.Test.YtgggdbjakcpanaaGreatDoorNX3
set_option linter.unusedVariables false
set_option linter.unusedSimpArgs false
namespace Go.Proofs.YtgggdbjakcpanaaGreatDoor
section
namespace Wr
open Go.RowKit Sy
set_option maxRecDepth 100000
set_option maxHeartbeats 4000000
def OwnAt (R:Blocks) (gx f:Nat) (cs:List Value):Prop:=∃ tx A Z,(gx,tx,(A++(cs++Z)).toArray)∈R∧A.length=f
theorem OwnAt.at {R:Blocks} {gx f:Nat} {cs:List Value} (h:OwnAt R gx f cs) (w0:Base):XAt (rdC w0 R) gx f cs:=λi u hu=>by
 obtain ⟨tx,A,Z,hm,rfl⟩:=h
 refine .inr ⟨tx,_,hm,?_⟩
 rw [List.getElem?_toArray,List.getElem?_append_right (by omega),Nat.add_sub_cancel_left,List.getElem?_append_left (List.getElem?_eq_some_iff.1 hu).1]
 exact hu
def PutO {α:Type} (fn:FuncId) (k:Nat) (rep:Rdr→List Value→α→Prop) (ok:α→Bool) (enc:α→Byt) (wt:α→Nat):Prop :=
 ∀ (w0:Base) (gc gw gx f:Nat) (bad:Bool) (s:Slc) (R:Blocks) (b:Byt) (cs:List Value) (x:α),rep (rdC w0 R) cs x→cs.length=k→OwnAt R gx f cs→BS s b→b.length+wt x≤70368744170000→∀ w,St w0 w (CWS gc gw bad s R) →
  Calls Tryz.prog fn #[ptr gc,.pointer (some ⟨gx,f,none⟩)] w (Turns w0 (WrC gc gw R (ok x) (enc x) (wt x) bad b))
theorem ownX {R:Blocks} {g:Nat} {t:TypeId} {cs:List Value} (h:(g,t,cs.toArray)∈R):OwnAt R g 0 cs:=⟨t,[],[],by rw [List.append_nil]; exact h,rfl⟩
theorem PutC.own {α:Type} {fn:FuncId} {k:Nat} {rep:Rdr→List Value→α→Prop} {ok:α→Bool} {enc:α→Byt} {wt:α→Nat} (h:PutC fn k rep ok enc wt):PutO fn k rep ok enc wt:=λw0 gc gw gx f bad s R b cs x hx hl hc hb hlen w hw=>h w0 gc gw gx f bad s R b cs x hx hl (hc.at w0) hb hlen w hw
structure LK where
 te:TypeId
 ts:TypeId
 ps:TypeId
 pt:TypeId
 fw:TypeId
 fr:TypeId
 fq:TypeId
 sq:TypeId
 gy:TypeId
 fy:TypeId
 f0:FuncId
 fL:FuncId
 f1:FuncId
 fP:FuncId
 f2:FuncId
 fI:FuncId
 fJ:FuncId
 fe:FuncId
 k:Nat
 by_:Nat
 z:List Value
 inf:TypeInfo
def t_f0 (nm : String) (tn : Array String) (K : LK) : Func := {name := nm,origin := "tollhouse/wire.list",targs :=  #[K.te],params :=  #[94,K.ps,3,K.fw],resultTypes :=  #[],nfree := 0,ntmps := 41,results :=  #[],body := some (.seq (.region 0  #[⟨some 4,.box 94 (.tmp 0),0,"coder.go:63",#[],none⟩,⟨some 7,.box K.fw (.tmp 3),0,"coder.go:63",#[],none⟩] false) (.seq (.seq (.region 1  #[⟨some 8,.load 94 (.tmp 4),94,"coder.go:64",#[],none⟩,⟨some 9,.call ⟨.value (.func 107),#[.tmp 8],#[94]⟩,4,"coder.go:64",#[⟨0,.data⟩],none⟩] false) (.cond (.tmp 9) (.seq (.region 2  #[⟨some 10,.move (.tmp 1),K.ps,"coder.go:65",#[],none⟩,⟨some 11,.load 94 (.tmp 4),94,"coder.go:65",#[],none⟩,⟨some 12,.nilCheck (.tmp 11),0,"coder.go:65",#[⟨1,.data⟩],none⟩,⟨some 13,.fieldAddr 126 (.tmp 12) 1,0,"coder.go:65",#[⟨2,.data⟩],none⟩,⟨some 14,.load 124 (.tmp 13),124,"coder.go:65",#[⟨3,.data⟩],none⟩,⟨some 15,.move (.tmp 2),3,"coder.go:65",#[],none⟩,⟨some 16,.makeFunc (.func K.f1) #[] #[.tmp 7,.tmp 4],K.fr,"coder.go:65",#[],none⟩,⟨some 17,.call ⟨.value (.func K.fL),#[.tmp 14,.tmp 15,.tmp 16],#[124,3,K.fr]⟩,K.ts,"coder.go:65",#[⟨4,.data⟩,⟨5,.data⟩,⟨6,.data⟩],none⟩,⟨some 18,.nilCheck (.tmp 10),0,"coder.go:65",#[⟨0,.data⟩,⟨0,.phase⟩,⟨1,.phase⟩,⟨2,.phase⟩,⟨3,.phase⟩,⟨4,.phase⟩,⟨5,.phase⟩,⟨6,.phase⟩,⟨7,.phase⟩],none⟩,⟨none,.store K.ts (.tmp 18) (.tmp 17),0,"coder.go:65",#[⟨8,.data⟩,⟨7,.data⟩,⟨7,.chain⟩,⟨0,.phase⟩,⟨1,.phase⟩,⟨2,.phase⟩,⟨3,.phase⟩,⟨4,.phase⟩,⟨5,.phase⟩,⟨6,.phase⟩,⟨7,.phase⟩],none⟩] false) .ret) .skip)) (.seq (.region 3  #[⟨some 19,.load 94 (.tmp 4),94,"coder.go:72",#[],none⟩,⟨some 20,.move (.tmp 1),K.ps,"coder.go:72",#[],none⟩,⟨some 21,.nilCheck (.tmp 20),0,"coder.go:72",#[⟨1,.data⟩],none⟩,⟨some 22,.load K.ts (.tmp 21),K.ts,"coder.go:72",#[⟨2,.data⟩],none⟩,⟨some 23,.call ⟨.builtin .len,#[.tmp 22],#[K.ts]⟩,3,"coder.go:72",#[⟨3,.data⟩],none⟩,⟨some 24,.move (.tmp 2),3,"coder.go:72",#[],none⟩,⟨some 25,.binOp .leq 3 (.tmp 23) (.tmp 24) 3,4,"coder.go:72",#[⟨4,.data⟩,⟨5,.data⟩],none⟩,⟨some 26,.call ⟨.value (.func 110),#[.tmp 19,.tmp 25],#[94,4]⟩,0,"coder.go:72",#[⟨0,.data⟩,⟨6,.data⟩],none⟩] true) (.seq (.region 4  #[⟨some 27,.load 94 (.tmp 4),94,"coder.go:74",#[],none⟩,⟨some 28,.nilCheck (.tmp 27),0,"coder.go:74",#[⟨0,.data⟩],none⟩,⟨some 29,.fieldAddr 126 (.tmp 28) 2,0,"coder.go:74",#[⟨1,.data⟩],none⟩,⟨some 30,.load 4 (.tmp 29),4,"coder.go:74",#[⟨2,.data⟩],none⟩,⟨some 31,.unOp .not 4 (.tmp 30),4,"coder.go:74",#[⟨3,.data⟩],none⟩] false) (.cond (.tmp 31) (.region 5  #[⟨some 32,.load 94 (.tmp 4),94,"coder.go:75",#[],none⟩,⟨some 33,.nilCheck (.tmp 32),0,"coder.go:75",#[⟨0,.data⟩],none⟩,⟨some 34,.fieldAddr 126 (.tmp 33) 0,0,"coder.go:75",#[⟨1,.data⟩],none⟩,⟨some 35,.load 122 (.tmp 34),122,"coder.go:75",#[⟨2,.data⟩],none⟩,⟨some 36,.move (.tmp 1),K.ps,"coder.go:75",#[],none⟩,⟨some 37,.nilCheck (.tmp 36),0,"coder.go:75",#[⟨4,.data⟩],none⟩,⟨some 38,.load K.ts (.tmp 37),K.ts,"coder.go:75",#[⟨5,.data⟩],none⟩,⟨some 39,.makeFunc (.func K.f2) #[] #[.tmp 7,.tmp 4],K.fq,"coder.go:75",#[],none⟩,⟨some 40,.call ⟨.value (.func K.fP),#[.tmp 35,.tmp 38,.tmp 39],#[122,K.ts,K.fq]⟩,0,"coder.go:75",#[⟨3,.data⟩,⟨6,.data⟩,⟨7,.data⟩],none⟩] true) .skip))))),norace := false,file := "tollhouse/wire/coder.go",endLine := 77,tmpNames := tn}
def t_fL (nm : String) (tn : Array String) (K : LK) : Func := {name := nm,origin := "tollhouse/codec.List",targs :=  #[K.te],params :=  #[124,3,K.fr],resultTypes :=  #[K.ts],nfree := 0,ntmps := 24,results :=  #[.tmp 6],body := some (.seq (.region 0  #[⟨some 6,.assign (.const (.slice none 0 0)),K.ts,"list.go:18",#[],none⟩] false) (.seq (.region 1  #[⟨some 7,.alloc K.ts,0,"list.go:20",#[],none⟩] false) (.seq (.seq (.region 2  #[⟨some 10,.move (.tmp 0),124,"list.go:21",#[],none⟩,⟨some 11,.move (.tmp 1),3,"list.go:21",#[],none⟩,⟨some 12,.move (.tmp 2),K.fr,"list.go:21",#[],none⟩,⟨some 13,.call ⟨.value (.func K.fI),#[.tmp 10,.tmp 11,.tmp 12],#[124,3,K.fr]⟩,K.sq,"list.go:21",#[⟨0,.data⟩,⟨1,.data⟩,⟨2,.data⟩],none⟩] false) (.block 0 (.rangeFunc (.tmp 13) #[14,15] (.region 3  #[⟨some 9,.alloc K.te,0,"list.go:21",#[],none⟩,⟨none,.store K.te (.tmp 9) (.tmp 15),0,"list.go:21",#[⟨0,.data⟩,⟨0,.phase⟩],none⟩] false) (.block 1 (.region 4  #[⟨some 16,.load K.ts (.tmp 7),K.ts,"list.go:22",#[],none⟩,⟨some 17,.load K.te (.tmp 9),K.te,"list.go:22",#[],none⟩,⟨some 18,.buildSlice K.ts 1  #[(0,.tmp 17)],K.ts,"list.go:22",#[⟨1,.data⟩],none⟩,⟨some 19,.call ⟨.builtin .append,#[.tmp 16,.tmp 18],#[K.ts,K.ts]⟩,K.ts,"list.go:22",#[⟨0,.data⟩,⟨2,.data⟩],none⟩,⟨none,.store K.ts (.tmp 7) (.tmp 19),0,"list.go:22",#[⟨3,.data⟩,⟨3,.chain⟩,⟨0,.phase⟩,⟨1,.phase⟩,⟨2,.phase⟩,⟨3,.phase⟩],none⟩] false))))) (.seq (.seq (.region 5  #[⟨some 20,.move (.tmp 0),124,"list.go:24",#[],none⟩,⟨some 21,.call ⟨.value (.func 172),#[.tmp 20],#[124]⟩,39,"list.go:24",#[⟨0,.data⟩],none⟩,⟨some 22,.binOp .neq 39 (.tmp 21) (.const (.int .i64 0)) 39,4,"list.go:24",#[⟨1,.data⟩],none⟩] false) (.cond (.tmp 22) (.seq (.region 6  #[⟨some 6,.assign (.const (.slice none 0 0)),K.ts,"list.go:25",#[],none⟩] false) .ret) .skip)) (.seq (.region 7  #[⟨some 23,.load K.ts (.tmp 7),K.ts,"list.go:27",#[],none⟩,⟨some 6,.assign (.tmp 23),K.ts,"list.go:27",#[⟨0,.data⟩,⟨0,.phase⟩],none⟩] false) .ret))))),norace := false,file := "tollhouse/codec/list.go",endLine := 28,tmpNames := tn}
def t_f1 (nm : String) (tn : Array String) (K : LK) : Func := {name := nm,origin := "",params :=  #[124],resultTypes :=  #[K.te],nfree := 2,ntmps := 10,results :=  #[.cell 4 K.te],body := some (.seq (.region 0  #[⟨some 4,.alloc K.te,0,"coder.go:65",#[],none⟩] false) (.seq (.region 1  #[⟨some 5,.alloc K.te,0,"coder.go:66",#[],none⟩] false) (.seq (.region 2  #[⟨some 6,.load K.fw (.tmp 1),K.fw,"coder.go:67",#[],none⟩,⟨some 7,.load 94 (.tmp 2),94,"coder.go:67",#[],none⟩,⟨some 8,.call ⟨.value (.tmp 6),#[.tmp 7,.tmp 5],#[94,K.pt]⟩,0,"coder.go:67",#[⟨0,.data⟩,⟨1,.data⟩],none⟩] false) (.seq (.region 3  #[⟨some 9,.load K.te (.tmp 5),K.te,"coder.go:68",#[],none⟩,⟨none,.store K.te (.tmp 4) (.tmp 9),0,"coder.go:68",#[⟨0,.data⟩,⟨0,.phase⟩],none⟩] false) .ret)))),norace := false,file := "tollhouse/wire/coder.go",endLine := 69,tmpNames := tn}
def t_fP (nm : String) (tn : Array String) (K : LK) : Func := {name := nm,origin := "tollhouse/codec.Put",targs :=  #[K.te],params :=  #[122,K.ts,K.fq],resultTypes :=  #[],nfree := 0,ntmps := 24,results :=  #[],body := some (.seq (.region 0  #[⟨some 8,.move (.tmp 0),122,"list.go:11",#[],none⟩,⟨some 9,.move (.tmp 1),K.ts,"list.go:11",#[],none⟩,⟨some 10,.call ⟨.builtin .len,#[.tmp 9],#[K.ts]⟩,3,"list.go:11",#[⟨1,.data⟩],none⟩,⟨some 11,.convert 3 22 (.tmp 10),22,"list.go:11",#[⟨2,.data⟩],none⟩,⟨some 12,.call ⟨.value (.func 174),#[.tmp 8,.tmp 11],#[122,22]⟩,0,"list.go:11",#[⟨0,.data⟩,⟨3,.data⟩],none⟩] false) (.seq (.region 1  #[⟨some 13,.move (.tmp 1),K.ts,"list.go:12",#[],none⟩,⟨some 14,.call ⟨.builtin .len,#[.tmp 13],#[K.ts]⟩,3,"list.go:12",#[⟨0,.data⟩],none⟩,⟨some 15,.move (.const (.int .i64 0)),3,"list.go:12",#[],none⟩] false) (.block 0 (.loop (.seq (.region 2  #[⟨some 16,.binOp .lss 3 (.tmp 15) (.tmp 14) 3,0,"list.go:12",#[],none⟩] false) (.seq (.cond (.tmp 16) .skip (.exit 0)) (.seq (.block 1 (.seq (.region 3  #[⟨some 17,.indexAddr K.ts (.tmp 13) (.tmp 15),0,"list.go:12",#[],none⟩,⟨some 18,.load K.te (.tmp 17),K.te,"list.go:12",#[⟨0,.data⟩],none⟩,⟨some 7,.alloc K.te,0,"list.go:12",#[],none⟩,⟨none,.store K.te (.tmp 7) (.tmp 18),0,"list.go:12",#[⟨2,.data⟩,⟨1,.data⟩,⟨0,.phase⟩,⟨1,.phase⟩,⟨2,.phase⟩],none⟩] false) (.region 4  #[⟨some 19,.move (.tmp 2),K.fq,"list.go:13",#[],none⟩,⟨some 20,.move (.tmp 0),122,"list.go:13",#[],none⟩,⟨some 21,.load K.te (.tmp 7),K.te,"list.go:13",#[],none⟩,⟨some 22,.call ⟨.value (.tmp 19),#[.tmp 20,.tmp 21],#[122,K.te]⟩,0,"list.go:13",#[⟨0,.data⟩,⟨1,.data⟩,⟨2,.data⟩],none⟩] false))) (.region 5  #[⟨some 23,.binOp .add 3 (.tmp 15) (.const (.int .i64 1)) 3,3,"list.go:12",#[],none⟩,⟨some 15,.move (.tmp 23),3,"list.go:12",#[⟨0,.data⟩],none⟩] false)))))))),norace := false,file := "tollhouse/codec/list.go",endLine := 15,tmpNames := tn}
def t_f2 (nm : String) (tn : Array String) (K : LK) : Func := {name := nm,origin := "",params :=  #[122,K.te],resultTypes :=  #[],nfree := 2,ntmps := 9,results :=  #[],body := some (.seq (.region 0  #[⟨some 5,.box K.te (.tmp 1),0,"coder.go:75",#[],none⟩] false) (.region 1  #[⟨some 6,.load K.fw (.tmp 2),K.fw,"coder.go:75",#[],none⟩,⟨some 7,.load 94 (.tmp 3),94,"coder.go:75",#[],none⟩,⟨some 8,.call ⟨.value (.tmp 6),#[.tmp 7,.tmp 5],#[94,K.pt]⟩,0,"coder.go:75",#[⟨0,.data⟩,⟨1,.data⟩],none⟩] false)),norace := false,file := "tollhouse/wire/coder.go",endLine := 75,tmpNames := tn}
def t_fI (nm : String) (tn : Array String) (K : LK) : Func := {name := nm,origin := "tollhouse/codec.Items",targs :=  #[K.te],params :=  #[124,3,K.fr],resultTypes :=  #[K.sq],nfree := 0,ntmps := 8,results :=  #[.tmp 6],body := some (.seq (.region 0  #[⟨some 3,.box 124 (.tmp 0),0,"list.go:31",#[],none⟩,⟨some 4,.box 3 (.tmp 1),0,"list.go:31",#[],none⟩,⟨some 5,.box K.fr (.tmp 2),0,"list.go:31",#[],none⟩,⟨some 6,.assign (.const .nilFunc),K.sq,"list.go:31",#[],none⟩] false) (.seq (.region 1  #[⟨some 7,.makeFunc (.func K.fJ) #[] #[.tmp 3,.tmp 4,.tmp 5],K.gy,"list.go:32",#[],none⟩,⟨some 6,.assign (.tmp 7),K.sq,"list.go:32",#[⟨0,.data⟩,⟨0,.phase⟩],none⟩] false) .ret)),norace := false,file := "tollhouse/codec/list.go",endLine := 42,tmpNames := tn}
def t_fJ (nm : String) (tn : Array String) (K : LK) : Func := {name := nm,origin := "",params :=  #[K.fy],resultTypes :=  #[],nfree := 3,ntmps := 34,results :=  #[],body := some (.seq (.region 0  #[⟨some 8,.load 124 (.tmp 1),124,"list.go:33",#[],none⟩,⟨some 9,.load 3 (.tmp 2),3,"list.go:33",#[],none⟩,⟨some 10,.call ⟨.value (.func 209),#[.tmp 8,.tmp 9],#[124,3]⟩,3,"list.go:33",#[⟨0,.data⟩,⟨1,.data⟩],none⟩,⟨some 5,.assign (.tmp 10),3,"list.go:33",#[⟨2,.data⟩,⟨2,.chain⟩,⟨0,.phase⟩,⟨1,.phase⟩,⟨2,.phase⟩],none⟩] false) (.seq (.region 1  #[⟨some 6,.assign (.const (.int .i64 0)),3,"list.go:35",#[],none⟩] false) (.block 0 (.loop (.seq (.seq (.region 2  #[⟨some 11,.move (.tmp 6),3,"list.go:35",#[],none⟩,⟨some 12,.move (.tmp 5),3,"list.go:35",#[],none⟩,⟨some 13,.binOp .lss 3 (.tmp 11) (.tmp 12) 3,4,"list.go:35",#[⟨0,.data⟩,⟨1,.data⟩],none⟩,⟨some 14,.move (.tmp 13),4,"list.go:35",#[⟨2,.data⟩],none⟩,⟨some 15,.load 124 (.tmp 1),124,"list.go:35",#[⟨3,.guard⟩],some (3,true)⟩,⟨some 16,.call ⟨.value (.func 172),#[.tmp 15],#[124]⟩,39,"list.go:35",#[⟨4,.data⟩,⟨3,.chain⟩,⟨3,.guard⟩],some (3,true)⟩,⟨some 17,.binOp .eql 39 (.tmp 16) (.const (.int .i64 0)) 39,4,"list.go:35",#[⟨5,.data⟩,⟨3,.guard⟩],some (3,true)⟩,⟨some 18,.pick (.tmp 14) (.tmp 17) (.const (.bool false)),4,"list.go:35",#[⟨3,.data⟩,⟨6,.data⟩],none⟩] false) (.cond (.tmp 18) .skip (.exit 0))) (.seq (.block 1 (.seq (.region 4  #[⟨some 21,.load K.fr (.tmp 3),K.fr,"list.go:36",#[],none⟩,⟨some 22,.load 124 (.tmp 1),124,"list.go:36",#[],none⟩,⟨some 23,.call ⟨.value (.tmp 21),#[.tmp 22],#[124]⟩,K.te,"list.go:36",#[⟨0,.data⟩,⟨1,.data⟩],none⟩,⟨some 7,.alloc K.te,0,"list.go:36",#[],none⟩,⟨none,.store K.te (.tmp 7) (.tmp 23),0,"list.go:36",#[⟨3,.data⟩,⟨2,.data⟩,⟨2,.chain⟩,⟨0,.phase⟩,⟨1,.phase⟩,⟨2,.phase⟩,⟨3,.phase⟩],none⟩] false) (.seq (.region 5  #[⟨some 24,.load 124 (.tmp 1),124,"list.go:37",#[],none⟩,⟨some 25,.call ⟨.value (.func 172),#[.tmp 24],#[124]⟩,39,"list.go:37",#[⟨0,.data⟩],none⟩,⟨some 26,.binOp .neq 39 (.tmp 25) (.const (.int .i64 0)) 39,4,"list.go:37",#[⟨1,.data⟩],none⟩,⟨some 27,.move (.tmp 26),4,"list.go:37",#[⟨2,.data⟩,⟨1,.chain⟩],none⟩,⟨some 28,.move (.tmp 0),K.fy,"list.go:37",#[⟨3,.guard⟩],some (3,false)⟩,⟨some 29,.move (.tmp 6),3,"list.go:37",#[⟨3,.guard⟩],some (3,false)⟩,⟨some 30,.load K.te (.tmp 7),K.te,"list.go:37",#[⟨3,.guard⟩],some (3,false)⟩,⟨some 31,.call ⟨.value (.tmp 28),#[.tmp 29,.tmp 30],#[3,K.te]⟩,4,"list.go:37",#[⟨4,.data⟩,⟨5,.data⟩,⟨6,.data⟩,⟨3,.chain⟩,⟨3,.guard⟩],some (3,false)⟩,⟨some 32,.unOp .not 4 (.tmp 31),4,"list.go:37",#[⟨7,.data⟩,⟨3,.guard⟩],some (3,false)⟩,⟨some 33,.pick (.tmp 27) (.const (.bool true)) (.tmp 32),4,"list.go:37",#[⟨3,.data⟩,⟨8,.data⟩],none⟩] false) (.cond (.tmp 33) .ret .skip)))) (.region 3  #[⟨some 19,.move (.tmp 6),3,"list.go:35",#[],none⟩,⟨some 20,.binOp .add 3 (.tmp 19) (.const (.int .i64 1)) 3,3,"list.go:35",#[⟨0,.data⟩],none⟩,⟨some 6,.assign (.tmp 20),3,"list.go:35",#[⟨1,.data⟩,⟨0,.phase⟩,⟨1,.phase⟩],none⟩] false))))))),norace := false,file := "tollhouse/codec/list.go",endLine := 41,tmpNames := tn}
structure LK.Ok (K:LK):Prop where
 c_f0:∃ nm tn,Tryz.prog.funcs[K.f0]? = some (t_f0 nm tn K)
 c_fL:∃ nm tn,Tryz.prog.funcs[K.fL]? = some (t_fL nm tn K)
 c_f1:∃ nm tn,Tryz.prog.funcs[K.f1]? = some (t_f1 nm tn K)
 c_fP:∃ nm tn,Tryz.prog.funcs[K.fP]? = some (t_fP nm tn K)
 c_f2:∃ nm tn,Tryz.prog.funcs[K.f2]? = some (t_f2 nm tn K)
 c_fI:∃ nm tn,Tryz.prog.funcs[K.fI]? = some (t_fI nm tn K)
 c_fJ:∃ nm tn,Tryz.prog.funcs[K.fJ]? = some (t_fJ nm tn K)
 ute:∃ d,Tryz.prog.underlying K.te=some d∧d.isRow=true
 uts:Tryz.prog.underlying K.ts=some (.slice K.te)
 ufw:∃ d,Tryz.prog.underlying K.fw=some d∧d.isRow=false
 ufr:∃ d,Tryz.prog.underlying K.fr=some d∧d.isRow=false
 inf:Tryz.prog.info? K.te=some K.inf
 zero:∃ v,K.inf.zero=some v∧v.cells=K.z.toArray
 size:K.inf.size=K.k
 byt:K.inf.bytes=K.by_
 zl:K.z.length=K.k
 pos:0<K.k
 top:K.k≤16777216
 btop:K.by_≤100000000
 its:(Tryz.prog.info? K.ts).map (·.size)=some 1
 zts:∃ i,Tryz.prog.info? K.ts=some i∧i.zero=some (.slice none 0 0)
 e_fe:∀ args w,(callFunc K.fe args).run Tryz.prog w=.ok (.enter K.fe args) w
 e_f2:∀ args w,(callFunc K.f2 args).run Tryz.prog w=.ok (.enter K.f2 args) w
 e_fP:∀ args w,(callFunc K.fP args).run Tryz.prog w=.ok (.enter K.fP args) w
 e_f1:∀ args w,(callFunc K.f1 args).run Tryz.prog w=.ok (.enter K.f1 args) w
 e_fL:∀ args w,(callFunc K.fL args).run Tryz.prog w=.ok (.enter K.fL args) w
 e_fI:∀ args w,(callFunc K.fI args).run Tryz.prog w=.ok (.enter K.fI args) w
 e_fJ:∀ args w,(callFunc K.fJ args).run Tryz.prog w=.ok (.enter K.fJ args) w
 ifw:(Tryz.prog.info? K.fw).map (·.size)=some 1
 ifr:(Tryz.prog.info? K.fr).map (·.size)=some 1
theorem run_len {P:Program} {F:Slots} {o:Oper} {x:Operand} {t e:TypeId} {A:Option Addr} {n cp:Nat} (ho:o.op=.call ⟨.builtin .len,#[x],#[t]⟩) (hx:evF F x=.slice A n cp) (ht:P.underlying t=some (.slice e)) (w:World):(execOp (evF F) o).run P w=.ok (.value (.int .i64 (n:Int))) w:=by
 unfold execOp
 simp only [ho]
 unfold resolve
 simp [hx,invoke,builtin,Builtin.len_,run_underlying ht,Sem.run_bind,Result.andThen,goInt]
theorem run_callV {P:Program} {F:Slots} {o:Oper} {x:Operand} {xs:Array Operand} {ats:Array TypeId} {f:FuncId} {fv args:Array Value} {w:World} (ho:o.op=.call ⟨.value x,xs,ats⟩) (hx:evF F x=.func (.func f) #[] fv) (ha:xs.map (evF F)++fv=args) (he:(callFunc f args).run P w=.ok (.enter f args) w):(execOp (evF F) o).run P w=.ok (.enter f args) w:=by
 subst ha
 unfold execOp
 simp only [ho]
 unfold resolve
 simp [hx,Deferred.ofValue,invoke,he]
theorem LK.Ok.so {K:LK} (hK:K.Ok) (w:World):(sizeOf K.te).run Tryz.prog w=.ok K.k w:=by
 have h:=hK.inf
 unfold sizeOf typeInfo
 simp [Sem.run_bind,h,Result.andThen,hK.size]
theorem LK.Ok.allocS {K:LK} (hK:K.Ok) {F:Slots} {o:Oper} (ho:o.op=.alloc K.ts) (w:World):(execOp (evF F) o).run Tryz.prog w=.ok (.value (ptr w.heap.size)) (w.alloc (.cells #[.slice none 0 0] K.ts)):=by
 obtain ⟨i,h1,h2⟩:=hK.zts
 unfold execOp
 simp only [ho]
 have hz:(zeroValue K.ts).run Tryz.prog w=.ok (.slice none 0 0) w:=by
  unfold zeroValue typeInfo
  simp [Sem.run_bind,h1,h2,Result.andThen]
 simp [Instr.alloc,hz,newVar,newRow,ptr,Result.andThen,Sem.run_bind,Value.cells]
theorem LK.Ok.ite {K:LK} (hK:K.Ok):(Tryz.prog.info? K.te).map (·.size)=some K.k:=by rw [hK.inf]; exact congrArg some hK.size
theorem run_box1 {P:Program} {F:Slots} {o:Oper} {t:TypeId} {x:Operand} {v:Value} (ho:o.op=.box t x) (hx:evF F x=v) (hc:v.cells=#[v]) (hi:(P.info? t).map (·.size)=some 1) (w:World):(execOp (evF F) o).run P w=.ok (.value (ptr w.heap.size)) (w.alloc (.cells #[v] t)):=by
 unfold execOp
 simp only [ho,hx,Sem.run_bind,Instr.box]
 simp [newVar,newRow,hc,ptr,Result.andThen]
theorem LK.Ok.alloc {K:LK} (hK:K.Ok) {F:Slots} {o:Oper} (ho:o.op=.alloc K.te) (w:World):(execOp (evF F) o).run Tryz.prog w=.ok (.value (ptr w.heap.size)) (w.alloc (.cells K.z.toArray K.te)):=by
 obtain ⟨v,h1,h2⟩:=hK.zero
 unfold execOp
 simp only [ho]
 have hz:(zeroValue K.te).run Tryz.prog w=.ok v w:=by
  unfold zeroValue typeInfo
  simp [Sem.run_bind,hK.inf,h1,Result.andThen]
 simp [Instr.alloc,hz,h2,newVar,newRow,ptr,Result.andThen,Sem.run_bind]
section
variable {α:Type} {rep:Rdr→List Value→α→Prop} {ok:α→Bool} {enc:α→Byt} {wt:α→Nat}
theorem el_wG {K:LK} (hK:K.Ok) (hm:Mono rep) (hp:PutO K.fe K.k rep ok enc wt) (w0:Base) (gc gw g4 g7:Nat) (bad:Bool) (s:Slc) (R:Blocks) (b:Byt) (u:Value) (cs:List Value) (x:α) (h4:(g4,94,#[ptr gc])∈R) (h7:(g7,K.fw,#[.func (.func K.fe) #[] #[]])∈R) (hx:rep (rdC w0 R) cs x) (hl:cs.length=K.k) (hb:BS s b) (hlen:b.length+wt x≤70368744170000) (w:World) (hw:St w0 w (CWS gc gw bad s R)) :
  Calls Tryz.prog K.f2 #[u,.agg cs.toArray,ptr g7,ptr g4] w (Turns w0 (WrC gc gw R (ok x) (enc x) (wt x) bad b)):=by
 obtain ⟨nm,tn,hf⟩:=hK.c_f2
 obtain ⟨dE,hE,hE2⟩:=hK.ute
 obtain ⟨dW,hW,hW2⟩:=hK.ufw
 obtain ⟨dR,hR_,hR2_⟩:=hK.ufr
 refine Sy.enterT (args:=[u,.agg cs.toArray,ptr g7,ptr g4]) hw hf rfl kL ?_
 refine sC ?_
 refine sM K.te cs.toArray (λg5=>?_) kR (λw=>run_boxR rfl rfl hK.ite hl w)
 refine Sy.permS (List.Perm.of_eq eqCW) ?_
 refine Sy.nil<|Sy.then_<|Sy.region ?_
 refine sS (.func (.func K.fe) #[] #[]) (cellC (R:=R++[(g5,K.te,cs.toArray)]) (mem1 (inA h7)) inCW rfl hW (hd:=hW2))<|sS (ptr gc) (cellC (R:=R++[(g5,K.te,cs.toArray)]) (mem1 (inA h4)) inCW rfl Tryz.underlying94) ?_
 refine Sy.callT (he:=by intro w; exact run_callV rfl rfl (by kernel_rfl) (hK.e_fe _ w)) (λw hw=>hp w0.inn gc gw g5 0 bad s (R++[(g5,K.te,cs.toArray)]) b cs x (hm (rdC_le (λ_ h=>inA h)) hx) hl (ownX lastR) hb hlen w hw) (λv M hM=>?_)
 obtain ⟨s1,bad1,b1,h1,h2,rfl⟩:=hM
 refine Sy.nil ?_
 exact Sy.retT0 rfl (CWS gc gw bad1 s1 R) (λ_ h=>dropR h) (λ_=>⟨s1,bad1,b1,h1,h2,rfl⟩)
end
section
variable {α:Type} {rep:Rdr→List Value→α→Prop} {ok:α→Bool} {enc:α→Byt} {wt:α→Nat}
theorem put_wG {K:LK} (hK:K.Ok) (hm:Mono rep) (hp:PutO K.fe K.k rep ok enc wt) (w0:Base) (gc gw g4 g7:Nat) (bad:Bool) (s:Slc) (R:Blocks) (b:Byt) (v:Value) (l:List α) (h4:(g4,94,#[ptr gc])∈R) (h7:(g7,K.fw,#[.func (.func K.fe) #[] #[]])∈R) (hv:LstR (rdC w0 R) K.k rep v l) (hb:BS s b) (hlen:b.length+(9+(l.map wt).sum)≤70368744170000) (w:World) (hw:St w0 w (CWS gc gw bad s R)) :
  Calls Tryz.prog K.fP #[ptr gw,v,.func (.func K.f2) #[] #[ptr g7,ptr g4]] w (Turns w0 (WrC gc gw R (l.all ok) (varB l.length++l.flatMap enc) (9+(l.map wt).sum) bad b)):=by
 obtain ⟨A,n,cp,rfl,h2,h3,h4',h5⟩:=hv
 have hmx:n<9223372036854775808:=by simp only [maxLen] at h4'; omega
 obtain ⟨nm,tn,hf⟩:=hK.c_fP
 obtain ⟨dE,hE,hE2⟩:=hK.ute
 obtain ⟨dW,hW,hW2⟩:=hK.ufw
 obtain ⟨dR,hR_,hR2_⟩:=hK.ufr
 refine Sy.enterT (args:=[ptr gw,.slice A n cp,.func (.func K.f2) #[] #[ptr g7,ptr g4]]) hw hf rfl kL ?_
 refine sC ?_
 refine sp rfl<|sp rfl<|sS (.int .i64 (n:Int)) (Quiet.pure (λw=>run_len rfl rfl hK.uts w))<|sS (.int .u64 (n:Int)) (Quiet.pure (λw=>conv_i6 w _ _ _ n (by omega) rfl rfl)) ?_
 refine Sy.callT (λw hw=>var_any w0.inn gw s ((gc,126,#[ptr gw,.pointer none,.bool bad])::R) b n (by omega) hb (by omega) w (hw.perm permCW)) (λu M hM=>?_)
 obtain ⟨s1,hs1,rfl⟩:=hM
 have hn9:=varB_len n
 refine Sy.permS permCW.symm ?_
 refine Sy.nil<|sB ?_
 refine sp rfl<|sS (.int .i64 (n:Int)) (Quiet.pure (λw=>run_len rfl rfl hK.uts w))<|sP (.int .i64 0) ?_
 refine sG<|Sy.block ?_
 have hw0:Wrote true (varB n) 9 bad b bad (b++varB n):=Wrote.raw _ _ _ hn9
 have hsum:∀ i,((l.take i).map wt).sum≤(l.map wt).sum:=λi=>by
  have e:=congrArg (λz=>(z.map wt).sum) (List.take_append_drop i l)
  simp only [List.map_append,List.sum_append] at e
  omega
 refine Sy.loopT (Y:=Slc×Bool×Byt) n (λi y=>[(0,ptr gw),(2,.func (.func K.f2) #[] #[ptr g7,ptr g4]),(13,.slice A n cp),(14,.int .i64 (n:Int)),(15,.int .i64 (i:Int))]) (λi y=>CWS gc gw y.2.1 y.1 R) (λi y=>Wrote ((l.take i).all ok) (varB n++(l.take i).flatMap enc) (9+((l.take i).map wt).sum) bad b y.2.1 y.2.2∧BS y.1 y.2.2) (s1,bad,b++varB n) ⟨by
  have e:Wrote ((l.take 0).all ok) (varB n++(l.take 0).flatMap enc) (9+((l.take 0).map wt).sum) bad b bad (b++varB n):=by
   rw [List.take_zero]
   simpa using hw0
  exact e,hs1⟩ (all_cons kR (all_cons kR (all_cons kR (all_cons kR (all_cons kR all_nil))))) (λ_ h=>h) (λi y hi hy=>?_)
 obtain ⟨sy,bady,by_⟩:=y
 obtain ⟨hy,hsy⟩:=hy
 dsimp only at hy hsy ⊢
 refine sC ?_
 obtain ⟨b2,hb2⟩:∃ z:Bool,z=decide (i<n):=⟨_,rfl⟩
 refine sS (.bool b2) (Quiet.pure (exec_int .lss _ _ _ .i64 _ _ _ rfl rfl rfl (int_lss _ _ _ _ _ (by rw [hb2]; exact decide_eq_decide.2 (by omega))))) ?_
 refine sG<|Sy.seq ?_
 cases b2
 case' false =>
  have l2:¬ i<n:=of_decide_eq_false hb2.symm
  obtain rfl:i=n:=by omega
  rw [List.take_of_length_le (by omega)] at hy
  refine sU<|Sy.exit<|Sy.then_exit<|Sy.then_exit<|Sy.in_exit ?_
  rw [h2]
  exact Sy.retT0 rfl (CWS gc gw bady sy R) (λ_ h=>h) (λ_=>⟨sy,bady,by_,hy,hsy,rfl⟩)
 have l2:i<n:=of_decide_eq_true hb2.symm
 obtain ⟨x,hx⟩:∃ x,l[i]? = some x:=⟨_,List.getElem?_eq_getElem (by omega)⟩
 obtain ⟨g,o,rfl,hq⟩:=h5 (by intro e; rw [e] at hx; cases hx)
 obtain ⟨cs,c1,c2,c3,c4⟩:=hq i x hx
 have htk:l.take (i+1)=l.take i++[x]:=by rw [List.take_add_one,hx]; rfl
 have hsi:=hsum (i+1)
 rw [htk] at hsi
 simp only [List.map_append,List.sum_append,List.map_cons,List.map_nil,List.sum_cons,List.sum_nil] at hsi
 refine sT<|Sy.skip<|Sy.then_<|Sy.seq<|Sy.block<|sC ?_
 refine sS (.pointer (some ⟨g,o+i*K.k,none⟩)) (Quiet.pure (exec_atO K.ts _ _ _ (some ⟨g,o,none⟩) g o n cp i K.k .i64 rfl rfl rfl rfl hK.uts hK.so l2))<|sS (.agg cs.toArray) (rowC (R:=R) c4 inCW c1 rfl hE (hd:=hE2) (hi:=hK.ite)) ?_
 refine sM K.te K.z.toArray (hg:=kR) (hm:=λw=>hK.alloc rfl w) (λg9=>?_)
 refine Sy.permS (List.Perm.of_eq eqCW) ?_
 refine Sy.permS (List.perm_append_comm (l₁:=CWS gc gw bady sy R) (l₂:=[(g9,K.te,K.z.toArray)]) |> λh=>(List.Perm.of_eq eqCW.symm).trans h) ?_
 refine sw 0 rfl cs.toArray (Writes.row K.te cs K.k _ _ rfl kR kR hK.ite c1 (by rw [List.size_toArray]; exact hK.zl) c2) ?_
 refine Sy.permS ((List.perm_append_comm (l₁:=[(g9,K.te,cs.toArray)]) (l₂:=CWS gc gw bady sy R)).trans (List.Perm.of_eq eqCW)) ?_
 refine Sy.nil<|Sy.then_<|Sy.region ?_
 refine sp rfl<|sp rfl<|sS (.agg cs.toArray) (rowC (R:=R++[(g9,K.te,cs.toArray)]) (memX lastR) inCW c1 rfl hE (hd:=hE2) (hi:=hK.ite)) ?_
 refine Sy.callT (he:=by intro w; exact run_callV rfl rfl (by kernel_rfl) (hK.e_f2 _ w)) (λw hw=>el_wG (rep:=rep) (ok:=ok) (enc:=enc) (wt:=wt) hK hm hp w0.inn gc gw g4 g7 bady sy (R++[(g9,K.te,cs.toArray)]) by_ (ptr gw) cs x (inA h4) (inA h7) (hm (rdC_le (λ_ h=>inA h)) c3) c1 hsy (by have hyl:=hy.len; omega) w hw) (λv M hM=>?_)
 obtain ⟨s3,bad3,b3,q1,q2,rfl⟩:=hM
 refine Sy.nil<|Sy.in_<|Sy.then_<|Sy.region ?_
 refine sS (.int .i64 ((i+1:Nat):Int)) (Quiet.pure (exec_int .add _ _ _ .i64 _ _ _ rfl rfl rfl (int_add _ _ _ _ _ ((wrap_i64 (by omega) (by omega)).trans (by omega)))))<|sp rfl ?_
 refine Sy.nil ?_
 have hW:=hy.then_ q1
 have hW':Wrote ((l.take (i+1)).all ok) (varB n++(l.take (i+1)).flatMap enc) (9+((l.take (i+1)).map wt).sum) bad b bad3 b3:=by
  rw [htk]
  simp only [List.all_append,List.flatMap_append,List.map_append,List.sum_append,List.all_cons,List.all_nil,List.flatMap_cons,List.flatMap_nil,List.map_cons,List.map_nil,List.sum_cons,List.sum_nil,Bool.and_true,List.append_nil,Nat.add_zero, ← List.append_assoc, ← Nat.add_assoc]
  simpa only [List.append_assoc,Nat.add_assoc] using hW
 exact Sy.againT (s3,bad3,b3) l2 ⟨hW',q2⟩ (all_cons kR (all_cons kR (all_cons kR (all_cons kR (all_cons kR all_nil))))) (λw h=>dropR h)
theorem list_wG {K:LK} (hK:K.Ok) (hm:Mono rep) (hp:PutO K.fe K.k rep ok enc wt) (w0:Base) (gc gw gx f most:Nat) (hmo:most<1000000) (bad:Bool) (s:Slc) (R:Blocks) (b:Byt) (v:Value) (l:List α) (hv:LstR (rdC w0 R) K.k rep v l) (hc:rdC w0 R gx f v) (hb:BS s b) (hlen:b.length+(9+(l.map wt).sum)≤70368744170000) (w:World) (hw:St w0 w (CWS gc gw bad s R)) :
  Calls Tryz.prog K.f0 #[ptr gc,.pointer (some ⟨gx,f,none⟩),.int .i64 (most:Int),.func (.func K.fe) #[] #[]] w (Turns w0 (WrC gc gw R (decide (l.length≤most) && l.all ok) (varB l.length++l.flatMap enc) (9+(l.map wt).sum) bad b)):=by
 have hv0:=hv
 obtain ⟨A,n,cp,rfl,h2,h3,h4',h5⟩:=hv
 obtain ⟨nm,tn,hf⟩:=hK.c_f0
 obtain ⟨dE,hE,hE2⟩:=hK.ute
 obtain ⟨dW,hW,hW2⟩:=hK.ufw
 obtain ⟨dR,hR_,hR2_⟩:=hK.ufr
 refine Sy.enterT (args:=[ptr gc,.pointer (some ⟨gx,f,none⟩),.int .i64 (most:Int),.func (.func K.fe) #[] #[]]) hw hf rfl kL ?_
 refine sC ?_
 refine sM 94 #[ptr gc] (λg4=>?_)
 refine Sy.permS (List.Perm.of_eq eqCW) ?_
 refine sM K.fw #[.func (.func K.fe) #[] #[]] (hg:=kR) (hm:=λw=>run_box1 (v:=.func (.func K.fe) #[] #[]) rfl rfl rfl hK.ifw w) (λg7=>?_)
 refine Sy.permS (List.Perm.of_eq eqCW) ?_
 obtain ⟨R1,hR1⟩:∃ R1,R1=R++[(g4,94,#[ptr gc])]++[(g7,K.fw,#[.func (.func K.fe) #[] #[]])]:=⟨_,rfl⟩
 rw [← hR1]
 have m4:(g4,94,#[ptr gc])∈R1:=by rw [hR1]; exact inA lastR
 have m7:(g7,K.fw,#[.func (.func K.fe) #[] #[]])∈R1:=by rw [hR1]; exact lastR
 have mR:∀ x∈R,x∈R1:=λx hx=>by rw [hR1]; exact inA (inA hx)
 have hv1:LstR (rdC w0 R1) K.k rep (.slice A n cp) l:=LstR.le (rep:=rep) hm (rdC_le mR) hv0
 have hc1:rdC w0 R1 gx f (.slice A n cp):=rdC_le mR _ _ _ hc
 have back:∀ {w:World} {bad':Bool} {s':Slc},St w0 w (CWS gc gw bad' s' R1)→St w0 w (CWS gc gw bad' s' R):=λh=>by
  rw [hR1,List.append_assoc] at h
  exact dropR h
 refine sG<|Sy.seq<|sC ?_
 refine sS (ptr gc) (cellC (R:=R1) (mem1 m4) inCW rfl Tryz.underlying94)<|sS (.bool false) (qg (λw hw=>reads_w w0.inn gc _ _ (List.mem_cons_self ..) w hw)) ?_
 refine sG<|sU<|Sy.skip ?_
 obtain ⟨b1,hb1⟩:∃ z:Bool,z=decide (n≤most):=⟨_,rfl⟩
 refine sR (λj=>j == 7) ?_
 refine sD 0 rfl (ptr gc) (cellC (R:=R1) (mem1 m4) inCW rfl Tryz.underlying94)<|sa 1 rfl rfl<|sa 2 rfl rfl<|se 3 [4,6,7] rfl (.slice A n cp) (cellC (R:=R1) hc1 inCW rfl hK.uts)<|sv 4 rfl (.int .i64 (n:Int)) (λw=>run_len rfl rfl hK.uts w)<|sa 5 rfl rfl ?_
 refine sv 6 rfl (.bool b1) (exec_int .leq _ _ _ .i64 _ _ _ rfl rfl rfl (int_leq _ _ _ _ _ (by rw [hb1]; exact decide_eq_decide.2 (by omega)))) ?_
 refine Sy.soleD 7 rfl (λQ2 hq2=>?_)
 refine Sy.callT (λw hw=>must_w w0.inn gc gw bad b1 s R1 w hw) (λu M hM=>?_)
 subst hM
 refine hq2 _ _ ?_
 refine sE ?_
 obtain ⟨bad1,hbad1⟩:∃ x,x=(bad || !b1):=⟨_,rfl⟩
 rw [← hbad1]
 refine sB ?_
 refine sS (ptr gc) (cellC (R:=R1) (mem1 m4) inCW rfl Tryz.underlying94)<|sp rfl<|sP (.pointer (some ⟨gc,2,none⟩))<|sS (.bool bad1) (qc 0 2 rfl rfl Tryz.underlying4)<|sP (.bool (!bad1)) ?_
 refine sG ?_
 cases bad1
 ·have hb1t:bad=false∧b1=true:=by cases bad <;> cases b1 <;> first | exact ⟨rfl,rfl⟩ | cases hbad1
  obtain ⟨rfl,rfl⟩:=hb1t
  have e1:decide (l.length≤most)=true:=by rw [h2, ← hb1]
  rw [e1,Bool.true_and]
  refine sT ?_
  refine Sy.regionD (λj=>j == 8) kR ?_
  refine se 0 [1,2,3,8] rfl (ptr gc) (cellC (R:=R1) (mem1 m4) inCW rfl Tryz.underlying94)<|sa 1 rfl rfl<|sb 2 rfl (.pointer (some ⟨gc,0,none⟩))<|sD 3 rfl (ptr gw) (qc 0 0 rfl rfl Tryz.underlying122)<|sa 4 rfl rfl<|sa 5 rfl rfl<|sD 6 rfl (.slice A n cp) (cellC (R:=R1) hc1 inCW rfl hK.uts)<|sb 7 rfl (.func (.func K.f2) #[] #[ptr g7,ptr g4]) ?_
  refine Sy.soleD 8 rfl (λQ2 hq2=>?_)
  refine Sy.callT (he:=by intro w; exact run_callV rfl rfl (by kernel_rfl) (hK.e_fP _ w)) (λw hw=>put_wG (rep:=rep) hK hm hp w0.inn gc gw g4 g7 false s R1 b (.slice A n cp) l m4 m7 hv1 hb hlen w hw) (λu M hM=>?_)
  obtain ⟨s1,bad2,b2,q1,q2,rfl⟩:=hM
  refine hq2 _ _ ?_
  refine sE ?_
  exact Sy.retT0 rfl (CWS gc gw bad2 s1 R) (λ_ h=>back h) (λ_=>⟨s1,bad2,b2,q1,q2,rfl⟩)
 ·refine sU<|Sy.skip ?_
  have e1:true=(bad || !(decide (l.length≤most) && l.all ok)):=by
   rw [h2, ← hb1]
   cases bad
   ·cases b1
    ·rfl
    ·cases hbad1
   ·rfl
  exact Sy.retT0 rfl (CWS gc gw true s R) (λ_ h=>back h) (λ_=>⟨s,true,b,⟨e1,λh=>(by cases h),by omega⟩,hb,rfl⟩)
end
section
variable {α:Type} {rep:Rdr→List Value→α→Prop} {p:Ps α}
theorem el_rG {K:LK} (hK:K.Ok) (hm:Mono rep) (hp:GetC K.fe K.k K.z rep p) (w0:Base) (gc gr g4 g7:Nat) (sl:Value) (s:RS) (R S:Blocks) (hS:∀ b∈S,b∈R) (h4:(g4,94,#[ptr gc])∈R) (h7:(g7,K.fw,#[.func (.func K.fe) #[] #[]])∈R) (he:s.e≤200) (hl:s.rest.length≤70368744177664) (hv:BytR (rdC w0 S) sl s.rest) (u:Value) (w:World) (hw:St w0 w (CRN gc gr sl s.e R)) :
  Calls Tryz.prog K.f1 #[u,ptr g7,ptr g4] w (Turns w0 (RdV K.k rep p w0 gc gr s R S)):=by
 obtain ⟨nm,tn,hf⟩:=hK.c_f1
 obtain ⟨dE,hE,hE2⟩:=hK.ute
 obtain ⟨dW,hW,hW2⟩:=hK.ufw
 obtain ⟨dR,hR_,hR2_⟩:=hK.ufr
 refine Sy.enterT (args:=[u,ptr g7,ptr g4]) hw hf rfl kL ?_
 refine sC ?_
 refine sM K.te K.z.toArray (hg:=kR) (hm:=λw=>hK.alloc rfl w) (λga=>?_)
 refine sA ?_
 refine sM K.te K.z.toArray (hg:=kR) (hm:=λw=>hK.alloc rfl w) (λgb=>?_)
 refine Sy.permS (M:=CRS gc gr gb K.te ([]++(K.z++[])) sl s.e ((ga,K.te,K.z.toArray)::R)) (by rw [show ([]:List Value)++(K.z++[])=K.z from List.append_nil _]; exact permEl) ?_
 refine sA ?_
 refine sS (.func (.func K.fe) #[] #[]) (cellC (R:=(ga,K.te,K.z.toArray)::R) (mem1 (List.mem_cons_of_mem _ h7)) inCR rfl hW (hd:=hW2))<|sS (ptr gc) (cellC (R:=(ga,K.te,K.z.toArray)::R) (mem1 (List.mem_cons_of_mem _ h4)) inCR rfl Tryz.underlying94) ?_
 refine Sy.callT (he:=by intro w; exact run_callV rfl rfl (by kernel_rfl) (hK.e_fe _ w)) (λw hw=>hp w0.inn gc gr gb 0 K.te [] [] sl s ((ga,K.te,K.z.toArray)::R) S (λb h=>List.mem_cons_of_mem _ (hS b h)) rfl he hl hv w hw) (λv M hM=>?_)
 obtain ⟨x,s',sl',cs,N,q1,q2,q3,q4,q5,q6,q7,rfl⟩:=hM
 rw [List.append_nil]
 refine sA ?_
 refine sS (.agg cs.toArray) (Quiet.mid 1 gb 0 K.k K.te K.te cs cs _ _ rfl kR rfl hE hE2 hK.ite (by rw [List.drop_zero,List.take_of_length_le (by omega)]) (by omega))<|sw 3 rfl cs.toArray (Writes.row K.te cs K.k _ _ rfl kR kR hK.ite q2 (by rw [List.size_toArray]; exact hK.zl) q3) ?_
 refine sG<|Sy.ret ?_
 exact Sy.retT1 (CRN gc gr sl' s'.e (R++N)) rfl (.inl (Sy.Res.cell (ty':=K.te) ga 3 cs.toArray _ (by kernel_rfl) rfl hE hE2 (by rw [List.size_toArray,q2]; exact hK.ite) rfl)) (λw h=>h.less (((List.Sublist.refl _).cons _ |>.cons_cons _).cons _ |>.cons_cons _)) ⟨x,s',sl',cs,N,q1,q2,q3,q4,rfl,q5,q6,q7,rfl⟩
theorem items_rG {K:LK} (hK:K.Ok) (w:World) (gr most g4 g7:Nat):Calls Tryz.prog K.fI #[ptr gr,.int .i64 (most:Int),.func (.func K.f1) #[] #[ptr g7,ptr g4]] w (GetsN w (λv M=>∃ a b c,v=.func (.func K.fJ) #[] #[ptr a,ptr b,ptr c]∧M=[(a,124,#[ptr gr]),(b,3,#[.int .i64 (most:Int)]),(c,K.fr,#[.func (.func K.f1) #[] #[ptr g7,ptr g4]])])):=by
 obtain ⟨nm,tn,hf⟩:=hK.c_fI
 obtain ⟨dE,hE,hE2⟩:=hK.ute
 obtain ⟨dW,hW,hW2⟩:=hK.ufw
 obtain ⟨dR,hR_,hR2_⟩:=hK.ufr
 refine Sy.enter (args:=[ptr gr,.int .i64 (most:Int),.func (.func K.f1) #[] #[ptr g7,ptr g4]]) hf rfl kL ?_
 refine sC ?_
 refine sM 124 #[ptr gr] (λa=>?_)
 refine sM 3 #[.int .i64 (most:Int)] (λb=>?_)
 refine sM K.fr #[.func (.func K.f1) #[] #[ptr g7,ptr g4]] (hg:=kR) (hm:=λw=>run_box1 (v:=.func (.func K.f1) #[] #[ptr g7,ptr g4]) rfl rfl rfl hK.ifr w) (λc=>?_)
 refine sP .nilFunc ?_
 refine sA ?_
 refine sP (.func (.func K.fJ) #[] #[ptr a,ptr b,ptr c])<|sp rfl ?_
 refine sG<|Sy.ret ?_
 exact Sy.retGM _ rfl (.inl (show _=_ by kernel_rfl)) (λ_ h=>h) ⟨a,b,c,rfl,rfl⟩
def HYLG (K:LK) (p:Ps α) (rep:Rdr→List Value→α→Prop) (w0:Base) (S:Blocks) (m:Nat) (s1:RS) (v:Nat×List Value) (y:YL α):Prop:=∃ x,y.x=some x∧y.l.length=v.1∧RowsOk K.te K.k rep y.r y.N y.l∧rep (rdB y.N) v.2 x∧v.2.length=K.k∧(∀ u∈v.2,u.oneCell'=true)∧v.1<1000000
def HRLG (K:LK) (rep:Rdr→List Value→α→Prop) (y y':YL α):Prop:=∃ x r',y.x=some x∧RowsOk K.te K.k rep r' y.N (y.l++[x])∧y'={ y with l:=y.l++[x],r:=r',x:=none }
theorem iter_rG {K:LK} (hK:K.Ok) (hm:Mono rep) (hp:GetC K.fe K.k K.z rep p) (w0:Base) (fz:World) (gc gr gl g4 g7 a b c most:Nat) (hmost:most<1000000) (R S:Blocks) (s0:RS) (sl0:Value) (hS:∀ x∈S,x∈R) (h4:(g4,94,#[ptr gc])∈R) (h7:(g7,K.fw,#[.func (.func K.fe) #[] #[]])∈R) (ha:(a,124,#[ptr gr])∈R) (hb:(b,3,#[.int .i64 (most:Int)])∈R) (hc:(c,K.fr,#[.func (.func K.f1) #[] #[ptr g7,ptr g4]])∈R) (he:s0.e≤200) (hl:s0.rest.length≤70368744177664) (hv:BytR (rdC w0 S) sl0 s0.rest) (lp:Nat) (w:World) (hw:St (ib w0.world fz) w (LBL gc gr gl K.ts nilS s0.e sl0 R []))
  (hY:∀ (v:Nat×List Value) (y:YL α) (W:World),(HYLG K p rep w0 S 0 s0 v y)→St (ib w0.world fz) W (LBL gc gr gl K.ts y.r y.s.e y.sl R y.N)→YieldAt Fence.wide 7 Tryz.prog lp #[.int .i64 (v.1:Int),.agg v.2.toArray] W (RoundT w0.world fz (HRLG K rep y) (λy=>LBL gc gr gl K.ts y.r y.s.e y.sl R y.N))) :
  CallsIn Fence.wide 8 Tryz.prog K.fJ #[.func (.yield lp) #[] #[],ptr a,ptr b,ptr c] w (DoneT w0.world fz (λy:YL α=>∃ m s1,After (varP most) s0 m s1∧s1.rest.length≤s0.rest.length∧y.l.length≤most∧InvL K.te K.k rep p w0 S m s1 y.l.length y∧(y.s.e=0→y.l.length=m)) (λy=>LBL gc gr gl K.ts y.r y.s.e y.sl R y.N)):=by
 obtain ⟨nm,tn,hf⟩:=hK.c_fJ
 obtain ⟨dE,hE,hE2⟩:=hK.ute
 obtain ⟨dW,hW,hW2⟩:=hK.ufw
 obtain ⟨dR,hR_,hR2_⟩:=hK.ufr
 refine Sy.enterI (args:=[.func (.yield lp) #[] #[],ptr a,ptr b,ptr c]) hw hf rfl kL ?_
 refine sC ?_
 refine sS (ptr gr) (cellC (R:=R) (mem1 ha) lbl_in rfl Tryz.underlying124)<|sS (.int .i64 (most:Int)) (cellC (R:=R) (mem1 hb) lbl_in rfl Tryz.underlying3) ?_
 refine Sy.callT (λw hw=>count_any (ib w0.world fz) gr sl0 s0 ((gc,126,#[.pointer none,ptr gr,.bool false])::(gl,K.ts,#[.slice none 0 0])::(R++[])) S (λx h=>List.mem_cons_of_mem _ (List.mem_cons_of_mem _ (List.mem_append_left _ (hS x h)))) most hmost he hv w (hw.perm swap12)) (λu M hM=>?_)
 obtain ⟨m,s1,sl1,hA1,⟨rfl,hm1⟩,hs1e,hs1r,hs1b,rfl⟩:=hM
 refine Sy.permS (M:=LBL gc gr gl K.ts nilS s1.e sl1 R []) swap12.symm ?_
 refine sp rfl ?_
 refine sA ?_
 refine sP (.int .i64 0) ?_
 refine sG<|Sy.block ?_
 refine Sy.loopT (Y:=YL α) m (λi y=>[(0,.func (.yield lp) #[] #[]),(1,ptr a),(2,ptr b),(3,ptr c),(5,.int .i64 (m:Int)),(6,.int .i64 (i:Int))]) (λi y=>LBL gc gr gl K.ts y.r y.s.e y.sl R y.N) (λi y=>InvL K.te K.k rep p w0 S m s1 i y) ⟨[],nilS,s1,sl1,[],none⟩ ⟨rfl,RowsOk.nil,λh=>⟨h,rfl⟩,λh=>.inl h,hs1e,Nat.le_refl _,hs1b⟩ (all_cons kR (all_cons kR (all_cons kR (all_cons kR (all_cons kR (all_cons kR all_nil)))))) (λ_ h=>h) (λi y hi hy=>?_)
 obtain ⟨l,r,s,sl,N,xo⟩:=y
 have hylen:l.length=i:=hy.len
 refine Sy.seq<|sC ?_
 obtain ⟨b1,hb1⟩:∃ z:Bool,z=decide (i<m):=⟨_,rfl⟩
 refine sp rfl<|sp rfl<|sS (.bool b1) (Quiet.pure (exec_int .lss _ _ _ .i64 _ _ _ rfl rfl rfl (int_lss _ _ _ _ _ (by rw [hb1]; exact decide_eq_decide.2 (by omega)))))<|sp rfl ?_
 cases b1
 case' false =>
  have l1:¬ i<m:=of_decide_eq_false hb1.symm
  obtain rfl:i=m:=by omega
  refine sN<|sN<|sN<|sP (.bool false) ?_
  refine sG<|sU<|Sy.exit<|Sy.then_exit<|Sy.then_exit<|Sy.in_exit ?_
  exact Sy.retI rfl (λv w h=>⟨⟨_,rfl⟩,⟨l,r,s,sl,N,xo⟩,⟨i,s1,hA1,hs1r,by show l.length≤most; omega,by rw [show (⟨l,r,s,sl,N,xo⟩:YL α).l.length=i from hylen]; exact hy,λ_=>hylen⟩,h⟩) (.inr rfl)
 have l1:i<m:=of_decide_eq_true hb1.symm
 obtain ⟨b2,hb2⟩:∃ z:Bool,z=decide (s.e=0):=⟨_,rfl⟩
 have hse:s.e≤200:=hy.e
 refine sS (ptr gr) (cellC (R:=R) (mem1 ha) lbl_in rfl Tryz.underlying124)<|sS (.int .i64 (s.e:Int)) (qg (λw hw=>err_any (ib w0.world fz) gr sl s.e [] (List.mem_cons_of_mem _ (List.mem_cons_self ..)) w hw))<|sS (.bool b2) (Quiet.pure (exec_int .eql _ _ _ .i64 _ _ _ rfl rfl rfl (int_eql _ _ _ _ _ (by rw [hb2]; exact decide_eq_decide.2 (by omega)))))<|sP (.bool b2) ?_
 refine sG ?_
 cases b2
 case' false =>
  have l2:s.e≠0:=of_decide_eq_false hb2.symm
  refine sU<|Sy.exit<|Sy.then_exit<|Sy.then_exit<|Sy.in_exit ?_
  exact Sy.retI rfl (λv w h=>⟨⟨_,rfl⟩,⟨l,r,s,sl,N,xo⟩,⟨m,s1,hA1,hs1r,by show l.length≤most; omega,by rw [show (⟨l,r,s,sl,N,xo⟩:YL α).l.length=i from hylen]; exact hy,λh=>(l2 h).elim⟩,h⟩) (.inr rfl)
 have l2:s.e=0:=of_decide_eq_true hb2.symm
 obtain ⟨hs10,hrep⟩:=hy.yes l2
 refine sT<|Sy.skip<|Sy.then_<|Sy.seq<|Sy.block<|sC ?_
 refine sS (.func (.func K.f1) #[] #[ptr g7,ptr g4]) (cellC (R:=R) (mem1 hc) lbl_in rfl hR_ (hd:=hR2_))<|sS (ptr gr) (cellC (R:=R) (mem1 ha) lbl_in rfl Tryz.underlying124) ?_
 refine Sy.callT (he:=by intro w; exact run_callV rfl rfl (by kernel_rfl) (hK.e_f1 _ w)) (λw hw=>el_rG (rep:=rep) (p:=p) hK hm hp (ib w0.world fz) gc gr g4 g7 sl s ((gl,K.ts,#[r.v])::(r.bl++(R++N))) S (λx h=>List.mem_cons_of_mem _ (List.mem_append_right _ (List.mem_append_left _ (hS x h)))) (List.mem_cons_of_mem _ (List.mem_append_right _ (List.mem_append_left _ h4))) (List.mem_cons_of_mem _ (List.mem_append_right _ (List.mem_append_left _ h7))) hse (Nat.le_trans (Nat.le_trans hy.rest hs1r) hl) hy.byt (ptr gr) w hw) (λu M hM=>?_)
 obtain ⟨x,s',sl',cs,N1,q1,q2,q3,q4,rfl,q5,q6,q7,rfl⟩:=hM
 obtain ⟨st1,st2⟩:=rep_step hrep l2 q1
 refine sM K.te K.z.toArray (hg:=kR) (hm:=λw=>hK.alloc rfl w) (λgb=>?_)
 refine Sy.permS (M:=(gb,K.te,K.z.toArray)::LBL gc gr gl K.ts r s'.e sl' R (N++N1)) ((List.perm_append_comm (l₂:=[(gb,K.te,K.z.toArray)])).trans (List.Perm.cons _ (List.Perm.of_eq (by simp only [List.cons_append,List.append_assoc,List.nil_append]; rfl)))) ?_
 refine sw 0 rfl cs.toArray (Writes.row K.te cs K.k _ _ rfl kR kR hK.ite q2 (by rw [List.size_toArray]; exact hK.zl) q3) ?_
 refine Sy.nil<|Sy.then_ ?_
 have hR2:RowsOk K.te K.k rep r (N++N1) l:=RowsOk.more (rep:=rep) hm hy.rows (λb h=>List.mem_append_left _ h)
 have hx2:rep (rdB (N++N1)) cs x:=hm (rdB_le λb h=>List.mem_append_right _ h) q4
 have drop1:∀ {w:World},St (ib w0.world fz) w ((gb,K.te,cs.toArray)::LBL gc gr gl K.ts r s'.e sl' R (N++N1))→St (ib w0.world fz) w (LBL gc gr gl K.ts r s'.e sl' R (N++N1)):=λh=>h.less (List.sublist_cons_self _ _)
 obtain ⟨b3,hb3⟩:∃ z:Bool,z=decide (s'.e≠0):=⟨_,rfl⟩
 have inl:∀ b∈R,b∈(gb,K.te,cs.toArray)::LBL gc gr gl K.ts r s'.e sl' R (N++N1):=λb h=>List.mem_cons_of_mem _ (lbl_in b h)
 refine Sy.seq ?_
 cases b3
 case' true =>
  have l3:s'.e≠0:=of_decide_eq_true hb3.symm
  refine Sy.region ?_
  refine sS (ptr gr) (cellC (R:=R) (mem1 ha) inl rfl Tryz.underlying124)<|sS (.int .i64 (s'.e:Int)) (qg (λw hw=>err_any (ib w0.world fz) gr sl' s'.e [] (List.mem_cons_of_mem _ (List.mem_cons_of_mem _ (List.mem_cons_self ..))) w hw))<|sS (.bool true) (Quiet.pure (exec_int .neq _ _ _ .i64 _ _ _ rfl rfl rfl (int_neq _ _ _ _ _ (by rw [hb3]; exact decide_eq_decide.2 (by omega)))))<|sp rfl<|sN<|sN<|sN<|sN<|sN<|sP (.bool true) ?_
  refine sG<|sT<|Sy.ret<|Sy.in_ret<|Sy.then_ret<|Sy.then_ret<|Sy.in_ret ?_
  exact Sy.retI rfl (λv w h=>⟨⟨_,rfl⟩,⟨l,r,s',sl',N++N1,none⟩,⟨m,s1,hA1,hs1r,by show l.length≤most; omega,⟨rfl,hR2,λh=>(l3 h).elim,λ_=>.inr (st2 l3 m l1),q5,Nat.le_trans q6 hy.rest,q7⟩,λh=>(l3 h).elim⟩,drop1 h⟩) (.inl rfl)
 have l3:s'.e=0:=Decidable.of_not_not (of_decide_eq_false hb3.symm)
 refine Sy.regionI 7 (by rintro ⟨_,_,⟨_,hv⟩,_⟩; cases hv) kR ?_
 refine sS (ptr gr) (cellC (R:=R) (mem1 ha) inl rfl Tryz.underlying124)<|sS (.int .i64 (s'.e:Int)) (qg (λw hw=>err_any (ib w0.world fz) gr sl' s'.e [] (List.mem_cons_of_mem _ (List.mem_cons_of_mem _ (List.mem_cons_self ..))) w hw))<|sS (.bool false) (Quiet.pure (exec_int .neq _ _ _ .i64 _ _ _ rfl rfl rfl (int_neq _ _ _ _ _ (by rw [hb3]; exact decide_eq_decide.2 (by omega)))))<|sp rfl<|sp rfl<|sp rfl<|sS (.agg cs.toArray) (Quiet.mid 0 gb 0 K.k K.te K.te cs cs _ _ rfl kR rfl hE hE2 hK.ite (by rw [List.drop_zero,List.take_of_length_le (by omega)]) (by omega)) ?_
 refine Sy.nil ?_
 refine Sy.yieldI (HR:=HRLG K rep ⟨l,r,s',sl',N++N1,some x⟩) (LR:=λy=>LBL gc gr gl K.ts y.r y.s.e y.sl R y.N) rfl (by rintro ⟨_,_,⟨_,hv⟩,_⟩; cases hv) kR kR lp #[.int .i64 (i:Int),.agg cs.toArray] kF (λw hw=>hY (i,cs) ⟨l,r,s',sl',N++N1,some x⟩ w ⟨x,rfl,hylen,hR2,hx2,q2,q3,by show i<1000000; omega⟩ (drop1 hw)) (λy' hy'=>?_)
 obtain ⟨x',r',hx',hr',rfl⟩:=hy'
 obtain rfl:x=x':=by injection hx'
 refine sP (.bool false)<|sP (.bool false) ?_
 refine sG<|sU<|Sy.skip<|Sy.in_<|Sy.then_<|Sy.region ?_
 refine sp rfl<|sS (.int .i64 ((i+1:Nat):Int)) (Quiet.pure (exec_int .add _ _ _ .i64 _ _ _ rfl rfl rfl (int_add _ _ _ _ _ ((wrap_i64 (by omega) (by omega)).trans (by omega)))))<|sp rfl ?_
 refine Sy.nil ?_
 exact Sy.againT ⟨l++[x],r',s',sl',N++N1,none⟩ l1 ⟨by simp [hylen],hr',λ_=>⟨hs10,st1 l3⟩,λh=>(h l3).elim,q5,Nat.le_trans q6 hy.rest,q7⟩ (all_cons kR (all_cons kR (all_cons kR (all_cons kR (all_cons kR (all_cons kR all_nil)))))) (λw h=>h)
theorem list9_rG {K:LK} (hK:K.Ok) (hm:Mono rep) (hp:GetC K.fe K.k K.z rep p) (w0:Base) (gc gr g4 g7 most:Nat) (hmost:most<1000000) (sl0:Value) (s0:RS) (R S:Blocks) (hS:∀ x∈S,x∈R) (h4:(g4,94,#[ptr gc])∈R) (h7:(g7,K.fw,#[.func (.func K.fe) #[] #[]])∈R) (he:s0.e≤200) (hl:s0.rest.length≤70368744177664) (hv:BytR (rdC w0 S) sl0 s0.rest) (w:World) (hw:St w0 w (CRN gc gr sl0 s0.e R)) :
  Calls Tryz.prog K.fL #[ptr gr,.int .i64 (most:Int),.func (.func K.f1) #[] #[ptr g7,ptr g4]] w (Turns w0 (RdL K.k rep (listP most p) w0 gc gr s0 R S)):=by
 obtain ⟨nm,tn,hf⟩:=hK.c_fL
 obtain ⟨dE,hE,hE2⟩:=hK.ute
 obtain ⟨dW,hW,hW2⟩:=hK.ufw
 obtain ⟨dR,hR_,hR2_⟩:=hK.ufr
 refine Sy.enterTM (args:=[ptr gr,.int .i64 (most:Int),.func (.func K.f1) #[] #[ptr g7,ptr g4]]) hw hf rfl kL ?_
 refine sC ?_
 refine sP (.slice none 0 0) ?_
 refine sA ?_
 refine sM K.ts #[.slice none 0 0] (hg:=kR) (hm:=λw=>hK.allocS rfl w) (λgl=>?_)
 refine sG<|Sy.seq<|sC ?_
 refine sp rfl<|sp rfl<|sp rfl ?_
 refine Sy.callN kR K.fI #[ptr gr,.int .i64 (most:Int),.func (.func K.f1) #[] #[ptr g7,ptr g4]] (by intro w; exact run_callV rfl rfl (by kernel_rfl) (hK.e_fI _ w)) _ (λw _=>items_rG hK w gr most g4 g7) (λv M hM=>?_)
 obtain ⟨a,b,c,rfl,rfl⟩:=hM
 refine Sy.nil<|Sy.then_<|Sy.block ?_
 obtain ⟨R1,hR1⟩:∃ R1,R1=R++[(a,124,#[ptr gr]),(b,3,#[.int .i64 (most:Int)]),(c,K.fr,#[.func (.func K.f1) #[] #[ptr g7,ptr g4]])]:=⟨_,rfl⟩
 refine Sy.permC (M:=LBL gc gr gl K.ts nilS s0.e sl0 R1 []) (by rw [hR1]; exact permLB) ?_
 have mR:∀ x∈R,x∈R1:=λx hx=>by rw [hR1]; exact List.mem_append_left _ hx
 have ma:(a,124,#[ptr gr])∈R1:=by rw [hR1]; simp
 have mb:(b,3,#[.int .i64 (most:Int)])∈R1:=by rw [hR1]; simp
 have mc:(c,K.fr,#[.func (.func K.f1) #[] #[ptr g7,ptr g4]])∈R1:=by rw [hR1]; simp
 obtain ⟨nmJ,tnJ,hfJ⟩:=hK.c_fJ
 obtain ⟨zv,hz0,hz1⟩:=hK.zero
 refine Sy.rangeT (α:=Nat×List Value) (Y:=YL α) (Z:=Nat) K.fJ #[ptr a,ptr b,ptr c] kR kR hK.e_fJ (λv=>#[.int .i64 (v.1:Int),.agg v.2.toArray]) (λ_=>rfl) (show ∀ p∈#[14,15].toList,p<24 by decide)
  (HYLG K p rep w0 S 0 s0) (λ_ y=>LBL gc gr gl K.ts y.r y.s.e y.sl R1 y.N) (λ_ _ z=>[(7,ptr gl),(9,ptr z)]) (λv y z=>(z,K.te,v.2.toArray)::LBL gc gr gl K.ts y.r y.s.e y.sl R1 y.N) (λ_ y=>HRLG K rep y) (λy=>LBL gc gr gl K.ts y.r y.s.e y.sl R1 y.N)
  (λy:YL α=>∃ m s1,After (varP most) s0 m s1∧s1.rest.length≤s0.rest.length∧y.l.length≤most∧InvL K.te K.k rep p w0 S m s1 y.l.length y∧(y.s.e=0→y.l.length=m)) (λy=>LBL gc gr gl K.ts y.r y.s.e y.sl R1 y.N) ?_ ?_ ?_ ?_
 ·exact λlp fz w hw hY=>iter_rG (rep:=rep) (p:=p) hK hm hp w0 fz gc gr gl g4 g7 a b c most hmost R1 S s0 sl0 (λx h=>mR x (hS x h)) (mR _ h4) (mR _ h7) ma mb mc he hl hv lp w hw hY
 ·rintro lp fz ⟨i,cs⟩ ⟨l,r,s,sl,N,xo⟩ ⟨x,rfl,_,_,_,c1,c2,_⟩
  dsimp only at c1 c2 ⊢
  refine Sy.regionR (by rintro ⟨_,_,h⟩; exact h) kR ⟨_,rfl⟩ ?_
  refine sM K.te K.z.toArray (hg:=kR) (hm:=λw=>hK.alloc rfl w) (λz=>?_)
  refine Sy.permS (M:=(z,K.te,K.z.toArray)::LBL gc gr gl K.ts r s.e sl R1 N) (List.perm_append_comm (l₂:=[(z,K.te,K.z.toArray)])) ?_
  refine sw 0 rfl cs.toArray (Writes.row K.te cs K.k _ _ rfl kR kR hK.ite c1 (by rw [List.size_toArray]; exact hK.zl) c2) ?_
  refine Sy.nil ?_
  exact apZ z (all_cons kR (all_cons kR all_nil)) (λ_ h=>h)
 ·rintro lp fz ⟨i,cs⟩ ⟨l,r,s,sl,N,xo⟩ z ⟨x,rfl,hli,⟨xs,x1,x2,x3⟩,hx,c1,c2,hi⟩
  dsimp only at c1 c2 hli x1 x2 x3 hx hi ⊢
  refine Sy.block ?_
  refine Sy.regionR (by rintro ⟨_,_,h⟩; exact h) kR ⟨_,rfl⟩ ?_
  refine sS r.v (qc 3 0 rfl rfl hK.uts)<|sS (.agg cs.toArray) (Quiet.mid 0 z 0 K.k K.te K.te cs cs _ _ rfl kR rfl hE hE2 hK.ite (by rw [List.drop_zero,List.take_of_length_le (by omega)]) (by omega)) ?_
  refine Sy.make kR K.te cs.toArray (λg=>.slice (some ⟨g,0,none⟩) 1 1) (Makes.one K.ts K.te _ _ K.k _ cs rfl kR hK.uts hK.inf hz0 hK.size c1 hK.pos hK.top) (λg8=>?_)
  refine Sy.permS (M:=[(z,K.te,cs.toArray),(gc,126,#[.pointer none,ptr gr,.bool false]),(gr,231,#[sl,.int .i64 (s.e:Int)]),(gl,K.ts,#[r.v]),(g8,K.te,cs.toArray)]++(r.bl++(R1++N))) (Sy.flat_perm (ls:=[[(z,K.te,cs.toArray),(gc,126,#[.pointer none,ptr gr,.bool false]),(gr,231,#[sl,.int .i64 (s.e:Int)]),(gl,K.ts,#[r.v])],r.bl++(R1++N),[(g8,K.te,cs.toArray)]]) (ms:=[[(z,K.te,cs.toArray),(gc,126,#[.pointer none,ptr gr,.bool false]),(gr,231,#[sl,.int .i64 (s.e:Int)]),(gl,K.ts,#[r.v])],[(g8,K.te,cs.toArray)],r.bl++(R1++N)]) [0,2,1] (by kernel_rfl) (by rfl) (by simp) (by simp)) ?_
  refine Sy.appendR kR K.ts K.te _ _ K.k K.by_ hK.uts hK.inf hz0 hK.size hK.byt (by rw [hz1,List.size_toArray]; exact hK.zl) hK.pos _ _ rfl x1 kR cs c1 c2 4 g8 K.te kR kR (Nat.le_trans (Nat.mul_le_mul (show _≤1000000 by omega) hK.btop) (by decide)) (by simp only [maxLen]; omega) (λr' hr'=>?_)
  refine sw 3 rfl #[r'.v] (Writes.one 0 K.ts r'.v _ _ rfl kR kR hK.its hr'.cells.1 hr'.cells.2 Nat.zero_lt_one kR) ?_
  refine Sy.setT ?_
  refine Sy.nil<|Sy.in_ ?_
  exact bpZ ⟨l++[x],r',s,sl,N,none⟩ ⟨x,r',rfl,RowsOk.add (rep:=rep) x2 x3 hr' hx,rfl⟩ (λw h=>Sy.St.parts (ls:=[[(z,K.te,cs.toArray)],[(gc,126,#[.pointer none,ptr gr,.bool false]),(gr,231,#[sl,.int .i64 (s.e:Int)]),(gl,K.ts,#[r'.v])],[(g8,K.te,cs.toArray)],r'.bl++(R1++N)]) (ms:=[[(gc,126,#[.pointer none,ptr gr,.bool false]),(gr,231,#[sl,.int .i64 (s.e:Int)]),(gl,K.ts,#[r'.v])],r'.bl++(R1++N)]) [[(z,K.te,cs.toArray)],[(g8,K.te,cs.toArray)]] [1,3,0,2] (by kernel_rfl) (by rfl) (by simp) (by simp) h)
 ·rintro D fz ⟨l,r,s,sl,N,xo⟩ ⟨m,s1,hA1,hs1,hlm,hI,hdn⟩ hD hD2 hmk h0
  dsimp only at hI hdn hlm ⊢
  have hse:s.e≤200:=hI.e
  have hrest:s.rest.length≤s0.rest.length:=Nat.le_trans hI.rest hs1
  refine Sy.in_<|Sy.then_<|Sy.seq<|sC ?_
  obtain ⟨b1,hb1⟩:∃ z:Bool,z=decide (s.e≠0):=⟨_,rfl⟩
  refine sp rfl<|sS (.int .i64 (s.e:Int)) (qg (λw hw=>err_any (ab w0.world fz D) gr sl s.e [] (List.mem_cons_of_mem _ (List.mem_cons_self ..)) w hw))<|sS (.bool b1) (Quiet.pure (exec_int .neq _ _ _ .i64 _ _ _ rfl rfl rfl (int_neq _ _ _ _ _ (by rw [hb1]; exact decide_eq_decide.2 (by omega))))) ?_
  refine sG ?_
  cases b1
  ·have l1:s.e=0:=Decidable.of_not_not (of_decide_eq_false hb1.symm)
   obtain ⟨z1,z2⟩:=hI.yes l1
   rw [hdn l1] at z2
   refine sU<|Sy.skip<|sB ?_
   refine sS r.v (qc 2 0 rfl rfl hK.uts)<|sp rfl ?_
   refine sG<|Sy.ret ?_
   refine Sy.retTM1 (b0:=w0) (M:=CRN gc gr sl s.e (R++(N++r.bl))) rfl (.inl (show _=_ by kernel_rfl)) (λw h=>Sy.St.parts (ls:=[[(gc,126,#[.pointer none,ptr gr,.bool false]),(gr,231,#[sl,.int .i64 (s.e:Int)])],[(gl,K.ts,#[r.v])],r.bl,R,[(a,124,#[ptr gr]),(b,3,#[.int .i64 (most:Int)]),(c,K.fr,#[.func (.func K.f1) #[] #[ptr g7,ptr g4]])],N]) (ms:=[[(gc,126,#[.pointer none,ptr gr,.bool false]),(gr,231,#[sl,.int .i64 (s.e:Int)])],R,N,r.bl]) [[(gl,K.ts,#[r.v])],[(a,124,#[ptr gr]),(b,3,#[.int .i64 (most:Int)]),(c,K.fr,#[.func (.func K.f1) #[] #[ptr g7,ptr g4]])]] [0,3,5,2,1,4] (by kernel_rfl) (by rfl) (by rw [hR1]; simp) (by simp) h) ⟨l,s,sl,N++r.bl,hA1.bind ⟨λh=>(h z1).elim,λy q _ hy=>?_,λ_ hy=>?_⟩,RowsOk.lst (rep:=rep) hm hI.rows,hse,hrest,hI.byt,rfl⟩ hD hD2 hmk h0.out
   ·rw [z2] at hy
    cases hy
    exact ⟨rfl,by rw [← l1]⟩
   ·rw [z2] at hy; cases hy
  ·have l1:s.e≠0:=of_decide_eq_true hb1.symm
   refine sT<|sC ?_
   refine sP (.slice none 0 0) ?_
   refine sG<|Sy.ret<|Sy.then_ret ?_
   refine Sy.retTM1 (b0:=w0) (M:=CRN gc gr sl s.e (R++[])) rfl (.inl (show _=_ by kernel_rfl)) (λw h=>Sy.St.parts (ls:=[[(gc,126,#[.pointer none,ptr gr,.bool false]),(gr,231,#[sl,.int .i64 (s.e:Int)])],[(gl,K.ts,#[r.v])],r.bl,R,[(a,124,#[ptr gr]),(b,3,#[.int .i64 (most:Int)]),(c,K.fr,#[.func (.func K.f1) #[] #[ptr g7,ptr g4]])],N]) (ms:=[[(gc,126,#[.pointer none,ptr gr,.bool false]),(gr,231,#[sl,.int .i64 (s.e:Int)])],R]) [[(gl,K.ts,#[r.v])],r.bl,[(a,124,#[ptr gr]),(b,3,#[.int .i64 (most:Int)]),(c,K.fr,#[.func (.func K.f1) #[] #[ptr g7,ptr g4]])],N] [0,3,1,2,4,5] (by kernel_rfl) (by rfl) (by rw [hR1]; simp) (by simp) h) ⟨[],s,sl,[],hA1.bind ⟨λ_=>l1,λy q h1 hy=>?_,λ_ _=>l1⟩,⟨none,0,0,rfl,rfl,Nat.le_refl _,Nat.zero_le _,λh=>(h rfl).elim⟩,hse,hrest,hI.byt,rfl⟩ hD hD2 hmk h0.out
   rcases hI.no l1 with h | h
   ·exact (h h1).elim
   ·rw [h] at hy; cases hy
theorem list_rG {K:LK} (hK:K.Ok) (hm:Mono rep) (hp:GetC K.fe K.k K.z rep p) (w0:Base) (gc gr gx f most:Nat) (hmost:most<1000000) (tx:TypeId) (A Z:List Value) (sl:Value) (s:RS) (R S:Blocks) (hS:∀ b∈S,b∈R) (hA:A.length=f) (he:s.e≤200) (hl:s.rest.length≤70368744177664) (hv:BytR (rdC w0 S) sl s.rest) (w:World) (hw:St w0 w (CRS gc gr gx tx (A++([Value.slice none 0 0]++Z)) sl s.e R)) :
  Calls Tryz.prog K.f0 #[ptr gc,.pointer (some ⟨gx,f,none⟩),.int .i64 (most:Int),.func (.func K.fe) #[] #[]] w (Turns w0 (RdT 1 (repL K.k rep) (listP most p) w0 gc gr gx tx A Z s R S)):=by
 obtain ⟨nm,tn,hf⟩:=hK.c_f0
 obtain ⟨dE,hE,hE2⟩:=hK.ute
 obtain ⟨dW,hW,hW2⟩:=hK.ufw
 obtain ⟨dR,hR_,hR2_⟩:=hK.ufr
 refine Sy.enterT (args:=[ptr gc,.pointer (some ⟨gx,f,none⟩),.int .i64 (most:Int),.func (.func K.fe) #[] #[]]) hw hf rfl kL ?_
 refine sC ?_
 refine sM 94 #[ptr gc] (λg4=>?_)
 refine sM K.fw #[.func (.func K.fe) #[] #[]] (hg:=kR) (hm:=λw=>run_box1 (v:=.func (.func K.fe) #[] #[]) rfl rfl rfl hK.ifw w) (λg7=>?_)
 obtain ⟨R1,hR1⟩:∃ R1,R1=R++([(g4,94,#[ptr gc])]++[(g7,K.fw,#[.func (.func K.fe) #[] #[]])]):=⟨_,rfl⟩
 refine Sy.permS (M:=CRS gc gr gx tx (A++([Value.slice none 0 0]++Z)) sl s.e R1) (List.Perm.of_eq (by rw [hR1]; simp)) ?_
 have mR:∀ x∈R,x∈R1:=λx hx=>by rw [hR1]; exact List.mem_append_left _ hx
 have m4:(g4,94,#[ptr gc])∈R1:=by rw [hR1]; simp
 have m7:(g7,K.fw,#[.func (.func K.fe) #[] #[]])∈R1:=by rw [hR1]; simp
 refine sG<|Sy.seq<|sC ?_
 refine sS (ptr gc) (cellC (R:=R1) (mem1 m4) inCR rfl Tryz.underlying94)<|sS (.bool true) (qg (λw hw=>reads_r w0.inn gc gr _ _ (List.mem_cons_self ..) w hw)) ?_
 refine sG<|sT<|sC ?_
 refine sp rfl<|sS (ptr gc) (cellC (R:=R1) (mem1 m4) inCR rfl Tryz.underlying94)<|sp rfl<|sP (.pointer (some ⟨gc,1,none⟩))<|sS (ptr gr) (qc 0 1 rfl rfl Tryz.underlying124)<|sp rfl<|sP (.func (.func K.f1) #[] #[ptr g7,ptr g4]) ?_
 refine Sy.callT (he:=by intro w; exact run_callV rfl rfl (by kernel_rfl) (hK.e_fL _ w)) (λw hw=>list9_rG (rep:=rep) (p:=p) hK hm hp w0.inn gc gr g4 g7 most hmost sl s ((gx,tx,(A++([Value.slice none 0 0]++Z)).toArray)::R1) S (λx h=>List.mem_cons_of_mem _ (mR x (hS x h))) (List.mem_cons_of_mem _ m4) (List.mem_cons_of_mem _ m7) he hl hv w (hw.perm swap23)) (λv M hM=>?_)
 obtain ⟨l,s',sl',N,q1,q2,q3,q4,q5,rfl⟩:=hM
 refine Sy.permS (M:=CRS gc gr gx tx (A++([Value.slice none 0 0]++Z)) sl' s'.e (R1++N)) swap23 ?_
 refine sp rfl<|sw 1 rfl (A++([v]++Z)).toArray (Writes.one f K.ts v _ _ rfl kR kR hK.its q2.cells.1 q2.cells.2 (by rw [List.size_toArray,List.length_append,hA]; exact Nat.lt_add_of_pos_right (Nat.succ_pos _)) (set_mid hA)) ?_
 refine sG<|Sy.ret<|Sy.then_ret ?_
 exact Sy.retT0 rfl (CRS gc gr gx tx (A++([v]++Z)) sl' s'.e (R++N)) (λw h=>Sy.St.parts (ls:=[[(gc,126,#[.pointer none,ptr gr,.bool false]),(gx,tx,(A++([v]++Z)).toArray),(gr,231,#[sl',.int .i64 (s'.e:Int)])],R,[(g4,94,#[ptr gc])]++[(g7,K.fw,#[.func (.func K.fe) #[] #[]])],N]) (ms:=[[(gc,126,#[.pointer none,ptr gr,.bool false]),(gx,tx,(A++([v]++Z)).toArray),(gr,231,#[sl',.int .i64 (s'.e:Int)])],R,N]) [[(g4,94,#[ptr gc])]++[(g7,K.fw,#[.func (.func K.fe) #[] #[]])]] [0,1,3,2] (by kernel_rfl) (by rfl) (by rw [hR1]; simp) (by simp) h) (λ_=>⟨l,s',sl',[v],N,q1,rfl,λu hu=>by rw [List.mem_singleton.1 hu]; exact q2.cells.2,⟨v,rfl,q2⟩,q3,q4,q5,rfl⟩)
end
end Wr
end
section
namespace Wr
open Go.RowKit Sy
set_option maxRecDepth 100000
set_option maxHeartbeats 4000000
noncomputable def inf_mo:TypeInfo:=(Tryz.prog.info? 58).getD default
theorem info_mo:Tryz.prog.info? 58=some inf_mo:=by kernel_rfl
noncomputable def K_mo:LK:=⟨58,59,253,320,254,321,323,368,367,392,142,197,198,199,200,235,271,143,33,40,([Value.int .u64 0]++Z32),inf_mo⟩
theorem ok_mo:K_mo.Ok:={
 c_f0:=⟨_,_,Tryz.func142⟩,
 c_fL:=⟨_,_,Tryz.func197⟩,
 c_f1:=⟨_,_,Tryz.func198⟩,
 c_fP:=⟨_,_,Tryz.func199⟩,
 c_f2:=⟨_,_,Tryz.func200⟩,
 c_fI:=⟨_,_,Tryz.func235⟩,
 c_fJ:=⟨_,_,Tryz.func271⟩,
 ute:=⟨_,Tryz.underlying58,rfl⟩,
 uts:=Tryz.underlying59,
 ufw:=⟨_,Tryz.underlying254,rfl⟩,
 ufr:=⟨_,Tryz.underlying321,rfl⟩,
 inf:=info_mo,
 zero:=⟨_,rfl,by kernel_rfl⟩,
 size:=rfl,
 byt:=rfl,
 zl:=by kernel_rfl,
 pos:=(by decide:0<33),
 top:=(by decide:33≤16777216),
 btop:=(by decide:40≤100000000),
 its:=by kernel_rfl,
 ifw:=by kernel_rfl,
 ifr:=by kernel_rfl,
 zts:=⟨(Tryz.prog.info? 59).getD default,by kernel_rfl,by kernel_rfl⟩,
 e_fe:=enters_of Tryz.func143 kR rfl,
 e_f2:=enters_of Tryz.func200 kR rfl,
 e_fP:=enters_of Tryz.func199 kR rfl,
 e_f1:=enters_of Tryz.func198 kR rfl,
 e_fL:=enters_of Tryz.func197 kR rfl,
 e_fI:=enters_of Tryz.func235 kR rfl,
 e_fJ:=enters_of Tryz.func271 kR rfl }
theorem list_w_mo {α:Type} {rep:Rdr→List Value→α→Prop} {ok:α→Bool} {enc:α→Byt} {wt:α→Nat} (hm:Mono rep) (hp:PutC 143 33 rep ok enc wt) (w0:Base) (gc gw gx f most:Nat) (hmo:most<1000000) (bad:Bool) (s:Slc) (R:Blocks) (b:Byt) (v:Value) (l:List α) (hv:LstR (rdC w0 R) 33 rep v l) (hc:rdC w0 R gx f v) (hb:BS s b) (hlen:b.length+(9+(l.map wt).sum)≤70368744170000) (w:World) (hw:St w0 w (CWS gc gw bad s R)) :
  Calls Tryz.prog 142 #[ptr gc,.pointer (some ⟨gx,f,none⟩),.int .i64 (most:Int),.func (.func 143) #[] #[]] w (Turns w0 (WrC gc gw R (decide (l.length≤most) && l.all ok) (varB l.length++l.flatMap enc) (9+(l.map wt).sum) bad b)):=list_wG (rep:=rep) (ok:=ok) (enc:=enc) (wt:=wt) ok_mo hm hp.own w0 gc gw gx f most hmo bad s R b v l hv hc hb hlen w hw
theorem list_r_mo {α:Type} {rep:Rdr→List Value→α→Prop} {p:Ps α} (hm:Mono rep) (hp:GetC 143 33 (([Value.int .u64 0]++Z32)) rep p) (w0:Base) (gc gr gx f most:Nat) (hmost:most<1000000) (tx:TypeId) (A Z:List Value) (sl:Value) (s:RS) (R S:Blocks) (hS:∀ b∈S,b∈R) (hA:A.length=f) (he:s.e≤200) (hl:s.rest.length≤70368744177664) (hv:BytR (rdC w0 S) sl s.rest) (w:World) (hw:St w0 w (CRS gc gr gx tx (A++([Value.slice none 0 0]++Z)) sl s.e R)) :
  Calls Tryz.prog 142 #[ptr gc,.pointer (some ⟨gx,f,none⟩),.int .i64 (most:Int),.func (.func 143) #[] #[]] w (Turns w0 (RdT 1 (repL 33 rep) (listP most p) w0 gc gr gx tx A Z s R S)):=list_rG (rep:=rep) (p:=p) ok_mo hm hp w0 gc gr gx f most hmost tx A Z sl s R S hS hA he hl hv w hw
end Wr
end
section
namespace Wr
open Go.RowKit Sy
set_option maxRecDepth 100000
set_option maxHeartbeats 4000000
theorem mainTx_w:PutC 77 2 repMT okMT encMT wtMT:=λw0 gc gw gx f bad s R b cs x hx _ hc hb hl w hw=>by
 obtain ⟨v,rfl,h1,h2⟩:=hx
 unfold wtMT at hl
 refine Sy.enterT (args:=[ptr gc,.pointer (some ⟨gx,f,none⟩)]) hw Tryz.func77 rfl kL ?_
 refine sC ?_
 refine sp rfl<|sp rfl<|sp rfl<|sP (.pointer (some ⟨gx,f,none⟩)) ?_
 refine Sy.callT (λw hw=>long_w w0.inn gc gw gx f bad s R b x.nonce h1 hc.one hb (by omega) w hw) (λu M hM=>?_)
 obtain ⟨s1,bad1,b1,q1,q2,rfl⟩:=hM
 have l1:=q1.len
 refine Sy.nil<|Sy.then_<|Sy.region ?_
 refine sp rfl<|sp rfl<|sp rfl<|sP (.pointer (some ⟨gx,f+1,none⟩)) ?_
 refine Sy.callT (λw hw=>list_w_mo (rep:=repMO) monoMO mainOut_w w0.inn gc gw gx (f+1) 16 (by decide) bad1 s1 R b1 v x.outs h2 hc.tail.one q2 (by omega) w hw) (λu M hM=>?_)
 obtain ⟨s2,bad2,b2,q3,q4,rfl⟩:=hM
 refine Sy.nil ?_
 have q:=q1.then_ q3
 rw [Bool.true_and,all_true,Bool.and_true] at q
 exact Sy.retT0 rfl (CWS gc gw bad2 s2 R) (λ_ h=>h) (λ_=>⟨s2,bad2,b2,q,q4,rfl⟩)
theorem ones_app {a b:List Value} (ha:∀ u∈a,u.oneCell'=true) (hb:∀ u∈b,u.oneCell'=true):∀ u∈a++b,u.oneCell'=true:=λu hu=>(List.mem_append.1 hu).elim (ha u) (hb u)
theorem mainOut_r:GetC 143 33 ([Value.int .u64 0]++Z32) repMO rdMO:=λw0 gc gr gx f tx A Z sl s R S hS hA he hl hv w hw=>by
 refine Sy.enterT (args:=[ptr gc,.pointer (some ⟨gx,f,none⟩)]) hw Tryz.func143 rfl kL ?_
 refine sC ?_
 refine sp rfl<|sp rfl<|sp rfl<|sP (.pointer (some ⟨gx,f,none⟩)) ?_
 refine Sy.callT (λw hw=>long_r w0.inn gc gr gx f tx A (Z32++Z) sl s R S hS hA he hl hv w hw) (λu M hM=>?_)
 obtain ⟨x1,s1,sl1,cs1,N1,a1,a2,a3,⟨rfl,a4⟩,a5,a6,a7,rfl⟩:=hM
 refine Sy.nil<|Sy.then_<|Sy.region ?_
 refine sp rfl<|sp rfl<|sp rfl<|sP (.pointer (some ⟨gx,f+1,none⟩)) ?_
 refine Sy.callT (λw hw=>digest_r w0.inn gc gr gx (f+1) tx (A++[.int .u64 (x1:Int)]) Z sl1 s1 (R++N1) S (λb h=>List.mem_append_left _ (hS b h)) (by rw [List.length_append,hA]; rfl) a5 (Nat.le_trans a6 hl) a7 w (by rw [List.append_assoc]; exact hw)) (λu M hM=>?_)
 obtain ⟨x2,s2,sl2,cs2,N2,b1,b2,b3,⟨rfl,b4⟩,b5,b6,b7,rfl⟩:=hM
 refine Sy.nil ?_
 exact Sy.retT0 rfl (CRS gc gr gx tx (A++(([.int .u64 (x1:Int)]++x2.map bv)++Z)) sl2 s2.e (R++(N1++N2))) (λ_ h=>by simpa only [List.append_assoc] using h) (λ_=>⟨⟨x1,x2⟩,s2,sl2,_,N1++N2,a1.bind (b1.bind (After.ret _ _)),by rw [List.length_append,a2,b2],ones_app a3 b3,⟨rfl,a4,b4⟩,b5,Nat.le_trans b6 a6,b7,rfl⟩)
theorem mainTx_r:GetC 77 2 ([Value.int .u64 0]++[Value.slice none 0 0]) repMT rdMT:=λw0 gc gr gx f tx A Z sl s R S hS hA he hl hv w hw=>by
 refine Sy.enterT (args:=[ptr gc,.pointer (some ⟨gx,f,none⟩)]) hw Tryz.func77 rfl kL ?_
 refine sC ?_
 refine sp rfl<|sp rfl<|sp rfl<|sP (.pointer (some ⟨gx,f,none⟩)) ?_
 refine Sy.callT (λw hw=>long_r w0.inn gc gr gx f tx A ([Value.slice none 0 0]++Z) sl s R S hS hA he hl hv w hw) (λu M hM=>?_)
 obtain ⟨x1,s1,sl1,cs1,N1,a1,a2,a3,⟨rfl,a4⟩,a5,a6,a7,rfl⟩:=hM
 refine Sy.nil<|Sy.then_<|Sy.region ?_
 refine sp rfl<|sp rfl<|sp rfl<|sP (.pointer (some ⟨gx,f+1,none⟩)) ?_
 refine Sy.callT (λw hw=>list_r_mo (rep:=repMO) (p:=rdMO) monoMO mainOut_r w0.inn gc gr gx (f+1) 16 (by decide) tx (A++[.int .u64 (x1:Int)]) Z sl1 s1 (R++N1) S (λb h=>List.mem_append_left _ (hS b h)) (by rw [List.length_append,hA]; rfl) a5 (Nat.le_trans a6 hl) a7 w (by rw [List.append_assoc]; exact hw)) (λu M hM=>?_)
 obtain ⟨x2,s2,sl2,cs2,N2,b1,b2,b3,⟨v,rfl,b4⟩,b5,b6,b7,rfl⟩:=hM
 refine Sy.nil ?_
 exact Sy.retT0 rfl (CRS gc gr gx tx (A++(([.int .u64 (x1:Int)]++[v])++Z)) sl2 s2.e (R++(N1++N2))) (λ_ h=>by simpa only [List.append_assoc] using h) (λ_=>⟨⟨x1,x2⟩,s2,sl2,_,N1++N2,a1.bind (b1.bind (After.ret _ _)),rfl,ones_app a3 b3,⟨v,rfl,a4,LstR.le (rep:=repMO) monoMO (rdB_le λb h=>List.mem_append_right _ h) b4⟩,b5,Nat.le_trans b6 a6,b7,rfl⟩)
def RdE {α:Type} (k:Nat) (zc:List Value) (rep:Rdr→List Value→α→Prop) (o:Option α) (u:Value) (M:Blocks):Prop:=(∃ x cs,o=some x∧u=.tuple #[.agg cs.toArray,.int .i64 0]∧cs.length=k∧rep (rdB M) cs x)∨(o=none∧u=.tuple #[.agg zc.toArray,.int .i64 120]∧M=[])
theorem all_of {α:Type} {p:Ps α} {b:Byt} {x:α} {s':RS} (h:After p ⟨b,0⟩ x s'):(s'.e=0→s'.rest=[]→allP p b=some x)∧(s'.e≠0∨s'.rest≠[]→allP p b=none):=by
 have e:allP p b=match p b with | some (x,[])=>some x | _=>none:=rfl
 refine ⟨λh1 h2=>?_,λh1=>?_⟩
 ·rw [e,show p b=some (x,s'.rest) from h.ok rfl h1,h2]
 ·rw [e]
  cases hp:p b with
  | none=>rfl
  | some u =>
   obtain ⟨y,r⟩:=u
   obtain ⟨_,hs⟩:=h.yes y r rfl hp
   rw [hs] at h1
   cases r with
   | nil=>rcases h1 with h1 | h1 <;> exact (h1 rfl).elim
   | cons=>rfl
theorem oneMT {C:Rdr} {cs:List Value} {t:MTx} (h:repMT C cs t):∀ u∈cs,u.oneCell'=true:=by
 obtain ⟨v,rfl,_,h⟩:=h
 intro u hu
 rcases List.mem_cons.1 hu with rfl | hu
 ·rfl
 ·rw [List.mem_singleton.1 hu]; exact h.cells.2
theorem read_mtx {α:Type} {rep:Rdr→List Value→α→Prop} {p:Ps α} (hm:Mono rep) (hp:GetC 77 2 (([Value.int .u64 0]++[Value.slice none 0 0])) rep p) (w:World) (v:Value) (b:Byt) (hv:BytR (rdW w) v b) (hl:b.length≤70368744177664) :
  Calls Tryz.prog 78 #[v,.func (.func 77) #[] #[]] w (GetsN w (RdE 2 (([Value.int .u64 0]++[Value.slice none 0 0])) rep (allP p b))):=by
 refine Sy.enter (args:=[v,.func (.func 77) #[] #[]]) Tryz.func78 rfl kL ?_
 refine sC ?_
 refine sM 61 (([Value.int .u64 0]++[Value.slice none 0 0])).toArray (λg4=>?_)
 refine sP (.int .i64 0) ?_
 refine sA ?_
 refine sM 61 (([Value.int .u64 0]++[Value.slice none 0 0])).toArray (λg6=>?_)
 refine sM 61 (([Value.int .u64 0]++[Value.slice none 0 0])).toArray (λg7=>?_)
 refine sA ?_
 refine sp rfl ?_
 refine Sy.callN kR 66 #[v] kF _ (λw' hw=>read_any w' v b (hv.at hw) hl) (λu M hM=>?_)
 obtain ⟨gr,sl,N0,hN0,rfl,rfl⟩:=hM
 refine sP (.agg #[.pointer none,ptr gr,.bool false])<|sM 126 #[.pointer none,ptr gr,.bool false] (λgc=>?_)
 refine Sy.permS (M:=CRS gc gr g6 61 ([]++((([Value.int .u64 0]++[Value.slice none 0 0]))++[])) sl 0 ((g4,61,(([Value.int .u64 0]++[Value.slice none 0 0])).toArray)::(g7,61,(([Value.int .u64 0]++[Value.slice none 0 0])).toArray)::N0)) (Sy.flat_perm (ls:=[[(g4,61,(([Value.int .u64 0]++[Value.slice none 0 0])).toArray)],[(g6,61,(([Value.int .u64 0]++[Value.slice none 0 0])).toArray)],[(g7,61,(([Value.int .u64 0]++[Value.slice none 0 0])).toArray)],[(gr,231,#[sl,.int .i64 0])],N0,[(gc,126,#[.pointer none,ptr gr,.bool false])]]) (ms:=[[(gc,126,#[.pointer none,ptr gr,.bool false])],[(g6,61,(([Value.int .u64 0]++[Value.slice none 0 0])).toArray)],[(gr,231,#[sl,.int .i64 0])],[(g4,61,(([Value.int .u64 0]++[Value.slice none 0 0])).toArray)],[(g7,61,(([Value.int .u64 0]++[Value.slice none 0 0])).toArray)],N0]) [5,1,3,0,2,4] (by kernel_rfl) (by rfl) (by simp) (by simp)) ?_
 refine sp rfl ?_
 refine sA ?_
 refine sp rfl<|sp rfl ?_
 refine Sy.callT (λw' hw=>hp (Base.of w) gc gr g6 0 61 [] [] sl ⟨b,0⟩ ((g4,61,(([Value.int .u64 0]++[Value.slice none 0 0])).toArray)::(g7,61,(([Value.int .u64 0]++[Value.slice none 0 0])).toArray)::N0) N0 (λx h=>List.mem_cons_of_mem _ (List.mem_cons_of_mem _ h)) rfl (Nat.zero_le _) hl (hN0.byt.le rdB_base) w' hw) (λu M hM=>?_)
 obtain ⟨x,s',sl',cs,N,q1,q2,q3,q4,q5,q6,q7,rfl⟩:=hM
 rw [List.append_nil]
 obtain ⟨o1,o2⟩:=all_of q1
 obtain ⟨e,hE⟩:∃ e,e=if s'.e=0∧0<s'.rest.length then 113 else s'.e:=⟨_,rfl⟩
 have hEl:e≤200:=by rw [hE]; split <;> omega
 refine sG<|Sy.seq<|sC ?_
 obtain ⟨b1,hb1⟩:∃ z:Bool,z=decide (e≠0):=⟨_,rfl⟩
 refine sp rfl<|sp rfl<|sP (.pointer (some ⟨gc,1,none⟩))<|sS (ptr gr) (qc 0 1 rfl rfl Tryz.underlying124)<|sS (.int .i64 (e:Int)) (qg (λw' hw=>by rw [hE]; exact end_any (Base.of w) gr sl' s' N0 q5 q7 (List.mem_cons_of_mem _ (List.mem_cons_of_mem _ (List.mem_cons_self ..))) w' hw))<|sS (.bool b1) (Quiet.pure (exec_int .neq _ _ _ .i64 _ _ _ rfl rfl rfl (int_neq _ _ _ _ _ (by rw [hb1]; exact decide_eq_decide.2 (by omega))))) ?_
 refine sG ?_
 cases b1
 ·have l1:e=0:=Decidable.of_not_not (of_decide_eq_false hb1.symm)
  have l2:s'.e=0∧s'.rest=[]:=by
   by_cases h:s'.e=0∧0<s'.rest.length
   ·rw [if_pos h] at hE; omega
   ·rw [if_neg h] at hE
    exact ⟨by omega,List.eq_nil_of_length_eq_zero (by omega)⟩
  refine sU<|Sy.skip<|sB ?_
  refine sS (.agg cs.toArray) (Quiet.mid 1 g6 0 2 61 61 cs cs _ _ rfl kR rfl Tryz.underlying61 rfl kR (by rw [List.drop_zero,List.take_of_length_le (by omega)]) (by omega))<|sw 3 rfl cs.toArray (Writes.row 61 cs 2 _ _ rfl kR kR kR q2 (by kernel_rfl) q3)<|sP (.int .i64 0) ?_
  refine sG<|Sy.ret ?_
  exact Sy.retGM2 N rfl (.inl (Sy.Res.cell (ty':=61) g4 3 cs.toArray _ (by kernel_rfl) rfl Tryz.underlying61 rfl (by rw [List.size_toArray,q2]; kernel_rfl) rfl)) (.inl (show _=_ by kernel_rfl)) (λ_ h=>h.less (List.sublist_append_right [(gc,126,#[.pointer none,ptr gr,.bool false]),(g6,61,cs.toArray),(gr,231,#[sl',.int .i64 (s'.e:Int)]),(g4,61,cs.toArray),(g7,61,(([Value.int .u64 0]++[Value.slice none 0 0])).toArray)] (N0++N) |> λh1=>(List.sublist_append_right N0 N).trans h1)) (.inl ⟨x,cs,o1 l2.1 l2.2,rfl,q2,q4⟩)
 ·have l1:e≠0:=of_decide_eq_true hb1.symm
  have l2:s'.e≠0∨s'.rest≠[]:=by
   by_cases h:s'.e=0∧0<s'.rest.length
   ·exact .inr (λe=>by rw [e] at h; exact absurd h.2 (by decide))
   ·rw [if_neg h] at hE; exact .inl (by omega)
  refine sT<|sC ?_
  refine sS (.agg (([Value.int .u64 0]++[Value.slice none 0 0])).toArray) (qk 4 0 2 rfl rfl Tryz.underlying61)<|sw 3 rfl (([Value.int .u64 0]++[Value.slice none 0 0])).toArray (wA rfl)<|sP (.int .i64 120) ?_
  refine sG<|Sy.ret<|Sy.then_ret ?_
  exact Sy.retGM2 [] rfl (.inl (Sy.Res.cell (ty':=61) g4 3 (([Value.int .u64 0]++[Value.slice none 0 0])).toArray _ (by kernel_rfl) rfl Tryz.underlying61 rfl (by kernel_rfl) rfl)) (.inl (show _=_ by kernel_rfl)) (λ_ h=>h.none) (.inr ⟨o2 l2,rfl,rfl⟩)
theorem rdx_mtx {α:Type} {rep:Rdr→List Value→α→Prop} {p:Ps α} (hm:Mono rep) (hone:∀ {C:Rdr} {cs:List Value} {x:α},rep C cs x→∀ u∈cs,u.oneCell'=true) (hp:GetC 77 2 (([Value.int .u64 0]++[Value.slice none 0 0])) rep p) (w:World) (v:Value) (b:Byt) (hv:BytR (rdW w) v b) (hl:b.length≤70368744177664) :
  Calls Tryz.prog 37 #[v] w (GetsN w (RdE 2 (([Value.int .u64 0]++[Value.slice none 0 0])) rep (allP p b))):=by
 refine Sy.enter (args:=[v]) Tryz.func37 rfl kL ?_
 refine sC ?_
 refine sM 61 (([Value.int .u64 0]++[Value.slice none 0 0])).toArray (λg2=>?_)
 refine sP (.int .i64 0) ?_
 refine sA ?_
 refine sp rfl ?_
 refine Sy.callN kR 78 #[v,.func (.func 77) #[] #[]] kF _ (λw' hw=>read_mtx (rep:=rep) (p:=p) hm hp w' v b (hv.at hw) hl) (λu M hM=>?_)
 rcases hM with ⟨x,cs,o1,rfl,q2,q4⟩ | ⟨o1,rfl,rfl⟩
 ·have q3:∀ u∈cs,u.oneCell'=true:=hone q4
  refine sp rfl<|sp rfl<|sw 0 rfl cs.toArray (Writes.row 61 cs 2 _ _ rfl kR kR kR q2 (by kernel_rfl) q3)<|sp rfl ?_
  refine sG<|Sy.ret ?_
  exact Sy.retGM2 M rfl (.inl (Sy.Res.cell (ty':=61) g2 0 cs.toArray _ (by kernel_rfl) rfl Tryz.underlying61 rfl (by rw [List.size_toArray,q2]; kernel_rfl) rfl)) (.inl (show _=_ by kernel_rfl)) (λ_ h=>h.less (List.sublist_cons_self _ _)) (.inl ⟨x,cs,o1,rfl,q2,q4⟩)
 ·refine sp rfl<|sp rfl<|sw 0 rfl (([Value.int .u64 0]++[Value.slice none 0 0])).toArray (wA rfl)<|sp rfl ?_
  refine sG<|Sy.ret ?_
  exact Sy.retGM2 [] rfl (.inl (Sy.Res.cell (ty':=61) g2 0 (([Value.int .u64 0]++[Value.slice none 0 0])).toArray _ (by kernel_rfl) rfl Tryz.underlying61 rfl (by kernel_rfl) rfl)) (.inl (show _=_ by kernel_rfl)) (λ_ h=>h.none) (.inr ⟨o1,rfl,rfl⟩)
end Wr
end
section
namespace Wr
open Go.RowKit Sy
set_option maxRecDepth 100000
set_option maxHeartbeats 4000000
open Go.ChangeShapes Go.WideShapes Go.ChangeAt Go.Deep
theorem bulk_pos {H:Type} (d:DataW H):1≤Rows.uptoBulk d:=by
 cases d with
 | lit l=>cases l <;> simp [Rows.uptoBulk]
 | _=>simp [Rows.uptoBulk]
theorem bulk_app {H:Type}:∀ a b:List (DataW H),Rows.uptoBulkAll (a++b)=Rows.uptoBulkAll a+Rows.uptoBulkAll b
 | [],b=>by simp [Rows.uptoBulkAll]
 | d::a,b=>by
  have h:=bulk_app a b
  simp only [List.cons_append,Rows.uptoBulkAll]
  omega
theorem cells_at {W:World} {base:Nat} {a:Addr} {n:Nat} {cs:List Value} (h:W.cells? base a n=some cs):∀ (j:Nat) (v:Value),cs[j]? = some v→W.cell? (a.add j)=some v:=λj v hj=>by
 unfold World.cells? at h
 split at h
 ·have hl:=Lib.mapM_length h
  have hjl:j<n:=by
   have:=(List.getElem?_eq_some_iff.1 hj).1
   simp at hl
   omega
  obtain ⟨b,hb,hf⟩:=Lib.mapM_at h j j (by simp [hjl])
  rw [hb] at hj
  injection hj with hj
  rw [hf,hj]
 ·cases h
theorem cells_ln {W:World} {base:Nat} {a:Addr} {n:Nat} {cs:List Value} (h:W.cells? base a n=some cs):cs.length=n:=by
 unfold World.cells? at h
 split at h
 ·have hl:=Lib.mapM_length h
  simpa using hl
 ·cases h
theorem cell_in {w:World} {a:Addr} {v:Value} (h:w.cell? a=some v):∃ b o,a=⟨b,o,none⟩∧b<w.heap.size:=by
 obtain ⟨b,o,k⟩:=a
 unfold World.cell? at h
 cases k with
 | none =>
  refine ⟨b,o,rfl,?_⟩
  rcases Nat.lt_or_ge b w.heap.size with hl | hl
  ·exact hl
  ·simp [Array.getElem?_eq_none hl] at h
 | some k=>exfalso; cases hw:w.heap[b]? with
  | none=>simp [hw] at h
  | some ob=>cases ob <;> simp [hw] at h
theorem add_in (b o n:Nat):(⟨b,o,none⟩:Addr).add n=⟨b,o+n,none⟩:=by unfold Addr.add; split <;> simp_all
theorem list_of {α H:Type} {n:Nat} {p:Nat→α→Prop} {sz:α→Nat} {D:Nat→DataW H} (h:∀ i,i<n→∃ x,p i x∧sz x<Rows.uptoBulk (D i)):∃ l:List α,l.length=n∧(∀ i x,l[i]? = some x→p i x)∧l.length+(l.map sz).sum≤Rows.uptoBulkAll ((List.range n).map D):=by
 induction n with
 | zero=>exact ⟨[],rfl,λi x h=>(by cases h),Nat.zero_le _⟩
 | succ n ih =>
  obtain ⟨l,h1,h2,h3⟩:=ih λi hi=>h i (by omega)
  obtain ⟨x,hx,hs⟩:=h n (by omega)
  refine ⟨l++[x],by rw [List.length_append,h1]; rfl,λi y hy=>?_,?_⟩
  ·rcases Nat.lt_or_ge i l.length with hi | hi
   ·rw [List.getElem?_append_left hi] at hy
    exact h2 i y hy
   ·rw [List.getElem?_append_right hi] at hy
    cases hk:i - l.length with
    | zero =>
     rw [hk] at hy
     cases hy
     obtain rfl:i=n:=by omega
     exact hx
    | succ k=>rw [hk] at hy; cases hy
  ·simp only [List.range_succ,List.map_append,bulk_app,List.sum_append,List.length_append,List.map_cons,List.map_nil,List.sum_cons,List.sum_nil,List.length_cons,List.length_nil,Rows.uptoBulkAll]
   omega
structure Opn {α:Type} (t:TypeId) (k:Nat) (rep:Rdr→List Value→α→Prop) (sz:α→Nat):Prop where
 go:∀ {H:Type} {enc:TypeId×Value→H} {W:World} {fuel:Nat} {cs:List Value} {x:DataW H×List MemPlace},cs.length=k→DataW.trod enc Tryz.prog W 0 (λ_=>true) true fuel t cs=some x→∃ y,rep (rdW W) cs y∧(∀ u∈cs,u.oneCell'=true)∧sz y<Rows.uptoBulk x.1
theorem Opn.as {α β:Type} {t:TypeId} {k:Nat} {rep:Rdr→List Value→α→Prop} {sz:α→Nat} {rep':Rdr→List Value→β→Prop} {sz':β→Nat} (h:Opn t k rep sz) (hr:∀ C cs x,rep C cs x→∃ y,rep' C cs y∧sz' y≤sz x):Opn t k rep' sz':=⟨λhl hf=>by
 obtain ⟨x,h1,h2,h3⟩:=h.go hl hf
 obtain ⟨y,h4,h5⟩:=hr _ _ _ h1
 exact ⟨y,h4,h2,by omega⟩⟩
def repU (_:Rdr) (cs:List Value) (n:Nat):Prop:=cs=[.int .u64 (n:Int)]∧n<18446744073709551616
def repW (_:Rdr) (cs:List Value) (n:Nat):Prop:=cs=[.int .u32 (n:Int)]∧n<4294967296
def repZ (_:Rdr) (cs:List Value) (z:Int):Prop:=cs=[.int .i64 z]
def repB (_:Rdr) (cs:List Value) (b:Bool):Prop:=cs=[.bool b]
def repO (_:Rdr) (cs:List Value) (u:UInt8):Prop:=cs=[bv u]
def repN (n:Nat) (_:Rdr) (cs:List Value) (b:Byt):Prop:=cs=b.map bv∧b.length=n
def repT (C:Rdr) (cs:List Value) (b:Byt):Prop:=∃ v,cs=[v]∧BytR C v b
theorem opn_u {t:TypeId} (ht:Tryz.prog.underlying t=some (.int .u64)):Opn t 1 repU (λ_=>0):=⟨λhl hf=>by
 obtain ⟨z,rfl,hx,w⟩:=DataW.trod_int ht hf
 have hz:0≤z∧z<18446744073709551616:=by
  simp [Lit.wf,IntKind.bits,IntKind.signed,IntKind.min,IntKind.max] at w
  omega
 refine ⟨z.toNat,⟨by rw [show ((z.toNat:Nat):Int)=z by omega],by omega⟩,λu hu=>by rw [List.mem_singleton.1 hu]; rfl,bulk_pos _⟩⟩
theorem opn_w {t:TypeId} (ht:Tryz.prog.underlying t=some (.int .u32)):Opn t 1 repW (λ_=>0):=⟨λhl hf=>by
 obtain ⟨z,rfl,hx,w⟩:=DataW.trod_int ht hf
 have hz:0≤z∧z<4294967296:=by
  simp [Lit.wf,IntKind.bits,IntKind.signed,IntKind.min,IntKind.max] at w
  omega
 refine ⟨z.toNat,⟨by rw [show ((z.toNat:Nat):Int)=z by omega],by omega⟩,λu hu=>by rw [List.mem_singleton.1 hu]; rfl,bulk_pos _⟩⟩
theorem opn_o {t:TypeId} (ht:Tryz.prog.underlying t=some (.int .u8)):Opn t 1 repO (λ_=>0):=⟨λhl hf=>by
 obtain ⟨z,rfl,hx,w⟩:=DataW.trod_int ht hf
 have hz:0≤z∧z<256:=by
  simp [Lit.wf,IntKind.bits,IntKind.signed,IntKind.min,IntKind.max] at w
  omega
 refine ⟨UInt8.ofNat z.toNat,?_,λu hu=>by rw [List.mem_singleton.1 hu]; rfl,bulk_pos _⟩
 unfold repO bv
 rw [UInt8.toNat_ofNat',show ((z.toNat%2 ^ 8:Nat):Int)=z by omega]⟩
theorem opn_i {t:TypeId} (ht:Tryz.prog.underlying t=some (.int .i64)):Opn t 1 repZ (λ_=>0):=⟨λhl hf=>by
 obtain ⟨z,rfl,hx,w⟩:=DataW.trod_int ht hf
 exact ⟨z,rfl,λu hu=>by rw [List.mem_singleton.1 hu]; rfl,bulk_pos _⟩⟩
theorem opn_b {t:TypeId} (ht:Tryz.prog.underlying t=some .bool):Opn t 1 repB (λ_=>0):=⟨λhl hf=>by
 obtain ⟨z,rfl,hx⟩:=DataW.trod_bool ht hf
 exact ⟨z,rfl,λu hu=>by rw [List.mem_singleton.1 hu]; rfl,bulk_pos _⟩⟩
theorem opn_n {t e:TypeId} {n:Nat} (ht:Tryz.prog.underlying t=some (.array n e)) (he:Tryz.prog.underlying e=some (.int .u8)) (hce:Tryz.prog.cellsOf e=1) (hct:Tryz.prog.cellsOf t=n):Opn t n (repN n) (λ_=>0):=⟨λ{H enc W fuel cs x} hl hf=>by
 cases fuel with
 | zero=>simp [DataW.trod] at hf
 | succ fuel =>
  simp only [DataW.trod,ht,hce,hct,Nat.mul_one] at hf
  rw [if_pos hl] at hf
  ·obtain ⟨xs,hm,hx⟩:=Option.map_eq_some_iff.1 hf
   have hone:∀ i,i<n→∃ u:UInt8,cs[i]? = some (bv u):=by
    intro i hi
    obtain ⟨b,hb,hf⟩:=Lib.mapM_at hm i i (by simp [hi])
    obtain ⟨z,hc,rfl,hw⟩:=DataW.trod_int he hf
    have h1:cs[i]? = some (.int .u8 z):=by
     have:=congrArg (·[0]?) hc
     simpa [List.getElem?_take,List.getElem?_drop] using this
    have hz:0≤z∧z<256:=by
     simp [Lit.wf,IntKind.bits,IntKind.signed,IntKind.min,IntKind.max] at hw
     omega
    refine ⟨UInt8.ofNat z.toNat,?_⟩
    rw [h1]
    unfold bv
    congr 2
    rw [UInt8.toNat_ofNat']
    omega
   have hcs:∃ b:Byt,cs=b.map bv:=by
    refine ⟨cs.map (λv=>match v with | .int _ z=>UInt8.ofNat z.toNat | _=>0),List.ext_getElem? λi=>?_⟩
    by_cases hi:i<n
    ·obtain ⟨u,hu⟩:=hone i hi
     simp [hu,bv]
    ·have:cs.length≤i:=by omega
     simp [List.getElem?_eq_none this]
   obtain ⟨b,rfl⟩:=hcs
   exact ⟨b,⟨rfl,by simpa using hl⟩,λu hu=>by obtain ⟨w,_,rfl⟩:=List.mem_map.1 hu; rfl,bulk_pos _⟩⟩
theorem opn_l {α:Type} {t e:TypeId} {k:Nat} {rep:Rdr→List Value→α→Prop} {sz:α→Nat} (ht:Tryz.prog.underlying t=some (.slice e)) (hce:Tryz.prog.cellsOf e=k) (hk:0<k) (h:Opn e k rep sz):Opn t 1 (repL k rep) (λl=>l.length+(l.map sz).sum):=⟨λ{H enc W fuel cs x} hl hf=>by
 rcases open_slice ht hf with ⟨rfl,hx⟩ | ⟨a,len,cap,m,n,D,Pl,rfl,_,hlc,hm,hme,hx,hall⟩
 ·exact ⟨[],⟨_,rfl,none,0,0,rfl,rfl,Nat.le_refl _,Nat.zero_le _,λh=>(h rfl).elim⟩,λu hu=>by rw [List.mem_singleton.1 hu]; rfl,bulk_pos _⟩
 ·simp only [if_true] at hme
  subst hme
  rw [hce] at hall
  obtain ⟨l,l1,l2,l3⟩:=list_of (α:=α) (n:=len) (sz:=sz) (D:=D) (p:=λi y=>∃ cs',W.cells? 0 (a.add (i*k)) k=some cs'∧rep (rdW W) cs' y∧∀ u∈cs',u.oneCell'=true) (λi hi=>by
   obtain ⟨cs',h1,h2⟩:=hall i (by omega)
   obtain ⟨y,q1,q2,q3⟩:=h.go (cells_ln h1) h2
   exact ⟨y,⟨cs',h1,q1,q2⟩,q3⟩)
  refine ⟨l,⟨_,rfl,some a,len,m,rfl,l1,hlc,hm,λhne=>?_⟩,λu hu=>by rw [List.mem_singleton.1 hu]; rfl,?_⟩
  ·have hpos:0<l.length:=List.length_pos_iff.2 hne
   obtain ⟨cs0,c1,c2,c3⟩:=l2 0 l[0] (List.getElem?_eq_getElem hpos)
   have c4:=cells_ln c1
   have hcell:=cells_at c1 0 cs0[0] (List.getElem?_eq_getElem (by omega))
   have e0:(a.add (0*k)).add 0=a:=by simp [Addr.add]
   rw [e0] at hcell
   obtain ⟨b,o,rfl,hlt⟩:=cell_in hcell
   refine ⟨b,o,rfl,λj y hy=>?_⟩
   obtain ⟨cs',d1,d2,d3⟩:=l2 j y hy
   refine ⟨cs',cells_ln d1,d3,d2,λi v hi=>⟨hlt,?_⟩⟩
   have:=cells_at d1 i v hi
   rwa [add_in,add_in] at this
  ·subst hx
   simp only [Rows.uptoBulk]
   omega⟩
theorem opn_t {t e:TypeId} (ht:Tryz.prog.underlying t=some (.slice e)) (he:Tryz.prog.underlying e=some (.int .u8)) (hce:Tryz.prog.cellsOf e=1):Opn t 1 repT (λb=>b.length):=(opn_l ht hce Nat.zero_lt_one (opn_o he)).as λC cs l ⟨v,h1,A,n,cp,h2,h3,h4,h5,h6⟩=>⟨l,⟨v,h1,A,n,cp,h2,h3,h4,h5,λhne=>by
 obtain ⟨g,o,e,hq⟩:=h6 hne
 refine ⟨g,o,e,λj u hu=>?_⟩
 obtain ⟨cs',_,_,rfl,q⟩:=hq j u hu
 have:=q 0 (bv u) rfl
 rwa [Nat.mul_one,Nat.add_zero] at this⟩,Nat.le_add_right _ _⟩
theorem opn_s2 {α0 α1:Type} {t:TypeId} {f0 f1:Field} {k0 k1:Nat} {r0:Rdr→List Value→α0→Prop} {r1:Rdr→List Value→α1→Prop} {z0:α0→Nat} {z1:α1→Nat} (ht:Tryz.prog.underlying t=some (.struct #[f0,f1])) (c0:Tryz.prog.cellsOf f0.type=k0) (c1:Tryz.prog.cellsOf f1.type=k1) (o0:f0.offset=0) (o1:f1.offset=0+k0)
  (h0:Opn f0.type k0 r0 z0) (h1:Opn f1.type k1 r1 z1):Opn t (k0+(k1)) (λC cs (y:α0×α1)=>∃ a0 a1:List Value,cs=a0++(a1)∧r0 C a0 y.1∧r1 C a1 y.2) (λy=>z0 y.1+z1 y.2):=⟨λ{H enc W fuel cs x} hl hf=>by
 obtain ⟨xs,m,_,hx,_,hn,hg⟩:=DataW.trod_struct ht hf
 match xs,hn with
 | [y0,y1],_ =>
  have g0:DataW.trod enc Tryz.prog W 0 (λ_=>true) true m f0.type ((cs.drop f0.offset).take (Tryz.prog.cellsOf f0.type))=some y0:=hg 0 f0 rfl
  rw [o0,c0] at g0
  obtain ⟨v0,p0,q0,s0⟩:=h0.go (by rw [List.length_take,List.length_drop]; omega) g0
  have g1:DataW.trod enc Tryz.prog W 0 (λ_=>true) true m f1.type ((cs.drop f1.offset).take (Tryz.prog.cellsOf f1.type))=some y1:=hg 1 f1 rfl
  rw [o1,c1] at g1
  obtain ⟨v1,p1,q1,s1⟩:=h1.go (by rw [List.length_take,List.length_drop]; omega) g1
  have e0:cs.drop (0)=(cs.drop (0)).take k0++cs.drop (0+k0):=by have q:=(List.take_append_drop k0 (cs.drop (0))).symm; rwa [List.drop_drop] at q
  have e1:cs.drop (0+k0)=(cs.drop (0+k0)).take k1:=(List.take_of_length_le (by rw [List.length_drop]; omega)).symm
  have e:cs=(cs.drop (0)).take k0++((cs.drop (0+k0)).take k1):=(List.drop_zero (l:=cs)).symm.trans (e0.trans (congrArg ((cs.drop (0)).take k0++·) (e1)))
  refine ⟨(v0,v1),⟨_,_,e,p0,p1⟩,λu hu=>by rw [e] at hu; exact (ones_app q0 (q1)) u hu,?_⟩
  subst hx
  simp only [Rows.uptoBulk,List.map_cons,List.map_nil,Rows.uptoBulkAll]
  omega⟩
theorem opn_s3 {α0 α1 α2:Type} {t:TypeId} {f0 f1 f2:Field} {k0 k1 k2:Nat} {r0:Rdr→List Value→α0→Prop} {r1:Rdr→List Value→α1→Prop} {r2:Rdr→List Value→α2→Prop} {z0:α0→Nat} {z1:α1→Nat} {z2:α2→Nat} (ht:Tryz.prog.underlying t=some (.struct #[f0,f1,f2])) (c0:Tryz.prog.cellsOf f0.type=k0) (c1:Tryz.prog.cellsOf f1.type=k1) (c2:Tryz.prog.cellsOf f2.type=k2) (o0:f0.offset=0) (o1:f1.offset=0+k0) (o2:f2.offset=0+k0+k1)
  (h0:Opn f0.type k0 r0 z0) (h1:Opn f1.type k1 r1 z1) (h2:Opn f2.type k2 r2 z2):Opn t (k0+(k1+(k2))) (λC cs (y:α0×α1×α2)=>∃ a0 a1 a2:List Value,cs=a0++(a1++(a2))∧r0 C a0 y.1∧r1 C a1 y.2.1∧r2 C a2 y.2.2) (λy=>z0 y.1+z1 y.2.1+z2 y.2.2):=⟨λ{H enc W fuel cs x} hl hf=>by
 obtain ⟨xs,m,_,hx,_,hn,hg⟩:=DataW.trod_struct ht hf
 match xs,hn with
 | [y0,y1,y2],_ =>
  have g0:DataW.trod enc Tryz.prog W 0 (λ_=>true) true m f0.type ((cs.drop f0.offset).take (Tryz.prog.cellsOf f0.type))=some y0:=hg 0 f0 rfl
  rw [o0,c0] at g0
  obtain ⟨v0,p0,q0,s0⟩:=h0.go (by rw [List.length_take,List.length_drop]; omega) g0
  have g1:DataW.trod enc Tryz.prog W 0 (λ_=>true) true m f1.type ((cs.drop f1.offset).take (Tryz.prog.cellsOf f1.type))=some y1:=hg 1 f1 rfl
  rw [o1,c1] at g1
  obtain ⟨v1,p1,q1,s1⟩:=h1.go (by rw [List.length_take,List.length_drop]; omega) g1
  have g2:DataW.trod enc Tryz.prog W 0 (λ_=>true) true m f2.type ((cs.drop f2.offset).take (Tryz.prog.cellsOf f2.type))=some y2:=hg 2 f2 rfl
  rw [o2,c2] at g2
  obtain ⟨v2,p2,q2,s2⟩:=h2.go (by rw [List.length_take,List.length_drop]; omega) g2
  have e0:cs.drop (0)=(cs.drop (0)).take k0++cs.drop (0+k0):=by have q:=(List.take_append_drop k0 (cs.drop (0))).symm; rwa [List.drop_drop] at q
  have e1:cs.drop (0+k0)=(cs.drop (0+k0)).take k1++cs.drop (0+k0+k1):=by have q:=(List.take_append_drop k1 (cs.drop (0+k0))).symm; rwa [List.drop_drop] at q
  have e2:cs.drop (0+k0+k1)=(cs.drop (0+k0+k1)).take k2:=(List.take_of_length_le (by rw [List.length_drop]; omega)).symm
  have e:cs=(cs.drop (0)).take k0++((cs.drop (0+k0)).take k1++((cs.drop (0+k0+k1)).take k2)):=(List.drop_zero (l:=cs)).symm.trans (e0.trans (congrArg ((cs.drop (0)).take k0++·) (e1.trans (congrArg ((cs.drop (0+k0)).take k1++·) (e2)))))
  refine ⟨(v0,v1,v2),⟨_,_,_,e,p0,p1,p2⟩,λu hu=>by rw [e] at hu; exact (ones_app q0 (ones_app q1 (q2))) u hu,?_⟩
  subst hx
  simp only [Rows.uptoBulk,List.map_cons,List.map_nil,Rows.uptoBulkAll]
  omega⟩
theorem opn_s4 {α0 α1 α2 α3:Type} {t:TypeId} {f0 f1 f2 f3:Field} {k0 k1 k2 k3:Nat} {r0:Rdr→List Value→α0→Prop} {r1:Rdr→List Value→α1→Prop} {r2:Rdr→List Value→α2→Prop} {r3:Rdr→List Value→α3→Prop} {z0:α0→Nat} {z1:α1→Nat} {z2:α2→Nat} {z3:α3→Nat} (ht:Tryz.prog.underlying t=some (.struct #[f0,f1,f2,f3])) (c0:Tryz.prog.cellsOf f0.type=k0) (c1:Tryz.prog.cellsOf f1.type=k1) (c2:Tryz.prog.cellsOf f2.type=k2) (c3:Tryz.prog.cellsOf f3.type=k3) (o0:f0.offset=0) (o1:f1.offset=0+k0) (o2:f2.offset=0+k0+k1) (o3:f3.offset=0+k0+k1+k2)
  (h0:Opn f0.type k0 r0 z0) (h1:Opn f1.type k1 r1 z1) (h2:Opn f2.type k2 r2 z2) (h3:Opn f3.type k3 r3 z3):Opn t (k0+(k1+(k2+(k3)))) (λC cs (y:α0×α1×α2×α3)=>∃ a0 a1 a2 a3:List Value,cs=a0++(a1++(a2++(a3)))∧r0 C a0 y.1∧r1 C a1 y.2.1∧r2 C a2 y.2.2.1∧r3 C a3 y.2.2.2) (λy=>z0 y.1+z1 y.2.1+z2 y.2.2.1+z3 y.2.2.2):=⟨λ{H enc W fuel cs x} hl hf=>by
 obtain ⟨xs,m,_,hx,_,hn,hg⟩:=DataW.trod_struct ht hf
 match xs,hn with
 | [y0,y1,y2,y3],_ =>
  have g0:DataW.trod enc Tryz.prog W 0 (λ_=>true) true m f0.type ((cs.drop f0.offset).take (Tryz.prog.cellsOf f0.type))=some y0:=hg 0 f0 rfl
  rw [o0,c0] at g0
  obtain ⟨v0,p0,q0,s0⟩:=h0.go (by rw [List.length_take,List.length_drop]; omega) g0
  have g1:DataW.trod enc Tryz.prog W 0 (λ_=>true) true m f1.type ((cs.drop f1.offset).take (Tryz.prog.cellsOf f1.type))=some y1:=hg 1 f1 rfl
  rw [o1,c1] at g1
  obtain ⟨v1,p1,q1,s1⟩:=h1.go (by rw [List.length_take,List.length_drop]; omega) g1
  have g2:DataW.trod enc Tryz.prog W 0 (λ_=>true) true m f2.type ((cs.drop f2.offset).take (Tryz.prog.cellsOf f2.type))=some y2:=hg 2 f2 rfl
  rw [o2,c2] at g2
  obtain ⟨v2,p2,q2,s2⟩:=h2.go (by rw [List.length_take,List.length_drop]; omega) g2
  have g3:DataW.trod enc Tryz.prog W 0 (λ_=>true) true m f3.type ((cs.drop f3.offset).take (Tryz.prog.cellsOf f3.type))=some y3:=hg 3 f3 rfl
  rw [o3,c3] at g3
  obtain ⟨v3,p3,q3,s3⟩:=h3.go (by rw [List.length_take,List.length_drop]; omega) g3
  have e0:cs.drop (0)=(cs.drop (0)).take k0++cs.drop (0+k0):=by have q:=(List.take_append_drop k0 (cs.drop (0))).symm; rwa [List.drop_drop] at q
  have e1:cs.drop (0+k0)=(cs.drop (0+k0)).take k1++cs.drop (0+k0+k1):=by have q:=(List.take_append_drop k1 (cs.drop (0+k0))).symm; rwa [List.drop_drop] at q
  have e2:cs.drop (0+k0+k1)=(cs.drop (0+k0+k1)).take k2++cs.drop (0+k0+k1+k2):=by have q:=(List.take_append_drop k2 (cs.drop (0+k0+k1))).symm; rwa [List.drop_drop] at q
  have e3:cs.drop (0+k0+k1+k2)=(cs.drop (0+k0+k1+k2)).take k3:=(List.take_of_length_le (by rw [List.length_drop]; omega)).symm
  have e:cs=(cs.drop (0)).take k0++((cs.drop (0+k0)).take k1++((cs.drop (0+k0+k1)).take k2++((cs.drop (0+k0+k1+k2)).take k3))):=(List.drop_zero (l:=cs)).symm.trans (e0.trans (congrArg ((cs.drop (0)).take k0++·) (e1.trans (congrArg ((cs.drop (0+k0)).take k1++·) (e2.trans (congrArg ((cs.drop (0+k0+k1)).take k2++·) (e3)))))))
  refine ⟨(v0,v1,v2,v3),⟨_,_,_,_,e,p0,p1,p2,p3⟩,λu hu=>by rw [e] at hu; exact (ones_app q0 (ones_app q1 (ones_app q2 (q3)))) u hu,?_⟩
  subst hx
  simp only [Rows.uptoBulk,List.map_cons,List.map_nil,Rows.uptoBulkAll]
  omega⟩
theorem opn_s5 {α0 α1 α2 α3 α4:Type} {t:TypeId} {f0 f1 f2 f3 f4:Field} {k0 k1 k2 k3 k4:Nat} {r0:Rdr→List Value→α0→Prop} {r1:Rdr→List Value→α1→Prop} {r2:Rdr→List Value→α2→Prop} {r3:Rdr→List Value→α3→Prop} {r4:Rdr→List Value→α4→Prop} {z0:α0→Nat} {z1:α1→Nat} {z2:α2→Nat} {z3:α3→Nat} {z4:α4→Nat} (ht:Tryz.prog.underlying t=some (.struct #[f0,f1,f2,f3,f4])) (c0:Tryz.prog.cellsOf f0.type=k0) (c1:Tryz.prog.cellsOf f1.type=k1) (c2:Tryz.prog.cellsOf f2.type=k2) (c3:Tryz.prog.cellsOf f3.type=k3) (c4:Tryz.prog.cellsOf f4.type=k4) (o0:f0.offset=0) (o1:f1.offset=0+k0) (o2:f2.offset=0+k0+k1) (o3:f3.offset=0+k0+k1+k2) (o4:f4.offset=0+k0+k1+k2+k3)
  (h0:Opn f0.type k0 r0 z0) (h1:Opn f1.type k1 r1 z1) (h2:Opn f2.type k2 r2 z2) (h3:Opn f3.type k3 r3 z3) (h4:Opn f4.type k4 r4 z4):Opn t (k0+(k1+(k2+(k3+(k4))))) (λC cs (y:α0×α1×α2×α3×α4)=>∃ a0 a1 a2 a3 a4:List Value,cs=a0++(a1++(a2++(a3++(a4))))∧r0 C a0 y.1∧r1 C a1 y.2.1∧r2 C a2 y.2.2.1∧r3 C a3 y.2.2.2.1∧r4 C a4 y.2.2.2.2) (λy=>z0 y.1+z1 y.2.1+z2 y.2.2.1+z3 y.2.2.2.1+z4 y.2.2.2.2):=⟨λ{H enc W fuel cs x} hl hf=>by
 obtain ⟨xs,m,_,hx,_,hn,hg⟩:=DataW.trod_struct ht hf
 match xs,hn with
 | [y0,y1,y2,y3,y4],_ =>
  have g0:DataW.trod enc Tryz.prog W 0 (λ_=>true) true m f0.type ((cs.drop f0.offset).take (Tryz.prog.cellsOf f0.type))=some y0:=hg 0 f0 rfl
  rw [o0,c0] at g0
  obtain ⟨v0,p0,q0,s0⟩:=h0.go (by rw [List.length_take,List.length_drop]; omega) g0
  have g1:DataW.trod enc Tryz.prog W 0 (λ_=>true) true m f1.type ((cs.drop f1.offset).take (Tryz.prog.cellsOf f1.type))=some y1:=hg 1 f1 rfl
  rw [o1,c1] at g1
  obtain ⟨v1,p1,q1,s1⟩:=h1.go (by rw [List.length_take,List.length_drop]; omega) g1
  have g2:DataW.trod enc Tryz.prog W 0 (λ_=>true) true m f2.type ((cs.drop f2.offset).take (Tryz.prog.cellsOf f2.type))=some y2:=hg 2 f2 rfl
  rw [o2,c2] at g2
  obtain ⟨v2,p2,q2,s2⟩:=h2.go (by rw [List.length_take,List.length_drop]; omega) g2
  have g3:DataW.trod enc Tryz.prog W 0 (λ_=>true) true m f3.type ((cs.drop f3.offset).take (Tryz.prog.cellsOf f3.type))=some y3:=hg 3 f3 rfl
  rw [o3,c3] at g3
  obtain ⟨v3,p3,q3,s3⟩:=h3.go (by rw [List.length_take,List.length_drop]; omega) g3
  have g4:DataW.trod enc Tryz.prog W 0 (λ_=>true) true m f4.type ((cs.drop f4.offset).take (Tryz.prog.cellsOf f4.type))=some y4:=hg 4 f4 rfl
  rw [o4,c4] at g4
  obtain ⟨v4,p4,q4,s4⟩:=h4.go (by rw [List.length_take,List.length_drop]; omega) g4
  have e0:cs.drop (0)=(cs.drop (0)).take k0++cs.drop (0+k0):=by have q:=(List.take_append_drop k0 (cs.drop (0))).symm; rwa [List.drop_drop] at q
  have e1:cs.drop (0+k0)=(cs.drop (0+k0)).take k1++cs.drop (0+k0+k1):=by have q:=(List.take_append_drop k1 (cs.drop (0+k0))).symm; rwa [List.drop_drop] at q
  have e2:cs.drop (0+k0+k1)=(cs.drop (0+k0+k1)).take k2++cs.drop (0+k0+k1+k2):=by have q:=(List.take_append_drop k2 (cs.drop (0+k0+k1))).symm; rwa [List.drop_drop] at q
  have e3:cs.drop (0+k0+k1+k2)=(cs.drop (0+k0+k1+k2)).take k3++cs.drop (0+k0+k1+k2+k3):=by have q:=(List.take_append_drop k3 (cs.drop (0+k0+k1+k2))).symm; rwa [List.drop_drop] at q
  have e4:cs.drop (0+k0+k1+k2+k3)=(cs.drop (0+k0+k1+k2+k3)).take k4:=(List.take_of_length_le (by rw [List.length_drop]; omega)).symm
  have e:cs=(cs.drop (0)).take k0++((cs.drop (0+k0)).take k1++((cs.drop (0+k0+k1)).take k2++((cs.drop (0+k0+k1+k2)).take k3++((cs.drop (0+k0+k1+k2+k3)).take k4)))):=(List.drop_zero (l:=cs)).symm.trans (e0.trans (congrArg ((cs.drop (0)).take k0++·) (e1.trans (congrArg ((cs.drop (0+k0)).take k1++·) (e2.trans (congrArg ((cs.drop (0+k0+k1)).take k2++·) (e3.trans (congrArg ((cs.drop (0+k0+k1+k2)).take k3++·) (e4)))))))))
  refine ⟨(v0,v1,v2,v3,v4),⟨_,_,_,_,_,e,p0,p1,p2,p3,p4⟩,λu hu=>by rw [e] at hu; exact (ones_app q0 (ones_app q1 (ones_app q2 (ones_app q3 (q4))))) u hu,?_⟩
  subst hx
  simp only [Rows.uptoBulk,List.map_cons,List.map_nil,Rows.uptoBulkAll]
  omega⟩
theorem opn_s6 {α0 α1 α2 α3 α4 α5:Type} {t:TypeId} {f0 f1 f2 f3 f4 f5:Field} {k0 k1 k2 k3 k4 k5:Nat} {r0:Rdr→List Value→α0→Prop} {r1:Rdr→List Value→α1→Prop} {r2:Rdr→List Value→α2→Prop} {r3:Rdr→List Value→α3→Prop} {r4:Rdr→List Value→α4→Prop} {r5:Rdr→List Value→α5→Prop} {z0:α0→Nat} {z1:α1→Nat} {z2:α2→Nat} {z3:α3→Nat} {z4:α4→Nat} {z5:α5→Nat} (ht:Tryz.prog.underlying t=some (.struct #[f0,f1,f2,f3,f4,f5])) (c0:Tryz.prog.cellsOf f0.type=k0) (c1:Tryz.prog.cellsOf f1.type=k1) (c2:Tryz.prog.cellsOf f2.type=k2) (c3:Tryz.prog.cellsOf f3.type=k3) (c4:Tryz.prog.cellsOf f4.type=k4) (c5:Tryz.prog.cellsOf f5.type=k5) (o0:f0.offset=0) (o1:f1.offset=0+k0) (o2:f2.offset=0+k0+k1) (o3:f3.offset=0+k0+k1+k2) (o4:f4.offset=0+k0+k1+k2+k3) (o5:f5.offset=0+k0+k1+k2+k3+k4)
  (h0:Opn f0.type k0 r0 z0) (h1:Opn f1.type k1 r1 z1) (h2:Opn f2.type k2 r2 z2) (h3:Opn f3.type k3 r3 z3) (h4:Opn f4.type k4 r4 z4) (h5:Opn f5.type k5 r5 z5):Opn t (k0+(k1+(k2+(k3+(k4+(k5)))))) (λC cs (y:α0×α1×α2×α3×α4×α5)=>∃ a0 a1 a2 a3 a4 a5:List Value,cs=a0++(a1++(a2++(a3++(a4++(a5)))))∧r0 C a0 y.1∧r1 C a1 y.2.1∧r2 C a2 y.2.2.1∧r3 C a3 y.2.2.2.1∧r4 C a4 y.2.2.2.2.1∧r5 C a5 y.2.2.2.2.2) (λy=>z0 y.1+z1 y.2.1+z2 y.2.2.1+z3 y.2.2.2.1+z4 y.2.2.2.2.1+z5 y.2.2.2.2.2):=⟨λ{H enc W fuel cs x} hl hf=>by
 obtain ⟨xs,m,_,hx,_,hn,hg⟩:=DataW.trod_struct ht hf
 match xs,hn with
 | [y0,y1,y2,y3,y4,y5],_ =>
  have g0:DataW.trod enc Tryz.prog W 0 (λ_=>true) true m f0.type ((cs.drop f0.offset).take (Tryz.prog.cellsOf f0.type))=some y0:=hg 0 f0 rfl
  rw [o0,c0] at g0
  obtain ⟨v0,p0,q0,s0⟩:=h0.go (by rw [List.length_take,List.length_drop]; omega) g0
  have g1:DataW.trod enc Tryz.prog W 0 (λ_=>true) true m f1.type ((cs.drop f1.offset).take (Tryz.prog.cellsOf f1.type))=some y1:=hg 1 f1 rfl
  rw [o1,c1] at g1
  obtain ⟨v1,p1,q1,s1⟩:=h1.go (by rw [List.length_take,List.length_drop]; omega) g1
  have g2:DataW.trod enc Tryz.prog W 0 (λ_=>true) true m f2.type ((cs.drop f2.offset).take (Tryz.prog.cellsOf f2.type))=some y2:=hg 2 f2 rfl
  rw [o2,c2] at g2
  obtain ⟨v2,p2,q2,s2⟩:=h2.go (by rw [List.length_take,List.length_drop]; omega) g2
  have g3:DataW.trod enc Tryz.prog W 0 (λ_=>true) true m f3.type ((cs.drop f3.offset).take (Tryz.prog.cellsOf f3.type))=some y3:=hg 3 f3 rfl
  rw [o3,c3] at g3
  obtain ⟨v3,p3,q3,s3⟩:=h3.go (by rw [List.length_take,List.length_drop]; omega) g3
  have g4:DataW.trod enc Tryz.prog W 0 (λ_=>true) true m f4.type ((cs.drop f4.offset).take (Tryz.prog.cellsOf f4.type))=some y4:=hg 4 f4 rfl
  rw [o4,c4] at g4
  obtain ⟨v4,p4,q4,s4⟩:=h4.go (by rw [List.length_take,List.length_drop]; omega) g4
  have g5:DataW.trod enc Tryz.prog W 0 (λ_=>true) true m f5.type ((cs.drop f5.offset).take (Tryz.prog.cellsOf f5.type))=some y5:=hg 5 f5 rfl
  rw [o5,c5] at g5
  obtain ⟨v5,p5,q5,s5⟩:=h5.go (by rw [List.length_take,List.length_drop]; omega) g5
  have e0:cs.drop (0)=(cs.drop (0)).take k0++cs.drop (0+k0):=by have q:=(List.take_append_drop k0 (cs.drop (0))).symm; rwa [List.drop_drop] at q
  have e1:cs.drop (0+k0)=(cs.drop (0+k0)).take k1++cs.drop (0+k0+k1):=by have q:=(List.take_append_drop k1 (cs.drop (0+k0))).symm; rwa [List.drop_drop] at q
  have e2:cs.drop (0+k0+k1)=(cs.drop (0+k0+k1)).take k2++cs.drop (0+k0+k1+k2):=by have q:=(List.take_append_drop k2 (cs.drop (0+k0+k1))).symm; rwa [List.drop_drop] at q
  have e3:cs.drop (0+k0+k1+k2)=(cs.drop (0+k0+k1+k2)).take k3++cs.drop (0+k0+k1+k2+k3):=by have q:=(List.take_append_drop k3 (cs.drop (0+k0+k1+k2))).symm; rwa [List.drop_drop] at q
  have e4:cs.drop (0+k0+k1+k2+k3)=(cs.drop (0+k0+k1+k2+k3)).take k4++cs.drop (0+k0+k1+k2+k3+k4):=by have q:=(List.take_append_drop k4 (cs.drop (0+k0+k1+k2+k3))).symm; rwa [List.drop_drop] at q
  have e5:cs.drop (0+k0+k1+k2+k3+k4)=(cs.drop (0+k0+k1+k2+k3+k4)).take k5:=(List.take_of_length_le (by rw [List.length_drop]; omega)).symm
  have e:cs=(cs.drop (0)).take k0++((cs.drop (0+k0)).take k1++((cs.drop (0+k0+k1)).take k2++((cs.drop (0+k0+k1+k2)).take k3++((cs.drop (0+k0+k1+k2+k3)).take k4++((cs.drop (0+k0+k1+k2+k3+k4)).take k5))))):=(List.drop_zero (l:=cs)).symm.trans (e0.trans (congrArg ((cs.drop (0)).take k0++·) (e1.trans (congrArg ((cs.drop (0+k0)).take k1++·) (e2.trans (congrArg ((cs.drop (0+k0+k1)).take k2++·) (e3.trans (congrArg ((cs.drop (0+k0+k1+k2)).take k3++·) (e4.trans (congrArg ((cs.drop (0+k0+k1+k2+k3)).take k4++·) (e5)))))))))))
  refine ⟨(v0,v1,v2,v3,v4,v5),⟨_,_,_,_,_,_,e,p0,p1,p2,p3,p4,p5⟩,λu hu=>by rw [e] at hu; exact (ones_app q0 (ones_app q1 (ones_app q2 (ones_app q3 (ones_app q4 (q5)))))) u hu,?_⟩
  subst hx
  simp only [Rows.uptoBulk,List.map_cons,List.map_nil,Rows.uptoBulkAll]
  omega⟩
theorem opn_s7 {α0 α1 α2 α3 α4 α5 α6:Type} {t:TypeId} {f0 f1 f2 f3 f4 f5 f6:Field} {k0 k1 k2 k3 k4 k5 k6:Nat} {r0:Rdr→List Value→α0→Prop} {r1:Rdr→List Value→α1→Prop} {r2:Rdr→List Value→α2→Prop} {r3:Rdr→List Value→α3→Prop} {r4:Rdr→List Value→α4→Prop} {r5:Rdr→List Value→α5→Prop} {r6:Rdr→List Value→α6→Prop} {z0:α0→Nat} {z1:α1→Nat} {z2:α2→Nat} {z3:α3→Nat} {z4:α4→Nat} {z5:α5→Nat} {z6:α6→Nat} (ht:Tryz.prog.underlying t=some (.struct #[f0,f1,f2,f3,f4,f5,f6])) (c0:Tryz.prog.cellsOf f0.type=k0) (c1:Tryz.prog.cellsOf f1.type=k1) (c2:Tryz.prog.cellsOf f2.type=k2) (c3:Tryz.prog.cellsOf f3.type=k3) (c4:Tryz.prog.cellsOf f4.type=k4) (c5:Tryz.prog.cellsOf f5.type=k5) (c6:Tryz.prog.cellsOf f6.type=k6) (o0:f0.offset=0) (o1:f1.offset=0+k0) (o2:f2.offset=0+k0+k1) (o3:f3.offset=0+k0+k1+k2) (o4:f4.offset=0+k0+k1+k2+k3) (o5:f5.offset=0+k0+k1+k2+k3+k4) (o6:f6.offset=0+k0+k1+k2+k3+k4+k5)
  (h0:Opn f0.type k0 r0 z0) (h1:Opn f1.type k1 r1 z1) (h2:Opn f2.type k2 r2 z2) (h3:Opn f3.type k3 r3 z3) (h4:Opn f4.type k4 r4 z4) (h5:Opn f5.type k5 r5 z5) (h6:Opn f6.type k6 r6 z6):Opn t (k0+(k1+(k2+(k3+(k4+(k5+(k6))))))) (λC cs (y:α0×α1×α2×α3×α4×α5×α6)=>∃ a0 a1 a2 a3 a4 a5 a6:List Value,cs=a0++(a1++(a2++(a3++(a4++(a5++(a6))))))∧r0 C a0 y.1∧r1 C a1 y.2.1∧r2 C a2 y.2.2.1∧r3 C a3 y.2.2.2.1∧r4 C a4 y.2.2.2.2.1∧r5 C a5 y.2.2.2.2.2.1∧r6 C a6 y.2.2.2.2.2.2) (λy=>z0 y.1+z1 y.2.1+z2 y.2.2.1+z3 y.2.2.2.1+z4 y.2.2.2.2.1+z5 y.2.2.2.2.2.1+z6 y.2.2.2.2.2.2):=⟨λ{H enc W fuel cs x} hl hf=>by
 obtain ⟨xs,m,_,hx,_,hn,hg⟩:=DataW.trod_struct ht hf
 match xs,hn with
 | [y0,y1,y2,y3,y4,y5,y6],_ =>
  have g0:DataW.trod enc Tryz.prog W 0 (λ_=>true) true m f0.type ((cs.drop f0.offset).take (Tryz.prog.cellsOf f0.type))=some y0:=hg 0 f0 rfl
  rw [o0,c0] at g0
  obtain ⟨v0,p0,q0,s0⟩:=h0.go (by rw [List.length_take,List.length_drop]; omega) g0
  have g1:DataW.trod enc Tryz.prog W 0 (λ_=>true) true m f1.type ((cs.drop f1.offset).take (Tryz.prog.cellsOf f1.type))=some y1:=hg 1 f1 rfl
  rw [o1,c1] at g1
  obtain ⟨v1,p1,q1,s1⟩:=h1.go (by rw [List.length_take,List.length_drop]; omega) g1
  have g2:DataW.trod enc Tryz.prog W 0 (λ_=>true) true m f2.type ((cs.drop f2.offset).take (Tryz.prog.cellsOf f2.type))=some y2:=hg 2 f2 rfl
  rw [o2,c2] at g2
  obtain ⟨v2,p2,q2,s2⟩:=h2.go (by rw [List.length_take,List.length_drop]; omega) g2
  have g3:DataW.trod enc Tryz.prog W 0 (λ_=>true) true m f3.type ((cs.drop f3.offset).take (Tryz.prog.cellsOf f3.type))=some y3:=hg 3 f3 rfl
  rw [o3,c3] at g3
  obtain ⟨v3,p3,q3,s3⟩:=h3.go (by rw [List.length_take,List.length_drop]; omega) g3
  have g4:DataW.trod enc Tryz.prog W 0 (λ_=>true) true m f4.type ((cs.drop f4.offset).take (Tryz.prog.cellsOf f4.type))=some y4:=hg 4 f4 rfl
  rw [o4,c4] at g4
  obtain ⟨v4,p4,q4,s4⟩:=h4.go (by rw [List.length_take,List.length_drop]; omega) g4
  have g5:DataW.trod enc Tryz.prog W 0 (λ_=>true) true m f5.type ((cs.drop f5.offset).take (Tryz.prog.cellsOf f5.type))=some y5:=hg 5 f5 rfl
  rw [o5,c5] at g5
  obtain ⟨v5,p5,q5,s5⟩:=h5.go (by rw [List.length_take,List.length_drop]; omega) g5
  have g6:DataW.trod enc Tryz.prog W 0 (λ_=>true) true m f6.type ((cs.drop f6.offset).take (Tryz.prog.cellsOf f6.type))=some y6:=hg 6 f6 rfl
  rw [o6,c6] at g6
  obtain ⟨v6,p6,q6,s6⟩:=h6.go (by rw [List.length_take,List.length_drop]; omega) g6
  have e0:cs.drop (0)=(cs.drop (0)).take k0++cs.drop (0+k0):=by have q:=(List.take_append_drop k0 (cs.drop (0))).symm; rwa [List.drop_drop] at q
  have e1:cs.drop (0+k0)=(cs.drop (0+k0)).take k1++cs.drop (0+k0+k1):=by have q:=(List.take_append_drop k1 (cs.drop (0+k0))).symm; rwa [List.drop_drop] at q
  have e2:cs.drop (0+k0+k1)=(cs.drop (0+k0+k1)).take k2++cs.drop (0+k0+k1+k2):=by have q:=(List.take_append_drop k2 (cs.drop (0+k0+k1))).symm; rwa [List.drop_drop] at q
  have e3:cs.drop (0+k0+k1+k2)=(cs.drop (0+k0+k1+k2)).take k3++cs.drop (0+k0+k1+k2+k3):=by have q:=(List.take_append_drop k3 (cs.drop (0+k0+k1+k2))).symm; rwa [List.drop_drop] at q
  have e4:cs.drop (0+k0+k1+k2+k3)=(cs.drop (0+k0+k1+k2+k3)).take k4++cs.drop (0+k0+k1+k2+k3+k4):=by have q:=(List.take_append_drop k4 (cs.drop (0+k0+k1+k2+k3))).symm; rwa [List.drop_drop] at q
  have e5:cs.drop (0+k0+k1+k2+k3+k4)=(cs.drop (0+k0+k1+k2+k3+k4)).take k5++cs.drop (0+k0+k1+k2+k3+k4+k5):=by have q:=(List.take_append_drop k5 (cs.drop (0+k0+k1+k2+k3+k4))).symm; rwa [List.drop_drop] at q
  have e6:cs.drop (0+k0+k1+k2+k3+k4+k5)=(cs.drop (0+k0+k1+k2+k3+k4+k5)).take k6:=(List.take_of_length_le (by rw [List.length_drop]; omega)).symm
  have e:cs=(cs.drop (0)).take k0++((cs.drop (0+k0)).take k1++((cs.drop (0+k0+k1)).take k2++((cs.drop (0+k0+k1+k2)).take k3++((cs.drop (0+k0+k1+k2+k3)).take k4++((cs.drop (0+k0+k1+k2+k3+k4)).take k5++((cs.drop (0+k0+k1+k2+k3+k4+k5)).take k6)))))):=(List.drop_zero (l:=cs)).symm.trans (e0.trans (congrArg ((cs.drop (0)).take k0++·) (e1.trans (congrArg ((cs.drop (0+k0)).take k1++·) (e2.trans (congrArg ((cs.drop (0+k0+k1)).take k2++·) (e3.trans (congrArg ((cs.drop (0+k0+k1+k2)).take k3++·) (e4.trans (congrArg ((cs.drop (0+k0+k1+k2+k3)).take k4++·) (e5.trans (congrArg ((cs.drop (0+k0+k1+k2+k3+k4)).take k5++·) (e6)))))))))))))
  refine ⟨(v0,v1,v2,v3,v4,v5,v6),⟨_,_,_,_,_,_,_,e,p0,p1,p2,p3,p4,p5,p6⟩,λu hu=>by rw [e] at hu; exact (ones_app q0 (ones_app q1 (ones_app q2 (ones_app q3 (ones_app q4 (ones_app q5 (q6))))))) u hu,?_⟩
  subst hx
  simp only [Rows.uptoBulk,List.map_cons,List.map_nil,Rows.uptoBulkAll]
  omega⟩
theorem opn_s8 {α0 α1 α2 α3 α4 α5 α6 α7:Type} {t:TypeId} {f0 f1 f2 f3 f4 f5 f6 f7:Field} {k0 k1 k2 k3 k4 k5 k6 k7:Nat} {r0:Rdr→List Value→α0→Prop} {r1:Rdr→List Value→α1→Prop} {r2:Rdr→List Value→α2→Prop} {r3:Rdr→List Value→α3→Prop} {r4:Rdr→List Value→α4→Prop} {r5:Rdr→List Value→α5→Prop} {r6:Rdr→List Value→α6→Prop} {r7:Rdr→List Value→α7→Prop} {z0:α0→Nat} {z1:α1→Nat} {z2:α2→Nat} {z3:α3→Nat} {z4:α4→Nat} {z5:α5→Nat} {z6:α6→Nat} {z7:α7→Nat} (ht:Tryz.prog.underlying t=some (.struct #[f0,f1,f2,f3,f4,f5,f6,f7])) (c0:Tryz.prog.cellsOf f0.type=k0) (c1:Tryz.prog.cellsOf f1.type=k1) (c2:Tryz.prog.cellsOf f2.type=k2) (c3:Tryz.prog.cellsOf f3.type=k3) (c4:Tryz.prog.cellsOf f4.type=k4) (c5:Tryz.prog.cellsOf f5.type=k5) (c6:Tryz.prog.cellsOf f6.type=k6) (c7:Tryz.prog.cellsOf f7.type=k7) (o0:f0.offset=0) (o1:f1.offset=0+k0) (o2:f2.offset=0+k0+k1) (o3:f3.offset=0+k0+k1+k2) (o4:f4.offset=0+k0+k1+k2+k3) (o5:f5.offset=0+k0+k1+k2+k3+k4) (o6:f6.offset=0+k0+k1+k2+k3+k4+k5) (o7:f7.offset=0+k0+k1+k2+k3+k4+k5+k6)
  (h0:Opn f0.type k0 r0 z0) (h1:Opn f1.type k1 r1 z1) (h2:Opn f2.type k2 r2 z2) (h3:Opn f3.type k3 r3 z3) (h4:Opn f4.type k4 r4 z4) (h5:Opn f5.type k5 r5 z5) (h6:Opn f6.type k6 r6 z6) (h7:Opn f7.type k7 r7 z7):Opn t (k0+(k1+(k2+(k3+(k4+(k5+(k6+(k7)))))))) (λC cs (y:α0×α1×α2×α3×α4×α5×α6×α7)=>∃ a0 a1 a2 a3 a4 a5 a6 a7:List Value,cs=a0++(a1++(a2++(a3++(a4++(a5++(a6++(a7)))))))∧r0 C a0 y.1∧r1 C a1 y.2.1∧r2 C a2 y.2.2.1∧r3 C a3 y.2.2.2.1∧r4 C a4 y.2.2.2.2.1∧r5 C a5 y.2.2.2.2.2.1∧r6 C a6 y.2.2.2.2.2.2.1∧r7 C a7 y.2.2.2.2.2.2.2) (λy=>z0 y.1+z1 y.2.1+z2 y.2.2.1+z3 y.2.2.2.1+z4 y.2.2.2.2.1+z5 y.2.2.2.2.2.1+z6 y.2.2.2.2.2.2.1+z7 y.2.2.2.2.2.2.2):=⟨λ{H enc W fuel cs x} hl hf=>by
 obtain ⟨xs,m,_,hx,_,hn,hg⟩:=DataW.trod_struct ht hf
 match xs,hn with
 | [y0,y1,y2,y3,y4,y5,y6,y7],_ =>
  have g0:DataW.trod enc Tryz.prog W 0 (λ_=>true) true m f0.type ((cs.drop f0.offset).take (Tryz.prog.cellsOf f0.type))=some y0:=hg 0 f0 rfl
  rw [o0,c0] at g0
  obtain ⟨v0,p0,q0,s0⟩:=h0.go (by rw [List.length_take,List.length_drop]; omega) g0
  have g1:DataW.trod enc Tryz.prog W 0 (λ_=>true) true m f1.type ((cs.drop f1.offset).take (Tryz.prog.cellsOf f1.type))=some y1:=hg 1 f1 rfl
  rw [o1,c1] at g1
  obtain ⟨v1,p1,q1,s1⟩:=h1.go (by rw [List.length_take,List.length_drop]; omega) g1
  have g2:DataW.trod enc Tryz.prog W 0 (λ_=>true) true m f2.type ((cs.drop f2.offset).take (Tryz.prog.cellsOf f2.type))=some y2:=hg 2 f2 rfl
  rw [o2,c2] at g2
  obtain ⟨v2,p2,q2,s2⟩:=h2.go (by rw [List.length_take,List.length_drop]; omega) g2
  have g3:DataW.trod enc Tryz.prog W 0 (λ_=>true) true m f3.type ((cs.drop f3.offset).take (Tryz.prog.cellsOf f3.type))=some y3:=hg 3 f3 rfl
  rw [o3,c3] at g3
  obtain ⟨v3,p3,q3,s3⟩:=h3.go (by rw [List.length_take,List.length_drop]; omega) g3
  have g4:DataW.trod enc Tryz.prog W 0 (λ_=>true) true m f4.type ((cs.drop f4.offset).take (Tryz.prog.cellsOf f4.type))=some y4:=hg 4 f4 rfl
  rw [o4,c4] at g4
  obtain ⟨v4,p4,q4,s4⟩:=h4.go (by rw [List.length_take,List.length_drop]; omega) g4
  have g5:DataW.trod enc Tryz.prog W 0 (λ_=>true) true m f5.type ((cs.drop f5.offset).take (Tryz.prog.cellsOf f5.type))=some y5:=hg 5 f5 rfl
  rw [o5,c5] at g5
  obtain ⟨v5,p5,q5,s5⟩:=h5.go (by rw [List.length_take,List.length_drop]; omega) g5
  have g6:DataW.trod enc Tryz.prog W 0 (λ_=>true) true m f6.type ((cs.drop f6.offset).take (Tryz.prog.cellsOf f6.type))=some y6:=hg 6 f6 rfl
  rw [o6,c6] at g6
  obtain ⟨v6,p6,q6,s6⟩:=h6.go (by rw [List.length_take,List.length_drop]; omega) g6
  have g7:DataW.trod enc Tryz.prog W 0 (λ_=>true) true m f7.type ((cs.drop f7.offset).take (Tryz.prog.cellsOf f7.type))=some y7:=hg 7 f7 rfl
  rw [o7,c7] at g7
  obtain ⟨v7,p7,q7,s7⟩:=h7.go (by rw [List.length_take,List.length_drop]; omega) g7
  have e0:cs.drop (0)=(cs.drop (0)).take k0++cs.drop (0+k0):=by have q:=(List.take_append_drop k0 (cs.drop (0))).symm; rwa [List.drop_drop] at q
  have e1:cs.drop (0+k0)=(cs.drop (0+k0)).take k1++cs.drop (0+k0+k1):=by have q:=(List.take_append_drop k1 (cs.drop (0+k0))).symm; rwa [List.drop_drop] at q
  have e2:cs.drop (0+k0+k1)=(cs.drop (0+k0+k1)).take k2++cs.drop (0+k0+k1+k2):=by have q:=(List.take_append_drop k2 (cs.drop (0+k0+k1))).symm; rwa [List.drop_drop] at q
  have e3:cs.drop (0+k0+k1+k2)=(cs.drop (0+k0+k1+k2)).take k3++cs.drop (0+k0+k1+k2+k3):=by have q:=(List.take_append_drop k3 (cs.drop (0+k0+k1+k2))).symm; rwa [List.drop_drop] at q
  have e4:cs.drop (0+k0+k1+k2+k3)=(cs.drop (0+k0+k1+k2+k3)).take k4++cs.drop (0+k0+k1+k2+k3+k4):=by have q:=(List.take_append_drop k4 (cs.drop (0+k0+k1+k2+k3))).symm; rwa [List.drop_drop] at q
  have e5:cs.drop (0+k0+k1+k2+k3+k4)=(cs.drop (0+k0+k1+k2+k3+k4)).take k5++cs.drop (0+k0+k1+k2+k3+k4+k5):=by have q:=(List.take_append_drop k5 (cs.drop (0+k0+k1+k2+k3+k4))).symm; rwa [List.drop_drop] at q
  have e6:cs.drop (0+k0+k1+k2+k3+k4+k5)=(cs.drop (0+k0+k1+k2+k3+k4+k5)).take k6++cs.drop (0+k0+k1+k2+k3+k4+k5+k6):=by have q:=(List.take_append_drop k6 (cs.drop (0+k0+k1+k2+k3+k4+k5))).symm; rwa [List.drop_drop] at q
  have e7:cs.drop (0+k0+k1+k2+k3+k4+k5+k6)=(cs.drop (0+k0+k1+k2+k3+k4+k5+k6)).take k7:=(List.take_of_length_le (by rw [List.length_drop]; omega)).symm
  have e:cs=(cs.drop (0)).take k0++((cs.drop (0+k0)).take k1++((cs.drop (0+k0+k1)).take k2++((cs.drop (0+k0+k1+k2)).take k3++((cs.drop (0+k0+k1+k2+k3)).take k4++((cs.drop (0+k0+k1+k2+k3+k4)).take k5++((cs.drop (0+k0+k1+k2+k3+k4+k5)).take k6++((cs.drop (0+k0+k1+k2+k3+k4+k5+k6)).take k7))))))):=(List.drop_zero (l:=cs)).symm.trans (e0.trans (congrArg ((cs.drop (0)).take k0++·) (e1.trans (congrArg ((cs.drop (0+k0)).take k1++·) (e2.trans (congrArg ((cs.drop (0+k0+k1)).take k2++·) (e3.trans (congrArg ((cs.drop (0+k0+k1+k2)).take k3++·) (e4.trans (congrArg ((cs.drop (0+k0+k1+k2+k3)).take k4++·) (e5.trans (congrArg ((cs.drop (0+k0+k1+k2+k3+k4)).take k5++·) (e6.trans (congrArg ((cs.drop (0+k0+k1+k2+k3+k4+k5)).take k6++·) (e7)))))))))))))))
  refine ⟨(v0,v1,v2,v3,v4,v5,v6,v7),⟨_,_,_,_,_,_,_,_,e,p0,p1,p2,p3,p4,p5,p6,p7⟩,λu hu=>by rw [e] at hu; exact (ones_app q0 (ones_app q1 (ones_app q2 (ones_app q3 (ones_app q4 (ones_app q5 (ones_app q6 (q7)))))))) u hu,?_⟩
  subst hx
  simp only [Rows.uptoBulk,List.map_cons,List.map_nil,Rows.uptoBulkAll]
  omega⟩
theorem arg_s {α:Type} {t:TypeId} {k:Nat} {rep:Rdr→List Value→α→Prop} {sz:α→Nat} (h:Opn t k rep sz) {fs:Array Field} (ht:Tryz.prog.underlying t=some (.struct fs)) (hk:Tryz.prog.cellsOf t=k) {H:Type} {enc:TypeId×Value→H} {W:World} {r:Reach} {b0:Nat} {v:Value} {d:DataW H} {ps:List MemPlace} (hval:Value.okWide Tryz.prog W r b0 t v) (hT:DataW.Trod enc Tryz.prog W 0 (λ_=>true) true t v d ps) :
  ∃ cs y,v=.agg cs.toArray∧cs.length=k∧rep (rdW W) cs y∧sz y<Rows.uptoBulk d:=by
 obtain ⟨⟨cs⟩,rfl,hsz⟩:=okWide_struct ht hval
 rw [hk] at hsz
 obtain ⟨fuel,hf⟩:=hT
 obtain ⟨y,h1,h2,h3⟩:=h.go (by simpa using hsz) (show DataW.trod enc Tryz.prog W 0 (λ_=>true) true fuel t cs=some (d,ps) by simpa [Value.cells] using hf)
 exact ⟨cs,y,rfl,by simpa using hsz,h1,h3⟩
theorem opn_raw:Opn 29 1 repT (λb=>b.length):=opn_t Tryz.underlying29 Tryz.underlying5 (by kernel_rfl)
theorem opn_dg:Opn 28 32 (repN 32) (λ_=>0):=opn_n Tryz.underlying28 Tryz.underlying5 (by kernel_rfl) (by kernel_rfl)
theorem opn_u64:Opn 22 1 repU (λ_=>0):=opn_u Tryz.underlying22
theorem opn_mhd:Opn 54 66 repMH (λ_=>0):=(opn_s4 Tryz.underlying54 (by kernel_rfl) (by kernel_rfl) (by kernel_rfl) (by kernel_rfl) (by kernel_rfl) (by kernel_rfl) (by kernel_rfl) (by kernel_rfl) opn_dg opn_dg opn_u64 opn_u64).as λC cs (a,b,c,d) ⟨a0,a1,a2,a3,e,⟨e0,h0⟩,⟨e1,h1⟩,⟨e2,h2⟩,⟨e3,h3⟩⟩=>by
 subst e0 e1 e2 e3 e
 exact ⟨⟨a,b,c,d⟩,⟨rfl,h0,h1,h2,h3⟩,Nat.zero_le _⟩
end Wr
end
section
namespace Wr
open Go.RowKit Sy
set_option maxRecDepth 100000
set_option maxHeartbeats 4000000
def erE (ok:Bool):Int:=if ok then 0 else 120
def byE (ok:Bool) (e:Byt):Byt:=if ok then e else []
theorem BytE.uni {ok:Bool} {e:Byt} {v:Value} {M:Blocks} (h:BytE ok e v M):∃ u,v=.tuple #[u,.int .i64 (erE ok)]∧BytR (rdB M) u (byE ok e):=by
 rcases h with ⟨rfl,u,rfl,h⟩ | ⟨rfl,rfl,rfl⟩
 ·exact ⟨u,rfl,h.byt⟩
 ·exact ⟨_,rfl,BytR.nil _⟩
theorem rdB_world {w0:Base} {w:World} {L R:Blocks} (hw:St w0 w L) (hR:∀ b∈R,b∈L):Le (rdB R) (rdW w):=λg o v h=>rdC_world hw hR g o v (.inr h)
end Wr
end
section
namespace Wr
open Go.RowKit Sy
set_option maxRecDepth 100000
set_option maxHeartbeats 4000000
def octB (z:Int):UInt8:=UInt8.ofNat (z%256).toNat
def okO (z:Int):Bool:=decide (0≤z) && decide (z≤255)
theorem conv_i8 (w:World) (F:Slots) (o:Oper) (x:Operand) (z:Int) (ho:o.op=.convert 3 5 x) (hx:evF F x=.int .i64 z):(execOp (evF F) o).run Tryz.prog w=.ok (.value (bv (octB z))) w:=by
 have e:(octB z).toNat=(z%256).toNat:=by unfold octB; rw [UInt8.toNat_ofNat']; omega
 have h:(convert 3 5 (.int .i64 z)).run Tryz.prog w=.ok (bv (octB z)) w:=by
  unfold bv
  rw [e]
  go_simp
  show z%256=max (z%256) 0
  omega
 unfold execOp
 simp only [ho,hx,Sem.run_bind,h,Result.andThen_ok,Sem.run_pure]
theorem octet_w (w0:Base) (gc gw gx f:Nat) (bad:Bool) (s:Slc) (R:Blocks) (b:Byt) (z:Int) (hc:rdC w0 R gx f (.int .i64 z)) (hb:BS s b) (hl:b.length+1≤70368744177000) (w:World) (hw:St w0 w (CWS gc gw bad s R)) :
  Calls Tryz.prog 113 #[ptr gc,.pointer (some ⟨gx,f,none⟩)] w (Turns w0 (WrC gc gw R (okO z) [octB z] 1 bad b)):=by
 refine Sy.enterT (args:=[ptr gc,.pointer (some ⟨gx,f,none⟩)]) hw Tryz.func113 rfl kL ?_
 refine sC ?_
 refine sp rfl<|sS (.bool false) (qg (λw hw=>reads_w w0.inn gc _ _ (List.mem_cons_self ..) w hw)) ?_
 refine sG<|sU<|sC ?_
 obtain ⟨ok,hok⟩:∃ ok,ok=okO z:=⟨_,rfl⟩
 obtain ⟨b1,hb1⟩:∃ b1:Bool,b1=decide (0≤z):=⟨_,rfl⟩
 obtain ⟨b2,hb2⟩:∃ b2:Bool,b2=decide (z≤255):=⟨_,rfl⟩
 have e:ok=(b1 && b2):=by rw [hok,hb1,hb2]; rfl
 rw [← hok]
 refine sp rfl<|sp rfl<|sp rfl<|sS (.int .i64 z) (cellC (R:=R) hc inCW rfl Tryz.underlying3)<|sS (.bool b1) (Quiet.pure (exec_int .geq _ _ _ .i64 _ _ _ rfl rfl rfl (int_geq _ _ _ _ _ (by rw [hb1]))))<|sp rfl ?_
 cases b1
 case' false =>
  obtain rfl:ok=false:=e
  refine sN<|sN<|sN<|sN<|sP (.bool false) ?_
  refine Sy.callT (λw hw=>must_w w0.inn gc gw bad false s R w hw) (λu M hM=>?_)
 case' true =>
  obtain rfl:ok=b2:=e
  refine sp rfl<|sp rfl<|sS (.int .i64 z) (cellC (R:=R) hc inCW rfl Tryz.underlying3)<|sS (.bool ok) (Quiet.pure (exec_int .leq _ _ _ .i64 _ _ _ rfl rfl rfl (int_leq _ _ _ _ _ (by rw [hb2]))))<|sP (.bool ok) ?_
  refine Sy.callT (λw hw=>must_w w0.inn gc gw bad ok s R w hw) (λu M hM=>?_)
 all_goals
  subst hM
  refine Sy.nil<|Sy.then_ ?_
  refine Sy.regionD (λj=>j == 8) kR ?_
  refine sa 0 rfl rfl<|sa 1 rfl rfl<|sb 2 rfl (.pointer (some ⟨gc,0,none⟩))<|sD 3 rfl (ptr gw) (qc 0 0 rfl rfl Tryz.underlying122)<|sa 4 rfl rfl<|sa 5 rfl rfl<|se 6 [7,8] rfl (.int .i64 z) (cellC (R:=R) hc inCW rfl Tryz.underlying3)<|sv 7 rfl (bv (octB z)) (λw=>conv_i8 w _ _ _ z rfl rfl) ?_
  refine Sy.soleD 8 rfl (λQ2 hq2=>?_)
 ·refine Sy.callT (λw hw=>byte_any w0.inn gw s ((gc,126,#[ptr gw,.pointer none,.bool (bad || !ok)])::R) b (octB z) hb (by omega) w (hw.perm permCW)) (λu M hM=>?_)
  obtain ⟨s1,hs1,rfl⟩:=hM
  refine Sy.permS permCW.symm ?_
  refine hq2 _ _ ?_
  refine sE ?_
  exact Sy.retT0 rfl (CWS gc gw (bad || !ok) s1 R) (λ_ h=>h) (λ_=>⟨s1,bad || !ok,b++[octB z],⟨rfl,λ_=>rfl,by rw [List.length_append]; exact Nat.le_refl _⟩,hs1,rfl⟩)
 ·refine Sy.callT (λw hw=>byte_any w0.inn gw s ((gc,126,#[ptr gw,.pointer none,.bool (bad || !false)])::R) b (octB z) hb (by omega) w (hw.perm permCW)) (λu M hM=>?_)
  obtain ⟨s1,hs1,rfl⟩:=hM
  refine Sy.permS permCW.symm ?_
  refine hq2 _ _ ?_
  refine sE ?_
  exact Sy.retT0 rfl (CWS gc gw (bad || !false) s1 R) (λ_ h=>h) (λ_=>⟨s1,bad || !false,b++[octB z],⟨rfl,λh=>(by cases bad <;> cases h),by rw [List.length_append]; exact Nat.le_refl _⟩,hs1,rfl⟩)
def zOut:List Value:=(.int .i64 0::.bool false::(List.replicate 32 (.int .u8 0)++(List.replicate 8 (.int .u64 0)++(.bool false::.bool false::(List.replicate 9 (.int .u64 0)++(.bool false::List.replicate 4 (.slice none 0 0)))))))
def repOZ (_:Rdr) (cs:List Value) (_:Unit):Prop:=cs=zOut
theorem monoOZ:Mono repOZ:=λ_ h=>h
theorem outz_w:PutC 65 58 repOZ (λ_=>false) (λ_=>[]) (λ_=>1):=λw0 gc gw gx f bad s R b cs x hx _ hc hb hl w hw=>by
 obtain rfl:cs=zOut:=hx
 have h0:rdC w0 R gx f (.int .i64 0):=XAt.one hc
 refine Sy.enterT (args:=[ptr gc,.pointer (some ⟨gx,f,none⟩)]) hw Tryz.func65 rfl kL ?_
 refine sC ?_
 refine sp rfl<|sp rfl<|sp rfl<|sP (.pointer (some ⟨gx,f,none⟩)) ?_
 refine Sy.callT (λw hw=>octet_w w0.inn gc gw gx f bad s R b 0 h0 hb (by omega) w hw) (λu M hM=>?_)
 obtain ⟨s1,bad1,b1,q1,q2,rfl⟩:=hM
 refine sA ?_
 refine sp rfl<|sp rfl<|sP (.pointer (some ⟨gx,f,none⟩))<|sS (.int .i64 0) (cellC (R:=R) h0 inCW rfl Tryz.underlying3) ?_
 refine sG<|Sy.block<|Sy.seq<|Sy.block<|Sy.seq<|Sy.block<|Sy.block<|Sy.block<|Sy.block<|Sy.seq<|Sy.seq<|sC ?_
 refine sP (.bool false)<|sp rfl ?_
 refine sG<|sU<|Sy.skip<|Sy.then_<|Sy.seq<|sC ?_
 refine sP (.bool false)<|sp rfl ?_
 refine sG<|sU<|Sy.skip<|Sy.then_<|Sy.seq<|sC ?_
 refine sP (.bool false)<|sp rfl ?_
 refine sG<|sU<|Sy.skip<|Sy.then_<|sC ?_
 refine sP (.bool false)<|sp rfl ?_
 refine sG<|sU<|Sy.skip<|Sy.then_<|Sy.exit ?_
 refine Sy.in_pass (by decide) ?_
 refine Sy.in_pass (by decide) ?_
 refine Sy.in_pass (by decide) ?_
 refine Sy.in_pass (by decide) ?_
 refine Sy.then_exit<|Sy.in_exit<|sB ?_
 refine sp rfl ?_
 refine Sy.callT (λw hw=>must_w w0.inn gc gw bad1 false s1 R w hw) (λu M hM=>?_)
 subst hM
 refine sG<|Sy.exit<|Sy.in_exit ?_
 exact Sy.retT0 rfl (CWS gc gw (bad1 || !false) s1 R) (λ_ h=>h) (λ_=>⟨s1,bad1 || !false,b1,⟨by cases bad1 <;> cases bad <;> rfl,λh=>(by cases bad1 <;> cases h),q1.len⟩,q2,rfl⟩)
theorem write_outz {α:Type} {rep:Rdr→List Value→α→Prop} {ok:α→Bool} {enc:α→Byt} {wt:α→Nat} (hm:Mono rep) (hp:PutC 65 58 rep ok enc wt) (w:World) (cs:List Value) (x:α) (hx:rep (rdW w) cs x) (hl:cs.length=58) (hwt:wt x≤70368744170000) :
  Calls Tryz.prog 79 #[.agg cs.toArray,.func (.func 65) #[] #[]] w (GetsN w (BytE (ok x) (enc x))):=by
 refine Sy.enter (args:=[.agg cs.toArray,.func (.func 65) #[] #[]]) Tryz.func79 rfl kL ?_
 refine sC ?_
 refine sM 88 cs.toArray (λgx=>?_) kR (λw=>run_boxR rfl rfl (by kernel_rfl) hl w)
 refine sP (.slice none 0 0)<|sP (.int .i64 0) ?_
 refine sA ?_
 refine Sy.callN kR 59 #[] kF _ (λw _=>new_any w) (λv M hM=>?_)
 obtain ⟨gw,rfl,rfl⟩:=hM
 refine sP (.agg #[ptr gw,.pointer none,.bool false])<|sM 126 #[ptr gw,.pointer none,.bool false] (λgc=>?_)
 refine sp rfl ?_
 refine sA ?_
 refine Sy.permS (M:=CWS gc gw false nilS [(gx,88,cs.toArray)]) (Sy.perm_at [2,1,0] (by kernel_rfl) (by rfl)) ?_
 refine sp rfl<|sp rfl ?_
 refine Sy.callT (λw' hw=>hp (Base.of w) gc gw gx 0 false nilS [(gx,88,cs.toArray)] [] cs x (hm rdW_base hx) hl (memX (List.mem_singleton.2 rfl)) BS.nil (by show 0+_≤_; omega) w' hw) (λv M hM=>?_)
 obtain ⟨s,bad,b,q1,q2,rfl⟩:=hM
 have hbl:b.length≤wt x:=by have:=q1.len; simpa using this
 refine sG<|Sy.seq<|sC ?_
 refine sp rfl<|sp rfl<|sP (.pointer (some ⟨gc,2,none⟩))<|sS (.bool bad) (qc 0 2 rfl rfl Tryz.underlying4) ?_
 refine sG ?_
 cases bad
 ·have hok:ok x=true:=by
   have e:=q1.bad
   cases h:ok x with
   | true=>rfl
   | false=>rw [h] at e; cases e
  obtain rfl:b=enc x:=by have:=q1.bytes rfl; simpa using this
  refine sU<|Sy.skip<|sB ?_
  refine sp rfl<|sp rfl<|sP (.pointer (some ⟨gc,0,none⟩))<|sS (ptr gw) (qc 0 0 rfl rfl Tryz.underlying122) ?_
  refine Sy.callT (λw' hw=>bytes_any (Base.of w) gw s ((gc,126,#[ptr gw,.pointer none,.bool false])::[(gx,88,cs.toArray)]) (enc x) q2 (by omega) w' (hw.perm permCW)) (λv M hM=>?_)
  obtain ⟨N,hN,rfl⟩:=hM
  refine sp rfl<|sP (.int .i64 0) ?_
  refine sG<|Sy.ret ?_
  exact Sy.retGM2 N rfl (.inl (show _=_ by kernel_rfl)) (.inl (show _=_ by kernel_rfl)) (λ_ h=>h.less (List.sublist_append_right _ _)) (.inl ⟨hok,v,rfl,hN⟩)
 ·have hok:ok x=false:=by
   have e:=q1.bad
   cases h:ok x with
   | false=>rfl
   | true=>rw [h] at e; cases e
  refine sT<|sC ?_
  refine sP (.slice none 0 0)<|sP (.int .i64 120) ?_
  refine sG<|Sy.ret<|Sy.then_ret ?_
  exact Sy.retGM2 [] rfl (.inl (show _=_ by kernel_rfl)) (.inl (show _=_ by kernel_rfl)) (λ_ h=>h.none) (.inr ⟨hok,rfl,rfl⟩)
theorem ex_outz {α:Type} {rep:Rdr→List Value→α→Prop} {ok:α→Bool} {enc:α→Byt} {wt:α→Nat} (hm:Mono rep) (hp:PutC 65 58 rep ok enc wt) (w:World) (cs:List Value) (x:α) (hx:rep (rdW w) cs x) (hl:cs.length=58) (hwt:wt x≤70368744170000) :
  Calls Tryz.prog 38 #[.agg cs.toArray] w (GetsN w (BytE (ok x) (enc x))):=by
 refine Sy.enter (args:=[.agg cs.toArray]) Tryz.func38 rfl kL ?_
 refine sC ?_
 refine sM 88 cs.toArray (λgx=>?_) kR (λw=>run_boxR rfl rfl (by kernel_rfl) hl w)
 refine sP (.slice none 0 0)<|sP (.int .i64 0) ?_
 refine sA ?_
 refine sS (.agg cs.toArray) (rowC (R:=[(gx,88,cs.toArray)]) (memX (List.mem_singleton.2 rfl)) (λ_ h=>h) hl rfl Tryz.underlying88) ?_
 refine Sy.callN kR 79 #[.agg cs.toArray,.func (.func 65) #[] #[]] kF (BytE (ok x) (enc x)) (λw' hw=>write_outz (rep:=rep) hm hp w' cs x (hm (λg o u h=>rdC_world (R:=[]) hw (λ_ h=>by cases h) g o u (.inl h)) hx) hl hwt) (λv M hM=>?_)
 have hv:∃ a e:Value,v=.tuple #[a,e]:=by
  rcases hM with ⟨_,u,rfl,_⟩ | ⟨_,rfl,_⟩ <;> exact ⟨_,_,rfl⟩
 obtain ⟨a,e,rfl⟩:=hv
 refine sp rfl<|sp rfl<|sp rfl<|sp rfl ?_
 refine sG<|Sy.ret ?_
 exact Sy.retGM2 M rfl (.inl (show _=_ by kernel_rfl)) (.inl (show _=_ by kernel_rfl)) (λ_ h=>h.less (List.sublist_append_right _ _)) hM
end Wr
end
section
namespace Wr
open Go.RowKit Sy
set_option maxRecDepth 100000
set_option maxHeartbeats 4000000
structure MPa where
 t:Int
 keys:List Byt
def okPA (p:MPa):Bool:=okO p.t && decide (p.keys.length≤16)
def encPA (p:MPa):Byt:=[octB p.t]++encL (λk=>k) p.keys
def wtPA (p:MPa):Nat:=1+(9+(p.keys.map λ_=>32).sum)
def repPA (C:Rdr) (cs:List Value) (p:MPa):Prop:=∃ v,cs=[.int .i64 p.t,v]∧LstR C 32 repDG v p.keys
theorem monoDG:Mono repDG:=λ_ h=>h
theorem monoPA:Mono repPA:=λhl ⟨v,h1,h2⟩=>⟨v,h1,LstR.le (rep:=repDG) monoDG hl h2⟩
theorem key_w:PutC 192 32 repDG (λ_=>true) (λx=>x) (λ_=>32):=λw0 gc gw gx f bad s R b cs x hx _ hc hb hl w hw=>by
 obtain ⟨rfl,h1⟩:=hx
 refine Sy.enterT (args:=[ptr gc,.pointer (some ⟨gx,f,none⟩)]) hw Tryz.func192 rfl kL ?_
 refine Sy.region ?_
 refine sp rfl<|sp rfl<|sp rfl<|sP (.slice (some ⟨gx,f,none⟩) 32 32) ?_
 refine Sy.callT (λw hw=>raw_w w0.inn gc gw bad s R b x _ (hc.byt h1 (by decide)) hb (by omega) w hw) (λu M hM=>?_)
 obtain ⟨s1,bad1,b1,k1,k2,rfl⟩:=hM
 refine Sy.nil ?_
 exact Sy.retT0 rfl (CWS gc gw bad1 s1 R) (λ_ h=>h) (λ_=>⟨s1,bad1,b1,h1 ▸ k1,k2,rfl⟩)
noncomputable def inf_key:TypeInfo:=(Tryz.prog.info? 309).getD default
theorem info_key:Tryz.prog.info? 309=some inf_key:=by kernel_rfl
noncomputable def K_key:LK:=⟨309,30,310,361,311,362,364,390,389,426,191,229,230,231,232,270,302,192,32,32,Z32,inf_key⟩
theorem ok_key:K_key.Ok:={
 c_f0:=⟨_,_,Tryz.func191⟩,
 c_fL:=⟨_,_,Tryz.func229⟩,
 c_f1:=⟨_,_,Tryz.func230⟩,
 c_fP:=⟨_,_,Tryz.func231⟩,
 c_f2:=⟨_,_,Tryz.func232⟩,
 c_fI:=⟨_,_,Tryz.func270⟩,
 c_fJ:=⟨_,_,Tryz.func302⟩,
 ute:=⟨_,Tryz.underlying309,rfl⟩,
 uts:=Tryz.underlying30,
 ufw:=⟨_,Tryz.underlying311,rfl⟩,
 ufr:=⟨_,Tryz.underlying362,rfl⟩,
 inf:=info_key,
 zero:=⟨_,rfl,by kernel_rfl⟩,
 size:=rfl,
 byt:=rfl,
 zl:=by kernel_rfl,
 pos:=(by decide:0<32),
 top:=(by decide:32≤16777216),
 btop:=(by decide:32≤100000000),
 its:=by kernel_rfl,
 ifw:=by kernel_rfl,
 ifr:=by kernel_rfl,
 zts:=⟨(Tryz.prog.info? 30).getD default,by kernel_rfl,by kernel_rfl⟩,
 e_fe:=enters_of Tryz.func192 kR rfl,
 e_f2:=enters_of Tryz.func232 kR rfl,
 e_fP:=enters_of Tryz.func231 kR rfl,
 e_f1:=enters_of Tryz.func230 kR rfl,
 e_fL:=enters_of Tryz.func229 kR rfl,
 e_fI:=enters_of Tryz.func270 kR rfl,
 e_fJ:=enters_of Tryz.func302 kR rfl }
theorem list_w_key {α:Type} {rep:Rdr→List Value→α→Prop} {ok:α→Bool} {enc:α→Byt} {wt:α→Nat} (hm:Mono rep) (hp:PutC 192 32 rep ok enc wt) (w0:Base) (gc gw gx f most:Nat) (hmo:most<1000000) (bad:Bool) (s:Slc) (R:Blocks) (b:Byt) (v:Value) (l:List α) (hv:LstR (rdC w0 R) 32 rep v l) (hc:rdC w0 R gx f v) (hb:BS s b) (hlen:b.length+(9+(l.map wt).sum)≤70368744170000) (w:World) (hw:St w0 w (CWS gc gw bad s R)) :
  Calls Tryz.prog 191 #[ptr gc,.pointer (some ⟨gx,f,none⟩),.int .i64 (most:Int),.func (.func 192) #[] #[]] w (Turns w0 (WrC gc gw R (decide (l.length≤most) && l.all ok) (varB l.length++l.flatMap enc) (9+(l.map wt).sum) bad b)):=list_wG (rep:=rep) (ok:=ok) (enc:=enc) (wt:=wt) ok_key hm hp.own w0 gc gw gx f most hmo bad s R b v l hv hc hb hlen w hw
end Wr
end
section
namespace Wr
open Go.RowKit Sy
set_option maxRecDepth 100000
set_option maxHeartbeats 4000000
theorem params_w:PutC 132 2 repPA okPA encPA wtPA:=λw0 gc gw gx f bad s R b cs x hx _ hc hb hl w hw=>by
 obtain ⟨v,rfl,h2⟩:=hx
 unfold wtPA at hl
 refine Sy.enterT (args:=[ptr gc,.pointer (some ⟨gx,f,none⟩)]) hw Tryz.func132 rfl kL ?_
 refine sC ?_
 refine sp rfl<|sp rfl<|sp rfl<|sP (.pointer (some ⟨gx,f,none⟩)) ?_
 refine Sy.callT (λw hw=>octet_w w0.inn gc gw gx f bad s R b x.t hc.one hb (by omega) w hw) (λu M hM=>?_)
 obtain ⟨s1,bad1,b1,q1,q2,rfl⟩:=hM
 have l1:=q1.len
 refine Sy.nil<|Sy.then_<|Sy.region ?_
 refine sp rfl<|sp rfl<|sp rfl<|sP (.pointer (some ⟨gx,f+1,none⟩)) ?_
 refine Sy.callT (λw hw=>list_w_key (rep:=repDG) monoDG key_w w0.inn gc gw gx (f+1) 16 (by decide) bad1 s1 R b1 v x.keys h2 hc.tail.one q2 (by omega) w hw) (λu M hM=>?_)
 obtain ⟨s2,bad2,b2,q3,q4,rfl⟩:=hM
 refine Sy.nil ?_
 have q:=q1.then_ q3
 rw [all_true,Bool.and_true] at q
 exact Sy.retT0 rfl (CWS gc gw bad2 s2 R) (λ_ h=>h) (λ_=>⟨s2,bad2,b2,q,q4,rfl⟩)
end Wr
end
section
namespace Wr
open Go.RowKit Sy
set_option maxRecDepth 100000
set_option maxHeartbeats 4000000
theorem opn_key:Opn 309 32 repDG (λ_=>0):=(opn_n Tryz.underlying309 Tryz.underlying5 (by kernel_rfl) (by kernel_rfl)).as λC cs x h=>⟨x,h,Nat.le_refl _⟩
theorem opn_par:Opn 32 2 repPA (λt=>t.keys.length):=(opn_s2 Tryz.underlying32 (by kernel_rfl) (by kernel_rfl) (by kernel_rfl) (by kernel_rfl) (opn_i Tryz.underlying3) (opn_l Tryz.underlying30 (by kernel_rfl) (by decide) opn_key)).as λC cs (a,l) ⟨a0,a1,e,e0,⟨v,e1,h2⟩⟩=>by
 obtain rfl:a0=[.int .i64 a]:=e0
 subst e1 e
 exact ⟨⟨a,l⟩,⟨v,rfl,h2⟩,by show l.length≤0+(l.length+_); omega⟩
end Wr
end
section
namespace Wr
open Go.RowKit Sy
set_option maxRecDepth 100000
set_option maxHeartbeats 4000000
def repY (C:Rdr) (cs:List Value) (b:Byt):Prop:=∃ v,cs=[v]∧BytR C v b
theorem text_w (w0:Base) (gc gw gx f:Nat) (bad:Bool) (s:Slc) (R:Blocks) (b x:Byt) (v:Value) (most:Nat) (hmo:most<1000000) (hv:BytR (rdC w0 R) v x) (hc:rdC w0 R gx f v) (hb:BS s b) (hl:b.length+(9+x.length)≤70368744176000) (w:World) (hw:St w0 w (CWS gc gw bad s R)) :
  Calls Tryz.prog 126 #[ptr gc,.pointer (some ⟨gx,f,none⟩),.int .i64 (most:Int)] w (Turns w0 (WrC gc gw R (decide (x.length≤most)) (varB x.length++x) (9+x.length) bad b)):=by
 have hv0:=hv
 obtain ⟨A,n,cp,rfl,h2,h3,h4,h5⟩:=hv
 have hn9:=varB_len x.length
 obtain ⟨ok,hok⟩:∃ ok,ok=decide (x.length≤most):=⟨_,rfl⟩
 rw [← hok]
 rw [h2] at hok
 refine Sy.enterT (args:=[ptr gc,.pointer (some ⟨gx,f,none⟩),.int .i64 (most:Int)]) hw Tryz.func126 rfl kL ?_
 refine sC ?_
 refine sp rfl<|sS (.bool false) (qg (λw hw=>reads_w w0.inn gc _ _ (List.mem_cons_self ..) w hw)) ?_
 refine sG<|sU<|sC ?_
 refine sp rfl<|sp rfl<|sp rfl<|sS (.slice A n cp) (cellC (R:=R) hc inCW rfl Tryz.underlying29)<|sP (.int .i64 (n:Int))<|sp rfl<|sS (.bool ok) (Quiet.pure (exec_int .leq _ _ _ .i64 _ _ _ rfl rfl rfl (int_leq _ _ _ _ _ (by rw [hok]; exact decide_eq_decide.2 (by omega))))) ?_
 refine Sy.callT (λw hw=>must_w w0.inn gc gw bad ok s R w hw) (λu M hM=>?_)
 subst hM
 refine Sy.nil<|Sy.then_ ?_
 refine Sy.regionD (λj=>j == 7) kR ?_
 refine sa 0 rfl rfl<|sa 1 rfl rfl<|sb 2 rfl (.pointer (some ⟨gc,0,none⟩))<|sD 3 rfl (ptr gw) (qc 0 0 rfl rfl Tryz.underlying122)<|sa 4 rfl rfl<|sa 5 rfl rfl<|sD 6 rfl (.slice A n cp) (cellC (R:=R) hc inCW rfl Tryz.underlying29) ?_
 refine Sy.soleD 7 rfl (λQ2 hq2=>?_)
 refine Sy.callT (λw hw=>text_any w0.inn gw s ((gc,126,#[ptr gw,.pointer none,.bool (bad || !ok)])::R) b x (.slice A n cp) (hv0.le (rdC_le (λ_ h=>List.mem_cons_of_mem _ h))) hb (by omega) w (hw.perm permCW)) (λu M hM=>?_)
 obtain ⟨s1,hs1,rfl⟩:=hM
 refine Sy.permS permCW.symm ?_
 refine hq2 _ _ ?_
 refine sE ?_
 have q:=(Wrote.must ok bad b).then_ (Wrote.raw (varB x.length++x) (bad || !ok) b (k:=9+x.length) (by rw [List.length_append]; omega))
 rw [Bool.and_true,List.nil_append,Nat.zero_add] at q
 exact Sy.retT0 rfl (CWS gc gw (bad || !ok) s1 R) (λ_ h=>h) (λ_=>⟨s1,bad || !ok,_,q,hs1,rfl⟩)
end Wr
end
section
namespace Wr
open Go.RowKit Sy
set_option maxRecDepth 100000
set_option maxHeartbeats 4000000
theorem OwnAt.left {R:Blocks} {gx f:Nat} {a b:List Value} (h:OwnAt R gx f (a++b)):OwnAt R gx f a:=by
 obtain ⟨tx,A,Z,hm,hA⟩:=h
 exact ⟨tx,A,b++Z,by rw [← List.append_assoc a]; exact hm,hA⟩
theorem OwnAt.right {R:Blocks} {gx f n:Nat} {a b:List Value} (h:OwnAt R gx f (a++b)) (hn:a.length=n):OwnAt R gx (f+n) b:=by
 obtain ⟨tx,A,Z,hm,hA⟩:=h
 exact ⟨tx,A++a,Z,by rw [List.append_assoc, ← List.append_assoc a]; exact hm,by rw [List.length_append,hA,hn]⟩
theorem swM {P:Program} {w0:Base} {n:Nat} {ops:Array Oper} {Q:Exit→Act→World→Prop} {F:Slots} {L:Blocks} {l:List Oper} {o:Oper} {g:Nat} {t:TypeId} {cs:Array Value} (hm:(g,t,cs)∈L) (hw:Writes P F o g t cs cs) (h:wpS P w0 n ops Q (putF F o.dst undef) L l) (hg:good ops n F o=true:=by kernel_rfl):wpS P w0 n ops Q F L (o::l):=by
 obtain ⟨i,hi⟩:=List.getElem?_of_mem hm
 refine Sy.write hg i g t cs cs hi hw ?_
 obtain ⟨hlt,he⟩:=List.getElem?_eq_some_iff.1 hi
 have e:L.set i (g,t,cs)=L:=by rw [← he]; exact List.set_getElem_self hlt
 rw [e]
 exact h
theorem permB {b:Nat×TypeId×Array Value} {L:Blocks}:(b::L).Perm (L++[b]):=List.perm_append_comm (l₁:=[b]) (l₂:=L)
def trB (x:Bool):UInt8:=octB (if x=true then 1 else 0)
theorem truth_w (w0:Base) (gc gw gx f:Nat) (bad:Bool) (s:Slc) (R:Blocks) (b:Byt) (x:Bool) (hc:OwnAt R gx f [.bool x]) (hb:BS s b) (hl:b.length+1≤70368744177000) (w:World) (hw:St w0 w (CWS gc gw bad s R)) :
  Calls Tryz.prog 131 #[ptr gc,.pointer (some ⟨gx,f,none⟩)] w (Turns w0 (WrC gc gw R true [trB x] 1 bad b)):=by
 have hcell:rdC w0.inn R gx f (.bool x):=(hc.at w0.inn).one
 obtain ⟨tx,A,Z,hmem,hA⟩:=hc
 refine Sy.enterT (args:=[ptr gc,.pointer (some ⟨gx,f,none⟩)]) hw Tryz.func131 rfl kL ?_
 refine sC ?_
 refine sM 3 #[.int .i64 0] (λg4=>?_)
 refine Sy.permS List.perm_append_comm ?_
 refine sw 0 rfl #[.int .i64 0] (wO 0 3 (.int .i64 0) rfl) ?_
 refine sG ?_
 obtain ⟨z,hz⟩:∃ z:Int,z=if x=true then 1 else 0:=⟨_,rfl⟩
 have hz1:decide (z≤1)=true:=by rw [hz]; cases x <;> rfl
 have hzx:x=decide (z=1):=by rw [hz]; cases x <;> rfl
 have hzo:okO z=true:=by rw [hz]; cases x <;> rfl
 refine Sy.seq ?_
 refine cutC [(0,ptr gc),(1,.pointer (some ⟨gx,f,none⟩)),(4,ptr g4)] ((g4,3,#[.int .i64 z])::CWS gc gw bad s R) ?_ ?_
 ·refine sC ?_
  refine sp rfl<|sp rfl<|sS (.bool x) (cellC (R:=R) hcell (λy hy=>List.mem_cons_of_mem _ (inCW y hy)) rfl Tryz.underlying4) ?_
  refine sG ?_
  cases x
  ·obtain rfl:z=0:=hz
   refine sU<|Sy.skip ?_
   exact meet (all_cons kR (all_cons kR (all_cons kR all_nil))) (λ_ h=>h)
  ·obtain rfl:z=1:=hz
   refine sT<|Sy.region ?_
   refine sw 0 rfl #[.int .i64 1] (wO 0 3 (.int .i64 1) rfl) ?_
   refine Sy.nil ?_
   exact meet (all_cons kR (all_cons kR (all_cons kR all_nil))) (λ_ h=>h)
 refine sB ?_
 refine sp rfl ?_
 refine Sy.permS (M:=CWS gc gw bad s (R++[(g4,3,#[.int .i64 z])])) (permB.trans (List.Perm.of_eq eqCW)) ?_
 refine Sy.callT (λw hw=>octet_w w0.inn gc gw g4 0 bad s (R++[(g4,3,#[.int .i64 z])]) b z (mem1 lastR) hb (by omega) w hw) (λu M hM=>?_)
 obtain ⟨s1,bad1,b1,q1,q2,rfl⟩:=hM
 refine sA ?_
 refine sp rfl<|sS (.int .i64 z) (cellC (R:=R++[(g4,3,#[.int .i64 z])]) (mem1 lastR) inCW rfl Tryz.underlying3)<|sS (.bool true) (Quiet.pure (exec_int .leq _ _ _ .i64 _ _ _ rfl rfl rfl (int_leq _ _ _ _ _ (hz1)))) ?_
 refine Sy.callT (λw hw=>must_w w0.inn gc gw bad1 true s1 (R++[(g4,3,#[.int .i64 z])]) w hw) (λu M hM=>?_)
 subst hM
 rw [show (bad1 || !true)=bad1 by cases bad1 <;> rfl]
 refine Sy.nil<|Sy.then_<|Sy.region ?_
 refine sp rfl<|sS (.int .i64 z) (cellC (R:=R++[(g4,3,#[.int .i64 z])]) (mem1 lastR) inCW rfl Tryz.underlying3)<|sS (.bool x) (Quiet.pure (exec_int .eql _ _ _ .i64 _ _ _ rfl rfl rfl (int_eql _ _ _ _ _ (hzx.symm))))<|sp rfl ?_
 refine swM (inCW _ (inA hmem)) (Writes.one f 4 (.bool x) _ _ rfl kR kR kR rfl rfl (by rw [List.size_toArray,List.length_append,hA]; exact Nat.lt_add_of_pos_right (Nat.succ_pos _)) (set_mid hA)) ?_
 refine Sy.nil ?_
 rw [hzo,show octB z=trB x by rw [hz]; rfl] at q1
 exact Sy.retT0 rfl (CWS gc gw bad1 s1 R) (λ_ h=>dropR h) (λ_=>⟨s1,bad1,b1,q1,q2,rfl⟩)
end Wr
end
section
namespace Wr
open Go.RowKit Sy
set_option maxRecDepth 100000
set_option maxHeartbeats 4000000
theorem Wrote.le {ok:Bool} {e:Byt} {k k':Nat} {bad bad':Bool} {b b':Byt} (h:Wrote ok e k bad b bad' b') (hk:k≤k'):Wrote ok e k' bad b bad' b':=⟨h.bad,h.bytes,by have:=h.len; omega⟩
structure MHe where
 prev:Byt
 height:Nat
 time:Nat
 root:Byt
 main:Byt
 reward:Byt
 change:Bool
 next:MPa
def okHE (h:MHe):Bool:=decide (h.reward.length≤256) && (if h.change=true then okPA h.next else decide (h.next.t=0) && decide (h.next.keys.length=0))
def encHE (h:MHe):Byt:=h.prev++(nb 8 h.height++(nb 8 h.time++(h.root++(h.main++((varB h.reward.length++h.reward)++([trB h.change]++(if h.change=true then encPA h.next else [])))))))
def wtHE (h:MHe):Nat:=32+(8+(8+(32+(32+((9+h.reward.length)+(1+wtPA h.next))))))
def cHE (h:MHe) (vr vk:Value):List Value:=h.prev.map bv++([.int .u64 (h.height:Int)]++([.int .u64 (h.time:Int)]++(h.root.map bv++(h.main.map bv++([vr]++([.bool h.change]++([.int .i64 h.next.t]++[vk])))))))
def repHE (C:Rdr) (cs:List Value) (h:MHe):Prop:=∃ vr vk,cs=cHE h vr vk∧h.prev.length=32∧h.root.length=32∧h.main.length=32∧h.height<18446744073709551616∧h.time<18446744073709551616∧BytR C vr h.reward∧LstR C 32 repDG vk h.next.keys
theorem monoHE:Mono repHE:=λhl ⟨vr,vk,h1,h2,h3,h4,h5,h6,h7,h8⟩=>⟨vr,vk,h1,h2,h3,h4,h5,h6,h7.le hl,LstR.le (rep:=repDG) monoDG hl h8⟩
theorem header_w:PutO 72 102 repHE okHE encHE wtHE:=λw0 gc gw gx f bad s R b cs x hx _ hc hb hl w hw=>by
 obtain ⟨pv,hi,ti,rt,mn,rd,ch,nx⟩:=x
 obtain ⟨vr,vk,rfl,h1,h2,h3,h4,h5,h6,h7⟩:=hx
 dsimp only at h1 h2 h3 h4 h5 h6 h7
 unfold wtHE at hl
 dsimp only at hl
 have e1:(pv.map bv).length=32:=by rw [List.length_map,h1]
 have e2:(rt.map bv).length=32:=by rw [List.length_map,h2]
 have e3:(mn.map bv).length=32:=by rw [List.length_map,h3]
 have c0:OwnAt R gx f (pv.map bv++([.int .u64 (hi:Int)]++([.int .u64 (ti:Int)]++(rt.map bv++(mn.map bv++([vr]++([.bool ch]++([.int .i64 nx.t]++[vk])))))))):=hc
 have c1:OwnAt R gx (f+32) ([.int .u64 (hi:Int)]++([.int .u64 (ti:Int)]++(rt.map bv++(mn.map bv++([vr]++([.bool ch]++([.int .i64 nx.t]++[vk]))))))):=c0.right e1
 have c2:OwnAt R gx (f+33) ([.int .u64 (ti:Int)]++(rt.map bv++(mn.map bv++([vr]++([.bool ch]++([.int .i64 nx.t]++[vk])))))):=c1.right (n:=1) rfl
 have c3:OwnAt R gx (f+34) (rt.map bv++(mn.map bv++([vr]++([.bool ch]++([.int .i64 nx.t]++[vk]))))):=c2.right (n:=1) rfl
 have c4:OwnAt R gx (f+66) (mn.map bv++([vr]++([.bool ch]++([.int .i64 nx.t]++[vk])))):=by have q:=c3.right e2; rwa [Nat.add_assoc] at q
 have c5:OwnAt R gx (f+98) ([vr]++([.bool ch]++([.int .i64 nx.t]++[vk]))):=by have q:=c4.right e3; rwa [Nat.add_assoc] at q
 have c6:OwnAt R gx (f+99) ([.bool ch]++([.int .i64 nx.t]++[vk])):=c5.right (n:=1) rfl
 have c7:OwnAt R gx (f+100) ([.int .i64 nx.t]++[vk]):=c6.right (n:=1) rfl
 refine Sy.enterT (args:=[ptr gc,.pointer (some ⟨gx,f,none⟩)]) hw Tryz.func72 rfl kL ?_
 refine sC ?_
 refine sp rfl<|sp rfl<|sp rfl<|sP (.pointer (some ⟨gx,f,none⟩)) ?_
 refine Sy.callT (λw hw=>digest_w w0.inn gc gw gx (f) bad s R b pv h1 (c0.at w0.inn).left hb (by omega) w hw) (λu M hM=>?_)
 obtain ⟨s1,bad1,b1,q1,p1,rfl⟩:=hM
 have l1:=q1.len
 refine sA ?_
 refine sp rfl<|sp rfl<|sp rfl<|sP (.pointer (some ⟨gx,f+32,none⟩)) ?_
 refine Sy.callT (λw hw=>long_w w0.inn gc gw gx (f+32) bad1 s1 R b1 hi h4 (c1.at w0.inn).one p1 (by omega) w hw) (λu M hM=>?_)
 obtain ⟨s2,bad2,b2,q2,p2,rfl⟩:=hM
 have l2:=q2.len
 refine sA ?_
 refine sp rfl<|sp rfl<|sp rfl<|sP (.pointer (some ⟨gx,f+33,none⟩)) ?_
 refine Sy.callT (λw hw=>long_w w0.inn gc gw gx (f+33) bad2 s2 R b2 ti h5 (c2.at w0.inn).one p2 (by omega) w hw) (λu M hM=>?_)
 obtain ⟨s3,bad3,b3,q3,p3,rfl⟩:=hM
 have l3:=q3.len
 refine sA ?_
 refine sp rfl<|sp rfl<|sp rfl<|sP (.pointer (some ⟨gx,f+34,none⟩)) ?_
 refine Sy.callT (λw hw=>digest_w w0.inn gc gw gx (f+34) bad3 s3 R b3 rt h2 (c3.at w0.inn).left p3 (by omega) w hw) (λu M hM=>?_)
 obtain ⟨s4,bad4,b4,q4,p4,rfl⟩:=hM
 have l4:=q4.len
 refine sA ?_
 refine sp rfl<|sp rfl<|sp rfl<|sP (.pointer (some ⟨gx,f+66,none⟩)) ?_
 refine Sy.callT (λw hw=>digest_w w0.inn gc gw gx (f+66) bad4 s4 R b4 mn h3 (c4.at w0.inn).left p4 (by omega) w hw) (λu M hM=>?_)
 obtain ⟨s5,bad5,b5,q5,p5,rfl⟩:=hM
 have l5:=q5.len
 refine sA ?_
 refine sp rfl<|sp rfl<|sp rfl<|sP (.pointer (some ⟨gx,f+98,none⟩)) ?_
 refine Sy.callT (λw hw=>text_w w0.inn gc gw gx (f+98) bad5 s5 R b5 rd vr 256 (by decide) h6 (c5.at w0.inn).one p5 (by omega) w hw) (λu M hM=>?_)
 obtain ⟨s6,bad6,b6,q6,p6,rfl⟩:=hM
 have l6:=q6.len
 refine sA ?_
 refine sp rfl<|sp rfl<|sp rfl<|sP (.pointer (some ⟨gx,f+99,none⟩)) ?_
 refine Sy.callT (λw hw=>truth_w w0.inn gc gw gx (f+99) bad6 s6 R b6 ch c6.left p6 (by omega) w hw) (λu M hM=>?_)
 obtain ⟨s7,bad7,b7,q7,p7,rfl⟩:=hM
 have l7:=q7.len
 refine sA ?_
 refine sp rfl<|sp rfl<|sP (.pointer (some ⟨gx,f+99,none⟩))<|sS (.bool ch) (cellC (R:=R) (c6.at w0.inn).one inCW rfl Tryz.underlying4) ?_
 refine sG ?_
 have q:=q1.then_ (q2.then_ (q3.then_ (q4.then_ (q5.then_ (q6.then_ q7)))))
 have i0:rdC w0.inn R gx (f+100) (.int .i64 nx.t):=(c7.at w0.inn).one
 have i1:rdC w0.inn R gx (f+101) vk:=((c7.right (n:=1) rfl).at w0.inn).one
 cases ch
 case' true =>
  refine sT<|Sy.region ?_
  refine sp rfl<|sp rfl<|sp rfl<|sP (.pointer (some ⟨gx,f+100,none⟩)) ?_
  refine Sy.callT (λw hw=>params_w w0.inn gc gw gx (f+100) bad7 s7 R b7 [.int .i64 nx.t,vk] nx ⟨vk,rfl,h7⟩ rfl (c7.at w0.inn) p7 (by omega) w hw) (λu M hM=>?_)
  obtain ⟨s8,bad8,b8,q8,p8,rfl⟩:=hM
  refine Sy.nil ?_
  have q':=q1.then_ (q2.then_ (q3.then_ (q4.then_ (q5.then_ (q6.then_ (q7.then_ q8))))))
  simp only [Bool.true_and] at q'
  exact Sy.retT0 rfl (CWS gc gw bad8 s8 R) (λ_ h=>h) (λ_=>⟨s8,bad8,b8,q',p8,rfl⟩)
 obtain ⟨A,n,cp,rfl,k2,k3,k4,k5⟩:=h7
 obtain ⟨t1,ht1⟩:∃ t:Bool,t=decide (nx.t=0):=⟨_,rfl⟩
 obtain ⟨t2,ht2⟩:∃ t:Bool,t=decide (n=0):=⟨_,rfl⟩
 obtain ⟨ok,hok⟩:∃ t:Bool,t=(decide (nx.t=0) && decide (nx.keys.length=0)):=⟨_,rfl⟩
 have hk:ok=(t1 && t2):=by rw [hok,ht1,ht2,k2]
 refine sU<|Sy.region ?_
 refine sp rfl<|sp rfl<|sp rfl<|sP (.pointer (some ⟨gx,f+100,none⟩))<|sP (.pointer (some ⟨gx,f+100,none⟩))<|sS (.int .i64 nx.t) (cellC (R:=R) i0 inCW rfl Tryz.underlying3)<|sS (.bool t1) (Quiet.pure (exec_int .eql _ _ _ .i64 _ _ _ rfl rfl rfl (int_eql _ _ _ _ _ (ht1.symm))))<|sp rfl ?_
 cases t1
 case' false =>
  obtain rfl:ok=false:=hk
  refine sN<|sN<|sN<|sN<|sN<|sN<|sN<|sP (.bool false) ?_
  refine Sy.callT (λw hw=>must_w w0.inn gc gw bad7 false s7 R w hw) (λu M hM=>?_)
 case' true =>
  obtain rfl:ok=t2:=hk
  refine sp rfl<|sp rfl<|sP (.pointer (some ⟨gx,f+100,none⟩))<|sP (.pointer (some ⟨gx,f+101,none⟩))<|sS (.slice A n cp) (cellC (R:=R) i1 inCW rfl Tryz.underlying30)<|sP (.int .i64 (n:Int))<|sS (.bool ok) (Quiet.pure (exec_int .eql _ _ _ .i64 _ _ _ rfl rfl rfl (int_eql _ _ _ _ _ (by rw [ht2]; exact decide_eq_decide.2 (by omega)))))<|sP (.bool ok) ?_
  refine Sy.callT (λw hw=>must_w w0.inn gc gw bad7 ok s7 R w hw) (λu M hM=>?_)
 all_goals
  subst hM
  refine Sy.nil ?_
 ·have q':=(q1.then_ (q2.then_ (q3.then_ (q4.then_ (q5.then_ (q6.then_ (q7.then_ (Wrote.must ok bad7 b7)))))))).le (k':=wtHE ⟨pv,hi,ti,rt,mn,rd,false,nx⟩) (by unfold wtHE; dsimp only; omega)
  simp only [Bool.true_and] at q'
  rw [hok] at q'
  exact Sy.retT0 rfl (CWS gc gw (bad7 || !ok) s7 R) (λ_ h=>h) (λ_=>⟨s7,bad7 || !ok,b7,by rw [hok]; exact q',p7,rfl⟩)
 ·have q':=(q1.then_ (q2.then_ (q3.then_ (q4.then_ (q5.then_ (q6.then_ (q7.then_ (Wrote.must false bad7 b7)))))))).le (k':=wtHE ⟨pv,hi,ti,rt,mn,rd,false,nx⟩) (by unfold wtHE; dsimp only; omega)
  simp only [Bool.true_and] at q'
  exact Sy.retT0 rfl (CWS gc gw (bad7 || !false) s7 R) (λ_ h=>h) (λ_=>⟨s7,bad7 || !false,b7,by
   have e:okHE ⟨pv,hi,ti,rt,mn,rd,false,nx⟩=(decide (rd.length≤256) && false):=by
    unfold okHE
    show (_ && (decide (nx.t=0) && decide (nx.keys.length=0)))=_
    rw [← hok]
   rw [e]
   exact q',p7,rfl⟩)
end Wr
end
section
namespace Wr
open Go.RowKit Sy
set_option maxRecDepth 100000
set_option maxHeartbeats 4000000
theorem opn_hdr:Opn 34 102 repHE (λh=>h.reward.length+h.next.keys.length):=(opn_s8 Tryz.underlying34 (by kernel_rfl) (by kernel_rfl) (by kernel_rfl) (by kernel_rfl) (by kernel_rfl) (by kernel_rfl) (by kernel_rfl) (by kernel_rfl) (by kernel_rfl) (by kernel_rfl) (by kernel_rfl) (by kernel_rfl) (by kernel_rfl) (by kernel_rfl) (by kernel_rfl) (by kernel_rfl) opn_dg opn_u64 opn_u64 opn_dg opn_dg opn_raw (opn_b Tryz.underlying4) opn_par).as λC cs (a,b,c,d,e,f,g,h) ⟨a0,a1,a2,a3,a4,a5,a6,a7,ec,⟨e0,h0⟩,⟨e1,h1⟩,⟨e2,h2⟩,⟨e3,h3⟩,⟨e4,h4⟩,⟨v5,e5,h5⟩,e6,⟨v7,e7,h7⟩⟩=>by
 obtain rfl:a6=[.bool g]:=e6
 dsimp only at e0 e1 e2 e3 e4 e5 e7 h0 h1 h2 h3 h4 h5 h7
 subst e0 e1 e2 e3 e4 e5 e7 ec
 exact ⟨⟨a,b,c,d,e,f,g,h⟩,⟨v5,v7,rfl,h0,h3,h4,h1,h2,h5,h7⟩,by dsimp only; omega⟩
end Wr
end
section
namespace Cu
open Go.ChangeShapes Go.WideShapes Go.ChangeAt Go.RowKit Go.Deep
theorem words_trod {H:Type} {enc:TypeId×Value→H} {P:Program} {W:World} {b:Nat} {sp:Nat→Bool} {held:Bool} {fuel:Nat} {t q:TypeId} {c0 c1 c2 c3:Value} {x:DataW H×List MemPlace} (ht:P.underlying t=some (.array 4 q)) (hq:P.underlying q=some (.int .u64)) (hcq:P.cellsOf q=1)
  (hf:DataW.trod enc P W b sp held fuel t [c0,c1,c2,c3]=some x):∃ n:Nat,n<K4∧[c0,c1,c2,c3]=fws n:=by
 obtain ⟨y0,y1,y2,y3,m,_,g0,g1,g2,g3⟩:=trod_array4 ht hcq hf
 obtain ⟨z0,e0,_,w0⟩:=DataW.trod_int hq g0
 obtain ⟨z1,e1,_,w1⟩:=DataW.trod_int hq g1
 obtain ⟨z2,e2,_,w2⟩:=DataW.trod_int hq g2
 obtain ⟨z3,e3,_,w3⟩:=DataW.trod_int hq g3
 obtain ⟨a,rfl,ha⟩:=u64_wf w0
 obtain ⟨b,rfl,hb⟩:=u64_wf w1
 obtain ⟨c,rfl,hc⟩:=u64_wf w2
 obtain ⟨e,rfl,he⟩:=u64_wf w3
 simp only [List.cons.injEq,and_true] at e0 e1 e2 e3
 subst e0 e1 e2 e3
 refine ⟨_,fv_lt a b c e ha hb hc he,?_⟩
 have h:=fv_mk a b c e ha hb hc he
 rw [fv_fws] at h
 injection h with h
 exact congrArg Array.toList h
end Cu
end
section
namespace Wr
open Go.RowKit Sy
set_option maxRecDepth 100000
set_option maxHeartbeats 4000000
theorem passE {P:Program} {n:Nat} {F:Slots} {L:Blocks} {w0:Base} {ops:Array Oper} {Q:Exit→Act→World→Prop} {ex:Nat→Bool} {fuel:Nat} {listed:Array Bool} (i:Nat) {oi:Oper} (hi0:ops.toList[i]? = some oi) (h:wpD P w0 n ops Q ex (putF F oi.dst undef) L fuel (listed.setIfInBounds i true)) (hc:canTakeA .any ops listed i=true:=by kernel_rfl) (hg:wantedF ops F oi=some false:=by kernel_rfl) (hd:fits n oi.dst=true:=by kernel_rfl)
  (hQ:∀ c v a w,Q (.panic c) (a.put oi.dst v) w→Q (.panic c) a w:=by exact λ_ _ _ _ h=>h):wpD P w0 n ops Q ex F L (fuel+1) listed:=λa w ha hw =>
 wpAnyG_takeA i hi0 hc (λc=>hQ c undef) (λw'=>YieldsG.skip (ha.wanted hg)) (h _ _ (ha.put hd undef) hw)
theorem neq_pnt (w:World) (F:Slots) (o:Oper) (x y:Operand) (a b:Nat) (i:Bool) (c d:Nat) (j:Bool) {yt:TypeId} (ho:o.op=.binOp .neq 73 x y yt) (hx:evF F x=Cu.pv a b i) (hy:evF F y=Cu.pv c d j) (ha:a<Cu.K4) (hb:b<Cu.K4) (hc:c<Cu.K4) (hd:d<Cu.K4):(execOp (evF F) o).run Tryz.prog w=.ok (.value (.bool (!Cu.sameB a b i c d j))) w:=by
 have h1:=Cu.run_eqGuard_pv .neq x y a b i c d j w
 have h2:=Cu.run_eql_pv w a b i c d j ha hb hc hd
 have h3:(binOp .neq 73 (Cu.pv a b i) (Cu.pv c d j)).run Tryz.prog w=.ok (.bool (!Cu.sameB a b i c d j)) w:=by
  unfold Cu.pv at h2 ⊢
  rw [run_eql_struct] at h2
  rw [run_neq_struct]
  generalize (Op.equalIn 10000 73 (Value.agg (Cu.pcs a b i)) (Value.agg (Cu.pcs c d j))).run Tryz.prog w=r at h2 ⊢
  revert h2
  cases r <;> simp <;> intros <;> simp_all
 unfold execOp
 simp only [ho,hx,hy,Sem.run_bind,h1,h3,Result.andThen_ok,Sem.run_pure]
structure MPt where
 x:Nat
 y:Nat
 i:Bool
def lPT (p:MPt):List Value:=Cu.fws p.x++(Cu.fws p.y++[Value.bool p.i])
def repPT (_:Rdr) (cs:List Value) (p:MPt):Prop:=cs=lPT p∧p.x<Cu.K4∧p.y<Cu.K4
def okPT (p:MPt):Bool:=Cu.rightB p.x p.y p.i && !p.i
def encPT (p:MPt):Byt:=Cu.encS (Cu.dec p.x p.y p.i)
theorem encPT_len (p:MPt):(encPT p).length=33:=Cu.encS_length _
theorem lPT_len (p:MPt):(lPT p).length=9:=rfl
theorem same_zero (x y:Nat) (i:Bool) (h:Cu.rightB x y i=true):(!Cu.sameB x y i 0 0 true)=!i:=by
 cases i with
 | false=>unfold Cu.sameB; rw [show (false == true)=false from rfl,Bool.and_false,Bool.and_false]
 | true =>
  unfold Cu.rightB at h
  rw [if_pos rfl,Bool.and_eq_true,decide_eq_true_eq,decide_eq_true_eq] at h
  obtain ⟨rfl,rfl⟩:=h
  rfl
theorem ones_bW (x:Byt):∀ u∈x.map bv,u.oneCell'=true:=λu hu=>by obtain ⟨y,_,rfl⟩:=List.mem_map.1 hu; rfl
theorem point_w:PutC 186 9 repPT okPT encPT (λ_=>33):=λw0 gc gw gx f bad s R b cs p hx _ hc hb hl w hw=>by
 obtain ⟨rfl,h1,h2⟩:=hx
 obtain ⟨E,hE⟩:∃ E,E=encPT p:=⟨_,rfl⟩
 have hEl:E.length=33:=by rw [hE]; exact encPT_len p
 have hEm:(E.map bv).length=33:=by rw [List.length_map,hEl]
 rw [← hE]
 refine Sy.enterT (args:=[ptr gc,.pointer (some ⟨gx,f,none⟩)]) hw Tryz.func186 rfl kL ?_
 refine sC ?_
 refine sp rfl<|sp rfl<|sS (Cu.pv p.x p.y p.i) (rowC (R:=R) (cs:=lPT p) hc inCW rfl rfl Tryz.underlying73)<|sS (.agg (E.map bv).toArray) (qg (λw' _=>by rw [hE]; exact Cu.enc_any w' p.x p.y p.i h1 h2)) ?_
 refine sM 353 ((List.replicate 33 (0:UInt8)).map bv).toArray (λg4=>?_)
 refine Sy.permS List.perm_append_comm ?_
 refine sw 0 rfl (E.map bv).toArray (Writes.row 353 (E.map bv) 33 _ _ rfl kR kR kR hEm (by kernel_rfl) (ones_bW E)) ?_
 refine Sy.permS (M:=CWS gc gw bad s (R++[(g4,353,(E.map bv).toArray)])) (permB.trans (List.Perm.of_eq eqCW)) ?_
 refine sA ?_
 refine sp rfl<|sP (.slice (some ⟨g4,0,none⟩) 33 33) ?_
 refine Sy.callT (λw hw=>raw_w w0.inn gc gw bad s (R++[(g4,353,(E.map bv).toArray)]) b E _ ((memX lastR).byt hEl (by decide)) hb (by rw [hEl]; omega) w hw) (λu M hM=>?_)
 obtain ⟨s1,bad1,b1,q1,q2,rfl⟩:=hM
 rw [hEl] at q1
 refine sG<|Sy.seq<|sC ?_
 refine sp rfl<|sS (.bool false) (qg (λw hw=>reads_w w0.inn gc _ _ (List.mem_cons_self ..) w hw)) ?_
 refine sG<|sU<|Sy.skip<|Sy.then_ ?_
 obtain ⟨b2,hb2⟩:∃ z,z=Cu.rightB p.x p.y p.i:=⟨_,rfl⟩
 have ld:∀ {F:Slots} {L:Blocks} {o:Oper} {x:Operand},(∀ y∈R,y∈L)→o.op=.load 73 x→evF F x=.pointer (some ⟨gx,f,none⟩)→Quiet Tryz.prog w0.inn F L o (Cu.pv p.x p.y p.i):=λhR ho hx=>rowC (R:=R) (cs:=lPT p) hc hR rfl ho Tryz.underlying73 hx
 refine Sy.regionD (λj=>j == 12) kR ?_
 refine sa 0 rfl rfl<|sa 1 rfl rfl<|sa 2 rfl rfl<|se 3 [4,5,6,7,8,9,10,11,12] rfl (Cu.pv p.x p.y p.i) (ld (λy hy=>inCW y (inA hy)) rfl rfl)<|se 4 [5,6,7,8,9,10,11,12] rfl (.bool b2) (qg (λw' _=>by rw [hb2]; exact Cu.right_b w' p.x p.y p.i h1 h2))<|sa 5 rfl rfl ?_
 cases b2
 case' false =>
  have ho:okPT p=false:=by unfold okPT; rw [← hb2]; rfl
  refine passE 6 rfl<|passE 7 rfl<|passE 8 rfl<|passE 9 rfl<|passE 10 rfl<|sb 11 rfl (.bool false) ?_
  refine Sy.soleD 12 rfl (λQ2 hq2=>?_)
  refine Sy.callT (λw hw=>must_w w0.inn gc gw bad1 false s1 (R++[(g4,353,(E.map bv).toArray)]) w hw) (λu M hM=>?_)
 case' true =>
  have ho:okPT p=!p.i:=by unfold okPT; rw [← hb2]; rfl
  obtain ⟨b3,hb3⟩:∃ z,z=!p.i:=⟨_,rfl⟩
  refine sa 6 rfl rfl<|sa 7 rfl rfl<|se 8 [10,11,12] rfl (Cu.pv p.x p.y p.i) (ld (λy hy=>inCW y (inA hy)) rfl rfl)<|se 9 [10,11,12] rfl (Cu.pv 0 0 true) (qg (λw' _=>Cu.zero_c w'))<|sv 10 rfl (.bool b3) (λw'=>by rw [hb3, ← same_zero p.x p.y p.i hb2.symm]; exact neq_pnt w' _ _ _ _ p.x p.y p.i 0 0 true rfl rfl rfl h1 h2 (by decide) (by decide))<|sb 11 rfl (.bool b3) ?_
  refine Sy.soleD 12 rfl (λQ2 hq2=>?_)
  refine Sy.callT (λw hw=>must_w w0.inn gc gw bad1 b3 s1 (R++[(g4,353,(E.map bv).toArray)]) w hw) (λu M hM=>?_)
 all_goals
  subst hM
  refine hq2 _ _ ?_
  refine sE ?_
 ·have q:=q1.then_ (Wrote.must b3 bad1 b1)
  rw [Bool.true_and,List.append_nil,hb3, ← ho] at q
  exact Sy.retT0 rfl (CWS gc gw (bad1 || !b3) s1 R) (λ_ h=>dropR h) (λ_=>⟨s1,bad1 || !b3,b1,by rw [hb3, ← ho]; exact q,q2,rfl⟩)
 ·have q:=q1.then_ (Wrote.must false bad1 b1)
  rw [Bool.true_and,List.append_nil] at q
  exact Sy.retT0 rfl (CWS gc gw (bad1 || !false) s1 R) (λ_ h=>dropR h) (λ_=>⟨s1,bad1 || !false,b1,by rw [ho]; exact q,q2,rfl⟩)
end Wr
end
section
namespace Wr
open Go.RowKit Sy
set_option maxRecDepth 100000
set_option maxHeartbeats 4000000
end Wr
end
section
namespace Wr
open Go.RowKit Sy
set_option maxRecDepth 100000
set_option maxHeartbeats 4000000
theorem eql_dgs (w:World) (F:Slots) (o:Oper) (x y:Operand) (a b:List UInt8) (ha:a.length=32) (hb:b.length=32) {yt:TypeId} (ho:o.op=.binOp .eql 28 x y yt) (hx:evF F x=.agg (a.map bv).toArray) (hy:evF F y=.agg (b.map bv).toArray):(execOp (evF F) o).run Tryz.prog w=.ok (.value (.bool (decide (a=b)))) w:=by
 have h1:(eqGuard .eql 28 x y (.agg (a.map bv).toArray) (.agg (b.map bv).toArray)).run Tryz.prog w=.ok () w:=by go_simp
 have h2:(binOp .eql 28 (.agg (a.map bv).toArray) (.agg (b.map bv).toArray)).run Tryz.prog w=.ok (.bool (decide (a=b))) w:=by
  have h:=run_equalIn_bytes (P:=Tryz.prog) w 9998 28 5 32 Tryz.underlying28 Tryz.underlying5 (λW=>by kernel_rfl) a b ha hb
  rw [run_eql_struct,show (10000:Nat)=9998+2 from rfl,show (Op.equalIn (9998+2) 28 (.agg (a.map bv).toArray) (.agg (b.map bv).toArray)).run Tryz.prog w=_ from h]
  by_cases e:a=b <;> simp [e]
 unfold execOp
 simp only [ho,hx,hy,Sem.run_bind,h1,h2,Result.andThen_ok,Sem.run_pure]
def z32:Byt:=List.replicate 32 0
def nulPT (p:MPt):Bool:=Cu.sameB p.x p.y p.i 0 0 false
structure MTag where
 blind:Bool
 id:Byt
 pt:MPt
def cTG (t:MTag):List Value:=[.bool t.blind]++(t.id.map bv++lPT t.pt)
def repTG (_:Rdr) (cs:List Value) (t:MTag):Prop:=cs=cTG t∧t.id.length=32∧t.pt.x<Cu.K4∧t.pt.y<Cu.K4
def okTG (t:MTag):Bool:=if t.blind=true then okPT t.pt && decide (t.id=z32) else nulPT t.pt
def encTG (t:MTag):Byt:=[trB t.blind]++(if t.blind=true then encPT t.pt else t.id)
structure MAmt where
 blind:Bool
 value:Nat
 pt:MPt
def cAM (t:MAmt):List Value:=[.bool t.blind]++([.int .u64 (t.value:Int)]++lPT t.pt)
def repAM (_:Rdr) (cs:List Value) (t:MAmt):Prop:=cs=cAM t∧t.value<18446744073709551616∧t.pt.x<Cu.K4∧t.pt.y<Cu.K4
def okAM (t:MAmt):Bool:=if t.blind=true then okPT t.pt && decide (t.value=0) else nulPT t.pt
def encAM (t:MAmt):Byt:=[trB t.blind]++(if t.blind=true then encPT t.pt else nb 8 t.value)
theorem tag_w:PutO 124 42 repTG okTG encTG (λ_=>34):=λw0 gc gw gx f bad s R b cs x hx _ hc hb hl w hw=>by
 obtain ⟨bl,id,p⟩:=x
 obtain ⟨rfl,h1,h2,h3⟩:=hx
 dsimp only at h1 h2 h3 hl
 have e1:(id.map bv).length=32:=by rw [List.length_map,h1]
 have c0:OwnAt R gx f ([.bool bl]++(id.map bv++lPT p)):=hc
 have c1:OwnAt R gx (f+1) (id.map bv++lPT p):=c0.right (n:=1) rfl
 have c2:OwnAt R gx (f+33) (lPT p):=by have q:=c1.right e1; rwa [Nat.add_assoc] at q
 have X0:rdC w0.inn R gx f (.bool bl):=(c0.at w0.inn).one
 have X1:XAt (rdC w0.inn R) gx (f+1) (id.map bv):=(c1.at w0.inn).left
 have X2:XAt (rdC w0.inn R) gx (f+33) (lPT p):=c2.at w0.inn
 refine Sy.enterT (args:=[ptr gc,.pointer (some ⟨gx,f,none⟩)]) hw Tryz.func124 rfl kL ?_
 refine sC ?_
 refine sp rfl<|sp rfl<|sp rfl<|sP (.pointer (some ⟨gx,f,none⟩)) ?_
 refine Sy.callT (λw hw=>truth_w w0.inn gc gw gx f bad s R b bl c0.left hb (by omega) w hw) (λu M hM=>?_)
 obtain ⟨s1,bad1,b1,q1,p1,rfl⟩:=hM
 have l1:=q1.len
 refine sA ?_
 refine sp rfl<|sp rfl<|sP (.pointer (some ⟨gx,f,none⟩))<|sS (.bool bl) (cellC (R:=R) X0 inCW rfl Tryz.underlying4) ?_
 refine sG ?_
 cases bl
 case' true =>
  refine sT<|sC ?_
  refine sp rfl<|sp rfl<|sp rfl<|sP (.pointer (some ⟨gx,f+33,none⟩)) ?_
  refine Sy.callT (λw hw=>point_w w0.inn gc gw gx (f+33) bad1 s1 R b1 (lPT p) p ⟨rfl,h2,h3⟩ rfl X2 p1 (by show _+33≤_; omega) w hw) (λu M hM=>?_)
  obtain ⟨s2,bad2,b2,q2,p2,rfl⟩:=hM
  obtain ⟨ok,hok⟩:∃ z:Bool,z=decide (id=z32):=⟨_,rfl⟩
  refine Sy.nil<|Sy.then_<|Sy.region ?_
  refine sp rfl<|sp rfl<|sp rfl<|sP (.pointer (some ⟨gx,f+1,none⟩))<|sS (.agg (id.map bv).toArray) (rowC (R:=R) (cs:=id.map bv) X1 inCW e1 rfl Tryz.underlying28)<|sP (.agg (z32.map bv).toArray)<|sS (.bool ok) (Quiet.pure (λw=>by rw [hok]; exact eql_dgs w _ _ _ _ id z32 h1 rfl rfl rfl rfl)) ?_
  refine Sy.callT (λw hw=>must_w w0.inn gc gw bad2 ok s2 R w hw) (λu M hM=>?_)
  subst hM
  refine Sy.nil ?_
  have q:=q1.then_ (q2.then_ (Wrote.must ok bad2 b2))
  rw [Bool.true_and,List.append_nil,hok] at q
  exact Sy.retT0 rfl (CWS gc gw (bad2 || !ok) s2 R) (λ_ h=>h) (λ_=>⟨s2,bad2 || !ok,b2,by rw [hok]; exact q,p2,rfl⟩)
 refine sU<|sC ?_
 refine sp rfl<|sp rfl<|sp rfl<|sP (.pointer (some ⟨gx,f+1,none⟩)) ?_
 refine Sy.callT (λw hw=>digest_w w0.inn gc gw gx (f+1) bad1 s1 R b1 id h1 X1 p1 (by omega) w hw) (λu M hM=>?_)
 obtain ⟨s2,bad2,b2,q2,p2,rfl⟩:=hM
 obtain ⟨ok,hok⟩:∃ z:Bool,z=nulPT p:=⟨_,rfl⟩
 refine Sy.nil<|Sy.then_<|Sy.region ?_
 refine sp rfl<|sp rfl<|sp rfl<|sP (.pointer (some ⟨gx,f+33,none⟩))<|sS (Cu.pv p.x p.y p.i) (rowC (R:=R) (cs:=lPT p) X2 inCW rfl rfl Tryz.underlying73)<|sP (Cu.pv 0 0 false)<|sS (.bool ok) (Quiet.pure (λw=>by rw [hok]; exact Cu.eql_pt w _ _ _ _ p.x p.y p.i 0 0 false rfl rfl rfl h2 h3 (by decide) (by decide))) ?_
 refine Sy.callT (λw hw=>must_w w0.inn gc gw bad2 ok s2 R w hw) (λu M hM=>?_)
 subst hM
 refine Sy.nil ?_
 have q:=(q1.then_ (q2.then_ (Wrote.must ok bad2 b2))).le (k':=34) (by omega)
 rw [Bool.true_and,Bool.true_and,List.append_nil,hok] at q
 exact Sy.retT0 rfl (CWS gc gw (bad2 || !ok) s2 R) (λ_ h=>h) (λ_=>⟨s2,bad2 || !ok,b2,by rw [hok]; exact q,p2,rfl⟩)
theorem amount_w:PutO 125 11 repAM okAM encAM (λ_=>34):=λw0 gc gw gx f bad s R b cs x hx _ hc hb hl w hw=>by
 obtain ⟨bl,va,p⟩:=x
 obtain ⟨rfl,h1,h2,h3⟩:=hx
 dsimp only at h1 h2 h3 hl
 have c0:OwnAt R gx f ([.bool bl]++([.int .u64 (va:Int)]++lPT p)):=hc
 have c1:OwnAt R gx (f+1) ([.int .u64 (va:Int)]++lPT p):=c0.right (n:=1) rfl
 have c2:OwnAt R gx (f+2) (lPT p):=c1.right (n:=1) rfl
 have X0:rdC w0.inn R gx f (.bool bl):=(c0.at w0.inn).one
 have X1:rdC w0.inn R gx (f+1) (.int .u64 (va:Int)):=(c1.at w0.inn).one
 have X2:XAt (rdC w0.inn R) gx (f+2) (lPT p):=c2.at w0.inn
 refine Sy.enterT (args:=[ptr gc,.pointer (some ⟨gx,f,none⟩)]) hw Tryz.func125 rfl kL ?_
 refine sC ?_
 refine sp rfl<|sp rfl<|sp rfl<|sP (.pointer (some ⟨gx,f,none⟩)) ?_
 refine Sy.callT (λw hw=>truth_w w0.inn gc gw gx f bad s R b bl c0.left hb (by omega) w hw) (λu M hM=>?_)
 obtain ⟨s1,bad1,b1,q1,p1,rfl⟩:=hM
 have l1:=q1.len
 refine sA ?_
 refine sp rfl<|sp rfl<|sP (.pointer (some ⟨gx,f,none⟩))<|sS (.bool bl) (cellC (R:=R) X0 inCW rfl Tryz.underlying4) ?_
 refine sG ?_
 cases bl
 case' true =>
  refine sT<|sC ?_
  refine sp rfl<|sp rfl<|sp rfl<|sP (.pointer (some ⟨gx,f+2,none⟩)) ?_
  refine Sy.callT (λw hw=>point_w w0.inn gc gw gx (f+2) bad1 s1 R b1 (lPT p) p ⟨rfl,h2,h3⟩ rfl X2 p1 (by show _+33≤_; omega) w hw) (λu M hM=>?_)
  obtain ⟨s2,bad2,b2,q2,p2,rfl⟩:=hM
  obtain ⟨ok,hok⟩:∃ z:Bool,z=decide (va=0):=⟨_,rfl⟩
  refine Sy.nil<|Sy.then_<|Sy.region ?_
  refine sp rfl<|sp rfl<|sp rfl<|sP (.pointer (some ⟨gx,f+1,none⟩))<|sS (.int .u64 (va:Int)) (cellC (R:=R) X1 inCW rfl Tryz.underlying22)<|sS (.bool ok) (Quiet.pure (exec_int .eql _ _ _ .u64 _ _ _ rfl rfl rfl (int_eql _ _ _ _ _ (by rw [hok]; exact decide_eq_decide.2 (by omega))))) ?_
  refine Sy.callT (λw hw=>must_w w0.inn gc gw bad2 ok s2 R w hw) (λu M hM=>?_)
  subst hM
  refine Sy.nil ?_
  have q:=q1.then_ (q2.then_ (Wrote.must ok bad2 b2))
  rw [Bool.true_and,List.append_nil,hok] at q
  exact Sy.retT0 rfl (CWS gc gw (bad2 || !ok) s2 R) (λ_ h=>h) (λ_=>⟨s2,bad2 || !ok,b2,by rw [hok]; exact q,p2,rfl⟩)
 refine sU<|sC ?_
 refine sp rfl<|sp rfl<|sp rfl<|sP (.pointer (some ⟨gx,f+1,none⟩)) ?_
 refine Sy.callT (λw hw=>long_w w0.inn gc gw gx (f+1) bad1 s1 R b1 va h1 X1 p1 (by omega) w hw) (λu M hM=>?_)
 obtain ⟨s2,bad2,b2,q2,p2,rfl⟩:=hM
 obtain ⟨ok,hok⟩:∃ z:Bool,z=nulPT p:=⟨_,rfl⟩
 refine Sy.nil<|Sy.then_<|Sy.region ?_
 refine sp rfl<|sp rfl<|sp rfl<|sP (.pointer (some ⟨gx,f+2,none⟩))<|sS (Cu.pv p.x p.y p.i) (rowC (R:=R) (cs:=lPT p) X2 inCW rfl rfl Tryz.underlying73)<|sP (Cu.pv 0 0 false)<|sS (.bool ok) (Quiet.pure (λw=>by rw [hok]; exact Cu.eql_pt w _ _ _ _ p.x p.y p.i 0 0 false rfl rfl rfl h2 h3 (by decide) (by decide))) ?_
 refine Sy.callT (λw hw=>must_w w0.inn gc gw bad2 ok s2 R w hw) (λu M hM=>?_)
 subst hM
 refine Sy.nil ?_
 have q:=(q1.then_ (q2.then_ (Wrote.must ok bad2 b2))).le (k':=34) (by omega)
 rw [Bool.true_and,Bool.true_and,List.append_nil,hok] at q
 exact Sy.retT0 rfl (CWS gc gw (bad2 || !ok) s2 R) (λ_ h=>h) (λ_=>⟨s2,bad2 || !ok,b2,by rw [hok]; exact q,p2,rfl⟩)
end Wr
end
section
namespace Wr
open Go.RowKit Sy
set_option maxRecDepth 100000
set_option maxHeartbeats 4000000
end Wr
end
section
namespace Wr
open Go.RowKit Sy
set_option maxRecDepth 100000
set_option maxHeartbeats 4000000
structure MOu where
 kind:Int
 asset:MTag
 amount:MAmt
 range:Byt
 surject:Byt
 note:Byt
 script:Byt
def okK (k:Int):Bool:=decide (1≤k) && decide (k≤4)
def cOU (o:MOu) (vr vs vn vc:Value):List Value:=[.int .i64 o.kind]++(cTG o.asset++(cAM o.amount++([vr]++([vs]++([vn]++[vc])))))
def repOU (C:Rdr) (cs:List Value) (o:MOu):Prop:=∃ vr vs vn vc,cs=cOU o vr vs vn vc∧(o.asset.id.length=32∧o.asset.pt.x<Cu.K4∧o.asset.pt.y<Cu.K4)∧(o.amount.value<18446744073709551616∧o.amount.pt.x<Cu.K4∧o.amount.pt.y<Cu.K4)∧BytR C vr o.range∧BytR C vs o.surject∧BytR C vn o.note∧BytR C vc o.script
theorem monoOU:Mono repOU:=λhl ⟨vr,vs,vn,vc,h1,h2,h3,h4,h5,h6,h7⟩=>⟨vr,vs,vn,vc,h1,h2,h3,h4.le hl,h5.le hl,h6.le hl,h7.le hl⟩
def encT (b:Byt):Byt:=varB b.length++b
def okOU (o:MOu):Bool:=okK o.kind && (okTG o.asset && (okAM o.amount && (decide (o.range.length≤6000) && (decide (o.surject.length≤6000) && (decide (o.note.length≤128) && decide (o.script.length≤256))))))
def encOU (o:MOu):Byt:=[octB o.kind]++(encTG o.asset++(encAM o.amount++(encT o.range++(encT o.surject++(encT o.note++encT o.script)))))
def wtOU (o:MOu):Nat:=1+(34+(34+((9+o.range.length)+((9+o.surject.length)+((9+o.note.length)+(9+o.script.length))))))
theorem okK_of {z:Int} (h:¬ (z=1∨z=2∨z=3∨z=4)):okK z=false:=by
 cases hb:okK z with
 | false=>rfl
 | true =>
  unfold okK at hb
  rw [Bool.and_eq_true,decide_eq_true_eq,decide_eq_true_eq] at hb
  exact (h (by omega)).elim
theorem okK_yes {z:Int} (h:z=1∨z=2∨z=3∨z=4):okK z=true∧okO z=true:=by rcases h with rfl | rfl | rfl | rfl <;> exact ⟨rfl,rfl⟩
theorem cTG_len {t:MTag} (h:t.id.length=32):(cTG t).length=42:=by unfold cTG; rw [List.length_append,List.length_append,List.length_map,h]; rfl
theorem out_w:PutO 65 58 repOU okOU encOU wtOU:=λw0 gc gw gx f bad s R b cs x hx _ hc hb hl w hw=>by
 obtain ⟨z,ta,am,rg,su,nt,sc⟩:=x
 obtain ⟨vr,vs,vn,vc,rfl,h1,h2,h3,h4,h5,h6⟩:=hx
 dsimp only at h1 h2 h3 h4 h5 h6
 unfold wtOU at hl
 dsimp only at hl
 have c0:OwnAt R gx f ([.int .i64 z]++(cTG ta++(cAM am++([vr]++([vs]++([vn]++[vc])))))):=hc
 have c1:OwnAt R gx (f+1) (cTG ta++(cAM am++([vr]++([vs]++([vn]++[vc]))))):=c0.right (n:=1) rfl
 have c2:OwnAt R gx (f+43) (cAM am++([vr]++([vs]++([vn]++[vc])))):=by have q:=c1.right (cTG_len h1.1); rwa [Nat.add_assoc] at q
 have c3:OwnAt R gx (f+54) ([vr]++([vs]++([vn]++[vc]))):=by have q:=c2.right (n:=11) rfl; rwa [Nat.add_assoc] at q
 have c4:OwnAt R gx (f+55) ([vs]++([vn]++[vc])):=c3.right (n:=1) rfl
 have c5:OwnAt R gx (f+56) ([vn]++[vc]):=c4.right (n:=1) rfl
 have c6:OwnAt R gx (f+57) [vc]:=c5.right (n:=1) rfl
 have X0:rdC w0.inn R gx f (.int .i64 z):=(c0.at w0.inn).one
 refine Sy.enterT (args:=[ptr gc,.pointer (some ⟨gx,f,none⟩)]) hw Tryz.func65 rfl kL ?_
 refine sC ?_
 refine sp rfl<|sp rfl<|sp rfl<|sP (.pointer (some ⟨gx,f,none⟩)) ?_
 refine Sy.callT (λw hw=>octet_w w0.inn gc gw gx f bad s R b z X0 hb (by omega) w hw) (λu M hM=>?_)
 obtain ⟨s1,bad1,b1,q1,p1,rfl⟩:=hM
 have l1:=q1.len
 refine sA ?_
 refine sp rfl<|sp rfl<|sP (.pointer (some ⟨gx,f,none⟩))<|sS (.int .i64 z) (cellC (R:=R) X0 inCW rfl Tryz.underlying3) ?_
 refine sG<|Sy.block<|Sy.seq<|Sy.block ?_
 by_cases hk:z=1∨z=2∨z=3∨z=4
 ·obtain ⟨k1,k2⟩:=okK_yes hk
  refine Sy.seq ?_
  refine cutC [(0,ptr gc),(1,.pointer (some ⟨gx,f,none⟩))] (CWS gc gw bad1 s1 R) ?_ ?_
  ·clear hl X0 c0 q1 k1 k2 hc
   rcases hk with rfl | rfl | rfl | rfl
   ·refine Sy.block<|Sy.block<|Sy.block<|Sy.block<|Sy.seq<|Sy.seq<|sC ?_
    refine sP (.bool true)<|sp rfl ?_
    refine sG<|sT<|Sy.exit<|Sy.then_exit<|Sy.then_exit<|Sy.in_exit<|Sy.in_<|Sy.in_<|Sy.in_ ?_
    exact meet (all_cons kR (all_cons kR all_nil)) (λ_ h=>h)
   ·refine Sy.block<|Sy.block<|Sy.block<|Sy.block<|Sy.seq<|Sy.seq<|sC ?_
    refine sP (.bool false)<|sp rfl ?_
    refine sG<|sU<|Sy.skip<|Sy.then_<|Sy.seq<|sC ?_
    refine sP (.bool true)<|sp rfl ?_
    refine sG<|sT<|Sy.exit<|Sy.then_exit<|Sy.then_exit ?_
    refine Sy.in_pass (by decide) ?_
    refine Sy.in_exit<|Sy.in_<|Sy.in_ ?_
    exact meet (all_cons kR (all_cons kR all_nil)) (λ_ h=>h)
   ·refine Sy.block<|Sy.block<|Sy.block<|Sy.block<|Sy.seq<|Sy.seq<|sC ?_
    refine sP (.bool false)<|sp rfl ?_
    refine sG<|sU<|Sy.skip<|Sy.then_<|Sy.seq<|sC ?_
    refine sP (.bool false)<|sp rfl ?_
    refine sG<|sU<|Sy.skip<|Sy.then_<|Sy.seq<|sC ?_
    refine sP (.bool true)<|sp rfl ?_
    refine sG<|sT<|Sy.exit<|Sy.then_exit<|Sy.then_exit ?_
    refine Sy.in_pass (by decide) ?_
    refine Sy.in_pass (by decide) ?_
    refine Sy.in_exit<|Sy.in_ ?_
    exact meet (all_cons kR (all_cons kR all_nil)) (λ_ h=>h)
   ·refine Sy.block<|Sy.block<|Sy.block<|Sy.block<|Sy.seq<|Sy.seq<|sC ?_
    refine sP (.bool false)<|sp rfl ?_
    refine sG<|sU<|Sy.skip<|Sy.then_<|Sy.seq<|sC ?_
    refine sP (.bool false)<|sp rfl ?_
    refine sG<|sU<|Sy.skip<|Sy.then_<|Sy.seq<|sC ?_
    refine sP (.bool false)<|sp rfl ?_
    refine sG<|sU<|Sy.skip<|Sy.then_<|sC ?_
    refine sP (.bool true)<|sp rfl ?_
    refine sG<|sT<|Sy.exit<|Sy.then_exit ?_
    refine Sy.in_pass (by decide) ?_
    refine Sy.in_pass (by decide) ?_
    refine Sy.in_pass (by decide) ?_
    refine Sy.in_exit ?_
    exact meet (all_cons kR (all_cons kR all_nil)) (λ_ h=>h)
  refine Sy.then_<|Sy.seq<|sC ?_
  refine sp rfl<|sp rfl<|sp rfl<|sP (.pointer (some ⟨gx,f+1,none⟩)) ?_
  refine Sy.callT (λw hw=>tag_w w0.inn gc gw gx (f+1) bad1 s1 R b1 (cTG ta) ta ⟨rfl,h1⟩ (cTG_len h1.1) c1.left p1 (by show _+34≤_; omega) w hw) (λu M hM=>?_)
  obtain ⟨s2,bad2,b2,q2,p2,rfl⟩:=hM
  have l2:b2.length≤b1.length+34:=q2.len
  refine sA ?_
  refine sp rfl<|sp rfl<|sp rfl<|sP (.pointer (some ⟨gx,f+43,none⟩)) ?_
  refine Sy.callT (λw hw=>amount_w w0.inn gc gw gx (f+43) bad2 s2 R b2 (cAM am) am ⟨rfl,h2⟩ rfl c2.left p2 (by show _+34≤_; omega) w hw) (λu M hM=>?_)
  obtain ⟨s3,bad3,b3,q3,p3,rfl⟩:=hM
  have l3:b3.length≤b2.length+34:=q3.len
  refine sA ?_
  refine sp rfl<|sp rfl<|sp rfl<|sP (.pointer (some ⟨gx,f+54,none⟩)) ?_
  refine Sy.callT (λw hw=>text_w w0.inn gc gw gx (f+54) bad3 s3 R b3 rg vr 6000 (by decide) h3 (c3.at w0.inn).one p3 (by omega) w hw) (λu M hM=>?_)
  obtain ⟨s4,bad4,b4,q4,p4,rfl⟩:=hM
  have l4:b4.length≤b3.length+(9+rg.length):=q4.len
  refine sA ?_
  refine sp rfl<|sp rfl<|sp rfl<|sP (.pointer (some ⟨gx,f+55,none⟩)) ?_
  refine Sy.callT (λw hw=>text_w w0.inn gc gw gx (f+55) bad4 s4 R b4 su vs 6000 (by decide) h4 (c4.at w0.inn).one p4 (by omega) w hw) (λu M hM=>?_)
  obtain ⟨s5,bad5,b5,q5,p5,rfl⟩:=hM
  have l5:b5.length≤b4.length+(9+su.length):=q5.len
  refine sA ?_
  refine sp rfl<|sp rfl<|sp rfl<|sP (.pointer (some ⟨gx,f+56,none⟩)) ?_
  refine Sy.callT (λw hw=>text_w w0.inn gc gw gx (f+56) bad5 s5 R b5 nt vn 128 (by decide) h5 (c5.at w0.inn).one p5 (by omega) w hw) (λu M hM=>?_)
  obtain ⟨s6,bad6,b6,q6,p6,rfl⟩:=hM
  have l6:b6.length≤b5.length+(9+nt.length):=q6.len
  refine Sy.nil<|Sy.then_<|Sy.region ?_
  refine sp rfl<|sp rfl<|sp rfl<|sP (.pointer (some ⟨gx,f+57,none⟩)) ?_
  refine Sy.callT (λw hw=>text_w w0.inn gc gw gx (f+57) bad6 s6 R b6 sc vc 256 (by decide) h6 (c6.at w0.inn).one p6 (by omega) w hw) (λu M hM=>?_)
  obtain ⟨s7,bad7,b7,q7,p7,rfl⟩:=hM
  have l7:b7.length≤b6.length+(9+sc.length):=q7.len
  refine Sy.nil<|Sy.then_<|Sy.exit ?_
  refine Sy.in_pass (by decide) ?_
  refine Sy.then_exit<|Sy.in_exit ?_
  have q:=q1.then_ (q2.then_ (q3.then_ (q4.then_ (q5.then_ (q6.then_ q7)))))
  rw [k2, ← k1] at q
  exact Sy.retT0 rfl (CWS gc gw bad7 s7 R) (λ_ h=>h) (λ_=>⟨s7,bad7,b7,q,p7,rfl⟩)
 refine Sy.seq<|Sy.block<|Sy.block<|Sy.block<|Sy.block<|Sy.seq<|Sy.seq<|sC ?_
 refine sS (.bool false) (Quiet.pure (exec_int .eql _ _ _ .i64 _ _ _ rfl rfl rfl (int_eql _ _ _ _ _ (decide_eq_false (λe=>hk (by simp [e]))))))<|sp rfl ?_
 refine sG<|sU<|Sy.skip<|Sy.then_<|Sy.seq<|sC ?_
 refine sS (.bool false) (Quiet.pure (exec_int .eql _ _ _ .i64 _ _ _ rfl rfl rfl (int_eql _ _ _ _ _ (decide_eq_false (λe=>hk (by simp [e]))))))<|sp rfl ?_
 refine sG<|sU<|Sy.skip<|Sy.then_<|Sy.seq<|sC ?_
 refine sS (.bool false) (Quiet.pure (exec_int .eql _ _ _ .i64 _ _ _ rfl rfl rfl (int_eql _ _ _ _ _ (decide_eq_false (λe=>hk (by simp [e]))))))<|sp rfl ?_
 refine sG<|sU<|Sy.skip<|Sy.then_<|sC ?_
 refine sS (.bool false) (Quiet.pure (exec_int .eql _ _ _ .i64 _ _ _ rfl rfl rfl (int_eql _ _ _ _ _ (decide_eq_false (λe=>hk (by simp [e]))))))<|sp rfl ?_
 refine sG<|sU<|Sy.skip<|Sy.then_<|Sy.exit ?_
 refine Sy.in_pass (by decide) ?_
 refine Sy.in_pass (by decide) ?_
 refine Sy.in_pass (by decide) ?_
 refine Sy.in_pass (by decide) ?_
 refine Sy.then_exit<|Sy.in_exit<|sB ?_
 refine sp rfl ?_
 refine Sy.callT (λw hw=>must_w w0.inn gc gw bad1 false s1 R w hw) (λu M hM=>?_)
 subst hM
 refine sG<|Sy.exit<|Sy.in_exit ?_
 have hno:okOU ⟨z,ta,am,rg,su,nt,sc⟩=false:=by unfold okOU; rw [okK_of hk]; rfl
 exact Sy.retT0 rfl (CWS gc gw (bad1 || !false) s1 R) (λ_ h=>h) (λ_=>⟨s1,bad1 || !false,b1,⟨by rw [hno]; cases bad1 <;> cases bad <;> rfl,λh=>(by cases bad1 <;> cases h),by unfold wtOU; dsimp only; omega⟩,p1,rfl⟩)
end Wr
end
section
namespace Wr
open Go.RowKit Sy
set_option maxRecDepth 100000
set_option maxHeartbeats 4000000
theorem opn_fe:Opn 71 4 (λ_ cs n=>cs=Cu.fws n∧n<Cu.K4) (λ_=>0):=⟨λ{H enc W fuel cs x} hl hf=>by
 match cs,hl with
 | [c0,c1,c2,c3],_ =>
  obtain ⟨n,h1,h2⟩:=Cu.words_trod Tryz.underlying71 Tryz.underlying22 (by kernel_rfl) hf
  refine ⟨n,⟨h2,h1⟩,λu hu=>?_,bulk_pos _⟩
  rw [h2] at hu
  simp only [Cu.fws,List.mem_cons,List.not_mem_nil,or_false] at hu
  rcases hu with rfl | rfl | rfl | rfl <;> rfl⟩
theorem opn_pt:Opn 73 9 repPT (λ_=>0):=(opn_s3 Tryz.underlying73 (by kernel_rfl) (by kernel_rfl) (by kernel_rfl) (by kernel_rfl) (by kernel_rfl) (by kernel_rfl) opn_fe opn_fe (opn_b Tryz.underlying4)).as λC cs (x,y,i) ⟨a0,a1,a2,e,⟨e0,h0⟩,⟨e1,h1⟩,e2⟩=>by
 obtain rfl:a2=[.bool i]:=e2
 subst e0 e1 e
 exact ⟨⟨x,y,i⟩,⟨rfl,h0,h1⟩,Nat.zero_le _⟩
theorem opn_tag:Opn 86 42 repTG (λ_=>0):=(opn_s3 Tryz.underlying86 (by kernel_rfl) (by kernel_rfl) (by kernel_rfl) (by kernel_rfl) (by kernel_rfl) (by kernel_rfl) (opn_b Tryz.underlying4) opn_dg opn_pt).as λC cs (b,d,p) ⟨a0,a1,a2,e,e0,⟨e1,h1⟩,⟨e2,h2⟩⟩=>by
 obtain rfl:a0=[.bool b]:=e0
 subst e1 e2 e
 exact ⟨⟨b,d,p⟩,⟨rfl,h1,h2⟩,Nat.zero_le _⟩
theorem opn_amt:Opn 75 11 repAM (λ_=>0):=(opn_s3 Tryz.underlying75 (by kernel_rfl) (by kernel_rfl) (by kernel_rfl) (by kernel_rfl) (by kernel_rfl) (by kernel_rfl) (opn_b Tryz.underlying4) opn_u64 opn_pt).as λC cs (b,d,p) ⟨a0,a1,a2,e,e0,⟨e1,h1⟩,⟨e2,h2⟩⟩=>by
 obtain rfl:a0=[.bool b]:=e0
 subst e1 e2 e
 exact ⟨⟨b,d,p⟩,⟨rfl,h1,h2⟩,Nat.zero_le _⟩
theorem opn_out:Opn 88 58 repOU (λo=>o.range.length+o.surject.length+o.note.length+o.script.length):=(opn_s7 Tryz.underlying88 (by kernel_rfl) (by kernel_rfl) (by kernel_rfl) (by kernel_rfl) (by kernel_rfl) (by kernel_rfl) (by kernel_rfl) (by kernel_rfl) (by kernel_rfl) (by kernel_rfl) (by kernel_rfl) (by kernel_rfl) (by kernel_rfl) (by kernel_rfl) (opn_i Tryz.underlying3) opn_tag opn_amt opn_raw opn_raw opn_raw opn_raw).as λC cs (k,t,a,r,s,n,c) ⟨a0,a1,a2,a3,a4,a5,a6,ec,e0,⟨e1,h1⟩,⟨e2,h2⟩,⟨v3,e3,h3⟩,⟨v4,e4,h4⟩,⟨v5,e5,h5⟩,⟨v6,e6,h6⟩⟩=>by
 obtain rfl:a0=[.int .i64 k]:=e0
 dsimp only at e1 e2 e3 e4 e5 e6 h1 h2 h3 h4 h5 h6
 subst e1 e2 e3 e4 e5 e6 ec
 exact ⟨⟨k,t,a,r,s,n,c⟩,⟨v3,v4,v5,v6,rfl,h1,h2,h3,h4,h5,h6⟩,by dsimp only; omega⟩
end Wr
end
section
namespace Wr
open Go.RowKit Sy
set_option maxRecDepth 100000
set_option maxHeartbeats 4000000
theorem write_hdr {α:Type} {rep:Rdr→List Value→α→Prop} {ok:α→Bool} {enc:α→Byt} {wt:α→Nat} (hm:Mono rep) (hp:PutO 72 102 rep ok enc wt) (w:World) (cs:List Value) (x:α) (hx:rep (rdW w) cs x) (hl:cs.length=102) (hwt:wt x≤70368744170000) :
  Calls Tryz.prog 80 #[.agg cs.toArray,.func (.func 72) #[] #[]] w (GetsN w (BytE (ok x) (enc x))):=by
 refine Sy.enter (args:=[.agg cs.toArray,.func (.func 72) #[] #[]]) Tryz.func80 rfl kL ?_
 refine sC ?_
 refine sM 34 cs.toArray (λgx=>?_) kR (λw=>run_boxR rfl rfl (by kernel_rfl) hl w)
 refine sP (.slice none 0 0)<|sP (.int .i64 0) ?_
 refine sA ?_
 refine Sy.callN kR 59 #[] kF _ (λw _=>new_any w) (λv M hM=>?_)
 obtain ⟨gw,rfl,rfl⟩:=hM
 refine sP (.agg #[ptr gw,.pointer none,.bool false])<|sM 126 #[ptr gw,.pointer none,.bool false] (λgc=>?_)
 refine sp rfl ?_
 refine sA ?_
 refine Sy.permS (M:=CWS gc gw false nilS [(gx,34,cs.toArray)]) (Sy.perm_at [2,1,0] (by kernel_rfl) (by rfl)) ?_
 refine sp rfl<|sp rfl ?_
 refine Sy.callT (λw' hw=>hp (Base.of w) gc gw gx 0 false nilS [(gx,34,cs.toArray)] [] cs x (hm rdW_base hx) hl (ownX (List.mem_singleton.2 rfl)) BS.nil (by show 0+_≤_; omega) w' hw) (λv M hM=>?_)
 obtain ⟨s,bad,b,q1,q2,rfl⟩:=hM
 have hbl:b.length≤wt x:=by have:=q1.len; simpa using this
 refine sG<|Sy.seq<|sC ?_
 refine sp rfl<|sp rfl<|sP (.pointer (some ⟨gc,2,none⟩))<|sS (.bool bad) (qc 0 2 rfl rfl Tryz.underlying4) ?_
 refine sG ?_
 cases bad
 ·have hok:ok x=true:=by
   have e:=q1.bad
   cases h:ok x with
   | true=>rfl
   | false=>rw [h] at e; cases e
  obtain rfl:b=enc x:=by have:=q1.bytes rfl; simpa using this
  refine sU<|Sy.skip<|sB ?_
  refine sp rfl<|sp rfl<|sP (.pointer (some ⟨gc,0,none⟩))<|sS (ptr gw) (qc 0 0 rfl rfl Tryz.underlying122) ?_
  refine Sy.callT (λw' hw=>bytes_any (Base.of w) gw s ((gc,126,#[ptr gw,.pointer none,.bool false])::[(gx,34,cs.toArray)]) (enc x) q2 (by omega) w' (hw.perm permCW)) (λv M hM=>?_)
  obtain ⟨N,hN,rfl⟩:=hM
  refine sp rfl<|sP (.int .i64 0) ?_
  refine sG<|Sy.ret ?_
  exact Sy.retGM2 N rfl (.inl (show _=_ by kernel_rfl)) (.inl (show _=_ by kernel_rfl)) (λ_ h=>h.less (List.sublist_append_right _ _)) (.inl ⟨hok,v,rfl,hN⟩)
 ·have hok:ok x=false:=by
   have e:=q1.bad
   cases h:ok x with
   | false=>rfl
   | true=>rw [h] at e; cases e
  refine sT<|sC ?_
  refine sP (.slice none 0 0)<|sP (.int .i64 120) ?_
  refine sG<|Sy.ret<|Sy.then_ret ?_
  exact Sy.retGM2 [] rfl (.inl (show _=_ by kernel_rfl)) (.inl (show _=_ by kernel_rfl)) (λ_ h=>h.none) (.inr ⟨hok,rfl,rfl⟩)
theorem ex_hdr {α:Type} {rep:Rdr→List Value→α→Prop} {ok:α→Bool} {enc:α→Byt} {wt:α→Nat} (hm:Mono rep) (hp:PutO 72 102 rep ok enc wt) (w:World) (cs:List Value) (x:α) (hx:rep (rdW w) cs x) (hl:cs.length=102) (hwt:wt x≤70368744170000) :
  Calls Tryz.prog 40 #[.agg cs.toArray] w (GetsN w (BytE (ok x) (enc x))):=by
 refine Sy.enter (args:=[.agg cs.toArray]) Tryz.func40 rfl kL ?_
 refine sC ?_
 refine sM 34 cs.toArray (λgx=>?_) kR (λw=>run_boxR rfl rfl (by kernel_rfl) hl w)
 refine sP (.slice none 0 0)<|sP (.int .i64 0) ?_
 refine sA ?_
 refine sS (.agg cs.toArray) (rowC (R:=[(gx,34,cs.toArray)]) (memX (List.mem_singleton.2 rfl)) (λ_ h=>h) hl rfl Tryz.underlying34) ?_
 refine Sy.callN kR 80 #[.agg cs.toArray,.func (.func 72) #[] #[]] kF (BytE (ok x) (enc x)) (λw' hw=>write_hdr (rep:=rep) hm hp w' cs x (hm (λg o u h=>rdC_world (R:=[]) hw (λ_ h=>by cases h) g o u (.inl h)) hx) hl hwt) (λv M hM=>?_)
 have hv:∃ a e:Value,v=.tuple #[a,e]:=by
  rcases hM with ⟨_,u,rfl,_⟩ | ⟨_,rfl,_⟩ <;> exact ⟨_,_,rfl⟩
 obtain ⟨a,e,rfl⟩:=hv
 refine sp rfl<|sp rfl<|sp rfl<|sp rfl ?_
 refine sG<|Sy.ret ?_
 exact Sy.retGM2 M rfl (.inl (show _=_ by kernel_rfl)) (.inl (show _=_ by kernel_rfl)) (λ_ h=>h.less (List.sublist_append_right _ _)) hM
end Wr
end
section
namespace Wr
open Go.RowKit Sy
set_option maxRecDepth 100000
set_option maxHeartbeats 4000000
end Wr
end
section
namespace Wr
open Go.RowKit Sy
set_option maxRecDepth 100000
set_option maxHeartbeats 4000000
end Wr
end
section
namespace Wr
open Go.RowKit Sy
set_option maxRecDepth 100000
set_option maxHeartbeats 4000000
noncomputable def inf_ous:TypeInfo:=(Tryz.prog.info? 88).getD default
theorem info_ous:Tryz.prog.info? 88=some inf_ous:=by kernel_rfl
noncomputable def K_ous:LK:=⟨88,24,136,220,137,221,223,303,302,352,64,120,121,122,123,185,221,65,58,304,([Value.int .i64 0]++(([Value.bool false]++(Z32++lPT ⟨0,0,false⟩))++(([Value.bool false]++([Value.int .u64 0]++lPT ⟨0,0,false⟩))++([Value.slice none 0 0]++([Value.slice none 0 0]++([Value.slice none 0 0]++([Value.slice none 0 0]))))))),inf_ous⟩
theorem ok_ous:K_ous.Ok:={
 c_f0:=⟨_,_,Tryz.func64⟩,
 c_fL:=⟨_,_,Tryz.func120⟩,
 c_f1:=⟨_,_,Tryz.func121⟩,
 c_fP:=⟨_,_,Tryz.func122⟩,
 c_f2:=⟨_,_,Tryz.func123⟩,
 c_fI:=⟨_,_,Tryz.func185⟩,
 c_fJ:=⟨_,_,Tryz.func221⟩,
 ute:=⟨_,Tryz.underlying88,rfl⟩,
 uts:=Tryz.underlying24,
 ufw:=⟨_,Tryz.underlying137,rfl⟩,
 ufr:=⟨_,Tryz.underlying221,rfl⟩,
 inf:=info_ous,
 zero:=⟨_,rfl,by kernel_rfl⟩,
 size:=rfl,
 byt:=rfl,
 zl:=by kernel_rfl,
 pos:=(by decide:0<58),
 top:=(by decide:58≤16777216),
 btop:=(by decide:304≤100000000),
 its:=by kernel_rfl,
 ifw:=by kernel_rfl,
 ifr:=by kernel_rfl,
 zts:=⟨(Tryz.prog.info? 24).getD default,by kernel_rfl,by kernel_rfl⟩,
 e_fe:=enters_of Tryz.func65 kR rfl,
 e_f2:=enters_of Tryz.func123 kR rfl,
 e_fP:=enters_of Tryz.func122 kR rfl,
 e_f1:=enters_of Tryz.func121 kR rfl,
 e_fL:=enters_of Tryz.func120 kR rfl,
 e_fI:=enters_of Tryz.func185 kR rfl,
 e_fJ:=enters_of Tryz.func221 kR rfl }
theorem list_w_ous {α:Type} {rep:Rdr→List Value→α→Prop} {ok:α→Bool} {enc:α→Byt} {wt:α→Nat} (hm:Mono rep) (hp:PutO 65 58 rep ok enc wt) (w0:Base) (gc gw gx f most:Nat) (hmo:most<1000000) (bad:Bool) (s:Slc) (R:Blocks) (b:Byt) (v:Value) (l:List α) (hv:LstR (rdC w0 R) 58 rep v l) (hc:rdC w0 R gx f v) (hb:BS s b) (hlen:b.length+(9+(l.map wt).sum)≤70368744170000) (w:World) (hw:St w0 w (CWS gc gw bad s R)) :
  Calls Tryz.prog 64 #[ptr gc,.pointer (some ⟨gx,f,none⟩),.int .i64 (most:Int),.func (.func 65) #[] #[]] w (Turns w0 (WrC gc gw R (decide (l.length≤most) && l.all ok) (varB l.length++l.flatMap enc) (9+(l.map wt).sum) bad b)):=list_wG (rep:=rep) (ok:=ok) (enc:=enc) (wt:=wt) ok_ous hm hp w0 gc gw gx f most hmo bad s R b v l hv hc hb hlen w hw
end Wr
end
end Go.Proofs.YtgggdbjakcpanaaGreatDoor
