import PyProof.Rows.All
import Wide.All
import OpenK.AllK
import Wide.FinOn
import Lean
import PyProof.EqAt
import PyProof.EqKinds
import PyProof.TupleCall
import PyProof.CompFree
import PyProof.CompMap
import KE.LcSums
import PyProof.ZipIter
import PyProof.Draws
import KE.KRevSl
import KE.KListMore
import PyProof.Rows.StrJoin2
import PyProof.Rows.StrFin3
import PyProof.StrOps2
import PyProof.NeData
import PyProof.P3Eq
import PyProof.StrLawsRepr
import PyProof.ReprLen
import PyProof.Rows.IntBool
import PyProof.SliceStr2
import PyProof.P3In
import PyProof.Rows.StrLen
import KE.KStrOpen
import PyProof.FitsInt
import PyProof.Rows.ReprOcc
import PyProof.ListRange
import PyProof.AttrMissHeap
import PyProof.FactsAll.zip
import PyProof.FactsAll.tuple_3
import KE.KDictOf
import PyProof.SeqRoads2
import PyProof.DictCompW
import PyProof.Rows.StrInSeq3
import OpenK.KOwn
import KE.KIsAll
import KE.KTryMore
import PyProof.StationsW
import PyProof.RulesAs
import PyProof.NsDelKeeps
import KE.KDictSum
import KE.KIntText
import PyProof.StrCalls2
import PyProof.Rows.StrItems
import PyProof.DictUpdate
import PyProof.Rows.StrSplitCount
import PyProof.Rows.StrFirst
import PyProof.Rows.StrLawsPart
import PyProof.Rows.StrDigitsNeg
import KE.IntTextLaws
import PyProof.Rows.FStr
import PyProof.SeqRoads
import PyProof.Rows.SeqMore
import KE.KEqDict
import PyProof.FactsAll.tuple_2
import PySem.Challenge.RW_gainroads_k72_hundreds_of_deeds
set_option Elab.async false
set_option linter.all false
set_option maxRecDepth 100000
local macro_rules | `(tactic| nofun)=>`(tactic| decide +kernel)
local macro_rules | `(⟨$xs,*⟩)=>do
 let es:=xs.getElems
 unless es.any (fun e=>match e with | `(())=>true | _=>false) do Lean.Macro.throwUnsupported
 let mut o:=#[]
 for e in es do
  match e with
  | `(())=>o:=(o.push (←`(_))).push (←`(rfl))
  | _=>o:=o.push e
 `(⟨$o,*⟩)
set_option genSizeOf false
set_option genInjectivity false
namespace L2
inductive bX {α0 α1:Type} (p:α0→α1→Prop):Prop
 | mk (a0:α0) (a1:α1) (h:p a0 a1)
inductive kZ {α0 α1 α2:Type} (p:α0→α1→α2→Prop):Prop
 | mk (a0:α0) (a1:α1) (a2:α2) (h:p a0 a1 a2)
inductive rO {α0 α1 α2 α3:Type} (p:α0→α1→α2→α3→Prop):Prop
 | mk (a0:α0) (a1:α1) (a2:α2) (a3:α3) (h:p a0 a1 a2 a3)
inductive xM {α0 α1 α2 α3 α4:Type} (p:α0→α1→α2→α3→α4→Prop):Prop
 | mk (a0:α0) (a1:α1) (a2:α2) (a3:α3) (a4:α4) (h:p a0 a1 a2 a3 a4)
inductive vI {α0 α1 α2 α3 α4 α5:Type} (p:α0→α1→α2→α3→α4→α5→Prop):Prop
 | mk (a0:α0) (a1:α1) (a2:α2) (a3:α3) (a4:α4) (a5:α5) (h:p a0 a1 a2 a3 a4 a5)
inductive Fv {α0 α1 α2 α3 α4 α5 α6:Type} (p:α0→α1→α2→α3→α4→α5→α6→Prop):Prop
 | mk (a0:α0) (a1:α1) (a2:α2) (a3:α3) (a4:α4) (a5:α5) (a6:α6) (h:p a0 a1 a2 a3 a4 a5 a6)
inductive JA {α0 α1 α2 α3 α4 α5 α6 α7:Type} (p:α0→α1→α2→α3→α4→α5→α6→α7→Prop):Prop
 | mk (a0:α0) (a1:α1) (a2:α2) (a3:α3) (a4:α4) (a5:α5) (a6:α6) (a7:α7) (h:p a0 a1 a2 a3 a4 a5 a6 a7)
inductive IG {α0 α1 α2 α3 α4 α5 α6 α7 α8:Type} (p:α0→α1→α2→α3→α4→α5→α6→α7→α8→Prop):Prop
 | mk (a0:α0) (a1:α1) (a2:α2) (a3:α3) (a4:α4) (a5:α5) (a6:α6) (a7:α7) (a8:α8) (h:p a0 a1 a2 a3 a4 a5 a6 a7 a8)
inductive Jn {α0 α1 α2 α3 α4 α5 α6 α7 α8 α9:Type} (p:α0→α1→α2→α3→α4→α5→α6→α7→α8→α9→Prop):Prop
 | mk (a0:α0) (a1:α1) (a2:α2) (a3:α3) (a4:α4) (a5:α5) (a6:α6) (a7:α7) (a8:α8) (a9:α9) (h:p a0 a1 a2 a3 a4 a5 a6 a7 a8 a9)
inductive CO {α0 α1 α2 α3 α4 α5 α6 α7 α8 α9 α10:Type} (p:α0→α1→α2→α3→α4→α5→α6→α7→α8→α9→α10→Prop):Prop
 | mk (a0:α0) (a1:α1) (a2:α2) (a3:α3) (a4:α4) (a5:α5) (a6:α6) (a7:α7) (a8:α8) (a9:α9) (a10:α10) (h:p a0 a1 a2 a3 a4 a5 a6 a7 a8 a9 a10)
end L2
set_option genSizeOf true
set_option genInjectivity true
local macro_rules | `(tactic| trivial)=>`(tactic| first | lia | omega)
namespace L2
open PySem PySem.Spec PyProof.Rows
def wC (s:Stmt):Arguments:=match s with
 | .FunctionDef _ a _ _ _ _ _ _ _ _=>a
 | _=>{ posonlyargs:=[],args:=[],vararg:=none,kwonlyargs:=[],kw_defaults:=[],kwarg:=none,defaults:=[] }
def qr (s:Stmt):List Stmt:=match s with
 | .FunctionDef _ _ b _ _ _ _ _ _ _=>b
 | _=>[]
def ah (s:Stmt):Scope:=match s with
 | .FunctionDef _ _ _ _ _ _ sc _ _ _=>sc
 | _=>{ kind:=.function,names:=[],isGenerator:=false,isCoroutine:=false }
end L2
namespace L2
open PySem PySem.Spec PyProof.Rows PySem.W
abbrev Gg (K:Frag) (C:Addr):Bool:=findIn K (.ref C) "__getattribute__" == some (some (.builtin "BaseException.__getattribute__")) && findIn K (.ref C) "__getattr__" == some none && mroIn K C (.type "BaseException")==some true
abbrev Jr (K:Frag) (C:Addr):Bool:=Gg K C && (clsIn K C).isSome && findIn K (.ref C) "__class__" == some (some (.builtin "object.__class__")) && specialIn K (.builtin "object.__class__") "__get__" == some (some (.builtin "getset_descriptor.__get__")) && takesIn K (.builtin "object.__class__")==some true && mroIn K C (.type "object")==some true
end L2
namespace L2
open PySem PySem.Spec PyProof.Rows PySem.W PySem.Builtin.ObjectAttr
def wQ:List Value→Bool
 | .ref _ :: r=>wQ r
 | l=>l==[.type "ValueError",.type "Exception",.type "BaseException",.type "object"]
abbrev GQ (K:Frag) (C:Addr) (name:Str):Bool:=(clsIn K C).any (fun cd=>wQ cd.mro && cd.hasDict) && findIn K (.ref C) "__setattr__" == some (some (.builtin "object.__setattr__")) && takerIn K C name==some none && mroIn K C (.type "object")==some true
abbrev Dr:List Value:=[.type "ValueError",.type "Exception",.type "BaseException",.type "object"]
def Cr (d:Data):Option ClassData:=match d with
 | .cls cd=>some cd
 | _=>none
def eU (K:Frag) (C:Addr) (ini:Option Value):Bool:=match K.lookup C with
 | none=>false
 | some o=>match Cr o.data with
  | none=>false
  | some cd=>(o.cls==.type "type") && ((cd.mro.head?==some (.ref C)) && (!cd.hasDel && (tailIn K Dr cd.mro.tail && (nsOkIn K cd.ns && (nsIn K cd.ns "__init__" == some ini && (o.slots.size==6 && o.slots[4]?==some (some (.builtin "ValueError.__new__"))))))))
end L2
namespace L2
open PySem PySem.Spec PyProof.Rows
abbrev Fq (K:PySem.W.Frag) (B:Addr):Bool:=PySem.W.specialIn K (.ref B) "__getattribute__" == some (some (.builtin "type.__getattribute__")) && PySem.W.readsIn K B (.type "type") && (match PySem.W.findCls K (.ref B) (.type "type") "__init__" with | some (.val v)=>v==.builtin "ValueError.__init__" | _=>false)
abbrev Ge (K:PySem.W.Frag) (C:Addr) (f:Str):Bool:=Gg K C && (PySem.W.clsIn K C).any (·.hasDict) && PySem.W.findIn K (.ref C) f==some none
def cw:Stmt→Nat→Stmt
 | .ClassDef _ _ _ body _ _ _ _ _ _ _,j=>body.getD j (.Pass ⟨0,0,0,0⟩)
 | _,_=>.Pass ⟨0,0,0,0⟩
def Dx (K:PySem.W.Frag) (cs:List Addr) (g:Addr):Bool:=decide cs.Nodup && cs.all fun c=>Jr K c && (PySem.W.kitOne K (.ref c) (.ref g)==some true && (PySem.W.kitOne K (.ref c) (.type "ValueError")==some true && cs.all fun d=>PySem.W.kitOne K (.ref c) (.ref d)==some (decide (c=d))))
def qq:Nat→List Obj→PySem.W.Frag
 | _,[]=>[]
 | n,o :: r=>match o.data with
  | .freed=>qq (n+1) r
  | _=>(n,o) :: qq (n+1) r
def fragOf (h:Heap):PySem.W.Frag:=qq 0 h.objs.toList
def kQ:Option (Option Value)→Addr
 | some (some (.ref a))=>a
 | _=>0
def y7:Option (Option Value)→Bool
 | some (some (.ref _))=>true
 | _=>false
def wH:Option (Option Value)→Bool
 | some none=>true
 | _=>false
def y8 (K:PySem.W.Frag) (v:Option (Option Value)):Obj:=(List.lookup (kQ v) K).getD ⟨.none,none,.plain,#[]⟩
def JF:FuncData:=PySem.W.fnOf (PySem.Str.mk #[]) (PySem.Str.mk #[]) ⟨[],[],none,[],[],none,[]⟩ [] ⟨.function,[],false,false,[]⟩ .none .none .none .none none .none .none
def je (K:PySem.W.Frag) (v:Option (Option Value)):FuncData:=match (y8 K v).data with
 | .func fd=>fd
 | _=>JF
def bare (fd:FuncData):FuncData:={ fd with kwdefaults:=.none,doc:=.none,pyModule:=.none,annotations:=none,code:=.none,closureTuple:=.none }
def bA (K:PySem.W.Frag) (v:Option (Option Value)) (q:Str):Option FuncData:=
 match y7 v && PySem.W.codeIn K (je K v).code q && PySem.W.keepIn K (.ref (kQ v)) with
 | false=>none
 | true=>match List.lookup (kQ v) K with
  | some ⟨_,_,.func fd,_⟩=>some (bare fd)
  | _=>none
def aG (K:PySem.W.Frag) (n:Str):Addr:=kQ (PySem.W.nsIn K mainGlobals n)
def rG (K:PySem.W.Frag) (n:Str):Bool:=y7 (PySem.W.nsIn K mainGlobals n)
def oG (K:PySem.W.Frag) (n:Str):Bool:=wH (PySem.W.nsIn K mainGlobals n)
def fG (K:PySem.W.Frag) (n:Str):Option FuncData:=bA K (PySem.W.nsIn K mainGlobals n) n
def dG (n q:Str) (st:Stmt):Option FuncData:=some (PySem.W.fnOf n q (wC st) (qr st) (ah st) .none .none .none .none none .none .none)
def Av (K:PySem.W.Frag) (C:Addr):Bool:=PySem.W.plainGet K C Str.empty && (PySem.W.hasDictIn K C && (PySem.W.plainOver K C && PySem.W.findIn K (.ref C) "__setattr__" == some (some (.builtin "object.__setattr__"))))
def cv (K:PySem.W.Frag) (C:Addr) (m:Str):Bool:=y7 (PySem.W.findIn K (.ref C) m) && (PySem.W.isFn K (.ref (kQ (PySem.W.findIn K (.ref C) m))) && PySem.W.keepIn K (.ref (kQ (PySem.W.findIn K (.ref C) m))))
def xC (K:PySem.W.Frag) (C:Addr):Bool:=PySem.W.makesIn K C && (cv K C "__init__" && PySem.W.keepIn K (.ref C))
end L2
namespace K72
open PySem L2
def bw (i:Nat):Stmt:=PySem.Challenge.pw_gainroads_k72_hundreds_of_deeds.main.body.getD i (.Pass ⟨0,0,0,0⟩)
abbrev qP:Stmt:=bw 40
abbrev u6:Stmt:=bw 41
abbrev qL:Stmt:=bw 42
abbrev qV:Stmt:=bw 43
abbrev bV:Stmt:=bw 44
abbrev eQ:Stmt:=bw 45
abbrev fX:Stmt:=bw 46
abbrev eY:Stmt:=bw 47
abbrev iL:Stmt:=bw 48
abbrev fJ:Stmt:=bw 49
abbrev bI:Stmt:=bw 50
abbrev bG:Stmt:=bw 51
abbrev cr:Stmt:=bw 52
abbrev aF:Stmt:=bw 53
abbrev cP:Stmt:=bw 54
abbrev b8:Stmt:=bw 55
abbrev aQ:Stmt:=bw 56
abbrev ic:Stmt:=bw 57
abbrev kN:Stmt:=cw (bw 22) 0
abbrev gc:Stmt:=cw (bw 27) 0
abbrev bD:Stmt:=cw (bw 27) 1
abbrev aS:Stmt:=cw (bw 27) 2
abbrev f7:Stmt:=bw 25
abbrev cZ:Stmt:=cw (bw 27) 4
abbrev db:Stmt:=cw (bw 27) 5
abbrev cO:Stmt:=cw (bw 27) 6
abbrev gR:Stmt:=cw (bw 27) 8
abbrev fE:Stmt:=cw (bw 27) 9
abbrev bt:Stmt:=cw (bw 27) 10
abbrev jH:Stmt:=cw (bw 27) 11
abbrev cE:Stmt:=cw (bw 27) 12
abbrev lD:Stmt:=bw 24
abbrev jF:Stmt:=cw (bw 27) 13
abbrev cK:Stmt:=cw (bw 27) 14
abbrev fW:Stmt:=bw 26
abbrev gg:Stmt:=cw (bw 27) 15
abbrev dZ:Stmt:=cw (bw 27) 16
abbrev cQ:Stmt:=cw (bw 38) 0
abbrev gU:Stmt:=cw (bw 38) 1
abbrev c9:Stmt:=cw (bw 38) 4
abbrev gp:Stmt:=cw (bw 38) 6
abbrev fh:Stmt:=cw (bw 38) 7
abbrev au:Stmt:=cw (bw 38) 8
abbrev eR:Stmt:=bw 36
abbrev kH:Stmt:=bw 35
abbrev cW:Stmt:=bw 37
abbrev iV:Stmt:=bw 29
abbrev gC:Stmt:=bw 10
abbrev cg:Stmt:=bw 33
abbrev js:Stmt:=bw 32
abbrev jN:Stmt:=bw 11
abbrev nh:Stmt:=bw 7
abbrev gO:Stmt:=bw 6
abbrev jL:Stmt:=bw 3
abbrev nn:Stmt:=bw 9
abbrev dR:Stmt:=bw 31
abbrev aW:Stmt:=bw 30
abbrev nq:Stmt:=bw 8
abbrev dY:Stmt:=bw 13
abbrev fj:Stmt:=bw 5
abbrev b3:Stmt:=bw 4
abbrev fZ:Stmt:=bw 2
abbrev gq:Stmt:=cw (bw 38) 9
abbrev gj:Stmt:=cw (bw 38) 10
abbrev bc:Stmt:=cw (bw 27) 3
abbrev bd:Stmt:=cw (bw 27) 7
abbrev aZ:Stmt:=cw (bw 38) 5
end K72
namespace L2
open PySem PySem.Spec PySem.Calls PyProof.Rows
def topRunT (tb:String→Option Builtin) (p:Program) (w:World) (n₀:Nat) (ann:Option Value):Nat→PySem.W.SharedT→Thread→Option PySem.W.SharedT
 | 0,_,_=>none
 | n+1,s,t=>match PySem.W.through t with
  | true=>some s
  | false=>match PySem.W.stepOk n₀ ann t with
   | false=>none
   | true=>match PySem.W.stepT (denote tb) p w s t with
    | some (s',t')=>topRunT tb p w n₀ ann n s' t'
    | none=>none
theorem wR {tb:String→Option Builtin}{p:Program}{w:World}{n₀:Nat}{ann:Option Value}:∀{n:Nat}{s s':PySem.W.SharedT}{t:Thread},topRunT tb p w n₀ ann n s t=some s'→PySem.W.topRun tb p w n₀ ann n s.abs t=some s'.abs
 | 0,_,_,_,h=>by cases h
 | n+1,s,s',t,h=>by
  unfold topRunT at h
  unfold PySem.W.topRun
  cases he:PySem.W.through t with
  | true=>rw [he] at h;cases h;rfl
  | false=>
   rw [he] at h
   cases hk:PySem.W.stepOk n₀ ann t with
   | false=>rw [hk] at h;cases h
   | true=>
    rw [hk] at h
    cases hs:PySem.W.stepT (denote tb) p w s t with
    | none=>rw [hs] at h;cases h
    | some r=>obtain ⟨s₂,t₂⟩:=r;rw [hs] at h;rw [PySem.W.stepT_spec hs];exact wR h
open PySem.W in
noncomputable def HR (P:Params):BT:=.node (boot_o_0 P) (.node (boot_o_1 P) (.node (boot_o_3 P) (.node (boot_o_7 P) .nil .nil) .nil) (.node (boot_o_5 P) (.node (boot_o_9 P) .nil .nil) .nil)) (.node (boot_o_2 P) (.node (boot_o_4 P) (.node (boot_o_8 P) .nil .nil) .nil) (.node (boot_o_6 P) (.node (boot_o_10 P) .nil .nil) .nil))
noncomputable def bootS (w:World) (os:OsState):PySem.W.SharedT:=⟨HR w.params,11,{},#[],PySem.W.boot_drawn,PySem.W.boot_toks,os⟩
theorem AL (w:World):((PySem.W.boot_heap w.params).isNs mainGlobals,(PySem.W.boot_heap w.params).objs.size,(PySem.W.boot_heap w.params).nsMap mainGlobals "__annotations__")=(true,11,some (.ref 6)):=by kernel_rfl
noncomputable def looks {α:Type} (p q:Program) (Xt:Shared→Bool) (Yf:Shared→α) (w:World) (s:Shared):=
 (PySem.W.staticsOk (importedModules p.main.body) (PySem.W.boot_heap w.params) s.heap && PySem.W.namesBound p s.heap && PySem.W.gensDone s && PySem.W.laidKept (PySem.W.boot_heap w.params) s.heap,PySem.W.openSeen q [] (importedModules p.main.body) Xt true s,Yf s)
theorem left_tree {p q:Program}{Xt:Shared→Bool}{α:Type}{Yf:Shared→α}{Ya:α}{N:Nat}
 (e:PySem.W.opening p=PySem.W.plainProg p.main.scope.names) (hN:Nat.ble 600 N=true) (f:∀s,PySem.fenceModules? p s=some s)
 (run:∀(w:World) (os:OsState),(topRunT treeTable p w 11 (some (.ref 6)) N (bootS w os) (PySem.W.topStub p)).map (fun s=>looks p q Xt Yf w s.abs)=some (true,PySem.W.openGood q [],Ya)) :
 PySem.W.LeftO p q [] Xt Yf (fun _=>Ya) N:=fun w=>by
 obtain ⟨⟨h,gs,d,k,os⟩,ef,ev⟩:=Option.map_eq_some_iff.mp (PySem.W.boot_open e hN f w)
 obtain ⟨rfl,rfl,rfl,rfl⟩:h=PySem.W.boot_heap w.params∧gs=#[]∧d=PySem.W.boot_drawn∧k=PySem.W.boot_toks:=by simpa using ev
 obtain ⟨st,er,el⟩:=Option.map_eq_some_iff.mp (run w os)
 have r:=wR er
 have e0:(bootS w os).abs=⟨PySem.W.boot_heap w.params,#[],PySem.W.boot_drawn,PySem.W.boot_toks,os⟩:=rfl
 rw [e0] at r
 obtain ⟨z1,z2,z3⟩:_∧_∧_:=by simpa only [Prod.mk.injEq] using AL w
 obtain ⟨l1,l2,l3⟩:_∧_∧_:=by simpa only [looks,Prod.mk.injEq] using el
 have t:PySem.W.topFrom treeTable p w N ⟨PySem.W.boot_heap w.params,#[],PySem.W.boot_drawn,PySem.W.boot_toks,os⟩=some st.abs:=by
  unfold PySem.W.topFrom
  dsimp only
  rw [z1,z2,z3,r]
  show (match PySem.W.staticsOk (importedModules p.main.body) (PySem.W.boot_heap w.params) st.abs.heap && PySem.W.namesBound p st.abs.heap && PySem.W.gensDone st.abs && PySem.W.laidKept (PySem.W.boot_heap w.params) st.abs.heap with | true=>_ | false=>_)=_
  rw [l1]
 unfold PySem.W.openEnds
 rw [ef]
 show (PySem.W.topFrom treeTable p w N _).map _=_
 rw [t]
 exact congrArg some (Prod.ext l2 l3)
theorem left_of2 {α β:Type}{f f':World→β→α}{g g':α} (ef:f=f') (eg:g=g') (h:∀w os,f' w os=g') (w:World) (os:β):f w os=g:=by
 rw [ef,eg];exact h w os
end L2
namespace K72
open PySem L2
def qv:Program:=PySem.W.view PySem.Challenge.pw_gainroads_k72_hundreds_of_deeds [0,2,3,4,5,6,7,8,9,10,11,13,15,16,17,18,19,20,21,22,24,25,26,27,29,30,31,32,33,35,36,37,38,40,41,42,43,44,45,46,47,48,49,50,51,52,53,54,55,56,57]
def obs (K:PySem.W.Frag):List (Option FuncData)×List Bool:=([fG K "_law_box_of",
 fG K "_law_take",
 fG K "_law_folded",
 fG K "_law_lowest",
 fG K "_law_names_by",
 fG K "_law_gain_by",
 fG K "_law_most_by",
 fG K "_law_price_by",
 fG K "_law_net",
 fG K "_law_stands",
 fG K "_law_begun",
 fG K "_law_deed",
 fG K "_law_gone_back",
 fG K "_law_roads_right",
 fG K "_law_day",
 fG K "_law_day_stands",
 fG K "_law_day_right",
 fG K "law",
 bA K (PySem.W.findIn K (.ref (aG K "Lacking")) "__init__") "Lacking.__init__",
 bA K (PySem.W.findIn K (.ref (aG K "Roads")) "__init__") "Roads.__init__",
 bA K (PySem.W.findIn K (.ref (aG K "Roads")) "add_place") "Roads.add_place",
 bA K (PySem.W.findIn K (.ref (aG K "Roads")) "add_tie") "Roads.add_tie",
 fG K "check_two",
 bA K (PySem.W.findIn K (.ref (aG K "Roads")) "set_most") "Roads.set_most",
 bA K (PySem.W.findIn K (.ref (aG K "Roads")) "set_gain") "Roads.set_gain",
 bA K (PySem.W.findIn K (.ref (aG K "Roads")) "set_price") "Roads.set_price",
 bA K (PySem.W.findIn K (.ref (aG K "Roads")) "shut") "Roads.shut",
 bA K (PySem.W.findIn K (.ref (aG K "Roads")) "reopen") "Roads.reopen",
 bA K (PySem.W.findIn K (.ref (aG K "Roads")) "set_ends") "Roads.set_ends",
 bA K (PySem.W.findIn K (.ref (aG K "Roads")) "back") "Roads.back",
 bA K (PySem.W.findIn K (.ref (aG K "Roads")) "net") "Roads.net",
 fG K "put_at",
 bA K (PySem.W.findIn K (.ref (aG K "Roads")) "ends") "Roads.ends",
 bA K (PySem.W.findIn K (.ref (aG K "Roads")) "is_shut") "Roads.is_shut",
 fG K "check_tie",
 bA K (PySem.W.findIn K (.ref (aG K "Roads")) "deeds") "Roads.deeds",
 bA K (PySem.W.findIn K (.ref (aG K "Roads")) "twin") "Roads.twin",
 bA K (PySem.W.findIn K (.ref (aG K "DayRun")) "__init__") "DayRun.__init__",
 bA K (PySem.W.findIn K (.ref (aG K "DayRun")) "now") "DayRun.now",
 bA K (PySem.W.findIn K (.ref (aG K "DayRun")) "is_open") "DayRun.is_open",
 bA K (PySem.W.findIn K (.ref (aG K "DayRun")) "shut") "DayRun.shut",
 bA K (PySem.W.findIn K (.ref (aG K "DayRun")) "unshut") "DayRun.unshut",
 bA K (PySem.W.findIn K (.ref (aG K "DayRun")) "pass_hour") "DayRun.pass_hour",
 fG K "book_of",
 fG K "by_hours",
 fG K "hour_mosts",
 fG K "may_send",
 fG K "compared",
 fG K "hour_sum",
 fG K "wished_in",
 fG K "sum_of",
 fG K "added",
 fG K "fraction",
 fG K "common_divisor",
 fG K "times",
 fG K "goes_at",
 fG K "comes_at",
 fG K "taken",
 fG K "goes_within",
 fG K "is_from_nought",
 fG K "is_fraction",
 fG K "is_number",
 bA K (PySem.W.findIn K (.ref (aG K "DayRun")) "back") "DayRun.back",
 bA K (PySem.W.findIn K (.ref (aG K "DayRun")) "book") "DayRun.book",
 bA K (PySem.W.findIn K (.ref (aG K "Roads")) "set_part") "Roads.set_part",
 bA K (PySem.W.findIn K (.ref (aG K "Roads")) "set_shut") "Roads.set_shut",
 bA K (PySem.W.findIn K (.ref (aG K "DayRun")) "set_closed") "DayRun.set_closed"],
 [rG K "GainError",
 rG K "Taken",
 rG K "NoPlace",
 rG K "NoTie",
 rG K "AsItIs",
 rG K "Over",
 rG K "TooMuch",
 rG K "Lacking",
 PySem.W.keepIn K (.ref (aG K "GainError")),
 Fq K (aG K "GainError"),
 PySem.W.keepIn K (.ref (aG K "Taken")),
 eU K (aG K "Taken") (none),
 PySem.W.keepIn K (.ref (aG K "NoPlace")),
 eU K (aG K "NoPlace") (none),
 PySem.W.keepIn K (.ref (aG K "NoTie")),
 eU K (aG K "NoTie") (none),
 PySem.W.keepIn K (.ref (aG K "AsItIs")),
 eU K (aG K "AsItIs") (none),
 PySem.W.keepIn K (.ref (aG K "Over")),
 eU K (aG K "Over") (none),
 PySem.W.keepIn K (.ref (aG K "TooMuch")),
 eU K (aG K "TooMuch") (none),
 PySem.W.keepIn K (.ref (aG K "Lacking")),
 PySem.W.isFn K (.ref (kQ (PySem.W.findIn K (.ref (aG K "Lacking")) "__init__"))),
 GQ K (aG K "Lacking") "place",
 Ge K (aG K "Lacking") "place",
 eU K (aG K "Lacking") (some (.ref (kQ (PySem.W.findIn K (.ref (aG K "Lacking")) "__init__")))),
 Dx K [(aG K "Taken"),(aG K "NoPlace"),(aG K "NoTie"),(aG K "AsItIs"),(aG K "Over"),(aG K "TooMuch"),(aG K "Lacking")] (aG K "GainError"),
 rG K "Roads",
 Av K (aG K "Roads"),
 xC K (aG K "Roads"),
 cv K (aG K "Roads") "add_place",
 cv K (aG K "Roads") "add_tie",
 cv K (aG K "Roads") "set_most",
 cv K (aG K "Roads") "set_gain",
 cv K (aG K "Roads") "set_price",
 cv K (aG K "Roads") "shut",
 cv K (aG K "Roads") "reopen",
 cv K (aG K "Roads") "set_ends",
 cv K (aG K "Roads") "back",
 cv K (aG K "Roads") "net",
 cv K (aG K "Roads") "ends",
 cv K (aG K "Roads") "is_shut",
 cv K (aG K "Roads") "deeds",
 cv K (aG K "Roads") "twin",
 cv K (aG K "Roads") "set_part",
 cv K (aG K "Roads") "set_shut",
 wH (PySem.W.findIn K (.ref (aG K "Roads")) "states"),
 rG K "DayRun",
 Av K (aG K "DayRun"),
 xC K (aG K "DayRun"),
 cv K (aG K "DayRun") "now",
 cv K (aG K "DayRun") "is_open",
 cv K (aG K "DayRun") "shut",
 cv K (aG K "DayRun") "unshut",
 cv K (aG K "DayRun") "pass_hour",
 cv K (aG K "DayRun") "back",
 cv K (aG K "DayRun") "book",
 cv K (aG K "DayRun") "set_closed",
 wH (PySem.W.findIn K (.ref (aG K "DayRun")) "day"),
 wH (PySem.W.findIn K (.ref (aG K "DayRun")) "states"),
 oG K "abs",
 oG K "all",
 oG K "bool",
 oG K "divmod",
 oG K "enumerate",
 oG K "int",
 oG K "isinstance",
 oG K "len",
 oG K "list",
 oG K "range",
 oG K "tuple",
 oG K "zip"])
def due:List (Option FuncData)×List Bool:=([dG "_law_box_of" "_law_box_of" qP,
 dG "_law_take" "_law_take" u6,
 dG "_law_folded" "_law_folded" qL,
 dG "_law_lowest" "_law_lowest" qV,
 dG "_law_names_by" "_law_names_by" bV,
 dG "_law_gain_by" "_law_gain_by" eQ,
 dG "_law_most_by" "_law_most_by" fX,
 dG "_law_price_by" "_law_price_by" eY,
 dG "_law_net" "_law_net" iL,
 dG "_law_stands" "_law_stands" fJ,
 dG "_law_begun" "_law_begun" bI,
 dG "_law_deed" "_law_deed" bG,
 dG "_law_gone_back" "_law_gone_back" cr,
 dG "_law_roads_right" "_law_roads_right" aF,
 dG "_law_day" "_law_day" cP,
 dG "_law_day_stands" "_law_day_stands" b8,
 dG "_law_day_right" "_law_day_right" aQ,
 dG "law" "law" ic,
 dG "__init__" "Lacking.__init__" kN,
 dG "__init__" "Roads.__init__" gc,
 dG "add_place" "Roads.add_place" bD,
 dG "add_tie" "Roads.add_tie" aS,
 dG "check_two" "check_two" f7,
 dG "set_most" "Roads.set_most" cZ,
 dG "set_gain" "Roads.set_gain" db,
 dG "set_price" "Roads.set_price" cO,
 dG "shut" "Roads.shut" gR,
 dG "reopen" "Roads.reopen" fE,
 dG "set_ends" "Roads.set_ends" bt,
 dG "back" "Roads.back" jH,
 dG "net" "Roads.net" cE,
 dG "put_at" "put_at" lD,
 dG "ends" "Roads.ends" jF,
 dG "is_shut" "Roads.is_shut" cK,
 dG "check_tie" "check_tie" fW,
 dG "deeds" "Roads.deeds" gg,
 dG "twin" "Roads.twin" dZ,
 dG "__init__" "DayRun.__init__" cQ,
 dG "now" "DayRun.now" gU,
 dG "is_open" "DayRun.is_open" c9,
 dG "shut" "DayRun.shut" gp,
 dG "unshut" "DayRun.unshut" fh,
 dG "pass_hour" "DayRun.pass_hour" au,
 dG "book_of" "book_of" eR,
 dG "by_hours" "by_hours" kH,
 dG "hour_mosts" "hour_mosts" cW,
 dG "may_send" "may_send" iV,
 dG "compared" "compared" gC,
 dG "hour_sum" "hour_sum" cg,
 dG "wished_in" "wished_in" js,
 dG "sum_of" "sum_of" jN,
 dG "added" "added" nh,
 dG "fraction" "fraction" gO,
 dG "common_divisor" "common_divisor" jL,
 dG "times" "times" nn,
 dG "goes_at" "goes_at" dR,
 dG "comes_at" "comes_at" aW,
 dG "taken" "taken" nq,
 dG "goes_within" "goes_within" dY,
 dG "is_from_nought" "is_from_nought" fj,
 dG "is_fraction" "is_fraction" b3,
 dG "is_number" "is_number" fZ,
 dG "back" "DayRun.back" gq,
 dG "book" "DayRun.book" gj,
 dG "set_part" "Roads.set_part" bc,
 dG "set_shut" "Roads.set_shut" bd,
 dG "set_closed" "DayRun.set_closed" aZ],List.replicate 73 true)
end K72
def L2.Xt (s:PySem.Shared):Bool:=PySem.W.xlAt K72.qv [] s && PySem.W.recOk [] s
def L2.Yf (s:PySem.Shared):=K72.obs (L2.fragOf s.heap)
noncomputable def L2.lhs (w:PySem.World) (os:PySem.OsState):=(L2.topRunT PySem.treeTable PySem.Challenge.pw_gainroads_k72_hundreds_of_deeds w 11 (some (.ref 6)) 9088 (L2.bootS w os) (PySem.W.topStub PySem.Challenge.pw_gainroads_k72_hundreds_of_deeds)).map fun s=>L2.looks PySem.Challenge.pw_gainroads_k72_hundreds_of_deeds K72.qv L2.Xt L2.Yf w s.abs
noncomputable def L2.rhs:=some (true,PySem.W.openGood K72.qv [],K72.due)
theorem L2.lhs0:L2.lhs=L2.lhs:=rfl
theorem L2.rhs0:L2.rhs=L2.rhs:=rfl
name_quick lhsQ for L2.lhs by L2.lhs0
name_quick rhsQ for L2.rhs by L2.rhs0
theorem L2.left:∀w os,L2.lhs w os=L2.rhs:=L2.left_of2 PySem.W.Fast.lhsQ_eq PySem.W.Fast.rhsQ_eq (fun w os=>by kernel_rfl)
namespace L2
open PySem PySem.Spec PyProof.Rows
abbrev j5:=Sum Int Str
def Dw:j5→Value→Bool
 | .inl k,v=>Value.isInt k v
 | .inr x,v=>Value.isStrOf x v
def IX (w:World):j5→Int
 | .inl k=>hashInt k
 | .inr x=>hashStr w x
theorem dJ:∀{k:j5}{v:Value},Dw k v=true→(bX fun i t=>k=Sum.inl i∧v=Value.int i t)∨(bX fun x t=>k=Sum.inr x∧v=Value.str x t)
 | .inl i,v,h=>by
  obtain ⟨t,e⟩:=Value.isInt_shape (k:=i) (v:=v) h
  exact .inl ⟨i,t,rfl,e⟩
 | .inr x,v,h=>by
  obtain ⟨t,e⟩:=Value.isStrOf_shape (x:=x) (v:=v) h
  exact .inr ⟨x,t,rfl,e⟩
theorem FH (a b:Int):decide ((Sum.inl a:j5)=Sum.inl b)=(a==b):=by
 by_cases e:a=b
 ·subst e;simp
 ·have h:¬(Sum.inl a:j5)=Sum.inl b:=fun q=>e (Sum.inl.inj q)
  rw [decide_eq_false h]
  exact (beq_eq_false_iff_ne.mpr e).symm
theorem G0 (a b:Str):decide ((Sum.inr a:j5)=Sum.inr b)=decide (a=b):=by
 by_cases e:a=b
 ·subst e;simp
 ·have h:¬(Sum.inr a:j5)=Sum.inr b:=fun q=>e (Sum.inr.inj q)
  rw [decide_eq_false h,decide_eq_false e]
theorem Fm (a:Int) (b:Str):decide ((Sum.inl a:j5)=Sum.inr b)=false:=decide_eq_false (fun q=>nomatch q)
theorem FV (a:Str) (b:Int):decide ((Sum.inr a:j5)=Sum.inl b)=false:=decide_eq_false (fun q=>nomatch q)
def zd (prog:Program) (w:World):PySem.KeyKind prog w j5 where
 is:=Dw
 hash:=IX w
 inj:=fun v a b ha hb=>by
  rcases dJ ha with ⟨i,t,rfl,rfl⟩ | ⟨x,t,rfl,rfl⟩
  ·rcases dJ hb with ⟨j,u,rfl,e⟩ | ⟨y,u,rfl,e⟩
   ·injection e with e1 _;rw [e1]
   ·exact nomatch e
  ·rcases dJ hb with ⟨j,u,rfl,e⟩ | ⟨y,u,rfl,e⟩
   ·exact nomatch e
   ·injection e with e1 _;rw [e1]
 byValue:=fun k v h=>by
  rcases dJ h with ⟨i,t,rfl,rfl⟩ | ⟨x,t,rfl,rfl⟩ <;> rfl
 pyHash:=fun hv h=>by
  rcases dJ hv with ⟨i,t,rfl,rfl⟩ | ⟨x,t,rfl,rfl⟩
  ·exact wpAny_pyHash_int h
  ·exact wpAny_pyHash_str h
 eqBool:=fun hu hv h=>by
  rcases dJ hu with ⟨i,t,rfl,rfl⟩ | ⟨x,t,rfl,rfl⟩
  ·rcases dJ hv with ⟨j,u,rfl,rfl⟩ | ⟨y,u,rfl,rfl⟩
   ·rw [FH] at h;exact wpAny_eqBool_int h
   ·rw [Fm] at h;exact SeqAt.EqAt.int_str i t y u _ _ _ _ h
  ·rcases dJ hv with ⟨j,u,rfl,rfl⟩ | ⟨y,u,rfl,rfl⟩
   ·rw [FV] at h;exact SeqAt.EqAt.str_int x t j u _ _ _ _ h
   ·rw [G0] at h;exact wpAny_eqBool_str h
 «strs»:=fun k x t v h=>by
  rcases dJ h with ⟨i,u,rfl,e⟩ | ⟨y,u,rfl,e⟩
  ·exact nomatch e
  ·injection e with e1 _
   subst e1
   cases v <;> rfl
inductive V where
 | non | bl (b:Bool) | int (i:Int) | str (x:Str) | byt (b:Array UInt8) | flt (b:UInt64) | ref (a:Addr) | ty (n:String)
 deriving DecidableEq
def bh:V→Value→Prop
 | .non,u=>u=Value.none
 | .bl b,u=>u=Value.bool b
 | .int i,u=>∃t,u=Value.int i t
 | .str x,u=>∃t,u=Value.str x t
 | .byt b,u=>∃t,u=Value.bytes b t
 | .flt b,u=>∃t,u=Value.float b t
 | .ref a,u=>u=Value.ref a
 | .ty n,u=>u=Value.type n
abbrev aE:List V→List Value→Prop:=Paired bh
theorem aE.length {xs:List V}{us:List Value} (r:aE xs us):xs.length=us.length:=Paired.length r
theorem aE.get:∀{xs:List V}{us:List Value}{i:Nat}{x:V},aE xs us→xs[i]?=some x→∃u,us[i]?=some u∧bh x u
 | _,_,_,_,.nil,e=>by simp at e
 | _,_,0,_,.cons r _,e=>by simp at e;subst e;exact ⟨_,rfl,r⟩
 | _,_,i+1,x,.cons _ t,e=>by
  obtain ⟨u,h1,h2⟩:=aE.get (i:=i) (x:=x) t (by simpa using e)
  exact ⟨u,by simpa using h1,h2⟩
theorem aE.set {x:V}{u:Value} (r:bh x u):∀{xs:List V}{us:List Value} (i:Nat),aE xs us→aE (xs.set i x) (us.set i u)
 | _,_,_,.nil=>.nil
 | _,_,0,.cons _ t=>.cons r t
 | _,_,i+1,.cons q t=>.cons q (aE.set r i t)
theorem aE.append:∀{xs ys:List V}{us ws:List Value},aE xs us→aE ys ws→aE (xs++ys) (us++ws)
 | _,_,_,_,.nil,s=>s
 | _,_,_,_,.cons r t,s=>.cons r (aE.append t s)
theorem aE.take:∀{xs:List V}{us:List Value} (n:Nat),aE xs us→aE (xs.take n) (us.take n)
 | _,_,0,_=>.nil
 | _,_,_+1,.nil=>.nil
 | _,_,n+1,.cons r t=>.cons r (aE.take n t)
theorem aE.drop:∀{xs:List V}{us:List Value} (n:Nat),aE xs us→aE (xs.drop n) (us.drop n)
 | _,_,0,r=>r
 | _,_,_+1,.nil=>.nil
 | _,_,n+1,.cons _ t=>aE.drop n t
def pO:Option V→Option Value→Prop
 | some v,some u=>bh v u
 | none,none=>True
 | _,_=>False
def KV {κ:Type}:List (κ×V)→List (κ×Value)→Prop:=Paired fun (p:κ×V) (q:κ×Value)=>p.1=q.1∧bh p.2 q.2
def kV:j5→V
 | .inl i=>.int i
 | .inr x=>.str x
inductive HO where
 | lst (xs:List V)
 | tup (xs:List V)
 | dK (kvs:List (j5×V)) | dT (kvs:List (List j5×V))
 | set (S:Int→Bool) (n:Nat)
 | ins (C dx:Addr) (fs:List (Str×V))
 | own (x:Addr)
 | xd (fs:List (Str×V))
 | met (f x:Addr)
 | rng (lo hi:Int)
 | frz (o:Obj) (u:HO)
 | tbl (ps:Array Value)
 | ext (φ:Heap→Prop)
abbrev Hp:=Addr→Option HO
def aJ (H:Hp) (a:Addr) (o:HO):Hp:=fun b=>if b=a then some o else H b
theorem av {H:Hp}{a:Addr}{o:HO}:aJ H a o a=some o:=by unfold aJ;rw [if_pos rfl]
theorem ax {H:Hp}{a b:Addr}{o:HO} (h:b≠a):aJ H a o b=H b:=by unfold aJ;rw [if_neg h]
theorem jG {H:Hp}{a b:Addr}{o u:HO} (h:H a=some o) (h':H b=some u) (d:o≠u):a≠b:=by
 intro e;subst e;rw [h] at h';exact d (Option.some.inj h')
theorem aK {H:Hp}{a b:Addr}{o:HO} (h:H a=some o) (h':H b=none):a≠b:=by
 intro e;subst e;rw [h] at h';cases h'
section
variable (P:Program) (w:World)
def b6 (H:Hp) (h:Heap) (a:Addr):HO→Prop
 | .lst xs=>xs.length≤sizeLine∧bX fun (its:List Value) (n:Nat)=>aE xs its∧h.get? a=some { cls:=.type "list",data:=.seq its.toArray n }
 | .tup xs=>xs.length≤sizeLine∧∃its:List Value,aE xs its∧IsTup h a its.toArray∧∃o,h.get? a=some o∧o.dict=none
 | .dK kvs=>kvs.length≤sizeLine∧(a==sysModules)=false∧∃vs,KV kvs vs∧h.DictOf (zd P w) a vs
 | .dT kvs=>kvs.length≤sizeLine∧(a==sysModules)=false∧∃xs:List (List j5×Addr×Value),
  Paired (fun (p:List j5×V) (q:List j5×Addr×Value)=>p.1=q.1∧H q.2.1=some (.tup (p.1.map kV))∧bh p.2 q.2.2) kvs xs∧
  kZ fun o es ep=>h.get? a=some o∧o.ExactDict∧o.data=.dict es ep∧es.toList=xs.map (entryOfKey (tupleKind (zd P w)))∧(xs.map (·.1)).Nodup
 | .set S n=>h.SetOf (intKind P w) a S n
 | .ins C dx fs=>H dx=some (.own a)∧fs.length≤1000∧dx≠a∧h.get? a=some (PySem.W.instObj C dx)∧
  ∃mA,h.Ns1 dx mA∧(∀f,pO (fs.lookup f) (mA f))∧PySem.Within mA (fs.map (·.1))
 | .own _=>∃o,h.get? a=some o
 | .xd fs=>∃mA,h.Ns1 a mA∧∀f,pO (fs.lookup f) (mA f)
 | .rng lo hi=>kZ fun t u v=>h.get? a=some { cls:=.type "range",data:=.fields #[.int lo t,.int hi u,.int 1 v] }
 | .frz o u=>h.get? a=some o∧b6 H h a u
 | .tbl ps=>h.get? a=some { cls:=.none,data:=.fields ps }
 | .met f x=>h.get? a=some (PySem.W.methodObj (.ref f) (.ref x))
 | .ext φ=>φ h∧(∃o,h.get? a=some o)∧∀h1 h2:Heap,φ h1→(∀o,h1.get? a=some o→h2.get? a=some o)→φ h2
def eS (H:Hp) (h:Heap):Prop:=∀a o,H a=some o→b6 P w H h a o
end
section
variable {P:Program}{w:World}{H H':Hp}{h h':Heap}{a:Addr}{o:HO}
theorem b6.lt (x:b6 P w H h a o):a<h.objs.size:=by
 cases o with
 | lst xs=>obtain ⟨_,_,_,_,e⟩:=x;exact Heap.lt_size e
 | tup xs=>obtain ⟨_,_,_,p,_⟩:=x;exact p.lt
 | dK kvs=>obtain ⟨_,_,_,_,o,_,_,e,_⟩:=x;exact Heap.lt_size e
 | dT kvs=>obtain ⟨_,_,_,_,o,_,_,e,_⟩:=x;exact Heap.lt_size e
 | set S n=>obtain ⟨o,_,_,_,e,_⟩:=x;exact Heap.lt_size e
 | ins C dx fs=>obtain ⟨_,_,_,e,_⟩:=x;exact Heap.lt_size e
 | own y=>obtain ⟨_,e⟩:=x;exact Heap.lt_size e
 | xd fs=>obtain ⟨_,⟨_,_,_,e,_⟩,_⟩:=x;exact Heap.lt_size e
 | rng lo hi=>obtain ⟨_,_,_,e⟩:=x;exact Heap.lt_size e
 | frz ob u=>obtain ⟨e,_⟩:=x;exact Heap.lt_size e
 | tbl ps=>exact Heap.lt_size (show h.get? a=some _ from x)
 | met f y=>exact Heap.lt_size (show h.get? a=some _ from x)
 | ext φ=>obtain ⟨_,⟨_,e⟩,_⟩:=x;exact Heap.lt_size e
theorem Paired.mapP {α β:Type}{F G:α→β→Prop}:∀{l₁:List α}{l₂:List β},Paired F l₁ l₂→(∀a b,F a b→G a b)→Paired G l₁ l₂
 | _,_,.nil,_=>.nil
 | _,_,.cons r t,f=>.cons (f _ _ r) (Paired.mapP t f)
theorem b6.stay (x:b6 P w H h a o) (k:∀b u,(b=a∨H b=some (.own a))→h.get? b=some u→h'.get? b=some u)
 (ho:∀b,H b=some (.own a)→H' b=some (.own a)) (ht:∀b xs,H b=some (.tup xs)→H' b=some (.tup xs)):b6 P w H' h' a o:=by
 induction o with
 | lst xs=>obtain ⟨z,its,n,r,e⟩:=x;exact ⟨z,its,n,r,k _ _ (.inl rfl) e⟩
 | tup xs=>obtain ⟨z,its,r,⟨ob,e,c⟩,od,e',c'⟩:=x;exact ⟨z,its,r,⟨ob,k _ _ (.inl rfl) e,c⟩,od,k _ _ (.inl rfl) e',c'⟩
 | dK kvs=>obtain ⟨z,y,vs,r,ob,es,ep,e,c⟩:=x;exact ⟨z,y,vs,r,ob,es,ep,k _ _ (.inl rfl) e,c⟩
 | dT kvs=>
  obtain ⟨z,y,xs,r,ob,es,ep,e,c⟩:=x
  exact ⟨z,y,xs,Paired.mapP r fun p q z=>⟨z.1,ht _ _ z.2.1,z.2.2⟩,ob,es,ep,k _ _ (.inl rfl) e,c⟩
 | set S n=>obtain ⟨ob,es,ep,t,e,c⟩:=x;exact ⟨ob,es,ep,t,k _ _ (.inl rfl) e,c⟩
 | ins C dx fs=>
  obtain ⟨d,z,ne,e,mA,⟨od,es,ep,e2,c⟩,r⟩:=x
  exact ⟨ho _ d,z,ne,k _ _ (.inl rfl) e,mA,⟨od,es,ep,k _ _ (.inr d) e2,c⟩,r⟩
 | own y=>obtain ⟨ob,e⟩:=x;exact ⟨ob,k _ _ (.inl rfl) e⟩
 | xd fs=>obtain ⟨mA,⟨od,es,ep,e,c⟩,r⟩:=x;exact ⟨mA,⟨od,es,ep,k _ _ (.inl rfl) e,c⟩,r⟩
 | rng lo hi=>obtain ⟨t,u,v,e⟩:=x;exact ⟨t,u,v,k _ _ (.inl rfl) e⟩
 | frz ob u ih=>obtain ⟨e,q⟩:=x;exact ⟨k _ _ (.inl rfl) e,ih q⟩
 | tbl ps=>
  have e:h.get? a=some { cls:=.none,data:=.fields ps }:=x
  show h'.get? a=some { cls:=.none,data:=.fields ps }
  exact k a _ (.inl rfl) e
 | met f y=>
  have e:h.get? a=some (PySem.W.methodObj (.ref f) (.ref y)):=x
  show h'.get? a=some (PySem.W.methodObj (.ref f) (.ref y))
  exact k a _ (.inl rfl) e
 | ext φ=>obtain ⟨p,⟨o,e⟩,st⟩:=x;exact ⟨st _ _ p fun o q=>k _ _ (.inl rfl) q,⟨o,k _ _ (.inl rfl) e⟩,st⟩
theorem eS.lt (x:eS P w H h) (e:H a=some o):a<h.objs.size:=(x a o e).lt
theorem eS.fresh (x:eS P w H h) (e:h.objs.size≤a):H a=none:=by
 cases q:H a with
 | none=>rfl
 | some u=>exact absurd (Nat.lt_of_lt_of_le (x.lt q) e) (Nat.lt_irrefl _)
theorem eS.kept (x:eS P w H h) (k:∀b u,h.get? b=some u→h'.get? b=some u):eS P w H h':=fun a o e=>
 (x a o e).stay (fun b u _ q=>k b u q) (fun _ q=>q) fun _ _ q=>q
theorem eS.laid (x:eS P w H h) (k:∀b u,h.get? b=some u→h'.get? b=some u) (hp:h.objs.size≤a) (new:b6 P w (aJ H a o) h' a o):eS P w (aJ H a o) h':=fun b u e=>by
 have hn:=x.fresh hp
 by_cases hb:b=a
 ·subst hb;rw [av] at e;cases e;exact new
 ·rw [ax hb] at e
  exact (x b u e).stay (fun c v _ q=>k c v q) (fun c q=>by rw [ax (aK q hn)];exact q) fun c xs q=>by rw [ax (aK q hn)];exact q
end
def Rd (H:Hp) (a:Addr) (u:HO):Prop:=H a=some u∨∃o,H a=some (.frz o u)
theorem Rd.ok {P:Program}{w:World}{H:Hp}{h:Heap}{a:Addr}{u:HO} (r:Rd H a u) (x:eS P w H h):b6 P w H h a u:=by
 rcases r with r | ⟨o,r⟩
 ·exact x a u r
 ·obtain ⟨_,q⟩:=x a _ r
  exact q
def Dq:Option HO→Prop
 | some (.lst _)=>True
 | some (.dK _)=>True
 | some (.dT _)=>True
 | some (.set _ _)=>True
 | some (.ins _ _ _)=>True
 | some (.ext _)=>True
 | _=>False
section
variable {P:Program}{w:World}{H:Hp}{h h':Heap}{x e:Addr}{o':HO}
theorem eS.write (ok:eS P w H h) (mu:Dq (H x)) (he:e=x∨H e=some (.own x)) (k:∀b u,b≠e→h.get? b=some u→h'.get? b=some u) (heo:∃u,h'.get? e=some u)
 (new:b6 P w (aJ H x o') h' x o'):eS P w (aJ H x o') h':=fun b u q=>by
 have nown:∀c y,H c=some (.own y)→c≠x:=fun c y r z=>by subst z;rw [r] at mu;exact mu
 have ntup:∀c xs,H c=some (.tup xs)→c≠x:=fun c xs r z=>by subst z;rw [r] at mu;exact mu
 by_cases hb:b=x
 ·subst hb;rw [av] at q;cases q;exact new
 ·rw [ax hb] at q
  by_cases hbe:b=e
  ·have q':H b=some (.own x):=by
    rcases he with z | z
    ·exact absurd (hbe.trans z) hb
    ·rw [hbe];exact z
   rw [q] at q';cases q'
   obtain ⟨v,hv⟩:=heo
   exact ⟨v,by rw [hbe];exact hv⟩
  ·refine (ok b u q).stay (fun c v hc r=>k c v ?_ r) (fun c r=>by rw [ax (nown c b r)];exact r) fun c xs r=>by rw [ax (ntup c xs r)];exact r
   rcases hc with rfl | hc
   ·exact hbe
   ·rintro rfl
    rcases he with z | z
    ·exact nown c b hc z
    ·rw [hc] at z;cases z;exact hb rfl
end
structure Un (fs ex:List Addr) (H H':Hp) (h h':Heap):Prop where
 keep:∀b o,h.get? b=some o→H b=none→b∉fs→b∉ex→h'.get? b=some o
 slot:∀b o,h.get? b=some o→H b=none→b∈fs→b∉ex→∃sl,h'.get? b=some { o with slots:=sl }
 free:∀b o,h.get? b=some o→H b=none→b∉ex→H' b=none
 there:∀b o,h.get? b=some o→b∉ex→∃o',h'.get? b=some o'
 tups:∀b xs,H b=some (.tup xs)→H' b=some (.tup xs)
 frzs:∀b o u,H b=some (.frz o u)→H' b=some (.frz o u)
 tbls:∀b ps,H b=some (.tbl ps)→∃more,H' b=some (.tbl (ps++more))
section
variable {fs fs' ex ex':List Addr}{H H1 H2:Hp}{h h1 h2 h':Heap}{a x e:Addr}{o:HO}
theorem Un.any (u:Un fs ex H H1 h h1) {b:Addr}{ob:Obj} (q:h.get? b=some ob) (n:H b=none) (hx:b∉ex):∃sl,h1.get? b=some { ob with slots:=sl }:=by
 by_cases hb:b∈fs
 ·exact u.slot b ob q n hb hx
 ·exact ⟨ob.slots,u.keep b ob q n hb hx⟩
theorem Un.kept (k:∀b u,h.get? b=some u→h'.get? b=some u):Un fs ex H H h h':=
 ⟨fun b ob q _ _ _=>k b ob q,fun b ob q _ _ _=>⟨ob.slots,k b ob q⟩,fun _ _ _ n _=>n,fun b ob q _=>⟨ob,k b ob q⟩,fun _ _ q=>q,fun _ _ _ q=>q,fun _ ps q=>⟨#[],by rw [q];simp⟩⟩
theorem Un.refl:Un fs ex H H h h:=Un.kept fun _ _ q=>q
theorem Un.laid (k:∀b u,h.get? b=some u→h'.get? b=some u) (hp:h.objs.size≤a) (hn:H a=none):Un fs ex H (aJ H a o) h h' where
 keep:=fun b u q _ _ _=>k b u q
 slot:=fun b u q _ _ _=>⟨u.slots,k b u q⟩
 free:=fun b u q n _=>by rw [ax (Nat.ne_of_lt (Nat.lt_of_lt_of_le (Heap.lt_size q) hp))];exact n
 there:=fun b u q _=>⟨u,k b u q⟩
 tups:=fun b xs q=>by rw [ax (aK q hn)];exact q
 frzs:=fun b u xs q=>by rw [ax (aK q hn)];exact q
 tbls:=fun b ps q=>⟨#[],by rw [ax (aK q hn),q];simp⟩
theorem Un.write (mu:Dq (H x)) (he:e=x∨H e=some (.own x)) (k:∀b u,b≠e→h.get? b=some u→h'.get? b=some u) (heo:∃u,h'.get? e=some u):Un fs ex H (aJ H x o) h h':=by
 have hx:∀b,H b=none→b≠x:=fun b n z=>by subst z;rw [n] at mu;exact mu
 have hb:∀b,H b=none→b≠e:=fun b n z=>by
  subst z
  rcases he with r | r
  ·exact hx b n r
  ·rw [n] at r;cases r
 have hm:∀b u,H b=some u→¬Dq (some u)→b≠x:=fun b u q nm z=>by subst z;rw [q] at mu;exact nm mu
 refine ⟨fun b u q n _ _=>k b u (hb b n) q,fun b u q n _ _=>⟨u.slots,k b u (hb b n) q⟩,fun b u q n _=>by rw [ax (hx b n)];exact n,fun b u q _=>?_,
  fun b xs q=>by rw [ax (hm b _ q fun z=>z)];exact q,fun b u xs q=>by rw [ax (hm b _ q fun z=>z)];exact q,fun b ps q=>⟨#[],by rw [ax (hm b _ q fun z=>z),q];simp⟩⟩
 by_cases hbe:b=e
 ·subst hbe;exact heo
 ·exact ⟨u,k b u hbe q⟩
end
def DF (h:Heap) (H:Hp):List Addr:=(List.range h.objs.size).filter fun a=>(H a).isSome
def rA (h:Heap) (H:Hp):Heap:=PySem.W.hideAll h (DF h H)
theorem Bf (h:Heap) (H:Hp):(rA h H).objs.size=h.objs.size:=PySem.W.hideAll_size _ _
theorem BO {h:Heap}{H:Hp}{b:Addr}{o:Obj} (e:h.get? b=some o) (n:H b=none):(rA h H).get? b=some o:=
 PySem.W.hideAll_get _ e fun hm=>by
  have q:(H b).isSome=true:=(List.mem_filter.mp hm).2
  rw [n] at q;simp at q
theorem DS {h:Heap}{H:Hp}{b:Addr}{o:Obj} (e:(rA h H).get? b=some o):h.get? b=some o∧H b=none:=by
 have e':h.get? b=some o:=PySem.W.of_hideAll (DF h H) e
 refine ⟨e',?_⟩
 cases q:H b with
 | none=>rfl
 | some x=>
  have hm:b∈DF h H:=List.mem_filter.mpr ⟨List.mem_range.mpr (Heap.lt_size e'),by simp [q]⟩
  have z:(rA h H).get? b=none:=PySem.W.hideAll_none (DF h H) hm
  rw [z] at e;cases e
structure Mod (K:PySem.W.Frag) (mg:Str→Option Value) (base:Heap):Prop where
 kin:K.In base
 glob:base.Ns mainGlobals mg
 blt:∃mb,base.Ns builtinsNs mb∧∀x:Str,x≠"__name__"→mb x=bootBuiltins x
 nolimit:base.NoLimit
structure Cx where
 prog:Program
 w:World
 K:PySem.W.Frag
 mg:Str→Option Value
 base:Heap
 A:Around
 N:List Str
 s₀:Shared
 H₀:Hp
 env:Env
 outer:List Env
 stack:List Env
 ex:List Addr
 fn:Str→Bool
 calm:Bool
 pn:List (Addr×Obj)
 xe:Value→Shared→Prop
def jZ (l:List Env):List Addr:=l.filterMap (·.frame)
abbrev Cx.fs (X:Cx):List Addr:=jZ X.outer
def Du (sc:Scope) (x:Str):Prop:=sc.names.lookup x=some .local∨sc.names.lookup x=some .cell∨sc.names.lookup x=some .free
def Do (sc:Scope) (x:Str):Prop:=sc.names.lookup x=some .local∨sc.names.lookup x=some .cell
def IO (env:Env) (h:Heap) (m:Str→Option Value) (x:Str) (u:Value):Prop:=
 (env.kindOf x=some .local∧m x=some u)∨((env.kindOf x=some .cell∨env.kindOf x=some .free)∧∃c,env.cells.lookup x=some c∧h.IsCell c (some u))
structure Cx.Ok (X:Cx):Prop where
 mod:Mod X.K X.mg X.base
 kind:X.env.scope.kind=.function
 glob:X.env.globals=mainGlobals
 blt:X.env.builtins=builtinsNs
 above:X.s₀.heap.objs.size≤X.env.locals
 inj:∀x y c,X.env.cells.lookup x=some c→X.env.cells.lookup y=some c→x=y
 has:∀x,(X.env.kindOf x=some .cell∨X.env.kindOf x=some .free)→∃c,X.env.cells.lookup x=some c
 cab:∀x c,X.fn x=true→X.env.cells.lookup x=some c→X.s₀.heap.objs.size≤c
 hd:X.calm=true→X.A.handled=none
 frames:X.A.frames=some X.stack
 stk:X.stack=X.outer∨(X.stack=X.env :: X.outer∧X.env.frame=some X.env.locals)
 exf:∀b∈X.ex,b≠X.env.locals∧∀x c,X.env.cells.lookup x=some c→c≠b
 bs:∀b o,X.base.get? b=some o→X.s₀.heap.get? b=some o∧X.H₀ b=none
 bsz:X.base.objs.size≤X.s₀.heap.objs.size
 noex:∀b o,X.base.get? b=some o→b∉X.ex
 exfs:∀b∈X.ex,b∉X.fs
 funs:X.s₀.heap.FunFrames X.base X.outer
 frf:∀b∈X.fs,X.H₀ b=none
structure aj (X:Cx) (pins:List (Addr×Obj)) (σ:List (Option V)) (H:Hp) (s:Shared):Prop where
 ok:X.Ok
 os:s.os=X.s₀.os
 bare:AllBare s.gens
 base:Un X.fs X.ex X.H₀ H X.s₀.heap s.heap
 loc:∃m,s.heap.Ns X.env.locals m∧∀(i:Nat) (x:Str) (v:V),X.N[i]?=some x→σ[i]?=some (some v)→Du X.env.scope x→∃u,bh v u∧IO X.env s.heap m x u
 cell:∀x c,X.env.cells.lookup x=some c→∃v,s.heap.IsCell c v
 free:H X.env.locals=none
 freeC:∀x c,X.env.cells.lookup x=some c→H c=none
 pin:∀p∈X.pn++pins,s.heap.get? p.1=some p.2∧H p.1=none∧p.1≠X.env.locals∧p.1∉X.fs∧∀v,p.2.data≠.cell v
 hok:eS X.prog X.w H s.heap
 len:σ.length=X.N.length
section
variable {X:Cx}{pins:List (Addr×Obj)}{σ:List (Option V)}{H H':Hp}{s:Shared}{h':Heap}
theorem Cx.Ok.nofr (ok:X.Ok) {b:Addr}{o:Obj} (e:X.base.get? b=some o):b∉X.fs:=fun hb=>by
 have:=(ok.funs.mem hb).1
 rw [e] at this;cases this
theorem aj.bs (I:aj X pins σ H s):∀b o,X.base.get? b=some o→s.heap.get? b=some o∧H b=none:=fun b o e=>
 ⟨I.base.keep b o (I.ok.bs b o e).1 (I.ok.bs b o e).2 (I.ok.nofr e) (I.ok.noex b o e),I.base.free b o (I.ok.bs b o e).1 (I.ok.bs b o e).2 (I.ok.noex b o e)⟩
theorem aj.bk (I:aj X pins σ H s):∀b o,X.base.get? b=some o→s.heap.get? b=some o:=fun b o e=>(I.bs b o e).1
theorem aj.mod (I:aj X pins σ H s):Mod X.K X.mg X.base:=I.ok.mod
theorem aj.kIn (I:aj X pins σ H s):X.K.In s.heap:=I.ok.mod.kin.keeps I.bk
theorem aj.lt (I:aj X pins σ H s):X.env.locals<s.heap.objs.size:=let ⟨_,hn,_⟩:=I.loc;hn.lt
theorem aj.sz (I:aj X pins σ H s):X.s₀.heap.objs.size≤s.heap.objs.size:=Nat.le_trans I.ok.above (Nat.le_of_lt I.lt)
theorem aj.nofs (I:aj X pins σ H s) {a:Addr} (h:s.heap.objs.size≤a):a∉X.fs:=fun hb=>by
 obtain ⟨_,o,ho,_⟩:=I.ok.funs.mem hb
 exact absurd (Nat.lt_of_lt_of_le (Heap.lt_size ho) (Nat.le_trans I.sz h)) (Nat.lt_irrefl _)
theorem aj.cne (I:aj X pins σ H s):∀x c,X.env.cells.lookup x=some c→c≠X.env.locals:=fun x c e z=>by
 obtain ⟨v,o,ho,hd⟩:=I.cell x c e
 obtain ⟨m,⟨o',es,ep,ho',hd',_⟩,_⟩:=I.loc
 rw [z,ho'] at ho;cases ho;rw [hd'] at hd;cases hd
theorem aj.funs (I:aj X pins σ H s):s.heap.FunFrames X.base X.outer:=by
 have all:∀(l:List Env),(∀b∈jZ l,b∈X.fs)→X.s₀.heap.FunFrames X.base l→s.heap.FunFrames X.base l:=by
  intro l
  induction l with
  | nil=>intro _ _;trivial
  | cons env r ih=>
   intro hs hl
   obtain ⟨hk,⟨L,o,hf,hn,ho,hd⟩,hr⟩:=hl
   have hL:L∈X.fs:=hs L (by unfold jZ;rw [List.filterMap_cons,hf];exact List.mem_cons_self)
   obtain ⟨sl,e⟩:=I.base.slot L o ho (I.ok.frf L hL) hL fun z=>I.ok.exfs L z hL
   exact ⟨hk,⟨L,_,hf,hn,e,hd⟩,ih (fun b hb=>hs b (by unfold jZ;rw [List.filterMap_cons,hf];exact List.mem_cons_of_mem _ hb)) hr⟩
 exact all X.outer (fun _ hb=>hb) I.ok.funs
theorem aj.stack (I:aj X pins σ H s):s.heap.FunFrames X.base X.stack:=by
 rcases I.ok.stk with e | ⟨e,hf⟩
 ·rw [e];exact I.funs
 ·rw [e]
  obtain ⟨m,hn,_⟩:=I.loc
  refine .cons (by rw [I.ok.kind];decide) hf hn ?_ I.funs
  exact Heap.get?_none_of_le (Nat.le_trans I.ok.bsz I.ok.above)
theorem aj.stkSub (I:aj X pins σ H s):∀b∈jZ X.stack,b∈X.env.locals :: X.fs:=fun b hb=>by
 rcases I.ok.stk with e | ⟨e,hf⟩
 ·rw [e] at hb;exact List.mem_cons_of_mem _ hb
 ·rw [e] at hb
  unfold jZ at hb
  rw [List.filterMap_cons,hf] at hb
  exact hb
theorem aj.stkFree (I:aj X pins σ H s):∀b∈jZ X.stack,H b=none:=fun b hb=>by
 rcases List.mem_cons.mp (I.stkSub b hb) with e | hb
 ·rw [e];exact I.free
 ·obtain ⟨_,o,ho,_⟩:=I.ok.funs.mem hb
  exact I.base.free b o ho (I.ok.frf b hb) fun z=>I.ok.exfs b z hb
theorem aj.step {g':Array GenState}{t':Nat}{d':Drawn}{ch:List Addr} (I:aj X pins σ H s)
 (hch:∀b∈ch,(b∈X.ex∨X.s₀.heap.objs.size≤b)∧b≠X.env.locals∧(∀x c,X.env.cells.lookup x=some c→c≠b)∧∀p∈X.pn++pins,p.1≠b)
 (keep:∀b o,b≠X.env.locals→b∉X.fs→b∉ch→s.heap.get? b=some o→H b=none→h'.get? b=some o)
 (slot:∀b o,b≠X.env.locals→b∈X.fs→b∉ch→s.heap.get? b=some o→H b=none→∃sl,h'.get? b=some { o with slots:=sl }) (free:∀b o,b∉ch→s.heap.get? b=some o→H b=none→H' b=none)
 (there:∀b o,b∉ch→s.heap.get? b=some o→∃o',h'.get? b=some o')
 (tups:∀b xs,H b=some (.tup xs)→H' b=some (.tup xs)) (frzs:∀b o u,H b=some (.frz o u)→H' b=some (.frz o u)) (tbls:∀b ps,H b=some (.tbl ps)→∃more,H' b=some (.tbl (ps++more)))
 (ns:∀m,s.heap.Ns X.env.locals m→h'.Ns X.env.locals m) (hok:eS X.prog X.w H' h') (hg:AllBare g') :
 aj X pins σ H' { s with heap:=h',gens:=g',drawn:=d',toks:=t' }:=by
 have neL:∀b o,X.s₀.heap.get? b=some o→b≠X.env.locals:=fun b o e=>Nat.ne_of_lt (Nat.lt_of_lt_of_le (Heap.lt_size e) I.ok.above)
 have neC:∀b o,X.s₀.heap.get? b=some o→b∉X.ex→b∉ch:=fun b o e hx hb=>by
  rcases (hch b hb).1 with z | z
  ·exact hx z
  ·exact absurd (Nat.lt_of_lt_of_le (Heap.lt_size e) z) (Nat.lt_irrefl _)
 have cellK:∀x c,X.env.cells.lookup x=some c→∀v,s.heap.IsCell c v→h'.IsCell c v:=fun x c e v ⟨o,ho,hd⟩=>by
  have nch:c∉ch:=fun z=>(hch c z).2.2.1 x c e rfl
  by_cases hc:c∈X.fs
  ·obtain ⟨sl,q⟩:=slot c o (I.cne x c e) hc nch ho (I.freeC x c e)
   exact ⟨_,q,hd⟩
  ·exact ⟨o,keep c o (I.cne x c e) hc nch ho (I.freeC x c e),hd⟩
 refine ⟨I.ok,I.os,hg,⟨fun b o e n hb hx=>?_,fun b o e n hb hx=>?_,fun b o e n hx=>?_,fun b o e hx=>?_,fun b xs e=>tups b xs (I.base.tups b xs e),fun b o xs e=>frzs b o xs (I.base.frzs b o xs e),fun b ps e=>?_⟩,?_,fun x c e=>?_,?_,fun x c e=>?_,fun p hp=>?_,hok,I.len⟩
 ·exact keep b o (neL b o e) hb (neC b o e hx) (I.base.keep b o e n hb hx) (I.base.free b o e n hx)
 ·obtain ⟨sl,e1⟩:=I.base.slot b o e n hb hx
  obtain ⟨sl',e2⟩:=slot b _ (neL b o e) hb (neC b o e hx) e1 (I.base.free b o e n hx)
  exact ⟨sl',e2⟩
 ·obtain ⟨o',e1⟩:=I.base.there b o e hx
  exact free b o' (neC b o e hx) e1 (I.base.free b o e n hx)
 ·obtain ⟨o',e1⟩:=I.base.there b o e hx
  exact there b o' (neC b o e hx) e1
 ·obtain ⟨m1,e1⟩:=I.base.tbls b ps e
  obtain ⟨m2,e2⟩:=tbls b _ e1
  exact ⟨m1++m2,by rw [e2,Array.append_assoc]⟩
 ·obtain ⟨m,hn,hl⟩:=I.loc
  refine ⟨m,ns m hn,fun i x v e1 e2 e3=>?_⟩
  obtain ⟨u,r,l⟩:=hl i x v e1 e2 e3
  refine ⟨u,r,?_⟩
  rcases l with l | ⟨k,c,e,z⟩
  ·exact .inl l
  ·exact .inr ⟨k,c,e,cellK x c e _ z⟩
 ·obtain ⟨v,z⟩:=I.cell x c e
  exact ⟨v,cellK x c e v z⟩
 ·obtain ⟨m,⟨o,_,_,ho,_⟩,_⟩:=I.loc
  exact free _ o (fun z=>(hch _ z).2.1 rfl) ho I.free
 ·obtain ⟨v,o,ho,hd⟩:=I.cell x c e
  exact free c o (fun z=>(hch c z).2.2.1 x c e rfl) ho (I.freeC x c e)
 ·obtain ⟨e,n,ne,nf,d⟩:=I.pin p hp
  have nch:p.1∉ch:=fun z=>(hch p.1 z).2.2.2 p hp rfl
  exact ⟨keep p.1 p.2 ne nf nch e n,free p.1 p.2 nch e n,ne,nf,d⟩
theorem aj.un {t':Nat} (I:aj X pins σ H s) (u:Un X.fs [] H H' s.heap h') (hok:eS X.prog X.w H' h'):aj X pins σ H' { s with heap:=h',toks:=t' }:=by
 obtain ⟨m,⟨o,es,ep,ho,r⟩,_⟩:=id I.loc
 obtain ⟨sl,hL⟩:=u.any ho I.free (by simp)
 exact I.step (g':=s.gens) (d':=s.drawn) (ch:=[]) (fun _ z=>nomatch z) (fun b o _ hb _ e n=>u.keep b o e n hb (by simp)) (fun b o _ hb _ e n=>u.slot b o e n hb (by simp)) (fun b o _ e n=>u.free b o e n (by simp)) (fun b o _ e=>u.there b o e (by simp)) u.tups u.frzs u.tbls (fun m' hm=>by
  obtain ⟨o',es',ep',ho',r'⟩:=hm
  rw [ho] at ho';cases ho'
  exact ⟨_,es',ep',hL,r'⟩) hok I.bare
theorem aj.call {g':Array GenState}{t':Nat}{d':Drawn}{ch:List Addr} (I:aj X pins σ H s) (u:Un (jZ X.stack) ch H H' s.heap h') (hok:eS X.prog X.w H' h') (hg:AllBare g')
 (hch:∀b∈ch,(b∈X.ex∨X.s₀.heap.objs.size≤b)∧b≠X.env.locals∧(∀x c,X.env.cells.lookup x=some c→c≠b)∧∀p∈X.pn++pins,p.1≠b) :
 aj X pins σ H' { s with heap:=h',gens:=g',drawn:=d',toks:=t' }:=by
 obtain ⟨m,⟨o,es,ep,ho,r⟩,_⟩:=id I.loc
 obtain ⟨sl,hL⟩:=u.any ho I.free fun z=>(hch _ z).2.1 rfl
 exact I.step (ch:=ch) hch (fun b o hL hb hc e n=>u.keep b o e n (fun z=>(List.mem_cons.mp (I.stkSub b z)).elim hL hb) hc) (fun b o _ _ hc e n=>u.any e n hc) (fun b o hc e n=>u.free b o e n hc) (fun b o hc e=>u.there b o e hc) u.tups u.frzs u.tbls (fun m' hm=>by
  obtain ⟨o',es',ep',ho',r'⟩:=hm
  rw [ho] at ho';cases ho'
  exact ⟨_,es',ep',hL,r'⟩) hok hg
theorem aj.turned {t':Nat}{it:Addr} (I:aj X pins σ H s) (k:∀b o,b≠it→s.heap.get? b=some o→h'.get? b=some o) (hn:H it=none) (hL:it≠X.env.locals)
 (h1:it∈X.ex∨X.s₀.heap.objs.size≤it) (h2:∀x c,X.env.cells.lookup x=some c→c≠it) (h3:∀p∈X.pn++pins,p.1≠it):aj X pins σ H { s with heap:=h',toks:=t' }:=by
 have nit:∀b u,H b=some u→b≠it:=fun b u e z=>by rw [z,hn] at e;cases e
 refine I.step (g':=s.gens) (d':=s.drawn) (ch:=[it]) (fun b hb=>?_) (fun b o _ _ hc e _=>k b o (fun z=>hc (by simp [z])) e) (fun b o _ _ hc e _=>⟨o.slots,k b o (fun z=>hc (by simp [z])) e⟩) (fun _ _ _ _ n=>n)
  (fun b o hc e=>⟨o,k b o (fun z=>hc (by simp [z])) e⟩) (fun _ _ e=>e) (fun _ _ _ e=>e) (fun b ps e=>⟨#[],by rw [e];simp⟩) (fun m hm=>?_) (fun b u e=>?_) I.bare
 ·have e:b=it:=by simpa using hb
  subst e
  exact ⟨h1,hL,h2,h3⟩
 ·obtain ⟨o,es,ep,ho,r⟩:=hm
  exact ⟨o,es,ep,k _ o (Ne.symm hL) ho,r⟩
 ·refine (I.hok b u e).stay (fun c v hc q=>k c v ?_ q) (fun _ q=>q) fun _ _ q=>q
  rcases hc with z | z
  ·rw [z];exact nit b u e
  ·exact nit c _ z
theorem aj.tok (I:aj X pins σ H s) (t:Nat):aj X pins σ H { s with toks:=t }:=I.un (h':=s.heap) (t':=t) Un.refl I.hok
theorem aj.kept {t':Nat} (I:aj X pins σ H s) (k:∀b u,s.heap.get? b=some u→h'.get? b=some u):aj X pins σ H { s with heap:=h',toks:=t' }:=I.un (Un.kept k) (I.hok.kept k)
theorem aj.laid {a:Addr}{o:HO}{t':Nat} (I:aj X pins σ H s) (k:∀b u,s.heap.get? b=some u→h'.get? b=some u) (hp:s.heap.objs.size≤a) (new:b6 X.prog X.w (aJ H a o) h' a o) :
 aj X pins σ (aJ H a o) { s with heap:=h',toks:=t' }:=I.un (Un.laid k hp (I.hok.fresh hp)) (I.hok.laid k hp new)
theorem aj.write {x e:Addr}{o:HO}{t':Nat} (I:aj X pins σ H s) (mu:Dq (H x)) (he:e=x∨H e=some (.own x)) (k:∀b u,b≠e→s.heap.get? b=some u→h'.get? b=some u) (heo:∃u,h'.get? e=some u)
 (new:b6 X.prog X.w (aJ H x o) h' x o):aj X pins σ (aJ H x o) { s with heap:=h',toks:=t' }:=I.un (Un.write mu he k heo) (I.hok.write mu he k heo new)
theorem aj.weak {σ':List (Option V)} (I:aj X pins σ H s) (hl:σ'.length=σ.length) (w:∀(i:Nat) v,σ'[i]?=some (some v)→σ[i]?=some (some v)):aj X pins σ' H s:=
 ⟨I.ok,I.os,I.bare,I.base,let ⟨m,hn,hl'⟩:=I.loc;⟨m,hn,fun i x v e1 e2 e3=>hl' i x v e1 (w i v e2) e3⟩,I.cell,I.free,I.freeC,I.pin,I.hok,hl.trans I.len⟩
theorem aj.pins_of {pins':List (Addr×Obj)} (I:aj X pins σ H s) (h:∀p∈pins',s.heap.get? p.1=some p.2∧H p.1=none∧p.1≠X.env.locals∧p.1∉X.fs∧∀v,p.2.data≠.cell v):aj X pins' σ H s:=
 ⟨I.ok,I.os,I.bare,I.base,I.loc,I.cell,I.free,I.freeC,fun p hp=>(List.mem_append.mp hp).elim (fun z=>I.pin p (List.mem_append_left _ z)) (h p),I.hok,I.len⟩
theorem yr {N:List Str} (hN:N.Nodup) {i j:Nat}{x:Str} (a:N[i]?=some x) (b:N[j]?=some x):i=j:=by
 obtain ⟨h1,e1⟩:=List.getElem?_eq_some_iff.mp a
 obtain ⟨h2,e2⟩:=List.getElem?_eq_some_iff.mp b
 exact (List.getElem_inj hN).mp (e1.trans e2.symm)
theorem wW {M:Model}{A:Around}{E:Value→Shared→Prop}{i:Nat}{x:Str}{v:V}{u:Value}{Q:Unit→Shared→Prop} (I:aj X pins σ H s) (hN:X.N.Nodup) (hi:X.N[i]?=some x) (hx:Do X.env.scope x) (r:bh v u)
 (h:∀s',aj X pins (σ.set i (some v)) H s'→(∃a,Heap.SameBut a s.heap s'.heap∧(a=X.env.locals∨X.env.cells.lookup x=some a))→Q () s') (hf:X.fn x=true∨X.env.scope.names.lookup x=some .local:=by first | exact .inl rfl | exact .inr rfl | assumption):wpAny M A (storeName X.env x u) Q E s:=by
 obtain ⟨m,hn,hl⟩:=id I.loc
 have hcls:(X.env.scope.kind==.class || (X.env.scope.kind==.module && X.env.locals != X.env.globals))=false:=by rw [I.ok.kind];rfl
 have hiσ:i<σ.length:=by rw [I.len];exact (List.getElem?_eq_some_iff.mp hi).1
 have cne:=I.cne
 have tracked:∀{a:Addr}{h':Heap},(∃o,s.heap.get? a=some o∧H a=none)→Heap.SameBut a s.heap h'→eS X.prog X.w H h':=fun {a h'} ha hs b ob e=>by
  obtain ⟨_,_,hfree⟩:=ha
  refine (I.hok b ob e).stay (fun c w' hc q=>(hs.2 c ?_).trans q) (fun _ q=>q) fun _ _ q=>q
  rintro rfl
  rcases hc with rfl | hc
  ·rw [hfree] at e;cases e
  ·rw [hfree] at hc;cases hc
 rcases hx with hk | hk
 ·refine wpAny_storeName_local hk hn (fun h' hn' hs=>?_) hcls
  obtain ⟨oL,_,_,hoL,_⟩:=id hn
  refine h _ ⟨I.ok,I.os,I.bare,⟨fun b o e n hb hx=>?_,fun b o e n hb hx=>?_,I.base.free,fun b o e hx=>?_,I.base.tups,I.base.frzs,I.base.tbls⟩,⟨_,hn',fun j y v' e1 e2 e3=>?_⟩,fun y c e=>?_,I.free,I.freeC,fun p hp=>?_,tracked ⟨oL,hoL,I.free⟩ hs,by simpa using I.len⟩ ⟨_,hs,.inl rfl⟩
  ·exact (hs.2 b (Nat.ne_of_lt (Nat.lt_of_lt_of_le (Heap.lt_size e) I.ok.above))).trans (I.base.keep b o e n hb hx)
  ·obtain ⟨sl,e1⟩:=I.base.slot b o e n hb hx
   exact ⟨sl,(hs.2 b (Nat.ne_of_lt (Nat.lt_of_lt_of_le (Heap.lt_size e) I.ok.above))).trans e1⟩
  ·obtain ⟨o',e1⟩:=I.base.there b o e hx
   exact ⟨o',(hs.2 b (Nat.ne_of_lt (Nat.lt_of_lt_of_le (Heap.lt_size e) I.ok.above))).trans e1⟩
  ·by_cases hj:j=i
   ·subst hj
    rw [hi] at e1;cases e1
    rw [List.getElem?_set_self hiσ] at e2
    cases e2
    exact ⟨u,r,.inl ⟨hk,by simp⟩⟩
   ·rw [List.getElem?_set_ne (Ne.symm hj)] at e2
    obtain ⟨u',r',q⟩:=hl j y v' e1 e2 e3
    refine ⟨u',r',?_⟩
    rcases q with ⟨k,e⟩ | ⟨k,c,e,z⟩
    ·refine .inl ⟨k,?_⟩
     have:y≠x:=fun e=>hj (yr hN e1 (e▸hi))
     simp [this,e]
    ·exact .inr ⟨k,c,e,z.sameBut hs (cne y c e)⟩
  ·obtain ⟨w',z⟩:=I.cell y c e
   exact ⟨w',z.sameBut hs (cne y c e)⟩
  ·obtain ⟨e,n,ne,nf,d⟩:=I.pin p hp
   exact ⟨(hs.2 p.1 ne).trans e,n,ne,nf,d⟩
 ·have hfn:X.fn x=true:=by
   rcases hf with z | z
   ·exact z
   ·rw [z] at hk;cases hk
  obtain ⟨c,hc⟩:=I.ok.has x (.inl hk)
  obtain ⟨w',z⟩:=I.cell x c hc
  refine wpAny_storeName_cell I.ok.kind hk hc z (fun h' hc' hs=>?_)
  obtain ⟨oc,hoc,hocd⟩:=id z
  refine h { s with heap:=h' } ⟨I.ok,I.os,I.bare,⟨fun b o e n hb hx=>?_,fun b o e n hb hx=>?_,I.base.free,fun b o e hx=>?_,I.base.tups,I.base.frzs,I.base.tbls⟩,⟨m,hn.sameBut hs (Ne.symm (cne x c hc)),fun j y v' e1 e2 e3=>?_⟩,fun y c' e=>?_,I.free,I.freeC,fun p hp=>?_,tracked ⟨oc,hoc,I.freeC x c hc⟩ hs,by simpa using I.len⟩ ⟨c,hs,.inr hc⟩
  ·exact (hs.2 b (Nat.ne_of_lt (Nat.lt_of_lt_of_le (Heap.lt_size e) (I.ok.cab x c hfn hc)))).trans (I.base.keep b o e n hb hx)
  ·obtain ⟨sl,e1⟩:=I.base.slot b o e n hb hx
   exact ⟨sl,(hs.2 b (Nat.ne_of_lt (Nat.lt_of_lt_of_le (Heap.lt_size e) (I.ok.cab x c hfn hc)))).trans e1⟩
  ·obtain ⟨o',e1⟩:=I.base.there b o e hx
   exact ⟨o',(hs.2 b (Nat.ne_of_lt (Nat.lt_of_lt_of_le (Heap.lt_size e) (I.ok.cab x c hfn hc)))).trans e1⟩
  ·by_cases hj:j=i
   ·subst hj
    rw [hi] at e1;cases e1
    rw [List.getElem?_set_self hiσ] at e2
    cases e2
    exact ⟨u,r,.inr ⟨.inl hk,c,hc,hc'⟩⟩
   ·rw [List.getElem?_set_ne (Ne.symm hj)] at e2
    obtain ⟨u',r',q⟩:=hl j y v' e1 e2 e3
    refine ⟨u',r',?_⟩
    rcases q with q | ⟨k,c',e,z'⟩
    ·exact .inl q
    ·refine .inr ⟨k,c',e,z'.sameBut hs ?_⟩
     rintro rfl
     exact hj (yr hN e1 (I.ok.inj _ _ _ e hc▸hi))
  ·by_cases hcc:c'=c
   ·subst hcc;exact ⟨_,hc'⟩
   ·obtain ⟨w2,z2⟩:=I.cell y c' e
    exact ⟨w2,z2.sameBut hs hcc⟩
  ·obtain ⟨e,n,ne,nf,d⟩:=I.pin p hp
   refine ⟨(hs.2 p.1 ?_).trans e,n,ne,nf,d⟩
   intro q
   rw [q,hoc] at e
   have q':oc=p.2:=Option.some.inj e
   exact d w' (by rw [←q'];exact hocd)
theorem jQ {M:Model}{A:Around}{E:Value→Shared→Prop}{i:Nat}{x:Str}{v:V}{u:Value}{Q:Unit→Shared→Prop} (I:aj X pins σ H s) (hN:X.N.Nodup) (hi:X.N[i]?=some x) (hx:Do X.env.scope x) (r:bh v u)
 (h:∀s',aj X pins (σ.set i (some v)) H s'→Q () s') (hf:X.fn x=true∨X.env.scope.names.lookup x=some .local:=by first | exact .inl rfl | exact .inr rfl | assumption):wpAny M A (storeName X.env x u) Q E s:=
 wW I hN hi hx r (fun s' I' _=>h s' I') hf
theorem aj.call' {s':Shared}{ch:List Addr} (I:aj X pins σ H s) (ho:s'.os=s.os) (u:Un (jZ X.stack) ch H H' s.heap s'.heap) (hok:eS X.prog X.w H' s'.heap) (hg:AllBare s'.gens)
 (hch:∀b∈ch,(b∈X.ex∨X.s₀.heap.objs.size≤b)∧b≠X.env.locals∧(∀x c,X.env.cells.lookup x=some c→c≠b)∧∀p∈X.pn++pins,p.1≠b):aj X pins σ H' s':=by
 obtain ⟨h',g',d',t',o'⟩:=s'
 have e:o'=s.os:=ho
 subst e
 exact I.call (g':=g') (t':=t') (d':=d') u hok hg hch
end
abbrev XK:=Value→Option Addr→Hp→Prop
abbrev St:=List (Option V)
abbrev VK:=V→Hp→Prop
abbrev TE:=St→Hp→VK→Prop
abbrev TT:=St→Hp→(Bool→Hp→Prop)→Prop
abbrev TA:=St→Hp→(List V→Hp→Prop)→Prop
structure fV where
 nx:St→Hp→Prop
 rt:VK
 bk:St→Hp→Prop:=fun _ _=>False
 ct:St→Hp→Prop:=fun _ _=>False
abbrev TS:=fV→St→Hp→Prop
inductive EP (X:Cx) (pins:List (Addr×Obj)) (σ:St) (Q:VK) (u:Value) (s':Shared):Prop
 | mk (v:_) (H':_) (h0:aj X pins σ H' s') (h1:bh v u) (h2:Q v H')
def TP (X:Cx) (pins:List (Addr×Obj)) (σ:St) (Q:Bool→Hp→Prop) (b:Bool) (s':Shared):Prop:=∃H',aj X pins σ H' s'∧Q b H'
inductive AP (X:Cx) (pins:List (Addr×Obj)) (σ:St) (Q:List V→Hp→Prop) (us:List Value) (s':Shared):Prop
 | mk (vs:_) (H':_) (h0:aj X pins σ H' s') (h1:aE vs us) (h2:Q vs H')
def SP (X:Cx) (pins:List (Addr×Obj)) (D:fV) (f:Flow) (s':Shared):Prop:=
 match f with
 | .next=>∃σ' H',aj X pins σ' H' s'∧D.nx σ' H'
 | .brk=>∃σ' H',aj X pins σ' H' s'∧D.bk σ' H'
 | .cont=>∃σ' H',aj X pins σ' H' s'∧D.ct σ' H'
 | .ret u=>∃v σ' H',aj X pins σ' H' s'∧bh v u∧D.rt v H'
def PE (X:Cx) (e:Expr) (t:TE):Prop:=
 ∀(pins:List (Addr×Obj)) (s:Shared) (σ:St) (H:Hp) (Q:VK),aj X pins σ H s→t σ H Q→wpAny (model X.prog X.w) X.A (eval e X.env) (EP X pins σ Q) X.xe s
def PT (X:Cx) (e:Expr) (t:TT):Prop:=
 ∀(pins:List (Addr×Obj)) (s:Shared) (σ:St) (H:Hp) (Q:Bool→Hp→Prop),aj X pins σ H s→t σ H Q→wpAny (model X.prog X.w) X.A (isTrue e X.env (eval e X.env)) (TP X pins σ Q) X.xe s
def PW (X:Cx) (e:Expr) (t:TT):Prop:=
 ∀(whole:Sem Value) (pins:List (Addr×Obj)) (s:Shared) (σ:St) (H:Hp) (Q:Bool→Hp→Prop),aj X pins σ H s→t σ H Q→wpAny (model X.prog X.w) X.A (isTrue e X.env whole) (TP X pins σ Q) X.xe s
theorem PW.pt {X:Cx}{e:Expr}{t:TT} (h:PW X e t):PT X e t:=h _
def PA (X:Cx) (es:List Expr) (t:TA):Prop:=
 ∀(pos:Pos) (pins:List (Addr×Obj)) (s:Shared) (σ:St) (H:Hp) (Q:List V→Hp→Prop),aj X pins σ H s→t σ H Q→wpAny (model X.prog X.w) X.A (spliced (backTo pos (starEach es X.env))) (AP X pins σ Q) X.xe s
def PS (X:Cx) (st:Stmt) (t:TS):Prop:=
 ∀(pins:List (Addr×Obj)) (s:Shared) (σ:St) (H:Hp) (D:fV),aj X pins σ H s→t D σ H→wpAny (model X.prog X.w) X.A (exec st X.env) (SP X pins D) X.xe s
def oP (X:Cx) (st:List Stmt) (t:TS):Prop:=
 ∀(pins:List (Addr×Obj)) (s:Shared) (σ:St) (H:Hp) (D:fV),aj X pins σ H s→t D σ H→wpAny (model X.prog X.w) X.A (execs st X.env) (SP X pins D) X.xe s
theorem aR {α:Type}{t:Sem α}{Q Q':α→Shared→Prop}{M:Model}{A:Around}{E:Value→Shared→Prop}{s:Shared} (h:wpAny M A t Q E s) (hQ:∀a s,Q a s→Q' a s):wpAny M A t Q' E s:=wpAny_mono h hQ fun _ _ x=>x
section
variable {X:Cx}
inductive Hr (i:Nat) (σ:St) (H:Hp) (Q:VK):Prop
 | mk (v:_) (h0:σ[i]?=some (some v)) (h1:Q v H)
def BQ (i:Nat):TE:=fun σ H Q=>Hr i σ H Q
def tC (v:V):TE:=fun _ H Q=>Q v H
theorem Bs {i:Nat}{x:Str}{pos:Pos} (hN:X.N[i]?=some x) (hv:Du X.env.scope x) (hd:(x==("__debug__" : Str))=false:=by decide) (hcd:(x==("__classdict__" : Str))=false:=by decide):PE X (.Name x pos) (BQ i):=by
 intro pins s σ H Q I h
 obtain ⟨v,e,h⟩:=h
 obtain ⟨m,hn,hl⟩:=I.loc
 obtain ⟨u,r,l⟩:=hl i x v hN e hv
 have fin:EP X pins σ Q u s:=⟨v,H,I,r,h⟩
 rcases l with ⟨hk,hm⟩ | ⟨hk,c,hc,hcell⟩
 ·exact wpAny_Name (wpAny_loadName_local I.ok.kind hk hn hm fin) hd
 ·rcases hk with hk | hk
  ·exact wpAny_Name (wpAny_loadName_cell I.ok.kind hk hc hcell fin) hd
  ·exact wpAny_Name (wpAny_loadName_free I.ok.kind hk hc hcell fin hcd) hd
theorem bC {i j pos}:PE X (.Constant (.int i) j pos) (tC (.int i)):=fun _ _ _ H _ I h=>wpAny_Constant_int ⟨.int i,H,I.tok _,⟨()⟩,h⟩
theorem bP {b j pos}:PE X (.Constant (.bool b) j pos) (tC (.bl b)):=fun _ _ _ H _ I h=>Constant_bool ⟨.bl b,H,I,rfl,h⟩
theorem jw {j pos}:PE X (.Constant .none j pos) (tC .non):=fun _ _ _ H _ I h=>Constant_none ⟨.non,H,I,rfl,h⟩
theorem jt {x j pos}:PE X (.Constant (.str x) j pos) (tC (.str x)):=fun _ _ _ H _ I h=>Calls.Constant_str ⟨.str x,H,I.tok _,⟨()⟩,h⟩
def Gl (X:Cx) (x:Str):Prop:=X.env.kindOf x=some .globalImplicit
theorem qe {E:Value→Shared→Prop}{pins:List (Addr×Obj)}{s:Shared}{σ:St}{H:Hp}{x:Str}{u:Value}{pos:Pos}{Q:Value→Shared→Prop} (I:aj X pins σ H s) (hg:Gl X x) (hm:X.mg x=some u) (h:Q u s)
 (hd:(x==("__debug__" : Str))=false:=by decide):wpAny (model X.prog X.w) X.A (eval (.Name x pos) X.env) Q E s:=
 Calls.Name_function_global I.ok.kind hg (Calls.loadGlobal_global (by rw [I.ok.glob];exact I.mod.glob.keeps I.bk) hm h) hd
theorem nK {E:Value→Shared→Prop}{pins:List (Addr×Obj)}{s:Shared}{σ:St}{H:Hp}{x:Str}{u:Value}{pos:Pos}{Q:Value→Shared→Prop} (I:aj X pins σ H s) (hg:Gl X x) (hm:X.mg x=none) (hv:bootBuiltins x=some u) (h:Q u s)
 (hn:x≠"__name__" := by decide) (hd:(x==("__debug__" : Str))=false:=by decide):wpAny (model X.prog X.w) X.A (eval (.Name x pos) X.env) Q E s:=by
 obtain ⟨mb,h1,h2⟩:=I.mod.blt
 exact Calls.Name_function_global I.ok.kind hg (Calls.loadGlobal_builtin (by rw [I.ok.glob];exact I.mod.glob.keeps I.bk) hm (by rw [I.ok.blt];exact h1.keeps I.bk) ((h2 x hn).trans hv) h) hd
theorem Fg {x:Str}{v:V}{u:Value}{pos:Pos} (hg:Gl X x) (hm:X.mg x=none) (hv:bootBuiltins x=some u) (r:bh v u) (hn:x≠"__name__" := by decide) (hd:(x==("__debug__" : Str))=false:=by decide):PE X (.Name x pos) (tC v):=
 fun _ _ _ H _ I h=>nK I hg hm hv ⟨v,H,I,r,h⟩ hn hd
variable {a b:Expr}{ta tb:TE}{pos:Pos}
inductive yx (x:V) (P:Bool→Prop):Prop
 | mk (c:Bool) (e:x=.bl c) (h:P c)
inductive FZ (x:V) (P:Int→Prop):Prop
 | mk (c:Int) (e:x=.int c) (h:P c)
def tB (t:TE):TT:=fun σ H Q=>t σ H fun x H1=>yx x fun c=>Q c H1
theorem eX {e:Expr}{t:TE} (h:PE X e t) (he:∀whole,isTrue e X.env whole=(do let v ←whole;standAt e.pos;holding [v] (truthy v)):=by intro _;rfl):PT X e (tB t):=by
 intro pins s σ H Q I hw
 refine isTrue_plain (aR (h pins s σ H _ I hw) fun v s1 ⟨x,H1,I1,r1,q1⟩=>?_) (he _)
 obtain ⟨d,rfl,q⟩:=q1
 cases r1
 exact wpAny_truthy_bool ⟨H1,I1,q⟩
variable {tA tB':TT}{rest:List Expr}
def Js (t u:TT):TT:=fun σ H Q=>t σ H fun c H1=>if c=true then u σ H1 Q else Q false H1
def JI (t u:TT):TT:=fun σ H Q=>t σ H fun c H1=>if c=true then Q true H1 else u σ H1 Q
def Ju (t:TT):TT:=fun σ H Q=>t σ H fun c H1=>Q (!c) H1
theorem lF (ha:PT X a tA):PW X (.BoolOp .And [a] pos) tA:=by
 intro wh pins s σ H Q I h
 refine isTrue_and (aR (ha pins s σ H Q I h) fun c s1 e=>?_)
 cases c with
 | true=>exact isTrue_and_nil e
 | false=>exact e
theorem fN (ha:PT X a tA):PW X (.BoolOp .Or [a] pos) tA:=by
 intro wh pins s σ H Q I h
 refine isTrue_or (aR (ha pins s σ H Q I h) fun c s1 e=>?_)
 cases c with
 | false=>exact isTrue_or_nil e
 | true=>exact e
theorem ow (ha:PT X a tA) (hb:PW X (.BoolOp .And (b :: rest) pos) tB'):PW X (.BoolOp .And (a :: b :: rest) pos) (Js tA tB'):=by
 intro wh pins s σ H Q I h
 refine isTrue_and (aR (ha pins s σ H _ I h) fun c s1 ⟨H1,I1,q1⟩=>?_)
 cases c with
 | true=>exact hb wh pins s1 σ H1 Q I1 q1
 | false=>exact ⟨H1,I1,q1⟩
theorem gN (ha:PT X a tA) (hb:PW X (.BoolOp .Or (b :: rest) pos) tB'):PW X (.BoolOp .Or (a :: b :: rest) pos) (JI tA tB'):=by
 intro wh pins s σ H Q I h
 refine isTrue_or (aR (ha pins s σ H _ I h) fun c s1 ⟨H1,I1,q1⟩=>?_)
 cases c with
 | true=>exact ⟨H1,I1,q1⟩
 | false=>exact hb wh pins s1 σ H1 Q I1 q1
theorem fQ (ha:PT X a tA):PT X (.UnaryOp .Not a pos) (Ju tA):=by
 intro pins s σ H Q I h
 exact isTrue_not (ha pins s σ H (fun c H1=>Q (!c) H1) I h)
def Hm (ta tb:TE):TE:=fun σ H Q=>ta σ H fun x H1=>yx x fun c=>if c=true then tb σ H1 Q else Q (.bl false) H1
def Il (ta:TE):TE:=fun σ H Q=>ta σ H fun x H1=>yx x fun c=>Q (.bl (!c)) H1
theorem lT {op}{t:TE} (h:PE X a t):PE X (.BoolOp op [a] pos) t:=fun pins s σ H Q I hw=>BoolOp_one (h pins s σ H Q I hw)
theorem kJ (ha:PE X a ta) (hb:PE X (.BoolOp .And (b :: rest) pos) tb):PE X (.BoolOp .And (a :: b :: rest) pos) (Hm ta tb):=by
 intro pins s σ H Q I h
 refine BoolOp_and (aR (ha pins s σ H _ I h) fun v s1 ⟨x,H1,I1,r1,q1⟩=>?_)
 obtain ⟨c,rfl,q1⟩:=q1
 cases r1
 refine wpAny_truthy_bool ?_
 cases c with
 | true=>exact hb pins s1 σ H1 Q I1 q1
 | false=>exact ⟨.bl false,H1,I1,rfl,q1⟩
theorem AO (ha:PE X a ta):PE X (.UnaryOp .Not a pos) (Il ta):=by
 intro pins s σ H Q I h
 refine UnaryOp_ (aR (ha pins s σ H _ I h) fun v s1 ⟨x,H1,I1,r1,q1⟩=>?_)
 obtain ⟨c,rfl,q1⟩:=q1
 cases r1
 exact not_of (wpAny_truthy_bool ⟨.bl (!c),H1,I1,rfl,q1⟩)
def JH (t:TT) (ta tb:TE):TE:=fun σ H Q=>t σ H fun c H1=>if c=true then ta σ H1 Q else tb σ H1 Q
theorem fY {c:Expr} (hc:PT X c tA) (ha:PE X a ta) (hb:PE X b tb):PE X (.IfExp c a b pos) (JH tA ta tb):=by
 intro pins s σ H Q I h
 refine wpAny_IfExp (aR (hc pins s σ H _ I h) fun d s1 ⟨H1,I1,q1⟩=>?_)
 cases d with
 | true=>exact ha pins s1 σ H1 Q I1 q1
 | false=>exact hb pins s1 σ H1 Q I1 q1
end
def aA (K:PySem.W.Frag) (H:Hp) (a:Addr) (xs:List V):Prop:=
 Rd H a (.lst xs)∨
  kZ fun (o:Obj) (its:Array Value) (n:Nat)=>K.lookup a=some o∧o.cls=.type "list"∧o.dict=none∧o.data=.seq its n∧its.size≤sizeLine∧aE xs its.toList
def ae (K:PySem.W.Frag) (H:Hp) (a:Addr) (xs:List V):Prop:=
 Rd H a (.tup xs)∨
  kZ fun (o:Obj) (its:Array Value) (n:Nat)=>K.lookup a=some o∧o.cls=.type "tuple"∧o.data=.seq its n∧its.size≤sizeLine∧aE xs its.toList
def IL:Value→Option V
 | .none=>some .non
 | .bool b=>some (.bl b)
 | .int i _=>some (.int i)
 | .str x _=>some (.str x)
 | .bytes b _=>some (.byt b)
 | .float b _=>some (.flt b)
 | .ref a=>some (.ref a)
 | .type n=>some (.ty n)
 | _=>none
theorem bh.abs {x:V}{u:Value} (r:bh x u):IL u=some x:=by
 cases x with
 | non=>cases r;rfl
 | bl _=>cases r;rfl
 | int _=>obtain ⟨t,rfl⟩:=r;rfl
 | str _=>obtain ⟨t,rfl⟩:=r;rfl
 | byt _=>obtain ⟨t,rfl⟩:=r;rfl
 | flt _=>obtain ⟨t,rfl⟩:=r;rfl
 | ref _=>cases r;rfl
 | ty _=>cases r;rfl
theorem bh.inj {x y:V}{u:Value} (r:bh x u) (q:bh y u):x=y:=Option.some.inj (r.abs.symm.trans q.abs)
theorem aE.inj:∀{xs ys:List V}{us:List Value},aE xs us→aE ys us→xs=ys
 | _,_,_,.nil,.nil=>rfl
 | _,_,_,.cons r t,.cons r' t'=>by rw [r.inj r',aE.inj t t']
section
variable {X:Cx}{pins:List (Addr×Obj)}{σ:St}{H:Hp}{s:Shared}{a:Addr}{xs ys:List V}
theorem aA.of {K:PySem.W.Frag} (h:H a=some (.lst xs)):aA K H a xs:=.inl (.inl h)
theorem ae.of {K:PySem.W.Frag} (h:H a=some (.tup xs)):ae K H a xs:=.inl (.inl h)
theorem aj.list (I:aj X pins σ H s) (h:aA X.K H a xs):∃its:List Value,aE xs its∧PlainL s.heap a its.toArray∧xs.length≤sizeLine:=by
 rcases h with h | ⟨o,its,n,hk,hc,hd,hs,hz,r⟩
 ·obtain ⟨z,its,n,r,e⟩:=h.ok I.hok
  exact ⟨its,r,⟨_,n,e,rfl,rfl,rfl⟩,z⟩
 ·refine ⟨its.toList,r,⟨o,n,I.kIn a o hk,hc,hd,by simpa using hs⟩,?_⟩
  have e:=r.length
  simp only [Array.length_toList] at e
  trivial
theorem aj.tuple (I:aj X pins σ H s) (h:ae X.K H a xs):∃its:List Value,aE xs its∧IsTup s.heap a its.toArray∧xs.length≤sizeLine:=by
 rcases h with h | ⟨o,its,n,hk,hc,hs,hz,r⟩
 ·obtain ⟨z,its,r,p,_⟩:=h.ok I.hok
  exact ⟨its,r,p,z⟩
 ·refine ⟨its.toList,r,⟨o,I.kIn a o hk,hc,n,by simpa using hs⟩,?_⟩
  have e:=r.length
  simp only [Array.length_toList] at e
  trivial
theorem aj.list_inj (I:aj X pins σ H s) (h:aA X.K H a xs) (h':aA X.K H a ys):xs=ys:=by
 obtain ⟨its,r,⟨o,n,e,_,_,d⟩,_⟩:=I.list h
 obtain ⟨its',r',⟨o',n',e',_,_,d'⟩,_⟩:=I.list h'
 rw [e] at e';cases e'
 rw [d] at d'
 injection d' with d1 _
 have:its=its':=by simpa using congrArg Array.toList d1
 subst this
 exact r.inj r'
theorem aj.tuple_inj (I:aj X pins σ H s) (h:ae X.K H a xs) (h':ae X.K H a ys):xs=ys:=by
 obtain ⟨its,r,⟨o,e,_,n,d⟩,_⟩:=I.tuple h
 obtain ⟨its',r',⟨o',e',_,n',d'⟩,_⟩:=I.tuple h'
 rw [e] at e';cases e'
 rw [d] at d'
 injection d' with d1 _
 have:its=its':=by simpa using congrArg Array.toList d1
 subst this
 exact r.inj r'
end
abbrev Cx.wish (X:Cx) (E:Value→Shared→Prop):Cx:={ X with xe:=E }
abbrev Cx.nox (X:Cx):Cx:=X.wish fun _ _=>False
theorem Cx.Ok.wish {X:Cx} (ok:X.Ok) (E:Value→Shared→Prop):(X.wish E).Ok:=
 ⟨ok.mod,ok.kind,ok.glob,ok.blt,ok.above,ok.inj,ok.has,ok.cab,ok.hd,ok.frames,ok.stk,ok.exf,ok.bs,ok.bsz,ok.noex,ok.exfs,ok.funs,ok.frf⟩
theorem Cx.Ok.unwish {X:Cx}{E:Value→Shared→Prop} (ok:(X.wish E).Ok):X.Ok:=
 ⟨ok.mod,ok.kind,ok.glob,ok.blt,ok.above,ok.inj,ok.has,ok.cab,ok.hd,ok.frames,ok.stk,ok.exf,ok.bs,ok.bsz,ok.noex,ok.exfs,ok.funs,ok.frf⟩
section
variable {X:Cx}{pins:List (Addr×Obj)}{σ:St}{H:Hp}{s:Shared}{E:Value→Shared→Prop}
theorem aj.wish (I:aj X pins σ H s) (E:Value→Shared→Prop):aj (X.wish E) pins σ H s:=⟨I.ok.wish E,I.os,I.bare,I.base,I.loc,I.cell,I.free,I.freeC,I.pin,I.hok,I.len⟩
theorem aj.unwish (I:aj (X.wish E) pins σ H s):aj X pins σ H s:=⟨I.ok.unwish,I.os,I.bare,I.base,I.loc,I.cell,I.free,I.freeC,I.pin,I.hok,I.len⟩
theorem SP.unwish {D:fV}{f:Flow}{s':Shared} (h:SP (X.wish E) pins D f s'):SP X pins D f s':=by
 cases f with
 | next=>obtain ⟨σ',H',I,q⟩:=h;exact ⟨σ',H',I.unwish,q⟩
 | brk=>obtain ⟨σ',H',I,q⟩:=h;exact ⟨σ',H',I.unwish,q⟩
 | cont=>obtain ⟨σ',H',I,q⟩:=h;exact ⟨σ',H',I.unwish,q⟩
 | ret u=>obtain ⟨v,σ',H',I,r,q⟩:=h;exact ⟨v,σ',H',I.unwish,r,q⟩
theorem oP.nox {st:List Stmt}{t:TS} (h:oP X.nox st t):oP X st t:=fun pins s σ H D I hw=>
 wpAny_mono (h pins s σ H D (I.wish _) hw) (fun _ _ q=>q.unwish) fun _ _ z=>False.elim z
end
section
variable {X:Cx}{st:Stmt}{rest:List Stmt}{t u:TS}{e:Expr}{te:TE}{pos:Pos}
def Hx:TS:=fun D σ H=>D.nx σ H
def ko (t u:TS):TS:=fun D σ H=>t { D with nx:=u D } σ H
theorem aM:oP X [] Hx:=fun _ _ σ H _ I h=>wpAny_execs_nil ⟨σ,H,I,h⟩
theorem dX (h1:PS X st t) (h2:oP X rest u):oP X (st :: rest) (ko t u):=by
 intro pins s σ H D I h
 refine wpAny_execs_cons (aR (h1 pins s σ H { D with nx:=u D } I h) fun f s1 q=>?_)
 cases f with
 | next=>
  obtain ⟨σ',H',I',q⟩:=q
  exact h2 pins s1 σ' H' D I' q
 | ret v=>exact q
 | brk=>exact q
 | cont=>exact q
theorem aa (h1:PS X st t):oP X [st] t:=by
 intro pins s σ H D I h
 refine wpAny_execs_cons (aR (h1 pins s σ H D I h) fun f s1 q=>?_)
 cases f with
 | next=>exact wpAny_execs_nil q
 | ret v=>exact q
 | brk=>exact q
 | cont=>exact q
theorem aj.quiet {pins:List (Addr×Obj)}{σ:St}{H:Hp}{s:Shared} (I:aj X pins σ H s):interactive X.env=false:=by simp [interactive,I.ok.kind]
def Dp (te:TE):TS:=fun D σ H=>te σ H fun _ H1=>D.nx σ H1
theorem aO (he:PE X e te) (hs:swapsWith e none pos.line X.env=pure false:=by rfl):PS X (.Expr e pos) (Dp te):=by
 intro pins s σ H D I h
 exact wpAny_Expr_any (aR (he pins s σ H _ I h) fun v s1 ⟨x,H1,I1,r1,q1⟩=>⟨σ,H1,I1,q1⟩) I.quiet hs
def Gp (te:TE):TS:=fun D σ H=>te σ H D.rt
theorem ay (he:PE X e te):PS X (.Return (some e) pos) (Gp te):=by
 intro pins s σ H D I h
 exact wpAny_Return_some (aR (he pins s σ H _ I h) fun v s1 ⟨x,H1,I1,r1,q1⟩=>⟨x,σ,H1,I1,r1,q1⟩)
def IU (c:TT) (t u:TS):TS:=fun D σ H=>c σ H fun b H1=>if b=true then t D σ H1 else u D σ H1
theorem aU {c:Expr}{a b:List Stmt}{tc:TT} (hc:PT X c tc) (ha:oP X a t) (hb:oP X b u):PS X (.If c a b pos) (IU tc t u):=by
 intro pins s σ H D I h
 refine wpAny_If (aR (hc pins s σ H _ I h) fun d s1 ⟨H1,I1,q1⟩=>?_)
 cases d with
 | true=>exact ha pins s1 σ H1 D I1 q1
 | false=>exact hb pins s1 σ H1 D I1 q1
end
abbrev TG:=V→St→Hp→(St→Hp→Prop)→Prop
abbrev uD:=List V→St→Hp→(St→Hp→Prop)→Prop
def PG (X:Cx) (target:Expr) (t:TG):Prop:=
 ∀(pins:List (Addr×Obj)) (s:Shared) (σ:St) (H:Hp) (v:V) (u:Value) (Q:St→Hp→Prop),aj X pins σ H s→bh v u→t v σ H Q→
   wpAny (model X.prog X.w) X.A (assign target X.env u) (fun _ s'=>∃σ' H',aj X pins σ' H' s'∧Q σ' H') X.xe s
def Bo (X:Cx) (ts:List Expr) (t:uD):Prop:=
 ∀(pins:List (Addr×Obj)) (s:Shared) (σ:St) (H:Hp) (vs:List V) (us:List Value) (Q:St→Hp→Prop),aj X pins σ H s→aE vs us→t vs σ H Q→
   wpAny (model X.prog X.w) X.A (assignInOrder ((assignEach ts X.env).map (·.2)) us) (fun _ s'=>∃σ' H',aj X pins σ' H' s'∧Q σ' H') X.xe s
abbrev CJ:=V→V→V→Hp→(Hp→Prop)→Prop
def Gk (X:Cx) (t:CJ):Prop:=
 ∀(pins:List (Addr×Obj)) (s:Shared) (σ:St) (H:Hp) (o i v:V) (ov iv u:Value) (Q:Hp→Prop),aj X pins σ H s→bh o ov→bh i iv→bh v u→t o i v H Q→
   wpAny (model X.prog X.w) X.A (setItem ov iv u) (fun _ s'=>∃H',aj X pins σ H' s'∧Q H') X.xe s
section
variable {X:Cx}{pos:Pos}
def oO (i:Nat):TG:=fun v σ H Q=>Q (σ.set i (some v)) H
theorem j7 {i:Nat}{x:Str} (hN:X.N.Nodup) (hi:X.N[i]?=some x) (hx:Do X.env.scope x) (hf:X.fn x=true∨X.env.scope.names.lookup x=some .local:=by first | exact .inl rfl | exact .inr rfl | assumption):PG X (.Name x pos) (oO i):=by
 intro pins s σ H v u Q I r h
 exact wpAny_assign_Name (jQ I hN hi hx r (fun s' I'=>⟨_,H,I',h⟩) hf)
def CH:uD:=fun vs σ H Q=>vs=[]∧Q σ H
inductive GR (t:TG) (u:uD) (vs:List V) (σ:St) (H:Hp) (Q:St→Hp→Prop):Prop
 | mk (v:_) (r:_) (h0:vs=v :: r) (h1:t v σ H fun σ' H'=>u r σ' H' Q)
def v0 (t:TG) (u:uD):uD:=fun vs σ H Q=>GR t u vs σ H Q
theorem bf:Bo X [] CH:=by
 intro pins s σ H vs us Q I r h
 obtain ⟨e,h⟩:=h
 subst e
 cases r
 exact assignInOrder_nil ⟨σ,H,I,h⟩
theorem af {e:Expr}{es:List Expr}{t:TG}{u:uD} (h1:PG X e t) (h2:Bo X es u)
 (hs:(assignEach (e :: es) X.env).map (·.2)=assign e X.env :: (assignEach es X.env).map (·.2):=by rfl):Bo X (e :: es) (v0 t u):=by
 intro pins s σ H vs us Q I r h
 obtain ⟨v,vr,e1,h⟩:=h
 subst e1
 cases r with
 | cons r rr=>
  rw [hs]
  refine assignInOrder_cons (aR (h1 pins s σ H _ _ _ I r h) fun _ s1 ⟨σ1,H1,I1,q1⟩=>?_)
  exact h2 pins s1 σ1 H1 _ _ Q I1 rr q1
inductive Id (K:PySem.W.Frag) (n:Nat) (t:uD) (v:V) (σ:St) (H:Hp) (Q:St→Hp→Prop):Prop
 | mk (a:_) (xs:_) (h0:v=.ref a) (h1:ae K H a xs) (h2:xs.length=n) (h3:t xs σ H Q)
def Ae (K:PySem.W.Frag) (n:Nat) (t:uD):TG:=fun v σ H Q=>Id K n t v σ H Q
theorem yd {es:List Expr}{k:Nat}{t:uD}{n:Nat} (hc:X.calm=true) (h:Bo X es t)
 (hn:(assignEach es X.env).length=n:=by rfl) (hst:(assignEach es X.env).findIdx? (·.1)=none:=by rfl):PG X (.Tuple es k pos) (Ae X.K n t):=by
 intro pins s σ H v u Q I r hw
 obtain ⟨a,xs,e1,hq,hl,hw⟩:=hw
 subst e1
 cases r
 obtain ⟨its,rv,ht,hz⟩:=I.tuple hq
 refine assign_Tuple_tuple (I.ok.hd hc) ht (by simp [hn,←hl,rv.length]) hst fun h' hx=>?_
 have I1:aj X pins σ H { s with heap:=h' }:=I.kept (t':=s.toks) fun b o e=>hx b o (Nat.ne_of_lt (Heap.lt_size e)) e
 exact h pins _ σ H xs _ Q I1 (by simpa using rv) hw
def Jp (to ti:TE) (t:CJ):TG:=fun v σ H Q=>to σ H fun o H1=>ti σ H1 fun i H2=>t o i v H2 fun H3=>Q σ H3
theorem xY {o i:Expr}{to ti:TE}{t:CJ} (ho:PE X o to) (hi:PE X i ti) (hs:Gk X t)
 (ha:∀v,assign (.Subscript o i pos) X.env v=(do
  let ov ←holding [v] (eval o X.env)
  let iv ←holding [v,ov] (eval i X.env)
  standAt pos
  holding [v,ov,iv] (setItem ov iv v)
  release [v,ov,iv] []):=by intro _;rfl):PG X (.Subscript o i pos) (Jp to ti t):=by
 intro pins s σ H v u Q I r h
 rw [ha]
 refine wpAny_bind (wpAny_holding (aR (ho pins s σ H _ I h) fun ov s1 ⟨x,H1,I1,r1,q1⟩=>?_))
 refine wpAny_bind (wpAny_holding (aR (hi pins s1 σ H1 _ I1 q1) fun iv s2 ⟨y,H2,I2,r2,q2⟩=>?_))
 refine wpAny_bind (wpAny_standAt (wpAny_bind (wpAny_holding (aR (hs pins s2 σ H2 x y v ov iv u _ I2 r1 r2 r q2) fun _ s3 ⟨H3,I3,q3⟩=>?_))))
 exact wpAny_release ⟨σ,H3,I3,q3⟩
def yz (te:TE) (g:TG):TS:=fun D σ H=>te σ H fun x H1=>g x σ H1 D.nx
theorem dk {tg e:Expr}{te:TE}{g:TG} (he:PE X e te) (hg:PG X tg g) (hs:swapsWithSole [tg] e pos.line X.env=pure false:=by rfl) (hw:swappedStores [tg] e X.env=pure none:=by rfl)
 (h1:(assignEach [tg] X.env).map (·.2)=[assign tg X.env]:=by rfl):PS X (.Assign [tg] e pos) (yz te g):=by
 intro pins s σ H D I h
 refine wpAny_Assign_stores (aR (he pins s σ H _ I h) fun v s1 ⟨x,H1,I1,r1,q1⟩=>?_) hs hw
 rw [h1]
 exact aR (hg pins s1 σ H1 x v _ I1 r1 q1) fun _ s2 q=>q
theorem qB {i:Nat}{x:Str}{e:Expr}{te:TE}{pos':Pos} (hN:X.N.Nodup) (hi:X.N[i]?=some x) (hx:Do X.env.scope x) (he:PE X e te) (hs:swapsWith e (some (.Name x pos')) pos.line X.env=pure false:=by rfl) (hf:X.fn x=true∨X.env.scope.names.lookup x=some .local:=by first | exact .inl rfl | exact .inr rfl | assumption) :
 PS X (.Assign [.Name x pos'] e pos) (yz te (oO i)):=by
 intro pins s σ H D I h
 refine wpAny_Assign_Name (aR (he pins s σ H _ I h) fun v s1 ⟨y,H1,I1,r1,q1⟩=>?_) hs
 exact jQ I1 hN hi hx r1 (fun s2 I2=>⟨_,H1,I2,q1⟩) hf
def Hj (i j:Nat) (ta:TA):TS:=fun D σ H=>ta σ H fun vs H1=>bX fun v w=>vs=[v,w]∧D.nx ((σ.set i (some v)).set j (some w)) H1
theorem nN {i j:Nat}{x y:Str}{a b:Expr}{ta:TA}{px py pt:Pos}{kt k2 pt2} (hc:X.calm=true) (hN:X.N.Nodup) (hi:X.N[i]?=some x) (hj:X.N[j]?=some y) (hij:i≠j)
 (hx:X.env.scope.names.lookup x=some .local) (hy:X.env.scope.names.lookup y=some .local) (ha:PA X [a,b] ta)
 (hw:swappedStores [.Tuple [.Name x px,.Name y py] kt pt] (.Tuple [a,b] k2 pt2) X.env=pure (some [x,y]))
 (hs:swapsWithSole [.Tuple [.Name x px,.Name y py] kt pt] (.Tuple [a,b] k2 pt2) pos.line X.env=pure false:=by rfl) :
 PS X (.Assign [.Tuple [.Name x px,.Name y py] kt pt] (.Tuple [a,b] k2 pt2) pos) (Hj i j ta):=by
 intro pins s σ H D I h
 rw [exec_Assign_arm]
 refine wpAny_bind (wpAny_standAt ?_)
 rw [hs]
 refine wpAny_bind (wpAny_pure ?_)
 rw [if_neg (by decide)]
 refine wpAny_bind (Tuple_ (aR (ha _ pins s σ H _ I h) fun us s1 ⟨vs,H1,I1,r1,q1⟩=>?_))
 obtain ⟨v,w,e1,q1⟩:=q1
 subst e1
 obtain ⟨u1,u2,rfl,rv,rw'⟩:bX fun u1 u2=>us=[u1,u2]∧bh v u1∧bh w u2:=by
  cases r1 with
  | cons p q=>
   cases q with
   | cons p' q'=>
    cases q'
    exact ⟨_,(),p,p'⟩
 refine wpAny_newObj_type ?_ (by show 2≤sizeLine;decide)
 have I2:aj X pins σ H1 { s1 with heap:=s1.heap.push { cls:=.type "tuple",data:=.seq [u1,u2].toArray } }:=I1.kept (t':=s1.toks) fun b o e=>Heap.get?_push_of_some _ e
 rw [hw]
 refine wpAny_bind (wpAny_pure ?_)
 show wpAny (model X.prog X.w) X.A (do rule "assign.swapped-stores";let items ←unpackItems (.ref s1.heap.objs.size) 2 none;assignInOrder [fun v=>bindName X.env y v,fun v=>bindName X.env x v] items.reverse;pure Flow.next) _ _ _
 refine wpAny_bind (wpAny_rule (wpAny_bind (unpackItems_tuple (items:=#[u1,u2]) (I.ok.hd hc) (IsTup.new s1.heap _) fun h' hx'=>?_)))
 have I3:=I2.kept (h':=h') (t':=s1.toks) fun b o e=>hx' b o (Nat.ne_of_lt (Heap.lt_size e)) e
 show wpAny _ _ (assignInOrder [fun v=>bindName X.env y v,fun v=>bindName X.env x v] [u2,u1] >>= fun _=>pure Flow.next) _ _ _
 refine wpAny_bind (assignInOrder_cons (wpAny_bindName (jQ I3 hN hj (.inl hy) rw' (fun s2 I4=>?_) (.inr hy))))
 refine assignInOrder_cons (wpAny_bindName (jQ I4 hN hi (.inl hx) rv (fun s3 I5=>assignInOrder_nil (wpAny_pure ?_)) (.inr hx)))
 rw [List.set_comm _ _ (Ne.symm hij)] at I5
 exact ⟨_,H1,I5,q1⟩
end
section
variable {X:Cx}{pos:Pos}
def Fw (c:TT) (tb:TS):TS:=fun D σ H=>∃W:Nat→St→Hp→Prop,(∃m,W m σ H)∧∀m σ H,W m σ H→
 c σ H fun b H1=>if b=true then ∃N:St→Hp→Prop,(∀σ' H',N σ' H'→∃m',m'<m∧W m' σ' H')∧tb { D with nx:=N,ct:=N,bk:=D.nx } σ H1 else D.nx σ H1
theorem u7 {c:Expr}{body:List Stmt}{tc:TT}{tb:TS} (hp:PassesOwn (model X.prog X.w) X.A X.env X.xe) (hc:PT X c tc) (hb:oP X body tb):PS X (.While c body [] pos) (Fw tc tb):=by
 intro pins s σ H D I h
 obtain ⟨W,⟨m0,w0⟩,turn⟩:=h
 refine wpAny_While (codeAny_whileLoop (fun n s'=>∃σ' H',aj X pins σ' H' s'∧W n σ' H') ?_ m0 ⟨σ,H,I,w0⟩)
 rintro n s1 ⟨σ1,H1,I1,w1⟩
 refine wpAny_passesOwn hp (aR (hc pins s1 σ1 H1 _ I1 (turn n σ1 H1 w1)) fun b s2 ⟨H2,I2,q2⟩=>?_)
 cases b with
 | true=>
  obtain ⟨N,hN,q2⟩:=q2
  rw [if_pos rfl]
  refine wpAny_passesOwn hp (aR (hb pins s2 σ1 H2 _ I2 q2) fun f s3 q3=>?_)
  cases f with
  | next=>
   obtain ⟨σ3,H3,I3,n3⟩:=q3
   obtain ⟨m',hm,w3⟩:=hN σ3 H3 n3
   exact ⟨m',hm,σ3,H3,I3,w3⟩
  | cont=>
   obtain ⟨σ3,H3,I3,n3⟩:=q3
   obtain ⟨m',hm,w3⟩:=hN σ3 H3 n3
   exact ⟨m',hm,σ3,H3,I3,w3⟩
  | brk=>exact q3
  | ret v=>exact q3
 | false=>
  rw [if_neg Bool.false_ne_true]
  exact wpAny_execs_nil ⟨σ1,H2,I2,q2⟩
end
structure It where
 go:Nat→Hp→Prop
 yld:Nat→Hp→V→Hp→Prop
 stop:Nat→Hp→Prop
def oB (X:Cx) (pins:List (Addr×Obj)) (H:Hp) (b:Addr):Prop:=
 H b=none∧b≠X.env.locals∧b∉X.fs∧(b∈X.ex∨X.s₀.heap.objs.size≤b)∧(∀x c,X.env.cells.lookup x=some c→c≠b)∧∀p∈X.pn++pins,p.1≠b
theorem aj.fpOk {X:Cx}{pins:List (Addr×Obj)}{σ:St}{H H':Hp}{s:Shared}{b:Addr} (I:aj X pins σ H s) (hb:s.heap.objs.size≤b) (hn:H' b=none):oB X pins H' b:=by
 refine ⟨hn,Nat.ne_of_gt (Nat.lt_of_lt_of_le I.lt hb),I.nofs hb,.inr (Nat.le_trans I.sz hb),fun x c e z=>?_,fun p hp z=>?_⟩
 ·obtain ⟨v,q⟩:=I.cell x c e
  exact absurd (Nat.lt_of_lt_of_le q.lt (by rw [z];exact hb)) (Nat.lt_irrefl _)
 ·exact absurd (Nat.lt_of_lt_of_le (Heap.lt_size (I.pin p hp).1) (by rw [z];exact hb)) (Nat.lt_irrefl _)
structure uQ (P:Program) (w:World) (K:PySem.W.Frag) (tg:Expr) (J:It) (fp:List Addr) (it:Addr) (tn:Nat→Heap→Prop):Prop where
 mem:it∈fp
 obj:∀i h,tn i h→∀b∈fp,∃o,h.get? b=some o∧∀v,o.data≠.cell v
 keep:∀i h h',tn i h→(∀b∈fp,∀o,h.get? b=some o→h'.get? b=some o)→tn i h'
 item:∀(X:Cx),X.prog=P→X.w=w→X.K=K→X.calm=true→∀(i:Nat) (pins:List (Addr×Obj)) (s:Shared) (σ:St) (H:Hp) (E:Value→Shared→Prop),aj X pins σ H s→(∀b∈fp,oB X pins H b)→tn i s.heap→J.go i H→
  wpAny (model P w) X.A (pyNext (.ref it)) (fun r s1=>∃u,r=some u∧
   wpAny (model P w) X.A (letOwnedTupleGo tg (.ref it) u) (fun _ s2=>bX fun x H'=>aj X pins σ H' s2∧bh x u∧J.yld i H x H'∧tn (i+1) s2.heap∧∀b∈fp,H' b=none) E s1) E s
 done:∀(X:Cx),X.prog=P→X.w=w→X.K=K→X.calm=true→∀(i:Nat) (pins:List (Addr×Obj)) (s:Shared) (σ:St) (H:Hp) (E:Value→Shared→Prop),aj X pins σ H s→(∀b∈fp,oB X pins H b)→tn i s.heap→J.stop i H→
  wpAny (model P w) X.A (pyNext (.ref it)) (fun r s1=>r=none∧aj X pins σ H s1) E s
 self:∀(A:Around) (i:Nat) (s:Shared) (Q:Value→Shared→Prop) (E:Value→Shared→Prop),tn i s.heap→Q (.ref it) s→wpAny (model P w) A (pyIter (.ref it)) Q E s
abbrev TI:=St→Hp→(It→Hp→Prop)→Prop
def IH (X:Cx) (pins:List (Addr×Obj)) (σ:St) (tg:Expr) (R:It→Hp→Prop) (itv:Value) (s2:Shared):Prop:=
 xM fun (it:Addr) (fp:List Addr) (tn:Nat→Heap→Prop) (J:It) (H':Hp)=>itv=.ref it∧aj X pins σ H' s2∧uQ X.prog X.w X.K tg J fp it tn∧tn 0 s2.heap∧(∀b∈fp,oB X pins H' b)∧R J H'
def PI (X:Cx) (tg iter:Expr) (wi:TI):Prop:=
 ∀(pins:List (Addr×Obj)) (s:Shared) (σ:St) (H:Hp) (R:It→Hp→Prop),aj X pins σ H s→wi σ H R→
   wpAny (model X.prog X.w) X.A (eval iter X.env) (fun v s1=>wpAny (model X.prog X.w) X.A (pyIter v) (IH X pins σ tg R) X.xe s1) X.xe s
theorem zV {M:Model}{A:Around}{E:Value→Shared→Prop}{s:Shared}{tg:Expr}{it:Addr}{u:Value}{o:Obj}{n:String}{vs:Array Value}{Q:Unit→Shared→Prop} (ho:s.heap.get? it=some o) (hc:o.cls=.type n) (hd:o.data=.fields vs)
 (hn:["enumerate", "zip", "dict_itemiterator", "dict_reverseitemiterator", "odict_iterator", "itertools.zip_longest", "itertools.pairwise"].contains n=false) (hQ:Q () s):wpAny M A (letOwnedTupleGo tg (.ref it) u) Q E s:=by
 unfold letOwnedTupleGo
 cases tg <;> first
  | exact wpAny_pure hQ
  | (cases u <;> first
   | exact wpAny_pure hQ
   | (refine wpAny_bind (wpAny_load ho ?_)
      rw [hc,hd]
      show wpAny M A (if (["enumerate", "zip", "dict_itemiterator", "dict_reverseitemiterator", "odict_iterator", "itertools.zip_longest", "itertools.pairwise"].contains n && vs[0]?==some (rawInt _))=true then _ else _) Q E s
      rw [if_neg (by intro h;rw [hn,Bool.false_and] at h;cases h)]
      exact wpAny_pure hQ))
def AH (K:PySem.W.Frag) (a:Addr):It:=
 ⟨fun i H=>bX fun xs x=>aA K H a xs∧xs[i]?=some x,fun i H x H'=>H'=H∧∀xs,aA K H a xs→xs[i]?=some x,fun i H=>∃xs,aA K H a xs∧xs.length≤i⟩
def yl (K:PySem.W.Frag) (a:Addr):It:=
 ⟨fun i H=>bX fun xs x=>ae K H a xs∧xs[i]?=some x,fun i H x H'=>H'=H∧∀xs,ae K H a xs→xs[i]?=some x,fun i H=>∃xs,ae K H a xs∧xs.length≤i⟩
def zf (lo:Int) (n:Nat):It:=⟨fun i _=>i<n,fun i H x H'=>H'=H∧x=.int (lo+i),fun i _=>n≤i⟩
theorem AQ {P:Program}{w:World}{K:PySem.W.Frag}{tg:Expr} (a it:Addr):uQ P w K tg (AH K a) [it] it (fun i h=>h.IsListIter it a i) where
 mem:=by simp
 obj:=fun i h st b hb=>by
  have e:b=it:=by simpa using hb
  subst e
  obtain ⟨o,e,c,d⟩:=st
  exact ⟨o,e,fun v z=>by rw [d] at z;cases z⟩
 keep:=fun i h h' st k=>st.at fun o e=>k it (by simp) o e
 item:=by
  intro X hP hw hK hc i pins s σ H E I hf st hg
  subst hP hw hK
  obtain ⟨xs,x,hq,hx⟩:=hg
  obtain ⟨its,rv,p,hz⟩:=I.list hq
  obtain ⟨u,hu,ru⟩:=rv.get hx
  obtain ⟨f0,f1,f2,f3,f4,f5⟩:=hf it (by simp)
  refine wpAny_pyNext_list_item st p.isList (x:=u) (by simpa using hu) fun h' st' sb=>?_
  have I1:aj X pins σ H { s with heap:=h' }:=I.turned (t':=s.toks) (fun b o hb e=>(sb.2 b hb).trans e) f0 f1 f3 f4 f5
  obtain ⟨o,e,c,d⟩:=id st'
  exact ⟨u,rfl,zV (s:={ s with heap:=h' }) e c d (by decide) ⟨x,H,I1,ru,⟨rfl,fun ys hy=>by rw [I.list_inj hy hq];exact hx⟩,st',fun b hb=>(hf b hb).1⟩⟩
 done:=by
  intro X hP hw hK hc i pins s σ H E I hf st hg
  subst hP hw hK
  obtain ⟨xs,hq,hx⟩:=hg
  obtain ⟨its,rv,p,hz⟩:=I.list hq
  obtain ⟨f0,f1,f2,f3,f4,f5⟩:=hf it (by simp)
  have hl:=rv.length
  exact wpAny_pyNext_list_end (I.ok.hd hc) st p.isList (by simp;trivial) fun h' eb=>⟨rfl,I.turned (t':=s.toks) (fun b o hb e=>eb b o hb e) f0 f1 f3 f4 f5⟩
 self:=fun _ _ _ _ _ st h=>wpAny_pyIter_listiter st h
theorem zX {P:Program}{w:World}{K:PySem.W.Frag}{tg:Expr} (a it:Addr):uQ P w K tg (yl K a) [it] it (fun i h=>h.IsTupleIter it a i) where
 mem:=by simp
 obj:=fun i h st b hb=>by
  have e:b=it:=by simpa using hb
  subst e
  obtain ⟨o,e,c,d⟩:=st
  exact ⟨o,e,fun v z=>by rw [d] at z;cases z⟩
 keep:=fun i h h' st k=>st.at fun o e=>k it (by simp) o e
 item:=by
  intro X hP hw hK hc i pins s σ H E I hf st hg
  subst hP hw hK
  obtain ⟨xs,x,hq,hx⟩:=hg
  obtain ⟨its,rv,p,hz⟩:=I.tuple hq
  obtain ⟨u,hu,ru⟩:=rv.get hx
  obtain ⟨f0,f1,f2,f3,f4,f5⟩:=hf it (by simp)
  refine wpAny_pyNext_tuple_item st (show s.heap.IsTuple a its.toArray from p) (x:=u) (by simpa using hu) fun h' st' sb=>?_
  have I1:aj X pins σ H { s with heap:=h' }:=I.turned (t':=s.toks) (fun b o hb e=>(sb.2 b hb).trans e) f0 f1 f3 f4 f5
  obtain ⟨o,e,c,d⟩:=id st'
  exact ⟨u,rfl,zV (s:={ s with heap:=h' }) e c d (by decide) ⟨x,H,I1,ru,⟨rfl,fun ys hy=>by rw [I.tuple_inj hy hq];exact hx⟩,st',fun b hb=>(hf b hb).1⟩⟩
 done:=by
  intro X hP hw hK hc i pins s σ H E I hf st hg
  subst hP hw hK
  obtain ⟨xs,hq,hx⟩:=hg
  obtain ⟨its,rv,p,hz⟩:=I.tuple hq
  obtain ⟨f0,f1,f2,f3,f4,f5⟩:=hf it (by simp)
  have hl:=rv.length
  exact wpAny_pyNext_tuple_end (I.ok.hd hc) st (show s.heap.IsTuple a its.toArray from p) (by simp;trivial) fun h' eb=>⟨rfl,I.turned (t':=s.toks) (fun b o hb e=>eb b o hb e) f0 f1 f3 f4 f5⟩
 self:=fun _ _ _ _ _ st h=>wpAny_pyIter_tupleiter st h
theorem Ay {P:Program}{w:World}{K:PySem.W.Frag}{tg:Expr} (it:Addr) (lo:Int) (n:Nat):uQ P w K tg (zf lo n) [it] it (fun i h=>IsRangeIter h it (lo+(i:Nat)*1) ((n:Int) - (i:Nat)) 1) where
 mem:=by simp
 obj:=fun i h st b hb=>by
  have e:b=it:=by simpa using hb
  subst e
  exact ⟨_,st,fun v z=>by
   have z':Data.fields _=Data.cell v:=z
   cases z'⟩
 keep:=fun i h h' st k=>k it (by simp) _ st
 item:=by
  intro X hP hw hK hc i pins s σ H E I hf st hg
  subst hP hw hK
  obtain ⟨f0,f1,f2,f3,f4,f5⟩:=hf it (by simp)
  have W:=Walks.range (prog:=X.prog) (w:=X.w) (I.ok.hd hc) it lo 1 n
  refine W.item i s _ _ hg st fun v h' tk hv st' kk=>?_
  obtain ⟨t,rfl⟩:=hv
  have I1:aj X pins σ H { s with heap:=h',toks:=tk }:=I.turned (fun b o hb e=>kk b o (by simpa using hb) e) f0 f1 f3 f4 f5
  refine ⟨(),zV (s:={ s with heap:=h',toks:=tk }) (n := "range_iterator") st' rfl rfl (by decide) ⟨.int (lo+i),H,I1,⟨t,?_⟩,⟨rfl,rfl⟩,st',fun b hb=>(hf b hb).1⟩⟩
  rw [Int.mul_one]
 done:=by
  intro X hP hw hK hc i pins s σ H E I hf st hg
  subst hP hw hK
  obtain ⟨f0,f1,f2,f3,f4,f5⟩:=hf it (by simp)
  exact wpAny_pyNext_range_end (I.ok.hd hc) st (by have:n≤i:=hg;trivial) fun h' eb=>⟨rfl,I.turned (t':=s.toks) (fun b o hb e=>eb b o hb e) f0 f1 f3 f4 f5⟩
 self:=fun _ _ _ _ _ st h=>wpAny_pyIter_rangeiter st h
section
variable {X:Cx}{tg:Expr}
def Dj (K:PySem.W.Frag) (tl:TE):TI:=fun σ H R=>tl σ H fun x H1=>∃a,x=.ref a∧(∃xs,aA K H1 a xs)∧R (AH K a) H1
def FI (K:PySem.W.Frag) (tl:TE):TI:=fun σ H R=>tl σ H fun x H1=>∃a,x=.ref a∧(∃xs,ae K H1 a xs)∧R (yl K a) H1
theorem E1 {l:Expr}{tl:TE} (hl:PE X l tl):PI X tg l (Dj X.K tl):=by
 intro pins s σ H R I h
 refine aR (hl pins s σ H _ I h) fun v s1 ⟨x,H1,I1,r1,q1⟩=>?_
 obtain ⟨a,e,⟨xs,hq⟩,q⟩:=q1
 subst e
 cases r1
 obtain ⟨its,rv,p,hz⟩:=I1.list hq
 refine wpAny_pyIter_list p.isList ?_
 refine ⟨s1.heap.objs.size,[s1.heap.objs.size],_,_,H1,rfl,I1.kept (t':=s1.toks) fun b o e=>Heap.get?_push_of_some _ e,AQ a _,⟨_,Heap.get?_push_size _ rfl,rfl,rfl⟩,fun b hb=>?_,q⟩
 have e:b=s1.heap.objs.size:=by simpa using hb
 subst e
 exact I1.fpOk (Nat.le_refl _) (I1.hok.fresh (Nat.le_refl _))
theorem FF {l:Expr}{tl:TE} (hl:PE X l tl):PI X tg l (FI X.K tl):=by
 intro pins s σ H R I h
 refine aR (hl pins s σ H _ I h) fun v s1 ⟨x,H1,I1,r1,q1⟩=>?_
 obtain ⟨a,e,⟨xs,hq⟩,q⟩:=q1
 subst e
 cases r1
 obtain ⟨its,rv,p,hz⟩:=I1.tuple hq
 refine wpAny_pyIter_tuple (show s1.heap.IsTuple a its.toArray from p) ?_
 refine ⟨s1.heap.objs.size,[s1.heap.objs.size],_,_,H1,rfl,I1.kept (t':=s1.toks) fun b o e=>Heap.get?_push_of_some _ e,zX a _,⟨_,Heap.get?_push_size _ rfl,rfl,rfl⟩,fun b hb=>?_,q⟩
 have e:b=s1.heap.objs.size:=by simpa using hb
 subst e
 exact I1.fpOk (Nat.le_refl _) (I1.hok.fresh (Nat.le_refl _))
theorem BX {pins:List (Addr×Obj)}{σ:St}{H:Hp}{s:Shared}{R:It→Hp→Prop}{E:Value→Shared→Prop}{lo hi:Int}{t u v:Tok}{tk:Nat} (I:aj X pins σ H s) (h1:-(2 ^ 62)≤lo) (h2:lo<2 ^ 62) (h3:-(2 ^ 62)≤hi) (h4:hi<2 ^ 62)
 (q:R (zf lo (hi - lo).toNat) H):wpAny (model X.prog X.w) X.A (pyIter (.ref s.heap.objs.size)) (IH X pins σ tg R) E { s with heap:=s.heap.push { cls:=.type "range",data:=.fields #[.int lo t,.int hi u,.int 1 v] },toks:=tk }:=by
 refine wpAny_pyIter_range (IsRange.new ..) (small_one h1 h2 h3 h4) ?_
 have I1:aj X pins σ H { s with heap:=s.heap.push { cls:=.type "range",data:=.fields #[.int lo t,.int hi u,.int 1 v] },toks:=tk }:=I.kept fun b o e=>Heap.get?_push_of_some _ e
 refine ⟨(s.heap.push { cls:=.type "range",data:=.fields #[.int lo t,.int hi u,.int 1 v] }).objs.size,[(s.heap.push { cls:=.type "range",data:=.fields #[.int lo t,.int hi u,.int 1 v] }).objs.size],_,_,H,rfl,
  I1.kept (t':=tk) fun b o e=>Heap.get?_push_of_some _ e,Ay _ lo (hi - lo).toNat,?_,fun b hb=>?_,q⟩
 ·have e1:lo+((0:Nat):Int)*1=lo:=by simp
  have e2:(((hi - lo).toNat:Nat):Int) - ((0:Nat):Int)=Builtin.Range.rangeSize lo hi 1:=by rw [rangeSize_one];split <;> trivial
  show IsRangeIter _ _ (lo+((0:Nat):Int)*1) ((((hi - lo).toNat:Nat):Int) - ((0:Nat):Int)) 1
  rw [e1,e2]
  exact Heap.get?_push_size _ rfl
 ·have e:b=(s.heap.push { cls:=.type "range",data:=.fields #[.int lo t,.int hi u,.int 1 v] }).objs.size:=by simpa using hb
  subst e
  exact I1.fpOk (Nat.le_refl _) (I1.hok.fresh (Nat.le_refl _))
def Im (ta:TA):TI:=fun σ H R=>ta σ H fun vs H1=>∃j:Int,vs=[.int j]∧-(2 ^ 62)≤j∧j<2 ^ 62∧R (zf 0 j.toNat) H1
theorem cb {a:Expr}{ta:TA}{p pos:Pos} (hg:Gl X "range") (hm:X.mg "range" = none) (ha:PA X [a] ta) (hs:starEach [a] X.env=[(false,eval a X.env)]:=by rfl):PI X tg (.Call (.Name "range" p) [a] [] pos) (Im ta):=by
 intro pins s σ H R I h
 refine Call_ (nK I hg hm boot_range (PyProof.Rows.callWith_type1 (aR (ha pos pins s σ H _ I h) fun us s1 ⟨vs,H1,I1,r1,q1⟩=>?_) hs rfl))
 obtain ⟨j,e,q1,q2,q⟩:=q1
 subst e
 cases r1 with
 | cons r rr=>
  cases rr
  obtain ⟨t,rfl⟩:=r
  exact call_range_1 (BX I1 (by trivial) (by trivial) q1 q2 (by simpa using q))
def Jg (wi:TI) (g:TG) (tb:TS):TS:=fun D σ H=>wi σ H fun J H1=>∃W:Nat→Nat→St→Hp→Prop,(∃m,W 0 m σ H1)∧∀i m σ H,W i m σ H→
 (J.stop i H∧D.nx σ H)∨(J.go i H∧∃N:St→Hp→Prop,(∀σ' H',N σ' H'→∃m',m'<m∧W (i+1) m' σ' H')∧∀x H',J.yld i H x H'→g x σ H' fun σ2 H2=>tb { D with nx:=N,ct:=N,bk:=D.nx } σ2 H2)
def sS (fp:List Addr) (h:Heap):List (Addr×Obj):=fp.filterMap fun b=>(h.get? b).map fun o=>(b,o)
theorem mW {fp:List Addr}{h:Heap}{b:Addr}{o:Obj} (hb:b∈fp) (e:h.get? b=some o):(b,o)∈sS fp h:=List.mem_filterMap.mpr ⟨b,hb,by rw [e];rfl⟩
theorem BE {fp:List Addr}{h:Heap}{p:Addr×Obj} (hp:p∈sS fp h):p.1∈fp∧h.get? p.1=some p.2:=by
 obtain ⟨b,hb,e⟩:=List.mem_filterMap.mp hp
 cases q:h.get? b with
 | none=>rw [q] at e;cases e
 | some o=>
  rw [q] at e
  have e':(b,o)=p:=Option.some.inj e
  subst e'
  exact ⟨hb,q⟩
theorem aj.pinned {pins:List (Addr×Obj)}{σ:St}{H:Hp}{s:Shared}{fp:List Addr} (I:aj X pins σ H s) (hf:∀b∈fp,oB X pins H b) (ho:∀b∈fp,∃o,s.heap.get? b=some o∧∀v,o.data≠.cell v):aj X (pins++sS fp s.heap) σ H s:=
 I.pins_of fun p hp=>(List.mem_append.mp hp).elim (fun z=>I.pin p (List.mem_append_right _ z)) fun z=>by
  obtain ⟨hb,e⟩:=BE z
  obtain ⟨f0,f1,f2,_⟩:=hf p.1 hb
  obtain ⟨o,e',d⟩:=ho p.1 hb
  rw [e] at e';cases e'
  exact ⟨e,f0,f1,f2,d⟩
theorem aj.unpinned {pins pl:List (Addr×Obj)}{σ:St}{H:Hp}{s:Shared} (I:aj X (pins++pl) σ H s):aj X pins σ H s:=I.pins_of fun p hp=>I.pin p (List.mem_append_right _ (List.mem_append_left _ hp))
theorem fe {iter:Expr}{body:List Stmt}{wi:TI}{g:TG}{tb:TS}{pos:Pos} (hp:PassesOwn (model X.prog X.w) X.A X.env X.xe) (hc:X.calm=true) (hi:PI X tg iter wi) (hg:PG X tg g) (hb:oP X body tb)
 (hs:∀x,foldedSetIterable iter X.env x=pure x:=by intro _;rfl):PS X (.For tg iter body [] pos) (Jg wi g tb):=by
 intro pins s σ H D I h
 refine wpAny_For (aR (hi pins s σ H _ I h) fun v s1 h1=>aR h1 fun itv s2 h2=>?_) hs
 obtain ⟨it,fp,tn,J,H2,e,I2,T,st2,f2,W,⟨m0,w0⟩,turn⟩:=h2
 subst e
 have stat:∀{H':Hp},(∀b∈fp,H' b=none)→∀b∈fp,oB X pins H' b:=fun hn b hb=>⟨hn b hb,(f2 b hb).2⟩
 refine codeAny_forLoop_any (fun n s'=>∃i σ' H',aj X pins σ' H' s'∧tn i s'.heap∧(∀b∈fp,H' b=none)∧W i n σ' H') ?_ m0 ⟨0,σ,H2,I2,st2,fun b hb=>(f2 b hb).1,w0⟩
 rintro n s3 ⟨i,σ3,H3,I3,st3,fr3,w3⟩
 rcases turn i n σ3 H3 w3 with ⟨stop,qn⟩ | ⟨go,N,hN,step⟩
 ·refine wpAny_passesOwn hp (aR (T.done X rfl rfl rfl hc i pins s3 σ3 H3 X.xe I3 (stat fr3) st3 stop) fun r s4 ⟨hr,I4⟩=>?_)
  subst hr
  exact wpAny_execs_nil ⟨σ3,H3,I4,qn⟩
 ·refine wpAny_passesOwn hp (aR (T.item X rfl rfl rfl hc i pins s3 σ3 H3 X.xe I3 (stat fr3) st3 go) fun r s4 ⟨u,hr,h4⟩=>?_)
  subst hr
  refine wpAny_passesOwn hp (aR h4 fun _ s5 ⟨x,H5,I5,r5,y5,st5,fr5⟩=>?_)
  have I5':=I5.pinned (stat fr5) (T.obj _ _ st5)
  refine wpAny_passesOwn hp (aR (hg _ s5 σ3 H5 x u _ I5' r5 (step x H5 y5)) fun _ s6 ⟨σ6,H6,I6,q6⟩=>?_)
  refine wpAny_passesOwn hp (aR (hb _ s6 σ6 H6 _ I6 q6) fun f s7 q7=>?_)
  have again:∀{σ7:St}{H7:Hp},aj X (pins++sS fp s5.heap) σ7 H7 s7→N σ7 H7→∃m,m<n∧∃i σ' H',aj X pins σ' H' s7∧tn i s7.heap∧(∀b∈fp,H' b=none)∧W i m σ' H':=fun {σ7 H7} I7 n7=>by
   obtain ⟨m',hm,w7⟩:=hN σ7 H7 n7
   refine ⟨m',hm,i+1,σ7,H7,I7.unpinned,T.keep _ _ _ st5 fun b hb o e=>(I7.pin (b,o) (List.mem_append_right _ (List.mem_append_right _ (mW hb e)))).1,fun b hb=>?_,w7⟩
   obtain ⟨o,e,d⟩:=T.obj _ _ st5 b hb
   exact (I7.pin (b,o) (List.mem_append_right _ (List.mem_append_right _ (mW hb e)))).2.1
  cases f with
  | next=>obtain ⟨σ7,H7,I7,n7⟩:=q7;exact again I7 n7
  | cont=>obtain ⟨σ7,H7,I7,n7⟩:=q7;exact again I7 n7
  | brk=>obtain ⟨σ7,H7,I7,q7⟩:=q7;exact ⟨σ7,H7,I7.unpinned,q7⟩
  | ret v=>obtain ⟨x7,σ7,H7,I7,r7,q7⟩:=q7;exact ⟨x7,σ7,H7,I7.unpinned,r7,q7⟩
end
theorem C8 {K:PySem.W.Frag}{a:Addr}{xs:List V}{g:TG}{tb:TS}{D:fV}{σ:St}{H:Hp} (Pv:Nat→St→Hp→Prop) (h0:Pv 0 σ H) (hl:∀i σ H,i≤xs.length→Pv i σ H→aA K H a xs)
 (hs:∀i x σ H,xs[i]?=some x→Pv i σ H→g x σ H fun σ2 H2=>tb { D with nx:=Pv (i+1),ct:=Pv (i+1),bk:=D.nx } σ2 H2) (hd:∀σ H,Pv xs.length σ H→D.nx σ H) :
 ∃W:Nat→Nat→St→Hp→Prop,(∃m,W 0 m σ H)∧∀i m σ H,W i m σ H→
  ((AH K a).stop i H∧D.nx σ H)∨((AH K a).go i H∧∃N:St→Hp→Prop,(∀σ' H',N σ' H'→∃m',m'<m∧W (i+1) m' σ' H')∧∀x H',(AH K a).yld i H x H'→g x σ H' fun σ2 H2=>tb { D with nx:=N,ct:=N,bk:=D.nx } σ2 H2):=by
 refine ⟨fun i m σ H=>m=xs.length - i∧i≤xs.length∧Pv i σ H,⟨xs.length,by simp,Nat.zero_le _,h0⟩,?_⟩
 rintro i m σ H ⟨rfl,hi,p⟩
 have q:=hl i σ H hi p
 by_cases hlt:i<xs.length
 ·refine .inr ⟨⟨xs,xs[i],q,by simp [hlt]⟩,Pv (i+1),fun σ' H' p'=>⟨xs.length - (i+1),by trivial,rfl,hlt,p'⟩,fun x H' y=>?_⟩
  obtain ⟨e,y⟩:=y
  subst e
  exact hs i x σ _ (y xs q) p
 ·have e:i=xs.length:=by trivial
  subst e
  exact .inl ⟨⟨xs,q,Nat.le_refl _⟩,hd σ H p⟩
theorem DQ {K:PySem.W.Frag}{a:Addr}{xs:List V}{g:TG}{tb:TS}{D:fV}{σ:St}{H:Hp} (Pv:Nat→St→Hp→Prop) (h0:Pv 0 σ H) (hl:∀i σ H,i≤xs.length→Pv i σ H→ae K H a xs)
 (hs:∀i x σ H,xs[i]?=some x→Pv i σ H→g x σ H fun σ2 H2=>tb { D with nx:=Pv (i+1),ct:=Pv (i+1),bk:=D.nx } σ2 H2) (hd:∀σ H,Pv xs.length σ H→D.nx σ H) :
 ∃W:Nat→Nat→St→Hp→Prop,(∃m,W 0 m σ H)∧∀i m σ H,W i m σ H→
  ((yl K a).stop i H∧D.nx σ H)∨((yl K a).go i H∧∃N:St→Hp→Prop,(∀σ' H',N σ' H'→∃m',m'<m∧W (i+1) m' σ' H')∧∀x H',(yl K a).yld i H x H'→g x σ H' fun σ2 H2=>tb { D with nx:=N,ct:=N,bk:=D.nx } σ2 H2):=by
 refine ⟨fun i m σ H=>m=xs.length - i∧i≤xs.length∧Pv i σ H,⟨xs.length,by simp,Nat.zero_le _,h0⟩,?_⟩
 rintro i m σ H ⟨rfl,hi,p⟩
 have q:=hl i σ H hi p
 by_cases hlt:i<xs.length
 ·refine .inr ⟨⟨xs,xs[i],q,by simp [hlt]⟩,Pv (i+1),fun σ' H' p'=>⟨xs.length - (i+1),by trivial,rfl,hlt,p'⟩,fun x H' y=>?_⟩
  obtain ⟨e,y⟩:=y
  subst e
  exact hs i x σ _ (y xs q) p
 ·have e:i=xs.length:=by trivial
  subst e
  exact .inl ⟨⟨xs,q,Nat.le_refl _⟩,hd σ H p⟩
theorem ir {lo:Int}{n:Nat}{g:TG}{tb:TS}{D:fV}{σ:St}{H:Hp} (Pv:Nat→St→Hp→Prop) (h0:Pv 0 σ H)
 (hs:∀i σ H,i<n→Pv i σ H→g (.int (lo+i)) σ H fun σ2 H2=>tb { D with nx:=Pv (i+1),ct:=Pv (i+1),bk:=D.nx } σ2 H2) (hd:∀σ H,Pv n σ H→D.nx σ H) :
 ∃W:Nat→Nat→St→Hp→Prop,(∃m,W 0 m σ H)∧∀i m σ H,W i m σ H→
  ((zf lo n).stop i H∧D.nx σ H)∨((zf lo n).go i H∧∃N:St→Hp→Prop,(∀σ' H',N σ' H'→∃m',m'<m∧W (i+1) m' σ' H')∧∀x H',(zf lo n).yld i H x H'→g x σ H' fun σ2 H2=>tb { D with nx:=N,ct:=N,bk:=D.nx } σ2 H2):=by
 refine ⟨fun i m σ H=>m=n - i∧i≤n∧Pv i σ H,⟨n,by simp,Nat.zero_le _,h0⟩,?_⟩
 rintro i m σ H ⟨rfl,hi,p⟩
 by_cases hlt:i<n
 ·refine .inr ⟨hlt,Pv (i+1),fun σ' H' p'=>⟨n - (i+1),by trivial,rfl,hlt,p'⟩,fun x H' y=>?_⟩
  obtain ⟨e,y⟩:=y
  subst e y
  exact hs i σ _ hlt p
 ·have e:i=n:=by trivial
  subst e
  exact .inl ⟨Nat.le_refl _,hd σ H p⟩
abbrev R2:=V→V→Hp→VK→Prop
def cz (X:Cx) (f:Value→Value→Sem Value) (r:R2):Prop:=
 ∀(pins:List (Addr×Obj)) (s:Shared) (σ:St) (H:Hp) (x y:V) (v u:Value) (Q:VK),aj X pins σ H s→bh x v→bh y u→r x y H Q→
   wpAny (model X.prog X.w) X.A (f v u) (EP X pins σ Q) X.xe s
def FW (X:Cx) (f:Value→Sem Value) (r:V→Hp→VK→Prop):Prop:=
 ∀(pins:List (Addr×Obj)) (s:Shared) (σ:St) (H:Hp) (x:V) (v:Value) (Q:VK),aj X pins σ H s→bh x v→r x H Q→
   wpAny (model X.prog X.w) X.A (f v) (EP X pins σ Q) X.xe s
def gL (X:Cx) (f:Value) (r:List V→Hp→VK→Prop):Prop:=
 ∀(pins:List (Addr×Obj)) (s:Shared) (σ:St) (H:Hp) (xs:List V) (us:List Value) (Q:VK),aj X pins σ H s→aE xs us→r xs H Q→
   wpAny (model X.prog X.w) X.A (call f us) (EP X pins σ Q) X.xe s
def Dv (r:R2) (ta tb:TE):TE:=fun σ H Q=>ta σ H fun x H1=>tb σ H1 fun y H2=>r x y H2 Q
def JB (r:V→Hp→VK→Prop) (ta:TE):TE:=fun σ H Q=>ta σ H fun x H1=>r x H1 Q
inductive JE (C:Int→Int→Prop) (g:Int→Int→V) (x:V) (y:V) (H:Hp) (Q:VK):Prop
 | mk (i:_) (j:_) (h0:x=.int i) (h1:y=.int j) (h2:C i j) (h3:Q (g i j) H)
def rI (C:Int→Int→Prop) (g:Int→Int→V):R2:=fun x y H Q=>JE C g x y H Q
inductive Jj (g:Int→Int→V) (x:V) (y:V) (H:Hp) (Q:VK):Prop
 | mk (i:_) (j:_) (h0:x=.int i) (h1:y=.int j) (h2:Q (g i j) H)
def xi (g:Int→Int→V):R2:=fun x y H Q=>Jj g x y H Q
def rU (g:Int→V):V→Hp→VK→Prop:=fun x H Q=>FZ x fun i=>Q (g i) H
section
variable {X:Cx}{a b c:Expr}{ta tb tc:TE}{pos:Pos}
theorem CL (ha:PE X a ta) (hb:PE X b tb) {pins:List (Addr×Obj)}{s:Shared}{σ:St}{H:Hp}{R:V→V→Hp→Prop} (I:aj X pins σ H s)
 (h:ta σ H fun x H1=>tb σ H1 fun y H2=>R x y H2) {Q:Value→Shared→Prop}{f:Value→Value→Sem Value}
 (hf:∀v u s2 x y H2,aj X pins σ H2 s2→bh x v→bh y u→R x y H2→wpAny (model X.prog X.w) X.A (f v u) Q X.xe s2) :
 wpAny (model X.prog X.w) X.A (eval a X.env) (fun v s₁=>wpAny (model X.prog X.w) X.A (eval b X.env) (fun u s₂=>wpAny (model X.prog X.w) X.A (f v u) Q X.xe s₂) X.xe s₁) X.xe s:=by
 refine aR (ha pins s σ H _ I h) fun v s1 ⟨x,H1,I1,r1,q1⟩=>?_
 refine aR (hb pins s1 σ H1 _ I1 q1) fun u s2 ⟨y,H2,I2,r2,q2⟩=>?_
 exact hf v u s2 x y H2 I2 r1 r2 q2
theorem am {op:Operator}{r:R2} (ho:cz X (binaryOp op) r) (ha:PE X a ta) (hb:PE X b tb):PE X (.BinOp a op b pos) (Dv r ta tb):=by
 intro pins s σ H Q I h
 exact wpAny_BinOp (CL ha hb I h fun v u s2 x y H2 I2 rx ry q=>ho pins s2 σ H2 x y v u Q I2 rx ry q)
theorem cG {op:UnaryOp}{r:V→Hp→VK→Prop} (ho:FW X (unaryOp op) r) (ha:PE X a ta):PE X (.UnaryOp op a pos) (JB r ta):=by
 intro pins s σ H Q I h
 exact UnaryOp_ (aR (ha pins s σ H _ I h) fun v s1 ⟨x,H1,I1,r1,q1⟩=>ho pins s1 σ H1 x v Q I1 r1 q1)
theorem wV {f:Value→Value→Sem Value}{C:Int→Int→Prop}{g:Int→Int→Int}
 (rule:∀(i j:Int) (t u:Tok) (s:Shared) (Q:Value→Shared→Prop) (E:Value→Shared→Prop),C i j→Q (.int (g i j) s.toks) { s with toks:=s.toks+1 }→wpAny (model X.prog X.w) X.A (f (.int i t) (.int j u)) Q E s) :
 cz X f (rI C fun i j=>.int (g i j)):=by
 intro pins s σ H x y v u Q I rx ry h
 obtain ⟨i,j,rfl,rfl,hc,q⟩:=h
 obtain ⟨t,rfl⟩:=rx
 obtain ⟨t',rfl⟩:=ry
 exact rule i j t t' s _ _ hc ⟨.int (g i j),H,I.tok _,⟨()⟩,q⟩
theorem Gh {f:Value→Value→Sem Value}{g:Int→Int→Int}
 (rule:∀(i j:Int) (t u:Tok) (s:Shared) (Q:Value→Shared→Prop) (E:Value→Shared→Prop),Q (.int (g i j) s.toks) { s with toks:=s.toks+1 }→wpAny (model X.prog X.w) X.A (f (.int i t) (.int j u)) Q E s) :
 cz X f (xi fun i j=>.int (g i j)):=by
 intro pins s σ H x y v u Q I rx ry h
 obtain ⟨i,j,rfl,rfl,q⟩:=h
 obtain ⟨t,rfl⟩:=rx
 obtain ⟨t',rfl⟩:=ry
 exact rule i j t t' s _ _ ⟨.int (g i j),H,I.tok _,⟨()⟩,q⟩
theorem zQ {f:Value→Value→Sem Value}{g:Int→Int→Bool}
 (rule:∀(i j:Int) (t u:Tok) (s:Shared) (Q:Value→Shared→Prop) (E:Value→Shared→Prop),Q (.bool (g i j)) s→wpAny (model X.prog X.w) X.A (f (.int i t) (.int j u)) Q E s) :
 cz X f (xi fun i j=>.bl (g i j)):=by
 intro pins s σ H x y v u Q I rx ry h
 obtain ⟨i,j,rfl,rfl,q⟩:=h
 obtain ⟨t,rfl⟩:=rx
 obtain ⟨t',rfl⟩:=ry
 exact rule i j t t' s _ _ ⟨.bl (g i j),H,I,rfl,q⟩
def IZ (i j:Int):Prop:=0<j∧j<1073741824
def Jt (i j:Int):Prop:=0≤j∧j≤1000000∧i.natAbs<2 ^ 64
def C0 (i j:Int):Prop:=(-(2 ^ 64)<i∧i<2 ^ 64)∨(-(2 ^ 64)<j∧j<2 ^ 64)
theorem C0.ok {i j:Int} (h:C0 i j):IntMulOk i j:=by
 rcases h with ⟨h1,h2⟩ | ⟨h1,h2⟩
 ·exact .of_left (intBits_le_64 h1 h2)
 ·exact .of_right (intBits_le_64 h1 h2)
theorem bn:cz X (binaryOp .Add) (xi fun i j=>.int (i+j)):=Gh fun _ _ _ _ _ _ _ q=>add_int q
theorem eV:cz X (binaryOp .Sub) (xi fun i j=>.int (i - j)):=Gh fun _ _ _ _ _ _ _ q=>sub_int q
theorem kj:cz X (binaryOp .Mult) (rI C0 fun i j=>.int (i*j)):=wV fun _ _ _ _ _ _ _ hc q=>mul_int q hc.ok
theorem Fd:cz X (binaryOp .FloorDiv) (rI IZ fun i j=>.int (i / j)):=wV fun i j _ _ _ _ _ hc q=>by
 have h1:(0:Int)<j:=hc.1
 have h2:j<1073741824:=hc.2
 exact floordiv_int (by trivial) (by rw [Int.fdiv_eq_ediv_of_nonneg i (by trivial)];exact q) (.inl (PyProof.noPylong_small (by trivial)))
theorem fH:cz X (binaryOp .Mod) (rI (fun _ j=>0<j) fun i j=>.int (i % j)):=wV fun i j _ _ _ _ _ hc q=>by
 have h1:(0:Int)<j:=hc
 exact mod_int' (by trivial) (by rw [Int.fmod_eq_emod_of_nonneg i (by trivial)];exact q)
theorem DJ:cz X (binaryOp .Mod) (rI (fun _ j=>j≠0) fun i j=>.int (i.fmod j)):=wV fun _ _ _ _ _ _ _ hc q=>mod_int' hc q
theorem vW:cz X (binaryOp .Pow) (rI Jt fun i j=>.int (i ^ j.toNat)):=wV fun _ _ _ _ _ _ _ hc q=>pow_int_small hc.1 hc.2.1 hc.2.2 q
theorem JL {f:Value→Sem Value}{g:Int→Int}
 (rule:∀(i:Int) (t:Tok) (s:Shared) (Q:Value→Shared→Prop) (E:Value→Shared→Prop),Q (.int (g i) s.toks) { s with toks:=s.toks+1 }→wpAny (model X.prog X.w) X.A (f (.int i t)) Q E s) :
 FW X f (rU fun i=>.int (g i)):=by
 intro pins s σ H x v Q I rx h
 obtain ⟨i,rfl,q⟩:=h
 obtain ⟨t,rfl⟩:=rx
 exact rule i t s _ _ ⟨.int (g i),H,I.tok _,⟨()⟩,q⟩
theorem b4:FW X (unaryOp .USub) (rU fun i=>.int (-i)):=JL fun _ _ _ _ _ q=>neg_int q
end
def GO:V→V→Bool
 | .non,.non=>true | .non,.int _=>true | .int _,.non=>true | .non,.bl _=>true | .bl _,.non=>true | .non,.str _=>true | .str _,.non=>true
 | .int _,.int _=>true | .bl _,.bl _=>true | .str _,.str _=>true | .byt _,.byt _=>true
 | .int _,.str _=>true | .str _,.int _=>true | .bl _,.str _=>true | .str _,.bl _=>true
 | _,_=>false
def JK:R2:=fun x y H Q=>GO x y=true∧Q (.bl (decide (x=y))) H
def Jz:R2:=fun x y H Q=>GO x y=true∧Q (.bl (!decide (x=y))) H
theorem zg {i j:Int}:decide (V.int i=V.int j)=(i==j):=by
 rw [Bool.eq_iff_iff]
 simp
theorem AN {i j:Bool}:decide (V.bl i=V.bl j)=(i==j):=by
 rw [Bool.eq_iff_iff]
 simp
theorem zc {i j:Str}:decide (V.str i=V.str j)=(i==j):=by
 rw [Bool.eq_iff_iff]
 simp
theorem yY {i j:Array UInt8}:decide (V.byt i=V.byt j)=(i.toList==j.toList):=by
 rw [Bool.eq_iff_iff]
 cases i
 cases j
 simp
section
variable {X:Cx}{a b c:Expr}{ta tb tc:TE}{pos:Pos}
theorem bu {pins:List (Addr×Obj)}{σ:St}{H:Hp}{s:Shared}{Q:VK}{k k':Bool} (I:aj X pins σ H s) (q:Q (.bl k) H) (e:k=k'):EP X pins σ Q (.bool k') s:=by
 subst e
 exact ⟨.bl k,H,I,rfl,q⟩
theorem b7:cz X (compareOp .Eq) JK:=by
 intro pins s σ H x y v u Q I rx ry h
 obtain ⟨hs,q⟩:=h
 cases x with
 | non=>
  cases rx
  cases y with
  | non=>cases ry;exact PySem.EqNone.eq_none_none (bu I q (by simp))
  | bl j=>cases ry;exact PySem.EqNone.eq_none_bool (bu I q (by simp))
  | int j=>obtain ⟨t',rfl⟩:=ry;exact PySem.EqNone.eq_none_int (bu I q (by simp))
  | str j=>obtain ⟨t',rfl⟩:=ry;exact PySem.EqNone.eq_none_str (bu I q (by simp))
  | _=>exact absurd (show false=true from hs) Bool.false_ne_true
 | bl i=>
  cases rx
  cases y with
  | non=>cases ry;exact PySem.EqNone.eq_bool_none (bu I q (by simp))
  | bl j=>cases ry;exact eq_bool (bu I q AN)
  | str j=>obtain ⟨t',rfl⟩:=ry;exact PySem.EqMixed.eq_bool_str (bu I q (by simp))
  | _=>exact absurd (show false=true from hs) Bool.false_ne_true
 | int i=>
  obtain ⟨t,rfl⟩:=rx
  cases y with
  | non=>cases ry;exact PySem.EqNone.eq_int_none (bu I q (by simp))
  | int j=>obtain ⟨t',rfl⟩:=ry;exact eq_int (bu I q zg)
  | str j=>obtain ⟨t',rfl⟩:=ry;exact PySem.EqMixed.eq_int_str (bu I q (by simp))
  | _=>exact absurd (show false=true from hs) Bool.false_ne_true
 | str i=>
  obtain ⟨t,rfl⟩:=rx
  cases y with
  | non=>cases ry;exact PySem.EqNone.eq_str_none (bu I q (by simp))
  | bl j=>cases ry;exact PySem.EqMixed.eq_str_bool (bu I q (by simp))
  | int j=>obtain ⟨t',rfl⟩:=ry;exact PySem.EqMixed.eq_str_int (bu I q (by simp))
  | str j=>obtain ⟨t',rfl⟩:=ry;exact eq_str (bu I q zc)
  | _=>exact absurd (show false=true from hs) Bool.false_ne_true
 | byt i=>
  obtain ⟨t,rfl⟩:=rx
  cases y with
  | byt j=>obtain ⟨t',rfl⟩:=ry;exact PySem.W.eq_bytes (bu I q yY)
  | _=>exact absurd (show false=true from hs) Bool.false_ne_true
 | _=>cases y <;> exact absurd (show false=true from hs) Bool.false_ne_true
theorem lQ:cz X (compareOp .NotEq) Jz:=by
 intro pins s σ H x y v u Q I rx ry h
 obtain ⟨hs,q⟩:=h
 cases x with
 | non=>
  cases rx
  cases y with
  | non=>cases ry;exact PySem.EqNone.ne_none_none (bu I q (by simp))
  | bl j=>cases ry;exact PySem.EqNone.ne_none_bool (bu I q (by simp))
  | int j=>obtain ⟨t',rfl⟩:=ry;exact PySem.EqNone.ne_none_int (bu I q (by simp))
  | str j=>obtain ⟨t',rfl⟩:=ry;exact PySem.EqNone.ne_none_str (bu I q (by simp))
  | _=>exact absurd (show false=true from hs) Bool.false_ne_true
 | bl i=>
  cases rx
  cases y with
  | non=>cases ry;exact PySem.EqNone.ne_bool_none (bu I q (by simp))
  | bl j=>cases ry;exact ne_bool (bu I q (congrArg not AN))
  | str j=>obtain ⟨t',rfl⟩:=ry;exact PySem.EqMixed.ne_bool_str (bu I q (by simp))
  | _=>exact absurd (show false=true from hs) Bool.false_ne_true
 | int i=>
  obtain ⟨t,rfl⟩:=rx
  cases y with
  | non=>cases ry;exact PySem.EqNone.ne_int_none (bu I q (by simp))
  | int j=>obtain ⟨t',rfl⟩:=ry;exact ne_int (bu I q (congrArg not zg))
  | str j=>obtain ⟨t',rfl⟩:=ry;exact PySem.EqMixed.ne_int_str (bu I q (by simp))
  | _=>exact absurd (show false=true from hs) Bool.false_ne_true
 | str i=>
  obtain ⟨t,rfl⟩:=rx
  cases y with
  | non=>cases ry;exact PySem.EqNone.ne_str_none (bu I q (by simp))
  | bl j=>cases ry;exact PySem.EqMixed.ne_str_bool (bu I q (by simp))
  | int j=>obtain ⟨t',rfl⟩:=ry;exact PySem.EqMixed.ne_str_int (bu I q (by simp))
  | str j=>obtain ⟨t',rfl⟩:=ry;exact ne_str (bu I q (congrArg not zc))
  | _=>exact absurd (show false=true from hs) Bool.false_ne_true
 | byt i=>
  obtain ⟨t,rfl⟩:=rx
  cases y with
  | byt j=>obtain ⟨t',rfl⟩:=ry;exact PySem.W.ne_bytes (bu I q (congrArg not yY))
  | _=>exact absurd (show false=true from hs) Bool.false_ne_true
 | _=>cases y <;> exact absurd (show false=true from hs) Bool.false_ne_true
theorem iM:cz X (compareOp .Lt) (xi fun i j=>.bl (decide (i<j))):=zQ fun _ _ _ _ _ _ _ q=>lt_int q
theorem Az:cz X (compareOp .LtE) (xi fun i j=>.bl (decide (i≤j))):=zQ fun _ _ _ _ _ _ _ q=>le_int q
theorem t0:cz X (compareOp .Gt) (xi fun i j=>.bl (decide (j<i))):=zQ fun _ _ _ _ _ _ _ q=>gt_int q
theorem AE:cz X (compareOp .GtE) (xi fun i j=>.bl (decide (j≤i))):=zQ fun _ _ _ _ _ _ _ q=>ge_int q
theorem xR:cz X (compareOp .Is) (fun x y H Q=>y=.non∧Q (.bl (decide (x=.non))) H):=by
 intro pins s σ H x y v u Q I rx ry h
 obtain ⟨rfl,q⟩:=h
 cases ry
 refine is_none_gen (bu I q ?_)
 cases x <;> first
  | (cases rx;rfl)
  | (obtain ⟨t,rfl⟩:=rx;rfl)
theorem oy (b:Expr) {op:CmpOp} (h:op≠.In:=by decide) (h2:op≠.NotIn:=by decide):behindInMarks op b=false:=by
 have e1:(op==CmpOp.In)=false:=by cases op <;> first | rfl | exact absurd rfl h
 have e2:(op==CmpOp.NotIn)=false:=by cases op <;> first | rfl | exact absurd rfl h2
 cases b <;> simp [behindInMarks,e1,e2]
theorem c8 {op:CmpOp}{r:R2} (ho:cz X (compareOp op) r) (ha:PE X a ta) (hb:PE X b tb) (hm:behindInMarks op b=false):PE X (.Compare a [op] [b] pos) (Dv r ta tb):=by
 intro pins s σ H Q I h
 exact wpAny_Compare1 (CL ha hb I h fun v u s2 x y H2 I2 rx ry q=>ho pins s2 σ H2 x y v u Q I2 rx ry q) hm
def Dk (t:TE):TT:=fun σ H Q=>t σ H fun x H'=>yx x fun k=>Q k H'
theorem aq {op:CmpOp}{r:R2} (ho:cz X (compareOp op) r) (ha:PE X a ta) (hb:PE X b tb) (hm:behindInMarks op b=false):PT X (.Compare a [op] [b] pos) (Dk (Dv r ta tb)):=by
 intro pins s σ H Q I h
 refine wpAny_isTrue_Compare1 (aR (ha pins s σ H _ I h) fun v s1 ⟨x,H1,I1,r1,q1⟩=>aR (hb pins s1 σ H1 _ I1 q1) fun u s2 ⟨y,H2,I2,r2,q2⟩=>
  aR (ho pins s2 σ H2 x y v u _ I2 r1 r2 q2) fun c s3 ⟨z,H3,I3,r3,k,e,q3⟩=>?_) hm
 subst e
 cases r3
 exact wpAny_truthy_bool ⟨H3,I3,q3⟩
def Fx (r r':R2) (ta tb tc:TE):TE:=fun σ H Q=>ta σ H fun x H1=>tb σ H1 fun y H2=>r x y H2 fun z H3=>yx z fun k=>
 (if k=true then tc σ H3 fun w' H4=>r' y w' H4 Q else Q (.bl false) H3)
theorem C1 {op op':CmpOp}{r r':R2} (ho:cz X (compareOp op) r) (ho':cz X (compareOp op') r') (ha:PE X a ta) (hb:PE X b tb) (hc:PE X c tc)
 (hm:lastMarks [op,op'] [b,c]=false:=by with_unfolding_all rfl):PT X (.Compare a [op,op'] [b,c] pos) (Dk (Fx r r' ta tb tc)):=by
 intro pins s σ H Q I h
 refine isTrue_chain (aR (ha pins s σ H _ I h) fun v s1 ⟨x,H1,I1,r1,q1⟩=>test_link (aR (hb pins s1 σ H1 _ I1 q1) fun u s2 ⟨y,H2,I2,r2,q2⟩=>
  aR (ho pins s2 σ H2 x y v u _ I2 r1 r2 q2) fun d s3 ⟨z,H3,I3,r3,k,e,q3⟩=>?_)) hm
 subst e
 cases r3
 refine wpAny_truthy_bool ?_
 cases k with
 | false=>
  obtain ⟨k',e',q'⟩:=q3
  cases e'
  exact ite_ff ⟨H3,I3,q'⟩
 | true=>
  refine ite_tt (test_last (aR (hc pins s3 σ H3 _ I3 q3) fun w' s4 ⟨z',H4,I4,r4,q4⟩=>aR (ho' pins s4 σ H4 y z' u w' _ I4 r2 r4 q4) fun d' s5 ⟨z2,H5,I5,r5,k2,e2,q5⟩=>?_))
  subst e2
  cases r5
  exact wpAny_truthy_bool ⟨H5,I5,q5⟩
theorem tR:(sizeLine:Nat)<2 ^ 63:=by rw [sizeLine_eq];decide
theorem zF:cz X (binaryOp .Add) (fun x y H Q=>bX fun i j=>x=.str i∧y=.str j∧i.length+j.length≤sizeLine∧Q (.str (i++j)) H):=by
 intro pins s σ H x y v u Q I rx ry h
 obtain ⟨i,j,rfl,rfl,hz,q⟩:=h
 obtain ⟨t,rfl⟩:=rx
 obtain ⟨t',rfl⟩:=ry
 exact add_str (fun t' tk=>⟨.str (i++j),H,I.tok _,⟨()⟩,q⟩) hz
theorem tZ {x:V}{us:List Value} (r:aE [x] us):∃u,us=[u]∧bh x u:=by
 cases r with
 | cons r1 r2=>cases r2;exact ⟨_,rfl,r1⟩
theorem HV {x y:V}{us:List Value} (r:aE [x,y] us):bX fun u w'=>us=[u,w']∧bh x u∧bh y w':=by
 cases r with
 | cons r1 r2=>
  cases r2 with
  | cons r3 r4=>cases r4;exact ⟨_,_,rfl,r1,r3⟩
theorem nX:gL X (.builtin "abs") (fun xs H Q=>∃i,xs=[.int i]∧Q (.int (if i<0 then -i else i)) H):=by
 intro pins s σ H xs us Q I r h
 obtain ⟨i,rfl,q⟩:=h
 obtain ⟨u,rfl,t,rfl⟩:=tZ r
 exact call_abs_int fun u tk=>⟨.int (if i<0 then -i else i),H,I.tok _,⟨()⟩,q⟩
theorem xk:gL X (.type "int") (fun xs H Q=>(∃i,xs=[.int i]∧Q (.int i) H)∨∃k,xs=[.bl k]∧Q (.int (if k then 1 else 0)) H):=by
 intro pins s σ H xs us Q I r h
 rcases h with ⟨i,rfl,q⟩ | ⟨k,rfl,q⟩
 ·obtain ⟨u,rfl,t,rfl⟩:=tZ r
  exact call_int_int ⟨.int i,H,I,⟨()⟩,q⟩
 ·obtain ⟨u,rfl,r1⟩:=tZ r
  cases r1
  exact call_int_bool ⟨.int (if k then 1 else 0),H,I.tok _,⟨()⟩,q⟩
end
structure uT (h:Heap) (x dx C:Addr) (mA:Str→Option Value):Prop where
 obj:h.get? x=some (PySem.W.instObj C dx)
 ns:h.Ns1 dx mA
 ne:dx≠x
theorem AY {h:Heap}{dx:Addr}{mA:Str→Option Value} (n:h.Ns1 dx mA):∃od,h.get? dx=some od∧∀name,PySem.W.lookIn name od=some (mA name):=by
 obtain ⟨o,es,ep,ho,hd,hk,_,hm⟩:=n
 refine ⟨o,ho,fun name=>?_⟩
 have e:=hm name
 unfold nsFind findBy at e
 rw [←Array.find?_toList] at e
 unfold PySem.W.lookIn
 rw [hd]
 dsimp only
 split
 ·rename_i y q
  rw [q] at e
  exact congrArg some e
 ·rename_i q
  rw [q] at e
  have a:es.toList.any (·.refKey)=false:=by
   rw [List.any_eq_false]
   intro y hy
   obtain ⟨z,t,hkey⟩:=hk y (Array.mem_toList_iff.mp hy)
   simp [DictEntry.refKey,hkey]
  have a':¬es.toList.any (·.refKey)=true:=by rw [a];exact Bool.false_ne_true
  rw [if_neg a']
  exact congrArg some e
theorem uT.look {h:Heap}{x dx C:Addr}{mA:Str→Option Value} (I:uT h x dx C mA):∃od,PySem.W.InstAt h x (PySem.W.instObj C dx) C (some od)∧∀name,PySem.W.lookIn name od=some (mA name):=
 let ⟨od,ho,hl⟩:=AY I.ns
 ⟨od,⟨I.obj,rfl,rfl,ho⟩,hl⟩
section
variable {prog:Program}{w:World}{A:Around}{E:Value→Shared→Prop}{s:Shared}{K:PySem.W.Frag}{x dx C f:Addr}{mA:Str→Option Value}{name:Str}{v:Value}
theorem EZ {expr:Bool}{Q:Value→Shared→Prop} (X:K.In s.heap) (I:uT s.heap x dx C mA) (hg:PySem.W.plainGet K C name=true) (hh:PySem.W.hasDictIn K C=true)
 (ha:PySem.W.findIn K (.ref C) name=some none) (hv:mA name=some v) (hv':PySem.W.handedIn v=true) (h:Q v { s with toks:=s.toks+1 }) :
 wpAny (model prog w) A (getAttr (.ref x) name expr) Q E s:=by
 obtain ⟨od,J,hl⟩:=I.look
 exact PySem.W.get_value X J (PySem.W.plainGet_of hg).1 (PySem.W.findObj_own hh ha rfl (by rw [hl,hv])) hv' h
theorem CS {pl:Sem Bool}{Q:Value×List Value→Shared→Prop} (X:K.In s.heap) (I:uT s.heap x dx C mA) (hg:PySem.W.plainGet K C name=true)
 (hf:PySem.W.findIn K (.ref C) name=some (some (.ref f))) (ht:PySem.W.isFn K (.ref f)=true) (hv:mA name=none) (h:Q (.ref f,[.ref x]) s) :
 wpAny (model prog w) A (getMethod (.ref x) name pl) Q E s:=by
 obtain ⟨od,J,hl⟩:=I.look
 exact PySem.W.method_fn X J (PySem.W.plainGet_of hg).1 (PySem.W.plainGet_of hg).2 hf (beq_iff_eq.mp ht) (by show (PySem.W.lookIn name od).map (·.isSome)=some false;rw [hl,hv];rfl) h
theorem Em {ns:List Str}{Q:Unit→Shared→Prop} (X:K.In s.heap) (I:uT s.heap x dx C mA)
 (hs:PySem.W.findIn K (.ref C) "__setattr__" = some (some (.builtin "object.__setattr__"))) (hp:PySem.W.plainOver K C=true) (ht:PySem.W.takerIn K C name=some none) (hh:PySem.W.hasDictIn K C=true)
 (hw:PySem.Within mA ns) (hsz:ns.length≤sizeLine)
 (h:∀h',uT h' x dx C (fun y=>if y=name then some v else mA y)→Heap.SameBut dx s.heap h'→Q () { s with heap:=h',toks:=s.toks+2 }) :
 wpAny (model prog w) A (setAttr (.ref x) name v) Q E s:=by
 obtain ⟨od,J,hl⟩:=I.look
 refine PySem.W.set_plain X J hs (PySem.W.osa_open (s:={ s with toks:=s.toks+1 }) (r:=none) X J hp ht fun b=>?_)
 obtain ⟨cd,hc,hd'⟩:=PySem.W.any_some hh
 have hx:s.heap.get? x=some ⟨.ref C,some dx,.plain,#[]⟩:=I.obj
 refine wpAny_bind (wpAny_pure (wpAny_bind (wpAny_bind (wpAny_loadPart hx (wpAny_bind (PySem.W.Looks.here (s:={ s with toks:=s.toks+1 }) (PySem.W.looks_clsIn X hc) ?_))))))
 rw [hd']
 refine wpAny_pure (a:=some dx) (wpAny_bind (wpAny_pure (wpAny_bind ?_)))
 refine wpAny_nsSet1 (s:={ s with toks:=s.toks+1 }) I.ns fun h' hn2 hs2=>?_
 obtain ⟨oD,esD,epD,hoD,hdD,hcD⟩:=hn2.count (PySem.Within.cons name v hw)
 refine wpAny_bind (wpAny_lookBehind hoD (by rw [hdD];exact pastItsLine_dict (Nat.le_trans hcD (by rw [List.length_cons];trivial))) ?_)
 exact wpAny_pure (h _ ⟨(hs2.2 _ (Ne.symm I.ne)).trans I.obj,hn2,I.ne⟩ hs2)
theorem CK {R:Result→Shared→Prop}{vs:List Value}{kw:List (Str×Value)} (X:K.In s.heap) (hm:PySem.W.makesIn K C=true)
 (hi:PySem.W.findIn K (.ref C) "__init__" = some (some (.ref f))) (hf:PySem.W.typeIn K (.ref f)=some (.type "function"))
 (h:codeAny (model prog w) (A.under (.builtin "type.__call__" ⟨.ref C :: vs,kw⟩)) (.call (.ref f) ⟨.ref (s.heap.objs.size+1) :: vs,kw⟩) (PySem.W.InitBack (s.heap.objs.size+1) R)
  { s with heap:=(s.heap.push PySem.W.emptyDict).push (PySem.W.instObj C s.heap.objs.size) }) :
 codeAny (model prog w) A (.call (.ref C) ⟨vs,kw⟩) R s:=by
 obtain ⟨hh,g,d,t,os⟩:=s
 exact PySem.W.make_core (PySem.W.makes_of X hm) (PySem.W.looks_findIn X hi) (fun self=>PySem.W.bind_fn X self hf) (.inl rfl) h
end
def ja (f:Str) (v:V):List (Str×V)→List (Str×V)
 | []=>[(f,v)]
 | (g,x) :: r=>if g=f then (g,v) :: r else (g,x) :: ja f v r
theorem uK (f g:Str) (v:V):∀fs:List (Str×V),(ja f v fs).lookup g=if g=f then some v else fs.lookup g
 | []=>by
  show List.lookup g [(f,v)]=_
  by_cases h:g=f
  ·have hb:(g==f)=true:=beq_iff_eq.mpr h
   simp only [List.lookup,hb,if_pos h]
  ·have hb:(g==f)=false:=beq_eq_false_iff_ne.mpr h
   simp only [List.lookup,hb,if_neg h]
 | (k,x) :: r=>by
  have ih:=uK f g v r
  rw [show ja f v ((k,x) :: r)=(if k=f then (k,v) :: r else (k,x) :: ja f v r) from rfl]
  by_cases hk:k=f
  ·rw [if_pos hk]
   by_cases h:g=k
   ·have hb:(g==k)=true:=beq_iff_eq.mpr h
    simp only [List.lookup,hb,if_pos (h.trans hk)]
   ·have hb:(g==k)=false:=beq_eq_false_iff_ne.mpr h
    simp only [List.lookup,hb,if_neg (fun e:g=f=>h (e.trans hk.symm))]
  ·rw [if_neg hk]
   by_cases h:g=k
   ·have hb:(g==k)=true:=beq_iff_eq.mpr h
    simp only [List.lookup,hb,if_neg (fun e:g=f=>hk (h.symm.trans e))]
   ·have hb:(g==k)=false:=beq_eq_false_iff_ne.mpr h
    simp only [List.lookup,hb]
    exact ih
theorem tV (f:Str) (v:V):∀fs:List (Str×V),f∈(ja f v fs).map (·.1)∧∀g,g∈fs.map (·.1)→g∈(ja f v fs).map (·.1)
 | []=>⟨by simp [ja],fun g h=>by simp at h⟩
 | (k,x) :: r=>by
  obtain ⟨i1,i2⟩:=tV f v r
  rw [show ja f v ((k,x) :: r)=(if k=f then (k,v) :: r else (k,x) :: ja f v r) from rfl]
  by_cases hk:k=f
  ·rw [if_pos hk]
   subst hk
   exact ⟨by simp,fun g h=>by simpa using h⟩
  ·rw [if_neg hk]
   refine ⟨?_,fun g h=>?_⟩
   ·rw [List.map_cons]
    exact List.mem_cons_of_mem _ i1
   ·rw [List.map_cons] at h ⊢
    rcases List.mem_cons.mp h with e | e
    ·exact List.mem_cons.mpr (.inl e)
    ·exact List.mem_cons_of_mem _ (i2 g e)
theorem uH (f:Str) (v:V):∀fs:List (Str×V),(ja f v fs).length≤fs.length+1
 | []=>by simp [ja]
 | (k,x) :: r=>by
  have ih:=uH f v r
  rw [show ja f v ((k,x) :: r)=(if k=f then (k,v) :: r else (k,x) :: ja f v r) from rfl]
  by_cases hk:k=f
  ·rw [if_pos hk,List.length_cons,List.length_cons];trivial
  ·rw [if_neg hk,List.length_cons,List.length_cons];trivial
theorem pO.some_of {v:V}{o:Option Value} (r:pO (some v) o):∃u,o=some u∧bh v u:=by
 cases o with
 | none=>exact (show False from r).elim
 | some u=>exact ⟨u,rfl,r⟩
theorem pO.none_of {o:Option Value} (r:pO none o):o=none:=by
 cases o with
 | none=>rfl
 | some u=>exact (show False from r).elim
theorem BF {v:V}{u:Value} (r:bh v u):PySem.W.handedIn u=true:=by
 cases v with
 | non=>cases (show u=Value.none from r);rfl
 | bl b=>cases (show u=Value.bool b from r);rfl
 | int i=>obtain ⟨t,e⟩:=(show ∃t,u=Value.int i t from r);cases e;rfl
 | str x=>obtain ⟨t,e⟩:=(show ∃t,u=Value.str x t from r);cases e;rfl
 | byt b=>obtain ⟨t,e⟩:=(show ∃t,u=Value.bytes b t from r);cases e;rfl
 | flt b=>obtain ⟨t,e⟩:=(show ∃t,u=Value.float b t from r);cases e;rfl
 | ref a=>cases (show u=Value.ref a from r);rfl
 | ty n=>cases (show u=Value.type n from r);rfl
section
variable {P:Program}{w:World}{H H':Hp}{h h':Heap}{a C dx:Addr}{fs fs':List (Str×V)}
theorem uf (hok:eS P w H h) (e:H a=some (.ins C dx fs)):∃mA,uT h a dx C mA∧(∀f,pO (fs.lookup f) (mA f))∧PySem.Within mA (fs.map (·.1))∧fs.length≤1000∧H dx=some (.own a):=by
 obtain ⟨d,z,ne,ob,mA,n,r,q⟩:=(show b6 P w H h a (.ins C dx fs) from hok a _ e)
 exact ⟨mA,⟨ob,n,ne⟩,r,q,z,d⟩
end
structure ql (K:PySem.W.Frag) (C:Addr):Prop where
 pg:PySem.W.plainGet K C Str.empty=true
 hd:PySem.W.hasDictIn K C=true
 po:PySem.W.plainOver K C=true
 sa:PySem.W.findIn K (.ref C) "__setattr__" = some (some (.builtin "object.__setattr__"))
theorem ql.get {K:PySem.W.Frag}{C:Addr} (c:ql K C) (f:Str):PySem.W.plainGet K C f=true:=c.pg
def kq (K:PySem.W.Frag) (C:Addr) (f:Str):Prop:=PySem.W.findIn K (.ref C) f=some none
theorem kq.taker {K:PySem.W.Frag}{C:Addr}{f:Str} (n:kq K C f):PySem.W.takerIn K C f=some none:=by
 unfold PySem.W.takerIn
 rw [show PySem.W.findIn K (.ref C) f=some none from n]
 rfl
structure df (K:PySem.W.Frag) (C:Addr) (m:Str) (f:Addr):Prop where
 at_:PySem.W.findIn K (.ref C) m=some (some (.ref f))
 fn:PySem.W.isFn K (.ref f)=true
 kp:PySem.W.keepIn K (.ref f)=true
section
variable {X:Cx}{pins:List (Addr×Obj)}{σ:St}{H:Hp}{s:Shared}{a C dx:Addr}{fs:List (Str×V)}{f:Str}{v:V}{A:Around}{E:Value→Shared→Prop}
theorem zw {b:Bool}{Q:Value→Shared→Prop} (I:aj X pins σ H s) (e:H a=some (.ins C dx fs)) (c:ql X.K C) (n:kq X.K C f) (l:fs.lookup f=some v)
 (h:∀u s',aj X pins σ H s'→bh v u→Q u s'):wpAny (model X.prog X.w) A (getAttr (.ref a) f b) Q E s:=by
 obtain ⟨mA,O,r,_,_,_⟩:=uf I.hok e
 obtain ⟨u,hu,ru⟩:=pO.some_of (v:=v) (o:=mA f) (by rw [←l];exact r f)
 exact EZ I.kIn O (c.get f) c.hd n hu (BF ru) (h u _ (I.tok _) ru)
theorem vM {m:Str}{g:Addr}{pl:Sem Bool}{Q:Value×List Value→Shared→Prop} (I:aj X pins σ H s) (e:H a=some (.ins C dx fs)) (c:ql X.K C) (k:df X.K C m g) (l:fs.lookup m=none)
 (h:Q (.ref g,[.ref a]) s):wpAny (model X.prog X.w) A (getMethod (.ref a) m pl) Q E s:=by
 obtain ⟨mA,O,r,_,_,_⟩:=uf I.hok e
 have hn:mA m=none:=pO.none_of (by rw [←l];exact r m)
 exact CS I.kIn O (c.get m) k.at_ k.fn hn h
theorem zU {y:V}{u:Value}{Q:Unit→Shared→Prop} (I:aj X pins σ H s) (e:H a=some (.ins C dx fs)) (c:ql X.K C) (n:kq X.K C f) (hl:fs.length<1000) (ry:bh y u)
 (h:∀s',aj X pins σ (aJ H a (.ins C dx (ja f y fs))) s'→Q () s'):wpAny (model X.prog X.w) A (setAttr (.ref a) f u) Q E s:=by
 obtain ⟨mA,O,r,wi,_,ho⟩:=uf I.hok e
 have hz:(fs.map (·.1)).length≤sizeLine:=by rw [List.length_map,sizeLine_eq];trivial
 refine Em I.kIn O c.sa c.po n.taker c.hd wi hz fun h' O' sb=>h _ ?_
 have hd:∃o,h'.get? dx=some o:=let ⟨o,_,_,e',_⟩:=O'.ns;⟨o,e'⟩
 refine I.write (x:=a) (e:=dx) (by rw [e];exact True.intro) (.inr ho) (fun b q hb z=>(sb.2 b hb).trans z) hd ?_
 refine ⟨by rw [ax O.ne];exact ho,?_,O.ne,O'.obj,_,O'.ns,fun g=>?_,fun g hg=>?_⟩
 ·have:=uH f y fs;trivial
 ·show pO ((ja f y fs).lookup g) (if g=f then some u else mA g)
  rw [uK]
  by_cases q:g=f
  ·rw [if_pos q,if_pos q];exact ry
  ·rw [if_neg q,if_neg q];exact r g
 ·by_cases q:g=f
  ·rw [q];exact (tV f y fs).1
  ·refine (tV f y fs).2 g (wi g fun z=>hg ?_)
   show (if g=f then some u else mA g)=none
   rw [if_neg q];exact z
theorem aj.made (I:aj X pins σ H s):aj X pins σ (aJ (aJ H s.heap.objs.size (.own (s.heap.objs.size+1))) (s.heap.objs.size+1) (.ins C s.heap.objs.size []))
 { s with heap:=(s.heap.push PySem.W.emptyDict).push (PySem.W.instObj C s.heap.objs.size) }:=by
 have e1:(s.heap.push PySem.W.emptyDict).get? s.heap.objs.size=some PySem.W.emptyDict:=Heap.get?_push_size s.heap rfl
 have e2:((s.heap.push PySem.W.emptyDict).push (PySem.W.instObj C s.heap.objs.size)).get? (s.heap.objs.size+1)=some (PySem.W.instObj C s.heap.objs.size):=by
  have:=Heap.get?_push_size (s.heap.push PySem.W.emptyDict) (o:=PySem.W.instObj C s.heap.objs.size) rfl
  rwa [Heap.size_push] at this
 have e3:(s.heap.push PySem.W.emptyDict).Ns s.heap.objs.size (fun _=>none):=⟨PySem.W.emptyDict,#[],_,e1,rfl,(fun e he=>absurd he (by simp)),fun _=>rfl⟩
 have I1:=I.laid (a:=s.heap.objs.size) (o:=.own (s.heap.objs.size+1)) (h':=s.heap.push PySem.W.emptyDict) (t':=s.toks) (fun b u q=>Heap.get?_push_of_some _ q) (Nat.le_refl _) ⟨_,e1⟩
 refine I1.laid (a:=s.heap.objs.size+1) (o:=.ins C s.heap.objs.size []) (t':=s.toks) (fun b u q=>Heap.get?_push_of_some _ q) (Nat.le_of_eq (Heap.size_push _ _)) ?_
 have ne:s.heap.objs.size≠s.heap.objs.size+1:=Nat.ne_of_lt (Nat.lt_succ_self _)
 refine ⟨by rw [ax ne,av],Nat.zero_le _,ne,e2,fun _=>none,(Heap.Ns1.of_empty e3).at fun o q=>Heap.get?_push_of_some _ q,fun _=>True.intro,fun y hy=>absurd rfl hy⟩
theorem ER {prog:Program}{w:World}{env:Env}{e:Expr}{f:Str}{pos:Pos}{s:Shared}{Q:Value→Shared→Prop} (hb:attributeBase e f env (eval e env)=eval e env)
 (h:wpAny (model prog w) A (eval e env) (fun o s₁=>wpAny (model prog w) A (getAttr o f true) Q E s₁) E s):wpAny (model prog w) A (eval (.Attribute e f pos) env) Q E s:=
 Attribute_any_ h (by rw [arm_eval_Attribute,hb])
end
def IV (K:PySem.W.Frag) (ta:TE) (f:Str):TE:=fun σ H Q=>ta σ H fun x H1=>xM fun a C dx fs v=>x=.ref a∧H1 a=some (.ins C dx fs)∧ql K C∧kq K C f∧fs.lookup f=some v∧Q v H1
section
variable {X:Cx}{o e value:Expr}{f:Str}{pos pos' tpos:Pos}{ta tv:TE}
theorem br (he:PE X e ta) (hb:attributeBase e f X.env (eval e X.env)=eval e X.env):PE X (.Attribute e f pos) (IV X.K ta f):=by
 intro pins s σ H Q I h
 refine ER hb (aR (he pins s σ H _ I h) fun u s1 ⟨x,H1,I1,rx,a,C,dx,fs,v,ex,ea,c,n,l,q⟩=>?_)
 subst ex
 obtain rfl:u=Value.ref a:=rx
 exact zw I1 ea c n l fun u' s2 I2 ru=>⟨v,H1,I2,ru,q⟩
end
section
variable {X:Cx}{pins:List (Addr×Obj)}{σ:St}{H:Hp}{s:Shared}{A:Around}{E:Value→Shared→Prop}{Q:Value→Shared→Prop}{c:Value}{b:Bool}
inductive jM (K:PySem.W.Frag) (H:Hp):V→Value→Prop where
 | non:jM K H .non (.type "NoneType")
 | bl (x:Bool):jM K H (.bl x) (.type "bool")
 | int (i:Int):jM K H (.int i) (.type "int")
 | str (x:Str):jM K H (.str x) (.type "str")
 | flt (x:UInt64):jM K H (.flt x) (.type "float")
 | lst {a:Addr}{xs:List V} (e:H a=some (.lst xs)):jM K H (.ref a) (.type "list")
 | frz {a:Addr}{o:Obj}{xs:List V} (e:H a=some (.frz o (.lst xs))):jM K H (.ref a) (.type "list")
 | tup {a:Addr}{xs:List V} (e:H a=some (.tup xs)):jM K H (.ref a) (.type "tuple")
 | dK {a:Addr}{kvs:List (j5×V)} (e:H a=some (.dK kvs)):jM K H (.ref a) (.type "dict")
 | dT {a:Addr}{kvs:List (List j5×V)} (e:H a=some (.dT kvs)):jM K H (.ref a) (.type "dict")
 | ins {a C dx:Addr}{fs:List (Str×V)} (e:H a=some (.ins C dx fs)) (cl:ql K C) (ha:PySem.W.findIn K (.ref C) "__class__" = some (some (.builtin "object.__class__")))
  (hn:PySem.W.specialIn K (.builtin "object.__class__") "__get__" = some (some (.builtin "getset_descriptor.__get__"))) (htk:PySem.W.takesIn K (.builtin "object.__class__")=some true)
  (hm:PySem.W.mroIn K C (.type "object")=some true):jM K H (.ref a) (.ref C)
theorem Ba {x:V}{u t:Value} (I:aj X pins σ H s) (rx:bh x u) (ty:jM X.K H x t) (e:PySem.W.kitOne X.K t c=some b) (h:∀tk,Q (.bool b) { s with toks:=tk }) :
 wpAny (model X.prog X.w) A (call (.builtin "isinstance") [u,c]) Q E s:=by
 cases ty with
 | non=>cases (show u=Value.none from rx);exact PySem.W.kia_one PySem.W.kitx_none I.kIn True.intro e (fun z=>nomatch z) h
 | bl y=>cases (show u=Value.bool y from rx);exact PySem.W.kia_one PySem.W.kitx_bool I.kIn True.intro e (fun z=>nomatch z) h
 | int i=>obtain ⟨t,q⟩:=(show ∃t,u=Value.int i t from rx);cases q;exact PySem.W.kia_one PySem.W.kitx_int I.kIn True.intro e (fun z=>nomatch z) h
 | str y=>obtain ⟨t,q⟩:=(show ∃t,u=Value.str y t from rx);cases q;exact PySem.W.kia_one PySem.W.kitx_str I.kIn True.intro e (fun z=>nomatch z) h
 | flt y=>obtain ⟨t,q⟩:=(show ∃t,u=Value.float y t from rx);cases q;exact PySem.W.kia_one PySem.W.kitx_float I.kIn True.intro e (fun z=>nomatch z) h
 | @lst a xs ea=>
  cases (show u=Value.ref a from rx)
  obtain ⟨_,_,n,_,h1⟩:=(show b6 X.prog X.w H s.heap a (.lst xs) from I.hok a _ ea)
  exact PySem.W.kia_one PySem.W.kitx_list I.kIn ⟨_,h1,rfl⟩ e (fun z=>nomatch z) h
 | @frz a ob xs ea=>
  cases (show u=Value.ref a from rx)
  obtain ⟨_,_,_,n,_,h1⟩:=(show b6 X.prog X.w H s.heap a (.frz ob (.lst xs)) from I.hok a _ ea)
  exact PySem.W.kia_one PySem.W.kitx_list I.kIn ⟨_,h1,rfl⟩ e (fun z=>nomatch z) h
 | @tup a xs ea=>
  cases (show u=Value.ref a from rx)
  obtain ⟨_,_,_,p,_⟩:=(show b6 X.prog X.w H s.heap a (.tup xs) from I.hok a _ ea)
  obtain ⟨o,h1,h2,_⟩:=p
  exact PySem.W.kia_one PySem.W.kitx_tuple I.kIn ⟨o,h1,h2⟩ e (fun z=>nomatch z) h
 | @dK a kvs ea=>
  cases (show u=Value.ref a from rx)
  obtain ⟨_,_,vs,_,p⟩:=(show b6 X.prog X.w H s.heap a (.dK kvs) from I.hok a _ ea)
  obtain ⟨o,es,ep,h1,h2,_⟩:=p
  exact PySem.W.kia_one PySem.W.kitx_dict I.kIn ⟨o,h1,h2.1⟩ e (fun z=>nomatch z) h
 | @dT a kvs ea=>
  cases (show u=Value.ref a from rx)
  obtain ⟨_,_,xs,_,o,es,ep,h1,h2,_⟩:=(show b6 X.prog X.w H s.heap a (.dT kvs) from I.hok a _ ea)
  exact PySem.W.kia_one PySem.W.kitx_dict I.kIn ⟨o,h1,h2.1⟩ e (fun z=>nomatch z) h
 | @ins a C dx fs ea cl ha hn htk hm=>
  cases (show u=Value.ref a from rx)
  obtain ⟨mA,O,_⟩:=uf I.hok ea
  obtain ⟨od,J,_⟩:=O.look
  exact PySem.W.kia_one (PySem.W.kitx_own (cl.get _) cl.hd ha hn htk hm) I.kIn J e (fun z=>nomatch z) h
end
structure cL (k:Nat) (A:Around):Prop where
 hd:A.handled=none
 dp:A.depth+3*k+5<recursionLimit
 un:A.units+16*k+200<cLine
 gd:A.guards=some []
theorem cL.mono {j k:Nat}{A:Around} (r:cL k A) (h:j≤k):cL j A:=⟨r.hd,by have:=r.dp;trivial,by have:=r.un;trivial,r.gd⟩
theorem cL.deeper {k:Nat}{A:Around} (r:cL (k+1) A) (env:Env):cL k (A.deeper env):=
 ⟨r.hd,by have:=r.dp;show A.depth+1+3*k+5<_;trivial,by have:=r.un;show A.units+3+16*k+200<_;trivial,r.gd⟩
theorem Ab {A:Around}{C:Addr}{us:List Value}{kw:List (Str×Value)}:(A.under (.builtin "type.__call__" ⟨.ref C :: us,kw⟩)).depth=A.depth+1:=by
 first | rfl | simp [Around.under,Code.weight,Code.isCreation,Code.isGuard,Code.isCaller,Code.frames,Code.isFrame,guardIds]
theorem AD {A:Around}{C:Addr}{us:List Value}{kw:List (Str×Value)}:(A.under (.builtin "type.__call__" ⟨.ref C :: us,kw⟩)).units=A.units+1:=by
 first | rfl | simp [Around.under,Code.cUnits,Code.frames,Code.isFrame]
theorem cL.make {k:Nat}{A:Around} (r:cL (k+1) A) (C:Addr) (us:List Value) (kw:List (Str×Value)):cL k (A.under (.builtin "type.__call__" ⟨.ref C :: us,kw⟩)):=
 ⟨r.hd,by have:=r.dp;rw [Ab];trivial,by have:=r.un;rw [AD];trivial,r.gd⟩
theorem cL.depth {k:Nat}{A:Around} (r:cL k A):A.depth<recursionLimit:=by have:=r.dp;trivial
theorem cL.units {k:Nat}{A:Around} (r:cL k A):A.units+64<cLine:=by have:=r.un;trivial
def C7:TA:=fun _ H Q=>Q [] H
def DH (ta:TE) (tr:TA):TA:=fun σ H Q=>ta σ H fun x H1=>tr σ H1 fun xs H2=>Q (x :: xs) H2
section
variable {X:Cx}{e:Expr}{es:List Expr}{te:TE}{t:TA}{pos:Pos}
theorem aY:PA X [] C7:=fun _ _ _ _ H Q I h=>Calls.spliced_nil ⟨[],H,I,.nil,h⟩
theorem bE (ha:PE X e te) (hr:PA X es t) (hs:starEach (e :: es) X.env=(false,eval e X.env) :: starEach es X.env:=by rfl):PA X (e :: es) (DH te t):=by
 intro pos pins s σ H Q I h
 rw [hs]
 show wpAny _ _ (spliced ((false,eval e X.env) :: backTo pos (starEach es X.env))) _ _ s
 refine Calls.spliced_cons (aR (ha pins s σ H _ I h) fun u s1 ⟨x,H1,I1,r1,q1⟩=>?_)
 exact aR (hr pos pins s1 σ H1 _ I1 q1) fun us s2 ⟨xs,H2,I2,r2,q2⟩=>⟨x :: xs,H2,I2,.cons r1 r2,q2⟩
def I0 (t:TA):TE:=fun σ H Q=>t σ H fun xs H1=>xs.length≤sizeLine∧∀p,H1 p=none→Q (.ref p) (aJ H1 p (.tup xs))
def Jh (t:TA):TE:=fun σ H Q=>t σ H fun xs H1=>xs.length≤sizeLine∧∀p,H1 p=none→Q (.ref p) (aJ H1 p (.lst xs))
theorem AU {x1} (h:PA X es t):PE X (.Tuple es x1 pos) (I0 t):=by
 intro pins s σ H Q I hq
 refine wpAny_Tuple_spliced (aR (h pos pins s σ H _ I hq) fun us s1 ⟨xs,H1,I1,r,z,q⟩=>⟨by rw [←r.length];exact z,?_⟩)
 have hf:H1 s1.heap.objs.size=none:=I1.hok.fresh (Nat.le_refl _)
 refine ⟨.ref s1.heap.objs.size,aJ H1 s1.heap.objs.size (.tup xs),I1.laid (t':=s1.toks) (fun b u e=>Heap.get?_push_of_some _ e) (Nat.le_refl _) ?_,rfl,q _ hf⟩
 exact ⟨z,us,r,⟨_,Heap.get?_push_size _ rfl,rfl,()⟩,_,Heap.get?_push_size _ rfl,rfl⟩
theorem AI (h:PA X es t):PE X (.List es pos) (Jh t):=by
 intro pins s σ H Q I hq
 refine wpAny_List_spliced (aR (h pos pins s σ H _ I hq) fun us s1 ⟨xs,H1,I1,r,z,q⟩=>⟨by rw [←r.length];exact z,?_⟩)
 have hf:H1 s1.heap.objs.size=none:=I1.hok.fresh (Nat.le_refl _)
 refine ⟨.ref s1.heap.objs.size,aJ H1 s1.heap.objs.size (.lst xs),I1.laid (t':=s1.toks) (fun b u e=>Heap.get?_push_of_some _ e) (Nat.le_refl _) ?_,rfl,q _ hf⟩
 exact ⟨z,us,0,r,Heap.get?_push_size _ rfl⟩
end
abbrev Sp:=List V→Hp→VK→XK→Prop
abbrev kf:=List Env→Hp→Shared→XK→Value→Shared→Prop
structure vo (P:Program) (w:World) (K:PySem.W.Frag) (mg:Str→Option Value) (base:Heap) (A:Around) (outer:List Env) (s:Shared) (H:Hp):Prop where
 frames:A.frames=some outer
 mod:Mod K mg base
 bs:∀b o,base.get? b=some o→s.heap.get? b=some o∧H b=none
 bsz:base.objs.size≤s.heap.objs.size
 funs:s.heap.FunFrames base outer
 frf:∀b∈jZ outer,H b=none
 hok:eS P w H s.heap
 bare:AllBare s.gens
def CE (outer:List Env) (P:Program) (w:World) (H:Hp) (s:Shared) (Q:VK) (u:Value) (s':Shared):Prop:=
 bX fun v H'=>s'.os=s.os∧AllBare s'.gens∧Un (jZ outer) [] H H' s.heap s'.heap∧eS P w H' s'.heap∧bh v u∧Q v H'
def CR (CX:kf) (outer:List Env) (P:Program) (w:World) (H:Hp) (s:Shared) (Q:VK) (E:XK) (r:Result) (s':Shared):Prop:=
 match r with
 | .ok (.ret u)=>CE outer P w H s Q u s'
 | .ok _=>False
 | .error e=>CX outer H s E e s'
structure aD (P:Program) (w:World) (K:PySem.W.Frag) (mg:Str→Option Value) (base:Heap) (CX:kf) (k:Nat) (f:Addr) (fd:FuncData) (ps:List Str) (sp:Sp):Prop where
 len:∀vs H Q E,sp vs H Q E→vs.length=ps.length
 run:∀(A:Around) (outer:List Env) (s:Shared) (H:Hp) (args:Args) (us:List Value) (vs:List V) (Q:VK) (E:XK),cL k A→vo P w K mg base A outer s H→BindsTo s fd args (ps.zip us)→aE vs us→sp vs H Q E→
  codeAny (model P w) A (.call (.ref f) args) (CR CX outer P w H s Q E) s
theorem aD.imp {P:Program}{w:World}{K:PySem.W.Frag}{mg:Str→Option Value}{base:Heap}{CX:kf}{k:Nat}{f:Addr}{fd:FuncData}{ps:List Str}{sp sp':Sp} (F:aD P w K mg base CX k f fd ps sp)
 (h:∀vs H Q E,sp' vs H Q E→sp vs H Q E):aD P w K mg base CX k f fd ps sp':=
 ⟨fun vs H Q E q=>F.len vs H Q E (h _ _ _ _ q),fun A outer s H args us vs Q E hr he hb hv hs=>F.run A outer s H args us vs Q E hr he hb hv (h _ _ _ _ hs)⟩
theorem vo.make {P:Program}{w:World}{K:PySem.W.Frag}{mg:Str→Option Value}{base:Heap}{A:Around}{outer:List Env}{s:Shared}{H:Hp} (e:vo P w K mg base A outer s H) (C:Addr) (us:List Value) (kw:List (Str×Value)) :
 vo P w K mg base (A.under (.builtin "type.__call__" ⟨.ref C :: us,kw⟩)) outer s H:=⟨by first | exact e.frames | (simpa [Around.under,Code.envs,Code.isFrame,pushEnvs] using e.frames),e.mod,e.bs,e.bsz,e.funs,e.frf,e.hok,e.bare⟩
section
variable {X:Cx}{pins:List (Addr×Obj)}{σ:St}{H:Hp}{s s':Shared}
theorem aj.env0 (I:aj X pins σ H s):vo X.prog X.w X.K X.mg X.base X.A X.stack s H:=
 ⟨I.ok.frames,I.ok.mod,I.bs,Nat.le_trans I.ok.bsz I.sz,I.stack,I.stkFree,I.hok,I.bare⟩
theorem aj.after {Q:VK}{u:Value} (I:aj X pins σ H s) (h:CE X.stack X.prog X.w H s Q u s'):EP X pins σ Q u s':=by
 obtain ⟨v,H',os,bare,un,hok,r,q⟩:=h
 obtain ⟨hh,g,d,t,os'⟩:=s'
 obtain rfl:os'=s.os:=os
 exact ⟨v,H',I.call (h':=hh) (g':=g) (d':=d) (t':=t) (ch:=[]) un hok bare (fun b z=>absurd z (by simp)),r,q⟩
end
def HI (sp:Sp) (dvs:List V) (E:XK) (t:TA):TE:=fun σ H Q=>t σ H fun vs H1=>sp (vs++dvs) H1 Q E
def Dy (C:Addr) (m:Str) (sp:Sp) (dvs:List V) (E:XK) (ta:TE) (t:TA):TE:=fun σ H Q=>ta σ H fun x H1=>kZ fun a dx fs=>x=.ref a∧H1 a=some (.ins C dx fs)∧fs.lookup m=none∧
 t σ H1 fun vs H2=>sp (x :: (vs++dvs)) H2 Q E
def Ic (C:Addr) (sp:Sp) (dvs:List V) (E:XK) (t:TA):TE:=fun σ H Q=>t σ H fun vs H1=>∀x dx,H1 x=none→H1 dx=none→dx≠x→
 sp (.ref x :: (vs++dvs)) (aJ (aJ H1 dx (.own x)) x (.ins C dx [])) (fun v H2=>v=.non∧Q (.ref x) H2) E
def bj (K:PySem.W.Frag) (fd:FuncData) (ps:List Str) (ds:List Value):Prop:=
 ∀(s:Shared) (us:List Value),K.In s.heap→(us++ds).length=ps.length→BindsTo s fd ⟨us,[]⟩ (ps.zip (us++ds))
theorem bj.all {K:PySem.W.Frag}{fd:FuncData}{ps:List Str} (h:∀us:List Value,us.length=ps.length→bindArgs fd ⟨us,[]⟩=pure (ps.zip us)):bj K fd ps []:=fun s us _ hl=>by
 rw [List.append_nil] at hl ⊢
 exact .of_eq (h us hl)
def iy (CX:kf) (X:Cx) (E:XK):Prop:=∀(pins:List (Addr×Obj)) (σ:St) (H:Hp) (s:Shared) (e:Value) (s':Shared),aj X pins σ H s→CX X.stack H s E e s'→X.xe e s'
section
variable {X:Cx}{CX:kf}{k:Nat}{f C:Addr}{fd:FuncData}{ps:List Str}{sp:Sp}{dvs:List V}{ds:List Value}{E:XK}{x m:Str}{p pos apos:Pos}{e o:Expr}{es:List Expr}{ta:TE}{t:TA}
theorem ye {pins:List (Addr×Obj)}{σ:St}{H:Hp}{s:Shared}{Q:VK}{us:List Value}{vs:List V} (F:aD X.prog X.w X.K X.mg X.base CX k f fd ps sp) (hr:cL k X.A) (hb:bj X.K fd ps ds) (hd:aE dvs ds) (hx:iy CX X E)
 (I:aj X pins σ H s) (r:aE vs us) (h:sp (vs++dvs) H Q E):wpAny (model X.prog X.w) X.A (call (.ref f) us) (EP X pins σ Q) X.xe s:=by
 have r2:aE (vs++dvs) (us++ds):=r.append hd
 have hl:(us++ds).length=ps.length:=by rw [←r2.length];exact F.len _ _ _ _ h
 refine wpAny_call (codeAny_mono (F.run X.A X.stack s H ⟨us,[]⟩ (us++ds) (vs++dvs) Q E hr I.env0 (hb s us I.kIn hl) r2 h) fun r s' hq=>?_)
 cases r with
 | error e=>exact hx pins σ H s e s' I hq
 | ok fl=>
  cases fl with
  | ret u=>exact I.after hq
  | next=>exact False.elim hq
  | brk=>exact False.elim hq
  | cont=>exact False.elim hq
theorem iS (F:aD X.prog X.w X.K X.mg X.base CX k f fd ps sp) (hr:cL k X.A) (hg:Gl X x) (hm:X.mg x=some (.ref f)) (hk:PySem.W.keepIn X.K (.ref f)=true) (hb:bj X.K fd ps ds) (hd:aE dvs ds) (hx:iy CX X E)
 (ha:PA X (e :: es) t) (hdb:(x==("__debug__" : Str))=false:=by decide) (he:starEach (e :: es) X.env=(false,eval e X.env) :: starEach es X.env:=by rfl) (hpl:(backTo pos (starEach es X.env)).any (·.1)=false:=by rfl) :
 PE X (.Call (.Name x p) (e :: es) [] pos) (HI sp dvs E t):=by
 intro pins s σ H Q I h
 refine wpAny_Call_Name_kw (qe I hg hm ?_ hdb)
 refine PySem.W.callWith_K (h₀:=X.base) I.ok.mod.kin hk (aR (ha pos pins s σ H _ I h) fun us s1 ⟨vs,H1,I1,r,q⟩=>⟨I1.kIn,?_⟩) he hpl
 exact ye F hr hb hd hx I1 r q
theorem cj {pl:Sem Bool} (he:PE X o ta) (c:ql X.K C) (hm:df X.K C m f) (F:aD X.prog X.w X.K X.mg X.base CX k f fd ps sp) (hr:cL k X.A) (hb:bj X.K fd ps ds) (hd:aE dvs ds) (hx:iy CX X E) (ha:PA X (e :: es) t)
 (hst:starEach (e :: es) X.env=(false,eval e X.env) :: starEach es X.env:=by rfl) (hpl:(backTo pos (starEach es X.env)).any (·.1)=false:=by rfl)
 (ht:eval (.Call (.Attribute o m apos) (e :: es) [] pos) X.env=(do
  let ov ←eval o X.env
  standAt apos.atName
  let (f,first) ←holding [ov] (getMethod ov m pl)
  callWith pos f first (backTo pos (starEach (e :: es) X.env)) (backToKw pos (keywordEach [] X.env))):=by rfl) :
 PE X (.Call (.Attribute o m apos) (e :: es) [] pos) (Dy C m sp dvs E ta t):=by
 intro pins s σ H Q I h
 refine PySem.W.methodCall_KW (pl:=pl) (aR (he pins s σ H _ I h) fun u s1 ⟨x,H1,I1,rx,a,dx,fs,ex,ea,l,q⟩=>?_) ht
 subst ex
 obtain rfl:u=Value.ref a:=rx
 refine vM I1 ea c hm l ?_
 refine PySem.W.callWith_K (first:=[.ref a]) (h₀:=X.base) I.ok.mod.kin hm.kp (aR (ha pos pins s1 σ H1 _ I1 q) fun us s2 ⟨vs,H2,I2,r,q2⟩=>⟨I2.kIn,?_⟩) hst hpl
 exact ye (us:=.ref a :: us) (vs:=.ref a :: vs) F hr hb hd hx I2 (.cons rfl r) q2
theorem bZ {pl:Sem Bool} (he:PE X o ta) (c:ql X.K C) (hm:df X.K C m f) (F:aD X.prog X.w X.K X.mg X.base CX k f fd ps sp) (hr:cL k X.A) (hb:bj X.K fd ps ds) (hd:aE dvs ds) (hx:iy CX X E)
 (ht:eval (.Call (.Attribute o m apos) [] [] pos) X.env=(do
  let ov ←eval o X.env
  standAt apos.atName
  let (f,first) ←holding [ov] (getMethod ov m pl)
  callWith pos f first (backTo pos (starEach [] X.env)) (backToKw pos (keywordEach [] X.env))):=by rfl) :
 PE X (.Call (.Attribute o m apos) [] [] pos) (Dy C m sp dvs E ta C7):=by
 intro pins s σ H Q I h
 refine PySem.W.methodCall_KW (pl:=pl) (aR (he pins s σ H _ I h) fun u s1 ⟨x,H1,I1,rx,a,dx,fs,ex,ea,l,q⟩=>?_) ht
 subst ex
 obtain rfl:u=Value.ref a:=rx
 refine vM I1 ea c hm l ?_
 exact PySem.W.callWith_K0 (first:=[.ref a]) I1.kIn hm.kp (ye (us:=[.ref a]) (vs:=[.ref a]) F hr hb hd hx I1 (.cons rfl .nil) q)
structure Mk (K:PySem.W.Frag) (C f:Addr):Prop where
 makes:PySem.W.makesIn K C=true
 init:PySem.W.findIn K (.ref C) "__init__" = some (some (.ref f))
 fn:PySem.W.isFn K (.ref f)=true
 kp:PySem.W.keepIn K (.ref C)=true
theorem xH {pins:List (Addr×Obj)}{σ:St}{H:Hp}{s:Shared}{Q:VK}{us:List Value}{vs:List V} (M:Mk X.K C f) (F:aD X.prog X.w X.K X.mg X.base CX k f fd ps sp) (hr:cL (k+1) X.A) (hb:bj X.K fd ps ds) (hd:aE dvs ds)
 (hx:iy CX X E) (I:aj X pins σ H s) (r:aE vs us)
 (h:∀x dx,H x=none→H dx=none→dx≠x→sp (.ref x :: (vs++dvs)) (aJ (aJ H dx (.own x)) x (.ins C dx [])) (fun v H2=>v=.non∧Q (.ref x) H2) E) :
 wpAny (model X.prog X.w) X.A (call (.ref C) us) (EP X pins σ Q) X.xe s:=by
 have hq:=h (s.heap.objs.size+1) s.heap.objs.size (I.hok.fresh (Nat.le_succ _)) (I.hok.fresh (Nat.le_refl _)) (Nat.ne_of_lt (Nat.lt_succ_self _))
 have I2:=aj.made (C:=C) I
 have r2:aE (V.ref (s.heap.objs.size+1) :: (vs++dvs)) (Value.ref (s.heap.objs.size+1) :: (us++ds)):=.cons rfl (r.append hd)
 have hl:(Value.ref (s.heap.objs.size+1) :: us++ds).length=ps.length:=by
  have e:=r2.length
  rw [F.len _ _ _ _ hq] at e
  exact e.symm
 refine wpAny_call (CK (f:=f) I.kIn M.makes M.init (beq_iff_eq.mp M.fn) (codeAny_mono (F.run _ X.stack _ _ ⟨Value.ref (s.heap.objs.size+1) :: us,[]⟩ (Value.ref (s.heap.objs.size+1) :: (us++ds)) _ _ E (hr.make C us [])
  (I2.env0.make C us []) (hb _ (Value.ref (s.heap.objs.size+1) :: us) I2.kIn hl) r2 hq) fun r s' hq'=>?_))
 cases r with
 | error e=>exact hx pins σ _ _ e s' I2 hq'
 | ok fl=>
  cases fl with
  | ret u=>
   obtain ⟨v,H',I3,rv,ev,q3⟩:=I2.after hq'
   subst ev
   exact ⟨rv,⟨V.ref (s.heap.objs.size+1),H',I3,rfl,q3⟩⟩
  | next=>exact False.elim hq'
  | brk=>exact False.elim hq'
  | cont=>exact False.elim hq'
theorem BY (M:Mk X.K C f) (F:aD X.prog X.w X.K X.mg X.base CX k f fd ps sp) (hr:cL (k+1) X.A) (hg:Gl X x) (hm:X.mg x=some (.ref C)) (hb:bj X.K fd ps ds) (hd:aE dvs ds) (hx:iy CX X E)
 (hdb:(x==("__debug__" : Str))=false:=by decide):PE X (.Call (.Name x p) [] [] pos) (Ic C sp dvs E C7):=by
 intro pins s σ H Q I h
 refine wpAny_Call_Name_kw (qe I hg hm ?_ hdb)
 exact PySem.W.callWith_K0 I.kIn M.kp (xH (us:=[]) M F hr hb hd hx I .nil h)
end
section
variable {X:Cx}{CX:kf}{k:Nat}{f C:Addr}{fd:FuncData}{ps ks:List Str}{sp:Sp}{E:XK}{x m:Str}{p pos apos kpos:Pos}{e o:Expr}{es:List Expr}{kws:List Keyword}{te ta:TE}{t tk:TA}{nm:Option Str}
variable {g:List Value→List Value→List Value}{gV:List V→List V→List V}
end
structure ar (N P:List Str) (sc:Scope):Prop where
 kind:sc.kind=.function
 co:sc.isCoroutine=false
 gen:sc.isGenerator=false
 nd:N.Nodup
 pre:N.take P.length=P
 par:∀x∈P,sc.names.lookup x=some .local∨sc.names.lookup x=some .cell
 nofree:∀y∈sc.names,y.2≠.free
theorem w5 {kindOf:Str→Option NameKind}{x:Str}:∀{binds:List (Str×Value)}{m:Str→Option Value},(∀v,(x,v)∉binds)→bindL kindOf binds m x=m x
 | [],_,_=>rfl
 | (n,v) :: r,m,h=>by
  unfold bindL
  rw [w5 fun w hw=>h w (List.mem_cons_of_mem _ hw)]
  split
  ·have:x≠n:=by rintro rfl;exact h v List.mem_cons_self
   simp [this]
  ·rfl
theorem wX {kindOf:Str→Option NameKind}{x:Str}:∀{binds:List (Str×Value)}{m:Str→Option Value},(∀v,(x,v)∉binds)→bindC kindOf binds m x=m x
 | [],_,_=>rfl
 | (n,v) :: r,m,h=>by
  unfold bindC
  rw [wX fun w hw=>h w (List.mem_cons_of_mem _ hw)]
  split
  ·rfl
  ·have:x≠n:=by rintro rfl;exact h v List.mem_cons_self
   simp [this]
theorem wT {kindOf:Str→Option NameKind}{x:Str}{v:Value}:∀{P:List Str}{vs:List Value}{i:Nat}{m:Str→Option Value},P.Nodup→P[i]?=some x→vs[i]?=some v→kindOf x=some .local→
 bindL kindOf (P.zip vs) m x=some v
 | [],_,_,_,_,h,_,_=>by simp at h
 | _ :: _,[],_,_,_,_,h,_=>by simp at h
 | p :: P,w :: vs,0,m,nd,h1,h2,hk=>by
  simp at h1 h2;subst h1;subst h2
  show bindL kindOf ((p,w) :: P.zip vs) m p=_
  unfold bindL
  rw [w5 fun v hv=>(List.nodup_cons.mp nd).1 (List.of_mem_zip hv).1,if_pos hk]
  simp
 | p :: P,w :: vs,i+1,m,nd,h1,h2,hk=>by
  show bindL kindOf ((p,w) :: P.zip vs) m x=_
  unfold bindL
  exact wT (i:=i) (List.nodup_cons.mp nd).2 (by simpa using h1) (by simpa using h2) hk
theorem xa {kindOf:Str→Option NameKind}{x:Str}{v:Value}:∀{P:List Str}{vs:List Value}{i:Nat}{m:Str→Option Value},P.Nodup→P[i]?=some x→vs[i]?=some v→kindOf x≠some .local→
 bindC kindOf (P.zip vs) m x=some v
 | [],_,_,_,_,h,_,_=>by simp at h
 | _ :: _,[],_,_,_,_,h,_=>by simp at h
 | p :: P,w :: vs,0,m,nd,h1,h2,hk=>by
  simp at h1 h2;subst h1;subst h2
  show bindC kindOf ((p,w) :: P.zip vs) m p=_
  unfold bindC
  rw [wX fun v hv=>(List.nodup_cons.mp nd).1 (List.of_mem_zip hv).1,if_neg hk]
  simp
 | p :: P,w :: vs,i+1,m,nd,h1,h2,hk=>by
  show bindC kindOf ((p,w) :: P.zip vs) m x=_
  unfold bindC
  exact xa (i:=i) (List.nodup_cons.mp nd).2 (by simpa using h1) (by simpa using h2) hk
def mV (N:List Str) (vs:List V):St:=vs.map some++List.replicate (N.length - vs.length) none
def qJ (CX:kf) (P:Program) (w:World) (K:PySem.W.Frag) (mg:Str→Option Value) (base:Heap) (N:List Str) (qual:Str) (scope:Scope) (f:Addr) (cd:Value) (A:Around) (outer:List Env) (s:Shared) (H:Hp) (E:XK):Cx where
 prog:=P
 w:=w
 K:=K
 mg:=mg
 base:=base
 A:=A.deeper (envOfC qual scope s.heap.objs.size f cd)
 N:=N
 s₀:=s
 H₀:=H
 env:=envOfC qual scope s.heap.objs.size f cd
 outer:=outer
 stack:=envOfC qual scope s.heap.objs.size f cd :: outer
 ex:=[]
 calm:=true
 fn:=fun _=>true
 pn:=[]
 xe:=fun e s'=>wpAny (model P w) (A.deeper (envOfC qual scope s.heap.objs.size f cd)) (leaving (envOfC qual scope s.heap.objs.size f cd) e) (fun _ s''=>CX outer H s E e s'') (fun e' s''=>CX outer H s E e' s'') s'
theorem yw {sc:Scope}{n:Nat}{x:Str} (h:sc.names.lookup x=some .cell):∃c,(cellsFrom n sc.names []).lookup x=some c:=by
 have q:=PySem.W.cellsFrom_some sc.names n [] (.inl h)
 exact Option.isSome_iff_exists.mp q
theorem A5 {CX:kf}{P:Program}{w:World}{K:PySem.W.Frag}{mg:Str→Option Value}{base:Heap}{N ps:List Str}{qual:Str}{scope:Scope}{f:Addr}{cd:Value}{A:Around}{outer:List Env}{s s1:Shared}{H:Hp}{E:XK}{us:List Value}{vs:List V}
 (S:ar N ps scope) (hd:A.handled=none) (e0:vo P w K mg base A outer s H) (hl:vs.length=ps.length) (r:aE vs us)
 (x:InCallC s s.heap.objs.size (bindL (envOfC qual scope s.heap.objs.size f cd).kindOf (ps.zip us) fun _=>none) (cellsFrom (s.heap.objs.size+1) scope.names []) (bindC (envOfC qual scope s.heap.objs.size f cd).kindOf (ps.zip us) fun _=>none) s1) :
 aj (qJ CX P w K mg base N qual scope f cd A outer s H E) [] (mV N vs) H s1:=by
 have hpl:ps.length≤N.length:=by have:=congrArg List.length S.pre;rw [List.length_take] at this;trivial
 obtain ⟨h1,tk,rfl,hk⟩:=x.done
 have noA:∀b:Addr,b∉(qJ CX P w K mg base N qual scope f cd A outer s H E).ex:=fun b z=>absurd (show b∈([]:List Addr) from z) (by simp)
 refine ⟨⟨e0.mod,S.kind,rfl,rfl,Nat.le_refl _,fun y z c h1 h2=>?_,fun y hy=>?_,fun y c _ h=>?_,fun _=>hd,Around.frames_deeper e0.frames,.inr ⟨rfl,rfl⟩,fun b z=>absurd z (noA b),e0.bs,e0.bsz,fun b _ _=>noA b,fun b z=>absurd z (noA b),e0.funs,e0.frf⟩,
  rfl,e0.bare,Un.kept hk,⟨_,x.toInCall.ns,fun i y v h1 h2 h3=>?_⟩,fun y c h=>⟨_,x.cell y c h⟩,e0.hok.fresh (Nat.le_refl _),fun y c h=>?_,fun p hp=>absurd (show p∈([]:List (Addr×Obj)) from hp) (by simp),e0.hok.kept hk,?_⟩
 ·exact name_of_addr x.apart (PySem.mem_of_lookup h1) (PySem.mem_of_lookup h2)
 ·have hy:scope.names.lookup y=some .cell∨scope.names.lookup y=some .free:=hy
  rcases hy with hy | hy
  ·exact yw hy
  ·exact absurd rfl (S.nofree _ (PySem.mem_of_lookup hy))
 ·exact Nat.le_of_lt (x.above y c (PySem.mem_of_lookup h))
 ·have hi:i<vs.length:=by
   unfold mV at h2
   by_cases hi:i<vs.length
   ·exact hi
   ·rw [List.getElem?_append_right (by simpa using hi)] at h2
    rw [List.getElem?_replicate] at h2
    split at h2 <;> cases h2
  have ha:vs[i]?=some v:=by
   unfold mV at h2
   rw [List.getElem?_append_left (by simpa using hi),List.getElem?_map] at h2
   cases e:vs[i]? with
   | none=>rw [e] at h2;cases h2
   | some a=>rw [e] at h2;cases h2;rfl
  obtain ⟨u,hu,rv⟩:=r.get ha
  have hp:ps[i]?=some y:=by
   rw [←S.pre,List.getElem?_take_of_lt (by trivial)];exact h1
  have ndP:ps.Nodup:=by rw [←S.pre];exact S.nd.sublist (List.take_sublist _ _)
  refine ⟨u,rv,?_⟩
  rcases S.par y (List.mem_of_getElem? hp) with k | k
  ·exact .inl ⟨k,wT ndP hp hu k⟩
  ·obtain ⟨c,e⟩:=yw (n:=s.heap.objs.size+1) k
   refine .inr ⟨.inl k,c,e,?_⟩
   have q:=x.cell y c e
   rw [xa ndP hp hu (by show scope.names.lookup y≠_;rw [k];decide)] at q
   exact q
 ·exact e0.hok.fresh (Nat.le_of_lt (x.above y c (PySem.mem_of_lookup h)))
 ·unfold mV
  show _=N.length
  rw [List.length_append,List.length_map,List.length_replicate]
  trivial
theorem Dn {CX:kf}{P:Program}{w:World}{K:PySem.W.Frag}{mg:Str→Option Value}{base:Heap}{k:Nat}{f:Addr}{name qual:Str}{params:Arguments}{body:List Stmt}{scope:Scope}{dV kV doc pm cdv ct oc:Value}{an od:Option Addr}
 {osl:Array (Option Value)}{N ps:List Str}{sp:Sp} (lk:K.lookup f=some ⟨oc,od,.func (PySem.W.fnOf name qual params body scope dV kV doc pm an cdv ct),osl⟩) (hcd:PySem.W.codeIn K cdv qual=true) (S:ar N ps scope)
 (len:∀vs H Q E,sp vs H Q E→vs.length=ps.length)
 (hbody:∀(A:Around) (outer:List Env) (s:Shared) (H:Hp) (vs:List V) (Q:VK) (E:XK),cL k (A.deeper (envOfC qual scope s.heap.objs.size f cdv))→sp vs H Q E→
  ∃t,oP (qJ CX P w K mg base N qual scope f cdv A outer s H E) body t∧t { nx:=fun _ H'=>Q .non H',rt:=Q } (mV N vs) H) :
 aD P w K mg base CX (k+1) f (PySem.W.fnOf name qual params body scope dV kV doc pm an cdv ct) ps sp:=by
 refine ⟨len,fun A outer s H args us vs Q E hr e0 hb r hsp=>?_⟩
 have hl:=len _ _ _ _ hsp
 have KX:K.In s.heap:=e0.mod.kin.keeps fun b o e=>(e0.bs b o e).1
 have lim:s.heap.NoLimit:=e0.mod.nolimit.keeps fun b o e=>(e0.bs b o e).1
 have hkind:∀y∈ps.zip us,scope.names.lookup y.1=some .local∨(scope.names.lookup y.1=some .cell∧((cellsFrom (s.heap.objs.size+1) scope.names []).lookup y.1).isSome=true):=fun ⟨n,v⟩ hy=>by
  rcases S.par n (List.of_mem_zip hy).1 with q | q
  ·exact .inl q
  ·exact .inr ⟨q,PySem.W.cellsFrom_some _ _ _ (.inl q)⟩
 refine codeAny_call_function hr.depth (KX _ _ lk) rfl S.co S.gen rfl (PySem.W.codeRec_of KX hcd) (hb _ _ _ _ ?_)
 refine wpAny_newFunctionEnv_cells S.kind hkind fun env he s1 x=>?_
 subst he
 refine ⟨lim.keeps x.toInCall.keep,codeAny_func ?_⟩
 obtain ⟨t,ht,hq⟩:=hbody A outer s H vs Q E (hr.deeper _) hsp
 have I:aj (qJ CX P w K mg base N qual scope f cdv A outer s H E) [] (mV N vs) H s1:=A5 S hr.hd e0 hl r x
 refine wpAny_mono (ht [] s1 (mV N vs) H _ I hq) (fun fl s' hs=>?_) fun e s' hs=>hs
 have fin:∀{σ':St}{H':Hp}{v:V}{u:Value},aj (qJ CX P w K mg base N qual scope f cdv A outer s H E) [] σ' H' s'→bh v u→Q v H'→CE outer P w H s Q u s':=
  fun {σ' H' v u} J rv q=>⟨v,H',J.os,J.bare,J.base,J.hok,rv,q⟩
 cases fl with
 | ret u=>
  obtain ⟨v,σ',H',J,rv,q⟩:=hs
  exact fin J rv q
 | next=>
  obtain ⟨σ',H',J,q⟩:=hs
  exact fin (v:=V.non) (u:=Value.none) J rfl q
 | brk=>
  obtain ⟨_,_,_,q⟩:=hs
  exact False.elim q
 | cont=>
  obtain ⟨_,_,_,q⟩:=hs
  exact False.elim q
end L2
namespace L2
open PySem PySem.Spec PyProof.Rows
section
variable {X:Cx}{x:Str}{p pos:Pos}{e:Expr}{es:List Expr}{t:TA}{id T:String}{r:List V→Hp→VK→Prop}
def IE (r:List V→Hp→VK→Prop) (t:TA):TE:=fun σ H Q=>t σ H fun vs H1=>r vs H1 Q
theorem gI (hc:gL X (.builtin id) r) (hg:Gl X x) (hm:X.mg x=none) (hv:bootBuiltins x=some (.builtin id)) (ha:PA X (e :: es) t) (hn:x≠"__name__" := by decide) (hdb:(x==("__debug__" : Str))=false:=by decide)
 (he:starEach (e :: es) X.env=(false,eval e X.env) :: starEach es X.env:=by rfl) (hpl:(backTo pos (starEach es X.env)).any (·.1)=false:=by rfl):PE X (.Call (.Name x p) (e :: es) [] pos) (IE r t):=by
 intro pins s σ H Q I h
 refine wpAny_Call_Name_kw (nK I hg hm hv ?_ hn hdb)
 exact PyProof.Rows.callWith_builtin1 (aR (ha pos pins s σ H _ I h) fun us s1 ⟨vs,H1,I1,r1,q1⟩=>hc pins s1 σ H1 vs us Q I1 r1 q1) he hpl
theorem bW (hc:gL X (.type T) r) (hg:Gl X x) (hm:X.mg x=none) (hv:bootBuiltins x=some (.type T)) (ha:PA X (e :: es) t) (hn:x≠"__name__" := by decide) (hdb:(x==("__debug__" : Str))=false:=by decide)
 (he:starEach (e :: es) X.env=(false,eval e X.env) :: starEach es X.env:=by rfl) (hpl:(backTo pos (starEach es X.env)).any (·.1)=false:=by rfl):PE X (.Call (.Name x p) (e :: es) [] pos) (IE r t):=by
 intro pins s σ H Q I h
 refine wpAny_Call_Name_kw (nK I hg hm hv ?_ hn hdb)
 exact PyProof.Rows.callWith_type1 (aR (ha pos pins s σ H _ I h) fun us s1 ⟨vs,H1,I1,r1,q1⟩=>hc pins s1 σ H1 vs us Q I1 r1 q1) he hpl
end
end L2
namespace HT
open PySem PyProof.Rows
section
open PySem.SeqAt
open PySem.AutoSeq1 (wpAny_loadPart')
open PySem.MeetsSeq PySem.MeetsSeq2 PySem.MeetsSeq3
end
section
variable {prog:Program}{w:World}{A:Around}{E:Value→Shared→Prop}{s:Shared}
theorem cat_tup {t b:Addr}{vs ws:List Value}{Q:Value→Shared→Prop} (ht:IsTup s.heap t vs.toArray) (hb:IsTup s.heap b ws.toArray) (hv:vs≠[])
 (h1:ws=[]→Q (.ref t) s) (h2:ws≠[]→Q (.ref s.heap.objs.size) { s with heap:=s.heap.push { cls:=.type "tuple",data:=.seq (vs++ws).toArray } })
 (hsz:vs.length+ws.length≤sizeLine):wpAny (model prog w) A (binaryOp .Add (.ref t) (.ref b)) Q E s:=by
 obtain ⟨⟨cls,dd,data,sl⟩,ho,hc,n,hd⟩:=id ht
 obtain ⟨⟨cls2,dd2,data2,sl2⟩,ho2,hc2,n2,hd2⟩:=id hb
 simp only at hc hd hc2 hd2
 subst hc hd hc2 hd2
 have e:vs.toArray++ws.toArray=(vs++ws).toArray:=by simp
 by_cases hw:ws=[]
 ·exact concat_meets ⟨_,ho,rfl⟩ ⟨_,ho2,rfl⟩ noFill_tuple_add seq_tuple_add PySem.F.slot_tuple_add PySem.F.entry_tuple_add (PySem.F.args_tuple_add_2 _ _)
   (tuple_addW1 t b vs.toArray ws.toArray n n2 dd dd2 sl sl2 (by simpa using hv) (by simp [hw])) ⟨ho,ho2,h1 hw⟩
 ·refine concat_meets ⟨_,ho,rfl⟩ ⟨_,ho2,rfl⟩ noFill_tuple_add seq_tuple_add PySem.F.slot_tuple_add PySem.F.entry_tuple_add (PySem.F.args_tuple_add_2 _ _)
   (tuple_addW2 t b vs.toArray ws.toArray n n2 dd dd2 sl sl2 (by simpa using hv) (by simpa using hw) (by rw [List.size_toArray,List.size_toArray];exact hsz)) ⟨ho,ho2,?_⟩
  rw [e]
  exact h2 hw
def sIx (n d:Nat):Option Int→Nat
 | none=>d
 | some v=>if v<0 then (v+(n:Int)).toNat else min v.toNat n
theorem sIx_none (n d:Nat):sIx n d none=d:=rfl
theorem sIx_nat (n d k:Nat):sIx n d (some (k:Int))=min k n:=by
 show (if (k:Int)<0 then ((k:Int)+(n:Int)).toNat else min (k:Int).toNat n)=min k n
 rw [if_neg (by trivial),Int.toNat_natCast]
theorem GL (n d:Nat) (hd:d≤n) (o:Option Int):sIx n d o≤n:=by
 cases o with
 | none=>exact hd
 | some v=>
  show (if v<0 then (v+(n:Int)).toNat else min v.toNat n)≤n
  by_cases hv:v<0
  ·rw [if_pos hv];trivial
  ·rw [if_neg hv];exact Nat.min_le_right _ _
theorem zh (v:Int) (n d:Nat):(if v<0 then max (v+(n:Int)) 0 else min v (n:Int))=((sIx n d (some v):Nat):Int):=by
 show (if v<0 then max (v+(n:Int)) 0 else min v (n:Int))=(((if v<0 then (v+(n:Int)).toNat else min v.toNat n):Nat):Int)
 by_cases hv:v<0
 ·simp only [if_pos hv];trivial
 ·simp only [if_neg hv];trivial
theorem zS (lo hi:Option Int) (n:Nat):Builtin.Slice.sliceAdjust lo hi 1 (n:Int)=(((sIx n 0 lo:Nat):Int),((sIx n n hi:Nat):Int)):=by
 have h1:¬((1:Int)<0):=by trivial
 unfold Builtin.Slice.sliceAdjust
 simp only [h1,if_false]
 refine Prod.ext ?_ ?_
 ·cases lo with
  | none=>rfl
  | some v=>exact zh v n 0
 ·cases hi with
  | none=>rfl
  | some v=>exact zh v n n
theorem zY (i j:Nat):Builtin.Slice.slicePlaces (i:Int) (j:Int) 1=j - i:=by
 unfold Builtin.Slice.slicePlaces
 have h1:(1:Int) > 0:=by trivial
 simp only [h1,if_true,Int.ediv_one]
 split <;> trivial
theorem vQ {v:Value}{o:Option Int}{Q:Option Int→Shared→Prop} (p:IsPart v o) (h:Q o s):wpAny (model prog w) A (Builtin.Slice.slicePartIndex v) Q E s:=by
 cases p with
 | none=>exact slicePart_none h
 | int i t=>exact slicePart_int h
theorem oh {sl:Addr}{vl vu:Value}{lo hi:Option Int}{n:Nat}{Q:Int×Int×Nat→Shared→Prop} (hs:s.heap.IsSliceOf sl vl vu .none) (pl:IsPart vl lo) (pu:IsPart vu hi)
 (h:Q (((sIx n 0 lo:Nat):Int),1,sIx n n hi - sIx n 0 lo) s):wpAny (model prog w) A (Builtin.Slice.sliceApplied (.ref sl) (pure (n:Int))) Q E s:=by
 obtain ⟨os,hos,hcs,hds⟩:=id hs
 unfold Builtin.Slice.sliceApplied Builtin.Slice.sliceFields
 refine wpAny_bind (wpAny_bind (wpAny_field hos hds (x:=vl) rfl (wpAny_bind (wpAny_field hos hds (x:=vu) rfl (wpAny_bind (wpAny_field hos hds (x:=.none) rfl (wpAny_pure ?_)))))))
 refine wpAny_bind (slicePart_none ?_)
 show wpAny _ _ (if ((1:Int)==0)=true then _ else _) _ _ s
 rw [if_neg (by decide)]
 refine wpAny_bind (vQ pl (wpAny_bind (vQ pu (wpAny_bind (wpAny_pure ?_)))))
 show wpAny _ _ (match Builtin.Slice.sliceAdjust lo hi 1 (n:Int) with | (lo,hi)=>pure (lo,(1:Int),Builtin.Slice.slicePlaces lo hi 1)) _ _ s
 rw [zS lo hi n]
 show wpAny _ _ (pure (((sIx n 0 lo:Nat):Int),(1:Int),Builtin.Slice.slicePlaces ((sIx n 0 lo:Nat):Int) ((sIx n n hi:Nat):Int) 1)) _ _ s
 rw [zY]
 exact wpAny_pure h
theorem BU (xs:Array Value) (i k:Nat):((List.range k).filterMap fun (m:Nat)=>xs[((i:Int)+(m:Int)*1).toNat]?).toArray=((xs.toList.drop i).take k).toArray:=by
 have e:(fun (m:Nat)=>xs[((i:Int)+(m:Int)*1).toNat]?)=fun m=>xs[i+m]?:=by
  funext m
  have:((i:Int)+(m:Int)*1).toNat=i+m:=by trivial
  rw [this]
 rw [e]
 have:=pick_run xs i k
 rw [List.filterMap_map] at this
 have e2:((fun x=>xs[x]?) ∘ fun x=>i+x)=fun m=>xs[i+m]?:=rfl
 rw [e2] at this
 rw [this]
theorem getItem_tuple_cut {t sl:Addr}{items:Array Value}{vl vu:Value}{lo hi:Option Int}{Q:Value→Shared→Prop} (ht:IsTup s.heap t items) (hs:s.heap.IsSliceOf sl vl vu .none) (pl:IsPart vl lo) (pu:IsPart vu hi)
 (hw:¬(sIx items.size 0 lo=0∧sIx items.size items.size hi=items.size))
 (h:Q (.ref s.heap.objs.size) { s with heap:=s.heap.push { cls:=.type "tuple",data:=.seq ((items.toList.drop (sIx items.size 0 lo)).take (sIx items.size items.size hi - sIx items.size 0 lo)).toArray } })
 (hsz:items.size≤sizeLine):wpAny (model prog w) A (getItem (.ref t) (.ref sl)) Q E s:=by
 have htake:sizeOk (.seq ((items.toList.drop (sIx items.size 0 lo)).take (sIx items.size items.size hi - sIx items.size 0 lo)).toArray):=by
  show ((items.toList.drop (sIx items.size 0 lo)).take (sIx items.size items.size hi - sIx items.size 0 lo)).toArray.size≤sizeLine
  rw [List.size_toArray,List.length_take,List.length_drop,Array.length_toList]
  exact Nat.le_trans (Nat.min_le_right ..) (Nat.le_trans (Nat.sub_le ..) hsz)
 have hj:sIx items.size items.size hi≤items.size:=GL _ _ (Nat.le_refl _) hi
 obtain ⟨os,hos,hcs,hds⟩:=id hs
 have hTs:s.TypeIs (.ref sl) "slice" := ⟨os,hos,hcs⟩
 unfold getItem
 try with_reducible refine wpAny_holding ?_
 first | refine wpAny_bind (wpAny_pure ?_) | skip
 refine wpAny_bind (wpAny_sequenceKey ht.typeIs (by decide) ?_)
 refine wpAny_bind (wpAny_callSpecial?_slot (name:=Str.ofString "__getitem__") ht.typeIs PyProof.Rows.slot_tuple_getitem
  (wpAny_call_entry PyProof.Rows.slot_tuple_getitem ht.typeIs entry_tuple_getitem ?_ (args_tuple_getitem _ _)))
 show wpAny _ _ (Builtin.Tuple.tupleItemsOf (.ref t) >>= _) _ _ s
 refine wpAny_bind (tupleItemsOf_ ht ?_)
 refine wpAny_bind (wpAny_typeOf hTs ?_)
 rw [if_pos (by decide)]
 refine wpAny_bind (oh hs pl pu ?_)
 have hno:¬((((sIx items.size 0 lo:Nat):Int)==0 && (1:Int)==1 && (sIx items.size items.size hi - sIx items.size 0 lo)==items.size)=true):=by
  intro q
  rw [Bool.and_eq_true,Bool.and_eq_true] at q
  have q1:((sIx items.size 0 lo:Nat):Int)=0:=eq_of_beq q.1.1
  have q2:sIx items.size items.size hi - sIx items.size 0 lo=items.size:=eq_of_beq q.2
  exact hw ⟨by trivial,by trivial⟩
 show wpAny _ _ (if (((sIx items.size 0 lo:Nat):Int)==0 && (1:Int)==1 && (sIx items.size items.size hi - sIx items.size 0 lo)==items.size)=true then _ else _) _ _ s
 rw [if_neg hno,BU]
 first
  | exact wpAny_bind (m:=Builtin.Tuple.tupleExact _) (wpAny_newObj_type (wpAny_pure ⟨_,rfl,wpAny_pure h⟩) htake)
  | exact wpAny_bind (m:=Builtin.Tuple.tupleExact _) (wpAny_newObj_type (wpAny_bind (wpAny_pure (wpAny_pure ⟨_,rfl,wpAny_pure h⟩))) htake)
  | exact wpAny_bind (wpAny_bind (m:=Builtin.Tuple.tupleExact _) (wpAny_newObj_type (wpAny_pure (wpAny_pure ⟨_,rfl,wpAny_pure h⟩)) htake))
  | exact wpAny_bind (wpAny_bind (m:=Builtin.Tuple.tupleExact _) (wpAny_newObj_type (wpAny_pure ⟨_,rfl,wpAny_pure h⟩) htake))
end
end HT
namespace L2
open PySem PySem.Spec PyProof.Rows
abbrev TO:=St→Hp→(Option Int→Hp→Prop)→Prop
def PO (X:Cx) (e:Option Expr) (t:TO):Prop:=
 ∀(pins:List (Addr×Obj)) (s:Shared) (σ:St) (H:Hp) (Q:Option Int→Hp→Prop),aj X pins σ H s→t σ H Q→
   wpAny (model X.prog X.w) X.A (evalPart e X.env) (fun u s'=>bX fun o H'=>aj X pins σ H' s'∧IsPart u o∧Q o H') X.xe s
def DZ:TO:=fun _ H Q=>Q none H
def HL (t:TE):TO:=fun σ H Q=>t σ H fun x H1=>FZ x fun i=>Q (some i) H1
section
variable {X:Cx}{e:Expr}{te:TE}{lo hi:Option Expr}{tl th:TO}{pos p2:Pos}
theorem gn:PO X none DZ:=by
 intro pins s σ H Q I h
 rw [evalPart_none]
 exact wpAny_pure ⟨none,H,I,.none,h⟩
theorem dW (h:PE X e te):PO X (some e) (HL te):=by
 intro pins s σ H Q I hw
 rw [evalPart_some]
 refine aR (h pins s σ H _ I hw) fun u s1 ⟨x,H1,I1,r1,q1⟩=>?_
 obtain ⟨i,rfl,q⟩:=q1
 obtain ⟨t,rfl⟩:=r1
 exact ⟨some i,H1,I1,.int i t,q⟩
def Bb (X:Cx) (r:V→Option Int→Option Int→Hp→VK→Prop):Prop:=
 ∀(pins:List (Addr×Obj)) (s:Shared) (σ:St) (H:Hp) (x:V) (v vl vu:Value) (lo hi:Option Int) (sl:Addr) (Q:VK),aj X pins σ H s→bh x v→s.heap.IsSliceOf sl vl vu .none→IsPart vl lo→IsPart vu hi→r x lo hi H Q→
   bX fun T id=>typeLookup (.type T) "__getitem__" = pure (some (.builtin id))∧s.TypeIs v T∧wpAny (model X.prog X.w) X.A (getItem v (.ref sl)) (EP X pins σ Q) X.xe s
def JG (r:V→Option Int→Option Int→Hp→VK→Prop) (te:TE) (tl th:TO):TE:=fun σ H Q=>te σ H fun x H1=>tl σ H1 fun l H2=>th σ H2 fun u H3=>r x l u H3 Q
theorem d7 {r:V→Option Int→Option Int→Hp→VK→Prop} (hr:Bb X r) (he:PE X e te) (hl:PO X lo tl) (hu:PO X hi th):PE X (.Subscript e (.Slice lo hi none p2) pos) (JG r te tl th):=by
 intro pins s σ H Q I h
 refine Subscript_ (aR (he pins s σ H _ I h) fun v s1 ⟨x,H1,I1,r1,q1⟩=>?_)
 refine wpAny_Slice (aR (hl pins s1 σ H1 _ I1 q1) fun vl s2 ⟨l,H2,I2,pl,q2⟩=>aR (hu pins s2 σ H2 _ I2 q2) fun vu s3 ⟨u,H3,I3,pu,q3⟩=>?_)
 rw [evalPart_none]
 refine wpAny_pure ?_
 have I4:aj X pins σ H3 { s3 with heap:=s3.heap.push { cls:=.type "slice",data:=.fields #[vl,vu,.none] } }:=I3.kept (t':=s3.toks) fun b ob q=>Heap.get?_push_of_some _ q
 obtain ⟨T,id,hT,ht,hg⟩:=hr pins { s3 with heap:=s3.heap.push { cls:=.type "slice",data:=.fields #[vl,vu,.none] } } σ H3 x v vl vu l u s3.heap.objs.size Q I4 r1 (Heap.IsSliceOf.new ..) pl pu q3
 show wpAny (model X.prog X.w) X.A (subscriptTail e (.Slice lo hi none p2) v (.ref s3.heap.objs.size)) (EP X pins σ Q) X.xe { s3 with heap:=s3.heap.push { cls:=.type "slice",data:=.fields #[vl,vu,.none] } }
 exact tail_any (ops:=[.ref s3.heap.objs.size,v]) ht hT hg (by with_unfolding_all rfl)
def gY (xs:List V) (lo hi:Option Int):List V:=(xs.drop (HT.sIx xs.length 0 lo)).take (HT.sIx xs.length xs.length hi - HT.sIx xs.length 0 lo)
theorem uA (xs:List V) (lo hi:Option Int):(gY xs lo hi).length≤xs.length:=by
 unfold gY
 rw [List.length_take,List.length_drop]
 exact Nat.le_trans (Nat.min_le_right ..) (Nat.sub_le ..)
inductive Hs (K:PySem.W.Frag) (x:V) (lo:Option Int) (hi:Option Int) (H:Hp) (Q:VK):Prop
 | mk (a:_) (xs:_) (h0:x=.ref a) (h1:ae K H a xs) (h2:¬(HT.sIx xs.length 0 lo=0∧HT.sIx xs.length xs.length hi=xs.length)) (h3:∀p,H p=none→Q (.ref p) (aJ H p (.tup (gY xs lo hi))))
def IR (K:PySem.W.Frag):V→Option Int→Option Int→Hp→VK→Prop:=fun x lo hi H Q=>Hs K x lo hi H Q
theorem GF:Bb X (IR X.K):=by
 intro pins s σ H x v vl vu lo hi sl Q I rx hs pl pu h
 obtain ⟨a,xs,rfl,hx,hw,q⟩:=h
 cases rx
 obtain ⟨its,r,ht,hz⟩:=I.tuple hx
 have hlen:its.toArray.size=xs.length:=by rw [List.size_toArray];exact r.length.symm
 refine ⟨"tuple",_,PyProof.Rows.slot_tuple_getitem.lookup,ht.typeIs,?_⟩
 refine HT.getItem_tuple_cut ht hs pl pu (by rw [hlen];exact hw) ?_ (by rw [hlen];exact hz)
 rw [hlen]
 refine ⟨.ref s.heap.objs.size,_,I.laid (t':=s.toks) (o:=.tup (gY xs lo hi)) (fun b ob q=>Heap.get?_push_of_some _ q) (Nat.le_refl _) ?_,rfl,q _ (I.hok.fresh (Nat.le_refl _))⟩
 exact ⟨Nat.le_trans (uA xs lo hi) hz,_,(r.drop (HT.sIx xs.length 0 lo)).take (HT.sIx xs.length xs.length hi - HT.sIx xs.length 0 lo),IsTup.new _ _,_,Heap.get?_push_size _ rfl,rfl⟩
inductive Hh (K:PySem.W.Frag) (x:V) (y:V) (H:Hp) (Q:VK):Prop
 | mk (a:_) (b:_) (xs:_) (ys:_) (h0:x=.ref a) (h1:y=.ref b) (h2:ae K H a xs) (h3:ae K H b ys) (h4:xs≠[]) (h5:xs.length+ys.length≤sizeLine) (h6:(ys=[]→Q (.ref a) H)) (h7:(ys≠[]→∀p,H p=none→Q (.ref p) (aJ H p (.tup (xs++ys)))))
def Hn (K:PySem.W.Frag):R2:=fun x y H Q=>Hh K x y H Q
theorem aE.nil_iff {xs:List V}{us:List Value} (r:aE xs us):us=[]↔xs=[]:=by
 cases r with
 | nil=>simp
 | cons _ _=>simp
theorem Fj:cz X (binaryOp .Add) (Hn X.K):=by
 intro pins s σ H x y v u Q I rx ry h
 obtain ⟨a,b,xs,ys,rfl,rfl,ha,hb,hx,hz,q1,q2⟩:=h
 cases rx
 cases ry
 obtain ⟨its,r1,p1,_⟩:=I.tuple ha
 obtain ⟨its2,r2,p2,_⟩:=I.tuple hb
 refine HT.cat_tup p1 p2 (fun z=>hx (r1.nil_iff.mp z)) (fun z=>⟨.ref a,H,I,rfl,q1 (r2.nil_iff.mp z)⟩) (fun z=>?_) (by rw [←r1.length,←r2.length];exact hz)
 refine ⟨.ref s.heap.objs.size,_,I.laid (t':=s.toks) (o:=.tup (xs++ys)) (fun b ob q=>Heap.get?_push_of_some _ q) (Nat.le_refl _) ?_,rfl,q2 (fun w=>z (r2.nil_iff.mpr w)) _ (I.hok.fresh (Nat.le_refl _))⟩
 exact ⟨by rw [List.length_append];exact hz,_,r1.append r2,IsTup.new _ _,_,Heap.get?_push_size _ rfl,rfl⟩
end
def uL (n:Nat) (i:Int):Option Nat:=if 0≤i then (if i<n then some i.toNat else none) else if -(n:Int)≤i then some (i+n).toNat else none
def jY {α:Type} (xs:List α) (i:Int):Option α:=(uL xs.length i).bind fun j=>xs[j]?
theorem zb {n:Nat}{i:Int}{j:Nat} (h:uL n i=some j):seqIndex? i n=some j∧j<n∧-(n:Int)≤i∧i<n:=by
 unfold uL at h
 by_cases h0:0≤i
 ·rw [if_pos h0] at h
  by_cases h1:i<n
  ·rw [if_pos h1] at h
   have e:i.toNat=j:=Option.some.inj h
   exact ⟨by rw [seqIndex_of h0 h1,e],by trivial,by trivial,h1⟩
  ·rw [if_neg h1] at h;cases h
 ·rw [if_neg h0] at h
  by_cases h1:-(n:Int)≤i
  ·rw [if_pos h1] at h
   have e:(i+n).toNat=j:=Option.some.inj h
   exact ⟨by rw [seqIndex_neg (by trivial) h1,e],by trivial,h1,by trivial⟩
  ·rw [if_neg h1] at h;cases h
theorem wB {α:Type}{xs:List α}{i:Int}{v:α} (h:jY xs i=some v):∃j,seqIndex? i xs.length=some j∧xs[j]?=some v∧j<xs.length∧-(xs.length:Int)≤i∧i<xs.length:=by
 unfold jY at h
 cases e:uL xs.length i with
 | none=>rw [e] at h;cases h
 | some j=>
  rw [e] at h
  obtain ⟨h1,h2,h3,h4⟩:=zb e
  exact ⟨j,h1,h,h2,h3,h4⟩
theorem c0 {α:Type}{xs:List α}{j:Nat}{v:α} (h:xs[j]?=some v):jY xs (j:Int)=some v:=by
 have hj:j<xs.length:=(List.getElem?_eq_some_iff.mp h).1
 have e:uL xs.length (j:Int)=some j:=by
  unfold uL
  rw [if_pos (by trivial),if_pos (by trivial)];simp
 unfold jY;rw [e];exact h
theorem bS {α:Type} (xs:List α) (v:α):jY (xs++[v]) (-1)=some v:=by
 have hl:(xs++[v]).length=xs.length+1:=by simp
 have e:uL (xs++[v]).length (-1)=some xs.length:=by
  unfold uL
  rw [hl,if_neg (by decide),if_pos (by trivial)]
  congr 1
  trivial
 unfold jY
 rw [e]
 show (xs++[v])[xs.length]?=some v
 simp
def DN (b:Expr):Prop:=∀o i,subscripted b false o i=operate [o,i] (getItem o i)
def tK (X:Cx) (r:R2):Prop:=
 ∀(value slice:Expr) (pins:List (Addr×Obj)) (s:Shared) (σ:St) (H:Hp) (x y:V) (v u:Value) (Q:VK),aj X pins σ H s→bh x v→bh y u→r x y H Q→
   subscripted slice false v u=operate [v,u] (getItem v u)→wpAny (model X.prog X.w) X.A (subscriptTail value slice v u) (EP X pins σ Q) X.xe s
def A4 (X:Cx) (id:String) (r:V→List V→Hp→VK→Prop):Prop:=
 ∀(pins:List (Addr×Obj)) (s:Shared) (σ:St) (H:Hp) (x:V) (xs:List V) (v:Value) (us:List Value) (Q:VK),aj X pins σ H s→bh x v→aE xs us→r x xs H Q→
   wpAny (model X.prog X.w) X.A (call (.builtin id) (v :: us)) (EP X pins σ Q) X.xe s
section
variable {X:Cx}{a b:Expr}{ta tb:TE}{pos:Pos}
theorem tK.or {r r':R2} (h:tK X r) (h':tK X r'):tK X (fun x y H Q=>r x y H Q∨r' x y H Q):=by
 intro value slice pins s σ H x y v u Q I rx ry q hs
 rcases q with q | q
 ·exact h value slice pins s σ H x y v u Q I rx ry q hs
 ·exact h' value slice pins s σ H x y v u Q I rx ry q hs
theorem gK {r:R2} (hr:tK X r) (ha:PE X a ta) (hb:PE X b tb) (hs:DN b):PE X (.Subscript a b pos) (Dv r ta tb):=by
 intro pins s σ H Q I h
 exact Subscript_ (CL ha hb I h fun v u s2 x y H2 I2 rx ry q=>hr a b pins s2 σ H2 x y v u Q I2 rx ry q (hs _ _))
inductive HK (K:PySem.W.Frag) (x:V) (y:V) (H:Hp) (Q:VK):Prop
 | mk (p:_) (xs:_) (i:_) (v:_) (h0:x=.ref p) (h1:y=.int i) (h2:aA K H p xs) (h3:jY xs i=some v) (h4:Q v H)
def CC (K:PySem.W.Frag):R2:=fun x y H Q=>HK K x y H Q
inductive HP (K:PySem.W.Frag) (x:V) (y:V) (H:Hp) (Q:VK):Prop
 | mk (p:_) (xs:_) (i:_) (v:_) (h0:x=.ref p) (h1:y=.int i) (h2:ae K H p xs) (h3:jY xs i=some v) (h4:Q v H)
def CG (K:PySem.W.Frag):R2:=fun x y H Q=>HP K x y H Q
inductive ID (x:V) (y:V) (H:Hp) (Q:VK):Prop
 | mk (z:_) (i:_) (c:_) (h0:x=.str z) (h1:y=.int i) (h2:z.length≤sizeLine) (h3:jY z.cps.toList i=some c) (h4:Q (.str ⟨#[c]⟩) H)
def F8:R2:=fun x y H Q=>ID  x y H Q
theorem y4:tK X (CC X.K):=by
 intro value slice pins s σ H x y v u Q I rx ry h hs
 obtain ⟨p,xs,i,z,rfl,rfl,hq,he,q⟩:=h
 cases rx
 obtain ⟨t,rfl⟩:=ry
 obtain ⟨its,r,pl,hz⟩:=I.list hq
 obtain ⟨j,h1,h2,h3,h4,h5⟩:=wB he
 obtain ⟨w,ew,rw'⟩:=r.get h2
 have hl:=r.length
 have hn:=tR
 have fin:EP X pins σ Q w s:=⟨z,H,I,rw',q⟩
 by_cases h0:0≤i
 ·have hj:i.toNat=j:=by
   rw [seqIndex_of h0 h5] at h1
   exact Option.some.inj h1
  exact item_listR pl.isList h0 (by trivial) (by rw [hj];simpa using ew) fin hs
 ·have hj:(i+(its.toArray.size:Int)).toNat=j:=by
   rw [seqIndex_neg (by trivial) h4] at h1
   rw [List.size_toArray,←hl]
   exact Option.some.inj h1
  exact subscriptTail_builtinR (x:=w) pl.isList.typeIs slot_list_getitem.lookup
   (wpAny_getItem_list_neg (Q:=fun r s'=>r=w∧EP X pins σ Q r s') pl.isList (by trivial) (by rw [List.size_toArray] <;> trivial) (by trivial) (by rw [hj];simpa using ew) ⟨rfl,fin⟩) hs
theorem Br:tK X (CG X.K):=by
 intro value slice pins s σ H x y v u Q I rx ry h hs
 obtain ⟨p,xs,i,z,rfl,rfl,hq,he,q⟩:=h
 cases rx
 obtain ⟨t,rfl⟩:=ry
 obtain ⟨its,r,pl,hz⟩:=I.tuple hq
 obtain ⟨j,h1,h2,h3,h4,h5⟩:=wB he
 obtain ⟨w,ew,rw'⟩:=r.get h2
 have hl:=r.length
 have hn:=tR
 have fin:EP X pins σ Q w s:=⟨z,H,I,rw',q⟩
 exact subscriptTail_builtinR (x:=w) pl.typeIs slot_tuple_getitem.lookup
  (getItem_tuple (j:=j) (Q:=fun r s'=>r=w∧EP X pins σ Q r s') pl (by trivial) (by trivial) (by rw [List.size_toArray,←hl];exact h1) (by simpa using ew) ⟨rfl,fin⟩) hs
theorem sU:tK X F8:=by
 intro value slice pins s σ H x y v u Q I rx ry h hs
 obtain ⟨z,i,c,rfl,rfl,hz,he,q⟩:=h
 obtain ⟨t,rfl⟩:=rx
 obtain ⟨t',rfl⟩:=ry
 obtain ⟨j,h1,h2,h3,h4,h5⟩:=wB he
 have hl:z.cps.toList.length=z.length:=by simp [Str.length]
 rw [hl] at h1 h4 h5
 have hn:=tR
 exact tail_any (typeIs_str s z t) slot_str_getitem.lookup (getItem_str (c:=c) (by
  have e1:decide (i < -(2 ^ 63:Int))=false:=decide_eq_false (by trivial)
  have e2:decide (i≥2 ^ 63)=false:=decide_eq_false (by trivial)
  rw [e1,e2,Bool.or_false]) (by rw [h1];simpa using h2) ⟨.str ⟨#[c]⟩,H,I.tok _,⟨()⟩,q⟩) hs
def JM (K:PySem.W.Frag):R2:=fun x y H Q=>CC K x y H Q∨CG K x y H Q∨F8 x y H Q
theorem kD:tK X (JM X.K):=y4.or (Br.or sU)
theorem zT (its:List Value) (n j:Nat) (u:Value):Obj.mapSeq (·.setIfInBounds j u) { cls:=.type "list",data:=.seq its.toArray n }={ cls:=.type "list",data:=.seq (its.set j u).toArray n }:=by
 simp [Obj.mapSeq]
theorem aj.lst {pins:List (Addr×Obj)}{σ:St}{H:Hp}{s:Shared}{p:Addr}{xs:List V} (I:aj X pins σ H s) (h:H p=some (.lst xs)) :
 bX fun (its:List Value) (n:Nat)=>aE xs its∧s.heap.get? p=some { cls:=.type "list",data:=.seq its.toArray n }∧xs.length≤sizeLine:=by
 obtain ⟨z,its,n,r,e⟩:=I.hok p _ h
 exact ⟨its,n,r,e,z⟩
theorem aj.lstUpd {pins:List (Addr×Obj)}{σ:St}{H:Hp}{s:Shared}{p:Addr}{xs ys:List V}{its its':List Value}{n n':Nat}{f:Obj→Obj} (I:aj X pins σ H s) (h:H p=some (.lst xs))
 (ho:s.heap.get? p=some { cls:=.type "list",data:=.seq its.toArray n }) (hf:f { cls:=.type "list",data:=.seq its.toArray n }={ cls:=.type "list",data:=.seq its'.toArray n' }) (r:aE ys its') (hz:ys.length≤sizeLine) (t:Nat) :
 aj X pins σ (aJ H p (.lst ys)) { s with heap:=s.heap.update p f,toks:=t }:=by
 have e:(s.heap.update p f).get? p=some { cls:=.type "list",data:=.seq its'.toArray n' }:=by
  rw [Heap.get?_update_self f ho (by rw [hf] <;> rfl),hf]
 refine I.write (x:=p) (e:=p) (by rw [h];trivial) (.inl rfl) (fun b u hb q=>(Heap.get?_update_other _ _ (Ne.symm hb)).trans q) ⟨_,e⟩ ?_
 exact ⟨hz,its',n',r,e⟩
inductive FU (o:V) (i:V) (v:V) (H:Hp) (Q:(Hp→Prop)):Prop
 | mk (p:_) (xs:_) (k:_) (j:_) (h0:o=.ref p) (h1:i=.int k) (h2:H p=some (.lst xs)) (h3:uL xs.length k=some j) (h4:Q (aJ H p (.lst (xs.set j v))))
def HB:V→V→V→Hp→(Hp→Prop)→Prop:=fun o i v H Q=>FU  o i v H Q
theorem uO:Gk X HB:=by
 intro pins s σ H o i v ov iv u Q I ro ri rv h
 obtain ⟨p,xs,k,j,rfl,rfl,hp,hj,q⟩:=h
 cases ro
 obtain ⟨t,rfl⟩:=ri
 obtain ⟨its,n,r,ho,hz⟩:=I.lst hp
 obtain ⟨h1,h2,h3,h4⟩:=zb hj
 have hl:=r.length
 have hn:=tR
 have I':aj X pins σ (aJ H p (.lst (xs.set j v))) { s with heap:=s.heap.update p (Obj.mapSeq (·.setIfInBounds j u)) }:=
  I.lstUpd hp ho (zT its n j u) (r.set rv j) (by rw [List.length_set];exact hz) s.toks
 by_cases h0:0≤k
 ·have hk:k.toNat=j:=by
   rw [seqIndex_of h0 h4] at h1
   exact Option.some.inj h1
  exact PySem.W.ki_setAt ho h0 (by trivial) (by rw [List.size_toArray,←hl];exact h4) (by rw [hk];exact ⟨_,I',q⟩)
 ·have hk:(k+(its.toArray.size:Int)).toNat=j:=by
   rw [seqIndex_neg (by trivial) h3] at h1
   rw [List.size_toArray,←hl]
   exact Option.some.inj h1
  exact PySem.W.ki_setBack ho (by trivial) (by rw [List.size_toArray,←hl];exact h3) (by trivial) (by rw [hk];exact ⟨_,I',q⟩)
theorem yh (lo hi:Option Int) (n:Nat):(sliceBounds lo hi none n).1=((HT.sIx n 0 lo:Nat):Int)∧(sliceBounds lo hi none n).2.1=((HT.sIx n n hi:Nat):Int)∧(sliceBounds lo hi none n).2.2=1:=by
 refine ⟨?_,?_,rfl⟩
 ·cases lo with
  | none=>simp [sliceBounds,HT.sIx]
  | some i=>
   simp only [sliceBounds,HT.sIx,Option.getD_none,show (1:Int) > 0 by decide,if_true]
   by_cases h:i<0
   ·simp only [h,if_true] <;> trivial
   ·simp only [h,if_false] <;> trivial
 ·cases hi with
  | none=>simp [sliceBounds,HT.sIx]
  | some i=>
   simp only [sliceBounds,HT.sIx,Option.getD_none,show (1:Int) > 0 by decide,if_true]
   by_cases h:i<0
   ·simp only [h,if_true] <;> trivial
   ·simp only [h,if_false] <;> trivial
theorem xB (its:List Value) (lo hi:Option Int):slicePick its.toArray lo hi none=((its.drop (HT.sIx its.length 0 lo)).take (HT.sIx its.length its.length hi - HT.sIx its.length 0 lo)).toArray:=by
 obtain ⟨h1,h2,h3⟩:=yh lo hi its.toArray.size
 unfold slicePick
 rw [h1,h2,h3]
 simp only [sliceRange_one,pick_run,List.size_toArray] <;> rfl
inductive HF (K:PySem.W.Frag) (x:V) (lo:Option Int) (hi:Option Int) (H:Hp) (Q:VK):Prop
 | mk (a:_) (xs:_) (h0:x=.ref a) (h1:aA K H a xs) (h2:∀p,H p=none→Q (.ref p) (aJ H p (.lst (gY xs lo hi))))
def Jo (K:PySem.W.Frag):V→Option Int→Option Int→Hp→VK→Prop:=fun x lo hi H Q=>HF K x lo hi H Q
theorem wk:Bb X (Jo X.K):=by
 intro pins s σ H x v vl vu lo hi sl Q I rx hs pl pu h
 obtain ⟨a,xs,rfl,hx,q⟩:=h
 cases rx
 obtain ⟨its,r,ht,hz⟩:=I.list hx
 have hlen:=r.length
 refine ⟨"list",_,slot_list_getitem.lookup,ht.isList.typeIs,?_⟩
 refine wpAny_getItem_list_slice ht.isList hs pl pu .none (by simp) ?_ (by rw [List.size_toArray] <;> trivial)
 rw [xB,←hlen]
 refine ⟨.ref s.heap.objs.size,_,I.laid (t':=s.toks) (o:=.lst (gY xs lo hi)) (fun b ob q=>Heap.get?_push_of_some _ q) (Nat.le_refl _) ?_,rfl,q _ (I.hok.fresh (Nat.le_refl _))⟩
 exact ⟨Nat.le_trans (uA xs lo hi) hz,_,0,(r.drop (HT.sIx xs.length 0 lo)).take (HT.sIx xs.length xs.length hi - HT.sIx xs.length 0 lo),Heap.get?_push_size _ rfl⟩
def lP:V→Bool
 | .non=>true
 | .bl _=>true
 | .int _=>true
 | .str _=>true
 | _=>false
def xf:V→V→Bool
 | .non,.non=>true
 | .bl a,.bl b=>a==b
 | .bl a,.int b=>(if a then 1 else 0)==b
 | .int a,.bl b=>a==(if b then 1 else 0)
 | .int a,.int b=>a==b
 | .str a,.str b=>a==b
 | _,_=>false
theorem GW {A:Around}{s:Shared}{y x:V}{u v:Value} (ry:bh y u) (rx:bh x v) (fy:lP y=true) (fx:lP x=true):SeqAt.EqAt A s u v (xf y x):=by
 cases y with
 | non=>
  cases ry
  cases x with
  | non=>cases rx;exact SeqAt.EqAt.same _
  | bl b=>cases rx;exact SeqAt.EqAt.none_bool b
  | int b=>obtain ⟨t,rfl⟩:=rx;exact SeqAt.EqAt.none_int b t
  | str b=>obtain ⟨t,rfl⟩:=rx;exact SeqAt.EqAt.none_str b t
  | _=>exact absurd (show false=true from fx) Bool.false_ne_true
 | bl a=>
  cases ry
  cases x with
  | non=>cases rx;exact SeqAt.EqAt.bool_none a
  | bl b=>cases rx;exact SeqAt.EqAt.bool_bool a b
  | int b=>obtain ⟨t,rfl⟩:=rx;exact SeqAt.EqAt.bool_int a b t
  | str b=>obtain ⟨t,rfl⟩:=rx;exact SeqAt.EqAt.bool_str a b t
  | _=>exact absurd (show false=true from fx) Bool.false_ne_true
 | int a=>
  obtain ⟨t',rfl⟩:=ry
  cases x with
  | non=>cases rx;exact SeqAt.EqAt.int_none a t'
  | bl b=>cases rx;exact SeqAt.EqAt.int_bool a t' b
  | int b=>obtain ⟨t,rfl⟩:=rx;exact SeqAt.EqAt.int_int a t' b t
  | str b=>obtain ⟨t,rfl⟩:=rx;exact SeqAt.EqAt.int_str a t' b t
  | _=>exact absurd (show false=true from fx) Bool.false_ne_true
 | str a=>
  obtain ⟨t',rfl⟩:=ry
  cases x with
  | non=>cases rx;exact SeqAt.EqAt.str_none a t'
  | bl b=>cases rx;exact SeqAt.EqAt.str_bool a t' b
  | int b=>obtain ⟨t,rfl⟩:=rx;exact SeqAt.EqAt.str_int a t' b t
  | str b=>obtain ⟨t,rfl⟩:=rx;exact SeqAt.EqAt.str_str a t' b t
  | _=>exact absurd (show false=true from fx) Bool.false_ne_true
 | _=>exact absurd (show false=true from fy) Bool.false_ne_true
def og (x:V) (u:Value):Bool:=match u with
 | .none=>xf .non x
 | .bool b=>xf (.bl b) x
 | .int i _=>xf (.int i) x
 | .str z _=>xf (.str z) x
 | _=>false
theorem A0 {x y:V}{u:Value} (r:bh y u) (f:lP y=true):og x u=xf y x:=by
 cases y with
 | non=>cases r;rfl
 | bl b=>cases r;rfl
 | int i=>obtain ⟨t,rfl⟩:=r;rfl
 | str z=>obtain ⟨t,rfl⟩:=r;rfl
 | _=>exact absurd (show false=true from f) Bool.false_ne_true
theorem qk {x:V}:∀{xs:List V}{us:List Value},aE xs us→xs.all lP=true→us.any (og x)=xs.any fun y=>xf y x
 | _,_,.nil,_=>rfl
 | y :: xs,u :: us,.cons r t,f=>by
  rw [List.all_cons,Bool.and_eq_true] at f
  rw [List.any_cons,List.any_cons,A0 r f.1,qk t f.2]
theorem nz {A:Around}{s:Shared}{x:V}{v:Value} (rx:bh x v) (fx:lP x=true):∀{xs:List V}{us:List Value},aE xs us→xs.all lP=true→∀u∈us,SeqAt.EqAt A s u v (og x u)
 | _,_,.nil,_=>fun u hu=>by cases hu
 | y :: xs,u :: us,.cons r t,f=>fun u' hu=>by
  rw [List.all_cons,Bool.and_eq_true] at f
  rcases List.mem_cons.mp hu with rfl | hu
  ·rw [A0 r f.1];exact GW r rx f.1 fx
  ·exact nz rx fx t f.2 u' hu
def ze (x:V) (xs:List V):Bool:=xs.any fun y=>xf y x
inductive Jq (K:PySem.W.Frag) (neg:Bool) (x:V) (y:V) (H:Hp) (Q:VK):Prop
 | mk (p:_) (xs:_) (h0:y=.ref p) (h1:(aA K H p xs∨ae K H p xs)) (h2:lP x=true) (h3:xs.all lP=true) (h4:Q (.bl (if neg then !ze x xs else ze x xs)) H)
def DD (K:PySem.W.Frag) (neg:Bool):R2:=fun x y H Q=>Jq K neg x y H Q
theorem Bu:cz X (compareOp .In) (DD X.K false):=by
 intro pins s σ H x y v u Q I rx ry h
 obtain ⟨p,xs,rfl,hq,fx,fs,q⟩:=h
 cases ry
 rcases hq with hq | hq
 ·obtain ⟨its,r,pl,hz⟩:=I.list hq
  refine SeqAt.in_listAt (og x) pl.isList (fun w hw=>nz rx fx r fs w (by simpa using hw)) ⟨.bl _,H,I,rfl,?_⟩
  rw [show its.toArray.any (og x)=its.any (og x) by simp,qk r fs]
  exact q
 ·obtain ⟨its,r,pl,hz⟩:=I.tuple hq
  refine SeqAt.in_tupleAt (og x) pl (fun w hw=>nz rx fx r fs w (by simpa using hw)) ⟨.bl _,H,I,rfl,?_⟩
  rw [show its.toArray.any (og x)=its.any (og x) by simp,qk r fs]
  exact q
theorem xS:cz X (compareOp .NotIn) (DD X.K true):=by
 intro pins s σ H x y v u Q I rx ry h
 obtain ⟨p,xs,rfl,hq,fx,fs,q⟩:=h
 cases ry
 rcases hq with hq | hq
 ·obtain ⟨its,r,pl,hz⟩:=I.list hq
  refine SeqAt.notIn_listAt (og x) pl.isList (fun w hw=>nz rx fx r fs w (by simpa using hw)) ⟨.bl _,H,I,rfl,?_⟩
  rw [show its.toArray.any (og x)=its.any (og x) by simp,qk r fs]
  exact q
 ·obtain ⟨its,r,pl,hz⟩:=I.tuple hq
  refine SeqAt.notIn_tupleAt (og x) pl (fun w hw=>nz rx fx r fs w (by simpa using hw)) ⟨.bl _,H,I,rfl,?_⟩
  rw [show its.toArray.any (og x)=its.any (og x) by simp,qk r fs]
  exact q
theorem ou:gL X (.builtin "len") (fun xs H Q=>bX fun p ys=>xs=[.ref p]∧(aA X.K H p ys∨ae X.K H p ys)∧Q (.int ys.length) H):=by
 intro pins s σ H xs us Q I r h
 obtain ⟨p,ys,rfl,hq,q⟩:=h
 obtain ⟨u,rfl,rx⟩:=tZ r
 cases rx
 have hn:=tR
 rcases hq with hq | hq
 ·obtain ⟨its,r',pl,hz⟩:=I.list hq
  have hlen:=r'.length
  exact Calls.call_len_list pl.isList (by simp only [List.size_toArray] <;> trivial) ⟨.int ys.length,H,I.tok _,⟨s.toks+1,by rw [List.size_toArray,hlen]⟩,q⟩
 ·obtain ⟨its,r',pl,hz⟩:=I.tuple hq
  have hlen:=r'.length
  exact len_tuple pl (by simp only [List.size_toArray] <;> trivial) ⟨.int ys.length,H,I.tok _,⟨s.toks+1,by rw [List.size_toArray,hlen]⟩,q⟩
theorem sR:gL X (.type "list") (fun xs H Q=>bX fun p ys=>xs=[.ref p]∧(aA X.K H p ys∨ae X.K H p ys)∧∀l,H l=none→Q (.ref l) (aJ H l (.lst ys))):=by
 intro pins s σ H xs us Q I r h
 obtain ⟨p,ys,rfl,hq,q⟩:=h
 obtain ⟨u,rfl,rx⟩:=tZ r
 cases rx
 have fin:∀(its:List Value),aE ys its→ys.length≤sizeLine→∀(h':Heap) (c':Nat),(∀b o',s.heap.get? b=some o'→h'.get? b=some o')→
  h'.get? s.heap.objs.size=some { cls:=.type "list",dict:=none,data:=.seq its.toArray c',slots:=#[] }→EP X pins σ Q (.ref s.heap.objs.size) { s with heap:=h' }:=fun its r' hz h' c' kp e=>
  ⟨.ref s.heap.objs.size,_,I.laid (t':=s.toks) kp (Nat.le_refl _) (show b6 X.prog X.w _ h' _ (.lst ys) from ⟨hz,its,c',r',e⟩),rfl,q _ (I.hok.fresh (Nat.le_refl _))⟩
 rcases hq with hq | hq
 ·obtain ⟨its,r',pl,hz⟩:=I.list hq
  have hlen:=r'.length
  obtain ⟨o,ho,hc,n,hd⟩:=pl.isList
  exact call_list_seq p (.inl rfl) ho hc hd (fun h' c' kp e=>fin its r' hz h' c' kp e) (by simp only [List.size_toArray] <;> trivial)
 ·obtain ⟨its,r',pl,hz⟩:=I.tuple hq
  have hlen:=r'.length
  obtain ⟨o,ho,hc,n,hd⟩:=pl
  exact call_list_seq p (.inr rfl) ho hc hd (fun h' c' kp e=>fin its r' hz h' c' kp e) (by simp only [List.size_toArray] <;> trivial)
theorem xr:gL X (.type "tuple") (fun xs H Q=>bX fun p ys=>xs=[.ref p]∧((aA X.K H p ys∧∀l,H l=none→Q (.ref l) (aJ H l (.tup ys)))∨(ae X.K H p ys∧Q (.ref p) H))):=by
 intro pins s σ H xs us Q I r h
 obtain ⟨p,ys,rfl,h⟩:=h
 obtain ⟨u,rfl,rx⟩:=tZ r
 cases rx
 rcases h with ⟨hq,q⟩ | ⟨hq,q⟩
 ·obtain ⟨its,r',pl,hz⟩:=I.list hq
  have hlen:=r'.length
  refine call_tuple_list pl.isList (fun h' kp=>?_) (by simp only [List.size_toArray] <;> trivial)
  have I1:aj X pins σ H { s with heap:=h' }:=I.kept (t':=s.toks) kp
  have I2:aj X pins σ (aJ H h'.objs.size (.tup ys)) { s with heap:=h'.push { cls:=.type "tuple",data:=.seq its.toArray } }:=
   I1.laid (t':=s.toks) (fun b o e=>Heap.get?_push_of_some _ e) (Nat.le_refl _) (show b6 X.prog X.w _ _ _ (.tup ys) from ⟨hz,its,r',IsTup.new _ _,_,Heap.get?_push_size _ rfl,rfl⟩)
  exact ⟨.ref h'.objs.size,_,I2,rfl,q _ (I1.hok.fresh (Nat.le_refl _))⟩
 ·obtain ⟨its,r',pl,hz⟩:=I.tuple hq
  exact call_tuple_same pl ⟨.ref p,H,I,rfl,q⟩
def GV (K:PySem.W.Frag) (T:String) (x:V) (H:Hp):Prop:=match x with
 | .str _=>T = "str"
 | .int _=>T = "int"
 | .ref p=>(T = "list"∧∃xs,aA K H p xs)∨(T = "tuple"∧∃o,K.lookup p=some o∧o.cls=.type "tuple"∧o.dict=none)∨
  (T = "dict"∧((∃kvs,H p=some (.dK kvs))∨∃kvs,H p=some (.dT kvs)))∨(T = "set"∧bX fun S n=>H p=some (.set S n))
 | _=>False
theorem Bd {pins:List (Addr×Obj)}{σ:St}{H:Hp}{s:Shared}{T:String}{x:V}{v:Value} (I:aj X pins σ H s) (r:bh x v) (ty:GV X.K T x H) :
 s.TypeIs v T∧∀a,v=.ref a→∃ob,s.heap.get? a=some ob∧ob.dict=none:=by
 cases x with
 | str z=>
  obtain ⟨t,rfl⟩:=r
  cases (show T = "str" from ty)
  exact ⟨typeIs_str s z t,fun _ e=>nomatch e⟩
 | int i=>
  obtain ⟨t,rfl⟩:=r
  cases (show T = "int" from ty)
  exact ⟨typeIs_int s i t,fun _ e=>nomatch e⟩
 | ref p=>
  cases r
  rcases ty with ⟨rfl,xs,hq⟩ | ⟨rfl,o,hk,hc,hd⟩ | ⟨rfl,hk⟩ | ⟨rfl,S,n,hk⟩
  ·obtain ⟨its,_,pl,_⟩:=I.list hq
   refine ⟨pl.isList.typeIs,fun a e=>?_⟩
   cases e
   obtain ⟨o,n,e,c,hd,_⟩:=pl
   exact ⟨o,e,hd⟩
  ·refine ⟨⟨o,I.kIn p o hk,hc⟩,fun a e=>?_⟩
   cases e
   exact ⟨o,I.kIn _ o hk,hd⟩
  ·have z:∃o,s.heap.get? p=some o∧o.ExactDict:=by
    rcases hk with ⟨kvs,hk⟩ | ⟨kvs,hk⟩
    ·obtain ⟨_,_,_,_,o,_,_,e,ex,_⟩:=I.hok p _ hk
     exact ⟨o,e,ex⟩
    ·obtain ⟨_,_,_,_,o,_,_,e,ex,_⟩:=I.hok p _ hk
     exact ⟨o,e,ex⟩
   obtain ⟨o,e,ex⟩:=z
   refine ⟨⟨o,e,ex.1⟩,fun a e2=>?_⟩
   cases e2
   exact ⟨o,e,ex.2.1⟩
  ·obtain ⟨o,_,_,_,e,ex,_⟩:=I.hok p _ hk
   refine ⟨⟨o,e,ex.1⟩,fun a e2=>?_⟩
   cases e2
   exact ⟨o,e,ex.2.1⟩
 | _=>exact False.elim ty
def IN (K:PySem.W.Frag) (T:String) (r:V→List V→Hp→VK→Prop) (to:TE):TE:=fun σ H Q=>to σ H fun x H1=>GV K T x H1∧r x [] H1 Q
def II (K:PySem.W.Frag) (T:String) (r:V→List V→Hp→VK→Prop) (to:TE) (t:TA):TE:=fun σ H Q=>to σ H fun x H1=>GV K T x H1∧t σ H1 fun xs H2=>r x xs H2 Q
variable {o e:Expr}{es:List Expr}{to:TE}{t:TA}{name:Str}{apos cpos:Pos}{T id:String}{r:V→List V→Hp→VK→Prop}
theorem vS (pa:PlainAttrs T) (slot:Slot T name id) (hty:typeOf (.builtin id)=pure (.type "method_descriptor")) (hm:A4 X id r) (ho:PE X o to)
 (hbase:attributeBase o name X.env (eval o X.env)=eval o X.env:=by rfl) (hline:(apos.endLine==cpos.line)=true:=by rfl):PE X (.Call (.Attribute o name apos) [] [] cpos) (IN X.K T r to):=by
 intro pins s σ H Q I h
 refine wpAny_Call_method0_late hbase hline (aR (ho pins s σ H _ I h) fun v s1 ⟨x,H1,I1,r1,ty,q1⟩=>?_)
 obtain ⟨h1,h2⟩:=Bd I1 r1 ty
 exact ⟨T,id,pa,slot,hty,h1,h2,Calls.callWith_builtin rfl (PySem.evalArgs_none (hm pins s1 σ H1 x [] v [] Q I1 r1 .nil q1))⟩
theorem Iq (pa:PlainAttrs T) (slot:Slot T name id) (hty:typeOf (.builtin id)=pure (.type "method_descriptor")) (hm:A4 X id r) (ho:PE X o to) (ha:PA X (e :: es) t)
 (hbase:attributeBase o name X.env (eval o X.env)=eval o X.env:=by rfl)
 (hfew:((backTo cpos (starEach (e :: es) X.env)).all (fun x=>!x.1) && (backToKw cpos (keywordEach [] X.env)).all (fun x=>x.1.isSome)
  && decide ((e :: es).length+([]:List Keyword).length+(if ([]:List Keyword).isEmpty then 0 else 1)<30))=true:=by rfl)
 (hline:(apos.endLine==cpos.line)=true:=by rfl) (hs:starEach (e :: es) X.env=(false,eval e X.env) :: starEach es X.env:=by rfl) (hplain:(backTo cpos (starEach es X.env)).any (·.1)=false:=by rfl) :
 PE X (.Call (.Attribute o name apos) (e :: es) [] cpos) (II X.K T r to t):=by
 intro pins s σ H Q I h
 refine wpAny_Call_method_late hbase hfew hline rfl (aR (ho pins s σ H _ I h) fun v s1 ⟨x,H1,I1,r1,ty,q1⟩=>?_)
 obtain ⟨h1,h2⟩:=Bd I1 r1 ty
 refine ⟨T,id,pa,slot,hty,h1,h2,?_⟩
 have hA:=ha cpos pins s1 σ H1 _ I1 q1
 rw [hs] at hA ⊢
 refine Calls.callWith_builtin (by show (false || (backTo cpos (starEach es X.env)).any (·.1))=false;rw [hplain] <;> rfl) (Calls.evalArgs_plain ?_)
 exact aR hA fun us s2 ⟨vs,H2,I2,r2,q2⟩=>hm pins s2 σ H2 x vs v us Q I2 r1 r2 q2
/- xs.append(e), list.index on a module's tuple .. are A4 facts of 06m -/
end
end L2
namespace L2
open PySem PySem.Spec PyProof.Rows
def zm (X:Cx) (id:String) (r:V→List V→Hp→VK→Prop):Prop:=
 ∀(pins:List (Addr×Obj)) (s:Shared) (σ:St) (H:Hp) (x:V) (xs:List V) (v:Value) (us:List Value) (Q:VK),aj X pins σ H s→bh x v→aE xs us→r x xs H Q→
   wpAny (model X.prog X.w) X.A (call (.builtin id) (v :: us)) (EP X pins σ Q) X.xe s
theorem Paired.un {α β:Type}{R:α→β→Prop}{x:α}{xs:List α}{us:List β} (h:Paired R (x :: xs) us):bX fun u vs=>us=u :: vs∧R x u∧Paired R xs vs:=by
 cases h with
 | cons r q=>exact ⟨_,_,rfl,r,q⟩
theorem Paired.un0 {α β:Type}{R:α→β→Prop}{us:List β} (h:Paired R [] us):us=[]:=by
 cases h with
 | nil=>rfl
theorem aE.one {x:V}{us:List Value} (h:aE [x] us):∃u,us=[u]∧bh x u:=by
 obtain ⟨u,vs,rfl,r,q⟩:=Paired.un h
 rw [Paired.un0 q]
 exact ⟨u,rfl,r⟩
theorem aE.two {x y:V}{us:List Value} (h:aE [x,y] us):bX fun u v=>us=[u,v]∧bh x u∧bh y v:=by
 obtain ⟨u,vs,rfl,r,q⟩:=Paired.un h
 obtain ⟨v,rfl,q2⟩:=aE.one q
 exact ⟨u,v,rfl,r,q2⟩
theorem aE.zero:∀{us:List Value},aE [] us→us=[]
 | _,.nil=>rfl
theorem aE.dropLast {xs:List V}{us:List Value} (h:aE xs us):aE xs.dropLast us.dropLast:=by
 induction h with
 | nil=>exact .nil
 | cons r t ih=>
  cases t with
  | nil=>exact .nil
  | cons q t'=>exact .cons r ih
theorem aE.rep {xs:List V}{us:List Value} (h:aE xs us):∀k:Nat,aE (List.replicate k xs).flatten (List.replicate k us).flatten
 | 0=>.nil
 | k+1=>by
  rw [List.replicate_succ,List.replicate_succ,List.flatten_cons,List.flatten_cons]
  exact aE.append h (aE.rep h k)
theorem zZ {α:Type} (l:List α):l.eraseIdx (l.length - 1)=l.dropLast:=by
 induction l with
 | nil=>rfl
 | cons a r ih=>
  cases r with
  | nil=>rfl
  | cons b r=>
   have e:(a :: b :: r).length - 1=((b :: r).length - 1)+1:=by
    have h1:(a :: b :: r).length=r.length+2:=rfl
    have h2:(b :: r).length=r.length+1:=rfl
    trivial
   rw [e,List.eraseIdx_cons_succ,ih]
   all_goals rfl
theorem xo (its:List Value):∀(k:Nat) (acc:List Value),
 List.foldl (fun x1 x2=>x1++x2) acc.toArray (List.replicate k its.toArray)=(acc++(List.replicate k its).flatten).toArray
 | 0,acc=>by simp
 | k+1,acc=>by
  have e:acc.toArray++its.toArray=(acc++its).toArray:=by simp
  have e2:(acc++its)++(List.replicate k its).flatten=acc++(List.replicate (k+1) its).flatten:=by
   rw [List.replicate_succ,List.flatten_cons,List.append_assoc]
  rw [←e2,←xo its k (acc++its),←e,List.replicate_succ,List.foldl_cons]
section
variable {X:Cx}{pins:List (Addr×Obj)}{σ:St}{H:Hp}{s:Shared}{l b:Addr}{xs ys zs:List V}
theorem aj.lset {its its':List Value}{n:Nat}{f:Array Value→Array Value}{t':Nat} (I:aj X pins σ H s) (hH:H l=some (.lst xs))
 (e:s.heap.get? l=some { cls:=.type "list",data:=.seq its.toArray n }) (hf:f its.toArray=its'.toArray) (hv:aE ys its') (hz:ys.length≤sizeLine) :
 aj X pins σ (aJ H l (.lst ys)) { s with heap:=s.heap.update l (Obj.mapSeq f),toks:=t' }:=by
 have q:=PySem.IsL.update e f
 rw [hf] at q
 refine I.write (x:=l) (e:=l) (by rw [hH];exact trivial) (.inl rfl) (fun b' u hb hu=>(Heap.get?_update_other s.heap (Obj.mapSeq f) (Ne.symm hb)).trans hu) ⟨_,q⟩ ?_
 exact ⟨hz,its',_,hv,q⟩
theorem aj.lnew {its:List Value}{t':Nat} (I:aj X pins σ H s) (hv:aE ys its) (hz:ys.length≤sizeLine) :
 aj X pins σ (aJ H s.heap.objs.size (.lst ys)) { s with heap:=s.heap.push { cls:=.type "list",data:=.seq its.toArray },toks:=t' }:=
 I.laid (fun _ _ q=>Heap.get?_push_of_some _ q) (Nat.le_refl _) ⟨hz,its,0,hv,Heap.get?_push_size _ rfl⟩
theorem aj.fresh (I:aj X pins σ H s):H s.heap.objs.size=none:=I.hok.fresh (Nat.le_refl _)
theorem aj.lstM (I:aj X pins σ H s) (hH:H l=some (.lst xs)):xs.length≤sizeLine∧bX fun (its:List Value) (n:Nat)=>aE xs its∧xs.length=its.length∧s.heap.get? l=some { cls:=.type "list",data:=.seq its.toArray n }:=by
 obtain ⟨z,its,n,r,e⟩:=I.hok l _ hH
 exact ⟨z,its,n,r,r.length,e⟩
theorem xQ {n:Nat} (h:n≤sizeLine):Builtin.List.listTooLong n=false:=by
 unfold Builtin.List.listTooLong
 exact decide_eq_false (by trivial)
end
section
variable {X:Cx}
inductive CA (x:V) (vs:List V) (H:Hp) (Q:VK):Prop
 | mk (l:_) (xs:_) (y:_) (h0:x=.ref l) (h1:vs=[y]) (h2:H l=some (.lst xs)) (h3:xs.length<sizeLine) (h4:Q .non (aJ H l (.lst (xs++[y]))))
def Ef:V→List V→Hp→VK→Prop:=fun x vs H Q=>CA  x vs H Q
theorem w9:zm X "list.append" Ef:=by
 intro pins s σ H x vs v us Q I rx rv h
 obtain ⟨l,xs,y,rfl,rfl,hH,hz,q⟩:=h
 cases rx
 obtain ⟨u,rfl,ru⟩:=rv.one
 obtain ⟨z,its,n,r,hl,e⟩:=I.lstM hH
 refine call_meets F.slot_list_append ⟨_,e,rfl⟩ F.entry_list_append (F.args_list_append_2 _ _) (PySem.list_append l its.toArray n u (by rw [List.size_toArray];trivial)) ⟨e,?_⟩
 refine ⟨.non,_,I.lset (its':=its++[u]) hH e (by simp) (r.append (.cons ru .nil)) ?_,rfl,q⟩
 rw [List.length_append,List.length_singleton]
 trivial
inductive BP (x:V) (vs:List V) (H:Hp) (Q:VK):Prop
 | mk (l:_) (b:_) (xs:_) (zs:_) (h0:x=.ref l) (h1:vs=[.ref b]) (h2:H l=some (.lst xs)) (h3:H b=some (.lst zs)) (h4:xs.length+zs.length≤sizeLine) (h5:Q .non (aJ H l (.lst (xs++zs))))
def En:V→List V→Hp→VK→Prop:=fun x vs H Q=>BP  x vs H Q
theorem AT:zm X "list.extend" En:=by
 intro pins s σ H x vs v us Q I rx rv h
 obtain ⟨l,b,xs,zs,rfl,rfl,hH,hB,hz,q⟩:=h
 cases rx
 obtain ⟨u,rfl,ru⟩:=rv.one
 cases ru
 obtain ⟨z,its,n,r,hl,e⟩:=I.lstM hH
 obtain ⟨z2,its2,n2,r2,hl2,e2⟩:=I.lstM hB
 have hsz:its.toArray.size+its2.toArray.size≤sizeLine:=by rw [List.size_toArray,List.size_toArray];trivial
 have hlong:¬(!its.toArray.isEmpty && Builtin.List.listTooLong (its.toArray.size+its2.toArray.size))=true:=by
  rw [xQ hsz,Bool.and_false]
  exact Bool.false_ne_true
 refine call_meets F.slot_list_extend ⟨_,e,rfl⟩ F.entry_list_extend (F.args_list_extend_2 _ _)
  (AutoSeq1.list_extend_list_list_0 l its.toArray n b its2.toArray n2 hlong (by rw [List.size_toArray];trivial) (by trivial)) ⟨e,e2,?_⟩
 refine ⟨.non,_,I.lset (its':=its++its2) hH e (by simp) (r.append r2) ?_,rfl,q⟩
 rw [List.length_append]
 trivial
inductive Ie (x:V) (vs:List V) (H:Hp) (Q:VK):Prop
 | mk (l:_) (xs:_) (y:_) (h0:x=.ref l) (h1:vs=[]) (h2:H l=some (.lst xs)) (h3:xs[xs.length - 1]?=some y) (h4:Q y (aJ H l (.lst xs.dropLast)))
def Jl:V→List V→Hp→VK→Prop:=fun x vs H Q=>Ie  x vs H Q
theorem G9:zm X "list.pop" Jl:=by
 intro pins s σ H x vs v us Q I rx rv h
 obtain ⟨l,xs,y,rfl,rfl,hH,hy,q⟩:=h
 cases rx
 have hus:=rv.zero
 subst hus
 obtain ⟨z,its,n,r,hl,e⟩:=I.lstM hH
 obtain ⟨u,hu,ru⟩:=r.get hy
 have hy':its.toArray[its.toArray.size - 1]?=some u:=by
  show its.toArray[its.length - 1]?=some u
  rw [←Array.getElem?_toList,←hl]
  exact hu
 refine call_meets F.slot_list_pop ⟨_,e,rfl⟩ F.entry_list_pop (F.args_list_pop_1 _) (MeetsSeq.list_pop_last l its.toArray n u hy' (by rw [List.size_toArray];trivial)) ⟨e,?_⟩
 refine ⟨y,_,I.lset (its':=its.dropLast) hH e ?_ r.dropLast ?_,ru,q⟩
 ·show its.toArray.eraseIdxIfInBounds (its.toArray.size - 1)=its.dropLast.toArray
  rw [List.size_toArray,List.eraseIdxIfInBounds_toArray,zZ]
 ·rw [List.length_dropLast]
  trivial
inductive Iw (x:V) (y:V) (H:Hp) (Q:VK):Prop
 | mk (l:_) (b:_) (xs:_) (zs:_) (h0:x=.ref l) (h1:y=.ref b) (h2:H l=some (.lst xs)) (h3:H b=some (.lst zs)) (h4:xs.length+zs.length≤sizeLine) (h5:∀p,H p=none→Q (.ref p) (aJ H p (.lst (xs++zs))))
def IW:R2:=fun x y H Q=>Iw  x y H Q
theorem A2:cz X (binaryOp .Add) IW:=by
 intro pins s σ H x y v u Q I rx ry h
 obtain ⟨l,b,xs,zs,rfl,rfl,hH,hB,hz,q⟩:=h
 cases rx
 cases ry
 obtain ⟨z,its,n,r,hl,e⟩:=I.lstM hH
 obtain ⟨z2,its2,n2,r2,hl2,e2⟩:=I.lstM hB
 refine PySem.P.add_list e e2 ?_ (by rw [List.size_toArray,List.size_toArray];trivial)
 have ea:its.toArray++its2.toArray=(its++its2).toArray:=by simp
 rw [ea]
 exact ⟨.ref _,_,I.lnew (t':=s.toks) (r.append r2) (by rw [List.length_append];trivial),rfl,q _ I.fresh⟩
inductive Ib (x:V) (y:V) (H:Hp) (Q:VK):Prop
 | mk (l:_) (k:_) (xs:_) (h0:x=.ref l) (h1:y=.int k) (h2:H l=some (.lst xs)) (h3:-(2 ^ 63)≤k) (h4:k<2 ^ 63) (h5:xs.length*k.toNat≤sizeLine) (h6:∀p,H p=none→Q (.ref p) (aJ H p (.lst (List.replicate k.toNat xs).flatten)))
def Jk:R2:=fun x y H Q=>Ib  x y H Q
theorem wM {α:Type} (xs:List α) (k:Nat):(List.replicate k xs).flatten.length=k*xs.length:=by
 induction k with
 | zero=>simp
 | succ k ih=>rw [List.replicate_succ,List.flatten_cons,List.length_append,ih,Nat.succ_mul,Nat.add_comm]
theorem BG:cz X (binaryOp .Mult) Jk:=by
 intro pins s σ H x y v u Q I rx ry h
 obtain ⟨l,k,xs,rfl,rfl,hH,h1,h2,hz,q⟩:=h
 cases rx
 obtain ⟨t,rfl⟩:=ry
 obtain ⟨z,its,n,r,hl,e⟩:=I.lstM hH
 have hlen:its.toArray.size*k.toNat≤sizeLine:=by rw [List.size_toArray,←hl];exact hz
 have hcap:¬its.toArray.size*k.toNat > (2 ^ 63 - 1) / 8:=by
  have:(sizeLine:Nat)≤(2 ^ 63 - 1) / 8:=by decide
  trivial
 have hfit:¬(!Builtin.List.listFitsIndex k)=true:=by
  rw [fitsIndex_both h1 h2]
  exact Bool.false_ne_true
 have hlong:¬Builtin.List.listTooLong (its.toArray.size*k.toNat)=true:=by
  rw [xQ hlen]
  exact Bool.false_ne_true
 have hnew:List.foldl (fun x1 x2=>x1++x2) #[] (List.replicate (if its.toArray.isEmpty=true then 0 else k.toNat) its.toArray)=(List.replicate k.toNat its).flatten.toArray:=by
  have f0:∀m:Nat,List.foldl (fun x1 x2=>x1++x2) #[] (List.replicate m its.toArray)=(List.replicate m its).flatten.toArray:=fun m=>by
   have:=xo its m []
   rw [List.nil_append] at this
   exact this
  rw [f0]
  cases its with
  | nil=>simp
  | cons a r'=>rw [if_neg (by simp)]
 refine wpAny_binaryOp_repeat_ref (T := "list") (U := "int") (by decide) ⟨_,e,rfl⟩ (fun s'=>typeIs_int s' k t) noFill_list_mul F.fills_int_mul F.slot_int_rmul repeat_list F.slot_int_index.lookup
  (call_meets F.slot_int_rmul (typeIs_int s k t) F.entry_int_rmul (F.args_int_rmul_2 _ _) (int___rmul___int_list k t l its.toArray n)
   ⟨e,rfl,⟨_,e,rfl⟩,call_meets F.slot_list_mul ⟨_,e,rfl⟩ F.entry_list_mul (F.args_list_mul_2 _ _) (AutoListH.list___mul___list_int_3 l its.toArray n k t hfit hcap hlong) ⟨e,?_⟩⟩)
 rw [hnew]
 exact ⟨.ref _,_,I.lnew (t':=s.toks) (r.rep k.toNat) (by rw [wM,Nat.mul_comm];exact hz),rfl,q _ I.fresh⟩
end
section
variable {prog:Program}{w:World}{A:Around}{E:Value→Shared→Prop}{s:Shared}
set_option maxRecDepth 100000 in
end
section
variable {X:Cx}
end
end L2
namespace Att
open PySem PySem.W PySem.Calls PyProof.Rows
theorem vU {P:Params}{h:Heap}:∀(ns:List Int) (vs:List Value),WellAll P h vs (ns.map WData.int)→IntsAre vs ns:=by
 intro ns
 induction ns with
 | nil=>
  intro vs w
  rw [List.map_nil] at w
  cases w
  exact .nil
 | cons n ns ih=>
  intro vs w
  rw [List.map_cons] at w
  cases w with
  | cons a b=>
   cases a
   exact .cons _ _ (ih _ b)
theorem BH {l:OpenLaw}{n:Nat} (hn:l.most=some n) {P:Params}{h:Heap}{args:List WData}{vals:List Value}
 (hpre:l.row.toRowW.claim.pre args=true) (hwl:WellAll P h vals args) :
 ∃a vs ns,vals=[Value.ref a]∧args=[WData.list (ns.map WData.int)]∧h.get? a=some { cls:=.type "list",data:=.seq vs.toArray }∧IntsAre vs ns∧ns.length≤n:=by
 have hsh:WShape.hasAll [] args [.list .int]=true:=(pre_splitW hpre).1
 have hc:l.pre.holds [] { args:=args }=true:=(pre_splitW hpre).2
 obtain ⟨d,r,rfl,h1,h2⟩:=hasAllW_cons hsh
 obtain rfl:=hasAllW_nil h2
 obtain ⟨xs,rfl,h3⟩:=hasW_list h1
 obtain ⟨ns,rfl⟩:=items_int h3
 have hlen:ns.length≤n:=by
  unfold OpenLaw.pre at hc
  have h4:(WTm.not (.lt (.lit (.int (n:Int))) (.len (.arg 0)))).holds [] { args:=[.list (ns.map .int)] }=true:=by
   have h4:=(holds_andW hc).1
   rw [hn] at h4
   exact h4
  have h5:=condW_of h4 (w_not (w_lt w_lit (w_len_list (w_arg rfl))))
  rw [List.length_map] at h5
  refine Nat.le_of_not_lt fun q=>?_
  have q':(n:Int)<((ns.length:Nat):Int):=by trivial
  first
   | (rw [decide_eq_true q'] at h5;exact absurd h5 (by decide))
   | (simp at h5;trivial)
 cases hwl with
 | cons w1 w2=>
  cases w2
  cases w1 with
  | list ho hall=>exact ⟨_,_,ns,rfl,rfl,ho,vU ns _ hall,hlen⟩
theorem BB (l:OpenLaw) (args:List WData):l.row.toRowW.claim.post args (.bool true) args=true:=
 postW_of (r:=l.row.toRowW) (X:=(true==true))
  (show WShape.has [] (.bool true) .bool=true by first | rfl | decide | simp [WShape.has,WShape.arms,WShape.armsAll])
  (show (WTm.eq .res (.lit (.bool true))).value [] { args:=args,res:=some (.bool true),after:=args }=some (.bool (true==true)) from w_eq_bool (w_res rfl) w_lit) rfl
theorem attach_call {l:OpenLaw}{n:Nat}{q:Program}{loose:List Str}{XP:(Str→Option Value)→Heap→Prop}{YP:World→Heap→Prop}{d:DefRec}
 (hn:l.most=some n) (hdf:d.params.defaults=[])
 (call:∀(w:World) (s₀ s₁:Shared) (mg mb:Str→Option Value) (fa:Addr) (o:Obj) (pm cd doc:Value) (a:Addr) (vs:List Value) (ns:List Int),
  Ground q loose [] XP w s₀ mg mb s₁.heap→YP w s₁.heap→
  s₁.heap.get? fa=some o→o.data=.func (docDef d.name d.params d.body d.scope pm cd doc)→s₁.heap.CodeRec cd d.name→mg d.name=some (.ref fa)→
  s₁.heap.get? a=some { cls:=.type "list",data:=.seq vs.toArray }→IntsAre vs ns→ns.length≤n→s₁.gens=#[]→
  codeAny (model l.prog w) callerA (.call (.ref fa) ⟨[.ref a],[]⟩) (fun r s'=>r=.ok (.ret (.bool true))∧OldK s₁.heap s'.heap∧s'.os=s₁.os∧AllBare s'.gens) s₁) :
 WalkO q loose XP YP l.row.toRowW d [] (fun f vs=>PySem.call f vs):=by
 intro w s₀ s₁ mg mb G Y fa o pm cd doc dV kV ho hd hcd hD hmg hg args vals as hpre hlay hrd hwl hlo
 obtain rfl:dV=.none:=Dflts.none hD hdf
 obtain rfl:kV=.none:=Dflts.noKw hD
 obtain ⟨a,vs,ns,rfl,rfl,hobj,hints,hlen⟩:=BH hn hpre hwl
 refine enter_call (codeAny_mono (call w s₀ s₁ mg mb fa o pm cd doc a vs ns G Y ho (fd_plain hd) hcd hmg hobj hints hlen hg) fun r s' hq=>?_)
 obtain ⟨rfl,h2,h3,h4⟩:=hq
 exact ⟨.inl ⟨.bool true,.bool true,[],rfl,fun _=>rfl,.bool true,BB l _,fun _=>⟨List.Pairwise.nil,fun _ hm=>(nomatch hm)⟩⟩,h2,h3,h4⟩
section
variable {prog:Program}{w:World}{A:Around}{E:Value→Shared→Prop}{s:Shared}{K:Frag}
end
end Att
namespace L2
open PySem PySem.Spec PyProof.Rows
theorem wY:∀{vs:List Value}{ns:List Int},IntsAre vs ns→aE (ns.map V.int) vs
 | _,_,.nil=>.nil
 | _,_,.cons n t h=>.cons ⟨t,rfl⟩ (wY h)
def wG (H:Hp):Prop:=∀b,H b=none∨bX fun o xs=>H b=some (.frz o (.lst xs))
theorem Dg {P:Program}{w:World}{K:PySem.W.Frag}{mg mb:Str→Option Value}{CX:kf}{k:Nat}{fa a:Addr}{fd:FuncData}{x:Str}{sp:Sp}{s₁:Shared}{vs:List Value}{ns:List Int}
 (KX:K.In s₁.heap) (hns:s₁.heap.Ns mainGlobals mg) (hb:s₁.heap.Ns builtinsNs mb) (hbb:∀x:Str,x≠"__name__"→mb x=bootBuiltins x) (hlim:s₁.heap.NoLimit) (hg:s₁.gens=#[])
 (ha:s₁.heap.get? a=some { cls:=.type "list",data:=.seq vs.toArray }) (hi:IntsAre vs ns) (hl:ns.length≤sizeLine) (hr:cL k callerA)
 (F:∀base:Heap,K.In base→base.Ns mainGlobals mg→aD P w K mg base CX k fa fd [x] sp) (hbind:∀(s:Shared) (u:Value),BindsTo s fd ⟨[u],[]⟩ [(x,u)])
 (hsp:∀H:Hp,wG H→aA K H a (ns.map V.int)→sp [.ref a] H (fun v _=>v=.bl true) fun _ _ _=>False)
 (hCX:∀H e s',CX [] H s₁ (fun _ _ _=>False) e s'→False) :
 codeAny (model P w) callerA (.call (.ref fa) ⟨[.ref a],[]⟩) (fun r s'=>r=.ok (.ret (.bool true))∧OldK s₁.heap s'.heap∧s'.os=s₁.os∧AllBare s'.gens) s₁:=by
 have rv:=wY hi
 have lenV:=hi.length
 have core:∀H:Hp,wG H→aA K H a (ns.map V.int)→eS P w H s₁.heap→(∀b,H b≠none→b=a)→(H a≠none→K.lookup a=none)→
  codeAny (model P w) callerA (.call (.ref fa) ⟨[.ref a],[]⟩) (fun r s'=>r=.ok (.ret (.bool true))∧OldK s₁.heap s'.heap∧s'.os=s₁.os∧AllBare s'.gens) s₁:=by
  intro H hO hS hok hA hK
  have base_of:∀{b:Addr}{o:Obj},s₁.heap.get? b=some o→H b=none→(rA s₁.heap H).get? b=some o:=fun e n=>BO e n
  have noA:∀{b:Addr}{o:Obj}{es:Array DictEntry}{ep:Nat},s₁.heap.get? b=some o→o.data=.dict es ep→H b=none:=fun {b o es ep} e d=>by
   cases q:H b with
   | none=>rfl
   | some u=>
    have e':b=a:=hA b (by rw [q];simp)
    subst e'
    rw [ha] at e;cases e
    have d':Data.seq vs.toArray _=Data.dict es ep:=d
    cases d'
  have nsK:∀{b:Addr}{m:Str→Option Value},s₁.heap.Ns b m→(rA s₁.heap H).Ns b m:=fun {b m} ⟨o,es,ep,e,d,r⟩=>⟨o,es,ep,base_of e (noA e d),d,r⟩
  have hKb:K.In (rA s₁.heap H):=fun b o e=>base_of (KX b o e) (by
   cases q:H b with
   | none=>rfl
   | some u=>
    have e':b=a:=hA b (by rw [q];simp)
    subst e'
    rw [hK (by rw [q];simp)] at e;cases e)
  have hM:Mod K mg (rA s₁.heap H):=⟨hKb,nsK hns,⟨mb,nsK hb,hbb⟩,let ⟨mc,h1,h2⟩:=hlim;⟨mc,nsK h1,h2⟩⟩
  have e0:vo P w K mg (rA s₁.heap H) callerA [] s₁ H:=⟨rfl,hM,fun b o e=>DS e,Nat.le_of_eq (Bf _ _),trivial,fun b hb=>absurd (show b∈([]:List Addr) from hb) (by simp),hok,.of_eq hg⟩
  refine codeAny_mono ((F _ hKb (nsK hns)).run callerA [] s₁ H ⟨[.ref a],[]⟩ [.ref a] [.ref a] _ _ hr e0 (hbind s₁ (.ref a)) (.cons rfl .nil) (hsp H hO hS)) fun r s' h=>?_
  cases r with
  | error e=>exact (hCX H e s' h).elim
  | ok fl=>
   cases fl with
   | next=>exact False.elim h
   | brk=>exact False.elim h
   | cont=>exact False.elim h
   | ret u=>
    obtain ⟨v,H',os,bare,un,hok',r',q⟩:=h
    have q':v=.bl true:=q
    subst q'
    obtain rfl:u=Value.bool true:=r'
    refine ⟨rfl,OldK.of_keep fun b o e=>?_,os,bare⟩
    cases q:H b with
    | none=>exact un.keep b o e q (by intro z;exact absurd (show b∈([]:List Addr) from z) (by simp)) (by simp)
    | some u=>
     rcases hO b with z | ⟨ob,xs,z⟩
     ·rw [q] at z;cases z
     ·have z2:=un.frzs b ob _ z
      obtain ⟨e1,_⟩:=hok b _ z
      obtain ⟨e2,_⟩:=hok' b _ z2
      rw [e] at e1;cases e1
      exact e2
 cases hk:K.lookup a with
 | some o=>
  have e:=KX a o hk
  rw [ha] at e
  cases e
  refine core (fun _=>none) (fun _=>.inl rfl) (.inr ⟨_,vs.toArray,_,hk,rfl,rfl,rfl,by rw [List.size_toArray,lenV];exact hl,by simpa using rv⟩) (fun b u z=>by have z':(none:Option HO)=some u:=z;cases z') (fun b z=>absurd rfl z) fun z=>absurd rfl z
 | none=>
  refine core (fun b=>if b=a then some (.frz { cls:=.type "list",data:=.seq vs.toArray } (.lst (ns.map V.int))) else none) (fun b=>?_) (.inl (.inr ⟨{ cls:=.type "list",data:=.seq vs.toArray },if_pos rfl⟩)) (fun b u z=>?_) (fun b z=>?_) fun _=>hk
  ·by_cases hb:b=a
   ·exact .inr ⟨_,_,if_pos hb⟩
   ·exact .inl (if_neg hb)
  ·by_cases hb:b=a
   ·have z':=(if_pos hb).symm.trans z
    cases z'
    subst hb
    exact ⟨ha,by rw [List.length_map];exact hl,vs,_,rv,ha⟩
   ·have z':=(if_neg hb).symm.trans z
    cases z'
  ·by_cases hb:b=a
   ·exact hb
   ·exact absurd (if_neg hb) z
theorem walk_of {l:PySem.W.OpenLaw}{n k:Nat}{q:Program}{loose:List Str}{XP:(Str→Option Value)→Heap→Prop}{YP:World→Heap→Prop}{d:DefRec}{K:Params→PySem.W.Frag}{CX:World→kf}{sp:World→Sp}{x:Str}
 (hn:l.most=some n) (hn2:n≤sizeLine) (hdf:d.params.defaults=[]) (hr:cL k callerA)
 (hY:∀(w:World) (h:Heap),YP w h→(K w.params).In h)
 (F:∀(w:World) (mg:Str→Option Value) (fa:Addr) (h:Heap),(K w.params).In h→h.Ns mainGlobals mg→mg d.name=some (.ref fa)→
  ∃fd:FuncData,(∀(s:Shared) (u:Value),BindsTo s fd ⟨[u],[]⟩ [(x,u)])∧
   ∀base:Heap,(K w.params).In base→base.Ns mainGlobals mg→aD l.prog w (K w.params) mg base (CX w) k fa fd [x] (sp w))
 (hsp:∀(w:World) (H:Hp) (a:Addr) (ns:List Int),ns.length≤n→wG H→aA (K w.params) H a (ns.map V.int)→sp w [.ref a] H (fun v _=>v=.bl true) fun _ _ _=>False)
 (hCX:∀(w:World) (H:Hp) (s:Shared) (e:Value) (s':Shared),CX w [] H s (fun _ _ _=>False) e s'→False) :
 PySem.W.WalkO q loose XP YP l.row.toRowW d [] (fun f vs=>PySem.call f vs):=by
 refine Att.attach_call hn hdf fun w s₀ s₁ mg mb fa o pm cd doc a vs ns G Y ho hd hcd hmg hobj hints hlen hg=>?_
 have KX:=hY w _ Y
 obtain ⟨fd,hb,hF⟩:=F w mg fa _ KX G.T.g hmg
 exact Dg KX G.T.g G.T.b G.T.builtins G.T.nolimit hg hobj hints (Nat.le_trans hlen hn2) hr hF hb (fun H hO hS=>hsp w H a ns hlen hO hS) fun H e s'=>hCX w H s₁ e s'
theorem CY {l:PySem.W.OpenLaw}{n k:Nat}{q:Program}{loose:List Str}{XP:(Str→Option Value)→Heap→Prop}{YP:World→Heap→Prop}{d:DefRec}{K:Params→PySem.W.Frag}{CX:kf}{sp:PySem.W.Frag→Sp}{x:Str}
 (hn:l.most=some n) (hn2:n≤sizeLine) (hdf:d.params.defaults=[]) (hr:cL k callerA)
 (hY:∀(w:World) (h:Heap),YP w h→(K w.params).In h)
 (F:∀(w:World) (mg:Str→Option Value) (fa:Addr) (h:Heap),(K w.params).In h→h.Ns mainGlobals mg→mg d.name=some (.ref fa)→
  ∃fd:FuncData,(∀(s:Shared) (u:Value),BindsTo s fd ⟨[u],[]⟩ [(x,u)])∧
   ∀base:Heap,(K w.params).In base→base.Ns mainGlobals mg→aD l.prog w (K w.params) mg base CX k fa fd [x] (sp (K w.params)))
 (hsp:∀(K:PySem.W.Frag) (H:Hp) (a:Addr) (ns:List Int),ns.length≤n→wG H→aA K H a (ns.map V.int)→sp K [.ref a] H (fun v _=>v=.bl true) fun _ _ _=>False)
 (hCX:∀(H:Hp) (s:Shared) (e:Value) (s':Shared),CX [] H s (fun _ _ _=>False) e s'→False) :
 PySem.W.WalkO q loose XP YP l.row.toRowW d [] (fun f vs=>PySem.call f vs):=
 walk_of (K:=K) (CX:=fun _=>CX) (sp:=fun w=>sp (K w.params)) hn hn2 hdf hr hY F (fun w H a ns h1 h2 h3=>hsp (K w.params) H a ns h1 h2 h3) fun _ H s e s'=>hCX H s e s'
end L2
/- THE LAST THEOREM (shape; LID, My.* are yours):
 My.Adr: a structure of the addresses that your layer names (classes, functions); My.Txt K t: a structure (Prop) of the equations over K;
 My.txt_mk : {K} {implicit addresses ..} (e1 : nsIn K mainGlobals "law" = some (some (.ref f))) (e2 : K.lookup f = some ⟨oc, od, .func (fnOf "law" "law" params body scope dV kV doc pm an cdv ct), sl⟩) (e3 : codeIn K cdv "law" = true) .. : ∃ t, My.Txt K t
set_option maxRecDepth 100000 in
set_option maxHeartbeats 0 in
theorem PySem.Challenge.cw_LID_holds : PySem.Challenge.rw_LID.Holds := by
 w_on; o_law; k_head; (case hw => w_witness2)
 k_fill
 refine L2.walk_of (l := PySem.Challenge.rw_LID) (n := 63) (k := 40) (x := "script") (CX := fun w => ..) (sp := fun _ => My.sp_law) rfl (by decide) rfl ⟨rfl, by decide, by decide⟩ (fun w h Y => PySem.W.kIn_of Y) ?F ?S ?C
 case F =>
  intro w mg fa h KX G hmg
  have T : ∃ t, My.Txt (L2.KOf KX) t := by
   dsimp only [L2.KOf]                          -- K must stand as «<heap const> w.params» for k_is
   refine' My.txt_mk ?e1 ?e2 ?e3 ..
   (case e1 => PySem.W.k_is)                    -- in the order: a name -> its address -> its object -> its parts
   (case e2 => PySem.W.k_is)
   ..
  obtain ⟨t, T⟩ := T
  have e0 := hmg.symm.trans (PySem.W.mg_of KX G T.law)
  cases e0                                       -- fa is the law's own address
  exact ⟨_, fun s u => .of_eq rfl, fun base kb nb => My.law_fn T kb nb⟩     -- if «.of_eq rfl» comes too early: refine' ⟨_, ?b, fun base kb nb => My.law_fn T kb nb⟩; exact fun s u => .of_eq rfl
 case S => exact fun w H a ns hl hO hS => ..
 case C => exact ..
(the tactic k_is has no namespace: write k_is) -/
namespace L2
open PySem PySem.Spec PyProof.Rows
abbrev CX0:kf:=fun _ _ _ _ _ _=>False
abbrev E0:XK:=fun _ _ _=>False
theorem cT {X:Cx}:iy CX0 X E0:=fun _ _ _ _ _ _ _ h=>h.elim
structure dC (K:PySem.W.Frag) (x qual:Str) (st:Stmt) (f:Addr) (fd:FuncData):Prop where
 ex:IG fun (oc:Value) (od:Option Addr) (kV doc pm:Value) (an:Option Addr) (cdv ct:Value) (osl:Array (Option Value))=>
  fd=PySem.W.fnOf x qual (wC st) (qr st) (ah st) .none kV doc pm an cdv ct∧K.lookup f=some ⟨oc,od,.func fd,osl⟩∧PySem.W.codeIn K cdv qual=true
 kp:PySem.W.keepIn K (.ref f)=true
section
variable {P:Program}{w:World}{K:PySem.W.Frag}{mg:Str→Option Value}{base:Heap}
theorem dC.ok {x qual:Str}{st:Stmt}{f:Addr}{fd:FuncData}{N ps:List Str}{k:Nat}{sp:Sp} (F:dC K x qual st f fd) (S:ar N ps (ah st)) (len:∀vs H Q E,sp vs H Q E→vs.length=ps.length)
 (hbody:∀(cdv:Value) (A:Around) (outer:List Env) (s:Shared) (H:Hp) (vs:List V) (Q:VK) (E:XK),cL k (A.deeper (envOfC qual (ah st) s.heap.objs.size f cdv))→sp vs H Q E→
  ∃t,oP (qJ CX0 P w K mg base N qual (ah st) f cdv A outer s H E).nox (qr st) t∧t { nx:=fun _ H'=>Q .non H',rt:=Q } (mV N vs) H):aD P w K mg base CX0 (k+1) f fd ps sp:=by
 obtain ⟨oc,od,kV,doc,pm,an,cdv,ct,osl,rfl,lk,hcd⟩:=F.ex
 refine Dn lk hcd S len fun A outer s H vs Q E hr hsp=>?_
 obtain ⟨t,h,q⟩:=hbody cdv A outer s H vs Q E hr hsp
 exact ⟨t,h.nox,q⟩
theorem dC.binds {x qual:Str}{st:Stmt}{f:Addr}{fd:FuncData}{ps:List Str} (F:dC K x qual st f fd)
 (h:∀(kV doc pm:Value) (an:Option Addr) (cdv ct:Value) (us:List Value),us.length=ps.length→bindArgs (PySem.W.fnOf x qual (wC st) (qr st) (ah st) .none kV doc pm an cdv ct) ⟨us,[]⟩=pure (ps.zip us)):bj K fd ps []:=by
 obtain ⟨oc,od,kV,doc,pm,an,cdv,ct,osl,rfl,lk,hcd⟩:=F.ex
 exact .all (h kV doc pm an cdv ct)
end
section
variable {X:Cx}
theorem pv (i:Nat) {x:Str}{pos:Pos} (hN:X.N[i]?=some x:=by rfl) (hv:Du X.env.scope x:=by first | exact Or.inl rfl | exact Or.inr (Or.inl rfl) | exact Or.inr (Or.inr rfl)) (hd:(x==("__debug__" : Str))=false:=by decide)
 (hcd:(x==("__classdict__" : Str))=false:=by decide):PE X (.Name x pos) (BQ i):=Bs hN hv hd hcd
end
theorem aT {A B:Prop} (h:B):if false=true then A else B:=by
 rw [if_neg Bool.false_ne_true]
 exact h
theorem cx {A B:Prop} (h:A):if true=true then A else B:=by
 rw [if_pos rfl]
 exact h
theorem cF {c A B:Prop} [Decidable c] (h1:c→A) (h2:¬c→B):if c then A else B:=by
 by_cases h:c
 ·rw [if_pos h]
  exact h1 h
 ·rw [if_neg h]
  exact h2 h
def ad (H H':Hp):Prop:=∀b o,H b=some o→H' b=some o
theorem ad.refl (H:Hp):ad H H:=fun _ _ h=>h
theorem ad.trans {H H1 H2:Hp} (a:ad H H1) (b:ad H1 H2):ad H H2:=fun c o h=>b c o (a c o h)
theorem ad.free {H H':Hp} (e:ad H H') {l:Addr} (h:H' l=Option.none):H l=Option.none:=by
 cases q:H l with
 | none=>rfl
 | some o=>
  rw [e l o q] at h
  cases h
theorem ad.seq {K:PySem.W.Frag}{H H':Hp}{a:Addr}{xs:List V} (e:ad H H') (h:aA K H a xs):aA K H' a xs:=by
 rcases h with (h | ⟨o,h⟩) | h
 ·exact .inl (.inl (e _ _ h))
 ·exact .inl (.inr ⟨o,e _ _ h⟩)
 ·exact .inr h
end L2
namespace L2
open PySem
theorem zk {scope:Scope}{env:Env} (h:∀y∈scope.names,y.2=.free→∃c,env.cells.lookup y.1=some c) :
 ∃cl,closureFor scope env=pure cl∧(∀x c,cl.lookup x=some c→env.cells.lookup x=some c)∧(∀y∈scope.names,y.2=.free→∃c,cl.lookup y.1=some c):=by
 have go:∀(names:List (Str×NameKind)) (acc:List (Str×Addr)),(∀y∈names,y.2=.free→∃c,env.cells.lookup y.1=some c)→(∀x c,acc.lookup x=some c→env.cells.lookup x=some c)→
  ∃cl,(forIn names acc (fun (x:Str×NameKind) (cs:List (Str×Addr))=>match x with
   | (name,kind)=>if (kind==.free)=true then (do let a ←cellOf env name;pure (ForInStep.yield ((name,a) :: cs))) else pure (ForInStep.yield cs)):Sem (List (Str×Addr)))=pure cl∧
   (∀x c,cl.lookup x=some c→env.cells.lookup x=some c)∧(∀y∈names,y.2=.free→∃c,cl.lookup y.1=some c)∧(∀x c,acc.lookup x=some c→∃c',cl.lookup x=some c'):=by
  intro names
  induction names with
  | nil=>intro acc _ ha;exact ⟨acc,rfl,ha,fun y hy=>(by cases hy),fun x c e=>⟨c,e⟩⟩
  | cons x r ih=>
   intro acc hn ha
   obtain ⟨name,kind⟩:=x
   rw [List.forIn_cons]
   by_cases hk:kind=.free
   ·subst hk
    obtain ⟨c,hc⟩:=hn (name,.free) List.mem_cons_self rfl
    have e:cellOf env name=pure c:=by unfold cellOf;rw [hc]
    obtain ⟨cl,e1,e2,e3,e4⟩:=ih ((name,c) :: acc) (fun y hy=>hn y (List.mem_cons_of_mem _ hy)) (fun x c' hx=>by
     rw [List.lookup_cons] at hx
     split at hx
     ·rename_i hb
      have:x=name:=by simpa using hb
      subst this
      cases hx;exact hc
     ·exact ha x c' hx)
    refine ⟨cl,?_,e2,fun y hy hf=>?_,fun x c' hx=>?_⟩
    ·simp only [beq_self_eq_true,if_true]
     rw [e,pure_bind,pure_bind]
     exact e1
    ·rcases List.mem_cons.mp hy with rfl | hy
     ·exact e4 name c (by simp)
     ·exact e3 y hy hf
    ·by_cases hb:(x==name)=true
     ·have:x=name:=by simpa using hb
      subst this
      exact e4 x c (by simp)
     ·exact e4 x c' (by rw [List.lookup_cons];simp only [Bool.not_eq_true] at hb;rw [hb];exact hx)
   ·have hb:(kind==NameKind.free)=false:=by simpa using hk
    obtain ⟨cl,e1,e2,e3,e4⟩:=ih acc (fun y hy=>hn y (List.mem_cons_of_mem _ hy)) ha
    refine ⟨cl,?_,e2,fun y hy hf=>?_,e4⟩
    ·simp only [hb,Bool.false_eq_true,if_false]
     rw [pure_bind]
     exact e1
    ·rcases List.mem_cons.mp hy with rfl | hy
     ·exact absurd hf hk
     ·exact e3 y hy hf
 obtain ⟨cl,e1,e2,e3,_⟩:=go scope.names [] h (fun x c e=>by simp at e)
 refine ⟨cl,?_,e2,e3⟩
 unfold closureFor
 show (forIn scope.names _ _ >>= fun cs=>pure cs)=_
 rw [bind_pure]
 exact e1
section
variable {prog:Program}{w:World}{A:Around}{R:Result→Shared→Prop}{s:Shared}
theorem yj {elt target iter:Expr}{ifs:List Expr}{scope:Scope}{pos:Pos}{it acc:Value}{env:Env} (I:Nat→Shared→Prop)
 (turn:∀n s,I n s→wpAny (model prog w) A (pyNext it) (fun r s₁=>match r with
  | none=>R (.ok .next) s₁
  | some v=>wpAny (model prog w) A (letOwnedTupleGo target it v) (fun _ s₁'=>wpAny (model prog w) A (assign target env v) (fun _ s₂=>
   wpAny (model prog w) A (forIn ifs true fun c r=>if r=true then do let ok ←isTrue c env (eval c env);pure (ForInStep.yield ok) else pure (ForInStep.yield r)) (fun ok s₃=>
    if ok=true then wpAny (model prog w) A (eval elt env) (fun x s₄=>
     wpAny (model prog w) A (call (.builtin "list.append") [acc,x]) (fun _ s₅=>∃m,m<n∧I m s₅) (fun _ _=>False) s₄) (fun _ _=>False) s₃
    else ∃m,m<n∧I m s₃) (fun _ _=>False) s₂) (fun _ _=>False) s₁') (fun _ _=>False) s₁) (fun _ _=>False) s)
 (n:Nat) (h:I n s) :
 codeAny (model prog w) A (.compLoop (.ListComp elt [⟨target,iter,ifs,0⟩] scope pos) 0 it acc env) R s:=by
 refine codeAny_loop rfl I (fun n s hI=>?_) n h
 show wpAny _ A ((compTurn (.ListComp elt [⟨target,iter,ifs,0⟩] scope pos) 0 it acc env).onRaise (fun x=>do noteFrame x env;theTreesLotGoes x)) _ _ s
 refine wpAny_noted ?_
 rw [compTurn_list]
 refine wpAny_bind (wpAny_standAt (wpAny_bind (wpAny_mono (turn n s hI) (fun r s₁ h₁=>?_) fun _ _ h'=>h'.elim)))
 cases r with
 | none=>exact wpAny_pure h₁
 | some v=>
  refine wpAny_bind (wpAny_mono h₁ (fun _ s₁' h₁'=>?_) fun _ _ h'=>h'.elim)
  refine wpAny_bind (wpAny_mono h₁' (fun _ s₂ h₂=>wpAny_bind (wpAny_mono h₂ (fun ok s₃ h₃=>?_) fun _ _ h'=>h'.elim)) fun _ _ h'=>h'.elim)
  cases ok with
  | false=>exact wpAny_pure ⟨rfl,h₃⟩
  | true=>
   exact wpAny_bind (wpAny_bind (wpAny_mono h₃ (fun x s₄ h₄=>wpAny_bind (wpAny_mono h₄ (fun _ s₅ h₅=>wpAny_pure (wpAny_pure ⟨rfl,h₅⟩)) fun _ _ h'=>h'.elim)) fun _ _ h'=>h'.elim))
end
end L2
namespace L2
open PySem PySem.Spec PyProof.Rows
section
variable {X:Cx}
theorem yQ:gL X (.builtin "isinstance") (fun xs H Q=>rO fun x T t b=>xs=[x,.ty T]∧jM X.K H x t∧PySem.W.kitOne X.K t (.type T)=some b∧Q (.bl b) H):=by
 intro pins s σ H xs us Q I r h
 obtain ⟨x,T,t,b,rfl,ty,e,q⟩:=h
 obtain ⟨u,c,rfl,ru,rc⟩:=r.two
 obtain rfl:c=Value.type T:=rc
 exact Ba I ru ty e fun tk=>⟨.bl b,H,I.tok tk,rfl,q⟩
end
def yo (X:Cx) (scope:Scope) (cl:List (Str×Addr)) (C:Addr) (N':List Str) (s:Shared) (H:Hp) (ex:List Addr) (pn:List (Addr×Obj)):Cx:=
 { X with N:=N',s₀:=s,H₀:=H,env:=compEnvC scope cl C X.env,outer:=X.stack,ex:=ex,fn:=fun _=>false,pn:=pn,xe:=fun _ _=>False }
def rT (L:Nat) (src:List Nat) (σ:St):St:=List.replicate L none++src.map fun j=>(σ[j]?).join
def jk (σ σ':St):Prop:=σ'.length=σ.length∧∀(i:Nat) v,σ[i]?=some (some v)→σ'[i]?=some (some v)
theorem il {x:V}{r:St}:jk (none :: r) (some x :: r):=⟨rfl,fun i v e=>by
 cases i with
 | zero=>simp at e
 | succ i=>simpa using e⟩
theorem ua {x y:V}{r:St}:jk (none :: none :: r) (some x :: some y :: r):=⟨rfl,fun i v e=>by
 cases i with
 | zero=>simp at e
 | succ i=>
  cases i with
  | zero=>simp at e
  | succ i=>simpa using e⟩
def wt (X:Cx) (ifs:List Expr) (t:TT):Prop:=
 ∀(pins:List (Addr×Obj)) (s:Shared) (σ:St) (H:Hp) (Q:Bool→Hp→Prop),aj X pins σ H s→t σ H Q→
   wpAny (model X.prog X.w) X.A (forIn ifs true fun c r=>if r=true then do let ok ←isTrue c X.env (eval c X.env);pure (ForInStep.yield ok) else pure (ForInStep.yield r)) (TP X pins σ Q) X.xe s
def tT:TT:=fun _ H Q=>Q true H
theorem cf {X:Cx}:wt X [] tT:=fun _ _ _ H _ I h=>wpAny_pure ⟨H,I,h⟩
theorem lj {X:Cx}{c:Expr}{t:TT} (hc:PT X c t):wt X [c] t:=by
 intro pins s σ H Q I h
 rw [List.forIn_cons]
 refine wpAny_bind ?_
 rw [if_pos rfl]
 exact wpAny_bind (aR (hc pins s σ H Q I h) fun b s1 q=>wpAny_pure (wpAny_pure q))
def jE (J:It) (σc:St) (g:TG) (tt:TT) (te:TE) (D:Addr) (H1:Hp) (Q:VK):Prop:=
 ∃W:Nat→Nat→Hp→List V→Prop,(∃m,W 0 m (aJ H1 D (.lst [])) [])∧∀i m H ys,W i m H ys→H D=some (.lst ys)∧
  ((J.stop i H∧Q (.ref D) H)∨(J.go i H∧ys.length<sizeLine∧∃N:Hp→List V→Prop,(∀H' ys',N H' ys'→∃m',m'<m∧W (i+1) m' H' ys')∧
    ∀x H',J.yld i H x H'→g x σc H' fun σ2 H2=>jk σc σ2∧tt σ2 H2 fun b H3=>if b=true then te σ2 H3 fun y H4=>H4 D=some (.lst ys)∧N (aJ H4 D (.lst (ys++[y]))) (ys++[y]) else N H3 ys))
def zI (wi:TI) (L:Nat) (src:List Nat) (g:TG) (tt:TT) (te:TE):TE:=fun σ H Q=>wi σ H fun J H1=>∀D,H1 D=none→jE J (rT L src σ) g tt te D H1 Q
section
variable {X:Cx}{elt tg iter:Expr}{ifs:List Expr}{scope:Scope}{pos:Pos}{N':List Str}{L:Nat}{src:List Nat}{wi:TI}{g:TG}{tt:TT}{te:TE}
end
theorem tQ {J:It}{n:Nat}{H1:Hp}{D:Addr}{σc:St}{g:TG}{tt:TT}{te:TE}{Q:VK} (Pv:Nat→Hp→List V→Prop) (hz:n≤sizeLine) (h0:Pv 0 (aJ H1 D (.lst [])) [])
 (hD:∀i H ys,Pv i H ys→H D=some (.lst ys)∧ys.length≤i)
 (hgo:∀i H ys,i<n→Pv i H ys→J.go i H) (hst:∀H ys,Pv n H ys→J.stop n H)
 (hs:∀i H ys x H',i<n→Pv i H ys→J.yld i H x H'→g x σc H' fun σ2 H2=>jk σc σ2∧tt σ2 H2 fun b H3=>if b=true then te σ2 H3 fun y H4=>H4 D=some (.lst ys)∧Pv (i+1) (aJ H4 D (.lst (ys++[y]))) (ys++[y]) else Pv (i+1) H3 ys)
 (hd:∀H ys,Pv n H ys→Q (.ref D) H):jE J σc g tt te D H1 Q:=by
 refine ⟨fun i m H ys=>m=n - i∧i≤n∧Pv i H ys,⟨n,by simp,Nat.zero_le _,h0⟩,?_⟩
 rintro i m H ys ⟨rfl,hi,p⟩
 obtain ⟨q1,q2⟩:=hD i H ys p
 refine ⟨q1,?_⟩
 by_cases hlt:i<n
 ·exact .inr ⟨hgo i H ys hlt p,by trivial,Pv (i+1),fun H' ys' p'=>⟨n - (i+1),by trivial,rfl,hlt,p'⟩,fun x H' y=>hs i H ys x H' hlt p y⟩
 ·have e:i=n:=by trivial
  subst e
  exact .inl ⟨hst H ys p,hd H ys p⟩
theorem io {J:It}{n:Nat}{H1:Hp}{D:Addr}{σc:St}{g:TG}{te:TE}{Q:VK} (Pv:Nat→Hp→List V→Prop) (hz:n≤sizeLine) (h0:Pv 0 (aJ H1 D (.lst [])) [])
 (hD:∀i H ys,Pv i H ys→H D=some (.lst ys)∧ys.length≤i)
 (hgo:∀i H ys,i<n→Pv i H ys→J.go i H) (hst:∀H ys,Pv n H ys→J.stop n H)
 (hs:∀i H ys x H',i<n→Pv i H ys→J.yld i H x H'→g x σc H' fun σ2 H2=>jk σc σ2∧te σ2 H2 fun y H4=>H4 D=some (.lst ys)∧Pv (i+1) (aJ H4 D (.lst (ys++[y]))) (ys++[y]))
 (hd:∀H ys,Pv n H ys→Q (.ref D) H):jE J σc g tT te D H1 Q:=by
 refine tQ Pv hz h0 hD hgo hst (fun i H ys x H' hi p y=>?_) hd
 have e:=hs i H ys x H' hi p y
 have q:(fun (σ2:St) (H2:Hp)=>jk σc σ2∧tT σ2 H2 fun b H3=>if b=true then te σ2 H3 fun y H4=>H4 D=some (.lst ys)∧Pv (i+1) (aJ H4 D (.lst (ys++[y]))) (ys++[y]) else Pv (i+1) H3 ys) =
  (fun σ2 H2=>jk σc σ2∧te σ2 H2 fun y H4=>H4 D=some (.lst ys)∧Pv (i+1) (aJ H4 D (.lst (ys++[y]))) (ys++[y])):=by
  funext σ2 H2
  unfold tT
  dsimp only
  rw [if_pos rfl]
 rw [q]
 exact e
section
variable {X:Cx}{pins:List (Addr×Obj)}{σ:St}{H:Hp}{s:Shared}{h':Heap}
theorem aj.turnedNew {t':Nat}{ch:List Addr}{T:Addr}{o:HO} (I:aj X pins σ H s) (hf:∀b∈ch,oB X pins H b) (k:∀b u,b∉ch→s.heap.get? b=some u→h'.get? b=some u)
 (hT:s.heap.objs.size≤T) (new:b6 X.prog X.w (aJ H T o) h' T o):aj X pins σ (aJ H T o) { s with heap:=h',toks:=t' }:=by
 have hn:H T=none:=I.hok.fresh hT
 refine I.step (g':=s.gens) (d':=s.drawn) (ch:=ch) (fun b hb=>?_) (fun b o _ _ hc e _=>k b o hc e) (fun b o _ _ hc e _=>⟨o.slots,k b o hc e⟩) (fun b o hc e n=>?_)
  (fun b o hc e=>⟨o,k b o hc e⟩) (fun b xs e=>?_) (fun b o u e=>?_) (fun b ps e=>?_) (fun m hm=>?_) (fun b u e=>?_) I.bare
 ·obtain ⟨f0,f1,f2,f3,f4,f5⟩:=hf b hb
  exact ⟨f3,f1,f4,f5⟩
 ·rw [ax (Nat.ne_of_lt (Nat.lt_of_lt_of_le (Heap.lt_size e) hT))];exact n
 ·rw [ax (aK e hn)];exact e
 ·rw [ax (aK e hn)];exact e
 ·exact ⟨#[],by rw [ax (aK e hn),e];simp⟩
 ·obtain ⟨o,es,ep,ho,r⟩:=hm
  exact ⟨o,es,ep,k _ o (fun z=>(hf _ z).2.1 rfl) ho,r⟩
 ·by_cases hb:b=T
  ·subst hb;rw [av] at e;cases e;exact new
  ·rw [ax hb] at e
   refine (I.hok b u e).stay (fun c v hc q=>k c v (fun z=>?_) q) (fun c q=>by rw [ax (aK q hn)];exact q) fun c xs q=>by rw [ax (aK q hn)];exact q
   have hcn:=(hf c z).1
   rcases hc with rfl | hc
   ·rw [e] at hcn;cases hcn
   ·rw [hc] at hcn;cases hcn
end
section
variable {X:Cx}
theorem Bm {bs:List Bool}{us:List Value} (r:aE (bs.map V.bl) us) {i:Nat}{v:Value} (e:us[i]?=some v):∃b,bs[i]?=some b∧v=.bool b:=by
 have hl:=r.length
 rw [List.length_map] at hl
 have hi:i<us.length:=(List.getElem?_eq_some_iff.mp e).1
 have hb:bs[i]?=some bs[i]:=by simp [hl,hi]
 obtain ⟨u,h1,h2⟩:=r.get (i:=i) (x:=.bl bs[i]) (by rw [List.getElem?_map,hb];rfl)
 rw [e] at h1
 cases h1
 exact ⟨_,hb,h2⟩
theorem Eo {s:Shared}{h':Heap}{o:Obj} (hk:∀b x,b∉[s.heap.objs.size]→(s.heap.push o).get? b=some x→h'.get? b=some x):∀b x,s.heap.get? b=some x→h'.get? b=some x:=
 fun b x e=>hk b x (fun hm=>by rw [List.mem_singleton.mp hm] at e;exact Nat.lt_irrefl _ (Heap.lt_size e)) (Heap.get?_push_of_some _ e)
theorem BM (hc:X.calm=true):gL X (.builtin "all") (fun xs H Q=>bX fun (l:Addr) (bs:List Bool)=>xs=[.ref l]∧aA X.K H l (bs.map V.bl)∧Q (.bl (bs.all id)) H):=by
 intro pins s σ H xs us Q I r h
 obtain ⟨l,bs,rfl,hq,q⟩:=h
 obtain ⟨u,rfl,ru⟩:=r.one
 obtain rfl:u=.ref l:=ru
 obtain ⟨its,rv,p,hz⟩:=I.list hq
 have hl:=p.isList
 have hlt:l<s.heap.objs.size:=by obtain ⟨_,e,_⟩:=hl;exact Heap.lt_size e
 refine call_all_walk (wpAny_pyIter_list hl ?_)
 refine ⟨s.heap.objs.size,[s.heap.objs.size,l],[s.heap.objs.size],its.toArray.size,_,_,fun i=>(bs[i]?).getD true,rfl,Walks.list (A:=X.A.in1) (I.ok.hd hc) _ l (Nat.ne_of_lt hlt) its.toArray,
  ⟨⟨_,Heap.get?_push_size _ rfl,rfl,rfl⟩,hl.push _⟩,fun i v s' Q' E' hP hQ=>?_,fun h' tk hk=>?_⟩
 ·obtain ⟨b,e,rfl⟩:=Bm rv (i:=i) (v:=v) (by simpa using hP)
  simp only [e,Option.getD_some] at hQ
  exact wpAny_truthy_bool hQ
 ·have e:((List.range its.toArray.size).all fun i=>(bs[i]?).getD true)=bs.all id:=by
   rw [List.size_toArray,←rv.length,List.length_map];exact LSm.range_all bs
  rw [e]
  exact ⟨.bl _,H,I.kept (Eo hk),rfl,q⟩
end
def IJ (K:PySem.W.Frag) (a:Addr):It:=
 ⟨fun i H=>bX fun xs x=>aA K H a xs∧xs[i]?=some x,fun i H v H'=>bX fun T x=>H T=none∧v=.ref T∧H'=aJ H T (.tup [.int (i:Int),x])∧∀xs,aA K H a xs→xs[i]?=some x,fun i H=>∃xs,aA K H a xs∧xs.length≤i⟩
theorem Bz {P:Program}{w:World}{K:PySem.W.Frag}{es:List Expr}{kk:Nat}{pos:Pos} (a e it:Addr) (hne:e≠it) :
 uQ P w K (.Tuple es kk pos) (IJ K a) [e,it] e (fun i h=>(∃old,IsEnum h e it i old)∧h.IsListIter it a i) where
 mem:=by simp
 obj:=fun i h st b hb=>by
  obtain ⟨⟨old,he⟩,o,e1,c,d⟩:=st
  have hb':b=e∨b=it:=by simpa using hb
  rcases hb' with rfl | rfl
  ·exact ⟨_,he,fun v z=>by
    have z':Data.fields _=Data.cell v:=z
    cases z'⟩
  ·exact ⟨o,e1,fun v z=>by rw [d] at z;cases z⟩
 keep:=fun i h h' st k=>by
  obtain ⟨⟨old,he⟩,hi⟩:=st
  exact ⟨⟨old,k e (by simp) _ he⟩,hi.at fun o q=>k it (by simp) o q⟩
 item:=by
  intro X hP hw hK hc i pins s σ H E I hf st hg
  subst hP hw hK
  obtain ⟨⟨old,he⟩,hit⟩:=st
  obtain ⟨xs,x,hq,hx⟩:=hg
  obtain ⟨its,rv,p,hz⟩:=I.list hq
  obtain ⟨u,hu,ru⟩:=rv.get hx
  have hnT:H s.heap.objs.size=none:=I.fresh
  refine wpAny_pyNext_enum_item he hit p.isList (x:=u) (by simpa using hu) hne fun h' ho hit' hT hsz hk=>?_
  refine ⟨(),wpAny_letOwnedTupleGo_enum (s:={ s with heap:=h',toks:=s.toks+1 }) ho fun h'' he'' hs''=>?_⟩
  have helt:e<s.heap.objs.size:=Heap.lt_size he
  have hilt:it<s.heap.objs.size:=by obtain ⟨_,y,_⟩:=hit;exact Heap.lt_size y
  have hT'':h''.get? s.heap.objs.size=some { cls:=.type "tuple",data:=.seq #[.int i s.toks,u] }:=(hs''.2 _ (Nat.ne_of_gt helt)).trans hT
  refine ⟨.ref s.heap.objs.size,aJ H s.heap.objs.size (.tup [.int (i:Int),x]),I.turnedNew (ch:=[e,it]) (t':=s.toks+1) hf (fun b o hb q=>?_) (Nat.le_refl _) ?_,rfl,⟨_,x,hnT,rfl,rfl,fun ys hy=>by rw [I.list_inj hy hq];exact hx⟩,⟨⟨u,?_⟩,hit'.extBut hs''.extBut (Ne.symm hne)⟩,fun b hb=>?_⟩
  ·have h1:b≠e:=fun z=>hb (by simp [z])
   have h2:b≠it:=fun z=>hb (by simp [z])
   exact (hs''.2 b h1).trans (hk b o h1 h2 q)
  ·exact ⟨by show 2≤sizeLine;decide,[.int i s.toks,u],.cons ⟨()⟩ (.cons ru .nil),⟨_,hT'',rfl,()⟩,_,hT'',rfl⟩
  ·simpa using he''
  ·have hb':b=e∨b=it:=by simpa using hb
   have hlt:b<s.heap.objs.size:=by rcases hb' with rfl | rfl <;> assumption
   rw [ax (Nat.ne_of_lt hlt)]
   exact (hf b hb).1
 done:=by
  intro X hP hw hK hc i pins s σ H E I hf st hg
  subst hP hw hK
  obtain ⟨⟨old,he⟩,hit⟩:=st
  obtain ⟨xs,hq,hx⟩:=hg
  obtain ⟨its,rv,p,hz⟩:=I.list hq
  obtain ⟨f0,f1,f2,f3,f4,f5⟩:=hf it (by simp)
  have hl:=rv.length
  exact wpAny_pyNext_enum_end (I.ok.hd hc) he hit p.isList (by simp;trivial) fun h' eb=>⟨rfl,I.turned (t':=s.toks) (fun b o hb e=>eb b o hb e) f0 f1 f3 f4 f5⟩
 self:=fun _ _ _ _ _ st h=>by
  obtain ⟨⟨old,he⟩,_⟩:=st
  exact wpAny_pyIter_enum he h
def Ia (K:PySem.W.Frag) (ta:TA):TI:=fun σ H R=>ta σ H fun vs H1=>∃a,vs=[.ref a]∧(∃xs,aA K H1 a xs)∧R (IJ K a) H1
theorem Ep {X:Cx}{es:List Expr}{kk:Nat}{tp:Pos}{a:Expr}{ta:TA}{p pos:Pos} (hg:Gl X "enumerate") (hm:X.mg "enumerate" = none) (ha:PA X [a] ta) (hs:starEach [a] X.env=[(false,eval a X.env)]:=by rfl) :
 PI X (.Tuple es kk tp) (.Call (.Name "enumerate" p) [a] [] pos) (Ia X.K ta):=by
 intro pins s σ H R I h
 refine Call_ (nK I hg hm boot_enumerate (PyProof.Rows.callWith_type1 (aR (ha pos pins s σ H _ I h) fun us s1 ⟨vs,H1,I1,r1,q1⟩=>?_) hs rfl))
 obtain ⟨a,rfl,⟨xs,hq⟩,q⟩:=q1
 obtain ⟨u,rfl,ru⟩:=r1.one
 obtain rfl:u=.ref a:=ru
 obtain ⟨its,rv,p,hz⟩:=I1.list hq
 refine call_enumerate_list p.isList fun h' hE hI hsz hk=>wpAny_pyIter_enum hE ?_
 have I2:aj X pins σ H1 { s1 with heap:=h',toks:=s1.toks }:=I1.kept hk
 refine ⟨s1.heap.objs.size+1,[s1.heap.objs.size+1,s1.heap.objs.size],_,_,H1,rfl,I2,Bz a (s1.heap.objs.size+1) s1.heap.objs.size (Nat.succ_ne_self _),⟨⟨_,hE⟩,hI⟩,fun b hb=>?_,q⟩
 have hb':b=s1.heap.objs.size+1∨b=s1.heap.objs.size:=by simpa using hb
 have hle:s1.heap.objs.size≤b:=by rcases hb' with rfl | rfl <;> trivial
 exact I1.fpOk hle (I1.hok.fresh hle)
end L2
namespace L2
open PySem PySem.Spec PyProof.Rows
theorem aL:bootBuiltins "len" = some (.builtin "len"):=by nofun
theorem kO:bootBuiltins "abs" = some (.builtin "abs"):=by nofun
theorem Ao:bootBuiltins "all" = some (.builtin "all"):=by nofun
theorem xw:bootBuiltins "divmod" = some (.builtin "divmod"):=by nofun
theorem jh:bootBuiltins "isinstance" = some (.builtin "isinstance"):=by nofun
theorem pD:bootBuiltins "int" = some (.type "int"):=by nofun
theorem xI:bootBuiltins "bool" = some (.type "bool"):=by nofun
theorem kI:bootBuiltins "list" = some (.type "list"):=by nofun
theorem bR:bootBuiltins "tuple" = some (.type "tuple"):=by nofun
theorem zJ {X:Cx}{x:Str}{T:String}{pos:Pos} (hg:Gl X x) (hm:X.mg x=none) (hv:bootBuiltins x=some (.type T)) (hn:x≠"__name__" := by decide) (hd:(x==("__debug__" : Str))=false:=by decide):PE X (.Name x pos) (tC (.ty T)):=
 Fg (v:=.ty T) hg hm hv rfl hn hd
mutual
inductive aB (E:Addr→Prop) (H:Hp):V→PyData→Prop
 | non:aB E H .non .none
 | bl (b:Bool):aB E H (.bl b) (.bool b)
 | int (i:Int):aB E H (.int i) (.int i)
 | str (x:Str):aB E H (.str x) (.str x)
 | lst {a:Addr}{xs:List V}{ds:List PyData} (h:H a=some (.lst xs)) (ne:¬E a) (r:aw E H xs ds):aB E H (.ref a) (.list ds)
 | tup {a:Addr}{xs:List V}{ds:List PyData} (h:H a=some (.tup xs)) (r:aw E H xs ds):aB E H (.ref a) (.tuple ds)
inductive aw (E:Addr→Prop) (H:Hp):List V→List PyData→Prop
 | nil:aw E H [] []
 | cons {x:V}{xs:List V}{d:PyData}{ds:List PyData} (h:aB E H x d) (r:aw E H xs ds):aw E H (x :: xs) (d :: ds)
end
structure ai (E:Addr→Prop) (H H':Hp):Prop where
 old:∀a o,¬E a→H a=some o→H' a=some o
 tup:∀a xs,H a=some (.tup xs)→H' a=some (.tup xs)
mutual
theorem aB.mono {E:Addr→Prop}{H H':Hp} (k:ai E H H'):∀{v:V}{d:PyData},aB E H v d→aB E H' v d
 | _,_,.non=>.non
 | _,_,.bl b=>.bl b
 | _,_,.int i=>.int i
 | _,_,.str x=>.str x
 | _,_,.lst h ne r=>.lst (k.old _ _ ne h) ne (aw.mono k r)
 | _,_,.tup h r=>.tup (k.tup _ _ h) (aw.mono k r)
theorem aw.mono {E:Addr→Prop}{H H':Hp} (k:ai E H H'):∀{vs:List V}{ds:List PyData},aw E H vs ds→aw E H' vs ds
 | _,_,.nil=>.nil
 | _,_,.cons h r=>.cons (aB.mono k h) (aw.mono k r)
end
theorem ai.refl {E:Addr→Prop} (H:Hp):ai E H H:=⟨fun _ _ _ h=>h,fun _ _ h=>h⟩
theorem ai.trans {E:Addr→Prop}{H H1 H2:Hp} (a:ai E H H1) (b:ai E H1 H2):ai E H H2:=⟨fun c o n h=>b.old c o n (a.old c o n h),fun c xs h=>b.tup c xs (a.tup c xs h)⟩
theorem ad.toE {E:Addr→Prop}{H H':Hp} (a:ad H H'):ai E H H':=⟨fun c o _ h=>a c o h,fun c xs h=>a c _ h⟩
theorem ad.new {H:Hp}{p:Addr}{o:HO} (h:H p=none):ad H (aJ H p o):=fun b u e=>by rw [ax (aK e h)];exact e
theorem aw.length {E:Addr→Prop}{H:Hp}:∀{vs:List V}{ds:List PyData},aw E H vs ds→vs.length=ds.length
 | _,_,.nil=>rfl
 | _,_,.cons _ r=>by simp [aw.length r]
theorem aw.get {E:Addr→Prop}{H:Hp}:∀{vs:List V}{ds:List PyData}{i:Nat}{v:V},aw E H vs ds→vs[i]?=some v→∃d,ds[i]?=some d∧aB E H v d
 | _,_,_,_,.nil,e=>by simp at e
 | _,_,0,_,.cons h _,e=>by simp at e;subst e;exact ⟨_,rfl,h⟩
 | _,_,i+1,v,.cons _ r,e=>by
  obtain ⟨d,h1,h2⟩:=aw.get (i:=i) (v:=v) r (by simpa using e)
  exact ⟨d,by simpa using h1,h2⟩
theorem aw.append {E:Addr→Prop}{H:Hp}:∀{vs ws:List V}{ds es:List PyData},aw E H vs ds→aw E H ws es→aw E H (vs++ws) (ds++es)
 | _,_,_,_,.nil,s=>s
 | _,_,_,_,.cons h r,s=>.cons h (aw.append r s)
mutual
theorem aB.reads {E:Addr→Prop}{P:Program}{w:World}{H:Hp}{h:Heap} (ok:eS P w H h):∀{v:V}{d:PyData},aB E H v d→∀{u:Value},bh v u→∃as,Reads h u d as
 | _,_,.non,u,r=>by obtain rfl:u=.none:=r;exact ⟨_,.none⟩
 | _,_,.bl b,u,r=>by obtain rfl:u=.bool b:=r;exact ⟨_,.bool b⟩
 | _,_,.int i,u,r=>by obtain ⟨t,rfl⟩:=r;exact ⟨_,.int i t⟩
 | _,_,.str x,u,r=>by obtain ⟨t,rfl⟩:=r;exact ⟨_,.str x t⟩
 | _,_,.lst (a:=a) (xs:=xs) e _ q,u,r=>by
  obtain rfl:u=.ref a:=r
  obtain ⟨_,its,n,rv,e1⟩:=(show b6 P w H h a (.lst xs) from ok a _ e)
  obtain ⟨as,ra⟩:=aw.reads ok q rv
  exact ⟨_,.list e1 rfl rfl (by simpa using ra)⟩
 | _,_,.tup (a:=a) (xs:=xs) e q,u,r=>by
  obtain rfl:u=.ref a:=r
  obtain ⟨_,its,rv,⟨o,e1,c,n,dd⟩,_⟩:=(show b6 P w H h a (.tup xs) from ok a _ e)
  obtain ⟨as,ra⟩:=aw.reads ok q rv
  exact ⟨_,.tuple e1 c dd (by simpa using ra)⟩
theorem aw.reads {E:Addr→Prop}{P:Program}{w:World}{H:Hp}{h:Heap} (ok:eS P w H h):∀{vs:List V}{ds:List PyData},aw E H vs ds→∀{us:List Value},aE vs us→∃as,ReadsAll h us ds as
 | _,_,.nil,us,r=>by cases r;exact ⟨_,.nil⟩
 | _,_,.cons q qs,us,r=>by
  cases r with
  | cons r1 rr=>
   obtain ⟨as,h1⟩:=aB.reads ok q r1
   obtain ⟨bs,h2⟩:=aw.reads ok qs rr
   exact ⟨_,.cons h1 h2⟩
end
section
variable {X:Cx}
def zH (_ j:Int):Prop:=0<j∧j.natAbs.log2<9000
theorem qR:cz X (binaryOp .FloorDiv) (rI zH fun i j=>.int (i / j)):=wV fun i j _ _ _ _ _ hc q=>by
 rw [←Int.fdiv_eq_ediv_of_nonneg _ (Int.le_of_lt hc.1)] at q
 exact floordiv_int (Int.ne_of_gt hc.1) q (.inl (PyProof.noPylong_of_log2 hc.2))
def Hw (i j k:Nat) (ta:TA):TS:=fun D σ H=>ta σ H fun vs H1=>kZ fun v w u=>vs=[v,w,u]∧D.nx (((σ.set i (some v)).set j (some w)).set k (some u)) H1
theorem Ei {pos:Pos}{i j k:Nat}{x y z:Str}{a b c:Expr}{ta:TA}{px py pz pt:Pos}{kt k2 pt2} (hc:X.calm=true) (hN:X.N.Nodup) (hi:X.N[i]?=some x) (hj:X.N[j]?=some y) (hk:X.N[k]?=some z) (hij:i≠j) (hik:i≠k) (hjk:j≠k)
 (hx:X.env.scope.names.lookup x=some .local) (hy:X.env.scope.names.lookup y=some .local) (hz:X.env.scope.names.lookup z=some .local) (ha:PA X [a,b,c] ta)
 (hw:swappedStores [.Tuple [.Name x px,.Name y py,.Name z pz] kt pt] (.Tuple [a,b,c] k2 pt2) X.env=pure (some [x,y,z]))
 (hs:swapsWithSole [.Tuple [.Name x px,.Name y py,.Name z pz] kt pt] (.Tuple [a,b,c] k2 pt2) pos.line X.env=pure false:=by rfl) :
 PS X (.Assign [.Tuple [.Name x px,.Name y py,.Name z pz] kt pt] (.Tuple [a,b,c] k2 pt2) pos) (Hw i j k ta):=by
 intro pins s σ H D I h
 rw [exec_Assign_arm]
 refine wpAny_bind (wpAny_standAt ?_)
 rw [hs]
 refine wpAny_bind (wpAny_pure ?_)
 rw [if_neg (by decide)]
 refine wpAny_bind (Tuple_ (aR (ha _ pins s σ H _ I h) fun us s1 ⟨vs,H1,I1,r1,q1⟩=>?_))
 obtain ⟨v,w,u,e1,q1⟩:=q1
 subst e1
 obtain ⟨u1,u2,u3,rfl,rv,rw',ru⟩:kZ fun u1 u2 u3=>us=[u1,u2,u3]∧bh v u1∧bh w u2∧bh u u3:=by
  cases r1 with
  | cons p q=>
   cases q with
   | cons p' q'=>
    cases q' with
    | cons p'' q''=>
     cases q''
     exact ⟨_,_,(),p,p',p''⟩
 refine wpAny_newObj_type ?_ (by show 3≤sizeLine;decide)
 have I2:aj X pins σ H1 { s1 with heap:=s1.heap.push { cls:=.type "tuple",data:=.seq [u1,u2,u3].toArray } }:=I1.kept (t':=s1.toks) fun b o e=>Heap.get?_push_of_some _ e
 rw [hw]
 refine wpAny_bind (wpAny_pure ?_)
 show wpAny (model X.prog X.w) X.A (do rule "assign.swapped-stores";let items ←unpackItems (.ref s1.heap.objs.size) 3 none;assignInOrder [fun v=>bindName X.env z v,fun v=>bindName X.env y v,fun v=>bindName X.env x v] items.reverse;pure Flow.next) _ _ _
 refine wpAny_bind (wpAny_rule (wpAny_bind (unpackItems_tuple (items:=#[u1,u2,u3]) (I.ok.hd hc) (IsTup.new s1.heap _) fun h' hx'=>?_)))
 have I3:=I2.kept (h':=h') (t':=s1.toks) fun b o e=>hx' b o (Nat.ne_of_lt (Heap.lt_size e)) e
 show wpAny _ _ (assignInOrder [fun v=>bindName X.env z v,fun v=>bindName X.env y v,fun v=>bindName X.env x v] [u3,u2,u1] >>= fun _=>pure Flow.next) _ _ _
 refine wpAny_bind (assignInOrder_cons (wpAny_bindName (jQ I3 hN hk (.inl hz) ru (fun s2 I4=>?_) (.inr hz))))
 refine assignInOrder_cons (wpAny_bindName (jQ I4 hN hj (.inl hy) rw' (fun s3 I5=>?_) (.inr hy)))
 refine assignInOrder_cons (wpAny_bindName (jQ I5 hN hi (.inl hx) rv (fun s4 I6=>assignInOrder_nil (wpAny_pure ?_)) (.inr hx)))
 have e:(((σ.set i (some v)).set j (some w)).set k (some u))=(((σ.set k (some u)).set j (some w)).set i (some v)):=by
  rw [List.set_comm _ _ (Ne.symm hjk),List.set_comm (some v) (some w) hij,List.set_comm (some v) (some u) hik]
 rw [←e] at I6
 exact ⟨_,H1,I6,q1⟩
end
end L2
namespace L2
open PySem PySem.Spec PyProof.Rows
def DE:PyData→String
 | .none => "NoneType"
 | .bool _ => "bool"
 | .int _ => "int"
 | .str _ => "str"
 | .list _ => "list"
 | .tuple _ => "tuple"
 | .dict _ => "dict"
theorem aB.ty {K:PySem.W.Frag}{E:Addr→Prop}{H:Hp}{v:V}{d:PyData} (h:aB E H v d):jM K H v (.type (DE d)):=by
 cases h with
 | non=>exact .non
 | bl b=>exact .bl b
 | int i=>exact .int i
 | str x=>exact .str x
 | lst h ne r=>exact .lst h
 | tup h r=>exact .tup h
def Gm:PyData→Bool
 | .int _=>true
 | .bool _=>true
 | _=>false
def EV:PyData→Bool
 | .bool _=>true
 | _=>false
def FA:PyData→Bool
 | .tuple _=>true
 | _=>false
theorem Ey {K:PySem.W.Frag} (d:PyData):PySem.W.kitOne K (.type (DE d)) (.type "int")=some (Gm d):=by cases d <;> rfl
theorem Ci {K:PySem.W.Frag} (d:PyData):PySem.W.kitOne K (.type (DE d)) (.type "bool")=some (EV d):=by cases d <;> rfl
theorem AF {K:PySem.W.Frag} (d:PyData):PySem.W.kitOne K (.type (DE d)) (.type "tuple")=some (FA d):=by cases d <;> rfl
inductive Iy (K:PySem.W.Frag) (xs:List V) (H:Hp) (Q:VK):Prop
 | mk (x:_) (T:_) (t:_) (b:_) (h0:xs=[x,.ty T]) (h1:jM K H x t) (h2:PySem.W.kitOne K t (.type T)=some b) (h3:Q (.bl b) H)
def Jv (K:PySem.W.Frag):List V→Hp→VK→Prop:=fun xs H Q=>Iy K xs H Q
theorem Au {j:Int} (h0:0<j) {k:Nat} (h:j<2 ^ k):j.natAbs.log2<k:=by
 have hn:j.natAbs<2 ^ k:=by
  have e:((2:Int) ^ k)=((2 ^ k:Nat):Int):=by simp
  rw [e] at h
  trivial
 exact (Nat.log2_lt (by trivial)).mpr hn
theorem Ag {j:Int} (h0:0<j) (h:j<2 ^ 8000):j.natAbs.log2<9000:=Nat.lt_of_lt_of_le (Au h0 h) (by decide)
section
variable {X:Cx}
theorem yC:gL X (.builtin "divmod") (fun xs H Q=>bX fun i j=>xs=[.int i,.int j]∧zH i j∧∀p,H p=none→Q (.ref p) (aJ H p (.tup [.int (i / j),.int (i % j)]))):=by
 intro pins s σ H xs us Q I r h
 obtain ⟨i,j,rfl,⟨h1,h2⟩,q⟩:=h
 obtain ⟨u,w',rfl,⟨t,rfl⟩,⟨t',rfl⟩⟩:=HV r
 refine divmod_int (by trivial) ?_ (.inl (PyProof.noPylong_of_log2 h2))
 rw [Int.fdiv_eq_ediv_of_nonneg i (by trivial),Int.fmod_eq_emod_of_nonneg i (by trivial)]
 have hn:H s.heap.objs.size=none:=I.hok.fresh (Nat.le_refl _)
 refine ⟨.ref s.heap.objs.size,_,?_,rfl,q _ hn⟩
 refine I.laid (fun b o e=>Heap.get?_push_of_some _ e) (Nat.le_refl _) ⟨by simp only [List.length_cons,List.length_nil];rw [sizeLine_eq];decide,[.int (i / j) s.toks,.int (i % j) (s.toks+1)],.cons ⟨()⟩ (.cons ⟨()⟩ .nil),?_⟩
 exact ⟨⟨_,Heap.get?_push_size s.heap rfl,rfl,0,rfl⟩,_,Heap.get?_push_size s.heap rfl,rfl⟩
end
theorem JJ (c:Bool):-(2 ^ 64)<(if c=true then (1:Int) else 0)∧(if c=true then (1:Int) else 0)<2 ^ 64:=by cases c <;> decide
theorem xU (x:Int):0≤(if x<0 then -x else x):=by split <;> trivial
theorem HQ {x:Int} (c:Bool) (h:0≤x):0≤x*(if c=true then (1:Int) else 0):=by cases c <;> simp [h]
theorem yV {ms:List Int}{k:Int} (h0:0≤k) (h:k.toNat<ms.length):jY (ms.map V.int) k=some (V.int ms[k.toNat]):=by
 have q:=c0 (xs:=ms.map V.int) (j:=k.toNat) (v:=V.int ms[k.toNat]) (by rw [List.getElem?_map];simp [h])
 rwa [Int.toNat_of_nonneg h0] at q
inductive Bx (H:Hp) (b:Addr) (t:Int):Prop
 | mk (c x:Int) (h0:H b=some (.lst [.int c,.int x,.int t])) (h1:0≤c) (h2:0≤x) (h3:x<2147483647)
abbrev Eb (b:Addr):Addr→Prop:=fun a=>a=b
theorem Bx.same {H H':Hp}{b:Addr}{t:Int} (h:Bx H b t) (k:ad H H'):Bx H' b t:=by
 obtain ⟨c,x,e,r,r2,r3⟩:=h
 exact ⟨c,x,k _ _ e,r,r2,r3⟩
theorem xm {H H1:Hp}{b:Addr}{xs:List V}{o:HO} (k:ad H H1) (hb:H1 b=some (.lst xs)):ai (Eb b) H (aJ H1 b o):=
 ⟨fun a u n h=>by rw [ax n];exact k a u h,fun a ys h=>by
  have e:=k a _ h
  rw [ax (jG e hb (by intro z;cases z))];exact e⟩
inductive FL (K:PySem.W.Frag) (vs:List V) (H:Hp) (Q:VK):Prop
 | mk (a:Addr) (ms:List Int) (k:Int) (h0:vs=[.ref a,.int k]) (h1:aA K H a (ms.map V.int)) (h2:0≤k) (h3:k≤63) (h4:∀p H',H p=none→ad H H'→Bx H' p 0→Q (.ref p) H')
def HA (K:PySem.W.Frag):Sp:=fun vs H Q _=>FL K vs H Q
inductive Ew (vs:List V) (H:Hp) (Q:VK):Prop
 | mk (b:Addr) (many t:Int) (h0:vs=[.ref b,.int many]) (h1:Bx H b t) (h2:0<many) (h3:many.natAbs.log2<9000) (h4:0≤t) (h5:t≤1000000) (h6:∀r t' H',0≤r→r<many→t≤t'→t'≤t+1→ai (Eb b) H H'→Bx H' b t'→Q (.int r) H')
def GM:Sp:=fun vs H Q _=>Ew  vs H Q
inductive Fc (K:PySem.W.Frag) (vs:List V) (H:Hp) (Q:VK):Prop
 | mk (a:Addr) (ns:List Int) (many:Int) (h0:vs=[.ref a,.int many]) (h1:aA K H a (ns.map V.int)) (h2:ns.length≤63) (h3:2≤many) (h4:many≤63) (h5:∀(p:Addr) (ms:List Int) (H':Hp),H p=none→ad H H'→H' p=some (.lst (ms.map V.int))→2≤ms.length→(ms.length:Int)≤many→Q (.ref p) H')
def Gy (K:PySem.W.Frag):Sp:=fun vs H Q _=>Fc K vs H Q
def yb:List Str→Bool
 | []=>true
 | x :: r=>!r.contains x && yb r
theorem Bn:∀l:List Str,yb l=true→l.Nodup
 | [],_=>List.nodup_nil
 | x :: r,h=>by
  unfold yb at h
  simp only [Bool.and_eq_true,Bool.not_eq_true',List.contains_eq_mem,decide_eq_false_iff_not] at h
  exact List.nodup_cons.mpr ⟨h.1,Bn r h.2⟩
inductive Ir (K:PySem.W.Frag) (xs:List V) (H:Hp) (Q:VK):Prop
 | mk (p:_) (ys:_) (h0:xs=[.ref p]) (h1:(aA K H p ys∨ae K H p ys)) (h2:Q (.int ys.length) H)
def Jm (K:PySem.W.Frag):List V→Hp→VK→Prop:=fun xs H Q=>Ir K xs H Q
section
variable {X:Cx}{K:PySem.W.Frag}
theorem uX (e:X.K=K:=by rfl):gL X (.builtin "isinstance") (Jv K):=by subst e;exact fun pins s σ H xs us Q I r ⟨x,T,t,b,h1,h2,h3,q⟩=>yQ pins s σ H xs us Q I r ⟨x,T,t,b,h1,h2,h3,q⟩
theorem cm (e:X.K=K:=by rfl):gL X (.builtin "len") (Jm K):=by subst e;exact fun pins s σ H xs us Q I r ⟨p,ys,h1,h2,q⟩=>ou pins s σ H xs us Q I r ⟨p,ys,h1,h2,q⟩
theorem HS (e:X.K=K:=by rfl):tK X (CC K):=by subst e;exact y4
theorem Hl (e:X.K=K:=by rfl):tK X (CG K):=by subst e;exact Br
theorem sI (e:X.K=K:=by rfl):cz X (compareOp .In) (DD K false):=by subst e;exact Bu
theorem ui (e:X.K=K:=by rfl):cz X (compareOp .NotIn) (DD K true):=by subst e;exact xS
inductive HE (K:PySem.W.Frag) (xs:List V) (H:Hp) (Q:VK):Prop
 | mk (l:Addr) (bs:List Bool) (h0:xs=[.ref l]) (h1:aA K H l (bs.map V.bl)) (h2:Q (.bl (bs.all id)) H)
def Ji (K:PySem.W.Frag):List V→Hp→VK→Prop:=fun xs H Q=>HE K xs H Q
theorem HJ (hc:X.calm=true) (e:X.K=K:=by rfl):gL X (.builtin "all") (Ji K):=by subst e;exact fun pins s σ H xs us Q I r ⟨l,bs,h1,h2,q⟩=>BM hc pins s σ H xs us Q I r ⟨l,bs,h1,h2,q⟩
theorem aX {pos:Pos}{es:List Expr}{k:Nat}{t:uD}{n:Nat} (hc:X.calm=true) (h:Bo X es t) (e:X.K=K:=by rfl)
 (hn:(assignEach es X.env).length=n:=by rfl) (hst:(assignEach es X.env).findIdx? (·.1)=none:=by rfl):PG X (.Tuple es k pos) (Ae K n t):=by
 subst e;exact yd hc h hn hst
theorem A9 {tg l:Expr}{tl:TE} (hl:PE X l tl) (e:X.K=K:=by rfl):PI X tg l (Dj K tl):=by subst e;exact E1 hl
theorem iw {tg l:Expr}{tl:TE} (hl:PE X l tl) (e:X.K=K:=by rfl):PI X tg l (FI K tl):=by subst e;exact FF hl
end
end L2
namespace L2
open PySem PySem.Spec PyProof.Rows
def wg:Expr→Bool
 | .Starred ..=>false
 | _=>true
theorem A1 {e:Expr}{es:List Expr}{env:Env} (h:wg e=true):starEach (e :: es) env=(false,eval e env) :: starEach es env:=by
 cases e <;> first | rfl | (simp [wg] at h)
section
variable {X:Cx}{e:Expr}{es:List Expr}{te:TE}{t:TA}
theorem FY (ha:PE X e te) (hr:PA X es t) (hs:wg e=true:=by rfl):PA X (e :: es) (DH te t):=bE ha hr (A1 hs)
theorem pw (i:Nat) {x:Str}{pos:Pos} (hv:Du X.env.scope x) (hN:X.N[i]?=some x:=by rfl) (hd:(x==("__debug__" : Str))=false:=by decide) (hcd:(x==("__classdict__" : Str))=false:=by decide):PE X (.Name x pos) (BQ i):=Bs hN hv hd hcd
end
end L2
namespace KM
theorem gcd_fmod (n d:Int):Int.gcd d (n.fmod d)=Int.gcd n d:=by
 apply Nat.dvd_antisymm
 ·apply Int.dvd_gcd
  ·have h1:((Int.gcd d (n.fmod d):Nat):Int) ∣ d:=Int.gcd_dvd_left ..
   have h2:((Int.gcd d (n.fmod d):Nat):Int) ∣ n.fmod d:=Int.gcd_dvd_right ..
   have h3:=Int.dvd_add h2 (Int.dvd_mul_of_dvd_left (c:=n.fdiv d) h1)
   rw [Int.fmod_add_mul_fdiv] at h3
   exact h3
  ·exact Int.gcd_dvd_left ..
 ·apply Int.dvd_gcd
  ·exact Int.gcd_dvd_right ..
  ·rw [Int.fmod_def]
   exact Int.dvd_sub (Int.gcd_dvd_left ..) (Int.dvd_mul_of_dvd_left (Int.gcd_dvd_right ..))
theorem fmod_natAbs_lt (n d:Int) (h:d≠0):(n.fmod d).natAbs<d.natAbs:=by
 rcases Int.lt_trichotomy d 0 with hd | hd | hd
 ·have e:n.fmod d=-((-n).fmod (-d)):=by
   rw [Int.fmod_def,Int.fmod_def]
   have:(-n).fdiv (-d)=n.fdiv d:=Int.neg_fdiv_neg n d
   rw [this,Int.neg_mul];trivial
  have h1:=Int.fmod_nonneg_of_pos (-n) (b:=-d) (by trivial)
  have h2:=Int.fmod_lt_of_pos (-n) (b:=-d) (by trivial)
  trivial
 ·exact absurd hd h
 ·have h1:=Int.fmod_nonneg_of_pos n hd
  have h2:=Int.fmod_lt_of_pos n hd
  trivial
theorem gcd_zero_abs (n:Int):((Int.gcd n 0:Nat):Int)=if n<0 then -n else n:=by
 rw [Int.gcd_zero_right]
 split <;> trivial
theorem gcd_emod (n d:Int):Int.gcd d (n % d)=Int.gcd n d:=by
 by_cases h:d=0
 ·subst h;rw [Int.emod_zero,Int.gcd_comm]
 ·apply Nat.dvd_antisymm
  ·apply Int.dvd_gcd
   ·have h1:((Int.gcd d (n % d):Nat):Int) ∣ d:=Int.gcd_dvd_left ..
    have h2:((Int.gcd d (n % d):Nat):Int) ∣ n % d:=Int.gcd_dvd_right ..
    have h3:=Int.dvd_add h2 (Int.dvd_mul_of_dvd_left (c:=n / d) h1)
    rw [Int.emod_add_mul_ediv] at h3
    exact h3
   ·exact Int.gcd_dvd_left ..
  ·apply Int.dvd_gcd
   ·exact Int.gcd_dvd_right ..
   ·rw [Int.emod_def]
    exact Int.dvd_sub (Int.gcd_dvd_left ..) (Int.dvd_mul_of_dvd_left (Int.gcd_dvd_right ..))
end KM
namespace KM
def low (n d:Int):Int×Int:=if 0<d then (n / (Int.gcd n d:Nat),d / (Int.gcd n d:Nat)) else (-n / (Int.gcd n d:Nat),-d / (Int.gcd n d:Nat))
theorem gcd_pos {n d:Int} (h:d≠0):0<Int.gcd n d:=by
 apply Nat.pos_of_ne_zero
 intro e
 exact h (Int.gcd_eq_zero_iff.mp e).2
theorem gcd_abs (n d:Int):Int.gcd (if n<0 then -n else n) (if d<0 then -d else d)=Int.gcd n d:=by
 split <;> split <;> simp [Int.gcd_neg,Int.neg_gcd]
theorem low_spec (n d:Int) (h:d≠0):1≤(low n d).2∧(low n d).1*d=n*(low n d).2∧Int.gcd (low n d).1 (low n d).2=1∧(low n d).1.natAbs≤n.natAbs∧(low n d).2.natAbs≤d.natAbs:=by
 have g0:=gcd_pos (n:=n) h
 have gi:((Int.gcd n d:Nat):Int)≠0:=by trivial
 have d1:((Int.gcd n d:Nat):Int) ∣ n:=Int.gcd_dvd_left ..
 have d2:((Int.gcd n d:Nat):Int) ∣ d:=Int.gcd_dvd_right ..
 obtain ⟨a,ha⟩:=d1
 obtain ⟨b,hb⟩:=d2
 have ea:n / ((Int.gcd n d:Nat):Int)=a:=by
  conv=>lhs;lhs;rw [ha]
  exact Int.mul_ediv_cancel_left _ gi
 have eb:d / ((Int.gcd n d:Nat):Int)=b:=by
  conv=>lhs;lhs;rw [hb]
  exact Int.mul_ediv_cancel_left _ gi
 have ena:-n / ((Int.gcd n d:Nat):Int)=-a:=by
  have:-n=((Int.gcd n d:Nat):Int)*(-a):=by rw [Int.mul_neg];trivial
  rw [this]
  exact Int.mul_ediv_cancel_left _ gi
 have enb:-d / ((Int.gcd n d:Nat):Int)=-b:=by
  have:-d=((Int.gcd n d:Nat):Int)*(-b):=by rw [Int.mul_neg];trivial
  rw [this]
  exact Int.mul_ediv_cancel_left _ gi
 have hco:Int.gcd a b=1:=by
  have:=Int.gcd_ediv_gcd_ediv_gcd (i:=n) (j:=d) g0
  rw [ea,eb] at this
  exact this
 have hgp:(0:Int)<((Int.gcd n d:Nat):Int):=by trivial
 have habs:n.natAbs=Int.gcd n d*a.natAbs:=by
  conv=>lhs;rw [ha]
  rw [Int.natAbs_mul];rfl
 have hbbs:d.natAbs=Int.gcd n d*b.natAbs:=by
  conv=>lhs;rw [hb]
  rw [Int.natAbs_mul];rfl
 have la:a.natAbs≤n.natAbs:=by rw [habs];exact Nat.le_mul_of_pos_left _ g0
 have lb:b.natAbs≤d.natAbs:=by rw [hbbs];exact Nat.le_mul_of_pos_left _ g0
 have hab:a*d=n*b:=by
  generalize ((Int.gcd n d:Nat):Int)=g at ha hb
  subst ha hb
  rw [Int.mul_comm g a,Int.mul_assoc]
 unfold low
 split
 ·rename_i hd
  refine ⟨?_,?_,?_,?_,?_⟩
  ·show 1≤d / _
   rw [eb]
   have:0<b:=by
    apply Int.pos_of_mul_pos_right (a:=((Int.gcd n d:Nat):Int)) _ hgp
    rw [←hb];exact hd
   trivial
  ·show n / _*d=n*(d / _)
   rw [ea,eb];exact hab
  ·show Int.gcd (n / _) (d / _)=1
   rw [ea,eb];exact hco
  ·show (n / _).natAbs≤_
   rw [ea];exact la
  ·show (d / _).natAbs≤_
   rw [eb];exact lb
 ·rename_i hd
  refine ⟨?_,?_,?_,?_,?_⟩
  ·show 1≤-d / _
   rw [enb]
   have:0 < -b:=by
    apply Int.pos_of_mul_pos_right (a:=((Int.gcd n d:Nat):Int)) _ hgp
    rw [Int.mul_neg,←hb];trivial
   trivial
  ·show -n / _*d=n*(-d / _)
   rw [ena,enb,Int.neg_mul,Int.mul_neg,hab]
  ·show Int.gcd (-n / _) (-d / _)=1
   rw [ena,enb,Int.gcd_neg,Int.neg_gcd];exact hco
  ·show (-n / _).natAbs≤_
   rw [ena,Int.natAbs_neg];exact la
  ·show (-d / _).natAbs≤_
   rw [enb,Int.natAbs_neg];exact lb
end KM
namespace KM
theorem low_uniq {n d a b:Int} (hd:d≠0) (hb:1≤b) (hg:Int.gcd a b=1) (he:a*d=n*b):low n d=(a,b):=by
 obtain ⟨h1,h2,h3,_,_⟩:=low_spec n d hd
 generalize low n d=z at *
 obtain ⟨x,y⟩:=z
 dsimp only at h1 h2 h3
 have e1:x*b=a*y:=by
  apply Int.eq_of_mul_eq_mul_right hd
  calc x*b*d=(x*d)*b:=by rw [Int.mul_assoc,Int.mul_comm b d,←Int.mul_assoc]
   _=n*y*b:=by rw [h2]
   _=(n*b)*y:=by rw [Int.mul_assoc,Int.mul_comm y b,←Int.mul_assoc]
   _=a*d*y:=by rw [he]
   _=a*y*d:=by rw [Int.mul_assoc,Int.mul_comm d y,←Int.mul_assoc]
 have d1:y ∣ b:=by
  apply Int.natAbs_dvd_natAbs.mp
  apply Nat.Coprime.dvd_of_dvd_mul_left (k:=y.natAbs) (m:=x.natAbs)
  ·show Nat.gcd y.natAbs x.natAbs=1
   rw [Nat.gcd_comm];exact h3
  ·rw [←Int.natAbs_mul]
   exact Int.natAbs_dvd_natAbs.mpr ⟨a,by rw [e1,Int.mul_comm]⟩
 have d2:b ∣ y:=by
  apply Int.natAbs_dvd_natAbs.mp
  apply Nat.Coprime.dvd_of_dvd_mul_left (k:=b.natAbs) (m:=a.natAbs)
  ·show Nat.gcd b.natAbs a.natAbs=1
   rw [Nat.gcd_comm];exact hg
  ·rw [←Int.natAbs_mul]
   exact Int.natAbs_dvd_natAbs.mpr ⟨x,by rw [←e1,Int.mul_comm]⟩
 have e2:y=b:=Int.dvd_antisymm (by trivial) (by trivial) d1 d2
 subst e2
 have e3:x=a:=Int.eq_of_mul_eq_mul_right (by trivial) e1
 rw [e3]
section
variable {p0 p1 q0 q1:Int}
end
theorem fdiv_low {n d:Int} (hd:d≠0):(n.fdiv (if d<0 then -((Int.gcd n d:Nat):Int) else ((Int.gcd n d:Nat):Int)),d.fdiv (if d<0 then -((Int.gcd n d:Nat):Int) else ((Int.gcd n d:Nat):Int)))=low n d:=by
 have g0:(0:Int)≤((Int.gcd n d:Nat):Int):=Int.natCast_nonneg _
 unfold low
 by_cases h:d<0
 ·rw [if_pos h,if_neg (by trivial)]
  have e:∀x:Int,x.fdiv (-((Int.gcd n d:Nat):Int))=-x / ((Int.gcd n d:Nat):Int):=fun x=>by
   rw [←Int.fdiv_eq_ediv_of_nonneg _ g0,←Int.neg_fdiv_neg,Int.neg_neg]
  rw [e,e]
 ·rw [if_neg h,if_pos (by trivial),Int.fdiv_eq_ediv_of_nonneg _ g0,Int.fdiv_eq_ediv_of_nonneg _ g0]
end KM
namespace KM
abbrev Fra:=Int×Int
theorem low_sgn {n d:Int} (hd:0<d):(0<(low n d).1↔0<n)∧((low n d).1<0↔n<0):=by
 obtain ⟨h1,h2,_,_,_⟩:=low_spec n d (by trivial)
 generalize low n d=z at *
 obtain ⟨x,y⟩:=z
 dsimp only at *
 have hy:0<y:=by trivial
 constructor
 ·constructor
  ·intro h
   have:0<x*d:=Int.mul_pos h hd
   rw [h2] at this
   exact Int.pos_of_mul_pos_left this hy
  ·intro h
   have:0<n*y:=Int.mul_pos h hy
   rw [←h2] at this
   exact Int.pos_of_mul_pos_left this hd
 ·constructor
  ·intro h
   have:x*d<0:=Int.mul_neg_of_neg_of_pos h hd
   rw [h2] at this
   apply Decidable.byContradiction
   intro hn
   have:=Int.mul_nonneg (show 0≤n by trivial) (show 0≤y by trivial)
   trivial
  ·intro h
   have:n*y<0:=Int.mul_neg_of_neg_of_pos h hy
   rw [←h2] at this
   apply Decidable.byContradiction
   intro hn
   have:=Int.mul_nonneg (show 0≤x by trivial) (show 0≤d by trivial)
   trivial
end KM
namespace KM
end KM
namespace L2
open PySem PySem.Spec PyProof.Rows
section
variable {prog:Program}{w:World}{A:Around}{E:Value→Shared→Prop}{s:Shared}
theorem zN {it t:Addr}{i:Nat}{its:Array Value}{x:Value}{Q:Value→Shared→Prop} (hit:s.heap.IsTupleIter it t i) (ht:s.heap.IsTuple t its) (hx:its[i]?=some x)
 (q:∀h',h'.IsTupleIter it t (i+1)→Heap.SameBut it s.heap h'→Q x { s with heap:=h' }):wpAny (model prog w) A (Builtin.SmallTypes.nextOf (.ref it)) Q E s:=by
 obtain ⟨o,e1,e2,e3⟩:=id hit;obtain ⟨u,e4,_,k,e5⟩:=ht;unfold Builtin.SmallTypes.nextOf
 refine wpAny_bind (wpAny_callSpecial?_slot (name:=Str.ofString "__next__") hit.typeIs F.slot_tuple_iterator_next (wpAny_call_entry F.slot_tuple_iterator_next hit.typeIs F.entry_tuple_iterator_next ?_ (F.args_tuple_iterator_next_1 _)))
 show wpAny _ _ (field (.ref it) 0 >>= _) _ _ s;refine wpAny_bind (wpAny_field e1 e3 (x:=.ref t) rfl ?_)
 show wpAny _ _ (if (Value.ref t==Value.none)=true then _ else _) _ _ s;rw [if_neg (show ¬((Value.ref t==Value.none)=true) from Bool.false_ne_true)]
 show wpAny _ _ (field (.ref it) 1 >>= _) _ _ s;refine wpAny_bind (wpAny_field e1 e3 (x:=.int i 0) rfl ?_)
 show wpAny _ _ (seqItems? (.ref t) >>= _) _ _ s;refine wpAny_bind (wpAny_seqItems e4 e5 ?_)
 simp only [Int.toNat_natCast,hx];refine wpAny_bind (wpAny_setField e1 e3 (by simp) (wpAny_pure ⟨x,rfl,wpAny_pure (q _ ?_ (Heap.SameBut.update ..))⟩))
 exact ⟨_,Heap.get?_update_self _ e1 (Obj.isFreed_of_fields (Obj.data_mapFields e3 _)),(Obj.cls_mapFields ..).trans e2,by rw [Obj.data_mapFields e3];simp [rawInt]⟩
theorem xq {it t:Addr}{i:Nat}{its:Array Value}{Q:Value→Shared→Prop} (hh:A.handled=none) (hit:s.heap.IsTupleIter it t i) (ht:s.heap.IsTuple t its) (hx:its[i]?=none)
 (q:∀h' e,Heap.ExtBut it s.heap h'→(∃o,h'.get? e=some o∧o.cls=.type "StopIteration")→E (.ref e) { s with heap:=h' }):wpAny (model prog w) A (Builtin.SmallTypes.nextOf (.ref it)) Q E s:=by
 obtain ⟨o,e1,e2,e3⟩:=id hit;obtain ⟨u,e4,_,k,e5⟩:=ht;unfold Builtin.SmallTypes.nextOf
 refine wpAny_bind (wpAny_callSpecial?_slot (name:=Str.ofString "__next__") hit.typeIs F.slot_tuple_iterator_next (wpAny_call_entry F.slot_tuple_iterator_next hit.typeIs F.entry_tuple_iterator_next ?_ (F.args_tuple_iterator_next_1 _)))
 show wpAny _ _ (field (.ref it) 0 >>= _) _ _ s;refine wpAny_bind (wpAny_field e1 e3 (x:=.ref t) rfl ?_)
 show wpAny _ _ (if (Value.ref t==Value.none)=true then _ else _) _ _ s;rw [if_neg (show ¬((Value.ref t==Value.none)=true) from Bool.false_ne_true)]
 show wpAny _ _ (field (.ref it) 1 >>= _) _ _ s;refine wpAny_bind (wpAny_field e1 e3 (x:=.int i 0) rfl ?_)
 show wpAny _ _ (seqItems? (.ref t) >>= _) _ _ s;refine wpAny_bind (wpAny_seqItems e4 e5 ?_)
 simp only [Int.toNat_natCast,hx];refine wpAny_bind (wpAny_rule (wpAny_bind (wpAny_setField e1 e3 (by simp) ?_)))
 show wpAny _ _ (newExc (.type "StopIteration") [] >>= _) _ _ _;refine wpAny_bind ?_;simp only [newExc,newTuple]
 refine wpAny_bind (wpAny_newObj_type ?_ (by size_fits));refine wpAny_bind (m:=firstArgMember _ _) (wpAny_of_eq (a:=Value.none) (by first | rfl | (simp only [firstArgMember];rfl)) ?_);refine wpAny_newObj_type ?_ (by size_fits)
 simp only [raiseNew];refine wpAny_bind (wpAny_handled ?_);first | rw [show A.in1.handled=none from hh] | rw [hh]
 refine wpAny_bind (wpAny_pure (wpAny_throw ?_));exact q _ _ (((Heap.SameBut.update ..).extBut.push _).push _) ⟨_,Heap.get?_push_size _ rfl,rfl⟩
end
def hU (h:Heap) (l:Addr) (its:Array Value):Bool→Prop
 | true=>h.IsList l its
 | false=>h.IsTuple l its
def fO (h:Heap) (it l:Addr) (i:Nat):Bool→Prop
 | true=>h.IsListIter it l i
 | false=>h.IsTupleIter it l i
theorem hU.at {h h':Heap}{l:Addr}{its:Array Value}:∀{b:Bool},hU h l its b→(∀o,h.get? l=some o→h'.get? l=some o)→hU h' l its b
 | true,q,k=>Heap.IsList.at q k
 | false,q,k=>Heap.IsTuple.at q k
theorem fO.at {h h':Heap}{it l:Addr}{i:Nat}:∀{b:Bool},fO h it l i b→(∀o,h.get? it=some o→h'.get? it=some o)→fO h' it l i b
 | true,q,k=>Heap.IsListIter.at q k
 | false,q,k=>Heap.IsTupleIter.at q k
theorem hU.lt {h:Heap}{l:Addr}{its:Array Value}:∀{b:Bool},hU h l its b→l<h.objs.size
 | true,⟨_,e,_⟩=>Heap.lt_size e
 | false,⟨_,e,_⟩=>Heap.lt_size e
theorem fO.some {h:Heap}{it l:Addr}{i:Nat}:∀{b:Bool},fO h it l i b→∃o,h.get? it=some o∧∀v,o.data≠.cell v
 | true,⟨o,e,_,d⟩=>⟨o,e,fun v z=>by rw [d] at z;cases z⟩
 | false,⟨o,e,_,d⟩=>⟨o,e,fun v z=>by rw [d] at z;cases z⟩
theorem pZ {prog:Program}{w:World}{A:Around} (hh:A.handled=none) (it l:Addr) (hne:l≠it) (its:Array Value):∀b:Bool,
 Draws prog w A it [it,l] its.size (fun i v=>its[i]?=some v) (fun i h=>fO h it l i b∧hU h l its b)
 | true=>Draws.list hh it l hne its
 | false=>{
  live:=fun _ _ st=>let ⟨o,ho,_⟩:=st.1;⟨o,ho⟩
  frame:=fun _ _ _ st hk=>⟨Heap.IsTupleIter.at st.1 fun o e=>hk it (by simp) o e,Heap.IsTuple.at st.2 fun o e=>hk l (by simp) o e⟩
  item:=fun i s Q E hi st q=>zN st.1 st.2 (x:=its[i]) (by simp [hi]) fun h' it' same=>q _ h' s.toks (by simp [hi]) ⟨it',Heap.IsTuple.extBut st.2 same.extBut hne⟩ same
  done:=fun s Q E st q=>xq hh st.1 st.2 (by simp) q }
structure tj (z TI TO i1 i2:Addr):Prop where
 a1:TI≠z
 a2:TO≠z
 a3:i1≠z
 a4:i2≠z
 a5:TI≠TO
 a6:TI≠i1
 a7:TI≠i2
 a8:TO≠i1
 a9:TO≠i2
 a0:i1≠i2
section
variable {prog:Program}{w:World}{A:Around}{E:Value→Shared→Prop}{s:Shared}
variable {z TI TO i1 i2 l1 l2:Addr}{k:Nat}{xs ys:Array Value}{a b:Value}{c1 c2:Bool}
theorem Eg {x y:Value}{Q:Value→Shared→Prop} (D:tj z TI TO i1 i2) (n1:∀c,c=l1∨c=l2→c≠z∧c≠TO∧c≠i1∧c≠i2)
 (hz:IsZip s.heap z TI TO .none) (hTI:IsPair s.heap TI (.ref i1) (.ref i2)) (hTO:IsPair s.heap TO a b) (hh:A.handled=none)
 (h1:fO s.heap i1 l1 k c1) (h2:fO s.heap i2 l2 k c2) (q1:hU s.heap l1 xs c1) (q2:hU s.heap l2 ys c2) (hx:xs[k]?=some x) (hy:ys[k]?=some y)
 (hQ:∀h' tk,IsZip h' z TI TO (rawInt s.heap.objs.size)→IsPair h' TO x y→fO h' i1 l1 (k+1) c1→fO h' i2 l2 (k+1) c2→IsPair h' s.heap.objs.size x y→h'.objs.size=s.heap.objs.size+1→
  (∀c o,c≠z→c≠TO→c≠i1→c≠i2→s.heap.get? c=some o→h'.get? c=some o)→Q (.ref s.heap.objs.size) { s with heap:=h',toks:=tk }) :
 wpAny (model prog w) A (Builtin.«zip.__next__» ⟨[.ref z],[]⟩) (fun fin s'=>∃v,fin=.done (.ret v)∧Q v s') E s:=by
 obtain ⟨m1,m2,m3,m4⟩:=n1 l1 (.inl rfl)
 obtain ⟨m5,m6,m7,m8⟩:=n1 l2 (.inr rfl)
 have kx:k<xs.size:=(Array.getElem?_eq_some_iff.mp hx).1
 have ky:k<ys.size:=(Array.getElem?_eq_some_iff.mp hy).1
 have D1:=pZ (prog:=prog) (w:=w) hh i1 l1 m3 xs c1
 have D2:=pZ (prog:=prog) (w:=w) hh i2 l2 m8 ys c2
 show wpAny _ _ (field (.ref z) 2 >>= _) _ _ _;refine wpAny_bind (wpAny_field hz rfl (x:=.bool false) rfl ?_)
 show wpAny _ _ (field (.ref z) 3 >>= _) _ _ _;refine wpAny_bind (wpAny_field hz rfl (x:=.ref TI) rfl (wpAny_bind (wpAny_seqItems hTI rfl ?_)))
 show wpAny _ _ (Builtin.SmallTypes.ownedTupleIsFree (.ref z) >>= _) _ _ _;refine wpAny_bind ?_;unfold Builtin.SmallTypes.ownedTupleIsFree
 refine wpAny_bind (wpAny_field hz rfl (x:=.none) rfl (wpAny_pure ?_));simp only [if_true]
 refine wpAny_bind (wpAny_rule (wpAny_bind (wpAny_field hz rfl (x:=.ref TO) rfl (wpAny_bind (wpAny_setField_rec hz (by simp) fun g1 z1 t1=>?_)))))
 replace z1:IsZip g1 z TI TO .ellipsis:=z1
 refine wpAny_bind ?_;simp only [List.zipIdx_cons,List.zipIdx_nil,List.forIn_cons,List.forIn_nil];refine wpAny_bind (wpAny_bind (wpAny_onRaise ?_))
 show wpAny _ _ (Builtin.SmallTypes.nextOf (.ref i1) >>= _) _ _ _
 refine wpAny_bind (D1.item k _ _ _ kx ⟨h1.at fun o e=>t1.extBut _ _ D.a3 e,q1.at fun o e=>t1.extBut _ _ m1 e⟩ fun x' g2 tk2 p1 st1 t2=>wpAny_pure ?_)
 have ex:x=x':=Option.some.inj (hx.symm.trans p1)
 subst ex
 have TO2:IsPair g2 TO a b:=t2.extBut _ _ D.a8 (t1.extBut _ _ D.a2 hTO)
 refine wpAny_bind (wpAny_seqItems TO2 rfl (wpAny_bind (wpAny_updateSeq_pair TO2 fun g3 TO3 t3=>?_)))
 replace TO3:IsPair g3 TO x b:=TO3
 refine wpAny_bind (wpAny_letGo (wpAny_pure ?_));refine wpAny_bind (wpAny_bind (wpAny_onRaise ?_));show wpAny _ _ (Builtin.SmallTypes.nextOf (.ref i2) >>= _) _ _ _
 refine wpAny_bind (D2.item k _ _ _ ky ⟨h2.at fun o e=>t3.extBut _ _ D.a9.symm (t2.extBut _ _ D.a0.symm (t1.extBut _ _ D.a4 e)),q2.at fun o e=>t3.extBut _ _ m6 (t2.extBut _ _ m7 (t1.extBut _ _ m5 e))⟩ fun y' g4 tk4 p2 st2 t4=>wpAny_pure ?_)
 have ey:y=y':=Option.some.inj (hy.symm.trans p2)
 subst ey
 have TO4:IsPair g4 TO x b:=t4.extBut _ _ D.a9 TO3
 refine wpAny_bind (wpAny_seqItems TO4 rfl (wpAny_bind (wpAny_updateSeq_pair TO4 fun g5 TO5 t5=>?_)))
 replace TO5:IsPair g5 TO x y:=TO5
 refine wpAny_bind (wpAny_letGo (wpAny_pure (wpAny_pure ?_)));refine wpAny_bind (wpAny_seqItems TO5 rfl (wpAny_bind (wpAny_newTuple ?_)))
 have sz:g5.objs.size=s.heap.objs.size:=by rw [t5.1,t4.1,t3.1,t2.1,t1.1]
 have z5:IsZip g5 z TI TO .ellipsis:=t5.extBut _ _ D.a2.symm (t4.extBut _ _ D.a4.symm (t3.extBut _ _ D.a2.symm (t2.extBut _ _ D.a3.symm z1)))
 have keep:∀c o,c≠z→c≠TO→c≠i1→c≠i2→s.heap.get? c=some o→g5.get? c=some o:=fun c o d1 d2 d3 d4 e=>t5.extBut _ _ d2 (t4.extBut _ _ d4 (t3.extBut _ _ d2 (t2.extBut _ _ d3 (t1.extBut _ _ d1 e))))
 have it1:fO g5 i1 l1 (k+1) c1:=st1.1.at fun o e=>t5.extBut _ _ D.a8.symm (t4.extBut _ _ D.a0 (t3.extBut _ _ D.a8.symm e))
 have it2:fO g5 i2 l2 (k+1) c2:=st2.1.at fun o e=>t5.extBut _ _ D.a9.symm e
 have zlt:z<g5.objs.size:=Heap.lt_size z5
 show wpAny _ _ (Builtin.SmallTypes.ownedTupleHandOut (.ref z) (.ref g5.objs.size) >>= _) _ _ _;refine wpAny_bind ?_;unfold Builtin.SmallTypes.ownedTupleHandOut
 have z6:IsZip (g5.push { cls:=.type "tuple",data:=.seq #[x,y] }) z TI TO .ellipsis:=Heap.get?_push_of_some _ z5
 refine wpAny_bind (wpAny_setField_rec z6 (by simp) fun g7 z7 t7=>?_)
 replace z7:IsZip g7 z TI TO (rawInt g5.objs.size):=z7
 refine wpAny_setField_rec z7 (by simp) fun g8 z8 t8=>?_
 replace z8:IsZip g8 z TI TO (rawInt g5.objs.size):=z8
 have up:∀c o,c≠z→g5.get? c=some o→g8.get? c=some o:=fun c o d e=>t8.extBut _ _ d (t7.extBut _ _ d (Heap.get?_push_of_some _ e))
 have T8:IsPair g8 g5.objs.size x y:=t8.extBut _ _ (Nat.ne_of_gt zlt) (t7.extBut _ _ (Nat.ne_of_gt zlt) (Heap.get?_push_size _ rfl))
 have s8:g8.objs.size=g5.objs.size+1:=by rw [t8.1,t7.1,Heap.size_push]
 rw [sz] at z8 T8 s8
 refine wpAny_pure ⟨(),?_⟩;show Q (.ref g5.objs.size) _;rw [sz]
 exact hQ g8 _ z8 (up _ _ D.a2 TO5) (it1.at fun o e=>up _ o D.a3 e) (it2.at fun o e=>up _ o D.a4 e) T8 s8 fun c o d1 d2 d3 d4 e=>up c o d1 (keep c o d1 d2 d3 d4 e)
theorem FN {Q:Fin→Shared→Prop} (hh:A.handled=none) (D:tj z TI TO i1 i2) (n1:∀c,c=l1∨c=l2→c≠z∧c≠TO∧c≠i1∧c≠i2)
 (hz:IsZip s.heap z TI TO .none) (hTI:IsPair s.heap TI (.ref i1) (.ref i2)) (hTO:IsPair s.heap TO a b)
 (h1:fO s.heap i1 l1 k c1) (h2:fO s.heap i2 l2 k c2) (q1:hU s.heap l1 xs c1) (q2:hU s.heap l2 ys c2) (hend:xs.size=k∨(k<xs.size∧ys.size=k))
 (hE:∀h' e tk,(∀c o,c≠z→c≠TO→c≠i1→c≠i2→s.heap.get? c=some o→h'.get? c=some o)→(∃o,h'.get? e=some o∧o.cls=.type "StopIteration")→E (.ref e) { s with heap:=h',toks:=tk }) :
 wpAny (model prog w) A (Builtin.«zip.__next__» ⟨[.ref z],[]⟩) Q E s:=by
 obtain ⟨m1,m2,m3,m4⟩:=n1 l1 (.inl rfl)
 obtain ⟨m5,m6,m7,m8⟩:=n1 l2 (.inr rfl)
 have D1:=pZ (prog:=prog) (w:=w) hh i1 l1 m3 xs c1
 have D2:=pZ (prog:=prog) (w:=w) hh i2 l2 m8 ys c2
 show wpAny _ _ (field (.ref z) 2 >>= _) _ _ _;refine wpAny_bind (wpAny_field hz rfl (x:=.bool false) rfl ?_)
 show wpAny _ _ (field (.ref z) 3 >>= _) _ _ _;refine wpAny_bind (wpAny_field hz rfl (x:=.ref TI) rfl (wpAny_bind (wpAny_seqItems hTI rfl ?_)))
 show wpAny _ _ (Builtin.SmallTypes.ownedTupleIsFree (.ref z) >>= _) _ _ _;refine wpAny_bind ?_;unfold Builtin.SmallTypes.ownedTupleIsFree
 refine wpAny_bind (wpAny_field hz rfl (x:=.none) rfl (wpAny_pure ?_));simp only [if_true]
 refine wpAny_bind (wpAny_rule (wpAny_bind (wpAny_field hz rfl (x:=.ref TO) rfl (wpAny_bind (wpAny_setField_rec hz (by simp) fun g1 z1 t1=>?_)))))
 replace z1:IsZip g1 z TI TO .ellipsis:=z1
 refine wpAny_bind ?_;simp only [List.zipIdx_cons,List.zipIdx_nil,List.forIn_cons,List.forIn_nil];refine wpAny_bind (wpAny_bind (wpAny_onRaise ?_))
 show wpAny _ _ (Builtin.SmallTypes.nextOf (.ref i1) >>= _) _ _ _
 have st0:fO g1 i1 l1 k c1∧hU g1 l1 xs c1:=⟨h1.at fun o e=>t1.extBut _ _ D.a3 e,q1.at fun o e=>t1.extBut _ _ m1 e⟩
 rcases hend with hk | ⟨kx,hk⟩
 ·refine wpAny_bind (D1.done _ _ _ (by rw [hk];exact st0) fun g2 e t2 he=>?_)
  obtain ⟨oe,e1,e2⟩:=he
  have z2:IsZip g2 z TI TO .ellipsis:=t2 _ _ D.a3.symm z1
  have ez:e≠z:=fun q=>by subst q;rw [z2] at e1;cases e1;simp at e2
  exact wpAny_setField_rec z2 (by simp) fun g3 _ t3=>hE g3 e _ (fun c o d1 _ d3 _ q=>t3.extBut _ _ d1 (t2 _ _ d3 (t1.extBut _ _ d1 q))) ⟨oe,t3.extBut _ _ ez e1,e2⟩
 ·refine wpAny_bind (D1.item k _ _ _ kx st0 fun x g2 tk2 p1 st1 t2=>wpAny_pure ?_)
  have TO2:IsPair g2 TO a b:=t2.extBut _ _ D.a8 (t1.extBut _ _ D.a2 hTO)
  refine wpAny_bind (wpAny_seqItems TO2 rfl (wpAny_bind (wpAny_updateSeq_pair TO2 fun g3 TO3 t3=>?_)))
  refine wpAny_bind (wpAny_letGo (wpAny_pure ?_));refine wpAny_bind (wpAny_bind (wpAny_onRaise ?_));show wpAny _ _ (Builtin.SmallTypes.nextOf (.ref i2) >>= _) _ _ _
  have st2:fO g3 i2 l2 k c2∧hU g3 l2 ys c2:=⟨h2.at fun o e=>t3.extBut _ _ D.a9.symm (t2.extBut _ _ D.a0.symm (t1.extBut _ _ D.a4 e)),q2.at fun o e=>t3.extBut _ _ m6 (t2.extBut _ _ m7 (t1.extBut _ _ m5 e))⟩
  refine wpAny_bind (D2.done _ _ _ (by rw [hk];exact st2) fun g4 e t4 he=>?_)
  obtain ⟨oe,e1,e2⟩:=he
  have z4:IsZip g4 z TI TO .ellipsis:=t4 _ _ D.a4.symm (t3.extBut _ _ D.a2.symm (t2.extBut _ _ D.a3.symm z1))
  have ez:e≠z:=fun q=>by subst q;rw [z4] at e1;cases e1;simp at e2
  exact wpAny_setField_rec z4 (by simp) fun g5 _ t5=>hE g5 e _ (fun c o d1 d2 d3 d4 q=>t5.extBut _ _ d1 (t4 _ _ d4 (t3.extBut _ _ d2 (t2.extBut _ _ d3 (t1.extBut _ _ d1 q))))) ⟨oe,t5.extBut _ _ ez e1,e2⟩
end
def Gr:Bool→String
 | true => "list_iterator"
 | false => "tuple_iterator"
abbrev zA (h:Heap) (l1:Addr) (c1:Bool):Heap:=h.push { cls:=.type (Gr c1),data:=.fields #[.ref l1,.int 0 0] }
abbrev zB (h:Heap) (l1 l2:Addr) (c1 c2:Bool):Heap:=(zA h l1 c1).push { cls:=.type (Gr c2),data:=.fields #[.ref l2,.int 0 0] }
abbrev zC (h:Heap) (l1 l2:Addr) (c1 c2:Bool):Heap:=(zB h l1 l2 c1 c2).push { cls:=.type "tuple",data:=.seq #[.ref h.objs.size,.ref (zA h l1 c1).objs.size] }
abbrev zD (h:Heap) (l1 l2:Addr) (c1 c2:Bool):Heap:=(zC h l1 l2 c1 c2).push { cls:=.type "tuple",data:=.seq #[.none,.none] }
abbrev zE (h:Heap) (l1 l2:Addr) (c1 c2:Bool):Heap:=(zD h l1 l2 c1 c2).push { cls:=.type "zip",data:=.fields #[.none,.bool false,.bool false,.ref (zB h l1 l2 c1 c2).objs.size,.ref (zC h l1 l2 c1 c2).objs.size] }
set_option maxHeartbeats 8000000 in
theorem GB (l1 l2:Addr) (xs ys:Array Value) (c1 c2:Bool) :
 Meets (Builtin.«zip.__new__» ⟨[.type "zip",.ref l1,.ref l2],[]⟩) (fun _ R s=>hU s.heap l1 xs c1∧hU s.heap l2 ys c2∧R (.ok (.ret (.ref (zD s.heap l1 l2 c1 c2).objs.size))) { s with heap:=zE s.heap l1 l2 c1 c2 }):=
 .of_wp fun prog w A R s h=>by
  obtain ⟨hp,g,d,tk,os⟩:=s;obtain ⟨q1,q2,h⟩:=h
  have hsub:=sub_zip
  have L2':hU (Shared.heap ⟨zA hp l1 c1,g,d,tk,os⟩) l2 ys c2:=hU.at q2 fun o e=>Heap.get?_push_of_some _ e
  cases c1 <;> cases c2
  ·have g1:Heap.IsTuple (Shared.heap ⟨hp,g,d,tk,os⟩) l1 xs:=q1
   have g2:Heap.IsTuple (Shared.heap ⟨hp.push { cls:=.type "tuple_iterator",data:=.fields #[.ref l1,.int 0 0] },g,d,tk,os⟩) l2 ys:=L2'
   wp_walk using wpAny_pyIter_tuple g1,wpAny_pyIter_tuple g2
   exact ⟨(),h⟩
  ·have g1:Heap.IsTuple (Shared.heap ⟨hp,g,d,tk,os⟩) l1 xs:=q1
   have g2:Heap.IsList (Shared.heap ⟨hp.push { cls:=.type "tuple_iterator",data:=.fields #[.ref l1,.int 0 0] },g,d,tk,os⟩) l2 ys:=L2'
   wp_walk using wpAny_pyIter_tuple g1,wpAny_pyIter_list g2
   exact ⟨(),h⟩
  ·have g1:Heap.IsList (Shared.heap ⟨hp,g,d,tk,os⟩) l1 xs:=q1
   have g2:Heap.IsTuple (Shared.heap ⟨hp.push { cls:=.type "list_iterator",data:=.fields #[.ref l1,.int 0 0] },g,d,tk,os⟩) l2 ys:=L2'
   wp_walk using wpAny_pyIter_list g1,wpAny_pyIter_tuple g2
   exact ⟨(),h⟩
  ·have g1:Heap.IsList (Shared.heap ⟨hp,g,d,tk,os⟩) l1 xs:=q1
   have g2:Heap.IsList (Shared.heap ⟨hp.push { cls:=.type "list_iterator",data:=.fields #[.ref l1,.int 0 0] },g,d,tk,os⟩) l2 ys:=L2'
   wp_walk using wpAny_pyIter_list g1,wpAny_pyIter_list g2
   exact ⟨(),h⟩
theorem zt {h:Heap}{it l:Addr}:∀{c:Bool},h.get? it=some { cls:=.type (Gr c),data:=.fields #[.ref l,.int 0 0] }→fO h it l 0 c
 | true,e=>⟨_,e,rfl,rfl⟩
 | false,e=>⟨_,e,rfl,rfl⟩
section
variable {prog:Program}{w:World}{A:Around}{E:Value→Shared→Prop}{s:Shared}
theorem By {l1 l2:Addr}{xs ys:Array Value}{c1 c2:Bool}{Q:Value→Shared→Prop} (q1:hU s.heap l1 xs c1) (q2:hU s.heap l2 ys c2)
 (h:∀h',IsZip h' (s.heap.objs.size+4) (s.heap.objs.size+2) (s.heap.objs.size+3) .none→IsPair h' (s.heap.objs.size+2) (.ref s.heap.objs.size) (.ref (s.heap.objs.size+1))→
  IsPair h' (s.heap.objs.size+3) .none .none→fO h' s.heap.objs.size l1 0 c1→fO h' (s.heap.objs.size+1) l2 0 c2→
  (∀c o,s.heap.get? c=some o→h'.get? c=some o)→Q (.ref (s.heap.objs.size+4)) { s with heap:=h' }) :
 wpAny (model prog w) A (call (.type "zip") [.ref l1,.ref l2]) Q E s:=by
 refine callType_new F.called_zip (by decide) (F.typeCall_zip_2 _ _) (F.newCall_zip_2 _ _) (fun obj=>F.args_object_init_3 obj _ _) F.entry_zip_new (GB l1 l2 xs ys c1 c2) ⟨q1,q2,?_⟩
 have s1:(zA s.heap l1 c1).objs.size=s.heap.objs.size+1:=Heap.size_push ..
 have s2:(zB s.heap l1 l2 c1 c2).objs.size=s.heap.objs.size+2:=by rw [Heap.size_push,s1]
 have s3:(zC s.heap l1 l2 c1 c2).objs.size=s.heap.objs.size+3:=by rw [Heap.size_push,s2]
 have s4:(zD s.heap l1 l2 c1 c2).objs.size=s.heap.objs.size+4:=by rw [Heap.size_push,s3]
 have g5:(zE s.heap l1 l2 c1 c2).get? (zD s.heap l1 l2 c1 c2).objs.size=some _:=Heap.get?_push_size _ rfl
 have g4:(zE s.heap l1 l2 c1 c2).get? (zC s.heap l1 l2 c1 c2).objs.size=some _:=Heap.get?_push_of_some _ (Heap.get?_push_size _ rfl)
 have g3:(zE s.heap l1 l2 c1 c2).get? (zB s.heap l1 l2 c1 c2).objs.size=some _:=Heap.get?_push_of_some _ (Heap.get?_push_of_some _ (Heap.get?_push_size _ rfl))
 have g2:(zE s.heap l1 l2 c1 c2).get? (zA s.heap l1 c1).objs.size=some _:=Heap.get?_push_of_some _ (Heap.get?_push_of_some _ (Heap.get?_push_of_some _ (Heap.get?_push_size _ rfl)))
 have g1:(zE s.heap l1 l2 c1 c2).get? s.heap.objs.size=some _:=Heap.get?_push_of_some _ (Heap.get?_push_of_some _ (Heap.get?_push_of_some _ (Heap.get?_push_of_some _ (Heap.get?_push_size _ rfl))))
 show _∧_
 rw [s2,s3,s4] at g5
 rw [s1,s2] at g3
 rw [s3] at g4
 rw [s1] at g2
 rw [s4]
 exact ⟨⟨_,g5,rfl⟩,h _ g5 g3 g4 (zt g1) (zt g2) fun c o x=>Heap.get?_push_of_some _ (Heap.get?_push_of_some _ (Heap.get?_push_of_some _ (Heap.get?_push_of_some _ (Heap.get?_push_of_some _ x))))⟩
theorem wI {z TI TO i1 i2 l1 l2:Addr}{k:Nat}{xs ys:Array Value}{a b x y:Value}{c1 c2:Bool}{Q:Option Value→Shared→Prop} (D:tj z TI TO i1 i2) (n1:∀c,c=l1∨c=l2→c≠z∧c≠TO∧c≠i1∧c≠i2)
 (hz:IsZip s.heap z TI TO .none) (hTI:IsPair s.heap TI (.ref i1) (.ref i2)) (hTO:IsPair s.heap TO a b) (hh:A.handled=none)
 (h1:fO s.heap i1 l1 k c1) (h2:fO s.heap i2 l2 k c2) (q1:hU s.heap l1 xs c1) (q2:hU s.heap l2 ys c2) (hx:xs[k]?=some x) (hy:ys[k]?=some y)
 (hQ:∀h' tk,IsZip h' z TI TO (rawInt s.heap.objs.size)→IsPair h' TO x y→fO h' i1 l1 (k+1) c1→fO h' i2 l2 (k+1) c2→IsPair h' s.heap.objs.size x y→h'.objs.size=s.heap.objs.size+1→
  (∀c o,c≠z→c≠TO→c≠i1→c≠i2→s.heap.get? c=some o→h'.get? c=some o)→Q (some (.ref s.heap.objs.size)) { s with heap:=h',toks:=tk }) :
 wpAny (model prog w) A (pyNext (.ref z)) Q E s:=by
 have hT:s.TypeIs (.ref z) "zip" := ⟨_,hz,rfl⟩
 unfold pyNext
 exact wpAny_bind (wpAny_attempt (wpAny_callSpecial?_slot (name:=Str.ofString "__next__") hT F.slot_zip_next (wpAny_call_entry F.slot_zip_next hT F.entry_zip_next
  (Eg D n1 hz hTI hTO hh h1 h2 q1 q2 hx hy fun h' tk a1 a2 a3 a4 a5 a6 a7=>wpAny_pure (hQ h' tk a1 a2 a3 a4 a5 a6 a7)) (F.args_zip_next_1 _))))
theorem xp {z TI TO i1 i2 l1 l2:Addr}{k:Nat}{xs ys:Array Value}{a b:Value}{c1 c2:Bool}{Q:Option Value→Shared→Prop} (hh:A.handled=none) (D:tj z TI TO i1 i2) (n1:∀c,c=l1∨c=l2→c≠z∧c≠TO∧c≠i1∧c≠i2)
 (hz:IsZip s.heap z TI TO .none) (hTI:IsPair s.heap TI (.ref i1) (.ref i2)) (hTO:IsPair s.heap TO a b)
 (h1:fO s.heap i1 l1 k c1) (h2:fO s.heap i2 l2 k c2) (q1:hU s.heap l1 xs c1) (q2:hU s.heap l2 ys c2) (hend:xs.size=k∨(k<xs.size∧ys.size=k))
 (hQ:∀h' tk,(∀c o,c≠z→c≠TO→c≠i1→c≠i2→s.heap.get? c=some o→h'.get? c=some o)→Q none { s with heap:=h',toks:=tk }):wpAny (model prog w) A (pyNext (.ref z)) Q E s:=by
 have hT:s.TypeIs (.ref z) "zip" := ⟨_,hz,rfl⟩
 unfold pyNext
 refine wpAny_bind (wpAny_attempt (wpAny_callSpecial?_slot (name:=Str.ofString "__next__") hT F.slot_zip_next (wpAny_call_entry F.slot_zip_next hT F.entry_zip_next
  (FN hh D n1 hz hTI hTO h1 h2 q1 q2 hend fun h' e tk hk he=>?_) (F.args_zip_next_1 _))))
 obtain ⟨o,ho,hc⟩:=he
 refine wpAny_bind (wpAny_isInstance (T := "StopIteration") (b:=true) ⟨o,ho,hc⟩ isSubtype_stop (wpAny_pure (hQ _ tk hk)))
end
theorem aj.turnedL {X:Cx}{pins:List (Addr×Obj)}{σ:St}{H:Hp}{s:Shared}{h':Heap}{t':Nat}{ch:List Addr} (I:aj X pins σ H s) (hf:∀b∈ch,oB X pins H b) (k:∀b u,b∉ch→s.heap.get? b=some u→h'.get? b=some u) :
 aj X pins σ H { s with heap:=h',toks:=t' }:=by
 refine I.step (g':=s.gens) (d':=s.drawn) (ch:=ch) (fun b hb=>?_) (fun b o _ _ hc e _=>k b o hc e) (fun b o _ _ hc e _=>⟨o.slots,k b o hc e⟩) (fun _ _ _ _ n=>n)
  (fun b o hc e=>⟨o,k b o hc e⟩) (fun _ _ e=>e) (fun _ _ _ e=>e) (fun b ps e=>⟨#[],by rw [e];simp⟩) (fun m hm=>?_) (fun b u e=>?_) I.bare
 ·obtain ⟨f0,f1,f2,f3,f4,f5⟩:=hf b hb
  exact ⟨f3,f1,f4,f5⟩
 ·obtain ⟨o,es,ep,ho,r⟩:=hm
  exact ⟨o,es,ep,k _ o (fun z=>(hf _ z).2.1 rfl) ho,r⟩
 ·refine (I.hok b u e).stay (fun c v hc q=>k c v (fun z=>?_) q) (fun _ q=>q) fun _ _ q=>q
  have hcn:=(hf c z).1
  rcases hc with rfl | hc
  ·rw [e] at hcn;cases hcn
  ·rw [hc] at hcn;cases hcn
def iZ (K:PySem.W.Frag) (H:Hp) (a:Addr) (xs:List V):Bool→Prop
 | true=>aA K H a xs
 | false=>ae K H a xs
theorem aj.seqC {X:Cx}{pins:List (Addr×Obj)}{σ:St}{H:Hp}{s:Shared}{a:Addr}{xs:List V} (I:aj X pins σ H s):∀{c:Bool},iZ X.K H a xs c→∃its:List Value,aE xs its∧hU s.heap a its.toArray c
 | true,q=>let ⟨its,rv,p,_⟩:=I.list q;⟨its,rv,p.isList⟩
 | false,q=>let ⟨its,rv,p,_⟩:=I.tuple q;⟨its,rv,p⟩
theorem aj.seqC_inj {X:Cx}{pins:List (Addr×Obj)}{σ:St}{H:Hp}{s:Shared}{a:Addr}{xs ys:List V} (I:aj X pins σ H s):∀{c:Bool},iZ X.K H a xs c→iZ X.K H a ys c→xs=ys
 | true,p,q=>I.list_inj p q
 | false,p,q=>I.tuple_inj p q
def yi (K:PySem.W.Frag) (a1 a2:Addr) (c1 c2:Bool):It:=
 ⟨fun i H=>rO fun xs ys x y=>iZ K H a1 xs c1∧iZ K H a2 ys c2∧xs[i]?=some x∧ys[i]?=some y,
  fun i H v H'=>kZ fun T x y=>H T=none∧v=.ref T∧H'=aJ H T (.tup [x,y])∧(∀xs,iZ K H a1 xs c1→xs[i]?=some x)∧(∀ys,iZ K H a2 ys c2→ys[i]?=some y),
  fun i H=>bX fun xs ys=>iZ K H a1 xs c1∧iZ K H a2 ys c2∧(xs.length=i∨(i<xs.length∧ys.length=i))⟩
theorem Ce {P:Program}{w:World}{K:PySem.W.Frag}{es:List Expr}{kk:Nat}{pos:Pos} (a1 a2 z TI TO i1 i2:Addr) (c1 c2:Bool) (D:tj z TI TO i1 i2) (n1:∀c,c=a1∨c=a2→c≠z∧c≠TO∧c≠i1∧c≠i2) :
 uQ P w K (.Tuple es kk pos) (yi K a1 a2 c1 c2) [z,TO,i1,i2,TI] z (fun i h=>IsZip h z TI TO .none∧IsPair h TI (.ref i1) (.ref i2)∧(bX fun a b=>IsPair h TO a b)∧fO h i1 a1 i c1∧fO h i2 a2 i c2) where
 mem:=by simp
 obj:=fun i h st b hb=>by
  obtain ⟨hz,hTI,⟨a,b',hTO⟩,h1,h2⟩:=st
  have hb':b=z∨b=TO∨b=i1∨b=i2∨b=TI:=by simpa using hb
  rcases hb' with rfl | rfl | rfl | rfl | rfl
  ·exact ⟨_,hz,fun v q=>by have q':Data.fields _=Data.cell v:=q;cases q'⟩
  ·exact ⟨_,hTO,fun v q=>by have q':Data.seq _ _=Data.cell v:=q;cases q'⟩
  ·exact h1.some
  ·exact h2.some
  ·exact ⟨_,hTI,fun v q=>by have q':Data.seq _ _=Data.cell v:=q;cases q'⟩
 keep:=fun i h h' st k=>by
  obtain ⟨hz,hTI,⟨a,b',hTO⟩,h1,h2⟩:=st
  exact ⟨k z (by simp) _ hz,k TI (by simp) _ hTI,⟨a,b',k TO (by simp) _ hTO⟩,h1.at fun o q=>k i1 (by simp) o q,h2.at fun o q=>k i2 (by simp) o q⟩
 item:=by
  intro X hP hw hK hc i pins s σ H E I hf st hg
  subst hP hw hK
  obtain ⟨hz,hTI,⟨a,b',hTO⟩,h1,h2⟩:=st
  obtain ⟨xs,ys,x,y,p1,p2,hx,hy⟩:=hg
  obtain ⟨its1,rv1,k1⟩:=I.seqC p1
  obtain ⟨its2,rv2,k2⟩:=I.seqC p2
  obtain ⟨u,hu,ru⟩:=rv1.get hx
  obtain ⟨v,hv,rw'⟩:=rv2.get hy
  have hnT:H s.heap.objs.size=none:=I.fresh
  refine wI D n1 hz hTI hTO (I.ok.hd hc) h1 h2 k1 k2 (x:=u) (y:=v) (by simpa using hu) (by simpa using hv) fun h' tk zo TO' t1 t2 T' sz keep=>?_
  refine ⟨(),wpAny_letOwnedTupleGo_zip (s:={ s with heap:=h',toks:=tk }) zo fun h2' z2 s2=>?_⟩
  have zlt:z<s.heap.objs.size:=Heap.lt_size hz
  have TOlt:TO<s.heap.objs.size:=Heap.lt_size hTO
  have TIlt:TI<s.heap.objs.size:=Heap.lt_size hTI
  have i1lt:i1<s.heap.objs.size:=let ⟨_,e,_⟩:=h1.some;Heap.lt_size e
  have i2lt:i2<s.heap.objs.size:=let ⟨_,e,_⟩:=h2.some;Heap.lt_size e
  have hT2:h2'.get? s.heap.objs.size=some { cls:=.type "tuple",data:=.seq #[u,v] }:=(s2.2 _ (Nat.ne_of_gt zlt)).trans T'
  refine ⟨.ref s.heap.objs.size,aJ H s.heap.objs.size (.tup [x,y]),I.turnedNew (ch:=[z,TO,i1,i2,TI]) (t':=tk) hf (fun b o hb q=>?_) (Nat.le_refl _) ?_,rfl,
   ⟨_,x,y,hnT,rfl,rfl,fun zs hs=>by rw [I.seqC_inj hs p1];exact hx,fun zs hs=>by rw [I.seqC_inj hs p2];exact hy⟩,⟨z2,(s2.2 _ D.a1).trans (keep _ _ D.a1 D.a5 D.a6 D.a7 hTI),⟨_,_,(s2.2 _ D.a2).trans TO'⟩,t1.at fun o e=>(s2.2 _ D.a3).trans e,t2.at fun o e=>(s2.2 _ D.a4).trans e⟩,fun b hb=>?_⟩
  ·have e1:b≠z:=fun q=>hb (by simp [q])
   have e2:b≠TO:=fun q=>hb (by simp [q])
   have e3:b≠i1:=fun q=>hb (by simp [q])
   have e4:b≠i2:=fun q=>hb (by simp [q])
   exact (s2.2 b e1).trans (keep b o e1 e2 e3 e4 q)
  ·exact ⟨by show 2≤sizeLine;decide,[u,v],.cons ru (.cons rw' .nil),⟨_,hT2,rfl,()⟩,_,hT2,rfl⟩
  ·have hb':b=z∨b=TO∨b=i1∨b=i2∨b=TI:=by simpa using hb
   have hlt:b<s.heap.objs.size:=by rcases hb' with rfl | rfl | rfl | rfl | rfl <;> assumption
   rw [ax (Nat.ne_of_lt hlt)]
   exact (hf b hb).1
 done:=by
  intro X hP hw hK hc i pins s σ H E I hf st hg
  subst hP hw hK
  obtain ⟨hz,hTI,⟨a,b',hTO⟩,h1,h2⟩:=st
  obtain ⟨xs,ys,p1,p2,hl⟩:=hg
  obtain ⟨its1,rv1,k1⟩:=I.seqC p1
  obtain ⟨its2,rv2,k2⟩:=I.seqC p2
  have l1:=rv1.length
  have l2:=rv2.length
  refine xp (I.ok.hd hc) D n1 hz hTI hTO h1 h2 k1 k2 (by simp;trivial) fun h' tk keep=>⟨rfl,I.turnedL (ch:=[z,TO,i1,i2,TI]) (t':=tk) hf fun b o hb q=>?_⟩
  exact keep b o (fun q=>hb (by simp [q])) (fun q=>hb (by simp [q])) (fun q=>hb (by simp [q])) (fun q=>hb (by simp [q])) q
 self:=fun _ _ _ _ _ st h=>wpAny_pyIter_zip st.1 h
def FT (K:PySem.W.Frag) (ta:TA):TI:=fun σ H R=>ta σ H fun vs H1=>rO fun a1 a2 c1 c2=>vs=[.ref a1,.ref a2]∧(∃xs,iZ K H1 a1 xs c1)∧(∃ys,iZ K H1 a2 ys c2)∧R (yi K a1 a2 c1 c2) H1
theorem CU:bootBuiltins "zip" = some (.type "zip"):=by nofun
theorem Ft {X:Cx}{es:List Expr}{kk:Nat}{tp:Pos}{a b:Expr}{ta:TA}{p pos:Pos} (hg:Gl X "zip") (hm:X.mg "zip" = none) (ha:PA X [a,b] ta) (hs:starEach [a,b] X.env=[(false,eval a X.env),(false,eval b X.env)]:=by rfl) (hs2:starEach [b] X.env=[(false,eval b X.env)]:=by rfl) :
 PI X (.Tuple es kk tp) (.Call (.Name "zip" p) [a,b] [] pos) (FT X.K ta):=by
 intro pins s σ H R I h
 refine Call_ (nK I hg hm CU (PyProof.Rows.callWith_type1 (aR (ha pos pins s σ H _ I h) fun us s1 ⟨vs,H1,I1,r1,q1⟩=>?_) (by rw [hs,hs2]) (by rw [hs2];rfl)))
 obtain ⟨a1,a2,c1,c2,rfl,⟨xs,p1⟩,⟨ys,p2⟩,q⟩:=q1
 obtain ⟨u1,u2,rfl,ru1,ru2⟩:=r1.two
 obtain rfl:u1=.ref a1:=ru1
 obtain rfl:u2=.ref a2:=ru2
 obtain ⟨its1,rv1,k1⟩:=I1.seqC p1
 obtain ⟨its2,rv2,k2⟩:=I1.seqC p2
 have d1:=k1.lt
 have d2:=k2.lt
 refine By k1 k2 fun h' hz hTI hTO t1 t2 hk=>wpAny_pyIter_zip hz ?_
 have I2:aj X pins σ H1 { s1 with heap:=h',toks:=s1.toks }:=I1.kept hk
 refine ⟨s1.heap.objs.size+4,[s1.heap.objs.size+4,s1.heap.objs.size+3,s1.heap.objs.size,s1.heap.objs.size+1,s1.heap.objs.size+2],_,_,H1,rfl,I2,Ce a1 a2 (s1.heap.objs.size+4) (s1.heap.objs.size+2) (s1.heap.objs.size+3) s1.heap.objs.size (s1.heap.objs.size+1) c1 c2
  ⟨by simp,by simp,Nat.ne_of_lt (by simp),by simp,by simp,Nat.ne_of_gt (by simp),by simp,Nat.ne_of_gt (by simp),by simp,Nat.ne_of_lt (by simp)⟩ (fun c hc=>?_),⟨hz,hTI,⟨_,_,hTO⟩,t1,t2⟩,fun b hb=>?_,q⟩
 ·have:c<s1.heap.objs.size:=by rcases hc with rfl | rfl <;> assumption
  exact ⟨Nat.ne_of_lt (Nat.lt_of_lt_of_le this (Nat.le_add_right _ _)),Nat.ne_of_lt (Nat.lt_of_lt_of_le this (Nat.le_add_right _ _)),Nat.ne_of_lt this,Nat.ne_of_lt (Nat.lt_of_lt_of_le this (Nat.le_add_right _ _))⟩
 ·have hb':b=s1.heap.objs.size+4∨b=s1.heap.objs.size+3∨b=s1.heap.objs.size∨b=s1.heap.objs.size+1∨b=s1.heap.objs.size+2:=by simpa using hb
  have hle:s1.heap.objs.size≤b:=by rcases hb' with rfl | rfl | rfl | rfl | rfl <;> trivial
  exact I1.fpOk hle (I1.hok.fresh hle)
section
variable {X:Cx}{K:PySem.W.Frag}
inductive Ip (x:V) (y:V) (H:Hp) (Q:VK):Prop
 | mk (b c:Bool) (h0:x=.bl b) (h1:y=.bl c) (h2:Q (.bl (b==c)) H)
def IS:R2:=fun x y H Q=>Ip  x y H Q
theorem AM:cz X (compareOp .Is) IS:=by
 intro pins s σ H x y v u Q I rx ry h
 obtain ⟨b,c,rfl,rfl,q⟩:=h
 cases (show v=Value.bool b from rx)
 cases (show u=Value.bool c from ry)
 refine wpAny_is_plain rfl (bu I q ?_)
 cases b <;> cases c <;> rfl
end
def Sz (m:Nat) (i:Int):Prop:=i.natAbs<2 ^ m
theorem Sz.mono {m n:Nat}{i:Int} (h:Sz m i) (k:m≤n):Sz n i:=Nat.lt_of_lt_of_le h (Nat.pow_le_pow_right (by decide) k)
theorem Sz.mul {m n:Nat}{i j:Int} (h:Sz m i) (k:Sz n j):Sz (m+n) (i*j):=by
 unfold Sz at *
 rw [Int.natAbs_mul,Nat.pow_add]
 exact Nat.mul_lt_mul'' h k
theorem Sz.neg {m:Nat}{i:Int} (h:Sz m i):Sz m (-i):=by
 unfold Sz at *
 trivial
theorem Sz.le {m:Nat}{i j:Int} (h:Sz m j) (k:i.natAbs≤j.natAbs):Sz m i:=Nat.lt_of_le_of_lt k h
theorem Sz.log {m:Nat}{i:Int} (h:Sz m i) (h0:i≠0):i.natAbs.log2<m:=(Nat.log2_lt (by trivial)).mpr h
theorem Sz.bits {m:Nat}{i:Int} (h:Sz m i):Builtin.Int.intBits i≤m:=by
 unfold Builtin.Int.intBits
 by_cases h0:i=0
 ·subst h0;exact Nat.zero_le _
 ·have:=h.log h0
  rw [if_neg (by simpa using h0)]
  trivial
def Dm (i j:Int):Prop:=bX fun m n=>Sz m i∧Sz n j∧m+n≤134217728
section
variable {X:Cx}
theorem gX:cz X (binaryOp .Mult) (rI Dm fun i j=>.int (i*j)):=wV fun _ _ _ _ _ _ _ hc q=>by
 obtain ⟨m,n,h1,h2,h3⟩:=hc
 exact mul_int q (PyProof.Rows.mulOk_of_bits h1.bits h2.bits h3)
def An (_ j:Int):Prop:=j≠0∧Sz 9000 j
theorem x9:cz X (binaryOp .FloorDiv) (rI An fun i j=>.int (i.fdiv j)):=wV fun i j _ _ _ _ _ hc q=>
 floordiv_int hc.1 q (.inl (PyProof.noPylong_of_log2 (hc.2.log hc.1)))
end
theorem wn {K:PySem.W.Frag}{a1 a2:Addr}{c1 c2:Bool}{xs ys:List V}{n:Nat}{g:TG}{tb:TS}{D:fV}{σ:St}{H:Hp} (Pv:Nat→St→Hp→Prop) (hn:n=min xs.length ys.length) (h0:Pv 0 σ H) (hl:∀i σ H,i≤n→Pv i σ H→iZ K H a1 xs c1∧iZ K H a2 ys c2)
 (hs:∀i x y T σ H,xs[i]?=some x→ys[i]?=some y→H T=none→Pv i σ H→g (.ref T) σ (aJ H T (.tup [x,y])) fun σ2 H2=>tb { D with nx:=Pv (i+1),ct:=Pv (i+1),bk:=D.nx } σ2 H2) (hd:∀σ H,Pv n σ H→D.nx σ H) :
 ∃W:Nat→Nat→St→Hp→Prop,(∃m,W 0 m σ H)∧∀i m σ H,W i m σ H→
  ((yi K a1 a2 c1 c2).stop i H∧D.nx σ H)∨((yi K a1 a2 c1 c2).go i H∧∃N:St→Hp→Prop,(∀σ' H',N σ' H'→∃m',m'<m∧W (i+1) m' σ' H')∧∀x H',(yi K a1 a2 c1 c2).yld i H x H'→g x σ H' fun σ2 H2=>tb { D with nx:=N,ct:=N,bk:=D.nx } σ2 H2):=by
 refine ⟨fun i m σ H=>m=n - i∧i≤n∧Pv i σ H,⟨n,by simp,Nat.zero_le _,h0⟩,?_⟩
 rintro i m σ H ⟨rfl,hi,p⟩
 obtain ⟨q1,q2⟩:=hl i σ H hi p
 by_cases hlt:i<n
 ·have l1:i<xs.length:=by trivial
  have l2:i<ys.length:=by trivial
  refine .inr ⟨⟨xs,ys,xs[i],ys[i],q1,q2,by simp [l1],by simp [l2]⟩,Pv (i+1),fun σ' H' p'=>⟨n - (i+1),by trivial,rfl,hlt,p'⟩,fun x H' y=>?_⟩
  obtain ⟨T,u,v,hT,rfl,rfl,e1,e2⟩:=y
  exact hs i u v T σ H (e1 xs q1) (e2 ys q2) hT p
 ·have e:i=n:=by trivial
  subst e
  refine .inl ⟨⟨xs,ys,q1,q2,?_⟩,hd _ _ p⟩
  trivial
theorem cX {H H':Hp}{D:Addr}{o:HO} (hD:H D=none) (k:ad H H'):ad H (aJ H' D o):=fun b u e=>by
 rw [ax (aK e hD)];exact k b u e
theorem aw.nth {E:Addr→Prop}{H:Hp}{vs:List V}{ds:List PyData} (r:aw E H vs ds) (i:Nat) {v:V}{d:PyData} (hv:vs[i]?=some v) (hd:ds[i]?=some d):aB E H v d:=by
 obtain ⟨d',e,h⟩:=r.get hv
 rw [hd] at e
 cases e
 exact h
theorem ai.free {b p:Addr}{H H9:Hp}{t9:Int} (s:ai (Eb b) H H9) (B:Bx H9 b t9) (h:H9 p=none):H p=none:=by
 cases e:H p with
 | none=>rfl
 | some o=>
  by_cases hb:p=b
  ·obtain ⟨c,x,eb,_⟩:=B
   rw [←hb,h] at eb;cases eb
  ·rw [s.old p o hb e] at h;cases h
mutual
theorem aB.narrow {E F:Addr→Prop}{H:Hp} (k:∀a,F a→E a):∀{v:V}{d:PyData},aB E H v d→aB F H v d
 | _,_,.non=>.non
 | _,_,.bl b=>.bl b
 | _,_,.int i=>.int i
 | _,_,.str x=>.str x
 | _,_,.lst h ne r=>.lst h (fun z=>ne (k _ z)) (aw.narrow k r)
 | _,_,.tup h r=>.tup h (aw.narrow k r)
theorem aw.narrow {E F:Addr→Prop}{H:Hp} (k:∀a,F a→E a):∀{vs:List V}{ds:List PyData},aw E H vs ds→aw F H vs ds
 | _,_,.nil=>.nil
 | _,_,.cons h r=>.cons (aB.narrow k h) (aw.narrow k r)
end
abbrev fr (z:Int×Int):HO:=.tup [.int z.1,.int z.2]
abbrev IY (n1 d1 n2 d2:Int):Int:=n1*d2+n2*d1
abbrev Je (n1 d1 n2 d2:Int):Int:=n1*d2 - n2*d1
abbrev Gu (n1 _ n2 _:Int):Int:=n1*n2
abbrev Ad (_ d1 _ d2:Int):Int:=d1*d2
def Ah (i j:Int):Int:=if i<j then -1 else if j<i then 1 else 0
inductive FO (vs:List V) (H:Hp) (Q:VK):Prop
 | mk (a b:Addr) (n1 d1 n2 d2:Int) (h0:vs=[.ref a,.ref b]) (h1:H a=some (.tup [.int n1,.int d1])) (h2:H b=some (.tup [.int n2,.int d2])) (h3:Sz 4000 n1) (h4:Sz 4000 d1) (h5:Sz 4000 n2) (h6:Sz 4000 d2) (h7:Q (.int (Ah (n1*d2) (n2*d1))) H)
def HU:Sp:=fun vs H Q _=>FO  vs H Q
theorem ph {i j:Int} (h1:Sz 4000 i) (h2:Sz 4000 j):Dm i j:=⟨4000,4000,h1,h2,by decide⟩
theorem Ai {i j:Int} (h1:Sz 4000 i) (h2:Sz 4000 j):Sz 9000 (i*j):=(h1.mul h2).mono (by decide)
theorem IM {n d:Int} (hd:d≠0) (h:Sz 9000 d):Sz 9000 ((Int.gcd n d:Nat):Int):=h.le (by
 rw [Int.natAbs_natCast]
 exact Nat.le_of_dvd (by trivial) (Int.ofNat_dvd_left.mp (Int.gcd_dvd_right ..)))
structure Fb (b:Nat) (n d:Int):Prop where
 sn:Sz b n
 sd:Sz b d
 pos:1≤d
 co:Int.gcd n d=1
theorem Fb.mono {b c:Nat}{n d:Int} (h:Fb b n d) (k:b≤c):Fb c n d:=⟨h.sn.mono k,h.sd.mono k,h.pos,h.co⟩
theorem Fb.low {b:Nat}{n d:Int} (h1:Sz b n) (h2:Sz b d) (hd:d≠0):Fb b (KM.low n d).1 (KM.low n d).2:=by
 obtain ⟨a,_,c,e,f⟩:=KM.low_spec n d hd
 exact ⟨h1.le e,h2.le f,a,c⟩
theorem Fb.den {b:Nat}{n1 d1 n2 d2:Int} (h1:Fb b n1 d1) (h2:Fb b n2 d2):d1*d2≠0:=Int.mul_ne_zero (by have:=h1.pos;trivial) (by have:=h2.pos;trivial)
structure Nw (H:Hp) (p:Addr) (o:HO) (H':Hp):Prop where
 fr:H p=none
 sm:ad H H'
 at':H' p=some o
theorem Nw.mk' {H:Hp}{p:Addr}{o:HO} (h:H p=none):Nw H p o (aJ H p o):=⟨h,ad.new h,av⟩
section
variable {X:Cx}{es:List Expr}{t:TA}{pos:Pos}{K:PySem.W.Frag}
def Hk (t:TA):TE:=fun σ H Q=>t σ H fun xs H1=>xs.length≤10000∧∀p H',Nw H1 p (.tup xs) H'→Q (.ref p) H'
def HD (t:TA):TE:=fun σ H Q=>t σ H fun xs H1=>xs.length≤10000∧∀p H',Nw H1 p (.lst xs) H'→Q (.ref p) H'
theorem gb {n:Nat} (h:n≤10000):n≤sizeLine:=by rw [sizeLine_eq];trivial
theorem ak {x1} (h:PA X es t):PE X (.Tuple es x1 pos) (Hk t):=by
 intro pins s σ H Q I hq
 refine wpAny_Tuple_spliced (aR (h pos pins s σ H _ I hq) fun us s1 ⟨xs,H1,I1,r,z',q⟩=>⟨by rw [←r.length];exact gb z',?_⟩)
 have z:=gb z'
 have hf:H1 s1.heap.objs.size=none:=I1.hok.fresh (Nat.le_refl _)
 refine ⟨.ref s1.heap.objs.size,aJ H1 s1.heap.objs.size (.tup xs),I1.laid (t':=s1.toks) (fun b u e=>Heap.get?_push_of_some _ e) (Nat.le_refl _) ?_,rfl,q _ _ (.mk' hf)⟩
 exact ⟨z,us,r,⟨_,Heap.get?_push_size _ rfl,rfl,()⟩,_,Heap.get?_push_size _ rfl,rfl⟩
theorem ca (h:PA X es t):PE X (.List es pos) (HD t):=by
 intro pins s σ H Q I hq
 refine wpAny_List_spliced (aR (h pos pins s σ H _ I hq) fun us s1 ⟨xs,H1,I1,r,z',q⟩=>⟨by rw [←r.length];exact gb z',?_⟩)
 have z:=gb z'
 have hf:H1 s1.heap.objs.size=none:=I1.hok.fresh (Nat.le_refl _)
 refine ⟨.ref s1.heap.objs.size,aJ H1 s1.heap.objs.size (.lst xs),I1.laid (t':=s1.toks) (fun b u e=>Heap.get?_push_of_some _ e) (Nat.le_refl _) ?_,rfl,q _ _ (.mk' hf)⟩
 exact ⟨z,us,0,r,Heap.get?_push_size _ rfl⟩
inductive FM (x:V) (y:V) (H:Hp) (Q:VK):Prop
 | mk (l:_) (b:_) (xs:_) (zs:_) (h0:x=.ref l) (h1:y=.ref b) (h2:H l=some (.lst xs)) (h3:H b=some (.lst zs)) (h4:xs.length+zs.length≤10000) (h5:∀p H',Nw H p (.lst (xs++zs)) H'→Q (.ref p) H')
def Hq:R2:=fun x y H Q=>FM  x y H Q
theorem El:cz X (binaryOp .Add) Hq:=fun pins s σ H x y v u Q I rx ry ⟨l,b,xs,zs,e1,e2,h1,h2,hz,q⟩=>
 A2 pins s σ H x y v u Q I rx ry ⟨l,b,xs,zs,e1,e2,h1,h2,gb hz,fun p hp=>q p _ (.mk' hp)⟩
inductive IB (K:PySem.W.Frag) (x:V) (lo:Option Int) (hi:Option Int) (H:Hp) (Q:VK):Prop
 | mk (a:_) (xs:_) (h0:x=.ref a) (h1:aA K H a xs) (h2:∀p H',Nw H p (.lst (gY xs lo hi)) H'→Q (.ref p) H')
def IQ (K:PySem.W.Frag):V→Option Int→Option Int→Hp→VK→Prop:=fun x lo hi H Q=>IB K x lo hi H Q
theorem BL (e:X.K=K:=by rfl):Bb X (IQ K):=by
 subst e
 exact fun pins s σ H x v vl vu lo hi sl Q I rx hs pl pu ⟨a,xs,e,h,q⟩=>wk pins s σ H x v vl vu lo hi sl Q I rx hs pl pu ⟨a,xs,e,h,fun p hp=>q p _ (.mk' hp)⟩
inductive GX (x:V) (y:V) (H:Hp) (Q:VK):Prop
 | mk (l:_) (k:_) (xs:_) (h0:x=.ref l) (h1:y=.int k) (h2:H l=some (.lst xs)) (h3:-(2 ^ 63)≤k) (h4:k<2 ^ 63) (h5:xs.length*k.toNat≤10000) (h6:∀p H',Nw H p (.lst (List.replicate k.toNat xs).flatten) H'→Q (.ref p) H')
def HM:R2:=fun x y H Q=>GX  x y H Q
theorem wp:cz X (binaryOp .Mult) HM:=fun pins s σ H x y v u Q I rx ry ⟨l,k,xs,e1,e2,h1,h2,h3,hz,q⟩=>
 BG pins s σ H x y v u Q I rx ry ⟨l,k,xs,e1,e2,h1,h2,h3,gb hz,fun p hp=>q p _ (.mk' hp)⟩
inductive Ea (K:PySem.W.Frag) (xs:List V) (H:Hp) (Q:VK):Prop
 | mk (p:_) (ys:_) (h0:xs=[.ref p]) (h1:(aA K H p ys∨ae K H p ys)) (h2:∀l H',Nw H l (.lst ys) H'→Q (.ref l) H')
def He (K:PySem.W.Frag):List V→Hp→VK→Prop:=fun xs H Q=>Ea K xs H Q
theorem mF (e:X.K=K:=by rfl):gL X (.type "list") (He K):=by
 subst e
 exact fun pins s σ H xs us Q I r ⟨p,ys,e,h,q⟩=>sR pins s σ H xs us Q I r ⟨p,ys,e,h,fun l hl=>q l _ (.mk' hl)⟩
inductive Dh (K:PySem.W.Frag) (xs:List V) (H:Hp) (Q:VK):Prop
 | mk (p:_) (ys:_) (h0:xs=[.ref p]) (h1:aA K H p ys) (h2:∀l H',Nw H l (.tup ys) H'→Q (.ref l) H')
def E6 (K:PySem.W.Frag):List V→Hp→VK→Prop:=fun xs H Q=>Dh K xs H Q
theorem bT (e:X.K=K:=by rfl):gL X (.type "tuple") (E6 K):=by
 subst e
 exact fun pins s σ H xs us Q I r ⟨p,ys,e,h,q⟩=>xr pins s σ H xs us Q I r ⟨p,ys,e,.inl ⟨h,fun l hl=>q l _ (.mk' hl)⟩⟩
end
structure Ch (H:Hp) (p:Addr) (xs:List V) (H':Hp):Prop where
 at':H' p=some (.lst xs)
 ol:∀a o,a≠p→H a=some o→H' a=some o
 fre:∀a,a≠p→H a=none→H' a=none
theorem Ch.mk' {H:Hp}{p:Addr}{xs:List V}:Ch H p xs (aJ H p (.lst xs)):=⟨av,fun a o n h=>by rw [ax n];exact h,fun a n h=>by rw [ax n];exact h⟩
theorem Ch.tup {H H':Hp}{p a:Addr}{xs ys zs:List V} (c:Ch H p xs H') (h:H a=some (.tup ys)) (hp:H p=some (.lst zs)):H' a=some (.tup ys):=c.ol a _ (jG h hp (by intro z;cases z)) h
section
variable {X:Cx}
inductive FP (x:V) (vs:List V) (H:Hp) (Q:VK):Prop
 | mk (l:_) (xs:_) (y:_) (h0:x=.ref l) (h1:vs=[y]) (h2:H l=some (.lst xs)) (h3:xs.length≤10000) (h4:∀H',Ch H l (xs++[y]) H'→Q .non H')
def IC:V→List V→Hp→VK→Prop:=fun x vs H Q=>FP  x vs H Q
theorem bQ:zm X "list.append" IC:=fun pins s σ H x vs v us Q I rx rv ⟨l,xs,y,e1,e2,h,hz,q⟩=>w9 pins s σ H x vs v us Q I rx rv ⟨l,xs,y,e1,e2,h,(by rw [sizeLine_eq];trivial),q _ .mk'⟩
end
inductive E4 (vs:List V) (H:Hp) (Q:VK):Prop
 | mk (n d:Int) (h0:vs=[.int n,.int d]) (h1:d≠0) (h2:Sz 9000 d) (h3:∀p H',Nw H p (fr (KM.low n d)) H'→Q (.ref p) H')
def AW:Sp:=fun vs H Q _=>E4  vs H Q
inductive DU (num den:Int→Int→Int→Int→Int) (vs:List V) (H:Hp) (Q:VK):Prop
 | mk (a b:Addr) (n1 d1 n2 d2:Int) (h0:vs=[.ref a,.ref b]) (h1:H a=some (.tup [.int n1,.int d1])) (h2:H b=some (.tup [.int n2,.int d2])) (h3:(Sz 4000 n1∧Sz 4000 d1∧Sz 4000 n2∧Sz 4000 d2∧den n1 d1 n2 d2≠0)) (h4:∀p H',Nw H p (fr (KM.low (num n1 d1 n2 d2) (den n1 d1 n2 d2))) H'→Q (.ref p) H')
def xG (num den:Int→Int→Int→Int→Int):Sp:=fun vs H Q _=>DU num den vs H Q
theorem Fb.s4 {b:Nat}{n1 d1 n2 d2:Int} (h1:Fb b n1 d1) (h2:Fb b n2 d2) (hb:b≤4000):Sz 4000 n1∧Sz 4000 d1∧Sz 4000 n2∧Sz 4000 d2∧d1*d2≠0:=
 ⟨h1.sn.mono hb,h1.sd.mono hb,h2.sn.mono hb,h2.sd.mono hb,h1.den h2⟩
theorem Fb.small {b:Nat}{n d:Int} (h1:n.natAbs<2 ^ b) (h2:d.natAbs<2 ^ b) (h3:1≤d) (h4:Int.gcd n d=1):Fb b n d:=⟨h1,h2,h3,h4⟩
theorem Bx.ch {H H':Hp}{b p:Addr}{t:Int}{xs:List V} (h:Bx H b t) (k:Ch H p xs H') (ne:b≠p):Bx H' b t:=by
 obtain ⟨c,x,e,q,q2,q3⟩:=h
 exact ⟨c,x,k.ol b _ ne e,q,q2,q3⟩
theorem Bx.ne {H:Hp}{b p:Addr}{t:Int} (h:Bx H b t) (hp:H p=none):b≠p:=fun z=>by
 obtain ⟨c,x,e,_⟩:=h
 rw [z,hp] at e;cases e
section
variable {X:Cx}{e:Expr}{te:TE}{st:Expr}{ts:TO}{p2 pos:Pos}{K:PySem.W.Frag}
theorem aE.rev {xs:List V}{us:List Value} (h:aE xs us):aE xs.reverse us.reverse:=by
 induction h with
 | nil=>exact .nil
 | cons h _ ih=>rw [List.reverse_cons,List.reverse_cons];exact ih.append (.cons h .nil)
def Ik (K:PySem.W.Frag) (te:TE) (ts:TO):TE:=fun σ H Q=>te σ H fun x H1=>ts σ H1 fun k H2=>k=some (-1)∧bX fun a xs=>x=.ref a∧aA K H2 a xs∧∀p H',Nw H2 p (.lst xs.reverse) H'→Q (.ref p) H'
theorem EC (he:PE X e te) (hst:PO X (some st) ts) (ek:X.K=K:=by rfl):PE X (.Subscript e (.Slice none none (some st) p2) pos) (Ik K te ts):=by
 subst ek
 intro pins s σ H Q I h
 refine Subscript_ (aR (he pins s σ H _ I h) fun v s1 ⟨x,H1,I1,r1,q1⟩=>?_)
 refine wpAny_Slice ?_
 rw [evalPart_none]
 refine wpAny_pure (wpAny_pure (aR (hst pins s1 σ H1 _ I1 q1) fun vs s3 ⟨k,H3,I3,pk,q3⟩=>?_))
 obtain ⟨rfl,a,xs,rfl,hx,q⟩:=q3
 cases r1
 have I4:aj X pins σ H3 { s3 with heap:=s3.heap.push { cls:=.type "slice",data:=.fields #[.none,.none,vs] } }:=I3.kept (t':=s3.toks) fun b ob q=>Heap.get?_push_of_some _ q
 obtain ⟨its,r,ht,hz⟩:=I4.list hx
 have hlen:=r.length
 show wpAny (model X.prog X.w) X.A (subscriptTail e (.Slice none none (some st) p2) (.ref a) (.ref s3.heap.objs.size)) (EP X pins σ Q) X.xe { s3 with heap:=s3.heap.push { cls:=.type "slice",data:=.fields #[.none,.none,vs] } }
 refine tail_any (ops:=[.ref a,.ref s3.heap.objs.size]) ht.isList.typeIs slot_list_getitem.lookup ?_ (by with_unfolding_all rfl)
 refine wpAny_getItem_list_slice ht.isList (Heap.IsSliceOf.new ..) .none .none pk (by decide) ?_ (by rw [List.size_toArray] <;> trivial)
 rw [PySem.W.krv_pick]
 refine ⟨.ref (s3.heap.push { cls:=.type "slice",data:=.fields #[.none,.none,vs] }).objs.size,_,I4.laid (t':=s3.toks) (o:=.lst xs.reverse) (fun b ob q=>Heap.get?_push_of_some _ q) (Nat.le_refl _) ?_,rfl,q _ _ (.mk' (I4.hok.fresh (Nat.le_refl _)))⟩
 exact ⟨by rw [List.length_reverse];exact hz,_,0,r.rev,Heap.get?_push_size _ rfl⟩
end
theorem jP:Fb 1 0 1:=Fb.small (by decide) (by decide) (by decide) (by decide)
def S (l:List Nat):Str:=⟨l.toArray⟩
theorem Dt {a b:List Nat} (h:S a=S b):a=b:=by
 have:a.toArray=b.toArray:=by injection h
 simpa using this
theorem Aw (a b:List Nat):S a++S b=S (a++b):=by
 show (⟨a.toArray++b.toArray⟩:Str)=⟨(a++b).toArray⟩
 simp
theorem xF (a:List Nat):(S a).length=a.length:=by
 show a.toArray.size=_
 simp
theorem A7 (a:List Nat):(S a).cps.toList=a:=rfl
theorem Bv (k:Nat) (l:List Nat):∀acc:List Nat,(List.replicate k l.toArray).foldl (·++·) acc.toArray=(acc++(List.replicate k l).flatten).toArray:=by
 induction k with
 | zero=>intro acc;simp
 | succ k ih=>
  intro acc
  rw [List.replicate_succ,List.foldl_cons,List.replicate_succ,List.flatten_cons]
  have:acc.toArray++l.toArray=(acc++l).toArray:=by simp
  rw [this,ih,List.append_assoc]
theorem xc:∀ls:List (List Nat),Str.join (S []) (ls.map S)=S ls.flatten
 | []=>rfl
 | [a]=>by
  show S a=S (a++[])
  rw [List.append_nil]
 | a :: b :: r=>by
  have e:Str.join (S []) ((a :: b :: r).map S)=S a++S []++Str.join (S []) ((b :: r).map S):=rfl
  rw [e,xc (b :: r),Aw,Aw,List.append_nil]
  rfl
section
variable {X:Cx}{K:PySem.W.Frag}
inductive Gn (x:V) (y:V) (H:Hp) (Q:VK):Prop
 | mk (l:_) (n:_) (h0:x=.str (S l)) (h1:y=.int n) (h2:1≤n) (h3:n≤1000) (h4:l.length≤100) (h5:Q (.str (S (List.replicate n.toNat l).flatten)) H)
def HZ:R2:=fun x y H Q=>Gn  x y H Q
theorem zp:cz X (binaryOp .Mult) HZ:=by
 intro pins s σ H x y v u Q I rx ry h
 obtain ⟨l,n,rfl,rfl,h1,h2,h3,q⟩:=h
 obtain ⟨t,rfl⟩:=rx
 obtain ⟨t',rfl⟩:=ry
 have hlen:(S l).length=l.length:=xF l
 have hmul:l.length*n.toNat≤100*1000:=Nat.mul_le_mul h3 (by trivial)
 refine PySem.P.mul_str ?_ ?_ ?_ ?_
 ·rw [decide_eq_false (by trivial),decide_eq_false (by trivial)];rfl
 ·intro _ _
  rw [hlen]
  have:(100:Int)<(2 ^ 63 - 1) / n:=by
   have:(100+1)*n≤2 ^ 63 - 1:=by trivial
   have:=(Int.le_ediv_iff_mul_le (by trivial:0<n)).mpr this
   trivial
  trivial
 ·intro _ _
  rw [hlen]
  unfold Builtin.Str.tooLong
  rw [decide_eq_false]
  rw [sizeLine_eq]
  trivial
 ·rw [if_neg (by trivial)]
  by_cases hn:(n==1 || (S l).length==0)=true
  ·rw [if_pos hn]
   refine ⟨.str (S l),H,I,⟨t,rfl⟩,?_⟩
   have e:(List.replicate n.toNat l).flatten=l:=by
    rw [hlen] at hn
    have hn':n=1∨l.length=0:=by simpa using hn
    rcases hn' with rfl | hn'
    ·simp
    ·have:l=[]:=List.eq_nil_of_length_eq_zero hn'
     subst this
     simp
   rw [e] at q
   exact q
  ·rw [if_neg hn]
   have e:(⟨(List.replicate n.toNat (S l).cps).foldl (·++·) #[]⟩:Str)=S (List.replicate n.toNat l).flatten:=by
    have e:=Bv n.toNat l []
    rw [List.nil_append] at e
    exact congrArg Str.mk e
   rw [e]
   refine ⟨?_,.str (S (List.replicate n.toNat l).flatten),H,I.tok _,⟨()⟩,q⟩
   rw [xF,wM,sizeLine_eq,Nat.mul_comm]
   trivial
inductive Gv (K:PySem.W.Frag) (x:V) (vs:List V) (H:Hp) (Q:VK):Prop
 | mk (a:_) (ls:_) (h0:x=.str (S [])) (h1:vs=[.ref a]) (h2:aA K H a ((ls:List (List Nat)).map fun l=>V.str (S l))) (h3:(ls.map (·.length)).sum≤10000) (h4:Q (.str (S ls.flatten)) H)
def Ho (K:PySem.W.Frag):V→List V→Hp→VK→Prop:=fun x vs H Q=>Gv K x vs H Q
theorem Bk {ls:List (List Nat)}:∀{us:List Value},aE (ls.map fun l=>V.str (S l)) us→StrsAre us (ls.map S):=by
 induction ls with
 | nil=>intro us h;cases h;exact .nil
 | cons l r ih=>
  intro us h
  cases h with
  | cons h t=>
   obtain ⟨tk,rfl⟩:=h
   exact .cons _ _ (ih t)
theorem EL (ek:X.K=K:=by rfl):A4 X "str.join" (Ho K):=by
 subst ek
 intro pins s σ H x vs v us Q I rx rv h
 obtain ⟨a,ls,rfl,rfl,hS,hz,q⟩:=h
 obtain ⟨t,rfl⟩:=rx
 obtain ⟨u,rfl,ru⟩:=rv.one
 obtain rfl:u=Value.ref a:=ru
 obtain ⟨its,r,ht,_⟩:=I.list hS
 have e1:((ls.map S).map (·.length)).sum=(ls.map (·.length)).sum:=by
  rw [List.map_map]
  congr 1
 refine join_list (ys:=ls.map S) ht.isList (by simpa using Bk r) ?_ fun t' k=>?_
 ·rw [e1,show (S []).length=0 from rfl]
  trivial
 ·have:=join_plain_closes (S []) (ls.map S)
  rw [eq_of_beq this,xc]
  exact ⟨.str (S ls.flatten),H,I.tok k,⟨()⟩,q⟩
inductive GN (x:V) (y:V) (H:Hp) (Q:VK):Prop
 | mk (a:_) (b:_) (h0:x=.str (S a)) (h1:y=.str (S b)) (h2:a.length+b.length≤10000) (h3:Q (.str (S (a++b))) H)
def HG:R2:=fun x y H Q=>GN  x y H Q
theorem Es:cz X (binaryOp .Add) HG:=fun pins s σ H x y v u Q I rx ry ⟨a,b,e1,e2,hz,q⟩=>
 zF pins s σ H x y v u Q I rx ry ⟨S a,S b,e1,e2,by rw [xF,xF];exact gb hz,by rw [Aw];exact q⟩
end
theorem Ar:Str.ofString "abcdefghijklmnopqrstuvwxyz" = S ((List.range 26).map (97+·)):=by nofun
theorem BV:Str.ofString "" = S []:=by nofun
theorem oK {i:Int} (h0:-26≤i) (h1:i<26):jY ((Str.ofString "abcdefghijklmnopqrstuvwxyz").cps.toList) i=some (97+(i % 26).toNat):=by
 rw [Ar,A7]
 have:∀k:Fin 52,jY ((List.range 26).map (97+·)) ((k.val:Int) - 26)=some (97+(((k.val:Int) - 26) % 26).toNat):=by nofun
 have e:=this ⟨(i+26).toNat,by trivial⟩
 simp only at e
 rw [show (((i+26).toNat:Nat):Int) - 26=i by trivial] at e
 exact e
theorem Go {f:Int}{j k:Nat} (hj:j<26) (hk:k<26) (h:(f+11*(j:Int)) % 26=(f+11*(k:Int)) % 26):j=k:=by trivial
structure xE (l:List Nat):Prop where
 lo:1≤l.length
 hi:l.length≤8
 az:∀c∈l,97≤c∧c≤122
abbrev aH (l:List Nat):V:=.str (S l)
def nm (c k:Nat):List Nat:=List.replicate (1+k) c
theorem GZ (n c:Nat):(List.replicate n [c]).flatten=List.replicate n c:=by
 induction n with
 | zero=>rfl
 | succ n ih=>rw [List.replicate_succ,List.flatten_cons,ih,List.replicate_succ];rfl
theorem Dl {c k:Nat} (hk:k<8) (h1:97≤c) (h2:c≤122):xE (nm c k):=⟨by simp [nm],by simp [nm];trivial,fun d hd=>by
 have:=List.eq_of_mem_replicate hd
 trivial⟩
theorem yn {c d j k:Nat} (h:nm c j=nm d k):c=d∧j=k:=by
 have h1:=congrArg List.length h
 simp [nm] at h1
 subst h1
 have h2:=congrArg List.head? h
 simp [nm,List.replicate_succ,Nat.add_comm 1] at h2
 exact ⟨h2,rfl⟩
theorem Am {c d:Nat} (h:c≠d):((List.range 8).map (nm c)++(List.range 8).map (nm d)).Nodup:=by
 rw [List.nodup_append]
 refine ⟨?_,?_,?_⟩
 ·exact List.Pairwise.map _ (fun a b hab e=>hab (yn e).2) List.nodup_range
 ·exact List.Pairwise.map _ (fun a b hab e=>hab (yn e).2) List.nodup_range
 ·intro a ha b hb e
  obtain ⟨j,_,rfl⟩:=List.mem_map.mp ha
  obtain ⟨k,_,rfl⟩:=List.mem_map.mp hb
  exact h (yn e).1
theorem AK {xs:List V}{m:Int} (h:0≤m):gY xs none (some m)=xs.take m.toNat:=by
 unfold gY
 have e:m=((m.toNat:Nat):Int):=by trivial
 rw [HT.sIx_none,e,HT.sIx_nat]
 simp only [Int.toNat_natCast,List.drop_zero,Nat.sub_zero]
 by_cases hm:m.toNat≤xs.length
 ·rw [Nat.min_eq_left hm]
 ·rw [Nat.min_eq_right (by trivial),List.take_of_length_le (Nat.le_refl _),List.take_of_length_le (by trivial)]
theorem yJ {ls:List (List Nat)}{f:Int} (hl:ls.length≤26) (h:∀(j:Nat) (l:List Nat),ls[j]?=some l→l.head?=some (97+((f+11*(j:Int)) % 26).toNat)):ls.Nodup:=by
 rw [List.nodup_iff_pairwise_ne,List.pairwise_iff_getElem]
 intro i j hi hj hij e
 have h1:=h i ls[i] (List.getElem?_eq_getElem hi)
 have h2:=h j ls[j] (List.getElem?_eq_getElem hj)
 rw [e,h2] at h1
 injection h1 with h1
 have a1:=Int.emod_nonneg (f+11*(i:Int)) (by decide:(26:Int)≠0)
 have a2:=Int.emod_nonneg (f+11*(j:Int)) (by decide:(26:Int)≠0)
 have:=Go (f:=f) (j:=i) (k:=j) (by trivial) (by trivial) (by trivial)
 trivial
inductive Cq (vs:List V) (H:Hp) (Q:VK):Prop
 | mk (b:Addr) (many t:Int) (h0:vs=[.ref b,.int many]) (h1:Bx H b t) (h2:0≤t) (h3:t≤900000) (h4:1≤many) (h5:many≤11) (h6:∀D (ls:List (List Nat)) t' H',H D=none→ai (Eb b) H H'→H' D=some (.lst (ls.map aH))→ls.length=many.toNat→ls.Nodup→(∀l∈ls,xE l)→Bx H' b t'→t≤t'→t'≤t+130→Q (.ref D) H')
def ET:Sp:=fun vs H Q _=>Cq  vs H Q
theorem ai.ch {b D:Addr}{H H1 H2:Hp}{xs:List V} (s:ai (Eb b) H H1) (c:Ch H1 D xs H2) (hD:H D=none):ai (Eb b) H H2:=
 ⟨fun a u ne h=>c.ol a u (aK h hD) (s.old a u ne h),fun a us h=>c.ol a _ (aK h hD) (s.tup a us h)⟩
theorem ai.up {b D:Addr}{H H1:Hp}{o:HO} (s:ai (Eb b) H H1) (hD:H D=none):ai (Eb b) H (aJ H1 D o):=
 ⟨fun a u ne h=>by rw [ax (aK h hD)];exact s.old a u ne h,fun a us h=>by rw [ax (aK h hD)];exact s.tup a us h⟩
def IT (x:Str):Prop:=x.length≤300∧∀c∈x.cps.toList,c<128
mutual
inductive Wt:PyData→Nat→Nat→Prop
 | non {k:Nat}:Wt .none 1 k
 | bl (b:Bool) {k:Nat}:Wt (.bool b) 1 k
 | int {i:Int} (h:Sz 1900 i) {k:Nat}:Wt (.int i) 1 k
 | str {x:Str} (h:IT x) {k:Nat}:Wt (.str x) 1 k
 | list {xs:List PyData}{n k:Nat} (h:mw xs n k):Wt (.list xs) (n+1) (k+1)
 | tuple {xs:List PyData}{n k:Nat} (h:mw xs n k):Wt (.tuple xs) (n+1) (k+1)
inductive mw:List PyData→Nat→Nat→Prop
 | nil {k:Nat}:mw [] 0 k
 | cons {x:PyData}{xs:List PyData}{m n k:Nat} (h:Wt x m k) (r:mw xs n k):mw (x :: xs) (m+n) k
end
mutual
theorem Wt.dep:∀{d:PyData}{n k:Nat},Wt d n k→d.depth≤k
 | _,_,_,.non=>by simp [PyData.depth]
 | _,_,_,.bl b=>by simp [PyData.depth]
 | _,_,_,.int h=>by simp [PyData.depth]
 | _,_,_,.str h=>by simp [PyData.depth]
 | _,_,_,.list h=>by simp only [PyData.depth];exact Nat.succ_le_succ (mw.dep h)
 | _,_,_,.tuple h=>by simp only [PyData.depth];exact Nat.succ_le_succ (mw.dep h)
theorem mw.dep:∀{ds:List PyData}{n k:Nat},mw ds n k→PyData.depthAll ds≤k
 | _,_,_,.nil=>by simp [PyData.depthAll]
 | _,_,_,.cons h r=>by simp only [PyData.depthAll];exact Nat.max_le.mpr ⟨Wt.dep h,mw.dep r⟩
end
end L2
namespace L2
open PySem PySem.Spec PyProof.Rows
mutual
theorem Wt.can:∀{d:PyData}{n k:Nat},Wt d n k→d.canLay0=true
 | _,_,_,.non=>by simp [PyData.canLay0]
 | _,_,_,.bl b=>by simp [PyData.canLay0]
 | _,_,_,.int h=>by simp [PyData.canLay0]
 | _,_,_,.str (x:=x) h=>by
  simp only [PyData.canLay0]
  unfold PySem.PyData.strOk
  rw [Array.all_eq_true]
  intro i hi
  have:=h.2 x.cps[i] (by simp)
  simp
  trivial
 | _,_,_,.list h=>by simp only [PyData.canLay0];exact mw.can h
 | _,_,_,.tuple h=>by simp only [PyData.canLay0];exact mw.can h
theorem mw.can:∀{ds:List PyData}{n k:Nat},mw ds n k→PyData.canLayAll0 ds=true
 | _,_,_,.nil=>by simp [PyData.canLayAll0]
 | _,_,_,.cons h r=>by simp only [PyData.canLayAll0,Bool.and_eq_true];exact ⟨Wt.can h,mw.can r⟩
end
section
variable {X:Cx}
end
abbrev ED:Addr→Prop:=fun _=>True
abbrev d9 (p:KM.Fra):PyData:=.tuple [.int p.1,.int p.2]
structure ji where
 bg:List Nat
 en:List Nat
 most:KM.Fra
 gain:KM.Fra
 price:KM.Fra
abbrev f6 (t:ji):PyData:=.tuple [.str (S t.bg),.str (S t.en),d9 t.most,d9 t.gain,d9 t.price]
theorem aw.tupS {E:Addr→Prop}{H H':Hp}{v:List V}{d:List PyData} (h:aw ED H v d) (k:ai E H H'):aw ED H' v d:=h.mono ⟨fun _ _ n _=>absurd trivial n,k.tup⟩
theorem aB.tupC {H H':Hp}{v:V}{d:PyData}{p:Addr}{xs ys:List V} (h:aB ED H v d) (k:Ch H p xs H') (hp:H p=some (.lst ys)):aB ED H' v d:=h.mono ⟨fun _ _ n _=>absurd trivial n,fun _ _ e=>k.tup e hp⟩
end L2
namespace L2
open PySem PySem.Spec PyProof.Rows
inductive F5 (c:Nat) (lo:Int) (vs:List V) (H:Hp) (Q:VK):Prop
 | mk (b:Addr) (t:Int) (h0:vs=[.ref b]) (h1:Bx H b t) (h2:0≤t) (h3:t≤900000) (h4:∀o n d t' H',ai (Eb b) H H'→H' o=some (.tup [.int n,.int d])→Fb c n d→lo≤n→Bx H' b t'→t≤t'→t'≤t+6→Q (.ref o) H')
def zv (c:Nat) (lo:Int):Sp:=fun vs H Q _=>F5 c lo vs H Q
abbrev HC (lo:Int):Sp:=zv 24 lo
theorem Fe {n d:Int} (hn:1≤n) (hn2:n≤60) (hd:1≤d) (hd2:d≤60):Fb 6 (KM.low n d).1 (KM.low n d).2∧1≤(KM.low n d).1:=by
 have a:Sz 6 n:=by show n.natAbs<64;trivial
 have b:Sz 6 d:=by show d.natAbs<64;trivial
 refine ⟨Fb.low a b (by trivial),?_⟩
 have:=(KM.low_sgn (n:=n) (d:=d) (by trivial)).1.mpr (by trivial)
 trivial
theorem xL {n d:Int} (hn:1≤n) (hn2:n≤10000000) (hd:1≤d) (hd2:d≤10000000):Fb 24 (KM.low n d).1 (KM.low n d).2∧1≤(KM.low n d).1:=by
 have a:Sz 24 n:=by show n.natAbs<16777216;trivial
 have b:Sz 24 d:=by show d.natAbs<16777216;trivial
 refine ⟨Fb.low a b (by trivial),?_⟩
 have:=(KM.low_sgn (n:=n) (d:=d) (by trivial)).1.mpr (by trivial)
 trivial
theorem qH {n:Int} (h0:0≤n) (h:n≤10000000):Fb 24 n 1:=⟨by show n.natAbs<16777216;trivial,by show (1:Int).natAbs<_;decide,by decide,Int.gcd_one_right _⟩
theorem JD {c:Bool}{a b:Int}{σ:St}{H:Hp}{Q:VK} (h:Q (.int (if c=true then a else b)) H):if c=true then tC (.int a) σ H Q else tC (.int b) σ H Q:=by
 cases c with
 | true=>exact cx h
 | false=>exact aT h
theorem Cm {m:Int} (h0:0<m) (h1:m<1099511627776):m.natAbs.log2<9000:=by
 have a:Sz 40 m:=by show m.natAbs<1099511627776;trivial
 exact Nat.lt_trans (a.log (by trivial)) (by decide)
end L2
namespace L2
end L2
namespace L2
open PySem PySem.Spec PyProof.Rows
end L2
namespace L2
end L2
namespace L2
open PySem PySem.Spec PyProof.Rows
end L2
namespace L2
open PySem PySem.Spec PyProof.Rows
open AutoSeq1 (wpAny_loadPart')
set_option maxHeartbeats 4000000 in
theorem CZ (l:Addr) (its:Array Value) (n:Nat) (dct:Option Addr) (sl:Array (Option Value)) :
 Meets (Builtin.«enumerate.__new__» ⟨[.type "enumerate",.ref l],[]⟩) (fun _ R s=>s.heap.get? l=some { cls:=.type "tuple",dict:=dct,data:=.seq its n,slots:=sl }∧
  R (.ok (.ret (.ref (s.heap.push { cls:=.type "tuple_iterator",data:=.fields #[.ref l,.int 0 0] }).objs.size))) { s with heap:=(s.heap.push { cls:=.type "tuple_iterator",data:=.fields #[.ref l,.int 0 0] }).push { cls:=.type "enumerate",data:=.fields #[.none,.bool false,.ref s.heap.objs.size,rawInt 0,.none,.none] } }):=
 .of_wp fun prog w A R s h=>by
  obtain ⟨hp,g,d,tk,os⟩:=s;obtain ⟨hl,h⟩:=h;have hsub:=sub_enumerate
  have hT:Heap.IsTuple (Shared.heap ⟨hp,g,d,tk,os⟩) l its:=⟨_,hl,rfl,n,rfl⟩
  wp_walk using wpAny_loadPart' hl
  refine wpAny_stack_any fun st=>wpAny_pure ?_;split
  ·rename_i c _ _ _ _ _;cases (c==Value.type "enumerate")
   ·wp_walk using wpAny_loadPart' hl,wpAny_pyIter_tuple hT
    exact ⟨(),h⟩
   ·wp_walk using wpAny_loadPart' hl,wpAny_pyIter_tuple hT
    exact ⟨(),h⟩
  ·wp_walk using wpAny_loadPart' hl,wpAny_pyIter_tuple hT
   exact ⟨(),h⟩
section
variable {prog:Program}{w:World}{A:Around}{E:Value→Shared→Prop}{s:Shared}
theorem Ak {l:Addr}{its:Array Value}{Q:Value→Shared→Prop}:∀{c:Bool},hU s.heap l its c→
 (∀h',IsEnum h' (s.heap.objs.size+1) s.heap.objs.size 0 .none→fO h' s.heap.objs.size l 0 c→(∀b o,s.heap.get? b=some o→h'.get? b=some o)→Q (.ref (s.heap.objs.size+1)) { s with heap:=h' })→
 wpAny (model prog w) A (call (.type "enumerate") [.ref l]) Q E s
 | true,q,h=>call_enumerate_list q fun h' a b _ k=>h h' a b k
 | false,q,h=>by
  obtain ⟨⟨c,dct,dt,sl⟩,hl,hc,n,hd⟩:=q
  dsimp only at hc hd
  subst hc hd
  refine callType_new F.called_enumerate (by decide) (F.typeCall_enumerate_1 _) (F.newCall_enumerate_1 _) (fun obj=>F.args_object_init_2 obj _) F.entry_enumerate_new (CZ l its n dct sl) ⟨hl,?_⟩
  have hz:(s.heap.push { cls:=.type "tuple_iterator",data:=.fields #[.ref l,.int 0 0] }).objs.size=s.heap.objs.size+1:=Heap.size_push ..
  show _∧_
  rw [hz]
  have he:IsEnum ((s.heap.push { cls:=.type "tuple_iterator",data:=.fields #[.ref l,.int 0 0] }).push { cls:=.type "enumerate",data:=.fields #[.none,.bool false,.ref s.heap.objs.size,rawInt 0,.none,.none] }) (s.heap.objs.size+1) s.heap.objs.size 0 .none:=by
   rw [←hz];exact Heap.get?_push_size _ rfl
  exact ⟨⟨_,he,rfl⟩,h _ he ⟨_,Heap.get?_push_of_some _ (Heap.get?_push_size _ rfl),rfl,rfl⟩ fun b o e=>Heap.get?_push_of_some _ (Heap.get?_push_of_some _ e)⟩
end
def yg (K:PySem.W.Frag) (a:Addr) (c:Bool):It:=
 ⟨fun i H=>bX fun xs x=>iZ K H a xs c∧xs[i]?=some x,fun i H v H'=>bX fun T x=>H T=none∧v=.ref T∧H'=aJ H T (.tup [.int (i:Int),x])∧∀xs,iZ K H a xs c→xs[i]?=some x,fun i H=>∃xs,iZ K H a xs c∧xs.length=i⟩
theorem Af {P:Program}{w:World}{K:PySem.W.Frag}{es:List Expr}{kk:Nat}{pos:Pos} (a e it:Addr) (c:Bool) (hne:e≠it) (hae:a≠e) (hai:a≠it) :
 uQ P w K (.Tuple es kk pos) (yg K a c) [e,it] e (fun i h=>(∃old,IsEnum h e it i old)∧fO h it a i c) where
 mem:=by simp
 obj:=fun i h st b hb=>by
  obtain ⟨⟨old,he⟩,hi⟩:=st
  have hb':b=e∨b=it:=by simpa using hb
  rcases hb' with rfl | rfl
  ·exact ⟨_,he,fun v z=>by have z':Data.fields _=Data.cell v:=z;cases z'⟩
  ·exact hi.some
 keep:=fun i h h' st k=>by
  obtain ⟨⟨old,he⟩,hi⟩:=st
  exact ⟨⟨old,k e (by simp) _ he⟩,hi.at fun o q=>k it (by simp) o q⟩
 item:=by
  intro X hP hw hK hc i pins s σ H E I hf st hg
  subst hP hw hK
  obtain ⟨⟨old,he⟩,hit⟩:=st
  obtain ⟨xs,x,hq,hx⟩:=hg
  obtain ⟨its,rv,p⟩:=I.seqC hq
  obtain ⟨u,hu,ru⟩:=rv.get hx
  have hnT:H s.heap.objs.size=none:=I.fresh
  have hiu:i<its.length:=(List.getElem?_eq_some_iff.mp hu).1
  have D:=pZ (prog:=X.prog) (w:=X.w) (A:=X.A.in1) (I.ok.hd hc) it a hai its.toArray c
  refine wpAny_pyNext_enum_itemD D he ⟨hit,p⟩ (by simpa using hiu) hne (by simp;exact ⟨hne,Ne.symm hae⟩) fun u' h' tk hP ho st' hT hsz hk=>?_
  have eu:u=u':=by
   have:its.toArray[i]?=some u':=hP
   rw [List.getElem?_toArray,hu] at this
   exact Option.some.inj this
  subst eu
  refine ⟨(),wpAny_letOwnedTupleGo_enum (s:={ s with heap:=h',toks:=tk+1 }) ho fun h'' he'' hs''=>?_⟩
  have helt:e<s.heap.objs.size:=Heap.lt_size he
  have hilt:it<s.heap.objs.size:=let ⟨_,y,_⟩:=hit.some;Heap.lt_size y
  have hT'':h''.get? s.heap.objs.size=some { cls:=.type "tuple",data:=.seq #[.int i tk,u] }:=(hs''.2 _ (Nat.ne_of_gt helt)).trans hT
  refine ⟨.ref s.heap.objs.size,aJ H s.heap.objs.size (.tup [.int (i:Int),x]),I.turnedNew (ch:=[e,it]) (t':=tk+1) hf (fun b o hb q=>?_) (Nat.le_refl _) ?_,rfl,⟨_,x,hnT,rfl,rfl,fun ys hy=>by rw [I.seqC_inj hy hq];exact hx⟩,⟨⟨u,?_⟩,st'.1.at fun o q=>(hs''.2 _ (Ne.symm hne)).trans q⟩,fun b hb=>?_⟩
  ·have h1:b≠e:=fun z=>hb (by simp [z])
   have h2:b≠it:=fun z=>hb (by simp [z])
   exact (hs''.2 b h1).trans (hk b o h1 h2 q)
  ·exact ⟨by show 2≤sizeLine;decide,[.int i tk,u],.cons ⟨()⟩ (.cons ru .nil),⟨_,hT'',rfl,()⟩,_,hT'',rfl⟩
  ·simpa using he''
  ·have hb':b=e∨b=it:=by simpa using hb
   have hlt:b<s.heap.objs.size:=by rcases hb' with rfl | rfl <;> assumption
   rw [ax (Nat.ne_of_lt hlt)]
   exact (hf b hb).1
 done:=by
  intro X hP hw hK hc i pins s σ H E I hf st hg
  subst hP hw hK
  obtain ⟨⟨old,he⟩,hit⟩:=st
  obtain ⟨xs,hq,hx⟩:=hg
  obtain ⟨its,rv,p⟩:=I.seqC hq
  have hl:=rv.length
  have D:=pZ (prog:=X.prog) (w:=X.w) (A:=X.A.in1) (I.ok.hd hc) it a hai its.toArray c
  have ei:i=its.toArray.size:=by simp;trivial
  refine wpAny_pyNext_enum_endD D he (by rw [ei] at hit;exact ⟨hit,p⟩) fun h' eb=>⟨rfl,I.turnedL (ch:=[e,it]) (t':=s.toks) hf fun b o hb q=>eb b o (fun z=>hb (by simp [z])) q⟩
 self:=fun _ _ _ _ _ st h=>by
  obtain ⟨⟨old,he⟩,_⟩:=st
  exact wpAny_pyIter_enum he h
def GI (K:PySem.W.Frag) (ta:TA):TI:=fun σ H R=>ta σ H fun vs H1=>bX fun a c=>vs=[.ref a]∧(∃xs,iZ K H1 a xs c)∧R (yg K a c) H1
theorem qY {X:Cx}{K:PySem.W.Frag}{es:List Expr}{kk:Nat}{tp:Pos}{a:Expr}{ta:TA}{p pos:Pos} (hg:Gl X "enumerate") (hm:X.mg "enumerate" = none) (ha:PA X [a] ta) (hs:starEach [a] X.env=[(false,eval a X.env)]:=by rfl) (ek:X.K=K:=by rfl) :
 PI X (.Tuple es kk tp) (.Call (.Name "enumerate" p) [a] [] pos) (GI K ta):=by
 subst ek
 intro pins s σ H R I h
 refine Call_ (nK I hg hm boot_enumerate (PyProof.Rows.callWith_type1 (aR (ha pos pins s σ H _ I h) fun us s1 ⟨vs,H1,I1,r1,q1⟩=>?_) hs rfl))
 obtain ⟨a,c,rfl,⟨xs,hq⟩,q⟩:=q1
 obtain ⟨u,rfl,ru⟩:=r1.one
 obtain rfl:u=.ref a:=ru
 obtain ⟨its,rv,p⟩:=I1.seqC hq
 have d1:=p.lt
 refine Ak p fun h' hE hI hk=>wpAny_pyIter_enum hE ?_
 have I2:aj X pins σ H1 { s1 with heap:=h',toks:=s1.toks }:=I1.kept hk
 refine ⟨s1.heap.objs.size+1,[s1.heap.objs.size+1,s1.heap.objs.size],_,_,H1,rfl,I2,Af a (s1.heap.objs.size+1) s1.heap.objs.size c (Nat.succ_ne_self _) (Nat.ne_of_lt (Nat.lt_succ_of_lt d1)) (Nat.ne_of_lt d1),⟨⟨_,hE⟩,hI⟩,fun b hb=>?_,q⟩
 have hb':b=s1.heap.objs.size+1∨b=s1.heap.objs.size:=by simpa using hb
 have hle:s1.heap.objs.size≤b:=by rcases hb' with rfl | rfl <;> trivial
 exact I1.fpOk hle (I1.hok.fresh hle)
section
variable {X:Cx}
end
end L2
namespace L2
open PySem PySem.Spec PyProof.Rows
theorem aw.set {E:Addr→Prop}{H:Hp}{y:V}{d:PyData} (hy:aB E H y d):∀{xs:List V}{ds:List PyData} (i:Nat),aw E H xs ds→aw E H (xs.set i y) (ds.set i d)
 | _,_,_,.nil=>by simp;exact .nil
 | _,_,0,.cons h r=>by simp;exact .cons hy r
 | _,_,i+1,.cons h r=>by simp;exact .cons h (aw.set hy i r)
section
variable {z:Nat}{E:Addr→Prop}{H H':Hp}{n m k:Nat}{v:V}{xs ys:List V}
end
section
variable {X:Cx}
end
end L2
namespace HT
open PySem PySem.Spec PyProof.Rows
section
variable {prog:Program}{w:World}{A:Around}{E:Value→Shared→Prop}{s:Shared}
theorem getItem_tuple_whole {t sl:Addr}{items:Array Value}{vl vu:Value}{lo hi:Option Int}{Q:Value→Shared→Prop} (ht:IsTup s.heap t items) (hs:s.heap.IsSliceOf sl vl vu .none) (pl:IsPart vl lo) (pu:IsPart vu hi)
 (h1:sIx items.size 0 lo=0) (h2:sIx items.size items.size hi=items.size) (h:Q (.ref t) s):wpAny (model prog w) A (getItem (.ref t) (.ref sl)) Q E s:=by
 obtain ⟨os,hos,hcs,hds⟩:=id hs
 have hTs:s.TypeIs (.ref sl) "slice" := ⟨os,hos,hcs⟩
 unfold getItem
 try with_reducible refine wpAny_holding ?_
 first | refine wpAny_bind (wpAny_pure ?_) | skip
 refine wpAny_bind (wpAny_sequenceKey ht.typeIs (by decide) ?_)
 refine wpAny_bind (wpAny_callSpecial?_slot (name:=Str.ofString "__getitem__") ht.typeIs PyProof.Rows.slot_tuple_getitem
  (wpAny_call_entry PyProof.Rows.slot_tuple_getitem ht.typeIs entry_tuple_getitem ?_ (args_tuple_getitem _ _)))
 show wpAny _ _ (Builtin.Tuple.tupleItemsOf (.ref t) >>= _) _ _ s
 refine wpAny_bind (tupleItemsOf_ ht ?_)
 refine wpAny_bind (wpAny_typeOf hTs ?_)
 rw [if_pos (by decide)]
 refine wpAny_bind (oh hs pl pu ?_)
 have hyes:((((sIx items.size 0 lo:Nat):Int)==0 && (1:Int)==1 && (sIx items.size items.size hi - sIx items.size 0 lo)==items.size)=true):=by
  rw [h1,h2];simp
 show wpAny _ _ (if (((sIx items.size 0 lo:Nat):Int)==0 && (1:Int)==1 && (sIx items.size items.size hi - sIx items.size 0 lo)==items.size)=true then _ else _) _ _ s
 rw [if_pos hyes]
 refine wpAny_bind (m:=Builtin.Tuple.tupleIsExact _) (wpAny_bind (wpAny_typeOf ht.typeIs (wpAny_pure ?_)))
 rw [if_pos (by decide)]
 exact wpAny_bind (wpAny_rule (wpAny_pure ⟨(),wpAny_pure h⟩))
end
end HT
namespace L2
open PySem PySem.Spec PyProof.Rows
section
variable {X:Cx}{K:PySem.W.Frag}
inductive Fo (x:V) (y:V) (H:Hp) (Q:VK):Prop
 | mk (b c:Bool) (h0:x=.bl b) (h1:y=.bl c) (h2:Q (.bl (!(b==c))) H)
def Ij:R2:=fun x y H Q=>Fo  x y H Q
theorem uc:cz X (compareOp .IsNot) Ij:=by
 intro pins s σ H x y v u Q I rx ry h
 obtain ⟨b,c,rfl,rfl,q⟩:=h
 cases (show v=Value.bool b from rx)
 cases (show u=Value.bool c from ry)
 refine wpAny_isNot_plain rfl (bu I q ?_)
 cases b <;> cases c <;> rfl
inductive FD (K:PySem.W.Frag) (x:V) (lo:Option Int) (hi:Option Int) (H:Hp) (Q:VK):Prop
 | mk (a:_) (xs:_) (h0:x=.ref a) (h1:ae K H a xs) (h2:H a=some (.tup xs)) (h3:∀p H',ad H H'→H' p=some (.tup (gY xs lo hi))→Q (.ref p) H')
def HN (K:PySem.W.Frag):V→Option Int→Option Int→Hp→VK→Prop:=fun x lo hi H Q=>FD K x lo hi H Q
theorem iN (e:X.K=K:=by rfl):Bb X (HN K):=by
 subst e
 intro pins s σ H x v vl vu lo hi sl Q I rx hs pl pu h
 obtain ⟨a,xs,rfl,hx,ha,q⟩:=h
 by_cases hw:HT.sIx xs.length 0 lo=0∧HT.sIx xs.length xs.length hi=xs.length
 ·cases rx
  obtain ⟨its,r,ht,hz⟩:=I.tuple hx
  have hlen:its.toArray.size=xs.length:=by rw [List.size_toArray];exact r.length.symm
  refine ⟨"tuple",_,PyProof.Rows.slot_tuple_getitem.lookup,ht.typeIs,?_⟩
  refine HT.getItem_tuple_whole ht hs pl pu (by rw [hlen];exact hw.1) (by rw [hlen];exact hw.2) ⟨.ref a,H,I,rfl,q a H (ad.refl _) ?_⟩
  have:gY xs lo hi=xs:=by
   unfold gY
   rw [hw.1,hw.2,List.drop_zero,Nat.sub_zero,List.take_length]
  rw [this];exact ha
 ·exact GF pins s σ H _ v vl vu lo hi sl Q I rx hs pl pu ⟨a,xs,rfl,hx,hw,fun p hp=>q p _ (ad.new hp) av⟩
end
section
variable {prog:Program}{w:World}{A:Around}{R:Result→Shared→Prop}{it:Addr}{fp wr:List Addr}{G:Array GenState→Array GenState→Prop}{P:Nat→Value→Prop}{St:Nat→Shared→Prop}
end
section
variable {prog:Program}{w:World}{A:Around}{E:Value→Shared→Prop}{s:Shared}
end
section
variable {X:Cx}{K:PySem.W.Frag}{e:Expr}{te:TE}{p1 p2 p3 p4:Pos}
end
section
variable {X:Cx}{K:PySem.W.Frag}{o e:Expr}{es:List Expr}{to:TE}{t:TA}{name:Str}{apos cpos:Pos}{T id:String}{r:V→List V→Hp→VK→Prop}
theorem cA (pa:PlainAttrs T) (slot:Slot T name id) (hty:typeOf (.builtin id)=pure (.type "method_descriptor")) (hm:A4 X id r) (ho:PE X o to) (ha:PA X (e :: es) t) (ek:X.K=K:=by rfl)
 (h1:attributeBase o name X.env (eval o X.env)=eval o X.env:=by rfl)
 (h2:((backTo cpos (starEach (e :: es) X.env)).all (fun x=>!x.1) && (backToKw cpos (keywordEach [] X.env)).all (fun x=>x.1.isSome) && decide ((e :: es).length+([]:List Keyword).length+(if ([]:List Keyword).isEmpty then 0 else 1)<30))=true:=by rfl)
 (h3:(apos.endLine==cpos.line)=true:=by rfl) (h4:starEach (e :: es) X.env=(false,eval e X.env) :: starEach es X.env:=by rfl) (h5:(backTo cpos (starEach es X.env)).any (·.1)=false:=by rfl) :
 PE X (.Call (.Attribute o name apos) (e :: es) [] cpos) (II K T r to t):=by
 subst ek
 exact Iq pa slot hty hm ho ha h1 h2 h3 h4 h5
end
theorem gF {X:Cx}{K:PySem.W.Frag}{es:List Expr}{kk:Nat}{tp:Pos}{a b:Expr}{ta:TA}{p pos:Pos} (hg:Gl X "zip") (hm:X.mg "zip" = none) (ha:PA X [a,b] ta) (ek:X.K=K:=by rfl) (h1:starEach [a,b] X.env=[(false,eval a X.env),(false,eval b X.env)]:=by rfl) (h2:starEach [b] X.env=[(false,eval b X.env)]:=by rfl) :
 PI X (.Tuple es kk tp) (.Call (.Name "zip" p) [a,b] [] pos) (FT K ta):=by
 subst ek
 exact Ft hg hm ha h1 h2
end L2
namespace L2
theorem aP {t u:TS}{D:fV}{σ:St}{H:Hp} (h:∀D':fV,(∀σ' H',u D σ' H'→D'.nx σ' H')→t D' σ H):ko t u D σ H:=h { D with nx:=u D } fun _ _ z=>z
theorem GC {t u:TS}{D:fV}{σ:St}{H:Hp} (h:∀D':fV,(∀σ' H',u D σ' H'→D'.nx σ' H')→(∀v H',D.rt v H'→D'.rt v H')→t D' σ H):ko t u D σ H:=h { D with nx:=u D } (fun _ _ z=>z) fun _ _ z=>z
theorem pb {t:TS}{D:fV}{σ:St}{H:Hp} (h:∀D':fV,(∀σ' H',D.nx σ' H'→D'.nx σ' H')→t D' σ H):t D σ H:=h D fun _ _ z=>z
end L2
namespace L2
open PySem PySem.Spec PyProof.Rows
section
variable {X:Cx}
end
section
variable {K:PySem.W.Frag}{a a1 a2 D:Addr}{H1:Hp}{σc:St}{g:TG}{te:TE}{tt:TT}{Q:VK}{xs ys:List V}
theorem wJ {α:Type} (f:Nat→α) (i:Nat):(List.range i).map f++[f i]=(List.range (i+1)).map f:=by
 rw [List.range_succ,List.map_append];rfl
theorem jW {J:It}{n:Nat} (f:Nat→V) (hz:n≤10000) (hD:H1 D=none) (hgo:∀i H',i<n→ad H1 H'→J.go i H') (hst:∀H',ad H1 H'→J.stop n H')
 (hs:∀i x H' H'' (R:VK),i<n→ad H1 H'→J.yld i H' x H''→(∀H4,ad H' H4→R (f i) H4)→g x σc H'' fun σ2 H2=>jk σc σ2∧te σ2 H2 R)
 (hd:∀H',ad H1 H'→H' D=some (.lst ((List.range n).map f))→Q (.ref D) H'):jE J σc g tT te D H1 Q:=by
 refine io (n:=n) (fun i H' zs=>zs=(List.range i).map f∧H' D=some (.lst zs)∧ad H1 H') (gb hz) ⟨rfl,av,cX hD (ad.refl _)⟩ ?_ ?_ ?_ ?_ ?_
 ·rintro i H' zs ⟨rfl,q,_⟩
  exact ⟨q,by simp⟩
 ·rintro i H' zs hi ⟨_,_,sm⟩
  exact hgo i H' hi sm
 ·rintro H' zs ⟨_,_,sm⟩
  exact hst H' sm
 ·rintro i H' zs x H'' hi ⟨rfl,q,sm⟩ y
  exact hs i x H' H'' _ hi sm y fun H4 s4=>⟨s4 _ _ q,wJ f i,av,cX hD (sm.trans s4)⟩
 ·rintro H' zs ⟨rfl,q,sm⟩
  exact hd H' sm q
theorem Bp (f:Nat→V) (hz:xs.length≤10000) (hD:H1 D=none) (ha:H1 a=some (.tup xs))
 (hs:∀i x H' (R:VK),xs[i]?=some x→ad H1 H'→(∀H4,ad H' H4→R (f i) H4)→g x σc H' fun σ2 H2=>jk σc σ2∧te σ2 H2 R)
 (hd:∀H',ad H1 H'→H' D=some (.lst ((List.range xs.length).map f))→Q (.ref D) H'):jE (yl K a) σc g tT te D H1 Q:=by
 refine jW (n:=xs.length) f hz hD (fun i H' hi sm=>⟨xs,xs[i],ae.of (sm _ _ ha),by simp [hi]⟩) (fun H' sm=>⟨xs,ae.of (sm _ _ ha),Nat.le_refl _⟩) ?_ hd
 rintro i x H' H'' R hi sm ⟨rfl,ex⟩ k
 exact hs i x H'' R (ex _ (ae.of (sm _ _ ha))) sm k
theorem A3 {c1 c2:Bool}{j1 j2:Nat} (f:Nat→V) (hz:min xs.length ys.length≤10000) (hD:H1 D=none) (h1:∀H',ad H1 H'→iZ K H' a1 xs c1) (h2:∀H',ad H1 H'→iZ K H' a2 ys c2)
 (hs:∀i x y H' (R:VK),xs[i]?=some x→ys[i]?=some y→ad H1 H'→(∀H4,ad H' H4→R (f i) H4)→(fun σ2 H2=>jk σc σ2∧te σ2 H2 R) ((σc.set j1 (some x)).set j2 (some y)) H')
 (hd:∀H',ad H1 H'→H' D=some (.lst ((List.range (min xs.length ys.length)).map f))→Q (.ref D) H'):jE (yi K a1 a2 c1 c2) σc (Ae K 2 (v0 (oO j1) (v0 (oO j2) CH))) tT te D H1 Q:=by
 refine jW (n:=min xs.length ys.length) f hz hD (fun i H' hi sm=>⟨xs,ys,xs[i]'(by trivial),ys[i]'(by trivial),h1 H' sm,h2 H' sm,by rw [List.getElem?_eq_getElem (by trivial)],by rw [List.getElem?_eq_getElem (by trivial)]⟩) (fun H' sm=>⟨xs,ys,h1 H' sm,h2 H' sm,by trivial⟩) ?_ hd
 rintro i v H' H'' R hi sm ⟨T,x,y,hT,rfl,rfl,e1,e2⟩ k
 have st:=ad.new (o:=.tup [x,y]) hT
 exact ⟨T,(),ae.of av,rfl,_,(),_,(),rfl,hs i x y _ R (e1 _ (h1 H' sm)) (e2 _ (h2 H' sm)) (sm.trans st) fun H4 s4=>k H4 (st.trans s4)⟩
theorem vR {J:It}{n:Nat} (G:V→Prop) (hz:n≤10000) (hD:H1 D=none) (hgo:∀i H',i<n→ad H1 H'→J.go i H') (hst:∀H',ad H1 H'→J.stop n H')
 (hs:∀i x H' H'' (R:VK) (R0:Hp→Prop),i<n→ad H1 H'→J.yld i H' x H''→(∀y H4,G y→ad H' H4→R y H4)→(∀H4,ad H' H4→R0 H4)→g x σc H'' fun σ2 H2=>jk σc σ2∧tt σ2 H2 fun b H3=>if b=true then te σ2 H3 R else R0 H3)
 (hd:∀H' zs,ad H1 H'→H' D=some (.lst zs)→(∀y∈zs,G y)→zs.length≤n→Q (.ref D) H'):jE J σc g tt te D H1 Q:=by
 refine tQ (n:=n) (fun i H' zs=>H' D=some (.lst zs)∧ad H1 H'∧(∀y∈zs,G y)∧zs.length≤i) (gb hz) ⟨av,cX hD (ad.refl _),fun y hy=>(by cases hy),Nat.le_refl _⟩ ?_ ?_ ?_ ?_ ?_
 ·rintro i H' zs ⟨q,_,_,l⟩
  exact ⟨q,l⟩
 ·rintro i H' zs hi ⟨_,sm,_⟩
  exact hgo i H' hi sm
 ·rintro H' zs ⟨_,sm,_⟩
  exact hst H' sm
 ·rintro i H' zs x H'' hi ⟨q,sm,gz,l⟩ y
  refine hs i x H' H'' _ _ hi sm y (fun y H4 gy s4=>⟨s4 _ _ q,av,cX hD (sm.trans s4),fun z hz=>?_,by rw [List.length_append];exact Nat.succ_le_succ l⟩) fun H4 s4=>⟨s4 _ _ q,sm.trans s4,gz,by trivial⟩
  rcases List.mem_append.mp hz with hz | hz
  ·exact gz z hz
  ·rw [List.mem_singleton.mp hz];exact gy
 ·rintro H' zs ⟨q,sm,gz,l⟩
  exact hd H' zs sm q gz l
end
end L2
namespace L2
theorem HX {te:TE}{g:TG}{u:TS}{D:fV}{σ:St}{H:Hp} (I:V→Hp→Prop) (rest:∀v H',I v H'→g v σ H' (u D)) (h:(∀v H',I v H'→g v σ H' (u D))→te σ H fun v H'=>g v σ H' (u D)):ko (yz te g) u D σ H:=h rest
theorem xD {t u:TS}{D:fV}{σ:St}{H:Hp} (I:St→Hp→Prop) (rest:∀σ' H',I σ' H'→u D σ' H') (h:(∀σ' H',I σ' H'→u D σ' H')→t { D with nx:=u D } σ H):ko t u D σ H:=h rest
end L2
namespace L2
open PySem PySem.Spec PyProof.Rows
section
variable {X:Cx}{tg:Expr}
inductive Fl (K:PySem.W.Frag) (x:V) (y:V) (H:Hp) (Q:VK):Prop
 | mk (a:_) (b:_) (xs:_) (ys:_) (h0:x=.ref a) (h1:y=.ref b) (h2:ae K H a xs) (h3:H a=some (.tup xs)) (h4:ae K H b ys) (h5:xs≠[]) (h6:xs.length+ys.length≤10000) (h7:∀p H',ad H H'→H' p=some (.tup (xs++ys))→Q (.ref p) H')
def FC (K:PySem.W.Frag):R2:=fun x y H Q=>Fl K x y H Q
theorem Ck {K:PySem.W.Frag} (e:X.K=K:=by rfl):cz X (binaryOp .Add) (FC K):=by
 subst e
 intro pins s σ H x y v u Q I rx ry h
 obtain ⟨a,b,xs,ys,e1,e2,ha,ha',hb,hx,hz,q⟩:=h
 refine Fj pins s σ H x y v u Q I rx ry ⟨a,b,xs,ys,e1,e2,ha,hb,hx,gb hz,fun z=>?_,fun z p hp=>q p _ (ad.new hp) av⟩
 refine q a H (ad.refl _) ?_
 rw [z,List.append_nil];exact ha'
end
section
variable {X:Cx}{K:PySem.W.Frag}{o e:Expr}{es:List Expr}{to:TE}{t:TA}{name:Str}{apos cpos:Pos}{id:String}{r:V→List V→Hp→VK→Prop}
end
end L2
namespace L2
open PySem PyProof.Rows
def fC (X:Cx) (scope:Scope) (cl:List (Str×Addr)) (C:Addr) (N':List Str) (s:Shared) (H:Hp) (ex:List Addr) (pn:List (Addr×Obj)):Cx:=
 { yo X scope cl C N' s H ex pn with fn:=fun x=>scope.names.lookup x==some .cell }
def qT (esc:Scope) (N:List Str) (scope:Scope) (N':List Str) (L:Nat) (src:List Nat):Bool:=
 (scope.kind==.function) && scope.names.all (fun y=>(y.2 != .cell || scope.names.lookup y.1==some .cell) && (y.2 != .local || scope.names.lookup y.1==some .local) && (y.2 != .free || esc.names.lookup y.1==some .cell || esc.names.lookup y.1==some .free)) &&
  (N'.length==L+src.length) && (List.range src.length).all fun i=>match src[i]?,N'[L+i]? with
   | some j,some x=>(N[j]?==some x) && (scope.names.lookup x==some .free)
   | _,_=>false
structure yW (esc:Scope) (N:List Str) (scope:Scope) (N':List Str) (L:Nat) (src:List Nat):Prop where
 kind:scope.kind=.function
 cells:∀y∈scope.names,y.2=.cell→scope.names.lookup y.1=some .cell
 loc:∀y∈scope.names,y.2=.local→scope.names.lookup y.1=some .local
 free:∀y∈scope.names,y.2=.free→esc.names.lookup y.1=some .cell∨esc.names.lookup y.1=some .free
 len:N'.length=L+src.length
 frees:∀(i j:Nat),src[i]?=some j→∃x,N'[L+i]?=some x∧N[j]?=some x∧scope.names.lookup x=some .free
theorem wa {esc:Scope}{N:List Str}{scope:Scope}{N':List Str}{L:Nat}{src:List Nat} (h:qT esc N scope N' L src=true):yW esc N scope N' L src:=by
 unfold qT at h
 simp only [Bool.and_eq_true,List.all_eq_true] at h
 obtain ⟨⟨⟨h1,h2⟩,h3⟩,h4⟩:=h
 refine ⟨by simpa using h1,fun y hy e=>?_,fun y hy e=>?_,fun y hy e=>?_,by simpa using h3,fun i j e=>?_⟩
 ·have:=(h2 y hy).1.1
  rw [e] at this
  simpa using this
 ·have:=(h2 y hy).1.2
  rw [e] at this
  simpa using this
 ·have:=(h2 y hy).2
  rw [e] at this
  simpa using this
 ·have hi:i<src.length:=(List.getElem?_eq_some_iff.mp e).1
  have:=h4 i (List.mem_range.mpr hi)
  rw [e] at this
  cases q:N'[L+i]? with
  | none=>rw [q] at this;simp at this
  | some x=>
   rw [q] at this
   simp only [Bool.and_eq_true,beq_iff_eq] at this
   exact ⟨x,rfl,this.1,this.2⟩
theorem lv:∀(names:List (Str×NameKind)) (n:Nat) (acc acc':List (Str×Addr)),cellsFrom n names (acc++acc')=cellsFrom n names acc++acc'
 | [],_,_,_=>rfl
 | (name,kind) :: r,n,acc,acc'=>by
  unfold cellsFrom
  split
  ·exact lv r (n+1) ((name,n) :: acc) acc'
  ·exact lv r n acc acc'
theorem xy (names:List (Str×NameKind)) (n:Nat) (acc:List (Str×Addr)):cellsFrom n names acc=cellsFrom n names []++acc:=lv names n [] acc
theorem kh {x:Str}{c:Addr}:∀(names:List (Str×NameKind)) (n:Nat) (acc:List (Str×Addr)),(x,c)∈cellsFrom n names acc→(x,NameKind.cell)∈names∨(x,c)∈acc
 | [],_,_,h=>.inr h
 | (name,kind) :: r,n,acc,h=>by
  unfold cellsFrom at h
  split at h
  ·rename_i hk
   rcases kh r (n+1) _ h with h | h
   ·exact .inl (List.mem_cons_of_mem _ h)
   ·rcases List.mem_cons.mp h with h | h
    ·injection h with h1 h2
     have hk':kind=.cell:=by simpa using hk
     rw [h1,hk'];exact .inl List.mem_cons_self
    ·exact .inr h
  ·rcases kh r n _ h with h | h
   ·exact .inl (List.mem_cons_of_mem _ h)
   ·exact .inr h
theorem lI {x:Str}:∀(names:List (Str×NameKind)) (n:Nat) (acc:List (Str×Addr)),(∃c,acc.lookup x=some c)→∃c,(cellsFrom n names acc).lookup x=some c
 | [],_,_,h=>h
 | (name,kind) :: r,n,acc,⟨c,h⟩=>by
  unfold cellsFrom
  split
  ·refine lI r (n+1) _ ?_
   rw [List.lookup_cons]
   cases hb:x==name with
   | true=>exact ⟨_,rfl⟩
   | false=>exact ⟨c,h⟩
  ·exact lI r n acc ⟨c,h⟩
theorem mz {x:Str}:∀(names:List (Str×NameKind)) (n:Nat) (acc:List (Str×Addr)),(x,NameKind.cell)∈names→∃c,(cellsFrom n names acc).lookup x=some c
 | (name,kind) :: r,n,acc,h=>by
  unfold cellsFrom
  rcases List.mem_cons.mp h with h | h
  ·injection h with h1 h2
   subst h1;subst h2
   rw [if_pos (show (NameKind.cell==NameKind.cell)=true from rfl)]
   exact lI r (n+1) _ ⟨n,by simp [List.lookup_cons]⟩
  ·split
   ·exact mz r (n+1) _ h
   ·exact mz r n acc h
theorem Jf {M:Model}{A:Around}{E:Value→Shared→Prop}{s:Shared}{scope:Scope}{globals:Addr}{cl:List (Str×Addr)}{qual:Str}{env:Env}{Q:Env→Shared→Prop}
 (h:Q { scope:=scope,locals:=s.heap.objs.size,globals:=globals,cells:=cellsFrom (s.heap.objs.size+1) scope.names cl,qual:=qual,func:=none,code:=env.code,frame:=env.frame,builtins:=env.builtins }
  { s with heap:=pushCells (s.heap.push { cls:=.type "dict",data:=.dict #[] }) scope.names }) :
 wpAny M A (newFunctionEnv scope globals cl [] qual none .none (some env)) Q E s:=by
 simp only [newFunctionEnv,Option.isSome_some,if_true]
 refine wpAny_bind (wpAny_alloc ?_)
 refine wpAny_bind (wpAny_layCells _ (fun name kind cells=>by cases hkc:kind==NameKind.cell <;> simp [hkc]) _ _ _ _ ?_)
 rw [show ({ s with heap:=s.heap.push { cls:=.type "dict",data:=.dict #[] } }:Shared).heap.objs.size=s.heap.objs.size+1 from Heap.size_push ..]
 exact wpAny_bind (by rw [List.forIn_nil];exact wpAny_pure (wpAny_pure h))
section
variable {X:Cx}{elt tg iter:Expr}{ifs:List Expr}{scope:Scope}{pos:Pos}{N':List Str}{L:Nat}{src:List Nat}{wi:TI}{g:TG}{tt:TT}{te:TE}
theorem w4 (hc:X.calm=true) (ck:yW X.env.scope X.N scope N' L src) {cl:List (Str×Addr)}{pins:List (Addr×Obj)}{s:Shared}{σ:St}{H:Hp}{Q:VK} (I:aj X pins σ H s)
 (hsub:∀x c,cl.lookup x=some c→X.env.cells.lookup x=some c) (hhas:∀y∈scope.names,y.2=.free→∃c,cl.lookup y.1=some c)
 (hi:PI X tg iter wi) (hg:∀cl C s H ex pn,PG (fC X scope cl C N' s H ex pn) tg g) (hif:∀cl C s H ex pn,wt (fC X scope cl C N' s H ex pn) ifs tt)
 (he:∀cl C s H ex pn,PE (fC X scope cl C N' s H ex pn) elt te) (h:zI wi L src g tt te σ H Q) {RR:Value→Addr→Result→Shared→Prop}
 (hRR:∀D C H' f s' m,aj X pins σ H' s'→s'.heap.Ns C m→oB X pins H' C→Q (.ref D) H'→RR (.ref D) C (.ok f) s') :
 wpAny (model X.prog X.w) X.A (eval iter X.env) (fun x s₁=>wpAny (model X.prog X.w) X.A (pyIter x) (fun it s₂=>wpAny (model X.prog X.w) X.A (newList []) (fun acc s₃=>
  wpAny (model X.prog X.w) X.A (newFunctionEnv scope X.env.globals cl [] X.env.qual none .none (some X.env)) (fun cenv s₄=>
   codeAny (model X.prog X.w) X.A (.compStart (.ListComp elt [⟨tg,iter,ifs,0⟩] scope pos) 0 it acc { cenv with scope:=relabel scope X.env }) (RR acc cenv.locals) s₄) X.xe s₃) X.xe s₂) X.xe s₁) X.xe s:=by
 refine aR (hi pins s σ H _ I h) fun v s1 h1=>aR h1 fun itv s2 h2=>?_
 obtain ⟨it,fp,tn,J,H2,e,I2,T,st2,f2,q⟩:=h2
 subst e
 refine wpAny_newObj_type (Jf ?_)
 dsimp only
 generalize hH2:s2.heap.push { cls:=.type "list",dict:=none,data:=.seq ([]:List Value).toArray }=hp2
 have hns₁:(pushCells (hp2.push { cls:=.type "dict",data:=.dict #[] }) scope.names).Ns hp2.objs.size fun _=>none:=(Heap.Ns.new hp2 (.type "dict")).keeps (pushCells_keeps _ _)
 have kp:∀b o,hp2.get? b=some o→(pushCells (hp2.push { cls:=.type "dict",data:=.dict #[] }) scope.names).get? b=some o:=fun b o e=>pushCells_keeps _ _ b o (Heap.get?_push_of_some _ e)
 have okc:=cellsFrom_ok scope.names (hp2.push { cls:=.type "dict",data:=.dict #[] }) (hp2.objs.size+1) [] ⟨fun _ _ hm=>(nomatch hm),List.Pairwise.nil⟩ (by rw [Heap.size_push];exact Nat.le_refl _)
 rw [Heap.size_push] at okc
 rw [xy]
 have ncell:∀x c,(cellsFrom (hp2.objs.size+1) scope.names []).lookup x=some c→(x,NameKind.cell)∈scope.names:=fun x c e=>(kh _ _ _ (PySem.mem_of_lookup e)).elim id (fun z=>by cases z)
 have nhas:∀x,(x,NameKind.cell)∈scope.names→∃c,(cellsFrom (hp2.objs.size+1) scope.names []).lookup x=some c:=fun x h=>mz _ _ _ h
 generalize pushCells (hp2.push { cls:=.type "dict",data:=.dict #[] }) scope.names=h₁ at hns₁ kp okc ⊢
 generalize cellsFrom (hp2.objs.size+1) scope.names []=nw at okc ncell nhas ⊢
 have hC:hp2.objs.size=s2.heap.objs.size+1:=by rw [←hH2,Heap.size_push]
 have hDC:s2.heap.objs.size≠hp2.objs.size:=by rw [hC];exact Nat.ne_of_lt (Nat.lt_succ_self _)
 have hCle:s2.heap.objs.size≤hp2.objs.size:=by rw [hC];exact Nat.le_succ _
 have below:∀b,b<s2.heap.objs.size→b≠hp2.objs.size∧b≠s2.heap.objs.size:=fun b hb=>⟨by rw [hC];exact Nat.ne_of_lt (Nat.lt_succ_of_lt hb),Nat.ne_of_lt hb⟩
 have old:∀b o,s2.heap.get? b=some o→h₁.get? b=some o:=fun b o e=>kp b o (hH2▸Heap.get?_push_of_some _ e)
 have hacc:h₁.get? s2.heap.objs.size=some { cls:=.type "list",dict:=none,data:=.seq ([]:List Value).toArray }:=kp _ _ (hH2▸Heap.get?_push_size _ rfl)
 have hDn:H2 s2.heap.objs.size=none:=I2.fresh
 obtain ⟨W,⟨m0,w0⟩,turn⟩:=q _ hDn
 have fpo:∀b∈fp,∃o,s2.heap.get? b=some o∧∀v,o.data≠.cell v:=T.obj _ _ st2
 have fplt:∀b∈fp,b<s2.heap.objs.size:=fun b hb=>by obtain ⟨o,e,_⟩:=fpo b hb;exact Heap.lt_size e
 have hfrs:∀b∈fp,b∉jZ X.stack:=fun b hb z=>by
  rcases List.mem_cons.mp (I2.stkSub b z) with z' | z'
  ·exact (f2 b hb).2.1 z'
  ·exact (f2 b hb).2.2.1 z'
 have spl:∀x c,(nw++cl).lookup x=some c→nw.lookup x=some c∨(nw.lookup x=none∧cl.lookup x=some c):=fun x c e=>by
  rw [List.lookup_append] at e
  cases q:nw.lookup x with
  | none=>rw [q] at e;exact .inr ⟨rfl,e⟩
  | some c'=>rw [q] at e;exact .inl e
 have nab:∀x c,nw.lookup x=some c→hp2.objs.size+1≤c:=fun x c e=>(okc.empty x c (PySem.mem_of_lookup e)).2
 have olt:∀x c,cl.lookup x=some c→c<s2.heap.objs.size:=fun x c e=>by
  obtain ⟨v,o,ho,_⟩:=I2.cell x c (hsub _ _ e)
  exact Heap.lt_size ho
 have n2o:∀x c y,nw.lookup x=some c→cl.lookup y=some c→False:=fun x c y e1 e2=>Nat.lt_irrefl c (Nat.lt_of_lt_of_le (olt y c e2) (Nat.le_trans hCle (Nat.le_of_succ_le (nab x c e1))))
 generalize hX:fC X scope (nw++cl) hp2.objs.size N' s2 H2 fp (X.pn++pins)=X'
 have ok':X'.Ok:=by
  subst hX
  refine ⟨I2.ok.mod,ck.kind,I2.ok.glob,I2.ok.blt,hCle,fun x y c e1 e2=>(spl x c e1).elim (fun g1=>(spl y c e2).elim (fun g2=>name_of_addr okc.apart (PySem.mem_of_lookup g1) (PySem.mem_of_lookup g2)) (fun g2=>(n2o x c y g1 g2.2).elim)) (fun g1=>(spl y c e2).elim (fun g2=>(n2o y c x g2 g1.2).elim) (fun g2=>I2.ok.inj x y c (hsub _ _ g1.2) (hsub _ _ g2.2))),fun x hx=>?_,fun x c z e=>?cab,I2.ok.hd,I2.ok.frames,.inl rfl,fun b hb=>⟨(below b (fplt b hb)).1,fun x c e=>(spl x c e).elim (fun g z=>Nat.lt_irrefl b (Nat.lt_of_lt_of_le (fplt b hb) (Nat.le_trans hCle (Nat.le_of_succ_le (z▸nab x c g))))) (fun g=>(f2 b hb).2.2.2.2.1 x c (hsub _ _ g.2))⟩,
   I2.bs,Nat.le_trans I2.ok.bsz I2.sz,fun b o e hb=>?_,hfrs,I2.stack,I2.stkFree⟩
  ·-- a name that is a cell or free
   have hx':(relabel scope X.env).names.lookup x=some .cell∨(relabel scope X.env).names.lookup x=some .free:=hx
   have key:∀(names:List (Str×NameKind)),
    ((names.map fun (n,k)=>if (k==NameKind.free && X.env.scope.kind==.function && X.env.kindOf n==some .cell) then (n,NameKind.cell) else (n,k)).lookup x=some .cell∨
     (names.map fun (n,k)=>if (k==NameKind.free && X.env.scope.kind==.function && X.env.kindOf n==some .cell) then (n,NameKind.cell) else (n,k)).lookup x=some .free)→∃y∈names,y.1=x∧(y.2=.free∨y.2=.cell):=by
    intro names
    induction names with
    | nil=>intro h;rcases h with h | h <;> simp at h
    | cons y r ih=>
     intro h
     obtain ⟨n,k⟩:=y
     by_cases hb:x=n
     ·subst hb
      refine ⟨(x,k),List.mem_cons_self,rfl,?_⟩
      by_cases hk:k=.free
      ·exact .inl hk
      ·have hkb:(k==NameKind.free)=false:=by simpa using hk
       right
       simp only [List.map_cons,hkb,Bool.false_and,Bool.false_eq_true,if_false,List.lookup_cons,beq_self_eq_true,if_true] at h
       rcases h with h | h
       ·exact Option.some.inj h
       ·exact absurd (Option.some.inj h) hk
     ·have hb':(x==n)=false:=by simpa using hb
      have h':((r.map fun (n,k)=>if (k==NameKind.free && X.env.scope.kind==.function && X.env.kindOf n==some .cell) then (n,NameKind.cell) else (n,k)).lookup x=some .cell∨
       (r.map fun (n,k)=>if (k==NameKind.free && X.env.scope.kind==.function && X.env.kindOf n==some .cell) then (n,NameKind.cell) else (n,k)).lookup x=some .free):=by
       rw [List.map_cons] at h
       dsimp only at h
       by_cases hcnd:(k==NameKind.free && X.env.scope.kind==.function && X.env.kindOf n==some .cell)=true
       ·rw [if_pos hcnd] at h
        simpa only [List.lookup_cons,hb'] using h
       ·rw [if_neg hcnd] at h
        simpa only [List.lookup_cons,hb'] using h
      obtain ⟨y,hy,e1,e2⟩:=ih h'
      exact ⟨y,List.mem_cons_of_mem _ hy,e1,e2⟩
   obtain ⟨y,hy,e1,e2⟩:=key scope.names hx'
   show ∃c,(nw++cl).lookup x=some c
   rw [List.lookup_append]
   cases q:nw.lookup x with
   | some c=>exact ⟨c,rfl⟩
   | none=>
    rcases e2 with e2 | e2
    ·obtain ⟨c,hc'⟩:=hhas y hy e2
     exact ⟨c,by rw [←e1,hc'];rfl⟩
    ·obtain ⟨c,hc'⟩:=nhas x (by obtain ⟨y1,y2⟩:=y;dsimp only at e1 e2;rw [←e1,←e2];exact hy)
     rw [q] at hc';cases hc'
  case cab=>
   have z':(scope.names.lookup x==some NameKind.cell)=true:=z
   obtain ⟨c',hc'⟩:=nhas x (PySem.mem_of_lookup (by simpa using z'))
   rcases spl x c e with g | g
   ·have:=nab x c g
    show s2.heap.objs.size≤c
    trivial
   ·rw [hc'] at g;cases g.1
  ·rcases (f2 b hb).2.2.2.1 with z | z
   ·exact I2.ok.noex b o e z
   ·exact absurd (Nat.lt_of_lt_of_le (Heap.lt_size e) (Nat.le_trans I2.ok.bsz z)) (Nat.lt_irrefl _)
 have stat:∀{H':Hp},(∀b∈fp,H' b=none)→∀b∈fp,oB X' [] H' b:=by
  subst hX
  intro H' hn b hb
  refine ⟨hn b hb,(below b (fplt b hb)).1,hfrs b hb,.inl hb,fun x c e=>(spl x c e).elim (fun g z=>Nat.lt_irrefl b (Nat.lt_of_lt_of_le (fplt b hb) (Nat.le_trans hCle (Nat.le_of_succ_le (z▸nab x c g))))) (fun g=>(f2 b hb).2.2.2.2.1 x c (hsub _ _ g.2)),fun p hp=>?_⟩
  have hp':p∈X.pn++pins:=by simpa [fC,yo] using hp
  exact (f2 b hb).2.2.2.2.2 p hp'
 have I1:aj X' [] (rT L src σ) (aJ H2 s2.heap.objs.size (.lst [])) { s2 with heap:=h₁,toks:=s2.toks }:=by
  subst hX
  have up:∀b o,H2 b=some o→aJ H2 s2.heap.objs.size (.lst []) b=some o:=fun b o e=>by rw [ax (aK e hDn)];exact e
  have upn:∀b,b<s2.heap.objs.size→H2 b=none→aJ H2 s2.heap.objs.size (.lst []) b=none:=fun b hb e=>by rw [ax (Nat.ne_of_lt hb)];exact e
  refine ⟨ok',rfl,I2.bare,Un.laid old (Nat.le_refl _) hDn,⟨_,hns₁,fun i x v e1 e2 e3=>?_⟩,fun x c e=>?_,?_,fun x c e=>?_,fun p hp=>?_,I2.hok.laid old (Nat.le_refl _) ⟨Nat.zero_le _,[],0,.nil,hacc⟩,?_⟩
  ·-- the names of the def around
   have hiL:L≤i:=by
    by_cases hlt:i<L
    ·exfalso
     unfold rT at e2
     rw [List.getElem?_append_left (by simpa using hlt),List.getElem?_replicate,if_pos hlt] at e2
     cases e2
    ·trivial
   have e2':(src.map fun j=>(σ[j]?).join)[i - L]?=some (some v):=by
    unfold rT at e2
    rw [List.getElem?_append_right (by simpa using hiL),List.length_replicate] at e2
    exact e2
   rw [List.getElem?_map] at e2'
   cases hj:src[i - L]? with
   | none=>rw [hj] at e2';cases e2'
   | some j=>
    rw [hj] at e2'
    have e3':(σ[j]?).join=some v:=Option.some.inj e2'
    have hσ:σ[j]?=some (some v):=by
     cases q:σ[j]? with
     | none=>rw [q] at e3';cases e3'
     | some o=>rw [q] at e3';exact congrArg some e3'
    obtain ⟨x',g1,g2,g3⟩:=ck.frees (i - L) j hj
    have:L+(i - L)=i:=by trivial
    rw [this] at g1
    have ex:x'=x:=Option.some.inj (g1.symm.trans e1)
    subst ex
    have hfree:=ck.free _ (PySem.mem_of_lookup g3) rfl
    obtain ⟨m,hn,hl⟩:=I2.loc
    obtain ⟨u,r,l⟩:=hl j x' v g2 hσ (hfree.elim (fun z=>.inr (.inl z)) fun z=>.inr (.inr z))
    refine ⟨u,r,.inr ⟨?_,?_⟩⟩
    ·-- its kind in the block
     have key:∀(names:List (Str×NameKind)),names.lookup x'=some .free→
      ((names.map fun (n,k)=>if (k==NameKind.free && X.env.scope.kind==.function && X.env.kindOf n==some .cell) then (n,NameKind.cell) else (n,k)).lookup x'=some .cell∨
       (names.map fun (n,k)=>if (k==NameKind.free && X.env.scope.kind==.function && X.env.kindOf n==some .cell) then (n,NameKind.cell) else (n,k)).lookup x'=some .free):=by
      intro names
      induction names with
      | nil=>intro h;simp at h
      | cons y r ih=>
       intro h
       obtain ⟨n,k⟩:=y
       by_cases hb:x'=n
       ·subst hb
        simp only [List.lookup_cons,beq_self_eq_true,if_true] at h
        have hk:k=.free:=Option.some.inj h
        subst hk
        rw [List.map_cons]
        dsimp only
        by_cases hcnd:(NameKind.free==NameKind.free && X.env.scope.kind==.function && X.env.kindOf x'==some .cell)=true
        ·rw [if_pos hcnd];left;simp [List.lookup_cons]
        ·rw [if_neg hcnd];right;simp [List.lookup_cons]
       ·have hb':(x'==n)=false:=by simpa using hb
        have h':=ih (by simpa only [List.lookup_cons,hb'] using h)
        rw [List.map_cons]
        dsimp only
        by_cases hcnd:(k==NameKind.free && X.env.scope.kind==.function && X.env.kindOf n==some .cell)=true
        ·rw [if_pos hcnd];simpa only [List.lookup_cons,hb'] using h'
        ·rw [if_neg hcnd];simpa only [List.lookup_cons,hb'] using h'
     exact key scope.names g3
    ·obtain ⟨c,hcl⟩:=hhas _ (PySem.mem_of_lookup g3) rfl
     have hcx:=hsub _ _ hcl
     rcases l with ⟨k1,_⟩ | ⟨_,c',e4,z⟩
     ·exfalso
      have k1':X.env.scope.names.lookup x'=some .local:=k1
      rcases hfree with z | z
      ·rw [z] at k1';cases k1'
      ·rw [z] at k1';cases k1'
     ·rw [hcx] at e4
      cases e4
      obtain ⟨o,ho,hd⟩:=z
      refine ⟨c,?_,o,old _ _ ho,hd⟩
      show (nw++cl).lookup x'=some c
      rw [List.lookup_append]
      cases q:nw.lookup x' with
      | none=>exact hcl
      | some c'=>
       exfalso
       have:=ck.cells _ (ncell _ _ q) rfl
       dsimp only at this
       rw [g3] at this;cases this
  ·rcases spl x c e with g | g
   ·exact ⟨none,(okc.empty x c (PySem.mem_of_lookup g)).1⟩
   ·obtain ⟨v,o,ho,hd⟩:=I2.cell x c (hsub _ _ g.2)
    exact ⟨v,o,old _ _ ho,hd⟩
  ·show aJ H2 s2.heap.objs.size (.lst []) hp2.objs.size=none
   rw [ax (Ne.symm hDC)]
   exact I2.hok.fresh hCle
  ·rcases spl x c e with g | g
   ·have:=nab x c g
    rw [ax (by intro z;rw [z] at this;trivial)]
    exact I2.hok.fresh (by trivial)
   ·obtain ⟨v,o,ho,hd⟩:=I2.cell x c (hsub _ _ g.2)
    exact upn c (Heap.lt_size ho) (I2.freeC x c (hsub _ _ g.2))
  ·have hp':p∈X.pn++pins:=by simpa [fC,yo] using hp
   obtain ⟨e,n,ne,nf,d⟩:=I2.pin p hp'
   have hlt:=Heap.lt_size e
   refine ⟨old _ _ e,upn _ hlt n,(below _ hlt).1,fun z=>?_,d⟩
   rcases List.mem_cons.mp (I2.stkSub _ z) with z' | z'
   ·exact ne z'
   ·exact nf z'
  ·show (rT L src σ).length=N'.length
   unfold rT
   rw [List.length_append,List.length_replicate,List.length_map,ck.len]
 have eA:X'.A=X.A:=by subst hX;rfl
 have eP:X'.prog=X.prog:=by subst hX;rfl
 have eW:X'.w=X.w:=by subst hX;rfl
 have eK:X'.K=X.K:=by subst hX;rfl
 have ec:X'.calm=true:=by subst hX;exact hc
 have exe:X'.xe=fun _ _=>False:=by subst hX;rfl
 have eE:X'.env=compEnvC scope (nw++cl) hp2.objs.size X.env:=by subst hX;rfl
 have hg':PG X' tg g:=by subst hX;exact hg _ _ _ _ _ _
 have hif':wt X' ifs tt:=by subst hX;exact hif _ _ _ _ _ _
 have he':PE X' elt te:=by subst hX;exact he _ _ _ _ _ _
 have aft:∀{H':Hp}{s':Shared},aj X' [] (rT L src σ) H' s'→aj X pins σ H' s'∧(∃m,s'.heap.Ns hp2.objs.size m)∧oB X pins H' hp2.objs.size:=by
  subst hX
  intro H' s' J
  refine ⟨I2.call' (ch:=fp) J.os J.base J.hok J.bare fun b hb=>⟨(f2 b hb).2.2.2.1,(f2 b hb).2.1,(f2 b hb).2.2.2.2.1,(f2 b hb).2.2.2.2.2⟩,?_,I2.fpOk hCle J.free⟩
  obtain ⟨m,hn,_⟩:=J.loc
  exact ⟨m,hn⟩
 have st1:tn 0 h₁:=T.keep _ _ _ st2 fun b hb o e=>old b o e
 have loop:∀s₃:Shared,s₃={ s2 with heap:=h₁,toks:=s2.toks }→
  codeAny (model X.prog X.w) X.A (.compLoop (.ListComp elt [⟨tg,iter,ifs,0⟩] scope pos) 0 (.ref it) (.ref s2.heap.objs.size) (compEnvC scope (nw++cl) hp2.objs.size X.env))
   (RR (.ref s2.heap.objs.size) hp2.objs.size) s₃:=by
  rintro s₃ rfl
  refine yj (fun n s'=>kZ fun i H' ys=>aj X' [] (rT L src σ) H' s'∧tn i s'.heap∧(∀b∈fp,H' b=none)∧W i n H' ys) ?_ m0
   ⟨0,_,[],I1,st1,fun b hb=>(by rw [ax (below b (fplt b hb)).2];exact (f2 b hb).1),w0⟩
  rintro n s3 ⟨i,H3,ys,I3,st3,fr3,w3⟩
  obtain ⟨hD,alt⟩:=turn i n H3 ys w3
  rcases alt with ⟨stop,qn⟩ | ⟨go,hlen,N,hN,step⟩
  ·have d:=T.done X' eP eW eK ec i [] s3 (rT L src σ) H3 (fun _ _=>False) I3 (stat fr3) st3 stop
   rw [eA] at d
   refine aR d fun r s4 ⟨hr,I4⟩=>?_
   subst hr
   obtain ⟨J,⟨m,hn⟩,fpC⟩:=aft I4
   exact hRR _ _ H3 .next s4 m J hn fpC qn
  ·have d:=T.item X' eP eW eK ec i [] s3 (rT L src σ) H3 (fun _ _=>False) I3 (stat fr3) st3 go
   rw [eA] at d
   refine aR d fun r s4 ⟨u,hr,h4⟩=>?_
   subst hr
   refine aR h4 fun _ s5 ⟨x,H5,I5,r5,y5,st5,fr5⟩=>?_
   have I5':=I5.pinned (stat fr5) (T.obj _ _ st5)
   have a1:=hg' _ s5 (rT L src σ) H5 x u _ I5' r5 (step x H5 y5)
   rw [eP,eW,eA,eE,exe] at a1
   refine aR a1 fun _ s6 ⟨σ6,H6,I6,bk,q6⟩=>?_
   have a2:=hif' _ s6 σ6 H6 _ I6 q6
   rw [eP,eW,eA,eE,exe] at a2
   refine aR a2 fun b s7 ⟨H7,I7,q7⟩=>?_
   have again:∀{H8:Hp}{s8:Shared}{ys':List V},aj X' ([]++sS fp s5.heap) σ6 H8 s8→N H8 ys'→∃m,m<n∧kZ fun i H' ys=>aj X' [] (rT L src σ) H' s8∧tn i s8.heap∧(∀b∈fp,H' b=none)∧W i m H' ys:=fun {H8 s8 ys'} I8 n8=>by
    obtain ⟨m',hm,w8⟩:=hN H8 ys' n8
    refine ⟨m',hm,i+1,H8,ys',(I8.unpinned).weak bk.1.symm bk.2,T.keep _ _ _ st5 fun b hb o e=>(I8.pin (b,o) (List.mem_append_right _ (List.mem_append_right _ (mW hb e)))).1,fun b hb=>?_,w8⟩
    obtain ⟨o,e,d⟩:=T.obj _ _ st5 b hb
    exact (I8.pin (b,o) (List.mem_append_right _ (List.mem_append_right _ (mW hb e)))).2.1
   cases b with
   | false=>
    rw [if_neg Bool.false_ne_true] at q7 ⊢
    exact again I7 q7
   | true=>
    rw [if_pos rfl] at q7 ⊢
    have a3:=he' _ s7 σ6 H7 _ I7 q7
    rw [eP,eW,eA,eE,exe] at a3
    refine aR a3 fun xv s8 ⟨y,H8,I8,r8,hD8,q8⟩=>?_
    have a4:=w9 (X:=X') _ s8 σ6 H8 (.ref s2.heap.objs.size) [y] (.ref s2.heap.objs.size) [xv] (fun _ H'=>H'=aJ H8 s2.heap.objs.size (.lst (ys++[y]))) I8 rfl (.cons r8 .nil) ⟨_,ys,y,rfl,rfl,hD8,hlen,rfl⟩
    rw [eP,eW,eA,exe] at a4
    refine aR a4 fun _ s9 ⟨_,H9,I9,_,e9⟩=>?_
    subst e9
    exact again I9 q8
 exact codeAny_compStart_list (loop _ rfl) (T.self _ 0 _ _ _ st1 (loop _ rfl))
theorem cI (hc:X.calm=true) (ck:qT X.env.scope X.N scope N' L src=true) (hi:PI X tg iter wi) (hg:∀cl C s H ex pn,PG (fC X scope cl C N' s H ex pn) tg g) (hif:∀cl C s H ex pn,wt (fC X scope cl C N' s H ex pn) ifs tt)
 (he:∀cl C s H ex pn,PE (fC X scope cl C N' s H ex pn) elt te) (hs:∀x,foldedSetIterable iter X.env x=pure x:=by intro _;rfl) :
 PE X (.ListComp elt [⟨tg,iter,ifs,0⟩] scope pos) (zI wi L src g tt te):=by
 intro pins s σ H Q I h
 have ck:=wa ck
 obtain ⟨cl,hclos,hsub,hhas⟩:=zk (scope:=scope) (env:=X.env) fun y hy e=>I.ok.has y.1 (ck.free y hy e)
 rw [eval_ListComp]
 refine wpAny_comprehension_free (use:=none) rfl hs hclos ck.kind ck.loc (w4 hc ck I hsub hhas hi hg hif he h (RR:=fun acc C=>compPost (model X.prog X.w) X.A X.xe none (EP X pins σ Q) acc C) ?_)
 intro D C H' f s' m J hn fpC q
 refine ⟨m,hn,fun h' hsb=>⟨.ref D,H',?_,rfl,q⟩⟩
 obtain ⟨f0,f1,f2,f3,f4,f5⟩:=fpC
 exact J.turned (t':=s'.toks) (fun b o hb e=>(hsb.2 b hb).trans e) f0 f1 f3 f4 f5
theorem dI {j:Nat}{y:Str}{py spos:Pos} (hN:X.N.Nodup) (hj:X.N[j]?=some y) (hy:X.env.scope.names.lookup y=some .local) (hsw:swapsWith (.ListComp elt [⟨tg,iter,ifs,0⟩] scope pos) (some (.Name y py)) spos.line X.env=pure true)
 (hc:X.calm=true) (ck:qT X.env.scope X.N scope N' L src=true) (hi:PI X tg iter wi) (hg:∀cl C s H ex pn,PG (fC X scope cl C N' s H ex pn) tg g) (hif:∀cl C s H ex pn,wt (fC X scope cl C N' s H ex pn) ifs tt)
 (he:∀cl C s H ex pn,PE (fC X scope cl C N' s H ex pn) elt te) (hs:∀x,foldedSetIterable iter X.env x=pure x:=by intro _;rfl) :
 PS X (.Assign [.Name y py] (.ListComp elt [⟨tg,iter,ifs,0⟩] scope pos) spos) (yz (zI wi L src g tt te) (oO j)):=by
 intro pins s σ H D I h
 have ck:=wa ck
 obtain ⟨cl,hclos,hsub,hhas⟩:=zk (scope:=scope) (env:=X.env) fun y hy e=>I.ok.has y.1 (ck.free y hy e)
 rw [exec_Assign_Name_used _ _ _ _ hsw]
 refine wpAny_bind (wpAny_standAt (wpAny_bind ?_))
 show wpAny _ X.A (do let _ ←comprehension (.ListComp elt [⟨tg,iter,ifs,0⟩] scope pos) scope X.env _ (newList []) false (eval iter X.env) (some (assign (.Name y py) X.env))) _ _ s
 refine wpAny_bind (wpAny_mono (wpAny_comprehension_free (use:=some (assign (.Name y py) X.env)) (Q:=fun _ s'=>SP X pins D .next s') rfl hs hclos ck.kind ck.loc
  (w4 hc ck I hsub hhas hi hg hif he h (RR:=fun acc C=>compPost (model X.prog X.w) X.A X.xe (some (assign (.Name y py) X.env)) (fun _ s'=>SP X pins D .next s') acc C) ?_)) (fun _ s' hq=>wpAny_pure (wpAny_pure hq)) fun _ _ e=>e)
 intro L' C H' f s' m J hn fpC q
 show wpAny _ X.A (assign (.Name y py) X.env (.ref L')) _ _ _
 refine wpAny_assign_Name (wW J hN hj (.inl hy) (v:=.ref L') rfl (fun s2 J2 hsb=>?_) (.inr hy))
 obtain ⟨f0,f1,f2,f3,f4,f5⟩:=fpC
 obtain ⟨a,hsb,ha⟩:=hsb
 have hCa:C≠a:=by
  rcases ha with rfl | ha
  ·exact f1
  ·exact fun z=>f4 _ _ ha z.symm
 refine ⟨m,hn.sameBut hsb hCa,fun h' hsb'=>⟨_,H',?_,q⟩⟩
 exact J2.turned (t':=s2.toks) (fun b o hb e=>(hsb'.2 b hb).trans e) f0 f1 f3 f4 f5
end
end L2
namespace HT
open PySem PySem.Spec PyProof.Rows
section
variable {prog:Program}{w:World}{A:Around}{E:Value→Shared→Prop}{s:Shared}
end
end HT
namespace L2
open PySem PySem.Spec PyProof.Rows
section
variable {X:Cx}{K:PySem.W.Frag}
end
section
variable {X:Cx}{e:Expr}{te:TE}{st:Expr}{ts:TO}{p2 pos:Pos}
end
def Jy (H H':Hp):Prop:=∀a us,H a=some (.tup us)→H' a=some (.tup us)
section
variable {H H' H'':Hp}{z n k m:Nat}{v:V}{E:Addr→Prop}{b th th' p:Addr}{xs ys zs:List V}
end
section
variable {E:Addr→Prop}{z:Nat}{H0:Hp}{σ:St}{n k m:Nat}{te tb:TE}{ta:TA}{v:V}{i:Nat}{p:Addr}{xs:List V}{K:PySem.W.Frag}
end
section
variable {b th:Addr}{H0:Hp}{σ:St}{zs:List V}{ta:TA}{te:TE}{n i:Nat}{Q:VK}{K:PySem.W.Frag}
end
theorem cJ {te:TE}{i:Nat}{u:TS}{D:fV}{σ:St}{H:Hp} (h:∀Q:VK,(∀v H',u D (σ.set i (some v)) H'→Q v H')→te σ H Q):ko (yz te (oO i)) u D σ H:=h _ fun _ _ z=>z
theorem BK {ta:TA}{i j:Nat}{u:TS}{D:fV}{σ:St}{H:Hp} (h:∀Q:List V→Hp→Prop,(∀v w H',u D ((σ.set i (some v)).set j (some w)) H'→Q [v,w] H')→ta σ H Q):ko (Hj i j ta) u D σ H:=h _ fun _ _ _ z=>⟨_,(),z⟩
theorem zK {te:TE}{D:fV}{σ:St}{H:Hp} (h:∀Q:VK,(∀v H',D.rt v H'→Q v H')→te σ H Q):Gp te D σ H:=h _ fun _ _ z=>z
theorem fA {α:Type}{P:List α→Prop} (h:∀a,P [a]):∀us:List α,us.length=1→P us:=fun us hl=>by
 cases us with
 | nil=>cases hl
 | cons a r=>cases r with
  | nil=>exact h a
  | cons b r=>simp at hl
theorem dy {α:Type}{P:List α→Prop} (h:∀a b,P [a,b]):∀us:List α,us.length=2→P us:=fun us hl=>by
 cases us with
 | nil=>cases hl
 | cons a r=>exact fA (P:=fun r=>P (a :: r)) (fun b=>h a b) r (by simpa using hl)
theorem jS {α:Type}{P:List α→Prop} (h:∀a b c,P [a,b,c]):∀us:List α,us.length=3→P us:=fun us hl=>by
 cases us with
 | nil=>cases hl
 | cons a r=>exact dy (P:=fun r=>P (a :: r)) (fun b c=>h a b c) r (by simpa using hl)
theorem wu {α:Type}{P:List α→Prop} (h:∀a b c d,P [a,b,c,d]):∀us:List α,us.length=4→P us:=fun us hl=>by
 cases us with
 | nil=>cases hl
 | cons a r=>exact jS (P:=fun r=>P (a :: r)) (fun b c d=>h a b c d) r (by simpa using hl)
section
variable {X:Cx}{a:Expr}{ta:TA}{p p2 pos pos2:Pos}
end
section
variable {prog:Program}{w:World}{A:Around}{E:Value→Shared→Prop}{s:Shared}
variable {z TI TO i1 i2 l1 l2 T:Addr}{k:Nat}{xs ys:Array Value}{bb:Bool}{c1 c2:Bool}{oT:Obj}
end
section
variable {prog:Program}{w:World}{A:Around}{E:Value→Shared→Prop}{R:Result→Shared→Prop}
variable {z TI TO i1 i2 l1 l2 d:Addr}{xs ys:Array Value}{c1 c2:Bool}{ks:List j5}
end
section
variable {X:Cx}{K:PySem.W.Frag}{a b:Expr}{ta:TA}{p1 p2 p3 p4:Pos}
end
section
variable {X:Cx}
end
section
variable {prog:Program}{w:World}{A:Around}{E:Value→Shared→Prop}{s:Shared}
variable {n l1 l2 l3 T:Nat}{k:Nat}{xs ys zs:Array Value}{bb:Bool}{oT:Obj}
end
section
variable {prog:Program}{w:World}{A:Around}{E:Value→Shared→Prop}{s:Shared}
variable {n l1 l2 l3:Nat}{k:Nat}{xs ys zs:Array Value}
end
section
variable {prog:Program}{w:World}{A:Around}{E:Value→Shared→Prop}{R:Result→Shared→Prop}
variable {n l1 l2 l3:Nat}{xs ys zs:Array Value}
end
section
variable {prog:Program}{w:World}{A:Around}{E:Value→Shared→Prop}{s:Shared}
end
section
variable {X:Cx}{pins:List (Addr×Obj)}{σ:St}{H:Hp}{s:Shared}{h':Heap}
end
section
variable {X:Cx}{K:PySem.W.Frag}{a b c:Expr}{ta:TA}{p1 p2 p3 p4:Pos}
end
section
variable {prog:Program}{w:World}{A:Around}{E:Value→Shared→Prop}{s:Shared}
end
section
variable {prog:Program}{w:World}{A:Around}{E:Value→Shared→Prop}{R:Result→Shared→Prop}
variable {l it d:Nat}{vs:Array Value}{ks:List j5}{us:List Value}
end
section
variable {X:Cx}
end
section
variable {X:Cx}
inductive GH (x:V) (vs:List V) (H:Hp) (Q:VK):Prop
 | mk (l:_) (b:_) (xs:_) (zs:_) (h0:x=.ref l) (h1:vs=[.ref b]) (h2:H l=some (.lst xs)) (h3:H b=some (.lst zs)) (h4:xs.length+zs.length≤10000) (h5:∀H',Ch H l (xs++zs) H'→Q .non H')
def Ii:V→List V→Hp→VK→Prop:=fun x vs H Q=>GH  x vs H Q
theorem Ax:zm X "list.extend" Ii:=fun pins s σ H x vs v us Q I rx rv ⟨l,b,xs,zs,e1,e2,h,h',hz,q⟩=>AT pins s σ H x vs v us Q I rx rv ⟨l,b,xs,zs,e1,e2,h,h',(by rw [sizeLine_eq];trivial),q _ .mk'⟩
end
theorem Hd {α:Type}{P:List α→Prop} (h:∀a b c d e,P [a,b,c,d,e]):∀us:List α,us.length=5→P us:=fun us hl=>by
 cases us with
 | nil=>cases hl
 | cons a r=>exact wu (P:=fun r=>P (a :: r)) (fun b c d e=>h a b c d e) r (by simpa using hl)
end L2
namespace L2
open PySem PySem.Spec PyProof.Rows
section
variable {X:Cx}
structure Gj (H:Hp) (p:Addr) (o:HO) (H':Hp):Prop where
 at':H' p=some o
 ol:∀a u,a≠p→H a=some u→H' a=some u
 fre:∀a,a≠p→H a=none→H' a=none
theorem Gj.mk' {H:Hp}{p:Addr}{o:HO}:Gj H p o (aJ H p o):=⟨av,fun a u n h=>by rw [ax n];exact h,fun a n h=>by rw [ax n];exact h⟩
end
section
variable {prog:Program}{w:World}{A:Around}{R:Result→Shared→Prop}{s:Shared}
end
section
variable {X:Cx}{kx vx tg iter:Expr}{ifs:List Expr}{scope:Scope}{pos:Pos}{N':List Str}{L:Nat}{src:List Nat}{wi:TI}{g:TG}{tt:TT}{tk tv:TE}
end
end L2
namespace KM
variable {ls:List (List Nat)}{es done:List Edge}{W u:List Nat→Rat}{S:List (List Nat)}{q:List Nat}{m:Rat}
end KM
namespace L2
open PySem PySem.Spec PyProof.Rows
section
variable {z:Nat}{E:Addr→Prop}{H H':Hp}{n m k:Nat}{v:V}{xs ys:List V}
end
section
variable {X:Cx}{K:PySem.W.Frag}
end
section
variable {X:Cx}
inductive FK (x:V) (vs:List V) (H:Hp) (Q:VK):Prop
 | mk (l:_) (xs:_) (y:_) (h0:x=.ref l) (h1:vs=[]) (h2:H l=some (.lst (xs++[y]))) (h3:∀H',Ch H l xs H'→Q y H')
def Hv:V→List V→Hp→VK→Prop:=fun x vs H Q=>FK  x vs H Q
theorem tY:zm X "list.pop" Hv:=fun pins s σ H x vs v us Q I rx rv ⟨l,xs,y,e1,e2,h,q⟩=>G9 pins s σ H x vs v us Q I rx rv ⟨l,xs++[y],y,e1,e2,h,by simp,by
 rw [List.dropLast_concat];exact q _ .mk'⟩
end
end L2
namespace L2
open PySem
end L2
namespace L2
open PySem PySem.Spec PyProof.Rows
section
variable {prog:Program}{w:World}{A:Around}{E:Value→Shared→Prop}{hp:Heap}{gs:Array GenState}{dr:Drawn}{tk:Nat}{os:OsState}
variable {nm qn:Str}{C N:Addr}{bs bm bB:List Value}{hd:Bool}{sn:List Str}{sb:List Value}{ab:Bool}{cl:Option Bool}{dd:Option Addr}{k0 k1 k2 k3 k5:Option Value}{B nw ni:String}
theorem Al (FB:ExcBaseFacts B nw ni bB) (T:OwnTail hp bB bm) {mN:Str→Option Value}{us:List Value}{fI:Addr}{oI:Obj}{R:Fin→Shared→Prop}
 (eC:hp.get? C=some (excClassObj nm qn C N bs bm hd sn sb ab cl dd k0 k1 k2 k3 k5 nw)) (eN:hp.Ns N mN) (eI:mN "__init__" = some (.ref fI)) (ef:hp.get? fI=some oI) (ec:oI.cls=.type "function") (lu:us.length≤sizeLine)
 (go:∀h1 x,Heap.MadeExcOf hp h1 x (.ref C) us→wpAny (model prog w) A (call (.ref fI) (.ref x :: us)) (fun r s1=>r=.none∧R (.done (.ret (.ref x))) s1) E ⟨h1,gs,dr,tk,os⟩) :
 wpAny (model prog w) A (Builtin.«type.__call__» ⟨.ref C :: us,[]⟩) R E ⟨hp,gs,dr,tk,os⟩:=by
 repeat (first | with_reducible refine wpAny_madeBy_exc eC ?_ | with_reducible refine wpAny_loadPart_at eC ?_ | wp_step)
 refine codeAny_call_builtin_code (Code.quiet_builtin _ FB.quiet) (wpAny_check_new_subT FB T eC ?_)
 refine codeAny_exc_new_subT FB T eC ?_ lu
 show wpAny _ _ _ _ _ _
 have up:∀b o,hp.get? b=some o→((hp.push { cls:=.type "tuple",data:=.seq us.toArray }).push { cls:=.ref C,data:=.fields #[.ref hp.objs.size,.none,.none,.none,.bool false,.none] }).get? b=some o:=fun b o e=>Heap.get?_push_of_some _ (Heap.get?_push_of_some _ e)
 have at1:((hp.push { cls:=.type "tuple",data:=.seq us.toArray }).push { cls:=.ref C,data:=.fields #[.ref hp.objs.size,.none,.none,.none,.bool false,.none] }).get? (hp.objs.size+1)=some { cls:=.ref C,data:=.fields #[.ref hp.objs.size,.none,.none,.none,.bool false,.none] }:=by heap_get
 have me:Heap.MadeExcOf hp ((hp.push { cls:=.type "tuple",data:=.seq us.toArray }).push { cls:=.ref C,data:=.fields #[.ref hp.objs.size,.none,.none,.none,.bool false,.none] }) (hp.objs.size+1) (.ref C) us:=
  ⟨up,Heap.get?_none_of_le (Nat.le_succ _),hp.objs.size,at1,Heap.get?_none_of_le (Nat.le_refl _),Heap.get?_push_of_some _ (Heap.get?_push_at rfl rfl)⟩
 have cc:(Value.ref C :: bm).contains (.ref C)=true:=by simp
 have f1:=up _ _ ef
 unfold isInstance
 repeat (first | with_reducible refine wpAny_loadPart_at at1 ?_ | (with_reducible refine wpAny_isSubtype_exc (up _ _ eC) ?_;rw [cc]) | wp_step)
 show wpAny _ _ (typeLookup (.ref C) _) _ _ _
 refine wpAny_typeLookup_tail (up _ _ eC) (eN.keeps up) (T.keeps up) FB.mroIs FB.init.lookup ?_
 rw [eI]
 refine wpAny_holding (wpAny_bind ?_)
 unfold bindSpecial
 refine wpAny_bind (wpAny_typeOf (T := "function") ⟨_,f1,ec⟩ ?_)
 rw [if_pos (by decide)]
 refine wpAny_pure (wpAny_bind (wpAny_mono (go _ _ me) (fun r s1 hr=>?_) fun _ _ z=>z))
 obtain ⟨rfl,hR⟩:=hr
 wp_walk
 exact hR
theorem AX (FB:ExcBaseFacts B nw ni bB) (T:OwnTail hp bB bm) {mN:Str→Option Value}{us:List Value}{fI:Addr}{oI:Obj}{R:Value→Shared→Prop}
 (eC:hp.get? C=some (excClassObj nm qn C N bs bm hd sn sb ab cl dd k0 k1 k2 k3 k5 nw)) (eN:hp.Ns N mN) (eI:mN "__init__" = some (.ref fI)) (ef:hp.get? fI=some oI) (ec:oI.cls=.type "function") (lu:us.length≤sizeLine)
 (go:∀h1 x,Heap.MadeExcOf hp h1 x (.ref C) us→wpAny (model prog w) (A.under (.builtin "type.__call__" ⟨.ref C :: us,[]⟩)) (call (.ref fI) (.ref x :: us)) (fun r s1=>r=.none∧R (.ref x) s1) E ⟨h1,gs,dr,tk,os⟩) :
 wpAny (model prog w) A (call (.ref C) us) R E ⟨hp,gs,dr,tk,os⟩:=by
 have l1:=tc_lookup
 have l2:=tc_bind (.ref C)
 have ty:(⟨hp,gs,dr,tk,os⟩:Shared).TypeIs (.ref C) "type" := ⟨_,eC,rfl⟩
 refine wpAny_call (codeAny_of_tree ?_)
 show wpAny _ _ (callAny (.ref C) _) _ _ _
 repeat (any_goals (first | assumption | with_reducible refine wpAny_loadPart_at eC ?_ | wp_step))
 exact ⟨rfl,codeAny_call_builtin_at (Code.quiet_builtin _ (by nofun)) entry_typeCall (wpAny_check_type_call_sub eC (Al FB T eC eN eI ef ec lu fun h1 x m=>go h1 x m))⟩
end
end L2
namespace L2
open PySem PySem.Spec PyProof.Rows PySem.W
section
variable {prog:Program}{w:World}{A:Around}{E:Value→Shared→Prop}{s:Shared}{K:Frag}{x C:Addr}{ox:Obj}{od:Option Obj}{name:Str}{fill expr:Bool}
end
end L2
namespace L2
open PySem PySem.Spec PyProof.Rows PySem.W PySem.Builtin.ObjectAttr
section
variable {prog:Program}{w:World}{A:Around}{E:Value→Shared→Prop}{s:Shared}{K:Frag}{x C:Addr}{ox:Obj}{name:Str}{v:Value}
end
theorem EW {d:Data}{cd:ClassData} (h:Cr d=some cd):d=.cls cd:=by
 cases d with
 | cls c=>cases h;rfl
 | _=>cases h
theorem Jw {α:Type}{ls:List α} (h:ls.length=6):vI fun a b c d e f=>ls=[a,b,c,d,e,f]:=by
 match ls,h with
 | [a,b,c,d,e,f],_=>exact ⟨a,b,c,d,e,f,rfl⟩
theorem JC {α:Type}{sl:Array α}{x:α} (h:sl.size=6) (k:sl[4]?=some x):xM fun a b c d f=>sl=#[a,b,c,d,x,f]:=by
 obtain ⟨l⟩:=sl
 obtain ⟨a,b,c,d,e,f,rfl⟩:=Jw (show l.length=6 from h)
 obtain rfl:e=x:=Option.some.inj k
 exact ⟨a,b,c,d,f,rfl⟩
theorem F6 {K:Frag}{h:Heap}{N:Addr}{mp:Str→Option Value}{n:Str}{v:Value} (X:K.In h) (G:h.Ns N mp) (e:nsIn K N n=some (some v)):mp n=some v:=by
 obtain ⟨ob,es,ep,ho,hd,_,f⟩:=G
 unfold nsIn at e
 split at e
 ·rename_i q
  have z:=X _ _ q
  rw [ho] at z
  cases z
  cases hd
  split at e
  ·rename_i he
   cases e
   rw [←f]
   unfold nsFind findBy
   rw [←Array.find?_toList,he];rfl
  ·split at e <;> cases e
 ·cases e
theorem zL {K:Frag}{h:Heap}{C:Addr}{ini:Option Value} (X:K.In h) (q:eU K C ini=true):∃nm qn N bs bm hd sn sb ab cl dd k0 k1 k2 k3 k5 mN,
 h.get? C=some (excClassObj nm qn C N bs bm hd sn sb ab cl dd k0 k1 k2 k3 k5 "ValueError.__new__")∧h.Ns N mN∧OwnTail h Dr bm∧mN "__init__" = ini:=by
 unfold eU at q
 cases ho:K.lookup C with
 | none=>rw [ho] at q;cases q
 | some o=>
  rw [ho] at q
  dsimp only at q
  cases hc:Cr o.data with
  | none=>rw [hc] at q;cases q
  | some cd=>
   rw [hc] at q
   dsimp only at q
   rw [Bool.and_eq_true,Bool.and_eq_true,Bool.and_eq_true,Bool.and_eq_true,Bool.and_eq_true,Bool.and_eq_true,Bool.and_eq_true,beq_iff_eq,beq_iff_eq,beq_iff_eq,beq_iff_eq,beq_iff_eq,Bool.not_eq_true'] at q
   obtain ⟨q1,q2,dl,tl,ok,hi,z1,z2⟩:=q
   obtain ⟨k0,k1,k2,k3,k5,e6⟩:=JC z1 z2
   have ed:=EW hc
   obtain ⟨oc,dd,od,sl⟩:=o
   dsimp only at q1 ed e6
   subst q1 ed e6
   obtain ⟨nm,bs,mro,ns,qn,hd,sn,sub,ab,col,del⟩:=cd
   dsimp only at q2 dl tl ok hi
   subst dl
   cases mro with
   | nil=>cases q2
   | cons m bm=>
    obtain rfl:m=.ref C:=Option.some.inj q2
    have nm1:h.Ns ns (h.nsMap ns):=.of_isNs (isNs_of_in X ok)
    refine ⟨nm,qn,ns,bs,bm,hd,sn,sub,ab,col,dd,k0,k1,k2,k3,k5,_,X _ _ ho,nm1,tail_of_in X tl,?_⟩
    cases ini with
    | none=>exact nsMap_none_of_in X ok hi
    | some v=>exact F6 X nm1 hi
section
variable {prog:Program}{w:World}{A:Around}{E:Value→Shared→Prop}{s:Shared}{K:Frag}{x C:Addr}{ox:Obj}{od:Option Obj}{a0:Value}
end
end L2
namespace L2
open PySem PySem.Spec PyProof.Rows
theorem b6.there {P:Program}{w:World}{H:Hp}{h:Heap}{a:Addr}{o:HO} (x:b6 P w H h a o):∃u,h.get? a=some u:=by
 cases o with
 | lst xs=>obtain ⟨_,_,_,_,e⟩:=x;exact ⟨_,e⟩
 | tup xs=>obtain ⟨_,_,_,⟨_,e,_⟩,_⟩:=x;exact ⟨_,e⟩
 | dK kvs=>obtain ⟨_,_,_,_,o,_,_,e,_⟩:=x;exact ⟨_,e⟩
 | dT kvs=>obtain ⟨_,_,_,_,o,_,_,e,_⟩:=x;exact ⟨_,e⟩
 | set S n=>obtain ⟨o,_,_,_,e,_⟩:=x;exact ⟨_,e⟩
 | ins C dx fs=>obtain ⟨_,_,_,e,_⟩:=x;exact ⟨_,e⟩
 | own y=>obtain ⟨_,e⟩:=x;exact ⟨_,e⟩
 | xd fs=>obtain ⟨_,⟨_,_,_,e,_⟩,_⟩:=x;exact ⟨_,e⟩
 | rng lo hi=>obtain ⟨_,_,_,e⟩:=x;exact ⟨_,e⟩
 | frz ob u=>obtain ⟨e,_⟩:=x;exact ⟨_,e⟩
 | tbl ps=>exact ⟨_,show h.get? a=some _ from x⟩
 | met f y=>exact ⟨_,show h.get? a=some _ from x⟩
 | ext φ=>obtain ⟨_,e,_⟩:=x;exact e
theorem eS.none' {P:Program}{w:World}{H:Hp}{h:Heap}{a:Addr} (x:eS P w H h) (e:h.get? a=none):H a=none:=by
 cases q:H a with
 | none=>rfl
 | some u=>obtain ⟨o,z⟩:=(x a u q).there;rw [e] at z;cases z
section
variable {X:Cx}{pins:List (Addr×Obj)}{σ:St}{H:Hp}{s:Shared}{h':Heap}
theorem aj.laidN {a:Addr}{o:HO}{t':Nat} (I:aj X pins σ H s) (k:∀b u,s.heap.get? b=some u→h'.get? b=some u) (hn:s.heap.get? a=none) (new:b6 X.prog X.w (aJ H a o) h' a o) :
 aj X pins σ (aJ H a o) { s with heap:=h',toks:=t' }:=by
 have hH:=I.hok.none' hn
 have ne:∀{b:Addr}{u:HO},H b=some u→b≠a:=fun q z=>by rw [z,hH] at q;cases q
 refine I.un ⟨fun b u q _ _ _=>k b u q,fun b u q _ _ _=>⟨u.slots,k b u q⟩,fun b u q n _=>?_,fun b u q _=>⟨u,k b u q⟩,fun b xs q=>?_,fun b u xs q=>?_,fun b ps q=>⟨#[],?_⟩⟩ fun b u e=>?_
 ·rw [ax (fun z=>by rw [z,hn] at q;cases q)];exact n
 ·rw [ax (ne q)];exact q
 ·rw [ax (ne q)];exact q
 ·rw [ax (ne q),q];simp
 ·by_cases hb:b=a
  ·subst hb;rw [av] at e;cases e;exact new
  ·rw [ax hb] at e
   exact (I.hok b u e).stay (fun c v _ q=>k c v q) (fun c q=>by rw [ax (ne q)];exact q) fun c xs q=>by rw [ax (ne q)];exact q
end
def CN (x C:Addr) (dx:Option Addr) (h:Heap):Prop:=bX fun a0 sl=>h.get? x=some ⟨.ref C,dx,.fields #[a0,.none,.none,.none,.bool false,.none],sl⟩
def lJ (x C:Addr) (dx:Option Addr):HO:=.ext (CN x C dx)
theorem y9 {P:Program}{w:World}{H:Hp}{h:Heap}{x C:Addr}{dx:Option Addr} (e:CN x C dx h):b6 P w H h x (lJ x C dx):=
 ⟨e,let ⟨_,_,q⟩:=e;⟨_,q⟩,fun h1 h2 ⟨a0,sl,q⟩ k=>⟨a0,sl,k _ q⟩⟩
theorem zu {P:Program}{w:World}{H:Hp}{h:Heap}{x C:Addr}{dx:Option Addr} (ok:eS P w H h) (e:H x=some (lJ x C dx)):CN x C dx h:=(ok x _ e).1
section
variable {X:Cx}{C f:Addr}{x:Str}{p pos:Pos}{e:Expr}{es:List Expr}{t:TA}{k:Nat}{fd:FuncData}{ps:List Str}{sp:Sp}{E:XK}
def Ih (C:Addr) (t:TA):TE:=fun σ H Q=>t σ H fun vs H1=>vs.length≤10000∧∀y H',Nw H1 y (lJ y C none) H'→Q (.ref y) H'
theorem BS {pins:List (Addr×Obj)}{σ:St}{H:Hp}{s:Shared}{Q:VK}{us:List Value}{vs:List V} (q:eU X.K C none=true) (I:aj X pins σ H s) (r:aE vs us) (hl:vs.length≤10000)
 (h:∀y H',Nw H y (lJ y C none) H'→Q (.ref y) H'):wpAny (model X.prog X.w) X.A (call (.ref C) us) (EP X pins σ Q) X.xe s:=by
 obtain ⟨nm,qn,N,bs,bm,hd,sn,sb,ab,cl,dd,k0,k1,k2,k3,k5,mN,eC,eN,T,eI⟩:=zL I.kIn q
 have FB:=PySem.F.excBase_ValueError
 obtain ⟨hp,gs,dr,tk,os⟩:=s
 refine wpAny_call_exc_subT FB T eC eN eI (fun h1 y m=>?_) (by rw [←r.length];exact gb hl)
 obtain ⟨a0,e1,_,_⟩:=m.there
 exact ⟨.ref y,_,I.laidN (t':=tk) m.keeps m.new (y9 ⟨_,_,e1⟩),rfl,h y _ (.mk' (I.hok.none' m.new))⟩
theorem j0 (q:eU X.K C none=true) (kp:PySem.W.keepIn X.K (.ref C)=true) (hg:Gl X x) (hm:X.mg x=some (.ref C)) (ha:PA X (e :: es) t) (hdb:(x==("__debug__" : Str))=false:=by decide)
 (he:starEach (e :: es) X.env=(false,eval e X.env) :: starEach es X.env:=by rfl) (hpl:(backTo pos (starEach es X.env)).any (·.1)=false:=by rfl):PE X (.Call (.Name x p) (e :: es) [] pos) (Ih C t):=by
 intro pins s σ H Q I h
 refine wpAny_Call_Name_kw (qe I hg hm ?_ hdb)
 exact PySem.W.callWith_K (h₀:=X.base) I.ok.mod.kin kp (aR (ha pos pins s σ H _ I h) fun us s1 ⟨vs,H1,I1,r,hl,q1⟩=>⟨I1.kIn,BS q I1 r hl q1⟩) he hpl
def Iu (C:Addr) (sp:Sp) (t:TA):TE:=fun σ H Q=>t σ H fun vs H1=>vs.length≤10000∧∀y H',Nw H1 y (lJ y C none) H'→sp (.ref y :: vs) H' (fun v H2=>v=.non∧Q (.ref y) H2) E0
theorem Gd {K:PySem.W.Frag}{h:Heap}{f:Addr} (KX:K.In h) (q:PySem.W.isFn K (.ref f)=true):∃o,h.get? f=some o∧o.cls=.type "function" := by
 unfold PySem.W.isFn at q
 rw [beq_iff_eq] at q
 unfold PySem.W.typeIn at q
 obtain ⟨o,e,z⟩:=Option.map_eq_some_iff.mp q
 exact ⟨o,KX _ _ e,z⟩
theorem Cp {pins:List (Addr×Obj)}{σ:St}{H:Hp}{s:Shared}{Q:VK}{us:List Value}{vs:List V} (q:eU X.K C (some (.ref f))=true) (fn:PySem.W.isFn X.K (.ref f)=true) (F:aD X.prog X.w X.K X.mg X.base CX0 k f fd ps sp) (hr:cL (k+1) X.A) (hb:bj X.K fd ps [])
 (I:aj X pins σ H s) (r:aE vs us) (hl:vs.length≤10000) (h:∀y H',Nw H y (lJ y C none) H'→sp (.ref y :: vs) H' (fun v H2=>v=.non∧Q (.ref y) H2) E0):wpAny (model X.prog X.w) X.A (call (.ref C) us) (EP X pins σ Q) X.xe s:=by
 obtain ⟨nm,qn,N,bs,bm,hd,sn,sb,ab,cl,dd,k0,k1,k2,k3,k5,mN,eC,eN,T,eI⟩:=zL I.kIn q
 obtain ⟨oI,ef,ec⟩:=Gd I.kIn fn
 have FB:=PySem.F.excBase_ValueError
 obtain ⟨hp,gs,dr,tk,os⟩:=s
 refine AX FB T eC eN eI ef ec (by rw [←r.length];exact gb hl) fun h1 y m=>?_
 obtain ⟨a0,e1,_,_⟩:=m.there
 have I2:=I.laidN (t':=tk) m.keeps m.new (y9 (H:=aJ H y (lJ y C none)) ⟨_,_,e1⟩)
 have hq:=h y _ (.mk' (I.hok.none' m.new))
 have r2:aE (V.ref y :: vs) (Value.ref y :: us):=.cons rfl r
 have ln:(Value.ref y :: us).length=ps.length:=by rw [←r2.length];exact F.len _ _ _ _ hq
 have hbb:=hb _ (Value.ref y :: us) I2.kIn (by rw [List.append_nil];exact ln)
 rw [List.append_nil] at hbb
 refine wpAny_call (codeAny_mono (F.run _ X.stack _ _ ⟨Value.ref y :: us,[]⟩ (Value.ref y :: us) _ _ E0 (hr.make C us []) (I2.env0.make C us []) hbb r2 hq) fun rs s' hq'=>?_)
 cases rs with
 | error z=>exact hq'.elim
 | ok fl=>
  cases fl with
  | ret u=>
   obtain ⟨v,H',I3,rv,ev,q3⟩:=I2.after hq'
   subst ev
   exact ⟨rv,⟨V.ref y,H',I3,rfl,q3⟩⟩
  | next=>exact False.elim hq'
  | brk=>exact False.elim hq'
  | cont=>exact False.elim hq'
theorem DY (q:eU X.K C (some (.ref f))=true) (fn:PySem.W.isFn X.K (.ref f)=true) (kp:PySem.W.keepIn X.K (.ref C)=true) (F:aD X.prog X.w X.K X.mg X.base CX0 k f fd ps sp) (hr:cL (k+1) X.A) (hb:bj X.K fd ps []) (hg:Gl X x) (hm:X.mg x=some (.ref C))
 (ha:PA X (e :: es) t) (hdb:(x==("__debug__" : Str))=false:=by decide) (he:starEach (e :: es) X.env=(false,eval e X.env) :: starEach es X.env:=by rfl) (hpl:(backTo pos (starEach es X.env)).any (·.1)=false:=by rfl):PE X (.Call (.Name x p) (e :: es) [] pos) (Iu C sp t):=by
 intro pins s σ H Q I h
 refine wpAny_Call_Name_kw (qe I hg hm ?_ hdb)
 exact PySem.W.callWith_K (h₀:=X.base) I.ok.mod.kin kp (aR (ha pos pins s σ H _ I h) fun us s1 ⟨vs,H1,I1,r,hl,q1⟩=>⟨I1.kIn,Cp q fn F hr hb I1 r hl q1⟩) he hpl
theorem CB {H:Hp}{a:Addr}{o:HO} (h:H a=some o):aJ H a o=H:=by
 funext b
 unfold aJ
 split
 ·rename_i z;rw [z,h]
 ·rfl
end
section
variable {X:Cx}
end
def rR (h:Heap) (a T:Addr) (C:Value) (dx:Option Addr) (fl:Value):Prop:=
 rO fun vs sl oT ts=>h.get? a=some ⟨C,dx,.fields vs,sl⟩∧vs[1]?=some (.ref T)∧T≠a∧h.get? T=some oT∧oT.data=.fields ts∧ts[3]?=some fl
def Kp (h h':Heap) (bad fs:List Addr):Prop:=∀b o,b∉bad→h.get? b=some o→(∃sl,h'.get? b=some { o with slots:=sl })∧(b∉fs→h'.get? b=some o)
def FQ (head:Value) (L:Addr) (pl:List Value):Obj:={ cls:=.type "traceback",dict:=none,data:=.fields ([head,.ref L,.none,rawInt L,.none]++(if pl.isEmpty then List.replicate 6 Value.none else pl)).toArray }
section
variable {M:Model}{A:Around}{E:Value→Shared→Prop}{s:Shared}{base:Heap}{env:Env}{outer:List Env}{L a T:Addr}{C head:Value}{dx:Option Addr}{vs:Array Value}{sl:Array (Option Value)}{hn:Bool}{Q:Unit→Shared→Prop}
theorem wZ (hfr:A.frames=some (env :: outer)) (hl:s.heap.FunFrames base (env :: outer)) (hf:env.frame=some L) (he:s.heap.get? a=some ⟨C,dx,.fields vs,sl⟩) (hz:1<vs.size)
 (h:∀h' T,rR h' a T C dx (rawInt L)→T=s.heap.objs.size→Kp s.heap h' [a] (jZ (env :: outer))→Q () { s with heap:=h' }) :
 wpAny M A (do let f ←frameOf env;let pl ←entryPlaceOf L hn;let b ←EntryCells.newEntry head f .none (rawInt L) .none pl;setField (.ref a) 1 b) Q E s:=by
 have na:a∉jZ (env :: outer):=fun z=>by
  obtain ⟨_,o,ho,q⟩:=hl.mem z
  rw [he] at ho
  cases ho
  exact q vs rfl
 refine wpAny_bind (wpAny_frameOf_fun hfr hl hf fun h1 s1=>wpAny_bind (wpAny_entryPlaceOf fun pl hp=>?_))
 have e1:h1.get? a=some ⟨C,dx,.fields vs,sl⟩:=(s1.2.1 a na).trans he
 unfold EntryCells.newEntry newFields
 refine wpAny_bind (wpAny_newObj_type ?_ (hp.sizeOk5 _ _ _ _ _))
 show wpAny M A (setField (.ref a) 1 (.ref h1.objs.size)) Q E { s with heap:=h1.push (FQ head L pl) }
 have e2:=Heap.get?_push_of_some (h:=h1) (FQ head L pl) e1
 have nT:h1.objs.size≠a:=Nat.ne_of_gt (Heap.lt_size e1)
 refine wpAny_setField e2 rfl hz (h _ h1.objs.size ⟨vs.setIfInBounds 1 (.ref h1.objs.size),sl,FQ head L pl,_,?_,?_,nT,?_,rfl,?_⟩ s1.1 fun b o nb hb=>?_)
 ·exact Heap.get?_update_self _ e2 rfl
 ·simp [hz]
 ·rw [Heap.get?_update_other _ _ (Ne.symm nT)]
  exact Heap.get?_push_size h1 rfl
 ·rw [List.getElem?_toArray,List.getElem?_append_left (by show 3<5;decide)]
  rfl
 ·have nb':a≠b:=fun z=>nb (by simp [z])
  obtain ⟨sl',q⟩:=s1.2.2 b o hb
  refine ⟨⟨sl',?_⟩,fun nf=>?_⟩
  ·rw [Heap.get?_update_other _ _ nb']
   exact Heap.get?_push_of_some _ q
  ·rw [Heap.get?_update_other _ _ nb']
   exact Heap.get?_push_of_some _ ((s1.2.1 b nf).trans hb)
theorem z9 (hfr:A.frames=some (env :: outer)) (hl:s.heap.FunFrames base (env :: outer)) (hf:env.frame=some L) (he:s.heap.get? a=some ⟨C,dx,.fields vs,sl⟩) (h1:vs[1]?=some .none)
 (h:∀h' T,rR h' a T C dx (rawInt L)→T=s.heap.objs.size→Kp s.heap h' [a] (jZ (env :: outer))→Q () { s with heap:=h' }):wpAny M A (noteFrame (.ref a) env) Q E s:=by
 unfold noteFrame
 simp only [hf]
 refine wpAny_bind (wpAny_field he rfl h1 ?_)
 rw [if_neg (by decide)]
 exact wZ hfr hl hf he (Array.getElem?_eq_some_iff.mp h1).1 h
theorem A8 (hfr:A.frames=some (env :: outer)) (hl:s.heap.FunFrames base (env :: outer)) (hf:env.frame=some L) (ht:rR s.heap a T C dx .none)
 (h:∀h' T',rR h' a T' C dx (rawInt L)→T'=s.heap.objs.size→Kp s.heap h' [a,T] (jZ (env :: outer))→Q () { s with heap:=h' }):wpAny M A (noteFrame (.ref a) env) Q E s:=by
 obtain ⟨vs,sl,oT,ts,he,h1,ne,hT,hd,h3⟩:=ht
 unfold noteFrame
 simp only [hf]
 refine wpAny_bind (wpAny_field he rfl h1 ?_)
 rw [if_pos (show (Value.ref T != Value.none)=true by simp)]
 refine wpAny_bind (wpAny_field hT hd h3 ?_)
 rw [if_neg (show ¬((Value.none==rawInt L)=true) by simp [rawInt])]
 refine wpAny_bind (wpAny_setField hT hd (Array.getElem?_eq_some_iff.mp h3).1 ?_)
 have ot:∀b,b≠T→(s.heap.update T (Obj.mapFields (·.setIfInBounds 3 Value.none))).get? b=s.heap.get? b:=fun b nb=>Heap.get?_update_other _ _ (Ne.symm nb)
 have nr:∀b o,s.heap.get? b=some o→(∀vs,o.data≠.fields vs)→b≠T:=fun b o hb q z=>by
  rw [z,hT] at hb
  cases hb
  exact q ts hd
 refine wZ hfr (hl.of_keeps fun b o hb q=>⟨o,(ot b (nr b o hb q)).trans hb,rfl⟩) hf ((ot a (Ne.symm ne)).trans he) (Array.getElem?_eq_some_iff.mp h1).1 fun h' T' t z k=>h h' T' t (z.trans (Heap.size_after_update ..)) fun b o nb hb=>?_
 have n1:b∉[a]:=fun z=>nb (by simp [List.mem_singleton.mp z])
 have n2:b≠T:=fun z=>nb (by simp [z])
 exact k b o n1 ((ot b n2).trans hb)
theorem yZ {fl:Value} (ht:rR s.heap a T C dx fl) (h:∀h',rR h' a T C dx .none→Kp s.heap h' [T] []→Q () { s with heap:=h' }):wpAny M A (setFlight (.ref a) none) Q E s:=by
 obtain ⟨vs,sl,oT,ts,he,h1,ne,hT,hd,h3⟩:=ht
 unfold setFlight
 refine wpAny_bind (wpAny_field he rfl h1 ?_)
 rw [if_pos (show (Value.ref T != Value.none)=true by simp)]
 have z3:=(Array.getElem?_eq_some_iff.mp h3).1
 have dT:=Obj.data_mapFields hd (·.setIfInBounds 3 Value.none)
 refine wpAny_setField hT hd z3 (h _ ⟨vs,sl,_,_,?_,h1,ne,Heap.get?_update_self _ hT (Obj.isFreed_of_fields dT),dT,by simp [z3]⟩ fun b o nb hb=>?_)
 ·exact (Heap.get?_update_other _ _ ne).trans he
 ·have nb':T≠b:=fun z=>nb (by simp [z])
  have q:=(Heap.get?_update_other s.heap (Obj.mapFields (·.setIfInBounds 3 ((none:Option Addr).elim Value.none fun f=>rawInt f))) nb').trans hb
  exact ⟨⟨o.slots,q⟩,fun _=>q⟩
theorem Kp.trans0 {h h1 h2:Heap}{bad fs:List Addr}{T:Addr} (k:Kp h h1 bad fs) (k2:Kp h1 h2 [T] []) (n:h.objs.size≤T):Kp h h2 bad fs:=fun b o nb hb=>by
 have nT:b∉[T]:=fun z=>by
  have q:=Heap.lt_size hb
  rw [List.mem_singleton.mp z] at q
  exact absurd q (Nat.not_lt.mpr n)
 obtain ⟨⟨sl,q1⟩,q2⟩:=k b o nb hb
 exact ⟨⟨sl,(k2 b _ nT q1).2 (by simp)⟩,fun nf=>(k2 b _ nT (q2 nf)).2 (by simp)⟩
theorem yS (hfr:A.frames=some (env :: outer)) (hl:s.heap.FunFrames base (env :: outer)) (hf:env.frame=some L) (he:s.heap.get? a=some ⟨C,dx,.fields vs,sl⟩) (h1:vs[1]?=some .none)
 (h:∀h' T,rR h' a T C dx .none→T=s.heap.objs.size→Kp s.heap h' [a] (jZ (env :: outer))→Q () { s with heap:=h' }):wpAny M A (leaving env (.ref a)) Q E s:=by
 unfold leaving
 exact wpAny_bind (z9 hfr hl hf he h1 fun h' T t z k=>yZ t fun h2 t2 k2=>h h2 T t2 z (k.trans0 k2 (Nat.le_of_eq z.symm)))
theorem zG (hfr:A.frames=some (env :: outer)) (hl:s.heap.FunFrames base (env :: outer)) (hf:env.frame=some L) (ht:rR s.heap a T C dx .none)
 (h:∀h' T',rR h' a T' C dx .none→T'=s.heap.objs.size→Kp s.heap h' [a,T] (jZ (env :: outer))→Q () { s with heap:=h' }):wpAny M A (leaving env (.ref a)) Q E s:=by
 unfold leaving
 exact wpAny_bind (A8 hfr hl hf ht fun h' T t z k=>yZ t fun h2 t2 k2=>h h2 T t2 z (k.trans0 k2 (Nat.le_of_eq z.symm)))
end
def u5 (x C:Addr) (dx:Option Addr):HO:=.ext fun h=>bX fun vs sl=>h.get? x=some ⟨.ref C,dx,.fields vs,sl⟩
theorem DR {P:Program}{w:World}{H:Hp}{h:Heap}{x C:Addr}{dx:Option Addr} (e:bX fun vs sl=>h.get? x=some ⟨.ref C,dx,.fields vs,sl⟩):b6 P w H h x (u5 x C dx):=
 ⟨e,let ⟨_,_,q⟩:=e;⟨_,q⟩,fun h1 h2 ⟨vs,sl,q⟩ k=>⟨vs,sl,k _ q⟩⟩
theorem Eu {fs ch:List Addr}{H:Hp}{h h':Heap}{a:Addr}{φ:Heap→Prop}{o:HO} (ea:H a=some (.ext φ)) (k:Kp h h' (a :: ch) fs) (th:∃u,h'.get? a=some u):Un fs ch H (aJ H a o) h h':=by
 have ne:∀{b:Addr},H b=none→b≠a:=fun q z=>by rw [z,ea] at q;cases q
 have nc:∀{b:Addr},b≠a→b∉ch→b∉a :: ch:=fun n1 n2 z=>(List.mem_cons.mp z).elim n1 n2
 refine ⟨fun b u q n f x=>(k b u (nc (ne n) x) q).2 f,fun b u q n _ x=>(k b u (nc (ne n) x) q).1,fun b u q n _=>by rw [ax (ne n)];exact n,fun b u q x=>?_,fun b xs q=>?_,fun b u xs q=>?_,fun b ps q=>⟨#[],?_⟩⟩
 ·by_cases e:b=a
  ·rw [e];exact th
  ·obtain ⟨⟨sl,z⟩,_⟩:=k b u (nc e x) q
   exact ⟨_,z⟩
 ·rw [ax (fun z=>by rw [z,ea] at q;cases q)];exact q
 ·rw [ax (fun z=>by rw [z,ea] at q;cases q)];exact q
 ·rw [ax (fun z=>by rw [z,ea] at q;cases q),q];simp
theorem Di {P:Program}{w:World}{fs ch:List Addr}{H:Hp}{h h':Heap}{a:Addr}{φ:Heap→Prop}{o:HO} (ok:eS P w H h) (ea:H a=some (.ext φ)) (k:Kp h h' (a :: ch) fs) (ff:∀b∈fs,H b=none) (fc:∀b∈ch,H b=none)
 (nw:b6 P w (aJ H a o) h' a o):eS P w (aJ H a o) h':=fun b u e=>by
 by_cases hb:b=a
 ·subst hb
  rw [av] at e
  cases e
  exact nw
 ·rw [ax hb] at e
  refine (ok b u e).stay (fun c v cd q=>?_) (fun c q=>?_) fun c xs q=>?_
  ·have hc:H c≠none∧c≠a:=by
    rcases cd with rfl | cd
    ·exact ⟨by rw [e];simp,hb⟩
    ·exact ⟨by rw [cd];simp,fun z=>by rw [z,ea] at cd;cases cd⟩
   exact (k c v (fun z=>(List.mem_cons.mp z).elim hc.2 fun z=>hc.1 (fc c z)) q).2 fun z=>hc.1 (ff c z)
  ·rw [ax (fun z=>by rw [z,ea] at q;cases q)];exact q
  ·rw [ax (fun z=>by rw [z,ea] at q;cases q)];exact q
section
variable {X:Cx}{pins:List (Addr×Obj)}{σ:St}{H:Hp}{s:Shared}{h':Heap}{a T C:Addr}{dx:Option Addr}{φ:Heap→Prop}{ch:List Addr}{fl:Value}
theorem rR.there (t:rR h' a T (.ref C) dx fl):bX fun vs sl=>h'.get? a=some ⟨.ref C,dx,.fields vs,sl⟩:=let ⟨vs,sl,_,_,e,_⟩:=t;⟨vs,sl,e⟩
theorem aj.noted (I:aj X pins σ H s) (ea:H a=some (.ext φ)) (k:Kp s.heap h' (a :: ch) (jZ X.stack)) (t:bX fun vs sl=>h'.get? a=some ⟨.ref C,dx,.fields vs,sl⟩) (fc:∀b∈ch,H b=none)
 (hch:∀b∈ch,(b∈X.ex∨X.s₀.heap.objs.size≤b)∧b≠X.env.locals∧(∀x c,X.env.cells.lookup x=some c→c≠b)∧∀p∈X.pn++pins,p.1≠b):aj X pins σ (aJ H a (u5 a C dx)) { s with heap:=h' }:=
 I.call' (ch:=ch) rfl (Eu ea k (let ⟨_,_,e⟩:=t;⟨_,e⟩)) (Di I.hok ea k I.stkFree fc (DR t)) I.bare hch
theorem aj.far (I:aj X pins σ H s) (n:s.heap.objs.size≤T):(T∈X.ex∨X.s₀.heap.objs.size≤T)∧T≠X.env.locals∧(∀x c,X.env.cells.lookup x=some c→c≠T)∧∀p∈X.pn++pins,p.1≠T:=by
 have lt:∀{b:Addr}{u:Obj},s.heap.get? b=some u→b≠T:=fun q z=>by
  have q':=Heap.lt_size q
  rw [z] at q'
  exact absurd q' (Nat.not_lt.mpr n)
 refine ⟨.inr (Nat.le_trans I.sz n),?_,fun x c e=>?_,fun p hp=>lt (I.pin p hp).1⟩
 ·obtain ⟨m,⟨o,es,ep,ho,_⟩,_⟩:=I.loc
  exact Ne.symm (lt ho)
 ·obtain ⟨v,q⟩:=I.cell x c e
  obtain ⟨o,ho,_⟩:=q
  exact lt ho
end
def hV (P:Program) (w:World):kf:=fun outer H s E e s'=>xM fun a T C dx H'=>e=.ref a∧s'.os=s.os∧AllBare s'.gens∧Un (jZ outer) [] H H' s.heap s'.heap∧eS P w H' s'.heap∧rR s'.heap a T (.ref C) dx .none∧s.heap.objs.size≤T∧H' T=none∧H' a=some (u5 a C dx)∧E (.ref C) dx H'
def Bq (X:Cx) (E:XK):Prop:=∀pins σ H s a C dx,aj X pins σ H s→H a=some (lJ a C dx)→E (.ref C) dx (aJ H a (u5 a C dx))→X.xe (.ref a) s
section
variable {P:Program}{w:World}{K:PySem.W.Frag}{mg:Str→Option Value}{base:Heap}{N:List Str}{qual:Str}{scope:Scope}{f:Addr}{cd:Value}{A:Around}{outer:List Env}{s:Shared}{H:Hp}{E:XK}
theorem ii:iy (hV P w) (qJ (hV P w) P w K mg base N qual scope f cd A outer s H E) E:=by
 intro pins σ H1 s1 e s2 I h
 obtain ⟨a,T,C,dx,H',rfl,os,bare,un,hok,t,n,hT,ha,hE⟩:=h
 have J:=I.call' (ch:=[]) os un hok bare (fun b z=>by cases z)
 have far:=I.far n
 refine zG (L:=s.heap.objs.size) J.ok.frames J.stack rfl t fun h' T' t' z k=>?_
 have J2:=J.noted ha (ch:=[T]) k t'.there (fun b hb=>by rw [List.mem_singleton.mp hb];exact hT) (fun b hb=>by rw [List.mem_singleton.mp hb];exact far)
 rw [CB ha] at J2
 exact ⟨a,T',C,dx,H',rfl,J2.os,J2.bare,J2.base,J2.hok,t',by rw [z];exact J.sz,J.hok.fresh (by rw [z];exact Nat.le_refl _),ha,hE⟩
theorem iQ:Bq (qJ (hV P w) P w K mg base N qual scope f cd A outer s H E) E:=by
 intro pins σ H1 s1 a C dx J ha hE
 obtain ⟨a0,sl,ea⟩:=zu J.hok ha
 refine yS (L:=s.heap.objs.size) J.ok.frames J.stack rfl ea rfl fun h' T' t' z k=>?_
 have J2:=J.noted ha (ch:=[]) k t'.there (fun b hb=>by cases hb) (fun b hb=>by cases hb)
 have nT:H1 T'=none:=J.hok.fresh (by rw [z];exact Nat.le_refl _)
 exact ⟨a,T',C,dx,(),J2.os,J2.bare,J2.base,J2.hok,t',by rw [z];exact J.sz,by rw [ax (fun q=>by rw [q,ha] at nT;cases nT)];exact nT,av,hE⟩
end
section
variable {M:Model}{A:Around}{E:Value→Shared→Prop}{s:Shared}{env:Env}
theorem Bi {x:Sem Value}{Q:Flow→Shared→Prop} (hh:A.handled=none)
 (h:wpAny M A x (fun v s1=>∃e a0 dx sl nm q C N bs bm hd sn sb ab cl dd k0 k1 k2 k3 k5 nw,v=.ref e∧bm.contains (.type "BaseException")=true∧s1.heap.get? C=some (excClassObj nm q C N bs bm hd sn sb ab cl dd k0 k1 k2 k3 k5 nw)∧
  s1.heap.get? e=some ⟨.ref C,dx,.fields #[a0,.none,.none,.none,.bool false,.none],sl⟩∧E (.ref e) s1) E s):wpAny M A (raiseStmt env (some x) none) Q E s:=by
 unfold raiseStmt
 refine wpAny_bind (wpAny_mono h (fun v s1 h1=>?_) fun _ _ x=>x)
 obtain ⟨e,a0,dx,sl,nm,q,C,N,bs,bm,hd,sn,sb,ab,cl,dd,k0,k1,k2,k3,k5,nw,rfl,hb,hC,he,hE⟩:=h1
 have hcB:(Value.ref C :: bm).contains (.type "BaseException")=true:=by rw [List.contains_cons,hb,Bool.or_true]
 obtain ⟨hp,g,d,tk,os⟩:=s1
 repeat
  first
   | (with_reducible refine wpAny_isSubtype_exc hC ?_
      rw [hcB])
   | (with_reducible refine wpAny_loadPart_at hC ?_)
   | (with_reducible refine wpAny_loadPart_at he ?_)
   | wp_step
 exact wpAny_raiseNew_none hh hE
end
section
variable {X:Cx}{e:Expr}{te:TE}{pos:Pos}{E:XK}
def Fy (K:PySem.W.Frag) (E:XK) (te:TE):TS:=fun D σ H=>te σ H fun v H'=>rO fun a C dx ini=>v=.ref a∧H' a=some (lJ a C dx)∧eU K C ini=true∧E (.ref C) dx (aJ H' a (u5 a C dx))
theorem gJ (hc:X.calm=true) (hx:Bq X E) (he:PE X e te):PS X (.Raise (some e) none pos) (Fy X.K E te):=by
 intro pins s σ H D I h
 rw [arm_exec_Raise]
 refine wpAny_bind (wpAny_standAt ?_)
 show wpAny _ _ (raiseStmt X.env (some (do let v ←eval e X.env;standAt pos;pure v)) none) _ _ _
 refine Bi (I.ok.hd hc) (wpAny_bind (aR (he pins s σ H _ I h) fun u s1 ⟨v,H1,I1,r,a,C,dx,ini,ev,ha,q,hE⟩=>wpAny_bind (wpAny_standAt (wpAny_pure ?_))))
 subst ev
 obtain rfl:u=Value.ref a:=r
 obtain ⟨nm,qn,N,bs,bm,hd,sn,sb,ab,cl,dd,k0,k1,k2,k3,k5,mN,eC,eN,T,_⟩:=zL I1.kIn q
 obtain ⟨a0,sl,ea⟩:=zu I1.hok ha
 exact ⟨a,a0,dx,sl,nm,qn,C,N,bs,bm,hd,sn,sb,ab,cl,dd,k0,k1,k2,k3,k5,(),T.hasType (by decide),eC,ea,hx pins σ H1 s1 a C dx I1 ha hE⟩
theorem PS.nox {st:Stmt}{t:TS} (h:PS X.nox st t):PS X st t:=fun pins s σ H D I hw=>wpAny_mono (h pins s σ H D (I.wish _) hw) (fun _ _ q=>q.unwish) fun _ _ z=>False.elim z
theorem dC.okX {P:Program}{w:World}{K:PySem.W.Frag}{mg:Str→Option Value}{base:Heap}{x qual:Str}{st:Stmt}{f:Addr}{fd:FuncData}{N ps:List Str}{k:Nat}{sp:Sp} (F:dC K x qual st f fd) (S:ar N ps (ah st)) (len:∀vs H Q E,sp vs H Q E→vs.length=ps.length)
 (hbody:∀(cdv:Value) (A:Around) (outer:List Env) (s:Shared) (H:Hp) (vs:List V) (Q:VK) (E:XK),cL k (A.deeper (envOfC qual (ah st) s.heap.objs.size f cdv))→sp vs H Q E→
  ∃t,oP (qJ (hV P w) P w K mg base N qual (ah st) f cdv A outer s H E) (qr st) t∧t { nx:=fun _ H'=>Q .non H',rt:=Q } (mV N vs) H):aD P w K mg base (hV P w) (k+1) f fd ps sp:=by
 obtain ⟨oc,od,kV,doc,pm,an,cdv,ct,osl,rfl,lk,hcd⟩:=F.ex
 exact Dn lk hcd S len fun A outer s H vs Q E hr hsp=>hbody cdv A outer s H vs Q E hr hsp
end
section
variable {X:Cx}{pins:List (Addr×Obj)}{σ σ':St}{H:Hp}{s:Shared}{h':Heap}
end
section
variable {X:Cx}{CX:kf}{k:Nat}{f:Addr}{fd:FuncData}{ps:List Str}{sp:Sp}{EE:St→XK}{x:Str}{p pos:Pos}{e:Expr}{es:List Expr}{t:TA}
end
section
variable {X:Cx}{pins pins' pn:List (Addr×Obj)}{σ:St}{H:Hp}{s:Shared}{xe:Value→Shared→Prop}
end
section
variable {X:Cx}{body suite:List Stmt}{b0:Stmt}{x n:Str}{hpos pos np:Pos}{tb:(St→XK)→TS}{th:TS}{Cc:Addr}{i:Nat}
end
theorem iK {P:Program}{w:World}{X:Cx}:iy (hV P w) X E0:=fun _ _ _ _ _ _ _ h=>by
 obtain ⟨a,T,C,dx,H',_,_,_,_,_,_,_,_,_,hE⟩:=h
 exact hE.elim
section
variable {X:Cx}{C:Addr}{e:Expr}{pos:Pos}
end
section
variable {X:Cx}
end
section
variable {X:Cx}
end
theorem xb:∀(l:List Obj) (n a:Nat) (o:Obj),List.lookup a (qq n l)=some o→∃k,a=n+k∧l[k]?=some o∧o.data≠.freed
 | [],n,a,o,e=>nomatch e
 | p :: r,n,a,o,e=>by
  have step:List.lookup a (qq (n+1) r)=some o→∃k,a=n+k∧(p :: r)[k]?=some o∧o.data≠.freed:=fun e=>by
   obtain ⟨k,e1,e2,e3⟩:=xb r (n+1) a o e
   exact ⟨k+1,by trivial,by simpa using e2,e3⟩
  unfold qq at e
  split at e
  ·exact step e
  ·rename_i hf
   by_cases q:a=n
   ·subst q
    simp only [List.lookup_cons,beq_self_eq_true] at e
    cases e
    exact ⟨0,rfl,rfl,hf⟩
   ·have q':(a==n)=false:=by simpa using q
    simp only [List.lookup_cons,q'] at e
    exact step e
theorem BD (h:Heap):PySem.W.Frag.In (fragOf h) h:=fun a o e=>by
 obtain ⟨k,e1,e2,e3⟩:=xb _ 0 a o e
 have e1':a=k:=e1.trans (Nat.zero_add k)
 subst e1'
 unfold Heap.get?
 have:h.objs[a]?=some o:=by simpa using e2
 rw [this]
 cases o with
 | mk c d x s=>
  cases x <;> first | rfl | exact absurd rfl e3
theorem gS {v:Option (Option Value)} (e:y7 v=true):v=some (some (.ref (kQ v))):=by
 unfold y7 at e;split at e
 ·rfl
 ·cases e
theorem dz {v:Option (Option Value)} (e:wH v=true):v=some none:=by
 unfold wH at e;split at e
 ·rfl
 ·cases e
theorem xl {K:PySem.W.Frag}{v:Option (Option Value)}{q:Str}{x:FuncData} (e:bA K v q=some x) :
 v=some (some (.ref (kQ v)))∧PySem.W.codeIn K (je K v).code q=true∧PySem.W.keepIn K (.ref (kQ v))=true∧
  List.lookup (kQ v) K=some ⟨(y8 K v).cls,(y8 K v).dict,.func (je K v),(y8 K v).slots⟩∧bare (je K v)=x:=by
 unfold bA at e
 cases h:(y7 v && PySem.W.codeIn K (je K v).code q && PySem.W.keepIn K (.ref (kQ v))) with
 | false=>rw [h] at e;cases e
 | true=>
  rw [h] at e
  simp only [Bool.and_eq_true] at h
  refine ⟨gS h.1.1,h.1.2,h.2,?_⟩
  cases hl:List.lookup (kQ v) K with
  | none=>rw [hl] at e;cases e
  | some o=>
   rw [hl] at e
   obtain ⟨c,d,x',s⟩:=o
   have eo:y8 K v=⟨c,d,x',s⟩:=by unfold y8;rw [hl];rfl
   cases x' <;> first | cases e | skip
   rename_i fd
   have ef:je K v=fd:=by unfold je;rw [eo]
   rw [eo,ef]
   exact ⟨rfl,rfl⟩
theorem ag {K:PySem.W.Frag}{v:Option (Option Value)}{q n:Str}{st:Stmt} (e:bA K v q=dG n q st):dC K n q st (kQ v) (je K v):=by
 have h:=xl e
 refine ⟨?_,h.2.2.1⟩
 obtain ⟨h1,h2,h3,h4,z⟩:=h
 refine ⟨_,_,(je K v).kwdefaults,(je K v).doc,(je K v).pyModule,(je K v).annotations,(je K v).code,(je K v).closureTuple,_,?_,h4,h2⟩
 clear h4 h2 h3 h1 e
 generalize je K v=fd at z ⊢
 cases fd
 unfold bare PySem.W.fnOf at z
 cases z
 rfl
theorem bq {K:PySem.W.Frag}{v:Option (Option Value)}{q n:Str}{st:Stmt} (e:bA K v q=dG n q st):v=some (some (.ref (kQ v))):=(xl e).1
theorem walk_ofY {l:PySem.W.OpenLaw}{n k:Nat}{q:Program}{loose:List Str}{XP:(Str→Option Value)→Heap→Prop}{d:DefRec}{CX:kf}{sp:PySem.W.Frag→Sp}{x:Str}{α:Type}{obs:PySem.W.Frag→α}{due:α}
 (hn:l.most=some n) (hn2:n≤sizeLine) (hdf:d.params.defaults=[]) (hr:cL k callerA)
 (F:∀(K:PySem.W.Frag) (w:World) (mg:Str→Option Value) (fa:Addr) (h:Heap),obs K=due→K.In h→h.Ns mainGlobals mg→mg d.name=some (.ref fa)→
  ∃fd:FuncData,(∀(s:Shared) (u:Value),BindsTo s fd ⟨[u],[]⟩ [(x,u)])∧
   ∀base:Heap,K.In base→base.Ns mainGlobals mg→aD l.prog w K mg base CX k fa fd [x] (sp K))
 (hsp:∀(K:PySem.W.Frag) (H:Hp) (a:Addr) (ns:List Int),ns.length≤n→wG H→aA K H a (ns.map V.int)→sp K [.ref a] H (fun v _=>v=.bl true) fun _ _ _=>False)
 (hCX:∀(H:Hp) (s:Shared) (e:Value) (s':Shared),CX [] H s (fun _ _ _=>False) e s'→False) :
 PySem.W.WalkX q loose XP (fun s=>obs (fragOf s.heap)) (fun _=>due) l.row.toRowW d [] (fun f vs=>PySem.call f vs):=by
 intro w s₀ s₁ mg mb G y a o pm cd doc dV kV ho hd hcd hD hmg hg args vals as' L hpre hlay hrd hwl hlo
 have kx:(fragOf s₀.heap).In s₁.heap:=fun b ob hb=>L.keeps b ob (BD s₀.heap b ob hb)
 exact CY (K:=fun _=>fragOf s₀.heap) (YP:=fun w h=>(fragOf s₀.heap).In h) hn hn2 hdf hr (fun _ _ z=>z) (fun w mg fa h=>F (fragOf s₀.heap) w mg fa h y) hsp hCX w s₀ s₁ mg mb G kx a o pm cd doc dV kV ho hd hcd hD hmg hg args vals as' hpre hlay hrd hwl hlo
section
variable {X:Cx}
inductive EH (x:V) (y:V) (H:Hp) (Q:VK):Prop
 | mk (a:_) (b:_) (xs:_) (ys:_) (h0:x=.ref a) (h1:y=.ref b) (h2:H a=some (.tup xs)) (h3:H b=some (.tup ys)) (h4:xs.length+ys.length≤10000) (h5:∀p H',ad H H'→H' p=some (.tup (xs++ys))→Q (.ref p) H')
def Hg:R2:=fun x y H Q=>EH  x y H Q
theorem cp:cz X (binaryOp .Add) Hg:=by
 intro pins s σ H x y v u Q I rx ry h
 obtain ⟨a,b,xs,ys,rfl,rfl,ha,hb,hz,q⟩:=h
 by_cases hx:xs=[]
 ·subst hx
  cases rx
  cases ry
  obtain ⟨its,r1,p1,_⟩:=I.tuple (ae.of (K:=X.K) ha)
  obtain ⟨its2,r2,p2,_⟩:=I.tuple (ae.of (K:=X.K) hb)
  cases r1
  obtain ⟨⟨cls,dd,data,sl⟩,ho,hc,n,hd⟩:=id p1
  obtain ⟨⟨cls2,dd2,data2,sl2⟩,ho2,hc2,n2,hd2⟩:=id p2
  simp only at hc hd hc2 hd2
  subst hc hd hc2 hd2
  exact concat_meets ⟨_,ho,rfl⟩ ⟨_,ho2,rfl⟩ noFill_tuple_add seq_tuple_add PySem.F.slot_tuple_add PySem.F.entry_tuple_add (PySem.F.args_tuple_add_2 _ _)
   (tuple_addW0 a b _ _ n n2 dd dd2 sl sl2 (by simp)) ⟨ho,ho2,⟨.ref b,H,I,rfl,q b H (ad.refl _) hb⟩⟩
 ·exact Ck (K:=X.K) rfl pins s σ H _ _ v u Q I rx ry ⟨a,b,xs,ys,rfl,rfl,ae.of ha,ha,ae.of hb,hx,hz,q⟩
end
end L2
namespace L2
open PySem PySem.Spec PySem.Calls PySem.W PyProof.Rows
section
variable {prog:Program}{w:World}{A:Around}{E:Value→Shared→Prop}{s:Shared}
end
section
variable {X:Cx}
end
section
open PySem.Builtin.Str (occurrences partsBetween)
variable {prog:Program}{w:World}{A:Around}{E:Value→Shared→Prop}{s:Shared}
end
section
variable {X:Cx}
end
end L2
namespace L2
open PySem PySem.Spec PyProof.Rows
section
variable {X:Cx}
def Ix (K:PySem.W.Frag) (ta tv:TE) (f:Str):TS:=fun D σ H=>tv σ H fun y H1=>ta σ H1 fun x H2=>rO fun a C dx fs=>x=.ref a∧H2 a=some (.ins C dx fs)∧ql K C∧kq K C f∧fs.length<1000∧
 ∀H3,Gj H2 a (.ins C dx (ja f y fs)) H3→D.nx σ H3
theorem uh {o value:Expr}{f:Str}{pos pos':Pos}{ta tv:TE} (ha:PE X o ta) (hv:PE X value tv) (hs:swapsWith value (some (.Attribute o f pos')) pos.line X.env=pure false:=by rfl):PS X (.Assign [.Attribute o f pos'] value pos) (Ix X.K ta tv f):=by
 intro pins s σ H D I h
 refine plainObj_wpAny_Assign_Attribute (aR (hv pins s σ H _ I h) fun u s1 ⟨y,H1,I1,ry,q⟩=>aR (ha pins s1 σ H1 _ I1 q) fun ov s2 ⟨x,H2,I2,rx,a,C,dx,fs,ex,ea,c,n,l,q2⟩=>?_) hs
 subst ex
 obtain rfl:ov=Value.ref a:=rx
 exact zU I2 ea c n l ry fun s3 I3=>⟨σ,_,I3,q2 _ .mk'⟩
def Fu (C:Addr) (sp:Sp):TE:=fun σ H Q=>∀x dx H1,H x=none→ad H H1→H1 x=some (.ins C dx [])→sp [.ref x] H1 (fun v H2=>v=.non∧Q (.ref x) H2) E0
theorem x8 {CX:kf}{k:Nat}{f C:Addr}{fd:FuncData}{ps:List Str}{sp:Sp}{x:Str}{p pos:Pos} (M:Mk X.K C f) (F:aD X.prog X.w X.K X.mg X.base CX k f fd ps sp) (hr:cL (k+1) X.A) (hg:Gl X x) (hm:X.mg x=some (.ref C)) (hb:bj X.K fd ps []) (hx:iy CX X E0)
 (hdb:(x==("__debug__" : Str))=false:=by decide):PE X (.Call (.Name x p) [] [] pos) (Fu C sp):=by
 intro pins s σ H Q I h
 refine BY M F hr hg hm hb .nil hx hdb pins s σ H Q I fun x dx hx hd ne=>?_
 refine h x dx _ hx (fun a o e=>?_) (by rw [av])
 rw [ax (aK e hx),ax (aK e hd)]
 exact e
end
theorem zq {K:PySem.W.Frag}{C:Addr} (h:Av K C=true):ql K C:=by
 unfold Av at h
 rw [Bool.and_eq_true,Bool.and_eq_true,Bool.and_eq_true,beq_iff_eq] at h
 exact ⟨h.1,h.2.1,h.2.2.1,h.2.2.2⟩
theorem bp {K:PySem.W.Frag}{C:Addr}{m:Str} (h:cv K C m=true):df K C m (kQ (PySem.W.findIn K (.ref C) m)):=by
 unfold cv at h
 rw [Bool.and_eq_true,Bool.and_eq_true] at h
 exact ⟨gS h.1,h.2.1,h.2.2⟩
theorem yF {K:PySem.W.Frag}{C:Addr} (h:xC K C=true):Mk K C (kQ (PySem.W.findIn K (.ref C) "__init__")):=by
 unfold xC at h
 rw [Bool.and_eq_true,Bool.and_eq_true] at h
 have m:=bp h.2.1
 exact ⟨h.1,m.at_,m.fn,h.2.2⟩
structure aC where
 pl:List (List Nat)
 ts:List ji
 sh:List Int
 en:Option (List Nat×List Nat)
def iI:aC:=⟨[],[],[],none⟩
inductive pX where
 | m
 | g
 | p
def pX.at:pX→Nat
 | .m=>2
 | .g=>3
 | .p=>4
inductive jj where
 | place (n:List Nat)
 | tie (t:ji)
 | ends (b e:List Nat)
 | part (k:pX) (i:Int) (x:KM.Fra)
 | shut (i:Int)
 | opn (i:Int)
 | back
inductive RW where
 | taken
 | noPlace
 | noTie
 | asItIs
def RW.w:RW→Str
 | .taken => "Taken"
 | .noPlace => "NoPlace"
 | .noTie => "NoTie"
 | .asItIs => "AsItIs"
def two (s:aC) (b e:List Nat):Prop:=b∈s.pl∧e∈s.pl∧b≠e
instance iTwo (s:aC) (b e:List Nat):Decidable (two s b e):=inferInstanceAs (Decidable (_∧_∧_))
def has (s:aC) (i:Int):Prop:=0≤i∧i<(s.ts.length:Int)
instance iHas (s:aC) (i:Int):Decidable (has s i):=inferInstanceAs (Decidable (_∧_))
def dP (s:aC):jj→Option RW
 | .place n=>if n∈s.pl then some .taken else none
 | .tie t=>if two s t.bg t.en then none else some .noPlace
 | .ends b e=>if two s b e then none else some .noPlace
 | .part _ i _=>if has s i then none else some .noTie
 | .shut i=>if has s i then (if i∈s.sh then some .asItIs else none) else some .noTie
 | .opn i=>if has s i then (if i∈s.sh then none else some .asItIs) else some .noTie
 | .back=>none
def AA (k:pX) (x:KM.Fra) (t:ji):ji:=match k with
 | .m=>{ t with most:=x }
 | .g=>{ t with gain:=x }
 | .p=>{ t with price:=x }
def pK (ts:List ji) (k:pX) (i:Nat) (x:KM.Fra):List ji:=match ts[i]? with
 | some t=>ts.set i (AA k x t)
 | none=>ts
theorem ww {ts:List ji}{k:pX}{i:Nat}{x:KM.Fra}{t:ji} (h:ts[i]?=some t):pK ts k i x=ts.set i (AA k x t):=by
 unfold pK;rw [h]
theorem qQ (ts:List ji) (k:pX) (i:Nat) (x:KM.Fra):(pK ts k i x).length=ts.length:=by
 unfold pK
 cases ts[i]? with
 | none=>rfl
 | some t=>exact List.length_set ..
def aV (s:aC):jj→aC
 | .place n=>{ s with pl:=s.pl++[n] }
 | .tie t=>{ s with ts:=s.ts++[t] }
 | .ends b e=>{ s with en:=some (b,e) }
 | .part k i x=>{ s with ts:=pK s.ts k i.toNat x }
 | .shut i=>{ s with sh:=s.sh++[i] }
 | .opn i=>{ s with sh:=s.sh.erase i }
 | .back=>s
def sO (past:List aC) (cur:aC) (D:jj):List aC:=match dP cur D with
 | some _=>past
 | none=>match D with
  | .back=>past.dropLast
  | _=>past++[cur]
def sL (past:List aC) (cur:aC) (D:jj):aC:=match dP cur D with
 | some _=>cur
 | none=>match D with
  | .back=>past.getLast?.getD cur
  | _=>aV cur D
def uW (past:List aC) (cur:aC):jj→PyData
 | .back=>.bool (!past.isEmpty)
 | .tie _=>.int (cur.ts.length:Nat)
 | _=>.none
def GT (past:List aC) (cur:aC) (D:jj):PyData:=match dP cur D with
 | some w=>.tuple [.str "refused",.str w.w]
 | none=>.tuple [.str "told",uW past cur D]
theorem DP {past:List aC}{cur:aC}{D:jj}{r:RW} (h:dP cur D=some r):sO past cur D=past∧sL past cur D=cur∧GT past cur D=.tuple [.str "refused",.str r.w]:=by
 unfold sO sL GT
 rw [h]
 exact ⟨rfl,rfl,rfl⟩
theorem nZ {past:List aC}{cur:aC}{D:jj} (h:dP cur D=none) (nb:D≠.back):sO past cur D=past++[cur]∧sL past cur D=aV cur D:=by
 unfold sO sL
 rw [h]
 cases D <;> first | exact ⟨rfl,rfl⟩ | exact absurd rfl nb
theorem lA {past:List aC}{s cur:aC}:sO (past++[s]) cur .back=past∧sL (past++[s]) cur .back=s:=by
 show (past++[s]).dropLast=past∧(past++[s]).getLast?.getD cur=s
 simp
structure l7 (N:Nat) (s:aC):Prop where
 lp:s.pl.length≤N
 lt:s.ts.length≤N
 ls:s.sh.length≤N
 sb:∀i∈s.sh,0≤i∧i<(s.ts.length:Int)
 nd:s.sh.Nodup
theorem l7.mono {N M:Nat}{s:aC} (h:l7 N s) (k:N≤M):l7 M s:=⟨Nat.le_trans h.lp k,Nat.le_trans h.lt k,Nat.le_trans h.ls k,h.sb,h.nd⟩
theorem l7.zero (N:Nat):l7 N iI:=⟨Nat.zero_le _,Nat.zero_le _,Nat.zero_le _,fun _ h=>(nomatch h),List.nodup_nil⟩
theorem l7.next {N:Nat}{s:aC}{D:jj} (h:l7 N s) (r:dP s D=none):l7 (N+1) (aV s D):=by
 obtain ⟨lp,lt,ls,sb,nd⟩:=h
 cases D with
 | place n=>exact ⟨by show (s.pl++[n]).length≤_;simp;trivial,by show s.ts.length≤_;trivial,(by show s.sh.length≤_;trivial),sb,nd⟩
 | tie t=>exact ⟨by show s.pl.length≤_;trivial,by show (s.ts++[t]).length≤_;simp;trivial,by show s.sh.length≤_;trivial,fun i hi=>(by have:=sb i hi;show 0≤i∧i<((s.ts++[t]).length:Int);simp;trivial),nd⟩
 | ends b e=>exact ⟨by show s.pl.length≤_;trivial,by show s.ts.length≤_;trivial,by show s.sh.length≤_;trivial,sb,nd⟩
 | part k i x=>exact ⟨by show s.pl.length≤_;trivial,by show (pK s.ts k i.toNat x).length≤_;rw [qQ];trivial,by show s.sh.length≤_;trivial,fun j hj=>by show 0≤j∧j<((pK s.ts k i.toNat x).length:Int);rw [qQ];exact sb j hj,nd⟩
 | shut i=>
  have hi:has s i∧i∉s.sh:=by
   replace r:(if has s i then (if i∈s.sh then some RW.asItIs else none) else some .noTie)=none:=r
   by_cases q:has s i
   ·rw [if_pos q] at r
    by_cases q2:i∈s.sh
    ·rw [if_pos q2] at r;cases r
    ·exact ⟨q,q2⟩
   ·rw [if_neg q] at r;cases r
  refine ⟨by show s.pl.length≤_;trivial,by show s.ts.length≤_;trivial,by show (s.sh++[i]).length≤_;simp;trivial,fun j hj=>?_,?_⟩
  ·rcases List.mem_append.mp (show j∈s.sh++[i] from hj) with q | q
   ·exact sb j q
   ·rw [List.mem_singleton.mp q];exact hi.1
  ·show (s.sh++[i]).Nodup
   rw [List.nodup_append]
   refine ⟨nd,by simp,fun a ha b hb=>?_⟩
   rw [List.mem_singleton.mp hb]
   exact fun z=>hi.2 (z▸ha)
 | opn i=>exact ⟨by show s.pl.length≤_;trivial,by show s.ts.length≤_;trivial,by show (s.sh.erase i).length≤_;have:=List.length_erase_le (a:=i) (l:=s.sh);trivial,fun j hj=>sb j (List.mem_of_mem_erase (show j∈s.sh.erase i from hj)),nd.erase i⟩
 | back=>exact ⟨by show s.pl.length≤_;trivial,by show s.ts.length≤_;trivial,by show s.sh.length≤_;trivial,sb,nd⟩
structure ju (N:Nat) (past:List aC) (cur:aC):Prop where
 lp:past.length≤N
 al:∀s∈past,l7 N s
 cu:l7 N cur
theorem ju.mono {N M:Nat}{past:List aC}{cur:aC} (h:ju N past cur) (k:N≤M):ju M past cur:=⟨Nat.le_trans h.lp k,fun s hs=>(h.al s hs).mono k,h.cu.mono k⟩
theorem ju.zero (N:Nat):ju N [] iI:=⟨Nat.zero_le _,fun _ h=>(nomatch h),l7.zero N⟩
theorem iR {α:Type} (l:List α):l=[]∨bX fun r a=>l=r++[a]:=by
 rcases List.eq_nil_or_concat l with h | ⟨r,a,h⟩
 ·exact .inl h
 ·exact .inr ⟨r,a,by simpa using h⟩
theorem ju.aft {N:Nat}{past:List aC}{cur:aC} (D:jj) (h:ju N past cur):ju (N+1) (sO past cur D) (sL past cur D):=by
 cases r:dP cur D with
 | some w=>obtain ⟨e1,e2,_⟩:=DP (past:=past) r;rw [e1,e2];exact h.mono (Nat.le_succ _)
 | none=>
  by_cases nb:D=.back
  ·subst nb
   rcases iR past with rfl | ⟨q,s,rfl⟩
   ·exact h.mono (Nat.le_succ _)
   ·rw [lA.1,lA.2]
    have:=h.lp
    simp at this
    exact ⟨by trivial,fun z hz=>(h.al z (List.mem_append_left _ hz)).mono (Nat.le_succ _),(h.al s (by simp)).mono (Nat.le_succ _)⟩
  ·obtain ⟨e1,e2⟩:=nZ (past:=past) r nb
   rw [e1,e2]
   refine ⟨by have:=h.lp;simp;trivial,fun z hz=>?_,h.cu.next r⟩
   rcases List.mem_append.mp hz with q | q
   ·exact (h.al z q).mono (Nat.le_succ _)
   ·rw [List.mem_singleton.mp q];exact h.cu.mono (Nat.le_succ _)
def d8 (s:aC):List Bool:=(List.range s.ts.length).map fun (j:Nat)=>decide ((j:Int)∈s.sh)
theorem lE (s:aC):(d8 s).length=s.ts.length:=by unfold d8;simp
theorem nk {s:aC}{j:Nat} (h:j<s.ts.length):(d8 s)[j]?=some (decide ((j:Int)∈s.sh)):=by
 unfold d8
 simp [h]
theorem Ez {N:Nat}{s:aC} (h:l7 N s) (t:ji):d8 (aV s (.tie t))=d8 s++[false]:=by
 unfold d8 aV
 simp only [List.length_append,List.length_singleton]
 rw [List.range_succ,List.map_append]
 congr 1
 simp only [List.map_cons,List.map_nil,List.cons.injEq,and_true]
 exact decide_eq_false fun q=>by have:=h.sb _ q;trivial
theorem BZ (s:aC) (k:pX) (i:Int) (x:KM.Fra):d8 (aV s (.part k i x))=d8 s:=by
 unfold d8 aV
 simp only [qQ]
theorem y0 {s:aC}{l:List Int}{i:Nat} (b:Bool) (hi:i<s.ts.length) (h:∀j:Nat,decide ((j:Int)∈l)=if j=i then b else decide ((j:Int)∈s.sh)):d8 { s with sh:=l }=(d8 s).set i b:=by
 apply List.ext_getElem?
 intro j
 by_cases hj:j<s.ts.length
 ·rw [nk (s:={ s with sh:=l }) hj]
  show some (decide ((j:Int)∈l))=_
  rw [h j]
  by_cases e:j=i
  ·subst e
   rw [if_pos rfl,List.getElem?_set_self (by rw [lE];exact hi)]
  ·rw [if_neg e,List.getElem?_set_ne (Ne.symm e),nk hj]
 ·rw [List.getElem?_eq_none (by rw [lE];show s.ts.length≤j;trivial),List.getElem?_eq_none (by rw [List.length_set,lE];trivial)]
theorem CI {s:aC}{i:Int} (h:has s i):d8 (aV s (.shut i))=(d8 s).set i.toNat true:=by
 refine y0 (l:=s.sh++[i]) true (by have:=h.1;have:=h.2;trivial) fun j=>?_
 by_cases e:j=i.toNat
 ·rw [if_pos e]
  exact decide_eq_true (by rw [e,Int.toNat_of_nonneg h.1];simp)
 ·rw [if_neg e]
  have:(j:Int)≠i:=fun z=>e (by trivial)
  simp [this]
theorem Cn {N:Nat}{s:aC}{i:Int} (hs:l7 N s) (h:has s i):d8 (aV s (.opn i))=(d8 s).set i.toNat false:=by
 refine y0 (l:=s.sh.erase i) false (by have:=h.1;have:=h.2;trivial) fun j=>?_
 by_cases e:j=i.toNat
 ·rw [if_pos e]
  exact decide_eq_false (by rw [e,Int.toNat_of_nonneg h.1];exact fun q=>(hs.nd.mem_erase_iff.mp q).1 rfl)
 ·rw [if_neg e]
  have:(j:Int)≠i:=fun z=>e (by trivial)
  rw [Bool.eq_iff_iff]
  simp [hs.nd.mem_erase_iff,this]
theorem yX {α:Type} (l:List α) (i:Nat) (x:α) (h:i<l.length):l.take i++[x]++l.drop (i+1)=l.set i x:=by
 rw [List.set_eq_take_append_cons_drop,if_pos h,List.append_assoc]
 rfl
def uC:Option (List Nat×List Nat)→PyData
 | none=>.none
 | some p=>.tuple [.str (S p.1),.str (S p.2)]
def vG (s:aC):PyData:=.tuple [.tuple (s.pl.map fun l=>.str (S l)),.tuple (s.ts.map f6),.tuple ((d8 s).map .bool),uC s.en]
theorem u4 {E:Addr→Prop}{H:Hp}:∀{ls:List (List Nat)}{xs:List V},aw E H xs (ls.map fun l=>.str (S l))→xs=ls.map aH
 | [],_,h=>by cases h;rfl
 | l :: ls,_,h=>by
  cases h with
  | cons h r=>cases h;rw [u4 r];rfl
theorem nU {E:Addr→Prop}{H:Hp}:∀(ls:List (List Nat)),aw E H (ls.map aH) (ls.map fun l=>.str (S l))
 | []=>.nil
 | l :: ls=>.cons (.str _) (nU ls)
theorem y6 {E:Addr→Prop}{H:Hp}:∀{ls:List Bool}{xs:List V},aw E H xs (ls.map .bool)→xs=ls.map V.bl
 | [],_,h=>by cases h;rfl
 | l :: ls,_,h=>by
  cases h with
  | cons h r=>cases h;rw [y6 r];rfl
theorem ud {E:Addr→Prop}{H:Hp}:∀(ls:List Bool),aw E H (ls.map V.bl) (ls.map .bool)
 | []=>.nil
 | l :: ls=>.cons (.bl _) (ud ls)
theorem lY {E:Addr→Prop}{H:Hp}{v:V}{s:aC} (h:aB E H v (vG s)):vI fun a p t q e ys=>v=.ref a∧H a=some (.tup [.ref p,.ref t,.ref q,e])∧H p=some (.tup (s.pl.map aH))∧H t=some (.tup ys)∧aw E H ys (s.ts.map f6)∧H q=some (.tup ((d8 s).map V.bl))∧aB E H e (uC s.en):=by
 unfold vG at h
 cases h with
 | @tup a xs _ ha r=>
 cases r with
 | cons h1 r=>
 cases r with
 | cons h2 r=>
 cases r with
 | cons h3 r=>
 cases r with
 | cons h4 r=>
 cases r
 cases h1 with
 | @tup p _ _ hp rp=>
 cases h2 with
 | @tup t ys _ ht rt=>
 cases h3 with
 | @tup q _ _ hq rq=>
 rw [u4 rp] at hp
 rw [y6 rq] at hq
 exact ⟨a,p,t,q,_,ys,rfl,ha,hp,ht,rt,hq,h4⟩
theorem ub {E:Addr→Prop}{H:Hp}{a p t q:Addr}{e:V}{ys:List V}{s:aC}{bs:List Bool} (ha:H a=some (.tup [.ref p,.ref t,.ref q,e])) (hp:H p=some (.tup (s.pl.map aH))) (ht:H t=some (.tup ys)) (hy:aw E H ys (s.ts.map f6)) (hq:H q=some (.tup (bs.map V.bl))) (hb:bs=d8 s) (he:aB E H e (uC s.en)):aB E H (.ref a) (vG s):=by
 subst hb
 exact .tup ha (.cons (.tup hp (nU _)) (.cons (.tup ht hy) (.cons (.tup hq (ud _)) (.cons he .nil))))
theorem uj {E:Addr→Prop}{H:Hp}{v:V}{t:ji} (h:aB E H v (f6 t)):rO fun a m g p=>v=.ref a∧H a=some (.tup [aH t.bg,aH t.en,m,g,p])∧aB E H m (d9 t.most)∧aB E H g (d9 t.gain)∧aB E H p (d9 t.price):=by
 cases h with
 | @tup a xs _ ha r=>
 cases r with
 | cons h1 r=>
 cases r with
 | cons h2 r=>
 cases r with
 | cons h3 r=>
 cases r with
 | cons h4 r=>
 cases r with
 | cons h5 r=>
 cases r
 cases h1
 cases h2
 exact ⟨a,_,_,(),ha,h3,h4,h5⟩
theorem ES {E:Addr→Prop}{H:Hp}{v:V}{ds:List PyData} (h:aB E H v (.tuple ds)):bX fun a xs=>v=.ref a∧H a=some (.tup xs)∧aw E H xs ds:=by
 cases h with
 | tup ha r=>exact ⟨_,_,rfl,ha,r⟩
theorem kM {E:Addr→Prop}{H:Hp}:∀{ds:List PyData}{xs:List V}{d:PyData},aw E H xs (ds++[d])→bX fun ys v=>xs=ys++[v]∧aw E H ys ds∧aB E H v d
 | [],_,_,h=>by
  cases h with
  | cons h r=>cases r;exact ⟨[],_,rfl,.nil,h⟩
 | _ :: ds,_,d,h=>by
  cases h with
  | cons h r=>
   obtain ⟨ys,v,rfl,a,b⟩:=kM r
   exact ⟨_ :: ys,v,rfl,.cons h a,b⟩
inductive aI (C:Addr) (H:Hp) (r L:Addr) (sts:List aC):Prop
 | mk (dx:Addr) (xs:List V) (hr:H r=some (.ins C dx [("states",.ref L)])) (hL:H L=some (.lst xs)) (ha:aw ED H xs (sts.map vG)):aI C H r L sts
theorem aI.keep {C:Addr}{E:Addr→Prop}{H H':Hp}{r L:Addr}{sts:List aC} (h:aI C H r L sts) (s:ai E H H') (nr:¬E r) (nL:¬E L):aI C H' r L sts:=by
 obtain ⟨dx,xs,hr,hL,ha⟩:=h
 exact ⟨dx,xs,s.old _ _ nr hr,s.old _ _ nL hL,ha.tupS s⟩
theorem aI.sm {C:Addr}{H H':Hp}{r L:Addr}{sts:List aC} (h:aI C H r L sts) (s:ad H H'):aI C H' r L sts:=h.keep (E:=fun _=>False) s.toE (fun z=>z) fun z=>z
theorem aI.ne {C:Addr}{H:Hp}{r L:Addr}{sts:List aC} (h:aI C H r L sts):r≠L:=by
 obtain ⟨dx,xs,hr,hL,_⟩:=h
 exact jG hr hL (by intro z;cases z)
theorem Ch.sameE {H H1 H2:Hp}{L:Addr}{xs ys:List V} (s1:ad H H1) (hL:H1 L=some (.lst xs)) (c:Ch H1 L ys H2):ai (Eb L) H H2:=⟨fun a o n h=>c.ol a o n (s1 _ _ h),fun a zs h=>c.tup (s1 _ _ h) hL⟩
theorem aI.app {C dx:Addr}{H H1 H2:Hp}{r L:Addr}{sts:List aC}{xs:List V}{v:V}{s':aC} (hr:H r=some (.ins C dx [("states",.ref L)])) (hL:H L=some (.lst xs)) (ha:aw ED H xs (sts.map vG)) (s1:ad H H1) (hv:aB ED H1 v (vG s')) (c:Ch H1 L (xs++[v]) H2) :
 aI C H2 r L (sts++[s'])∧ai (Eb L) H H2:=by
 have hL1:=s1 _ _ hL
 have se:=Ch.sameE s1 hL1 c
 refine ⟨⟨dx,xs++[v],se.old _ _ (jG hr hL (by intro z;cases z)) hr,c.at',?_⟩,se⟩
 rw [List.map_append]
 exact (ha.tupS se).append (.cons (hv.tupC c hL1) .nil)
theorem aI.last {C:Addr}{H:Hp}{r L:Addr}{past:List aC}{cur:aC} (h:aI C H r L (past++[cur])):kZ fun dx ys v=>H r=some (.ins C dx [("states",.ref L)])∧H L=some (.lst (ys++[v]))∧aw ED H ys (past.map vG)∧aB ED H v (vG cur):=by
 obtain ⟨dx,xs,hr,hL,ha⟩:=h
 rw [List.map_append] at ha
 obtain ⟨ys,v,rfl,a,b⟩:=kM ha
 exact ⟨dx,ys,v,hr,hL,a,b⟩
def qI (C:Addr) (cl:RW→Addr) (r L:Addr) (past:List aC) (cur:aC) (D:jj) (H:Hp) (Q:VK) (E:XK):Prop:=
 (∀w,dP cur D=some w→∀H',ad H H'→E (.ref (cl w)) none H')∧
 (dP cur D=none→∀v H',ai (Eb L) H H'→aI C H' r L (sO past cur D++[sL past cur D])→aB ED H' v (uW past cur D)→Q v H')
theorem vY {D:Addr}{H1:Hp}{σc:St}{g:TG}{te:TE}{Q:VK}{J:It}{n:Nat} (F:Nat→PyData) (hz:n≤10000) (hD:H1 D=none) (hgo:∀i H',i<n→ad H1 H'→J.go i H') (hst:∀H',ad H1 H'→J.stop n H')
 (hs:∀i x H' H'' (R:VK),i<n→ad H1 H'→J.yld i H' x H''→(∀v H4,ad H' H4→aB ED H4 v (F i)→R v H4)→g x σc H'' fun σ2 H2=>jk σc σ2∧te σ2 H2 R)
 (hd:∀zs H',ad H1 H'→H' D=some (.lst zs)→aw ED H' zs ((List.range n).map F)→Q (.ref D) H'):jE J σc g tT te D H1 Q:=by
 refine io (n:=n) (fun i H' zs=>H' D=some (.lst zs)∧ad H1 H'∧aw ED H' zs ((List.range i).map F)) (gb hz) ⟨av,cX hD (ad.refl _),.nil⟩ ?_ ?_ ?_ ?_ ?_
 ·rintro i H' zs ⟨q,_,ia⟩
  exact ⟨q,by rw [ia.length];simp⟩
 ·rintro i H' zs hi ⟨_,sm,_⟩
  exact hgo i H' hi sm
 ·rintro H' zs ⟨_,sm,_⟩
  exact hst H' sm
 ·rintro i H' zs x H'' hi ⟨q,sm,ia⟩ y
  refine hs i x H' H'' _ hi sm y fun v H4 s4 dv=>?_
  have q4:=s4 _ _ q
  have tp:∀a us,H4 a=some (.tup us)→aJ H4 D (.lst (zs++[v])) a=some (.tup us):=fun a us e=>by
   rw [ax (jG e q4 (by intro z;cases z))];exact e
  refine ⟨q4,av,cX hD (sm.trans s4),?_⟩
  rw [List.range_succ,List.map_append]
  exact ((ia.mono s4.toE).mono ⟨fun _ _ n _=>absurd trivial n,tp⟩).append (.cons (dv.mono ⟨fun _ _ n _=>absurd trivial n,tp⟩) .nil)
 ·rintro H' zs ⟨q,sm,ia⟩
  exact hd zs H' sm q ia
theorem bK {H H':Hp} (k:Jy H H'):ai ED H H':=⟨fun _ _ n _=>absurd trivial n,k⟩
section
variable {H H':Hp}{d p t q z:Addr}{v:V}{es:List Ent}{past:List aC}{cur:aC}{F:List Addr}
end
section
variable {p t q z p' t' q':Addr}{v v':V}
end
theorem Bx.th {H:Hp}{b:Addr}{t:Int} (h:Bx H b t):H b≠none:=by
 obtain ⟨_,_,e,_⟩:=h
 rw [e];exact fun z=>nomatch z
theorem Bx.frm {H H':Hp}{b:Addr}{t:Int}{E:Addr→Prop} (B:Bx H b t) (s:ai E H H') (n:¬E b):Bx H' b t:=by
 obtain ⟨c1,c2,e,q1,q2,q3⟩:=B
 exact ⟨c1,c2,s.old _ _ n e,q1,q2,q3⟩
theorem ai.none {E:Addr→Prop}{H H':Hp} (s:ai E H H') {a:Addr} (n:¬E a) (h:H' a=none):H a=none:=by
 cases e:H a with
 | none=>rfl
 | some o=>rw [s.old a o n e] at h;cases h
theorem ai.imp {E E':Addr→Prop}{H H':Hp} (s:ai E H H') (k:∀a,E a→E' a):ai E' H H':=⟨fun a o n h=>s.old a o (fun z=>n (k a z)) h,s.tup⟩
section
variable {C:Addr}{H H' H0 H1 H2:Hp}{r L d b:Addr}{F F' F0 F1 F2:List Addr}{past:List aC}{cur:aC}{N M:Nat}{E:Addr→Prop}
end
theorem IK {α:Type}{P:List α→Prop} (h:∀a b c d e f,P [a,b,c,d,e,f]):∀us:List α,us.length=6→P us:=fun us hl=>by
 cases us with
 | nil=>cases hl
 | cons a r=>exact Hd (P:=fun r=>P (a :: r)) (fun b c d e f=>h a b c d e f) r (by simpa using hl)
section
variable {X:Cx}{body suite:List Stmt}{b0:Stmt}{x:Str}{hpos pos np:Pos}{tb:(St→XK)→TS}{th:TS}{Cc:Addr}
end
section
variable {X:Cx}{CX:kf}{k:Nat}{f C:Addr}{fd:FuncData}{ps:List Str}{sp:Sp}{EE:St→XK}{m:Str}{pos apos:Pos}{e o:Expr}{es:List Expr}{ta:TE}{t:TA}
end
section
variable {C:Addr}{H H' H0:Hp}{P E:Addr→Prop}{xs:List PairAt}{N M:Nat}{x y:PairAt}{i:Nat}
end
section
variable {C:Addr}{H2 H H':Hp}{b s o nl:Addr}{ls:List (List Nat)}{xs:List PairAt}{N M:Nat}{t t':Int}{x y:PairAt}{i:Nat}
end
end L2
namespace L2
open PySem PySem.Spec PyProof.Rows PySem.NumText
end L2
namespace L2
open PySem PySem.Spec PyProof.Rows
section
variable {X:Cx}
end
end L2
namespace L2
open PySem PySem.Spec PyProof.Rows PySem.NumText
theorem wU {K:PySem.W.Frag}{a:Addr}{c:Bool}{xs:List V}{g:TG}{tb:TS}{D:fV}{σ:St}{H:Hp} (Pv:Nat→St→Hp→Prop) (h0:Pv 0 σ H) (hl:∀i σ H,i≤xs.length→Pv i σ H→iZ K H a xs c)
 (hs:∀i x T σ H,xs[i]?=some x→H T=none→Pv i σ H→g (.ref T) σ (aJ H T (.tup [.int (i:Int),x])) fun σ2 H2=>tb { D with nx:=Pv (i+1),ct:=Pv (i+1),bk:=D.nx } σ2 H2) (hd:∀σ H,Pv xs.length σ H→D.nx σ H) :
 ∃W:Nat→Nat→St→Hp→Prop,(∃m,W 0 m σ H)∧∀i m σ H,W i m σ H→
  ((yg K a c).stop i H∧D.nx σ H)∨((yg K a c).go i H∧∃N:St→Hp→Prop,(∀σ' H',N σ' H'→∃m',m'<m∧W (i+1) m' σ' H')∧∀x H',(yg K a c).yld i H x H'→g x σ H' fun σ2 H2=>tb { D with nx:=N,ct:=N,bk:=D.nx } σ2 H2):=by
 refine ⟨fun i m σ H=>m=xs.length - i∧i≤xs.length∧Pv i σ H,⟨xs.length,by simp,Nat.zero_le _,h0⟩,?_⟩
 rintro i m σ H ⟨rfl,hi,p⟩
 have q1:=hl i σ H hi p
 by_cases hlt:i<xs.length
 ·refine .inr ⟨⟨xs,xs[i],q1,by simp [hlt]⟩,Pv (i+1),fun σ' H' p'=>⟨xs.length - (i+1),by trivial,rfl,hlt,p'⟩,fun x H' y=>?_⟩
  obtain ⟨T,u,hT,rfl,rfl,e1⟩:=y
  exact hs i u T σ H (e1 xs q1) hT p
 ·have e:i=xs.length:=by trivial
  subst e
  exact .inl ⟨⟨xs,q1,rfl⟩,hd _ _ p⟩
section
variable {X:Cx}
end
section
variable {X:Cx}
end
end L2
namespace L2
open PySem PySem.Spec PyProof.Rows PySem.NumText
section
variable {X:Cx}
end
end L2
namespace KM
variable {ls:List (List Nat)}{es done:List Edge}{W u u':List Nat→Rat}{S:List (List Nat)}{q:List Nat}{m:Rat}
end KM
namespace L2
open PySem PySem.Spec PyProof.Rows
section
variable {X:Cx}
def FJ (C:Addr) (sp:Sp) (t:TA):TE:=fun σ H Q=>t σ H fun vs H0=>∀x dx H1,H0 x=none→ad H0 H1→H1 x=some (.ins C dx [])→sp (.ref x :: vs) H1 (fun v H2=>v=.non∧Q (.ref x) H2) E0
theorem CV {CX:kf}{k:Nat}{f C:Addr}{fd:FuncData}{ps:List Str}{sp:Sp}{x:Str}{p pos:Pos}{e:Expr}{es:List Expr}{t:TA} (M:Mk X.K C f) (F:aD X.prog X.w X.K X.mg X.base CX k f fd ps sp) (hr:cL (k+1) X.A) (hg:Gl X x) (hm:X.mg x=some (.ref C)) (hb:bj X.K fd ps []) (hx:iy CX X E0)
 (ha:PA X (e :: es) t) (hdb:(x==("__debug__" : Str))=false:=by decide) (he:starEach (e :: es) X.env=(false,eval e X.env) :: starEach es X.env:=by rfl) (hpl:(backTo pos (starEach es X.env)).any (·.1)=false:=by rfl):PE X (.Call (.Name x p) (e :: es) [] pos) (FJ C sp t):=by
 intro pins s σ H Q I h
 refine wpAny_Call_Name_kw (qe I hg hm ?_ hdb)
 refine PySem.W.callWith_K (h₀:=X.base) I.ok.mod.kin M.kp (aR (ha pos pins s σ H _ I h) fun us s1 ⟨vs,H1,I1,r,q⟩=>⟨I1.kIn,?_⟩) he hpl
 refine xH (ds:=[]) (dvs:=[]) M F hr hb .nil hx I1 r fun x dx hx hd ne=>?_
 rw [List.append_nil]
 refine q x dx _ hx (fun a o e=>?_) (by rw [av])
 rw [ax (aK e hx),ax (aK e hd)]
 exact e
end
theorem vi:fillsNumberSlot (.type "tuple") "mul" = pure false:=
 PySem.fillsNumberSlot_seq (id := "tuple.__mul__") (r:=some (.builtin "tuple.__rmul__")) F.slot_tuple_mul.lookup (by nofun) F.slot_tuple_rmul.lookup (by nofun)
theorem yk:seqRepeat? (.type "tuple")=pure (some (.builtin "tuple.__mul__")):=by
 unfold seqRepeat?
 rw [PySem.seqSlot_of (T := "tuple") (name := "__mul__") (id := "tuple.__mul__") F.slot_tuple_mul.lookup (by nofun),PySem.seqSlot_of (T := "tuple") (name := "__rmul__") (id := "tuple.__rmul__") F.slot_tuple_rmul.lookup (by nofun)]
 rfl
theorem wq (a:Int) (t:Tok) (l:Addr) (items:Array Value) (n:Nat) (dd:Option Addr) (sl) :
 Meets (Builtin.«int.__rmul__» ⟨[.int a t,.ref l],[]⟩) (fun _ R s=>s.heap.get? l=some { cls:=.type "tuple",dict:=dd,data:=.seq items n,slots:=sl }∧R (.ok (.ret Value.notImplemented)) s):=
 .of_wp fun prog w A R s h=>by obtain ⟨hp,g,d,tk,os⟩:=s;obtain ⟨hl,h⟩:=h;wp_walk;exact ⟨_,rfl,h⟩
theorem Aj (l:Addr) (items:Array Value) (n:Nat) (dd:Option Addr) (sl) (t:Tok) :
 Meets (Builtin.«tuple.__mul__» ⟨[.ref l,.int 1 t],[]⟩) (fun _ R s=>s.heap.get? l=some { cls:=.type "tuple",dict:=dd,data:=.seq items n,slots:=sl }∧R (.ok (.ret (.ref l))) s):=
 .of_wp fun prog w A R s h=>by obtain ⟨hp,g,d,tk,os⟩:=s;obtain ⟨hl,h⟩:=h;wp_walk;exact ⟨_,rfl,h⟩
theorem AB (l:Addr) (x:Value) (items:List Value) (n:Nat) (dd:Option Addr) (sl) (t:Tok) :
 Meets (Builtin.«tuple.__mul__» ⟨[.ref l,.int 0 t],[]⟩) (fun _ R s=>s.heap.get? l=some { cls:=.type "tuple",dict:=dd,data:=.seq (x :: items).toArray n,slots:=sl }∧R (.ok (.ret (.ref s.heap.objs.size))) { s with heap:=s.heap.push { cls:=.type "tuple",data:=.seq #[] } }):=
 .of_wp fun prog w A R s h=>by obtain ⟨hp,g,d,tk,os⟩:=s;obtain ⟨hl,h⟩:=h;wp_walk;exact ⟨_,rfl,h⟩
section
variable {X:Cx}
inductive GG (x:V) (y:V) (H:Hp) (Q:VK):Prop
 | mk (l:_) (k:_) (z:_) (zs:_) (h0:x=.ref l) (h1:y=.int k) (h2:H l=some (.tup (z :: zs))) (h3:(k=0∨k=1)) (h4:∀p H',ad H H'→H' p=some (.tup (if k=1 then z :: zs else []))→Q (.ref p) H')
def HW:R2:=fun x y H Q=>GG  x y H Q
theorem EQ:cz X (binaryOp .Mult) HW:=by
 intro pins s σ H x y v u Q I rx ry h
 obtain ⟨l,k,z,zs,rfl,rfl,hH,hk,q⟩:=h
 cases rx
 obtain ⟨t,rfl⟩:=ry
 obtain ⟨its,r1,p1,_⟩:=I.tuple (ae.of (K:=X.K) hH)
 obtain ⟨⟨cls,dd,data,sl⟩,ho,hc,n,hd⟩:=id p1
 simp only at hc hd
 subst hc hd
 refine wpAny_binaryOp_repeat_ref (T := "tuple") (U := "int") (by decide) ⟨_,ho,rfl⟩ (fun s'=>typeIs_int s' k t) vi F.fills_int_mul F.slot_int_rmul yk F.slot_int_index.lookup
  (call_meets F.slot_int_rmul (typeIs_int s k t) F.entry_int_rmul (F.args_int_rmul_2 _ _) (wq k t l its.toArray n dd sl) ⟨ho,rfl,⟨_,ho,rfl⟩,?_⟩)
 rcases hk with rfl | rfl
 ·cases r1 with
  | @cons _ u0 _ us r0 rr=>
  refine call_meets F.slot_tuple_mul ⟨_,ho,rfl⟩ F.entry_tuple_mul (F.args_tuple_mul_2 _ _) (AB l u0 us n dd sl t) ⟨ho,?_⟩
  have I2:aj X pins σ (aJ H s.heap.objs.size (.tup [])) { s with heap:=s.heap.push { cls:=.type "tuple",data:=.seq #[] } }:=
   I.laid (t':=s.toks) (fun b o e=>Heap.get?_push_of_some _ e) (Nat.le_refl _) (show b6 X.prog X.w _ _ _ (.tup []) from ⟨Nat.zero_le _,[],.nil,IsTup.new _ _,_,Heap.get?_push_size _ rfl,rfl⟩)
  exact ⟨.ref _,_,I2,rfl,q _ _ (ad.new I.fresh) av⟩
 ·exact call_meets F.slot_tuple_mul ⟨_,ho,rfl⟩ F.entry_tuple_mul (F.args_tuple_mul_2 _ _) (Aj l its.toArray n dd sl t) ⟨ho,.ref l,H,I,rfl,q l H (ad.refl _) hH⟩
end
end L2
namespace L2
open PySem PySem.Spec PyProof.Rows
structure Cd (k:Nat) (d:PyData):Prop where
 can:d.canLay0=true
 dep:d.depth≤k
theorem Cd.mono {k l:Nat}{d:PyData} (h:Cd k d) (m:k≤l):Cd l d:=⟨h.can,Nat.le_trans h.dep m⟩
theorem Cd.of {d:PyData}{n k:Nat} (h:Wt d n k):Cd k d:=⟨h.can,h.dep⟩
theorem Cd.non:Cd 0 .none:=.of (n:=1) .non
theorem Cd.bl (b:Bool):Cd 0 (.bool b):=.of (n:=1) (.bl b)
theorem Cd.int (i:Int):Cd 0 (.int i):=⟨by simp [PyData.canLay0],Nat.le_of_eq rfl⟩
def Nm (l:List Nat):Prop:=∀c∈l,c<128
theorem Cd.str {l:List Nat} (h:Nm l):Cd 0 (.str (S l)):=by
 refine ⟨?_,(Wt.str (x:=S []) (k:=0) ⟨by decide,by decide⟩).dep⟩
 simp only [PyData.canLay0]
 unfold PySem.PyData.strOk
 rw [Array.all_eq_true]
 intro i hi
 have:=h ((S l).cps[i]) (by
  have e:=A7 l
  have m:(S l).cps[i]∈(S l).cps.toList:=by simp
  rw [e] at m
  exact m)
 simp
 trivial
theorem tI {k:Nat}:∀{ds:List PyData},(∀d∈ds,Cd k d)→PyData.canLayAll0 ds=true∧(PyData.tuple ds).depth≤k+1∧(PyData.list ds).depth≤k+1
 | [],_=>⟨by simp [PyData.canLayAll0],Nat.le_trans (Wt.tuple (k:=0) mw.nil).dep (by trivial),Nat.le_trans (Wt.list (k:=0) mw.nil).dep (by trivial)⟩
 | d :: ds,h=>by
  obtain ⟨a,b,c⟩:=tI (ds:=ds) fun x hx=>h x (List.mem_cons_of_mem _ hx)
  have h0:=h d (List.mem_cons_self ..)
  have h1:=h0.dep
  refine ⟨by simp only [PyData.canLayAll0,Bool.and_eq_true];exact ⟨h0.can,a⟩,?_,?_⟩
  ·simp only [PyData.depth,PyData.depthAll] at b ⊢
   trivial
  ·simp only [PyData.depth,PyData.depthAll] at c ⊢
   trivial
theorem Cd.tup {k:Nat}{ds:List PyData} (h:∀d∈ds,Cd k d):Cd (k+1) (.tuple ds):=⟨by simp only [PyData.canLay0];exact (tI h).1,(tI h).2.1⟩
theorem Cd.lst {k:Nat}{ds:List PyData} (h:∀d∈ds,Cd k d):Cd (k+1) (.list ds):=⟨by simp only [PyData.canLay0];exact (tI h).1,(tI h).2.2⟩
theorem Cd.fr (p:KM.Fra):Cd 1 (d9 p):=.tup fun d hd=>by
 simp only [List.mem_cons,List.not_mem_nil,or_false] at hd
 rcases hd with rfl | rfl <;> exact .int _
theorem Cd.tie {t:ji} (h:Nm t.bg∧Nm t.en):Cd 2 (f6 t):=.tup fun d hd=>by
 simp only [List.mem_cons,List.not_mem_nil,or_false] at hd
 rcases hd with rfl | rfl | rfl | rfl | rfl
 ·exact (Cd.str h.1).mono (by trivial)
 ·exact (Cd.str h.2).mono (by trivial)
 all_goals exact Cd.fr _
section
variable {X:Cx}
inductive GP (b:Bool) (x:V) (y:V) (H:Hp) (Q:VK):Prop
 | mk (d:PyData) (E F:Addr→Prop) (h0:aB E H x d) (h1:aB F H y d) (h2:Cd 60 d) (h3:Q (.bl b) H)
def DG (b:Bool):R2:=fun x y H Q=>GP b x y H Q
theorem zj (hu:X.A.units+64<cLine):cz X (compareOp .Eq) (DG true):=by
 intro pins s σ H x y v u Q I rx ry h
 obtain ⟨d,E,F,hd,he,c,q⟩:=h
 obtain ⟨as,ra⟩:=hd.reads I.hok rx
 obtain ⟨bs,rb⟩:=he.reads I.hok ry
 refine PySem.SeqAt.compareEq_reads ra rb c.can c.can (by have:=c.dep;trivial) ⟨.bl true,H,I,?_,q⟩
 rw [PySem.SeqAt.eqv_refl d c.can]
 rfl
theorem ug (hu:X.A.units+64<cLine):cz X (compareOp .NotEq) (DG false):=by
 intro pins s σ H x y v u Q I rx ry h
 obtain ⟨d,E,F,hd,he,c,q⟩:=h
 obtain ⟨as,ra⟩:=hd.reads I.hok rx
 obtain ⟨bs,rb⟩:=he.reads I.hok ry
 refine PySem.SeqAt.compareNe_reads ra rb c.can c.can (by have:=c.dep;trivial) ⟨.bl false,H,I,?_,q⟩
 rw [PySem.SeqAt.eqv_refl d c.can]
 rfl
end
end L2
set_option maxHeartbeats 4000000
open L2
local macro_rules | `(#[$n:num,$i:ident])=>`(@pw _ $n _ _ (Or.inl $i) (by rfl) (by decide) (by decide)) | `(#[$n:num,($i:ident)])=>`(@pw _ $n _ _ (Or.inr (Or.inl $i)) (by rfl) (by decide) (by decide))
local macro_rules | `(#[$n:num,()])=>`(@pw _ $n _ _ (Or.inl (by kernel_rfl)) (by rfl) (by decide) (by decide)) | `(#[$n:num,0])=>`(@pw _ $n _ _ (Or.inr (Or.inl (by kernel_rfl))) (by rfl) (by decide) (by decide)) | `(#[$n:num,1])=>`(@pw _ $n _ _ (Or.inr (Or.inr (by kernel_rfl))) (by rfl) (by decide) (by decide))
local macro_rules | `(#[()])=>`(@bC _ _ _ _) | `(#[(),()])=>`(@oy _ _ (by decide) (by decide))
local macro_rules | `(#[[$a]])=>`(@FY _ _ _ _ _ $a (@aY _) rfl) | `(#[[$a,$b,*]])=>`(@FY _ _ _ _ _ $a #[[$b,*]] rfl)
local macro_rules | `(#[$a[$b]])=>`(@gK _ _ _ _ _ _ _ (@Hl _ ($(Lean.mkIdent `K)) (by rfl)) $a $b (fun _ _=>rfl)) | `(#[$a[$b]!])=>`(@gK _ _ _ _ _ _ _ (@HS _ ($(Lean.mkIdent `K)) (by rfl)) $a $b (fun _ _=>rfl))
local macro_rules | `(#[$g:ident,$k:ident,$t:term,$a:term])=>`(@iS _ _ _ _ _ _ _ _ _ _ _ _ _ _ _ _ $g ($(Lean.mkIdent `hr).mono (by decide)) $k ($t).m ($t).F.kp ($t).B .nil (@cT _) $a (by decide) (by rfl) (by rfl))
local macro_rules | `(#[$g:ident,(),$t:term,$a:term])=>`(@iS _ _ _ _ _ _ _ _ _ _ _ _ _ _ _ _ $g ($(Lean.mkIdent `hr).mono (by decide)) (by show _=_;kernel_rfl) ($t).m ($t).F.kp ($t).B .nil (@cT _) $a (by decide) (by rfl) (by rfl))
local macro_rules | `(#[$n:num,$s:term,$i:ident,$v:term])=>`(@qB _ _ ($n) _ _ _ _ $s rfl (Or.inl $i) $v (by rfl) (by first | exact .inl rfl | exact .inr rfl | assumption))
local macro_rules | `(#[$n:num,$s:term,$i:ident])=>`(@j7 _ _ ($n) _ $s rfl (Or.inl $i) (by first | exact .inl rfl | exact .inr rfl | assumption)) | `(#[$n:num,(),()])=>`(@j7 _ _ ($n) _ (@Bn _ (by kernel_rfl)) rfl (Or.inl (by kernel_rfl)) (by first | exact .inl rfl | exact .inr rfl | assumption))
local macro_rules | `(#[(),(),$a,$b,$c,$d,$e])=>`(@gI _ _ _ _ _ _ _ _ _ $a $b $c $d $e (by decide) (by decide) (by rfl) (by rfl))
local macro_rules | `(#[$a :: $b])=>`(@dX _ _ _ _ _ $a $b)
local macro_rules | `(#[$f:ident $n:num $a*])=>do
 let us ←(Array.range n.getNat).mapM fun _=>`(_)
 `(@$f $us* $a*)
local macro_rules | `(#[($f:ident)])=>`($f ($(Lean.mkIdent `P):ident:=$(Lean.mkIdent `P)) ($(Lean.mkIdent `w):ident:=$(Lean.mkIdent `w)) ($(Lean.mkIdent `base):ident:=$(Lean.mkIdent `base)) $(Lean.mkIdent `T))
namespace K72
open PySem L2
theorem pQ:ar ["_law_script", "_law_k", "_law_cell"] ["_law_script", "_law_k"] (ah qP):=⟨rfl,rfl,rfl,by nofun,rfl,by nofun,by nofun⟩
theorem tD:ar ["_law_box", "_law_many", "_law_found", "_law_once"] ["_law_box", "_law_many"] (ah u6):=⟨rfl,rfl,rfl,by nofun,rfl,by nofun,by nofun⟩
theorem lS:ar ["_law_script", "_law_many", "_law_cells", "_law_k", "_law_cell"] ["_law_script", "_law_many"] (ah qL):=⟨rfl,rfl,rfl,by nofun,rfl,by nofun,by nofun⟩
theorem pE:ar ["_law_n", "_law_d", "_law_one", "_law_other"] ["_law_n", "_law_d"] (ah qV):=⟨rfl,rfl,rfl,by nofun,rfl,by nofun,by nofun⟩
theorem d6:ar ["_law_box", "_law_many", "_law_letters", "_law_first", "_law_k", "_law_row", "_law_found", "_law_more"] ["_law_box", "_law_many"] (ah bV):=⟨rfl,rfl,rfl,by nofun,rfl,by nofun,by nofun⟩
theorem nG:ar ["_law_box", "_law_way", "_law_wide"] ["_law_box"] (ah eQ):=⟨rfl,rfl,rfl,by nofun,rfl,by nofun,by nofun⟩
theorem tu:ar ["_law_box", "_law_way"] ["_law_box"] (ah fX):=⟨rfl,rfl,rfl,by nofun,rfl,by nofun,by nofun⟩
theorem rE:ar ["_law_box", "_law_way"] ["_law_box"] (ah eY):=⟨rfl,rfl,rfl,by nofun,rfl,by nofun,by nofun⟩
theorem rD:ar ["_law_state", "_law_ties", "_law_number", "_law_tie"] ["_law_state"] (ah iL):=⟨rfl,rfl,rfl,by nofun,rfl,by nofun,by nofun⟩
theorem yO:ar ["_law_roads", "_law_state"] ["_law_roads", "_law_state"] (ah fJ):=⟨rfl,rfl,rfl,by nofun,rfl,by nofun,by nofun⟩
theorem fK:ar ["_law_box", "_law_roads", "_law_places", "_law_rows", "_law_k", "_law_name", "_law_number", "_law_first", "_law_tie"] ["_law_box", "_law_roads"] (ah bI):=⟨rfl,rfl,rfl,by nofun,rfl,by nofun,by nofun⟩
theorem bN:ar ["_law_box", "_law_roads", "_law_state", "_law_names", "_law_ties", "_law_shut", "_law_ends", "_law_way", "_law_number", "_law_told", "_law_part", "_law_tie", "_law_first"] ["_law_box", "_law_roads", "_law_state"] (ah bG):=⟨rfl,rfl,rfl,by nofun,rfl,by nofun,by nofun⟩
theorem qz:ar ["_law_roads", "_law_rows", "_law_many", "_law_turn"] ["_law_roads", "_law_rows", "_law_many"] (ah cr):=⟨rfl,rfl,rfl,by nofun,rfl,by nofun,by nofun⟩
theorem cq:ar ["_law_box", "_law_roads", "_law_rows", "_law_many", "_law_at", "_law_twin", "_law_held", "_law_turn", "_law_state"] ["_law_box"] (ah aF):=⟨rfl,rfl,rfl,by nofun,rfl,by nofun,by nofun⟩
theorem lM:ar ["_law_box", "_law_places", "_law_ties", "_law_number", "_law_opens", "_law_first", "_law_tie"] ["_law_box"] (ah cP):=⟨rfl,rfl,rfl,by nofun,rfl,by nofun,by nofun⟩
theorem oU:ar ["_law_run", "_law_day_here", "_law_state", "_law_opens"] ["_law_run", "_law_day_here", "_law_state"] (ah b8):=⟨rfl,rfl,rfl,by nofun,rfl,by nofun,by nofun⟩
theorem bJ:ar ["_law_box", "_law_day_here", "_law_run", "_law_rows", "_law_many", "_law_at", "_law_turn", "_law_hour", "_law_shut", "_law_number"] ["_law_box"] (ah aQ):=⟨rfl,rfl,rfl,by nofun,rfl,by nofun,by nofun⟩
theorem vF:ar ["_law_script", "_law_cells", "_law_k", "_law_box"] ["_law_script"] (ah ic):=⟨rfl,rfl,rfl,by nofun,rfl,by nofun,by nofun⟩
theorem vt:ar ["self", "place"] ["self", "place"] (ah kN):=⟨rfl,rfl,rfl,by nofun,rfl,by nofun,by nofun⟩
theorem tL:ar ["self"] ["self"] (ah gc):=⟨rfl,rfl,rfl,by nofun,rfl,by nofun,by nofun⟩
theorem du:ar ["self", "name", "places", "ties", "shuts", "ends"] ["self", "name"] (ah bD):=⟨rfl,rfl,rfl,by nofun,rfl,by nofun,by nofun⟩
theorem eh:ar ["self", "begin", "end", "most", "gain", "price", "places", "ties", "shuts", "ends"] ["self", "begin", "end", "most", "gain", "price"] (ah aS):=⟨rfl,rfl,rfl,by nofun,rfl,by nofun,by nofun⟩
theorem xK:ar ["places", "begin", "end"] ["places", "begin", "end"] (ah f7):=⟨rfl,rfl,rfl,by nofun,rfl,by nofun,by nofun⟩
theorem sX:ar ["self", "number", "most"] ["self", "number", "most"] (ah cZ):=⟨rfl,rfl,rfl,by nofun,rfl,by nofun,by nofun⟩
theorem sY:ar ["self", "number", "gain"] ["self", "number", "gain"] (ah db):=⟨rfl,rfl,rfl,by nofun,rfl,by nofun,by nofun⟩
theorem rY:ar ["self", "number", "price"] ["self", "number", "price"] (ah cO):=⟨rfl,rfl,rfl,by nofun,rfl,by nofun,by nofun⟩
theorem wb:ar ["self", "number"] ["self", "number"] (ah gR):=⟨rfl,rfl,rfl,by nofun,rfl,by nofun,by nofun⟩
theorem uR:ar ["self", "number"] ["self", "number"] (ah fE):=⟨rfl,rfl,rfl,by nofun,rfl,by nofun,by nofun⟩
theorem dO:ar ["self", "begin", "end", "places", "ties", "shuts", "ends"] ["self", "begin", "end"] (ah bt):=⟨rfl,rfl,rfl,by nofun,rfl,by nofun,by nofun⟩
theorem wm:ar ["self"] ["self"] (ah jH):=⟨rfl,rfl,rfl,by nofun,rfl,by nofun,by nofun⟩
theorem gW:ar ["self", "places", "ties", "shuts", "ends"] ["self"] (ah cE):=⟨rfl,rfl,rfl,by nofun,rfl,by nofun,by nofun⟩
theorem AZ:ar ["parts", "at", "part"] ["parts", "at", "part"] (ah lD):=⟨rfl,rfl,rfl,by nofun,rfl,by nofun,by nofun⟩
theorem wL:ar ["self"] ["self"] (ah jF):=⟨rfl,rfl,rfl,by nofun,rfl,by nofun,by nofun⟩
theorem mS:ar ["self", "number", "shuts"] ["self", "number"] (ah cK):=⟨rfl,rfl,rfl,by nofun,rfl,by nofun,by nofun⟩
theorem xW:ar ["ties", "number"] ["ties", "number"] (ah fW):=⟨rfl,rfl,rfl,by nofun,rfl,by nofun,by nofun⟩
theorem vJ:ar ["self"] ["self"] (ah gg):=⟨rfl,rfl,rfl,by nofun,rfl,by nofun,by nofun⟩
theorem qu:ar ["self", "other"] ["self"] (ah dZ):=⟨rfl,rfl,rfl,by nofun,rfl,by nofun,by nofun⟩
theorem sf:ar ["self", "day"] ["self", "day"] (ah cQ):=⟨rfl,rfl,rfl,by nofun,rfl,by nofun,by nofun⟩
theorem wx:ar ["self"] ["self"] (ah gU):=⟨rfl,rfl,rfl,by nofun,rfl,by nofun,by nofun⟩
theorem tG:ar ["self", "number"] ["self", "number"] (ah c9):=⟨rfl,rfl,rfl,by nofun,rfl,by nofun,by nofun⟩
theorem vT:ar ["self", "number"] ["self", "number"] (ah gp):=⟨rfl,rfl,rfl,by nofun,rfl,by nofun,by nofun⟩
theorem um:ar ["self", "number"] ["self", "number"] (ah fh):=⟨rfl,rfl,rfl,by nofun,rfl,by nofun,by nofun⟩
theorem bL:ar ["self", "sent", "kept", "drawn", "shuts", "passed", "amounts", "mosts", "fresh", "book", "place"] ["self", "sent", "kept", "drawn"] (ah au):=⟨rfl,rfl,rfl,by nofun,rfl,by nofun,by nofun⟩
theorem mU:ar ["day", "passed", "sent", "kept", "drawn"] ["day", "passed"] (ah eR):=⟨rfl,rfl,rfl,by nofun,rfl,by nofun,by nofun⟩
theorem yL:ar ["day", "passed", "part", "number"] ["day", "passed", "part", "number"] (ah kH):=⟨rfl,rfl,rfl,by nofun,rfl,by nofun,by nofun⟩
theorem jJ:ar ["day", "shuts", "now", "sent", "kept", "drawn"] ["day", "shuts", "now"] (ah cW):=⟨rfl,rfl,rfl,by nofun,rfl,by nofun,by nofun⟩
theorem yR:ar ["day", "tie", "hour"] ["day", "tie", "hour"] (ah iV):=⟨rfl,rfl,rfl,by nofun,rfl,by nofun,by nofun⟩
theorem pj:ar ["one", "other", "left", "right"] ["one", "other"] (ah gC):=⟨rfl,rfl,rfl,by nofun,rfl,by nofun,by nofun⟩
theorem uF:ar ["day", "book", "place", "hour", "share", "left"] ["day", "book", "place", "hour", "share"] (ah cg):=⟨rfl,rfl,rfl,by nofun,rfl,by nofun,by nofun⟩
theorem yq:ar ["day", "place", "hour"] ["day", "place", "hour"] (ah js):=⟨rfl,rfl,rfl,by nofun,rfl,by nofun,by nofun⟩
theorem o8:ar ["parts", "total", "part"] ["parts"] (ah jN):=⟨rfl,rfl,rfl,by nofun,rfl,by nofun,by nofun⟩
theorem Cs:ar ["one", "other"] ["one", "other"] (ah nh):=⟨rfl,rfl,rfl,by nofun,rfl,by nofun,by nofun⟩
theorem pJ:ar ["n", "d", "divisor"] ["n", "d"] (ah gO):=⟨rfl,rfl,rfl,by nofun,rfl,by nofun,by nofun⟩
theorem mK:ar ["n", "d"] ["n", "d"] (ah jL):=⟨rfl,rfl,rfl,by nofun,rfl,by nofun,by nofun⟩
theorem C5:ar ["one", "other"] ["one", "other"] (ah nn):=⟨rfl,rfl,rfl,by nofun,rfl,by nofun,by nofun⟩
theorem km:ar ["day", "book", "place", "hour", "sent", "kept", "drawn", "parts"] ["day", "book", "place", "hour"] (ah dR):=⟨rfl,rfl,rfl,by nofun,rfl,by nofun,by nofun⟩
theorem bx:ar ["day", "book", "place", "hour", "sent", "kept", "drawn", "parts", "row", "begin", "end", "most", "gain", "price", "late", "opens", "spot", "keep"] ["day", "book", "place", "hour"] (ah aW):=⟨rfl,rfl,rfl,by nofun,rfl,by nofun,by nofun⟩
theorem CT:ar ["one", "other"] ["one", "other"] (ah nq):=⟨rfl,rfl,rfl,by nofun,rfl,by nofun,by nofun⟩
theorem wo:ar ["thing", "most"] ["thing", "most"] (ah dY):=⟨rfl,rfl,rfl,by nofun,rfl,by nofun,by nofun⟩
theorem uo:ar ["thing"] ["thing"] (ah fj):=⟨rfl,rfl,rfl,by nofun,rfl,by nofun,by nofun⟩
theorem lf:ar ["thing", "n", "d"] ["thing"] (ah b3):=⟨rfl,rfl,rfl,by nofun,rfl,by nofun,by nofun⟩
theorem xV:ar ["thing"] ["thing"] (ah fZ):=⟨rfl,rfl,rfl,by nofun,rfl,by nofun,by nofun⟩
theorem vP:ar ["self"] ["self"] (ah gq):=⟨rfl,rfl,rfl,by nofun,rfl,by nofun,by nofun⟩
theorem vz:ar ["self"] ["self"] (ah gj):=⟨rfl,rfl,rfl,by nofun,rfl,by nofun,by nofun⟩
theorem dL:ar ["self", "number", "at", "part", "places", "ties", "shuts", "ends"] ["self", "number", "at", "part"] (ah bc):=⟨rfl,rfl,rfl,by nofun,rfl,by nofun,by nofun⟩
theorem dM:ar ["self", "number", "whether", "places", "ties", "shuts", "ends"] ["self", "number", "whether"] (ah bd):=⟨rfl,rfl,rfl,by nofun,rfl,by nofun,by nofun⟩
theorem gm:ar ["self", "number", "whether", "shuts", "passed"] ["self", "number", "whether"] (ah aZ):=⟨rfl,rfl,rfl,by nofun,rfl,by nofun,by nofun⟩
end K72
namespace K72
open PySem L2
set_option genInjectivity false in
set_option genSizeOf false in
structure Df (K:PySem.W.Frag) (mg:Str→Option Value) (x:Str) (st:Stmt) (ps:List Str) where
 f:Addr
 d:FuncData
 m:mg x=some (.ref f)
 F:dC K x x st f d
 B:bj K d ps []
set_option genInjectivity false in
set_option genSizeOf false in
structure Txt (K:PySem.W.Frag) (mg:Str→Option Value) where
 b_abs:mg "abs" = none
 b_all:mg "all" = none
 b_bool:mg "bool" = none
 b_divmod:mg "divmod" = none
 b_enumerate:mg "enumerate" = none
 b_int:mg "int" = none
 b_isinstance:mg "isinstance" = none
 b_len:mg "len" = none
 b_list:mg "list" = none
 b_range:mg "range" = none
 b_tuple:mg "tuple" = none
 b_zip:mg "zip" = none
 l_box_of_:Df K mg "_law_box_of" qP ["_law_script", "_law_k"]
 l_take_:Df K mg "_law_take" u6 ["_law_box", "_law_many"]
 l_folded_:Df K mg "_law_folded" qL ["_law_script", "_law_many"]
 l_lowest_:Df K mg "_law_lowest" qV ["_law_n", "_law_d"]
 l_names_by_:Df K mg "_law_names_by" bV ["_law_box", "_law_many"]
 l_gain_by_:Df K mg "_law_gain_by" eQ ["_law_box"]
 l_most_by_:Df K mg "_law_most_by" fX ["_law_box"]
 l_price_by_:Df K mg "_law_price_by" eY ["_law_box"]
 l_net_:Df K mg "_law_net" iL ["_law_state"]
 l_stands_:Df K mg "_law_stands" fJ ["_law_roads", "_law_state"]
 l_begun_:Df K mg "_law_begun" bI ["_law_box", "_law_roads"]
 l_deed_:Df K mg "_law_deed" bG ["_law_box", "_law_roads", "_law_state"]
 l_gone_back_:Df K mg "_law_gone_back" cr ["_law_roads", "_law_rows", "_law_many"]
 l_roads_right_:Df K mg "_law_roads_right" aF ["_law_box"]
 l_day_:Df K mg "_law_day" cP ["_law_box"]
 l_day_stands_:Df K mg "_law_day_stands" b8 ["_law_run", "_law_day_here", "_law_state"]
 l_day_right_:Df K mg "_law_day_right" aQ ["_law_box"]
 law_:Df K mg "law" ic ["_law_script"]
 f_Lacking__init:Addr
 d_Lacking__init:FuncData
 F_Lacking__init:dC K "__init__" "Lacking.__init__" kN f_Lacking__init d_Lacking__init
 B_Lacking__init:bj K d_Lacking__init ["self", "place"] []
 f_Roads____init__:Addr
 d_Roads____init__:FuncData
 F_Roads____init__:dC K "__init__" "Roads.__init__" gc f_Roads____init__ d_Roads____init__
 B_Roads____init__:bj K d_Roads____init__ ["self"] []
 f_Roads__add_place:Addr
 d_Roads__add_place:FuncData
 F_Roads__add_place:dC K "add_place" "Roads.add_place" bD f_Roads__add_place d_Roads__add_place
 B_Roads__add_place:bj K d_Roads__add_place ["self", "name"] []
 f_Roads__add_tie:Addr
 d_Roads__add_tie:FuncData
 F_Roads__add_tie:dC K "add_tie" "Roads.add_tie" aS f_Roads__add_tie d_Roads__add_tie
 B_Roads__add_tie:bj K d_Roads__add_tie ["self", "begin", "end", "most", "gain", "price"] []
 check_two_:Df K mg "check_two" f7 ["places", "begin", "end"]
 f_Roads__set_most:Addr
 d_Roads__set_most:FuncData
 F_Roads__set_most:dC K "set_most" "Roads.set_most" cZ f_Roads__set_most d_Roads__set_most
 B_Roads__set_most:bj K d_Roads__set_most ["self", "number", "most"] []
 f_Roads__set_gain:Addr
 d_Roads__set_gain:FuncData
 F_Roads__set_gain:dC K "set_gain" "Roads.set_gain" db f_Roads__set_gain d_Roads__set_gain
 B_Roads__set_gain:bj K d_Roads__set_gain ["self", "number", "gain"] []
 f_Roads__set_price:Addr
 d_Roads__set_price:FuncData
 F_Roads__set_price:dC K "set_price" "Roads.set_price" cO f_Roads__set_price d_Roads__set_price
 B_Roads__set_price:bj K d_Roads__set_price ["self", "number", "price"] []
 f_Roads__shut:Addr
 d_Roads__shut:FuncData
 F_Roads__shut:dC K "shut" "Roads.shut" gR f_Roads__shut d_Roads__shut
 B_Roads__shut:bj K d_Roads__shut ["self", "number"] []
 f_Roads__reopen:Addr
 d_Roads__reopen:FuncData
 F_Roads__reopen:dC K "reopen" "Roads.reopen" fE f_Roads__reopen d_Roads__reopen
 B_Roads__reopen:bj K d_Roads__reopen ["self", "number"] []
 f_Roads__set_ends:Addr
 d_Roads__set_ends:FuncData
 F_Roads__set_ends:dC K "set_ends" "Roads.set_ends" bt f_Roads__set_ends d_Roads__set_ends
 B_Roads__set_ends:bj K d_Roads__set_ends ["self", "begin", "end"] []
 f_Roads__back:Addr
 d_Roads__back:FuncData
 F_Roads__back:dC K "back" "Roads.back" jH f_Roads__back d_Roads__back
 B_Roads__back:bj K d_Roads__back ["self"] []
 f_Roads__net:Addr
 d_Roads__net:FuncData
 F_Roads__net:dC K "net" "Roads.net" cE f_Roads__net d_Roads__net
 B_Roads__net:bj K d_Roads__net ["self"] []
 put_at_:Df K mg "put_at" lD ["parts", "at", "part"]
 f_Roads__ends:Addr
 d_Roads__ends:FuncData
 F_Roads__ends:dC K "ends" "Roads.ends" jF f_Roads__ends d_Roads__ends
 B_Roads__ends:bj K d_Roads__ends ["self"] []
 f_Roads__is_shut:Addr
 d_Roads__is_shut:FuncData
 F_Roads__is_shut:dC K "is_shut" "Roads.is_shut" cK f_Roads__is_shut d_Roads__is_shut
 B_Roads__is_shut:bj K d_Roads__is_shut ["self", "number"] []
 check_tie_:Df K mg "check_tie" fW ["ties", "number"]
 f_Roads__deeds:Addr
 d_Roads__deeds:FuncData
 F_Roads__deeds:dC K "deeds" "Roads.deeds" gg f_Roads__deeds d_Roads__deeds
 B_Roads__deeds:bj K d_Roads__deeds ["self"] []
 f_Roads__twin:Addr
 d_Roads__twin:FuncData
 F_Roads__twin:dC K "twin" "Roads.twin" dZ f_Roads__twin d_Roads__twin
 B_Roads__twin:bj K d_Roads__twin ["self"] []
 f_DayRun____init__:Addr
 d_DayRun____init__:FuncData
 F_DayRun____init__:dC K "__init__" "DayRun.__init__" cQ f_DayRun____init__ d_DayRun____init__
 B_DayRun____init__:bj K d_DayRun____init__ ["self", "day"] []
 f_DayRun__now:Addr
 d_DayRun__now:FuncData
 F_DayRun__now:dC K "now" "DayRun.now" gU f_DayRun__now d_DayRun__now
 B_DayRun__now:bj K d_DayRun__now ["self"] []
 f_DayRun__is_open:Addr
 d_DayRun__is_open:FuncData
 F_DayRun__is_open:dC K "is_open" "DayRun.is_open" c9 f_DayRun__is_open d_DayRun__is_open
 B_DayRun__is_open:bj K d_DayRun__is_open ["self", "number"] []
 f_DayRun__shut:Addr
 d_DayRun__shut:FuncData
 F_DayRun__shut:dC K "shut" "DayRun.shut" gp f_DayRun__shut d_DayRun__shut
 B_DayRun__shut:bj K d_DayRun__shut ["self", "number"] []
 f_DayRun__unshut:Addr
 d_DayRun__unshut:FuncData
 F_DayRun__unshut:dC K "unshut" "DayRun.unshut" fh f_DayRun__unshut d_DayRun__unshut
 B_DayRun__unshut:bj K d_DayRun__unshut ["self", "number"] []
 f_DayRun__pass_hour:Addr
 d_DayRun__pass_hour:FuncData
 F_DayRun__pass_hour:dC K "pass_hour" "DayRun.pass_hour" au f_DayRun__pass_hour d_DayRun__pass_hour
 B_DayRun__pass_hour:bj K d_DayRun__pass_hour ["self", "sent", "kept", "drawn"] []
 book_of_:Df K mg "book_of" eR ["day", "passed"]
 by_hours_:Df K mg "by_hours" kH ["day", "passed", "part", "number"]
 hour_mosts_:Df K mg "hour_mosts" cW ["day", "shuts", "now"]
 may_send_:Df K mg "may_send" iV ["day", "tie", "hour"]
 compared_:Df K mg "compared" gC ["one", "other"]
 hour_sum_:Df K mg "hour_sum" cg ["day", "book", "place", "hour", "share"]
 wished_in_:Df K mg "wished_in" js ["day", "place", "hour"]
 sum_of_:Df K mg "sum_of" jN ["parts"]
 added_:Df K mg "added" nh ["one", "other"]
 fraction_:Df K mg "fraction" gO ["n", "d"]
 common_divisor_:Df K mg "common_divisor" jL ["n", "d"]
 times_:Df K mg "times" nn ["one", "other"]
 goes_at_:Df K mg "goes_at" dR ["day", "book", "place", "hour"]
 comes_at_:Df K mg "comes_at" aW ["day", "book", "place", "hour"]
 taken_:Df K mg "taken" nq ["one", "other"]
 goes_within_:Df K mg "goes_within" dY ["thing", "most"]
 is_from_nought_:Df K mg "is_from_nought" fj ["thing"]
 is_fraction_:Df K mg "is_fraction" b3 ["thing"]
 is_number_:Df K mg "is_number" fZ ["thing"]
 f_DayRun__back:Addr
 d_DayRun__back:FuncData
 F_DayRun__back:dC K "back" "DayRun.back" gq f_DayRun__back d_DayRun__back
 B_DayRun__back:bj K d_DayRun__back ["self"] []
 f_DayRun__book:Addr
 d_DayRun__book:FuncData
 F_DayRun__book:dC K "book" "DayRun.book" gj f_DayRun__book d_DayRun__book
 B_DayRun__book:bj K d_DayRun__book ["self"] []
 f_Roads__set_part:Addr
 d_Roads__set_part:FuncData
 F_Roads__set_part:dC K "set_part" "Roads.set_part" bc f_Roads__set_part d_Roads__set_part
 B_Roads__set_part:bj K d_Roads__set_part ["self", "number", "at", "part"] []
 f_Roads__set_shut:Addr
 d_Roads__set_shut:FuncData
 F_Roads__set_shut:dC K "set_shut" "Roads.set_shut" bd f_Roads__set_shut d_Roads__set_shut
 B_Roads__set_shut:bj K d_Roads__set_shut ["self", "number", "whether"] []
 f_DayRun__set_closed:Addr
 d_DayRun__set_closed:FuncData
 F_DayRun__set_closed:dC K "set_closed" "DayRun.set_closed" aZ f_DayRun__set_closed d_DayRun__set_closed
 B_DayRun__set_closed:bj K d_DayRun__set_closed ["self", "number", "whether"] []
 x_GainError:Addr
 m_GainError:mg "GainError" = some (.ref x_GainError)
 k_GainError:PySem.W.keepIn K (.ref x_GainError)=true
 xb_GainError:Fq K x_GainError=true
 x_Taken:Addr
 m_Taken:mg "Taken" = some (.ref x_Taken)
 k_Taken:PySem.W.keepIn K (.ref x_Taken)=true
 q_Taken:eU K x_Taken (none)=true
 x_NoPlace:Addr
 m_NoPlace:mg "NoPlace" = some (.ref x_NoPlace)
 k_NoPlace:PySem.W.keepIn K (.ref x_NoPlace)=true
 q_NoPlace:eU K x_NoPlace (none)=true
 x_NoTie:Addr
 m_NoTie:mg "NoTie" = some (.ref x_NoTie)
 k_NoTie:PySem.W.keepIn K (.ref x_NoTie)=true
 q_NoTie:eU K x_NoTie (none)=true
 x_AsItIs:Addr
 m_AsItIs:mg "AsItIs" = some (.ref x_AsItIs)
 k_AsItIs:PySem.W.keepIn K (.ref x_AsItIs)=true
 q_AsItIs:eU K x_AsItIs (none)=true
 x_Over:Addr
 m_Over:mg "Over" = some (.ref x_Over)
 k_Over:PySem.W.keepIn K (.ref x_Over)=true
 q_Over:eU K x_Over (none)=true
 x_TooMuch:Addr
 m_TooMuch:mg "TooMuch" = some (.ref x_TooMuch)
 k_TooMuch:PySem.W.keepIn K (.ref x_TooMuch)=true
 q_TooMuch:eU K x_TooMuch (none)=true
 x_Lacking:Addr
 m_Lacking:mg "Lacking" = some (.ref x_Lacking)
 k_Lacking:PySem.W.keepIn K (.ref x_Lacking)=true
 fn_Lacking:PySem.W.isFn K (.ref f_Lacking__init)=true
 st_Lacking:GQ K x_Lacking "place" = true
 fd_Lacking:Ge K x_Lacking "place" = true
 q_Lacking:eU K x_Lacking (some (.ref f_Lacking__init))=true
 x_Roads:Addr
 m_Roads:mg "Roads" = some (.ref x_Roads)
 c_Roads:ql K x_Roads
 mk_Roads:Mk K x_Roads f_Roads____init__
 h_Roads__add_place:df K x_Roads "add_place" f_Roads__add_place
 h_Roads__add_tie:df K x_Roads "add_tie" f_Roads__add_tie
 h_Roads__set_most:df K x_Roads "set_most" f_Roads__set_most
 h_Roads__set_gain:df K x_Roads "set_gain" f_Roads__set_gain
 h_Roads__set_price:df K x_Roads "set_price" f_Roads__set_price
 h_Roads__shut:df K x_Roads "shut" f_Roads__shut
 h_Roads__reopen:df K x_Roads "reopen" f_Roads__reopen
 h_Roads__set_ends:df K x_Roads "set_ends" f_Roads__set_ends
 h_Roads__back:df K x_Roads "back" f_Roads__back
 h_Roads__net:df K x_Roads "net" f_Roads__net
 h_Roads__ends:df K x_Roads "ends" f_Roads__ends
 h_Roads__is_shut:df K x_Roads "is_shut" f_Roads__is_shut
 h_Roads__deeds:df K x_Roads "deeds" f_Roads__deeds
 h_Roads__twin:df K x_Roads "twin" f_Roads__twin
 h_Roads__set_part:df K x_Roads "set_part" f_Roads__set_part
 h_Roads__set_shut:df K x_Roads "set_shut" f_Roads__set_shut
 n_Roads_states:kq K x_Roads "states"
 x_DayRun:Addr
 m_DayRun:mg "DayRun" = some (.ref x_DayRun)
 c_DayRun:ql K x_DayRun
 mk_DayRun:Mk K x_DayRun f_DayRun____init__
 h_DayRun__now:df K x_DayRun "now" f_DayRun__now
 h_DayRun__is_open:df K x_DayRun "is_open" f_DayRun__is_open
 h_DayRun__shut:df K x_DayRun "shut" f_DayRun__shut
 h_DayRun__unshut:df K x_DayRun "unshut" f_DayRun__unshut
 h_DayRun__pass_hour:df K x_DayRun "pass_hour" f_DayRun__pass_hour
 h_DayRun__back:df K x_DayRun "back" f_DayRun__back
 h_DayRun__book:df K x_DayRun "book" f_DayRun__book
 h_DayRun__set_closed:df K x_DayRun "set_closed" f_DayRun__set_closed
 n_DayRun_day:kq K x_DayRun "day"
 n_DayRun_states:kq K x_DayRun "states"
 kin:Dx K [x_Taken,x_NoPlace,x_NoTie,x_AsItIs,x_Over,x_TooMuch,x_Lacking] x_GainError=true
end K72
namespace K72
open PySem L2
abbrev lr (s:Stmt) (x:Str):Prop:=(ah s).names.lookup x=some NameKind.cell
abbrev ac (s:Stmt) (x:Str):Prop:=(ah s).names.lookup x=some NameKind.local
abbrev ao (s:Stmt) (x:Str):Prop:=(ah s).names.lookup x=some NameKind.globalImplicit
theorem fM:lr bV "_law_box" := by nofun
theorem kX:ac bV "_law_many" := by nofun
theorem jC:lr bV "_law_letters" := by nofun
theorem kE:lr bV "_law_first" := by nofun
theorem nF:ac bV "_law_k" := by nofun
theorem mj:ac bV "_law_row" := by nofun
theorem gQ:ac bV "_law_found" := by nofun
theorem lc:ac bV "_law_more" := by nofun
theorem ft:ao bV "_law_take" := by nofun
theorem fP:ao bV "range" := by nofun
theorem jm:ac eQ "_law_box" := by nofun
theorem jb:ac eQ "_law_way" := by nofun
theorem iA:ac eQ "_law_wide" := by nofun
theorem ix:ao eQ "_law_take" := by nofun
theorem qS:ao eQ "_law_lowest" := by nofun
theorem cY:ac fX "_law_box" := by nofun
theorem gf:ac fX "_law_way" := by nofun
theorem cM:ao fX "_law_take" := by nofun
theorem qZ:ao fX "_law_lowest" := by nofun
theorem iq:ac eY "_law_box" := by nofun
theorem fD:ac eY "_law_way" := by nofun
theorem gZ:ao eY "_law_take" := by nofun
theorem qd:ao eY "_law_lowest" := by nofun
theorem ki:ac iL "_law_state" := by nofun
theorem lH:ac iL "_law_ties" := by nofun
theorem oq:ac iL "_law_number" := by nofun
theorem jI:ac iL "_law_tie" := by nofun
theorem uy:ao iL "enumerate" := by nofun
theorem xA:ao iL "tuple" := by nofun
theorem l4:lr fJ "_law_roads" := by nofun
theorem fT:lr fJ "_law_state" := by nofun
theorem vy:ao fJ "_law_net" := by nofun
theorem oo:ao fJ "range" := by nofun
theorem qo:ao fJ "len" := by nofun
theorem cU:ac bI "_law_box" := by nofun
theorem mO:ac bI "_law_roads" := by nofun
theorem cR:ac bI "_law_places" := by nofun
theorem eT:ac bI "_law_rows" := by nofun
theorem rJ:ac bI "_law_k" := by nofun
theorem oA:ac bI "_law_name" := by nofun
theorem md:ac bI "_law_number" := by nofun
theorem jd:ac bI "_law_first" := by nofun
theorem ci:ac bI "_law_tie" := by nofun
theorem vH:ao bI "tuple" := by nofun
theorem rj:ao bI "_law_names_by" := by nofun
theorem sq:ao bI "enumerate" := by nofun
theorem vD:ao bI "range" := by nofun
theorem jR:ao bI "_law_take" := by nofun
theorem sF:ao bI "_law_most_by" := by nofun
theorem rZ:ao bI "_law_gain_by" := by nofun
theorem rh:ao bI "_law_price_by" := by nofun
theorem dw:ac bG "_law_box" := by nofun
theorem dA:ac bG "_law_roads" := by nofun
theorem uP:ac bG "_law_state" := by nofun
theorem gB:ac bG "_law_names" := by nofun
theorem cy:ac bG "_law_ties" := by nofun
theorem dU:ac bG "_law_shut" := by nofun
theorem fS:ac bG "_law_ends" := by nofun
theorem cS:ac bG "_law_way" := by nofun
theorem be:lr bG "_law_number" := by nofun
theorem cV:ac bG "_law_told" := by nofun
theorem fF:ac bG "_law_part" := by nofun
theorem qF:ac bG "_law_tie" := by nofun
theorem jK:ac bG "_law_first" := by nofun
theorem ig:ao bG "_law_take" := by nofun
theorem yt:ao bG "len" := by nofun
theorem sW:ao bG "_law_most_by" := by nofun
theorem sN:ao bG "_law_gain_by" := by nofun
theorem r9:ao bG "_law_price_by" := by nofun
theorem we:ao bG "tuple" := by nofun
theorem ya:ao bG "int" := by nofun
theorem gk:ac cr "_law_roads" := by nofun
theorem eB:ac cr "_law_rows" := by nofun
theorem kc:ac cr "_law_many" := by nofun
theorem kK:ac cr "_law_turn" := by nofun
theorem su:ao cr "range" := by nofun
theorem mT:ao cr "len" := by nofun
theorem pN:ao cr "_law_stands" := by nofun
theorem bU:ac aF "_law_box" := by nofun
theorem aN:ac aF "_law_roads" := by nofun
theorem bi:ac aF "_law_rows" := by nofun
theorem dD:ac aF "_law_many" := by nofun
theorem j8:ac aF "_law_at" := by nofun
theorem cD:ac aF "_law_twin" := by nofun
theorem b9:ac aF "_law_held" := by nofun
theorem dE:ac aF "_law_turn" := by nofun
theorem di:ac aF "_law_state" := by nofun
theorem qh:ao aF "Roads" := by nofun
theorem oC:ao aF "_law_begun" := by nofun
theorem cB:ao aF "_law_take" := by nofun
theorem kP:ao aF "list" := by nofun
theorem qw:ao aF "range" := by nofun
theorem pR:ao aF "_law_deed" := by nofun
theorem iE:ao aF "_law_stands" := by nofun
theorem fv:ao aF "len" := by nofun
theorem gu:ao aF "_law_gone_back" := by nofun
theorem dc:ac cP "_law_box" := by nofun
theorem e7:ac cP "_law_places" := by nofun
theorem li:ac cP "_law_ties" := by nofun
theorem vh:ac cP "_law_number" := by nofun
theorem oQ:ac cP "_law_opens" := by nofun
theorem kL:ac cP "_law_first" := by nofun
theorem rF:ac cP "_law_tie" := by nofun
theorem rH:ao cP "tuple" := by nofun
theorem sV:ao cP "_law_names_by" := by nofun
theorem xt:ao cP "range" := by nofun
theorem lC:ao cP "_law_take" := by nofun
theorem mI:ao cP "_law_most_by" := by nofun
theorem ur:ao cP "_law_gain_by" := by nofun
theorem tH:ao cP "_law_price_by" := by nofun
theorem j9:lr b8 "_law_run" := by nofun
theorem eH:ac b8 "_law_day_here" := by nofun
theorem pS:lr b8 "_law_state" := by nofun
theorem jn:ac b8 "_law_opens" := by nofun
theorem nR:ao b8 "enumerate" := by nofun
theorem rm:ao b8 "range" := by nofun
theorem sT:ao b8 "len" := by nofun
theorem fq:ac aQ "_law_box" := by nofun
theorem bH:ac aQ "_law_day_here" := by nofun
theorem bo:ac aQ "_law_run" := by nofun
theorem bM:ac aQ "_law_rows" := by nofun
theorem gP:ac aQ "_law_many" := by nofun
theorem lW:ac aQ "_law_at" := by nofun
theorem gH:ac aQ "_law_turn" := by nofun
theorem eM:ac aQ "_law_hour" := by nofun
theorem bY:ac aQ "_law_shut" := by nofun
theorem cC:lr aQ "_law_number" := by nofun
theorem so:ao aQ "_law_day" := by nofun
theorem rf:ao aQ "DayRun" := by nofun
theorem gD:ao aQ "_law_take" := by nofun
theorem rW:ao aQ "range" := by nofun
theorem f9:ao aQ "len" := by nofun
theorem sv:ao aQ "tuple" := by nofun
theorem d0:ao aQ "_law_day_stands" := by nofun
theorem wf:ac ic "_law_script" := by nofun
theorem my:ac ic "_law_cells" := by nofun
theorem w6:ac ic "_law_k" := by nofun
theorem pV:ac ic "_law_box" := by nofun
theorem wc:ao ic "_law_folded" := by nofun
theorem yM:ao ic "range" := by nofun
theorem Bt:ao ic "len" := by nofun
theorem wj:ao ic "_law_box_of" := by nofun
theorem rX:ao ic "_law_roads_right" := by nofun
theorem uq:ao ic "_law_day_right" := by nofun
theorem pB:ac gc "self" := by nofun
theorem i4:ac bD "self" := by nofun
theorem i7:ac bD "name" := by nofun
theorem eO:ac bD "places" := by nofun
theorem i8:ac bD "ties" := by nofun
theorem ip:ac bD "shuts" := by nofun
theorem iX:ac bD "ends" := by nofun
theorem nQ:ao bD "Taken" := by nofun
theorem jV:ac aS "self" := by nofun
theorem jr:ac aS "begin" := by nofun
theorem kd:ac aS "end" := by nofun
theorem pW:ac aS "most" := by nofun
theorem qg:ac aS "gain" := by nofun
theorem pL:ac aS "price" := by nofun
theorem fz:ac aS "places" := by nofun
theorem gr:ac aS "ties" := by nofun
theorem jB:ac aS "shuts" := by nofun
theorem j6:ac aS "ends" := by nofun
theorem mE:ao aS "check_two" := by nofun
theorem rC:ao aS "len" := by nofun
theorem mq:ac f7 "places" := by nofun
theorem mJ:ac f7 "begin" := by nofun
theorem oX:ac f7 "end" := by nofun
theorem kS:ao f7 "NoPlace" := by nofun
theorem pG:ac cZ "self" := by nofun
theorem nv:ac cZ "number" := by nofun
theorem pf:ac cZ "most" := by nofun
theorem pe:ac db "self" := by nofun
theorem nV:ac db "number" := by nofun
theorem pP:ac db "gain" := by nofun
theorem oE:ac cO "self" := by nofun
theorem ng:ac cO "number" := by nofun
theorem oi:ac cO "price" := by nofun
theorem tz:ac gR "self" := by nofun
theorem qW:ac gR "number" := by nofun
theorem qO:ac fE "self" := by nofun
theorem pH:ac fE "number" := by nofun
theorem jx:ac bt "self" := by nofun
theorem i0:ac bt "begin" := by nofun
theorem jX:ac bt "end" := by nofun
theorem fk:ac bt "places" := by nofun
theorem jD:ac bt "ties" := by nofun
theorem i3:ac bt "shuts" := by nofun
theorem pi:ac bt "ends" := by nofun
theorem mh:ao bt "check_two" := by nofun
theorem lZ:ac jH "self" := by nofun
theorem uk:ac cE "self" := by nofun
theorem kY:ac cE "places" := by nofun
theorem mH:ac cE "ties" := by nofun
theorem mf:ac cE "shuts" := by nofun
theorem uz:ac cE "ends" := by nofun
theorem tO:ao cE "tuple" := by nofun
theorem vj:ao cE "zip" := by nofun
theorem qj:ac lD "parts" := by nofun
theorem uB:ac lD "at" := by nofun
theorem xz:ac lD "part" := by nofun
theorem tm:ac jF "self" := by nofun
theorem qf:ac cK "self" := by nofun
theorem i5:ac cK "number" := by nofun
theorem f8:ac cK "shuts" := by nofun
theorem mG:ao cK "check_tie" := by nofun
theorem uU:ac fW "ties" := by nofun
theorem tf:ac fW "number" := by nofun
theorem vB:ao fW "len" := by nofun
theorem ux:ao fW "NoTie" := by nofun
theorem sr:ac gg "self" := by nofun
theorem tP:ao gg "len" := by nofun
theorem tE:ac dZ "self" := by nofun
theorem hJ:ac dZ "other" := by nofun
theorem sD:ao dZ "Roads" := by nofun
theorem sZ:ao dZ "list" := by nofun
theorem iW:ac cQ "self" := by nofun
theorem jy:ac cQ "day" := by nofun
theorem nP:ao cQ "tuple" := by nofun
theorem sQ:ac gU "self" := by nofun
theorem ut:ao gU "len" := by nofun
theorem dH:ac c9 "self" := by nofun
theorem fi:ac c9 "number" := by nofun
theorem mn:ao c9 "check_tie" := by nofun
theorem sw:ac gp "self" := by nofun
theorem qp:ac gp "number" := by nofun
theorem qx:ac fh "self" := by nofun
theorem oF:ac fh "number" := by nofun
theorem bF:ac au "self" := by nofun
theorem iG:ac au "sent" := by nofun
theorem iC:ac au "kept" := by nofun
theorem ij:ac au "drawn" := by nofun
theorem eJ:ac au "shuts" := by nofun
theorem b5:ac au "passed" := by nofun
theorem gA:ac au "amounts" := by nofun
theorem im:ac au "mosts" := by nofun
theorem eF:ac au "fresh" := by nofun
theorem iH:ac au "book" := by nofun
theorem eL:ac au "place" := by nofun
theorem fw:ao au "len" := by nofun
theorem nJ:ao au "Over" := by nofun
theorem iY:ao au "zip" := by nofun
theorem kn:ao au "hour_mosts" := by nofun
theorem oH:ao au "all" := by nofun
theorem mx:ao au "TooMuch" := by nofun
theorem eG:ao au "tuple" := by nofun
theorem mr:ao au "book_of" := by nofun
theorem lL:ao au "compared" := by nofun
theorem lN:ao au "hour_sum" := by nofun
theorem lV:ao au "Lacking" := by nofun
theorem mD:lr eR "day" := by nofun
theorem qy:ac eR "sent" := by nofun
theorem pY:ac eR "kept" := by nofun
theorem oM:ac eR "drawn" := by nofun
theorem oN:ao eR "range" := by nofun
theorem rM:ao eR "len" := by nofun
theorem si:ao eR "enumerate" := by nofun
theorem wE:ac kH "day" := by nofun
theorem vb:ao kH "range" := by nofun
theorem jU:lr cW "day" := by nofun
theorem tw:ac cW "shuts" := by nofun
theorem mL:ac cW "sent" := by nofun
theorem mQ:ac cW "kept" := by nofun
theorem mt:ac cW "drawn" := by nofun
theorem vg:ao cW "zip" := by nofun
theorem wP:ac iV "day" := by nofun
theorem qA:ac iV "tie" := by nofun
theorem o9:ac iV "hour" := by nofun
theorem qD:ac gC "one" := by nofun
theorem nW:ac gC "other" := by nofun
theorem kF:ac gC "left" := by nofun
theorem jT:ac gC "right" := by nofun
theorem lB:ac cg "day" := by nofun
theorem oZ:ac cg "book" := by nofun
theorem jO:ac cg "place" := by nofun
theorem ke:ac cg "hour" := by nofun
theorem vw:ac cg "share" := by nofun
theorem oW:ac cg "left" := by nofun
theorem nE:ao cg "taken" := by nofun
theorem rV:ao cg "comes_at" := by nofun
theorem sP:ao cg "goes_at" := by nofun
theorem vm:ao cg "times" := by nofun
theorem qX:ao cg "wished_in" := by nofun
theorem vZ:ac js "day" := by nofun
theorem tN:ao js "sum_of" := by nofun
theorem wN:ac jN "parts" := by nofun
theorem iO:ac jN "total" := by nofun
theorem rL:ac jN "part" := by nofun
theorem wz:ao jN "added" := by nofun
theorem pI:ac nh "one" := by nofun
theorem mC:ac nh "other" := by nofun
theorem vf:ao nh "fraction" := by nofun
theorem s0:ac gO "n" := by nofun
theorem nS:ac gO "d" := by nofun
theorem dN:ac gO "divisor" := by nofun
theorem mY:ao gO "common_divisor" := by nofun
theorem uI:ac nn "one" := by nofun
theorem rP:ac nn "other" := by nofun
theorem vk:ao nn "fraction" := by nofun
theorem rN:ac dR "day" := by nofun
theorem wv:ac dR "book" := by nofun
theorem qt:ac dR "sent" := by nofun
theorem qE:ac dR "kept" := by nofun
theorem vO:ac dR "drawn" := by nofun
theorem kC:ac dR "parts" := by nofun
theorem rQ:ao dR "zip" := by nofun
theorem uN:ao dR "sum_of" := by nofun
theorem lK:ac aW "day" := by nofun
theorem vC:ac aW "book" := by nofun
theorem oz:lr aW "place" := by nofun
theorem hW:lr aW "hour" := by nofun
theorem oV:ac aW "sent" := by nofun
theorem oY:ac aW "kept" := by nofun
theorem nY:ac aW "drawn" := by nofun
theorem gE:ac aW "parts" := by nofun
theorem iP:ac aW "row" := by nofun
theorem vc:ac aW "begin" := by nofun
theorem qC:ac aW "end" := by nofun
theorem pc:ac aW "most" := by nofun
theorem oJ:ac aW "gain" := by nofun
theorem vq:ac aW "price" := by nofun
theorem kg:ac aW "late" := by nofun
theorem vn:ac aW "opens" := by nofun
theorem o7:ac aW "spot" := by nofun
theorem oS:ac aW "keep" := by nofun
theorem lG:ao aW "zip" := by nofun
theorem nM:ao aW "times" := by nofun
theorem ul:ao aW "sum_of" := by nofun
theorem pC:ac nq "one" := by nofun
theorem mB:ac nq "other" := by nofun
theorem uY:ao nq "fraction" := by nofun
theorem kR:ac dY "thing" := by nofun
theorem tS:ac dY "most" := by nofun
theorem lq:ao dY "is_from_nought" := by nofun
theorem pq:ao dY "compared" := by nofun
theorem jp:ac fj "thing" := by nofun
theorem lO:ao fj "is_fraction" := by nofun
theorem g9:ac b3 "thing" := by nofun
theorem kr:ac b3 "n" := by nofun
theorem hZ:ac b3 "d" := by nofun
theorem oj:ao b3 "isinstance" := by nofun
theorem sy:ao b3 "tuple" := by nofun
theorem uw:ao b3 "len" := by nofun
theorem i6:ao b3 "is_number" := by nofun
theorem lg:ao b3 "common_divisor" := by nofun
theorem mP:ac fZ "thing" := by nofun
theorem jA:ao fZ "isinstance" := by nofun
theorem vA:ao fZ "int" := by nofun
theorem uS:ao fZ "bool" := by nofun
theorem kU:ac gq "self" := by nofun
theorem tF:ao gq "len" := by nofun
theorem kT:ac gj "self" := by nofun
theorem pF:ao gj "book_of" := by nofun
theorem jz:ac bc "self" := by nofun
theorem eZ:ac bc "number" := by nofun
theorem qM:ac bc "at" := by nofun
theorem pU:ac bc "part" := by nofun
theorem iJ:ac bc "places" := by nofun
theorem dF:ac bc "ties" := by nofun
theorem i9:ac bc "shuts" := by nofun
theorem jv:ac bc "ends" := by nofun
theorem lX:ao bc "check_tie" := by nofun
theorem iF:ao bc "put_at" := by nofun
theorem jq:ac bd "self" := by nofun
theorem fb:ac bd "number" := by nofun
theorem ie:ac bd "whether" := by nofun
theorem iB:ac bd "places" := by nofun
theorem fU:ac bd "ties" := by nofun
theorem fB:ac bd "shuts" := by nofun
theorem jo:ac bd "ends" := by nofun
theorem l9:ao bd "check_tie" := by nofun
theorem nO:ao bd "AsItIs" := by nofun
theorem nH:ao bd "put_at" := by nofun
theorem ib:ac aZ "self" := by nofun
theorem dQ:ac aZ "number" := by nofun
theorem gh:ac aZ "whether" := by nofun
theorem cH:ac aZ "shuts" := by nofun
theorem gw:ac aZ "passed" := by nofun
theorem ku:ao aZ "check_tie" := by nofun
theorem mv:ao aZ "AsItIs" := by nofun
theorem mo:ao aZ "put_at" := by nofun
end K72
namespace K72
open PySem L2
section
variable {P:Program}{w:World}{K:PySem.W.Frag}{mg:Str→Option Value}{base:Heap}
inductive FR (vs:List V) (H:Hp) (Q:VK):Prop
 | mk (n d:Int) (h0:vs=[.int n,.int d]) (h1:Q (.int (Int.gcd n d:Nat)) H)
def HY:Sp:=fun vs H Q _=>FR  vs H Q
theorem mR (T:Txt K mg):aD P w K mg base CX0 1 T.common_divisor_.f T.common_divisor_.d ["n", "d"] HY:=by
 refine T.common_divisor_.F.ok mK (fun vs H Q E h=>?_) (fun cdv A outer s H vs Q E hr h=>?_)
 ·obtain ⟨n,d,rfl,_⟩:=h
  rfl
 ·obtain ⟨n,d,rfl,k⟩:=h
  refine ⟨_,(dX (u7 PassesOwn.never (aq lQ (pv 1) bC (oy _)) (aa (nN (i:=0) (j:=1) rfl mK.nd rfl rfl (by decide) rfl rfl (bE (pv 1) (bE (am DJ (pv 0) (pv 1)) aY)) rfl)))
   (aa (ay (gI nX (by rfl) T.b_abs kO (bE (pv 0) aY))))),?_⟩
  refine ⟨fun m σ H'=>∃a b:Int,σ=[some (.int a),some (.int b)]∧H'=H∧Int.gcd a b=Int.gcd n d∧m=b.natAbs,⟨_,n,d,rfl,rfl,rfl,rfl⟩,?_⟩
  rintro m σ H' ⟨a,b,rfl,rfl,hg,rfl⟩
  refine ⟨(),rfl,(),?_⟩
  by_cases hb:b=0
  ·subst hb
   refine aT ?_
   refine ⟨(),(),?_⟩
   rw [←KM.gcd_zero_abs,hg]
   exact k
  ·have e:(!decide (V.int b=V.int 0))=true:=by
    rw [decide_eq_false (fun z=>hb (by injection z))];rfl
   rw [e]
   refine cx ⟨fun σ' H''=>∃a' b':Int,σ'=[some (.int a'),some (.int b')]∧H''=H'∧Int.gcd a' b'=Int.gcd n d∧b'.natAbs<b.natAbs,?_,?_⟩
   ·rintro σ' H'' ⟨a',b',rfl,rfl,h1,h2⟩
    exact ⟨_,h2,a',b',rfl,rfl,h1,rfl⟩
   ·refine ⟨(),(),(),_,(),rfl,hb,_,(),?_⟩
    exact ⟨b,a.fmod b,rfl,rfl,(KM.gcd_fmod a b).trans hg,KM.fmod_natAbs_lt a b hb⟩
end
end K72
namespace K72
open PySem L2
section
variable {P:Program}{w:World}{K:PySem.W.Frag}{mg:Str→Option Value}{base:Heap}
theorem iU (T:Txt K mg):aD P w K mg base CX0 1 T.l_take_.f T.l_take_.d ["_law_box", "_law_many"] GM:=by
 refine T.l_take_.F.ok tD (fun vs H Q E h=>?_) (fun cdv A outer s H vs Q E hr h=>?_)
 ·obtain ⟨b,many,t,rfl,_⟩:=h
  rfl
 ·obtain ⟨b,many,t,rfl,⟨c,x,hb,hc,hx0,hx1⟩,hm0,hm1,ht0,ht1,kk⟩:=h
  refine ⟨_,(dX (aU (aq t0 (gK kD (pv 0) bC (fun _ _=>rfl)) bC (oy _)) (dX (dk (gI yC (by rfl) T.b_divmod xw (bE (gK kD (pv 0) bC (fun _ _=>rfl)) (bE (pv 1) aY))) (yd rfl (af (xY (pv 0) bC uO) (af (j7 (i:=2) tD.nd rfl (Or.inl rfl)) bf))))
   (aa (ay (pv 2)))) aM)
   (dX (dk (am bn (gK kD (pv 0) bC (fun _ _=>rfl)) bC) (xY (pv 0) bC uO))
   (dX (qB (i:=3) tD.nd rfl (Or.inl rfl) (am fH (am vW (am bn (gK kD (pv 0) bC (fun _ _=>rfl)) (am kj bC (gK kD (pv 0) bC (fun _ _=>rfl)))) bC) bC))
   (aa (ay (am fH (am Fd (am fH (am bn (am kj (pv 3) bC) (am kj (am kj (gK kD (pv 0) bC (fun _ _=>rfl)) (gK kD (pv 0) bC (fun _ _=>rfl))) bC)) bC) bC) (pv 1))))))),?_⟩
  refine ⟨(),.inl ⟨b,_,_,(),rfl,aA.of hb,rfl,_,(),rfl,(),?_⟩⟩
  refine cF (fun h=>?_) (fun h=>?_)
  ·refine ⟨(),.inl ⟨b,_,_,(),rfl,aA.of hb,rfl,(),_,(),⟨hm0,hm1⟩,fun p hp=>⟨p,(),ae.of av,rfl,_,(),(),b,[.int c,.int x,.int t],_,0,rfl,rfl,?_,rfl,_,(),rfl,(),?_⟩⟩⟩
   ·rw [ax (aK hb hp)];exact hb
   ·have hb':aJ H p (.tup [.int (c / many),.int (c % many)]) b=some (.lst [.int c,.int x,.int t]):=by rw [ax (aK hb hp)];exact hb
    exact kk _ t _ (Int.emod_nonneg _ (Int.ne_of_gt hm0)) (Int.emod_lt_of_pos _ hm0) (Int.le_refl _) (by trivial) (xm (ad.new hp) hb') ⟨_,_,av,Int.ediv_nonneg hc (Int.le_of_lt hm0),hx0,hx1⟩
  ·refine ⟨(),.inl ⟨b,_,_,(),rfl,aA.of hb,rfl,_,(),rfl,(),b,_,_,2,rfl,rfl,hb,rfl,?_⟩⟩
   refine ⟨(),.inl ⟨b,_,_,(),rfl,aA.of av,rfl,(),.inl ⟨b,_,_,(),rfl,aA.of av,rfl,_,(),rfl,.inl ⟨by decide,by decide⟩,_,(),rfl,_,(),rfl,⟨by decide,by decide,?_⟩,_,(),rfl,?_,?_⟩⟩⟩
   ·have:(x+39373*(t+1)).natAbs<2 ^ 64:=by trivial
    exact this
   ·show (0:Int)<2147483647;decide
   have ho0:0≤(x+39373*(t+1)) ^ (5:Int).toNat % 2147483647:=Int.emod_nonneg _ (by decide)
   have ho1:(x+39373*(t+1)) ^ (5:Int).toNat % 2147483647<2147483647:=Int.emod_lt_of_pos _ (by decide)
   generalize (x+39373*(t+1)) ^ (5:Int).toNat % 2147483647=on at ho0 ho1 ⊢
   refine ⟨(),_,(),rfl,.inr ⟨by decide,by decide⟩,(),.inl ⟨b,_,_,(),rfl,aA.of av,rfl,(),.inl ⟨b,_,_,(),rfl,aA.of av,rfl,_,(),rfl,.inl ⟨?_,?_⟩,_,(),rfl,.inr ⟨by decide,by decide⟩,_,(),rfl,_,(),rfl,?_,_,(),rfl,⟨by decide,by decide⟩,(),_,(),rfl,hm0,?_⟩⟩⟩
   ·show -(2 ^ 64)<t+1;trivial
   ·show t+1<2 ^ 64;trivial
   ·show (0:Int)<2147483629;decide
   ·exact kk _ (t+1) _ (Int.emod_nonneg _ (Int.ne_of_gt hm0)) (Int.emod_lt_of_pos _ hm0) (by trivial) (Int.le_refl _) (xm (ad.refl H) hb) ⟨c,x,av,hc,hx0,hx1⟩
end
end K72
namespace K72
open PySem L2
section
variable {P:Program}{w:World}{K:PySem.W.Frag}{mg:Str→Option Value}{base:Heap}
inductive Gw (vs:List V) (H:Hp) (Q:VK):Prop
 | mk (n d:Int) (h0:vs=[.int n,.int d]) (h1:d≠0) (h2:d.natAbs.log2<9000) (h3:∀p,H p=none→Q (.ref p) (aJ H p (.tup [.int (KM.low n d).1,.int (KM.low n d).2])))
def HH:Sp:=fun vs H Q _=>Gw  vs H Q
theorem EU {n d:Int} (hd:d≠0) (h:d.natAbs.log2<9000):zH n ((Int.gcd n d:Nat):Int):=by
 have g0:=KM.gcd_pos (n:=n) hd
 refine ⟨by trivial,?_⟩
 have h1:Int.gcd n d≤d.natAbs:=Nat.le_of_dvd (by trivial) (by
  have:((Int.gcd n d:Nat):Int) ∣ d:=Int.gcd_dvd_right ..
  exact Int.ofNat_dvd_left.mp this)
 have h2:d.natAbs<2 ^ 9000:=(Nat.log2_lt (by trivial)).mp h
 rw [Int.natAbs_natCast]
 exact (Nat.log2_lt (by trivial)).mpr (Nat.lt_of_le_of_lt h1 h2)
theorem A6 (T:Txt K mg):aD P w K mg base CX0 1 T.l_lowest_.f T.l_lowest_.d ["_law_n", "_law_d"] HH:=by
 refine T.l_lowest_.F.ok pE (fun vs H Q E h=>?_) (fun cdv A outer s H vs Q E hr h=>?_)
 ·obtain ⟨n,d,rfl,_⟩:=h
  rfl
 ·obtain ⟨n,d,rfl,hd,hl,k⟩:=h
  refine ⟨_,(dX (nN (i:=2) (j:=3) rfl pE.nd rfl rfl (by decide) rfl rfl (bE (gI nX (by rfl) T.b_abs kO (bE (pv 0) aY)) (bE (gI nX (by rfl) T.b_abs kO (bE (pv 1) aY)) aY)) rfl)
   (dX (u7 PassesOwn.never (aq t0 (pv 3) bC (oy _)) (aa (nN (i:=2) (j:=3) rfl pE.nd rfl rfl (by decide) rfl rfl (bE (pv 3) (bE (am fH (pv 2) (pv 3)) aY)) rfl)))
   (aa (ay (fY (aq t0 (pv 1) bC (oy _)) (AU (bE (am qR (pv 0) (pv 2)) (bE (am qR (pv 1) (pv 2)) aY))) (AU (bE (am qR (cG b4 (pv 0)) (pv 2)) (bE (am qR (cG b4 (pv 1)) (pv 2)) aY)))))))),?_⟩
  refine ⟨(),(),(),(),_,(),?_⟩
  refine ⟨fun m σ H'=>∃a b:Int,σ=[some (.int n),some (.int d),some (.int a),some (.int b)]∧H'=H∧0≤a∧0≤b∧Int.gcd a b=Int.gcd n d∧m=b.natAbs,⟨_,_,(),rfl,xU n,xU d,KM.gcd_abs n d,rfl⟩,?_⟩
  rintro m σ H' ⟨a,b,rfl,rfl,ha,hb,hg,rfl⟩
  refine ⟨(),_,(),rfl,(),?_⟩
  by_cases hb0:0<b
  ·rw [decide_eq_true hb0]
   refine cx ⟨fun σ' H''=>∃a' b':Int,σ'=[some (.int n),some (.int d),some (.int a'),some (.int b')]∧H''=H'∧0≤a'∧0≤b'∧Int.gcd a' b'=Int.gcd n d∧b'.natAbs<b.natAbs,?_,?_⟩
   ·rintro σ' H'' ⟨a',b',rfl,rfl,h0,h1,h2,h3⟩
    exact ⟨_,h3,a',b',rfl,rfl,h0,h1,h2,rfl⟩
   ·refine ⟨(),(),(),_,(),rfl,hb0,_,(),?_⟩
    have q0:=Int.emod_nonneg a (Int.ne_of_gt hb0)
    have q1:=Int.emod_lt_of_pos a hb0
    exact ⟨b,a % b,rfl,rfl,hb,q0,(KM.gcd_emod a b).trans hg,by trivial⟩
  ·have hb1:b=0:=by trivial
   subst hb1
   refine aT ?_
   have eg:a=((Int.gcd n d:Nat):Int):=by
    rw [←hg,KM.gcd_zero_abs,if_neg (by trivial)]
   have c1:=EU (n:=n) hd hl
   rw [←eg] at c1
   refine ⟨(),_,(),rfl,(),?_⟩
   by_cases h0:0<d
   ·rw [decide_eq_true h0]
    refine cx ⟨(),(),_,(),rfl,c1,(),(),_,(),rfl,c1,(by show 2≤sizeLine;decide),fun p hp=>?_⟩
    have q:=k p hp
    unfold KM.low at q
    rw [if_pos h0,←eg] at q
    exact q
   ·rw [decide_eq_false h0]
    refine aT ⟨(),(),(),_,(),rfl,c1,(),(),(),_,(),rfl,c1,(by show 2≤sizeLine;decide),fun p hp=>?_⟩
    have q:=k p hp
    unfold KM.low at q
    rw [if_neg h0,←eg] at q
    exact q
end
end K72
namespace K72
open PySem L2
section
variable {P:Program}{w:World}{K:PySem.W.Frag}{mg:Str→Option Value}{base:Heap}
theorem AG (T:Txt K mg):aD P w K mg base CX0 1 T.l_folded_.f T.l_folded_.d ["_law_script", "_law_many"] (Gy K):=by
 refine T.l_folded_.F.ok lS (fun vs H Q E h=>?_) (fun cdv A outer s H vs Q E hr h=>?_)
 ·obtain ⟨a,ns,many,rfl,_⟩:=h
  rfl
 ·obtain ⟨a,ns,many,rfl,hS,hn,hm0,hm1,kk⟩:=h
  refine ⟨_,(dX (qB (i:=2) lS.nd rfl (Or.inl rfl) (bW sR (by rfl) T.b_list kI (bE (d7 wk (pv 0) gn (dW (pv 1))) aY)))
   (dX (fe PassesOwn.never rfl (Ep rfl T.b_enumerate (bE (d7 wk (pv 0) (dW (pv 1)) (dW bC)) aY)) (yd rfl (af (j7 (i:=3) lS.nd rfl (Or.inl rfl)) (af (j7 (i:=4) lS.nd rfl (Or.inl rfl)) bf))) (aa (dk (am bn (gK kD (pv 2) (am fH (pv 3) (pv 1)) (fun _ _=>rfl)) (am kj (pv 4) (am bn (pv 3) bC))) (xY (pv 2) (am fH (pv 3) (pv 1)) uO))))
   (aa (ay (am A2 (pv 2) (am BG (AI (bE bC aY)) (am eV bC (gI ou (by rfl) T.b_len aL (bE (pv 2) aY))))))))),?_⟩
  have cutE:∀(lo hi:Option Int),∃cs:List Int,gY (ns.map V.int) lo hi=cs.map V.int∧cs.length≤ns.length∧cs=(ns.drop (HT.sIx ns.length 0 lo)).take (HT.sIx ns.length ns.length hi - HT.sIx ns.length 0 lo):=fun lo hi=>by
   refine ⟨(ns.drop (HT.sIx ns.length 0 lo)).take (HT.sIx ns.length ns.length hi - HT.sIx ns.length 0 lo),?_,?_,rfl⟩
   ·unfold gY
    rw [List.length_map,List.map_take,List.map_drop]
   ·rw [List.length_take,List.length_drop];trivial
  obtain ⟨c1,e1,l1,q1⟩:=cutE none (some many)
  obtain ⟨c2,e2,l2,q2⟩:=cutE (some many) (some 63)
  have em:many=((many.toNat:Nat):Int):=by trivial
  have l1m:c1.length=min many.toNat ns.length:=by
   rw [q1,em,HT.sIx_nat,HT.sIx_none,List.length_take,List.length_drop]
   simp only [Int.toNat_natCast]
   trivial
  have l2m:c2.length≤ns.length - many.toNat:=by
   rw [q2,em,HT.sIx_nat,List.length_take,List.length_drop]
   simp only [Int.toNat_natCast]
   trivial
  refine ⟨(),(),(),a,(),hS,fun p1 hp1=>⟨p1,(),.inl (aA.of av),fun p2 hp2=>?_⟩⟩
  rw [e1] at hp2 ⊢
  have n12:p2≠p1:=fun z=>by rw [z,av] at hp2;cases hp2
  have s2:ad H (aJ (aJ H p1 (.lst (c1.map V.int))) p2 (.lst (c1.map V.int))):=(ad.new hp1).trans (ad.new hp2)
  refine ⟨(),(),(),(),a,(),s2.seq hS,fun p3 hp3=>⟨p3,rfl,⟨_,aA.of av⟩,?_⟩⟩
  rw [e2]
  have s3:=s2.trans (ad.new (o:=.lst (c2.map V.int)) hp3)
  have n23:p2≠p3:=fun z=>by rw [←z,av] at hp3;cases hp3
  refine ⟨fun i m σ H'=>m=c2.length - i∧i≤c2.length∧kZ fun (ms:List Int) (v3 v4:Option V)=>σ=[some (.ref a),some (.int many),some (.ref p2),v3,v4]∧ms.length=c1.length∧H' p2=some (.lst (ms.map V.int))∧H' p3=some (.lst (c2.map V.int))∧(∀b o,b≠p2→H b=some o→H' b=some o),⟨(),Nat.zero_le _,c1,none,none,rfl,rfl,?_,av,fun b o _ h=>s3 b o h⟩,?_⟩
  ·rw [ax n23];exact av
  rintro i m σ H' ⟨rfl,hi,ms,v3,v4,rfl,hms,h2,h3,hk⟩
  by_cases hlt:i<c2.length
  ·refine .inr ⟨⟨c2.map V.int,V.int c2[i],aA.of h3,by rw [List.getElem?_map];simp [hlt]⟩,_,fun σ' H'' z=>z,?_⟩
   rintro x H'' ⟨t,y,ht,rfl,rfl,hy⟩
   have hy':=hy _ (aA.of h3)
   rw [List.getElem?_map,List.getElem?_eq_getElem hlt] at hy'
   obtain rfl:V.int c2[i]=y:=Option.some.inj hy'
   have nt2:p2≠t:=aK h2 ht
   have nt3:p3≠t:=aK h3 ht
   have hlen:many.toNat<ns.length:=by trivial
   have hmod0:0≤(i:Int) % many:=Int.emod_nonneg _ (by trivial)
   have hmod1:(i:Int) % many<many:=Int.emod_lt_of_pos _ (by trivial)
   have hixlt:((i:Int) % many).toNat<ms.length:=by trivial
   refine ⟨t,(),ae.of av,rfl,_,(),_,(),rfl,(),(),(),_,(),rfl,(by show (0:Int)<many;trivial),.inl ⟨p2,ms.map V.int,_,V.int ms[((i:Int) % many).toNat],rfl,rfl,aA.of (by rw [ax nt2];exact h2),yV hmod0 hixlt,(),(),_,(),rfl,_,(),rfl,.inr ⟨?_,?_⟩,_,(),rfl,(),(),(),_,(),rfl,(by show (0:Int)<many;trivial),p2,ms.map V.int,_,((i:Int) % many).toNat,rfl,rfl,(by rw [ax nt2];exact h2),?_,?_⟩⟩
   ·trivial
   ·trivial
   ·unfold uL
    rw [if_pos hmod0,List.length_map,if_pos (by trivial)]
   ·refine ⟨c2.length - (i+1),by trivial,rfl,hlt,ms.set ((i:Int) % many).toNat (ms[((i:Int) % many).toNat]+c2[i]*((i:Int)+2)),_,(),by rw [List.length_set];exact hms,?_,?_,fun b o hb h=>?_⟩
    ·rw [av,List.map_set]
    ·rw [ax (Ne.symm n23),ax nt3];exact h3
    ·have:=hk b o hb h
     rw [ax hb,ax (aK this ht)]
     exact this
  ·refine .inl ⟨⟨_,aA.of h3,by rw [List.length_map];trivial⟩,?_⟩
   refine ⟨(),(by show 1≤sizeLine;decide),fun p4 hp4=>⟨(),p2,(),.inl (aA.of (by rw [ax (aK h2 hp4)];exact h2)),_,(),rfl,p4,_,(),rfl,av,?_,?_,?_,fun p5 hp5=>⟨p2,p5,ms.map V.int,(),rfl,?_,av,?_,fun p6 hp6=>?_⟩⟩⟩
   ·rw [List.length_map];trivial
   ·rw [List.length_map];trivial
   ·rw [List.length_map]
    show 1*_≤sizeLine
    rw [sizeLine_eq];trivial
   ·have q:=h2
    rw [←ax (H:=H') (o:=.lst [.int 0]) (aK h2 hp4)] at q
    rw [ax (aK q hp5)];exact q
   ·rw [wM,List.length_map,sizeLine_eq]
    simp only [List.length_cons,List.length_nil]
    trivial
   ·have hp2':H p2=none:=by
     rw [ax n12] at hp2
     exact hp2
    have sH:ad H H':=fun b o h=>hk b o (aK h hp2') h
    have s45:∀o5,ad H (aJ (aJ H' p4 (.lst [.int 0])) p5 o5):=fun o5=>(sH.trans (ad.new (o:=.lst [.int 0]) hp4)).trans (ad.new hp5)
    have er:(List.replicate ((2:Int) - ((ms.map V.int).length:Nat)).toNat [V.int 0]).flatten=(List.replicate (2 - ms.length) (0:Int)).map V.int:=by
     have ek:((2:Int) - ((ms.map V.int).length:Nat)).toNat=2 - ms.length:=by rw [List.length_map];trivial
     rw [ek]
     generalize 2 - ms.length=q
     induction q with
     | zero=>rfl
     | succ q ih=>rw [List.replicate_succ,List.flatten_cons,ih,List.replicate_succ,List.map_cons];rfl
    refine kk p6 (ms++List.replicate (2 - ms.length) 0) _ ((s45 _).free hp6) ((s45 _).trans (ad.new hp6)) ?_ ?_ ?_
    ·rw [av,er,List.map_append]
    ·rw [List.length_append,List.length_replicate];trivial
    ·rw [List.length_append,List.length_replicate];trivial
end
end K72
namespace K72
open PySem L2
section
variable {P:Program}{w:World}{K:PySem.W.Frag}{mg:Str→Option Value}{base:Heap}
inductive GU (vs:List V) (H:Hp) (Q:VK):Prop
 | mk (a:Addr) (xs:List V) (i:Nat) (x:V) (h0:vs=[.ref a,.int (i:Int),x]) (h1:H a=some (.tup xs)) (h2:i<xs.length) (h3:xs.length≤5000) (h4:∀p H',ad H H'→H' p=some (.tup (xs.set i x))→Q (.ref p) H')
def Hz:Sp:=fun vs H Q _=>GU  vs H Q
theorem vX (xs:List V) (i:Nat):gY xs none (some (i:Int))=xs.take i:=by
 unfold gY
 rw [HT.sIx_none,HT.sIx_nat,List.drop_zero,Nat.sub_zero,List.take_eq_take_iff]
 trivial
theorem xJ (xs:List V) (i:Nat):gY xs (some (i:Int)) none=xs.drop i:=by
 unfold gY
 rw [HT.sIx_none,HT.sIx_nat]
 by_cases h:i≤xs.length
 ·rw [Nat.min_eq_left h,List.take_of_length_le (by rw [List.length_drop];trivial)]
 ·rw [Nat.min_eq_right (by trivial),List.drop_of_length_le (by trivial),List.drop_of_length_le (by trivial)];simp
theorem oR (T:Txt K mg):aD P w K mg base CX0 1 T.put_at_.f T.put_at_.d ["parts", "at", "part"] Hz:=by
 refine T.put_at_.F.ok AZ (fun vs H Q E h=>?_) (fun cdv A outer s H vs Q E hr h=>?_)
 ·obtain ⟨a,xs,i,x,rfl,_⟩:=h
  rfl
 ·obtain ⟨a,xs,i,x,rfl,ha,hi,hl,k⟩:=h
  refine ⟨_,#[aa 3 #[ay 4 #[am 8 (@cp _) #[am 8 (@cp _) #[d7 10 (@iN _ (K) (by rfl)) #[0,qj] (@gn _) #[dW 3 #[1,uB]]] #[ak 5 #[[#[2,xz]]]]] #[d7 10 (@iN _ (K) (by rfl)) #[0,qj] #[dW 3 #[am 8 (@bn _) #[1,uB] #[()]]] (@gn _)]]]],?_⟩
  refine ⟨(),(),(),a,xs,rfl,ae.of ha,ha,fun p1 H1 s1 h1=>?_⟩
  rw [vX] at h1
  refine ⟨(),(by show 1≤10000;decide),fun p2 H2 n2=>⟨p1,p2,_,(),rfl,n2.sm _ _ h1,n2.at',by rw [List.length_take,List.length_singleton];trivial,fun p3 H3 s3 h3=>?_⟩⟩
  have sa:=(s1.trans n2.sm).trans s3
  refine ⟨(),(),_,(),rfl,(),a,xs,rfl,ae.of (sa _ _ ha),sa _ _ ha,fun p4 H4 s4 h4=>?_⟩
  rw [show ((i:Int)+1)=((i+1:Nat):Int) by trivial,xJ] at h4
  refine ⟨p3,p4,_,(),rfl,s4 _ _ h3,h4,by simp [List.length_take,List.length_drop];trivial,fun p5 H5 s5 h5=>k p5 H5 ((sa.trans s4).trans s5) ?_⟩
  rw [h5,yX xs i x hi]
def uJ (T:Txt K mg):RW→Addr
 | .taken=>T.x_Taken
 | .noPlace=>T.x_NoPlace
 | .noTie=>T.x_NoTie
 | .asItIs=>T.x_AsItIs
theorem F3 (l:List Nat) (es:List (List Nat)):ze (aH l) (es.map aH)=decide (l∈es):=by
 unfold ze
 rw [List.any_map,Bool.eq_iff_iff,List.any_eq_true,decide_eq_true_iff]
 constructor
 ·rintro ⟨x,h1,h2⟩
  have h2':(S x==S l)=true:=h2
  rw [←Dt (eq_of_beq h2')]
  exact h1
 ·exact fun h=>⟨l,h,by show (S l==S l)=true;simp⟩
theorem AC (es:List (List Nat)):(es.map aH).all lP=true:=by
 rw [List.all_map]
 exact List.all_eq_true.mpr fun _ _=>rfl
theorem xh (i:Int) (es:List Int):ze (.int i) (es.map V.int)=decide (i∈es):=by
 unfold ze
 rw [List.any_map,Bool.eq_iff_iff,List.any_eq_true,decide_eq_true_iff]
 constructor
 ·rintro ⟨x,h1,h2⟩
  have h2':(x==i)=true:=h2
  rw [←eq_of_beq h2']
  exact h1
 ·exact fun h=>⟨i,h,by show (i==i)=true;simp⟩
theorem mX (es:List Int):(es.map V.int).all lP=true:=by
 rw [List.all_map]
 exact List.all_eq_true.mpr fun _ _=>rfl
theorem IF {a b:List Nat}:(aH a=aH b)↔a=b:=⟨fun h=>Dt (by injection h),fun h=>by rw [h]⟩
theorem vE {H H1:Hp}{a:Addr}{o:HO} (s:ad H H1) (h:H a=none):ad H (aJ H1 a o):=fun b u e=>by
 rw [ax (aK e h)]
 exact s b u e
inductive GE (c:Addr) (vs:List V) (H:Hp) (Q:VK) (E:XK):Prop
 | mk (a:Addr) (ls:List (List Nat)) (b e:List Nat) (h0:vs=[.ref a,aH b,aH e]) (h1:H a=some (.tup (ls.map aH))) (h2:((b∈ls∧e∈ls∧b≠e)→Q .non H)) (h3:(¬(b∈ls∧e∈ls∧b≠e)→∀H',ad H H'→E (.ref c) none H'))
def Iz (c:Addr):Sp:=fun vs H Q E=>GE c vs H Q E
theorem tM (T:Txt K mg):aD P w K mg base (hV P w) 1 T.check_two_.f T.check_two_.d ["places", "begin", "end"] (Iz T.x_NoPlace):=by
 refine T.check_two_.F.okX xK (fun vs H Q E h=>?_) (fun cdv A outer s H vs Q E hr h=>?_)
 ·obtain ⟨a,ls,b,e,rfl,_⟩:=h
  rfl
 ·obtain ⟨a,ls,b,e,rfl,ha,k1,k2⟩:=h
  refine ⟨_,#[#[aU 8 #[PW.pt 3 #[gN 7 #[aq 8 (@ui _ (K) (by rfl)) #[1,mJ] #[0,mq] rfl] #[fN 4 #[aq 8 (@ui _ (K) (by rfl)) #[2,oX] #[0,mq] rfl]]]] #[aa 3 #[gJ 5 rfl #[iQ 15] #[j0 8 T.q_NoPlace T.k_NoPlace kS T.m_NoPlace #[[#[jt 4]]] (by decide) (by rfl) (by rfl)]]] (@aM _)] :: #[aa 3 #[aU 8 #[aq 8 (@b7 _) #[1,mJ] #[2,oX] #[(),()]] #[aa 3 #[gJ 5 rfl #[iQ 15] #[j0 8 T.q_NoPlace T.k_NoPlace kS T.m_NoPlace #[[#[jt 4]]] (by decide) (by rfl) (by rfl)]]] (@aM _)]]],?_⟩
  have ra:¬(b∈ls∧e∈ls∧b≠e)→∀y H1,Nw H y (lJ y T.x_NoPlace none) H1→rO fun a C dx ini=>V.ref y=.ref a∧H1 a=some (lJ a C dx)∧eU K C ini=true∧E (.ref C) dx (aJ H1 a (u5 a C dx)):=fun n y H1 n1=>
   ⟨y,T.x_NoPlace,none,(),n1.at',T.q_NoPlace,k2 n _ (vE n1.sm n1.fr)⟩
  refine aP fun D0 n0=>⟨(),(),a,(),.inr (ae.of ha),rfl,AC ls,(),?_⟩
  simp only [if_true,F3]
  by_cases hb:b∈ls
  ·rw [decide_eq_true hb]
   refine aT ⟨(),(),a,(),.inr (ae.of ha),rfl,AC ls,(),?_⟩
   simp only [if_true,F3]
   by_cases he:e∈ls
   ·rw [decide_eq_true he]
    refine aT (n0 _ _ ⟨(),(),rfl,(),cF (fun c=>?_) fun c=>?_⟩)
    ·have c':=IF.mp (of_decide_eq_true c)
     exact ⟨(by show 1≤10000;decide),ra fun z=>z.2.2 c'⟩
    ·exact k1 ⟨hb,he,fun z=>c (decide_eq_true (IF.mpr z))⟩
   ·rw [decide_eq_false he]
    exact cx ⟨(by show 1≤10000;decide),ra fun z=>he z.2.1⟩
  ·rw [decide_eq_false hb]
   exact cx ⟨(by show 1≤10000;decide),ra fun z=>hb z.1⟩
inductive Hi (c:Addr) (vs:List V) (H:Hp) (Q:VK) (E:XK):Prop
 | mk (a:Addr) (xs:List V) (i:Int) (h0:vs=[.ref a,.int i]) (h1:H a=some (.tup xs)) (h2:((0≤i∧i<(xs.length:Int))→Q .non H)) (h3:(¬(0≤i∧i<(xs.length:Int))→∀H',ad H H'→E (.ref c) none H'))
def Iv (c:Addr):Sp:=fun vs H Q E=>Hi c vs H Q E
theorem iD (T:Txt K mg):aD P w K mg base (hV P w) 1 T.check_tie_.f T.check_tie_.d ["ties", "number"] (Iv T.x_NoTie):=by
 refine T.check_tie_.F.okX xW (fun vs H Q E h=>?_) (fun cdv A outer s H vs Q E hr h=>?_)
 ·obtain ⟨a,xs,i,rfl,_⟩:=h
  rfl
 ·obtain ⟨a,xs,i,rfl,ha,k1,k2⟩:=h
  refine ⟨_,#[aa 3 #[aU 8 #[fQ 4 #[C1 12 (@Az _) (@iM _) #[()] #[1,tf] #[(),(),(@cm _ (K) (by rfl)),vB,T.b_len,(@aL),#[[#[0,uU]]]] (by with_unfolding_all rfl)]] #[aa 3 #[gJ 5 rfl #[iQ 15] #[j0 8 T.q_NoTie T.k_NoTie ux T.m_NoTie #[[#[jt 4]]] (by decide) (by rfl) (by rfl)]]] (@aM _)]],?_⟩
  have ra:¬(0≤i∧i<(xs.length:Int))→∀y H1,Nw H y (lJ y T.x_NoTie none) H1→rO fun a C dx ini=>V.ref y=.ref a∧H1 a=some (lJ a C dx)∧eU K C ini=true∧E (.ref C) dx (aJ H1 a (u5 a C dx)):=fun n y H1 n1=>
   ⟨y,T.x_NoTie,none,(),n1.at',T.q_NoTie,k2 n _ (vE n1.sm n1.fr)⟩
  refine ⟨(),_,(),rfl,(),?_⟩
  by_cases h0:0≤i
  ·rw [decide_eq_true h0]
   refine cx ⟨(),a,xs,rfl,.inr (ae.of ha),_,(),rfl,(),?_⟩
   by_cases h1:i<(xs.length:Int)
   ·rw [decide_eq_true h1]
    exact aT (k1 ⟨h0,h1⟩)
   ·rw [decide_eq_false h1]
    exact cx ⟨(by show 1≤10000;decide),ra fun z=>h1 z.2⟩
  ·rw [decide_eq_false h0]
   exact aT ⟨(),cx ⟨(by show 1≤10000;decide),ra fun z=>h0 z.1⟩⟩
end
end K72
namespace K72
open PySem L2
section
variable {P:Program}{w:World}{K:PySem.W.Frag}{mg:Str→Option Value}{base:Heap}
theorem AR (T:Txt K mg):aD P w K mg base CX0 1 T.l_box_of_.f T.l_box_of_.d ["_law_script", "_law_k"] (HA K):=by
 refine T.l_box_of_.F.ok pQ (fun vs H Q E h=>?_) (fun cdv A outer s H vs Q E hr h=>?_)
 ·obtain ⟨a,ms,k,rfl,_⟩:=h
  rfl
 ·obtain ⟨a,ms,k,rfl,hS,hk0,hk1,kk⟩:=h
  refine ⟨_,(dX (qB (i:=2) pQ.nd rfl (Or.inl rfl) bC)
   (dX (aU (aq iM (pv 1) (gI ou (by rfl) T.b_len aL (bE (pv 0) aY)) (oy _)) (aa (qB (i:=2) pQ.nd rfl (Or.inl rfl) (gK kD (pv 0) (pv 1) (fun _ _=>rfl)))) aM)
   (aa (ay (AI (bE (am kj (gI nX (by rfl) T.b_abs kO (bE (pv 2) aY)) (bW xk (by rfl) T.b_int pD (bE (c8 AE (gI nX (by rfl) T.b_abs kO (bE (pv 2) aY)) (am vW bC bC) (oy _)) aY))) (bE (am fH (am bn (pv 2) (am kj (am kj bC (pv 1)) (pv 1))) bC) (bE bC aY)))))))),?_⟩
  refine ⟨(),(),a,(),.inl hS,_,(),rfl,(),?_⟩
  refine cF (fun h=>?_) (fun h=>?_)
  case' refine_1=>
   have hlt:k.toNat<ms.length:=by
    have h':=of_decide_eq_true h
    rw [List.length_map] at h'
    trivial
   refine ⟨(),(),.inl ⟨a,_,_,V.int ms[k.toNat],rfl,rfl,hS,?_,?_⟩⟩
   ·exact yV hk0 hlt
  all_goals
   refine ⟨(),(),(),(),_,(),rfl,⟨by decide,by decide,by decide⟩,_,(),rfl,.inr ⟨(),_,(),rfl,.inr ?_,(),(),_,(),rfl,.inr ⟨by trivial,by trivial⟩,(),_,(),rfl,.inr ⟨by trivial,by trivial⟩,_,(),rfl,_,(),rfl,?_,?_,fun p hp=>kk p _ hp (ad.new hp) ⟨_,_,av,?_,?_,?_⟩⟩⟩
   ·exact JJ _
   ·show (0:Int)<2147483647;decide
   ·show 3≤sizeLine;decide
   ·exact HQ _ (xU _)
   ·exact Int.emod_nonneg _ (by decide)
   ·exact Int.emod_lt_of_pos _ (by decide)
end
end K72
namespace K72
open PySem L2
section
variable {P:Program}{w:World}{K:PySem.W.Frag}{mg:Str→Option Value}{base:Heap}
theorem qK (T:Txt K mg):aD P w K mg base CX0 1 T.l_lowest_.f T.l_lowest_.d ["_law_n", "_law_d"] AW:=
 (A6 T).imp fun vs H Q E ⟨n,d,e,hd,hs,k⟩=>⟨n,d,e,hd,hs.log hd,fun p hp=>k p _ (.mk' hp)⟩
end
end K72
namespace K72
open PySem L2
section
variable {P:Program}{w:World}{K:PySem.W.Frag}{mg:Str→Option Value}{base:Heap}
theorem pT (T:Txt K mg):aD P w K mg base CX0 2 T.fraction_.f T.fraction_.d ["n", "d"] AW:=by
 have G_common_divisor:=#[(mR)]
 refine T.fraction_.F.ok pJ (fun vs H Q E h=>?_) (fun cdv A outer s H vs Q E hr h=>?_)
 ·obtain ⟨n,d,rfl,_⟩:=h
  rfl
 ·obtain ⟨n,d,rfl,hd,hs,k⟩:=h
  refine ⟨_,#[#[2,pJ.nd,dN,#[G_common_divisor,mY,T.common_divisor_,#[[#[0,s0],#[1,nS]]]]] :: #[#[aU 8 #[aq 8 (@iM _) #[1,nS] #[()] #[(),()]] #[aa 3 #[2,pJ.nd,dN,#[cG 6 (@b4 _) #[2,dN]]]] (@aM _)] :: #[aa 3 #[ay 4 #[ak 5 #[[#[am 8 (@x9 _) #[0,s0] #[2,dN]],#[am 8 (@x9 _) #[1,nS] #[2,dN]]]]]]]]],?_⟩
  refine ⟨(),(),n,d,rfl,(),_,(),rfl,(),?_⟩
  have g0:=KM.gcd_pos (n:=n) hd
  have gs:=IM (n:=n) hd hs
  have kl:=KM.fdiv_low (n:=n) hd
  by_cases h0:d<0
  ·rw [decide_eq_true h0]
   rw [if_pos h0] at kl
   have c1:∀x,An x (-((Int.gcd n d:Nat):Int)):=fun x=>⟨by trivial,gs.neg⟩
   refine cx ⟨(),(),(),(),_,(),rfl,c1 n,(),(),_,(),rfl,c1 d,(by show 2≤10000;decide),fun p H1 nw=>?_⟩
   have q:=k p H1
   rw [←kl] at q
   exact q nw
  ·rw [decide_eq_false h0]
   rw [if_neg h0] at kl
   have c1:∀x,An x ((Int.gcd n d:Nat):Int):=fun x=>⟨by trivial,gs⟩
   refine aT ⟨(),(),_,(),rfl,c1 n,(),(),_,(),rfl,c1 d,(by show 2≤10000;decide),fun p H1 nw=>?_⟩
   have q:=k p H1
   rw [←kl] at q
   exact q nw
theorem Cf (T:Txt K mg):aD P w K mg base CX0 3 T.added_.f T.added_.d ["one", "other"] (xG IY Ad):=by
 have G_fraction:=#[(pT)]
 refine T.added_.F.ok Cs (fun vs H Q E h=>?_) (fun cdv A outer s H vs Q E hr h=>?_)
 ·obtain ⟨a,b,n1,d1,n2,d2,rfl,_⟩:=h
  rfl
 ·obtain ⟨a,b,n1,d1,n2,d2,rfl,ha,hb,⟨z1,z2,z3,z4,hd⟩,k⟩:=h
  refine ⟨_,#[aa 3 #[ay 4 #[G_fraction,vf,T.fraction_,#[[#[am 8 (@bn _) #[am 8 (@gX _) #[#[0,pI][#[()]]] #[#[1,mC][#[()]]]] #[am 8 (@gX _) #[#[1,mC][#[()]]] #[#[0,pI][#[()]]]]],#[am 8 (@gX _) #[#[0,pI][#[()]]] #[#[1,mC][#[()]]]]]]]]],?_⟩
  exact ⟨(),a,_,_,(),rfl,ae.of ha,rfl,(),b,_,_,(),rfl,ae.of hb,rfl,_,(),rfl,ph z1 z4,(),b,_,_,(),rfl,ae.of hb,rfl,(),a,_,_,(),rfl,ae.of ha,rfl,_,(),rfl,ph z3 z2,_,(),rfl,
   _,rfl,a,_,_,_,rfl,rfl,ae.of ha,rfl,_,rfl,b,_,_,_,rfl,rfl,ae.of hb,rfl,_,_,rfl,rfl,ph z2 z4,_,_,rfl,hd,Ai z2 z4,k⟩
theorem Cg (T:Txt K mg):aD P w K mg base CX0 3 T.taken_.f T.taken_.d ["one", "other"] (xG Je Ad):=by
 have G_fraction:=#[(pT)]
 refine T.taken_.F.ok CT (fun vs H Q E h=>?_) (fun cdv A outer s H vs Q E hr h=>?_)
 ·obtain ⟨a,b,n1,d1,n2,d2,rfl,_⟩:=h
  rfl
 ·obtain ⟨a,b,n1,d1,n2,d2,rfl,ha,hb,⟨z1,z2,z3,z4,hd⟩,k⟩:=h
  refine ⟨_,#[aa 3 #[ay 4 #[G_fraction,uY,T.fraction_,#[[#[am 8 (@eV _) #[am 8 (@gX _) #[#[0,pC][#[()]]] #[#[1,mB][#[()]]]] #[am 8 (@gX _) #[#[1,mB][#[()]]] #[#[0,pC][#[()]]]]],#[am 8 (@gX _) #[#[0,pC][#[()]]] #[#[1,mB][#[()]]]]]]]]],?_⟩
  exact ⟨(),a,_,_,(),rfl,ae.of ha,rfl,(),b,_,_,(),rfl,ae.of hb,rfl,_,(),rfl,ph z1 z4,(),b,_,_,(),rfl,ae.of hb,rfl,(),a,_,_,(),rfl,ae.of ha,rfl,_,(),rfl,ph z3 z2,_,(),rfl,
   _,rfl,a,_,_,_,rfl,rfl,ae.of ha,rfl,_,rfl,b,_,_,_,rfl,rfl,ae.of hb,rfl,_,_,rfl,rfl,ph z2 z4,_,_,rfl,hd,Ai z2 z4,k⟩
theorem x5 (T:Txt K mg):aD P w K mg base CX0 3 T.times_.f T.times_.d ["one", "other"] (xG Gu Ad):=by
 have G_fraction:=#[(pT)]
 refine T.times_.F.ok C5 (fun vs H Q E h=>?_) (fun cdv A outer s H vs Q E hr h=>?_)
 ·obtain ⟨a,b,n1,d1,n2,d2,rfl,_⟩:=h
  rfl
 ·obtain ⟨a,b,n1,d1,n2,d2,rfl,ha,hb,⟨z1,z2,z3,z4,hd⟩,k⟩:=h
  refine ⟨_,#[aa 3 #[ay 4 #[G_fraction,vk,T.fraction_,#[[#[am 8 (@gX _) #[#[0,uI][#[()]]] #[#[1,rP][#[()]]]],#[am 8 (@gX _) #[#[0,uI][#[()]]] #[#[1,rP][#[()]]]]]]]]],?_⟩
  exact ⟨(),a,_,_,(),rfl,ae.of ha,rfl,(),b,_,_,(),rfl,ae.of hb,rfl,_,(),rfl,ph z1 z3,
   _,rfl,a,_,_,_,rfl,rfl,ae.of ha,rfl,_,rfl,b,_,_,_,rfl,rfl,ae.of hb,rfl,_,_,rfl,rfl,ph z2 z4,_,_,rfl,hd,Ai z2 z4,k⟩
theorem uG (T:Txt K mg):aD P w K mg base CX0 1 T.compared_.f T.compared_.d ["one", "other"] HU:=by
 refine T.compared_.F.ok pj (fun vs H Q E h=>?_) (fun cdv A outer s H vs Q E hr h=>?_)
 ·obtain ⟨a,b,n1,d1,n2,d2,rfl,_⟩:=h
  rfl
 ·obtain ⟨a,b,n1,d1,n2,d2,rfl,ha,hb,z1,z2,z3,z4,k⟩:=h
  refine ⟨_,#[#[2,pj.nd,kF,#[am 8 (@gX _) #[#[0,qD][#[()]]] #[#[1,nW][#[()]]]]] :: #[#[3,pj.nd,jT,#[am 8 (@gX _) #[#[1,nW][#[()]]] #[#[0,qD][#[()]]]]] :: #[#[aU 8 #[aq 8 (@iM _) #[2,kF] #[3,jT] #[(),()]] #[aa 3 #[ay 4 #[cG 6 (@b4 _) #[()]]]] (@aM _)] :: #[#[aU 8 #[aq 8 (@t0 _) #[2,kF] #[3,jT] #[(),()]] #[aa 3 #[ay 4 #[()]]] (@aM _)] :: #[aa 3 #[ay 4 #[()]]]]]]],?_⟩
  refine ⟨(),a,_,_,(),rfl,ae.of ha,rfl,(),b,_,_,(),rfl,ae.of hb,rfl,_,(),rfl,ph z1 z4,(),b,_,_,(),rfl,ae.of hb,rfl,(),a,_,_,(),rfl,ae.of ha,rfl,_,(),rfl,ph z3 z2,
   _,rfl,_,rfl,_,_,rfl,rfl,_,rfl,?_⟩
  unfold Ah at k
  by_cases h1:n1*d2<n2*d1
  ·rw [decide_eq_true h1]
   rw [if_pos h1] at k
   exact cx ⟨(),k⟩
  ·rw [decide_eq_false h1]
   rw [if_neg h1] at k
   refine aT ⟨(),(),_,(),rfl,(),?_⟩
   by_cases h2:n2*d1<n1*d2
   ·rw [decide_eq_true h2]
    rw [if_pos h2] at k
    exact cx k
   ·rw [decide_eq_false h2]
    rw [if_neg h2] at k
    exact aT k
end
end K72
namespace K72
open PySem L2
section
variable {P:Program}{w:World}{K:PySem.W.Frag}{mg:Str→Option Value}{base:Heap}
theorem uM (T:Txt K mg):aD P w K mg base CX0 2 T.l_names_by_.f T.l_names_by_.d ["_law_box", "_law_many"] ET:=by
 have G_l_take:=#[(iU)]
 refine T.l_names_by_.F.ok d6 (fun vs H Q E h=>?_) (fun cdv A outer s H vs Q E hr h=>?_)
 ·obtain ⟨b,many,t,rfl,_⟩:=h
  rfl
 ·obtain ⟨b,many,t,rfl,B,ht0,ht1,hm1,hm2,k⟩:=h
  refine ⟨_,#[#[dk 6 #[ak 5 #[[#[jt 4],#[G_l_take,ft,T.l_take_,#[[#[0,(fM)],#[()]]]]]]] (@aX _ (K) _ _ _ _ (2) rfl #[af 5 #[j7 2 (2) _ d6.nd rfl (Or.inr jC) (by first | exact .inl rfl | exact .inr rfl | assumption)] #[af 5 #[j7 2 (3) _ d6.nd rfl (Or.inr kE) (by first | exact .inl rfl | exact .inr rfl | assumption)] (@bf _) (by rfl)] (by rfl)] (by rfl) (by rfl) (by rfl)) (by rfl) (by rfl) (by rfl)] :: #[#[aU 8 #[aq 8 (@b7 _) #[G_l_take,ft,T.l_take_,#[[#[0,(fM)],#[()]]]] #[()] #[(),()]] #[#[5,d6.nd,mj,#[am 8 (@El _) #[cI 7 (["_law_k", "_law_first", "_law_letters"]) (1) ([3,2]) _ _ _ _ rfl (by kernel_rfl) #[cb 6 fP T.b_range #[[#[()]]] (by rfl)] (fun _ _ _ _ _ _=>#[0,(),()]) (fun _ _ _ _ _ _=>@cf _) (fun _ _ _ _ _ _=>#[am 8 (@zp _) #[gK 7 (@sU _) #[2,0] #[1,0] (fun _ _=>rfl)] #[am 8 (@bn _) #[()] #[0,()]]]) (by intro _;rfl)] #[cI 7 (["_law_k", "_law_first", "_law_letters"]) (1) ([3,2]) _ _ _ _ rfl (by kernel_rfl) #[cb 6 fP T.b_range #[[#[()]]] (by rfl)] (fun _ _ _ _ _ _=>#[0,(),()]) (fun _ _ _ _ _ _=>@cf _) (fun _ _ _ _ _ _=>#[am 8 (@zp _) #[gK 7 (@sU _) #[2,0] #[am 8 (@eV _) #[1,0] #[()]] (fun _ _=>rfl)] #[am 8 (@bn _) #[()] #[0,()]]]) (by intro _;rfl)]]] :: #[aa 3 #[ay 4 #[EC 8 #[d7 10 (@BL _ (K) (by rfl)) #[5,mj] (@gn _) #[dW 3 #[1,kX]]] #[dW 3 #[cG 6 (@b4 _) #[()]]] (by rfl)]]]] (@aM _)] :: #[#[6,d6.nd,gQ,#[ca 4 (@aY _)]] :: #[#[fe 8 PassesOwn.never rfl #[cb 6 fP T.b_range #[[#[1,kX]]] (by rfl)] #[4,d6.nd,nF] #[#[7,d6.nd,lc,(@cA _ (K) _ _ _ _ _ _ _ _ _ _ _ PySem.F.plainAttrs_str PySem.F.slot_str_join PySem.F.type_str_join (@EL _ (K) (by rfl)) #[jt 4] #[[#[cI 7 (["_law_j", "_law_box", "_law_letters"]) (1) ([0,2]) _ _ _ _ rfl (by kernel_rfl) #[cb 6 fP T.b_range #[[#[G_l_take,ft,T.l_take_,#[[#[0,(fM)],#[#[ca 4 #[[#[()],#[()],#[()]]]][#[G_l_take,ft,T.l_take_,#[[#[0,(fM)],#[()]]]]]!]]]]]] (by rfl)] (fun _ _ _ _ _ _=>#[0,(),()]) (fun _ _ _ _ _ _=>@cf _) (fun _ _ _ _ _ _=>#[gK 7 (@sU _) #[2,0] #[G_l_take,(),T.l_take_,#[[#[1,0],#[()]]]] (fun _ _=>rfl)]) (by intro _;rfl)]]] (by rfl) (by rfl) (by rfl) (by rfl) (by rfl) (by rfl))] :: #[aa 3 #[aO 4 (@cA _ (K) _ _ _ _ _ _ _ _ _ _ _ PySem.F.plainAttrs_list PySem.F.slot_list_append PySem.F.type_list_append (@bQ _) #[6,gQ] #[[#[am 8 (@Es _) #[gK 7 (@sU _) #[2,(jC)] #[am 8 (@fH _) #[am 8 (@bn _) #[3,(kE)] #[am 8 (@kj _) #[()] #[4,nF]]] #[()]] (fun _ _=>rfl)] #[7,lc]]]] (by rfl) (by rfl) (by rfl) (by rfl) (by rfl) (by rfl)) (by rfl)]]] (by intro _;rfl)] :: #[aa 3 #[ay 4 #[6,gQ]]]]]]],?_⟩
  refine ⟨(),b,26,t,rfl,B,by decide,by decide,ht0,by trivial,fun f t1 H1 f0 f1 h1a h1b s1 B1=>⟨(by show 2≤10000;decide),fun q H2 n2=>⟨q,(),ae.of n2.at',rfl,_,(),_,(),rfl,?_⟩⟩⟩
  have B2:=B1.same n2.sm
  have s02:=s1.trans n2.sm.toE
  refine ⟨(),b,4,t1,rfl,B2,by decide,by decide,by trivial,by trivial,fun r t3 H3 r0 r1 h3a h3b s3 B3=>⟨rfl,(),?_⟩⟩
  have s03:=s02.trans s3
  have hz:(Str.ofString "abcdefghijklmnopqrstuvwxyz").length≤sizeLine:=by nofun
  have comp:∀(c:Nat) (G:Hp) (D:Addr),G D=none→(fun (i:Nat) (H':Hp) (ys:List V)=>ys=(List.range i).map (fun k=>aH (nm c k))∧H' D=some (.lst ys)∧ad G H') 0 (aJ G D (.lst [])) []:=fun c G D hD=>⟨rfl,av,cX hD (ad.refl _)⟩
  have step:∀(c i:Nat) (G H4:Hp) (D:Addr) (ys:List V),G D=none→ys=(List.range i).map (fun k=>aH (nm c k))→ad G H4→ys++[aH (nm c i)]=(List.range (i+1)).map (fun k=>aH (nm c k))∧aJ H4 D (.lst (ys++[aH (nm c i)])) D=some (.lst (ys++[aH (nm c i)]))∧ad G (aJ H4 D (.lst (ys++[aH (nm c i)]))):=fun c i G H4 D ys hD e s=>by
   refine ⟨?_,av,cX hD s⟩
   rw [e,List.range_succ,List.map_append];rfl
  refine cF (fun c1=>?_) (fun c1=>?_)
  ·-- rows of one letter
   have hc1:=oK (i:=f) (by trivial) (by trivial)
   have hc2:=oK (i:=f - 1) (by trivial) (by trivial)
   generalize hd1:97+(f % 26).toNat=d1 at hc1
   generalize hd2:97+((f - 1) % 26).toNat=d2 at hc2
   have b1:97≤d1∧d1≤122:=by trivial
   have b2:97≤d2∧d2≤122:=by trivial
   have ne:d1≠d2:=by trivial
   refine ⟨8,rfl,by decide,by decide,fun D1 hD1=>io (n:=8) (fun (i:Nat) (H':Hp) (ys:List V)=>ys=(List.range i).map (fun k=>aH (nm d1 k))∧H' D1=some (.lst ys)∧ad H3 H') (by decide) (comp d1 H3 D1 hD1) ?_ ?_ ?_ ?_ ?_⟩
   ·rintro i H' ys ⟨rfl,e,_⟩
    exact ⟨e,by simp⟩
   ·intro i H' ys hi _
    exact hi
   ·intro H' ys _
    exact Nat.le_refl _
   ·rintro i H' ys x H'' hi ⟨e1,e2,e3⟩ ⟨rfl,rfl⟩
    refine ⟨il,(),(),_,_,(),rfl,hz,hc1,(),_,(),rfl,[d1],(),rfl,by trivial,by trivial,(by show 1≤100;decide),?_⟩
    have en:(List.replicate (1+(0+(i:Int))).toNat [d1]).flatten=nm d1 i:=by
     rw [GZ]
     unfold nm
     congr 1
     trivial
    rw [en]
    exact ⟨e2,step d1 i H3 _ D1 ys hD1 e1 e3⟩
   rintro H4 ys1 ⟨ey1,eD1,s4⟩
   refine ⟨8,rfl,by decide,by decide,fun D2 hD2=>io (n:=8) (fun (i:Nat) (H':Hp) (ys:List V)=>ys=(List.range i).map (fun k=>aH (nm d2 k))∧H' D2=some (.lst ys)∧ad H4 H') (by decide) (comp d2 H4 D2 hD2) ?_ ?_ ?_ ?_ ?_⟩
   ·rintro i H' ys ⟨rfl,e,_⟩
    exact ⟨e,by simp⟩
   ·intro i H' ys hi _
    exact hi
   ·intro H' ys _
    exact Nat.le_refl _
   ·rintro i H' ys x H'' hi ⟨e1,e2,e3⟩ ⟨rfl,rfl⟩
    refine ⟨il,(),(),_,(),rfl,_,_,(),rfl,hz,hc2,(),_,(),rfl,[d2],(),rfl,by trivial,by trivial,(by show 1≤100;decide),?_⟩
    have en:(List.replicate (1+(0+(i:Int))).toNat [d2]).flatten=nm d2 i:=by
     rw [GZ]
     unfold nm
     congr 1
     trivial
    rw [en]
    exact ⟨e2,step d2 i H4 _ D2 ys hD2 e1 e3⟩
   rintro H5 ys2 ⟨ey2,eD2,s5⟩
   subst ey1 ey2
   refine ⟨D1,D2,_,(),rfl,s5 _ _ eD1,eD2,(by simp),fun q6 H6 n6=>?_⟩
   refine ⟨(),(),(),q6,(),aA.of n6.at',fun q7 H7 n7=>⟨(),(),rfl,q7,(),aA.of n7.at',fun q8 H8 n8=>?_⟩⟩
   have s38:ad H3 H8:=(((s4.trans s5).trans n6.sm).trans n7.sm).trans n8.sm
   let ls:=(((List.range 8).map (nm d1)++(List.range 8).map (nm d2)).take many.toNat).reverse
   have e8:H8 q8=some (.lst (ls.map aH)):=by
    rw [n8.at',AK (by trivial)]
    congr 2
    show _=List.map aH (((List.range 8).map (nm d1)++(List.range 8).map (nm d2)).take many.toNat).reverse
    rw [List.map_reverse,List.map_take,List.map_append,List.map_map,List.map_map]
    rfl
   have hq8:H3 q8=none:=(((s4.trans s5).trans n6.sm).trans n7.sm).free n8.fr
   refine k q8 ls t3 H8 (ai.free s03 B3 hq8) (s03.trans s38.toE) e8 ?_ ?_ ?_ (B3.same s38) (by trivial) (by trivial)
   ·show (((List.range 8).map (nm d1)++(List.range 8).map (nm d2)).take many.toNat).reverse.length=_
    rw [List.length_reverse,List.length_take]
    simp
    trivial
   ·exact (List.reverse_perm _).nodup_iff.mpr ((Am ne).sublist (List.take_sublist _ _))
   ·intro l hl
    have hl':=List.mem_of_mem_take (List.mem_reverse.mp hl)
    rcases List.mem_append.mp hl' with h | h
    ·obtain ⟨j,hj,rfl⟩:=List.mem_map.mp h
     exact Dl (List.mem_range.mp hj) b1.1 b1.2
    ·obtain ⟨j,hj,rfl⟩:=List.mem_map.mp h
     exact Dl (List.mem_range.mp hj) b2.1 b2.2
  ·-- letters of eleven steps
   refine ⟨(by show 0≤10000;decide),fun D H4 n4=>?_⟩
   have hDn:H D=none:=ai.free s03 B3 n4.fr
   have nDb:¬D=b:=fun z=>B3.ne n4.fr z.symm
   refine ⟨(),(),by trivial,by trivial,ir (fun i σ H'=>xM fun v4 v5 v7 ls t'=>σ=[some (.ref b),some (.int many),some (.str "abcdefghijklmnopqrstuvwxyz"),some (.int f),v4,v5,some (.ref D),v7]∧H' D=some (.lst (ls.map aH))∧ls.length=i∧(∀(j:Nat) (l:List Nat),ls[j]?=some l→l.head?=some (97+((f+11*(j:Int)) % 26).toNat))∧(∀l∈ls,xE l)∧Bx H' b t'∧t3≤t'∧t'≤t3+10*i∧ai (Eb b) H H')
    ⟨_,_,_,[],t3,rfl,n4.at',rfl,fun j l h=>(by simp at h),fun l h=>(by cases h),B3.same n4.sm,by trivial,by trivial,s03.trans n4.sm.toE⟩ ?_ ?_⟩
   case refine_2=>
    rintro σ H' ⟨v4,v5,v7,ls,t',rfl,e1,e2,e3,e4,B',h0,h1,s'⟩
    exact ⟨(),k D ls t' H' hDn s' e1 e2 (yJ (by trivial) e3) e4 B' (by trivial) (by trivial)⟩
   rintro i σ H' hi ⟨v4,v5,v7,ls,t',rfl,e1,e2,e3,e4,B',h0,h1,s'⟩
   refine ⟨rfl,(),(by show 3≤10000;decide),fun l3 J1 m1=>⟨(),b,3,t',rfl,B'.same m1.sm,by decide,by decide,by trivial,by trivial,fun r5 t5 J2 r50 r51 _ _ j2 C2=>?_⟩⟩
   have nl3:¬l3=b:=fun z=>B'.ne m1.fr z.symm
   obtain ⟨m,em,hm0,hm8⟩:∃m:Int,jY [V.int 1,V.int 3,V.int 8] r5=some (V.int m)∧0<m∧m≤8:=by
    obtain rfl | rfl | rfl:r5=0∨r5=1∨r5=2:=by trivial
    ·exact ⟨1,rfl,by decide,by decide⟩
    ·exact ⟨3,rfl,by decide,by decide⟩
    ·exact ⟨8,rfl,by decide,by decide⟩
   refine ⟨l3,_,_,(),rfl,aA.of (j2.old l3 _ nl3 m1.at'),em,b,m,t5,rfl,C2,hm0,Ag hm0 (by trivial),by trivial,by trivial,fun r6 t6 J3 r60 r61 _ _ j3 C3=>⟨(),by trivial,by trivial,fun D2 hD2=>io (n:=r6.toNat) (fun i H' ys=>bX fun (cs:List Nat) (t':Int)=>ys=cs.map (fun c=>aH [c])∧H' D2=some (.lst ys)∧cs.length=i∧(∀c∈cs,97≤c∧c≤122)∧Bx H' b t'∧t6≤t'∧t'≤t6+i∧ai (Eb b) J3 H') ?_ ?_ ?_ ?_ ?_ ?_ ?_⟩⟩
   ·rw [sizeLine_eq];trivial
   ·exact ⟨[],t6,rfl,av,rfl,fun c h=>(by cases h),C3.same (ad.new hD2),by trivial,by trivial,(ad.new hD2).toE⟩
   ·rintro i' H'' ys ⟨cs,t7,rfl,e,rfl,_⟩
    exact ⟨e,by simp⟩
   ·intro i' H'' ys hi' _
    exact hi'
   ·intro H'' ys _
    exact Nat.le_refl _
   ·have nD2:¬D2=b:=fun z=>C3.ne hD2 z.symm
    rintro i' Ha ys x Hb hi' ⟨cs,t7,rfl,g1,g2,g3,g4,g5,g6,g7⟩ ⟨rfl,rfl⟩
    refine ⟨il,(),(),b,26,t7,rfl,g4,by decide,by decide,by trivial,by trivial,fun r8 t8 Hc r80 r81 _ _ jc Cc=>⟨_,_,(),rfl,hz,oK (by trivial) (by trivial),?_⟩⟩
    have eD:=jc.old D2 _ nD2 g1
    refine ⟨eD,cs++[97+(r8 % 26).toNat],t8,by rw [List.map_append];rfl,av,by rw [List.length_append,g2];rfl,fun c hc=>?_,?_,by trivial,by trivial,(g7.trans jc).up hD2⟩
    ·rcases List.mem_append.mp hc with h | h
     ·exact g3 c h
     ·rw [List.mem_singleton.mp h];trivial
    ·have c':Ch Hc D2 (cs.map (fun c=>aH [c])++[aH [97+(r8 % 26).toNat]]) _:=Ch.mk'
     exact Cc.ch c' (Ne.symm nD2)
   rintro J4 ys ⟨cs,t7,rfl,g1,g2,g3,C4,g5,g6,j4⟩
   refine ⟨D2,cs.map (fun c=>[c]),?_,rfl,aA.of (by rw [g1,List.map_map];rfl),?_,?_⟩
   ·rw [show (Str.ofString "")=S [] from BV]
   ·rw [List.map_map]
    have:(cs.map ((fun l:List Nat=>l.length) ∘ fun c=>[c])).sum=cs.length:=by
     clear g1 g2 g3 j4
     induction cs with
     | nil=>rfl
     | cons c r ih=>simp at ih ⊢;trivial
    rw [this];trivial
   have fl:(cs.map (fun c=>[c])).flatten=cs:=by
    clear g1 g2 g3 j4
    induction cs with
    | nil=>rfl
    | cons c r ih=>rw [List.map_cons,List.flatten_cons,ih];rfl
   rw [fl]
   have e14:J4 D=some (.lst (ls.map aH)):=j4.old D _ nDb (j3.old D _ nDb (j2.old D _ nDb (m1.sm _ _ e1)))
   refine ⟨(),.inl ⟨rfl,_,aA.of e14⟩,(),(),(),_,(),rfl,.inl ⟨by decide,by decide⟩,_,(),rfl,_,(),rfl,(by show (0:Int)<26;decide),_,_,(),rfl,hz,oK (by trivial) (by trivial),(),[97+(((f+11*(0+(i:Int))) % 26) % 26).toNat],cs,rfl,rfl,?_,?_⟩
   ·simp;trivial
   refine ⟨D,_,(),rfl,e14,?_,fun J5 c5=>?_⟩
   ·rw [List.length_map];trivial
   have hs5:ai (Eb b) H J5:=((((s'.trans m1.sm.toE).trans j2).trans j3).trans j4).ch c5 hDn
   refine ⟨_,_,_,ls++[[97+(((f+11*(0+(i:Int))) % 26) % 26).toNat]++cs],t7,rfl,?_,?_,?_,?_,C4.ch c5 (Ne.symm nDb),by trivial,by trivial,hs5⟩
   ·rw [c5.at',List.map_append];rfl
   ·rw [List.length_append,e2];rfl
   ·intro j l hl
    by_cases hj:j<ls.length
    ·rw [List.getElem?_append_left hj] at hl
     exact e3 j l hl
    ·rw [List.getElem?_append_right (by trivial)] at hl
     have ej:j - ls.length=0:=by
      cases hq:j - ls.length with
      | zero=>rfl
      | succ n=>rw [hq] at hl;simp at hl
     rw [ej] at hl
     simp at hl
     subst hl
     have:j=i:=by trivial
     subst this
     simp
   ·intro l hl
    rcases List.mem_append.mp hl with h | h
    ·exact e4 l h
    ·rw [List.mem_singleton.mp h]
     refine ⟨by simp,by simp;trivial,fun c hc=>?_⟩
     rcases List.mem_append.mp hc with h | h
     ·rw [List.mem_singleton.mp h];trivial
     ·exact g3 c h
end
end K72
namespace K72
open PySem L2
section
variable {P:Program}{w:World}{K:PySem.W.Frag}{mg:Str→Option Value}{base:Heap}
inductive Fi (C:Addr) (vs:List V) (H:Hp) (Q:VK):Prop
 | mk (r dx:Addr) (h0:vs=[.ref r]) (h1:H r=some (.ins C dx [])) (h2:∀L H',H L=none→(∀a o,a≠r→H a=some o→H' a=some o)→aI C H' r L [iI]→Q .non H')
def GS (C:Addr):Sp:=fun vs H Q _=>Fi C vs H Q
theorem rS (T:Txt K mg):aD P w K mg base CX0 1 T.f_Roads____init__ T.d_Roads____init__ ["self"] (GS T.x_Roads):=by
 refine T.F_Roads____init__.ok tL (fun vs H Q E h=>?_) (fun cdv A outer s H vs Q E hr h=>?_)
 ·obtain ⟨r,dx,rfl,_⟩:=h
  rfl
 ·obtain ⟨r,dx,rfl,hr',k⟩:=h
  refine ⟨_,#[aa 3 #[uh 8 #[0,pB] #[ca 4 #[[#[ak 5 #[[#[ak 5 (@aY _)],#[ak 5 (@aY _)],#[ak 5 (@aY _)],#[jw 3]]]]]]] (by rfl)]],?_⟩
  refine ⟨(by show 0≤10000;decide),fun p1 H1 n1=>⟨(by show 0≤10000;decide),fun p2 H2 n2=>⟨(by show 0≤10000;decide),fun p3 H3 n3=>⟨(by show 4≤10000;decide),fun p4 H4 n4=>⟨(by show 1≤10000;decide),fun L H5 n5=>?_⟩⟩⟩⟩⟩
  have s4:=((n1.sm.trans n2.sm).trans n3.sm).trans n4.sm
  have s5:=s4.trans n5.sm
  have fL:H L=none:=s4.free n5.fr
  refine ⟨(),r,T.x_Roads,dx,[],rfl,s5 _ _ hr',T.c_Roads,T.n_Roads_states,by decide,fun H6 c6=>?_⟩
  have kp:∀a o,a≠r→H a=some o→H6 a=some o:=fun a o n h=>c6.ol a o n (s5 _ _ h)
  have tp:∀{a xs},H5 a=some (.tup xs)→H6 a=some (.tup xs):=fun h=>c6.ol _ _ (jG h (s5 _ _ hr') (by intro z;cases z)) h
  have d:aB ED H6 (.ref p4) (vG iI):=ub (s:=iI) (bs:=[]) (tp (n5.sm _ _ n4.at')) (tp (n5.sm _ _ (n4.sm _ _ (n3.sm _ _ (n2.sm _ _ n1.at'))))) (tp (n5.sm _ _ (n4.sm _ _ (n3.sm _ _ n2.at')))) .nil (tp (n5.sm _ _ (n4.sm _ _ n3.at'))) rfl .non
  refine k L H6 fL kp ⟨dx,_,c6.at',c6.ol _ _ (fun z=>?_) n5.at',.cons d .nil⟩
  rw [z,hr'] at fL
  cases fL
theorem lU {C:Addr}{cl:RW→Addr}{r L:Addr}{past:List aC}{cur:aC}{D:jj}{H:Hp}{Q:VK}{E:XK} (k:qI C cl r L past cur D H Q E) (e:dP cur D=none) (nb:D≠.back) {v:V}{H':Hp} (s:ai (Eb L) H H') (R:aI C H' r L (past++[cur]++[aV cur D])) (t:aB ED H' v (uW past cur D)):Q v H':=by
 refine k.2 e v H' s ?_ t
 rw [(nZ e nb).1,(nZ e nb).2]
 exact R
inductive DW (C:Addr) (cl:RW→Addr) (vs:List V) (H:Hp) (Q:VK) (E:XK):Prop
 | mk (r L:Addr) (n:List Nat) (past:List aC) (cur:aC) (h0:vs=[.ref r,aH n]) (h1:aI C H r L (past++[cur])) (h2:ju 5000 past cur) (h3:qI C cl r L past cur (.place n) H Q E)
def Fz (C:Addr) (cl:RW→Addr):Sp:=fun vs H Q E=>DW C cl vs H Q E
theorem yA (T:Txt K mg):aD P w K mg base (hV P w) 2 T.f_Roads__add_place T.d_Roads__add_place ["self", "name"] (Fz T.x_Roads (uJ T)):=by
 refine T.F_Roads__add_place.okX du (fun vs H Q E h=>?_) (fun cdv A outer s H vs Q E hr h=>?_)
 ·obtain ⟨r,L,n,past,cur,rfl,_⟩:=h
  rfl
 ·obtain ⟨r,L,n,past,cur,rfl,R,ok,k⟩:=h
  refine ⟨_,#[#[PS.nox 3 #[dk 6 #[#[br 5 #[0,i4] rfl][#[cG 6 (@b4 _) #[()]]]!] (@aX _ (K) _ _ _ _ (4) rfl #[af 5 #[2,du.nd,eO] #[af 5 #[3,du.nd,i8] #[af 5 #[4,du.nd,ip] #[af 5 #[5,du.nd,iX] (@bf _) (by rfl)] (by rfl)] (by rfl)] (by rfl)] (by rfl) (by rfl) (by rfl)) (by rfl) (by rfl) (by rfl)]] :: #[#[aU 8 #[aq 8 (@sI _ (K) (by rfl)) #[1,i7] #[2,eO] rfl] #[aa 3 #[gJ 5 rfl #[iQ 15] #[j0 8 T.q_Taken T.k_Taken nQ T.m_Taken #[[#[jt 4]]] (by decide) (by rfl) (by rfl)]]] (@aM _)] :: #[aa 3 #[PS.nox 3 #[aO 4 (@cA _ (K) _ _ _ _ _ _ _ _ _ _ _ PySem.F.plainAttrs_list PySem.F.slot_list_append PySem.F.type_list_append (@bQ _) #[br 5 #[0,i4] rfl] #[[#[ak 5 #[[#[am 8 (@cp _) #[2,eO] #[ak 5 #[[#[1,i7]]]]],#[3,i8],#[4,ip],#[5,iX]]]]]] (by rfl) (by rfl) (by rfl) (by rfl) (by rfl) (by rfl)) (by rfl)]]]]],?_⟩
  obtain ⟨dx,ys,v,hr',hL,hys,hv⟩:=R.last
  obtain ⟨a,p,t,q,e,ties,rfl,ha,hp,ht,hty,hq,he⟩:=lY hv
  have ly:=hys.length
  have okl:=ok.lp
  rw [List.length_map] at ly
  refine aP fun D0 n0=>⟨(),r,T.x_Roads,dx,_,(),hr',T.c_Roads,T.n_Roads_states,rfl,(),L,_,_,(),rfl,aA.of hL,bS _ _,a,(),ae.of ha,rfl,_,(),_,(),_,(),_,(),rfl,n0 _ _ ?_⟩
  refine aP fun D1 n1=>⟨(),(),p,(),.inr (ae.of hp),rfl,AC _,(),?_⟩
  simp only [if_false,Bool.false_eq_true,F3]
  by_cases hn:n∈cur.pl
  ·rw [decide_eq_true hn]
   have rw_:dP cur (.place n)=some .taken:=if_pos hn
   exact cx ⟨(by show 1≤10000;decide),fun y H1 m1=>⟨y,T.x_Taken,none,(),m1.at',T.q_Taken,k.1 _ rw_ _ (vE m1.sm m1.fr)⟩⟩
  ·rw [decide_eq_false hn]
   have rw_:dP cur (.place n)=none:=if_neg hn
   refine aT (n1 _ _ ?_)
   refine ⟨(),r,T.x_Roads,dx,_,(),hr',T.c_Roads,T.n_Roads_states,rfl,.inl ⟨rfl,_,aA.of hL⟩,(),(),(by show 1≤10000;decide),fun p1 H1 m1=>⟨p,p1,_,(),rfl,m1.sm _ _ hp,m1.at',?_,fun p2 H2 s2 h2=>?_⟩⟩
   ·have:=ok.cu.lp
    simp
    trivial
   have sa:=m1.sm.trans s2
   refine ⟨(),(),(),(by show 4≤10000;decide),fun p3 H3 m3=>⟨L,_,(),rfl,(sa.trans m3.sm) _ _ hL,by simp;trivial,fun H4 c4=>?_⟩⟩
   have sb:=sa.trans m3.sm
   obtain ⟨R4,s4⟩:=aI.app (s':=aV cur (.place n)) (sts:=past++[cur]) hr' hL (by rw [List.map_append];exact hys.append (.cons hv .nil)) sb (ub m3.at' (by rw [m3.sm _ _ h2];simp [aV]) (sb _ _ ht) (hty.mono sb.toE) (sb _ _ hq) rfl (he.mono sb.toE)) c4
   exact lU k rw_ (by intro z;cases z) s4 R4 .non
inductive EB (C:Addr) (cl:RW→Addr) (vs:List V) (H:Hp) (Q:VK) (E:XK):Prop
 | mk (r L:Addr) (t:ji) (m g p:V) (past:List aC) (cur:aC) (h0:vs=[.ref r,aH t.bg,aH t.en,m,g,p]) (h1:aB ED H m (d9 t.most)) (h2:aB ED H g (d9 t.gain)) (h3:aB ED H p (d9 t.price)) (h4:aI C H r L (past++[cur])) (h5:ju 5000 past cur) (h6:qI C cl r L past cur (.tie t) H Q E)
def FX (C:Addr) (cl:RW→Addr):Sp:=fun vs H Q E=>EB C cl vs H Q E
theorem zR (T:Txt K mg):aD P w K mg base (hV P w) 2 T.f_Roads__add_tie T.d_Roads__add_tie ["self", "begin", "end", "most", "gain", "price"] (FX T.x_Roads (uJ T)):=by
 have G_check_two:=#[(tM)]
 refine T.F_Roads__add_tie.okX eh (fun vs H Q E h=>?_) (fun cdv A outer s H vs Q E hr h=>?_)
 ·obtain ⟨r,L,tt,m,g,pr,past,cur,rfl,_⟩:=h
  rfl
 ·obtain ⟨r,L,tt,m,g,pr,past,cur,rfl,hm,hg,hpr,R,ok,k⟩:=h
  refine ⟨_,#[#[PS.nox 3 #[dk 6 #[#[br 5 #[0,jV] rfl][#[cG 6 (@b4 _) #[()]]]!] (@aX _ (K) _ _ _ _ (4) rfl #[af 5 #[6,eh.nd,fz] #[af 5 #[7,eh.nd,gr] #[af 5 #[8,eh.nd,jB] #[af 5 #[9,eh.nd,j6] (@bf _) (by rfl)] (by rfl)] (by rfl)] (by rfl)] (by rfl) (by rfl) (by rfl)) (by rfl) (by rfl) (by rfl)]] :: #[#[aO 4 #[iS 16 G_check_two (hr.mono (by decide)) mE T.check_two_.m T.check_two_.F.kp T.check_two_.B .nil #[ii 15] #[[#[6,fz],#[1,jr],#[2,kd]]] (by decide) (by rfl) (by rfl)] (by rfl)] :: #[#[PS.nox 3 #[aO 4 (@cA _ (K) _ _ _ _ _ _ _ _ _ _ _ PySem.F.plainAttrs_list PySem.F.slot_list_append PySem.F.type_list_append (@bQ _) #[br 5 #[0,jV] rfl] #[[#[ak 5 #[[#[6,fz],#[am 8 (@cp _) #[7,gr] #[ak 5 #[[#[ak 5 #[[#[1,jr],#[2,kd],#[3,pW],#[4,qg],#[5,pL]]]]]]]],#[am 8 (@cp _) #[8,jB] #[ak 5 #[[#[bP 4]]]]],#[9,j6]]]]]] (by rfl) (by rfl) (by rfl) (by rfl) (by rfl) (by rfl)) (by rfl)]] :: #[aa 3 #[PS.nox 3 #[ay 4 #[(),(),(@cm _ (K) (by rfl)),rC,T.b_len,(@aL),#[[#[7,gr]]]]]]]]]],?_⟩
  obtain ⟨dx,ys,v,hr',hL,hys,hv⟩:=R.last
  obtain ⟨a,p,t,q,e,ties,rfl,ha,hp,ht,hty,hq,he⟩:=lY hv
  have ly:=hys.length
  have okl:=ok.lp
  rw [List.length_map] at ly
  have lt:=hty.length
  rw [List.length_map] at lt
  have okt:=ok.cu.lt
  refine aP fun D0 n0=>⟨(),r,T.x_Roads,dx,_,(),hr',T.c_Roads,T.n_Roads_states,rfl,(),L,_,_,(),rfl,aA.of hL,bS _ _,a,(),ae.of ha,rfl,_,(),_,(),_,(),_,(),rfl,n0 _ _ ?_⟩
  refine aP fun D1 n1=>⟨(),(),(),p,cur.pl,tt.bg,tt.en,rfl,hp,fun h2=>n1 _ _ ?_,fun h2 H' s'=>k.1 .noPlace (if_neg h2) H' s'⟩
  have rw_:dP cur (.tie tt)=none:=if_pos h2
  refine aP fun D2 n2=>⟨(),r,T.x_Roads,dx,_,(),hr',T.c_Roads,T.n_Roads_states,rfl,.inl ⟨rfl,_,aA.of hL⟩,(),(),(),(),(),(),(),(by show 5≤10000;decide),fun p1 H1 m1=>⟨(by show 1≤10000;decide),fun p2 H2 m2=>⟨t,p2,_,(),rfl,(m1.sm.trans m2.sm) _ _ ht,m2.at',by simp;trivial,fun p3 H3 s3 h3=>?_⟩⟩⟩
  have sa:=(m1.sm.trans m2.sm).trans s3
  refine ⟨(),(by show 1≤10000;decide),fun p4 H4 m4=>⟨q,p4,_,(),rfl,(sa.trans m4.sm) _ _ hq,m4.at',by simp [lE];trivial,fun p5 H5 s5 h5=>⟨(),(by show 4≤10000;decide),fun p6 H6 m6=>⟨L,_,(),rfl,((sa.trans m4.sm).trans (s5.trans m6.sm)) _ _ hL,by simp;trivial,fun H7 c7=>n2 _ _ ?_⟩⟩⟩⟩
  have sb:=(sa.trans m4.sm).trans (s5.trans m6.sm)
  have s36:=m4.sm.trans (s5.trans m6.sm)
  have dt:aB ED H6 (.ref p1) (f6 tt):=.tup ((m2.sm.trans s3).trans s36 _ _ m1.at') (.cons (.str _) (.cons (.str _) (.cons (hm.mono sb.toE) (.cons (hg.mono sb.toE) (.cons (hpr.mono sb.toE) .nil)))))
  obtain ⟨R4,s4⟩:=aI.app (s':=aV cur (.tie tt)) (sts:=past++[cur]) hr' hL (by rw [List.map_append];exact hys.append (.cons hv .nil)) sb (ub (bs:=d8 cur++[false]) m6.at' (sb _ _ hp) (s36 _ _ h3) (by simp only [aV,List.map_append];exact (hty.mono sb.toE).append (.cons dt .nil)) (by rw [m6.sm _ _ h5];simp) (Ez ok.cu tt).symm (he.mono sb.toE)) c7
  refine ⟨(),t,ties,rfl,.inr (ae.of (s4.tup _ _ ht)),lU k rw_ (by intro z;cases z) s4 R4 ?_⟩
  rw [lt]
  exact .int _
inductive EX (C:Addr) (cl:RW→Addr) (pk:Option pX) (vs:List V) (H:Hp) (Q:VK) (E:XK):Prop
 | mk (r L:Addr) (kk:pX) (i:Int) (x:KM.Fra) (y:V) (past:List aC) (cur:aC) (h0:(vs=match pk with | none=>[.ref r,.int i,.int (kk.at:Int),y] | some _=>[.ref r,.int i,y])) (h1:(∀z,pk=some z→kk=z)) (h2:aB ED H y (d9 x)) (h3:aI C H r L (past++[cur])) (h4:ju 5000 past cur) (h5:qI C cl r L past cur (.part kk i x) H Q E)
def vL (C:Addr) (cl:RW→Addr) (pk:Option pX):Sp:=fun vs H Q E=>EX C cl pk vs H Q E
theorem pA (T:Txt K mg):aD P w K mg base (hV P w) 2 T.f_Roads__set_part T.d_Roads__set_part ["self", "number", "at", "part"] (vL T.x_Roads (uJ T) none):=by
 have G_check_tie:=#[(iD)]
 have G_put_at:=#[(oR)]
 refine T.F_Roads__set_part.okX dL (fun vs H Q E h=>?_) (fun cdv A outer s H vs Q E hr h=>?_)
 ·obtain ⟨r,L,kk,i,x,y,past,cur,rfl,_⟩:=h
  rfl
 ·obtain ⟨r,L,kk,i,x,y,past,cur,rfl,_,hy,R,ok,k⟩:=h
  refine ⟨_,#[#[PS.nox 3 #[dk 6 #[#[br 5 #[0,jz] rfl][#[cG 6 (@b4 _) #[()]]]!] (@aX _ (K) _ _ _ _ (4) rfl #[af 5 #[4,dL.nd,iJ] #[af 5 #[5,dL.nd,dF] #[af 5 #[6,dL.nd,i9] #[af 5 #[7,dL.nd,jv] (@bf _) (by rfl)] (by rfl)] (by rfl)] (by rfl)] (by rfl) (by rfl) (by rfl)) (by rfl) (by rfl) (by rfl)]] :: #[#[aO 4 #[iS 16 G_check_tie (hr.mono (by decide)) lX T.check_tie_.m T.check_tie_.F.kp T.check_tie_.B .nil #[ii 15] #[[#[5,dF],#[1,eZ]]] (by decide) (by rfl) (by rfl)] (by rfl)] :: #[aa 3 #[PS.nox 3 #[aO 4 (@cA _ (K) _ _ _ _ _ _ _ _ _ _ _ PySem.F.plainAttrs_list PySem.F.slot_list_append PySem.F.type_list_append (@bQ _) #[br 5 #[0,jz] rfl] #[[#[ak 5 #[[#[4,iJ],#[G_put_at,iF,T.put_at_,#[[#[5,dF],#[1,eZ],#[G_put_at,iF,T.put_at_,#[[#[#[5,dF][#[1,eZ]]],#[2,qM],#[3,pU]]]]]]],#[6,i9],#[7,jv]]]]]] (by rfl) (by rfl) (by rfl) (by rfl) (by rfl) (by rfl)) (by rfl)]]]]],?_⟩
  obtain ⟨dx,ys,v,hr',hL,hys,hv⟩:=R.last
  obtain ⟨a,p,t,q,e,ties,rfl,ha,hp,ht,hty,hq,he⟩:=lY hv
  have ly:=hys.length
  have okl:=ok.lp
  rw [List.length_map] at ly
  have lt:=hty.length
  rw [List.length_map] at lt
  have okt:=ok.cu.lt
  refine aP fun D0 n0=>⟨(),r,T.x_Roads,dx,_,(),hr',T.c_Roads,T.n_Roads_states,rfl,(),L,_,_,(),rfl,aA.of hL,bS _ _,a,(),ae.of ha,rfl,_,(),_,(),_,(),_,(),rfl,n0 _ _ ?_⟩
  refine aP fun D1 n1=>⟨(),(),t,ties,i,rfl,ht,fun h2=>n1 _ _ ?_,fun h2 H' s'=>k.1 .noTie (if_neg (by rw [lt] at h2;exact h2)) H' s'⟩
  have hs:has cur i:=by rw [lt] at h2;exact h2
  have rw_:dP cur (.part kk i x)=none:=if_pos hs
  obtain ⟨j,rfl⟩:=Int.eq_ofNat_of_zero_le h2.1
  have hj:j<ties.length:=by trivial
  have hj':j<cur.ts.length:=by trivial
  have e1:ties[j]?=some ties[j]:=List.getElem?_eq_getElem hj
  have e2:cur.ts[j]?=some cur.ts[j]:=List.getElem?_eq_getElem hj'
  have dj:aB ED H ties[j] (f6 cur.ts[j]):=hty.nth j e1 (by rw [List.getElem?_map,e2];rfl)
  obtain ⟨ta,m,g,pr,eta,hta,hm,hg,hpr⟩:=uj dj
  have kat:kk.at<5:=by cases kk <;> decide
  refine ⟨(),r,T.x_Roads,dx,_,(),hr',T.c_Roads,T.n_Roads_states,rfl,.inl ⟨rfl,_,aA.of hL⟩,(),(),(),(),(),t,ties,_,(),rfl,ae.of ht,c0 e1,(),(),ta,_,kk.at,y,by rw [eta];rfl,hta,kat,(by show 5≤5000;decide),fun p1 H1 s1 h1=>?_⟩
  refine ⟨t,ties,j,.ref p1,rfl,s1 _ _ ht,hj,by trivial,fun p2 H2 s2 h2'=>⟨(),(),(by show 4≤10000;decide),fun p3 H3 m3=>⟨L,_,(),rfl,(s1.trans (s2.trans m3.sm)) _ _ hL,by simp;trivial,fun H4 c4=>?_⟩⟩⟩
  have sb:=s1.trans (s2.trans m3.sm)
  have s13:=s2.trans m3.sm
  have dt:aB ED H3 (.ref p1) (f6 (AA kk x cur.ts[j])):=by
   have y3:=hy.mono sb.toE
   have m3':=hm.mono sb.toE
   have g3:=hg.mono sb.toE
   have p3':=hpr.mono sb.toE
   have h13:=s13 _ _ h1
   cases kk
   ·exact .tup h13 (.cons (.str _) (.cons (.str _) (.cons y3 (.cons g3 (.cons p3' .nil)))))
   ·exact .tup h13 (.cons (.str _) (.cons (.str _) (.cons m3' (.cons y3 (.cons p3' .nil)))))
   ·exact .tup h13 (.cons (.str _) (.cons (.str _) (.cons m3' (.cons g3 (.cons y3 .nil)))))
  obtain ⟨R4,s4⟩:=aI.app (s':=aV cur (.part kk (j:Int) x)) (sts:=past++[cur]) hr' hL (by rw [List.map_append];exact hys.append (.cons hv .nil)) sb (ub (bs:=d8 cur) m3.at' (sb _ _ hp) (m3.sm _ _ h2') (by
   show aw ED H3 (ties.set j (.ref p1)) ((pK cur.ts kk (j:Int).toNat x).map f6)
   rw [Int.toNat_natCast,ww e2,List.map_set]
   exact (hty.mono sb.toE).set dt j) (sb _ _ hq) (BZ ..).symm (he.mono sb.toE)) c4
  exact lU k rw_ (by intro z;cases z) s4 R4 .non
theorem yI (T:Txt K mg):aD P w K mg base (hV P w) 3 T.f_Roads__set_most T.d_Roads__set_most ["self", "number", "most"] (vL T.x_Roads (uJ T) (some .m)):=by
 have G_Roads__set_part:=#[(pA)]
 refine T.F_Roads__set_most.okX sX (fun vs H Q E h=>?_) (fun cdv A outer s H vs Q E hr h=>?_)
 ·obtain ⟨r,L,kk,i,x,y,past,cur,rfl,_⟩:=h
  rfl
 ·obtain ⟨r,L,kk,i,x,y,past,cur,rfl,hk,hy,R,ok,k⟩:=h
  cases hk _ rfl
  obtain ⟨dx,ys,v,hr',hL,hys,hv⟩:=R.last
  refine ⟨_,#[aa 3 #[aO 4 #[cj 20 #[0,pG] T.c_Roads T.h_Roads__set_part G_Roads__set_part (hr.mono (by decide)) T.B_Roads__set_part .nil #[ii 15] #[[#[1,nv],#[()],#[2,pf]]] (by rfl) (by rfl) (by rfl)] (by rfl)]],?_⟩
  exact ⟨(),r,dx,(),hr',rfl,(),(),r,L,.m,i,x,y,past,cur,rfl,(fun z q=>nomatch q),hy,R,ok,k.1,fun e v H' s R t=>by cases t;exact k.2 e .non H' s R .non⟩
theorem yH (T:Txt K mg):aD P w K mg base (hV P w) 3 T.f_Roads__set_gain T.d_Roads__set_gain ["self", "number", "gain"] (vL T.x_Roads (uJ T) (some .g)):=by
 have G_Roads__set_part:=#[(pA)]
 refine T.F_Roads__set_gain.okX sY (fun vs H Q E h=>?_) (fun cdv A outer s H vs Q E hr h=>?_)
 ·obtain ⟨r,L,kk,i,x,y,past,cur,rfl,_⟩:=h
  rfl
 ·obtain ⟨r,L,kk,i,x,y,past,cur,rfl,hk,hy,R,ok,k⟩:=h
  cases hk _ rfl
  obtain ⟨dx,ys,v,hr',hL,hys,hv⟩:=R.last
  refine ⟨_,#[aa 3 #[aO 4 #[cj 20 #[0,pe] T.c_Roads T.h_Roads__set_part G_Roads__set_part (hr.mono (by decide)) T.B_Roads__set_part .nil #[ii 15] #[[#[1,nV],#[()],#[2,pP]]] (by rfl) (by rfl) (by rfl)] (by rfl)]],?_⟩
  exact ⟨(),r,dx,(),hr',rfl,(),(),r,L,.g,i,x,y,past,cur,rfl,(fun z q=>nomatch q),hy,R,ok,k.1,fun e v H' s R t=>by cases t;exact k.2 e .non H' s R .non⟩
theorem yv (T:Txt K mg):aD P w K mg base (hV P w) 3 T.f_Roads__set_price T.d_Roads__set_price ["self", "number", "price"] (vL T.x_Roads (uJ T) (some .p)):=by
 have G_Roads__set_part:=#[(pA)]
 refine T.F_Roads__set_price.okX rY (fun vs H Q E h=>?_) (fun cdv A outer s H vs Q E hr h=>?_)
 ·obtain ⟨r,L,kk,i,x,y,past,cur,rfl,_⟩:=h
  rfl
 ·obtain ⟨r,L,kk,i,x,y,past,cur,rfl,hk,hy,R,ok,k⟩:=h
  cases hk _ rfl
  obtain ⟨dx,ys,v,hr',hL,hys,hv⟩:=R.last
  refine ⟨_,#[aa 3 #[aO 4 #[cj 20 #[0,oE] T.c_Roads T.h_Roads__set_part G_Roads__set_part (hr.mono (by decide)) T.B_Roads__set_part .nil #[ii 15] #[[#[1,ng],#[()],#[2,oi]]] (by rfl) (by rfl) (by rfl)] (by rfl)]],?_⟩
  exact ⟨(),r,dx,(),hr',rfl,(),(),r,L,.p,i,x,y,past,cur,rfl,(fun z q=>nomatch q),hy,R,ok,k.1,fun e v H' s R t=>by cases t;exact k.2 e .non H' s R .non⟩
end
end K72
namespace K72
open PySem L2
structure gT where
 sh:List Bool
 h:Nat
def zD:PyData:=d9 (0,1)
def yB (n:Nat):PyData:=.tuple [.tuple (List.replicate n zD),.tuple [zD],.tuple []]
def yG (n:Nat) (s:gT):PyData:=.tuple [.tuple (s.sh.map .bool),.tuple (List.replicate s.h (yB n))]
def bO (C:Addr) (H:Hp) (r L:Addr) (d:V) (n:Nat) (sts:List gT):Prop:=bX fun dx xs=>H r=some (.ins C dx [("day",d),("states",.ref L)])∧H L=some (.lst xs)∧aw ED H xs (sts.map (yG n))
theorem bO.keep {C:Addr}{E:Addr→Prop}{H H':Hp}{r L:Addr}{d:V}{n:Nat}{sts:List gT} (h:bO C H r L d n sts) (s:ai E H H') (nr:¬E r) (nL:¬E L):bO C H' r L d n sts:=by
 obtain ⟨dx,xs,hr,hL,ha⟩:=h
 exact ⟨dx,xs,s.old _ _ nr hr,s.old _ _ nL hL,ha.tupS s⟩
theorem bO.sm {C:Addr}{H H':Hp}{r L:Addr}{d:V}{n:Nat}{sts:List gT} (h:bO C H r L d n sts) (s:ad H H'):bO C H' r L d n sts:=h.keep (E:=fun _=>False) s.toE (fun z=>z) fun z=>z
theorem bO.ne {C:Addr}{H:Hp}{r L:Addr}{d:V}{n:Nat}{sts:List gT} (h:bO C H r L d n sts):r≠L:=by
 obtain ⟨dx,xs,hr,hL,_⟩:=h
 exact jG hr hL (by intro z;cases z)
theorem bO.last {C:Addr}{H:Hp}{r L:Addr}{d:V}{n:Nat}{past:List gT}{cur:gT} (h:bO C H r L d n (past++[cur])):kZ fun dx ys v=>H r=some (.ins C dx [("day",d),("states",.ref L)])∧H L=some (.lst (ys++[v]))∧aw ED H ys (past.map (yG n))∧aB ED H v (yG n cur):=by
 obtain ⟨dx,xs,hr,hL,ha⟩:=h
 rw [List.map_append] at ha
 obtain ⟨ys,v,rfl,a,b⟩:=kM ha
 exact ⟨dx,ys,v,hr,hL,a,b⟩
theorem tW {H:Hp}{v:V}{n:Nat}{s:gT} (h:aB ED H v (yG n s)):rO fun a p q ps=>v=.ref a∧H a=some (.tup [.ref p,.ref q])∧H p=some (.tup (s.sh.map V.bl))∧H q=some (.tup ps)∧aw ED H ps (List.replicate s.h (yB n)):=by
 have sall:∀{bs:List Bool}{xs:List V},aw ED H xs (bs.map PyData.bool)→xs=bs.map V.bl:=by
  intro bs
  induction bs with
  | nil=>intro xs h;cases h;rfl
  | cons b bs ih=>
   intro xs h
   cases h with
   | cons h1 h2=>cases h1;rw [ih h2];rfl
 cases h with
 | tup ha hs=>
  cases hs with
  | cons h1 r1=>cases r1 with
   | cons h2 r2=>
    cases r2
    cases h1 with
    | tup hp hx=>cases h2 with
     | tup hq hy=>exact ⟨_,_,_,_,rfl,ha,by rw [hp,sall hx],hq,hy⟩
section
variable {P:Program}{w:World}{K:PySem.W.Frag}{mg:Str→Option Value}{base:Heap}
inductive Ej (C:Addr) (vs:List V) (H:Hp) (Q:VK):Prop
 | mk (r L:Addr) (d:V) (n:Nat) (past:List gT) (cur:gT) (h0:vs=[.ref r]) (h1:bO C H r L d n (past++[cur])) (h2:Q (.int (cur.h:Int)) H)
def Ga (C:Addr):Sp:=fun vs H Q _=>Ej C vs H Q
theorem zr (T:Txt K mg):aD P w K mg base CX0 1 T.f_DayRun__now T.d_DayRun__now ["self"] (Ga T.x_DayRun):=by
 refine T.F_DayRun__now.ok wx (fun vs H Q E h=>?_) (fun cdv A outer s H vs Q E hr h=>?_)
 ·obtain ⟨r,L,d,n,past,cur,rfl,_⟩:=h
  rfl
 ·obtain ⟨r,L,d,n,past,cur,rfl,R,k⟩:=h
  refine ⟨_,#[aa 3 #[ay 4 #[(),(),(@cm _ (K) (by rfl)),ut,T.b_len,(@aL),#[[#[#[#[br 5 #[0,sQ] rfl][#[cG 6 (@b4 _) #[()]]]!][#[()]]]]]]]],?_⟩
  obtain ⟨dx,ys,v,hr',hL,hys,hv⟩:=R.last
  obtain ⟨a,p,q,ps,rfl,ha,hp,hq,hps⟩:=tW hv
  have lp:=hps.length
  rw [List.length_replicate] at lp
  refine ⟨(),r,T.x_DayRun,dx,_,(),hr',T.c_DayRun,T.n_DayRun_states,rfl,(),L,_,_,(),rfl,aA.of hL,bS _ _,a,_,_,(),rfl,ae.of ha,rfl,q,ps,rfl,.inr (ae.of hq),?_⟩
  rw [lp]
  exact k
inductive CQ (C:Addr) (vs:List V) (H:Hp) (Q:VK):Prop
 | mk (r L:Addr) (d:V) (n:Nat) (past:List gT) (cur:gT) (h0:vs=[.ref r]) (h1:bO C H r L d n (past++[cur])) (h2:(past=[]→Q (.bl false) H)) (h3:∀q s,past=q++[s]→∀H',ai (Eb L) H H'→bO C H' r L d n (q++[s])→Q (.bl true) H')
def Ek (C:Addr):Sp:=fun vs H Q _=>CQ C vs H Q
theorem CD (T:Txt K mg):aD P w K mg base CX0 1 T.f_DayRun__back T.d_DayRun__back ["self"] (Ek T.x_DayRun):=by
 refine T.F_DayRun__back.ok vP (fun vs H Q E h=>?_) (fun cdv A outer s H vs Q E hr h=>?_)
 ·obtain ⟨r,L,d,n,past,cur,rfl,_⟩:=h
  rfl
 ·obtain ⟨r,L,d,n,past,cur,rfl,R,k0,k⟩:=h
  refine ⟨_,#[#[aU 8 #[aq 8 (@b7 _) #[(),(),(@cm _ (K) (by rfl)),tF,T.b_len,(@aL),#[[#[br 5 #[0,kU] rfl]]]] #[()] #[(),()]] #[aa 3 #[ay 4 #[bP 4]]] (@aM _)] :: #[#[aO 4 #[vS 9 PySem.F.plainAttrs_list PySem.F.slot_list_pop PySem.F.type_list_pop (@tY _) #[br 5 #[0,kU] rfl] (by rfl) (by rfl)] (by rfl)] :: #[aa 3 #[ay 4 #[bP 4]]]]],?_⟩
  obtain ⟨dx,ys,v,hr',hL,hys,hv⟩:=R.last
  have ly:=hys.length
  rw [List.length_map] at ly
  refine GC fun D0 n0 r0=>⟨(),r,T.x_DayRun,dx,_,(),hr',T.c_DayRun,T.n_DayRun_states,rfl,L,(),.inl (aA.of hL),rfl,(),?_⟩
  rcases iR past with rfl | ⟨pp,z,rfl⟩
  ·rw [decide_eq_true (show V.int (((ys++[v]).length:Nat):Int)=V.int 1 by rw [List.length_append,ly];rfl)]
   exact cx (r0 _ _ (k0 rfl))
  ·rw [decide_eq_false (show ¬(V.int (((ys++[v]).length:Nat):Int)=V.int 1) from fun q=>by injection q with q;simp at q ly;trivial)]
   refine aT (n0 _ _ ?_)
   refine aP fun D1 n1=>⟨(),r,T.x_DayRun,dx,_,(),hr',T.c_DayRun,T.n_DayRun_states,rfl,.inl ⟨rfl,_,aA.of hL⟩,L,ys,v,rfl,rfl,hL,fun H1 c1=>n1 _ _ ?_⟩
   have se:=Ch.sameE (ad.refl H) hL c1
   exact k pp z rfl H1 se ⟨dx,ys,se.old _ _ R.ne hr',c1.at',hys.tupS se⟩
end
end K72
namespace K72
open PySem L2
section
variable {P:Program}{w:World}{K:PySem.W.Frag}{mg:Str→Option Value}{base:Heap}
theorem re (T:Txt K mg):aD P w K mg base CX0 2 T.l_gain_by_.f T.l_gain_by_.d ["_law_box"] (zv 6 1):=by
 have G_l_take:=#[(iU)]
 have G_l_lowest:=#[(qK)]
 refine T.l_gain_by_.F.ok nG (fun vs H Q E h=>?_) (fun cdv A outer s H vs Q E hr h=>?_)
 ·obtain ⟨b,t,rfl,_⟩:=h
  rfl
 ·obtain ⟨b,t,rfl,B,ht0,ht1,k⟩:=h
  refine ⟨_,#[#[1,nG.nd,jb,#[G_l_take,ix,T.l_take_,#[[#[0,jm],#[()]]]]] :: #[#[aU 8 #[aq 8 (@iM _) #[1,jb] #[()] #[(),()]] #[aa 3 #[ay 4 #[ak 5 #[[#[()],#[()]]]]]] (@aM _)] :: #[#[2,nG.nd,iA,#[fY 8 #[aq 8 (@b7 _) #[1,jb] #[()] #[(),()]] #[()] #[()]]] :: #[aa 3 #[ay 4 #[G_l_lowest,qS,T.l_lowest_,#[[#[am 8 (@bn _) #[()] #[G_l_take,ix,T.l_take_,#[[#[0,jm],#[2,iA]]]]],#[am 8 (@bn _) #[()] #[G_l_take,ix,T.l_take_,#[[#[0,jm],#[2,iA]]]]]]]]]]]]],?_⟩
  refine ⟨(),b,8,t,rfl,B,by decide,by decide,ht0,by trivial,fun wy t1 H1 w0 w1 h1a h1b s1 B1=>?_⟩
  refine ⟨(),_,(),rfl,(),cF (fun c=>?_) (fun c=>?_)⟩
  ·exact ⟨(by show 2≤10000;decide),fun o H2 n2=>k o _ _ t1 H2 (s1.trans n2.sm.toE) n2.at' (Fb.small (by decide) (by decide) (by decide) (by decide)) (by decide) (B1.same n2.sm) (by trivial) (by trivial)⟩
  refine ⟨(),rfl,(),JD ?_⟩
  have hw:0<(if decide (V.int wy=V.int 7)=true then (60:Int) else 12)∧(if decide (V.int wy=V.int 7)=true then (60:Int) else 12)≤60:=by split <;> decide
  refine ⟨(),(),b,_,t1,rfl,B1,hw.1,Cm hw.1 (by trivial),by trivial,by trivial,fun r2 t2 H2 a20 a21 _ _ s2 B2=>⟨_,(),rfl,(),(),b,_,t2,rfl,B2,hw.1,Cm hw.1 (by trivial),by trivial,by trivial,fun r3 t3 H3 a30 a31 _ _ s3 B3=>⟨_,(),rfl,?_⟩⟩⟩
  have f:=Fe (n:=1+r2) (d:=1+r3) (by trivial) (by trivial) (by trivial) (by trivial)
  exact ⟨_,(),by trivial,Sz.mono (m:=40) (by show (1+r3).natAbs<1099511627776;trivial) (by decide),fun o H4 n4=>k o _ _ t3 H4 (((s1.trans s2).trans s3).trans n4.sm.toE) n4.at' f.1 f.2 (B3.same n4.sm) (by trivial) (by trivial)⟩
theorem qN (T:Txt K mg):aD P w K mg base CX0 2 T.l_most_by_.f T.l_most_by_.d ["_law_box"] (zv 30 0):=by
 have G_l_take:=#[(iU)]
 have G_l_lowest:=#[(qK)]
 refine T.l_most_by_.F.ok tu (fun vs H Q E h=>?_) (fun cdv A outer s H vs Q E hr h=>?_)
 ·obtain ⟨b,t,rfl,_⟩:=h
  rfl
 ·obtain ⟨b,t,rfl,B,ht0,ht1,k⟩:=h
  refine ⟨_,#[#[1,tu.nd,gf,#[G_l_take,cM,T.l_take_,#[[#[0,cY],#[()]]]]] :: #[#[aU 8 #[aq 8 (@b7 _) #[1,gf] #[()] #[(),()]] #[aa 3 #[ay 4 #[ak 5 #[[#[()],#[()]]]]]] (@aM _)] :: #[#[aU 8 #[aq 8 (@iM _) #[1,gf] #[()] #[(),()]] #[aa 3 #[ay 4 #[ak 5 #[[#[am 8 (@bn _) #[()] #[G_l_take,cM,T.l_take_,#[[#[0,cY],#[()]]]]],#[()]]]]]] (@aM _)] :: #[#[aU 8 #[aq 8 (@iM _) #[1,gf] #[()] #[(),()]] #[aa 3 #[ay 4 #[G_l_lowest,qZ,T.l_lowest_,#[[#[am 8 (@bn _) #[()] #[G_l_take,cM,T.l_take_,#[[#[0,cY],#[()]]]]],#[am 8 (@bn _) #[()] #[G_l_take,cM,T.l_take_,#[[#[0,cY],#[()]]]]]]]]]] (@aM _)] :: #[aa 3 #[ay 4 #[#[ca 4 #[[#[ak 5 #[[#[am 8 (@bn _) #[()] #[G_l_take,cM,T.l_take_,#[[#[0,cY],#[am 8 (@vW _) #[()] #[()]]]]]],#[()]]]],#[ak 5 #[[#[am 8 (@vW _) #[()] #[()]],#[()]]]],#[ak 5 #[[#[()],#[()]]]]]]][#[G_l_take,cM,T.l_take_,#[[#[0,cY],#[()]]]]]!]]]]]]],?_⟩
  refine ⟨(),b,8,t,rfl,B,by decide,by decide,ht0,by trivial,fun wy t1 H1 w0 w1 h1a h1b s1 B1=>?_⟩
  refine ⟨(),rfl,(),cF (fun c=>?_) (fun c=>?_)⟩
  ·exact ⟨(by show 2≤10000;decide),fun o H2 n2=>k o _ _ t1 H2 (s1.trans n2.sm.toE) n2.at' ((qH (by decide) (by decide)).mono (by decide)) (by decide) (B1.same n2.sm) (by trivial) (by trivial)⟩
  refine ⟨(),_,(),rfl,(),cF (fun c=>?_) (fun c=>?_)⟩
  ·exact ⟨(),b,9,t1,rfl,B1,by decide,by decide,by trivial,by trivial,fun r2 t2 H2 a20 a21 _ _ s2 B2=>⟨_,(),rfl,(by show 2≤10000;decide),fun o H3 n3=>k o _ _ t2 H3 ((s1.trans s2).trans n3.sm.toE) n3.at' ((qH (by trivial) (by trivial)).mono (by decide)) (by trivial) (B2.same n3.sm) (by trivial) (by trivial)⟩⟩
  refine ⟨(),_,(),rfl,(),cF (fun c=>?_) (fun c=>?_)⟩
  ·refine ⟨(),b,60,t1,rfl,B1,by decide,by decide,by trivial,by trivial,fun r2 t2 H2 a20 a21 _ _ s2 B2=>⟨_,(),rfl,(),b,12,t2,rfl,B2,by decide,by decide,by trivial,by trivial,fun r3 t3 H3 a30 a31 _ _ s3 B3=>⟨_,(),rfl,?_⟩⟩⟩
   have f:=xL (n:=1+r2) (d:=1+r3) (by trivial) (by trivial) (by trivial) (by trivial)
   exact ⟨_,(),by trivial,Sz.mono (m:=40) (by show (1+r3).natAbs<1099511627776;trivial) (by decide),fun o H4 n4=>k o _ _ t3 H4 (((s1.trans s2).trans s3).trans n4.sm.toE) n4.at' (f.1.mono (by decide)) (by have:=f.2;trivial) (B3.same n4.sm) (by trivial) (by trivial)⟩
  ·have q6:(10:Int) ^ (6:Int).toNat=1000000:=by decide
   have q9:(10:Int) ^ (9:Int).toNat=1000000000:=by decide
   refine ⟨(),_,(),rfl,⟨by decide,by decide,by decide⟩,b,_,t1,rfl,B1,by rw [q6];decide,by rw [q6];decide,by trivial,by trivial,fun r2 t2 H2 a20 a21 _ _ s2 B2=>⟨_,(),rfl,(by show 2≤10000;decide),fun o3 H3 n3=>⟨_,(),rfl,⟨by decide,by decide,by decide⟩,(by show 2≤10000;decide),fun o4 H4 n4=>⟨(by show 2≤10000;decide),fun o5 H5 n5=>⟨(by show 3≤10000;decide),fun l6 H6 n6=>?_⟩⟩⟩⟩⟩
   rw [q6] at a21
   refine ⟨(),b,3,t2,rfl,(((B2.same n3.sm).same n4.sm).same n5.sm).same n6.sm,by decide,by decide,by trivial,by trivial,fun r7 t7 H7 a70 a71 _ _ s7 B7=>?_⟩
   have nlb:¬l6=b:=fun z=>((((B2.same n3.sm).same n4.sm).same n5.sm)).ne n6.fr z.symm
   have hl7:=s7.old l6 _ nlb n6.at'
   have S:=(((((s1.trans s2).trans n3.sm.toE).trans n4.sm.toE).trans n5.sm.toE).trans n6.sm.toE).trans s7
   have e3:=s7.tup _ _ (n6.sm _ _ (n5.sm _ _ (n4.sm _ _ n3.at')))
   have e4:H7 o4=some (.tup [.int ((10:Int) ^ (9:Int).toNat),.int 1]):=s7.tup _ _ (n6.sm _ _ (n5.sm _ _ n4.at'))
   have e5:=s7.tup _ _ (n6.sm _ _ n5.at')
   rw [q9] at e4
   obtain rfl | rfl | rfl:r7=0∨r7=1∨r7=2:=by trivial
   ·exact ⟨l6,_,_,(),rfl,aA.of hl7,rfl,k o3 _ _ t7 H7 S e3 ((qH (by trivial) (by trivial)).mono (by decide)) (by trivial) B7 (by trivial) (by trivial)⟩
   ·exact ⟨l6,_,_,(),rfl,aA.of hl7,rfl,k o4 _ _ t7 H7 S e4 (Fb.small (by decide) (by decide) (by decide) (by decide)) (by decide) B7 (by trivial) (by trivial)⟩
   ·exact ⟨l6,_,_,(),rfl,aA.of hl7,rfl,k o5 _ _ t7 H7 S e5 (Fb.small (by decide) (by decide) (by decide) (by decide)) (by decide) B7 (by trivial) (by trivial)⟩
theorem pM (T:Txt K mg):aD P w K mg base CX0 2 T.l_price_by_.f T.l_price_by_.d ["_law_box"] (HC 0):=by
 have G_l_take:=#[(iU)]
 have G_l_lowest:=#[(qK)]
 refine T.l_price_by_.F.ok rE (fun vs H Q E h=>?_) (fun cdv A outer s H vs Q E hr h=>?_)
 ·obtain ⟨b,t,rfl,_⟩:=h
  rfl
 ·obtain ⟨b,t,rfl,B,ht0,ht1,k⟩:=h
  refine ⟨_,#[#[1,rE.nd,fD,#[G_l_take,gZ,T.l_take_,#[[#[0,iq],#[()]]]]] :: #[#[aU 8 #[aq 8 (@b7 _) #[1,fD] #[()] #[(),()]] #[aa 3 #[ay 4 #[ak 5 #[[#[()],#[()]]]]]] (@aM _)] :: #[aa 3 #[ay 4 #[G_l_lowest,qd,T.l_lowest_,#[[#[am 8 (@bn _) #[()] #[G_l_take,gZ,T.l_take_,#[[#[0,iq],#[#[ca 4 #[[#[()],#[()],#[()]]]][#[am 8 (@eV _) #[1,fD] #[()]]]!]]]]],#[#[ca 4 #[[#[()],#[am 8 (@bn _) #[()] #[G_l_take,gZ,T.l_take_,#[[#[0,iq],#[()]]]]],#[()]]]][#[am 8 (@eV _) #[1,fD] #[()]]]!]]]]]]]],?_⟩
  refine ⟨(),b,4,t,rfl,B,by decide,by decide,ht0,by trivial,fun wy t1 H1 w0 w1 h1a h1b s1 B1=>?_⟩
  refine ⟨(),rfl,(),cF (fun c=>?_) (fun c=>?_)⟩
  ·exact ⟨(by show 2≤10000;decide),fun o H2 n2=>k o _ _ t1 H2 (s1.trans n2.sm.toE) n2.at' (qH (by decide) (by decide)) (by decide) (B1.same n2.sm) (by trivial) (by trivial)⟩
  have hw:wy≠0:=fun z=>c (by rw [z];decide)
  refine ⟨(),(by show 3≤10000;decide),fun l1 H2 n2=>?_⟩
  obtain ⟨m,em,hm0,hm1⟩:∃m:Int,jY [V.int 9,V.int 30,V.int 999] (wy - 1)=some (V.int m)∧0<m∧m≤999:=by
   obtain rfl | rfl | rfl:wy=1∨wy=2∨wy=3:=by trivial
   ·exact ⟨9,rfl,by decide,by decide⟩
   ·exact ⟨30,rfl,by decide,by decide⟩
   ·exact ⟨999,rfl,by decide,by decide⟩
  refine ⟨(),_,(),rfl,l1,_,_,(),rfl,aA.of n2.at',em,b,m,t1,rfl,B1.same n2.sm,hm0,Cm hm0 (by trivial),by trivial,by trivial,fun r3 t3 H3 a30 a31 _ _ s3 B3=>⟨_,(),rfl,(),b,6,t3,rfl,B3,by decide,by decide,by trivial,by trivial,fun r4 t4 H4 a40 a41 _ _ s4 B4=>⟨_,(),rfl,(by show 3≤10000;decide),fun l5 H5 n5=>?_⟩⟩⟩
  obtain ⟨e,ee,he0,he1⟩:∃e:Int,jY [V.int 1,V.int (1+r4),V.int 1] (wy - 1)=some (V.int e)∧1≤e∧e≤999:=by
   obtain rfl | rfl | rfl:wy=1∨wy=2∨wy=3:=by trivial
   ·exact ⟨1,rfl,by decide,by decide⟩
   ·exact ⟨1+r4,rfl,by trivial,by trivial⟩
   ·exact ⟨1,rfl,by decide,by decide⟩
  have f:=xL (n:=1+r3) (d:=e) (by trivial) (by trivial) (by trivial) (by trivial)
  exact ⟨(),_,(),rfl,l5,_,_,(),rfl,aA.of n5.at',ee,_,(),by trivial,Sz.mono (m:=40) (by show e.natAbs<1099511627776;trivial) (by decide),fun o H6 n6=>k o _ _ t4 H6 (((((s1.trans n2.sm.toE).trans s3).trans s4).trans n5.sm.toE).trans n6.sm.toE) n6.at' f.1 (by have:=f.2;trivial) ((B4.same n5.sm).same n6.sm) (by trivial) (by trivial)⟩
end
end K72
namespace K72
open PySem L2
section
variable {P:Program}{w:World}{K:PySem.W.Frag}{mg:Str→Option Value}{base:Heap}
def mM (b:Bool) (i:Int):jj:=if b then .shut i else .opn i
inductive Ev (C:Addr) (cl:RW→Addr) (pk:Option Bool) (vs:List V) (H:Hp) (Q:VK) (E:XK):Prop
 | mk (r L:Addr) (b:Bool) (i:Int) (past:List aC) (cur:aC) (h0:(vs=match pk with | none=>[.ref r,.int i,.bl b] | some _=>[.ref r,.int i])) (h1:(∀z,pk=some z→b=z)) (h2:aI C H r L (past++[cur])) (h3:ju 5000 past cur) (h4:qI C cl r L past cur (mM b i) H Q E)
def yc (C:Addr) (cl:RW→Addr) (pk:Option Bool):Sp:=fun vs H Q E=>Ev C cl pk vs H Q E
theorem qU {s:aC}{b:Bool}{i:Int}:dP s (mM b i)=if has s i then (if decide (i∈s.sh)=b then some .asItIs else none) else some .noTie:=by
 cases b
 ·show (if has s i then (if i∈s.sh then none else some RW.asItIs) else some .noTie)=_
  by_cases h:i∈s.sh
  ·simp [h]
  ·simp [h]
 ·show (if has s i then (if i∈s.sh then some RW.asItIs else none) else some .noTie)=_
  by_cases h:i∈s.sh
  ·simp [h]
  ·simp [h]
theorem EA {N:Nat}{s:aC}{b:Bool}{i:Int} (h:l7 N s) (hi:has s i):(aV s (mM b i)).pl=s.pl∧(aV s (mM b i)).ts=s.ts∧(aV s (mM b i)).en=s.en∧d8 (aV s (mM b i))=(d8 s).set i.toNat b∧mM b i≠.back:=by
 cases b
 ·exact ⟨rfl,rfl,rfl,Cn h hi,fun z=>nomatch z⟩
 ·exact ⟨rfl,rfl,rfl,CI hi,fun z=>nomatch z⟩
theorem CP {past:List aC}{cur:aC}{b:Bool}{i:Int}:uW past cur (mM b i)=.none:=by cases b <;> rfl
theorem uE (T:Txt K mg):aD P w K mg base (hV P w) 2 T.f_Roads__set_shut T.d_Roads__set_shut ["self", "number", "whether"] (yc T.x_Roads (uJ T) none):=by
 have G_check_tie:=#[(iD)]
 have G_put_at:=#[(oR)]
 refine T.F_Roads__set_shut.okX dM (fun vs H Q E h=>?_) (fun cdv A outer s H vs Q E hr h=>?_)
 ·obtain ⟨r,L,b,i,past,cur,rfl,_⟩:=h
  rfl
 ·obtain ⟨r,L,b,i,past,cur,rfl,_,R,ok,k⟩:=h
  refine ⟨_,#[#[PS.nox 3 #[dk 6 #[#[br 5 #[0,jq] rfl][#[cG 6 (@b4 _) #[()]]]!] (@aX _ (K) _ _ _ _ (4) rfl #[af 5 #[3,dM.nd,iB] #[af 5 #[4,dM.nd,fU] #[af 5 #[5,dM.nd,fB] #[af 5 #[6,dM.nd,jo] (@bf _) (by rfl)] (by rfl)] (by rfl)] (by rfl)] (by rfl) (by rfl) (by rfl)) (by rfl) (by rfl) (by rfl)]] :: #[#[aO 4 #[iS 16 G_check_tie (hr.mono (by decide)) l9 T.check_tie_.m T.check_tie_.F.kp T.check_tie_.B .nil #[ii 15] #[[#[4,fU],#[1,fb]]] (by decide) (by rfl) (by rfl)] (by rfl)] :: #[#[aU 8 #[aq 8 (@b7 _) #[#[5,fB][#[1,fb]]] #[2,ie] #[(),()]] #[aa 3 #[gJ 5 rfl #[iQ 15] #[j0 8 T.q_AsItIs T.k_AsItIs nO T.m_AsItIs #[[#[jt 4]]] (by decide) (by rfl) (by rfl)]]] (@aM _)] :: #[aa 3 #[PS.nox 3 #[aO 4 (@cA _ (K) _ _ _ _ _ _ _ _ _ _ _ PySem.F.plainAttrs_list PySem.F.slot_list_append PySem.F.type_list_append (@bQ _) #[br 5 #[0,jq] rfl] #[[#[ak 5 #[[#[3,iB],#[4,fU],#[G_put_at,nH,T.put_at_,#[[#[5,fB],#[1,fb],#[2,ie]]]],#[6,jo]]]]]] (by rfl) (by rfl) (by rfl) (by rfl) (by rfl) (by rfl)) (by rfl)]]]]]],?_⟩
  obtain ⟨dx,ys,v,hr',hL,hys,hv⟩:=R.last
  obtain ⟨a,p,t,q,e,ties,rfl,ha,hp,ht,hty,hq,he⟩:=lY hv
  have ly:=hys.length
  have okl:=ok.lp
  rw [List.length_map] at ly
  have lt:=hty.length
  rw [List.length_map] at lt
  have okt:=ok.cu.lt
  refine aP fun D0 n0=>⟨(),r,T.x_Roads,dx,_,(),hr',T.c_Roads,T.n_Roads_states,rfl,(),L,_,_,(),rfl,aA.of hL,bS _ _,a,(),ae.of ha,rfl,_,(),_,(),_,(),_,(),rfl,n0 _ _ ?_⟩
  refine aP fun D1 n1=>⟨(),(),t,ties,i,rfl,ht,fun h2=>n1 _ _ ?_,fun h2 H' s'=>k.1 .noTie (by rw [qU,if_neg (by rw [lt] at h2;exact h2)]) H' s'⟩
  have hs:has cur i:=by rw [lt] at h2;exact h2
  obtain ⟨e1,e2,e3,e4,nb⟩:=EA (b:=b) ok.cu hs
  obtain ⟨j,rfl⟩:=Int.eq_ofNat_of_zero_le h2.1
  have hj':j<cur.ts.length:=by trivial
  have g1:((d8 cur).map V.bl)[j]?=some (V.bl (decide ((j:Int)∈cur.sh))):=by rw [List.getElem?_map,nk hj'];rfl
  refine aP fun D2 n2=>⟨(),(),q,_,_,(),rfl,ae.of hq,c0 g1,(),rfl,(),cF (fun c=>?_) fun c=>n2 _ _ ?_⟩
  ·have c':decide ((j:Int)∈cur.sh)=b:=by
    have:=of_decide_eq_true c
    injection this
   exact ⟨(by show 1≤10000;decide),fun y H1 m1=>⟨y,T.x_AsItIs,none,(),m1.at',T.q_AsItIs,k.1 .asItIs (by rw [qU,if_pos hs,if_pos c']) _ (vE m1.sm m1.fr)⟩⟩
  have c':¬decide ((j:Int)∈cur.sh)=b:=fun z=>c (decide_eq_true (by rw [z]))
  have rw_:dP cur (mM b (j:Int))=none:=by rw [qU,if_pos hs,if_neg c']
  have ll:((d8 cur).map V.bl).length=cur.ts.length:=by rw [List.length_map,lE]
  refine ⟨(),r,T.x_Roads,dx,_,(),hr',T.c_Roads,T.n_Roads_states,rfl,.inl ⟨rfl,_,aA.of hL⟩,(),(),(),(),(),q,_,j,.bl b,rfl,hq,by rw [ll];exact hj',by rw [ll];exact okt,fun p1 H1 s1 h1=>⟨(),(by show 4≤10000;decide),fun p3 H3 m3=>⟨L,_,(),rfl,(s1.trans m3.sm) _ _ hL,by simp;trivial,fun H4 c4=>?_⟩⟩⟩
  have sb:=s1.trans m3.sm
  obtain ⟨R4,s4⟩:=aI.app (s':=aV cur (mM b (j:Int))) (sts:=past++[cur]) hr' hL (by rw [List.map_append];exact hys.append (.cons hv .nil)) sb (ub (bs:=(d8 cur).set j b) m3.at' (by rw [e1];exact sb _ _ hp) (sb _ _ ht) (by rw [e2];exact hty.mono sb.toE) (by rw [m3.sm _ _ h1,List.map_set]) e4.symm (by rw [e3];exact he.mono sb.toE)) c4
  exact lU k rw_ nb s4 R4 (by rw [CP];exact .non)
theorem DM (T:Txt K mg):aD P w K mg base (hV P w) 3 T.f_Roads__shut T.d_Roads__shut ["self", "number"] (yc T.x_Roads (uJ T) (some true)):=by
 have G_Roads__set_shut:=#[(uE)]
 refine T.F_Roads__shut.okX wb (fun vs H Q E h=>?_) (fun cdv A outer s H vs Q E hr h=>?_)
 ·obtain ⟨r,L,b,i,past,cur,rfl,_⟩:=h
  rfl
 ·obtain ⟨r,L,b,i,past,cur,rfl,hk,R,ok,k⟩:=h
  cases hk _ rfl
  obtain ⟨dx,ys,v,hr',hL,hys,hv⟩:=R.last
  refine ⟨_,#[aa 3 #[aO 4 #[cj 20 #[0,tz] T.c_Roads T.h_Roads__set_shut G_Roads__set_shut (hr.mono (by decide)) T.B_Roads__set_shut .nil #[ii 15] #[[#[1,qW],#[bP 4]]] (by rfl) (by rfl) (by rfl)] (by rfl)]],?_⟩
  exact ⟨(),r,dx,(),hr',rfl,(),r,L,true,i,past,cur,rfl,(fun z q=>nomatch q),R,ok,k.1,fun e v H' s R t=>by cases t;exact k.2 e .non H' s R .non⟩
theorem AV (T:Txt K mg):aD P w K mg base (hV P w) 3 T.f_Roads__reopen T.d_Roads__reopen ["self", "number"] (yc T.x_Roads (uJ T) (some false)):=by
 have G_Roads__set_shut:=#[(uE)]
 refine T.F_Roads__reopen.okX uR (fun vs H Q E h=>?_) (fun cdv A outer s H vs Q E hr h=>?_)
 ·obtain ⟨r,L,b,i,past,cur,rfl,_⟩:=h
  rfl
 ·obtain ⟨r,L,b,i,past,cur,rfl,hk,R,ok,k⟩:=h
  cases hk _ rfl
  obtain ⟨dx,ys,v,hr',hL,hys,hv⟩:=R.last
  refine ⟨_,#[aa 3 #[aO 4 #[cj 20 #[0,qO] T.c_Roads T.h_Roads__set_shut G_Roads__set_shut (hr.mono (by decide)) T.B_Roads__set_shut .nil #[ii 15] #[[#[1,pH],#[bP 4]]] (by rfl) (by rfl) (by rfl)] (by rfl)]],?_⟩
  exact ⟨(),r,dx,(),hr',rfl,(),r,L,false,i,past,cur,rfl,(fun z q=>nomatch q),R,ok,k.1,fun e v H' s R t=>by cases t;exact k.2 e .non H' s R .non⟩
inductive Ct (C:Addr) (cl:RW→Addr) (vs:List V) (H:Hp) (Q:VK) (E:XK):Prop
 | mk (r L:Addr) (b e:List Nat) (past:List aC) (cur:aC) (h0:vs=[.ref r,aH b,aH e]) (h1:aI C H r L (past++[cur])) (h2:ju 5000 past cur) (h3:qI C cl r L past cur (.ends b e) H Q E)
def Eh (C:Addr) (cl:RW→Addr):Sp:=fun vs H Q E=>Ct C cl vs H Q E
theorem yP (T:Txt K mg):aD P w K mg base (hV P w) 2 T.f_Roads__set_ends T.d_Roads__set_ends ["self", "begin", "end"] (Eh T.x_Roads (uJ T)):=by
 have G_check_two:=#[(tM)]
 refine T.F_Roads__set_ends.okX dO (fun vs H Q E h=>?_) (fun cdv A outer s H vs Q E hr h=>?_)
 ·obtain ⟨r,L,bb,ee,past,cur,rfl,_⟩:=h
  rfl
 ·obtain ⟨r,L,bb,ee,past,cur,rfl,R,ok,k⟩:=h
  refine ⟨_,#[#[PS.nox 3 #[dk 6 #[#[br 5 #[0,jx] rfl][#[cG 6 (@b4 _) #[()]]]!] (@aX _ (K) _ _ _ _ (4) rfl #[af 5 #[3,dO.nd,fk] #[af 5 #[4,dO.nd,jD] #[af 5 #[5,dO.nd,i3] #[af 5 #[6,dO.nd,pi] (@bf _) (by rfl)] (by rfl)] (by rfl)] (by rfl)] (by rfl) (by rfl) (by rfl)) (by rfl) (by rfl) (by rfl)]] :: #[#[aO 4 #[iS 16 G_check_two (hr.mono (by decide)) mh T.check_two_.m T.check_two_.F.kp T.check_two_.B .nil #[ii 15] #[[#[3,fk],#[1,i0],#[2,jX]]] (by decide) (by rfl) (by rfl)] (by rfl)] :: #[aa 3 #[PS.nox 3 #[aO 4 (@cA _ (K) _ _ _ _ _ _ _ _ _ _ _ PySem.F.plainAttrs_list PySem.F.slot_list_append PySem.F.type_list_append (@bQ _) #[br 5 #[0,jx] rfl] #[[#[ak 5 #[[#[3,fk],#[4,jD],#[5,i3],#[ak 5 #[[#[1,i0],#[2,jX]]]]]]]]] (by rfl) (by rfl) (by rfl) (by rfl) (by rfl) (by rfl)) (by rfl)]]]]],?_⟩
  obtain ⟨dx,ys,v,hr',hL,hys,hv⟩:=R.last
  obtain ⟨a,p,t,q,e,ties,rfl,ha,hp,ht,hty,hq,he⟩:=lY hv
  have ly:=hys.length
  have okl:=ok.lp
  rw [List.length_map] at ly
  refine aP fun D0 n0=>⟨(),r,T.x_Roads,dx,_,(),hr',T.c_Roads,T.n_Roads_states,rfl,(),L,_,_,(),rfl,aA.of hL,bS _ _,a,(),ae.of ha,rfl,_,(),_,(),_,(),_,(),rfl,n0 _ _ ?_⟩
  refine aP fun D1 n1=>⟨(),(),(),p,cur.pl,bb,ee,rfl,hp,fun h2=>n1 _ _ ?_,fun h2 H' s'=>k.1 .noPlace (if_neg h2) H' s'⟩
  have rw_:dP cur (.ends bb ee)=none:=if_pos h2
  refine ⟨(),r,T.x_Roads,dx,_,(),hr',T.c_Roads,T.n_Roads_states,rfl,.inl ⟨rfl,_,aA.of hL⟩,(),(),(),(),(),(by show 2≤10000;decide),fun p1 H1 m1=>⟨(by show 4≤10000;decide),fun p3 H3 m3=>⟨L,_,(),rfl,(m1.sm.trans m3.sm) _ _ hL,by simp;trivial,fun H4 c4=>?_⟩⟩⟩
  have sb:=m1.sm.trans m3.sm
  obtain ⟨R4,s4⟩:=aI.app (s':=aV cur (.ends bb ee)) (sts:=past++[cur]) hr' hL (by rw [List.map_append];exact hys.append (.cons hv .nil)) sb (ub (bs:=d8 cur) m3.at' (sb _ _ hp) (sb _ _ ht) (hty.mono sb.toE) (sb _ _ hq) rfl (.tup (m3.sm _ _ m1.at') (.cons (.str _) (.cons (.str _) .nil)))) c4
  exact lU k rw_ (by intro z;cases z) s4 R4 .non
inductive DX (C:Addr) (vs:List V) (H:Hp) (Q:VK):Prop
 | mk (r L:Addr) (past:List aC) (cur:aC) (h0:vs=[.ref r]) (h1:aI C H r L (past++[cur])) (h2:Q (.int (past.length:Nat)) H)
def Hf (C:Addr):Sp:=fun vs H Q _=>DX C vs H Q
theorem vd (T:Txt K mg):aD P w K mg base CX0 1 T.f_Roads__deeds T.d_Roads__deeds ["self"] (Hf T.x_Roads):=by
 refine T.F_Roads__deeds.ok vJ (fun vs H Q E h=>?_) (fun cdv A outer s H vs Q E hr h=>?_)
 ·obtain ⟨r,L,past,cur,rfl,_⟩:=h
  rfl
 ·obtain ⟨r,L,past,cur,rfl,R,k⟩:=h
  refine ⟨_,#[aa 3 #[ay 4 #[am 8 (@eV _) #[(),(),(@cm _ (K) (by rfl)),tP,T.b_len,(@aL),#[[#[br 5 #[0,sr] rfl]]]] #[()]]]],?_⟩
  obtain ⟨dx,ys,v,hr',hL,hys,hv⟩:=R.last
  have ly:=hys.length
  rw [List.length_map] at ly
  refine ⟨(),r,T.x_Roads,dx,_,(),hr',T.c_Roads,T.n_Roads_states,rfl,L,(),.inl (aA.of hL),_,(),rfl,?_⟩
  have e:(((ys++[v]).length:Nat):Int) - 1=(past.length:Nat):=by simp;trivial
  show Q (V.int ((((ys++[v]).length:Nat):Int) - 1)) H
  rw [e]
  exact k
inductive EM (C:Addr) (vs:List V) (H:Hp) (Q:VK):Prop
 | mk (r L:Addr) (past:List aC) (cur:aC) (h0:vs=[.ref r]) (h1:aI C H r L (past++[cur])) (h2:∀H',ai (Eb L) H H'→aI C H' r L (sO past cur .back++[sL past cur .back])→Q (.bl (!past.isEmpty)) H')
def Gi (C:Addr):Sp:=fun vs H Q _=>EM C vs H Q
theorem zi (T:Txt K mg):aD P w K mg base CX0 2 T.f_Roads__back T.d_Roads__back ["self"] (Gi T.x_Roads):=by
 have G_Roads__deeds:=#[(vd)]
 refine T.F_Roads__back.ok wm (fun vs H Q E h=>?_) (fun cdv A outer s H vs Q E hr h=>?_)
 ·obtain ⟨r,L,past,cur,rfl,_⟩:=h
  rfl
 ·obtain ⟨r,L,past,cur,rfl,R,k⟩:=h
  refine ⟨_,#[#[aU 8 #[aq 8 (@b7 _) #[bZ 17 #[0,lZ] T.c_Roads T.h_Roads__deeds G_Roads__deeds (hr.mono (by decide)) T.B_Roads__deeds .nil (@cT _) (by rfl)] #[()] #[(),()]] #[aa 3 #[ay 4 #[bP 4]]] (@aM _)] :: #[#[aO 4 #[vS 9 PySem.F.plainAttrs_list PySem.F.slot_list_pop PySem.F.type_list_pop (@tY _) #[br 5 #[0,lZ] rfl] (by rfl) (by rfl)] (by rfl)] :: #[aa 3 #[ay 4 #[bP 4]]]]],?_⟩
  obtain ⟨dx,ys,v,hr',hL,hys,hv⟩:=R.last
  refine GC fun D0 n0 r0=>⟨(),r,dx,(),hr',rfl,r,L,past,cur,rfl,R,rfl,(),?_⟩
  rcases iR past with rfl | ⟨pp,z,rfl⟩
  ·exact cx (r0 _ _ (k H (ai.refl _) R))
  ·rw [decide_eq_false (show ¬(V.int (((pp++[z]).length:Nat):Int)=V.int 0) from fun q=>by injection q with q;simp at q;trivial)]
   refine aT (n0 _ _ ?_)
   refine aP fun D1 n1=>⟨(),r,T.x_Roads,dx,_,(),hr',T.c_Roads,T.n_Roads_states,rfl,.inl ⟨rfl,_,aA.of hL⟩,L,ys,v,rfl,rfl,hL,fun H1 c1=>n1 _ _ ?_⟩
   have se:=Ch.sameE (ad.refl H) hL c1
   have e:(!(pp++[z]).isEmpty)=true:=by cases pp <;> rfl
   have k1:=k H1 se (by
    rw [lA.1,lA.2]
    exact ⟨dx,ys,se.old _ _ R.ne hr',c1.at',hys.tupS se⟩)
   rw [e] at k1
   exact k1
inductive C9 (C:Addr) (vs:List V) (H:Hp) (Q:VK):Prop
 | mk (r L:Addr) (past:List aC) (cur:aC) (h0:vs=[.ref r]) (h1:aI C H r L (past++[cur])) (h2:∀v,aB ED H v (uC cur.en)→Q v H)
def EJ (C:Addr):Sp:=fun vs H Q _=>C9 C vs H Q
theorem Ee (T:Txt K mg):aD P w K mg base CX0 1 T.f_Roads__ends T.d_Roads__ends ["self"] (EJ T.x_Roads):=by
 refine T.F_Roads__ends.ok wL (fun vs H Q E h=>?_) (fun cdv A outer s H vs Q E hr h=>?_)
 ·obtain ⟨r,L,past,cur,rfl,_⟩:=h
  rfl
 ·obtain ⟨r,L,past,cur,rfl,R,k⟩:=h
  refine ⟨_,#[aa 3 #[ay 4 #[#[#[br 5 #[0,tm] rfl][#[cG 6 (@b4 _) #[()]]]!][#[()]]]]],?_⟩
  obtain ⟨dx,ys,v,hr',hL,hys,hv⟩:=R.last
  obtain ⟨a,p,t,q,e,ties,rfl,ha,hp,ht,hty,hq,he⟩:=lY hv
  exact ⟨(),r,T.x_Roads,dx,_,(),hr',T.c_Roads,T.n_Roads_states,rfl,(),L,_,_,(),rfl,aA.of hL,bS _ _,a,_,_,(),rfl,ae.of ha,rfl,k _ he⟩
inductive DT (C:Addr) (c:Addr) (vs:List V) (H:Hp) (Q:VK) (E:XK):Prop
 | mk (r L:Addr) (i:Int) (past:List aC) (cur:aC) (h0:vs=[.ref r,.int i]) (h1:aI C H r L (past++[cur])) (h2:(has cur i→Q (.bl (decide (i∈cur.sh))) H)) (h3:(¬has cur i→∀H',ad H H'→E (.ref c) none H'))
def Fr (C:Addr) (c:Addr):Sp:=fun vs H Q E=>DT C c vs H Q E
theorem zz (T:Txt K mg):aD P w K mg base (hV P w) 2 T.f_Roads__is_shut T.d_Roads__is_shut ["self", "number"] (Fr T.x_Roads T.x_NoTie):=by
 have G_check_tie:=#[(iD)]
 refine T.F_Roads__is_shut.okX mS (fun vs H Q E h=>?_) (fun cdv A outer s H vs Q E hr h=>?_)
 ·obtain ⟨r,L,i,past,cur,rfl,_⟩:=h
  rfl
 ·obtain ⟨r,L,i,past,cur,rfl,R,k1,k2⟩:=h
  refine ⟨_,#[#[PS.nox 3 #[2,mS.nd,f8,#[#[#[br 5 #[0,qf] rfl][#[cG 6 (@b4 _) #[()]]]!][#[()]]]]] :: #[#[aO 4 #[iS 16 G_check_tie (hr.mono (by decide)) mG T.check_tie_.m T.check_tie_.F.kp T.check_tie_.B .nil #[ii 15] #[[#[2,f8],#[1,i5]]] (by decide) (by rfl) (by rfl)] (by rfl)] :: #[aa 3 #[PS.nox 3 #[ay 4 #[#[2,f8][#[1,i5]]]]]]]],?_⟩
  obtain ⟨dx,ys,v,hr',hL,hys,hv⟩:=R.last
  obtain ⟨a,p,t,q,e,ties,rfl,ha,hp,ht,hty,hq,he⟩:=lY hv
  have ll:((d8 cur).map V.bl).length=cur.ts.length:=by rw [List.length_map,lE]
  refine cJ fun Q1 n1=>⟨(),r,T.x_Roads,dx,_,(),hr',T.c_Roads,T.n_Roads_states,rfl,(),L,_,_,(),rfl,aA.of hL,bS _ _,a,_,_,(),rfl,ae.of ha,rfl,n1 _ _ ?_⟩
  refine aP fun D1 n1=>⟨(),(),q,_,i,rfl,hq,fun h2=>n1 _ _ ?_,fun h2 H' s'=>k2 (by rw [ll] at h2;exact h2) H' s'⟩
  have hs:has cur i:=by rw [ll] at h2;exact h2
  have k3:=k1 hs
  obtain ⟨j,rfl⟩:=Int.eq_ofNat_of_zero_le h2.1
  have hj':j<cur.ts.length:=by trivial
  have g1:((d8 cur).map V.bl)[j]?=some (V.bl (decide ((j:Int)∈cur.sh))):=by rw [List.getElem?_map,nk hj'];rfl
  exact ⟨(),(),q,_,_,(),rfl,ae.of hq,c0 g1,k3⟩
end
end K72
namespace K72
open PySem L2
section
variable {P:Program}{w:World}{K:PySem.W.Frag}{mg:Str→Option Value}{base:Heap}
def vN (s:aC) (i:Nat):PyData:=match s.ts[i]? with
 | some t=>f6 (if ((i:Nat):Int)∈s.sh then { t with most:=(0,1) } else t)
 | none=>.none
def yE (s:aC):PyData:=.tuple [.tuple (s.pl.map fun l=>.str (S l)),.tuple ((List.range s.ts.length).map (vN s))]
inductive DO (C:Addr) (vs:List V) (H:Hp) (Q:VK):Prop
 | mk (r L:Addr) (past:List aC) (cur:aC) (h0:vs=[.ref r]) (h1:aI C H r L (past++[cur])) (h2:ju 5000 past cur) (h3:∀v H',ad H H'→aB ED H' v (yE cur)→Q v H')
def GK (C:Addr):Sp:=fun vs H Q _=>DO C vs H Q
theorem AS (T:Txt K mg):aD P w K mg base CX0 2 T.f_Roads__net T.d_Roads__net ["self"] (GK T.x_Roads):=by
 have G_put_at:=#[(oR)]
 refine T.F_Roads__net.ok gW (fun vs H Q E h=>?_) (fun cdv A outer s H vs Q E hr h=>?_)
 ·obtain ⟨r,L,past,cur,rfl,_⟩:=h
  rfl
 ·obtain ⟨r,L,past,cur,rfl,R,ok,k⟩:=h
  refine ⟨_,#[#[dk 6 #[#[br 5 #[0,uk] rfl][#[cG 6 (@b4 _) #[()]]]!] (@aX _ (K) _ _ _ _ (4) rfl #[af 5 #[1,gW.nd,kY] #[af 5 #[2,gW.nd,mH] #[af 5 #[3,gW.nd,mf] #[af 5 #[4,gW.nd,uz] (@bf _) (by rfl)] (by rfl)] (by rfl)] (by rfl)] (by rfl) (by rfl) (by rfl)) (by rfl) (by rfl) (by rfl)] :: #[aa 3 #[ay 4 #[ak 5 #[[#[1,kY],#[bW 9 (@bT _ (K) (by rfl)) tO T.b_tuple (@bR) #[[#[cI 7 (["tie", "shut"]) (2) ([]) _ _ _ _ rfl (by kernel_rfl) (@gF _ (K) _ _ _ _ _ _ _ _ vj T.b_zip #[[#[2,mH],#[3,mf]]] (by rfl) (by rfl) (by rfl)) (fun _ _ _ _ _ _=>(@aX _ (K) _ _ _ _ (2) rfl #[af 5 #[0,(),()] #[af 5 #[1,(),()] (@bf _) (by rfl)] (by rfl)] (by rfl) (by rfl) (by rfl))) (fun _ _ _ _ _ _=>@cf _) (fun _ _ _ _ _ _=>#[fY 8 #[eX 3 #[1,()] (by intro _;rfl)] #[G_put_at,(),T.put_at_,#[[#[0,()],#[()],#[ak 5 #[[#[()],#[()]]]]]]] #[0,()]]) (by intro _;rfl)]]] (by decide) (by decide) (by rfl) (by rfl)]]]]]]],?_⟩
  obtain ⟨dx,ys,v,hr',hL,hys,hv⟩:=R.last
  obtain ⟨a,p,t,q,e,ties,rfl,ha,hp,ht,hty,hq,he⟩:=lY hv
  have lt:=hty.length
  rw [List.length_map] at lt
  have okt:=ok.cu.lt
  have ll:((d8 cur).map V.bl).length=cur.ts.length:=by rw [List.length_map,lE]
  refine aP fun D0 n0=>⟨(),r,T.x_Roads,dx,_,(),hr',T.c_Roads,T.n_Roads_states,rfl,(),L,_,_,(),rfl,aA.of hL,bS _ _,a,(),ae.of ha,rfl,_,(),_,(),_,(),_,(),rfl,n0 _ _ ?_⟩
  refine ⟨(),(),(),t,q,false,false,rfl,⟨ties,ae.of ht⟩,⟨_,ae.of hq⟩,fun D hD=>?_⟩
  refine vY (n:=cur.ts.length) (vN cur) (by trivial) hD (fun i H' hi sm=>⟨ties,_,ties[i]'(by trivial),_,ae.of (sm _ _ ht),ae.of (sm _ _ hq),List.getElem?_eq_getElem (by trivial),by rw [List.getElem?_map,nk hi];rfl⟩) (fun H' sm=>⟨ties,_,ae.of (sm _ _ ht),ae.of (sm _ _ hq),.inl lt⟩) ?_ ?_
  ·rintro i x H' H'' R' hi sm ⟨Tp,xx,yy,hT,rfl,rfl,e1,e2⟩ kk
   have e1':=e1 _ (ae.of (sm _ _ ht))
   have e2':=e2 _ (ae.of (sm _ _ hq))
   rw [List.getElem?_map,nk hi] at e2'
   obtain rfl:V.bl (decide ((i:Int)∈cur.sh))=yy:=Option.some.inj e2'
   have e3:cur.ts[i]?=some cur.ts[i]:=List.getElem?_eq_getElem hi
   have dj:aB ED H xx (f6 cur.ts[i]):=hty.nth i e1' (by rw [List.getElem?_map,e3];rfl)
   obtain ⟨ta,m,g,pr,rfl,hta,hm,hg,hpr⟩:=uj dj
   have st:=ad.new (o:=.tup [.ref ta,.bl (decide ((i:Int)∈cur.sh))]) hT
   refine ⟨Tp,(),ae.of av,rfl,_,(),_,(),rfl,ua,(),(),?_⟩
   have sa:=sm.trans st
   by_cases hs:(i:Int)∈cur.sh
   ·rw [decide_eq_true hs] at st sa ⊢
    refine cx ⟨(),(by show 2≤10000;decide),fun p1 H1 m1=>⟨ta,_,2,.ref p1,rfl,(sa.trans m1.sm) _ _ hta,(by show 2<5;decide),(by show 5≤5000;decide),fun p2 H2 s2 h2=>?_⟩⟩
    have sb:=(sa.trans m1.sm).trans s2
    refine kk _ _ ((st.trans m1.sm).trans s2) ?_
    unfold vN
    rw [e3]
    simp only [hs,if_true]
    exact .tup h2 (.cons (.str _) (.cons (.str _) (.cons (.tup (s2 _ _ m1.at') (.cons (.int _) (.cons (.int _) .nil))) (.cons (hg.mono sb.toE) (.cons (hpr.mono sb.toE) .nil)))))
   ·rw [decide_eq_false hs] at st sa ⊢
    refine aT ⟨(),kk _ _ st ?_⟩
    unfold vN
    rw [e3]
    simp only [hs,if_false]
    exact dj.mono sa.toE
  ·intro zs H1 s1 h1 ia
   refine ⟨D,zs,rfl,aA.of h1,fun l H2 m2=>⟨(by show 2≤10000;decide),fun p3 H3 m3=>k _ _ ((s1.trans m2.sm).trans m3.sm) ?_⟩⟩
   exact .tup m3.at' (.cons (.tup (((s1.trans m2.sm).trans m3.sm) _ _ hp) (nU _)) (.cons (.tup (m3.sm _ _ m2.at') (ia.mono (m2.sm.trans m3.sm).toE)) .nil))
end
end K72
namespace K72
open PySem L2
set_option maxHeartbeats 8000000
section
variable {P:Program}{w:World}{K:PySem.W.Frag}{mg:Str→Option Value}{base:Heap}
inductive EK (C:Addr) (vs:List V) (H:Hp) (Q:VK):Prop
 | mk (r L:Addr) (sts:List aC) (h0:vs=[.ref r]) (h1:aI C H r L sts) (h2:∀r' L' H',ad H H'→H r'=none→H L'=none→aI C H' r' L' sts→Q (.ref r') H')
def F9 (C:Addr):Sp:=fun vs H Q _=>EK C vs H Q
theorem DL (T:Txt K mg):aD P w K mg base CX0 3 T.f_Roads__twin T.d_Roads__twin ["self"] (F9 T.x_Roads):=by
 have G_Roads____init__:=#[(rS)]
 refine T.F_Roads__twin.ok qu (fun vs H Q E h=>?_) (fun cdv A outer s H vs Q E hr h=>?_)
 ·obtain ⟨r,L,sts,rfl,_⟩:=h
  rfl
 ·obtain ⟨r,L,sts,rfl,R,k⟩:=h
  refine ⟨_,#[#[1,qu.nd,hJ,#[x8 11 T.mk_Roads G_Roads____init__ (hr.mono (by decide)) sD T.m_Roads T.B_Roads____init__ (@cT _) (by decide)]] :: #[#[uh 8 #[1,hJ] #[bW 9 (@mF _ (K) (by rfl)) sZ T.b_list (@kI) #[[#[br 5 #[0,tE] rfl]]] (by decide) (by decide) (by rfl) (by rfl)] (by rfl)] :: #[aa 3 #[ay 4 #[1,hJ]]]]],?_⟩
  obtain ⟨dx,xs,hr0,hL,ha⟩:=R
  refine cJ fun Q0 n0=>fun r' dx' J0 fr' sJ hr'=>⟨r',dx',rfl,hr',fun L0 H1 fL0 kp R1=>⟨rfl,n0 _ _ ?_⟩⟩
  have s1:ad H H1:=fun x o h=>kp x o (fun e=>by rw [e,fr'] at h;cases h) (sJ _ _ h)
  obtain ⟨dx1,xs1,hr1,_,_⟩:=R1
  refine aP fun D1 n1=>⟨(),r,T.x_Roads,dx,_,(),s1 _ _ hr0,T.c_Roads,T.n_Roads_states,rfl,L,xs,rfl,.inl (aA.of (s1 _ _ hL)),fun L' H2 m2=>⟨(),r',T.x_Roads,dx1,(),m2.sm _ _ hr1,T.c_Roads,T.n_Roads_states,(by show 1<1000;decide),fun H3 c3=>n1 _ _ ⟨(),?_⟩⟩⟩
  have nr:∀{x o},H x=some o→x≠r':=fun h e=>by rw [e,fr'] at h;cases h
  have s3:ad H H3:=fun x o h=>c3.ol x o (nr h) (m2.sm _ _ (s1 _ _ h))
  have nLr:L'≠r':=fun e=>by have:=m2.fr;rw [e,hr1] at this;cases this
  exact k r' L' H3 s3 fr' (s1.free m2.fr) ⟨dx1,xs,c3.at',c3.ol _ _ nLr m2.at',ha.mono s3.toE⟩
end
end K72
namespace K72
open PySem L2
section
variable {P:Program}{w:World}{K:PySem.W.Frag}{mg:Str→Option Value}{base:Heap}
theorem Aa {H:Hp}{a p q:Addr}{ps:List V}{n:Nat}{s:gT} (ha:H a=some (.tup [.ref p,.ref q])) (hp:H p=some (.tup (s.sh.map V.bl))) (hq:H q=some (.tup ps)) (hs:aw ED H ps (List.replicate s.h (yB n))):aB ED H (.ref a) (yG n s):=by
 have sall:∀bs:List Bool,aw ED H (bs.map V.bl) (bs.map PyData.bool):=by
  intro bs
  induction bs with
  | nil=>exact .nil
  | cons b bs ih=>exact .cons (.bl b) ih
 exact .tup ha (.cons (.tup hp (sall _)) (.cons (.tup hq hs) .nil))
theorem bO.app {C dx:Addr}{H H1 H2:Hp}{r L:Addr}{d:V}{n:Nat}{sts:List gT}{xs:List V}{v:V}{s':gT} (hr:H r=some (.ins C dx [("day",d),("states",.ref L)])) (hL:H L=some (.lst xs)) (ha:aw ED H xs (sts.map (yG n))) (s1:ad H H1) (hv:aB ED H1 v (yG n s')) (c:Ch H1 L (xs++[v]) H2) :
 bO C H2 r L d n (sts++[s'])∧ai (Eb L) H H2:=by
 have hL1:=s1 _ _ hL
 have se:=Ch.sameE s1 hL1 c
 refine ⟨⟨dx,xs++[v],se.old _ _ (jG hr hL (by intro z;cases z)) hr,c.at',?_⟩,se⟩
 rw [List.map_append]
 exact (ha.tupS se).append (.cons (hv.tupC c hL1) .nil)
inductive C6 (C:Addr) (pk:Option Bool) (vs:List V) (H:Hp) (Q:VK):Prop
 | mk (r L:Addr) (d:V) (n:Nat) (b:Bool) (j:Nat) (past:List gT) (cur:gT) (h0:(vs=match pk with | none=>[.ref r,.int (j:Int),.bl b] | some _=>[.ref r,.int (j:Int)])) (h1:(∀z,pk=some z→b=z)) (h2:bO C H r L d n (past++[cur])) (h3:cur.sh[j]?=some (!b)) (h4:cur.sh.length≤1000) (h5:past.length≤1000) (h6:∀H',ai (Eb L) H H'→bO C H' r L d n (past++[cur]++[⟨cur.sh.set j b,cur.h⟩])→Q .non H')
def wF (C:Addr) (pk:Option Bool):Sp:=fun vs H Q _=>C6 C pk vs H Q
theorem rK (T:Txt K mg):aD P w K mg base (hV P w) 2 T.f_DayRun__set_closed T.d_DayRun__set_closed ["self", "number", "whether"] (wF T.x_DayRun none):=by
 have G_check_tie:=#[(iD)]
 have G_put_at:=#[(oR)]
 refine T.F_DayRun__set_closed.okX gm (fun vs H Q E h=>?_) (fun cdv A outer s H vs Q E hr h=>?_)
 ·obtain ⟨r,L,d,n,b,j,past,cur,rfl,_⟩:=h
  rfl
 ·obtain ⟨r,L,d,n,b,j,past,cur,rfl,_,R,hj,l1,l2,k⟩:=h
  refine ⟨_,#[#[PS.nox 3 #[dk 6 #[#[br 5 #[0,ib] rfl][#[cG 6 (@b4 _) #[()]]]!] (@aX _ (K) _ _ _ _ (2) rfl #[af 5 #[3,gm.nd,cH] #[af 5 #[4,gm.nd,gw] (@bf _) (by rfl)] (by rfl)] (by rfl) (by rfl) (by rfl)) (by rfl) (by rfl) (by rfl)]] :: #[#[aO 4 #[iS 16 G_check_tie (hr.mono (by decide)) ku T.check_tie_.m T.check_tie_.F.kp T.check_tie_.B .nil #[ii 15] #[[#[3,cH],#[1,dQ]]] (by decide) (by rfl) (by rfl)] (by rfl)] :: #[#[aU 8 #[aq 8 (@b7 _) #[#[3,cH][#[1,dQ]]] #[2,gh] #[(),()]] #[aa 3 #[gJ 5 rfl #[iQ 15] #[j0 8 T.q_AsItIs T.k_AsItIs mv T.m_AsItIs #[[#[jt 4]]] (by decide) (by rfl) (by rfl)]]] (@aM _)] :: #[aa 3 #[PS.nox 3 #[aO 4 (@cA _ (K) _ _ _ _ _ _ _ _ _ _ _ PySem.F.plainAttrs_list PySem.F.slot_list_append PySem.F.type_list_append (@bQ _) #[br 5 #[0,ib] rfl] #[[#[ak 5 #[[#[G_put_at,mo,T.put_at_,#[[#[3,cH],#[1,dQ],#[2,gh]]]],#[4,gw]]]]]] (by rfl) (by rfl) (by rfl) (by rfl) (by rfl) (by rfl)) (by rfl)]]]]]],?_⟩
  obtain ⟨dx,ys,v,hr',hL,hys,hv⟩:=R.last
  obtain ⟨a,p,q,ps,rfl,ha,hp,hq,hps⟩:=tW hv
  have ly:=hys.length
  rw [List.length_map] at ly
  have hlt:=(List.getElem?_eq_some_iff.mp hj).1
  have ll:(cur.sh.map V.bl).length=cur.sh.length:=List.length_map ..
  refine aP fun D0 n0=>⟨(),r,T.x_DayRun,dx,_,(),hr',T.c_DayRun,T.n_DayRun_states,rfl,(),L,_,_,(),rfl,aA.of hL,bS _ _,a,(),ae.of ha,rfl,_,(),_,(),rfl,n0 _ _ ?_⟩
  refine aP fun D1 n1=>⟨(),(),p,_,(),hp,fun h2=>n1 _ _ ?_,fun h2=>absurd ⟨by trivial,by rw [ll];trivial⟩ h2⟩
  have g1:(cur.sh.map V.bl)[j]?=some (V.bl (!b)):=by rw [List.getElem?_map,hj];rfl
  refine aP fun D2 n2=>⟨(),(),p,_,_,(),rfl,ae.of hp,c0 g1,(),rfl,(),cF (fun c=>?_) fun c=>n2 _ _ ?_⟩
  ·have:=of_decide_eq_true c
   injection this with this
   cases b <;> cases this
  refine ⟨(),r,T.x_DayRun,dx,_,(),hr',T.c_DayRun,T.n_DayRun_states,rfl,.inl ⟨rfl,_,aA.of hL⟩,(),(),(),p,_,j,.bl b,rfl,hp,by rw [ll];exact hlt,by rw [ll];trivial,fun p1 H1 s1 h1=>⟨(),(by show 2≤10000;decide),fun p3 H3 m3=>⟨L,_,(),rfl,(s1.trans m3.sm) _ _ hL,by simp;trivial,fun H4 c4=>?_⟩⟩⟩
  have sb:=s1.trans m3.sm
  obtain ⟨R4,s4⟩:=bO.app (s':=⟨cur.sh.set j b,cur.h⟩) (sts:=past++[cur]) hr' hL (by rw [List.map_append];exact hys.append (.cons hv .nil)) sb (Aa m3.at' (by rw [m3.sm _ _ h1,List.map_set]) (sb _ _ hq) (hps.mono sb.toE)) c4
  exact k H4 s4 R4
theorem BR (T:Txt K mg):aD P w K mg base (hV P w) 3 T.f_DayRun__shut T.d_DayRun__shut ["self", "number"] (wF T.x_DayRun (some true)):=by
 have G_DayRun__set_closed:=#[(rK)]
 refine T.F_DayRun__shut.okX vT (fun vs H Q E h=>?_) (fun cdv A outer s H vs Q E hr h=>?_)
 ·obtain ⟨r,L,d,n,b,j,past,cur,rfl,_⟩:=h
  rfl
 ·obtain ⟨r,L,d,n,b,j,past,cur,rfl,hk,R,hj,l1,l2,k⟩:=h
  cases hk _ rfl
  obtain ⟨dx,ys,v,hr',hL,hys,hv⟩:=R.last
  refine ⟨_,#[aa 3 #[aO 4 #[cj 20 #[0,sw] T.c_DayRun T.h_DayRun__set_closed G_DayRun__set_closed (hr.mono (by decide)) T.B_DayRun__set_closed .nil #[ii 15] #[[#[1,qp],#[bP 4]]] (by rfl) (by rfl) (by rfl)] (by rfl)]],?_⟩
  exact ⟨(),r,dx,(),hr',rfl,(),r,L,d,n,true,j,past,cur,rfl,(fun z q=>nomatch q),R,hj,l1,l2,k⟩
theorem zO (T:Txt K mg):aD P w K mg base (hV P w) 3 T.f_DayRun__unshut T.d_DayRun__unshut ["self", "number"] (wF T.x_DayRun (some false)):=by
 have G_DayRun__set_closed:=#[(rK)]
 refine T.F_DayRun__unshut.okX um (fun vs H Q E h=>?_) (fun cdv A outer s H vs Q E hr h=>?_)
 ·obtain ⟨r,L,d,n,b,j,past,cur,rfl,_⟩:=h
  rfl
 ·obtain ⟨r,L,d,n,b,j,past,cur,rfl,hk,R,hj,l1,l2,k⟩:=h
  cases hk _ rfl
  obtain ⟨dx,ys,v,hr',hL,hys,hv⟩:=R.last
  refine ⟨_,#[aa 3 #[aO 4 #[cj 20 #[0,qx] T.c_DayRun T.h_DayRun__set_closed G_DayRun__set_closed (hr.mono (by decide)) T.B_DayRun__set_closed .nil #[ii 15] #[[#[1,oF],#[bP 4]]] (by rfl) (by rfl) (by rfl)] (by rfl)]],?_⟩
  exact ⟨(),r,dx,(),hr',rfl,(),r,L,d,n,false,j,past,cur,rfl,(fun z q=>nomatch q),R,hj,l1,l2,k⟩
end
end K72
namespace K72
open PySem L2
structure d5 where
 t:ji
 op:List Int
def xg (x:d5):PyData:=.tuple [.str (S x.t.bg),.str (S x.t.en),d9 x.t.most,d9 x.t.gain,d9 x.t.price,.int 0,.tuple (x.op.map .int)]
def gG (l0 l1:List Nat) (ts:List d5) (m:KM.Fra):PyData:=.tuple [.tuple [.str (S l0),.str (S l1)],.int 2,.tuple (ts.map xg),.tuple [.tuple [.str (S l0),d9 m,d9 (1,2)]],.tuple [],.tuple []]
theorem qG {H:Hp}{v:V}{x:d5} (h:aB ED H v (xg x)):xM fun a o1 o2 o3 p=>v=.ref a∧H a=some (.tup [aH x.t.bg,aH x.t.en,o1,o2,o3,.int 0,.ref p])∧aB ED H o1 (d9 x.t.most)∧aB ED H o2 (d9 x.t.gain)∧aB ED H o3 (d9 x.t.price)∧H p=some (.tup (x.op.map V.int)):=by
 have sall:∀{bs:List Int}{xs:List V},aw ED H xs (bs.map PyData.int)→xs=bs.map V.int:=by
  intro bs
  induction bs with
  | nil=>intro xs h;cases h;rfl
  | cons b bs ih=>
   intro xs h
   cases h with
   | cons h1 h2=>cases h1;rw [ih h2];rfl
 cases h with
 | tup ha hs=>
  cases hs with
  | cons h1 r=>cases r with
   | cons h2 r=>cases r with
    | cons h3 r=>cases r with
     | cons h4 r=>cases r with
      | cons h5 r=>cases r with
       | cons h6 r=>cases r with
        | cons h7 r=>
         cases r
         cases h1
         cases h2
         cases h6
         cases h7 with
         | tup hp hx=>exact ⟨_,_,_,_,_,rfl,ha,h3,h4,h5,(sall hx▸hp)⟩
theorem dS {H:Hp}{v:V}{l0 l1:List Nat}{ts:List d5}{m:KM.Fra} (h:aB ED H v (gG l0 l1 ts m)):Fv fun a p q st w wi ys=>v=.ref a∧H a=some (.tup [.ref p,.int 2,.ref q,.ref st,.ref w,.ref wi])∧H p=some (.tup [aH l0,aH l1])∧H q=some (.tup ys)∧aw ED H ys (ts.map xg)∧aB ED H (.ref st) (.tuple [.tuple [.str (S l0),d9 m,d9 (1,2)]])∧H w=some (.tup [])∧H wi=some (.tup []):=by
 cases h with
 | tup ha hs=>
  cases hs with
  | cons h1 r=>cases r with
   | cons h2 r=>cases r with
    | cons h3 r=>cases r with
     | cons h4 r=>cases r with
      | cons h5 r=>cases r with
       | cons h6 r=>
        cases r
        cases h2
        cases h1 with
        | tup hp hx=>cases h3 with
         | tup hq hy=>cases h5 with
          | tup hw e5=>cases h6 with
           | tup hwi e6=>
            cases e5
            cases e6
            cases hx with
            | cons x1 r=>cases r with
             | cons x2 r=>
              cases r
              cases x1
              cases x2
              cases id h4 with
              | tup _ _=>exact ⟨_,_,_,_,_,_,_,rfl,ha,hp,hq,hy,h4,hw,hwi⟩
section
variable {P:Program}{w:World}{K:PySem.W.Frag}{mg:Str→Option Value}{base:Heap}
inductive EO (C:Addr) (vs:List V) (H:Hp) (Q:VK):Prop
 | mk (r L:Addr) (d:V) (l0 l1:List Nat) (ts:List d5) (m:KM.Fra) (past:List gT) (cur:gT) (j:Nat) (x:d5) (b:Bool) (h0:vs=[.ref r,.int (j:Int)]) (h1:bO C H r L d ts.length (past++[cur])) (h2:aB ED H d (gG l0 l1 ts m)) (h3:ts[j]?=some x) (h4:cur.sh[j]?=some b) (h5:Q (.bl (decide ((cur.h:Int)∈x.op) && !b)) H)
def Gq (C:Addr):Sp:=fun vs H Q _=>EO C vs H Q
theorem As (T:Txt K mg):aD P w K mg base (hV P w) 2 T.f_DayRun__is_open T.d_DayRun__is_open ["self", "number"] (Gq T.x_DayRun):=by
 have G_check_tie:=#[(iD)]
 have G_DayRun__now:=#[(zr)]
 refine T.F_DayRun__is_open.okX tG (fun vs H Q E h=>?_) (fun cdv A outer s H vs Q E hr h=>?_)
 ·obtain ⟨r,L,d,l0,l1,ts,m,past,cur,j,x,b,rfl,_⟩:=h
  rfl
 ·obtain ⟨r,L,d,l0,l1,ts,m,past,cur,j,x,b,rfl,R,hd,hx,hb,k⟩:=h
  refine ⟨_,#[#[aO 4 #[iS 16 G_check_tie (hr.mono (by decide)) mn T.check_tie_.m T.check_tie_.F.kp T.check_tie_.B .nil #[ii 15] #[[#[#[br 5 #[0,dH] rfl][#[()]]],#[1,fi]]] (by decide) (by rfl) (by rfl)] (by rfl)] :: #[aa 3 #[PS.nox 3 #[ay 4 #[kJ 7 #[c8 8 (@sI _ (K) (by rfl)) #[bZ 17 #[0,dH] T.c_DayRun T.h_DayRun__now G_DayRun__now (hr.mono (by decide)) T.B_DayRun__now .nil (@cT _) (by rfl)] #[#[#[#[br 5 #[0,dH] rfl][#[()]]][#[1,fi]]][#[()]]] rfl] #[lT 5 #[AO 4 #[#[#[#[br 5 #[0,dH] rfl][#[cG 6 (@b4 _) #[()]]]!][#[()]]][#[1,fi]]]]]]]]]],?_⟩
  obtain ⟨dx,ys,v,hr',hL,hys,hv⟩:=R.last
  obtain ⟨a,p,q,ps,rfl,ha,hp,hq,hps⟩:=tW hv
  obtain ⟨da,dp,dq,st,wl,wi,zs,rfl,hda,hdp,hdq,hzs,_,_,_⟩:=dS hd
  have lz:=hzs.length
  rw [List.length_map] at lz
  have hj:=(List.getElem?_eq_some_iff.mp hx).1
  obtain ⟨tv,etv⟩:∃tv,zs[j]?=some tv:=⟨_,List.getElem?_eq_getElem (by trivial)⟩
  obtain ⟨td,etd,htv⟩:=hzs.get etv
  rw [List.getElem?_map,hx] at etd
  cases etd
  obtain ⟨ta,o1,o2,o3,po,rfl,hta,_,_,_,hpo⟩:=qG htv
  refine aP fun D0 n0=>⟨(),r,T.x_DayRun,dx,_,(),hr',T.c_DayRun,T.n_DayRun_day,rfl,da,_,_,(),rfl,ae.of hda,rfl,(),dq,zs,(),hdq,fun h2=>n0 _ _ ?_,fun h2=>absurd ⟨by trivial,by trivial⟩ h2⟩
  have g1:(cur.sh.map V.bl)[j]?=some (V.bl b):=by rw [List.getElem?_map,hb];rfl
  refine zK fun Q1 n1=>⟨(),r,dx,(),hr',rfl,r,L,_,_,past,cur,rfl,R,(),r,T.x_DayRun,dx,_,(),hr',T.c_DayRun,T.n_DayRun_day,rfl,da,_,_,(),rfl,ae.of hda,rfl,(),dq,_,_,(),rfl,ae.of hdq,c0 etv,ta,_,_,(),rfl,ae.of hta,rfl,po,(),.inr (ae.of hpo),rfl,mX _,(),?_⟩
  simp only [if_true,xh]
  by_cases hm:(cur.h:Int)∈x.op
  ·rw [decide_eq_true hm] at k ⊢
   refine cx ⟨(),r,T.x_DayRun,dx,_,(),hr',T.c_DayRun,T.n_DayRun_states,rfl,(),L,_,_,(),rfl,aA.of hL,bS _ _,a,_,_,(),rfl,ae.of ha,rfl,(),p,_,_,(),rfl,ae.of hp,c0 g1,(),n1 _ _ k⟩
  ·rw [decide_eq_false hm] at k ⊢
   exact aT (n1 _ _ k)
end
end K72
namespace K72
open PySem L2
set_option maxHeartbeats 8000000
abbrev EN:Addr→Prop:=fun _=>False
abbrev EF (H:Hp):Addr→Prop:=fun a=>H a≠none
theorem mZ {D:Addr}{H1:Hp}{σc:St}{g:TG}{te:TE}{Q:VK}{J:It}{n:Nat} (F:Nat→PyData) (hz:n≤10000) (hD:H1 D=none) (hgo:∀i H',i<n→ad H1 H'→J.go i H') (hst:∀H',ad H1 H'→J.stop n H')
 (hs:∀i x H' H'' (R:VK),i<n→ad H1 H'→J.yld i H' x H''→(∀v H4,ad H' H4→aB (EF H') H4 v (F i)→R v H4)→g x σc H'' fun σ2 H2=>jk σc σ2∧te σ2 H2 R)
 (hd:∀zs H',ad H1 H'→H' D=some (.lst zs)→aw (fun a=>a=D∨H1 a≠none) H' zs ((List.range n).map F)→Q (.ref D) H'):jE J σc g tT te D H1 Q:=by
 refine io (n:=n) (fun i H' zs=>H' D=some (.lst zs)∧ad H1 H'∧aw (fun a=>a=D∨H1 a≠none) H' zs ((List.range i).map F)) (gb hz) ⟨av,cX hD (ad.refl _),.nil⟩ ?_ ?_ ?_ ?_ ?_
 ·rintro i H' zs ⟨q,_,ia⟩
  exact ⟨q,by rw [ia.length];simp⟩
 ·rintro i H' zs hi ⟨_,sm,_⟩
  exact hgo i H' hi sm
 ·rintro H' zs ⟨_,sm,_⟩
  exact hst H' sm
 ·rintro i H' zs x H'' hi ⟨q,sm,ia⟩ y
  refine hs i x H' H'' _ hi sm y fun v H4 s4 dv=>?_
  have q4:=s4 _ _ q
  have se:ai (fun a=>a=D∨H1 a≠none) H4 (aJ H4 D (.lst (zs++[v]))):=⟨fun a o n e=>by rw [ax fun z=>n (.inl z)];exact e,fun a us e=>by
   rw [ax (jG e q4 (by intro z;cases z))];exact e⟩
  refine ⟨q4,av,cX hD (sm.trans s4),?_⟩
  rw [List.range_succ,List.map_append]
  refine ((ia.mono s4.toE).mono se).append (.cons ((dv.narrow fun a e=>?_).mono se) .nil)
  rcases e with e | e
  ·show H' a≠none
   rw [e,q]
   exact fun z=>nomatch z
  ·show H' a≠none
   cases h:H1 a with
   | none=>exact absurd h e
   | some o=>rw [sm _ _ h];exact fun z=>nomatch z
 ·rintro H' zs ⟨q,sm,ia⟩
  exact hd zs H' sm q ia
theorem qi {α β:Type} (x:β) (l:List α):l.map (fun _=>x)=List.replicate l.length x:=by
 induction l with
 | nil=>rfl
 | cons a l ih=>rw [List.map_cons,ih];rfl
def nI:PyData:=.list [zD,zD]
def rB (n:Nat):PyData:=.tuple [.list (List.replicate n nI),.list [nI],.list []]
theorem Dz {E:Addr→Prop}{H:Hp}{v:V} (h:aB E H v zD):∃a,v=.ref a∧H a=some (.tup [.int 0,.int 1]):=by
 cases h with
 | @tup a xs _ ha r=>
 cases r with
 | cons h1 r=>
 cases r with
 | cons h2 r=>
 cases r
 cases h1
 cases h2
 exact ⟨a,rfl,ha⟩
theorem tU {E:Addr→Prop}{H:Hp}{a:Addr} (h:H a=some (.tup [.int 0,.int 1])):aB E H (.ref a) zD:=.tup h (.cons (.int _) (.cons (.int _) .nil))
theorem GD {H:Hp}{v:V}{n:Nat} (h:aB ED H v (yB n)):vI fun a s k z us kz=>v=.ref a∧H a=some (.tup [.ref s,.ref k,.ref z])∧H s=some (.tup us)∧aw ED H us (List.replicate n zD)∧H k=some (.tup [kz])∧aB ED H kz zD∧H z=some (.tup []):=by
 cases h with
 | @tup a xs _ ha r=>
 cases r with
 | cons h1 r=>
 cases r with
 | cons h2 r=>
 cases r with
 | cons h3 r=>
 cases r
 cases h1 with
 | tup hs rs=>
 cases h2 with
 | tup hk rk=>
 cases h3 with
 | tup hz rz=>
 cases rz
 cases rk with
 | cons k1 rk=>
 cases rk
 exact ⟨a,_,_,_,_,(),ha,hs,rs,hk,k1,hz⟩
theorem Ec {H:Hp}{xs:List V}{n i:Nat} (h:aw ED H xs (List.replicate n zD)) (hi:i<n):∃v,xs[i]?=some v∧aB ED H v zD:=by
 have l:=h.length
 rw [List.length_replicate] at l
 exact ⟨xs[i],List.getElem?_eq_getElem (by trivial),h.nth i (List.getElem?_eq_getElem (by trivial)) (by rw [List.getElem?_replicate,if_pos hi])⟩
section
variable {P:Program}{w:World}{K:PySem.W.Frag}{mg:Str→Option Value}{base:Heap}
inductive Cu (C:Addr) (vs:List V) (H:Hp) (Q:VK):Prop
 | mk (r dx:Addr) (d:V) (l0 l1:List Nat) (ts:List d5) (m:KM.Fra) (h0:vs=[.ref r,d]) (h1:H r=some (.ins C dx [])) (h2:aB ED H d (gG l0 l1 ts m)) (h3:ts.length≤100) (h4:∀L H',H L=none→(∀a o,a≠r→H a=some o→H' a=some o)→bO C H' r L d ts.length [⟨List.replicate ts.length false,0⟩]→Q .non H')
def Er (C:Addr):Sp:=fun vs H Q _=>Cu C vs H Q
theorem CF (T:Txt K mg):aD P w K mg base CX0 1 T.f_DayRun____init__ T.d_DayRun____init__ ["self", "day"] (Er T.x_DayRun):=by
 refine T.F_DayRun____init__.ok sf (fun vs H Q E h=>?_) (fun cdv A outer s H vs Q E hr h=>?_)
 ·obtain ⟨r,dx,d,l0,l1,ts,m,rfl,_⟩:=h
  rfl
 ·obtain ⟨r,dx,d,l0,l1,ts,m,rfl,hr',hd,lt,k⟩:=h
  refine ⟨_,#[#[uh 8 #[0,iW] #[1,jy] (by rfl)] :: #[aa 3 #[uh 8 #[0,iW] #[ca 4 #[[#[ak 5 #[[#[bW 9 (@bT _ (K) (by rfl)) nP T.b_tuple (@bR) #[[#[cI 7 (["tie"]) (1) ([]) _ _ _ _ rfl (by kernel_rfl) (@iw _ (K) _ _ _ #[#[1,jy][#[()]]] (by rfl)) (fun _ _ _ _ _ _=>#[0,(),()]) (fun _ _ _ _ _ _=>@cf _) (fun _ _ _ _ _ _=>@bP _ _ _ _) (by intro _;rfl)]]] (by decide) (by decide) (by rfl) (by rfl)],#[ak 5 (@aY _)]]]]]]] (by rfl)]]],?_⟩
  obtain ⟨da,dp,dq,st,wl,wi,zs,rfl,hda,hdp,hdq,hzs,_,_,_⟩:=dS hd
  have lz:=hzs.length
  rw [List.length_map] at lz
  refine aP fun D0 n0=>⟨(),(),r,T.x_DayRun,dx,[],rfl,hr',T.c_DayRun,T.n_DayRun_day,by decide,fun H1 c1=>n0 _ _ ?_⟩
  have tp:∀{a xs},H a=some (.tup xs)→H1 a=some (.tup xs):=fun h=>c1.ol _ _ (jG h hr' (by intro z;cases z)) h
  refine ⟨(),da,_,_,(),rfl,ae.of (tp hda),rfl,dq,rfl,⟨_,ae.of (tp hdq)⟩,fun D hD=>Bp (xs:=zs) (fun _=>.bl false) (by trivial) hD (tp hdq) (fun i x H' R _ _ kk=>⟨il,kk _ (ad.refl _)⟩) fun H2 s2 hD2=>?_⟩
  refine ⟨D,(),aA.of hD2,fun p3 H3 m3=>⟨(by show 0≤10000;decide),fun p4 H4 m4=>⟨(by show 2≤10000;decide),fun p5 H5 m5=>⟨(by show 1≤10000;decide),fun L H6 m6=>?_⟩⟩⟩⟩
  have s15:ad H1 H5:=((s2.trans m3.sm).trans m4.sm).trans m5.sm
  have s16:=s15.trans m6.sm
  have nrL:L≠r:=fun z=>by
   have h:=s15 _ _ c1.at'
   rw [←z,m6.fr] at h
   cases h
  have fL:H L=none:=by
   cases h:H L with
   | none=>rfl
   | some o=>
    have:=s15 _ _ (c1.ol _ _ nrL h)
    rw [m6.fr] at this
    cases this
  refine ⟨(),r,T.x_DayRun,dx,(),s16 _ _ c1.at',T.c_DayRun,T.n_DayRun_states,(by show 1<1000;decide),fun H7 c7=>?_⟩
  have kp:∀a o,a≠r→H a=some o→H7 a=some o:=fun a o n h=>c7.ol a o n (s16 _ _ (c1.ol a o n h))
  have tq:∀{a xs},H6 a=some (.tup xs)→H7 a=some (.tup xs):=fun h=>c7.ol _ _ (jG h (s16 _ _ c1.at') (by intro z;cases z)) h
  refine k L H7 fL kp ⟨dx,_,c7.at',c7.ol _ _ nrL m6.at',.cons (Aa (s:=⟨List.replicate ts.length false,0⟩) (tq (m6.sm _ _ m5.at')) ?_ (tq (m6.sm _ _ (m5.sm _ _ m4.at'))) .nil) .nil⟩
  refine tq ?_
  rw [m6.sm _ _ (m5.sm _ _ (m4.sm _ _ m3.at'))]
  show some (HO.tup ((List.range zs.length).map fun _=>V.bl false))=some (HO.tup ((List.replicate ts.length false).map V.bl))
  rw [qi,List.length_range,List.map_replicate,lz]
inductive Gc (vs:List V) (H:Hp) (Q:VK):Prop
 | mk (d:V) (l0 l1:List Nat) (ts:List d5) (m:KM.Fra) (q:Addr) (ps:List V) (h:Nat) (c:Bool) (num:Nat) (h0:vs=[d,.ref q,.int (if c then 0 else 1),.int (num:Int)]) (h1:aB ED H d (gG l0 l1 ts m)) (h2:H q=some (.tup ps)) (h3:aw ED H ps (List.replicate h (yB ts.length))) (h4:h≤100) (h5:num<(if c then ts.length else 1)) (h6:∀v H',ad H H'→aB (EF H) H' v nI→Q v H')
def Hy:Sp:=fun vs H Q _=>Gc  vs H Q
theorem yT (T:Txt K mg):aD P w K mg base CX0 1 T.by_hours_.f T.by_hours_.d ["day", "passed", "part", "number"] Hy:=by
 refine T.by_hours_.F.ok yL (fun vs H Q E h=>?_) (fun cdv A outer s H vs Q E hr h=>?_)
 ·obtain ⟨d,l0,l1,ts,m,q,ps,h,c,num,rfl,_⟩:=h
  rfl
 ·obtain ⟨d,l0,l1,ts,m,q,ps,h,c,num,rfl,hd,hq,hps,lh,hn,k⟩:=h
  refine ⟨_,#[aa 3 #[ay 4 #[cI 7 (["hour", "number", "part", "passed"]) (1) ([3,2,1]) _ _ _ _ rfl (by kernel_rfl) #[cb 6 vb T.b_range #[[#[#[0,wE][#[()]]]]] (by rfl)] (fun _ _ _ _ _ _=>#[0,(),()]) (fun _ _ _ _ _ _=>@cf _) (fun _ _ _ _ _ _=>#[fY 8 #[aq 8 (@iM _) #[0,()] #[(),(),(@cm _ (K) (by rfl)),(by show _=_;kernel_rfl),T.b_len,(@aL),#[[#[3,0]]]] #[(),()]] #[#[#[#[3,0][#[0,()]]][#[2,0]]][#[1,0]]] #[ak 5 #[[#[()],#[()]]]]]) (by intro _;rfl)]]],?_⟩
  obtain ⟨da,dp,dq,st,wl,wi,zs,rfl,hda,hdp,hdq,hzs,_,_,_⟩:=dS hd
  have lp:=hps.length
  rw [List.length_replicate] at lp
  refine zK fun Qr nr=>⟨(),da,_,_,(),rfl,ae.of hda,rfl,(),by decide,by decide,fun D hD=>vY (n:=2) (fun _=>zD) (by decide) hD (fun i H' hi _=>by show i<_;exact hi) (fun H' _=>by show _≤_;decide) ?_ ?_⟩
  ·rintro i x H3 H4 Rk hi s3 ⟨rfl,rfl⟩ kk
   refine ⟨il,?_⟩
   have e0:(0:Int)+(i:Int)=i:=by trivial
   rw [e0]
   refine ⟨(),(),q,ps,rfl,.inr (ae.of (s3 _ _ hq)),_,(),rfl,(),cF (fun cc=>?_) fun cc=>⟨(by show 2≤10000;decide),fun p5 H5 m5=>kk _ _ m5.sm (tU m5.at')⟩⟩
   have hi2:i<ps.length:=by have:=of_decide_eq_true cc;trivial
   have e1:ps[i]?=some ps[i]:=List.getElem?_eq_getElem hi2
   obtain ⟨pa,us,pk,pz,uu,kz,epa,hpa,hus,huu,hpk,hkz,_⟩:=GD (hps.nth i e1 (by rw [List.getElem?_replicate,if_pos (by trivial)]))
   rw [epa] at e1
   cases c with
   | true=>
    obtain ⟨v,ev,dv⟩:=Ec huu (i:=num) (by simpa using hn)
    exact ⟨(),(),q,ps,_,(),rfl,ae.of (s3 _ _ hq),c0 e1,(),pa,_,_,(),rfl,ae.of (s3 _ _ hpa),rfl,(),us,uu,_,(),rfl,ae.of (s3 _ _ hus),c0 ev,kk _ _ (ad.refl _) (dv.mono s3.toE)⟩
   | false=>
    have hn:num<1:=by simpa using hn
    cases (show num=0 by trivial)
    exact ⟨(),(),q,ps,_,(),rfl,ae.of (s3 _ _ hq),c0 e1,(),pa,_,_,(),rfl,ae.of (s3 _ _ hpa),rfl,(),pk,_,_,(),rfl,ae.of (s3 _ _ hpk),rfl,kk _ _ (ad.refl _) (hkz.mono s3.toE)⟩
  ·intro zs' H2 s2 hD2 ia
   refine nr _ _ (k _ _ s2 (.lst hD2 (fun z=>z hD) ?_))
   have ia2:aw ED H2 zs' [zD,zD]:=ia
   exact ia2.narrow fun _ _=>trivial
inductive Ca (vs:List V) (H:Hp) (Q:VK):Prop
 | mk (d:V) (l0 l1:List Nat) (ts:List d5) (m:KM.Fra) (q:Addr) (ps:List V) (h:Nat) (h0:vs=[d,.ref q]) (h1:aB ED H d (gG l0 l1 ts m)) (h2:H q=some (.tup ps)) (h3:aw ED H ps (List.replicate h (yB ts.length))) (h4:h≤100) (h5:ts.length≤100) (h6:∀v H',ad H H'→aB EN H' v (rB ts.length)→Q v H')
def DK:Sp:=fun vs H Q _=>Ca  vs H Q
theorem vV (T:Txt K mg):aD P w K mg base CX0 2 T.book_of_.f T.book_of_.d ["day", "passed"] DK:=by
 have G_by_hours:=#[(yT)]
 refine T.book_of_.F.ok mU (fun vs H Q E h=>?_) (fun cdv A outer s H vs Q E hr h=>?_)
 ·obtain ⟨d,l0,l1,ts,m,q,ps,h,rfl,_⟩:=h
  rfl
 ·obtain ⟨d,l0,l1,ts,m,q,ps,h,rfl,hd,hq,hps,lh,lt,k⟩:=h
  refine ⟨_,#[#[dI 7 (["number", "day", "passed"]) (1) ([0,1]) _ _ _ _ (2) _ _ _ mU.nd rfl qy (by kernel_rfl) rfl (by kernel_rfl) #[cb 6 oN T.b_range #[[#[(),(),(@cm _ (K) (by rfl)),rM,T.b_len,(@aL),#[[#[#[0,(mD)][#[()]]]]]]]] (by rfl)] (fun _ _ _ _ _ _=>#[0,(),()]) (fun _ _ _ _ _ _=>@cf _) (fun _ _ _ _ _ _=>#[G_by_hours,(),T.by_hours_,#[[#[1,0],#[2,0],#[()],#[0,()]]]]) (by intro _;rfl)] :: #[#[dI 7 (["number", "day", "passed"]) (1) ([0,1]) _ _ _ _ (3) _ _ _ mU.nd rfl pY (by kernel_rfl) rfl (by kernel_rfl) #[cb 6 oN T.b_range #[[#[(),(),(@cm _ (K) (by rfl)),rM,T.b_len,(@aL),#[[#[#[0,(mD)][#[()]]]]]]]] (by rfl)] (fun _ _ _ _ _ _=>#[0,(),()]) (fun _ _ _ _ _ _=>@cf _) (fun _ _ _ _ _ _=>#[G_by_hours,(),T.by_hours_,#[[#[1,0],#[2,0],#[()],#[0,()]]]]) (by intro _;rfl)] :: #[#[dI 7 (["number", "well", "passed"]) (2) ([1]) _ _ _ _ (4) _ _ _ mU.nd rfl oM (by kernel_rfl) rfl (by kernel_rfl) (@qY _ (K) _ _ _ _ _ _ _ si T.b_enumerate #[[#[#[0,(mD)][#[()]]]]] (by rfl) (by rfl)) (fun _ _ _ _ _ _=>(@aX _ (K) _ _ _ _ (2) rfl #[af 5 #[0,(),()] #[af 5 #[1,(),()] (@bf _) (by rfl)] (by rfl)] (by rfl) (by rfl) (by rfl))) (fun _ _ _ _ _ _=>@cf _) (fun _ _ _ _ _ _=>#[fY 8 #[aq 8 (@iM _) #[#[1,()][#[()]]] #[(),(),(@cm _ (K) (by rfl)),(by show _=_;kernel_rfl),T.b_len,(@aL),#[[#[2,0]]]] #[(),()]] #[#[#[#[2,0][#[#[1,()][#[()]]]]][#[()]]][#[0,()]]] #[ak 5 #[[#[()],#[()]]]]]) (by intro _;rfl)] :: #[aa 3 #[ay 4 #[ak 5 #[[#[2,qy],#[3,pY],#[4,oM]]]]]]]]],?_⟩
  obtain ⟨da,dp,dq,st,wl,wi,zs,rfl,hda,hdp,hdq,hzs,hst,hwl,hwi⟩:=dS hd
  have lz:=hzs.length
  rw [List.length_map] at lz
  refine cJ fun Q1 n1=>⟨(),da,_,_,(),rfl,ae.of hda,rfl,dq,zs,rfl,.inr (ae.of hdq),(),by trivial,by trivial,fun D hD=>mZ (n:=ts.length) (fun _=>nI) (by trivial) hD (fun i H' hi _=>by show i<_;trivial) (fun H' _=>by show _≤_;trivial) ?_ ?_⟩
  ·rintro i x H3 H4 Rk hi s3 ⟨rfl,rfl⟩ kk
   refine ⟨il,?_⟩
   have e0:(0:Int)+(i:Int)=i:=by trivial
   rw [e0]
   exact ⟨(),(),(),_,l0,l1,ts,m,q,ps,h,true,i,rfl,hd.mono s3.toE,s3 _ _ hq,hps.mono s3.toE,lh,by simpa using hi,fun v H5 s5 dv=>kk _ _ s5 dv⟩
  intro us H1 s1 hD1 iu
  rw [qi,List.length_range] at iu
  refine n1 _ _ ?_
  obtain ⟨sa,ss,esa,hsa,iss⟩:=ES hst
  cases esa
  have lss:ss.length=1:=iss.length
  refine cJ fun Q2 n2=>⟨(),da,_,_,(),rfl,ae.of (s1 _ _ hda),rfl,st,ss,rfl,.inr (ae.of (s1 _ _ hsa)),(),by rw [lss];decide,by rw [lss];decide,fun D2 hD2=>mZ (n:=1) (fun _=>nI) (by decide) hD2 (fun i H' hi _=>by show i<_;rw [lss];exact hi) (fun H' _=>by show _≤_;rw [lss];decide) ?_ ?_⟩
  ·rintro i x H3 H4 Rk hi s3 ⟨rfl,rfl⟩ kk
   refine ⟨il,?_⟩
   have e0:(0:Int)+(i:Int)=i:=by trivial
   rw [e0]
   have sb:=s1.trans s3
   exact ⟨(),(),(),_,l0,l1,ts,m,q,ps,h,false,i,rfl,hd.mono sb.toE,sb _ _ hq,hps.mono sb.toE,lh,by simpa using hi,fun v H5 s5 dv=>kk _ _ s5 dv⟩
  intro ks H2 s2 hD2' ik
  refine n2 _ _ ?_
  have s02:=s1.trans s2
  refine cJ fun Q3 n3=>⟨(),da,_,_,(),rfl,ae.of (s02 _ _ hda),rfl,wl,false,rfl,⟨[],ae.of (s02 _ _ hwl)⟩,fun D3 hD3=>mZ (n:=0) (fun _=>nI) (by decide) hD3 (fun i H' hi _=>absurd hi (by trivial)) (fun H' sm=>⟨[],ae.of (sm _ _ (s02 _ _ hwl)),rfl⟩) (fun i x H3 H4 Rk hi=>absurd hi (by trivial)) fun ds H3 s3 hD3' id=>n3 _ _ ?_⟩
  cases id
  refine ⟨(),(),(),(by show 3≤10000;decide),fun p4 H4 m4=>k _ _ ((s02.trans s3).trans m4.sm) ?_⟩
  have s24:=s3.trans m4.sm
  have s14:=s2.trans s24
  refine .tup m4.at' (.cons (.lst (s14 _ _ hD1) (fun z=>z) ?_) (.cons (.lst (s24 _ _ hD2') (fun z=>z) ?_) (.cons (.lst (m4.sm _ _ hD3') (fun z=>z) .nil) .nil)))
  ·exact (iu.narrow fun _ z=>z.elim).mono s14.toE
  ·exact (ik.narrow fun _ z=>z.elim).mono s24.toE
inductive CW (C:Addr) (vs:List V) (H:Hp) (Q:VK):Prop
 | mk (r L:Addr) (d:V) (l0 l1:List Nat) (ts:List d5) (m:KM.Fra) (past:List gT) (cur:gT) (h0:vs=[.ref r]) (h1:bO C H r L d ts.length (past++[cur])) (h2:aB ED H d (gG l0 l1 ts m)) (h3:cur.h≤100) (h4:ts.length≤100) (h5:∀v H',ad H H'→aB EN H' v (rB ts.length)→Q v H')
def Et (C:Addr):Sp:=fun vs H Q _=>CW C vs H Q
theorem Cw (T:Txt K mg):aD P w K mg base CX0 3 T.f_DayRun__book T.d_DayRun__book ["self"] (Et T.x_DayRun):=by
 have G_book_of:=#[(vV)]
 refine T.F_DayRun__book.ok vz (fun vs H Q E h=>?_) (fun cdv A outer s H vs Q E hr h=>?_)
 ·obtain ⟨r,L,d,l0,l1,ts,m,past,cur,rfl,_⟩:=h
  rfl
 ·obtain ⟨r,L,d,l0,l1,ts,m,past,cur,rfl,R,hd,lh,lt,k⟩:=h
  refine ⟨_,#[aa 3 #[ay 4 #[G_book_of,pF,T.book_of_,#[[#[br 5 #[0,kT] rfl],#[#[#[br 5 #[0,kT] rfl][#[cG 6 (@b4 _) #[()]]]!][#[()]]]]]]]],?_⟩
  obtain ⟨dx,ys,v,hr',hL,hys,hv⟩:=R.last
  obtain ⟨a,p,q,ps,rfl,ha,hp,hq,hps⟩:=tW hv
  exact ⟨(),r,T.x_DayRun,dx,_,(),hr',T.c_DayRun,T.n_DayRun_day,rfl,(),r,T.x_DayRun,dx,_,(),hr',T.c_DayRun,T.n_DayRun_states,rfl,(),L,_,_,(),rfl,aA.of hL,bS _ _,a,_,_,(),rfl,ae.of ha,rfl,d,l0,l1,ts,m,q,ps,cur.h,rfl,hd,hq,hps,lh,lt,k⟩
end
end K72
namespace K72
open PySem L2
set_option maxHeartbeats 8000000
def kW (s:aC):PyData:=.tuple [.tuple (s.pl.map fun l=>.str (S l)),.tuple (s.ts.map f6),.tuple (s.sh.map .int),uC s.en]
structure Gs (s:aC):Prop where
 np:∀l∈s.pl,Nm l
 nt:∀t∈s.ts,Nm t.bg∧Nm t.en
 ne:∀p,s.en=some p→Nm p.1∧Nm p.2
theorem uZ {E:Addr→Prop}{H:Hp}:∀{ls:List Int}{xs:List V},aw E H xs (ls.map .int)→xs=ls.map V.int
 | [],_,h=>by cases h;rfl
 | l :: ls,_,h=>by
  cases h with
  | cons h r=>cases h;rw [uZ r];rfl
theorem rl {E:Addr→Prop}{H:Hp}:∀(ls:List Int),aw E H (ls.map V.int) (ls.map .int)
 | []=>.nil
 | l :: ls=>.cons (.int _) (rl ls)
theorem tX {H:Hp}{v:V}{s:aC} (h:aB ED H v (kW s)):vI fun a p t q e ys=>v=.ref a∧H a=some (.tup [.ref p,.ref t,.ref q,e])∧H p=some (.tup (s.pl.map aH))∧H t=some (.tup ys)∧aw ED H ys (s.ts.map f6)∧H q=some (.tup (s.sh.map V.int))∧aB ED H e (uC s.en):=by
 unfold kW at h
 cases h with
 | @tup a xs _ ha r=>
 cases r with
 | cons h1 r=>
 cases r with
 | cons h2 r=>
 cases r with
 | cons h3 r=>
 cases r with
 | cons h4 r=>
 cases r
 cases h1 with
 | @tup p _ _ hp rp=>
 cases h2 with
 | @tup t ys _ ht rt=>
 cases h3 with
 | @tup q _ _ hq rq=>
 rw [u4 rp] at hp
 rw [uZ rq] at hq
 exact ⟨a,p,t,q,_,ys,rfl,ha,hp,ht,rt,hq,h4⟩
theorem Aq {H:Hp}{a p t q:Addr}{e:V}{ys:List V}{s:aC} (ha:H a=some (.tup [.ref p,.ref t,.ref q,e])) (hp:H p=some (.tup (s.pl.map aH))) (ht:H t=some (.tup ys)) (hy:aw ED H ys (s.ts.map f6)) (hq:H q=some (.tup (s.sh.map V.int))) (he:aB ED H e (uC s.en)):aB ED H (.ref a) (kW s):=
 .tup ha (.cons (.tup hp (nU _)) (.cons (.tup ht hy) (.cons (.tup hq (rl _)) (.cons he .nil))))
section
variable {P:Program}{w:World}{K:PySem.W.Frag}{mg:Str→Option Value}{base:Heap}
inductive Ed (vs:List V) (H:Hp) (Q:VK):Prop
 | mk (v:V) (s:aC) (h0:vs=[v]) (h1:aB ED H v (kW s)) (h2:s.ts.length≤1000) (h3:∀v' H',ad H H'→aB ED H' v' (yE s)→Q v' H')
def F7:Sp:=fun vs H Q _=>Ed  vs H Q
theorem Fa (T:Txt K mg):aD P w K mg base CX0 1 T.l_net_.f T.l_net_.d ["_law_state"] F7:=by
 refine T.l_net_.F.ok rD (fun vs H Q E h=>?_) (fun cdv A outer s H vs Q E hr h=>?_)
 ·obtain ⟨v,s,rfl,_⟩:=h
  rfl
 ·obtain ⟨v,s,rfl,hv,hl,k⟩:=h
  refine ⟨_,#[#[1,rD.nd,lH,#[ca 4 (@aY _)]] :: #[#[fe 8 PassesOwn.never rfl (@qY _ (K) _ _ _ _ _ _ _ uy T.b_enumerate #[[#[#[0,ki][#[()]]]]] (by rfl) (by rfl)) (@aX _ (K) _ _ _ _ (2) rfl #[af 5 #[2,rD.nd,oq] #[af 5 #[3,rD.nd,jI] (@bf _) (by rfl)] (by rfl)] (by rfl) (by rfl) (by rfl)) #[aa 3 #[aO 4 (@cA _ (K) _ _ _ _ _ _ _ _ _ _ _ PySem.F.plainAttrs_list PySem.F.slot_list_append PySem.F.type_list_append (@bQ _) #[1,lH] #[[#[fY 8 #[aq 8 (@sI _ (K) (by rfl)) #[2,oq] #[#[0,ki][#[()]]] rfl] #[am 8 (@cp _) #[am 8 (@cp _) #[d7 10 (@iN _ (K) (by rfl)) #[3,jI] (@gn _) #[dW 3 #[()]]] #[ak 5 #[[#[ak 5 #[[#[()],#[()]]]]]]]] #[d7 10 (@iN _ (K) (by rfl)) #[3,jI] #[dW 3 #[()]] (@gn _)]] #[3,jI]]]] (by rfl) (by rfl) (by rfl) (by rfl) (by rfl) (by rfl)) (by rfl)]] (by intro _;rfl)] :: #[aa 3 #[ay 4 #[ak 5 #[[#[#[0,ki][#[()]]],#[bW 9 (@bT _ (K) (by rfl)) xA T.b_tuple (@bR) #[[#[1,lH]]] (by decide) (by decide) (by rfl) (by rfl)]]]]]]]],?_⟩
  obtain ⟨a,p,t,q,e,ys,rfl,ha,hp,ht,hy,hq,he⟩:=tX hv
  have ly:=hy.length
  rw [List.length_map] at ly
  refine aP fun D0 n0=>⟨(by show 0≤10000;decide),fun L H1 m1=>n0 _ _ ?_⟩
  refine aP fun D2 n2=>⟨(),a,_,_,(),rfl,ae.of (m1.sm _ _ ha),rfl,t,false,rfl,⟨ys,ae.of (m1.sm _ _ ht)⟩,wU (xs:=ys) (fun i σ H'=>kZ fun (v2 v3:Option V) (zs:List V)=>σ=[some (.ref a),some (.ref L),v2,v3]∧H' L=some (.lst zs)∧zs.length=i∧aw ED H' zs ((List.range i).map (vN s))∧ad H H') ⟨_,_,[],rfl,m1.at',rfl,.nil,m1.sm⟩ ?_ ?_ ?_⟩
  ·rintro i σ H' _ ⟨_,_,zs,_,_,_,_,sm⟩
   exact ae.of (sm _ _ ht)
  ·rintro i x Tp σ H' hx hT ⟨v2,v3,zs,rfl,hL,lz,iz,sm⟩
   have hi:i<s.ts.length:=by rw [←ly];exact (List.getElem?_eq_some_iff.mp hx).1
   have e3:s.ts[i]?=some s.ts[i]:=List.getElem?_eq_getElem hi
   have dj:aB ED H x (f6 s.ts[i]):=hy.nth i hx (by rw [List.getElem?_map,e3];rfl)
   obtain ⟨ta,m,g,pr,rfl,hta,hm,hg,hpr⟩:=uj dj
   have st:=ad.new (o:=.tup [.int (i:Int),.ref ta]) hT
   have sa:=sm.trans st
   refine ⟨Tp,(),ae.of av,rfl,_,(),_,(),rfl,?_⟩
   refine pb (t:=Dp _) fun DB nB=>?_
   have fin:∀(x:V) (H1 H'':Hp),ad (aJ H' Tp (.tup [.int (i:Int),.ref ta])) H1→aB ED H1 x (vN s i)→Ch H1 L (zs++[x]) H''→DB.nx [some (V.ref a),some (.ref L),some (.int (i:Int)),some (.ref ta)] H'':=fun x H1 H'' s1 d1 c=>by
    have sb:=st.trans s1
    have hL1:=sb _ _ hL
    refine nB _ _ ⟨_,_,(),c.at',by simp [lz],?_,fun b o h=>c.ol b o (fun e=>by have:=m1.fr;rw [←e,h] at this;cases this) (sb _ _ (sm _ _ h))⟩
    have se:=Ch.sameE sb hL1 c
    rw [List.range_succ,List.map_append]
    exact (iz.tupS se).append (.cons (d1.tupC c hL1) .nil)
   refine ⟨(),.inl ⟨rfl,_,aA.of (st _ _ hL)⟩,(),(),a,_,_,(),rfl,ae.of (sa _ _ ha),rfl,q,(),.inr (ae.of (sa _ _ hq)),rfl,mX _,(),?_⟩
   simp only [if_true,xh]
   by_cases hs:(i:Int)∈s.sh
   ·rw [decide_eq_true hs]
    refine cx ⟨(),(),ta,(),ae.of (sa _ _ hta),sa _ _ hta,fun p1 H1 s1 h1=>?_⟩
    refine ⟨(by show 2≤10000;decide),fun p2 H2 n2=>⟨(by show 1≤10000;decide),fun p3 H3 n3=>⟨p1,p3,_,(),rfl,(n2.sm.trans n3.sm) _ _ h1,n3.at',(by show 2+1≤10000;decide),fun p4 H4 s4 h4=>?_⟩⟩⟩
    have s14:=((s1.trans n2.sm).trans n3.sm).trans s4
    have sA:=sa.trans s14
    refine ⟨(),(),ta,(),ae.of (sA _ _ hta),sA _ _ hta,fun p5 H5 s5 h5=>?_⟩
    refine ⟨p4,p5,_,(),rfl,s5 _ _ h4,h5,(by show 3+2≤10000;decide),fun p6 H6 s6 h6=>⟨L,zs,(),rfl,((st.trans s14).trans (s5.trans s6)) _ _ hL,by trivial,fun H7 c7=>fin _ _ _ ((s14.trans s5).trans s6) ?_ c7⟩⟩
    have sB:=(sA.trans s5).trans s6
    unfold vN
    rw [e3]
    simp only [hs,if_true]
    exact .tup h6 (.cons (.str _) (.cons (.str _) (.cons (.tup (((n3.sm.trans s4).trans (s5.trans s6)) _ _ n2.at') (.cons (.int _) (.cons (.int _) .nil))) (.cons (hg.mono sB.toE) (.cons (hpr.mono sB.toE) .nil)))))
   ·rw [decide_eq_false hs]
    refine aT ⟨(),L,zs,(),rfl,st _ _ hL,by trivial,fun H7 c7=>fin _ _ _ (ad.refl _) ?_ c7⟩
    unfold vN
    rw [e3]
    simp only [hs,if_false]
    exact dj.mono sa.toE
  ·rintro σ H' ⟨v2,v3,zs,rfl,hL,lz,iz,sm⟩
   refine n2 _ _ ?_
   refine ⟨(),a,_,_,(),rfl,ae.of (sm _ _ ha),rfl,(),L,zs,rfl,aA.of hL,fun p2 H2 m2=>⟨(by show 2≤10000;decide),fun p3 H3 m3=>k _ _ ((sm.trans m2.sm).trans m3.sm) ?_⟩⟩
   rw [ly] at iz
   exact .tup m3.at' (.cons (.tup (((sm.trans m2.sm).trans m3.sm) _ _ hp) (nU _)) (.cons (.tup (m3.sm _ _ m2.at') (iz.mono (m2.sm.trans m3.sm).toE)) .nil))
inductive AJ (C:Addr) (vs:List V) (H:Hp) (Q:VK):Prop
 | mk (r L:Addr) (v:V) (past:List aC) (cur:aC) (h0:vs=[.ref r,v]) (h1:aI C H r L (past++[cur])) (h2:ju 1000 past cur) (h3:aB ED H v (kW cur)) (h4:Gs cur) (h5:∀H',ad H H'→Q (.bl true) H')
def Cj (C:Addr):Sp:=fun vs H Q _=>AJ C vs H Q
theorem xj (T:Txt K mg):aD P w K mg base CX0 4 T.l_stands_.f T.l_stands_.d ["_law_roads", "_law_state"] (Cj T.x_Roads):=by
 have G_Roads__net:=#[(AS)]
 have G_Roads__ends:=#[(Ee)]
 have G_Roads__is_shut:=#[(zz)]
 have G_l_net:=#[(Fa)]
 refine T.l_stands_.F.ok yO (fun vs H Q E h=>?_) (fun cdv A outer s H vs Q E hr h=>?_)
 ·obtain ⟨r,L,v,past,cur,rfl,_⟩:=h
  rfl
 ·obtain ⟨r,L,v,past,cur,rfl,R,ok,hv,gs,k⟩:=h
  refine ⟨_,#[#[aU 8 #[PW.pt 3 #[gN 7 #[aq 8 (@ug _ hr.units) #[bZ 17 #[0,(l4)] T.c_Roads T.h_Roads__net G_Roads__net (hr.mono (by decide)) T.B_Roads__net .nil (@cT _) (by rfl)] #[G_l_net,vy,T.l_net_,#[[#[1,(fT)]]]] #[(),()]] #[fN 4 #[aq 8 (@ug _ hr.units) #[bZ 17 #[0,(l4)] T.c_Roads T.h_Roads__ends G_Roads__ends (hr.mono (by decide)) T.B_Roads__ends .nil (@cT _) (by rfl)] #[#[1,(fT)][#[()]]] #[(),()]]]]] #[aa 3 #[ay 4 #[bP 4]]] (@aM _)] :: #[aa 3 #[ay 4 #[c8 8 (@zj _ hr.units) #[cI 7 (["_law_number", "_law_roads"]) (1) ([0]) _ _ _ _ rfl (by kernel_rfl) #[cb 6 oo T.b_range #[[#[(),(),(@cm _ (K) (by rfl)),qo,T.b_len,(@aL),#[[#[#[1,(fT)][#[()]]]]]]]] (by rfl)] (fun _ _ _ _ _ _=>#[0,(),()]) (fun _ _ _ _ _ _=>@cf _) (fun _ _ _ _ _ _=>#[cj 20 #[1,0] T.c_Roads T.h_Roads__is_shut G_Roads__is_shut (hr.mono (by decide)) T.B_Roads__is_shut .nil #[iK 3] #[[#[0,()]]] (by rfl) (by rfl) (by rfl)]) (by intro _;rfl)] #[cI 7 (["_law_n", "_law_state"]) (1) ([1]) _ _ _ _ rfl (by kernel_rfl) #[cb 6 oo T.b_range #[[#[(),(),(@cm _ (K) (by rfl)),qo,T.b_len,(@aL),#[[#[#[1,(fT)][#[()]]]]]]]] (by rfl)] (fun _ _ _ _ _ _=>#[0,(),()]) (fun _ _ _ _ _ _=>@cf _) (fun _ _ _ _ _ _=>#[c8 8 (@sI _ (K) (by rfl)) #[0,()] #[#[1,0][#[()]]] rfl]) (by intro _;rfl)] #[(),()]]]]],?_⟩
  obtain ⟨dx,ys,u,hr',hL,hys,hu⟩:=R.last
  obtain ⟨a,p,t,q,e,zs,rfl,ha,hp,ht,hz,hq,he⟩:=tX hv
  have lz:=hz.length
  rw [List.length_map] at lz
  have okt:=ok.cu.lt
  have ok5:=ok.mono (show 1000≤5000 by decide)
  have cn:Cd 60 (yE cur):=by
   refine (Cd.tup (k:=3) fun d hd=>?_).mono (by decide)
   simp only [List.mem_cons,List.not_mem_nil,or_false] at hd
   rcases hd with rfl | rfl
   ·refine (Cd.tup (k:=0) fun d hd=>?_).mono (by decide)
    obtain ⟨l,hl,rfl⟩:=List.mem_map.mp hd
    exact .str (gs.np l hl)
   ·refine Cd.tup (k:=2) fun d hd=>?_
    obtain ⟨i,hi,rfl⟩:=List.mem_map.mp hd
    have hi:=List.mem_range.mp hi
    have e3:cur.ts[i]?=some cur.ts[i]:=List.getElem?_eq_getElem hi
    unfold vN
    rw [e3]
    have g:=gs.nt cur.ts[i] (List.getElem_mem hi)
    by_cases hs:(i:Int)∈cur.sh
    ·simp only [hs,if_true]
     exact .tie g
    ·simp only [hs,if_false]
     exact .tie g
  have ce:Cd 60 (uC cur.en):=by
   cases h:cur.en with
   | none=>exact Cd.non.mono (by decide)
   | some p=>
    refine (Cd.tup (k:=0) fun d hd=>?_).mono (by decide)
    simp only [List.mem_cons,List.not_mem_nil,or_false] at hd
    rcases hd with rfl | rfl
    ·exact .str (gs.ne p h).1
    ·exact .str (gs.ne p h).2
  refine aP fun D0 n0=>⟨(),r,dx,(),hr',rfl,r,L,past,cur,rfl,R,ok5,fun v1 H1 s1 d1=>⟨(),_,cur,rfl,hv.mono s1.toE,by trivial,fun v2 H2 s2 d2=>⟨_,_,_,d1.mono s2.toE,d2,cn,(),?_⟩⟩⟩
  have sA:=s1.trans s2
  refine aT ⟨(),r,dx,(),sA _ _ hr',rfl,r,L,past,cur,rfl,R.sm sA,fun ve de=>⟨(),a,_,_,(),rfl,ae.of (sA _ _ ha),rfl,_,_,_,de,he.mono sA.toE,ce,(),aT (n0 _ _ ?_)⟩⟩
  refine ⟨(),a,_,_,(),rfl,ae.of (sA _ _ ha),rfl,t,(),.inr (ae.of (sA _ _ ht)),(),by trivial,by trivial,fun D1 hD1=>jW (n:=cur.ts.length) (fun (j:Nat)=>.bl (decide ((j:Int)∈cur.sh))) (by trivial) hD1 (fun i H' hi _=>by show i<_;trivial) (fun H' _=>by show _≤_;trivial) ?_ ?_⟩
  ·rintro i x H3 H4 Rk hi s3 ⟨rfl,rfl⟩ kk
   refine ⟨il,?_⟩
   have e0:(0:Int)+(i:Int)=i:=by trivial
   rw [e0]
   refine ⟨(),r,dx,(),(sA.trans s3) _ _ hr',rfl,(),r,L,(i:Int),past,cur,rfl,R.sm (sA.trans s3),fun _=>kk _ (ad.refl _),fun z=>absurd ⟨by trivial,by trivial⟩ z⟩
  intro H3 s3 h3
  have sB:=sA.trans s3
  refine ⟨(),a,_,_,(),rfl,ae.of (sB _ _ ha),rfl,t,(),.inr (ae.of (sB _ _ ht)),(),by trivial,by trivial,fun D2 hD2=>jW (n:=cur.ts.length) (fun (j:Nat)=>.bl (decide ((j:Int)∈cur.sh))) (by trivial) hD2 (fun i H' hi _=>by show i<_;trivial) (fun H' _=>by show _≤_;trivial) ?_ ?_⟩
  ·rintro i x H4 H5 Rk hi s4 ⟨rfl,rfl⟩ kk
   refine ⟨il,?_⟩
   have e0:(0:Int)+(i:Int)=i:=by trivial
   rw [e0]
   have k4:=kk _ (ad.refl _)
   rw [←xh] at k4
   refine ⟨(),(),a,_,_,(),rfl,ae.of ((sB.trans s4) _ _ ha),rfl,q,(),.inr (ae.of ((sB.trans s4) _ _ hq)),rfl,mX _,k4⟩
  intro H4 s4 h4
  have bb:∀{E:Addr→Prop}{H:Hp},aw E H ((List.range cur.ts.length).map fun (j:Nat)=>V.bl (decide ((j:Int)∈cur.sh))) ((d8 cur).map PyData.bool):=fun {E H}=>by
   unfold d8
   rw [List.map_map]
   have:=ud (E:=E) (H:=H) ((List.range cur.ts.length).map fun (j:Nat)=>decide ((j:Int)∈cur.sh))
   rw [List.map_map,List.map_map] at this
   exact this
  refine ⟨.list ((d8 cur).map .bool),fun _=>False,fun _=>False,.lst (s4 _ _ h3) (fun z=>z) bb,.lst h4 (fun z=>z) bb,?_,k _ (sB.trans s4)⟩
  refine (Cd.lst (k:=0) fun d hd=>?_).mono (by decide)
  obtain ⟨b,_,rfl⟩:=List.mem_map.mp hd
  exact .bl b
end
end K72
namespace K72
open PySem L2
set_option maxHeartbeats 8000000
def Zr (H:Hp) (v:V):Prop:=∃a,v=.ref a∧H a=some (.tup [.int 0,.int 1])
theorem Zr.mono {H H':Hp}{v:V} (h:Zr H v) (s:ad H H'):Zr H' v:=by
 obtain ⟨a,e,g⟩:=h
 exact ⟨a,e,s _ _ g⟩
theorem Jx {d:Int} (h:0<d):KM.low 0 d=(0,1):=KM.low_uniq (by trivial) (by decide) (by decide) (by trivial)
def Nn (H:Hp) (v:V):Prop:=∃a,∃n,∃d,v=.ref a∧H a=some (.tup [.int n,.int d])∧0≤n∧Fb 30 n d
theorem Nn.mono {H H':Hp}{v:V} (h:Nn H v) (s:∀a us,H a=some (.tup us)→H' a=some (.tup us)):Nn H' v:=by
 obtain ⟨a,n,d,e,g,q⟩:=h
 exact ⟨a,n,d,e,s _ _ g,q⟩
theorem wA {D:Addr}{H1:Hp}{σc:St}{g:TG}{te:TE}{Q:VK}{J:It}{n:Nat} (hz:n≤10000) (hD:H1 D=none) (hgo:∀i H',i<n→ad H1 H'→J.go i H') (hst:∀H',ad H1 H'→J.stop n H')
 (hs:∀i x H' H'' (R:VK),i<n→ad H1 H'→J.yld i H' x H''→(∀v H4,ad H' H4→Nn H4 v→R v H4)→g x σc H'' fun σ2 H2=>jk σc σ2∧te σ2 H2 R)
 (hd:∀zs H',ad H1 H'→H' D=some (.lst zs)→(∀y∈zs,Nn H' y)→zs.length=n→Q (.ref D) H'):jE J σc g tT te D H1 Q:=by
 refine io (n:=n) (fun i H' zs=>H' D=some (.lst zs)∧ad H1 H'∧(∀y∈zs,Nn H' y)∧zs.length=i) (gb hz) ⟨av,cX hD (ad.refl _),(fun _ h=>nomatch h),rfl⟩ ?_ ?_ ?_ ?_ ?_
 ·rintro i H' zs ⟨q,_,_,l⟩
  exact ⟨q,Nat.le_of_eq l⟩
 ·rintro i H' zs hi ⟨_,sm,_⟩
  exact hgo i H' hi sm
 ·rintro H' zs ⟨_,sm,_⟩
  exact hst H' sm
 ·rintro i H' zs x H'' hi ⟨q,sm,ia,l⟩ y
  refine hs i x H' H'' _ hi sm y fun v H4 s4 dv=>?_
  have q4:=s4 _ _ q
  have tp:∀a us,H4 a=some (.tup us)→aJ H4 D (.lst (zs++[v])) a=some (.tup us):=fun a us e=>by
   rw [ax (jG e q4 (by intro z;cases z))];exact e
  refine ⟨q4,av,cX hD (sm.trans s4),fun y hy=>?_,by simp [l]⟩
  rcases List.mem_append.mp hy with hy | hy
  ·exact ((ia y hy).mono fun a us e=>s4 _ _ e).mono tp
  ·rw [List.mem_singleton.mp hy]
   exact dv.mono tp
 ·rintro H' zs ⟨q,sm,ia,l⟩
  exact hd zs H' sm q ia l
theorem rg {K:PySem.W.Frag}{a1 a2 D:Addr}{H1:Hp}{σc:St}{te:TE}{tt:TT}{Q:VK}{xs ys:List V}{c1 c2:Bool}{j1 j2:Nat} (G:V→Prop) (hz:min xs.length ys.length≤10000) (hD:H1 D=none) (h1:∀H',ad H1 H'→iZ K H' a1 xs c1) (h2:∀H',ad H1 H'→iZ K H' a2 ys c2)
 (hs:∀(i:Nat) (x y:V) (H':Hp) (R:VK) (R0:Hp→Prop),xs[i]?=some x→ys[i]?=some y→ad H1 H'→(∀v H4,G v→ad H' H4→R v H4)→(∀H4,ad H' H4→R0 H4)→(fun σ2 H2=>jk σc σ2∧tt σ2 H2 fun b H3=>if b=true then te σ2 H3 R else R0 H3) ((σc.set j1 (some x)).set j2 (some y)) H')
 (hd:∀H' zs,ad H1 H'→H' D=some (.lst zs)→(∀y∈zs,G y)→zs.length≤min xs.length ys.length→Q (.ref D) H'):jE (yi K a1 a2 c1 c2) σc (Ae K 2 (v0 (oO j1) (v0 (oO j2) CH))) tt te D H1 Q:=by
 refine vR (n:=min xs.length ys.length) G hz hD (fun i H' hi sm=>⟨xs,ys,xs[i]'(by trivial),ys[i]'(by trivial),h1 H' sm,h2 H' sm,by rw [List.getElem?_eq_getElem (by trivial)],by rw [List.getElem?_eq_getElem (by trivial)]⟩) (fun H' sm=>⟨xs,ys,h1 H' sm,h2 H' sm,by trivial⟩) ?_ hd
 rintro i v H' H'' R R0 hi sm ⟨T,x,y,hT,rfl,rfl,e1,e2⟩ k k0
 have st:=ad.new (o:=.tup [x,y]) hT
 exact ⟨T,(),ae.of av,rfl,_,(),_,(),rfl,hs i x y _ R R0 (e1 _ (h1 H' sm)) (e2 _ (h2 H' sm)) (sm.trans st) (fun v H4 gv s4=>k v H4 gv (st.trans s4)) fun H4 s4=>k0 H4 (st.trans s4)⟩
theorem wD {E:Addr→Prop}{H:Hp}{v:V} (h:aB E H v nI):kZ fun a x y=>v=.ref a∧H a=some (.lst [x,y])∧Zr H x∧Zr H y:=by
 cases h with
 | @lst a xs _ ha _ r=>
 cases r with
 | cons h1 r=>
 cases r with
 | cons h2 r=>
 cases r
 exact ⟨a,_,(),ha,Dz h1,Dz h2⟩
theorem BI {H:Hp}{v:V}{n:Nat} (h:aB EN H v (rB n)):vI fun a s k z us kv=>v=.ref a∧H a=some (.tup [.ref s,.ref k,.ref z])∧H s=some (.lst us)∧aw EN H us (List.replicate n nI)∧H k=some (.lst [kv])∧aB EN H kv nI∧H z=some (.lst []):=by
 cases h with
 | @tup a xs _ ha r=>
 cases r with
 | cons h1 r=>
 cases r with
 | cons h2 r=>
 cases r with
 | cons h3 r=>
 cases r
 cases h1 with
 | lst hs _ rs=>
 cases h2 with
 | lst hk _ rk=>
 cases h3 with
 | lst hz _ rz=>
 cases rz
 cases rk with
 | cons k1 rk=>
 cases rk
 exact ⟨a,_,_,_,_,(),ha,hs,rs,hk,k1,hz⟩
structure yU (x:d5):Prop where
 m0:0≤x.t.most.1
 fm:Fb 30 x.t.most.1 x.t.most.2
 fg:Fb 30 x.t.gain.1 x.t.gain.2
 nb:Nm x.t.bg
 ne:Nm x.t.en
theorem xX {E:Addr→Prop}{H:Hp}{v:V}{p:KM.Fra} (h:aB E H v (d9 p)):∃a,v=.ref a∧H a=some (.tup [.int p.1,.int p.2]):=by
 cases h with
 | @tup a xs _ ha r=>
 cases r with
 | cons h1 r=>
 cases r with
 | cons h2 r=>
 cases r
 cases h1
 cases h2
 exact ⟨a,rfl,ha⟩
theorem ym {H:Hp}{st:Addr}{l0:List Nat}{m:KM.Fra} (h:aB ED H (.ref st) (.tuple [.tuple [.str (S l0),d9 m,d9 (1,2)]])):kZ fun a x y=>H st=some (.tup [.ref a])∧H a=some (.tup [aH l0,x,y])∧aB ED H x (d9 m)∧aB ED H y (d9 (1,2)):=by
 cases h with
 | tup ha r=>
 cases r with
 | cons h1 r=>
 cases r
 cases h1 with
 | @tup a _ _ hb r=>
 cases r with
 | cons g1 r=>
 cases r with
 | cons g2 r=>
 cases r with
 | cons g3 r=>
 cases r
 cases g1
 exact ⟨a,_,_,ha,hb,g2,g3⟩
theorem vK {H:Hp}{zs:List V}{ts:List d5}{i:Nat}{y:V} (h:aw ED H zs (ts.map xg)) (e:zs[i]?=some y):∃x∈ts,ts[i]?=some x∧aB ED H y (xg x):=by
 obtain ⟨d,ed,hd⟩:=h.get e
 rw [List.getElem?_map] at ed
 obtain ⟨x,ex,rfl⟩:=Option.map_eq_some_iff.mp ed
 exact ⟨x,List.mem_of_getElem? ex,ex,hd⟩
section
variable {P:Program}{w:World}{K:PySem.W.Frag}{mg:Str→Option Value}{base:Heap}
inductive D6 (vs:List V) (H:Hp) (Q:VK):Prop
 | mk (a:Addr) (xs:List V) (h0:vs=[.ref a]) (h1:H a=some (.lst xs)) (h2:(∀x∈xs,Zr H x)) (h3:∀v H',ad H H'→Zr H' v→Q v H')
def FS:Sp:=fun vs H Q _=>D6  vs H Q
theorem uV (T:Txt K mg):aD P w K mg base CX0 4 T.sum_of_.f T.sum_of_.d ["parts"] FS:=by
 have G_added:=#[(Cf)]
 refine T.sum_of_.F.ok o8 (fun vs H Q E h=>?_) (fun cdv A outer s H vs Q E hr h=>?_)
 ·obtain ⟨a,xs,rfl,_⟩:=h
  rfl
 ·obtain ⟨a,xs,rfl,ha,hz,k⟩:=h
  refine ⟨_,#[#[1,o8.nd,iO,#[ak 5 #[[#[()],#[()]]]]] :: #[#[fe 8 PassesOwn.never rfl (@A9 _ (K) _ _ _ #[0,wN] (by rfl)) #[2,o8.nd,rL] #[aa 3 #[1,o8.nd,iO,#[G_added,wz,T.added_,#[[#[1,iO],#[2,rL]]]]]] (by intro _;rfl)] :: #[aa 3 #[ay 4 #[1,iO]]]]],?_⟩
  refine ⟨(by show 2≤10000;decide),fun o0 H1 n1=>?_⟩
  refine ⟨(),a,rfl,⟨_,aA.of (n1.sm _ _ ha)⟩,C8 (xs:=xs) (fun i σ H'=>bX fun (o:Addr) (v2:Option V)=>σ=[some (.ref a),some (.ref o),v2]∧ad H H'∧H' o=some (.tup [.int 0,.int 1])) ⟨o0,(),n1.sm,n1.at'⟩ ?_ ?_ ?_⟩
  ·rintro i σ H' _ ⟨_,_,_,s,_⟩
   exact aA.of (s _ _ ha)
  ·rintro i x σ H' hx ⟨o,v2,rfl,s,ho⟩
   obtain ⟨ox,rfl,hox⟩:=hz x (List.mem_of_getElem? hx)
   exact ⟨(),(),o,ox,_,_,_,(),ho,s _ _ hox,jP.s4 jP (by decide),fun o2 H2 n2=>⟨o2,(),s.trans n2.sm,n2.at'⟩⟩
  ·rintro σ H' ⟨o,v2,rfl,s,ho⟩
   exact ⟨(),k _ H' s ⟨o,rfl,ho⟩⟩
inductive Fp (vs:List V) (H:Hp) (Q:VK):Prop
 | mk (d tv:V) (l0 l1:List Nat) (ts:List d5) (m:KM.Fra) (x:d5) (h:Int) (h0:vs=[d,tv,.int h]) (h1:aB ED H d (gG l0 l1 ts m)) (h2:aB ED H tv (xg x)) (h3:∀b,Q (.bl b) H)
def IA:Sp:=fun vs H Q _=>Fp  vs H Q
theorem Gb (T:Txt K mg):aD P w K mg base CX0 1 T.may_send_.f T.may_send_.d ["day", "tie", "hour"] IA:=by
 refine T.may_send_.F.ok yR (fun vs H Q E h=>?_) (fun cdv A outer s H vs Q E hr h=>?_)
 ·obtain ⟨d,tv,l0,l1,ts,m,x,h,rfl,_⟩:=h
  rfl
 ·obtain ⟨d,tv,l0,l1,ts,m,x,h,rfl,hd,ht,k⟩:=h
  refine ⟨_,#[aa 3 #[ay 4 #[kJ 7 #[c8 8 (@sI _ (K) (by rfl)) #[2,o9] #[#[1,qA][#[()]]] rfl] #[lT 5 #[c8 8 (@iM _) #[am 8 (@bn _) #[2,o9] #[#[1,qA][#[()]]]] #[#[0,wP][#[()]]] #[(),()]]]]]],?_⟩
  obtain ⟨da,dp,dq,st,wl,wi,zs,rfl,hda,hdp,hdq,hzs,_,_,_⟩:=dS hd
  obtain ⟨ta,o1,o2,o3,po,rfl,hta,_,_,_,hpo⟩:=qG ht
  exact ⟨(),(),ta,_,_,(),rfl,ae.of hta,rfl,po,(),.inr (ae.of hpo),rfl,mX _,(),cF (fun _=>⟨(),(),ta,_,_,(),rfl,ae.of hta,rfl,_,(),rfl,(),da,_,_,(),rfl,ae.of hda,rfl,_,(),rfl,k _⟩) fun _=>k _⟩
inductive Ig (vs:List V) (H:Hp) (Q:VK):Prop
 | mk (d:V) (l0 l1:List Nat) (ts:List d5) (m:KM.Fra) (p:Addr) (bs:List Bool) (h:Int) (h0:vs=[d,.ref p,.int h]) (h1:aB ED H d (gG l0 l1 ts m)) (h2:(∀x∈ts,yU x)) (h3:0≤m.1) (h4:Fb 30 m.1 m.2) (h5:H p=some (.tup (bs.map V.bl))) (h6:ts.length≤100) (h7:∀q s k z xs ys H',ad H H'→H' q=some (.tup [.ref s,.ref k,.ref z])→H' s=some (.lst xs)→(∀y∈xs,Nn H' y)→H' k=some (.lst ys)→(∀y∈ys,Nn H' y)→H' z=some (.lst [])→xs.length≤100→ys.length≤1→Q (.ref q) H')
def IP:Sp:=fun vs H Q _=>Ig  vs H Q
theorem xu (T:Txt K mg):aD P w K mg base CX0 2 T.hour_mosts_.f T.hour_mosts_.d ["day", "shuts", "now"] IP:=by
 have G_may_send:=#[(Gb)]
 refine T.hour_mosts_.F.ok jJ (fun vs H Q E h=>?_) (fun cdv A outer s H vs Q E hr h=>?_)
 ·obtain ⟨d,l0,l1,ts,m,p,bs,h,rfl,_⟩:=h
  rfl
 ·obtain ⟨d,l0,l1,ts,m,p,bs,h,rfl,hd,gd,m0,fm,hp,lt,k⟩:=h
  refine ⟨_,#[#[dI 7 (["tie", "is_shut", "day", "now"]) (2) ([0,2]) _ _ _ _ (3) _ _ _ jJ.nd rfl mL (by kernel_rfl) rfl (by kernel_rfl) (@gF _ (K) _ _ _ _ _ _ _ _ vg T.b_zip #[[#[#[0,(jU)][#[()]]],#[1,tw]]] (by rfl) (by rfl) (by rfl)) (fun _ _ _ _ _ _=>(@aX _ (K) _ _ _ _ (2) rfl #[af 5 #[0,(),()] #[af 5 #[1,(),()] (@bf _) (by rfl)] (by rfl)] (by rfl) (by rfl) (by rfl))) (fun _ _ _ _ _ _=>@cf _) (fun _ _ _ _ _ _=>#[fY 8 #[PW.pt 3 #[ow 7 #[eX 3 #[G_may_send,(),T.may_send_,#[[#[2,0],#[0,()],#[3,0]]]] (by intro _;rfl)] #[lF 4 #[fQ 4 #[eX 3 #[1,()] (by intro _;rfl)]]]]] #[#[0,()][#[()]]] #[ak 5 #[[#[()],#[()]]]]]) (by intro _;rfl)] :: #[#[dI 7 (["store"]) (1) ([]) _ _ _ _ (4) _ _ _ jJ.nd rfl mQ (by kernel_rfl) rfl (by kernel_rfl) (@iw _ (K) _ _ _ #[#[0,(jU)][#[()]]] (by rfl)) (fun _ _ _ _ _ _=>#[0,(),()]) (fun _ _ _ _ _ _=>@cf _) (fun _ _ _ _ _ _=>#[#[0,()][#[()]]]) (by intro _;rfl)] :: #[#[dI 7 (["well", "now"]) (1) ([2]) _ _ _ _ (5) _ _ _ jJ.nd rfl mt (by kernel_rfl) rfl (by kernel_rfl) (@iw _ (K) _ _ _ #[#[0,(jU)][#[()]]] (by rfl)) (fun _ _ _ _ _ _=>#[0,(),()]) (fun _ _ _ _ _ _=>@cf _) (fun _ _ _ _ _ _=>#[fY 8 #[aq 8 (@b7 _) #[#[0,()][#[()]]] #[1,0] #[(),()]] #[#[0,()][#[()]]] #[ak 5 #[[#[()],#[()]]]]]) (by intro _;rfl)] :: #[aa 3 #[ay 4 #[ak 5 #[[#[3,mL],#[4,mQ],#[5,mt]]]]]]]]],?_⟩
  obtain ⟨da,dp,dq,st,wl,wi,zs,rfl,hda,hdp,hdq,hzs,hst,hwl,_⟩:=dS hd
  have lz:=hzs.length
  rw [List.length_map] at lz
  refine cJ fun Q1 n1=>⟨(),da,_,_,(),rfl,ae.of hda,rfl,(),dq,p,false,false,rfl,⟨_,ae.of hdq⟩,⟨_,ae.of hp⟩,fun D hD=>wA (n:=min zs.length (bs.map V.bl).length) (by trivial) hD (fun i H' hi sm=>⟨zs,bs.map V.bl,zs[i]'(by trivial),(bs.map V.bl)[i]'(by trivial),ae.of (sm _ _ hdq),ae.of (sm _ _ hp),by rw [List.getElem?_eq_getElem (by trivial)],by rw [List.getElem?_eq_getElem (by trivial)]⟩) (fun H' sm=>⟨zs,_,ae.of (sm _ _ hdq),ae.of (sm _ _ hp),by trivial⟩) ?_ ?_⟩
  ·rintro i v H' H'' R hi sm ⟨Tp,x,y,hT,rfl,rfl,e1,e2⟩ kk
   have e1:=e1 _ (ae.of (K:=K) (sm _ _ hdq))
   have e2:=e2 _ (ae.of (K:=K) (sm _ _ hp))
   have stt:=ad.new (o:=.tup [x,y]) hT
   have sx:=sm.trans stt
   rw [List.getElem?_map] at e2
   obtain ⟨bb,_,rfl⟩:=Option.map_eq_some_iff.mp e2
   obtain ⟨tx,mtx,_,dtx⟩:=vK hzs e1
   obtain ⟨ta,o1,o2,o3,po,rfl,hta,ho1,_,_,hpo⟩:=qG dtx
   obtain ⟨oa,rfl,hoa⟩:=xX ho1
   refine ⟨Tp,(),ae.of av,rfl,_,(),_,(),rfl,ua,?_⟩
   refine ⟨(),(),(),_,_,l0,l1,ts,m,tx,h,rfl,hd.mono sx.toE,dtx.mono sx.toE,fun b=>⟨(),?_⟩⟩
   have kz:Nn H (.ref oa):=⟨oa,_,(),hoa,(gd tx mtx).m0,(gd tx mtx).fm⟩
   have kA:R (.ref oa) (aJ H' Tp (.tup [.ref ta,.bl bb])):=kk _ _ stt (kz.mono fun a us e=>sx _ _ e)
   have kB:∀p5 H5,Nw (aJ H' Tp (.tup [.ref ta,.bl bb])) p5 (.tup [.int 0,.int 1]) H5→R (.ref p5) H5:=fun p5 H5 m5=>kk _ _ (stt.trans m5.sm) ⟨p5,_,(),m5.at',by decide,jP.mono (by decide)⟩
   cases b with
   | true=>
    refine cx ⟨(),(),?_⟩
    cases bb with
    | true=>exact aT ⟨(by show 2≤10000;decide),kB⟩
    | false=>exact cx ⟨_,rfl,ta,_,_,_,rfl,rfl,ae.of (sx _ _ hta),rfl,kA⟩
   | false=>exact aT (aT ⟨(by show 2≤10000;decide),kB⟩)
  intro xs H1 s1 hD1 nx lx
  refine n1 _ _ ?_
  obtain ⟨sa,sm_,sk,hst0,hsa,hsm,hsk⟩:=ym hst
  obtain ⟨ma,rfl,hma⟩:=xX hsm
  refine cJ fun Q2 n2=>⟨(),da,_,_,(),rfl,ae.of (s1 _ _ hda),rfl,st,rfl,⟨_,ae.of (s1 _ _ hst0)⟩,fun D2 hD2=>wA (n:=1) (by decide) hD2 (fun i H' hi sm=>⟨_,.ref sa,ae.of (sm _ _ (s1 _ _ hst0)),by cases (show i=0 by trivial);rfl⟩) (fun H' sm=>⟨_,ae.of (sm _ _ (s1 _ _ hst0)),Nat.le_refl _⟩) ?_ ?_⟩
  ·rintro i x H' H'' R hi sm ⟨rfl,ex⟩ kk
   have e1:=ex _ (ae.of (K:=K) (sm _ _ (s1 _ _ hst0)))
   cases (show i=0 by trivial)
   cases e1
   have sx:=s1.trans sm
   refine ⟨il,(),sa,_,_,(),rfl,ae.of (sx _ _ hsa),rfl,kk _ _ (ad.refl _) ⟨ma,_,(),sx _ _ hma,m0,fm⟩⟩
  intro ys H2 s2 hD2' ny ly
  refine n2 _ _ ?_
  have s02:=s1.trans s2
  refine cJ fun Q3 n3=>⟨(),da,_,_,(),rfl,ae.of (s02 _ _ hda),rfl,wl,rfl,⟨_,ae.of (s02 _ _ hwl)⟩,fun D3 hD3=>wA (n:=0) (by decide) hD3 (fun i H' hi _=>absurd hi (by trivial)) (fun H' sm=>⟨_,ae.of (sm _ _ (s02 _ _ hwl)),Nat.le_refl _⟩) (fun i x H3 H4 Rk hi=>absurd hi (by trivial)) fun ds H3 s3 hD3' _ ld=>n3 _ _ ?_⟩
  cases (List.length_eq_zero_iff.mp ld)
  have s13:=s2.trans s3
  refine ⟨(),(),(),(by show 3≤10000;decide),fun p4 H4 m4=>k _ _ _ _ _ _ _ ((s02.trans s3).trans m4.sm) m4.at' (m4.sm _ _ (s13 _ _ hD1)) (fun y hy=>(nx y hy).mono fun a us e=>m4.sm _ _ (s13 _ _ e)) (m4.sm _ _ (s3 _ _ hD2')) (fun y hy=>(ny y hy).mono fun a us e=>m4.sm _ _ (s3 _ _ e)) (m4.sm _ _ hD3') (by trivial) (by trivial)⟩
inductive E5 (vs:List V) (H:Hp) (Q:VK):Prop
 | mk (d:V) (l0 l1:List Nat) (ts:List d5) (m:KM.Fra) (l:List Nat) (h0:vs=[d,aH l,.int 0]) (h1:aB ED H d (gG l0 l1 ts m)) (h2:∀v H',ad H H'→Zr H' v→Q v H')
def FG:Sp:=fun vs H Q _=>E5  vs H Q
theorem Bh (T:Txt K mg):aD P w K mg base CX0 5 T.wished_in_.f T.wished_in_.d ["day", "place", "hour"] FG:=by
 have G_sum_of:=#[(uV)]
 refine T.wished_in_.F.ok yq (fun vs H Q E h=>?_) (fun cdv A outer s H vs Q E hr h=>?_)
 ·obtain ⟨d,l0,l1,ts,m,l,rfl,_⟩:=h
  rfl
 ·obtain ⟨d,l0,l1,ts,m,l,rfl,hd,k⟩:=h
  refine ⟨_,#[aa 3 #[ay 4 #[G_sum_of,tN,T.sum_of_,#[[#[cI 7 (["wish", "hour", "place"]) (1) ([2,1]) _ _ _ _ rfl (by kernel_rfl) (@iw _ (K) _ _ _ #[#[0,vZ][#[()]]] (by rfl)) (fun _ _ _ _ _ _=>#[0,(),()]) (fun _ _ _ _ _ _=>#[lj 3 #[PW.pt 3 #[ow 7 #[aq 8 (@b7 _) #[#[0,()][#[()]]] #[2,0] #[(),()]] #[lF 4 #[aq 8 (@b7 _) #[#[0,()][#[()]]] #[1,0] #[(),()]]]]]]) (fun _ _ _ _ _ _=>#[#[0,()][#[()]]]) (by intro _;rfl)]]]]]],?_⟩
  obtain ⟨da,dp,dq,st,wl,wi,zs,rfl,hda,hdp,hdq,hzs,hst,hwl,hwi⟩:=dS hd
  refine ⟨(),da,_,_,(),rfl,ae.of hda,rfl,wi,rfl,⟨_,ae.of hwi⟩,fun D hD=>vR (n:=0) (fun _=>False) (by decide) hD (fun i H' hi _=>absurd hi (by trivial)) (fun H' sm=>⟨_,ae.of (sm _ _ hwi),Nat.le_refl _⟩) (fun i x H' H'' R R0 hi=>absurd hi (by trivial)) fun H1 zs' s1 hD1 gz lz=>?_⟩
  exact ⟨D,zs',rfl,hD1,fun x hx=>(gz x hx).elim,fun v H' s' z=>k v H' (s1.trans s') z⟩
inductive F4 (vs:List V) (H:Hp) (Q:VK):Prop
 | mk (d bk:V) (l0 l1:List Nat) (ts:List d5) (m:KM.Fra) (l:List Nat) (h0:vs=[d,bk,aH l,.int 0]) (h1:aB ED H d (gG l0 l1 ts m)) (h2:aB EN H bk (rB ts.length)) (h3:(∀x∈ts,yU x)) (h4:ts.length≤100) (h5:∀v H',ad H H'→Zr H' v→Q v H')
def Ds:Sp:=fun vs H Q _=>F4  vs H Q
theorem zy (T:Txt K mg):aD P w K mg base CX0 5 T.goes_at_.f T.goes_at_.d ["day", "book", "place", "hour"] Ds:=by
 have G_sum_of:=#[(uV)]
 refine T.goes_at_.F.ok km (fun vs H Q E h=>?_) (fun cdv A outer s H vs Q E hr h=>?_)
 ·obtain ⟨d,bk,l0,l1,ts,m,l,rfl,_⟩:=h
  rfl
 ·obtain ⟨d,bk,l0,l1,ts,m,l,rfl,hd,hb,gd,lt,k⟩:=h
  refine ⟨_,#[#[dk 6 #[1,wv] (@aX _ (K) _ _ _ _ (3) rfl #[af 5 #[4,km.nd,qt] #[af 5 #[5,km.nd,qE] #[af 5 #[6,km.nd,vO] (@bf _) (by rfl)] (by rfl)] (by rfl)] (by rfl) (by rfl) (by rfl)) (by rfl) (by rfl) (by rfl)] :: #[#[dI 7 (["row", "tie", "hour", "place"]) (2) ([3,2]) _ _ _ _ (7) _ _ _ km.nd rfl kC (by kernel_rfl) rfl (by kernel_rfl) (@gF _ (K) _ _ _ _ _ _ _ _ rQ T.b_zip #[[#[4,qt],#[#[0,rN][#[()]]]]] (by rfl) (by rfl) (by rfl)) (fun _ _ _ _ _ _=>(@aX _ (K) _ _ _ _ (2) rfl #[af 5 #[0,(),()] #[af 5 #[1,(),()] (@bf _) (by rfl)] (by rfl)] (by rfl) (by rfl) (by rfl))) (fun _ _ _ _ _ _=>#[lj 3 #[aq 8 (@b7 _) #[#[1,()][#[()]]] #[3,0] #[(),()]]]) (fun _ _ _ _ _ _=>#[#[0,()][#[2,0]]!]) (by intro _;rfl)] :: #[#[aO 4 (@cA _ (K) _ _ _ _ _ _ _ _ _ _ _ PySem.F.plainAttrs_list PySem.F.slot_list_extend PySem.F.type_list_extend (@Ax _) #[7,kC] #[[#[cI 7 (["row", "store", "hour", "place"]) (2) ([3,2]) _ _ _ _ rfl (by kernel_rfl) (@gF _ (K) _ _ _ _ _ _ _ _ rQ T.b_zip #[[#[5,qE],#[#[0,rN][#[()]]]]] (by rfl) (by rfl) (by rfl)) (fun _ _ _ _ _ _=>(@aX _ (K) _ _ _ _ (2) rfl #[af 5 #[0,(),()] #[af 5 #[1,(),()] (@bf _) (by rfl)] (by rfl)] (by rfl) (by rfl) (by rfl))) (fun _ _ _ _ _ _=>#[lj 3 #[aq 8 (@b7 _) #[#[1,()][#[()]]] #[3,0] #[(),()]]]) (fun _ _ _ _ _ _=>#[#[0,()][#[2,0]]!]) (by intro _;rfl)]]] (by rfl) (by rfl) (by rfl) (by rfl) (by rfl) (by rfl)) (by rfl)] :: #[aa 3 #[ay 4 #[G_sum_of,uN,T.sum_of_,#[[#[7,kC]]]]]]]]],?_⟩
  obtain ⟨da,dp,dq,st,wl,wi,zs,rfl,hda,hdp,hdq,hzs,hst,hwl,hwi⟩:=dS hd
  obtain ⟨ba,bs,bk',bz,us,kv,rfl,hba,hbs,hus,hbk,hkv,hbz⟩:=BI hb
  have lz:=hzs.length
  rw [List.length_map] at lz
  have lu:=hus.length
  rw [List.length_replicate] at lu
  refine aP fun D0 n0=>⟨(),ba,(),ae.of hba,rfl,_,(),_,(),_,(),rfl,n0 _ _ ?_⟩
  refine cJ fun Q1 n1=>⟨(),(),da,_,_,(),rfl,ae.of hda,rfl,bs,dq,true,false,rfl,⟨_,aA.of hbs⟩,⟨_,ae.of hdq⟩,fun D hD=>rg (xs:=us) (ys:=zs) (fun v=>Zr H v) (by trivial) hD (fun H' sm=>aA.of (sm _ _ hbs)) (fun H' sm=>ae.of (sm _ _ hdq)) ?_ ?_⟩
  ·intro i x y H' R R0 ex ey sm kk k0
   obtain ⟨tx,_,_,dtx⟩:=vK hzs ey
   obtain ⟨ta,o1,o2,o3,po,rfl,hta,_,_,_,_⟩:=qG dtx
   have hi:i<us.length:=(List.getElem?_eq_some_iff.mp ex).1
   obtain ⟨ra,x0,x1,rfl,hra,z0,_⟩:=wD (hus.nth i ex (by rw [List.getElem?_replicate,if_pos (by trivial)]))
   exact ⟨ua,(),ta,_,_,(),rfl,ae.of (sm _ _ hta),rfl,(),rfl,(),cF (fun _=>⟨(),(),ra,_,_,(),rfl,aA.of (sm _ _ hra),rfl,kk _ _ z0 (ad.refl _)⟩) fun _=>k0 _ (ad.refl _)⟩
  intro H1 xs s1 hD1 gx lx
  refine n1 _ _ ?_
  obtain ⟨sa,sm_,sk,hst0,hsa,hsm,hsk⟩:=ym hst
  refine aP fun D2 n2=>⟨(),.inl ⟨rfl,_,aA.of hD1⟩,(),(),da,_,_,(),rfl,ae.of (s1 _ _ hda),rfl,bk',st,true,false,rfl,⟨_,aA.of (s1 _ _ hbk)⟩,⟨_,ae.of (s1 _ _ hst0)⟩,fun D2 hD2=>rg (xs:=[kv]) (ys:=[.ref sa]) (fun v=>Zr H v) (by show 1≤10000;decide) hD2 (fun H' sm=>aA.of (sm _ _ (s1 _ _ hbk))) (fun H' sm=>ae.of (sm _ _ (s1 _ _ hst0))) ?_ ?_⟩
  ·intro i x y H' R R0 ex ey sm kk k0
   have hi:i<1:=(List.getElem?_eq_some_iff.mp ex).1
   cases (show i=0 by trivial)
   cases ex
   cases ey
   have sx:=s1.trans sm
   obtain ⟨ra,x0,x1,rfl,hra,z0,_⟩:=wD hkv
   exact ⟨ua,(),sa,_,_,(),rfl,ae.of (sx _ _ hsa),rfl,(),rfl,(),cF (fun _=>⟨(),(),ra,_,_,(),rfl,aA.of (sx _ _ hra),rfl,kk _ _ z0 (ad.refl _)⟩) fun _=>k0 _ (ad.refl _)⟩
  intro H2 ys s2 hD2' gy ly
  have hDH:H D=none:=hD
  refine ⟨D,D2,xs,ys,rfl,rfl,s2 _ _ hD1,hD2',(by have:ys.length≤1:=ly;trivial),fun H3 c3=>n2 _ _ ?_⟩
  have hD12:=s2 _ _ hD1
  have s03:ad H H3:=fun a o h=>c3.ol a o (fun e=>by rw [e,hDH] at h;cases h) ((s1.trans s2) _ _ h)
  refine ⟨(),D,(),c3.at',fun x hx=>?_,fun v H' s' z=>k v H' (s03.trans s') z⟩
  rcases List.mem_append.mp hx with h | h
  ·exact (gx x h).mono s03
  ·exact (gy x h).mono s03
end
end K72
namespace K72
open PySem L2
set_option maxHeartbeats 8000000
structure yf (s:aC):Prop where
 rk:l7 1000 s
 gs:Gs s
theorem xO {past:List aC}{cur:aC} (h:∀s∈past++[cur],yf s) (hl:past.length≤1000):ju 1000 past cur:=
 ⟨hl,fun s hs=>(h s (List.mem_append_left _ hs)).rk,(h cur (by simp)).rk⟩
def cN (H:Hp) (R:Addr) (sts:List aC):Prop:=∃xs,H R=some (.lst xs)∧aw ED H xs (sts.map kW)
theorem cN.keep {E:Addr→Prop}{H H':Hp}{R:Addr}{sts:List aC} (h:cN H R sts) (s:ai E H H') (n:¬E R):cN H' R sts:=by
 obtain ⟨xs,a,b⟩:=h
 exact ⟨xs,s.old _ _ n a,b.tupS s⟩
theorem cN.last {H:Hp}{R:Addr}{past:List aC}{cur:aC} (h:cN H R (past++[cur])):bX fun ys v=>H R=some (.lst (ys++[v]))∧ys.length=past.length∧aw ED H ys (past.map kW)∧aB ED H v (kW cur):=by
 obtain ⟨xs,a,b⟩:=h
 rw [List.map_append] at b
 obtain ⟨ys,v,rfl,c,d⟩:=kM b
 exact ⟨ys,v,a,by rw [c.length,List.length_map],c,d⟩
def E2 (a b:Addr):Addr→Prop:=fun x=>x=a∨x=b
section
variable {P:Program}{w:World}{K:PySem.W.Frag}{mg:Str→Option Value}{base:Heap}
inductive Ex (C:Addr) (vs:List V) (H:Hp) (Q:VK):Prop
 | mk (r L R:Addr) (sts:List aC) (many:Nat) (h0:vs=[.ref r,.ref R,.int (many:Int)]) (h1:aI C H r L sts) (h2:cN H R sts) (h3:R≠L) (h4:R≠r) (h5:(∀s∈sts,yf s)) (h6:sts.length≤1000) (h7:many<sts.length) (h8:∀H',ai (E2 L R) H H'→aI C H' r L (sts.take (sts.length - many))→cN H' R (sts.take (sts.length - many))→Q (.bl true) H')
def Gf (C:Addr):Sp:=fun vs H Q _=>Ex C vs H Q
theorem yu (T:Txt K mg):aD P w K mg base CX0 5 T.l_gone_back_.f T.l_gone_back_.d ["_law_roads", "_law_rows", "_law_many"] (Gf T.x_Roads):=by
 have G_Roads__back:=#[(zi)]
 have G_Roads__deeds:=#[(vd)]
 have G_l_stands:=#[(xj)]
 refine T.l_gone_back_.F.ok qz (fun vs H Q E h=>?_) (fun cdv A outer s H vs Q E hr h=>?_)
 ·obtain ⟨r,L,R,sts,many,rfl,_⟩:=h
  rfl
 ·obtain ⟨r,L,R,sts,many,rfl,rd,rw,nRL,nRr,good,ls,hm,k⟩:=h
  refine ⟨_,#[#[fe 8 PassesOwn.never rfl #[cb 6 su T.b_range #[[#[2,kc]]] (by rfl)] #[3,qz.nd,kK] #[#[aU 8 #[aq 8 (@uc _) #[bZ 17 #[0,gk] T.c_Roads T.h_Roads__back G_Roads__back (hr.mono (by decide)) T.B_Roads__back .nil (@cT _) (by rfl)] #[bP 4] #[(),()]] #[aa 3 #[ay 4 #[bP 4]]] (@aM _)] :: #[#[aO 4 #[vS 9 PySem.F.plainAttrs_list PySem.F.slot_list_pop PySem.F.type_list_pop (@tY _) #[1,eB] (by rfl) (by rfl)] (by rfl)] :: #[aa 3 #[aU 8 #[PW.pt 3 #[gN 7 #[aq 8 (@b7 _) #[am 8 (@fH _) #[(),(),(@cm _ (K) (by rfl)),mT,T.b_len,(@aL),#[[#[1,eB]]]] #[()]] #[()] #[(),()]] #[fN 4 #[aq 8 (@b7 _) #[3,kK] #[am 8 (@eV _) #[2,kc] #[()]] #[(),()]]]]] #[aa 3 #[aU 8 #[PW.pt 3 #[gN 7 #[fQ 4 #[eX 3 #[G_l_stands,pN,T.l_stands_,#[[#[0,gk],#[#[1,eB][#[cG 6 (@b4 _) #[()]]]!]]]] (by intro _;rfl)]] #[fN 4 #[aq 8 (@lQ _) #[bZ 17 #[0,gk] T.c_Roads T.h_Roads__deeds G_Roads__deeds (hr.mono (by decide)) T.B_Roads__deeds .nil (@cT _) (by rfl)] #[am 8 (@eV _) #[(),(),(@cm _ (K) (by rfl)),mT,T.b_len,(@aL),#[[#[1,eB]]]] #[()]] #[(),()]]]]] #[aa 3 #[ay 4 #[bP 4]]] (@aM _)]] (@aM _)]]]] (by intro _;rfl)] :: #[aa 3 #[ay 4 #[bP 4]]]],?_⟩
  refine aP fun D0 n0=>⟨(),(),by trivial,by trivial,?_⟩
  refine ir (fun i σ H'=>∃(v3:Option V),σ=[some (.ref r),some (.ref R),some (.int (many:Int)),v3]∧aI T.x_Roads H' r L (sts.take (sts.length - i))∧cN H' R (sts.take (sts.length - i))∧ai (E2 L R) H H') ⟨(),by rw [Nat.sub_zero,List.take_length];exact rd,by rw [Nat.sub_zero,List.take_length];exact rw,⟨fun _ _ _ h=>h,fun _ _ h=>h⟩⟩ ?_ ?_
  ·rintro i σ H1 hi ⟨v3,rfl,rd1,rw1,s1⟩
   have hi':i<many:=by trivial
   have gt:∀s∈sts.take (sts.length - i),yf s:=fun s hs=>good s (List.mem_of_mem_take hs)
   have gl:(sts.take (sts.length - i)).length=sts.length - i:=by rw [List.length_take];trivial
   have e2:sts.take (sts.length - (i+1))=(sts.take (sts.length - i)).dropLast:=by
    rw [List.dropLast_eq_take,List.take_take,gl]
    congr 1
    trivial
   rw [e2]
   generalize sts.take (sts.length - i)=st1 at rd1 rw1 gt gl
   rcases iR st1 with rfl | ⟨p1,cur,rfl⟩
   ·simp at gl;trivial
   rcases iR p1 with rfl | ⟨past,z,rfl⟩
   ·simp at gl;trivial
   rw [List.dropLast_concat]
   have lp:past.length+2=sts.length - i:=by simp at gl;trivial
   obtain ⟨dx,ys,v,hr1,hL1,hys,hv⟩:=rd1.last
   obtain ⟨zs,u,hR1,lz,hzs,hu⟩:=rw1.last
   refine pb (t:=ko _ _) fun DB nB=>?_
   refine aP fun D1 n1=>⟨(),r,dx,(),hr1,rfl,r,L,_,(),rd1,fun H2 s2 rd2=>⟨_,(),rfl,(),?_⟩⟩
   have en:(past++[z]).isEmpty=false:=by cases past <;> rfl
   rw [lA.1,lA.2] at rd2
   rw [en]
   refine aT (n1 _ _ ?_)
   have hR2:H2 R=some (.lst (zs++[u])):=s2.old _ _ (fun e=>nRL e) hR1
   refine aP fun D2 n2=>⟨(),.inl ⟨rfl,_,aA.of hR2⟩,R,zs,u,rfl,rfl,hR2,fun H3 c3=>n2 _ _ ?_⟩
   have s3:ai (E2 L R) H1 H3:=⟨fun a o n h=>c3.ol a o (fun e=>n (.inr e)) (s2.old _ _ (fun e=>n (.inl e)) h),fun a us h=>c3.tup (s2.tup a us h) hR2⟩
   have s23:ai (fun a=>a=R) H2 H3:=⟨fun a o n h=>c3.ol a o n h,fun a us h=>c3.tup h hR2⟩
   have rd3:aI T.x_Roads H3 r L (past++[z]):=rd2.keep s23 (Ne.symm nRr) (Ne.symm nRL)
   have rw3:cN H3 R (past++[z]):=⟨zs,c3.at',hzs.tupS s3⟩
   have s13:ai (E2 L R) H H3:=s1.trans s3
   have g3:∀s∈past++[z],yf s:=fun s hs=>gt s (List.mem_append_left _ hs)
   obtain ⟨dx3,_,_,hr3,hL3,_,_⟩:=rd3.last
   obtain ⟨ws,u3,hR3,lw,hws,hu3⟩:=rw3.last
   have lR:((ws++[u3]).length:Int)=past.length+1:=by simp [lw]
   have fin:∀H',ad H3 H'→DB.nx [some (.ref r),some (.ref R),some (.int (many:Int)),some (.int (0+(i:Int)))] H':=fun H' s'=>nB _ _ ⟨(),rd3.sm s',rw3.keep (E:=fun _=>False) s'.toE (fun z=>z),s13.trans s'.toE⟩
   refine ⟨(),R,(),.inl (aA.of hR3),_,(),rfl,(by show (0:Int)<8;decide),rfl,(),cF (fun c=>?_) fun c=>⟨(),(),_,(),rfl,rfl,(),cF (fun c=>?_) fun c=>fin _ (ad.refl _)⟩⟩
   all_goals
    refine ⟨(),(),(),R,_,_,(),rfl,aA.of hR3,bS _ _,r,L,u3,past,z,rfl,rd3,xO g3 (by trivial),hu3,(g3 z (by simp)).gs,fun H4 s4=>⟨(),aT ⟨(),r,dx3,(),s4 _ _ hr3,rfl,r,L,past,z,rfl,rd3.sm s4,(),R,(),.inl (aA.of (s4 _ _ hR3)),_,(),rfl,rfl,(),?_⟩⟩⟩
    have e:V.int ((past.length:Nat):Int)=V.int ((((ws++[u3]).length:Nat):Int) - 1):=by rw [lR];congr 1;trivial
    rw [decide_eq_true e]
    exact aT (fin _ s4)
  ·rintro σ H1 ⟨v3,rfl,rd1,rw1,s1⟩
   refine n0 _ _ ?_
   have em:((many:Int) - 0).toNat=many:=by trivial
   exact k _ s1 rd1 rw1
end
end K72
namespace K72
open PySem L2
set_option maxHeartbeats 8000000
section
variable {P:Program}{w:World}{K:PySem.W.Frag}{mg:Str→Option Value}{base:Heap}
theorem yN (T:Txt K mg):aD P w K mg base CX0 5 T.comes_at_.f T.comes_at_.d ["day", "book", "place", "hour"] Ds:=by
 have G_sum_of:=#[(uV)]
 have G_times:=#[(x5)]
 refine T.comes_at_.F.ok bx (fun vs H Q E h=>?_) (fun cdv A outer s H vs Q E hr h=>?_)
 ·obtain ⟨d,bk,l0,l1,ts,m,l,rfl,_⟩:=h
  rfl
 ·obtain ⟨d,bk,l0,l1,ts,m,l,rfl,hd,hb,gd,lt,k⟩:=h
  refine ⟨_,#[#[dk 6 #[1,vC] (@aX _ (K) _ _ _ _ (3) rfl #[af 5 #[4,bx.nd,oV] #[af 5 #[5,bx.nd,oY] #[af 5 #[6,bx.nd,nY] (@bf _) (by rfl)] (by rfl)] (by rfl)] (by rfl) (by rfl) (by rfl)) (by rfl) (by rfl) (by rfl)] :: #[#[dI 7 (["much", "well", "hour", "place"]) (2) ([3,2]) _ _ _ _ (7) _ _ _ bx.nd rfl gE (by kernel_rfl) rfl (by kernel_rfl) (@gF _ (K) _ _ _ _ _ _ _ _ lG T.b_zip #[[#[6,nY],#[#[0,lK][#[()]]]]] (by rfl) (by rfl) (by rfl)) (fun _ _ _ _ _ _=>(@aX _ (K) _ _ _ _ (2) rfl #[af 5 #[0,(),()] #[af 5 #[1,(),()] (@bf _) (by rfl)] (by rfl)] (by rfl) (by rfl) (by rfl))) (fun _ _ _ _ _ _=>#[lj 3 #[PW.pt 3 #[ow 7 #[aq 8 (@b7 _) #[#[1,()][#[()]]] #[3,0] #[(),()]] #[lF 4 #[aq 8 (@b7 _) #[#[1,()][#[()]]] #[2,0] #[(),()]]]]]]) (fun _ _ _ _ _ _=>#[0,()]) (by intro _;rfl)] :: #[#[fe 8 PassesOwn.never rfl (@gF _ (K) _ _ _ _ _ _ _ _ lG T.b_zip #[[#[4,oV],#[#[0,lK][#[()]]]]] (by rfl) (by rfl) (by rfl)) (@aX _ (K) _ _ _ _ (2) rfl #[af 5 #[8,bx.nd,iP] #[af 5 (@aX _ (K) _ _ _ _ (7) rfl #[af 5 #[9,bx.nd,vc] #[af 5 #[10,bx.nd,qC] #[af 5 #[11,bx.nd,pc] #[af 5 #[12,bx.nd,oJ] #[af 5 #[13,bx.nd,vq] #[af 5 #[14,bx.nd,kg] #[af 5 #[15,bx.nd,vn] (@bf _) (by rfl)] (by rfl)] (by rfl)] (by rfl)] (by rfl)] (by rfl)] (by rfl)] (by rfl) (by rfl) (by rfl)) (@bf _) (by rfl)] (by rfl)] (by rfl) (by rfl) (by rfl)) #[aa 3 #[aU 8 #[PW.pt 3 #[ow 7 #[aq 8 (@b7 _) #[10,qC] #[2,(oz)] #[(),()]] #[lF 4 #[aq 8 (@Az _) #[14,kg] #[3,(hW)] #[(),()]]]]] #[aa 3 #[aO 4 (@cA _ (K) _ _ _ _ _ _ _ _ _ _ _ PySem.F.plainAttrs_list PySem.F.slot_list_append PySem.F.type_list_append (@bQ _) #[7,gE] #[[#[G_times,nM,T.times_,#[[#[#[8,iP][#[am 8 (@eV _) #[3,(hW)] #[14,kg]]]!],#[12,oJ]]]]]] (by rfl) (by rfl) (by rfl) (by rfl) (by rfl) (by rfl)) (by rfl)]] (@aM _)]] (by intro _;rfl)] :: #[#[fe 8 PassesOwn.never rfl (@gF _ (K) _ _ _ _ _ _ _ _ lG T.b_zip #[[#[5,oY],#[#[0,lK][#[()]]]]] (by rfl) (by rfl) (by rfl)) (@aX _ (K) _ _ _ _ (2) rfl #[af 5 #[8,bx.nd,iP] #[af 5 (@aX _ (K) _ _ _ _ (3) rfl #[af 5 #[16,bx.nd,o7] #[af 5 #[11,bx.nd,pc] #[af 5 #[17,bx.nd,oS] (@bf _) (by rfl)] (by rfl)] (by rfl)] (by rfl) (by rfl) (by rfl)) (@bf _) (by rfl)] (by rfl)] (by rfl) (by rfl) (by rfl)) #[aa 3 #[aU 8 #[PW.pt 3 #[ow 7 #[aq 8 (@b7 _) #[16,o7] #[2,(oz)] #[(),()]] #[lF 4 #[aq 8 (@t0 _) #[3,(hW)] #[()] #[(),()]]]]] #[aa 3 #[aO 4 (@cA _ (K) _ _ _ _ _ _ _ _ _ _ _ PySem.F.plainAttrs_list PySem.F.slot_list_append PySem.F.type_list_append (@bQ _) #[7,gE] #[[#[G_times,nM,T.times_,#[[#[#[8,iP][#[am 8 (@eV _) #[3,(hW)] #[()]]]!],#[17,oS]]]]]] (by rfl) (by rfl) (by rfl) (by rfl) (by rfl) (by rfl)) (by rfl)]] (@aM _)]] (by intro _;rfl)] :: #[aa 3 #[ay 4 #[G_sum_of,ul,T.sum_of_,#[[#[7,gE]]]]]]]]]],?_⟩
  obtain ⟨da,dp,dq,st,wl,wi,zs,rfl,hda,hdp,hdq,hzs,hst,hwl,hwi⟩:=dS hd
  obtain ⟨ba,bs,bk',bz,us,kv,rfl,hba,hbs,hus,hbk,hkv,hbz⟩:=BI hb
  have lz:=hzs.length
  rw [List.length_map] at lz
  have lu:=hus.length
  rw [List.length_replicate] at lu
  refine aP fun D0 n0=>⟨(),ba,(),ae.of hba,rfl,_,(),_,(),_,(),rfl,n0 _ _ ?_⟩
  refine cJ fun Q1 n1=>⟨(),(),da,_,_,(),rfl,ae.of hda,rfl,bz,wl,true,false,rfl,⟨_,aA.of hbz⟩,⟨_,ae.of hwl⟩,fun D hD=>rg (xs:=[]) (ys:=[]) (fun v=>False) (by decide) hD (fun H' sm=>aA.of (sm _ _ hbz)) (fun H' sm=>ae.of (sm _ _ hwl)) (fun i x y H' R R0 ex=>nomatch ex) fun H1 xs0 s1 hD1 gx lx=>n1 _ _ ?_⟩
  cases xs0 with
  | cons x xs=>exact (gx x (List.mem_cons_self ..)).elim
  | nil=>
  have nD:∀a o,H a=some o→a≠D:=fun a o h e=>by rw [e,hD] at h;cases h
  refine aP fun D2 n2=>⟨(),(),da,_,_,(),rfl,ae.of (s1 _ _ hda),rfl,bs,dq,true,false,rfl,⟨_,aA.of (s1 _ _ hbs)⟩,⟨_,ae.of (s1 _ _ hdq)⟩,wn (xs:=us) (ys:=zs) (n:=ts.length) (fun i σ H'=>CO fun (v8 v9 v10 v11 v12 v13 v14 v15 v16 v17:Option V) (xs:List V)=>σ=[some (.ref da),some (.ref ba),some (aH l),some (.int 0),some (.ref bs),some (.ref bk'),some (.ref bz),some (.ref D),v8,v9,v10,v11,v12,v13,v14,v15,v16,v17]∧ad H H'∧H' D=some (.lst xs)∧xs.length≤i∧∀x∈xs,Zr H' x) (by trivial) ⟨_,_,_,_,_,_,_,_,_,_,[],rfl,s1,hD1,Nat.le_refl _,fun _ h=>nomatch h⟩ ?_ ?_ ?_⟩
  ·rintro i σ H' _ ⟨_,_,_,_,_,_,_,_,_,_,xs,_,sm,_⟩
   exact ⟨aA.of (sm _ _ hbs),ae.of (sm _ _ hdq)⟩
  ·rintro i x y Tp σ H' ex ey hT ⟨v8,v9,v10,v11,v12,v13,v14,v15,v16,v17,xs,rfl,sm,hDx,lxs,zx⟩
   have hi:i<us.length:=(List.getElem?_eq_some_iff.mp ex).1
   obtain ⟨tx,mtx,_,dtx⟩:=vK hzs ey
   obtain ⟨ta,o1,o2,o3,po,rfl,hta,_,ho2,_,_⟩:=qG dtx
   obtain ⟨ga,rfl,hga⟩:=xX ho2
   obtain ⟨ra,x0,x1,rfl,hra,⟨za,rfl,hza⟩,_⟩:=wD (hus.nth i ex (by rw [List.getElem?_replicate,if_pos (by trivial)]))
   have stt:=ad.new (o:=.tup [.ref ra,.ref ta]) hT
   have sx:=sm.trans stt
   have hDT:=stt _ _ hDx
   refine ⟨Tp,(),ae.of av,rfl,_,(),_,(),⟨ta,(),ae.of (sx _ _ hta),rfl,_,(),_,(),_,(),_,(),_,(),_,(),_,(),rfl,rfl,?_⟩⟩
   have stay:∀v8 v9 v10 v11 v12 v13 v14 v15,CO fun (u8 u9 u10 u11 u12 u13 u14 u15 u16 u17:Option V) (xs:List V)=>[some (.ref da),some (.ref ba),some (aH l),some (.int 0),some (.ref bs),some (.ref bk'),some (.ref bz),some (.ref D),v8,v9,v10,v11,v12,v13,v14,v15,v16,v17]=[some (.ref da),some (.ref ba),some (aH l),some (.int 0),some (.ref bs),some (.ref bk'),some (.ref bz),some (.ref D),u8,u9,u10,u11,u12,u13,u14,u15,u16,u17]∧ad H (aJ H' Tp (.tup [.ref ra,.ref ta]))∧aJ H' Tp (.tup [.ref ra,.ref ta]) D=some (.lst xs)∧xs.length≤i+1∧∀x∈xs,Zr (aJ H' Tp (.tup [.ref ra,.ref ta])) x:=
    fun v8 v9 v10 v11 v12 v13 v14 v15=>⟨_,_,_,_,_,_,_,_,_,_,xs,rfl,sx,hDT,by trivial,fun x hx=>(zx x hx).mono stt⟩
   refine ⟨(),(),rfl,(),cF (fun _=>?_) fun _=>aT (stay ..)⟩
   refine ⟨(),(),_,(),rfl,(),cF (fun _=>?_) fun _=>stay ..⟩
   refine ⟨(),.inl ⟨rfl,_,aA.of hDT⟩,(),(),(),_,(),rfl,ra,_,_,(),rfl,aA.of (sx _ _ hra),rfl,(),za,ga,_,_,_,(),sx _ _ hza,sx _ _ hga,(jP.mono (show 1≤30 by decide)).s4 (gd tx mtx).fg (by decide),fun o4 H4 m4=>⟨D,xs,(),rfl,m4.sm _ _ hDT,by trivial,fun H5 c5=>?_⟩⟩
   have hD4:=m4.sm _ _ hDT
   have s05:ad H H5:=fun a o h=>c5.ol a o (nD a o h) ((sx.trans m4.sm) _ _ h)
   have t45:∀a us,H4 a=some (.tup us)→H5 a=some (.tup us):=fun a us h=>c5.tup h hD4
   refine ⟨_,_,_,_,_,_,_,_,_,_,xs++[.ref o4],rfl,s05,c5.at',by simp;trivial,fun x hx=>?_⟩
   rcases List.mem_append.mp hx with h | h
   ·obtain ⟨a,e,g⟩:=zx x h
    exact ⟨a,e,t45 _ _ (m4.sm _ _ (stt _ _ g))⟩
   ·rw [List.mem_singleton.mp h]
    have e:KM.low (Gu 0 1 tx.t.gain.1 tx.t.gain.2) (Ad 0 1 tx.t.gain.1 tx.t.gain.2)=(0,1):=by
     show KM.low (0*tx.t.gain.1) (1*tx.t.gain.2)=(0,1)
     rw [Int.zero_mul,Int.one_mul]
     exact Jx (by have:=(gd tx mtx).fg.pos;trivial)
    have h4:=m4.at'
    rw [e] at h4
    exact ⟨o4,rfl,t45 _ _ h4⟩
  rintro σ H2 ⟨v8,v9,v10,v11,v12,v13,v14,v15,v16,v17,xs,rfl,sm,hDx,lxs,zx⟩
  refine n2 _ _ ?_
  obtain ⟨sa,sm_,sk,hst0,hsa,hsm,hsk⟩:=ym hst
  refine aP fun D3 n3=>⟨(),(),da,_,_,(),rfl,ae.of (sm _ _ hda),rfl,bk',st,true,false,rfl,⟨_,aA.of (sm _ _ hbk)⟩,⟨_,ae.of (sm _ _ hst0)⟩,wn (xs:=[kv]) (ys:=[.ref sa]) (n:=1) (fun i σ H'=>Jn fun (v8 v9 v10 v11 v12 v13 v14 v15 v16 v17:Option V)=>σ=[some (.ref da),some (.ref ba),some (aH l),some (.int 0),some (.ref bs),some (.ref bk'),some (.ref bz),some (.ref D),v8,v9,v10,v11,v12,v13,v14,v15,v16,v17]∧ad H H'∧H' D=some (.lst xs)∧∀x∈xs,Zr H' x) rfl ⟨_,_,_,_,_,_,_,_,_,(),sm,hDx,zx⟩ ?_ ?_ ?_⟩
  ·rintro i σ H' _ ⟨_,_,_,_,_,_,_,_,_,_,_,sm,_⟩
   exact ⟨aA.of (sm _ _ hbk),ae.of (sm _ _ hst0)⟩
  ·rintro i x y Tp σ H' ex ey hT ⟨v8,v9,v10,v11,v12,v13,v14,v15,v16,v17,rfl,sm,hDx,zx⟩
   have hi:i<1:=(List.getElem?_eq_some_iff.mp ex).1
   cases (show i=0 by trivial)
   cases ex
   cases ey
   have stt:=ad.new (o:=.tup [kv,.ref sa]) hT
   have sx:=sm.trans stt
   refine ⟨Tp,(),ae.of av,rfl,_,(),_,(),⟨sa,(),ae.of (sx _ _ hsa),rfl,_,(),_,(),_,(),rfl,rfl,?_⟩⟩
   refine ⟨(),(),rfl,(),cF (fun _=>⟨(),_,(),rfl,(),aT ?_⟩) fun _=>aT ?_⟩
   all_goals exact ⟨_,_,_,_,_,_,_,_,_,(),sx,stt _ _ hDx,fun x hx=>(zx x hx).mono stt⟩
  ·rintro σ H3 ⟨v8,v9,v10,v11,v12,v13,v14,v15,v16,v17,rfl,sm,hDx,zx⟩
   refine n3 _ _ ⟨(),D,xs,rfl,hDx,zx,fun v H' s' z=>k v H' (sm.trans s') z⟩
inductive EG (vs:List V) (H:Hp) (Q:VK):Prop
 | mk (d bk:V) (l0 l1:List Nat) (ts:List d5) (m:KM.Fra) (l:List Nat) (sh:Addr) (h0:vs=[d,bk,aH l,.int 0,.ref sh]) (h1:aB ED H d (gG l0 l1 ts m)) (h2:aB EN H bk (rB ts.length)) (h3:(∀x∈ts,yU x)) (h4:ts.length≤100) (h5:H sh=some (.tup [.int 1,.int 1])) (h6:∀v H',ad H H'→Zr H' v→Q v H')
def Fn:Sp:=fun vs H Q _=>EG  vs H Q
theorem yK (T:Txt K mg):aD P w K mg base CX0 6 T.hour_sum_.f T.hour_sum_.d ["day", "book", "place", "hour", "share"] Fn:=by
 have G_wished_in:=#[(Bh)]
 have G_comes_at:=#[(yN)]
 have G_goes_at:=#[(zy)]
 have G_times:=#[(x5)]
 have G_taken:=#[(Cg)]
 refine T.hour_sum_.F.ok uF (fun vs H Q E h=>?_) (fun cdv A outer s H vs Q E hr h=>?_)
 ·obtain ⟨d,bk,l0,l1,ts,m,l,sh,rfl,_⟩:=h
  rfl
 ·obtain ⟨d,bk,l0,l1,ts,m,l,sh,rfl,hd,hb,gd,lt,hsh,k⟩:=h
  refine ⟨_,#[#[5,uF.nd,oW,#[G_taken,nE,T.taken_,#[[#[G_comes_at,rV,T.comes_at_,#[[#[0,lB],#[1,oZ],#[2,jO],#[3,ke]]]],#[G_goes_at,sP,T.goes_at_,#[[#[0,lB],#[1,oZ],#[2,jO],#[3,ke]]]]]]]] :: #[aa 3 #[ay 4 #[G_taken,nE,T.taken_,#[[#[5,oW],#[G_times,vm,T.times_,#[[#[4,vw],#[G_wished_in,qX,T.wished_in_,#[[#[0,lB],#[2,jO],#[3,ke]]]]]]]]]]]]],?_⟩
  have f11:Fb 1 1 1:=Fb.small (by decide) (by decide) (by decide) (by decide)
  refine cJ fun Q1 n1=>⟨(),(),(),(),d,bk,l0,l1,ts,m,l,rfl,hd,hb,gd,lt,fun v1 H1 s1 z1=>⟨(),(),(),(),d,bk,l0,l1,ts,m,l,rfl,hd.mono s1.toE,hb.mono s1.toE,gd,lt,fun v2 H2 s2 z2=>?_⟩⟩
  obtain ⟨a1,rfl,h1⟩:=z1
  obtain ⟨a2,rfl,h2⟩:=z2
  refine ⟨a1,a2,_,_,_,(),s2 _ _ h1,h2,jP.s4 jP (by decide),fun o3 H3 m3=>n1 _ _ ?_⟩
  have s3:=(s1.trans s2).trans m3.sm
  refine ⟨(),(),(),(),(),d,l0,l1,ts,m,l,rfl,hd.mono s3.toE,fun v4 H4 s4 z4=>?_⟩
  obtain ⟨a4,rfl,h4⟩:=z4
  refine ⟨sh,a4,_,_,_,(),(s3.trans s4) _ _ hsh,h4,f11.s4 jP (by decide),fun o5 H5 m5=>⟨o3,o5,_,_,_,(),(s4.trans m5.sm) _ _ m3.at',m5.at',jP.s4 jP (by decide),fun o6 H6 m6=>k _ _ (((s3.trans s4).trans m5.sm).trans m6.sm) ⟨o6,rfl,m6.at'⟩⟩⟩
end
end K72
namespace K72
open PySem L2
set_option maxHeartbeats 8000000
theorem ue {l:List Nat} (h:xE l):Nm l:=fun c hc=>by have:=h.az c hc;trivial
structure Ac (s:aC) (ls:List (List Nat)):Prop where
 pl:s.pl=ls
 l3:ls.length=3
 nd:ls.Nodup
 nm:∀l∈ls,Nm l
 t1:1≤s.ts.length
 t4:s.ts.length≤4
theorem pd {C:Addr}{cl:RW→Addr}{r L:Addr}{past:List aC}{cur:aC}{D:jj}{H:Hp}{Q:VK}{E:XK} (h:dP cur D=none) (nb:D≠.back) (k:∀v H',ai (Eb L) H H'→aI C H' r L (past++[cur]++[aV cur D])→aB ED H' v (uW past cur D)→Q v H'):qI C cl r L past cur D H Q E:=by
 refine ⟨fun w e=>(by rw [h] at e;cases e),fun _ v H' s R t=>?_⟩
 obtain ⟨e1,e2⟩:=nZ (past:=past) h nb
 rw [e1,e2] at R
 exact k v H' s R t
theorem cN.app {H H1:Hp}{R:Addr}{sts:List aC}{xs:List V}{v:V}{s':aC} (hR:H R=some (.lst xs)) (ha:aw ED H xs (sts.map kW)) (hv:aB ED H v (kW s')) (c:Ch H R (xs++[v]) H1):cN H1 R (sts++[s']):=
 ⟨_,c.at',by rw [List.map_append];exact (ha.tupS (Ch.sameE (ad.refl H) hR c)).append (.cons (hv.tupC c hR) .nil)⟩
def qm (ls:List (List Nat)) (i:Nat):aC:=⟨ls.take i,[],[],none⟩
structure xP (C:Addr) (H:Hp) (r L R:Addr) (past:List aC) (cur:aC) (N:Nat):Prop where
 rd:aI C H r L (past++[cur])
 rw:cN H R (past++[cur])
 ok:ju N past cur
 lp:past.length=N
 gs:∀s∈past++[cur],Gs s
 fs:∃q,past++[cur]=iI :: q
theorem xP.next {C:Addr}{H H':Hp}{r L R:Addr}{past:List aC}{cur:aC}{N:Nat} (h:xP C H r L R past cur N) {D:jj} (e:dP cur D=none) (nb:D≠.back) (rd:aI C H' r L (past++[cur]++[aV cur D])) (rw':cN H' R (past++[cur]++[aV cur D])) (g:Gs (aV cur D)):xP C H' r L R (past++[cur]) (aV cur D) (N+1):=by
 have ok:=h.ok.aft D
 obtain ⟨e1,e2⟩:=nZ (past:=past) e nb
 rw [e1,e2] at ok
 obtain ⟨q,eq⟩:=h.fs
 refine ⟨rd,rw',ok,by rw [List.length_append,h.lp];rfl,fun s hs=>?_,⟨q++[aV cur D],by rw [eq];rfl⟩⟩
 rcases List.mem_append.mp hs with z | z
 ·exact h.gs s z
 ·rw [List.mem_singleton.mp z];exact g
theorem yp {α:Type}{ls:List α} (nd:ls.Nodup) {i:Nat}{l:α} (h:ls[i]?=some l):l∉ls.take i:=by
 intro hm
 obtain ⟨j,hj⟩:=List.mem_iff_getElem?.mp hm
 have hi:=(List.getElem?_eq_some_iff.mp h).1
 have jl:j<(ls.take i).length:=(List.getElem?_eq_some_iff.mp hj).1
 rw [List.length_take] at jl
 rw [List.getElem?_take_of_lt (by trivial)] at hj
 have:=(List.getElem?_inj (by trivial) nd).mp (hj.trans h.symm)
 trivial
theorem take_succ {α:Type}{ls:List α}{i:Nat}{l:α} (h:ls[i]?=some l):ls.take (i+1)=ls.take i++[l]:=by
 rw [List.take_succ,h]
 rfl
section
variable {P:Program}{w:World}{K:PySem.W.Frag}{mg:Str→Option Value}{base:Heap}
inductive CM (C:Addr) (vs:List V) (H:Hp) (Q:VK):Prop
 | mk (b r L:Addr) (t:Int) (h0:vs=[.ref b,.ref r]) (h1:Bx H b t) (h2:0≤t) (h3:t≤800000) (h4:aI C H r L [iI]) (h5:b≠L) (h6:b≠r) (h7:∀R past cur ls t' H',H R=none→ai (E2 b L) H H'→Bx H' b t'→t≤t'→t'≤t+300→aI C H' r L (past++[cur])→cN H' R (past++[cur])→(∃q,past=iI :: q)→past.length≤8→(∀s∈past++[cur],l7 8 s∧Gs s)→Ac cur ls→Q (.ref R) H')
def EY (C:Addr):Sp:=fun vs H Q _=>CM C vs H Q
theorem BW (T:Txt K mg):aD P w K mg base CX0 5 T.l_begun_.f T.l_begun_.d ["_law_box", "_law_roads"] (EY T.x_Roads):=by
 have G_l_names_by:=#[(uM)]
 have G_l_take:=#[(iU)]
 have G_l_most_by:=#[(qN)]
 have G_l_gain_by:=#[(re)]
 have G_l_price_by:=#[(pM)]
 have G_Roads__add_place:=#[(yA)]
 have G_Roads__add_tie:=#[(zR)]
 refine T.l_begun_.F.ok fK (fun vs H Q E h=>?_) (fun cdv A outer s H vs Q E hr h=>?_)
 ·obtain ⟨b,r,L,t,rfl,_⟩:=h
  rfl
 ·obtain ⟨b,r,L,t,rfl,B,ht0,ht1,rd,nbL,nbr,k⟩:=h
  refine ⟨_,#[#[nN 2 (2) (3) _ _ _ _ _ _ _ _ _ _ _ rfl fK.nd rfl rfl (by decide) cR eT #[[#[bW 9 (@bT _ (K) (by rfl)) vH T.b_tuple (@bR) #[[#[G_l_names_by,rj,T.l_names_by_,#[[#[0,cU],#[()]]]]]] (by decide) (by decide) (by rfl) (by rfl)],#[ca 4 #[[#[ak 5 #[[#[ak 5 (@aY _)],#[ak 5 (@aY _)],#[ak 5 (@aY _)],#[jw 3]]]]]]]]] (by kernel_rfl) (by rfl)] :: #[#[fe 8 PassesOwn.never rfl (@qY _ (K) _ _ _ _ _ _ _ sq T.b_enumerate #[[#[2,cR]]] (by rfl) (by rfl)) (@aX _ (K) _ _ _ _ (2) rfl #[af 5 #[4,fK.nd,rJ] #[af 5 #[5,fK.nd,oA] (@bf _) (by rfl)] (by rfl)] (by rfl) (by rfl) (by rfl)) #[#[aO 4 #[cj 20 #[1,mO] T.c_Roads T.h_Roads__add_place G_Roads__add_place (hr.mono (by decide)) T.B_Roads__add_place .nil #[iK 3] #[[#[5,oA]]] (by rfl) (by rfl) (by rfl)] (by rfl)] :: #[aa 3 #[aO 4 (@cA _ (K) _ _ _ _ _ _ _ _ _ _ _ PySem.F.plainAttrs_list PySem.F.slot_list_append PySem.F.type_list_append (@bQ _) #[3,eT] #[[#[ak 5 #[[#[d7 10 (@iN _ (K) (by rfl)) #[2,cR] (@gn _) #[dW 3 #[am 8 (@bn _) #[4,rJ] #[()]]]],#[ak 5 (@aY _)],#[ak 5 (@aY _)],#[jw 3]]]]]] (by rfl) (by rfl) (by rfl) (by rfl) (by rfl) (by rfl)) (by rfl)]]] (by intro _;rfl)] :: #[#[fe 8 PassesOwn.never rfl #[cb 6 vD T.b_range #[[#[am 8 (@bn _) #[()] #[G_l_take,jR,T.l_take_,#[[#[0,cU],#[()]]]]]]] (by rfl)] #[6,fK.nd,md] #[#[7,fK.nd,jd,#[G_l_take,jR,T.l_take_,#[[#[0,cU],#[()]]]]] :: #[#[8,fK.nd,ci,#[ak 5 #[[#[#[2,cR][#[7,jd]]],#[#[2,cR][#[am 8 (@fH _) #[am 8 (@bn _) #[am 8 (@bn _) #[7,jd] #[()]] #[G_l_take,jR,T.l_take_,#[[#[0,cU],#[()]]]]] #[()]]]],#[G_l_most_by,sF,T.l_most_by_,#[[#[0,cU]]]],#[G_l_gain_by,rZ,T.l_gain_by_,#[[#[0,cU]]]]]]]] :: #[#[8,fK.nd,ci,#[am 8 (@cp _) #[8,ci] #[ak 5 #[[#[G_l_price_by,rh,T.l_price_by_,#[[#[0,cU]]]]]]]]] :: #[#[aU 8 #[aq 8 (@lQ _) #[cj 20 #[1,mO] T.c_Roads T.h_Roads__add_tie G_Roads__add_tie (hr.mono (by decide)) T.B_Roads__add_tie .nil #[iK 3] #[[#[#[8,ci][#[()]]],#[#[8,ci][#[()]]],#[#[8,ci][#[()]]],#[#[8,ci][#[()]]],#[#[8,ci][#[()]]]]] (by rfl) (by rfl) (by rfl)] #[6,md] #[(),()]] #[aa 3 #[ay 4 #[jw 3]]] (@aM _)] :: #[aa 3 #[aO 4 (@cA _ (K) _ _ _ _ _ _ _ _ _ _ _ PySem.F.plainAttrs_list PySem.F.slot_list_append PySem.F.type_list_append (@bQ _) #[3,eT] #[[#[ak 5 #[[#[2,cR],#[am 8 (@cp _) #[#[#[3,eT][#[cG 6 (@b4 _) #[()]]]!][#[()]]] #[ak 5 #[[#[8,ci]]]]],#[ak 5 (@aY _)],#[jw 3]]]]]] (by rfl) (by rfl) (by rfl) (by rfl) (by rfl) (by rfl)) (by rfl)]]]]]] (by intro _;rfl)] :: #[aa 3 #[ay 4 #[3,eT]]]]]],?_⟩
  refine BK fun Q0 n0=>⟨(),b,3,t,rfl,B,ht0,by trivial,by decide,by decide,fun D1 ls t1 H1 fD1 s1 hD1 l3 nd nm B1 h1a h1b=>⟨D1,(),aA.of hD1,fun p2 H2 m2=>?_⟩⟩
  have l3:ls.length=3:=l3
  have s2:=s1.trans m2.sm.toE
  refine ⟨(by show 0≤10000;decide),fun p3 H3 m3=>⟨(by show 0≤10000;decide),fun p4 H4 m4=>⟨(by show 0≤10000;decide),fun p5 H5 m5=>⟨(by show 4≤10000;decide),fun p6 H6 m6=>⟨(by show 1≤10000;decide),fun R H7 m7=>n0 _ _ _ ?_⟩⟩⟩⟩⟩
  have s27:ad H2 H7:=(((m3.sm.trans m4.sm).trans m5.sm).trans m6.sm).trans m7.sm
  have s7:ai (Eb b) H H7:=s2.trans s27.toE
  have fR:H R=none:=by
   cases h:H R with
   | none=>rfl
   | some o=>
    have ne:R≠b:=fun e=>by
     have:=m7.fr
     rw [e] at this
     exact ((B1.same m2.sm).same (((m3.sm.trans m4.sm).trans m5.sm).trans m6.sm)).th this
    have:=(((m3.sm.trans m4.sm).trans m5.sm).trans m6.sm) _ _ (s2.old _ _ ne h)
    rw [m7.fr] at this
    cases this
  obtain ⟨dx0,xs0,hr0,hL0,_⟩:=id rd
  have nRL:R≠L:=fun e=>by rw [e,hL0] at fR;cases fR
  have nRr:R≠r:=fun e=>by rw [e,hr0] at fR;cases fR
  have nRb:R≠b:=fun e=>B.th (e▸fR)
  have hp7:H7 p2=some (.tup (ls.map aH)):=s27 _ _ m2.at'
  have E7:ai (E2 b L) H H7:=⟨fun a o n h=>s7.old a o (fun e=>n (.inl e)) h,s7.tup⟩
  have rw7:cN H7 R ([]++[iI]):=⟨_,m7.at',.cons (.tup (m7.sm _ _ m6.at') (.cons (.tup ((m7.sm _ _ (m6.sm _ _ (m5.sm _ _ (m4.sm _ _ m3.at'))))) .nil) (.cons (.tup (m7.sm _ _ (m6.sm _ _ (m5.sm _ _ m4.at'))) .nil) (.cons (.tup (m7.sm _ _ (m6.sm _ _ m5.at')) .nil) (.cons .non .nil))))) .nil⟩
  have rd7:aI T.x_Roads H7 r L ([]++[iI]):=rd.keep s7 (Ne.symm nbr) (Ne.symm nbL)
  have B7:Bx H7 b t1:=(B1.same m2.sm).same s27
  have beg7:xP T.x_Roads H7 r L R [] iI 0:=⟨rd7,rw7,ju.zero 0,rfl,fun s hs=>by rw [List.mem_singleton.mp hs];exact ⟨fun _ h=>(nomatch h),fun _ h=>(nomatch h),fun _ h=>(nomatch h)⟩,⟨[],rfl⟩⟩
  refine aP fun D8 n8=>⟨(),p2,false,rfl,⟨_,ae.of hp7⟩,wU (xs:=ls.map aH) (fun i σ H'=>vI fun (v4 v5 v6 v7 v8:Option V) (past:List aC)=>σ=[some (.ref b),some (.ref r),some (.ref p2),some (.ref R),v4,v5,v6,v7,v8]∧xP T.x_Roads H' r L R past (qm ls i) i∧Bx H' b t1∧ai (E2 b L) H H'∧H' p2=some (.tup (ls.map aH))) ⟨_,_,_,_,_,[],rfl,beg7,B7,E7,hp7⟩ ?_ ?_ ?_⟩
  ·rintro i σ H' _ ⟨_,_,_,_,_,past,_,_,_,_,h⟩
   exact ae.of h
  ·rintro i x Tp σ H8 hx hT ⟨v4,v5,v6,v7,v8,past,rfl,bg,B8,E8,hp8⟩
   rw [List.getElem?_map] at hx
   obtain ⟨l,el,rfl⟩:=Option.map_eq_some_iff.mp hx
   have hi:i<3:=by rw [←l3];exact (List.getElem?_eq_some_iff.mp el).1
   have st:=ad.new (o:=.tup [.int (i:Int),aH l]) hT
   have ml:=List.mem_of_getElem? el
   refine ⟨Tp,(),ae.of av,rfl,_,(),_,(),rfl,?_⟩
   refine pb (t:=ko _ _) fun DB nB=>?_
   obtain ⟨dx,ys,v,hr1,hL1,_,_⟩:=bg.rd.last
   have rn:dP (qm ls i) (.place l)=none:=if_neg (yp nd el)
   have nx:aV (qm ls i) (.place l)=qm ls (i+1):=by
    show (⟨ls.take i++[l],[],[],none⟩:aC)=⟨ls.take (i+1),[],[],none⟩
    rw [take_succ el]
   refine aP fun D9 n9=>⟨(),r,dx,(),st _ _ hr1,rfl,(),r,L,l,past,qm ls i,rfl,bg.rd.sm st,bg.ok.mono (by trivial),pd rn (fun z=>nomatch z) fun u H9 s9 rd9 _=>n9 _ _ ?_⟩
   rw [nx] at rd9
   obtain ⟨ws,hR8,hws⟩:=id bg.rw
   have sE:ai (Eb L) H8 H9:=st.toE.trans s9
   have hR9:H9 R=some (.lst ws):=sE.old _ _ nRL hR8
   have hp9:H9 p2=some (.tup (ls.map aH)):=sE.tup _ _ hp8
   refine ⟨(),.inl ⟨rfl,_,aA.of hR9⟩,(),(),_,(),rfl,(),p2,(),ae.of hp9,hp9,fun q1 J1 sj1 hj1=>⟨(by show 0≤10000;decide),fun q2 J2 mj2=>⟨(by show 0≤10000;decide),fun q3 J3 mj3=>⟨(by show 4≤10000;decide),fun q4 J4 mj4=>?_⟩⟩⟩⟩
   have sJ:ad H9 J4:=((sj1.trans mj2.sm).trans mj3.sm).trans mj4.sm
   have lw:=hws.length
   rw [List.length_map,List.length_append,bg.lp] at lw
   refine ⟨R,ws,(),rfl,sJ _ _ hR9,by simp at lw;trivial,fun J5 c5=>nB _ _ ?_⟩
   have hR4:=sJ _ _ hR9
   have hq1:J4 q1=some (.tup ((ls.take (i+1)).map aH)):=by
    rw [mj4.sm _ _ (mj3.sm _ _ (mj2.sm _ _ hj1))]
    rw [show ((i:Int)+1)=((i+1:Nat):Int) by trivial,vX,List.map_take]
   have dv:aB ED J4 (.ref q4) (kW (qm ls (i+1))):=Aq mj4.at' hq1 (mj4.sm _ _ (mj3.sm _ _ mj2.at')) .nil (mj4.sm _ _ mj3.at') .non
   have c35:ai (fun a=>a=R) J4 J5:=⟨fun a o n h=>c5.ol a o n h,fun a us h=>c5.tup h hR4⟩
   have s95:ai (fun a=>a=R) H9 J5:=sJ.toE.trans c35
   have s85:ai (E2 L R) H8 J5:=⟨fun a o n h=>s95.old _ _ (fun e=>n (.inr e)) (sE.old _ _ (fun e=>n (.inl e)) h),fun a us h=>s95.tup _ _ (sE.tup _ _ h)⟩
   have rd5:aI T.x_Roads J5 r L (past++[qm ls i]++[qm ls (i+1)]):=rd9.keep s95 (Ne.symm nRr) (Ne.symm nRL)
   have rw5:cN J5 R (past++[qm ls i]++[qm ls (i+1)]):=cN.app hR4 ((hws.tupS sE).mono sJ.toE) dv c5
   have g5:Gs (qm ls (i+1)):=⟨fun z hz=>ue (nm z (List.mem_of_mem_take hz)),fun _ h=>(nomatch h),fun _ h=>(nomatch h)⟩
   rw [←nx] at rd5 rw5 g5
   have bg5:=bg.next rn (fun z=>nomatch z) rd5 rw5 g5
   rw [nx] at bg5
   refine ⟨_,_,_,_,_,(),bg5,B8.frm s85 ?_,⟨fun a o n h=>?_,fun a us h=>s85.tup _ _ (E8.tup _ _ h)⟩,s85.tup _ _ hp8⟩
   ·rintro (e | e)
    ·exact nbL e
    ·exact nRb e.symm
   ·refine s85.old _ _ ?_ (E8.old _ _ n h)
    rintro (e | e)
    ·exact n (.inr e)
    ·have e:a=R:=e
     rw [e,fR] at h;cases h
  rintro σ H8 ⟨v4,v5,v6,v7,v8,past0,rfl,bg8,B8,E8,hp8⟩
  rw [List.length_map,l3] at bg8
  refine n8 _ _ ?_
  refine aP fun Da na=>⟨(),b,4,t1,rfl,B8,by decide,by decide,by trivial,by trivial,fun ma t2 H9 m0 m4 h9a h9b s9 B9=>⟨_,(),rfl,(),by trivial,by trivial,?_⟩⟩
  have E9:ai (E2 b L) H8 H9:=⟨fun a o n h=>s9.old a o (fun e=>n (.inl e)) h,s9.tup⟩
  have bg9:xP T.x_Roads H9 r L R past0 (qm ls 3) 3:=⟨bg8.rd.keep s9 (Ne.symm nbr) (Ne.symm nbL),bg8.rw.keep s9 nRb,bg8.ok,bg8.lp,bg8.gs,bg8.fs⟩
  refine ir (fun j σ H'=>JA fun (v4 v5 v6 v7 v8:Option V) (past:List aC) (cur:aC) (t':Int)=>σ=[some (.ref b),some (.ref r),some (.ref p2),some (.ref R),v4,v5,v6,v7,v8]∧xP T.x_Roads H' r L R past cur (3+j)∧cur.pl=ls∧cur.ts.length=j∧cur.sh=[]∧cur.en=none∧Bx H' b t'∧t2≤t'∧t'≤t2+30*j∧ai (E2 b L) H H'∧H' p2=some (.tup (ls.map aH))) ⟨_,_,_,_,_,past0,qm ls 3,t2,rfl,bg9,(by show ls.take 3=ls;rw [←l3,List.take_length]),rfl,rfl,rfl,B9,by trivial,by trivial,E8.trans E9,s9.tup _ _ hp8⟩ ?_ ?_
  case refine_2=>
   rintro σ H' ⟨v4,v5,v6,v7,v8,past,cur,t',rfl,bg,epl,ets,esh,een,B',h1,h2,E',hp'⟩
   have hm:(1+ma - 0).toNat≤4∧1≤(1+ma - 0).toNat:=by trivial
   refine na _ _ ⟨(),?_⟩
   obtain ⟨q,eq⟩:=bg.fs
   have lpp:=bg.lp
   refine k R past cur ls t' H' fR E' B' (by trivial) (by trivial) bg.rd bg.rw ?_ (by trivial) (fun s hs=>⟨?_,bg.gs s hs⟩) ⟨epl,l3,nd,fun l hl=>ue (nm l hl),by trivial,by trivial⟩
   ·cases past with
    | nil=>simp at lpp;trivial
    | cons x xs=>
     injection eq with e1 e2
     exact ⟨xs,by rw [e1]⟩
   ·rcases List.mem_append.mp hs with z | z
    ·exact (bg.ok.al s z).mono (by trivial)
    ·rw [List.mem_singleton.mp z];exact bg.ok.cu.mono (by trivial)
  rintro j σ J0 hj ⟨v4,v5,v6,v7,v8,past,cur,t3,rfl,bg,epl,ets,esh,een,B0,h0a,h0b,E0',hp0⟩
  have hj4:j<4:=by trivial
  refine pb (t:=ko _ _) fun DB nB=>?_
  refine cJ fun Qb nb=>⟨(),b,3,t3,rfl,B0,by decide,by decide,by trivial,by trivial,fun f t4 J1 f0 f1 h1a h1b s1' B1'=>nb _ _ ?_⟩
  obtain ⟨jf,rfl⟩:=Int.eq_ofNat_of_zero_le f0
  have hf:jf<ls.length:=by trivial
  have hp1:=s1'.tup _ _ hp0
  have e1:(ls.map aH)[jf]?=some (aH ls[jf]):=by rw [List.getElem?_map,List.getElem?_eq_getElem hf];rfl
  refine cJ fun Qc nc=>⟨(),(),p2,_,_,(),rfl,ae.of hp1,c0 e1,(),(),_,(),rfl,(),b,2,t4,rfl,B1',by decide,by decide,by trivial,by trivial,fun g t5 J2 g0 g1 h2a h2b s2' B2'=>?_⟩
  obtain ⟨jg,ejg,hg,hgf⟩:∃n:Nat,((jf:Int)+1+g) % 3=n∧n<ls.length∧n≠jf:=⟨(((jf:Int)+1+g) % 3).toNat,by trivial,by trivial,by trivial⟩
  have hp2':=s2'.tup _ _ hp1
  have e2:(ls.map aH)[jg]?=some (aH ls[jg]):=by rw [List.getElem?_map,List.getElem?_eq_getElem hg];rfl
  refine ⟨_,(),rfl,_,(),rfl,(by show (0:Int)<3;decide),p2,_,_,(),rfl,ae.of hp2',by rw [ejg];exact c0 e2,(),b,t5,rfl,B2',by trivial,by trivial,fun o1 n1 d1 t6 J3 s3' ho1 _ _ B3' h3a h3b=>⟨(),b,t6,rfl,B3',by trivial,by trivial,fun o2 n2 d2 t7 J4 s4' ho2 _ _ B4' h4a h4b=>⟨(by show 4≤10000;decide),fun q5 J5 m5'=>nc _ _ ?_⟩⟩⟩
  refine cJ fun Qd nd'=>⟨(),(),b,t7,rfl,B4'.same m5'.sm,by trivial,by trivial,fun o3 n3 d3 t8 J6 s6' ho3 _ _ B6' h6a h6b=>⟨(by show 1≤10000;decide),fun q7 J7 m7'=>⟨q5,q7,_,(),rfl,m7'.sm _ _ (s6'.tup _ _ m5'.at'),m7'.at',(by show 4+1≤10000;decide),fun q8 J8 s8' h8'=>nd' _ _ ?_⟩⟩⟩
  have sb38:ai (Eb b) J3 J8:=((s4'.trans m5'.sm.toE).trans s6').trans (m7'.sm.trans s8').toE
  have sb48:ai (Eb b) J4 J8:=(m5'.sm.toE.trans s6').trans (m7'.sm.trans s8').toE
  have sb68:ad J6 J8:=m7'.sm.trans s8'
  have sb08:ai (Eb b) J0 J8:=((s1'.trans s2').trans s3').trans sb38
  have nlr:=Ne.symm nbr
  have rd8:=bg.rd.keep sb08 nlr (Ne.symm nbL)
  have rw8:=bg.rw.keep sb08 nRb
  obtain ⟨dx,_,_,hr8,hL8,_,_⟩:=rd8.last
  obtain ⟨ws,u,hR8,lw,hws,hu⟩:=rw8.last
  let tt:ji:=⟨ls[jf],ls[jg],(n1,d1),(n2,d2),(n3,d3)⟩
  have bl:ls[jf]∈cur.pl∧ls[jg]∈cur.pl∧ls[jf]≠ls[jg]:=⟨by rw [epl];exact List.getElem_mem hf,by rw [epl];exact List.getElem_mem hg,fun e=>hgf ((List.getElem?_inj (i:=jf) (j:=jg) hf nd).mp (by rw [List.getElem?_eq_getElem hf,List.getElem?_eq_getElem hg,e])).symm⟩
  have rn:dP cur (.tie tt)=none:=if_pos bl
  have dm:aB ED J8 (.ref o1) (d9 (n1,d1)):=.tup (sb38.tup _ _ ho1) (.cons (.int _) (.cons (.int _) .nil))
  have dg:aB ED J8 (.ref o2) (d9 (n2,d2)):=.tup (sb48.tup _ _ ho2) (.cons (.int _) (.cons (.int _) .nil))
  have dp:aB ED J8 (.ref o3) (d9 (n3,d3)):=.tup (sb68 _ _ ho3) (.cons (.int _) (.cons (.int _) .nil))
  refine aP fun De ne_=>⟨(),r,dx,(),hr8,rfl,(),q8,_,_,(),rfl,ae.of h8',rfl,(),q8,_,_,(),rfl,ae.of h8',rfl,(),q8,_,_,(),rfl,ae.of h8',rfl,(),q8,_,_,(),rfl,ae.of h8',rfl,(),q8,_,_,(),rfl,ae.of h8',rfl,r,L,tt,.ref o1,.ref o2,.ref o3,past,cur,rfl,dm,dg,dp,rd8,bg.ok.mono (by trivial),pd rn (fun z=>nomatch z) fun vv J9 s9' rd9 dv=>?_⟩
  have dv:aB ED J9 vv (.int ((cur.ts.length:Nat):Int)):=dv
  cases dv
  refine ⟨(),rfl,(),?_⟩
  have ev:V.int ((cur.ts.length:Nat):Int)=V.int (0+(j:Int)):=by rw [ets];congr 1;trivial
  rw [decide_eq_true ev]
  refine aT (ne_ _ _ ?_)
  obtain ⟨a9,pp9,pt9,pq9,pe9,ys9,rfl,ha9,hpp9,hpt9,hy9,hpq9,hpe9⟩:=tX (hu.mono (bK s9'.tup))
  have hR9:J9 R=some (.lst (ws++[.ref a9])):=s9'.old _ _ nRL hR8
  have h99:=s9'.tup _ _ h8'
  have ly:=hy9.length
  rw [List.length_map,ets] at ly
  refine ⟨(),.inl ⟨rfl,_,aA.of hR9⟩,(),(),(),R,_,_,(),rfl,aA.of hR9,bS _ _,a9,_,_,(),rfl,ae.of ha9,rfl,(),(by show 1≤10000;decide),fun q1 K1 mk1=>⟨pt9,q1,_,(),rfl,mk1.sm _ _ hpt9,mk1.at',by rw [ly,List.length_singleton];trivial,fun q2 K2 sk2 hk2=>⟨(by show 0≤10000;decide),fun q3 K3 mk3=>⟨(by show 4≤10000;decide),fun q4 K4 mk4=>?_⟩⟩⟩⟩
  have sK:ad J9 K4:=((mk1.sm.trans sk2).trans mk3.sm).trans mk4.sm
  have hR4:=sK _ _ hR9
  refine ⟨R,_,(),rfl,hR4,by have:=bg.lp;simp [lw];trivial,fun K5 c5=>nB _ _ ?_⟩
  have hp9:=s9'.tup _ _ (sb08.tup _ _ hp0)
  have dt:aB ED K4 (.ref q8) (f6 tt):=.tup (sK _ _ h99) (.cons (.str _) (.cons (.str _) (.cons ((dm.mono (bK s9'.tup)).mono sK.toE) (.cons ((dg.mono (bK s9'.tup)).mono sK.toE) (.cons ((dp.mono (bK s9'.tup)).mono sK.toE) .nil)))))
  have dn:aB ED K4 (.ref q4) (kW (aV cur (.tie tt))):=by
   refine Aq (s:=aV cur (.tie tt)) mk4.at' ?_ (mk4.sm _ _ (mk3.sm _ _ hk2)) ?_ ?_ ?_
   ·show K4 p2=some (.tup (cur.pl.map aH))
    rw [epl];exact sK _ _ hp9
   ·show aw ED K4 _ ((cur.ts++[tt]).map f6)
    rw [List.map_append]
    exact (hy9.mono sK.toE).append (.cons dt .nil)
   ·show K4 q3=some (.tup (cur.sh.map V.int))
    rw [esh];exact mk4.sm _ _ mk3.at'
   ·show aB ED K4 .non (uC cur.en)
    rw [een];exact .non
  have c45:ai (fun a=>a=R) K4 K5:=⟨fun a o n h=>c5.ol a o n h,fun a us h=>c5.tup h hR4⟩
  have s95:ai (fun a=>a=R) J9 K5:=sK.toE.trans c45
  have s05:ai (fun a=>a=b∨a=L∨a=R) J0 K5:=⟨fun a o n h=>s95.old _ _ (fun e=>n (.inr (.inr e))) (s9'.old _ _ (fun e=>n (.inr (.inl e))) (sb08.old _ _ (fun e=>n (.inl e)) h)),fun a us h=>s95.tup _ _ (s9'.tup _ _ (sb08.tup _ _ h))⟩
  have rd5:=rd9.keep s95 (Ne.symm nRr) (Ne.symm nRL)
  have hall:aw ED K4 (ws++[.ref a9]) ((past++[cur]).map kW):=by
   rw [List.map_append]
   exact ((hws.tupS s9').mono sK.toE).append (.cons ((hu.mono (bK s9'.tup)).mono sK.toE) .nil)
  have rw5:=cN.app hR4 hall dn c5
  have g5:Gs (aV cur (.tie tt)):=by
   have g0:=bg.gs cur (by simp)
   refine ⟨g0.np,fun z hz=>?_,g0.ne⟩
   rcases List.mem_append.mp (show z∈cur.ts++[tt] from hz) with y | y
   ·exact g0.nt z y
   ·rw [List.mem_singleton.mp y]
    exact ⟨ue (nm _ (List.getElem_mem hf)),ue (nm _ (List.getElem_mem hg))⟩
  have bg5:=bg.next rn (fun z=>nomatch z) rd5 rw5 g5
  have B9':Bx J9 b t8:=((B6'.same sb68).frm s9' nbL)
  refine ⟨_,_,_,_,_,_,aV cur (.tie tt),t8,rfl,bg5,epl,by show (cur.ts++[tt]).length=j+1;simp [ets],esh,een,B9'.frm s95 (Ne.symm nRb),by trivial,by trivial,⟨fun a o n h=>?_,fun a us h=>s05.tup _ _ (E0'.tup _ _ h)⟩,s05.tup _ _ hp0⟩
  refine s05.old _ _ ?_ (E0'.old _ _ n h)
  rintro (e | e | e)
  ·exact n (.inl e)
  ·exact n (.inr e)
  ·rw [e,fR] at h;cases h
end
end K72
namespace K72
open PySem L2
set_option maxHeartbeats 8000000
section
variable {P:Program}{w:World}{K:PySem.W.Frag}{mg:Str→Option Value}{base:Heap}
inductive DI (vs:List V) (H:Hp) (Q:VK):Prop
 | mk (i:Int) (h0:vs=[.int i]) (h1:Q (.bl true) H)
def FE:Sp:=fun vs H Q _=>DI  vs H Q
theorem x6 (T:Txt K mg):aD P w K mg base CX0 1 T.is_number_.f T.is_number_.d ["thing"] FE:=by
 refine T.is_number_.F.ok xV (fun vs H Q E h=>?_) (fun cdv A outer s H vs Q E hr h=>?_)
 ·obtain ⟨i,rfl,_⟩:=h
  rfl
 ·obtain ⟨i,rfl,k⟩:=h
  refine ⟨_,#[aa 3 #[ay 4 #[kJ 7 #[(),(),(@uX _ (K) (by rfl)),jA,T.b_isinstance,(@jh),#[[#[0,mP],#[zJ 4 vA T.b_int (@pD) (by decide) (by decide)]]]] #[lT 5 #[AO 4 #[(),(),(@uX _ (K) (by rfl)),jA,T.b_isinstance,(@jh),#[[#[0,mP],#[zJ 4 uS T.b_bool (@xI) (by decide) (by decide)]]]]]]]]],?_⟩
  have hx:aB ED H (.int i) (.int i):=.int i
  exact ⟨(),_,_,_,(),hx.ty,Ey (.int i),(),cx ⟨(),_,_,_,(),hx.ty,Ci (.int i),(),k⟩⟩
inductive Io (vs:List V) (H:Hp) (Q:VK):Prop
 | mk (x:V) (h0:vs=[x]) (h1:Zr H x) (h2:Q (.bl true) H)
def GY:Sp:=fun vs H Q _=>Io  vs H Q
theorem wd (T:Txt K mg):aD P w K mg base CX0 2 T.is_fraction_.f T.is_fraction_.d ["thing"] GY:=by
 have G_is_number:=#[(x6)]
 have G_common_divisor:=#[(mR)]
 refine T.is_fraction_.F.ok lf (fun vs H Q E h=>?_) (fun cdv A outer s H vs Q E hr h=>?_)
 ·obtain ⟨x,rfl,_⟩:=h
  rfl
 ·obtain ⟨x,rfl,⟨o,rfl,ho⟩,k⟩:=h
  refine ⟨_,#[#[aU 8 #[PW.pt 3 #[gN 7 #[fQ 4 #[eX 3 #[(),(),(@uX _ (K) (by rfl)),oj,T.b_isinstance,(@jh),#[[#[0,g9],#[zJ 4 sy T.b_tuple (@bR) (by decide) (by decide)]]]] (by intro _;rfl)]] #[fN 4 #[aq 8 (@lQ _) #[(),(),(@cm _ (K) (by rfl)),uw,T.b_len,(@aL),#[[#[0,g9]]]] #[()] #[(),()]]]]] #[aa 3 #[ay 4 #[bP 4]]] (@aM _)] :: #[#[dk 6 #[0,g9] (@aX _ (K) _ _ _ _ (2) rfl #[af 5 #[1,lf.nd,kr] #[af 5 #[2,lf.nd,hZ] (@bf _) (by rfl)] (by rfl)] (by rfl) (by rfl) (by rfl)) (by rfl) (by rfl) (by rfl)] :: #[#[aU 8 #[PW.pt 3 #[gN 7 #[fQ 4 #[eX 3 #[G_is_number,i6,T.is_number_,#[[#[1,kr]]]] (by intro _;rfl)]] #[fN 4 #[fQ 4 #[eX 3 #[G_is_number,i6,T.is_number_,#[[#[2,hZ]]]] (by intro _;rfl)]]]]] #[aa 3 #[ay 4 #[bP 4]]] (@aM _)] :: #[aa 3 #[ay 4 #[kJ 7 #[c8 8 (@AE _) #[2,hZ] #[()] #[(),()]] #[lT 5 #[c8 8 (@b7 _) #[G_common_divisor,lg,T.common_divisor_,#[[#[1,kr],#[2,hZ]]]] #[()] #[(),()]]]]]]]]],?_⟩
  have hx:aB ED H (.ref o) (d9 (0,1)):=tU ho
  refine aP fun DA nA=>⟨(),_,_,_,(),hx.ty,AF (d9 (0,1)),(),aT ⟨(),o,(),.inr (ae.of ho),rfl,(),aT (nA _ _ ?_)⟩⟩
  refine aP fun DB nB=>⟨(),o,(),ae.of ho,rfl,_,(),_,(),rfl,nB _ _ ?_⟩
  refine aP fun DC nC=>⟨(),(),(),aT ⟨(),(),(),aT (nC _ _ ?_)⟩⟩
  exact ⟨(),_,(),rfl,(),cx ⟨(),(),0,1,rfl,rfl,k⟩⟩
theorem uv (T:Txt K mg):aD P w K mg base CX0 3 T.is_from_nought_.f T.is_from_nought_.d ["thing"] GY:=by
 have G_is_fraction:=#[(wd)]
 refine T.is_from_nought_.F.ok uo (fun vs H Q E h=>?_) (fun cdv A outer s H vs Q E hr h=>?_)
 ·obtain ⟨x,rfl,_⟩:=h
  rfl
 ·obtain ⟨x,rfl,hz,k⟩:=h
  refine ⟨_,#[aa 3 #[ay 4 #[kJ 7 #[G_is_fraction,lO,T.is_fraction_,#[[#[0,jp]]]] #[lT 5 #[c8 8 (@AE _) #[#[0,jp][#[()]]] #[()] #[(),()]]]]]],?_⟩
  obtain ⟨o,rfl,ho⟩:=id hz
  exact ⟨(),(),hz,(),cx ⟨(),o,_,_,(),rfl,ae.of ho,rfl,_,(),rfl,k⟩⟩
inductive Gz (vs:List V) (H:Hp) (Q:VK):Prop
 | mk (x m:V) (h0:vs=[x,m]) (h1:Zr H x) (h2:Nn H m) (h3:Q (.bl true) H)
def Ht:Sp:=fun vs H Q _=>Gz  vs H Q
theorem wK (T:Txt K mg):aD P w K mg base CX0 4 T.goes_within_.f T.goes_within_.d ["thing", "most"] Ht:=by
 have G_is_from_nought:=#[(uv)]
 have G_compared:=#[(uG)]
 refine T.goes_within_.F.ok wo (fun vs H Q E h=>?_) (fun cdv A outer s H vs Q E hr h=>?_)
 ·obtain ⟨x,m,rfl,_⟩:=h
  rfl
 ·obtain ⟨x,m,rfl,hz,hn,k⟩:=h
  refine ⟨_,#[aa 3 #[ay 4 #[kJ 7 #[G_is_from_nought,lq,T.is_from_nought_,#[[#[0,kR]]]] #[lT 5 #[c8 8 (@Az _) #[G_compared,pq,T.compared_,#[[#[0,kR],#[1,tS]]]] #[()] #[(),()]]]]]],?_⟩
  obtain ⟨o,rfl,ho⟩:=id hz
  obtain ⟨om,n,d,rfl,hom,n0,fm⟩:=hn
  refine ⟨(),(),hz,(),cx ⟨(),(),o,om,_,_,_,(),ho,hom,jP.sn.mono (by decide),jP.sd.mono (by decide),fm.sn.mono (by decide),fm.sd.mono (by decide),_,(),rfl,?_⟩⟩
  have e:decide (Ah (0*d) (n*1)≤0)=true:=by
   refine decide_eq_true ?_
   unfold Ah
   rw [Int.zero_mul,Int.mul_one]
   by_cases q1:0<n
   ·rw [if_pos q1];decide
   ·rw [if_neg q1,if_neg (by trivial)];decide
  exact Eq.mp (congrArg (fun b=>Q (.bl b) H) e.symm) k
def Hu:Sp:=fun _ _ _ _=>False
theorem zW (T:Txt K mg):aD P w K mg base CX0 1 T.f_Lacking__init T.d_Lacking__init ["self", "place"] Hu:=
 T.F_Lacking__init.ok vt (fun vs H Q E h=>h.elim) (fun cdv A outer s H vs Q E hr h=>h.elim)
end
end K72
namespace K72
open PySem L2
set_option maxHeartbeats 8000000
theorem Cl (n:Nat):((List.range n).map fun _=>V.bl true)=(List.replicate n true).map V.bl:=by
 rw [qi,List.length_range,List.map_replicate]
theorem Bw {H:Hp}:∀{us:List V},(∀x∈us,Zr H x)→aw ED H us (List.replicate us.length zD)
 | [],_=>.nil
 | u :: us,h=>by
  obtain ⟨a,e,g⟩:=h u (List.mem_cons_self ..)
  rw [e]
  exact .cons (tU g) (Bw fun x hx=>h x (List.mem_cons_of_mem _ hx))
section
variable {P:Program}{w:World}{K:PySem.W.Frag}{mg:Str→Option Value}{base:Heap}
inductive Fh (C:Addr) (vs:List V) (H:Hp) (Q:VK):Prop
 | mk (r L:Addr) (d:V) (l0 l1:List Nat) (ts:List d5) (m:KM.Fra) (past:List gT) (cur:gT) (s k z:Addr) (us:List V) (kz:V) (h0:vs=[.ref r,.ref s,.ref k,.ref z]) (h1:bO C H r L d ts.length (past++[cur])) (h2:aB ED H d (gG l0 l1 ts m)) (h3:(∀x∈ts,yU x)) (h4:0≤m.1) (h5:Fb 30 m.1 m.2) (h6:cur.h=0) (h7:ts.length≤100) (h8:past.length≤1000) (h9:H s=some (.lst us)) (h10:us.length=ts.length) (h11:(∀x∈us,Zr H x)) (h12:H k=some (.lst [kz])) (h13:Zr H kz) (h14:H z=some (.lst [])) (h15:∀H',ai (Eb L) H H'→bO C H' r L d ts.length (past++[cur]++[⟨cur.sh,1⟩])→Q .non H')
def Gx (C:Addr):Sp:=fun vs H Q _=>Fh C vs H Q
theorem xT (T:Txt K mg):aD P w K mg base (hV P w) 7 T.f_DayRun__pass_hour T.d_DayRun__pass_hour ["self", "sent", "kept", "drawn"] (Gx T.x_DayRun):=by
 have G_hour_mosts:=#[(xu)]
 have G_goes_within:=#[(wK)]
 have G_book_of:=#[(vV)]
 have G_hour_sum:=#[(yK)]
 have G_compared:=#[(uG)]
 have G_Lacking__init:=#[(zW)]
 refine T.F_DayRun__pass_hour.okX bL (fun vs H Q E h=>?_) (fun cdv A outer s H vs Q E hr h=>?_)
 ·obtain ⟨r,L,d,l0,l1,ts,m,past,cur,s,k,z,us,kz,rfl,_⟩:=h
  rfl
 ·obtain ⟨r,L,d,l0,l1,ts,m,past,cur,s,k,z,us,kz,rfl,R,hd,gd,m0,fm,h0,lt,lp,hs,lu,hu,hk,hkz,hz,kk⟩:=h
  refine ⟨_,#[#[PS.nox 3 #[dk 6 #[#[br 5 #[0,bF] rfl][#[cG 6 (@b4 _) #[()]]]!] (@aX _ (K) _ _ _ _ (2) rfl #[af 5 #[4,bL.nd,eJ] #[af 5 #[5,bL.nd,b5] (@bf _) (by rfl)] (by rfl)] (by rfl) (by rfl) (by rfl)) (by rfl) (by rfl) (by rfl)]] :: #[#[aU 8 #[aq 8 (@b7 _) #[(),(),(@cm _ (K) (by rfl)),fw,T.b_len,(@aL),#[[#[5,b5]]]] #[#[br 5 #[0,bF] rfl][#[()]]] #[(),()]] #[aa 3 #[gJ 5 rfl #[iQ 15] #[j0 8 T.q_Over T.k_Over nJ T.m_Over #[[#[jt 4]]] (by decide) (by rfl) (by rfl)]]] (@aM _)] :: #[#[fe 8 PassesOwn.leaving rfl (@gF _ (K) _ _ _ _ _ _ _ _ iY T.b_zip #[[#[ak 5 #[[#[1,iG],#[2,iC],#[3,ij]]]],#[G_hour_mosts,kn,T.hour_mosts_,#[[#[br 5 #[0,bF] rfl],#[4,eJ],#[(),(),(@cm _ (K) (by rfl)),fw,T.b_len,(@aL),#[[#[5,b5]]]]]]]]] (by rfl) (by rfl) (by rfl)) (@aX _ (K) _ _ _ _ (2) rfl #[af 5 #[6,bL.nd,gA] #[af 5 #[7,bL.nd,im] (@bf _) (by rfl)] (by rfl)] (by rfl) (by rfl) (by rfl)) #[aa 3 #[aU 8 #[fQ 4 #[eX 3 #[(),(),(@HJ _ (K) rfl (by rfl)),oH,T.b_all,(@Ao),#[[#[cI 7 (["much", "most"]) (2) ([]) _ _ _ _ rfl (by kernel_rfl) (@gF _ (K) _ _ _ _ _ _ _ _ iY T.b_zip #[[#[6,gA],#[7,im]]] (by rfl) (by rfl) (by rfl)) (fun _ _ _ _ _ _=>(@aX _ (K) _ _ _ _ (2) rfl #[af 5 #[0,(),()] #[af 5 #[1,(),()] (@bf _) (by rfl)] (by rfl)] (by rfl) (by rfl) (by rfl))) (fun _ _ _ _ _ _=>@cf _) (fun _ _ _ _ _ _=>#[G_goes_within,(),T.goes_within_,#[[#[0,()],#[1,()]]]]) (by intro _;rfl)]]]] (by intro _;rfl)]] #[aa 3 #[gJ 5 rfl #[iQ 15] #[j0 8 T.q_TooMuch T.k_TooMuch mx T.m_TooMuch #[[#[jt 4]]] (by decide) (by rfl) (by rfl)]]] (@aM _)]] (by intro _;rfl)] :: #[#[PS.nox 3 #[8,bL.nd,eF,#[am 8 (@cp _) #[5,b5] #[ak 5 #[[#[ak 5 #[[#[bW 9 (@bT _ (K) (by rfl)) eG T.b_tuple (@bR) #[[#[1,iG]]] (by decide) (by decide) (by rfl) (by rfl)],#[bW 9 (@bT _ (K) (by rfl)) eG T.b_tuple (@bR) #[[#[2,iC]]] (by decide) (by decide) (by rfl) (by rfl)],#[bW 9 (@bT _ (K) (by rfl)) eG T.b_tuple (@bR) #[[#[3,ij]]] (by decide) (by decide) (by rfl) (by rfl)]]]]]]]]]] :: #[#[PS.nox 3 #[9,bL.nd,iH,#[G_book_of,mr,T.book_of_,#[[#[br 5 #[0,bF] rfl],#[8,eF]]]]]] :: #[#[fe 8 PassesOwn.leaving rfl (@iw _ (K) _ _ _ #[#[br 5 #[0,bF] rfl][#[()]]] (by rfl)) #[10,bL.nd,eL] #[aa 3 #[aU 8 #[aq 8 (@iM _) #[G_compared,lL,T.compared_,#[[#[G_hour_sum,lN,T.hour_sum_,#[[#[br 5 #[0,bF] rfl],#[9,iH],#[10,eL],#[(),(),(@cm _ (K) (by rfl)),fw,T.b_len,(@aL),#[[#[5,b5]]]],#[ak 5 #[[#[()],#[()]]]]]]],#[ak 5 #[[#[()],#[()]]]]]]] #[()] #[(),()]] #[aa 3 #[gJ 5 rfl #[iQ 15] #[DY 13 T.q_Lacking T.fn_Lacking T.k_Lacking G_Lacking__init (hr.mono (by decide)) T.B_Lacking__init lV T.m_Lacking #[[#[10,eL]]] (by decide) (by rfl) (by rfl)]]] (@aM _)]] (by intro _;rfl)] :: #[aa 3 #[PS.nox 3 #[aO 4 (@cA _ (K) _ _ _ _ _ _ _ _ _ _ _ PySem.F.plainAttrs_list PySem.F.slot_list_append PySem.F.type_list_append (@bQ _) #[br 5 #[0,bF] rfl] #[[#[ak 5 #[[#[4,eJ],#[8,eF]]]]]] (by rfl) (by rfl) (by rfl) (by rfl) (by rfl) (by rfl)) (by rfl)]]]]]]]]],?_⟩
  obtain ⟨dx,ys,v,hr',hL,hys,hv⟩:=R.last
  obtain ⟨a,p,q,ps,rfl,ha,hp,hq,hps⟩:=tW hv
  rw [h0] at hps
  cases hps
  have ly:=hys.length
  rw [List.length_map] at ly
  obtain ⟨da,dp,dq,st,wl,wi,zs,rfl,hda,hdp,hdq,hzs,hst,hwl,hwi⟩:=dS hd
  refine aP fun D0 n0=>⟨(),r,T.x_DayRun,dx,_,(),hr',T.c_DayRun,T.n_DayRun_states,rfl,(),L,_,_,(),rfl,aA.of hL,bS _ _,a,(),ae.of ha,rfl,_,(),_,(),rfl,n0 _ _ ?_⟩
  refine aP fun D1 n1=>⟨(),q,(),.inr (ae.of hq),(),r,T.x_DayRun,dx,_,(),hr',T.c_DayRun,T.n_DayRun_day,rfl,da,_,_,(),rfl,ae.of hda,rfl,rfl,(),aT (n1 _ _ ?_)⟩
  refine aP fun D2 n2=>⟨(),(),(),(by show 3≤10000;decide),fun p1 H1 m1=>⟨(),r,T.x_DayRun,dx,_,(),m1.sm _ _ hr',T.c_DayRun,T.n_DayRun_day,rfl,(),(),q,(),.inr (ae.of (m1.sm _ _ hq)),_,l0,l1,ts,m,p,cur.sh,(),hd.mono m1.sm.toE,gd,m0,fm,m1.sm _ _ hp,lt,fun q2 s2 k2 z2 xs2 ys2 H2 sm2 hq2 hs2 nx2 hk2 ny2 hz2 lx2 ly2=>?_⟩⟩
  have s02:=m1.sm.trans sm2
  refine ⟨p1,q2,false,false,rfl,⟨_,ae.of (sm2 _ _ m1.at')⟩,⟨_,ae.of hq2⟩,wn (xs:=[.ref s,.ref k,.ref z]) (ys:=[.ref s2,.ref k2,.ref z2]) (n:=3) (fun i σ H'=>xM fun (v6 v7 v8 v9 v10:Option V)=>σ=[some (.ref r),some (.ref s),some (.ref k),some (.ref z),some (.ref p),some (.ref q),v6,v7,v8,v9,v10]∧ad H2 H') rfl ⟨_,_,_,_,(),ad.refl _⟩ ?_ ?_ ?_⟩
  ·rintro i σ H' _ ⟨_,_,_,_,_,_,sm⟩
   exact ⟨ae.of (sm _ _ (sm2 _ _ m1.at')),ae.of (sm _ _ hq2)⟩
  ·rintro i x y Tp σ H' ex ey hT ⟨v6,v7,v8,v9,v10,rfl,sm⟩
   have hi:i<3:=(List.getElem?_eq_some_iff.mp ex).1
   obtain ⟨A,B,as,bs,rfl,rfl,la,hA,zA,hB,nB⟩:rO fun (A B:Addr) (as bs:List V)=>x=.ref A∧y=.ref B∧as.length≤10000∧H2 A=some (.lst as)∧(∀v∈as,Zr H2 v)∧H2 B=some (.lst bs)∧∀v∈bs,Nn H2 v:=by
    rcases (show i=0∨i=1∨i=2 by trivial) with rfl | rfl | rfl
    ·cases ex;cases ey
     exact ⟨s,s2,us,xs2,rfl,rfl,by trivial,s02 _ _ hs,fun v hv=>(hu v hv).mono s02,hs2,nx2⟩
    ·cases ex;cases ey
     exact ⟨k,k2,[kz],ys2,rfl,rfl,by show 1≤10000;decide,s02 _ _ hk,fun v hv=>by rw [List.mem_singleton.mp hv];exact hkz.mono s02,hk2,ny2⟩
    ·cases ex;cases ey
     exact ⟨z,z2,[],[],rfl,rfl,by show 0≤10000;decide,s02 _ _ hz,(fun _ h=>nomatch h),hz2,fun _ h=>nomatch h⟩
   have st:=ad.new (o:=.tup [.ref A,.ref B]) hT
   have sx:=sm.trans st
   have hA':=sx _ _ hA
   have hB':=sx _ _ hB
   refine ⟨Tp,(),ae.of av,rfl,_,(),_,(),rfl,?_⟩
   refine ⟨(),(),A,B,true,true,rfl,⟨_,aA.of hA'⟩,⟨_,aA.of hB'⟩,fun D hD=>A3 (xs:=as) (ys:=bs) (fun _=>.bl true) (by trivial) hD (fun H' sm=>aA.of (sm _ _ hA')) (fun H' sm=>aA.of (sm _ _ hB')) ?_ ?_⟩
   ·intro j x y G R ex ey sg kk
    have sG:=sx.trans sg
    exact ⟨ua,(),(),x,y,rfl,(zA x (List.mem_of_getElem? ex)).mono sG,(nB y (List.mem_of_getElem? ey)).mono fun a us e=>sG _ _ e,kk _ (ad.refl _)⟩
   intro G sg hG
   rw [Cl] at hG
   refine ⟨D,(),aA.of hG,(),?_⟩
   rw [show (List.replicate (min as.length bs.length) true).all id=true by simp]
   exact aT ⟨_,_,_,_,(),sx.trans sg⟩
  rintro σ H3 ⟨v6,v7,v8,v9,v10,rfl,sm3⟩
  refine n2 _ _ ?_
  have s03:=s02.trans sm3
  refine cJ fun Q3 n3=>⟨(),(),s,us,rfl,aA.of (s03 _ _ hs),fun p4 H4 m4=>⟨(),k,[kz],rfl,aA.of (m4.sm _ _ (s03 _ _ hk)),fun p5 H5 m5=>⟨(),z,[],rfl,aA.of (m5.sm _ _ (m4.sm _ _ (s03 _ _ hz))),fun p6 H6 m6=>⟨(by show 3≤10000;decide),fun p7 H7 m7=>⟨(by show 1≤10000;decide),fun p8 H8 m8=>?_⟩⟩⟩⟩⟩
  have s48:ad H4 H8:=((m5.sm.trans m6.sm).trans m7.sm).trans m8.sm
  have s08:ad H H8:=s03.trans (m4.sm.trans s48)
  refine ⟨q,p8,_,(),rfl,s08 _ _ hq,m8.at',(by show 0+1≤10000;decide),fun p9 H9 sm9 h9=>n3 _ _ ?_⟩
  have s09:=s08.trans sm9
  have s69:ad H6 H9:=(m7.sm.trans m8.sm).trans sm9
  have s59:ad H5 H9:=m6.sm.trans s69
  have s49:ad H4 H9:=m5.sm.trans s59
  have dh:aB ED H9 (.ref p7) (yB ts.length):=by
   refine .tup ((m8.sm.trans sm9) _ _ m7.at') (.cons (.tup (s49 _ _ m4.at') ?_) (.cons (.tup (s59 _ _ m5.at') (.cons ?_ .nil)) (.cons (.tup (s69 _ _ m6.at') .nil) .nil)))
   ·rw [←lu]
    exact Bw fun x hx=>(hu x hx).mono s09
   ·obtain ⟨ka,rfl,hka⟩:=hkz.mono s09
    exact tU hka
  have h9:H9 p9=some (.tup [.ref p7]):=h9
  refine cJ fun Q4 n4=>⟨(),r,T.x_DayRun,dx,_,(),s09 _ _ hr',T.c_DayRun,T.n_DayRun_day,rfl,(),_,l0,l1,ts,m,p9,_,1,rfl,hd.mono s09.toE,h9,.cons dh .nil,by decide,lt,fun bk G1 g1 dbk=>n4 _ _ ?_⟩
  have t1:=s09.trans g1
  refine aP fun D5 n5=>⟨(),r,T.x_DayRun,dx,_,(),t1 _ _ hr',T.c_DayRun,T.n_DayRun_day,rfl,da,_,_,(),rfl,ae.of (t1 _ _ hda),rfl,dp,rfl,⟨_,ae.of (t1 _ _ hdp)⟩,DQ (xs:=[aH l0,aH l1]) (fun i σ H'=>kZ fun (v6 v7 v10:Option V)=>σ=[some (.ref r),some (.ref s),some (.ref k),some (.ref z),some (.ref p),some (.ref q),v6,v7,some (.ref p9),some bk,v10]∧ad G1 H') ⟨_,_,(),ad.refl _⟩ ?_ ?_ ?_⟩
  ·rintro i σ H' _ ⟨_,_,_,_,sm⟩
   exact ae.of (sm _ _ (t1 _ _ hdp))
  ·rintro i x σ J ex ⟨v6,v7,v10,rfl,sm⟩
   obtain ⟨l,rfl⟩:∃l,x=aH l:=by
    have hi:i<2:=(List.getElem?_eq_some_iff.mp ex).1
    rcases (show i=0∨i=1 by trivial) with rfl | rfl
    ·cases ex;exact ⟨()⟩
    ·cases ex;exact ⟨()⟩
   have tJ:=t1.trans sm
   refine ⟨(),r,T.x_DayRun,dx,_,(),tJ _ _ hr',T.c_DayRun,T.n_DayRun_day,rfl,(),(),(),q,(),.inr (ae.of (tJ _ _ hq)),(by show 2≤10000;decide),fun o1 J1 k1=>⟨_,bk,l0,l1,ts,m,l,o1,rfl,hd.mono (tJ.trans k1.sm).toE,(dbk.mono sm.toE).mono k1.sm.toE,gd,lt,k1.at',fun v2 J2 k2 z2=>⟨(by show 2≤10000;decide),fun o3 J3 k3=>?_⟩⟩⟩
   obtain ⟨o2,rfl,h2⟩:=z2
   exact ⟨o2,o3,_,_,_,(),k3.sm _ _ h2,k3.at',jP.sn.mono (by decide),jP.sd.mono (by decide),jP.sn.mono (by decide),jP.sd.mono (by decide),_,(),rfl,(),aT ⟨_,_,(),((sm.trans k1.sm).trans k2).trans k3.sm⟩⟩
  rintro σ J ⟨v6,v7,v10,rfl,sm⟩
  refine n5 _ _ ?_
  have tJ:=t1.trans sm
  refine ⟨(),r,T.x_DayRun,dx,_,(),tJ _ _ hr',T.c_DayRun,T.n_DayRun_states,rfl,.inl ⟨rfl,_,aA.of (tJ _ _ hL)⟩,(),(),(by show 2≤10000;decide),fun o1 J1 k1=>⟨L,_,(),rfl,(tJ.trans k1.sm) _ _ hL,by simp;trivial,fun J2 c2=>?_⟩⟩
  have tb:=tJ.trans k1.sm
  have s9J:ad H9 J1:=(g1.trans sm).trans k1.sm
  obtain ⟨R4,s4⟩:=bO.app (s':=⟨cur.sh,1⟩) (sts:=past++[cur]) hr' hL (by rw [List.map_append];exact hys.append (.cons hv .nil)) tb (Aa k1.at' (tb _ _ hp) (s9J _ _ h9) (.cons (dh.mono s9J.toE) .nil)) c2
  exact kk J2 s4 R4
end
end K72
namespace K72
open PySem L2
set_option maxHeartbeats 8000000
theorem wS {K:PySem.W.Frag}{a D:Addr}{H1:Hp}{σc:St}{g:TG}{te:TE}{tt:TT}{Q:VK}{xs:List V} (p:V→Bool) (hz:xs.length≤10000) (hD:H1 D=none) (ha:H1 a=some (.tup xs))
 (hs:∀(x:V) (H':Hp) (R:VK) (R0:Hp→Prop),x∈xs→ad H1 H'→(p x=true→R x H')→(p x=false→R0 H')→g x σc H' fun σ2 H2=>jk σc σ2∧tt σ2 H2 fun b H3=>if b=true then te σ2 H3 R else R0 H3)
 (hd:∀H',ad H1 H'→H' D=some (.lst (xs.filter p))→Q (.ref D) H'):jE (yl K a) σc g tt te D H1 Q:=by
 refine tQ (n:=xs.length) (fun i H' zs=>zs=(xs.take i).filter p∧H' D=some (.lst zs)∧ad H1 H') (gb hz) ⟨rfl,av,cX hD (ad.refl _)⟩ ?_ ?_ ?_ ?_ ?_
 ·rintro i H' zs ⟨rfl,q,_⟩
  exact ⟨q,Nat.le_trans (List.length_filter_le ..) (by rw [List.length_take];trivial)⟩
 ·rintro i H' zs hi ⟨_,_,sm⟩
  exact ⟨xs,xs[i],ae.of (sm _ _ ha),by simp [hi]⟩
 ·rintro H' zs ⟨_,_,sm⟩
  exact ⟨xs,ae.of (sm _ _ ha),Nat.le_refl _⟩
 ·rintro i H' zs x H'' hi ⟨rfl,q,sm⟩ ⟨rfl,ex⟩
  have e:=ex _ (ae.of (sm _ _ ha))
  have e2:xs.take (i+1)=xs.take i++[x]:=take_succ e
  refine hs x _ _ _ (List.mem_of_getElem? e) sm (fun h=>⟨q,?_,av,cX hD sm⟩) fun h=>⟨?_,q,sm⟩
  ·rw [e2,List.filter_append,List.filter_cons_of_pos h,List.filter_nil]
  ·rw [e2,List.filter_append,List.filter_cons_of_neg (by rw [h];decide),List.filter_nil,List.append_nil]
 ·rintro H' zs ⟨rfl,q,sm⟩
  rw [List.take_length] at q
  exact hd H' sm q
theorem l8 {n:Nat} (h:n≤1000):((n:Int)).natAbs.log2<9000:=Nat.lt_of_le_of_lt (Nat.log2_le_self _) (by trivial)
theorem xN (l:List Int) (n:Int):((l.map V.int).filter fun x=>!decide (x=V.int n))=(l.filter fun i=>decide (i≠n)).map V.int:=by
 induction l with
 | nil=>rfl
 | cons i l ih=>
  by_cases h:i=n
  ·subst h;simp [ih]
  ·have h2:¬V.int i=V.int n:=fun z=>h (by injection z)
   simp [ih,h,h2]
theorem GJ (k:pX) {s1 s2 m g p x:V}:[s1,s2,m,g,p].take k.at++[x]++[s1,s2,m,g,p].drop (k.at+1)=[s1,s2,m,g,p].set k.at x:=by
 cases k <;> rfl
section
variable {P:Program}{w:World}{K:PySem.W.Frag}{mg:Str→Option Value}{base:Heap}
inductive Db (C:Addr) (vs:List V) (H:Hp) (Q:VK):Prop
 | mk (b r L:Addr) (t:Int) (v:V) (past:List aC) (cur:aC) (ls:List (List Nat)) (h0:vs=[.ref b,.ref r,v]) (h1:Bx H b t) (h2:0≤t) (h3:t≤800000) (h4:aI C H r L (past++[cur])) (h5:ju 1000 past cur) (h6:aB ED H v (kW cur)) (h7:Gs cur) (h8:Ac cur ls) (h9:b≠L) (h10:b≠r) (h11:∀v' D t' H',dP cur D=none→D≠.back→ai (E2 b L) H H'→Bx H' b t'→t≤t'→t'≤t+40→aI C H' r L (past++[cur]++[aV cur D])→aB ED H' v' (kW (aV cur D))→Gs (aV cur D)→Ac (aV cur D) ls→Q v' H')
def Fk (C:Addr):Sp:=fun vs H Q _=>Db C vs H Q
theorem Cz (T:Txt K mg):aD P w K mg base CX0 5 T.l_deed_.f T.l_deed_.d ["_law_box", "_law_roads", "_law_state"] (Fk T.x_Roads):=by
 have G_l_take:=#[(iU)]
 have G_l_most_by:=#[(qN)]
 have G_l_gain_by:=#[(re)]
 have G_l_price_by:=#[(pM)]
 have G_Roads__set_most:=#[(yI)]
 have G_Roads__set_gain:=#[(yH)]
 have G_Roads__set_price:=#[(yv)]
 have G_Roads__shut:=#[(DM)]
 have G_Roads__reopen:=#[(AV)]
 have G_Roads__set_ends:=#[(yP)]
 refine T.l_deed_.F.ok bN (fun vs H Q E h=>?_) (fun cdv A outer s H vs Q E hr h=>?_)
 ·obtain ⟨b,r,L,t,v,past,cur,ls,rfl,_⟩:=h
  rfl
 ·obtain ⟨b,r,L,t,v,past,cur,ls,rfl,B,ht0,ht1,rd,ok,hv,gs,fu,nbL,nbr,k⟩:=h
  refine ⟨_,#[#[dk 6 #[2,uP] (@aX _ (K) _ _ _ _ (4) rfl #[af 5 #[3,bN.nd,gB] #[af 5 #[4,bN.nd,cy] #[af 5 #[5,bN.nd,dU] #[af 5 #[6,bN.nd,fS] (@bf _) (by rfl)] (by rfl)] (by rfl)] (by rfl)] (by rfl) (by rfl) (by rfl)) (by rfl) (by rfl) (by rfl)] :: #[#[dk 6 #[ak 5 #[[#[G_l_take,ig,T.l_take_,#[[#[0,dw],#[()]]]],#[G_l_take,ig,T.l_take_,#[[#[0,dw],#[(),(),(@cm _ (K) (by rfl)),yt,T.b_len,(@aL),#[[#[4,cy]]]]]]],#[jw 3]]]] (@aX _ (K) _ _ _ _ (3) rfl #[af 5 #[7,bN.nd,cS] #[af 5 #[j7 2 (8) _ bN.nd rfl (Or.inr be) (by first | exact .inl rfl | exact .inr rfl | assumption)] #[af 5 #[9,bN.nd,cV] (@bf _) (by rfl)] (by rfl)] (by rfl)] (by rfl) (by rfl) (by rfl)) (by rfl) (by rfl) (by rfl)] :: #[#[aU 8 #[aq 8 (@iM _) #[7,cS] #[()] #[(),()]] #[#[10,bN.nd,fF,#[#[ca 4 #[[#[G_l_most_by,sW,T.l_most_by_,#[[#[0,dw]]]],#[G_l_gain_by,sN,T.l_gain_by_,#[[#[0,dw]]]],#[G_l_price_by,r9,T.l_price_by_,#[[#[0,dw]]]]]]][#[7,cS]]!]] :: #[#[aU 8 #[aq 8 (@b7 _) #[7,cS] #[()] #[(),()]] #[aa 3 #[9,bN.nd,cV,#[cj 20 #[1,dA] T.c_Roads T.h_Roads__set_most G_Roads__set_most (hr.mono (by decide)) T.B_Roads__set_most .nil #[iK 3] #[[#[8,(be)],#[10,fF]]] (by rfl) (by rfl) (by rfl)]]] #[aa 3 #[aU 8 #[aq 8 (@b7 _) #[7,cS] #[()] #[(),()]] #[aa 3 #[9,bN.nd,cV,#[cj 20 #[1,dA] T.c_Roads T.h_Roads__set_gain G_Roads__set_gain (hr.mono (by decide)) T.B_Roads__set_gain .nil #[iK 3] #[[#[8,(be)],#[10,fF]]] (by rfl) (by rfl) (by rfl)]]] #[aa 3 #[9,bN.nd,cV,#[cj 20 #[1,dA] T.c_Roads T.h_Roads__set_price G_Roads__set_price (hr.mono (by decide)) T.B_Roads__set_price .nil #[iK 3] #[[#[8,(be)],#[10,fF]]] (by rfl) (by rfl) (by rfl)]]]]]] :: #[#[11,bN.nd,qF,#[am 8 (@cp _) #[am 8 (@cp _) #[d7 10 (@iN _ (K) (by rfl)) #[#[4,cy][#[8,(be)]]] (@gn _) #[dW 3 #[am 8 (@bn _) #[()] #[7,cS]]]] #[ak 5 #[[#[10,fF]]]]] #[d7 10 (@iN _ (K) (by rfl)) #[#[4,cy][#[8,(be)]]] #[dW 3 #[am 8 (@bn _) #[()] #[7,cS]]] (@gn _)]]] :: #[aa 3 #[4,bN.nd,cy,#[am 8 (@cp _) #[am 8 (@cp _) #[d7 10 (@iN _ (K) (by rfl)) #[4,cy] (@gn _) #[dW 3 #[8,(be)]]] #[ak 5 #[[#[11,qF]]]]] #[d7 10 (@iN _ (K) (by rfl)) #[4,cy] #[dW 3 #[am 8 (@bn _) #[8,(be)] #[()]]] (@gn _)]]]]]]] #[aa 3 #[aU 8 #[aq 8 (@iM _) #[7,cS] #[()] #[(),()]] #[#[9,bN.nd,cV,#[fY 8 #[aq 8 (@sI _ (K) (by rfl)) #[8,(be)] #[5,dU] rfl] #[cj 20 #[1,dA] T.c_Roads T.h_Roads__reopen G_Roads__reopen (hr.mono (by decide)) T.B_Roads__reopen .nil #[iK 3] #[[#[8,(be)]]] (by rfl) (by rfl) (by rfl)] #[cj 20 #[1,dA] T.c_Roads T.h_Roads__shut G_Roads__shut (hr.mono (by decide)) T.B_Roads__shut .nil #[iK 3] #[[#[8,(be)]]] (by rfl) (by rfl) (by rfl)]]] :: #[aa 3 #[5,bN.nd,dU,#[am 8 (@cp _) #[bW 9 (@bT _ (K) (by rfl)) we T.b_tuple (@bR) #[[#[cI 7 (["_law_one", "_law_number"]) (1) ([8]) _ _ _ _ rfl (by kernel_rfl) (@iw _ (K) _ _ _ #[5,dU] (by rfl)) (fun _ _ _ _ _ _=>#[0,(),()]) (fun _ _ _ _ _ _=>#[lj 3 #[aq 8 (@lQ _) #[0,()] #[1,0] #[(),()]]]) (fun _ _ _ _ _ _=>#[0,()]) (by intro _;rfl)]]] (by decide) (by decide) (by rfl) (by rfl)] #[am 8 (@EQ _) #[ak 5 #[[#[8,(be)]]]] #[bW 9 (@xk _) ya T.b_int (@pD) #[[#[c8 8 (@ui _ (K) (by rfl)) #[8,(be)] #[5,dU] rfl]]] (by decide) (by decide) (by rfl) (by rfl)]]]]]] #[#[12,bN.nd,jK,#[G_l_take,ig,T.l_take_,#[[#[0,dw],#[()]]]]] :: #[#[6,bN.nd,fS,#[ak 5 #[[#[#[3,gB][#[12,jK]]],#[#[3,gB][#[am 8 (@fH _) #[am 8 (@bn _) #[am 8 (@bn _) #[12,jK] #[()]] #[G_l_take,ig,T.l_take_,#[[#[0,dw],#[()]]]]] #[()]]]]]]]] :: #[aa 3 #[9,bN.nd,cV,#[cj 20 #[1,dA] T.c_Roads T.h_Roads__set_ends G_Roads__set_ends (hr.mono (by decide)) T.B_Roads__set_ends .nil #[iK 3] #[[#[#[6,fS][#[()]]],#[#[6,fS][#[()]]]]] (by rfl) (by rfl) (by rfl)]]]]]]]] :: #[aa 3 #[ay 4 #[fY 8 #[aq 8 (@xR _) #[9,cV] #[jw 3] #[(),()]] #[ak 5 #[[#[3,gB],#[4,cy],#[5,dU],#[6,fS]]]] #[jw 3]]]]]]],?_⟩
  obtain ⟨a,p,tt,q,e,ys,rfl,ha,hp,htt,hy,hq,he⟩:=tX hv
  obtain ⟨dx,_,_,hr',hL,_,_⟩:=rd.last
  have ly:=hy.length
  rw [List.length_map] at ly
  have f1:=fu.t1
  have f4:=fu.t4
  have f3:=fu.l3
  refine aP fun D0 n0=>⟨(),a,(),ae.of ha,rfl,_,(),_,(),_,(),_,(),rfl,n0 _ _ ?_⟩
  refine aP fun D1 n1=>⟨(),b,6,t,rfl,B,by decide,by decide,by trivial,by trivial,fun wy t1 H1 w0 w1 h1a h1b s1 B1=>⟨(),(),tt,ys,rfl,.inr (ae.of (s1.tup _ _ htt)),b,ys.length,t1,rfl,B1,by trivial,l8 (by trivial),by trivial,by trivial,fun nu t2 H2 u0 u1 h2a h2b s2 B2=>⟨(by show 3≤10000;decide),fun p3 H3 m3=>⟨p3,(),ae.of m3.at',rfl,_,(),_,(),_,(),rfl,n1 _ _ ?_⟩⟩⟩⟩
  obtain ⟨nj,rfl⟩:=Int.eq_ofNat_of_zero_le u0
  have hnj:nj<cur.ts.length:=by trivial
  have B3:=B2.same m3.sm
  have s3:ai (Eb b) H H3:=(s1.trans s2).trans m3.sm.toE
  have hs:has cur (nj:Int):=⟨by trivial,by trivial⟩
  have rd3:=rd.keep s3 (Ne.symm nbr) (Ne.symm nbL)
  have ok5:=ok.mono (show 1000≤5000 by decide)
  refine xD (fun σ' H'=>CO fun (ti sh:Addr) (en:V) (v7 v8 v10 v11 v12:Option V) (zs:List V) (D:jj) (t':Int)=>σ'=[some (.ref b),some (.ref r),some (.ref a),some (.ref p),some (.ref ti),some (.ref sh),some en,v7,v8,some .non,v10,v11,v12]∧dP cur D=none∧D≠.back∧ai (E2 b L) H H'∧Bx H' b t'∧t≤t'∧t'≤t+40∧aI T.x_Roads H' r L (past++[cur]++[aV cur D])∧(aV cur D).pl=cur.pl∧H' ti=some (.tup zs)∧aw ED H' zs ((aV cur D).ts.map f6)∧H' sh=some (.tup ((aV cur D).sh.map V.int))∧aB ED H' en (uC (aV cur D).en)∧Gs (aV cur D)∧(aV cur D).ts.length=cur.ts.length) ?_ fun rest=>?_
  ·rintro σ' H' ⟨ti,sh,en,v7,v8,v10,v11,v12,zs,D,t',rfl,rn,nb,sE,B',h1,h2,rd',epl,hti,hzs,hsh,hen,gs',lts⟩
   refine ⟨(),rfl,(),cF (fun _=>?_) fun c=>absurd (decide_eq_true rfl) c⟩
   refine ⟨(),(),(),(),(by show 4≤10000;decide),fun p4 H4 m4=>?_⟩
   have hp':=sE.tup _ _ hp
   exact k _ D t' H4 rn nb (sE.trans m4.sm.toE) (B'.same m4.sm) h1 h2 (rd'.sm m4.sm) (Aq m4.at' (by rw [epl];exact m4.sm _ _ hp') (m4.sm _ _ hti) (hzs.mono m4.sm.toE) (m4.sm _ _ hsh) (hen.mono m4.sm.toE)) gs' ⟨by rw [epl];exact fu.pl,fu.l3,fu.nd,fu.nm,by trivial,by trivial⟩
  refine ⟨(),_,(),rfl,(),cF (fun c=>?_) fun c=>?_⟩
  ·have hw:wy<3:=of_decide_eq_true c
   refine cJ fun Qa na=>⟨(),b,t2,rfl,B3,by trivial,by trivial,fun o1 n1 d1 t4 J1 sj1 ho1 _ _ B4 h4a h4b=>⟨(),b,t4,rfl,B4,by trivial,by trivial,fun o2 n2 d2 t5 J2 sj2 ho2 _ _ B5 h5a h5b=>⟨(),b,t5,rfl,B5,by trivial,by trivial,fun o3 n3 d3 t6 J3 sj3 ho3 _ _ B6 h6a h6b=>⟨(by show 3≤10000;decide),fun p4 J4 m4=>?_⟩⟩⟩⟩
   have sJ:ai (Eb b) H3 J4:=((sj1.trans sj2).trans sj3).trans m4.sm.toE
   obtain ⟨kk,o,x,ekk,eat,hx⟩:kZ fun (kk:pX) (o:Addr) (x:KM.Fra)=>wy=(kk.at:Int) - 2∧jY [V.ref o1,.ref o2,.ref o3] wy=some (V.ref o)∧aB ED J4 (.ref o) (d9 x):=by
    rcases (show wy=0∨wy=1∨wy=2 by trivial) with rfl | rfl | rfl
    ·exact ⟨.m,o1,(n1,d1),rfl,rfl,.tup (((sj2.trans sj3).trans m4.sm.toE).tup _ _ ho1) (.cons (.int _) (.cons (.int _) .nil))⟩
    ·exact ⟨.g,o2,(n2,d2),rfl,rfl,.tup ((sj3.trans m4.sm.toE).tup _ _ ho2) (.cons (.int _) (.cons (.int _) .nil))⟩
    ·exact ⟨.p,o3,(n3,d3),rfl,rfl,.tup (m4.sm _ _ ho3) (.cons (.int _) (.cons (.int _) .nil))⟩
   refine ⟨(),p4,_,_,(),rfl,aA.of m4.at',eat,na _ _ ?_⟩
   have rn:dP cur (.part kk (nj:Int) x)=none:=if_pos hs
   have rd4:=rd3.keep sJ (Ne.symm nbr) (Ne.symm nbL)
   obtain ⟨dx4,_,_,hr4,_,_,_⟩:=rd4.last
   refine xD (fun σ' H'=>∃v12,σ'=[some (.ref b),some (.ref r),some (.ref a),some (.ref p),some (.ref tt),some (.ref q),some e,some (.int wy),some (.int (nj:Int)),some .non,some (.ref o),none,v12]∧ai (Eb L) J4 H'∧aI T.x_Roads H' r L (past++[cur]++[aV cur (.part kk (nj:Int) x)])) ?_ fun rest2=>?_
   ·rintro σ' J5 ⟨v12,rfl,s5,rd5⟩
    have s35:ai (E2 b L) H J5:=((s3.trans sJ).imp fun a h=>.inl h).trans (s5.imp fun a h=>.inr h)
    have tp:=s35.tup
    have e1:ys[nj]?=some ys[nj]:=List.getElem?_eq_getElem (by trivial)
    have e2:cur.ts[nj]?=some cur.ts[nj]:=List.getElem?_eq_getElem hnj
    have dj:aB ED H ys[nj] (f6 cur.ts[nj]):=hy.nth nj e1 (by rw [List.getElem?_map,e2];rfl)
    obtain ⟨ta,m,g,pr,eta,hta,hm,hg,hpr⟩:=uj (dj.mono (bK tp))
    refine cJ fun Qb nb=>⟨(),(),tt,ys,_,(),rfl,ae.of (tp _ _ htt),c0 e1,(),_,(),rfl,(),ta,_,eta,ae.of hta,hta,fun q1 K1 sk1 hk1=>?_⟩
    have kat:kk.at<5:=by cases kk <;> decide
    rw [show (2:Int)+wy=((kk.at:Nat):Int) by trivial,vX] at hk1
    refine ⟨(),(by show 1≤10000;decide),fun q2 K2 mk2=>⟨q1,q2,_,(),rfl,mk2.sm _ _ hk1,mk2.at',by rw [List.length_take,List.length_singleton];trivial,fun q3 K3 sk3 hk3=>?_⟩⟩
    have sK3:=(sk1.trans mk2.sm).trans sk3
    refine ⟨(),(),tt,ys,_,(),rfl,ae.of (sK3 _ _ (tp _ _ htt)),c0 e1,(),_,(),rfl,(),ta,_,eta,ae.of (sK3 _ _ hta),sK3 _ _ hta,fun q4 K4 sk4 hk4=>?_⟩
    rw [show (3:Int)+wy=((kk.at+1:Nat):Int) by trivial,xJ] at hk4
    refine ⟨q3,q4,_,(),rfl,sk4 _ _ hk3,hk4,by simp [List.length_take,List.length_drop];trivial,fun q5 K5 sk5 hk5=>nb _ _ ?_⟩
    rw [GJ] at hk5
    have sK5:=(sK3.trans sk4).trans sk5
    have dt:aB ED K5 (.ref q5) (f6 (AA kk x cur.ts[nj])):=by
     have y3:=((hx.mono (bK s5.tup)).mono sK5.toE)
     have m3':=hm.mono sK5.toE
     have g3:=hg.mono sK5.toE
     have p3':=hpr.mono sK5.toE
     cases kk
     ·exact .tup hk5 (.cons (.str _) (.cons (.str _) (.cons y3 (.cons g3 (.cons p3' .nil)))))
     ·exact .tup hk5 (.cons (.str _) (.cons (.str _) (.cons m3' (.cons y3 (.cons p3' .nil)))))
     ·exact .tup hk5 (.cons (.str _) (.cons (.str _) (.cons m3' (.cons g3 (.cons y3 .nil)))))
    have htt5:=sK5 _ _ (tp _ _ htt)
    refine ⟨(),(),(),tt,ys,rfl,ae.of htt5,htt5,fun r1 M1 sm1 hm1=>?_⟩
    rw [vX] at hm1
    refine ⟨(),(by show 1≤10000;decide),fun r2 M2 mm2=>⟨r1,r2,_,(),rfl,mm2.sm _ _ hm1,mm2.at',by rw [List.length_take,List.length_singleton];trivial,fun r3 M3 sm3 hm3=>?_⟩⟩
    have sM3:=(sm1.trans mm2.sm).trans sm3
    refine ⟨(),(),_,(),rfl,(),tt,ys,rfl,ae.of (sM3 _ _ htt5),sM3 _ _ htt5,fun r4 M4 sm4 hm4=>?_⟩
    rw [show ((nj:Int)+1)=((nj+1:Nat):Int) by trivial,xJ] at hm4
    refine ⟨r3,r4,_,(),rfl,sm4 _ _ hm3,hm4,by simp [List.length_take,List.length_drop];trivial,fun r5 M5 sm5 hm5=>rest _ _ ?_⟩
    rw [yX ys nj (.ref q5) (by trivial)] at hm5
    have sM:ad K5 M5:=(sM3.trans sm4).trans sm5
    have sA:ad J5 M5:=sK5.trans sM
    refine ⟨r5,q,e,_,_,_,_,_,_,.part kk (nj:Int) x,t6,rfl,rn,(fun z=>nomatch z),s35.trans sA.toE,?_,by trivial,by trivial,rd5.sm sA,rfl,hm5,?_,sA _ _ (tp _ _ hq),(he.mono (bK tp)).mono sA.toE,⟨gs.np,fun z hz=>?_,gs.ne⟩,qQ ..⟩
    ·exact (((B6.same m4.sm).frm s5 nbL)).same sA
    ·show aw ED M5 (ys.set nj (.ref q5)) ((pK cur.ts kk (nj:Int).toNat x).map f6)
     rw [Int.toNat_natCast,ww e2,List.map_set]
     exact (((hy.mono (bK tp)).mono sA.toE).set (dt.mono sM.toE) nj)
    ·replace hz:z∈pK cur.ts kk (nj:Int).toNat x:=hz
     rw [Int.toNat_natCast,ww e2] at hz
     rcases List.mem_or_eq_of_mem_set hz with h | h
     ·exact gs.nt z h
     ·have:=gs.nt cur.ts[nj] (List.getElem_mem hnj)
      rw [h]
      cases kk <;> exact this
   ·have dn:∀v' H',aB ED H' v' (uW past cur (.part kk (nj:Int) x))→v'=.non:=fun v' H' h=>by
     have h:aB ED H' v' .none:=h
     cases h
     rfl
    refine ⟨(),rfl,(),?_⟩
    cases kk with
    | m=>
     cases (show wy=0 by rw [ekk];rfl)
     refine cx ⟨(),r,dx4,(),hr4,rfl,(),(),r,L,.m,(nj:Int),x,.ref o,past,cur,rfl,(fun z h=>by injection h),hx,rd4,ok5,pd rn (fun z=>nomatch z) fun v' H' sd rdd dv=>?_⟩
     rw [dn v' H' dv]
     exact rest2 _ _ ⟨(),sd,rdd⟩
    | g=>
     cases (show wy=1 by rw [ekk];rfl)
     refine aT ⟨(),rfl,(),cx ⟨(),r,dx4,(),hr4,rfl,(),(),r,L,.g,(nj:Int),x,.ref o,past,cur,rfl,(fun z h=>by injection h),hx,rd4,ok5,pd rn (fun z=>nomatch z) fun v' H' sd rdd dv=>?_⟩⟩
     rw [dn v' H' dv]
     exact rest2 _ _ ⟨(),sd,rdd⟩
    | p=>
     cases (show wy=2 by rw [ekk];rfl)
     refine aT ⟨(),rfl,(),aT ⟨(),r,dx4,(),hr4,rfl,(),(),r,L,.p,(nj:Int),x,.ref o,past,cur,rfl,(fun z h=>by injection h),hx,rd4,ok5,pd rn (fun z=>nomatch z) fun v' H' sd rdd dv=>?_⟩⟩
     rw [dn v' H' dv]
     exact rest2 _ _ ⟨(),sd,rdd⟩
  ·have hw:¬wy<3:=fun z=>c (decide_eq_true z)
   refine ⟨(),_,(),rfl,(),cF (fun c=>?_) fun c=>?_⟩
   ·have ref_s:dP cur (mM (!decide ((nj:Int)∈cur.sh)) (nj:Int))=none:=by
     rw [qU,if_pos hs]
     cases decide ((nj:Int)∈cur.sh) <;> rfl
    have nbk:∀z,mM z (nj:Int)≠.back:=fun z=>by cases z <;> exact fun h=>nomatch h
    have tol:∀z v' H',aB ED H' v' (uW past cur (mM z (nj:Int)))→v'=.non:=fun z v' H' h=>by
     have h:aB ED H' v' .none:=by cases z <;> exact h
     cases h
     rfl
    have nx:∀z,aV cur (mM z (nj:Int))={ cur with sh:=if z then cur.sh++[(nj:Int)] else cur.sh.erase (nj:Int) }:=fun z=>by cases z <;> rfl
    have hq3:=s3.tup _ _ hq
    obtain ⟨dx3,_,_,hr3,_,_,_⟩:=rd3.last
    refine HX (fun v H'=>v=.non∧ai (Eb L) H3 H'∧aI T.x_Roads H' r L (past++[cur]++[aV cur (mM (!decide ((nj:Int)∈cur.sh)) (nj:Int))])) ?_ fun rest2=>?_
    ·rintro v J1 ⟨rfl,sj,rdj⟩
     have s31:ai (E2 b L) H J1:=(s3.imp fun a h=>.inl h).trans (sj.imp fun a h=>.inr h)
     have hqj:=s31.tup _ _ hq
     have lsh:=ok.cu.ls
     refine ⟨(),q,rfl,⟨_,ae.of hqj⟩,fun D hD=>wS (xs:=cur.sh.map V.int) (fun x=>!decide (x=V.int (nj:Int))) (by rw [List.length_map];trivial) hD hqj ?_ ?_⟩
     ·intro x H' R R0 hx sx k1 k0
      obtain ⟨i,_,rfl⟩:=List.mem_map.mp hx
      refine ⟨il,(),(),rfl,(),?_⟩
      cases h:!decide (V.int i=V.int (nj:Int)) with
      | true=>exact cx ⟨_,rfl,k1 h⟩
      | false=>exact aT (k0 h)
     intro J2 s2' hD2
     rw [xN] at hD2
     refine ⟨D,(),aA.of hD2,fun p3' J3 m3'=>⟨(),(by show 1≤10000;decide),fun p4 J4 m4=>⟨(),(),q,(),.inr (ae.of ((s2'.trans (m3'.sm.trans m4.sm)) _ _ hqj)),rfl,mX _,?_⟩⟩⟩
     have s24:=s2'.trans (m3'.sm.trans m4.sm)
     simp only [if_true,xh]
     refine .inr ⟨(),p4,_,_,(),rfl,m4.at',?_,fun p5 J5 s5 h5=>⟨p3',p5,_,(),rfl,s5 _ _ (m4.sm _ _ m3'.at'),h5,?_,fun p6 J6 s6 h6=>rest _ _ ?_⟩⟩
     ·cases decide ((nj:Int)∈cur.sh)
      ·exact .inr rfl
      ·exact .inl rfl
     ·have l1:((cur.sh.filter fun i=>decide (i≠(nj:Int))).map V.int).length≤1000:=by
       rw [List.length_map]
       exact Nat.le_trans (List.length_filter_le ..) lsh
      split
      ·show _+1≤_;trivial
      ·show _+0≤_;trivial
     have sA:ad J1 J6:=s24.trans (s5.trans s6)
     have esh:(cur.sh.filter fun i=>decide (i≠(nj:Int))).map V.int++(if (if (!decide ((nj:Int)∈cur.sh))=true then (1:Int) else 0)=1 then [V.int (nj:Int)] else [])=(aV cur (mM (!decide ((nj:Int)∈cur.sh)) (nj:Int))).sh.map V.int:=by
      rw [nx]
      have ef:cur.sh.erase (nj:Int)=cur.sh.filter fun i=>decide (i≠(nj:Int)):=by
       rw [ok.cu.nd.erase_eq_filter]
       congr 1
       funext i
       rw [Bool.eq_iff_iff,bne_iff_ne,decide_eq_true_iff]
      by_cases hin:(nj:Int)∈cur.sh
      ·rw [decide_eq_true hin]
       show _=(cur.sh.erase (nj:Int)).map V.int
       rw [ef]
       exact List.append_nil _
      ·rw [decide_eq_false hin]
       show _=(cur.sh++[(nj:Int)]).map V.int
       rw [←ef,List.erase_of_not_mem hin,List.map_append]
       rfl
     refine ⟨tt,p6,e,_,_,_,_,_,ys,_,t2,rfl,ref_s,nbk _,s31.trans sA.toE,((B3.frm sj nbL)).same sA,by trivial,by trivial,rdj.sm sA,by rw [nx],sA _ _ (s31.tup _ _ htt),?_,?_,?_,?_,?_⟩
     ·rw [nx]
      exact (hy.mono (bK s31.tup)).mono sA.toE
     ·rw [h6,esh]
     ·rw [nx]
      exact (he.mono (bK s31.tup)).mono sA.toE
     ·rw [nx]
      exact ⟨gs.np,gs.nt,gs.ne⟩
     ·rw [nx]
    ·refine ⟨(),(),q,(),.inr (ae.of hq3),rfl,mX _,(),?_⟩
     simp only [if_false,Bool.false_eq_true,xh]
     by_cases hin:(nj:Int)∈cur.sh
     ·rw [decide_eq_true hin] at ref_s rest2 ⊢
      refine cx ⟨(),r,dx3,(),hr3,rfl,(),r,L,false,(nj:Int),past,cur,rfl,(fun z h=>by injection h),rd3,ok5,pd ref_s (nbk _) fun v' H' sd rdd dv=>?_⟩
      exact rest2 _ _ ⟨tol _ _ _ dv,sd,rdd⟩
     ·rw [decide_eq_false hin] at ref_s rest2 ⊢
      refine aT ⟨(),r,dx3,(),hr3,rfl,(),r,L,true,(nj:Int),past,cur,rfl,(fun z h=>by injection h),rd3,ok5,pd ref_s (nbk _) fun v' H' sd rdd dv=>?_⟩
      exact rest2 _ _ ⟨tol _ _ _ dv,sd,rdd⟩
   ·refine cJ fun Qb nb=>⟨(),b,3,t2,rfl,B3,by decide,by decide,by trivial,by trivial,fun f t4 J1 f0 f1 h1a' h1b' s1' B1'=>nb _ _ ?_⟩
    obtain ⟨jf,rfl⟩:=Int.eq_ofNat_of_zero_le f0
    have hf:jf<ls.length:=by trivial
    have hp1:=(s3.trans s1').tup _ _ hp
    rw [fu.pl] at hp1
    have e1:(ls.map aH)[jf]?=some (aH ls[jf]):=by rw [List.getElem?_map,List.getElem?_eq_getElem hf];rfl
    refine cJ fun Qc nc=>⟨(),(),p,_,_,(),rfl,ae.of hp1,c0 e1,(),(),_,(),rfl,(),b,2,t4,rfl,B1',by decide,by decide,by trivial,by trivial,fun g t5 J2 g0 g1 h2a' h2b' s2' B2'=>?_⟩
    obtain ⟨jg,ejg,hg,hgf⟩:∃n:Nat,((jf:Int)+1+g) % 3=n∧n<ls.length∧n≠jf:=⟨(((jf:Int)+1+g) % 3).toNat,by trivial,by trivial,by trivial⟩
    have hp2':=s2'.tup _ _ hp1
    have e2:(ls.map aH)[jg]?=some (aH ls[jg]):=by rw [List.getElem?_map,List.getElem?_eq_getElem hg];rfl
    refine ⟨_,(),rfl,_,(),rfl,(by show (0:Int)<3;decide),p,_,_,(),rfl,ae.of hp2',by rw [ejg];exact c0 e2,(by show 2≤10000;decide),fun q5 J5 m5'=>nc _ _ ?_⟩
    have sb:ai (Eb b) H J5:=((s3.trans s1').trans s2').trans m5'.sm.toE
    have rd5:=rd.keep sb (Ne.symm nbr) (Ne.symm nbL)
    obtain ⟨dx5,_,_,hr5,_,_,_⟩:=rd5.last
    have bl:ls[jf]∈cur.pl∧ls[jg]∈cur.pl∧ls[jf]≠ls[jg]:=⟨by rw [fu.pl];exact List.getElem_mem hf,by rw [fu.pl];exact List.getElem_mem hg,fun e=>hgf ((List.getElem?_inj (i:=jf) (j:=jg) hf fu.nd).mp (by rw [List.getElem?_eq_getElem hf,List.getElem?_eq_getElem hg,e])).symm⟩
    have rn:dP cur (.ends ls[jf] ls[jg])=none:=if_pos bl
    refine ⟨(),r,dx5,(),hr5,rfl,(),q5,_,_,(),rfl,ae.of m5'.at',rfl,(),q5,_,_,(),rfl,ae.of m5'.at',rfl,r,L,ls[jf],ls[jg],past,cur,rfl,rd5,ok5,pd rn (fun z=>nomatch z) fun v' J6 s6 rd6 dv=>?_⟩
    have dv:aB ED J6 v' .none:=dv
    cases dv
    have sE:ai (E2 b L) H J6:=(sb.imp fun a h=>.inl h).trans (s6.imp fun a h=>.inr h)
    refine rest _ _ ⟨tt,q,.ref q5,_,_,_,_,_,ys,_,t5,rfl,rn,(fun z=>nomatch z),sE,(B2'.same m5'.sm).frm s6 nbL,by trivial,by trivial,rd6,rfl,sE.tup _ _ htt,hy.mono (bK sE.tup),sE.tup _ _ hq,.tup (s6.tup _ _ m5'.at') (.cons (.str _) (.cons (.str _) .nil)),⟨gs.np,gs.nt,fun z hz=>?_⟩,rfl⟩
    have hz:some (ls[jf],ls[jg])=some z:=hz
    injection hz with hz
    rw [←hz]
    exact ⟨fu.nm _ (List.getElem_mem hf),fu.nm _ (List.getElem_mem hg)⟩
end
end K72
namespace K72
open PySem L2
set_option maxHeartbeats 8000000
theorem kG {E:Addr→Prop}{b:Addr}{H H1 H2:Hp} (s:ai (Eb b) H H1) (s':ai E H1 H2) (h:∀a,E a→a=b∨H a=none):ai (Eb b) H H2:=
 ⟨fun a o n z=>s'.old a o (fun e=>by
  rcases h a e with q | q
  ·exact n q
  ·rw [q] at z;cases z) (s.old a o n z),fun a us z=>s'.tup a us (s.tup a us z)⟩
structure Pr (C:Addr) (H:Hp) (r L R:Addr) (sts:List aC) (N:Nat):Prop where
 rd:aI C H r L sts
 rw:cN H R sts
 ok:∀s∈sts,l7 N s∧Gs s
 ln:sts.length≤N+1
 nL:R≠L
 nr:R≠r
 sh:∃past,∃cur,sts=past++[cur]
theorem Pr.keep {C:Addr}{E:Addr→Prop}{H H':Hp}{r L R:Addr}{sts:List aC}{N:Nat} (p:Pr C H r L R sts N) (s:ai E H H') (h1:¬E r) (h2:¬E L) (h3:¬E R):Pr C H' r L R sts N:=⟨p.rd.keep s h1 h2,p.rw.keep s h3,p.ok,p.ln,p.nL,p.nr,p.sh⟩
theorem Pr.mono {C:Addr}{H:Hp}{r L R:Addr}{sts:List aC}{N M:Nat} (p:Pr C H r L R sts N) (h:N≤M):Pr C H r L R sts M:=⟨p.rd,p.rw,fun s hs=>⟨(p.ok s hs).1.mono h,(p.ok s hs).2⟩,Nat.le_trans p.ln (Nat.succ_le_succ h),p.nL,p.nr,p.sh⟩
theorem Pr.sm {C:Addr}{H H':Hp}{r L R:Addr}{sts:List aC}{N:Nat} (p:Pr C H r L R sts N) (s:ad H H'):Pr C H' r L R sts N:=p.keep (E:=fun _=>False) s.toE (fun z=>z) (fun z=>z) fun z=>z
theorem Pr.good {C:Addr}{H:Hp}{r L R:Addr}{sts:List aC}{N:Nat} (p:Pr C H r L R sts N) (h:N≤900):∀s∈sts,yf s:=fun s hs=>⟨(p.ok s hs).1.mono (by trivial),(p.ok s hs).2⟩
theorem Pr.sok {C:Addr}{H:Hp}{r L R:Addr}{past:List aC}{cur:aC}{N:Nat} (p:Pr C H r L R (past++[cur]) N) (h:N≤900):ju 1000 past cur:=xO (p.good h) (by have:=p.ln;simp at this;trivial)
structure Ap (H:Hp) (b L R r2 L2 R2:Addr):Prop where
 r2:r2≠b∧r2≠L∧r2≠R
 l2:L2≠b∧L2≠L∧L2≠R
 o2:R2≠b∧R2≠L∧R2≠R
 fl:H L2=none
 fR:H R2=none
def E3 (a b c:Addr):Addr→Prop:=fun x=>x=a∨x=b∨x=c
theorem Ap.keep {C:Addr}{H H1 H2:Hp}{b L R r2 L2 R2:Addr}{sts:List aC}{N:Nat} (a:Ap H b L R r2 L2 R2) (p:Pr C H1 r2 L2 R2 sts N) (s:ai (E3 b L R) H1 H2):Pr C H2 r2 L2 R2 sts N:=by
 refine p.keep s ?_ ?_ ?_
 ·rintro (h | h | h)
  ·exact a.r2.1 h
  ·exact a.r2.2.1 h
  ·exact a.r2.2.2 h
 ·rintro (h | h | h)
  ·exact a.l2.1 h
  ·exact a.l2.2.1 h
  ·exact a.l2.2.2 h
 ·rintro (h | h | h)
  ·exact a.o2.1 h
  ·exact a.o2.2.1 h
  ·exact a.o2.2.2 h
theorem gM {H:Hp}{a c:Addr}{o:HO} (h:H a=some o) (f:H c=none):c≠a:=fun e=>by rw [e,h] at f;cases f
theorem zn {C:Addr}{H H1 H2 H3:Hp}{b r L R r2 L2 R2:Addr}{t:Int}{sts:List aC}{N:Nat}{xs:List V} (s:ai (Eb b) H H1) (B:Bx H1 b t) (p:Pr C H1 r L R sts N) (s2:ad H1 H2) (f1:H1 r2=none) (f2:H1 L2=none) (rd:aI C H2 r2 L2 sts) (hR:H1 R=some (.lst xs)) (hx:aw ED H1 xs (sts.map kW)) (n:Nw H2 R2 (.lst xs) H3):Ap H b L R r2 L2 R2∧Pr C H3 r2 L2 R2 sts N:=by
 obtain ⟨dx,_,hr,hL,_⟩:=id p.rd
 obtain ⟨dx2,_,hr2,hL2,_⟩:=id rd
 obtain ⟨c1,c2,hb,_⟩:=B
 have f3:H1 R2=none:=s2.free n.fr
 refine ⟨⟨⟨gM hb f1,gM hL f1,gM hR f1⟩,⟨gM hb f2,gM hL f2,gM hR f2⟩,⟨gM hb f3,gM hL f3,gM hR f3⟩,s.none (gM hb f2) f2,s.none (gM hb f3) f3⟩,rd.sm n.sm,⟨xs,n.at',hx.mono (s2.trans n.sm).toE⟩,p.ok,p.ln,gM hL2 n.fr,gM hr2 n.fr,p.sh⟩
theorem D4:Cd 60 (yE iI):=by
 refine (Cd.tup (k:=1) fun d hd=>?_).mono (by decide)
 simp only [List.mem_cons,List.not_mem_nil,or_false] at hd
 rcases hd with rfl | rfl <;> exact Cd.tup (k:=0) fun d hd=>nomatch hd
section
variable {P:Program}{w:World}{K:PySem.W.Frag}{mg:Str→Option Value}{base:Heap}
inductive BC (vs:List V) (H:Hp) (Q:VK):Prop
 | mk (b:Addr) (t:Int) (h0:vs=[.ref b]) (h1:Bx H b t) (h2:0≤t) (h3:t≤700000) (h4:∀t' H',ai (Eb b) H H'→Bx H' b t'→t≤t'→t'≤t+9000→Q (.bl true) H')
def BN:Sp:=fun vs H Q _=>BC  vs H Q
theorem wO (T:Txt K mg):aD P w K mg base CX0 6 T.l_roads_right_.f T.l_roads_right_.d ["_law_box"] BN:=by
 have G_Roads____init__:=#[(rS)]
 have G_Roads__back:=#[(zi)]
 have G_Roads__net:=#[(AS)]
 have G_Roads__deeds:=#[(vd)]
 have G_Roads__twin:=#[(DL)]
 have G_l_begun:=#[(BW)]
 have G_l_take:=#[(iU)]
 have G_l_deed:=#[(Cz)]
 have G_l_stands:=#[(xj)]
 have G_l_gone_back:=#[(yu)]
 refine T.l_roads_right_.F.ok cq (fun vs H Q E h=>?_) (fun cdv A outer s H vs Q E hr h=>?_)
 ·obtain ⟨b,t,rfl,_⟩:=h
  rfl
 ·obtain ⟨b,t,rfl,B,ht0,ht1,k⟩:=h
  refine ⟨_,#[#[1,cq.nd,aN,#[x8 11 T.mk_Roads G_Roads____init__ (hr.mono (by decide)) qh T.m_Roads T.B_Roads____init__ (@cT _) (by decide)]] :: #[#[2,cq.nd,bi,#[G_l_begun,oC,T.l_begun_,#[[#[0,bU],#[1,aN]]]]] :: #[#[aU 8 #[aq 8 (@xR _) #[2,bi] #[jw 3] #[(),()]] #[aa 3 #[ay 4 #[bP 4]]] (@aM _)] :: #[#[3,cq.nd,dD,#[#[ca 4 #[[#[()],#[am 8 (@bn _) #[()] #[G_l_take,cB,T.l_take_,#[[#[0,bU],#[()]]]]],#[G_l_take,cB,T.l_take_,#[[#[0,bU],#[()]]]]]]][#[G_l_take,cB,T.l_take_,#[[#[0,bU],#[()]]]]]!]] :: #[#[Ei 2 (4) (5) (6) _ _ _ _ _ _ _ _ _ _ _ _ _ _ rfl cq.nd rfl rfl rfl (by decide) (by decide) (by decide) j8 cD b9 #[[#[G_l_take,cB,T.l_take_,#[[#[0,bU],#[am 8 (@bn _) #[3,dD] #[()]]]]],#[bZ 17 #[1,aN] T.c_Roads T.h_Roads__twin G_Roads__twin (hr.mono (by decide)) T.B_Roads__twin .nil (@cT _) (by rfl)],#[bW 9 (@mF _ (K) (by rfl)) kP T.b_list (@kI) #[[#[2,bi]]] (by decide) (by decide) (by rfl) (by rfl)]]] (by kernel_rfl) (by rfl)] :: #[#[fe 8 PassesOwn.never rfl #[cb 6 qw T.b_range #[[#[3,dD]]] (by rfl)] #[7,cq.nd,dE] #[#[aU 8 #[aq 8 (@b7 _) #[7,dE] #[4,j8] #[(),()]] #[aa 3 #[nN 2 (5) (6) _ _ _ _ _ _ _ _ _ _ _ rfl cq.nd rfl rfl (by decide) cD b9 #[[#[bZ 17 #[1,aN] T.c_Roads T.h_Roads__twin G_Roads__twin (hr.mono (by decide)) T.B_Roads__twin .nil (@cT _) (by rfl)],#[bW 9 (@mF _ (K) (by rfl)) kP T.b_list (@kI) #[[#[2,bi]]] (by decide) (by decide) (by rfl) (by rfl)]]] (by kernel_rfl) (by rfl)]] (@aM _)] :: #[#[8,cq.nd,di,#[G_l_deed,pR,T.l_deed_,#[[#[0,bU],#[1,aN],#[#[2,bi][#[cG 6 (@b4 _) #[()]]]!]]]]] :: #[#[aU 8 #[aq 8 (@xR _) #[8,di] #[jw 3] #[(),()]] #[aa 3 #[ay 4 #[bP 4]]] (@aM _)] :: #[#[aO 4 (@cA _ (K) _ _ _ _ _ _ _ _ _ _ _ PySem.F.plainAttrs_list PySem.F.slot_list_append PySem.F.type_list_append (@bQ _) #[2,bi] #[[#[8,di]]] (by rfl) (by rfl) (by rfl) (by rfl) (by rfl) (by rfl)) (by rfl)] :: #[aa 3 #[aU 8 #[PW.pt 3 #[gN 7 #[aq 8 (@b7 _) #[am 8 (@fH _) #[7,dE] #[()]] #[()] #[(),()]] #[fN 4 #[aq 8 (@b7 _) #[7,dE] #[am 8 (@eV _) #[3,dD] #[()]] #[(),()]]]]] #[aa 3 #[aU 8 #[PW.pt 3 #[gN 7 #[fQ 4 #[eX 3 #[G_l_stands,iE,T.l_stands_,#[[#[1,aN],#[8,di]]]] (by intro _;rfl)]] #[fN 4 #[aq 8 (@lQ _) #[bZ 17 #[1,aN] T.c_Roads T.h_Roads__deeds G_Roads__deeds (hr.mono (by decide)) T.B_Roads__deeds .nil (@cT _) (by rfl)] #[am 8 (@eV _) #[(),(),(@cm _ (K) (by rfl)),fv,T.b_len,(@aL),#[[#[2,bi]]]] #[()]] #[(),()]]]]] #[aa 3 #[ay 4 #[bP 4]]] (@aM _)]] (@aM _)]]]]]] (by intro _;rfl)] :: #[#[aU 8 #[PW.pt 3 #[gN 7 #[fQ 4 #[eX 3 #[G_l_gone_back,gu,T.l_gone_back_,#[[#[1,aN],#[2,bi],#[am 8 (@eV _) #[(),(),(@cm _ (K) (by rfl)),fv,T.b_len,(@aL),#[[#[2,bi]]]] #[()]]]]] (by intro _;rfl)]] #[fN 4 #[aq 8 (@ug _ hr.units) #[bZ 17 #[1,aN] T.c_Roads T.h_Roads__net G_Roads__net (hr.mono (by decide)) T.B_Roads__net .nil (@cT _) (by rfl)] #[ak 5 #[[#[ak 5 (@aY _)],#[ak 5 (@aY _)]]]] #[(),()]]]]] #[aa 3 #[ay 4 #[bP 4]]] (@aM _)] :: #[#[aU 8 #[PW.pt 3 #[gN 7 #[aq 8 (@uc _) #[bZ 17 #[1,aN] T.c_Roads T.h_Roads__back G_Roads__back (hr.mono (by decide)) T.B_Roads__back .nil (@cT _) (by rfl)] #[bP 4] #[(),()]] #[gN 7 #[aq 8 (@uc _) #[bZ 17 #[1,aN] T.c_Roads T.h_Roads__back G_Roads__back (hr.mono (by decide)) T.B_Roads__back .nil (@cT _) (by rfl)] #[bP 4] #[(),()]] #[fN 4 #[aq 8 (@lQ _) #[bZ 17 #[1,aN] T.c_Roads T.h_Roads__deeds G_Roads__deeds (hr.mono (by decide)) T.B_Roads__deeds .nil (@cT _) (by rfl)] #[()] #[(),()]]]]]] #[aa 3 #[ay 4 #[bP 4]]] (@aM _)] :: #[#[aU 8 #[PW.pt 3 #[gN 7 #[fQ 4 #[eX 3 #[G_l_stands,iE,T.l_stands_,#[[#[5,cD],#[#[6,b9][#[cG 6 (@b4 _) #[()]]]!]]]] (by intro _;rfl)]] #[fN 4 #[aq 8 (@lQ _) #[bZ 17 #[5,cD] T.c_Roads T.h_Roads__deeds G_Roads__deeds (hr.mono (by decide)) T.B_Roads__deeds .nil (@cT _) (by rfl)] #[am 8 (@eV _) #[(),(),(@cm _ (K) (by rfl)),fv,T.b_len,(@aL),#[[#[6,b9]]]] #[()]] #[(),()]]]]] #[aa 3 #[ay 4 #[bP 4]]] (@aM _)] :: #[aa 3 #[ay 4 #[G_l_gone_back,gu,T.l_gone_back_,#[[#[5,cD],#[6,b9],#[G_l_take,cB,T.l_take_,#[[#[0,bU],#[(),(),(@cm _ (K) (by rfl)),fv,T.b_len,(@aL),#[[#[6,b9]]]]]]]]]]]]]]]]]]]]],?_⟩
  refine aP fun D0 n0=>fun r dx J0 fr0 sJ0 hr0=>⟨r,dx,rfl,hr0,fun L H1 fL0 kp R1=>⟨rfl,n0 _ _ ?_⟩⟩
  have sH1:ad H H1:=fun a o h=>kp a o (fun e=>by rw [e,fr0] at h;cases h) (sJ0 _ _ h)
  have fL:H L=none:=by
   cases h:H L with
   | none=>rfl
   | some o=>rw [sJ0 _ _ h] at fL0;cases fL0
  have nbr:b≠r:=Bx.ne B fr0
  have nbL:b≠L:=Bx.ne B fL
  refine cJ fun Q1 n1=>⟨(),(),b,r,L,t,rfl,B.same sH1,ht0,by trivial,R1,nbL,nbr,fun R past0 cur0 ls t1 H2 fR1 s2 B2 h2a h2b rd2 rw2 hd2 lp2 ok2 fu2=>n1 _ _ ?_⟩
  have fR:H R=none:=by
   cases h:H R with
   | none=>rfl
   | some o=>rw [sH1 _ _ h] at fR1;cases fR1
  have s02:ai (Eb b) H H2:=by
   refine kG (b:=b) sH1.toE s2 ?_
   rintro a (e | e)
   ·exact .inl e
   ·exact .inr (by rw [e];exact fL)
  have nRr:R≠r:=by
   obtain ⟨_,_,h,_,_⟩:=R1
   exact gM h fR1
  have nRL:R≠L:=by
   obtain ⟨_,_,_,h,_⟩:=R1
   exact gM h fR1
  have nbR:b≠R:=Bx.ne B fR
  refine aP fun D2 n2=>⟨(),rfl,(),cF (fun c=>nomatch of_decide_eq_true c) fun _=>n2 _ _ ?_⟩
  have pr2:Pr T.x_Roads H2 r L R (past0++[cur0]) 9:=⟨rd2,rw2,fun s hs=>⟨(ok2 s hs).1.mono (by decide),(ok2 s hs).2⟩,by simp;trivial,nRL,nRr,⟨_,()⟩⟩
  refine cJ fun Q3 n3=>⟨(),b,81,t1,rfl,B2,by decide,by decide,by trivial,by trivial,fun x1 t3 H3 x1a x1b h3a h3b s3 B3=>⟨_,(),rfl,(),b,41,t3,rfl,B3,by decide,by decide,by trivial,by trivial,fun x2 t4 H4 x2a x2b h4a h4b s4 B4=>⟨(by show 3≤10000;decide),fun p5 H5 m5=>⟨(),b,3,t4,rfl,B4.same m5.sm,by decide,by decide,by trivial,by trivial,fun x3 t6 H6 x3a x3b h6a h6b s6 B6=>?_⟩⟩⟩⟩
  have n5:p5≠b:=Ne.symm (Bx.ne B4 m5.fr)
  obtain ⟨many,em,lm⟩:∃many:Nat,jY [V.int 200,.int (120+x1),.int x2] x3=some (V.int (many:Int))∧many≤200:=by
   rcases (show x3=0∨x3=1∨x3=2 by trivial) with rfl | rfl | rfl
   ·exact ⟨200,rfl,Nat.le_refl _⟩
   ·exact ⟨(120+x1).toNat,by rw [Int.toNat_of_nonneg (by trivial)];rfl,by trivial⟩
   ·exact ⟨x2.toNat,by rw [Int.toNat_of_nonneg x2a];rfl,by trivial⟩
  refine ⟨p5,_,_,(),rfl,aA.of (s6.old _ _ n5 m5.at'),em,n3 _ _ ?_⟩
  have s26:ai (Eb b) H2 H6:=((s3.trans s4).trans m5.sm.toE).trans s6
  have s06:=s02.trans s26
  have pr6:=pr2.keep s26 (Ne.symm nbr) (Ne.symm nbL) (Ne.symm nbR)
  refine aP fun D7 n7=>⟨(),(),_,(),rfl,b,(many:Int)+1,t6,rfl,B6,by trivial,(by rw [show (many:Int)+1=((many+1:Nat):Int) by trivial];exact l8 (by trivial)),by trivial,by trivial,fun at_ t7 H7 ata atb h7a h7b s7 B7=>?_⟩
  have pr7:=pr6.keep s7 (Ne.symm nbr) (Ne.symm nbL) (Ne.symm nbR)
  have s07:=s06.trans s7
  obtain ⟨dx7,_,hr7,_,_⟩:=id pr7.rd
  refine ⟨(),r,dx7,(),hr7,rfl,r,L,(),pr7.rd,fun r2 L2 H8 s8 fr2 fL2 rd8=>?_⟩
  obtain ⟨xs7,hR7,hx7⟩:=id pr7.rw
  refine ⟨(),R,xs7,rfl,.inl (aA.of (s8 _ _ hR7)),fun R2 H9 m9=>⟨_,_,(),n7 _ _ ?_⟩⟩
  obtain ⟨ap9,prt9⟩:=zn s07 B7 pr7 s8 fr2 fL2 rd8 hR7 hx7 m9
  have s79:ad H7 H9:=s8.trans m9.sm
  refine aP fun D10 n10=>⟨(),(),by trivial,by trivial,?_⟩
  refine ir (fun i σ H'=>IG fun (r2 L2 R2:Addr) (past:List aC) (cur:aC) (sts2:List aC) (t':Int) (v7 v8:Option V)=>σ=[some (.ref b),some (.ref r),some (.ref R),some (.int (many:Int)),some (.int at_),some (.ref r2),some (.ref R2),v7,v8]∧Pr T.x_Roads H' r L R (past++[cur]) (9+i)∧(∃q,past=iI :: q)∧Ac cur ls∧Pr T.x_Roads H' r2 L2 R2 sts2 (9+i)∧Ap H b L R r2 L2 R2∧Bx H' b t'∧t7≤t'∧t'≤t7+40*i∧ai (Eb b) H H') ⟨r2,L2,R2,past0,cur0,_,t7,_,(),pr7.sm s79,hd2,fu2,prt9,ap9,B7.same s79,by trivial,by trivial,s07.trans s79.toE⟩ ?_ ?_
  ·rintro i σ J hi ⟨r2,L2,R2,past,cur,sts2,t8,v7,v8,rfl,pr,hd,fu,prt,ap,BJ,h8a,h8b,sJ⟩
   have hi':i<200:=by trivial
   refine pb (t:=ko _ _) fun DB nB=>?_
   refine xD (fun σ' H'=>rO fun (r2 L2 R2:Addr) (sts2:List aC)=>σ'=[some (.ref b),some (.ref r),some (.ref R),some (.int (many:Int)),some (.int at_),some (.ref r2),some (.ref R2),some (.int (0+(i:Int))),v8]∧ad J H'∧Pr T.x_Roads H' r2 L2 R2 sts2 (9+i)∧Ap H b L R r2 L2 R2) ?_ fun rest=>?_
   ·rintro σ' J1 ⟨r2,L2,R2,sts2,rfl,s1,prt1,ap1⟩
    have pr1:=pr.sm s1
    have B1:=BJ.same s1
    obtain ⟨ys,u,hR1,ly,hys,hu⟩:=pr1.rw.last
    have gsc:=(pr.ok cur (by simp)).2
    refine cJ fun Q1 n1=>⟨(),(),(),(),R,_,_,(),rfl,aA.of hR1,bS _ _,b,r,L,t8,u,past,cur,ls,rfl,B1,by trivial,by trivial,pr1.rd,pr1.sok (by trivial),hu,gsc,fu,nbL,nbr,fun v' D t9 J2 rn nb sE B2' h9a h9b rd2' dv gs' fu'=>n1 _ _ ?_⟩
    obtain ⟨a9,_,_,_,_,_,rfl,_⟩:=tX dv
    refine aP fun D2 n2=>⟨(),rfl,(),cF (fun c=>nomatch of_decide_eq_true c) fun _=>n2 _ _ ?_⟩
    have hR2:J2 R=some (.lst (ys++[u])):=sE.old _ _ (by rintro (e | e);exact nbR e.symm;exact nRL e) hR1
    have lpp:past.length≤9+i:=by have:=pr.ln;simp at this;trivial
    refine aP fun D3 n3=>⟨(),.inl ⟨rfl,_,aA.of hR2⟩,(),R,_,(),rfl,hR2,by simp [ly];trivial,fun J3 c3=>n3 _ _ ?_⟩
    have s23:ai (fun a=>a=R) J2 J3:=⟨fun a o n h=>c3.ol a o n h,fun a us h=>c3.tup h hR2⟩
    have s13:ai (E3 b L R) J1 J3:=(sE.imp (E':=E3 b L R) (by rintro a (e | e);exact .inl e;exact .inr (.inl e))).trans (s23.imp fun a e=>.inr (.inr e))
    have hall:aw ED J2 (ys++[u]) ((past++[cur]).map kW):=by
     rw [List.map_append]
     exact (hys.mono (bK sE.tup)).append (.cons (hu.mono (bK sE.tup)) .nil)
    have rw3:=cN.app hR2 hall dv c3
    have rd3:=rd2'.keep s23 (Ne.symm nRr) (Ne.symm nRL)
    have pr3:Pr T.x_Roads J3 r L R (past++[cur]++[aV cur D]) (9+(i+1)):=by
     refine ⟨rd3,rw3,fun s hs=>?_,by have:=pr.ln;simp at this ⊢;trivial,nRL,nRr,⟨_,()⟩⟩
     rcases List.mem_append.mp hs with h | h
     ·exact ⟨(pr.ok s h).1.mono (by trivial),(pr.ok s h).2⟩
     ·rw [List.mem_singleton.mp h]
      exact ⟨(pr.ok cur (by simp)).1.next rn,gs'⟩
    have B3:Bx J3 b t9:=B2'.frm s23 nbR
    have sH3:ai (Eb b) H J3:=by
     refine kG (b:=b) (sJ.trans s1.toE) s13 ?_
     rintro a (e | e | e)
     ·exact .inl e
     ·exact .inr (by rw [e];exact fL)
     ·exact .inr (by rw [e];exact fR)
    have prt3:=(ap1.keep prt1 s13).mono (show 9+i≤9+(i+1) by trivial)
    have hd3:∃q,past++[cur]=iI :: q:=by
     obtain ⟨q,rfl⟩:=hd
     exact ⟨q++[cur],rfl⟩
    have fin:∀J4,ad J3 J4→DB.nx [some (.ref b),some (.ref r),some (.ref R),some (.int (many:Int)),some (.int at_),some (.ref r2),some (.ref R2),some (.int (0+(i:Int))),some (.ref a9)] J4:=fun J4 s4=>
     nB _ _ ⟨r2,L2,R2,_,_,sts2,t9,_,(),pr3.sm s4,hd3,fu',prt3.sm s4,ap1,B3.same s4,by trivial,by trivial,sH3.trans s4.toE⟩
    obtain ⟨dx3,_,hr3,_,_⟩:=id rd3
    have dv3:aB ED J3 (.ref a9) (kW (aV cur D)):=dv.mono (bK s23.tup)
    refine ⟨(),_,(),rfl,(by show (0:Int)<8;decide),rfl,(),cF (fun c=>?_) fun c=>⟨(),(),_,(),rfl,rfl,(),cF (fun c=>?_) fun c=>fin _ (ad.refl _)⟩⟩
    all_goals
     refine ⟨(),(),r,L,_,_,(),rd3,pr3.sok (by trivial),dv3,gs',fun J4 s4=>⟨(),aT ⟨(),r,dx3,(),s4 _ _ hr3,rfl,r,L,_,(),rd3.sm s4,(),R,(),.inl (aA.of (s4 _ _ c3.at')),_,(),rfl,rfl,(),?_⟩⟩⟩
     have e:V.int (((past++[cur]).length:Nat):Int)=V.int ((((ys++[u]++[V.ref a9]).length:Nat):Int) - 1):=by
      congr 1
      simp [ly]
      trivial
     rw [decide_eq_true e]
     exact aT (fin _ s4)
   ·refine ⟨(),(),rfl,(),cF (fun c=>?_) fun c=>rest _ _ ⟨r2,L2,R2,sts2,rfl,ad.refl _,prt,ap⟩⟩
    obtain ⟨dxj,_,hrj,_,_⟩:=id pr.rd
    obtain ⟨xsj,hRj,hxj⟩:=id pr.rw
    refine ⟨(),r,dxj,(),hrj,rfl,r,L,(),pr.rd,fun r3 L3 J1 s1 fr3 fL3 rd1=>⟨(),R,xsj,rfl,.inl (aA.of (s1 _ _ hRj)),fun R3 J2 m2=>⟨_,(),rest _ _ ?_⟩⟩⟩
    obtain ⟨ap2,prt2⟩:=zn sJ BJ pr s1 fr3 fL3 rd1 hRj hxj m2
    exact ⟨r3,L3,R3,(),s1.trans m2.sm,prt2,ap2⟩
  ·rintro σ J ⟨r2,L2,R2,past,cur,sts2,t8,v7,v8,rfl,pr,hd,fu,prt,ap,BJ,h8a,h8b,sJ⟩
   refine n10 _ _ ?_
   obtain ⟨q,rfl⟩:=hd
   have ln:=pr.ln
   simp at ln
   have mi:((many:Int) - 0).toNat=many:=by trivial
   obtain ⟨xsJ,hRJ,hxJ⟩:=id pr.rw
   have lx:=hxJ.length
   have lx:xsJ.length=q.length+2:=by rw [lx];simp
   refine aP fun D1 n1=>⟨(),(),(),R,xsJ,rfl,.inl (aA.of hRJ),_,(),rfl,r,L,R,_,q.length+1,(by show [V.ref r,V.ref R,V.int (((xsJ.length:Nat):Int) - 1)]=_;rw [show ((xsJ.length:Nat):Int) - 1=((q.length+1:Nat):Int) by trivial]),pr.rd,pr.rw,nRL,nRr,pr.good (by trivial),by simp;trivial,by simp,fun J1 s1 rd1 rw1=>⟨(),aT ?_⟩⟩
   have e1:(iI :: q++[cur]).take ((iI :: q++[cur]).length - (q.length+1))=[]++[iI]:=by
    rw [show (iI :: q++[cur]).length - (q.length+1)=1 by simp]
    rfl
   rw [e1] at rd1 rw1
   have s1':ai (E3 b L R) J J1:=s1.imp (E':=E3 b L R) (by rintro a (e | e);exact .inr (.inl e);exact .inr (.inr e))
   have prt1:=ap.keep prt s1'
   have B1:Bx J1 b t8:=BJ.frm s1 (by rintro (e | e);exact nbL e;exact nbR e)
   have sH1':ai (Eb b) H J1:=by
    refine kG (b:=b) sJ s1 ?_
    rintro a (e | e)
    ·exact .inr (by rw [e];exact fL)
    ·exact .inr (by rw [e];exact fR)
   obtain ⟨dx1,_,hr1,_,_⟩:=id rd1
   refine ⟨(),r,dx1,(),hr1,rfl,r,L,[],iI,rfl,rd1,ju.zero 5000,fun v2 J2 s2 d2=>⟨(by show 0≤10000;decide),fun p3 J3 m3=>⟨(by show 0≤10000;decide),fun p4 J4 m4=>⟨(by show 2≤10000;decide),fun p5 J5 m5=>?_⟩⟩⟩⟩
   have s15:ad J1 J5:=((s2.trans m3.sm).trans m4.sm).trans m5.sm
   refine ⟨yE iI,_,_,d2.mono ((m3.sm.trans m4.sm).trans m5.sm).toE,.tup (E:=ED) m5.at' (.cons (.tup (m5.sm _ _ (m4.sm _ _ m3.at')) .nil) (.cons (.tup (m5.sm _ _ m4.at') .nil) .nil)),D4,(),aT (n1 _ _ ?_)⟩
   have rd5:=rd1.sm s15
   have prt5:=prt1.sm s15
   refine aP fun D2 n2=>⟨(),r,dx1,(),s15 _ _ hr1,rfl,r,L,[],iI,rfl,rd5,fun J6 s6 rd6=>⟨_,(),rfl,(),aT ?_⟩⟩
   obtain ⟨dx6,_,hr6,_,_⟩:=id rd6
   refine ⟨(),r,dx6,(),hr6,rfl,r,L,[],iI,rfl,rd6,fun J7 s7 rd7=>⟨_,(),rfl,(),aT ?_⟩⟩
   obtain ⟨dx7',_,hr7',_,_⟩:=id rd7
   refine ⟨(),r,dx7',(),hr7',rfl,r,L,[],iI,rfl,rd7,rfl,(),?_⟩
   rw [decide_eq_true (show V.int ((([]:List aC).length:Nat):Int)=V.int 0 from rfl)]
   refine aT (n2 _ _ ?_)
   have s57:ai (Eb L) J5 J7:=s6.trans s7
   have s57':ai (E3 b L R) J5 J7:=s57.imp (E':=E3 b L R) fun a e=>.inr (.inl e)
   have prt7:=ap.keep prt5 s57'
   have B7':Bx J7 b t8:=(B1.same s15).frm s57 nbL
   have sH7:ai (Eb b) H J7:=kG (b:=b) (sH1'.trans s15.toE) s57 fun a e=>.inr (by rw [e];exact fL)
   obtain ⟨past2,cur2,rfl⟩:=prt7.sh
   obtain ⟨ys,u,hR2,ly,hys,hu⟩:=prt7.rw.last
   obtain ⟨dx2,_,hr2,_,_⟩:=id prt7.rd
   have ln2:=prt7.ln
   simp at ln2
   refine aP fun D3 n3=>⟨(),(),(),R2,_,_,(),rfl,aA.of hR2,bS _ _,r2,L2,u,past2,cur2,rfl,prt7.rd,prt7.sok (by trivial),hu,(prt7.ok cur2 (by simp)).2,fun J8 s8=>⟨(),aT ⟨(),r2,dx2,(),s8 _ _ hr2,rfl,r2,L2,past2,cur2,rfl,prt7.rd.sm s8,(),R2,(),.inl (aA.of (s8 _ _ hR2)),_,(),rfl,rfl,(),?_⟩⟩⟩
   have e:V.int ((past2.length:Nat):Int)=V.int ((((ys++[u]).length:Nat):Int) - 1):=by
    congr 1
    simp [ly]
   rw [decide_eq_true e]
   refine aT (n3 _ _ ?_)
   have prt8:=prt7.sm s8
   have lyu:(ys++[u]).length=past2.length+1:=by simp [ly]
   refine zK fun Qr nr=>⟨(),(),(),(),R2,(),.inl (aA.of (s8 _ _ hR2)),b,_,t8,rfl,B7'.same s8,by trivial,l8 (by trivial),by trivial,by trivial,fun x4 t9 J9 x4a x4b h9a h9b s9 B9=>?_⟩
   obtain ⟨n4,rfl⟩:=Int.eq_ofNat_of_zero_le x4a
   have prt9':=prt8.keep s9 ap.r2.1 ap.l2.1 ap.o2.1
   refine ⟨r2,L2,R2,_,n4,rfl,prt9'.rd,prt9'.rw,prt9'.nL,prt9'.nr,prt9'.good (by trivial),by simp;trivial,by rw [lyu] at x4b;simp;trivial,fun J10 s10 _ _=>nr _ _ (k t9 J10 ?_ (B9.frm s10 ?_) (by trivial) (by trivial))⟩
   ·refine kG (b:=b) ((sH7.trans s8.toE).trans s9) s10 ?_
    rintro a (e | e)
    ·exact .inr (by rw [e];exact ap.fl)
    ·exact .inr (by rw [e];exact ap.fR)
   ·rintro (e | e)
    ·exact ap.l2.1 e.symm
    ·exact ap.o2.1 e.symm
end
end K72
namespace K72
open PySem L2
set_option maxHeartbeats 8000000
section
variable {P:Program}{w:World}{K:PySem.W.Frag}{mg:Str→Option Value}{base:Heap}
inductive Ff (vs:List V) (H:Hp) (Q:VK):Prop
 | mk (b:Addr) (t:Int) (h0:vs=[.ref b]) (h1:Bx H b t) (h2:0≤t) (h3:t≤800000) (h4:∀d l0 l1 ts m t' H',ai (Eb b) H H'→aB ED H' d (gG l0 l1 ts m)→(∀x∈ts,yU x)→0≤m.1→Fb 30 m.1 m.2→1≤ts.length→ts.length≤3→Bx H' b t'→t≤t'→t'≤t+500→Q d H')
def G8:Sp:=fun vs H Q _=>Ff  vs H Q
theorem DV (T:Txt K mg):aD P w K mg base CX0 3 T.l_day_.f T.l_day_.d ["_law_box"] G8:=by
 have G_l_names_by:=#[(uM)]
 have G_l_take:=#[(iU)]
 have G_l_most_by:=#[(qN)]
 have G_l_gain_by:=#[(re)]
 have G_l_price_by:=#[(pM)]
 refine T.l_day_.F.ok lM (fun vs H Q E h=>?_) (fun cdv A outer s H vs Q E hr h=>?_)
 ·obtain ⟨b,t,rfl,_⟩:=h
  rfl
 ·obtain ⟨b,t,rfl,B,ht0,ht1,k⟩:=h
  refine ⟨_,#[#[nN 2 (1) (2) _ _ _ _ _ _ _ _ _ _ _ rfl lM.nd rfl rfl (by decide) e7 li #[[#[bW 9 (@bT _ (K) (by rfl)) rH T.b_tuple (@bR) #[[#[G_l_names_by,sV,T.l_names_by_,#[[#[0,dc],#[()]]]]]] (by decide) (by decide) (by rfl) (by rfl)],#[ca 4 (@aY _)]]] (by kernel_rfl) (by rfl)] :: #[#[fe 8 PassesOwn.never rfl #[cb 6 xt T.b_range #[[#[am 8 (@bn _) #[()] #[G_l_take,lC,T.l_take_,#[[#[0,dc],#[()]]]]]]] (by rfl)] #[3,lM.nd,vh] #[#[4,lM.nd,oQ,#[#[ca 4 #[[#[ak 5 #[[#[()],#[()]]]],#[ak 5 #[[#[()]]]],#[ak 5 #[[#[()]]]]]]][#[G_l_take,lC,T.l_take_,#[[#[0,dc],#[()]]]]]!]] :: #[#[5,lM.nd,kL,#[G_l_take,lC,T.l_take_,#[[#[0,dc],#[()]]]]] :: #[#[6,lM.nd,rF,#[ak 5 #[[#[#[1,e7][#[5,kL]]],#[#[1,e7][#[am 8 (@eV _) #[()] #[5,kL]]]],#[G_l_most_by,mI,T.l_most_by_,#[[#[0,dc]]]],#[G_l_gain_by,ur,T.l_gain_by_,#[[#[0,dc]]]],#[G_l_price_by,tH,T.l_price_by_,#[[#[0,dc]]]]]]]] :: #[aa 3 #[aO 4 (@cA _ (K) _ _ _ _ _ _ _ _ _ _ _ PySem.F.plainAttrs_list PySem.F.slot_list_append PySem.F.type_list_append (@bQ _) #[2,li] #[[#[am 8 (@cp _) #[6,rF] #[ak 5 #[[#[()],#[4,oQ]]]]]]] (by rfl) (by rfl) (by rfl) (by rfl) (by rfl) (by rfl)) (by rfl)]]]]] (by intro _;rfl)] :: #[aa 3 #[ay 4 #[ak 5 #[[#[1,e7],#[()],#[bW 9 (@bT _ (K) (by rfl)) rH T.b_tuple (@bR) #[[#[2,li]]] (by decide) (by decide) (by rfl) (by rfl)],#[ak 5 #[[#[ak 5 #[[#[#[1,e7][#[()]]],#[G_l_most_by,mI,T.l_most_by_,#[[#[0,dc]]]],#[ak 5 #[[#[()],#[()]]]]]]]]]],#[ak 5 (@aY _)],#[ak 5 (@aY _)]]]]]]]],?_⟩
  refine BK fun Q0 n0=>⟨(),b,2,t,rfl,B,ht0,by trivial,by decide,by decide,fun D1 ls t1 H1 fD1 s1 hD1 l2 nd nm B1 h1a h1b=>⟨D1,(),aA.of hD1,fun p2 H2 m2=>⟨(by show 0≤10000;decide),fun L H3 m3=>n0 _ _ _ ?_⟩⟩⟩
  have l2:ls.length=2:=l2
  obtain ⟨l0,l1,rfl⟩:bX fun l0 l1=>ls=[l0,l1]:=dy (P:=fun ls=>bX fun l0 l1=>ls=[l0,l1]) (fun a b=>⟨a,b,rfl⟩) ls l2
  have nm0:Nm l0:=ue (nm l0 (by simp))
  have nm1:Nm l1:=ue (nm l1 (by simp))
  have s3:ai (Eb b) H H3:=s1.trans (m2.sm.trans m3.sm).toE
  have hp3:H3 p2=some (.tup [aH l0,aH l1]):=m3.sm _ _ m2.at'
  have B3:Bx H3 b t1:=(B1.same m2.sm).same m3.sm
  have nLb:L≠b:=fun e=>(B1.same m2.sm).th (e▸m3.fr)
  have fL:H L=none:=s1.none nLb (m2.sm.free m3.fr)
  refine aP fun Da na=>⟨(),b,3,t1,rfl,B3,by decide,by decide,by trivial,by trivial,fun ma t2 H4 m0 m3' h4a h4b s4 B4=>⟨_,(),rfl,(),by trivial,by trivial,?_⟩⟩
  refine ir (fun j σ H'=>Fv fun (v3 v4 v5 v6:Option V) (ts:List d5) (zs:List V) (t':Int)=>σ=[some (.ref b),some (.ref p2),some (.ref L),v3,v4,v5,v6]∧ai (Eb b) H H'∧H' p2=some (.tup [aH l0,aH l1])∧H' L=some (.lst zs)∧aw ED H' zs (ts.map xg)∧ts.length=j∧(∀x∈ts,yU x)∧Bx H' b t'∧t2≤t'∧t'≤t2+60*j) ⟨_,_,_,_,[],[],t2,rfl,s3.trans s4,s4.tup _ _ hp3,s4.old _ _ nLb m3.at',.nil,rfl,(fun _ h=>nomatch h),B4,by trivial,by trivial⟩ ?_ ?_
  case refine_2=>
   rintro σ J ⟨v3,v4,v5,v6,ts,zs,t',rfl,sJ,hp,hL,hz,lt,gd,BJ,hta,htb⟩
   refine na _ _ ?_
   have hm:(1+ma - 0).toNat≤3∧1≤(1+ma - 0).toNat:=by trivial
   refine ⟨(),(),L,zs,rfl,aA.of hL,fun p3 J3 k3=>⟨(),p2,_,_,(),rfl,ae.of (k3.sm _ _ hp),rfl,(),b,t',rfl,BJ.same k3.sm,by trivial,by trivial,fun o n d t4 J4 s4' ho fo o0 B4' h4a' h4b'=>⟨(by show 2≤10000;decide),fun q5 J5 k5=>⟨(by show 3≤10000;decide),fun q6 J6 k6=>⟨(by show 1≤10000;decide),fun q7 J7 k7=>⟨(by show 0≤10000;decide),fun q8 J8 k8=>⟨(by show 0≤10000;decide),fun q9 J9 k9=>⟨(by show 6≤10000;decide),fun qa Ja ka=>?_⟩⟩⟩⟩⟩⟩⟩⟩
   have s4a:ad J4 Ja:=((((k5.sm.trans k6.sm).trans k7.sm).trans k8.sm).trans k9.sm).trans ka.sm
   have s3a:ai (Eb b) J3 Ja:=s4'.trans s4a.toE
   have s0a:ai (Eb b) J Ja:=k3.sm.toE.trans s3a
   have s6a:ad J6 Ja:=((k7.sm.trans k8.sm).trans k9.sm).trans ka.sm
   refine k _ l0 l1 ts (n,d) t4 Ja (sJ.trans s0a) ?_ gd o0 fo (by trivial) (by trivial) (B4'.same s4a) (by trivial) (by trivial)
   refine .tup ka.at' (.cons (.tup (s0a.tup _ _ hp) (.cons (.str _) (.cons (.str _) .nil))) (.cons (.int _) (.cons (.tup (s3a.tup _ _ k3.at') ?_) (.cons (.tup (((k8.sm.trans k9.sm).trans ka.sm) _ _ k7.at') (.cons (.tup (s6a _ _ k6.at') (.cons (.str _) (.cons ?_ (.cons ?_ .nil)))) .nil)) (.cons (.tup ((k9.sm.trans ka.sm) _ _ k8.at') .nil) (.cons (.tup (ka.sm _ _ k9.at') .nil) .nil))))))
   ·exact hz.mono (bK s0a.tup)
   ·exact .tup (s4a _ _ ho) (.cons (.int _) (.cons (.int _) .nil))
   ·exact .tup ((k6.sm.trans s6a) _ _ k5.at') (.cons (.int _) (.cons (.int _) .nil))
  rintro j σ J0 hj ⟨v3,v4,v5,v6,ts,zs,t3,rfl,sJ,hp,hL,hz,lt,gd,BJ,hta,htb⟩
  have hj3:j<3:=by trivial
  refine pb (t:=ko _ _) fun DB nB=>?_
  refine cJ fun Qb nb=>⟨(by show 2≤10000;decide),fun o1 J1 k1=>⟨(by show 1≤10000;decide),fun o2 J2 k2=>⟨(by show 1≤10000;decide),fun o3 J3 k3=>⟨(by show 3≤10000;decide),fun o4 J4 k4=>⟨(),b,3,t3,rfl,(((BJ.same k1.sm).same k2.sm).same k3.sm).same k4.sm,by decide,by decide,by trivial,by trivial,fun x t5 J5 x0 x3 h5a h5b s5 B5=>?_⟩⟩⟩⟩⟩
  have s04:ad J0 J4:=((k1.sm.trans k2.sm).trans k3.sm).trans k4.sm
  have n4b:o4≠b:=fun e=>(((BJ.same k1.sm).same k2.sm).same k3.sm).th (e▸k4.fr)
  obtain ⟨po,op,epo,hpo⟩:bX fun (po:Addr) (op:List Int)=>jY [V.ref o1,.ref o2,.ref o3] x=some (.ref po)∧J4 po=some (.tup (op.map V.int)):=by
   rcases (show x=0∨x=1∨x=2 by trivial) with rfl | rfl | rfl
   ·exact ⟨o1,[0,1],rfl,((k2.sm.trans k3.sm).trans k4.sm) _ _ k1.at'⟩
   ·exact ⟨o2,[0],rfl,(k3.sm.trans k4.sm) _ _ k2.at'⟩
   ·exact ⟨o3,[1],rfl,k4.sm _ _ k3.at'⟩
  refine ⟨o4,_,_,(),rfl,aA.of (s5.old _ _ n4b k4.at'),epo,nb _ _ ?_⟩
  have s05:ai (Eb b) J0 J5:=s04.toE.trans s5
  refine cJ fun Qc nc=>⟨(),b,2,t5,rfl,B5,by decide,by decide,by trivial,by trivial,fun f t6 J6 f0 f2 h6a h6b s6 B6=>nc _ _ ?_⟩
  have s06:=s05.trans s6
  have hp6:=s06.tup _ _ hp
  obtain ⟨la,lb,ea,eb,na_,nb_⟩:bX fun la lb=>jY [aH l0,aH l1] f=some (aH la)∧jY [aH l0,aH l1] (1 - f)=some (aH lb)∧Nm la∧Nm lb:=by
   rcases (show f=0∨f=1 by trivial) with rfl | rfl
   ·exact ⟨l0,l1,rfl,rfl,nm0,nm1⟩
   ·exact ⟨l1,l0,rfl,rfl,nm1,nm0⟩
  refine cJ fun Qd nd'=>⟨(),(),p2,_,_,(),rfl,ae.of hp6,ea,(),(),_,(),rfl,p2,_,_,(),rfl,ae.of hp6,eb,(),b,t6,rfl,B6,by trivial,by trivial,fun u1 n1 d1 t7 J7 s7 hu1 fu1 lu1 B7 h7a h7b=>⟨(),b,t7,rfl,B7,by trivial,by trivial,fun u2 n2 d2 t8 J8 s8 hu2 fu2 lu2 B8 h8a h8b=>⟨(),b,t8,rfl,B8,by trivial,by trivial,fun u3 n3 d3 t9 J9 s9 hu3 fu3 lu3 B9 h9a h9b=>⟨(by show 5≤10000;decide),fun q5 Ja ka=>nd' _ _ ?_⟩⟩⟩⟩
  have s7a:ai (Eb b) J7 Ja:=(s8.trans s9).trans ka.sm.toE
  have s8a:ai (Eb b) J8 Ja:=s9.trans ka.sm.toE
  have s6a:ai (Eb b) J6 Ja:=s7.trans s7a
  have s5a:ai (Eb b) J5 Ja:=s6.trans s6a
  have s0a:ai (Eb b) J0 Ja:=s05.trans s5a
  have hLa:=s0a.old _ _ nLb hL
  have lz:=hz.length
  rw [List.length_map] at lz
  refine ⟨(),.inl ⟨rfl,_,aA.of hLa⟩,(),(),(by show 2≤10000;decide),fun qb Jb kb=>⟨q5,qb,_,(),rfl,kb.sm _ _ ka.at',kb.at',(by show 5+2≤10000;decide),fun qc Jc sc hc=>⟨L,zs,(),rfl,(kb.sm.trans sc) _ _ hLa,by trivial,fun Jd cd=>nB _ _ ?_⟩⟩⟩
  have sac:ad Ja Jc:=kb.sm.trans sc
  have hLc:=sac _ _ hLa
  have s0c:ai (Eb b) J0 Jc:=s0a.trans sac.toE
  have hc:Jc qc=some (.tup [aH la,aH lb,.ref u1,.ref u2,.ref u3,.int 0,.ref po]):=hc
  let xx:d5:=⟨⟨la,lb,(n1,d1),(n2,d2),(n3,d3)⟩,op⟩
  have dx:aB ED Jc (.ref qc) (xg xx):=by
   refine .tup hc (.cons (.str _) (.cons (.str _) (.cons ?_ (.cons ?_ (.cons ?_ (.cons (.int _) (.cons (.tup (sac _ _ (s5a.tup _ _ (s5.tup _ _ hpo))) ?_) .nil)))))))
   ·exact .tup (sac _ _ (s7a.tup _ _ hu1)) (.cons (.int _) (.cons (.int _) .nil))
   ·exact .tup (sac _ _ (s8a.tup _ _ hu2)) (.cons (.int _) (.cons (.int _) .nil))
   ·exact .tup (sac _ _ (ka.sm _ _ hu3)) (.cons (.int _) (.cons (.int _) .nil))
   ·exact rl _
  have tcd:∀a us,Jc a=some (.tup us)→Jd a=some (.tup us):=fun a us h=>cd.tup h hLc
  have s0d:ai (Eb b) H Jd:=⟨fun a o n h=>cd.ol a o (fun e=>by rw [e,fL] at h;cases h) ((sJ.trans s0c).old a o n h),fun a us h=>tcd _ _ ((sJ.trans s0c).tup _ _ h)⟩
  have Bc:Bx Jc b t9:=(B9.same ka.sm).same sac
  refine ⟨_,_,_,_,ts++[xx],zs++[.ref qc],t9,rfl,s0d,tcd _ _ (s0c.tup _ _ hp),cd.at',?_,by simp [lt],fun y hy=>?_,Bc.ch cd (Ne.symm nLb),by trivial,by trivial⟩
  ·rw [List.map_append]
   exact ((hz.mono (bK s0c.tup)).append (.cons dx .nil)).mono (bK tcd)
  ·rcases List.mem_append.mp hy with h | h
   ·exact gd y h
   ·rw [List.mem_singleton.mp h]
    exact ⟨lu1,fu1,fu2.mono (by decide),na_,nb_⟩
end
end K72
namespace K72
open PySem L2
set_option maxHeartbeats 8000000
theorem Fs {x:V}{A B:Prop} (h:B):if (!decide (x=x))=true then A else B:=by
 rw [decide_eq_true rfl];exact aT h
def xZ (x:Nat×List Int):PyData:=.tuple [.int (x.1:Int),.tuple (x.2.map .int)]
def stO (n:Nat) (x:Nat×List Int):gT:=⟨(List.range n).map fun (j:Nat)=>decide ((j:Int)∈x.2),x.1⟩
theorem Bj {n j:Nat}{x:Nat×List Int} (h:j<n):(stO n x).sh[j]?=some (decide ((j:Int)∈x.2)):=by
 show ((List.range n).map fun (j:Nat)=>decide ((j:Int)∈x.2))[j]?=_
 rw [List.getElem?_map,List.getElem?_range h]
 rfl
theorem BA {H:Hp}{v:V}{x:Nat×List Int} (h:aB ED H v (xZ x)):bX fun a p=>v=.ref a∧H a=some (.tup [.int (x.1:Int),.ref p])∧H p=some (.tup (x.2.map V.int)):=by
 cases h with
 | @tup a xs _ ha r=>
 cases r with
 | cons h1 r=>
 cases r with
 | cons h2 r=>
 cases r
 cases h1
 cases h2 with
 | @tup p _ _ hp rp=>
 rw [uZ rp] at hp
 exact ⟨a,p,rfl,ha,hp⟩
theorem zP {H:Hp}{a p:Addr}{x:Nat×List Int} (ha:H a=some (.tup [.int (x.1:Int),.ref p])) (hp:H p=some (.tup (x.2.map V.int))):aB ED H (.ref a) (xZ x):=.tup ha (.cons (.int _) (.cons (.tup hp (rl _)) .nil))
theorem EI (n:Nat):Cd 60 (rB n):=by
 have two:Cd 2 nI:=.lst fun d hd=>by
  simp only [List.mem_cons,List.not_mem_nil,or_false] at hd
  rcases hd with rfl | rfl <;> exact Cd.fr _
 refine (Cd.tup (k:=3) fun d hd=>?_).mono (by decide)
 simp only [List.mem_cons,List.not_mem_nil,or_false] at hd
 rcases hd with rfl | rfl | rfl
 ·exact .lst fun d hd=>by rw [List.eq_of_mem_replicate hd];exact two
 ·exact .lst fun d hd=>by rw [List.mem_singleton.mp hd];exact two
 ·exact .lst fun d hd=>nomatch hd
def xn (ts:List d5) (x:Nat×List Int) (j:Nat):Bool:=match ts[j]? with
 | some t=>decide ((x.1:Int)∈t.op) && !decide ((j:Int)∈x.2)
 | none=>false
theorem Be {ts:List d5}{x:Nat×List Int}{j:Nat}{t:d5} (h:ts[j]?=some t):xn ts x j=(decide ((x.1:Int)∈t.op) && !decide ((j:Int)∈x.2)):=by
 unfold xn
 rw [h]
section
variable {P:Program}{w:World}{K:PySem.W.Frag}{mg:Str→Option Value}{base:Heap}
inductive zM (C:Addr) (vs:List V) (H:Hp) (Q:VK):Prop
 | mk (r L:Addr) (d:V) (l0 l1:List Nat) (ts:List d5) (m:KM.Fra) (past:List gT) (x:Nat×List Int) (v:V) (h0:vs=[.ref r,d,v]) (h1:bO C H r L d ts.length (past++[stO ts.length x])) (h2:aB ED H d (gG l0 l1 ts m)) (h3:aB ED H v (xZ x)) (h4:x.1≤100) (h5:ts.length≤100) (h6:∀H',ad H H'→Q (.bl true) H')
def Bl (C:Addr):Sp:=fun vs H Q _=>zM C vs H Q
theorem At (T:Txt K mg):aD P w K mg base CX0 4 T.l_day_stands_.f T.l_day_stands_.d ["_law_run", "_law_day_here", "_law_state"] (Bl T.x_DayRun):=by
 have G_DayRun__now:=#[(zr)]
 have G_DayRun__book:=#[(Cw)]
 have G_DayRun__is_open:=#[(As)]
 refine T.l_day_stands_.F.ok oU (fun vs H Q E h=>?_) (fun cdv A outer s H vs Q E hr h=>?_)
 ·obtain ⟨r,L,d,l0,l1,ts,m,past,x,v,rfl,_⟩:=h
  rfl
 ·obtain ⟨r,L,d,l0,l1,ts,m,past,x,v,rfl,R,hd,hv,lx,lt,k⟩:=h
  refine ⟨_,#[#[aU 8 #[PW.pt 3 #[gN 7 #[aq 8 (@lQ _) #[bZ 17 #[0,(j9)] T.c_DayRun T.h_DayRun__now G_DayRun__now (hr.mono (by decide)) T.B_DayRun__now .nil (@cT _) (by rfl)] #[#[2,(pS)][#[()]]] #[(),()]] #[fN 4 #[aq 8 (@ug _ hr.units) #[bZ 17 #[0,(j9)] T.c_DayRun T.h_DayRun__book G_DayRun__book (hr.mono (by decide)) T.B_DayRun__book .nil (@cT _) (by rfl)] #[ak 5 #[[#[cI 7 (["_law_tie"]) (1) ([]) _ _ _ _ rfl (by kernel_rfl) (@iw _ (K) _ _ _ #[#[1,eH][#[()]]] (by rfl)) (fun _ _ _ _ _ _=>#[0,(),()]) (fun _ _ _ _ _ _=>@cf _) (fun _ _ _ _ _ _=>#[am 8 (@wp _) #[ca 4 #[[#[ak 5 #[[#[()],#[()]]]]]]] #[()]]) (by intro _;rfl)],#[ca 4 #[[#[am 8 (@wp _) #[ca 4 #[[#[ak 5 #[[#[()],#[()]]]]]]] #[()]]]]],#[ca 4 (@aY _)]]]] #[(),()]]]]] #[aa 3 #[ay 4 #[bP 4]]] (@aM _)] :: #[#[dI 7 (["_law_number", "_law_tie", "_law_state"]) (2) ([2]) _ _ _ _ (3) _ _ _ oU.nd rfl jn (by kernel_rfl) rfl (by kernel_rfl) (@qY _ (K) _ _ _ _ _ _ _ nR T.b_enumerate #[[#[#[1,eH][#[()]]]]] (by rfl) (by rfl)) (fun _ _ _ _ _ _=>(@aX _ (K) _ _ _ _ (2) rfl #[af 5 #[0,(),()] #[af 5 #[1,(),()] (@bf _) (by rfl)] (by rfl)] (by rfl) (by rfl) (by rfl))) (fun _ _ _ _ _ _=>@cf _) (fun _ _ _ _ _ _=>#[kJ 7 #[c8 8 (@sI _ (K) (by rfl)) #[#[2,0][#[()]]] #[#[1,()][#[()]]] rfl] #[lT 5 #[c8 8 (@ui _ (K) (by rfl)) #[0,()] #[#[2,0][#[()]]] rfl]]]) (by intro _;rfl)] :: #[aa 3 #[ay 4 #[c8 8 (@zj _ hr.units) #[cI 7 (["_law_number", "_law_run"]) (1) ([0]) _ _ _ _ rfl (by kernel_rfl) #[cb 6 rm T.b_range #[[#[(),(),(@cm _ (K) (by rfl)),sT,T.b_len,(@aL),#[[#[#[1,eH][#[()]]]]]]]] (by rfl)] (fun _ _ _ _ _ _=>#[0,(),()]) (fun _ _ _ _ _ _=>@cf _) (fun _ _ _ _ _ _=>#[cj 20 #[1,0] T.c_DayRun T.h_DayRun__is_open G_DayRun__is_open (hr.mono (by decide)) T.B_DayRun__is_open .nil #[iK 3] #[[#[0,()]]] (by rfl) (by rfl) (by rfl)]) (by intro _;rfl)] #[3,jn] #[(),()]]]]]],?_⟩
  obtain ⟨dx,ys,u,hr',hL,hys,hu⟩:=R.last
  obtain ⟨da,dp,dq,st,wl,wi,zs,rfl,hda,hdp,hdq,hzs,hst,hwl,hwi⟩:=dS hd
  obtain ⟨va,vp,rfl,hva,hvp⟩:=BA hv
  have lz:=hzs.length
  rw [List.length_map] at lz
  refine aP fun D0 n0=>⟨(),r,dx,(),hr',rfl,r,L,_,_,past,(),R,(),va,_,_,(),rfl,ae.of hva,rfl,rfl,(),Fs ?_⟩
  refine ⟨(),r,dx,(),hr',rfl,r,L,_,l0,l1,ts,m,past,(),R,hd,lx,lt,fun bv H1 s1 dbv=>⟨(),da,_,_,(),rfl,ae.of (s1 _ _ hda),rfl,dq,rfl,⟨_,ae.of (s1 _ _ hdq)⟩,fun D hD=>mZ (n:=ts.length) (fun _=>nI) (by trivial) hD (fun i H' hi sm=>⟨zs,zs[i]'(by trivial),ae.of (sm _ _ (s1 _ _ hdq)),by rw [List.getElem?_eq_getElem (by trivial)]⟩) (fun H' sm=>⟨zs,ae.of (sm _ _ (s1 _ _ hdq)),by trivial⟩) ?_ ?_⟩⟩
  ·rintro i y H3 H4 Rk hi s3 ⟨rfl,ey⟩ kk
   refine ⟨il,(by show 2≤10000;decide),fun o1 J1 k1=>⟨(by show 1≤10000;decide),fun o2 J2 k2=>⟨o2,_,(),rfl,k2.at',by decide,by decide,(by show 1*2≤10000;decide),fun o3 J3 k3=>kk _ _ ((k1.sm.trans k2.sm).trans k3.sm) (.lst k3.at' (fun z=>z ((k1.sm.trans k2.sm).free k3.fr)) (.cons (tU ?_) (.cons (tU ?_) .nil)))⟩⟩⟩
   all_goals exact (k2.sm.trans k3.sm) _ _ k1.at'
  intro us H2 s2 hD2 iu
  rw [qi,List.length_range] at iu
  refine ⟨(by show 2≤10000;decide),fun o1 J1 k1=>⟨(by show 1≤10000;decide),fun o2 J2 k2=>⟨o2,_,(),rfl,k2.at',by decide,by decide,(by show 1*2≤10000;decide),fun o3 J3 k3=>⟨(by show 1≤10000;decide),fun o4 J4 k4=>⟨(by show 0≤10000;decide),fun o5 J5 k5=>⟨(by show 3≤10000;decide),fun o6 J6 k6=>?_⟩⟩⟩⟩⟩⟩
  have s36:ad J3 J6:=(k4.sm.trans k5.sm).trans k6.sm
  have s16:ad J1 J6:=(k2.sm.trans k3.sm).trans s36
  have s26:ad H2 J6:=k1.sm.trans s16
  refine ⟨rB ts.length,EN,EN,dbv.mono (s2.trans s26).toE,.tup k6.at' (.cons (.lst (s26 _ _ hD2) (fun z=>z) ((iu.narrow fun _ z=>z.elim).mono s26.toE)) (.cons (.lst ((k5.sm.trans k6.sm) _ _ k4.at') (fun z=>z) (.cons (.lst (s36 _ _ k3.at') (fun z=>z) (.cons (tU (s16 _ _ k1.at')) (.cons (tU (s16 _ _ k1.at')) .nil))) .nil)) (.cons (.lst (k6.sm _ _ k5.at') (fun z=>z) .nil) .nil))),EI _,(),aT (n0 _ _ ?_)⟩
  have sA:ad H J6:=(s1.trans s2).trans s26
  refine cJ fun Q1 n1=>⟨(),da,_,_,(),rfl,ae.of (sA _ _ hda),rfl,dq,false,rfl,⟨_,ae.of (sA _ _ hdq)⟩,fun D1 hD1=>jW (n:=ts.length) (fun j=>.bl (xn ts x j)) (by trivial) hD1 (fun i H' hi sm=>⟨zs,zs[i]'(by trivial),ae.of (sm _ _ (sA _ _ hdq)),by rw [List.getElem?_eq_getElem (by trivial)]⟩) (fun H' sm=>⟨zs,ae.of (sm _ _ (sA _ _ hdq)),by trivial⟩) ?_ ?_⟩
  ·rintro i y G3 G4 Rk hi s3 ⟨Tp,z,hT,rfl,rfl,ez⟩ kk
   have ez:=ez _ (ae.of (K:=K) (s3 _ _ (sA _ _ hdq)))
   have st:=ad.new (o:=.tup [.int (i:Int),z]) hT
   have sx:=(sA.trans s3).trans st
   obtain ⟨tx,mtx,etx,dtx⟩:=vK hzs ez
   obtain ⟨ta,o1,o2,o3,po,rfl,hta,_,_,_,hpo⟩:=qG dtx
   have k0:=kk _ st
   rw [Be etx] at k0
   refine ⟨Tp,(),ae.of av,rfl,_,(),_,(),rfl,ua,?_⟩
   refine ⟨(),va,_,_,(),rfl,ae.of (sx _ _ hva),rfl,(),ta,_,_,(),rfl,ae.of (sx _ _ hta),rfl,po,(),.inr (ae.of (sx _ _ hpo)),rfl,mX _,(),?_⟩
   simp only [if_true,xh]
   by_cases hm:(x.1:Int)∈tx.op
   ·rw [decide_eq_true hm] at k0 ⊢
    refine cx ⟨(),(),va,_,_,(),rfl,ae.of (sx _ _ hva),rfl,vp,(),.inr (ae.of (sx _ _ hvp)),rfl,mX _,?_⟩
    rw [xh]
    exact k0
   ·rw [decide_eq_false hm] at k0 ⊢
    exact aT k0
  intro G1 g1 hG1
  refine n1 _ _ ?_
  have sB:=sA.trans g1
  refine ⟨(),da,_,_,(),rfl,ae.of (sB _ _ hda),rfl,dq,(),.inr (ae.of (sB _ _ hdq)),(),by trivial,by trivial,fun D2 hD2=>jW (n:=ts.length) (fun j=>.bl (xn ts x j)) (by trivial) hD2 (fun i H' hi _=>by show i<_;trivial) (fun H' _=>by show _≤_;trivial) ?_ ?_⟩
  ·rintro i y G3 G4 Rk hi s3 ⟨rfl,rfl⟩ kk
   refine ⟨il,?_⟩
   have e0:(0:Int)+(i:Int)=i:=by trivial
   rw [e0]
   have k0:=kk _ (ad.refl _)
   have et:ts[i]?=some ts[i]:=List.getElem?_eq_getElem hi
   rw [Be et] at k0
   have sC:=sB.trans s3
   exact ⟨(),r,dx,(),sC _ _ hr',rfl,(),r,L,_,l0,l1,ts,m,past,_,i,_,(),R.sm sC,hd.mono sC.toE,et,Bj hi,k0⟩
  intro G2 g2 hG2
  have bb:∀{E:Addr→Prop}{H:Hp},aw E H ((List.range ts.length).map fun (j:Nat)=>V.bl (xn ts x j)) (((List.range ts.length).map (xn ts x)).map PyData.bool):=fun {E H}=>by
   rw [List.map_map]
   have:=ud (E:=E) (H:=H) ((List.range ts.length).map (xn ts x))
   rw [List.map_map,List.map_map] at this
   exact this
  refine ⟨(),.list (((List.range ts.length).map (xn ts x)).map .bool),fun _=>False,fun _=>False,.lst hG2 (fun z=>z) bb,.lst (g2 _ _ hG1) (fun z=>z) bb,?_,k _ (sB.trans g2)⟩
  refine (Cd.lst (k:=0) fun d hd=>?_).mono (by decide)
  obtain ⟨b,_,rfl⟩:=List.mem_map.mp hd
  exact .bl b
end
end K72
namespace K72
open PySem L2
set_option maxHeartbeats 8000000
theorem zl {n j:Nat}{x:Nat×List Int}{ys:List Int}{z:Bool} (h:j<n) (h1:decide ((j:Int)∈ys)=z) (h2:∀i:Nat,i≠j→((i:Int)∈ys↔(i:Int)∈x.2)):stO n (x.1,ys)=⟨(stO n x).sh.set j z,x.1⟩:=by
 unfold stO
 congr 1
 refine List.ext_getElem? fun i=>?_
 rw [List.getElem?_set,List.length_map,List.length_range]
 by_cases e:j=i
 ·subst e
  rw [if_pos rfl,if_pos h,List.getElem?_map,List.getElem?_range h]
  exact congrArg some h1
 ·rw [if_neg e]
  by_cases hi:i<n
  ·rw [List.getElem?_map,List.getElem?_map,List.getElem?_range hi]
   refine congrArg some ?_
   show decide ((i:Int)∈ys)=decide ((i:Int)∈x.2)
   have:=h2 i (Ne.symm e)
   by_cases q:(i:Int)∈x.2
   ·rw [decide_eq_true q];exact decide_eq_true (this.mpr q)
   ·rw [decide_eq_false q];exact decide_eq_false fun z=>q (this.mp z)
  ·rw [List.getElem?_eq_none (by simp;trivial),List.getElem?_eq_none (by simp;trivial)]
theorem Cv {n j:Nat}{x:Nat×List Int} (h:j<n):stO n (x.1,x.2++[(j:Int)])=⟨(stO n x).sh.set j true,x.1⟩:=
 zl h (decide_eq_true (by simp)) fun i ne=>by
  rw [List.mem_append,List.mem_singleton]
  exact ⟨fun z=>z.elim id fun e=>absurd (by trivial) ne,.inl⟩
theorem Co {n j:Nat}{x:Nat×List Int} (h:j<n):stO n (x.1,x.2.filter fun i=>decide (i≠(j:Int)))=⟨(stO n x).sh.set j false,x.1⟩:=
 zl h (decide_eq_false (by simp)) fun i ne=>by
  rw [List.mem_filter]
  exact ⟨fun z=>z.1,fun z=>⟨z,decide_eq_true (by trivial)⟩⟩
theorem Cb (n:Nat):stO n (0,[])=⟨List.replicate n false,0⟩:=by
 unfold stO
 congr 1
 rw [←List.length_range (n:=n),←qi false (List.range n)]
 simp
def iT (H:Hp) (R:Addr) (rows:List (Nat×List Int)):Prop:=∃xs,H R=some (.lst xs)∧aw ED H xs (rows.map xZ)
theorem iT.keep {E:Addr→Prop}{H H':Hp}{R:Addr}{rows:List (Nat×List Int)} (h:iT H R rows) (s:ai E H H') (n:¬E R):iT H' R rows:=by
 obtain ⟨xs,a,b⟩:=h
 exact ⟨xs,s.old _ _ n a,b.tupS s⟩
theorem iT.last {H:Hp}{R:Addr}{past:List (Nat×List Int)}{cur:Nat×List Int} (h:iT H R (past++[cur])):bX fun ys v=>H R=some (.lst (ys++[v]))∧ys.length=past.length∧aw ED H ys (past.map xZ)∧aB ED H v (xZ cur):=by
 obtain ⟨xs,a,b⟩:=h
 rw [List.map_append] at b
 obtain ⟨ys,v,rfl,c,d⟩:=kM b
 exact ⟨ys,v,a,by rw [c.length,List.length_map],c,d⟩
theorem dB {α β:Type} (f:α→β) (l:List α) (x:α):(l++[x]).map f=l.map f++[f x]:=by simp
section
variable {P:Program}{w:World}{K:PySem.W.Frag}{mg:Str→Option Value}{base:Heap}
inductive Bg (vs:List V) (H:Hp) (Q:VK):Prop
 | mk (b:Addr) (t:Int) (h0:vs=[.ref b]) (h1:Bx H b t) (h2:0≤t) (h3:t≤700000) (h4:∀H',ai (Eb b) H H'→Q (.bl true) H')
def Cy:Sp:=fun vs H Q _=>Bg  vs H Q
theorem yD (T:Txt K mg):aD P w K mg base CX0 8 T.l_day_right_.f T.l_day_right_.d ["_law_box"] Cy:=by
 have G_DayRun____init__:=#[(CF)]
 have G_DayRun__back:=#[(CD)]
 have G_DayRun__pass_hour:=#[(xT)]
 have G_DayRun__shut:=#[(BR)]
 have G_DayRun__unshut:=#[(zO)]
 have G_l_day:=#[(DV)]
 have G_l_day_stands:=#[(At)]
 have G_l_take:=#[(iU)]
 refine T.l_day_right_.F.ok bJ (fun vs H Q E h=>?_) (fun cdv A outer s H vs Q E hr h=>?_)
 ·obtain ⟨b,t,rfl,_⟩:=h
  rfl
 ·obtain ⟨b,t,rfl,B,ht0,ht1,k⟩:=h
  refine ⟨_,#[#[1,bJ.nd,bH,#[G_l_day,so,T.l_day_,#[[#[0,fq]]]]] :: #[#[nN 2 (2) (3) _ _ _ _ _ _ _ _ _ _ _ rfl bJ.nd rfl rfl (by decide) bo bM #[[#[CV 14 T.mk_DayRun G_DayRun____init__ (hr.mono (by decide)) rf T.m_DayRun T.B_DayRun____init__ (@cT _) #[[#[1,bH]]] (by decide) (by rfl) (by rfl)],#[ca 4 #[[#[ak 5 #[[#[()],#[ak 5 (@aY _)]]]]]]]]] (by kernel_rfl) (by rfl)] :: #[#[4,bJ.nd,gP,#[am 8 (@bn _) #[()] #[G_l_take,gD,T.l_take_,#[[#[0,fq],#[()]]]]]] :: #[#[5,bJ.nd,lW,#[G_l_take,gD,T.l_take_,#[[#[0,fq],#[4,gP]]]]] :: #[#[fe 8 PassesOwn.never rfl #[cb 6 rW T.b_range #[[#[4,gP]]] (by rfl)] #[6,bJ.nd,gH] #[#[dk 6 #[#[3,bM][#[cG 6 (@b4 _) #[()]]]!] (@aX _ (K) _ _ _ _ (2) rfl #[af 5 #[7,bJ.nd,eM] #[af 5 #[8,bJ.nd,bY] (@bf _) (by rfl)] (by rfl)] (by rfl) (by rfl) (by rfl)) (by rfl) (by rfl) (by rfl)] :: #[#[qB 2 (9) _ _ _ _ bJ.nd rfl (Or.inr cC) #[G_l_take,gD,T.l_take_,#[[#[0,fq],#[(),(),(@cm _ (K) (by rfl)),f9,T.b_len,(@aL),#[[#[#[1,bH][#[()]]]]]]]]] (by rfl) (by first | exact .inl rfl | exact .inr rfl | assumption)] :: #[#[aU 8 #[aq 8 (@b7 _) #[6,gH] #[5,lW] #[(),()]] #[#[aO 4 #[cj 20 #[2,bo] T.c_DayRun T.h_DayRun__pass_hour G_DayRun__pass_hour (hr.mono (by decide)) T.B_DayRun__pass_hour .nil #[iK 3] #[[#[am 8 (@wp _) #[ca 4 #[[#[ak 5 #[[#[()],#[()]]]]]]] #[(),(),(@cm _ (K) (by rfl)),f9,T.b_len,(@aL),#[[#[#[1,bH][#[()]]]]]]],#[ca 4 #[[#[ak 5 #[[#[()],#[()]]]]]]],#[ca 4 (@aY _)]]] (by rfl) (by rfl) (by rfl)] (by rfl)] :: #[aa 3 #[7,bJ.nd,eM,#[am 8 (@bn _) #[7,eM] #[()]]]]] #[aa 3 #[aU 8 #[aq 8 (@sI _ (K) (by rfl)) #[9,(cC)] #[8,bY] rfl] #[#[aO 4 #[cj 20 #[2,bo] T.c_DayRun T.h_DayRun__unshut G_DayRun__unshut (hr.mono (by decide)) T.B_DayRun__unshut .nil #[iK 3] #[[#[9,(cC)]]] (by rfl) (by rfl) (by rfl)] (by rfl)] :: #[aa 3 #[8,bJ.nd,bY,#[bW 9 (@bT _ (K) (by rfl)) sv T.b_tuple (@bR) #[[#[cI 7 (["_law_one", "_law_number"]) (1) ([9]) _ _ _ _ rfl (by kernel_rfl) (@iw _ (K) _ _ _ #[8,bY] (by rfl)) (fun _ _ _ _ _ _=>#[0,(),()]) (fun _ _ _ _ _ _=>#[lj 3 #[aq 8 (@lQ _) #[0,()] #[1,0] #[(),()]]]) (fun _ _ _ _ _ _=>#[0,()]) (by intro _;rfl)]]] (by decide) (by decide) (by rfl) (by rfl)]]]] #[#[aO 4 #[cj 20 #[2,bo] T.c_DayRun T.h_DayRun__shut G_DayRun__shut (hr.mono (by decide)) T.B_DayRun__shut .nil #[iK 3] #[[#[9,(cC)]]] (by rfl) (by rfl) (by rfl)] (by rfl)] :: #[aa 3 #[8,bJ.nd,bY,#[am 8 (@cp _) #[8,bY] #[ak 5 #[[#[9,(cC)]]]]]]]]]]] :: #[#[aO 4 (@cA _ (K) _ _ _ _ _ _ _ _ _ _ _ PySem.F.plainAttrs_list PySem.F.slot_list_append PySem.F.type_list_append (@bQ _) #[3,bM] #[[#[ak 5 #[[#[7,eM],#[8,bY]]]]]] (by rfl) (by rfl) (by rfl) (by rfl) (by rfl) (by rfl)) (by rfl)] :: #[aa 3 #[aU 8 #[PW.pt 3 #[ow 7 #[aq 8 (@b7 _) #[am 8 (@fH _) #[6,gH] #[()]] #[()] #[(),()]] #[lF 4 #[fQ 4 #[eX 3 #[G_l_day_stands,d0,T.l_day_stands_,#[[#[2,bo],#[1,bH],#[#[3,bM][#[cG 6 (@b4 _) #[()]]]!]]]] (by intro _;rfl)]]]]] #[aa 3 #[ay 4 #[bP 4]]] (@aM _)]]]]]] (by intro _;rfl)] :: #[#[u7 6 PassesOwn.never #[aq 8 (@t0 _) #[(),(),(@cm _ (K) (by rfl)),f9,T.b_len,(@aL),#[[#[3,bM]]]] #[()] #[(),()]] #[#[aO 4 #[vS 9 PySem.F.plainAttrs_list PySem.F.slot_list_pop PySem.F.type_list_pop (@tY _) #[3,bM] (by rfl) (by rfl)] (by rfl)] :: #[aa 3 #[aU 8 #[PW.pt 3 #[gN 7 #[aq 8 (@uc _) #[bZ 17 #[2,bo] T.c_DayRun T.h_DayRun__back G_DayRun__back (hr.mono (by decide)) T.B_DayRun__back .nil (@cT _) (by rfl)] #[bP 4] #[(),()]] #[fN 4 #[PW.pt 3 #[ow 7 #[aq 8 (@b7 _) #[am 8 (@fH _) #[(),(),(@cm _ (K) (by rfl)),f9,T.b_len,(@aL),#[[#[3,bM]]]] #[()]] #[()] #[(),()]] #[lF 4 #[fQ 4 #[eX 3 #[G_l_day_stands,d0,T.l_day_stands_,#[[#[2,bo],#[1,bH],#[#[3,bM][#[cG 6 (@b4 _) #[()]]]!]]]] (by intro _;rfl)]]]]]]]] #[aa 3 #[ay 4 #[bP 4]]] (@aM _)]]]] :: #[aa 3 #[ay 4 #[kJ 7 #[c8 8 (@AM _) #[bZ 17 #[2,bo] T.c_DayRun T.h_DayRun__back G_DayRun__back (hr.mono (by decide)) T.B_DayRun__back .nil (@cT _) (by rfl)] #[bP 4] #[(),()]] #[kJ 7 #[c8 8 (@AM _) #[bZ 17 #[2,bo] T.c_DayRun T.h_DayRun__back G_DayRun__back (hr.mono (by decide)) T.B_DayRun__back .nil (@cT _) (by rfl)] #[bP 4] #[(),()]] #[lT 5 #[G_l_day_stands,d0,T.l_day_stands_,#[[#[2,bo],#[1,bH],#[ak 5 #[[#[()],#[ak 5 (@aY _)]]]]]]]]]]]]]]]]]],?_⟩
  refine cJ fun Q0 n0=>⟨(),b,t,rfl,B,ht0,by trivial,fun d l0 l1 ts m t1 H1 s1 hd gd m0 fm l1' l3 B1 h1a h1b=>n0 _ _ ?_⟩
  obtain ⟨da,dp,dq,st,wl,wi,zs,rfl,hda,hdp,hdq,hzs,hst,hwl,hwi⟩:=dS hd
  have lz:=hzs.length
  rw [List.length_map] at lz
  refine BK fun Q1 n1=>⟨(),fun r dx J0 fr0 sJ0 hr0=>⟨r,dx,_,l0,l1,ts,m,rfl,hr0,hd.mono sJ0.toE,by trivial,fun L H2 fL0 kp R1=>⟨rfl,(by show 0≤10000;decide),fun p3 H3 m3=>⟨(by show 2≤10000;decide),fun p4 H4 m4=>⟨(by show 1≤10000;decide),fun R H5 m5=>n1 _ _ _ ?_⟩⟩⟩⟩⟩
  have sH2:ad H1 H2:=fun a o h=>kp a o (fun e=>by rw [e,fr0] at h;cases h) (sJ0 _ _ h)
  have s25:ad H2 H5:=(m3.sm.trans m4.sm).trans m5.sm
  have s15:ad H1 H5:=sH2.trans s25
  have fL1:H1 L=none:=sJ0.free fL0
  have fR1:H1 R=none:=(sH2.trans (m3.sm.trans m4.sm)).free m5.fr
  have nbr:b≠r:=Bx.ne B1 fr0
  have nbL:b≠L:=Bx.ne B1 fL1
  have nbR:b≠R:=Bx.ne B1 fR1
  have R5:bO T.x_DayRun H5 r L (.ref da) ts.length (([]++[(0,[])]).map (stO ts.length)):=by
   have:=R1.sm s25
   rw [←Cb] at this
   exact this
  have nRr:R≠r:=by
   obtain ⟨_,_,h,_,_⟩:=R1.sm (m3.sm.trans m4.sm)
   exact fun e=>by rw [←e,m5.fr] at h;cases h
  have nRL:R≠L:=by
   obtain ⟨_,_,_,h,_⟩:=R1.sm (m3.sm.trans m4.sm)
   exact fun e=>by rw [←e,m5.fr] at h;cases h
  have rw5:iT H5 R ([]++[(0,[])]):=⟨_,m5.at',.cons (zP (x:=(0,[])) (m5.sm _ _ m4.at') (m5.sm _ _ (m4.sm _ _ m3.at'))) .nil⟩
  have fL:H L=none:=s1.none (Ne.symm nbL) fL1
  have fR:H R=none:=s1.none (Ne.symm nbR) fR1
  have fr:H r=none:=s1.none (Ne.symm nbr) fr0
  have s05:ai (Eb b) H H5:=s1.trans s15.toE
  have B5:Bx H5 b t1:=B1.same s15
  have hd5:=hd.mono s15.toE
  refine cJ fun Q2 n2=>⟨(),b,81,t1,rfl,B5,by decide,by decide,by trivial,by trivial,fun y1 t2 H6 y1a y1b h6a h6b s6 B6=>⟨_,(),rfl,?_⟩⟩
  obtain ⟨many,em,lm1,lm2⟩:∃many:Nat,40+y1=(many:Int)∧1≤many∧many≤120:=⟨(40+y1).toNat,by trivial,by trivial,by trivial⟩
  refine Eq.mp (congrArg (fun z=>Q2 (V.int z) H6) em.symm) (n2 _ _ ?_)
  refine cJ fun Q3 n3=>⟨(),(),b,(many:Int),t2,rfl,B6,by trivial,l8 (by trivial),by trivial,by trivial,fun at_ t3 H7 ata atb h7a h7b s7 B7=>n3 _ _ ?_⟩
  have s57:ai (Eb b) H5 H7:=s6.trans s7
  refine aP fun D8 n8=>⟨(),(),by trivial,by trivial,ir (fun i σ H'=>Fv fun (v6 v7 v8 v9:Option V) (past:List (Nat×List Int)) (x:Nat×List Int) (t':Int)=>σ=[some (.ref b),some (.ref da),some (.ref r),some (.ref R),some (.int (many:Int)),some (.int at_),v6,v7,v8,v9]∧bO T.x_DayRun H' r L (.ref da) ts.length ((past++[x]).map (stO ts.length))∧iT H' R (past++[x])∧past.length=i∧(∀y∈past++[x],y.1≤1)∧x.2.length≤i∧((i:Int)≤at_→x.1=0)∧(∃q,past++[x]=(0,[]) :: q)∧Bx H' b t'∧t3≤t'∧t'≤t3+i∧ai (Eb b) H H'∧aB ED H' (.ref da) (gG l0 l1 ts m)) ⟨_,_,_,_,[],(0,[]),t3,rfl,R5.keep s57 (Ne.symm nbr) (Ne.symm nbL),rw5.keep s57 (Ne.symm nbR),rfl,(fun y hy=>by rw [List.mem_singleton.mp hy];decide),Nat.le_refl _,(fun _=>rfl),⟨[],rfl⟩,B7,by trivial,by trivial,s05.trans s57,hd5.mono (bK s57.tup)⟩ ?_ ?_⟩
  ·rintro i σ J0' hi ⟨v6,v7,v8,v9,past,x,t4,rfl,rn,rws,lp,hx1,hx2,hat,hfs,BJ,h4a,h4b,sJ,hdJ⟩
   have hi':i<120:=by trivial
   obtain ⟨ys,u,hR,ly,hys,hu⟩:=rws.last
   obtain ⟨va,vp,rfl,hva,hvp⟩:=BA hu
   obtain ⟨da',dp',dq',_,_,_,zs',eda,hdaJ,_,hdqJ,hzsJ,_,_,_⟩:=dS hdJ
   cases eda
   have lzJ:=hzsJ.length
   rw [List.length_map] at lzJ
   refine pb (t:=ko _ _) fun DB nB=>?_
   refine aP fun Da na=>⟨(),(),R,_,_,(),rfl,aA.of hR,bS _ _,va,(),ae.of hva,rfl,_,(),_,(),rfl,na _ _ ?_⟩
   refine cJ fun Qb nb=>⟨(),(),da,_,_,(),rfl,ae.of hdaJ,rfl,dq',(),.inr (ae.of hdqJ),b,_,t4,rfl,BJ,by trivial,l8 (by trivial),by trivial,by trivial,fun nj t5 J1 n0' n1' h5a h5b s1' B1'=>nb _ _ ?_⟩
   obtain ⟨nj,rfl⟩:=Int.eq_ofNat_of_zero_le n0'
   have hn:nj<ts.length:=by trivial
   have rn1:=rn.keep s1' (Ne.symm nbr) (Ne.symm nbL)
   have rws1:=rws.keep s1' (Ne.symm nbR)
   have hd1:=hdJ.mono (bK s1'.tup)
   have hvp1:=s1'.tup _ _ hvp
   rw [dB] at rn1
   obtain ⟨dx1,_,_,hr1,_,_,_⟩:=rn1.last
   have shj:=Bj (x:=x) hn
   have lsh:(stO ts.length x).sh.length≤1000:=by show ((List.range ts.length).map _).length≤1000;simp;trivial
   have lpm:(past.map (stO ts.length)).length≤1000:=by simp;trivial
   refine xD (fun σ' H'=>bX fun (x':Nat×List Int) (q:Addr)=>σ'=[some (.ref b),some (.ref da),some (.ref r),some (.ref R),some (.int (many:Int)),some (.int at_),some (.int (0+(i:Int))),some (.int (x'.1:Int)),some (.ref q),some (.int (nj:Int))]∧H' q=some (.tup (x'.2.map V.int))∧ai (Eb L) J1 H'∧bO T.x_DayRun H' r L (.ref da) ts.length ((past++[x]++[x']).map (stO ts.length))∧x'.1≤1∧x'.2.length≤i+1∧(((i+1:Nat):Int)≤at_→x'.1=0)) ?_ fun rest=>?_
   ·rintro σ' J2 ⟨x',q,rfl,hq,s2,rn2,hx1',hx2',hat'⟩
    have rws2:=rws1.keep s2 nRL
    obtain ⟨xs2,hR2,hx2s⟩:=id rws2
    have lxs:=hx2s.length
    rw [List.length_map] at lxs
    have hd2:=hd1.mono (bK s2.tup)
    refine aP fun Dc nc=>⟨(),.inl ⟨rfl,_,aA.of hR2⟩,(),(),(by show 2≤10000;decide),fun o1 G1 k1=>⟨R,xs2,(),rfl,k1.sm _ _ hR2,by simp at lxs;trivial,fun G2 c2=>nc _ _ ?_⟩⟩
    have hR1:=k1.sm _ _ hR2
    have s12:ai (fun a=>a=R) G1 G2:=⟨fun a o n h=>c2.ol a o n h,fun a us h=>c2.tup h hR1⟩
    have s02:ai (fun a=>a=R) J2 G2:=k1.sm.toE.trans s12
    have dx':aB ED G1 (.ref o1) (xZ x'):=zP k1.at' (k1.sm _ _ hq)
    have rws3:iT G2 R (past++[x]++[x']):=⟨_,c2.at',by rw [dB];exact ((hx2s.mono k1.sm.toE).append (.cons dx' .nil)).mono (bK s12.tup)⟩
    have rn3:=rn2.keep s02 (Ne.symm nRr) (Ne.symm nRL)
    have hd3:=hd2.mono (bK s02.tup)
    have B3:Bx G2 b t5:=(B1'.frm s2 nbL).frm s02 nbR
    have sH3:ai (Eb b) H G2:=kG (b:=b) (kG (b:=b) (sJ.trans s1') s2 fun a e=>.inr (by rw [e];exact fL)) s02 fun a e=>.inr (by rw [e];exact fR)
    have hf3:∃q,past++[x]++[x']=(0,[]) :: q:=by
     obtain ⟨q,eq⟩:=hfs
     exact ⟨q++[x'],by rw [eq];rfl⟩
    have fin:∀G3,ad G2 G3→DB.nx [some (.ref b),some (.ref da),some (.ref r),some (.ref R),some (.int (many:Int)),some (.int at_),some (.int (0+(i:Int))),some (.int (x'.1:Int)),some (.ref q),some (.int (nj:Int))] G3:=fun G3 k3=>
     nB _ _ ⟨_,_,_,_,past++[x],x',t5,rfl,rn3.sm k3,rws3.keep (E:=fun _=>False) k3.toE (fun z=>z),by simp [lp],(fun y hy=>by
      rcases List.mem_append.mp hy with h | h
      ·exact hx1 y h
      ·rw [List.mem_singleton.mp h];exact hx1'),hx2',hat',hf3,B3.same k3,by trivial,by trivial,sH3.trans k3.toE,hd3.mono k3.toE⟩
    obtain ⟨ws,u3,hR3,lw,hws,hu3⟩:=rws3.last
    rw [dB] at rn3
    refine ⟨(),_,(),rfl,(by show (0:Int)<8;decide),rfl,(),cF (fun c=>?_) fun c=>aT (fin _ (ad.refl _))⟩
    exact ⟨(),(),(),(),R,_,_,(),rfl,aA.of hR3,bS _ _,r,L,_,l0,l1,ts,m,_,x',(),rn3,hd3,hu3,by trivial,by trivial,fun G3 k3=>⟨(),aT (fin _ k3)⟩⟩
   ·refine ⟨(),(),rfl,(),cF (fun c=>?_) fun c=>?_⟩
    ·have e:=of_decide_eq_true c
     injection e with e
     have x0:x.1=0:=hat (by trivial)
     obtain ⟨da',dp',dq',_,_,_,zs1,eda,hda1,_,hdq1,hzs1,_,_,_⟩:=dS hd1
     cases eda
     have lz1:=hzs1.length
     rw [List.length_map] at lz1
     refine aP fun Dd nd=>⟨(),r,dx1,(),hr1,rfl,(by show 2≤10000;decide),fun o1 G1 k1=>⟨(by show 1≤10000;decide),fun o2 G2 k2=>⟨(),da,_,_,(),rfl,ae.of ((k1.sm.trans k2.sm) _ _ hda1),rfl,dq',(),.inr (ae.of ((k1.sm.trans k2.sm) _ _ hdq1)),o2,_,(),rfl,k2.at',by trivial,by trivial,by rw [List.length_singleton];trivial,fun o3 G3 k3=>⟨(by show 2≤10000;decide),fun o4 G4 k4=>⟨(by show 1≤10000;decide),fun o5 G5 k5=>⟨(by show 0≤10000;decide),fun o6 G6 k6=>?_⟩⟩⟩⟩⟩⟩
     have s46:ad G4 G6:=k5.sm.trans k6.sm
     have s36:ad G3 G6:=k4.sm.trans s46
     have s16:ad G1 G6:=(k2.sm.trans k3.sm).trans s36
     have s06:ad J1 G6:=k1.sm.trans s16
     refine ⟨r,L,_,l0,l1,ts,m,_,_,o3,o5,o6,_,.ref o4,rfl,rn1.sm s06,hd1.mono s06.toE,gd,m0,fm,x0,by trivial,lpm,s36 _ _ k3.at',by simp [lz1],(fun y hy=>?_),k6.sm _ _ k5.at',⟨o4,rfl,s46 _ _ k4.at'⟩,k6.at',fun G7 g7 R7=>nd _ _ ?_⟩
     ·have hy':y=.ref o1:=by
       simp at hy
       exact hy.2
      exact ⟨o1,hy',s16 _ _ k1.at'⟩
     have sJ7:ai (Eb L) J1 G7:=s06.toE.trans g7
     refine ⟨(),_,(),rfl,rest _ _ ⟨(1,x.2),vp,by rw [x0];rfl,sJ7.tup _ _ hvp1,sJ7,?_,Nat.le_refl _,Nat.le_succ_of_le hx2,fun z=>by trivial⟩⟩
     rw [dB,dB]
     exact R7
    ·refine ⟨(),(),vp,(),.inr (ae.of hvp1),rfl,mX _,(),?_⟩
     simp only [if_true,xh]
     have ni:¬(i:Int)=at_:=fun e=>by
      refine absurd (decide_eq_true ?_) c
      rw [←e]
      congr 1
      trivial
     by_cases hm:(nj:Int)∈x.2
     ·rw [decide_eq_true hm] at shj ⊢
      refine cx ?_
      refine aP fun Dd nd=>⟨(),r,dx1,(),hr1,rfl,(),r,L,_,_,false,nj,_,(),(fun z e=>by cases e;rfl),rn1,shj,lsh,lpm,fun G1 g1 R1'=>nd _ _ ?_⟩
      have hvp2:=g1.tup _ _ hvp1
      refine ⟨(),vp,rfl,⟨_,ae.of hvp2⟩,fun D hD=>wS (xs:=x.2.map V.int) (fun v=>!decide (v=V.int (nj:Int))) (by rw [List.length_map];trivial) hD hvp2 ?_ ?_⟩
      ·intro v H' R R0 hx sx k1 k0
       obtain ⟨i,_,rfl⟩:=List.mem_map.mp hx
       refine ⟨il,(),(),rfl,(),?_⟩
       cases h:!decide (V.int i=V.int (nj:Int)) with
       | true=>exact cx ⟨_,rfl,k1 h⟩
       | false=>exact aT (k0 h)
      intro G2 g2 hD2
      rw [xN] at hD2
      refine ⟨D,(),aA.of hD2,fun p3 G3 k3=>rest _ _ ⟨(x.1,x.2.filter fun i=>decide (i≠(nj:Int))),p3,rfl,k3.at',g1.trans (g2.trans k3.sm).toE,?_,hx1 x (by simp),Nat.le_trans (List.length_filter_le ..) (Nat.le_succ_of_le hx2),fun z=>hat (by trivial)⟩⟩
      rw [dB,dB,Co hn]
      exact R1'.sm (g2.trans k3.sm)
     ·rw [decide_eq_false hm] at shj ⊢
      refine aT ?_
      refine aP fun Dd nd=>⟨(),r,dx1,(),hr1,rfl,(),r,L,_,_,true,nj,_,(),(fun z e=>by cases e;rfl),rn1,shj,lsh,lpm,fun G1 g1 R1'=>nd _ _ ?_⟩
      have hvp2:=g1.tup _ _ hvp1
      refine ⟨(),(),(by show 1≤10000;decide),fun o1 G2 k2=>⟨vp,o1,_,(),rfl,k2.sm _ _ hvp2,k2.at',by rw [List.length_map,List.length_singleton];trivial,fun q G3 s3 h3=>rest _ _ ⟨(x.1,x.2++[(nj:Int)]),q,rfl,by rw [h3,List.map_append];rfl,g1.trans (k2.sm.trans s3).toE,?_,hx1 x (by simp),by simp;trivial,fun z=>hat (by trivial)⟩⟩⟩
      rw [dB,dB,Cv hn]
      exact R1'.sm (k2.sm.trans s3)
  rintro σ J ⟨v6,v7,v8,v9,past,x,t4,rfl,rn,rws,lp,hx1,hx2,hat,hfs,BJ,h4a,h4b,sJ,hdJ⟩
  refine n8 _ _ ?_
  have lp':past.length≤120:=by trivial
  refine aP fun D9 n9=>⟨fun mm σ H'=>vI fun (v6 v7 v8 v9:Option V) (past:List (Nat×List Int)) (x:Nat×List Int)=>σ=[some (.ref b),some (.ref da),some (.ref r),some (.ref R),some (.int (many:Int)),some (.int at_),v6,v7,v8,v9]∧bO T.x_DayRun H' r L (.ref da) ts.length ((past++[x]).map (stO ts.length))∧iT H' R (past++[x])∧past.length=mm∧past.length≤120∧(∀y∈past++[x],y.1≤1)∧(∃q,past++[x]=(0,[]) :: q)∧ai (Eb b) H H'∧aB ED H' (.ref da) (gG l0 l1 ts m),⟨_,_,_,_,_,past,x,rfl,rn,rws,rfl,lp',hx1,hfs,sJ,hdJ⟩,?_⟩
  rintro mm σ J1 ⟨v6,v7,v8,v9,past,x,rfl,rn,rws,lpm,lp',hx1,hfs,sJ,hdJ⟩
  obtain ⟨ys,u,hR,ly,hys,hu⟩:=rws.last
  refine ⟨(),R,(),.inl (aA.of hR),_,(),rfl,(),cF (fun c=>?_) fun c=>?_⟩
  ·have c:(((ys++[u]).length:Nat):Int) > 1:=of_decide_eq_true c
   rcases iR past with rfl | ⟨pp,z,rfl⟩
   ·simp at ly;subst ly;simp at c
   rw [dB] at rn
   have rn0:=rn
   rw [dB] at rn
   obtain ⟨dxr,_,_,hrr,_,_,_⟩:=rn.last
   refine ⟨fun σ H'=>vI fun (v6 v7 v8 v9:Option V) (past:List (Nat×List Int)) (x:Nat×List Int)=>σ=[some (.ref b),some (.ref da),some (.ref r),some (.ref R),some (.int (many:Int)),some (.int at_),v6,v7,v8,v9]∧bO T.x_DayRun H' r L (.ref da) ts.length ((past++[x]).map (stO ts.length))∧iT H' R (past++[x])∧past.length<mm∧past.length≤120∧(∀y∈past++[x],y.1≤1)∧(∃q,past++[x]=(0,[]) :: q)∧ai (Eb b) H H'∧aB ED H' (.ref da) (gG l0 l1 ts m),?_,?_⟩
   ·rintro σ' H' ⟨v6,v7,v8,v9,past,x,h1,h2,h3,h4,h5,h6,h7,h8,h9⟩
    exact ⟨_,h4,v6,v7,v8,v9,past,x,h1,h2,h3,rfl,h5,h6,h7,h8,h9⟩
   refine aP fun Da na=>⟨(),.inl ⟨rfl,_,aA.of hR⟩,R,ys,u,rfl,rfl,hR,fun J2 c2=>na _ _ ?_⟩
   have s12:ai (fun a=>a=R) J1 J2:=⟨fun a o n h=>c2.ol a o n h,fun a us h=>c2.tup h hR⟩
   have rn2:=rn.keep s12 (Ne.symm nRr) (Ne.symm nRL)
   have rws2:iT J2 R (pp++[z]):=⟨ys,c2.at',hys.tupS s12⟩
   have lpp:pp.length+1=mm:=by rw [←lpm];simp
   have lys:ys.length=pp.length+1:=by rw [ly];simp
   obtain ⟨dx2,_,_,hr2,_,_,_⟩:=rn2.last
   refine ⟨(),r,dx2,(),hr2,rfl,r,L,_,_,_,(),rn2,(fun e=>absurd e (by simp)),fun q' s' eq J3 g3 R3=>?_⟩
   have R3':bO T.x_DayRun J3 r L (.ref da) ts.length ((pp++[z]).map (stO ts.length)):=by
    rw [←eq,←dB] at R3
    exact R3
   have s23:ai (Eb L) J2 J3:=g3
   have rws3:iT J3 R (pp++[z]):=rws2.keep s23 nRL
   have hd3:aB ED J3 (.ref da) (gG l0 l1 ts m):=(hdJ.mono (bK s12.tup)).mono (bK s23.tup)
   have s03:ai (Eb b) H J3:=by
    refine kG (b:=b) (kG (b:=b) sJ s12 fun a e=>.inr (by rw [e];exact fR)) s23 fun a e=>.inr (by rw [e];exact fL)
   have hx3:∀y∈pp++[z],y.1≤1:=fun y hy=>hx1 y (List.mem_append_left _ hy)
   have hf3:∃q,pp++[z]=(0,[]) :: q:=by
    obtain ⟨q,eq⟩:=hfs
    cases pp with
    | nil=>injection eq with e1 e2;exact ⟨[],by rw [←e1];rfl⟩
    | cons w ws=>injection eq with e1 e2;exact ⟨ws++[z],by rw [←e1];rfl⟩
   have fin:∀J4,ad J3 J4→vI fun (v6' v7' v8' v9':Option V) (past:List (Nat×List Int)) (x:Nat×List Int)=>[some (V.ref b),some (.ref da),some (.ref r),some (.ref R),some (.int (many:Int)),some (.int at_),v6,v7,v8,v9]=[some (.ref b),some (.ref da),some (.ref r),some (.ref R),some (.int (many:Int)),some (.int at_),v6',v7',v8',v9']∧bO T.x_DayRun J4 r L (.ref da) ts.length ((past++[x]).map (stO ts.length))∧iT J4 R (past++[x])∧past.length<mm∧past.length≤120∧(∀y∈past++[x],y.1≤1)∧(∃q,past++[x]=(0,[]) :: q)∧ai (Eb b) H J4∧aB ED J4 (.ref da) (gG l0 l1 ts m):=fun J4 s4=>⟨_,_,_,_,pp,z,rfl,R3'.sm s4,rws3.keep (E:=fun _=>False) s4.toE (fun z=>z),by trivial,by trivial,hx3,hf3,s03.trans s4.toE,hd3.mono s4.toE⟩
   obtain ⟨ws,u3,hR3,lw,hws,hu3⟩:=rws3.last
   refine ⟨_,(),rfl,(),aT ⟨(),R,(),.inl (aA.of hR3),_,(),rfl,(by show (0:Int)<8;decide),rfl,(),cF (fun c=>?_) fun c=>aT (fin _ (ad.refl _))⟩⟩
   rw [dB] at R3'
   exact ⟨(),(),(),(),R,_,_,(),rfl,aA.of hR3,bS _ _,r,L,_,l0,l1,ts,m,_,z,(),R3',hd3,hu3,by have:=hx3 z (by simp);trivial,by trivial,fun J4 s4=>⟨(),aT (fin _ s4)⟩⟩
  ·have hp0:past=[]:=by
    cases past with
    | nil=>rfl
    | cons y ys'=>exact absurd (decide_eq_true (show (((ys++[u]).length:Nat):Int) > 1 by simp [ly];trivial)) c
   subst hp0
   refine n9 _ _ ?_
   obtain ⟨q,eq⟩:=hfs
   have ex:x=(0,[]):=by injection eq
   subst ex
   have rn:bO T.x_DayRun J1 r L (.ref da) ts.length ([]++[stO ts.length (0,[])]):=rn
   obtain ⟨dx1,_,_,hr1,_,_,_⟩:=rn.last
   refine zK fun Qr nr=>⟨(),r,dx1,(),hr1,rfl,r,L,_,_,_,(),rn,(fun _=>?_),fun q' s' eq=>absurd eq (by simp)⟩
   refine ⟨_,(),rfl,(),cx ⟨(),r,dx1,(),hr1,rfl,r,L,_,_,_,(),rn,(fun _=>?_),fun q' s' eq=>absurd eq (by simp)⟩⟩
   refine ⟨_,(),rfl,(),cx ⟨(),(),(by show 0≤10000;decide),fun o1 G1 k1=>⟨(by show 2≤10000;decide),fun o2 G2 k2=>?_⟩⟩⟩
   have s12:=k1.sm.trans k2.sm
   exact ⟨r,L,_,l0,l1,ts,m,_,(0,[]),(),rn.sm s12,hdJ.mono s12.toE,zP (x:=(0,[])) k2.at' (k2.sm _ _ k1.at'),by decide,by trivial,fun G3 k3=>nr _ _ (k _ (sJ.trans (s12.trans k3).toE))⟩
end
end K72
namespace K72
open PySem L2
set_option maxHeartbeats 8000000
section
variable {P:Program}{w:World}{K:PySem.W.Frag}{mg:Str→Option Value}{base:Heap}
inductive GA (K:PySem.W.Frag) (vs:List V) (H:Hp) (Q:VK):Prop
 | mk (a:Addr) (ns:List Int) (h0:vs=[.ref a]) (h1:aA K H a (ns.map V.int)) (h2:ns.length≤63) (h3:∀H',Q (.bl true) H')
def spLaw (K:PySem.W.Frag):Sp:=fun vs H Q _=>GA K vs H Q
theorem law_start {H:Hp}{a:Addr}{ns:List Int} (hl:ns.length≤63) (_:wG H) (hS:aA K H a (ns.map V.int)):spLaw K [.ref a] H (fun v _=>v=.bl true) fun _ _ _=>False:=
 ⟨a,ns,rfl,hS,hl,fun _=>rfl⟩
theorem law_ok (T:Txt K mg):aD P w K mg base CX0 40 T.law_.f T.law_.d ["_law_script"] (spLaw K):=by
 have G_l_folded:=#[(AG)]
 have G_l_box_of:=#[(AR)]
 have G_l_roads_right:=#[(wO)]
 have G_l_day_right:=#[(yD)]
 refine T.law_.F.ok vF (fun vs H Q E h=>?_) (fun cdv A outer s H vs Q E hr h=>?_)
 ·obtain ⟨a,ns,rfl,_⟩:=h
  rfl
 ·obtain ⟨a,ns,rfl,hS,hn,k⟩:=h
  refine ⟨_,#[#[1,vF.nd,my,#[G_l_folded,wc,T.l_folded_,#[[#[0,wf],#[()]]]]] :: #[#[fe 8 PassesOwn.never rfl #[cb 6 yM T.b_range #[[#[(),(),(@cm _ (K) (by rfl)),Bt,T.b_len,(@aL),#[[#[1,my]]]]]] (by rfl)] #[2,vF.nd,w6] #[#[3,vF.nd,pV,#[G_l_box_of,wj,T.l_box_of_,#[[#[1,my],#[2,w6]]]]] :: #[aa 3 #[aU 8 #[PW.pt 3 #[gN 7 #[fQ 4 #[eX 3 #[G_l_roads_right,rX,T.l_roads_right_,#[[#[3,pV]]]] (by intro _;rfl)]] #[fN 4 #[fQ 4 #[eX 3 #[G_l_day_right,uq,T.l_day_right_,#[[#[3,pV]]]] (by intro _;rfl)]]]]] #[aa 3 #[ay 4 #[bP 4]]] (@aM _)]]] (by intro _;rfl)] :: #[aa 3 #[ay 4 #[bP 4]]]]],?_⟩
  refine aP fun DA nA=>?_
  refine ⟨(),a,ns,2,rfl,hS,hn,by decide,by decide,fun p ms H1 hp s1 hp1 hm2 hm6=>?_⟩
  refine nA _ _ ?_
  refine ⟨(),p,(),.inl (aA.of hp1),((ms.map V.int).length:Int),rfl,?_,?_,?_⟩
  ·trivial
  ·rw [List.length_map];trivial
  refine ir (fun i σ H'=>bX fun v2 v3=>σ=[some (.ref a),some (.ref p),v2,v3]∧H' p=some (.lst (ms.map V.int))) ⟨_,(),hp1⟩ ?_ ?_
  case refine_2=>
   rintro σ H' ⟨v2,v3,rfl,_⟩
   exact k _
  rintro i σ H2 hi ⟨v2,v3,rfl,hp2⟩
  rw [List.length_map] at hi
  refine pb (t:=ko _ _) fun DB nB=>?_
  refine aP fun DC nC=>?_
  refine ⟨(),(),p,ms,(),aA.of hp2,by trivial,by trivial,fun b H3 hb s3 B3=>?_⟩
  refine nC _ _ ?_
  have npb:¬p=b:=fun z=>by rw [z,hb] at hp2;cases hp2
  refine ⟨(),b,0,rfl,B3,by decide,by decide,fun t4 H4 s4 B4 h4a h4b=>⟨(),aT ⟨(),b,t4,rfl,B4,by trivial,by trivial,fun H5 s5=>⟨(),aT (nB _ _ ⟨_,(),?_⟩)⟩⟩⟩⟩
  exact s5.old p _ npb (s4.old p _ npb (s3 _ _ hp2))
end
end K72
namespace K72
open PySem L2
set_option maxHeartbeats 0 in
theorem txt_of {K:PySem.W.Frag}{h:Heap}{mg:Str→Option Value} (y:obs K=due) (X:K.In h) (G:h.Ns mainGlobals mg):∃T:Txt K mg,∀(s:Shared) (u:Value),BindsTo s T.law_.d ⟨[u],[]⟩ [("_law_script",u)]:=by
 have e:∀i,(obs K).1.getD i none=due.1.getD i none:=fun i=>by rw [y]
 have b:∀i,(obs K).2.getD i true=due.2.getD i true:=fun i=>by rw [y]
 refine ⟨{
  b_abs:=PySem.W.mg_none_of X G (dz (b 61)),
  b_all:=PySem.W.mg_none_of X G (dz (b 62)),
  b_bool:=PySem.W.mg_none_of X G (dz (b 63)),
  b_divmod:=PySem.W.mg_none_of X G (dz (b 64)),
  b_enumerate:=PySem.W.mg_none_of X G (dz (b 65)),
  b_int:=PySem.W.mg_none_of X G (dz (b 66)),
  b_isinstance:=PySem.W.mg_none_of X G (dz (b 67)),
  b_len:=PySem.W.mg_none_of X G (dz (b 68)),
  b_list:=PySem.W.mg_none_of X G (dz (b 69)),
  b_range:=PySem.W.mg_none_of X G (dz (b 70)),
  b_tuple:=PySem.W.mg_none_of X G (dz (b 71)),
  b_zip:=PySem.W.mg_none_of X G (dz (b 72)),
  l_box_of_:=⟨_,_,PySem.W.mg_of X G (bq (e 0)),ag (e 0),(ag (e 0)).binds (ps:=["_law_script", "_law_k"]) fun _ _ _ _ _ _=>dy (fun _ _=>rfl)⟩,
  l_take_:=⟨_,_,PySem.W.mg_of X G (bq (e 1)),ag (e 1),(ag (e 1)).binds (ps:=["_law_box", "_law_many"]) fun _ _ _ _ _ _=>dy (fun _ _=>rfl)⟩,
  l_folded_:=⟨_,_,PySem.W.mg_of X G (bq (e 2)),ag (e 2),(ag (e 2)).binds (ps:=["_law_script", "_law_many"]) fun _ _ _ _ _ _=>dy (fun _ _=>rfl)⟩,
  l_lowest_:=⟨_,_,PySem.W.mg_of X G (bq (e 3)),ag (e 3),(ag (e 3)).binds (ps:=["_law_n", "_law_d"]) fun _ _ _ _ _ _=>dy (fun _ _=>rfl)⟩,
  l_names_by_:=⟨_,_,PySem.W.mg_of X G (bq (e 4)),ag (e 4),(ag (e 4)).binds (ps:=["_law_box", "_law_many"]) fun _ _ _ _ _ _=>dy (fun _ _=>rfl)⟩,
  l_gain_by_:=⟨_,_,PySem.W.mg_of X G (bq (e 5)),ag (e 5),(ag (e 5)).binds (ps:=["_law_box"]) fun _ _ _ _ _ _=>fA (fun _=>rfl)⟩,
  l_most_by_:=⟨_,_,PySem.W.mg_of X G (bq (e 6)),ag (e 6),(ag (e 6)).binds (ps:=["_law_box"]) fun _ _ _ _ _ _=>fA (fun _=>rfl)⟩,
  l_price_by_:=⟨_,_,PySem.W.mg_of X G (bq (e 7)),ag (e 7),(ag (e 7)).binds (ps:=["_law_box"]) fun _ _ _ _ _ _=>fA (fun _=>rfl)⟩,
  l_net_:=⟨_,_,PySem.W.mg_of X G (bq (e 8)),ag (e 8),(ag (e 8)).binds (ps:=["_law_state"]) fun _ _ _ _ _ _=>fA (fun _=>rfl)⟩,
  l_stands_:=⟨_,_,PySem.W.mg_of X G (bq (e 9)),ag (e 9),(ag (e 9)).binds (ps:=["_law_roads", "_law_state"]) fun _ _ _ _ _ _=>dy (fun _ _=>rfl)⟩,
  l_begun_:=⟨_,_,PySem.W.mg_of X G (bq (e 10)),ag (e 10),(ag (e 10)).binds (ps:=["_law_box", "_law_roads"]) fun _ _ _ _ _ _=>dy (fun _ _=>rfl)⟩,
  l_deed_:=⟨_,_,PySem.W.mg_of X G (bq (e 11)),ag (e 11),(ag (e 11)).binds (ps:=["_law_box", "_law_roads", "_law_state"]) fun _ _ _ _ _ _=>jS (fun _ _ _=>rfl)⟩,
  l_gone_back_:=⟨_,_,PySem.W.mg_of X G (bq (e 12)),ag (e 12),(ag (e 12)).binds (ps:=["_law_roads", "_law_rows", "_law_many"]) fun _ _ _ _ _ _=>jS (fun _ _ _=>rfl)⟩,
  l_roads_right_:=⟨_,_,PySem.W.mg_of X G (bq (e 13)),ag (e 13),(ag (e 13)).binds (ps:=["_law_box"]) fun _ _ _ _ _ _=>fA (fun _=>rfl)⟩,
  l_day_:=⟨_,_,PySem.W.mg_of X G (bq (e 14)),ag (e 14),(ag (e 14)).binds (ps:=["_law_box"]) fun _ _ _ _ _ _=>fA (fun _=>rfl)⟩,
  l_day_stands_:=⟨_,_,PySem.W.mg_of X G (bq (e 15)),ag (e 15),(ag (e 15)).binds (ps:=["_law_run", "_law_day_here", "_law_state"]) fun _ _ _ _ _ _=>jS (fun _ _ _=>rfl)⟩,
  l_day_right_:=⟨_,_,PySem.W.mg_of X G (bq (e 16)),ag (e 16),(ag (e 16)).binds (ps:=["_law_box"]) fun _ _ _ _ _ _=>fA (fun _=>rfl)⟩,
  law_:=⟨_,_,PySem.W.mg_of X G (bq (e 17)),ag (e 17),(ag (e 17)).binds (ps:=["_law_script"]) fun _ _ _ _ _ _=>fA (fun _=>rfl)⟩,
  f_Lacking__init:=_,d_Lacking__init:=_,F_Lacking__init:=ag (e 18),B_Lacking__init:=(ag (e 18)).binds (ps:=["self", "place"]) fun _ _ _ _ _ _=>dy (fun _ _=>rfl),
  f_Roads____init__:=_,d_Roads____init__:=_,F_Roads____init__:=ag (e 19),B_Roads____init__:=(ag (e 19)).binds (ps:=["self"]) fun _ _ _ _ _ _=>fA (fun _=>rfl),
  f_Roads__add_place:=_,d_Roads__add_place:=_,F_Roads__add_place:=ag (e 20),B_Roads__add_place:=(ag (e 20)).binds (ps:=["self", "name"]) fun _ _ _ _ _ _=>dy (fun _ _=>rfl),
  f_Roads__add_tie:=_,d_Roads__add_tie:=_,F_Roads__add_tie:=ag (e 21),B_Roads__add_tie:=(ag (e 21)).binds (ps:=["self", "begin", "end", "most", "gain", "price"]) fun _ _ _ _ _ _=>IK (fun _ _ _ _ _ _=>rfl),
  check_two_:=⟨_,_,PySem.W.mg_of X G (bq (e 22)),ag (e 22),(ag (e 22)).binds (ps:=["places", "begin", "end"]) fun _ _ _ _ _ _=>jS (fun _ _ _=>rfl)⟩,
  f_Roads__set_most:=_,d_Roads__set_most:=_,F_Roads__set_most:=ag (e 23),B_Roads__set_most:=(ag (e 23)).binds (ps:=["self", "number", "most"]) fun _ _ _ _ _ _=>jS (fun _ _ _=>rfl),
  f_Roads__set_gain:=_,d_Roads__set_gain:=_,F_Roads__set_gain:=ag (e 24),B_Roads__set_gain:=(ag (e 24)).binds (ps:=["self", "number", "gain"]) fun _ _ _ _ _ _=>jS (fun _ _ _=>rfl),
  f_Roads__set_price:=_,d_Roads__set_price:=_,F_Roads__set_price:=ag (e 25),B_Roads__set_price:=(ag (e 25)).binds (ps:=["self", "number", "price"]) fun _ _ _ _ _ _=>jS (fun _ _ _=>rfl),
  f_Roads__shut:=_,d_Roads__shut:=_,F_Roads__shut:=ag (e 26),B_Roads__shut:=(ag (e 26)).binds (ps:=["self", "number"]) fun _ _ _ _ _ _=>dy (fun _ _=>rfl),
  f_Roads__reopen:=_,d_Roads__reopen:=_,F_Roads__reopen:=ag (e 27),B_Roads__reopen:=(ag (e 27)).binds (ps:=["self", "number"]) fun _ _ _ _ _ _=>dy (fun _ _=>rfl),
  f_Roads__set_ends:=_,d_Roads__set_ends:=_,F_Roads__set_ends:=ag (e 28),B_Roads__set_ends:=(ag (e 28)).binds (ps:=["self", "begin", "end"]) fun _ _ _ _ _ _=>jS (fun _ _ _=>rfl),
  f_Roads__back:=_,d_Roads__back:=_,F_Roads__back:=ag (e 29),B_Roads__back:=(ag (e 29)).binds (ps:=["self"]) fun _ _ _ _ _ _=>fA (fun _=>rfl),
  f_Roads__net:=_,d_Roads__net:=_,F_Roads__net:=ag (e 30),B_Roads__net:=(ag (e 30)).binds (ps:=["self"]) fun _ _ _ _ _ _=>fA (fun _=>rfl),
  put_at_:=⟨_,_,PySem.W.mg_of X G (bq (e 31)),ag (e 31),(ag (e 31)).binds (ps:=["parts", "at", "part"]) fun _ _ _ _ _ _=>jS (fun _ _ _=>rfl)⟩,
  f_Roads__ends:=_,d_Roads__ends:=_,F_Roads__ends:=ag (e 32),B_Roads__ends:=(ag (e 32)).binds (ps:=["self"]) fun _ _ _ _ _ _=>fA (fun _=>rfl),
  f_Roads__is_shut:=_,d_Roads__is_shut:=_,F_Roads__is_shut:=ag (e 33),B_Roads__is_shut:=(ag (e 33)).binds (ps:=["self", "number"]) fun _ _ _ _ _ _=>dy (fun _ _=>rfl),
  check_tie_:=⟨_,_,PySem.W.mg_of X G (bq (e 34)),ag (e 34),(ag (e 34)).binds (ps:=["ties", "number"]) fun _ _ _ _ _ _=>dy (fun _ _=>rfl)⟩,
  f_Roads__deeds:=_,d_Roads__deeds:=_,F_Roads__deeds:=ag (e 35),B_Roads__deeds:=(ag (e 35)).binds (ps:=["self"]) fun _ _ _ _ _ _=>fA (fun _=>rfl),
  f_Roads__twin:=_,d_Roads__twin:=_,F_Roads__twin:=ag (e 36),B_Roads__twin:=(ag (e 36)).binds (ps:=["self"]) fun _ _ _ _ _ _=>fA (fun _=>rfl),
  f_DayRun____init__:=_,d_DayRun____init__:=_,F_DayRun____init__:=ag (e 37),B_DayRun____init__:=(ag (e 37)).binds (ps:=["self", "day"]) fun _ _ _ _ _ _=>dy (fun _ _=>rfl),
  f_DayRun__now:=_,d_DayRun__now:=_,F_DayRun__now:=ag (e 38),B_DayRun__now:=(ag (e 38)).binds (ps:=["self"]) fun _ _ _ _ _ _=>fA (fun _=>rfl),
  f_DayRun__is_open:=_,d_DayRun__is_open:=_,F_DayRun__is_open:=ag (e 39),B_DayRun__is_open:=(ag (e 39)).binds (ps:=["self", "number"]) fun _ _ _ _ _ _=>dy (fun _ _=>rfl),
  f_DayRun__shut:=_,d_DayRun__shut:=_,F_DayRun__shut:=ag (e 40),B_DayRun__shut:=(ag (e 40)).binds (ps:=["self", "number"]) fun _ _ _ _ _ _=>dy (fun _ _=>rfl),
  f_DayRun__unshut:=_,d_DayRun__unshut:=_,F_DayRun__unshut:=ag (e 41),B_DayRun__unshut:=(ag (e 41)).binds (ps:=["self", "number"]) fun _ _ _ _ _ _=>dy (fun _ _=>rfl),
  f_DayRun__pass_hour:=_,d_DayRun__pass_hour:=_,F_DayRun__pass_hour:=ag (e 42),B_DayRun__pass_hour:=(ag (e 42)).binds (ps:=["self", "sent", "kept", "drawn"]) fun _ _ _ _ _ _=>wu (fun _ _ _ _=>rfl),
  book_of_:=⟨_,_,PySem.W.mg_of X G (bq (e 43)),ag (e 43),(ag (e 43)).binds (ps:=["day", "passed"]) fun _ _ _ _ _ _=>dy (fun _ _=>rfl)⟩,
  by_hours_:=⟨_,_,PySem.W.mg_of X G (bq (e 44)),ag (e 44),(ag (e 44)).binds (ps:=["day", "passed", "part", "number"]) fun _ _ _ _ _ _=>wu (fun _ _ _ _=>rfl)⟩,
  hour_mosts_:=⟨_,_,PySem.W.mg_of X G (bq (e 45)),ag (e 45),(ag (e 45)).binds (ps:=["day", "shuts", "now"]) fun _ _ _ _ _ _=>jS (fun _ _ _=>rfl)⟩,
  may_send_:=⟨_,_,PySem.W.mg_of X G (bq (e 46)),ag (e 46),(ag (e 46)).binds (ps:=["day", "tie", "hour"]) fun _ _ _ _ _ _=>jS (fun _ _ _=>rfl)⟩,
  compared_:=⟨_,_,PySem.W.mg_of X G (bq (e 47)),ag (e 47),(ag (e 47)).binds (ps:=["one", "other"]) fun _ _ _ _ _ _=>dy (fun _ _=>rfl)⟩,
  hour_sum_:=⟨_,_,PySem.W.mg_of X G (bq (e 48)),ag (e 48),(ag (e 48)).binds (ps:=["day", "book", "place", "hour", "share"]) fun _ _ _ _ _ _=>Hd (fun _ _ _ _ _=>rfl)⟩,
  wished_in_:=⟨_,_,PySem.W.mg_of X G (bq (e 49)),ag (e 49),(ag (e 49)).binds (ps:=["day", "place", "hour"]) fun _ _ _ _ _ _=>jS (fun _ _ _=>rfl)⟩,
  sum_of_:=⟨_,_,PySem.W.mg_of X G (bq (e 50)),ag (e 50),(ag (e 50)).binds (ps:=["parts"]) fun _ _ _ _ _ _=>fA (fun _=>rfl)⟩,
  added_:=⟨_,_,PySem.W.mg_of X G (bq (e 51)),ag (e 51),(ag (e 51)).binds (ps:=["one", "other"]) fun _ _ _ _ _ _=>dy (fun _ _=>rfl)⟩,
  fraction_:=⟨_,_,PySem.W.mg_of X G (bq (e 52)),ag (e 52),(ag (e 52)).binds (ps:=["n", "d"]) fun _ _ _ _ _ _=>dy (fun _ _=>rfl)⟩,
  common_divisor_:=⟨_,_,PySem.W.mg_of X G (bq (e 53)),ag (e 53),(ag (e 53)).binds (ps:=["n", "d"]) fun _ _ _ _ _ _=>dy (fun _ _=>rfl)⟩,
  times_:=⟨_,_,PySem.W.mg_of X G (bq (e 54)),ag (e 54),(ag (e 54)).binds (ps:=["one", "other"]) fun _ _ _ _ _ _=>dy (fun _ _=>rfl)⟩,
  goes_at_:=⟨_,_,PySem.W.mg_of X G (bq (e 55)),ag (e 55),(ag (e 55)).binds (ps:=["day", "book", "place", "hour"]) fun _ _ _ _ _ _=>wu (fun _ _ _ _=>rfl)⟩,
  comes_at_:=⟨_,_,PySem.W.mg_of X G (bq (e 56)),ag (e 56),(ag (e 56)).binds (ps:=["day", "book", "place", "hour"]) fun _ _ _ _ _ _=>wu (fun _ _ _ _=>rfl)⟩,
  taken_:=⟨_,_,PySem.W.mg_of X G (bq (e 57)),ag (e 57),(ag (e 57)).binds (ps:=["one", "other"]) fun _ _ _ _ _ _=>dy (fun _ _=>rfl)⟩,
  goes_within_:=⟨_,_,PySem.W.mg_of X G (bq (e 58)),ag (e 58),(ag (e 58)).binds (ps:=["thing", "most"]) fun _ _ _ _ _ _=>dy (fun _ _=>rfl)⟩,
  is_from_nought_:=⟨_,_,PySem.W.mg_of X G (bq (e 59)),ag (e 59),(ag (e 59)).binds (ps:=["thing"]) fun _ _ _ _ _ _=>fA (fun _=>rfl)⟩,
  is_fraction_:=⟨_,_,PySem.W.mg_of X G (bq (e 60)),ag (e 60),(ag (e 60)).binds (ps:=["thing"]) fun _ _ _ _ _ _=>fA (fun _=>rfl)⟩,
  is_number_:=⟨_,_,PySem.W.mg_of X G (bq (e 61)),ag (e 61),(ag (e 61)).binds (ps:=["thing"]) fun _ _ _ _ _ _=>fA (fun _=>rfl)⟩,
  f_DayRun__back:=_,d_DayRun__back:=_,F_DayRun__back:=ag (e 62),B_DayRun__back:=(ag (e 62)).binds (ps:=["self"]) fun _ _ _ _ _ _=>fA (fun _=>rfl),
  f_DayRun__book:=_,d_DayRun__book:=_,F_DayRun__book:=ag (e 63),B_DayRun__book:=(ag (e 63)).binds (ps:=["self"]) fun _ _ _ _ _ _=>fA (fun _=>rfl),
  f_Roads__set_part:=_,d_Roads__set_part:=_,F_Roads__set_part:=ag (e 64),B_Roads__set_part:=(ag (e 64)).binds (ps:=["self", "number", "at", "part"]) fun _ _ _ _ _ _=>wu (fun _ _ _ _=>rfl),
  f_Roads__set_shut:=_,d_Roads__set_shut:=_,F_Roads__set_shut:=ag (e 65),B_Roads__set_shut:=(ag (e 65)).binds (ps:=["self", "number", "whether"]) fun _ _ _ _ _ _=>jS (fun _ _ _=>rfl),
  f_DayRun__set_closed:=_,d_DayRun__set_closed:=_,F_DayRun__set_closed:=ag (e 66),B_DayRun__set_closed:=(ag (e 66)).binds (ps:=["self", "number", "whether"]) fun _ _ _ _ _ _=>jS (fun _ _ _=>rfl),
  x_GainError:=_,m_GainError:=PySem.W.mg_of X G (gS (b 0)),k_GainError:=(b 8),xb_GainError:=(b 9),
  x_Taken:=_,m_Taken:=PySem.W.mg_of X G (gS (b 1)),k_Taken:=(b 10),q_Taken:=(b 11),
  x_NoPlace:=_,m_NoPlace:=PySem.W.mg_of X G (gS (b 2)),k_NoPlace:=(b 12),q_NoPlace:=(b 13),
  x_NoTie:=_,m_NoTie:=PySem.W.mg_of X G (gS (b 3)),k_NoTie:=(b 14),q_NoTie:=(b 15),
  x_AsItIs:=_,m_AsItIs:=PySem.W.mg_of X G (gS (b 4)),k_AsItIs:=(b 16),q_AsItIs:=(b 17),
  x_Over:=_,m_Over:=PySem.W.mg_of X G (gS (b 5)),k_Over:=(b 18),q_Over:=(b 19),
  x_TooMuch:=_,m_TooMuch:=PySem.W.mg_of X G (gS (b 6)),k_TooMuch:=(b 20),q_TooMuch:=(b 21),
  x_Lacking:=_,m_Lacking:=PySem.W.mg_of X G (gS (b 7)),k_Lacking:=(b 22),fn_Lacking:=(b 23),st_Lacking:=(b 24),fd_Lacking:=(b 25),q_Lacking:=(b 26),
  x_Roads:=_,m_Roads:=PySem.W.mg_of X G (gS (b 28)),c_Roads:=(zq (b 29)),mk_Roads:=(yF (b 30)),h_Roads__add_place:=(bp (b 31)),h_Roads__add_tie:=(bp (b 32)),h_Roads__set_most:=(bp (b 33)),h_Roads__set_gain:=(bp (b 34)),h_Roads__set_price:=(bp (b 35)),h_Roads__shut:=(bp (b 36)),h_Roads__reopen:=(bp (b 37)),h_Roads__set_ends:=(bp (b 38)),h_Roads__back:=(bp (b 39)),h_Roads__net:=(bp (b 40)),h_Roads__ends:=(bp (b 41)),h_Roads__is_shut:=(bp (b 42)),h_Roads__deeds:=(bp (b 43)),h_Roads__twin:=(bp (b 44)),h_Roads__set_part:=(bp (b 45)),h_Roads__set_shut:=(bp (b 46)),n_Roads_states:=(dz (b 47)),
  x_DayRun:=_,m_DayRun:=PySem.W.mg_of X G (gS (b 48)),c_DayRun:=(zq (b 49)),mk_DayRun:=(yF (b 50)),h_DayRun__now:=(bp (b 51)),h_DayRun__is_open:=(bp (b 52)),h_DayRun__shut:=(bp (b 53)),h_DayRun__unshut:=(bp (b 54)),h_DayRun__pass_hour:=(bp (b 55)),h_DayRun__back:=(bp (b 56)),h_DayRun__book:=(bp (b 57)),h_DayRun__set_closed:=(bp (b 58)),n_DayRun_day:=(dz (b 59)),n_DayRun_states:=(dz (b 60)),
  kin:=(b 27) },fun s u=>?_⟩
 obtain ⟨_,_,_,_,_,_,_,_,_,z,_⟩:=(ag (e 17):dC K "law" "law" ic _ _).ex
 show BindsTo s (je K (PySem.W.nsIn K mainGlobals "law")) _ _
 rw [z]
 exact .of_eq rfl
end K72
open PySem PySem.W PyProof.Rows
set_option maxRecDepth 100000 in
set_option maxHeartbeats 0 in
theorem PySem.Challenge.cw_gainroads_k72_hundreds_of_deeds_holds : PySem.Challenge.rw_gainroads_k72_hundreds_of_deeds.Holds := by
 w_on;o_law
 refine holds_openX (q:=K72.qv) (loose:=[]) (Xt:=L2.Xt) (XP:=XL K72.qv []) (Yf:=L2.Yf) (Ya:=fun _=>K72.due) (N:=9088) (L2.left_tree rfl rfl (fun _=>rfl) L2.left) (fun s e=>xl_of s (Bool.and_eq_true_iff.mp e).1) XL.keeps (by rfl) (by rfl) (by rfl) (fun s e=>recFacts_of (Bool.and_eq_true_iff.mp e).2) (by rfl) (by first | assumption | decide +kernel) (by nofun) ⟨rfl,rfl,rfl,rfl,rfl,by nofun⟩ ?hw ?hc
 case hw=>w_witness2
 refine L2.walk_ofY (obs:=K72.obs) (due:=K72.due) (l:=PySem.Challenge.rw_gainroads_k72_hundreds_of_deeds) (n:=63) (k:=40) (x := "_law_script") (CX:=L2.CX0) (sp:=K72.spLaw) rfl (by decide) rfl ⟨rfl,by decide,by decide,rfl⟩ ?F ?S ?C
 case F=>
  intro K w mg fa h y KX G hmg
  obtain ⟨T,hb⟩:=K72.txt_of y KX G
  have e0:=hmg.symm.trans T.law_.m
  cases e0
  exact ⟨T.law_.d,hb,fun base kb nb=>K72.law_ok T⟩
 case S=>exact fun K H a ns hl hO hS=>K72.law_start hl hO hS
 case C=>exact fun _ _ _ _ z=>z
